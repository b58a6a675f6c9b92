import PyProof.Rows.All
import Wide.All
import OpenK.AllK
import Wide.FinOn
import PyProof.EqAt
import PyProof.EqKinds
import PyProof.TupleCall
import KE.BitLaws
import Open.SpecLaws
import KE.OsHead
import KE.OsGo
import PySem.Challenge.RW_windowlight_s01_pane
set_option Elab.async false
set_option linter.all false
set_option maxRecDepth 100000
set_option maxHeartbeats 4000000
open PySem.W (Frag)
theorem bcn {p : Prop} (h : ¬p → False) : p := Classical.byContradiction h
theorem osi {α : Type} {a b : α} (h : some a = some b) : a = b := Option.some.inj h
theorem dqf {p : Prop} [Decidable p] (h : ¬p) : decide p = false := decide_eq_false h
theorem dqt {p : Prop} [Decidable p] (h : p) : decide p = true := decide_eq_true h
theorem nlr (n : Nat) : n ≤ n := Nat.le_refl n
theorem gsi {α : Type} {l : List α} {i : Nat} {a : α} (h : l[i]? = some a) : ∃ h : i < l.length, l[i] = a := List.getElem?_eq_some_iff.mp h
theorem gge {α : Type} {l : List α} {i : Nat} (h : i < l.length) : l[i]? = some l[i] := List.getElem?_eq_getElem h
theorem lmp {α β : Type} {l : List α} (f : α → β) : (l.map f).length = l.length := List.length_map f
open PySem renaming wpAny_bind→Fg,Shared→Fh,Addr→Fi,sizeLine→Fk,wpAny_pure→FD,starEach→FU,wpAny→FV,Program→FW,mem_of_lookup→Gf,boot_len→Gh,Spec→Gi,model→Gj,mainGlobals→Gk,compareOp→GQ,World→G0,wpAny_truthy_bool→G7,cellsFrom→G9,Stmt→Hy,wpAny_typeNameOfWhole_keyiter→HE,bootBuiltins→HL,sysModules→Ia,wpAny_passesOwn→Io,wpAny_typeNameOf_keyiter→Ir,wpAny_callSpecial?_slot→Iz,wpAny_call_entry→IB,backTo→II,wpAny_Call_Name_kw→IK,keywordEach→IL,wpAny_loadPart'→IM,wpAny_mono→IY,behindInMarks→IZ,eval→Jd,FuncData→Jg,compEnvC→Jh
open List renaming mem_cons_of_mem→Fj,length_append→Fm,mem_cons→Fp,size_toArray→Fu,getElem?_map→FA,mem_cons_self→FB,getElem?_append_right→FE,getD_eq_getElem?_getD→FG,map_cons→FH,range→FJ,getElem?_append_left→FL,getElem_of_mem→FO,map_append→FP,mem_append→FR,getElem_mem→FS,length_cons→FT,mem_filter→FX,pairwise_iff_getElem→FY,length_drop→FZ,mem_map→Gc,mem_of_getElem?→Gg,dropLast_concat_getLast→Gq,length_take→Gr,pairwise_cons→Gv,all_eq_true→Gx,pairwise_append→GE,length_range→GI,mem_range→GJ,mem_of_mem_take→GO,take_of_length_le→GP,mem_append_right→GS,append_nil→GT,nodup_cons→GU,map_congr_left→G6,length_eq_zero_iff→Hk,nil_append→Hl,take_length→Ho,mem_take_iff_getElem→Hs,drop_eq_getElem_cons→Ht,zip_cons_cons→HA,lookup_cons→HD,getLast_mem→HG,any_eq_true→HH,getElem?_set_ne→HI,mem_of_mem_drop→HJ,replicate→HM,find?_cons→HQ,getElem?_range→HR,idxOf_lt_length_of_mem→HS,foldl_cons→HU,length_zip→HV,drop_eq_nil_of_le→HY,length_replicate→Ic,map_take→Ie,mem_iff_getElem?→Ig,find?_eq_none→Ij,contains_iff_mem→Ik,eq_nil_or_concat→Il,length_filter_le→Im,any_eq_false→Ip,length_nil→Iq,getElem_drop→Iv,find?_eq_some_iff_getElem→Ix,getElem_zip→ID,getElem?_set_self→IG,mem_filterMap→IJ,range_succ→IP,concat_eq_append→IQ,map_drop→Jb,cons_append→Ji,mem_flatMap→Jj,lookup→Jl
open Bool renaming and_eq_true→Fn,false_ne_true→Fy,eq_iff_iff→Ge,false_and→Go,false_xor→GB,noConfusion→GF,true_and→GK,and_eq_true_iff→GN,xor_false→GZ,or_eq_true→Hw,xor_comm→Ih,xor_self→IA,true_or→Jr
open Int renaming mul_nonneg→Fo,mul_pos→Fw,toNat_natCast→GG,toNat→G4,mul_comm→Hg,mul_eq_zero→Hx,le_of_lt→Ii
open PySem.Heap renaming get?_push_of_some→Ft,lt_size→Fv,get?_push_size→FK,size_push→GM,get?_update_other→Hq,get?_update_self→Hv
open PySem.PassesOwn renaming never→FC
open Nat renaming lt_of_lt_of_le→FF,min_eq_right→FM,min_eq_left→FN,ne_of_lt→Ga,le_trans→Gb,lt_of_le_of_lt→Gn,lt_or_gt_of_ne→Gs,max_eq_right→Gu,zero_le→Gw,not_lt_zero→Gy,max_eq_left→GV,sub_self→GX,le_add_right→GY,zero_add→Hf,lt_irrefl→Hj,ne_of_gt→Hu,add_le_add_left→HX,le_of_lt→Iw,lt_succ_of_lt→Ja
open Ne renaming symm→FQ
open PySem.Value renaming ref→Gd,none→IX
open PyProof.Rows renaming callWith_type1→Gm,IntsAre→IH
open PySem.PyData renaming int→Gp,tuple→IR,canLayAll0→Jc
open PySem.F renaming plainAttrs_list→Gz,slot_list_append→HB,type_list_append→HC,slot_enumerate_next→IS,plain_extend_loop→Jn
open Or renaming inr→GA,inl→G3
open PySem.W renaming Frag→GC,emptyDict→G8,findIn→Hh,keepIn→Hr,fnOf→HN,instObj→HP,codeIn→Je
open Gla renaming firstBad→GD,lineBelow→GL,turn→G2,markBelow→Hn,markOk→Ib,parts→IE,touches→IT,seenFrom→IU,insideOf→IV,Mark→Jk,frameOk→Jo,noneSeen→Js
open Array renaming getElem?_setIfInBounds_ne→GH,getD_eq_getD_getElem?→GW,toList_setIfInBounds→HZ,length_toList→Iy,getElem?_eq_getElem→Jf
open False renaming elim→G1
open Prod.mk renaming inj→Hm
open PySem.Obj renaming mapSeq→Hz
open PySem.Builtin.Range renaming rangeSize→HK
open PySem.Builtin.List renaming listExtendWith→HW,listTooLong→Jq
open List.Pairwise renaming imp_of_mem→Iu
open LightNeutral renaming nat→IC
open Classical renaming choose_spec→IW
open PySem.Builtin.SmallTypes renaming ownedTupleIsFree→Jm
open PySem.W.Codec renaming inInt→Jp
def Ff:=@of_decide_eq_true
def Fl:=@if_neg
def Fq:=@decide_eq_true_eq
def Fs:=@if_pos
def Fz:=@decide_eq_decide
def GR:=@beq_eq_false_iff_ne
def G5:=@congrArg
def IF:=@beq_iff_eq
def IN:=@decide_false
def I0:=@if_false
namespace L2
open PySem PySem.Spec PyProof.Rows
def jh (s:Hy)(j:Nat):Hy:=match s with
 |.ClassDef _ _ _ body _ _ _ _ _ _ _=>body.getD j (.Pass ⟨0,0,0,0⟩)
 |_=>.Pass ⟨0,0,0,0⟩
def cY (s:Hy):Arguments:=match s with
 |.FunctionDef _ a _ _ _ _ _ _ _ _=>a
 |_=>{ posonlyargs:=[],args:=[],vararg:=none,kwonlyargs:=[],kw_defaults:=[],kwarg:=none,defaults:=[] }
def bU (s:Hy):List Hy:=match s with
 |.FunctionDef _ _ b _ _ _ _ _ _ _=>b
 |_=>[]
def ah (s:Hy):Scope:=match s with
 |.FunctionDef _ _ _ _ _ _ sc _ _ _=>sc
 |_=>{ kind:=.function,names:=[],isGenerator:=false,isCoroutine:=false }
end L2
namespace CM
open PySem PySem.Spec
def jx:List Int:=[71,76,65,49]
def eR:List (List Int):=[[4,4,16,1048575],[8,4,16,1048575],[12,2,4,4096],[14,2,4,8192],[16,2,1,2048],[18,2,0,0]]
end CM
namespace Hd
open PySem PySem.W PyProof.Rows L2
def nw (h:Heap):GC:=(FJ h.objs.size).filterMap λa=>(h.get? a).map λo=>(a,o)
abbrev FI:=Arguments×FuncBody×Scope×Str×Str×Fi×List (Str×Fi)×Value×Fi×Bool
def mh (K:GC)(f:Fi):Option FI:=match K.lookup f with
 |some ⟨_,_,.func fd,_⟩=>some (fd.params,fd.body,fd.scope,fd.name,fd.qualname,fd.globals,fd.closure,fd.defaults,fd.builtins,codeIn K fd.code fd.qualname)
 |_=>none
def qR (n q:Str)(st:Hy):FI:=(cY st,.stmts (bU st),ah st,n,q,Gk,[],.none,builtinsNs,true)
def ju (K:GC)(x:Str):Option Fi:=match nsIn K Gk x with
 |some (some (.ref f))=>some f
 |_=>none
def yo (K:GC)(x:Str):Option FI:=(ju K x).bind (mh K)
def wC (K:GC)(x:Str):Option Int:=match nsIn K Gk x with
 |some (some (.int i _))=>some i
 |_=>none
def Aj (K:GC)(C:Fi)(m:Str):Option (Bool×Option FI):=match findIn K (.ref C) m with
 |some (some (.ref f))=>some (isFn K (.ref f),mh K f)
 |_=>none
abbrev CI:=List Bool×List (Option (Option Value))×List (Option (Bool×Option FI))
def xU (K:GC)(c:Str)(fields:List Str)(ms:List (Str×Str×Hy)):Option CI:=(ju K c).map λC =>
 ([plainGet K C Str.empty,hasDictIn K C,plainOver K C,makesIn K C,keepIn K (.ref C)],findIn K (.ref C) "__setattr__" :: fields.map (findIn K (.ref C)),ms.map λm=>Aj K C m.1)
def A5 (fields:List Str)(ms:List (Str×Str×Hy)):CI:=([true,true,true,true,true],some (some (.builtin "object.__setattr__")) :: fields.map (λ_=>some none),ms.map λm=>some (true,some (qR m.1 m.2.1 m.2.2)))
def ij (K:GC)(p:Fi):Option (Value×List Value):=match K.lookup p with
 |some ⟨c,_,.seq its _,_⟩=>some (c,its.toList)
 |_=>none
def Df:Value->Option Int
 |.int i _=>some i
 |_=>none
def mY (K:GC)(p:Fi):Option (Value×List (Option Int)):=(ij K p).map λx=>(x.1,x.2.map Df)
def xX (K:GC)(x:Str):Option (Value×List (Option Int)):=(ju K x).bind (mY K)
def Bs (K:GC):Value->Option (Value×List (Option Int))
 |.ref b=>mY K b
 |_=>none
def sY (K:GC)(x:Str):Option (Value×List (Option (Value×List (Option Int)))):=(ju K x).bind λp=>(ij K p).map λy=>(y.1,y.2.map (Bs K))
def pL (r:List Int):Value×List (Option Int):=(.type "tuple",r.map some)
noncomputable def qE (p:FW) (N:Nat) (w:G0) (os:OsState):Option Fh:=PySem.W.Fast.tw14082659384304107361 PySem.W.Fast.tw14364793385576792824 p w (boot_heap w.params).objs.size ((boot_heap w.params).nsMap Gk "__annotations__") N ⟨boot_heap w.params,Array.mk [],boot_drawn,boot_toks,os⟩ (topStub p)
noncomputable def yl (p:FW) (w:G0) (s:Fh):Bool:=staticsOk (importedModules p.main.body) (boot_heap w.params) s.heap&&namesBound p s.heap&&gensDone s&&laidKept (boot_heap w.params) s.heap
noncomputable def lB (p q:FW) (s:Fh):=PySem.W.Fast.tw4187177175401517315 q [] (importedModules p.main.body) (λs=>xlAt q [] s&&recOk [] s) true s
end Hd
namespace Wl
open PySem PySem.W PyProof.Rows L2 Hd
def top (i:Nat):Hy:=PySem.Challenge.pw_windowlight_s01_pane.main.body.getD i (.Pass ⟨0,0,0,0⟩)
abbrev gD:Hy:=top 7
abbrev gf:Hy:=top 8
abbrev eK:Hy:=top 9
abbrev dF:Hy:=top 10
abbrev fg:Hy:=top 11
abbrev gg:Hy:=top 12
abbrev fZ:Hy:=top 13
abbrev bP:Hy:=top 14
abbrev qo:Hy:=top 16
abbrev ek:Hy:=top 17
abbrev fY:Hy:=top 18
abbrev l6:Hy:=top 19
abbrev fc:Hy:=top 20
abbrev gW:Hy:=top 21
abbrev fj:Hy:=top 22
abbrev dw:Hy:=top 23
abbrev gh:Hy:=top 24
abbrev cZ:Hy:=top 26
abbrev dE:Hy:=top 27
abbrev bT:Hy:=top 28
abbrev ba:Hy:=top 29
abbrev cW:Hy:=top 30
abbrev b7:Hy:=top 31
abbrev bY:Hy:=top 32
abbrev cF:Hy:=top 33
abbrev df:Hy:=top 34
abbrev dU:Hy:=top 35
abbrev dW:Hy:=top 36
abbrev cv:Hy:=top 37
abbrev cP:Hy:=top 38
abbrev cX:Hy:=top 39
abbrev dt:Hy:=top 40
abbrev cu:Hy:=top 41
abbrev dz:Hy:=top 43
abbrev du:Hy:=top 44
abbrev fB:Hy:=top 45
abbrev eS:Hy:=top 46
abbrev dP:Hy:=top 47
abbrev vv:Hy:=top 49
abbrev gd:Hy:=top 50
abbrev cJ:Hy:=top 51
abbrev lU:Hy:=top 52
abbrev fu:Hy:=top 56
abbrev gT:Hy:=top 57
abbrev fk:Hy:=top 58
abbrev cS:Hy:=top 59
abbrev gX:Hy:=top 60
abbrev cI:Hy:=top 61
abbrev bp:Hy:=top 63
abbrev eZ:Hy:=top 64
abbrev fh:Hy:=top 65
abbrev cU:Hy:=top 69
abbrev cT:Hy:=top 70
abbrev b5:Hy:=top 71
abbrev cE:Hy:=top 72
abbrev fz:Hy:=top 73
abbrev qj:Hy:=top 74
abbrev g9:Hy:=jh gD 0
abbrev ki:Hy:=jh gD 1
abbrev j9:Hy:=jh gD 2
abbrev kj:Hy:=jh gD 3
abbrev jR:Hy:=jh gD 4
abbrev jk:Hy:=jh vv 0
def qv:FW:={ PySem.Challenge.pw_windowlight_s01_pane with main:={ PySem.Challenge.pw_windowlight_s01_pane.main with body:=([1,2,3,4,5,6,7,8,9,10,11,12,13,14,16,17,18,19,20,21,22,23,24,26,27,28,29,30,31,32,33,34,35,36,37,38,39,40,41,43,44,45,46,47,49,50,51,52,54,55,56,57,58,59,60,61,63,64,65,67,68,69,70,71,72,73,74]:List Nat).map top } }
def EL:List (Str×Hy):=[("number_at",gf),("told_length",eK),("fault_of_bytes",dF),("read_point",fg),("read_line",gg),("read_mark",fZ),("read_drawing",bP),("turn",qo),("comes_behind",ek),("is_in_box",fY),("is_on",l6),("are_parted",fc),("do_cross",gW),("twice_area",fj),("is_left_beside",dw),("is_inside",gh),("fault_of_points",cZ),("fault_of_lines",dE),("are_joined_in_a_row",bT),("fault_of_frame",ba),("has_point_on_it",cW),("crosses_one_before",b7),("fault_of_crossings",bY),("neighbours_of",cF)]
def EI:List (Str×Hy):=[("reached_from",df),("fault_of_ends",dU),("fault_of_ways",dW),("fault_of_narrows",cv),("is_within_frame",cP),("is_on_some_line",cX),("fault_of_marks",dt),("fault_of_drawing",cu),("sorted_by_turn",dz),("ring_round",du),("walk_round",fB),("points_at",eS),("outlines_of",dP),("holder_of",gd),("judge_marks",cJ),("judge",lU),("are_within",fu),("is_light",gT),("are_lights",fk),("how_many_lights",cS),("light_at",gX),("light_through",cI),("first_mark_without_light",bp),("pane_light",eZ)]
def E8:List (Str×Hy):=[("seen_light",fh),("refusal_of_shop",cU),("refusal_of_rows",cT),("refusal_of_cartoon",b5),("refusal_of_marks",cE),("row_answer",fz),("pane",qj)]
def dfs:List (Str×Hy):=EL++EI++E8
def nms:List (Str×Int):=[("HEAD_BYTES",20),("POINT_BYTES",8),("LINE_BYTES",4),("MARK_BYTES",12),("MOST_LIGHTS",256),("MOST_BYTES",131072),("BANDS",32),("FULL",65535)]
def nns:List Str:=["len","range","enumerate","list","reversed","min","max","zip"]
def cls:List (Str×List Str×List (Str×Str×Hy)):=[("Drawing",["width","height","points","lines","marks"],[("__init__","Drawing.__init__",g9),("place_of_point","Drawing.place_of_point",ki),("place_of_line","Drawing.place_of_line",j9),("place_of_mark","Drawing.place_of_mark",kj),("place_of_end","Drawing.place_of_end",jR)]),("Verdict",["fault","drawing","outlines"],[("__init__","Verdict.__init__",jk)])]
def fx (K:GC):=(dfs.map (λd=>yo K d.1),nms.map (λd=>wC K d.1),nns.map (nsIn K Gk),cls.map (λc=>xU K c.1 c.2.1 c.2.2),xX K "SIGN",sY K "HEAD_NUMBERS")
def ax:=(dfs.map (λd=>some (qR d.1 d.1 d.2)),nms.map (λd=>some d.2),nns.map (λ_=>(some none:Option (Option Value))),cls.map (λc=>some (A5 c.2.1 c.2.2)),some (pL CM.jx),some ((.type "tuple" : Value),CM.eR.map λr=>some (pL r)))
theorem k1:∀w os,(qE PySem.Challenge.pw_windowlight_s01_pane 5080 w os).map (λs=>(yl PySem.Challenge.pw_windowlight_s01_pane w s,(lB PySem.Challenge.pw_windowlight_s01_pane qv s).1))=some (true,(openGood qv []).1):=λw os=>by kernel_rfl
theorem k0:∀w os,(qE PySem.Challenge.pw_windowlight_s01_pane 5080 w os).map (λs=>((lB PySem.Challenge.pw_windowlight_s01_pane qv s).2.1,(lB PySem.Challenge.pw_windowlight_s01_pane qv s).2.2.1))=some ((openGood qv []).2.1,(openGood qv []).2.2.1):=λw os=>by kernel_rfl
theorem k2:∀w os,(qE PySem.Challenge.pw_windowlight_s01_pane 5080 w os).map (λs=>(lB PySem.Challenge.pw_windowlight_s01_pane qv s).2.2.2)=some (openGood qv []).2.2.2:=λw os=>by kernel_rfl
theorem k3:∀w os,(qE PySem.Challenge.pw_windowlight_s01_pane 5080 w os).map (λs=>fx (nw s.heap))=some ax:=λw os=>by kernel_rfl
end Wl
namespace L2
open PySem PySem.Spec PyProof.Rows
abbrev Key:=Sum Int Str
def lA:Key->Value->Bool
 |.inl k,v=>Value.isInt k v
 |.inr x,v=>Value.isStrOf x v
def EC (w:G0):Key->Int
 |.inl k=>hashInt k
 |.inr x=>hashStr w x
theorem bO:∀{k:Key} {v:Value},lA k v=true->(∃i t,k=Sum.inl i/\v=Value.int i t)\/(∃x t,k=Sum.inr x/\v=Value.str x t)
 |.inl i,v,h=>by
  obtain⟨t,e⟩:=Value.isInt_shape (k:=i) (v:=v) h
  exact .inl ⟨i,t,rfl,e⟩
 |.inr x,v,h=>by
  obtain⟨t,e⟩:=Value.isStrOf_shape (x:=x) (v:=v) h
  exact .inr ⟨x,t,rfl,e⟩
theorem u4 (i:Int)(t:Tok):lA (.inl i) (.int i t)=true:=by simp[lA,Value.isInt]
theorem vn (x:Str)(t:Tok):lA (.inr x) (.str x t)=true:=by simp[lA,Value.isStrOf]
theorem BN (a b:Int):decide ((Sum.inl a:Key)=Sum.inl b)=(a==b):=by
 by_cases e:a=b
 ·subst e;simp
 ·have h:¬(Sum.inl a:Key)=Sum.inl b:=λq=>e (Sum.inl.inj q)
  rw[dqf h]
  exact(GR.mpr e).symm
theorem BC (a b:Str):decide ((Sum.inr a:Key)=Sum.inr b)=decide (a=b):=by
 by_cases e:a=b
 ·subst e;simp
 ·have h:¬(Sum.inr a:Key)=Sum.inr b:=λq=>e (Sum.inr.inj q)
  rw[dqf h,dqf e]
theorem Bh (a:Int)(b:Str):decide ((Sum.inl a:Key)=Sum.inr b)=false:=dqf (λq=>nomatch q)
theorem BP (a:Str)(b:Int):decide ((Sum.inr a:Key)=Sum.inl b)=false:=dqf (λq=>nomatch q)
def cV (prog:FW)(w:G0):PySem.KeyKind prog w Key where
 is:=lA
 hash:=EC w
 inj:=λv a b ha hb=>by
  rcases bO ha with⟨i,t,rfl,rfl⟩|⟨x,t,rfl,rfl⟩
  ·rcases bO hb with⟨j,u,rfl,e⟩|⟨y,u,rfl,e⟩
   ·injection e with e1 _;rw[e1]
   ·exact nomatch e
  ·rcases bO hb with⟨j,u,rfl,e⟩|⟨y,u,rfl,e⟩
   ·exact nomatch e
   ·injection e with e1 _;rw[e1]
 byValue:=λk v h=>by
  rcases bO h with⟨i,t,rfl,rfl⟩|⟨x,t,rfl,rfl⟩<;>rfl
 pyHash:=λhv h=>by
  rcases bO hv with⟨i,t,rfl,rfl⟩|⟨x,t,rfl,rfl⟩
  ·exact wpAny_pyHash_int h
  ·exact wpAny_pyHash_str h
 eqBool:=λhu hv h=>by
  rcases bO hu with⟨i,t,rfl,rfl⟩|⟨x,t,rfl,rfl⟩
  ·rcases bO hv with⟨j,u,rfl,rfl⟩|⟨y,u,rfl,rfl⟩
   ·rw[BN]at h;exact wpAny_eqBool_int h
   ·rw[Bh]at h;exact SeqAt.EqAt.int_str i t y u _ _ _ _ h
  ·rcases bO hv with⟨j,u,rfl,rfl⟩|⟨y,u,rfl,rfl⟩
   ·rw[BP]at h;exact SeqAt.EqAt.str_int x t j u _ _ _ _ h
   ·rw[BC]at h;exact wpAny_eqBool_str h
 «strs»:=λk x t v h=>by
  rcases bO h with⟨i,u,rfl,e⟩|⟨y,u,rfl,e⟩
  ·exact nomatch e
  ·injection e with e1 _
   subst e1
   cases v<;>rfl
theorem re (prog:FW)(w:G0)(i:Int)(t:Tok):(cV prog w).is (.inl i) (.int i t)=true:=u4 i t
theorem rk (prog:FW)(w:G0)(x:Str)(t:Tok):(cV prog w).is (.inr x) (.str x t)=true:=vn x t
end L2
namespace L2
open PySem PySem.Spec PyProof.Rows
inductive V where
 |non|bl (b:Bool)|int (i:Int)|str (x:Str)|byt (b:Array UInt8)|flt (b:UInt64)|ref (a:Fi)|ty (n:String)
 deriving DecidableEq
def aZ:V->Value->Prop
 |.non,u=>u=IX
 |.bl b,u=>u=Value.bool b
 |.int i,u=>∃t,u=Value.int i t
 |.str x,u=>∃t,u=Value.str x t
 |.byt b,u=>∃t,u=Value.bytes b t
 |.flt b,u=>∃t,u=Value.float b t
 |.ref a,u=>u=Gd a
 |.ty n,u=>u=Value.type n
abbrev aR:List V->List Value->Prop:=Paired aZ
theorem aR.length {xs:List V}{us:List Value}(r:aR xs us):xs.length=us.length:=Paired.length r
theorem aR.get:∀{xs:List V} {us:List Value} {i:Nat} {x:V},aR xs us->xs[i]? = some x->∃u,us[i]? = some u/\aZ x u
 |_,_,_,_,.nil,e=>by simp at e
 |_,_,0,_,.cons r _,e=>by simp at e;subst e;exact⟨_,rfl,r⟩
 |_,_,i+1,x,.cons _ t,e=>by
  obtain⟨u,h1,h2⟩:=aR.get (i:=i) (x:=x) t (by simpa using e)
  exact⟨u,by simpa using h1,h2⟩
theorem aR.set {x:V}{u:Value}(r:aZ x u):∀{xs:List V} {us:List Value} (i:Nat),aR xs us->aR (xs.set i x) (us.set i u)
 |_,_,_,.nil=>.nil
 |_,_,0,.cons _ t=>.cons r t
 |_,_,i+1,.cons q t=>.cons q (aR.set r i t)
theorem aR.append:∀{xs ys:List V} {us ws:List Value},aR xs us->aR ys ws->aR (xs++ys) (us++ws)
 |_,_,_,_,.nil,s=>s
 |_,_,_,_,.cons r t,s=>.cons r (aR.append t s)
theorem aR.take:∀{xs:List V} {us:List Value} (n:Nat),aR xs us->aR (xs.take n) (us.take n)
 |_,_,0,_=>.nil
 |_,_,_+1,.nil=>.nil
 |_,_,n+1,.cons r t=>.cons r (aR.take n t)
theorem aR.drop:∀{xs:List V} {us:List Value} (n:Nat),aR xs us->aR (xs.drop n) (us.drop n)
 |_,_,0,r=>r
 |_,_,_+1,.nil=>.nil
 |_,_,n+1,.cons _ t=>aR.drop n t
def jV:Option V->Option Value->Prop
 |some v,some u=>aZ v u
 |none,none=>True
 |_,_=>False
def KV {κ:Type}:List (κ×V)->List (κ×Value)->Prop:=Paired λ(p:κ×V) (q:κ×Value)=>p.1=q.1/\aZ p.2 q.2
def kV:Key->V
 |.inl i=>.int i
 |.inr x=>.str x
inductive HO where
 |lst (xs:List V)
 |tup (xs:List V)
 |dK (kvs:List (Key×V))|dT (kvs:List (List Key×V))
 |set (S:Int->Bool) (n:Nat)
 |ins (C dx:Fi) (fs:List (Str×V))
 |own (x:Fi)
 |xd (fs:List (Str×V))
 |met (f x:Fi)
 |rng (lo hi:Int)
 |frz (o:Obj) (u:HO)
 |tbl (ps:Array Value)
 |ext (φ:Heap->Prop)
abbrev Hp:=Fi->Option HO
def upd (H:Hp)(a:Fi)(o:HO):Hp:=λb=>if b=a then some o else H b
theorem ag {H:Hp}{a:Fi}{o:HO}:upd H a o a=some o:=by unfold upd;rw[Fs rfl]
theorem aq {H:Hp}{a b:Fi}{o:HO}(h:b≠a):upd H a o b=H b:=by unfold upd;rw[Fl h]
theorem ud {H:Hp}{a:Fi}{o u:HO}:upd (upd H a o) a u=upd H a u:=by
 funext b;unfold upd;split<;>rfl
theorem Cq {H:Hp}{a b:Fi}{o u:HO}(h:H a=some o)(h':H b=some u)(d:o≠u):a≠b:=by
 intro e;subst e;rw[h]at h';exact d (osi h')
theorem aO {H:Hp}{a b:Fi}{o:HO}(h:H a=some o)(h':H b=none):a≠b:=by
 intro e;subst e;rw[h]at h';cases h'
section
variable  (P:FW)(w:G0)
def b6 (H:Hp)(h:Heap)(a:Fi):HO->Prop
 |.lst xs=>xs.length<=Fk/\∃(its:List Value) (n:Nat),aR xs its/\h.get? a=some { cls:=.type "list",data:=.seq its.toArray n }
 |.tup xs=>xs.length<=Fk/\∃its:List Value,aR xs its/\IsTup h a its.toArray
 |.dK kvs=>kvs.length<=Fk/\(a==Ia)=false/\∃vs,KV kvs vs/\h.DictOf (cV P w) a vs
 |.dT kvs=>kvs.length<=Fk/\(a==Ia)=false/\∃xs:List (List Key×Fi×Value),
   Paired (λ(p:List Key×V) (q:List Key×Fi×Value)=>p.1=q.1/\H q.2.1=some (.tup (p.1.map kV))/\aZ p.2 q.2.2) kvs xs /\
   ∃o es ep,h.get? a=some o/\o.ExactDict/\o.data=.dict es ep/\es.toList=xs.map (entryOfKey (tupleKind (cV P w)))/\(xs.map (·.1)).Nodup
 |.set S n=>h.SetOf (intKind P w) a S n
 |.ins C dx fs=>H dx=some (.own a)/\fs.length<=1000/\dx≠a/\h.get? a=some (HP C dx) /\
   ∃mA,h.Ns1 dx mA/\(∀f,jV (fs.lookup f) (mA f))/\PySem.Within mA (fs.map (·.1))
 |.own _=>∃o,h.get? a=some o
 |.xd fs=>∃mA,h.Ns1 a mA/\∀f,jV (fs.lookup f) (mA f)
 |.rng lo hi=>∃t u v,h.get? a=some { cls:=.type "range",data:=.fields #[.int lo t,.int hi u,.int 1 v] }
 |.frz o u=>h.get? a=some o/\b6 H h a u
 |.tbl ps=>h.get? a=some { cls:=.none,data:=.fields ps }
 |.met f x=>h.get? a=some (PySem.W.methodObj (.ref f) (.ref x))
 |.ext φ=>φ h/\(∃o,h.get? a=some o)/\∀h1 h2:Heap,φ h1->(∀o,h1.get? a=some o->h2.get? a=some o)->φ h2
def HOk (H:Hp)(h:Heap):Prop:=∀a o,H a=some o->b6 P w H h a o
end
section
variable  {P:FW}{w:G0}{H H':Hp}{h h':Heap}{a:Fi}{o:HO}
theorem b6.lt (x:b6 P w H h a o):a<h.objs.size:=by
 cases o with
 |lst xs=>obtain⟨_,_,_,_,e⟩:=x;exact Fv e
 |tup xs=>obtain⟨_,_,_,p⟩:=x;exact p.lt
 |dK kvs=>obtain⟨_,_,_,_,o,_,_,e,_⟩:=x;exact Fv e
 |dT kvs=>obtain⟨_,_,_,_,o,_,_,e,_⟩:=x;exact Fv e
 |set S n=>obtain⟨o,_,_,_,e,_⟩:=x;exact Fv e
 |ins C dx fs=>obtain⟨_,_,_,e,_⟩:=x;exact Fv e
 |own y=>obtain⟨_,e⟩:=x;exact Fv e
 |xd fs=>obtain⟨_,⟨_,_,_,e,_⟩,_⟩:=x;exact Fv e
 |rng lo hi=>obtain⟨_,_,_,e⟩:=x;exact Fv e
 |frz ob u=>obtain⟨e,_⟩:=x;exact Fv e
 |tbl ps=>exact Fv (show h.get? a=some _ from x)
 |met f y=>exact Fv (show h.get? a=some _ from x)
 |ext φ=>obtain⟨_,⟨_,e⟩,_⟩:=x;exact Fv e
theorem Paired.mapP {α β:Type}{F G:α->β->Prop}:∀{l₁:List α} {l₂:List β},Paired F l₁ l₂->(∀a b,F a b->G a b)->Paired G l₁ l₂
 |_,_,.nil,_=>.nil
 |_,_,.cons r t,f=>.cons (f _ _ r) (Paired.mapP t f)
theorem b6.stay (x:b6 P w H h a o)(k:∀b u,(b=a\/H b=some (.own a))->h.get? b=some u->h'.get? b=some u)
  (ho:∀b,H b=some (.own a)->H' b=some (.own a)) (ht:∀b xs,H b=some (.tup xs)->H' b=some (.tup xs)):b6 P w H' h' a o:=by
 induction o with
 |lst xs=>obtain⟨z,its,n,r,e⟩:=x;exact⟨z,its,n,r,k _ _ (.inl rfl) e⟩
 |tup xs=>obtain⟨z,its,r,ob,e,c⟩:=x;exact⟨z,its,r,ob,k _ _ (.inl rfl) e,c⟩
 |dK kvs=>obtain⟨z,y,vs,r,ob,es,ep,e,c⟩:=x;exact⟨z,y,vs,r,ob,es,ep,k _ _ (.inl rfl) e,c⟩
 |dT kvs =>
  obtain⟨z,y,xs,r,ob,es,ep,e,c⟩:=x
  exact⟨z,y,xs,Paired.mapP r λp q z=>⟨z.1,ht _ _ z.2.1,z.2.2⟩,ob,es,ep,k _ _ (.inl rfl) e,c⟩
 |set S n=>obtain⟨ob,es,ep,t,e,c⟩:=x;exact⟨ob,es,ep,t,k _ _ (.inl rfl) e,c⟩
 |ins C dx fs =>
  obtain⟨d,z,ne,e,mA,⟨od,es,ep,e2,c⟩,r⟩:=x
  exact⟨ho _ d,z,ne,k _ _ (.inl rfl) e,mA,⟨od,es,ep,k _ _ (.inr d) e2,c⟩,r⟩
 |own y=>obtain⟨ob,e⟩:=x;exact⟨ob,k _ _ (.inl rfl) e⟩
 |xd fs=>obtain⟨mA,⟨od,es,ep,e,c⟩,r⟩:=x;exact⟨mA,⟨od,es,ep,k _ _ (.inl rfl) e,c⟩,r⟩
 |rng lo hi=>obtain⟨t,u,v,e⟩:=x;exact⟨t,u,v,k _ _ (.inl rfl) e⟩
 |frz ob u ih=>obtain⟨e,q⟩:=x;exact⟨k _ _ (.inl rfl) e,ih q⟩
 |tbl ps =>
  have e:h.get? a=some { cls:=.none,data:=.fields ps }:=x
  show h'.get? a=some { cls:=.none,data:=.fields ps }
  exact k a _ (.inl rfl) e
 |met f y =>
  have e:h.get? a=some (PySem.W.methodObj (.ref f) (.ref y)):=x
  show h'.get? a=some (PySem.W.methodObj (.ref f) (.ref y))
  exact k a _ (.inl rfl) e
 |ext φ=>obtain⟨p,⟨o,e⟩,st⟩:=x;exact⟨st _ _ p λo q=>k _ _ (.inl rfl) q,⟨o,k _ _ (.inl rfl) e⟩,st⟩
theorem HOk.lt (x:HOk P w H h)(e:H a=some o):a<h.objs.size:=(x a o e).lt
theorem HOk.fresh (x:HOk P w H h)(e:h.objs.size<=a):H a=none:=by
 cases q:H a with
 |none=>rfl
 |some u=>exact absurd (FF (x.lt q) e) (Hj _)
theorem HOk.kept (x:HOk P w H h)(k:∀b u,h.get? b=some u->h'.get? b=some u):HOk P w H h':=λa o e =>
 (x a o e).stay (λb u _ q=>k b u q) (λ_ q=>q) λ_ _ q=>q
theorem HOk.laid (x:HOk P w H h)(k:∀b u,h.get? b=some u->h'.get? b=some u)(hp:h.objs.size<=a)(new:b6 P w (upd H a o) h' a o):HOk P w (upd H a o) h':=λb u e=>by
 have hn:=x.fresh hp
 by_cases hb:b=a
 ·subst hb;rw[ag]at e;cases e;exact new
 ·rw[aq hb]at e
  exact(x b u e).stay (λc v _ q=>k c v q) (λc q=>by rw[aq (aO q hn)];exact q) λc xs q=>by rw[aq (aO q hn)];exact q
end
def Rd (H:Hp)(a:Fi)(u:HO):Prop:=H a=some u\/∃o,H a=some (.frz o u)
theorem Rd.ok {P:FW}{w:G0}{H:Hp}{h:Heap}{a:Fi}{u:HO}(r:Rd H a u)(x:HOk P w H h):b6 P w H h a u:=by
 rcases r with r|⟨o,r⟩
 ·exact x a u r
 ·obtain⟨_,q⟩:=x a _ r
  exact q
def Mut:Option HO->Prop
 |some (.lst _)=>True
 |some (.dK _)=>True
 |some (.dT _)=>True
 |some (.set _ _)=>True
 |some (.ins _ _ _)=>True
 |some (.ext _)=>True
 |_=>False
section
variable  {P:FW}{w:G0}{H:Hp}{h h':Heap}{x e:Fi}{o':HO}
theorem HOk.write (ok:HOk P w H h)(mu:Mut (H x))(he:e=x\/H e=some (.own x))(k:∀b u,b≠e->h.get? b=some u->h'.get? b=some u)(heo:∃u,h'.get? e=some u)
  (new:b6 P w (upd H x o') h' x o'):HOk P w (upd H x o') h':=λb u q=>by
 have nown:∀c y,H c=some (.own y)->c≠x:=λc y r z=>by subst z;rw[r]at mu;exact mu
 have ntup:∀c xs,H c=some (.tup xs)->c≠x:=λc xs r z=>by subst z;rw[r]at mu;exact mu
 by_cases hb:b=x
 ·subst hb;rw[ag]at q;cases q;exact new
 ·rw[aq hb]at q
  by_cases hbe:b=e
  ·have q':H b=some (.own x):=by
    rcases he with z|z
    ·exact absurd (hbe.trans z) hb
    ·rw[hbe];exact z
   rw[q]at q';cases q'
   obtain⟨v,hv⟩:=heo
   exact⟨v,by rw[hbe];exact hv⟩
  ·refine(ok b u q).stay (λc v hc r=>k c v ?_ r) (λc r=>by rw[aq (nown c b r)];exact r) λc xs r=>by rw[aq (ntup c xs r)];exact r
   rcases hc with rfl|hc
   ·exact hbe
   ·rintro rfl
    rcases he with z|z
    ·exact nown c b hc z
    ·rw[hc]at z;cases z;exact hb rfl
end
structure Un (fs ex:List Fi)(H H':Hp)(h h':Heap):Prop where
 keep:∀b o,h.get? b=some o->H b=none->b∉fs->b∉ex->h'.get? b=some o
 slot:∀b o,h.get? b=some o->H b=none->b∈fs->b∉ex->∃sl,h'.get? b=some { o with slots:=sl }
 free:∀b o,h.get? b=some o->H b=none->b∉ex->H' b=none
 there:∀b o,h.get? b=some o->b∉ex->∃o',h'.get? b=some o'
 tups:∀b xs,H b=some (.tup xs)->H' b=some (.tup xs)
 frzs:∀b o u,H b=some (.frz o u)->H' b=some (.frz o u)
 tbls:∀b ps,H b=some (.tbl ps)->∃more,H' b=some (.tbl (ps++more))
section
variable  {fs fs' ex ex':List Fi}{H H1 H2:Hp}{h h1 h2 h':Heap}{a x e:Fi}{o:HO}
theorem Un.any (u:Un fs ex H H1 h h1){b:Fi}{ob:Obj}(q:h.get? b=some ob)(n:H b=none)(hx:b∉ex):∃sl,h1.get? b=some { ob with slots:=sl }:=by
 by_cases hb:b∈fs
 ·exact u.slot b ob q n hb hx
 ·exact⟨ob.slots,u.keep b ob q n hb hx⟩
theorem Un.kept (k:∀b u,h.get? b=some u->h'.get? b=some u):Un fs ex H H h h' :=
 ⟨λb ob q _ _ _=>k b ob q,λb ob q _ _ _=>⟨ob.slots,k b ob q⟩,λ_ _ _ n _=>n,λb ob q _=>⟨ob,k b ob q⟩,λ_ _ q=>q,λ_ _ _ q=>q,λ_ ps q=>⟨#[],by rw[q];simp⟩⟩
theorem Un.refl:Un fs ex H H h h:=Un.kept λ_ _ q=>q
theorem Un.laid (k:∀b u,h.get? b=some u->h'.get? b=some u)(hp:h.objs.size<=a)(hn:H a=none):Un fs ex H (upd H a o) h h' where
 keep:=λb u q _ _ _=>k b u q
 slot:=λb u q _ _ _=>⟨u.slots,k b u q⟩
 free:=λb u q n _=>by rw[aq (Ga (FF (Fv q) hp))];exact n
 there:=λb u q _=>⟨u,k b u q⟩
 tups:=λb xs q=>by rw[aq (aO q hn)];exact q
 frzs:=λb u xs q=>by rw[aq (aO q hn)];exact q
 tbls:=λb ps q=>⟨#[],by rw[aq (aO q hn),q];simp⟩
theorem Un.write (mu:Mut (H x))(he:e=x\/H e=some (.own x))(k:∀b u,b≠e->h.get? b=some u->h'.get? b=some u)(heo:∃u,h'.get? e=some u):Un fs ex H (upd H x o) h h':=by
 have hx:∀b,H b=none->b≠x:=λb n z=>by subst z;rw[n]at mu;exact mu
 have hb:∀b,H b=none->b≠e:=λb n z=>by
  subst z
  rcases he with r|r
  ·exact hx b n r
  ·rw[n]at r;cases r
 have hm:∀b u,H b=some u->¬Mut (some u)->b≠x:=λb u q nm z=>by subst z;rw[q]at mu;exact nm mu
 refine⟨λb u q n _ _=>k b u (hb b n) q,λb u q n _ _=>⟨u.slots,k b u (hb b n) q⟩,λb u q n _=>by rw[aq (hx b n)];exact n,λb u q _=>?_,
  λb xs q=>by rw[aq (hm b _ q λz=>z)];exact q,λb u xs q=>by rw[aq (hm b _ q λz=>z)];exact q,λb ps q=>⟨#[],by rw[aq (hm b _ q λz=>z),q];simp⟩⟩
 by_cases hbe:b=e
 ·subst hbe;exact heo
 ·exact⟨u,k b u hbe q⟩
end
def trk (h:Heap)(H:Hp):List Fi:=(FJ h.objs.size).filter λa=>(H a).isSome
def jZ (h:Heap)(H:Hp):Heap:=PySem.W.hideAll h (trk h H)
theorem oO (h:Heap)(H:Hp):(jZ h H).objs.size=h.objs.size:=PySem.W.hideAll_size _ _
theorem sv {h:Heap}{H:Hp}{b:Fi}{o:Obj}(e:h.get? b=some o)(n:H b=none):(jZ h H).get? b=some o :=
 PySem.W.hideAll_get _ e λhm=>by
  have q:(H b).isSome=true:=(FX.mp hm).2
  rw[n]at q;simp at q
theorem tU {h:Heap}{H:Hp}{b:Fi}{o:Obj}(e:(jZ h H).get? b=some o):h.get? b=some o/\H b=none:=by
 have e':h.get? b=some o:=PySem.W.of_hideAll (trk h H) e
 refine⟨e',?_⟩
 cases q:H b with
 |none=>rfl
 |some x =>
  have hm:b∈trk h H:=FX.mpr ⟨GJ.mpr (Fv e'),by simp[q]⟩
  have z:(jZ h H).get? b=none:=PySem.W.hideAll_none (trk h H) hm
  rw[z]at e;cases e
def zB (g h:Heap)(L:Fi):List (Fi×Obj):=(FJ h.objs.size).filterMap λa=>if a=L\/(g.get? a).isSome=true then none else (h.get? a).map λo=>(a,o)
def gO (g h:Heap)(L d:Fi):List (Fi×Obj):=(zB g h L).filter λp=>decide (p.1≠d)
end L2
namespace L2
open PySem PySem.Spec PyProof.Rows
structure Mod (K:GC)(mg:Str->Option Value)(base:Heap):Prop where
 kin:K.In base
 glob:base.Ns Gk mg
 blt:∃mb,base.Ns builtinsNs mb/\∀x:Str,x≠"__name__"->mb x=HL x
 nolimit:base.NoLimit
structure Cx where
 prog:FW
 w:G0
 K:GC
 mg:Str->Option Value
 base:Heap
 A:Around
 N:List Str
 s_0:Fh
 H_0:Hp
 env:Env
 outer:List Env
 stack:List Env
 ex:List Fi
 fn:Str->Bool
 calm:Bool
 pn:List (Fi×Obj)
 xe:Value->Fh->Prop
def frs (l:List Env):List Fi:=l.filterMap (·.frame)
abbrev Cx.fs (X:Cx):List Fi:=frs X.outer
def Vis (sc:Scope)(x:Str):Prop:=sc.names.lookup x=some .local\/sc.names.lookup x=some .cell\/sc.names.lookup x=some .free
def Loc (sc:Scope)(x:Str):Prop:=sc.names.lookup x=some .local\/sc.names.lookup x=some .cell
def ER (env:Env)(h:Heap)(m:Str->Option Value)(x:Str)(u:Value):Prop :=
 (env.kindOf x=some .local/\m x=some u)\/((env.kindOf x=some .cell\/env.kindOf x=some .free)/\∃c,env.cells.lookup x=some c/\h.IsCell c (some u))
structure Cx.Ok (X:Cx):Prop where
 mod:Mod X.K X.mg X.base
 kind:X.env.scope.kind=.function
 glob:X.env.globals=Gk
 blt:X.env.builtins=builtinsNs
 above:X.s_0.heap.objs.size<=X.env.locals
 inj:∀x y c,X.env.cells.lookup x=some c->X.env.cells.lookup y=some c->x=y
 has:∀x,(X.env.kindOf x=some .cell\/X.env.kindOf x=some .free)->∃c,X.env.cells.lookup x=some c
 cab:∀x c,X.fn x=true->X.env.cells.lookup x=some c->X.s_0.heap.objs.size<=c
 hd:X.calm=true->X.A.handled=none
 frames:X.A.frames=some X.stack
 stk:X.stack=X.outer\/(X.stack=X.env :: X.outer/\X.env.frame=some X.env.locals)
 exf:∀b∈X.ex,b≠X.env.locals/\∀x c,X.env.cells.lookup x=some c->c≠b
 bs:∀b o,X.base.get? b=some o->X.s_0.heap.get? b=some o/\X.H_0 b=none
 bsz:X.base.objs.size<=X.s_0.heap.objs.size
 noex:∀b o,X.base.get? b=some o->b∉X.ex
 exfs:∀b∈X.ex,b∉X.fs
 funs:X.s_0.heap.FunFrames X.base X.outer
 frf:∀b∈X.fs,X.H_0 b=none
structure Inv (X:Cx)(pins:List (Fi×Obj))(σ:List (Option V))(H:Hp)(s:Fh):Prop where
 ok:X.Ok
 os:s.os=X.s_0.os
 bare:AllBare s.gens
 base:Un X.fs X.ex X.H_0 H X.s_0.heap s.heap
 loc:∃m,s.heap.Ns X.env.locals m/\∀(i:Nat) (x:Str) (v:V),X.N[i]? = some x->σ[i]? = some (some v)->Vis X.env.scope x->∃u,aZ v u/\ER X.env s.heap m x u
 cell:∀x c,X.env.cells.lookup x=some c->∃v,s.heap.IsCell c v
 free:H X.env.locals=none
 freeC:∀x c,X.env.cells.lookup x=some c->H c=none
 pin:∀p∈X.pn++pins,s.heap.get? p.1=some p.2/\H p.1=none/\p.1≠X.env.locals/\p.1∉X.fs/\∀v,p.2.data≠.cell v
 hok:HOk X.prog X.w H s.heap
 len:σ.length=X.N.length
section
variable  {X:Cx}{pins:List (Fi×Obj)}{σ:List (Option V)}{H H':Hp}{s:Fh}{h':Heap}
theorem Cx.Ok.nofr (ok:X.Ok){b:Fi}{o:Obj}(e:X.base.get? b=some o):b∉X.fs:=λhb=>by
 have:=(ok.funs.mem hb).1
 rw[e]at this;cases this
theorem Inv.bs (I:Inv X pins σ H s):∀b o,X.base.get? b=some o->s.heap.get? b=some o/\H b=none:=λb o e =>
 ⟨I.base.keep b o (I.ok.bs b o e).1 (I.ok.bs b o e).2 (I.ok.nofr e) (I.ok.noex b o e),I.base.free b o (I.ok.bs b o e).1 (I.ok.bs b o e).2 (I.ok.noex b o e)⟩
theorem Inv.bk (I:Inv X pins σ H s):∀b o,X.base.get? b=some o->s.heap.get? b=some o:=λb o e=>(I.bs b o e).1
theorem Inv.mod (I:Inv X pins σ H s):Mod X.K X.mg X.base:=I.ok.mod
theorem Inv.kIn (I:Inv X pins σ H s):X.K.In s.heap:=I.ok.mod.kin.keeps I.bk
theorem Inv.fr (I:Inv X pins σ H s):∃m,Fr X.base X.env.locals s.heap m :=
 let ⟨m,hn,_⟩:=I.loc
 ⟨m,hn,I.bk,Gb I.ok.bsz I.ok.above⟩
theorem Inv.lt (I:Inv X pins σ H s):X.env.locals<s.heap.objs.size:=let ⟨_,hn,_⟩:=I.loc;hn.lt
theorem Inv.sz (I:Inv X pins σ H s):X.s_0.heap.objs.size<=s.heap.objs.size:=Gb I.ok.above (Iw I.lt)
theorem Inv.nofs (I:Inv X pins σ H s){a:Fi}(h:s.heap.objs.size<=a):a∉X.fs:=λhb=>by
 obtain⟨_,o,ho,_⟩:=I.ok.funs.mem hb
 exact absurd (FF (Fv ho) (Gb I.sz h)) (Hj _)
theorem Inv.cne (I:Inv X pins σ H s):∀x c,X.env.cells.lookup x=some c->c≠X.env.locals:=λx c e z=>by
 obtain⟨v,o,ho,hd⟩:=I.cell x c e
 obtain⟨m,⟨o',es,ep,ho',hd',_⟩,_⟩:=I.loc
 rw[z,ho']at ho;cases ho;rw[hd']at hd;cases hd
theorem Inv.funs (I:Inv X pins σ H s):s.heap.FunFrames X.base X.outer:=by
 have all:∀(l:List Env),(∀b∈frs l,b∈X.fs)->X.s_0.heap.FunFrames X.base l->s.heap.FunFrames X.base l:=by
  intro l
  induction l with
  |nil=>intro _ _;trivial
  |cons env r ih =>
   intro hs hl
   obtain⟨hk,⟨L,o,hf,hn,ho,hd⟩,hr⟩:=hl
   have hL:L∈X.fs:=hs L (by unfold frs;rw[List.filterMap_cons,hf];exact FB)
   obtain⟨sl,e⟩:=I.base.slot L o ho (I.ok.frf L hL) hL λz=>I.ok.exfs L z hL
   exact⟨hk,⟨L,_,hf,hn,e,hd⟩,ih (λb hb=>hs b (by unfold frs;rw[List.filterMap_cons,hf];exact Fj _ hb)) hr⟩
 exact all X.outer (λ_ hb=>hb) I.ok.funs
theorem Inv.stack (I:Inv X pins σ H s):s.heap.FunFrames X.base X.stack:=by
 rcases I.ok.stk with e|⟨e,hf⟩
 ·rw[e];exact I.funs
 ·rw[e]
  obtain⟨m,hn,_⟩:=I.loc
  refine .cons (by rw[I.ok.kind];decide) hf hn ?_ I.funs
  exact Heap.get?_none_of_le (Gb I.ok.bsz I.ok.above)
theorem Inv.stkSub (I:Inv X pins σ H s):∀b∈frs X.stack,b∈X.env.locals :: X.fs:=λb hb=>by
 rcases I.ok.stk with e|⟨e,hf⟩
 ·rw[e]at hb;exact Fj _ hb
 ·rw[e]at hb
  unfold frs at hb
  rw[List.filterMap_cons,hf]at hb
  exact hb
theorem Inv.stkFree (I:Inv X pins σ H s):∀b∈frs X.stack,H b=none:=λb hb=>by
 rcases Fp.mp (I.stkSub b hb) with e|hb
 ·rw[e];exact I.free
 ·obtain⟨_,o,ho,_⟩:=I.ok.funs.mem hb
  exact I.base.free b o ho (I.ok.frf b hb) λz=>I.ok.exfs b z hb
theorem Inv.step {g':Array GenState}{t':Nat}{d':Drawn}{ch:List Fi}(I:Inv X pins σ H s)
  (hch:∀b∈ch,(b∈X.ex\/X.s_0.heap.objs.size<=b)/\b≠X.env.locals/\(∀x c,X.env.cells.lookup x=some c->c≠b)/\∀p∈X.pn++pins,p.1≠b)
  (keep:∀b o,b≠X.env.locals->b∉X.fs->b∉ch->s.heap.get? b=some o->H b=none->h'.get? b=some o)
  (slot:∀b o,b≠X.env.locals->b∈X.fs->b∉ch->s.heap.get? b=some o->H b=none->∃sl,h'.get? b=some { o with slots:=sl }) (free:∀b o,b∉ch->s.heap.get? b=some o->H b=none->H' b=none)
  (there:∀b o,b∉ch->s.heap.get? b=some o->∃o',h'.get? b=some o')
  (tups:∀b xs,H b=some (.tup xs)->H' b=some (.tup xs)) (frzs:∀b o u,H b=some (.frz o u)->H' b=some (.frz o u)) (tbls:∀b ps,H b=some (.tbl ps)->∃more,H' b=some (.tbl (ps++more)))
  (ns:∀m,s.heap.Ns X.env.locals m->h'.Ns X.env.locals m) (hok:HOk X.prog X.w H' h') (hg:AllBare g') :
  Inv X pins σ H' { s with heap:=h',gens:=g',drawn:=d',toks:=t' }:=by
 have neL:∀b o,X.s_0.heap.get? b=some o->b≠X.env.locals:=λb o e=>Ga (FF (Fv e) I.ok.above)
 have neC:∀b o,X.s_0.heap.get? b=some o->b∉X.ex->b∉ch:=λb o e hx hb=>by
  rcases(hch b hb).1 with z|z
  ·exact hx z
  ·exact absurd (FF (Fv e) z) (Hj _)
 have cellK:∀x c,X.env.cells.lookup x=some c->∀v,s.heap.IsCell c v->h'.IsCell c v:=λx c e v ⟨o,ho,hd⟩=>by
  have nch:c∉ch:=λz=>(hch c z).2.2.1 x c e rfl
  by_cases hc:c∈X.fs
  ·obtain⟨sl,q⟩:=slot c o (I.cne x c e) hc nch ho (I.freeC x c e)
   exact⟨_,q,hd⟩
  ·exact⟨o,keep c o (I.cne x c e) hc nch ho (I.freeC x c e),hd⟩
 refine⟨I.ok,I.os,hg,⟨λb o e n hb hx=>?_,λb o e n hb hx=>?_,λb o e n hx=>?_,λb o e hx=>?_,λb xs e=>tups b xs (I.base.tups b xs e),λb o xs e=>frzs b o xs (I.base.frzs b o xs e),λb ps e=>?_⟩,?_,λx c e=>?_,?_,λx c e=>?_,λp hp=>?_,hok,I.len⟩
 ·exact keep b o (neL b o e) hb (neC b o e hx) (I.base.keep b o e n hb hx) (I.base.free b o e n hx)
 ·obtain⟨sl,e1⟩:=I.base.slot b o e n hb hx
  obtain⟨sl',e2⟩:=slot b _ (neL b o e) hb (neC b o e hx) e1 (I.base.free b o e n hx)
  exact⟨sl',e2⟩
 ·obtain⟨o',e1⟩:=I.base.there b o e hx
  exact free b o' (neC b o e hx) e1 (I.base.free b o e n hx)
 ·obtain⟨o',e1⟩:=I.base.there b o e hx
  exact there b o' (neC b o e hx) e1
 ·obtain⟨m1,e1⟩:=I.base.tbls b ps e
  obtain⟨m2,e2⟩:=tbls b _ e1
  exact⟨m1++m2,by rw[e2,Array.append_assoc]⟩
 ·obtain⟨m,hn,hl⟩:=I.loc
  refine⟨m,ns m hn,λi x v e1 e2 e3=>?_⟩
  obtain⟨u,r,l⟩:=hl i x v e1 e2 e3
  refine⟨u,r,?_⟩
  rcases l with l|⟨k,c,e,z⟩
  ·exact .inl l
  ·exact .inr ⟨k,c,e,cellK x c e _ z⟩
 ·obtain⟨v,z⟩:=I.cell x c e
  exact⟨v,cellK x c e v z⟩
 ·obtain⟨m,⟨o,_,_,ho,_⟩,_⟩:=I.loc
  exact free _ o (λz=>(hch _ z).2.1 rfl) ho I.free
 ·obtain⟨v,o,ho,hd⟩:=I.cell x c e
  exact free c o (λz=>(hch c z).2.2.1 x c e rfl) ho (I.freeC x c e)
 ·obtain⟨e,n,ne,nf,d⟩:=I.pin p hp
  have nch:p.1∉ch:=λz=>(hch p.1 z).2.2.2 p hp rfl
  exact⟨keep p.1 p.2 ne nf nch e n,free p.1 p.2 nch e n,ne,nf,d⟩
theorem Inv.un {t':Nat}(I:Inv X pins σ H s)(u:Un X.fs [] H H' s.heap h')(hok:HOk X.prog X.w H' h'):Inv X pins σ H' { s with heap:=h',toks:=t' }:=by
 obtain⟨m,⟨o,es,ep,ho,r⟩,_⟩:=id I.loc
 obtain⟨sl,hL⟩:=u.any ho I.free (by simp)
 exact I.step (g':=s.gens) (d':=s.drawn) (ch:=[]) (λ_ z=>nomatch z) (λb o _ hb _ e n=>u.keep b o e n hb (by simp)) (λb o _ hb _ e n=>u.slot b o e n hb (by simp)) (λb o _ e n=>u.free b o e n (by simp)) (λb o _ e=>u.there b o e (by simp)) u.tups u.frzs u.tbls (λm' hm=>by
  obtain⟨o',es',ep',ho',r'⟩:=hm
  rw[ho]at ho';cases ho'
  exact⟨_,es',ep',hL,r'⟩) hok I.bare
theorem Inv.call {g':Array GenState}{t':Nat}{d':Drawn}{ch:List Fi}(I:Inv X pins σ H s)(u:Un (frs X.stack) ch H H' s.heap h')(hok:HOk X.prog X.w H' h')(hg:AllBare g')
  (hch:∀b∈ch,(b∈X.ex\/X.s_0.heap.objs.size<=b)/\b≠X.env.locals/\(∀x c,X.env.cells.lookup x=some c->c≠b)/\∀p∈X.pn++pins,p.1≠b) :
  Inv X pins σ H' { s with heap:=h',gens:=g',drawn:=d',toks:=t' }:=by
 obtain⟨m,⟨o,es,ep,ho,r⟩,_⟩:=id I.loc
 obtain⟨sl,hL⟩:=u.any ho I.free λz=>(hch _ z).2.1 rfl
 exact I.step (ch:=ch) hch (λb o hL hb hc e n=>u.keep b o e n (λz=>(Fp.mp (I.stkSub b z)).elim hL hb) hc) (λb o _ _ hc e n=>u.any e n hc) (λb o hc e n=>u.free b o e n hc) (λb o hc e=>u.there b o e hc) u.tups u.frzs u.tbls (λm' hm=>by
  obtain⟨o',es',ep',ho',r'⟩:=hm
  rw[ho]at ho';cases ho'
  exact⟨_,es',ep',hL,r'⟩) hok hg
theorem Inv.turned {t':Nat}{it:Fi}(I:Inv X pins σ H s)(k:∀b o,b≠it->s.heap.get? b=some o->h'.get? b=some o)(hn:H it=none)(hL:it≠X.env.locals)
  (h1:it∈X.ex\/X.s_0.heap.objs.size<=it) (h2:∀x c,X.env.cells.lookup x=some c->c≠it) (h3:∀p∈X.pn++pins,p.1≠it):Inv X pins σ H { s with heap:=h',toks:=t' }:=by
 have nit:∀b u,H b=some u->b≠it:=λb u e z=>by rw[z,hn]at e;cases e
 refine I.step (g':=s.gens) (d':=s.drawn) (ch:=[it]) (λb hb=>?_) (λb o _ _ hc e _=>k b o (λz=>hc (by simp[z])) e) (λb o _ _ hc e _=>⟨o.slots,k b o (λz=>hc (by simp[z])) e⟩) (λ_ _ _ _ n=>n)
  (λb o hc e=>⟨o,k b o (λz=>hc (by simp[z])) e⟩) (λ_ _ e=>e) (λ_ _ _ e=>e) (λb ps e=>⟨#[],by rw[e];simp⟩) (λm hm=>?_) (λb u e=>?_) I.bare
 ·have e:b=it:=by simpa using hb
  subst e
  exact⟨h1,hL,h2,h3⟩
 ·obtain⟨o,es,ep,ho,r⟩:=hm
  exact⟨o,es,ep,k _ o (FQ hL) ho,r⟩
 ·refine(I.hok b u e).stay (λc v hc q=>k c v ?_ q) (λ_ q=>q) λ_ _ q=>q
  rcases hc with z|z
  ·rw[z];exact nit b u e
  ·exact nit c _ z
theorem Inv.tok (I:Inv X pins σ H s)(t:Nat):Inv X pins σ H { s with toks:=t }:=I.un (h':=s.heap) (t':=t) Un.refl I.hok
theorem Inv.kept {t':Nat}(I:Inv X pins σ H s)(k:∀b u,s.heap.get? b=some u->h'.get? b=some u):Inv X pins σ H { s with heap:=h',toks:=t' }:=I.un (Un.kept k) (I.hok.kept k)
theorem Inv.laid {a:Fi}{o:HO}{t':Nat}(I:Inv X pins σ H s)(k:∀b u,s.heap.get? b=some u->h'.get? b=some u)(hp:s.heap.objs.size<=a)(new:b6 X.prog X.w (upd H a o) h' a o) :
  Inv X pins σ (upd H a o) { s with heap:=h',toks:=t' }:=I.un (Un.laid k hp (I.hok.fresh hp)) (I.hok.laid k hp new)
theorem Inv.write {x e:Fi}{o:HO}{t':Nat}(I:Inv X pins σ H s)(mu:Mut (H x))(he:e=x\/H e=some (.own x))(k:∀b u,b≠e->s.heap.get? b=some u->h'.get? b=some u)(heo:∃u,h'.get? e=some u)
  (new:b6 X.prog X.w (upd H x o) h' x o):Inv X pins σ (upd H x o) { s with heap:=h',toks:=t' }:=I.un (Un.write mu he k heo) (I.hok.write mu he k heo new)
theorem Inv.weak {σ':List (Option V)}(I:Inv X pins σ H s)(hl:σ'.length=σ.length)(w:∀(i:Nat) v,σ'[i]? = some (some v)->σ[i]? = some (some v)):Inv X pins σ' H s :=
 ⟨I.ok,I.os,I.bare,I.base,let ⟨m,hn,hl'⟩:=I.loc;⟨m,hn,λi x v e1 e2 e3=>hl' i x v e1 (w i v e2) e3⟩,I.cell,I.free,I.freeC,I.pin,I.hok,hl.trans I.len⟩
theorem Inv.pins_of {pins':List (Fi×Obj)}(I:Inv X pins σ H s)(h:∀p∈pins',s.heap.get? p.1=some p.2/\H p.1=none/\p.1≠X.env.locals/\p.1∉X.fs/\∀v,p.2.data≠.cell v):Inv X pins' σ H s :=
 ⟨I.ok,I.os,I.bare,I.base,I.loc,I.cell,I.free,I.freeC,λp hp=>(FR.mp hp).elim (λz=>I.pin p (List.mem_append_left _ z)) (h p),I.hok,I.len⟩
theorem mR {N:List Str}(hN:N.Nodup){i j:Nat}{x:Str}(a:N[i]? = some x)(b:N[j]? = some x):i=j:=by
 obtain⟨h1,e1⟩:=gsi a
 obtain⟨h2,e2⟩:=gsi b
 exact(List.getElem_inj hN).mp (e1.trans e2.symm)
theorem store_ok2 {M:Model}{A:Around}{E:Value->Fh->Prop}{i:Nat}{x:Str}{v:V}{u:Value}{Q:Unit->Fh->Prop}(I:Inv X pins σ H s)(hN:X.N.Nodup)(hi:X.N[i]? = some x)(hx:Loc X.env.scope x)(r:aZ v u)
  (h:∀s',Inv X pins (σ.set i (some v)) H s'->(∃a,Heap.SameBut a s.heap s'.heap/\(a=X.env.locals\/X.env.cells.lookup x=some a))->Q () s') (hf:X.fn x=true\/X.env.scope.names.lookup x=some .local:=by first|exact .inl rfl|exact .inr rfl|assumption):FV M A (storeName X.env x u) Q E s:=by
 obtain⟨m,hn,hl⟩:=id I.loc
 have hcls:(X.env.scope.kind==.class||(X.env.scope.kind==.module&&X.env.locals != X.env.globals))=false:=by rw[I.ok.kind];rfl
 have hiσ:i<σ.length:=by rw[I.len];exact(gsi hi).1
 have cne:=I.cne
 have tracked:∀{a:Fi} {h':Heap},(∃o,s.heap.get? a=some o/\H a=none)->Heap.SameBut a s.heap h'->HOk X.prog X.w H h':=λ{a h'} ha hs b ob e=>by
  obtain⟨_,_,hfree⟩:=ha
  refine(I.hok b ob e).stay (λc w' hc q=>(hs.2 c ?_).trans q) (λ_ q=>q) λ_ _ q=>q
  rintro rfl
  rcases hc with rfl|hc
  ·rw[hfree]at e;cases e
  ·rw[hfree]at hc;cases hc
 rcases hx with hk|hk
 ·refine wpAny_storeName_local hk hn (λh' hn' hs=>?_) hcls
  obtain⟨oL,_,_,hoL,_⟩:=id hn
  refine h _ ⟨I.ok,I.os,I.bare,⟨λb o e n hb hx=>?_,λb o e n hb hx=>?_,I.base.free,λb o e hx=>?_,I.base.tups,I.base.frzs,I.base.tbls⟩,⟨_,hn',λj y v' e1 e2 e3=>?_⟩,λy c e=>?_,I.free,I.freeC,λp hp=>?_,tracked ⟨oL,hoL,I.free⟩ hs,by simpa using I.len⟩ ⟨_,hs,.inl rfl⟩
  ·exact(hs.2 b (Ga (FF (Fv e) I.ok.above))).trans (I.base.keep b o e n hb hx)
  ·obtain⟨sl,e1⟩:=I.base.slot b o e n hb hx
   exact⟨sl,(hs.2 b (Ga (FF (Fv e) I.ok.above))).trans e1⟩
  ·obtain⟨o',e1⟩:=I.base.there b o e hx
   exact⟨o',(hs.2 b (Ga (FF (Fv e) I.ok.above))).trans e1⟩
  ·by_cases hj:j=i
   ·subst hj
    rw[hi]at e1;cases e1
    rw[IG hiσ]at e2
    cases e2
    exact⟨u,r,.inl ⟨hk,by simp⟩⟩
   ·rw[HI (FQ hj)]at e2
    obtain⟨u',r',q⟩:=hl j y v' e1 e2 e3
    refine⟨u',r',?_⟩
    rcases q with⟨k,e⟩|⟨k,c,e,z⟩
    ·refine .inl ⟨k,?_⟩
     have:y≠x:=λe=>hj (mR hN e1 (e▸hi))
     simp[this,e]
    ·exact .inr ⟨k,c,e,z.sameBut hs (cne y c e)⟩
  ·obtain⟨w',z⟩:=I.cell y c e
   exact⟨w',z.sameBut hs (cne y c e)⟩
  ·obtain⟨e,n,ne,nf,d⟩:=I.pin p hp
   exact⟨(hs.2 p.1 ne).trans e,n,ne,nf,d⟩
 ·have hfn:X.fn x=true:=by
   rcases hf with z|z
   ·exact z
   ·rw[z]at hk;cases hk
  obtain⟨c,hc⟩:=I.ok.has x (.inl hk)
  obtain⟨w',z⟩:=I.cell x c hc
  refine wpAny_storeName_cell I.ok.kind hk hc z (λh' hc' hs=>?_)
  obtain⟨oc,hoc,hocd⟩:=id z
  refine h { s with heap:=h' } ⟨I.ok,I.os,I.bare,⟨λb o e n hb hx=>?_,λb o e n hb hx=>?_,I.base.free,λb o e hx=>?_,I.base.tups,I.base.frzs,I.base.tbls⟩,⟨m,hn.sameBut hs (FQ (cne x c hc)),λj y v' e1 e2 e3=>?_⟩,λy c' e=>?_,I.free,I.freeC,λp hp=>?_,tracked ⟨oc,hoc,I.freeC x c hc⟩ hs,by simpa using I.len⟩ ⟨c,hs,.inr hc⟩
  ·exact(hs.2 b (Ga (FF (Fv e) (I.ok.cab x c hfn hc)))).trans (I.base.keep b o e n hb hx)
  ·obtain⟨sl,e1⟩:=I.base.slot b o e n hb hx
   exact⟨sl,(hs.2 b (Ga (FF (Fv e) (I.ok.cab x c hfn hc)))).trans e1⟩
  ·obtain⟨o',e1⟩:=I.base.there b o e hx
   exact⟨o',(hs.2 b (Ga (FF (Fv e) (I.ok.cab x c hfn hc)))).trans e1⟩
  ·by_cases hj:j=i
   ·subst hj
    rw[hi]at e1;cases e1
    rw[IG hiσ]at e2
    cases e2
    exact⟨u,r,.inr ⟨.inl hk,c,hc,hc'⟩⟩
   ·rw[HI (FQ hj)]at e2
    obtain⟨u',r',q⟩:=hl j y v' e1 e2 e3
    refine⟨u',r',?_⟩
    rcases q with q|⟨k,c',e,z'⟩
    ·exact .inl q
    ·refine .inr ⟨k,c',e,z'.sameBut hs ?_⟩
     rintro rfl
     exact hj (mR hN e1 (I.ok.inj _ _ _ e hc▸hi))
  ·by_cases hcc:c'=c
   ·subst hcc;exact⟨_,hc'⟩
   ·obtain⟨w2,z2⟩:=I.cell y c' e
    exact⟨w2,z2.sameBut hs hcc⟩
  ·obtain⟨e,n,ne,nf,d⟩:=I.pin p hp
   refine⟨(hs.2 p.1 ?_).trans e,n,ne,nf,d⟩
   intro q
   rw[q,hoc]at e
   have q':oc=p.2:=osi e
   exact d w' (by rw[<-q'];exact hocd)
theorem mo {M:Model}{A:Around}{E:Value->Fh->Prop}{i:Nat}{x:Str}{v:V}{u:Value}{Q:Unit->Fh->Prop}(I:Inv X pins σ H s)(hN:X.N.Nodup)(hi:X.N[i]? = some x)(hx:Loc X.env.scope x)(r:aZ v u)
  (h:∀s',Inv X pins (σ.set i (some v)) H s'->Q () s') (hf:X.fn x=true\/X.env.scope.names.lookup x=some .local:=by first|exact .inl rfl|exact .inr rfl|assumption):FV M A (storeName X.env x u) Q E s :=
 store_ok2 I hN hi hx r (λs' I' _=>h s' I') hf
theorem Inv.call' {s':Fh}{ch:List Fi}(I:Inv X pins σ H s)(ho:s'.os=s.os)(u:Un (frs X.stack) ch H H' s.heap s'.heap)(hok:HOk X.prog X.w H' s'.heap)(hg:AllBare s'.gens)
  (hch:∀b∈ch,(b∈X.ex\/X.s_0.heap.objs.size<=b)/\b≠X.env.locals/\(∀x c,X.env.cells.lookup x=some c->c≠b)/\∀p∈X.pn++pins,p.1≠b):Inv X pins σ H' s':=by
 obtain⟨h',g',d',t',o'⟩:=s'
 have e:o'=s.os:=ho
 subst e
 exact I.call (g':=g') (t':=t') (d':=d') u hok hg hch
end
abbrev XK:=Value->Option Fi->Hp->Prop
abbrev St:=List (Option V)
abbrev VK:=V->Hp->Prop
abbrev TE:=St->Hp->VK->Prop
abbrev TT:=St->Hp->(Bool->Hp->Prop)->Prop
abbrev TA:=St->Hp->(List V->Hp->Prop)->Prop
structure oa where
 nx:St->Hp->Prop
 rt:VK
 bk:St->Hp->Prop:=λ_ _=>False
 ct:St->Hp->Prop:=λ_ _=>False
abbrev TS:=oa->St->Hp->Prop
def EP (X:Cx)(pins:List (Fi×Obj))(σ:St)(Q:VK)(u:Value)(s':Fh):Prop:=∃v H',Inv X pins σ H' s'/\aZ v u/\Q v H'
def TP (X:Cx)(pins:List (Fi×Obj))(σ:St)(Q:Bool->Hp->Prop)(b:Bool)(s':Fh):Prop:=∃H',Inv X pins σ H' s'/\Q b H'
def AP (X:Cx)(pins:List (Fi×Obj))(σ:St)(Q:List V->Hp->Prop)(us:List Value)(s':Fh):Prop:=∃vs H',Inv X pins σ H' s'/\aR vs us/\Q vs H'
def SP (X:Cx)(pins:List (Fi×Obj))(D:oa)(f:Flow)(s':Fh):Prop :=
 match f with
 |.next=>∃σ' H',Inv X pins σ' H' s'/\D.nx σ' H'
 |.brk=>∃σ' H',Inv X pins σ' H' s'/\D.bk σ' H'
 |.cont=>∃σ' H',Inv X pins σ' H' s'/\D.ct σ' H'
 |.ret u=>∃v σ' H',Inv X pins σ' H' s'/\aZ v u/\D.rt v H'
def PE (X:Cx)(e:Expr)(t:TE):Prop :=
 ∀(pins:List (Fi×Obj)) (s:Fh) (σ:St) (H:Hp) (Q:VK),Inv X pins σ H s->t σ H Q->FV (Gj X.prog X.w) X.A (Jd e X.env) (EP X pins σ Q) X.xe s
def PT (X:Cx)(e:Expr)(t:TT):Prop :=
 ∀(pins:List (Fi×Obj)) (s:Fh) (σ:St) (H:Hp) (Q:Bool->Hp->Prop),Inv X pins σ H s->t σ H Q->FV (Gj X.prog X.w) X.A (isTrue e X.env (Jd e X.env)) (TP X pins σ Q) X.xe s
def PW (X:Cx)(e:Expr)(t:TT):Prop :=
 ∀(whole:Sem Value) (pins:List (Fi×Obj)) (s:Fh) (σ:St) (H:Hp) (Q:Bool->Hp->Prop),Inv X pins σ H s->t σ H Q->FV (Gj X.prog X.w) X.A (isTrue e X.env whole) (TP X pins σ Q) X.xe s
theorem PW.pt {X:Cx}{e:Expr}{t:TT}(h:PW X e t):PT X e t:=h _
def PA (X:Cx)(es:List Expr)(t:TA):Prop :=
 ∀(pos:Pos) (pins:List (Fi×Obj)) (s:Fh) (σ:St) (H:Hp) (Q:List V->Hp->Prop),Inv X pins σ H s->t σ H Q->FV (Gj X.prog X.w) X.A (spliced (II pos (FU es X.env))) (AP X pins σ Q) X.xe s
def PS (X:Cx)(st:Hy)(t:TS):Prop :=
 ∀(pins:List (Fi×Obj)) (s:Fh) (σ:St) (H:Hp) (D:oa),Inv X pins σ H s->t D σ H->FV (Gj X.prog X.w) X.A (exec st X.env) (SP X pins D) X.xe s
def PSs (X:Cx)(st:List Hy)(t:TS):Prop :=
 ∀(pins:List (Fi×Obj)) (s:Fh) (σ:St) (H:Hp) (D:oa),Inv X pins σ H s->t D σ H->FV (Gj X.prog X.w) X.A (execs st X.env) (SP X pins D) X.xe s
theorem thn {α:Type}{t:Sem α}{Q Q':α->Fh->Prop}{M:Model}{A:Around}{E:Value->Fh->Prop}{s:Fh}(h:FV M A t Q E s)(hQ:∀a s,Q a s->Q' a s):FV M A t Q' E s:=IY h hQ λ_ _ x=>x
end L2
namespace L2
open PySem PySem.Spec PyProof.Rows
section
variable  {X:Cx}
theorem bin {a b:Expr}{ta tb:TE}(ha:PE X a ta)(hb:PE X b tb){pins:List (Fi×Obj)}{s:Fh}{σ:St}{H:Hp}{R:V->V->Hp->Prop}(I:Inv X pins σ H s)(h:ta σ H λx H1=>tb σ H1 λy H2=>R x y H2)
  {α:Type} {Q:α->Fh->Prop} {f:Value->Value->Sem α}
  (hf:∀v u s2 x y H2,Inv X pins σ H2 s2->aZ x v->aZ y u->R x y H2->FV (Gj X.prog X.w) X.A (f v u) Q X.xe s2) :
  FV (Gj X.prog X.w) X.A (Jd a X.env) (λv s₁=>FV (Gj X.prog X.w) X.A (Jd b X.env) (λu s₂=>FV (Gj X.prog X.w) X.A (f v u) Q X.xe s₂) X.xe s₁) X.xe s:=by
 refine thn (ha pins s σ H _ I h) λv s1 ⟨x,H1,I1,r1,q1⟩=>?_
 refine thn (hb pins s1 σ H1 _ I1 q1) λu s2 ⟨y,H2,I2,r2,q2⟩=>?_
 exact hf v u s2 x y H2 I2 r1 r2 q2
def a5 (i:Nat):TE:=λσ H Q=>∃v,σ[i]? = some (some v)/\Q v H
def tC (v:V):TE:=λ_ H Q=>Q v H
theorem A9 {i:Nat}{x:Str}{pos:Pos}(hN:X.N[i]? = some x)(hv:Vis X.env.scope x) (hd:(x==("__debug__" : Str))=false:=by decide) (hcd:(x==("__classdict__" : Str))=false:=by decide):PE X (.Name x pos) (a5 i):=by
 intro pins s σ H Q I h
 obtain⟨v,e,h⟩:=h
 obtain⟨m,hn,hl⟩:=I.loc
 obtain⟨u,r,l⟩:=hl i x v hN e hv
 have fin:EP X pins σ Q u s:=⟨v,H,I,r,h⟩
 rcases l with⟨hk,hm⟩|⟨hk,c,hc,hcell⟩
 ·exact wpAny_Name (wpAny_loadName_local I.ok.kind hk hn hm fin) hd
 ·rcases hk with hk|hk
  ·exact wpAny_Name (wpAny_loadName_cell I.ok.kind hk hc hcell fin) hd
  ·exact wpAny_Name (wpAny_loadName_free I.ok.kind hk hc hcell fin hcd) hd
theorem af {i j pos}:PE X (.Constant (.int i) j pos) (tC (.int i)):=λ_ _ _ H _ I h=>wpAny_Constant_int ⟨.int i,H,I.tok _,⟨_,rfl⟩,h⟩
theorem d9 {b j pos}:PE X (.Constant (.bool b) j pos) (tC (.bl b)):=λ_ _ _ H _ I h=>Constant_bool ⟨.bl b,H,I,rfl,h⟩
theorem a9 {j pos}:PE X (.Constant .none j pos) (tC .non):=λ_ _ _ H _ I h=>Constant_none ⟨.non,H,I,rfl,h⟩
def Gl (X:Cx)(x:Str):Prop:=X.env.kindOf x=some .globalImplicit
theorem qG {E:Value->Fh->Prop}{pins:List (Fi×Obj)}{s:Fh}{σ:St}{H:Hp}{x:Str}{u:Value}{pos:Pos}{Q:Value->Fh->Prop}(I:Inv X pins σ H s)(hg:Gl X x)(hm:X.mg x=some u)(h:Q u s)
  (hd:(x==("__debug__" : Str))=false:=by decide):FV (Gj X.prog X.w) X.A (Jd (.Name x pos) X.env) Q E s :=
 Calls.Name_function_global I.ok.kind hg (Calls.loadGlobal_global (by rw[I.ok.glob];exact I.mod.glob.keeps I.bk) hm h) hd
theorem gp {E:Value->Fh->Prop}{pins:List (Fi×Obj)}{s:Fh}{σ:St}{H:Hp}{x:Str}{u:Value}{pos:Pos}{Q:Value->Fh->Prop}(I:Inv X pins σ H s)(hg:Gl X x)(hm:X.mg x=none)(hv:HL x=some u)(h:Q u s)
  (hn:x≠"__name__":=by decide) (hd:(x==("__debug__" : Str))=false:=by decide):FV (Gj X.prog X.w) X.A (Jd (.Name x pos) X.env) Q E s:=by
 obtain⟨mb,h1,h2⟩:=I.mod.blt
 exact Calls.Name_function_global I.ok.kind hg (Calls.loadGlobal_builtin (by rw[I.ok.glob];exact I.mod.glob.keeps I.bk) hm (by rw[I.ok.blt];exact h1.keeps I.bk) ((h2 x hn).trans hv) h) hd
theorem qF {x:Str}{v:V}{u:Value}{pos:Pos}(hg:Gl X x)(hm:X.mg x=some u)(r:aZ v u) (hd:(x==("__debug__" : Str))=false:=by decide):PE X (.Name x pos) (tC v) :=
 λ_ _ _ H _ I h=>qG I hg hm ⟨v,H,I,r,h⟩ hd
variable  {a b:Expr}{ta tb:TE}{pos:Pos}
def PC (X:Cx)(op:CmpOp)(a b:Expr)(t:TE):Prop :=
 ∀(pins:List (Fi×Obj)) (s:Fh) (σ:St) (H:Hp) (Q:VK),Inv X pins σ H s->t σ H Q ->
  FV (Gj X.prog X.w) X.A (Jd a X.env) (λv s₁=>FV (Gj X.prog X.w) X.A (Jd b X.env) (λu s₂=>FV (Gj X.prog X.w) X.A (GQ op v u) (EP X pins σ Q) X.xe s₂) X.xe s₁) X.xe s
theorem xM (b:Expr){op:CmpOp}(h:op≠.In)(h2:op≠.NotIn):IZ op b=false:=by
 have e1:(op==CmpOp.In)=false:=by cases op<;>first|rfl|exact absurd rfl h
 have e2:(op==CmpOp.NotIn)=false:=by cases op<;>first|rfl|exact absurd rfl h2
 cases b<;>simp[IZ,e1,e2]
def tB (t:TE):TT:=λσ H Q=>t σ H λx H1=>∃c,x=.bl c/\Q c H1
theorem sD {op:CmpOp}{t:TE}(h:PC X op a b t)(h1:IZ op b=false:=by first|exact xM _ (by decide) (by decide)|rfl):PT X (.Compare a [op] [b] pos) (tB t):=by
 intro pins s σ H Q I hw
 refine wpAny_isTrue_Compare1 (thn (h pins s σ H _ I hw) λv s1 h1=>thn h1 λu s2 h2=>thn h2 λc s3 ⟨x,H1,I1,r1,q1⟩=>?_) h1
 obtain⟨d,rfl,q⟩:=q1
 cases r1
 exact G7 ⟨H1,I1,q⟩
theorem cA {e:Expr}{t:TE}(h:PE X e t)(he:∀whole,isTrue e X.env whole=(do let v <-whole;standAt e.pos;holding [v] (truthy v)):=by intro _;rfl):PT X e (tB t):=by
 intro pins s σ H Q I hw
 refine isTrue_plain (thn (h pins s σ H _ I hw) λv s1 ⟨x,H1,I1,r1,q1⟩=>?_) (he _)
 obtain⟨d,rfl,q⟩:=q1
 cases r1
 exact G7 ⟨H1,I1,q⟩
variable  {tA tB':TT}{gO:List Expr}
def yT (t u:TT):TT:=λσ H Q=>t σ H λc H1=>if c=true then u σ H1 Q else Q false H1
def tOr (t u:TT):TT:=λσ H Q=>t σ H λc H1=>if c=true then Q true H1 else u σ H1 Q
def AV (t:TT):TT:=λσ H Q=>t σ H λc H1=>Q (!c) H1
theorem ik (ha:PT X a tA):PW X (.BoolOp .And [a] pos) tA:=by
 intro wh pins s σ H Q I h
 refine isTrue_and (thn (ha pins s σ H Q I h) λc s1 e=>?_)
 cases c with
 |true=>exact isTrue_and_nil e
 |false=>exact e
theorem jI (ha:PT X a tA):PW X (.BoolOp .Or [a] pos) tA:=by
 intro wh pins s σ H Q I h
 refine isTrue_or (thn (ha pins s σ H Q I h) λc s1 e=>?_)
 cases c with
 |false=>exact isTrue_or_nil e
 |true=>exact e
theorem jN (ha:PT X a tA)(hb:PW X (.BoolOp .And (b :: gO) pos) tB'):PW X (.BoolOp .And (a :: b :: gO) pos) (yT tA tB'):=by
 intro wh pins s σ H Q I h
 refine isTrue_and (thn (ha pins s σ H _ I h) λc s1 ⟨H1,I1,q1⟩=>?_)
 cases c with
 |true=>exact hb wh pins s1 σ H1 Q I1 q1
 |false=>exact⟨H1,I1,q1⟩
theorem mi (ha:PT X a tA)(hb:PW X (.BoolOp .Or (b :: gO) pos) tB'):PW X (.BoolOp .Or (a :: b :: gO) pos) (tOr tA tB'):=by
 intro wh pins s σ H Q I h
 refine isTrue_or (thn (ha pins s σ H _ I h) λc s1 ⟨H1,I1,q1⟩=>?_)
 cases c with
 |true=>exact⟨H1,I1,q1⟩
 |false=>exact hb wh pins s1 σ H1 Q I1 q1
theorem iK (ha:PT X a tA):PT X (.UnaryOp .Not a pos) (AV tA):=by
 intro pins s σ H Q I h
 exact isTrue_not (ha pins s σ H (λc H1=>Q (!c) H1) I h)
def Ao (ta tb:TE):TE:=λσ H Q=>ta σ H λx H1=>∃c,x=.bl c/\if c=true then tb σ H1 Q else Q (.bl false) H1
def EY (ta tb:TE):TE:=λσ H Q=>ta σ H λx H1=>∃c,x=.bl c/\if c=true then Q (.bl true) H1 else tb σ H1 Q
def D8 (ta:TE):TE:=λσ H Q=>ta σ H λx H1=>∃c,x=.bl c/\Q (.bl (!c)) H1
theorem eq {op}{t:TE}(h:PE X a t):PE X (.BoolOp op [a] pos) t:=λpins s σ H Q I hw=>BoolOp_one (h pins s σ H Q I hw)
theorem iH (ha:PE X a ta)(hb:PE X (.BoolOp .And (b :: gO) pos) tb):PE X (.BoolOp .And (a :: b :: gO) pos) (Ao ta tb):=by
 intro pins s σ H Q I h
 refine BoolOp_and (thn (ha pins s σ H _ I h) λv s1 ⟨x,H1,I1,r1,q1⟩=>?_)
 obtain⟨c,rfl,q1⟩:=q1
 cases r1
 refine G7 ?_
 cases c with
 |true=>exact hb pins s1 σ H1 Q I1 q1
 |false=>exact⟨.bl false,H1,I1,rfl,q1⟩
theorem rN (ha:PE X a ta)(hb:PE X (.BoolOp .Or (b :: gO) pos) tb):PE X (.BoolOp .Or (a :: b :: gO) pos) (EY ta tb):=by
 intro pins s σ H Q I h
 refine BoolOp_or (thn (ha pins s σ H _ I h) λv s1 ⟨x,H1,I1,r1,q1⟩=>?_)
 obtain⟨c,rfl,q1⟩:=q1
 cases r1
 refine G7 ?_
 cases c with
 |false=>exact hb pins s1 σ H1 Q I1 q1
 |true=>exact⟨.bl true,H1,I1,rfl,q1⟩
theorem xu (ha:PE X a ta):PE X (.UnaryOp .Not a pos) (D8 ta):=by
 intro pins s σ H Q I h
 refine UnaryOp_ (thn (ha pins s σ H _ I h) λv s1 ⟨x,H1,I1,r1,q1⟩=>?_)
 obtain⟨c,rfl,q1⟩:=q1
 cases r1
 exact not_of (G7 ⟨.bl (!c),H1,I1,rfl,q1⟩)
def tIf (t:TT)(ta tb:TE):TE:=λσ H Q=>t σ H λc H1=>if c=true then ta σ H1 Q else tb σ H1 Q
theorem wl {c:Expr}(hc:PT X c tA)(ha:PE X a ta)(hb:PE X b tb):PE X (.IfExp c a b pos) (tIf tA ta tb):=by
 intro pins s σ H Q I h
 refine wpAny_IfExp (thn (hc pins s σ H _ I h) λd s1 ⟨H1,I1,q1⟩=>?_)
 cases d with
 |true=>exact ha pins s1 σ H1 Q I1 q1
 |false=>exact hb pins s1 σ H1 Q I1 q1
end
end L2
namespace L2
open PySem PySem.Spec PyProof.Rows
def SqL (K:GC)(H:Hp)(a:Fi)(xs:List V):Prop :=
 Rd H a (.lst xs) \/
  ∃(o:Obj) (its:Array Value) (n:Nat),K.lookup a=some o/\o.cls=.type "list"/\o.dict=none/\o.data=.seq its n/\its.size<=Fk/\aR xs its.toList
def SqT (K:GC)(H:Hp)(a:Fi)(xs:List V):Prop :=
 Rd H a (.tup xs) \/
  ∃(o:Obj) (its:Array Value) (n:Nat),K.lookup a=some o/\o.cls=.type "tuple"/\o.data=.seq its n/\its.size<=Fk/\aR xs its.toList
def EH:Value->Option V
 |.none=>some .non
 |.bool b=>some (.bl b)
 |.int i _=>some (.int i)
 |.str x _=>some (.str x)
 |.bytes b _=>some (.byt b)
 |.float b _=>some (.flt b)
 |.ref a=>some (.ref a)
 |.type n=>some (.ty n)
 |_=>none
theorem aZ.abs {x:V}{u:Value}(r:aZ x u):EH u=some x:=by
 cases x with
 |non=>cases r;rfl
 |bl _=>cases r;rfl
 |int _=>obtain⟨t,rfl⟩:=r;rfl
 |str _=>obtain⟨t,rfl⟩:=r;rfl
 |byt _=>obtain⟨t,rfl⟩:=r;rfl
 |flt _=>obtain⟨t,rfl⟩:=r;rfl
 |ref _=>cases r;rfl
 |ty _=>cases r;rfl
theorem aZ.inj {x y:V}{u:Value}(r:aZ x u)(q:aZ y u):x=y:=osi (r.abs.symm.trans q.abs)
theorem aR.inj:∀{xs ys:List V} {us:List Value},aR xs us->aR ys us->xs=ys
 |_,_,_,.nil,.nil=>rfl
 |_,_,_,.cons r t,.cons r' t'=>by rw[r.inj r',aR.inj t t']
section
variable  {X:Cx}{pins:List (Fi×Obj)}{σ:St}{H:Hp}{s:Fh}{a:Fi}{xs ys:List V}
theorem SqL.of {K:GC}(h:H a=some (.lst xs)):SqL K H a xs:=.inl (.inl h)
theorem SqT.of {K:GC}(h:H a=some (.tup xs)):SqT K H a xs:=.inl (.inl h)
theorem Inv.list (I:Inv X pins σ H s)(h:SqL X.K H a xs):∃its:List Value,aR xs its/\PlainL s.heap a its.toArray/\xs.length<=Fk:=by
 rcases h with h|⟨o,its,n,hk,hc,hd,hs,hz,r⟩
 ·obtain⟨z,its,n,r,e⟩:=h.ok I.hok
  exact⟨its,r,⟨_,n,e,rfl,rfl,rfl⟩,z⟩
 ·refine⟨its.toList,r,⟨o,n,I.kIn a o hk,hc,hd,by simpa using hs⟩,?_⟩
  have e:=r.length
  simp only[Iy]at e
  omega
theorem Inv.tuple (I:Inv X pins σ H s)(h:SqT X.K H a xs):∃its:List Value,aR xs its/\IsTup s.heap a its.toArray/\xs.length<=Fk:=by
 rcases h with h|⟨o,its,n,hk,hc,hs,hz,r⟩
 ·obtain⟨z,its,r,p⟩:=h.ok I.hok
  exact⟨its,r,p,z⟩
 ·refine⟨its.toList,r,⟨o,I.kIn a o hk,hc,n,by simpa using hs⟩,?_⟩
  have e:=r.length
  simp only[Iy]at e
  omega
theorem Inv.list_inj (I:Inv X pins σ H s)(h:SqL X.K H a xs)(h':SqL X.K H a ys):xs=ys:=by
 obtain⟨its,r,⟨o,n,e,_,_,d⟩,_⟩:=I.list h
 obtain⟨its',r',⟨o',n',e',_,_,d'⟩,_⟩:=I.list h'
 rw[e]at e';cases e'
 rw[d]at d'
 injection d' with d1 _
 have:its=its':=by simpa using G5 Array.toList d1
 subst this
 exact r.inj r'
theorem Inv.tuple_inj (I:Inv X pins σ H s)(h:SqT X.K H a xs)(h':SqT X.K H a ys):xs=ys:=by
 obtain⟨its,r,⟨o,e,_,n,d⟩,_⟩:=I.tuple h
 obtain⟨its',r',⟨o',e',_,n',d'⟩,_⟩:=I.tuple h'
 rw[e]at e';cases e'
 rw[d]at d'
 injection d' with d1 _
 have:its=its':=by simpa using G5 Array.toList d1
 subst this
 exact r.inj r'
end
abbrev Cx.wish (X:Cx)(E:Value->Fh->Prop):Cx:={ X with xe:=E }
abbrev Cx.nox (X:Cx):Cx:=X.wish λ_ _=>False
theorem Cx.Ok.wish {X:Cx}(ok:X.Ok)(E:Value->Fh->Prop):(X.wish E).Ok :=
 ⟨ok.mod,ok.kind,ok.glob,ok.blt,ok.above,ok.inj,ok.has,ok.cab,ok.hd,ok.frames,ok.stk,ok.exf,ok.bs,ok.bsz,ok.noex,ok.exfs,ok.funs,ok.frf⟩
theorem Cx.Ok.unwish {X:Cx}{E:Value->Fh->Prop}(ok:(X.wish E).Ok):X.Ok :=
 ⟨ok.mod,ok.kind,ok.glob,ok.blt,ok.above,ok.inj,ok.has,ok.cab,ok.hd,ok.frames,ok.stk,ok.exf,ok.bs,ok.bsz,ok.noex,ok.exfs,ok.funs,ok.frf⟩
section
variable  {X:Cx}{pins:List (Fi×Obj)}{σ:St}{H:Hp}{s:Fh}{E:Value->Fh->Prop}
theorem Inv.wish (I:Inv X pins σ H s)(E:Value->Fh->Prop):Inv (X.wish E) pins σ H s:=⟨I.ok.wish E,I.os,I.bare,I.base,I.loc,I.cell,I.free,I.freeC,I.pin,I.hok,I.len⟩
theorem Inv.unwish (I:Inv (X.wish E) pins σ H s):Inv X pins σ H s:=⟨I.ok.unwish,I.os,I.bare,I.base,I.loc,I.cell,I.free,I.freeC,I.pin,I.hok,I.len⟩
theorem SP.unwish {D:oa}{f:Flow}{s':Fh}(h:SP (X.wish E) pins D f s'):SP X pins D f s':=by
 cases f with
 |next=>obtain⟨σ',H',I,q⟩:=h;exact⟨σ',H',I.unwish,q⟩
 |brk=>obtain⟨σ',H',I,q⟩:=h;exact⟨σ',H',I.unwish,q⟩
 |cont=>obtain⟨σ',H',I,q⟩:=h;exact⟨σ',H',I.unwish,q⟩
 |ret u=>obtain⟨v,σ',H',I,r,q⟩:=h;exact⟨v,σ',H',I.unwish,r,q⟩
theorem PSs.nox {st:List Hy}{t:TS}(h:PSs X.nox st t):PSs X st t:=λpins s σ H D I hw =>
 IY (h pins s σ H D (I.wish _) hw) (λ_ _ q=>q.unwish) λ_ _ z=>G1 z
end
section
variable  {X:Cx}{st:Hy}{gO:List Hy}{t u:TS}{e:Expr}{te:TE}{pos:Pos}
def nt:TS:=λD σ H=>D.nx σ H
def AA (t u:TS):TS:=λD σ H=>t { D with nx:=u D } σ H
theorem aI:PSs X [] nt:=λ_ _ σ H _ I h=>wpAny_execs_nil ⟨σ,H,I,h⟩
theorem ad (h1:PS X st t)(h2:PSs X gO u):PSs X (st :: gO) (AA t u):=by
 intro pins s σ H D I h
 refine wpAny_execs_cons (thn (h1 pins s σ H { D with nx:=u D } I h) λf s1 q=>?_)
 cases f with
 |next =>
  obtain⟨σ',H',I',q⟩:=q
  exact h2 pins s1 σ' H' D I' q
 |ret v=>exact q
 |brk=>exact q
 |cont=>exact q
theorem ae (h1:PS X st t):PSs X [st] t:=by
 intro pins s σ H D I h
 refine wpAny_execs_cons (thn (h1 pins s σ H D I h) λf s1 q=>?_)
 cases f with
 |next=>exact wpAny_execs_nil q
 |ret v=>exact q
 |brk=>exact q
 |cont=>exact q
theorem Inv.quiet {pins:List (Fi×Obj)}{σ:St}{H:Hp}{s:Fh}(I:Inv X pins σ H s):interactive X.env=false:=by simp[interactive,I.ok.kind]
def z8 (te:TE):TS:=λD σ H=>te σ H λ_ H1=>D.nx σ H1
theorem jb (he:PE X e te)(hs:swapsWith e none pos.line X.env=pure false:=by rfl):PS X (.Expr e pos) (z8 te):=by
 intro pins s σ H D I h
 exact wpAny_Expr_any (thn (he pins s σ H _ I h) λv s1 ⟨x,H1,I1,r1,q1⟩=>⟨σ,H1,I1,q1⟩) I.quiet hs
def mO (te:TE):TS:=λD σ H=>te σ H D.rt
theorem ak (he:PE X e te):PS X (.Return (some e) pos) (mO te):=by
 intro pins s σ H D I h
 exact wpAny_Return_some (thn (he pins s σ H _ I h) λv s1 ⟨x,H1,I1,r1,q1⟩=>⟨x,σ,H1,I1,r1,q1⟩)
def tp (c:TT)(t u:TS):TS:=λD σ H=>c σ H λb H1=>if b=true then t D σ H1 else u D σ H1
theorem aX {c:Expr}{a b:List Hy}{tc:TT}(hc:PT X c tc)(ha:PSs X a t)(hb:PSs X b u):PS X (.If c a b pos) (tp tc t u):=by
 intro pins s σ H D I h
 refine wpAny_If (thn (hc pins s σ H _ I h) λd s1 ⟨H1,I1,q1⟩=>?_)
 cases d with
 |true=>exact ha pins s1 σ H1 D I1 q1
 |false=>exact hb pins s1 σ H1 D I1 q1
end
abbrev TG:=V->St->Hp->(St->Hp->Prop)->Prop
abbrev TGs:=List V->St->Hp->(St->Hp->Prop)->Prop
def PG (X:Cx)(target:Expr)(t:TG):Prop :=
 ∀(pins:List (Fi×Obj)) (s:Fh) (σ:St) (H:Hp) (v:V) (u:Value) (Q:St->Hp->Prop),Inv X pins σ H s->aZ v u->t v σ H Q ->
  FV (Gj X.prog X.w) X.A (assign target X.env u) (λ_ s'=>∃σ' H',Inv X pins σ' H' s'/\Q σ' H') X.xe s
def PGs (X:Cx)(ts:List Expr)(t:TGs):Prop :=
 ∀(pins:List (Fi×Obj)) (s:Fh) (σ:St) (H:Hp) (vs:List V) (us:List Value) (Q:St->Hp->Prop),Inv X pins σ H s->aR vs us->t vs σ H Q ->
  FV (Gj X.prog X.w) X.A (assignInOrder ((assignEach ts X.env).map (·.2)) us) (λ_ s'=>∃σ' H',Inv X pins σ' H' s'/\Q σ' H') X.xe s
abbrev A6:=V->V->V->Hp->(Hp->Prop)->Prop
def Dj (X:Cx)(t:A6):Prop :=
 ∀(pins:List (Fi×Obj)) (s:Fh) (σ:St) (H:Hp) (o i v:V) (ov iv u:Value) (Q:Hp->Prop),Inv X pins σ H s->aZ o ov->aZ i iv->aZ v u->t o i v H Q ->
  FV (Gj X.prog X.w) X.A (setItem ov iv u) (λ_ s'=>∃H',Inv X pins σ H' s'/\Q H') X.xe s
abbrev TIp:=V->V->Hp->VK->Prop
def PIp (X:Cx)(op:Operator)(t:TIp):Prop :=
 ∀(pins:List (Fi×Obj)) (s:Fh) (σ:St) (H:Hp) (x y:V) (v u:Value) (Q:VK),Inv X pins σ H s->aZ x v->aZ y u->t x y H Q ->
  FV (Gj X.prog X.w) X.A (inplaceOp op v u) (EP X pins σ Q) X.xe s
section
variable  {X:Cx}{pos:Pos}
def oP (i:Nat):TG:=λv σ H Q=>Q (σ.set i (some v)) H
theorem au {i:Nat}{x:Str}(hN:X.N.Nodup)(hi:X.N[i]? = some x)(hx:Loc X.env.scope x)(hf:X.fn x=true\/X.env.scope.names.lookup x=some .local:=by first|exact .inl rfl|exact .inr rfl|assumption):PG X (.Name x pos) (oP i):=by
 intro pins s σ H v u Q I r h
 exact wpAny_assign_Name (mo I hN hi hx r (λs' I'=>⟨_,H,I',h⟩) hf)
def BY:TGs:=λvs σ H Q=>vs=[]/\Q σ H
def wH (t:TG)(u:TGs):TGs:=λvs σ H Q=>∃v r,vs=v :: r/\t v σ H λσ' H'=>u r σ' H' Q
theorem bR:PGs X [] BY:=by
 intro pins s σ H vs us Q I r h
 obtain⟨e,h⟩:=h
 subst e
 cases r
 exact assignInOrder_nil ⟨σ,H,I,h⟩
theorem aK {e:Expr}{es:List Expr}{t:TG}{u:TGs}(h1:PG X e t)(h2:PGs X es u)
  (hs:(assignEach (e :: es) X.env).map (·.2)=assign e X.env :: (assignEach es X.env).map (·.2):=by rfl):PGs X (e :: es) (wH t u):=by
 intro pins s σ H vs us Q I r h
 obtain⟨v,vr,e1,h⟩:=h
 subst e1
 cases r with
 |cons r rr =>
  rw[hs]
  refine assignInOrder_cons (thn (h1 pins s σ H _ _ _ I r h) λ_ s1 ⟨σ1,H1,I1,q1⟩=>?_)
  exact h2 pins s1 σ1 H1 _ _ Q I1 rr q1
def DY (K:GC)(n:Nat)(t:TGs):TG:=λv σ H Q=>∃a xs,v=.ref a/\SqT K H a xs/\xs.length=n/\t xs σ H Q
theorem cO {es:List Expr}{k:Nat}{t:TGs}{n:Nat}(hc:X.calm=true)(h:PGs X es t)
  (hn:(assignEach es X.env).length=n:=by rfl) (hst:(assignEach es X.env).findIdx? (·.1)=none:=by rfl):PG X (.Tuple es k pos) (DY X.K n t):=by
 intro pins s σ H v u Q I r hw
 obtain⟨a,xs,e1,hq,hl,hw⟩:=hw
 subst e1
 cases r
 obtain⟨its,rv,ht,hz⟩:=I.tuple hq
 refine assign_Tuple_tuple (I.ok.hd hc) ht (by simp[hn,<-hl,rv.length]) hst λh' hx=>?_
 have I1:Inv X pins σ H { s with heap:=h' }:=I.kept (t':=s.toks) λb o e=>hx b o (Ga (Fv e)) e
 exact h pins _ σ H xs _ Q I1 (by simpa using rv) hw
def Fd (to ti:TE)(t:A6):TG:=λv σ H Q=>to σ H λo H1=>ti σ H1 λi H2=>t o i v H2 λH3=>Q σ H3
theorem wB {o i:Expr}{to ti:TE}{t:A6}(ho:PE X o to)(hi:PE X i ti)(hs:Dj X t)
  (ha:∀v,assign (.Subscript o i pos) X.env v=(do
   let ov <-holding [v] (Jd o X.env)
   let iv <-holding [v,ov] (Jd i X.env)
   standAt pos
   holding [v,ov,iv] (setItem ov iv v)
   release [v,ov,iv] []):=by intro _;rfl):PG X (.Subscript o i pos) (Fd to ti t):=by
 intro pins s σ H v u Q I r h
 rw[ha]
 refine Fg (wpAny_holding (thn (ho pins s σ H _ I h) λov s1 ⟨x,H1,I1,r1,q1⟩=>?_))
 refine Fg (wpAny_holding (thn (hi pins s1 σ H1 _ I1 q1) λiv s2 ⟨y,H2,I2,r2,q2⟩=>?_))
 refine Fg (wpAny_standAt (Fg (wpAny_holding (thn (hs pins s2 σ H2 x y v ov iv u _ I2 r1 r2 r q2) λ_ s3 ⟨H3,I3,q3⟩=>?_))))
 exact wpAny_release ⟨σ,H3,I3,q3⟩
def AO (te:TE)(g:TG):TS:=λD σ H=>te σ H λx H1=>g x σ H1 D.nx
theorem xz {tg e:Expr}{te:TE}{g:TG}(he:PE X e te)(hg:PG X tg g)(hs:swapsWithSole [tg] e pos.line X.env=pure false:=by rfl)(hw:swappedStores [tg] e X.env=pure none:=by rfl)
  (h1:(assignEach [tg] X.env).map (·.2)=[assign tg X.env]:=by rfl):PS X (.Assign [tg] e pos) (AO te g):=by
 intro pins s σ H D I h
 refine wpAny_Assign_stores (thn (he pins s σ H _ I h) λv s1 ⟨x,H1,I1,r1,q1⟩=>?_) hs hw
 rw[h1]
 exact thn (hg pins s1 σ H1 x v _ I1 r1 q1) λ_ s2 q=>q
theorem aB {i:Nat}{x:Str}{e:Expr}{te:TE}{pos':Pos}(hN:X.N.Nodup)(hi:X.N[i]? = some x)(hx:Loc X.env.scope x)(he:PE X e te)(hs:swapsWith e (some (.Name x pos')) pos.line X.env=pure false:=by rfl)(hf:X.fn x=true\/X.env.scope.names.lookup x=some .local:=by first|exact .inl rfl|exact .inr rfl|assumption) :
  PS X (.Assign [.Name x pos'] e pos) (AO te (oP i)):=by
 intro pins s σ H D I h
 refine wpAny_Assign_Name (thn (he pins s σ H _ I h) λv s1 ⟨y,H1,I1,r1,q1⟩=>?_) hs
 exact mo I1 hN hi hx r1 (λs2 I2=>⟨_,H1,I2,q1⟩) hf
def EK (i:Nat)(te:TE)(ti:TIp):TS:=λD σ H=>∃x,σ[i]? = some (some x)/\te σ H λy H1=>ti x y H1 λz H2=>D.nx (σ.set i (some z)) H2
theorem wn {i:Nat}{x:Str}{e:Expr}{te:TE}{op:Operator}{ti:TIp}{pos':Pos}(hN:X.N.Nodup)(hi:X.N[i]? = some x)(hx:Loc X.env.scope x)(he:PE X e te)(ho:PIp X op ti)(hf:X.fn x=true\/X.env.scope.names.lookup x=some .local:=by first|exact .inl rfl|exact .inr rfl|assumption) :
  PS X (.AugAssign (.Name x pos') op e pos) (EK i te ti):=by
 intro pins s σ H D I h
 obtain⟨v,e1,h⟩:=h
 obtain⟨m,hn,hl⟩:=I.loc
 have vis:Vis X.env.scope x:=by rcases hx with k|k;exact .inl k;exact .inr (.inl k)
 obtain⟨u,r,l⟩:=hl i x v hi e1 vis
 refine wpAny_AugAssign_Name ?_
 have go:FV (Gj X.prog X.w) X.A (Jd e X.env) (λw s₂=>FV (Gj X.prog X.w) X.A (inplaceOp op u w) (λr s₃=>FV (Gj X.prog X.w) X.A (storeName X.env x r) (λ_=>SP X pins D .next) X.xe s₃) X.xe s₂) X.xe s:=by
  refine thn (he pins s σ H _ I h) λw s1 ⟨y,H1,I1,r1,q1⟩=>?_
  refine thn (ho pins s1 σ H1 v y u w _ I1 r r1 q1) λz s2 ⟨zv,H2,I2,r2,q2⟩=>?_
  exact mo I2 hN hi hx r2 (λs3 I3=>⟨_,H2,I3,q2⟩) hf
 rcases l with⟨hk,hm⟩|⟨hk,c,hc,hcell⟩
 ·exact wpAny_loadName_local I.ok.kind hk hn hm go
 ·rcases hk with hk|hk
  ·exact wpAny_loadName_cell I.ok.kind hk hc hcell go
  ·rcases hx with k|k
   ·have:X.env.scope.names.lookup x=some .free:=hk
    rw[k]at this;cases this
   ·have:X.env.scope.names.lookup x=some .free:=hk
    rw[k]at this;cases this
def ipI (f:Int->Int->Int):TIp:=λx y H Q=>∃i j,x=.int i/\y=.int j/\Q (.int (f i j)) H
theorem xT:PIp X .Add (ipI λi j=>i+j):=by
 intro pins s σ H x y v u Q I r1 r2 h
 obtain⟨i,j,e1,e2,q⟩:=h
 subst e1;subst e2
 obtain⟨t,rfl⟩:=r1
 obtain⟨t',rfl⟩:=r2
 exact iadd_int ⟨.int _,H,I.tok _,⟨_,rfl⟩,q⟩
end
section
variable  {X:Cx}{pos:Pos}
def AJ (c:TT)(tb:TS):TS:=λD σ H=>∃W:Nat->St->Hp->Prop,(∃m,W m σ H)/\∀m σ H,W m σ H ->
 c σ H λb H1=>if b=true then ∃N:St->Hp->Prop,(∀σ' H',N σ' H'->∃m',m'<m/\W m' σ' H')/\tb { D with nx:=N,ct:=N,bk:=D.nx } σ H1 else D.nx σ H1
theorem mS {c:Expr}{body:List Hy}{tc:TT}{tb:TS}(hp:PassesOwn (Gj X.prog X.w) X.A X.env X.xe)(hc:PT X c tc)(hb:PSs X body tb):PS X (.While c body [] pos) (AJ tc tb):=by
 intro pins s σ H D I h
 obtain⟨W,⟨m0,w0⟩,turn⟩:=h
 refine wpAny_While (codeAny_whileLoop (λn s'=>∃σ' H',Inv X pins σ' H' s'/\W n σ' H') ?_ m0 ⟨σ,H,I,w0⟩)
 rintro n s1 ⟨σ1,H1,I1,w1⟩
 refine Io hp (thn (hc pins s1 σ1 H1 _ I1 (turn n σ1 H1 w1)) λb s2 ⟨H2,I2,q2⟩=>?_)
 cases b with
 |true =>
  obtain⟨N,hN,q2⟩:=q2
  rw[Fs rfl]
  refine Io hp (thn (hb pins s2 σ1 H2 _ I2 q2) λf s3 q3=>?_)
  cases f with
  |next =>
   obtain⟨σ3,H3,I3,n3⟩:=q3
   obtain⟨m',hm,w3⟩:=hN σ3 H3 n3
   exact⟨m',hm,σ3,H3,I3,w3⟩
  |cont =>
   obtain⟨σ3,H3,I3,n3⟩:=q3
   obtain⟨m',hm,w3⟩:=hN σ3 H3 n3
   exact⟨m',hm,σ3,H3,I3,w3⟩
  |brk=>exact q3
  |ret v=>exact q3
 |false =>
  rw[Fl Fy]
  exact wpAny_execs_nil ⟨σ1,H2,I2,q2⟩
end
structure It where
 go:Nat->Hp->Prop
 yld:Nat->Hp->V->Hp->Prop
 stop:Nat->Hp->Prop
def lP (X:Cx)(pins:List (Fi×Obj))(H:Hp)(b:Fi):Prop :=
 H b=none/\b≠X.env.locals/\b∉X.fs/\(b∈X.ex\/X.s_0.heap.objs.size<=b)/\(∀x c,X.env.cells.lookup x=some c->c≠b)/\∀p∈X.pn++pins,p.1≠b
theorem Inv.fpOk {X:Cx}{pins:List (Fi×Obj)}{σ:St}{H H':Hp}{s:Fh}{b:Fi}(I:Inv X pins σ H s)(hb:s.heap.objs.size<=b)(hn:H' b=none):lP X pins H' b:=by
 refine⟨hn,Hu (FF I.lt hb),I.nofs hb,.inr (Gb I.sz hb),λx c e z=>?_,λp hp z=>?_⟩
 ·obtain⟨v,q⟩:=I.cell x c e
  exact absurd (FF q.lt (by rw[z];exact hb)) (Hj _)
 ·exact absurd (FF (Fv (I.pin p hp).1) (by rw[z];exact hb)) (Hj _)
structure mU (P:FW)(w:G0)(K:GC)(tg:Expr)(J:It)(fp:List Fi)(it:Fi)(tn:Nat->Heap->Prop):Prop where
 mem:it∈fp
 obj:∀i h,tn i h->∀b∈fp,∃o,h.get? b=some o/\∀v,o.data≠.cell v
 keep:∀i h h',tn i h->(∀b∈fp,∀o,h.get? b=some o->h'.get? b=some o)->tn i h'
 item:∀(X:Cx),X.prog=P->X.w=w->X.K=K->X.calm=true->∀(i:Nat) (pins:List (Fi×Obj)) (s:Fh) (σ:St) (H:Hp) (E:Value->Fh->Prop),Inv X pins σ H s->(∀b∈fp,lP X pins H b)->tn i s.heap->J.go i H ->
  FV (Gj P w) X.A (pyNext (.ref it)) (λr s1=>∃u,r=some u /\
   FV (Gj P w) X.A (letOwnedTupleGo tg (.ref it) u) (λ_ s2=>∃x H',Inv X pins σ H' s2/\aZ x u/\J.yld i H x H'/\tn (i+1) s2.heap/\∀b∈fp,H' b=none) E s1) E s
 done:∀(X:Cx),X.prog=P->X.w=w->X.K=K->X.calm=true->∀(i:Nat) (pins:List (Fi×Obj)) (s:Fh) (σ:St) (H:Hp) (E:Value->Fh->Prop),Inv X pins σ H s->(∀b∈fp,lP X pins H b)->tn i s.heap->J.stop i H ->
  FV (Gj P w) X.A (pyNext (.ref it)) (λr s1=>r=none/\Inv X pins σ H s1) E s
 self:∀(A:Around) (i:Nat) (s:Fh) (Q:Value->Fh->Prop) (E:Value->Fh->Prop),tn i s.heap->Q (.ref it) s->FV (Gj P w) A (pyIter (.ref it)) Q E s
abbrev TI:=St->Hp->(It->Hp->Prop)->Prop
def PIE (X:Cx)(pins:List (Fi×Obj))(σ:St)(tg:Expr)(R:It->Hp->Prop)(itv:Value)(s2:Fh):Prop :=
 ∃(it:Fi) (fp:List Fi) (tn:Nat->Heap->Prop) (J:It) (H':Hp),itv=.ref it/\Inv X pins σ H' s2/\mU X.prog X.w X.K tg J fp it tn/\tn 0 s2.heap/\(∀b∈fp,lP X pins H' b)/\R J H'
def PI (X:Cx)(tg aD:Expr)(wi:TI):Prop :=
 ∀(pins:List (Fi×Obj)) (s:Fh) (σ:St) (H:Hp) (R:It->Hp->Prop),Inv X pins σ H s->wi σ H R ->
  FV (Gj X.prog X.w) X.A (Jd aD X.env) (λv s1=>FV (Gj X.prog X.w) X.A (pyIter v) (PIE X pins σ tg R) X.xe s1) X.xe s
theorem mr {M:Model}{A:Around}{E:Value->Fh->Prop}{s:Fh}{tg:Expr}{it:Fi}{u:Value}{o:Obj}{n:String}{vs:Array Value}{Q:Unit->Fh->Prop}(ho:s.heap.get? it=some o)(hc:o.cls=.type n)(hd:o.data=.fields vs)
  (hn:["enumerate","zip","dict_itemiterator","dict_reverseitemiterator","odict_iterator","itertools.zip_longest","itertools.pairwise"].contains n=false) (hQ:Q () s):FV M A (letOwnedTupleGo tg (.ref it) u) Q E s:=by
 unfold letOwnedTupleGo
 cases tg<;>first
  |exact FD hQ
  |(cases u<;>first
    |exact FD hQ
    |(refine Fg (wpAny_load ho ?_)
      rw[hc,hd]
      show FV M A (if (["enumerate","zip","dict_itemiterator","dict_reverseitemiterator","odict_iterator","itertools.zip_longest","itertools.pairwise"].contains n&&vs[0]?==some (rawInt _))=true then _ else _) Q E s
      rw[Fl (by intro h;rw[hn,Go]at h;cases h)]
      exact FD hQ))
def Itl (K:GC)(a:Fi):It :=
 ⟨λi H=>∃xs x,SqL K H a xs/\xs[i]? = some x,λi H x H'=>H'=H/\∀xs,SqL K H a xs->xs[i]? = some x,λi H=>∃xs,SqL K H a xs/\xs.length<=i⟩
def Itt (K:GC)(a:Fi):It :=
 ⟨λi H=>∃xs x,SqT K H a xs/\xs[i]? = some x,λi H x H'=>H'=H/\∀xs,SqT K H a xs->xs[i]? = some x,λi H=>∃xs,SqT K H a xs/\xs.length<=i⟩
def Itr (lo:Int)(n:Nat):It:=⟨λi _=>i<n,λi H x H'=>H'=H/\x=.int (lo+i),λi _=>n<=i⟩
theorem vm {P:FW}{w:G0}{K:GC}{tg:Expr}(a it:Fi):mU P w K tg (Itl K a) [it] it (λi h=>h.IsListIter it a i) where
 mem:=by simp
 obj:=λi h st b hb=>by
  have e:b=it:=by simpa using hb
  subst e
  obtain⟨o,e,c,d⟩:=st
  exact⟨o,e,λv z=>by rw[d]at z;cases z⟩
 keep:=λi h h' st k=>st.at λo e=>k it (by simp) o e
 item:=by
  intro X hP hw hK hc i pins s σ H E I hf st hg
  subst hP hw hK
  obtain⟨xs,x,hq,hx⟩:=hg
  obtain⟨its,rv,p,hz⟩:=I.list hq
  obtain⟨u,hu,ru⟩:=rv.get hx
  obtain⟨f0,f1,f2,f3,f4,f5⟩:=hf it (by simp)
  refine wpAny_pyNext_list_item st p.isList (x:=u) (by simpa using hu) λh' st' sb=>?_
  have I1:Inv X pins σ H { s with heap:=h' }:=I.turned (t':=s.toks) (λb o hb e=>(sb.2 b hb).trans e) f0 f1 f3 f4 f5
  obtain⟨o,e,c,d⟩:=id st'
  exact⟨u,rfl,mr (s:={ s with heap:=h' }) e c d (by decide) ⟨x,H,I1,ru,⟨rfl,λys hy=>by rw[I.list_inj hy hq];exact hx⟩,st',λb hb=>(hf b hb).1⟩⟩
 done:=by
  intro X hP hw hK hc i pins s σ H E I hf st hg
  subst hP hw hK
  obtain⟨xs,hq,hx⟩:=hg
  obtain⟨its,rv,p,hz⟩:=I.list hq
  obtain⟨f0,f1,f2,f3,f4,f5⟩:=hf it (by simp)
  have hl:=rv.length
  exact wpAny_pyNext_list_end (I.ok.hd hc) st p.isList (by simp;omega) λh' eb=>⟨rfl,I.turned (t':=s.toks) (λb o hb e=>eb b o hb e) f0 f1 f3 f4 f5⟩
 self:=λ_ _ _ _ _ st h=>wpAny_pyIter_listiter st h
theorem tK {P:FW}{w:G0}{K:GC}{tg:Expr}(a it:Fi):mU P w K tg (Itt K a) [it] it (λi h=>h.IsTupleIter it a i) where
 mem:=by simp
 obj:=λi h st b hb=>by
  have e:b=it:=by simpa using hb
  subst e
  obtain⟨o,e,c,d⟩:=st
  exact⟨o,e,λv z=>by rw[d]at z;cases z⟩
 keep:=λi h h' st k=>st.at λo e=>k it (by simp) o e
 item:=by
  intro X hP hw hK hc i pins s σ H E I hf st hg
  subst hP hw hK
  obtain⟨xs,x,hq,hx⟩:=hg
  obtain⟨its,rv,p,hz⟩:=I.tuple hq
  obtain⟨u,hu,ru⟩:=rv.get hx
  obtain⟨f0,f1,f2,f3,f4,f5⟩:=hf it (by simp)
  refine wpAny_pyNext_tuple_item st (show s.heap.IsTuple a its.toArray from p) (x:=u) (by simpa using hu) λh' st' sb=>?_
  have I1:Inv X pins σ H { s with heap:=h' }:=I.turned (t':=s.toks) (λb o hb e=>(sb.2 b hb).trans e) f0 f1 f3 f4 f5
  obtain⟨o,e,c,d⟩:=id st'
  exact⟨u,rfl,mr (s:={ s with heap:=h' }) e c d (by decide) ⟨x,H,I1,ru,⟨rfl,λys hy=>by rw[I.tuple_inj hy hq];exact hx⟩,st',λb hb=>(hf b hb).1⟩⟩
 done:=by
  intro X hP hw hK hc i pins s σ H E I hf st hg
  subst hP hw hK
  obtain⟨xs,hq,hx⟩:=hg
  obtain⟨its,rv,p,hz⟩:=I.tuple hq
  obtain⟨f0,f1,f2,f3,f4,f5⟩:=hf it (by simp)
  have hl:=rv.length
  exact wpAny_pyNext_tuple_end (I.ok.hd hc) st (show s.heap.IsTuple a its.toArray from p) (by simp;omega) λh' eb=>⟨rfl,I.turned (t':=s.toks) (λb o hb e=>eb b o hb e) f0 f1 f3 f4 f5⟩
 self:=λ_ _ _ _ _ st h=>wpAny_pyIter_tupleiter st h
theorem sZ {P:FW}{w:G0}{K:GC}{tg:Expr}(it:Fi)(lo:Int)(n:Nat):mU P w K tg (Itr lo n) [it] it (λi h=>IsRangeIter h it (lo+(i:Nat)*1) ((n:Int)-(i:Nat)) 1) where
 mem:=by simp
 obj:=λi h st b hb=>by
  have e:b=it:=by simpa using hb
  subst e
  exact⟨_,st,λv z=>by
   have z':Data.fields _=Data.cell v:=z
   cases z'⟩
 keep:=λi h h' st k=>k it (by simp) _ st
 item:=by
  intro X hP hw hK hc i pins s σ H E I hf st hg
  subst hP hw hK
  obtain⟨f0,f1,f2,f3,f4,f5⟩:=hf it (by simp)
  have W:=Walks.range (prog:=X.prog) (w:=X.w) (I.ok.hd hc) it lo 1 n
  refine W.item i s _ _ hg st λv h' tk hv st' kk=>?_
  obtain⟨t,rfl⟩:=hv
  have I1:Inv X pins σ H { s with heap:=h',toks:=tk }:=I.turned (λb o hb e=>kk b o (by simpa using hb) e) f0 f1 f3 f4 f5
  refine⟨_,rfl,mr (s:={ s with heap:=h',toks:=tk }) (n:="range_iterator") st' rfl rfl (by decide) ⟨.int (lo+i),H,I1,⟨t,?_⟩,⟨rfl,rfl⟩,st',λb hb=>(hf b hb).1⟩⟩
  rw[Int.mul_one]
 done:=by
  intro X hP hw hK hc i pins s σ H E I hf st hg
  subst hP hw hK
  obtain⟨f0,f1,f2,f3,f4,f5⟩:=hf it (by simp)
  exact wpAny_pyNext_range_end (I.ok.hd hc) st (by have:n<=i:=hg;omega) λh' eb=>⟨rfl,I.turned (t':=s.toks) (λb o hb e=>eb b o hb e) f0 f1 f3 f4 f5⟩
 self:=λ_ _ _ _ _ st h=>wpAny_pyIter_rangeiter st h
end L2
namespace L2
open PySem PySem.Spec PyProof.Rows
section
variable  {X:Cx}{tg:Expr}
def Eh (K:GC)(tl:TE):TI:=λσ H R=>tl σ H λx H1=>∃a,x=.ref a/\(∃xs,SqL K H1 a xs)/\R (Itl K a) H1
def EQ (K:GC)(tl:TE):TI:=λσ H R=>tl σ H λx H1=>∃a,x=.ref a/\(∃xs,SqT K H1 a xs)/\R (Itt K a) H1
theorem bL {l:Expr}{tl:TE}(hl:PE X l tl):PI X tg l (Eh X.K tl):=by
 intro pins s σ H R I h
 refine thn (hl pins s σ H _ I h) λv s1 ⟨x,H1,I1,r1,q1⟩=>?_
 obtain⟨a,e,⟨xs,hq⟩,q⟩:=q1
 subst e
 cases r1
 obtain⟨its,rv,p,hz⟩:=I1.list hq
 refine wpAny_pyIter_list p.isList ?_
 refine⟨s1.heap.objs.size,[s1.heap.objs.size],_,_,H1,rfl,I1.kept (t':=s1.toks) λb o e=>Ft _ e,vm a _,⟨_,FK _ rfl,rfl,rfl⟩,λb hb=>?_,q⟩
 have e:b=s1.heap.objs.size:=by simpa using hb
 subst e
 exact I1.fpOk (nlr _) (I1.hok.fresh (nlr _))
theorem sI {l:Expr}{tl:TE}(hl:PE X l tl):PI X tg l (EQ X.K tl):=by
 intro pins s σ H R I h
 refine thn (hl pins s σ H _ I h) λv s1 ⟨x,H1,I1,r1,q1⟩=>?_
 obtain⟨a,e,⟨xs,hq⟩,q⟩:=q1
 subst e
 cases r1
 obtain⟨its,rv,p,hz⟩:=I1.tuple hq
 refine wpAny_pyIter_tuple (show s1.heap.IsTuple a its.toArray from p) ?_
 refine⟨s1.heap.objs.size,[s1.heap.objs.size],_,_,H1,rfl,I1.kept (t':=s1.toks) λb o e=>Ft _ e,tK a _,⟨_,FK _ rfl,rfl,rfl⟩,λb hb=>?_,q⟩
 have e:b=s1.heap.objs.size:=by simpa using hb
 subst e
 exact I1.fpOk (nlr _) (I1.hok.fresh (nlr _))
theorem rC {pins:List (Fi×Obj)}{σ:St}{H:Hp}{s:Fh}{R:It->Hp->Prop}{E:Value->Fh->Prop}{lo hi:Int}{t u v:Tok}{tk:Nat}(I:Inv X pins σ H s)(h1:-(2 ^ 62)<=lo)(h2:lo<2 ^ 62)(h3:-(2 ^ 62)<=hi)(h4:hi<2 ^ 62)
  (q:R (Itr lo (hi-lo).toNat) H):FV (Gj X.prog X.w) X.A (pyIter (.ref s.heap.objs.size)) (PIE X pins σ tg R) E { s with heap:=s.heap.push { cls:=.type "range",data:=.fields #[.int lo t,.int hi u,.int 1 v] },toks:=tk }:=by
 refine wpAny_pyIter_range (IsRange.new ..) (small_one h1 h2 h3 h4) ?_
 have I1:Inv X pins σ H { s with heap:=s.heap.push { cls:=.type "range",data:=.fields #[.int lo t,.int hi u,.int 1 v] },toks:=tk }:=I.kept λb o e=>Ft _ e
 refine⟨(s.heap.push { cls:=.type "range",data:=.fields #[.int lo t,.int hi u,.int 1 v] }).objs.size,[(s.heap.push { cls:=.type "range",data:=.fields #[.int lo t,.int hi u,.int 1 v] }).objs.size],_,_,H,rfl,
  I1.kept (t':=tk) λb o e=>Ft _ e,sZ _ lo (hi-lo).toNat,?_,λb hb=>?_,q⟩
 ·have e1:lo+((0:Nat):Int)*1=lo:=by simp
  have e2:(((hi-lo).toNat:Nat):Int)-((0:Nat):Int)=HK lo hi 1:=by rw[rangeSize_one];split<;>omega
  show IsRangeIter _ _ (lo+((0:Nat):Int)*1) ((((hi-lo).toNat:Nat):Int)-((0:Nat):Int)) 1
  rw[e1,e2]
  exact FK _ rfl
 ·have e:b=(s.heap.push { cls:=.type "range",data:=.fields #[.int lo t,.int hi u,.int 1 v] }).objs.size:=by simpa using hb
  subst e
  exact I1.fpOk (nlr _) (I1.hok.fresh (nlr _))
def Ce (ta:TA):TI:=λσ H R=>ta σ H λvs H1=>∃j:Int,vs=[.int j]/\-(2 ^ 62)<=j/\j<2 ^ 62/\R (Itr 0 j.toNat) H1
def DH (ta:TA):TI:=λσ H R=>ta σ H λvs H1=>∃i j:Int,vs=[.int i,.int j]/\(-(2 ^ 62)<=i/\i<2 ^ 62/\-(2 ^ 62)<=j/\j<2 ^ 62)/\R (Itr i (j-i).toNat) H1
theorem oo {a:Expr}{ta:TA}{p pos:Pos} (hg:Gl X "range") (hm:X.mg "range"=none) (ha:PA X [a] ta) (hs:FU [a] X.env=[(false,Jd a X.env)]:=by rfl):PI X tg (.Call (.Name "range" p) [a] [] pos) (Ce ta):=by
 intro pins s σ H R I h
 refine Call_ (gp I hg hm boot_range (Gm (thn (ha pos pins s σ H _ I h) λus s1 ⟨vs,H1,I1,r1,q1⟩=>?_) hs rfl))
 obtain⟨j,e,q1,q2,q⟩:=q1
 subst e
 cases r1 with
 |cons r rr =>
  cases rr
  obtain⟨t,rfl⟩:=r
  exact call_range_1 (rC I1 (by omega) (by omega) q1 q2 (by simpa using q))
theorem pd {a b:Expr}{ta:TA}{p pos:Pos} (hg:Gl X "range") (hm:X.mg "range"=none) (ha:PA X [a,b] ta) (hs:FU [a,b] X.env=[(false,Jd a X.env),(false,Jd b X.env)]:=by rfl) (hs2:FU [b] X.env=[(false,Jd b X.env)]:=by rfl) :
  PI X tg (.Call (.Name "range" p) [a,b] [] pos) (DH ta):=by
 intro pins s σ H R I h
 refine Call_ (gp I hg hm boot_range (Gm (thn (ha pos pins s σ H _ I h) λus s1 ⟨vs,H1,I1,r1,q1⟩=>?_) (by rw[hs,hs2]) (by rw[hs2];rfl)))
 obtain⟨i,j,e,⟨q1,q2,q3,q4⟩,q⟩:=q1
 subst e
 cases r1 with
 |cons r rr =>
  cases rr with
  |cons r' rr =>
   cases rr
   obtain⟨t,rfl⟩:=r
   obtain⟨t',rfl⟩:=r'
   exact call_range_2 (rC I1 q1 q2 q3 q4 q)
def EG (wi:TI)(g:TG)(tb:TS):TS:=λD σ H=>wi σ H λJ H1=>∃W:Nat->Nat->St->Hp->Prop,(∃m,W 0 m σ H1)/\∀i m σ H,W i m σ H ->
 (J.stop i H/\D.nx σ H)\/(J.go i H/\∃N:St->Hp->Prop,(∀σ' H',N σ' H'->∃m',m'<m/\W (i+1) m' σ' H')/\∀x H',J.yld i H x H'->g x σ H' λσ2 H2=>tb { D with nx:=N,ct:=N,bk:=D.nx } σ2 H2)
def my (fp:List Fi)(h:Heap):List (Fi×Obj):=fp.filterMap λb=>(h.get? b).map λo=>(b,o)
theorem jE {fp:List Fi}{h:Heap}{b:Fi}{o:Obj}(hb:b∈fp)(e:h.get? b=some o):(b,o)∈my fp h:=IJ.mpr ⟨b,hb,by rw[e];rfl⟩
theorem vL {fp:List Fi}{h:Heap}{p:Fi×Obj}(hp:p∈my fp h):p.1∈fp/\h.get? p.1=some p.2:=by
 obtain⟨b,hb,e⟩:=IJ.mp hp
 cases q:h.get? b with
 |none=>rw[q]at e;cases e
 |some o =>
  rw[q]at e
  have e':(b,o)=p:=osi e
  subst e'
  exact⟨hb,q⟩
theorem Inv.pinned {pins:List (Fi×Obj)}{σ:St}{H:Hp}{s:Fh}{fp:List Fi}(I:Inv X pins σ H s)(hf:∀b∈fp,lP X pins H b)(ho:∀b∈fp,∃o,s.heap.get? b=some o/\∀v,o.data≠.cell v):Inv X (pins++my fp s.heap) σ H s :=
 I.pins_of λp hp=>(FR.mp hp).elim (λz=>I.pin p (GS _ z)) λz=>by
  obtain⟨hb,e⟩:=vL z
  obtain⟨f0,f1,f2,_⟩:=hf p.1 hb
  obtain⟨o,e',d⟩:=ho p.1 hb
  rw[e]at e';cases e'
  exact⟨e,f0,f1,f2,d⟩
theorem Inv.unpinned {pins pl:List (Fi×Obj)}{σ:St}{H:Hp}{s:Fh}(I:Inv X (pins++pl) σ H s):Inv X pins σ H s:=I.pins_of λp hp=>I.pin p (GS _ (List.mem_append_left _ hp))
theorem bw {aD:Expr}{body:List Hy}{wi:TI}{g:TG}{tb:TS}{pos:Pos}(hp:PassesOwn (Gj X.prog X.w) X.A X.env X.xe)(hc:X.calm=true)(hi:PI X tg aD wi)(hg:PG X tg g)(hb:PSs X body tb)
  (hs:∀x,foldedSetIterable aD X.env x=pure x:=by intro _;rfl):PS X (.For tg aD body [] pos) (EG wi g tb):=by
 intro pins s σ H D I h
 refine wpAny_For (thn (hi pins s σ H _ I h) λv s1 h1=>thn h1 λitv s2 h2=>?_) hs
 obtain⟨it,fp,tn,J,H2,e,I2,T,st2,f2,W,⟨m0,w0⟩,turn⟩:=h2
 subst e
 have stat:∀{H':Hp},(∀b∈fp,H' b=none)->∀b∈fp,lP X pins H' b:=λhn b hb=>⟨hn b hb,(f2 b hb).2⟩
 refine codeAny_forLoop_any (λn s'=>∃i σ' H',Inv X pins σ' H' s'/\tn i s'.heap/\(∀b∈fp,H' b=none)/\W i n σ' H') ?_ m0 ⟨0,σ,H2,I2,st2,λb hb=>(f2 b hb).1,w0⟩
 rintro n s3 ⟨i,σ3,H3,I3,st3,fr3,w3⟩
 rcases turn i n σ3 H3 w3 with⟨stop,qn⟩|⟨go,N,hN,step⟩
 ·refine Io hp (thn (T.done X rfl rfl rfl hc i pins s3 σ3 H3 X.xe I3 (stat fr3) st3 stop) λr s4 ⟨hr,I4⟩=>?_)
  subst hr
  exact wpAny_execs_nil ⟨σ3,H3,I4,qn⟩
 ·refine Io hp (thn (T.item X rfl rfl rfl hc i pins s3 σ3 H3 X.xe I3 (stat fr3) st3 go) λr s4 ⟨u,hr,h4⟩=>?_)
  subst hr
  refine Io hp (thn h4 λ_ s5 ⟨x,H5,I5,r5,y5,st5,fr5⟩=>?_)
  have I5':=I5.pinned (stat fr5) (T.obj _ _ st5)
  refine Io hp (thn (hg _ s5 σ3 H5 x u _ I5' r5 (step x H5 y5)) λ_ s6 ⟨σ6,H6,I6,q6⟩=>?_)
  refine Io hp (thn (hb _ s6 σ6 H6 _ I6 q6) λf s7 q7=>?_)
  have again:∀{σ7:St} {H7:Hp},Inv X (pins++my fp s5.heap) σ7 H7 s7->N σ7 H7->∃m,m<n/\∃i σ' H',Inv X pins σ' H' s7/\tn i s7.heap/\(∀b∈fp,H' b=none)/\W i m σ' H':=λ{σ7 H7} I7 n7=>by
   obtain⟨m',hm,w7⟩:=hN σ7 H7 n7
   refine⟨m',hm,i+1,σ7,H7,I7.unpinned,T.keep _ _ _ st5 λb hb o e=>(I7.pin (b,o) (GS _ (GS _ (jE hb e)))).1,λb hb=>?_,w7⟩
   obtain⟨o,e,d⟩:=T.obj _ _ st5 b hb
   exact(I7.pin (b,o) (GS _ (GS _ (jE hb e)))).2.1
  cases f with
  |next=>obtain⟨σ7,H7,I7,n7⟩:=q7;exact again I7 n7
  |cont=>obtain⟨σ7,H7,I7,n7⟩:=q7;exact again I7 n7
  |brk=>obtain⟨σ7,H7,I7,q7⟩:=q7;exact⟨σ7,H7,I7.unpinned,q7⟩
  |ret v=>obtain⟨x7,σ7,H7,I7,r7,q7⟩:=q7;exact⟨x7,σ7,H7,I7.unpinned,r7,q7⟩
end
theorem eg {K:GC}{a:Fi}{xs:List V}{g:TG}{tb:TS}{D:oa}{σ:St}{H:Hp}(Pv:Nat->St->Hp->Prop)(h0:Pv 0 σ H)(hl:∀i σ H,i<=xs.length->Pv i σ H->SqL K H a xs)
  (hs:∀i x σ H,xs[i]? = some x->Pv i σ H->g x σ H λσ2 H2=>tb { D with nx:=Pv (i+1),ct:=Pv (i+1),bk:=D.nx } σ2 H2) (hd:∀σ H,Pv xs.length σ H->D.nx σ H) :
  ∃W:Nat->Nat->St->Hp->Prop,(∃m,W 0 m σ H)/\∀i m σ H,W i m σ H ->
   ((Itl K a).stop i H/\D.nx σ H)\/((Itl K a).go i H/\∃N:St->Hp->Prop,(∀σ' H',N σ' H'->∃m',m'<m/\W (i+1) m' σ' H')/\∀x H',(Itl K a).yld i H x H'->g x σ H' λσ2 H2=>tb { D with nx:=N,ct:=N,bk:=D.nx } σ2 H2):=by
 refine⟨λi m σ H=>m=xs.length-i/\i<=xs.length/\Pv i σ H,⟨xs.length,by simp,Gw _,h0⟩,?_⟩
 rintro i m σ H ⟨rfl,hi,p⟩
 have q:=hl i σ H hi p
 by_cases hlt:i<xs.length
 ·refine .inr ⟨⟨xs,xs[i],q,by simp[hlt]⟩,Pv (i+1),λσ' H' p'=>⟨xs.length-(i+1),by omega,rfl,hlt,p'⟩,λx H' y=>?_⟩
  obtain⟨e,y⟩:=y
  subst e
  exact hs i x σ _ (y xs q) p
 ·have e:i=xs.length:=by omega
  subst e
  exact .inl ⟨⟨xs,q,nlr _⟩,hd σ H p⟩
theorem pH {K:GC}{a:Fi}{xs:List V}{g:TG}{tb:TS}{D:oa}{σ:St}{H:Hp}(Pv:Nat->St->Hp->Prop)(h0:Pv 0 σ H)(hl:∀i σ H,i<=xs.length->Pv i σ H->SqT K H a xs)
  (hs:∀i x σ H,xs[i]? = some x->Pv i σ H->g x σ H λσ2 H2=>tb { D with nx:=Pv (i+1),ct:=Pv (i+1),bk:=D.nx } σ2 H2) (hd:∀σ H,Pv xs.length σ H->D.nx σ H) :
  ∃W:Nat->Nat->St->Hp->Prop,(∃m,W 0 m σ H)/\∀i m σ H,W i m σ H ->
   ((Itt K a).stop i H/\D.nx σ H)\/((Itt K a).go i H/\∃N:St->Hp->Prop,(∀σ' H',N σ' H'->∃m',m'<m/\W (i+1) m' σ' H')/\∀x H',(Itt K a).yld i H x H'->g x σ H' λσ2 H2=>tb { D with nx:=N,ct:=N,bk:=D.nx } σ2 H2):=by
 refine⟨λi m σ H=>m=xs.length-i/\i<=xs.length/\Pv i σ H,⟨xs.length,by simp,Gw _,h0⟩,?_⟩
 rintro i m σ H ⟨rfl,hi,p⟩
 have q:=hl i σ H hi p
 by_cases hlt:i<xs.length
 ·refine .inr ⟨⟨xs,xs[i],q,by simp[hlt]⟩,Pv (i+1),λσ' H' p'=>⟨xs.length-(i+1),by omega,rfl,hlt,p'⟩,λx H' y=>?_⟩
  obtain⟨e,y⟩:=y
  subst e
  exact hs i x σ _ (y xs q) p
 ·have e:i=xs.length:=by omega
  subst e
  exact .inl ⟨⟨xs,q,nlr _⟩,hd σ H p⟩
theorem i9 {lo:Int}{n:Nat}{g:TG}{tb:TS}{D:oa}{σ:St}{H:Hp}(Pv:Nat->St->Hp->Prop)(h0:Pv 0 σ H)
  (hs:∀i σ H,i<n->Pv i σ H->g (.int (lo+i)) σ H λσ2 H2=>tb { D with nx:=Pv (i+1),ct:=Pv (i+1),bk:=D.nx } σ2 H2) (hd:∀σ H,Pv n σ H->D.nx σ H) :
  ∃W:Nat->Nat->St->Hp->Prop,(∃m,W 0 m σ H)/\∀i m σ H,W i m σ H ->
   ((Itr lo n).stop i H/\D.nx σ H)\/((Itr lo n).go i H/\∃N:St->Hp->Prop,(∀σ' H',N σ' H'->∃m',m'<m/\W (i+1) m' σ' H')/\∀x H',(Itr lo n).yld i H x H'->g x σ H' λσ2 H2=>tb { D with nx:=N,ct:=N,bk:=D.nx } σ2 H2):=by
 refine⟨λi m σ H=>m=n-i/\i<=n/\Pv i σ H,⟨n,by simp,Gw _,h0⟩,?_⟩
 rintro i m σ H ⟨rfl,hi,p⟩
 by_cases hlt:i<n
 ·refine .inr ⟨hlt,Pv (i+1),λσ' H' p'=>⟨n-(i+1),by omega,rfl,hlt,p'⟩,λx H' y=>?_⟩
  obtain⟨e,y⟩:=y
  subst e y
  exact hs i σ _ hlt p
 ·have e:i=n:=by omega
  subst e
  exact .inl ⟨nlr _,hd σ H p⟩
end L2
namespace L2
open PySem PySem.Spec PyProof.Rows
abbrev R2:=V->V->Hp->VK->Prop
def OpR (X:Cx)(f:Value->Value->Sem Value)(r:R2):Prop :=
 ∀(pins:List (Fi×Obj)) (s:Fh) (σ:St) (H:Hp) (x y:V) (v u:Value) (Q:VK),Inv X pins σ H s->aZ x v->aZ y u->r x y H Q ->
  FV (Gj X.prog X.w) X.A (f v u) (EP X pins σ Q) X.xe s
def UnR (X:Cx)(f:Value->Sem Value)(r:V->Hp->VK->Prop):Prop :=
 ∀(pins:List (Fi×Obj)) (s:Fh) (σ:St) (H:Hp) (x:V) (v:Value) (Q:VK),Inv X pins σ H s->aZ x v->r x H Q ->
  FV (Gj X.prog X.w) X.A (f v) (EP X pins σ Q) X.xe s
def nG (X:Cx)(f:Value)(r:List V->Hp->VK->Prop):Prop :=
 ∀(pins:List (Fi×Obj)) (s:Fh) (σ:St) (H:Hp) (xs:List V) (us:List Value) (Q:VK),Inv X pins σ H s->aR xs us->r xs H Q ->
  FV (Gj X.prog X.w) X.A (call f us) (EP X pins σ Q) X.xe s
def tOp (r:R2)(ta tb:TE):TE:=λσ H Q=>ta σ H λx H1=>tb σ H1 λy H2=>r x y H2 Q
def tUn (r:V->Hp->VK->Prop)(ta:TE):TE:=λσ H Q=>ta σ H λx H1=>r x H1 Q
def rI (C:Int->Int->Prop)(g:Int->Int->V):R2:=λx y H Q=>∃i j,x=.int i/\y=.int j/\C i j/\Q (g i j) H
def rI0 (g:Int->Int->V):R2:=λx y H Q=>∃i j,x=.int i/\y=.int j/\Q (g i j) H
def rU (g:Int->V):V->Hp->VK->Prop:=λx H Q=>∃i,x=.int i/\Q (g i) H
section
variable  {X:Cx}{a b c:Expr}{ta tb tc:TE}{pos:Pos}
theorem Bx (ha:PE X a ta)(hb:PE X b tb){pins:List (Fi×Obj)}{s:Fh}{σ:St}{H:Hp}{R:V->V->Hp->Prop}(I:Inv X pins σ H s)
  (h:ta σ H λx H1=>tb σ H1 λy H2=>R x y H2) {Q:Value->Fh->Prop} {f:Value->Value->Sem Value}
  (hf:∀v u s2 x y H2,Inv X pins σ H2 s2->aZ x v->aZ y u->R x y H2->FV (Gj X.prog X.w) X.A (f v u) Q X.xe s2) :
  FV (Gj X.prog X.w) X.A (Jd a X.env) (λv s₁=>FV (Gj X.prog X.w) X.A (Jd b X.env) (λu s₂=>FV (Gj X.prog X.w) X.A (f v u) Q X.xe s₂) X.xe s₁) X.xe s:=by
 refine thn (ha pins s σ H _ I h) λv s1 ⟨x,H1,I1,r1,q1⟩=>?_
 refine thn (hb pins s1 σ H1 _ I1 q1) λu s2 ⟨y,H2,I2,r2,q2⟩=>?_
 exact hf v u s2 x y H2 I2 r1 r2 q2
theorem aT {op:Operator}{r:R2}(ho:OpR X (binaryOp op) r)(ha:PE X a ta)(hb:PE X b tb):PE X (.BinOp a op b pos) (tOp r ta tb):=by
 intro pins s σ H Q I h
 exact wpAny_BinOp (Bx ha hb I h λv u s2 x y H2 I2 rx ry q=>ho pins s2 σ H2 x y v u Q I2 rx ry q)
theorem lD {op:UnaryOp}{r:V->Hp->VK->Prop}(ho:UnR X (unaryOp op) r)(ha:PE X a ta):PE X (.UnaryOp op a pos) (tUn r ta):=by
 intro pins s σ H Q I h
 exact UnaryOp_ (thn (ha pins s σ H _ I h) λv s1 ⟨x,H1,I1,r1,q1⟩=>ho pins s1 σ H1 x v Q I1 r1 q1)
theorem opI {f:Value->Value->Sem Value}{C:Int->Int->Prop}{g:Int->Int->Int}
  (rule:∀(i j:Int) (t u:Tok) (s:Fh) (Q:Value->Fh->Prop) (E:Value->Fh->Prop),C i j->Q (.int (g i j) s.toks) { s with toks:=s.toks+1 }->FV (Gj X.prog X.w) X.A (f (.int i t) (.int j u)) Q E s) :
  OpR X f (rI C λi j=>.int (g i j)):=by
 intro pins s σ H x y v u Q I rx ry h
 obtain⟨i,j,rfl,rfl,hc,q⟩:=h
 obtain⟨t,rfl⟩:=rx
 obtain⟨t',rfl⟩:=ry
 exact rule i j t t' s _ _ hc ⟨.int (g i j),H,I.tok _,⟨_,rfl⟩,q⟩
theorem Dn {f:Value->Value->Sem Value}{g:Int->Int->Int}
  (rule:∀(i j:Int) (t u:Tok) (s:Fh) (Q:Value->Fh->Prop) (E:Value->Fh->Prop),Q (.int (g i j) s.toks) { s with toks:=s.toks+1 }->FV (Gj X.prog X.w) X.A (f (.int i t) (.int j u)) Q E s) :
  OpR X f (rI0 λi j=>.int (g i j)):=by
 intro pins s σ H x y v u Q I rx ry h
 obtain⟨i,j,rfl,rfl,q⟩:=h
 obtain⟨t,rfl⟩:=rx
 obtain⟨t',rfl⟩:=ry
 exact rule i j t t' s _ _ ⟨.int (g i j),H,I.tok _,⟨_,rfl⟩,q⟩
theorem zL {f:Value->Value->Sem Value}{g:Int->Int->Bool}
  (rule:∀(i j:Int) (t u:Tok) (s:Fh) (Q:Value->Fh->Prop) (E:Value->Fh->Prop),Q (.bool (g i j)) s->FV (Gj X.prog X.w) X.A (f (.int i t) (.int j u)) Q E s) :
  OpR X f (rI0 λi j=>.bl (g i j)):=by
 intro pins s σ H x y v u Q I rx ry h
 obtain⟨i,j,rfl,rfl,q⟩:=h
 obtain⟨t,rfl⟩:=rx
 obtain⟨t',rfl⟩:=ry
 exact rule i j t t' s _ _ ⟨.bl (g i j),H,I,rfl,q⟩
def Ez (i j:Int):Prop:=0<j/\j<1073741824
def Av (i j:Int):Prop:=(-(2 ^ 64)<i/\i<2 ^ 64)\/(-(2 ^ 64)<j/\j<2 ^ 64)
theorem Av.ok {i j:Int}(h:Av i j):IntMulOk i j:=by
 rcases h with⟨h1,h2⟩|⟨h1,h2⟩
 ·exact .of_left (intBits_le_64 h1 h2)
 ·exact .of_right (intBits_le_64 h1 h2)
theorem dG:OpR X (binaryOp .Add) (rI0 λi j=>.int (i+j)):=Dn λ_ _ _ _ _ _ _ q=>add_int q
theorem eu:OpR X (binaryOp .Sub) (rI0 λi j=>.int (i-j)):=Dn λ_ _ _ _ _ _ _ q=>sub_int q
theorem dM:OpR X (binaryOp .Mult) (rI Av λi j=>.int (i*j)):=opI λ_ _ _ _ _ _ _ hc q=>mul_int q hc.ok
theorem pJ:OpR X (binaryOp .FloorDiv) (rI Ez λi j=>.int (i / j)):=opI λi j _ _ _ _ _ hc q=>by
 have h1:(0:Int)<j:=hc.1
 have h2:j<1073741824:=hc.2
 exact floordiv_int (by omega) (by rw[Int.fdiv_eq_ediv_of_nonneg i (by omega)];exact q) (.inl (PyProof.noPylong_small (by omega)))
theorem Be:OpR X (binaryOp .Mod) (rI (λ_ j=>0<j) λi j=>.int (i % j)):=opI λi j _ _ _ _ _ hc q=>by
 have h1:(0:Int)<j:=hc
 exact mod_int' (by omega) (by rw[Int.fmod_eq_emod_of_nonneg i (by omega)];exact q)
theorem unI {f:Value->Sem Value}{g:Int->Int}
  (rule:∀(i:Int) (t:Tok) (s:Fh) (Q:Value->Fh->Prop) (E:Value->Fh->Prop),Q (.int (g i) s.toks) { s with toks:=s.toks+1 }->FV (Gj X.prog X.w) X.A (f (.int i t)) Q E s) :
  UnR X f (rU λi=>.int (g i)):=by
 intro pins s σ H x v Q I rx h
 obtain⟨i,rfl,q⟩:=h
 obtain⟨t,rfl⟩:=rx
 exact rule i t s _ _ ⟨.int (g i),H,I.tok _,⟨_,rfl⟩,q⟩
theorem i4:UnR X (unaryOp .USub) (rU λi=>.int (-i)):=unI λ_ _ _ _ _ q=>neg_int q
end
def Cl:V->V->Bool
 |.non,.non=>true|.non,.int _=>true|.int _,.non=>true|.non,.bl _=>true|.bl _,.non=>true|.non,.str _=>true|.str _,.non=>true
 |.int _,.int _=>true|.bl _,.bl _=>true|.str _,.str _=>true|.byt _,.byt _=>true
 |.int _,.str _=>true|.str _,.int _=>true|.bl _,.str _=>true|.str _,.bl _=>true
 |_,_=>false
def rEq:R2:=λx y H Q=>Cl x y=true/\Q (.bl (decide (x=y))) H
def rNe:R2:=λx y H Q=>Cl x y=true/\Q (.bl (!decide (x=y))) H
theorem ua {i j:Int}:decide (V.int i=V.int j)=(i==j):=by
 rw[Ge]
 simp
theorem wR {i j:Bool}:decide (V.bl i=V.bl j)=(i==j):=by
 rw[Ge]
 simp
theorem uA {i j:Str}:decide (V.str i=V.str j)=(i==j):=by
 rw[Ge]
 simp
theorem uQ {i j:Array UInt8}:decide (V.byt i=V.byt j)=(i.toList==j.toList):=by
 rw[Ge]
 cases i
 cases j
 simp
section
variable  {X:Cx}{a b c:Expr}{ta tb tc:TE}{pos:Pos}
theorem a7 {pins:List (Fi×Obj)}{σ:St}{H:Hp}{s:Fh}{Q:VK}{k k':Bool}(I:Inv X pins σ H s)(q:Q (.bl k) H)(e:k=k'):EP X pins σ Q (.bool k') s:=by
 subst e
 exact⟨.bl k,H,I,rfl,q⟩
theorem jS:OpR X (GQ .Eq) rEq:=by
 intro pins s σ H x y v u Q I rx ry h
 obtain⟨hs,q⟩:=h
 cases x with
 |non =>
  cases rx
  cases y with
  |non=>cases ry;exact PySem.EqNone.eq_none_none (a7 I q (by simp))
  |bl j=>cases ry;exact PySem.EqNone.eq_none_bool (a7 I q (by simp))
  |int j=>obtain⟨t',rfl⟩:=ry;exact PySem.EqNone.eq_none_int (a7 I q (by simp))
  |str j=>obtain⟨t',rfl⟩:=ry;exact PySem.EqNone.eq_none_str (a7 I q (by simp))
  |_=>exact absurd (show false=true from hs) Fy
 |bl i =>
  cases rx
  cases y with
  |non=>cases ry;exact PySem.EqNone.eq_bool_none (a7 I q (by simp))
  |bl j=>cases ry;exact eq_bool (a7 I q wR)
  |str j=>obtain⟨t',rfl⟩:=ry;exact PySem.EqMixed.eq_bool_str (a7 I q (by simp))
  |_=>exact absurd (show false=true from hs) Fy
 |int i =>
  obtain⟨t,rfl⟩:=rx
  cases y with
  |non=>cases ry;exact PySem.EqNone.eq_int_none (a7 I q (by simp))
  |int j=>obtain⟨t',rfl⟩:=ry;exact eq_int (a7 I q ua)
  |str j=>obtain⟨t',rfl⟩:=ry;exact PySem.EqMixed.eq_int_str (a7 I q (by simp))
  |_=>exact absurd (show false=true from hs) Fy
 |str i =>
  obtain⟨t,rfl⟩:=rx
  cases y with
  |non=>cases ry;exact PySem.EqNone.eq_str_none (a7 I q (by simp))
  |bl j=>cases ry;exact PySem.EqMixed.eq_str_bool (a7 I q (by simp))
  |int j=>obtain⟨t',rfl⟩:=ry;exact PySem.EqMixed.eq_str_int (a7 I q (by simp))
  |str j=>obtain⟨t',rfl⟩:=ry;exact eq_str (a7 I q uA)
  |_=>exact absurd (show false=true from hs) Fy
 |byt i =>
  obtain⟨t,rfl⟩:=rx
  cases y with
  |byt j=>obtain⟨t',rfl⟩:=ry;exact PySem.W.eq_bytes (a7 I q uQ)
  |_=>exact absurd (show false=true from hs) Fy
 |_=>cases y<;>exact absurd (show false=true from hs) Fy
theorem xL:OpR X (GQ .NotEq) rNe:=by
 intro pins s σ H x y v u Q I rx ry h
 obtain⟨hs,q⟩:=h
 cases x with
 |non =>
  cases rx
  cases y with
  |non=>cases ry;exact PySem.EqNone.ne_none_none (a7 I q (by simp))
  |bl j=>cases ry;exact PySem.EqNone.ne_none_bool (a7 I q (by simp))
  |int j=>obtain⟨t',rfl⟩:=ry;exact PySem.EqNone.ne_none_int (a7 I q (by simp))
  |str j=>obtain⟨t',rfl⟩:=ry;exact PySem.EqNone.ne_none_str (a7 I q (by simp))
  |_=>exact absurd (show false=true from hs) Fy
 |bl i =>
  cases rx
  cases y with
  |non=>cases ry;exact PySem.EqNone.ne_bool_none (a7 I q (by simp))
  |bl j=>cases ry;exact ne_bool (a7 I q (G5 not wR))
  |str j=>obtain⟨t',rfl⟩:=ry;exact PySem.EqMixed.ne_bool_str (a7 I q (by simp))
  |_=>exact absurd (show false=true from hs) Fy
 |int i =>
  obtain⟨t,rfl⟩:=rx
  cases y with
  |non=>cases ry;exact PySem.EqNone.ne_int_none (a7 I q (by simp))
  |int j=>obtain⟨t',rfl⟩:=ry;exact ne_int (a7 I q (G5 not ua))
  |str j=>obtain⟨t',rfl⟩:=ry;exact PySem.EqMixed.ne_int_str (a7 I q (by simp))
  |_=>exact absurd (show false=true from hs) Fy
 |str i =>
  obtain⟨t,rfl⟩:=rx
  cases y with
  |non=>cases ry;exact PySem.EqNone.ne_str_none (a7 I q (by simp))
  |bl j=>cases ry;exact PySem.EqMixed.ne_str_bool (a7 I q (by simp))
  |int j=>obtain⟨t',rfl⟩:=ry;exact PySem.EqMixed.ne_str_int (a7 I q (by simp))
  |str j=>obtain⟨t',rfl⟩:=ry;exact ne_str (a7 I q (G5 not uA))
  |_=>exact absurd (show false=true from hs) Fy
 |byt i =>
  obtain⟨t,rfl⟩:=rx
  cases y with
  |byt j=>obtain⟨t',rfl⟩:=ry;exact PySem.W.ne_bytes (a7 I q (G5 not uQ))
  |_=>exact absurd (show false=true from hs) Fy
 |_=>cases y<;>exact absurd (show false=true from hs) Fy
theorem fT:OpR X (GQ .Lt) (rI0 λi j=>.bl (decide (i<j))):=zL λ_ _ _ _ _ _ _ q=>lt_int q
theorem lr:OpR X (GQ .LtE) (rI0 λi j=>.bl (decide (i<=j))):=zL λ_ _ _ _ _ _ _ q=>le_int q
theorem dY:OpR X (GQ .Gt) (rI0 λi j=>.bl (decide (j<i))):=zL λ_ _ _ _ _ _ _ q=>gt_int q
theorem uh:OpR X (GQ .GtE) (rI0 λi j=>.bl (decide (j<=i))):=zL λ_ _ _ _ _ _ _ q=>ge_int q
theorem iE:OpR X (GQ .Is) (λx y H Q=>y=.non/\Q (.bl (decide (x=.non))) H):=by
 intro pins s σ H x y v u Q I rx ry h
 obtain⟨rfl,q⟩:=h
 cases ry
 refine is_none_gen (a7 I q ?_)
 cases x<;>first
  |(cases rx;rfl)
  |(obtain⟨t,rfl⟩:=rx;rfl)
theorem jn:OpR X (GQ .IsNot) (λx y H Q=>y=.non/\Q (.bl (!decide (x=.non))) H):=by
 intro pins s σ H x y v u Q I rx ry h
 obtain⟨rfl,q⟩:=h
 cases ry
 refine isnot_none_gen (a7 I q ?_)
 cases x<;>first
  |(cases rx;rfl)
  |(obtain⟨t,rfl⟩:=rx;rfl)
theorem aH (b:Expr){op:CmpOp}(h:op≠.In:=by decide)(h2:op≠.NotIn:=by decide):IZ op b=false:=by
 have e1:(op==CmpOp.In)=false:=by cases op<;>first|rfl|exact absurd rfl h
 have e2:(op==CmpOp.NotIn)=false:=by cases op<;>first|rfl|exact absurd rfl h2
 cases b<;>simp[IZ,e1,e2]
theorem cf {op:CmpOp}{r:R2}(ho:OpR X (GQ op) r)(ha:PE X a ta)(hb:PE X b tb)(hm:IZ op b=false):PE X (.Compare a [op] [b] pos) (tOp r ta tb):=by
 intro pins s σ H Q I h
 exact wpAny_Compare1 (Bx ha hb I h λv u s2 x y H2 I2 rx ry q=>ho pins s2 σ H2 x y v u Q I2 rx ry q) hm
def eY (t:TE):TT:=λσ H Q=>t σ H λx H'=>∃k,x=.bl k/\Q k H'
theorem aJ {op:CmpOp}{r:R2}(ho:OpR X (GQ op) r)(ha:PE X a ta)(hb:PE X b tb)(hm:IZ op b=false):PT X (.Compare a [op] [b] pos) (eY (tOp r ta tb)):=by
 intro pins s σ H Q I h
 refine wpAny_isTrue_Compare1 (thn (ha pins s σ H _ I h) λv s1 ⟨x,H1,I1,r1,q1⟩=>thn (hb pins s1 σ H1 _ I1 q1) λu s2 ⟨y,H2,I2,r2,q2⟩ =>
  thn (ho pins s2 σ H2 x y v u _ I2 r1 r2 q2) λc s3 ⟨z,H3,I3,r3,k,e,q3⟩=>?_) hm
 subst e
 cases r3
 exact G7 ⟨H3,I3,q3⟩
def sL (r r':R2)(ta tb tc:TE):TE:=λσ H Q=>ta σ H λx H1=>tb σ H1 λy H2=>r x y H2 λz H3=>∃k,z=.bl k /\
 (if k=true then tc σ H3 λw' H4=>r' y w' H4 Q else Q (.bl false) H3)
theorem kl {op op':CmpOp}{r r':R2}(ho:OpR X (GQ op) r)(ho':OpR X (GQ op') r')(ha:PE X a ta)(hb:PE X b tb)(hc:PE X c tc)
  (hm:lastMarks [op,op'] [b,c]=false:=by with_unfolding_all rfl):PE X (.Compare a [op,op'] [b,c] pos) (sL r r' ta tb tc):=by
 intro pins s σ H Q I h
 refine Compare_chain (thn (ha pins s σ H _ I h) λv s1 ⟨x,H1,I1,r1,q1⟩=>chain_link (thn (hb pins s1 σ H1 _ I1 q1) λu s2 ⟨y,H2,I2,r2,q2⟩ =>
  thn (ho pins s2 σ H2 x y v u _ I2 r1 r2 q2) λd s3 ⟨z,H3,I3,r3,k,e,q3⟩=>?_)) hm
 subst e
 cases r3
 refine G7 ?_
 cases k with
 |false=>exact ite_ff ⟨.bl false,H3,I3,rfl,q3⟩
 |true=>exact ite_tt (chain_last (thn (hc pins s3 σ H3 _ I3 q3) λw' s4 ⟨z',H4,I4,r4,q4⟩=>ho' pins s4 σ H4 y z' u w' Q I4 r2 r4 q4))
theorem ni {op op':CmpOp}{r r':R2}(ho:OpR X (GQ op) r)(ho':OpR X (GQ op') r')(ha:PE X a ta)(hb:PE X b tb)(hc:PE X c tc)
  (hm:lastMarks [op,op'] [b,c]=false:=by with_unfolding_all rfl):PT X (.Compare a [op,op'] [b,c] pos) (eY (sL r r' ta tb tc)):=by
 intro pins s σ H Q I h
 refine isTrue_chain (thn (ha pins s σ H _ I h) λv s1 ⟨x,H1,I1,r1,q1⟩=>test_link (thn (hb pins s1 σ H1 _ I1 q1) λu s2 ⟨y,H2,I2,r2,q2⟩ =>
  thn (ho pins s2 σ H2 x y v u _ I2 r1 r2 q2) λd s3 ⟨z,H3,I3,r3,k,e,q3⟩=>?_)) hm
 subst e
 cases r3
 refine G7 ?_
 cases k with
 |false =>
  obtain⟨k',e',q'⟩:=q3
  cases e'
  exact ite_ff ⟨H3,I3,q'⟩
 |true =>
  refine ite_tt (test_last (thn (hc pins s3 σ H3 _ I3 q3) λw' s4 ⟨z',H4,I4,r4,q4⟩=>thn (ho' pins s4 σ H4 y z' u w' _ I4 r2 r4 q4) λd' s5 ⟨z2,H5,I5,r5,k2,e2,q5⟩=>?_))
  subst e2
  cases r5
  exact G7 ⟨H5,I5,q5⟩
theorem qw:(Fk:Nat)<2 ^ 63:=by rw[sizeLine_eq];decide
theorem wD {x:V}{us:List Value}(r:aR [x] us):∃u,us=[u]/\aZ x u:=by
 cases r with
 |cons r1 r2=>cases r2;exact⟨_,rfl,r1⟩
theorem Ak {x y:V}{us:List Value}(r:aR [x,y] us):∃u w',us=[u,w']/\aZ x u/\aZ y w':=by
 cases r with
 |cons r1 r2 =>
  cases r2 with
  |cons r3 r4=>cases r4;exact⟨_,_,rfl,r1,r3⟩
theorem oH (hc:X.calm=true):nG X (.builtin "max") (λxs H Q=>∃i j,xs=[.int i,.int j]/\Q (.int (if j > i then j else i)) H):=by
 intro pins s σ H xs us Q I r h
 obtain⟨i,j,rfl,q⟩:=h
 obtain⟨u,w',rfl,⟨t,rfl⟩,⟨t',rfl⟩⟩:=Ak r
 refine max_two_ints (I.ok.hd hc) λh' tk k=>⟨_,H,I.kept k,?_,q⟩
 by_cases hj:j > i
 ·rw[Fs hj,Fs hj];exact⟨_,rfl⟩
 ·rw[Fl hj,Fl hj];exact⟨_,rfl⟩
theorem pB (hc:X.calm=true):nG X (.builtin "min") (λxs H Q=>∃i j,xs=[.int i,.int j]/\Q (.int (if j<i then j else i)) H):=by
 intro pins s σ H xs us Q I r h
 obtain⟨i,j,rfl,q⟩:=h
 obtain⟨u,w',rfl,⟨t,rfl⟩,⟨t',rfl⟩⟩:=Ak r
 refine min_two_ints (I.ok.hd hc) λh' tk k=>⟨_,H,I.kept k,?_,q⟩
 by_cases hj:j<i
 ·rw[Fs hj,Fs hj];exact⟨_,rfl⟩
 ·rw[Fl hj,Fl hj];exact⟨_,rfl⟩
end
end L2
namespace L2
open PySem PySem.Spec PyProof.Rows
structure sP (h:Heap)(x dx C:Fi)(mA:Str->Option Value):Prop where
 obj:h.get? x=some (HP C dx)
 ns:h.Ns1 dx mA
 ne:dx≠x
theorem vX {h:Heap}{dx:Fi}{mA:Str->Option Value}(n:h.Ns1 dx mA):∃od,h.get? dx=some od/\∀name,PySem.W.lookIn name od=some (mA name):=by
 obtain⟨o,es,ep,ho,hd,hk,_,hm⟩:=n
 refine⟨o,ho,λname=>?_⟩
 have e:=hm name
 unfold nsFind findBy at e
 rw[<-Array.find?_toList]at e
 unfold PySem.W.lookIn
 rw[hd]
 dsimp only
 split
 ·rename_i y q
  rw[q]at e
  exact G5 some e
 ·rename_i q
  rw[q]at e
  have a:es.toList.any (·.refKey)=false:=by
   rw[Ip]
   intro y hy
   obtain⟨z,t,hkey⟩:=hk y (Array.mem_toList_iff.mp hy)
   simp[DictEntry.refKey,hkey]
  have a':¬es.toList.any (·.refKey)=true:=by rw[a];exact Fy
  rw[Fl a']
  exact G5 some e
theorem sP.look {h:Heap}{x dx C:Fi}{mA:Str->Option Value}(I:sP h x dx C mA):∃od,PySem.W.InstAt h x (HP C dx) C (some od)/\∀name,PySem.W.lookIn name od=some (mA name) :=
 let ⟨od,ho,hl⟩:=vX I.ns
 ⟨od,⟨I.obj,rfl,rfl,ho⟩,hl⟩
section
variable  {prog:FW}{w:G0}{A:Around}{E:Value->Fh->Prop}{s:Fh}{K:GC}{x dx C f:Fi}{mA:Str->Option Value}{name:Str}{v:Value}
theorem yM {expr:Bool}{Q:Value->Fh->Prop}(X:K.In s.heap)(I:sP s.heap x dx C mA)(hg:PySem.W.plainGet K C name=true)(hh:PySem.W.hasDictIn K C=true)
  (ha:Hh K (.ref C) name=some none) (hv:mA name=some v) (hv':PySem.W.handedIn v=true) (h:Q v { s with toks:=s.toks+1 }) :
  FV (Gj prog w) A (getAttr (.ref x) name expr) Q E s:=by
 obtain⟨od,J,hl⟩:=I.look
 exact PySem.W.get_value X J (PySem.W.plainGet_of hg).1 (PySem.W.findObj_own hh ha rfl (by rw[hl,hv])) hv' h
theorem xi {pl:Sem Bool}{Q:Value×List Value->Fh->Prop}(X:K.In s.heap)(I:sP s.heap x dx C mA)(hg:PySem.W.plainGet K C name=true)
  (hf:Hh K (.ref C) name=some (some (.ref f))) (ht:PySem.W.isFn K (.ref f)=true) (hv:mA name=none) (h:Q (.ref f,[.ref x]) s) :
  FV (Gj prog w) A (getMethod (.ref x) name pl) Q E s:=by
 obtain⟨od,J,hl⟩:=I.look
 exact PySem.W.method_fn X J (PySem.W.plainGet_of hg).1 (PySem.W.plainGet_of hg).2 hf (IF.mp ht) (by show(PySem.W.lookIn name od).map (·.isSome)=some false;rw[hl,hv];rfl) h
theorem yF {ns:List Str}{Q:Unit->Fh->Prop}(X:K.In s.heap)(I:sP s.heap x dx C mA)
  (hs:Hh K (.ref C) "__setattr__"=some (some (.builtin "object.__setattr__"))) (hp:PySem.W.plainOver K C=true) (ht:PySem.W.takerIn K C name=some none) (hh:PySem.W.hasDictIn K C=true)
  (hw:PySem.Within mA ns) (hsz:ns.length<=Fk)
  (h:∀h',sP h' x dx C (λy=>if y=name then some v else mA y)->Heap.SameBut dx s.heap h'->Q () { s with heap:=h',toks:=s.toks+2 }) :
  FV (Gj prog w) A (setAttr (.ref x) name v) Q E s:=by
 obtain⟨od,J,hl⟩:=I.look
 refine PySem.W.set_plain X J hs (PySem.W.osa_open (s:={ s with toks:=s.toks+1 }) (r:=none) X J hp ht λb=>?_)
 obtain⟨cd,hc,hd'⟩:=PySem.W.any_some hh
 have hx:s.heap.get? x=some ⟨.ref C,some dx,.plain,#[]⟩:=I.obj
 refine Fg (FD (Fg (Fg (wpAny_loadPart hx (Fg (PySem.W.Looks.here (s:={ s with toks:=s.toks+1 }) (PySem.W.looks_clsIn X hc) ?_))))))
 rw[hd']
 refine FD (a:=some dx) (Fg (FD (Fg ?_)))
 refine wpAny_nsSet1 (s:={ s with toks:=s.toks+1 }) I.ns λh' hn2 hs2=>?_
 obtain⟨oD,esD,epD,hoD,hdD,hcD⟩:=hn2.count (PySem.Within.cons name v hw)
 refine Fg (wpAny_lookBehind hoD (by rw[hdD];exact pastItsLine_dict (Gb hcD (by rw[FT];omega))) ?_)
 exact FD (h _ ⟨(hs2.2 _ (FQ I.ne)).trans I.obj,hn2,I.ne⟩ hs2)
theorem ya {R:Result->Fh->Prop}{vs:List Value}{kw:List (Str×Value)}(X:K.In s.heap)(hm:PySem.W.makesIn K C=true)
  (hi:Hh K (.ref C) "__init__"=some (some (.ref f))) (hf:PySem.W.typeIn K (.ref f)=some (.type "function"))
  (h:codeAny (Gj prog w) (A.under (.builtin "type.__call__" ⟨.ref C :: vs,kw⟩)) (.call (.ref f) ⟨.ref (s.heap.objs.size+1) :: vs,kw⟩) (PySem.W.InitBack (s.heap.objs.size+1) R)
   { s with heap:=(s.heap.push G8).push (HP C s.heap.objs.size) }) :
  codeAny (Gj prog w) A (.call (.ref C) ⟨vs,kw⟩) R s:=by
 obtain⟨hh,g,d,t,os⟩:=s
 exact PySem.W.make_core (PySem.W.makes_of X hm) (PySem.W.looks_findIn X hi) (λself=>PySem.W.bind_fn X self hf) (.inl rfl) h
end
def eT (f:Str)(v:V):List (Str×V)->List (Str×V)
 |[]=>[(f,v)]
 |(g,x) :: r=>if g=f then (g,v) :: r else (g,x) :: eT f v r
theorem aG (f g:Str)(v:V):∀fs:List (Str×V),(eT f v fs).lookup g=if g=f then some v else fs.lookup g
 |[]=>by
  show Jl g [(f,v)]=_
  by_cases h:g=f
  ·have hb:(g==f)=true:=IF.mpr h
   simp only[Jl,hb,Fs h]
  ·have hb:(g==f)=false:=GR.mpr h
   simp only[Jl,hb,Fl h]
 |(k,x) :: r=>by
  have ih:=aG f g v r
  rw[show eT f v ((k,x) :: r)=(if k=f then (k,v) :: r else (k,x) :: eT f v r) from rfl]
  by_cases hk:k=f
  ·rw[Fs hk]
   by_cases h:g=k
   ·have hb:(g==k)=true:=IF.mpr h
    simp only[Jl,hb,Fs (h.trans hk)]
   ·have hb:(g==k)=false:=GR.mpr h
    simp only[Jl,hb,Fl (λe:g=f=>h (e.trans hk.symm))]
  ·rw[Fl hk]
   by_cases h:g=k
   ·have hb:(g==k)=true:=IF.mpr h
    simp only[Jl,hb,Fl (λe:g=f=>hk (h.symm.trans e))]
   ·have hb:(g==k)=false:=GR.mpr h
    simp only[Jl,hb]
    exact ih
theorem kW (f:Str)(v:V):∀fs:List (Str×V),f∈(eT f v fs).map (·.1)/\∀g,g∈fs.map (·.1)->g∈(eT f v fs).map (·.1)
 |[]=>⟨by simp[eT],λg h=>by simp at h⟩
 |(k,x) :: r=>by
  obtain⟨i1,i2⟩:=kW f v r
  rw[show eT f v ((k,x) :: r)=(if k=f then (k,v) :: r else (k,x) :: eT f v r) from rfl]
  by_cases hk:k=f
  ·rw[Fs hk]
   subst hk
   exact⟨by simp,λg h=>by simpa using h⟩
  ·rw[Fl hk]
   refine⟨?_,λg h=>?_⟩
   ·rw[FH]
    exact Fj _ i1
   ·rw[FH]at h ⊢
    rcases Fp.mp h with e|e
    ·exact Fp.mpr (.inl e)
    ·exact Fj _ (i2 g e)
theorem lw (f:Str)(v:V):∀fs:List (Str×V),(eT f v fs).length<=fs.length+1
 |[]=>by simp[eT]
 |(k,x) :: r=>by
  have ih:=lw f v r
  rw[show eT f v ((k,x) :: r)=(if k=f then (k,v) :: r else (k,x) :: eT f v r) from rfl]
  by_cases hk:k=f
  ·rw[Fs hk,FT,FT];omega
  ·rw[Fl hk,FT,FT];omega
theorem jV.some_of {v:V}{o:Option Value}(r:jV (some v) o):∃u,o=some u/\aZ v u:=by
 cases o with
 |none=>exact(show False from r).elim
 |some u=>exact⟨u,rfl,r⟩
theorem jV.none_of {o:Option Value}(r:jV none o):o=none:=by
 cases o with
 |none=>rfl
 |some u=>exact(show False from r).elim
theorem u7 {v:V}{u:Value}(r:aZ v u):PySem.W.handedIn u=true:=by
 cases v with
 |non=>cases (show u=IX from r);rfl
 |bl b=>cases (show u=Value.bool b from r);rfl
 |int i=>obtain⟨t,e⟩:=(show ∃t,u=Value.int i t from r);cases e;rfl
 |str x=>obtain⟨t,e⟩:=(show ∃t,u=Value.str x t from r);cases e;rfl
 |byt b=>obtain⟨t,e⟩:=(show ∃t,u=Value.bytes b t from r);cases e;rfl
 |flt b=>obtain⟨t,e⟩:=(show ∃t,u=Value.float b t from r);cases e;rfl
 |ref a=>cases (show u=Gd a from r);rfl
 |ty n=>cases (show u=Value.type n from r);rfl
section
variable  {P:FW}{w:G0}{H H':Hp}{h h':Heap}{a C dx:Fi}{fs fs':List (Str×V)}
theorem p8 (hok:HOk P w H h)(e:H a=some (.ins C dx fs)):∃mA,sP h a dx C mA/\(∀f,jV (fs.lookup f) (mA f))/\PySem.Within mA (fs.map (·.1))/\fs.length<=1000/\H dx=some (.own a):=by
 obtain⟨d,z,ne,ob,mA,n,r,q⟩:=(show b6 P w H h a (.ins C dx fs) from hok a _ e)
 exact⟨mA,⟨ob,n,ne⟩,r,q,z,d⟩
end
structure Cls (K:GC)(C:Fi):Prop where
 pg:PySem.W.plainGet K C Str.empty=true
 hd:PySem.W.hasDictIn K C=true
 po:PySem.W.plainOver K C=true
 sa:Hh K (.ref C) "__setattr__"=some (some (.builtin "object.__setattr__"))
theorem Cls.get {K:GC}{C:Fi}(c:Cls K C)(f:Str):PySem.W.plainGet K C f=true:=c.pg
def dX (K:GC)(C:Fi)(f:Str):Prop:=Hh K (.ref C) f=some none
theorem dX.taker {K:GC}{C:Fi}{f:Str}(n:dX K C f):PySem.W.takerIn K C f=some none:=by
 unfold PySem.W.takerIn
 rw[show Hh K (.ref C) f=some none from n]
 rfl
structure vS (K:GC)(C:Fi)(m:Str)(f:Fi):Prop where
 at_:Hh K (.ref C) m=some (some (.ref f))
 fn:PySem.W.isFn K (.ref f)=true
 kp:Hr K (.ref f)=true
section
variable  {X:Cx}{pins:List (Fi×Obj)}{σ:St}{H:Hp}{s:Fh}{a C dx:Fi}{fs:List (Str×V)}{f:Str}{v:V}{A:Around}{E:Value->Fh->Prop}
theorem tP {b:Bool}{Q:Value->Fh->Prop}(I:Inv X pins σ H s)(e:H a=some (.ins C dx fs))(c:Cls X.K C)(n:dX X.K C f)(l:fs.lookup f=some v)
  (h:∀u s',Inv X pins σ H s'->aZ v u->Q u s'):FV (Gj X.prog X.w) A (getAttr (.ref a) f b) Q E s:=by
 obtain⟨mA,O,r,_,_,_⟩:=p8 I.hok e
 obtain⟨u,hu,ru⟩:=jV.some_of (v:=v) (o:=mA f) (by rw[<-l];exact r f)
 exact yM I.kIn O (c.get f) c.hd n hu (u7 ru) (h u _ (I.tok _) ru)
theorem jO {m:Str}{g:Fi}{pl:Sem Bool}{Q:Value×List Value->Fh->Prop}(I:Inv X pins σ H s)(e:H a=some (.ins C dx fs))(c:Cls X.K C)(k:vS X.K C m g)(l:fs.lookup m=none)
  (h:Q (.ref g,[.ref a]) s):FV (Gj X.prog X.w) A (getMethod (.ref a) m pl) Q E s:=by
 obtain⟨mA,O,r,_,_,_⟩:=p8 I.hok e
 have hn:mA m=none:=jV.none_of (by rw[<-l];exact r m)
 exact xi I.kIn O (c.get m) k.at_ k.fn hn h
theorem tL {y:V}{u:Value}{Q:Unit->Fh->Prop}(I:Inv X pins σ H s)(e:H a=some (.ins C dx fs))(c:Cls X.K C)(n:dX X.K C f)(hl:fs.length<1000)(ry:aZ y u)
  (h:∀s',Inv X pins σ (upd H a (.ins C dx (eT f y fs))) s'->Q () s'):FV (Gj X.prog X.w) A (setAttr (.ref a) f u) Q E s:=by
 obtain⟨mA,O,r,wi,_,ho⟩:=p8 I.hok e
 have hz:(fs.map (·.1)).length<=Fk:=by rw[lmp,sizeLine_eq];omega
 refine yF I.kIn O c.sa c.po n.taker c.hd wi hz λh' O' sb=>h _ ?_
 have hd:∃o,h'.get? dx=some o:=let ⟨o,_,_,e',_⟩:=O'.ns;⟨o,e'⟩
 refine I.write (x:=a) (e:=dx) (by rw[e];exact True.intro) (.inr ho) (λb q hb z=>(sb.2 b hb).trans z) hd ?_
 refine⟨by rw[aq O.ne];exact ho,?_,O.ne,O'.obj,_,O'.ns,λg=>?_,λg hg=>?_⟩
 ·have:=lw f y fs;omega
 ·show jV ((eT f y fs).lookup g) (if g=f then some u else mA g)
  rw[aG]
  by_cases q:g=f
  ·rw[Fs q,Fs q];exact ry
  ·rw[Fl q,Fl q];exact r g
 ·by_cases q:g=f
  ·rw[q];exact(kW f y fs).1
  ·refine(kW f y fs).2 g (wi g λz=>hg ?_)
   show(if g=f then some u else mA g)=none
   rw[Fl q];exact z
theorem Inv.made (I:Inv X pins σ H s):Inv X pins σ (upd (upd H s.heap.objs.size (.own (s.heap.objs.size+1))) (s.heap.objs.size+1) (.ins C s.heap.objs.size []))
  { s with heap:=(s.heap.push G8).push (HP C s.heap.objs.size) }:=by
 have e1:(s.heap.push G8).get? s.heap.objs.size=some G8:=FK s.heap rfl
 have e2:((s.heap.push G8).push (HP C s.heap.objs.size)).get? (s.heap.objs.size+1)=some (HP C s.heap.objs.size):=by
  have:=FK (s.heap.push G8) (o:=HP C s.heap.objs.size) rfl
  rwa [GM]at this
 have e3:(s.heap.push G8).Ns s.heap.objs.size (λ_=>none):=⟨G8,#[],_,e1,rfl,(λe he=>absurd he (by simp)),λ_=>rfl⟩
 have I1:=I.laid (a:=s.heap.objs.size) (o:=.own (s.heap.objs.size+1)) (h':=s.heap.push G8) (t':=s.toks) (λb u q=>Ft _ q) (nlr _) ⟨_,e1⟩
 refine I1.laid (a:=s.heap.objs.size+1) (o:=.ins C s.heap.objs.size []) (t':=s.toks) (λb u q=>Ft _ q) (Nat.le_of_eq (GM _ _)) ?_
 have ne:s.heap.objs.size≠s.heap.objs.size+1:=Ga (Nat.lt_succ_self _)
 refine⟨by rw[aq ne,ag],Gw _,ne,e2,λ_=>none,(Heap.Ns1.of_empty e3).at λo q=>Ft _ q,λ_=>True.intro,λy hy=>absurd rfl hy⟩
theorem y9 {prog:FW}{w:G0}{env:Env}{e:Expr}{f:Str}{pos:Pos}{s:Fh}{Q:Value->Fh->Prop}(hb:attributeBase e f env (Jd e env)=Jd e env)
  (h:FV (Gj prog w) A (Jd e env) (λo s₁=>FV (Gj prog w) A (getAttr o f true) Q E s₁) E s):FV (Gj prog w) A (Jd (.Attribute e f pos) env) Q E s :=
 Attribute_any_ h (by rw[arm_eval_Attribute,hb])
end
def wv (K:GC)(ta:TE)(f:Str):TE:=λσ H Q=>ta σ H λx H1=>∃a C dx fs v,x=.ref a/\H1 a=some (.ins C dx fs)/\Cls K C/\dX K C f/\fs.lookup f=some v/\Q v H1
def Eu (K:GC)(ta tv:TE)(f:Str):TS:=λD σ H=>tv σ H λy H1=>ta σ H1 λx H2=>∃a C dx fs,x=.ref a/\H2 a=some (.ins C dx fs)/\Cls K C/\dX K C f/\fs.length<1000 /\
 D.nx σ (upd H2 a (.ins C dx (eT f y fs)))
section
variable  {X:Cx}{o e value:Expr}{f:Str}{pos pos' tpos:Pos}{ta tv:TE}
theorem aP (he:PE X e ta)(hb:attributeBase e f X.env (Jd e X.env)=Jd e X.env):PE X (.Attribute e f pos) (wv X.K ta f):=by
 intro pins s σ H Q I h
 refine y9 hb (thn (he pins s σ H _ I h) λu s1 ⟨x,H1,I1,rx,a,C,dx,fs,v,ex,ea,c,n,l,q⟩=>?_)
 subst ex
 obtain rfl:u=Gd a:=rx
 exact tP I1 ea c n l λu' s2 I2 ru=>⟨v,H1,I2,ru,q⟩
theorem iT (ha:PE X o ta)(hv:PE X value tv)(hs:swapsWith value (some (.Attribute o f pos')) pos.line X.env=pure false):PS X (.Assign [.Attribute o f pos'] value pos) (Eu X.K ta tv f):=by
 intro pins s σ H D I h
 refine plainObj_wpAny_Assign_Attribute (thn (hv pins s σ H _ I h) λu s1 ⟨y,H1,I1,ry,q⟩=>thn (ha pins s1 σ H1 _ I1 q) λov s2 ⟨x,H2,I2,rx,a,C,dx,fs,ex,ea,c,n,l,q2⟩=>?_) hs
 subst ex
 obtain rfl:ov=Gd a:=rx
 exact tL I2 ea c n l ry λs3 I3=>⟨σ,_,I3,q2⟩
theorem zT {pl:Sem Bool}{m:Str}{apos:Pos}{args:List Expr}{pins:List (Fi×Obj)}{s:Fh}{σ:St}{H:Hp}{Q:Value->Fh->Prop}{te:TE}(he:PE X e te)(I:Inv X pins σ H s)
  (h:te σ H λx H1=>∃a C dx fs g,x=.ref a/\H1 a=some (.ins C dx fs)/\Cls X.K C/\vS X.K C m g/\fs.lookup m=none /\
   ∀s1,Inv X pins σ H1 s1->FV (Gj X.prog X.w) X.A (callWith pos (.ref g) [.ref a] (II pos (FU args X.env)) (backToKw pos (IL [] X.env))) Q X.xe s1)
  (ht:Jd (.Call (.Attribute e m apos) args [] pos) X.env=(do
   let ov <-Jd e X.env
   standAt apos.atName
   let (f,first) <-holding [ov] (getMethod ov m pl)
   callWith pos f first (II pos (FU args X.env)) (backToKw pos (IL [] X.env)))) :
  FV (Gj X.prog X.w) X.A (Jd (.Call (.Attribute e m apos) args [] pos) X.env) Q X.xe s:=by
 refine PySem.W.methodCall_KW (pl:=pl) (thn (he pins s σ H _ I h) λu s1 ⟨x,H1,I1,rx,a,C,dx,fs,g,ex,ea,c,k,l,q⟩=>?_) ht
 subst ex
 obtain rfl:u=Gd a:=rx
 exact jO I1 ea c k l (q s1 I1)
end
section
variable  {X:Cx}{pins:List (Fi×Obj)}{σ:St}{H:Hp}{s:Fh}{A:Around}{E:Value->Fh->Prop}{Q:Value->Fh->Prop}{c:Value}{b:Bool}
end
end L2
namespace L2
open PySem PySem.Spec PyProof.Rows
structure bf (k:Nat)(A:Around):Prop where
 hd:A.handled=none
 dp:A.depth+3*k+5<recursionLimit
 un:A.units+16*k+200<cLine
theorem bf.mono {j k:Nat}{A:Around}(r:bf k A)(h:j<=k):bf j A:=⟨r.hd,by have:=r.dp;omega,by have:=r.un;omega⟩
theorem bf.deeper {k:Nat}{A:Around}(r:bf (k+1) A)(env:Env):bf k (A.deeper env) :=
 ⟨r.hd,by have:=r.dp;show A.depth+1+3*k+5<_;omega,by have:=r.un;show A.units+3+16*k+200<_;omega⟩
theorem sU {A:Around}{C:Fi}{us:List Value}{kw:List (Str×Value)}:(A.under (.builtin "type.__call__" ⟨.ref C :: us,kw⟩)).depth=A.depth+1:=by
 first|rfl|simp[Around.under,Code.weight,Code.isCreation,Code.isGuard,Code.isCaller,Code.frames,Code.isFrame,guardIds]
theorem tJ {A:Around}{C:Fi}{us:List Value}{kw:List (Str×Value)}:(A.under (.builtin "type.__call__" ⟨.ref C :: us,kw⟩)).units=A.units+1:=by
 first|rfl|simp[Around.under,Code.cUnits,Code.frames,Code.isFrame]
theorem bf.make {k:Nat}{A:Around}(r:bf (k+1) A)(C:Fi)(us:List Value)(kw:List (Str×Value)):bf k (A.under (.builtin "type.__call__" ⟨.ref C :: us,kw⟩)) :=
 ⟨r.hd,by have:=r.dp;rw[sU];omega,by have:=r.un;rw[tJ];omega⟩
theorem bf.depth {k:Nat}{A:Around}(r:bf k A):A.depth<recursionLimit:=by have:=r.dp;omega
theorem bf.units {k:Nat}{A:Around}(r:bf k A):A.units+64<cLine:=by have:=r.un;omega
theorem bf.units0 {k:Nat}{A:Around}(r:bf k A):A.units<cLine:=by have:=r.un;omega
def fI:TA:=λ_ H Q=>Q [] H
def bD (ta:TE)(tr:TA):TA:=λσ H Q=>ta σ H λx H1=>tr σ H1 λxs H2=>Q (x :: xs) H2
section
variable  {X:Cx}{e:Expr}{es:List Expr}{te:TE}{t:TA}{pos:Pos}
theorem ac:PA X [] fI:=λ_ _ _ _ H Q I h=>Calls.spliced_nil ⟨[],H,I,.nil,h⟩
theorem aa (ha:PE X e te)(hr:PA X es t)(hs:FU (e :: es) X.env=(false,Jd e X.env) :: FU es X.env:=by rfl):PA X (e :: es) (bD te t):=by
 intro pos pins s σ H Q I h
 rw[hs]
 show FV _ _ (spliced ((false,Jd e X.env) :: II pos (FU es X.env))) _ _ s
 refine Calls.spliced_cons (thn (ha pins s σ H _ I h) λu s1 ⟨x,H1,I1,r1,q1⟩=>?_)
 exact thn (hr pos pins s1 σ H1 _ I1 q1) λus s2 ⟨xs,H2,I2,r2,q2⟩=>⟨x :: xs,H2,I2,.cons r1 r2,q2⟩
def va (t:TA):TE:=λσ H Q=>t σ H λxs H1=>xs.length<=Fk/\∀p,H1 p=none->Q (.ref p) (upd H1 p (.tup xs))
def Cr (t:TA):TE:=λσ H Q=>t σ H λxs H1=>xs.length<=Fk/\∀p,H1 p=none->Q (.ref p) (upd H1 p (.lst xs))
theorem bv {x1}(h:PA X es t):PE X (.Tuple es x1 pos) (va t):=by
 intro pins s σ H Q I hq
 refine wpAny_Tuple_spliced (thn (h pos pins s σ H _ I hq) λus s1 ⟨xs,H1,I1,r,z,q⟩=>⟨by rw[<-r.length];exact z,?_⟩)
 have hf:H1 s1.heap.objs.size=none:=I1.hok.fresh (nlr _)
 refine⟨.ref s1.heap.objs.size,upd H1 s1.heap.objs.size (.tup xs),I1.laid (t':=s1.toks) (λb u e=>Ft _ e) (nlr _) ?_,rfl,q _ hf⟩
 exact⟨z,us,r,⟨_,FK _ rfl,rfl,_,rfl⟩⟩
theorem dL (h:PA X es t):PE X (.List es pos) (Cr t):=by
 intro pins s σ H Q I hq
 refine wpAny_List_spliced (thn (h pos pins s σ H _ I hq) λus s1 ⟨xs,H1,I1,r,z,q⟩=>⟨by rw[<-r.length];exact z,?_⟩)
 have hf:H1 s1.heap.objs.size=none:=I1.hok.fresh (nlr _)
 refine⟨.ref s1.heap.objs.size,upd H1 s1.heap.objs.size (.lst xs),I1.laid (t':=s1.toks) (λb u e=>Ft _ e) (nlr _) ?_,rfl,q _ hf⟩
 exact⟨z,us,0,r,FK _ rfl⟩
end
abbrev Sp:=List V->Hp->VK->XK->Prop
abbrev CXT:=List Env->Hp->Fh->XK->Value->Fh->Prop
structure rX (P:FW)(w:G0)(K:GC)(mg:Str->Option Value)(base:Heap)(A:Around)(outer:List Env)(s:Fh)(H:Hp):Prop where
 frames:A.frames=some outer
 mod:Mod K mg base
 bs:∀b o,base.get? b=some o->s.heap.get? b=some o/\H b=none
 bsz:base.objs.size<=s.heap.objs.size
 funs:s.heap.FunFrames base outer
 frf:∀b∈frs outer,H b=none
 hok:HOk P w H s.heap
 bare:AllBare s.gens
def CE (outer:List Env)(P:FW)(w:G0)(H:Hp)(s:Fh)(Q:VK)(u:Value)(s':Fh):Prop :=
 ∃v H',s'.os=s.os/\AllBare s'.gens/\Un (frs outer) [] H H' s.heap s'.heap/\HOk P w H' s'.heap/\aZ v u/\Q v H'
def CR (CX:CXT)(outer:List Env)(P:FW)(w:G0)(H:Hp)(s:Fh)(Q:VK)(E:XK)(r:Result)(s':Fh):Prop :=
 match r with
 |.ok (.ret u)=>CE outer P w H s Q u s'
 |.ok _=>False
 |.error e=>CX outer H s E e s'
structure jq (P:FW)(w:G0)(K:GC)(mg:Str->Option Value)(base:Heap)(CX:CXT)(k:Nat)(f:Fi)(fd:Jg)(ps:List Str)(sp:Sp):Prop where
 len:∀vs H Q E,sp vs H Q E->vs.length=ps.length
 run:∀(A:Around) (outer:List Env) (s:Fh) (H:Hp) (args:Args) (us:List Value) (vs:List V) (Q:VK) (E:XK),bf k A->rX P w K mg base A outer s H->BindsTo s fd args (ps.zip us)->aR vs us->sp vs H Q E ->
  codeAny (Gj P w) A (.call (.ref f) args) (CR CX outer P w H s Q E) s
theorem rX.make {P:FW}{w:G0}{K:GC}{mg:Str->Option Value}{base:Heap}{A:Around}{outer:List Env}{s:Fh}{H:Hp}(e:rX P w K mg base A outer s H)(C:Fi)(us:List Value)(kw:List (Str×Value)) :
  rX P w K mg base (A.under (.builtin "type.__call__" ⟨.ref C :: us,kw⟩)) outer s H:=⟨by first|exact e.frames|(simpa [Around.under,Code.envs,Code.isFrame,pushEnvs] using e.frames),e.mod,e.bs,e.bsz,e.funs,e.frf,e.hok,e.bare⟩
section
variable  {X:Cx}{pins:List (Fi×Obj)}{σ:St}{H:Hp}{s s':Fh}
theorem Inv.env0 (I:Inv X pins σ H s):rX X.prog X.w X.K X.mg X.base X.A X.stack s H :=
 ⟨I.ok.frames,I.ok.mod,I.bs,Gb I.ok.bsz I.sz,I.stack,I.stkFree,I.hok,I.bare⟩
theorem Inv.after {Q:VK}{u:Value}(I:Inv X pins σ H s)(h:CE X.stack X.prog X.w H s Q u s'):EP X pins σ Q u s':=by
 obtain⟨v,H',os,bare,un,hok,r,q⟩:=h
 obtain⟨hh,g,d,t,os'⟩:=s'
 obtain rfl:os'=s.os:=os
 exact⟨v,H',I.call (h':=hh) (g':=g) (d':=d) (t':=t) (ch:=[]) un hok bare (λb z=>absurd z (by simp)),r,q⟩
end
def lI (sp:Sp)(dvs:List V)(E:XK)(t:TA):TE:=λσ H Q=>t σ H λvs H1=>sp (vs++dvs) H1 Q E
def j6 (C:Fi)(m:Str)(sp:Sp)(dvs:List V)(E:XK)(ta:TE)(t:TA):TE:=λσ H Q=>ta σ H λx H1=>∃a dx fs,x=.ref a/\H1 a=some (.ins C dx fs)/\fs.lookup m=none /\
 t σ H1 λvs H2=>sp (x :: (vs++dvs)) H2 Q E
def An (C:Fi)(sp:Sp)(dvs:List V)(E:XK)(t:TA):TE:=λσ H Q=>t σ H λvs H1=>∀x dx,H1 x=none->H1 dx=none->dx≠x ->
 sp (.ref x :: (vs++dvs)) (upd (upd H1 dx (.own x)) x (.ins C dx [])) (λv H2=>v=.non/\Q (.ref x) H2) E
def iU (K:GC)(fd:Jg)(ps:List Str)(ds:List Value):Prop :=
 ∀(s:Fh) (us:List Value),K.In s.heap->(us++ds).length=ps.length->BindsTo s fd ⟨us,[]⟩ (ps.zip (us++ds))
theorem iU.all {K:GC}{fd:Jg}{ps:List Str}(h:∀us:List Value,us.length=ps.length->bindArgs fd ⟨us,[]⟩=pure (ps.zip us)):iU K fd ps []:=λs us _ hl=>by
 rw[GT]at hl ⊢
 exact .of_eq (h us hl)
def jK (CX:CXT)(X:Cx)(E:XK):Prop:=∀(pins:List (Fi×Obj)) (σ:St) (H:Hp) (s:Fh) (e:Value) (s':Fh),Inv X pins σ H s->CX X.stack H s E e s'->X.xe e s'
section
variable  {X:Cx}{CX:CXT}{k:Nat}{f C:Fi}{fd:Jg}{ps:List Str}{sp:Sp}{dvs:List V}{ds:List Value}{E:XK}{x m:Str}{p pos apos:Pos}{e o:Expr}{es:List Expr}{ta:TE}{t:TA}
theorem tG {pins:List (Fi×Obj)}{σ:St}{H:Hp}{s:Fh}{Q:VK}{us:List Value}{vs:List V}(F:jq X.prog X.w X.K X.mg X.base CX k f fd ps sp)(hr:bf k X.A)(hb:iU X.K fd ps ds)(hd:aR dvs ds)(hx:jK CX X E)
  (I:Inv X pins σ H s) (r:aR vs us) (h:sp (vs++dvs) H Q E):FV (Gj X.prog X.w) X.A (call (.ref f) us) (EP X pins σ Q) X.xe s:=by
 have r2:aR (vs++dvs) (us++ds):=r.append hd
 have hl:(us++ds).length=ps.length:=by rw[<-r2.length];exact F.len _ _ _ _ h
 refine wpAny_call (codeAny_mono (F.run X.A X.stack s H ⟨us,[]⟩ (us++ds) (vs++dvs) Q E hr I.env0 (hb s us I.kIn hl) r2 h) λr s' hq=>?_)
 cases r with
 |error e=>exact hx pins σ H s e s' I hq
 |ok fl =>
  cases fl with
  |ret u=>exact I.after hq
  |next=>exact G1 hq
  |brk=>exact G1 hq
  |cont=>exact G1 hq
theorem zr (F:jq X.prog X.w X.K X.mg X.base CX k f fd ps sp)(hr:bf k X.A)(hg:Gl X x)(hm:X.mg x=some (.ref f))(hk:Hr X.K (.ref f)=true)(hb:iU X.K fd ps ds)(hd:aR dvs ds)(hx:jK CX X E)
  (ha:PA X (e :: es) t) (hdb:(x==("__debug__" : Str))=false:=by decide) (he:FU (e :: es) X.env=(false,Jd e X.env) :: FU es X.env:=by rfl) (hpl:(II pos (FU es X.env)).any (·.1)=false:=by rfl) :
  PE X (.Call (.Name x p) (e :: es) [] pos) (lI sp dvs E t):=by
 intro pins s σ H Q I h
 refine IK (qG I hg hm ?_ hdb)
 refine PySem.W.callWith_K (h₀:=X.base) I.ok.mod.kin hk (thn (ha pos pins s σ H _ I h) λus s1 ⟨vs,H1,I1,r,q⟩=>⟨I1.kIn,?_⟩) he hpl
 exact tG F hr hb hd hx I1 r q
theorem yz {pl:Sem Bool}(he:PE X o ta)(c:Cls X.K C)(hm:vS X.K C m f)(F:jq X.prog X.w X.K X.mg X.base CX k f fd ps sp)(hr:bf k X.A)(hb:iU X.K fd ps ds)(hd:aR dvs ds)(hx:jK CX X E)(ha:PA X (e :: es) t)
  (hst:FU (e :: es) X.env=(false,Jd e X.env) :: FU es X.env:=by rfl) (hpl:(II pos (FU es X.env)).any (·.1)=false:=by rfl)
  (ht:Jd (.Call (.Attribute o m apos) (e :: es) [] pos) X.env=(do
   let ov <-Jd o X.env
   standAt apos.atName
   let (f,first) <-holding [ov] (getMethod ov m pl)
   callWith pos f first (II pos (FU (e :: es) X.env)) (backToKw pos (IL [] X.env))):=by rfl) :
  PE X (.Call (.Attribute o m apos) (e :: es) [] pos) (j6 C m sp dvs E ta t):=by
 intro pins s σ H Q I h
 refine PySem.W.methodCall_KW (pl:=pl) (thn (he pins s σ H _ I h) λu s1 ⟨x,H1,I1,rx,a,dx,fs,ex,ea,l,q⟩=>?_) ht
 subst ex
 obtain rfl:u=Gd a:=rx
 refine jO I1 ea c hm l ?_
 refine PySem.W.callWith_K (first:=[.ref a]) (h₀:=X.base) I.ok.mod.kin hm.kp (thn (ha pos pins s1 σ H1 _ I1 q) λus s2 ⟨vs,H2,I2,r,q2⟩=>⟨I2.kIn,?_⟩) hst hpl
 exact tG (us:=.ref a :: us) (vs:=.ref a :: vs) F hr hb hd hx I2 (.cons rfl r) q2
theorem wF {pl:Sem Bool}(he:PE X o ta)(c:Cls X.K C)(hm:vS X.K C m f)(F:jq X.prog X.w X.K X.mg X.base CX k f fd ps sp)(hr:bf k X.A)(hb:iU X.K fd ps ds)(hd:aR dvs ds)(hx:jK CX X E)
  (ht:Jd (.Call (.Attribute o m apos) [] [] pos) X.env=(do
   let ov <-Jd o X.env
   standAt apos.atName
   let (f,first) <-holding [ov] (getMethod ov m pl)
   callWith pos f first (II pos (FU [] X.env)) (backToKw pos (IL [] X.env))):=by rfl) :
  PE X (.Call (.Attribute o m apos) [] [] pos) (j6 C m sp dvs E ta fI):=by
 intro pins s σ H Q I h
 refine PySem.W.methodCall_KW (pl:=pl) (thn (he pins s σ H _ I h) λu s1 ⟨x,H1,I1,rx,a,dx,fs,ex,ea,l,q⟩=>?_) ht
 subst ex
 obtain rfl:u=Gd a:=rx
 refine jO I1 ea c hm l ?_
 exact PySem.W.callWith_K0 (first:=[.ref a]) I1.kIn hm.kp (tG (us:=[.ref a]) (vs:=[.ref a]) F hr hb hd hx I1 (.cons rfl .nil) q)
structure Mk (K:GC)(C f:Fi):Prop where
 makes:PySem.W.makesIn K C=true
 init:Hh K (.ref C) "__init__"=some (some (.ref f))
 fn:PySem.W.isFn K (.ref f)=true
 kp:Hr K (.ref C)=true
theorem wz {pins:List (Fi×Obj)}{σ:St}{H:Hp}{s:Fh}{Q:VK}{us:List Value}{vs:List V}(M:Mk X.K C f)(F:jq X.prog X.w X.K X.mg X.base CX k f fd ps sp)(hr:bf (k+1) X.A)(hb:iU X.K fd ps ds)(hd:aR dvs ds)
  (hx:jK CX X E) (I:Inv X pins σ H s) (r:aR vs us)
  (h:∀x dx,H x=none->H dx=none->dx≠x->sp (.ref x :: (vs++dvs)) (upd (upd H dx (.own x)) x (.ins C dx [])) (λv H2=>v=.non/\Q (.ref x) H2) E) :
  FV (Gj X.prog X.w) X.A (call (.ref C) us) (EP X pins σ Q) X.xe s:=by
 have hq:=h (s.heap.objs.size+1) s.heap.objs.size (I.hok.fresh (Nat.le_succ _)) (I.hok.fresh (nlr _)) (Ga (Nat.lt_succ_self _))
 have I2:=Inv.made (C:=C) I
 have r2:aR (V.ref (s.heap.objs.size+1) :: (vs++dvs)) (Gd (s.heap.objs.size+1) :: (us++ds)):=.cons rfl (r.append hd)
 have hl:(Gd (s.heap.objs.size+1) :: us++ds).length=ps.length:=by
  have e:=r2.length
  rw[F.len _ _ _ _ hq]at e
  exact e.symm
 refine wpAny_call (ya (f:=f) I.kIn M.makes M.init (IF.mp M.fn) (codeAny_mono (F.run _ X.stack _ _ ⟨Gd (s.heap.objs.size+1) :: us,[]⟩ (Gd (s.heap.objs.size+1) :: (us++ds)) _ _ E (hr.make C us [])
  (I2.env0.make C us []) (hb _ (Gd (s.heap.objs.size+1) :: us) I2.kIn hl) r2 hq) λr s' hq'=>?_))
 cases r with
 |error e=>exact hx pins σ _ _ e s' I2 hq'
 |ok fl =>
  cases fl with
  |ret u =>
   obtain⟨v,H',I3,rv,ev,q3⟩:=I2.after hq'
   subst ev
   exact⟨rv,⟨V.ref (s.heap.objs.size+1),H',I3,rfl,q3⟩⟩
  |next=>exact G1 hq'
  |brk=>exact G1 hq'
  |cont=>exact G1 hq'
theorem yy (M:Mk X.K C f)(F:jq X.prog X.w X.K X.mg X.base CX k f fd ps sp)(hr:bf (k+1) X.A)(hg:Gl X x)(hm:X.mg x=some (.ref C))(hb:iU X.K fd ps ds)(hd:aR dvs ds)(hx:jK CX X E)
  (ha:PA X (e :: es) t) (hdb:(x==("__debug__" : Str))=false:=by decide) (he:FU (e :: es) X.env=(false,Jd e X.env) :: FU es X.env:=by rfl) (hpl:(II pos (FU es X.env)).any (·.1)=false:=by rfl) :
  PE X (.Call (.Name x p) (e :: es) [] pos) (An C sp dvs E t):=by
 intro pins s σ H Q I h
 refine IK (qG I hg hm ?_ hdb)
 refine PySem.W.callWith_K (h₀:=X.base) I.ok.mod.kin M.kp (thn (ha pos pins s σ H _ I h) λus s1 ⟨vs,H1,I1,r,q⟩=>⟨I1.kIn,?_⟩) he hpl
 exact wz M F hr hb hd hx I1 r q
end
section
variable  {X:Cx}{CX:CXT}{k:Nat}{f C:Fi}{fd:Jg}{ps ks:List Str}{sp:Sp}{E:XK}{x m:Str}{p pos apos kpos:Pos}{e o:Expr}{es:List Expr}{kws:List Keyword}{te ta:TE}{t tk:TA}{nm:Option Str}
variable  {g:List Value->List Value->List Value}{gV:List V->List V->List V}
end
structure ap (N P:List Str)(sc:Scope):Prop where
 kind:sc.kind=.function
 co:sc.isCoroutine=false
 gen:sc.isGenerator=false
 nd:N.Nodup
 pre:N.take P.length=P
 par:∀x∈P,sc.names.lookup x=some .local\/sc.names.lookup x=some .cell
 nofree:∀y∈sc.names,y.2≠.free
theorem fsk {N P:List Str}{sc:Scope}(a:sc.kind=.function:=by rfl)(b:sc.isCoroutine=false:=by rfl)(c:sc.isGenerator=false:=by rfl)(d:N.Nodup:=by decide +kernel)(e:N.take P.length=P:=by rfl)(f:∀x∈P,sc.names.lookup x=some .local\/sc.names.lookup x=some .cell:=by decide +kernel)(g:∀y∈sc.names,y.2≠.free:=by decide +kernel):ap N P sc:=⟨a,b,c,d,e,f,g⟩
theorem pF {kindOf:Str->Option NameKind}{x:Str}:∀{binds:List (Str×Value)} {m:Str->Option Value},(∀v,(x,v)∉binds)->bindL kindOf binds m x=m x
 |[],_,_=>rfl
 |(n,v) :: r,m,h=>by
  unfold bindL
  rw[pF λw hw=>h w (Fj _ hw)]
  split
  ·have:x≠n:=by rintro rfl;exact h v FB
   simp[this]
  ·rfl
theorem pk {kindOf:Str->Option NameKind}{x:Str}:∀{binds:List (Str×Value)} {m:Str->Option Value},(∀v,(x,v)∉binds)->bindC kindOf binds m x=m x
 |[],_,_=>rfl
 |(n,v) :: r,m,h=>by
  unfold bindC
  rw[pk λw hw=>h w (Fj _ hw)]
  split
  ·rfl
  ·have:x≠n:=by rintro rfl;exact h v FB
   simp[this]
theorem oK {kindOf:Str->Option NameKind}{x:Str}{v:Value}:∀{P:List Str} {vs:List Value} {i:Nat} {m:Str->Option Value},P.Nodup->P[i]? = some x->vs[i]? = some v->kindOf x=some .local ->
  bindL kindOf (P.zip vs) m x=some v
 |[],_,_,_,_,h,_,_=>by simp at h
 |_ :: _,[],_,_,_,_,h,_=>by simp at h
 |p :: P,w :: vs,0,m,nd,h1,h2,hk=>by
  simp at h1 h2;subst h1;subst h2
  show bindL kindOf ((p,w) :: P.zip vs) m p=_
  unfold bindL
  rw[pF λv hv=>(GU.mp nd).1 (List.of_mem_zip hv).1,Fs hk]
  simp
 |p :: P,w :: vs,i+1,m,nd,h1,h2,hk=>by
  show bindL kindOf ((p,w) :: P.zip vs) m x=_
  unfold bindL
  exact oK (i:=i) (GU.mp nd).2 (by simpa using h1) (by simpa using h2) hk
theorem pA {kindOf:Str->Option NameKind}{x:Str}{v:Value}:∀{P:List Str} {vs:List Value} {i:Nat} {m:Str->Option Value},P.Nodup->P[i]? = some x->vs[i]? = some v->kindOf x≠some .local ->
  bindC kindOf (P.zip vs) m x=some v
 |[],_,_,_,_,h,_,_=>by simp at h
 |_ :: _,[],_,_,_,_,h,_=>by simp at h
 |p :: P,w :: vs,0,m,nd,h1,h2,hk=>by
  simp at h1 h2;subst h1;subst h2
  show bindC kindOf ((p,w) :: P.zip vs) m p=_
  unfold bindC
  rw[pk λv hv=>(GU.mp nd).1 (List.of_mem_zip hv).1,Fl hk]
  simp
 |p :: P,w :: vs,i+1,m,nd,h1,h2,hk=>by
  show bindC kindOf ((p,w) :: P.zip vs) m x=_
  unfold bindC
  exact pA (i:=i) (GU.mp nd).2 (by simpa using h1) (by simpa using h2) hk
def start (N:List Str)(vs:List V):St:=vs.map some++HM (N.length-vs.length) none
def qp (CX:CXT)(P:FW)(w:G0)(K:GC)(mg:Str->Option Value)(base:Heap)(N:List Str)(qual:Str)(scope:Scope)(f:Fi)(cd:Value)(A:Around)(outer:List Env)(s:Fh)(H:Hp)(E:XK):Cx where
 prog:=P
 w:=w
 K:=K
 mg:=mg
 base:=base
 A:=A.deeper (envOfC qual scope s.heap.objs.size f cd)
 N:=N
 s_0:=s
 H_0:=H
 env:=envOfC qual scope s.heap.objs.size f cd
 outer:=outer
 stack:=envOfC qual scope s.heap.objs.size f cd :: outer
 ex:=[]
 calm:=true
 fn:=λ_=>true
 pn:=[]
 xe:=λe s'=>FV (Gj P w) (A.deeper (envOfC qual scope s.heap.objs.size f cd)) (leaving (envOfC qual scope s.heap.objs.size f cd) e) (λ_ s''=>CX outer H s E e s'') (λe' s''=>CX outer H s E e' s'') s'
theorem rs {sc:Scope}{n:Nat}{x:Str}(h:sc.names.lookup x=some .cell):∃c,(G9 n sc.names []).lookup x=some c:=by
 have q:=PySem.W.cellsFrom_some sc.names n [] (.inl h)
 exact Option.isSome_iff_exists.mp q
theorem u5 {CX:CXT}{P:FW}{w:G0}{K:GC}{mg:Str->Option Value}{base:Heap}{N ps:List Str}{qual:Str}{scope:Scope}{f:Fi}{cd:Value}{A:Around}{outer:List Env}{s s1:Fh}{H:Hp}{E:XK}{us:List Value}{vs:List V}
  (S:ap N ps scope) (hd:A.handled=none) (e0:rX P w K mg base A outer s H) (hl:vs.length=ps.length) (r:aR vs us)
  (x:InCallC s s.heap.objs.size (bindL (envOfC qual scope s.heap.objs.size f cd).kindOf (ps.zip us) λ_=>none) (G9 (s.heap.objs.size+1) scope.names []) (bindC (envOfC qual scope s.heap.objs.size f cd).kindOf (ps.zip us) λ_=>none) s1) :
  Inv (qp CX P w K mg base N qual scope f cd A outer s H E) [] (start N vs) H s1:=by
 have hpl:ps.length<=N.length:=by have:=G5 List.length S.pre;rw[Gr]at this;omega
 obtain⟨h1,tk,rfl,hk⟩:=x.done
 have noA:∀b:Fi,b∉(qp CX P w K mg base N qual scope f cd A outer s H E).ex:=λb z=>absurd (show b∈([]:List Fi) from z) (by simp)
 refine⟨⟨e0.mod,S.kind,rfl,rfl,nlr _,λy z c h1 h2=>?_,λy hy=>?_,λy c _ h=>?_,λ_=>hd,Around.frames_deeper e0.frames,.inr ⟨rfl,rfl⟩,λb z=>absurd z (noA b),e0.bs,e0.bsz,λb _ _=>noA b,λb z=>absurd z (noA b),e0.funs,e0.frf⟩,
  rfl,e0.bare,Un.kept hk,⟨_,x.toInCall.ns,λi y v h1 h2 h3=>?_⟩,λy c h=>⟨_,x.cell y c h⟩,e0.hok.fresh (nlr _),λy c h=>?_,λp hp=>absurd (show p∈([]:List (Fi×Obj)) from hp) (by simp),e0.hok.kept hk,?_⟩
 ·exact name_of_addr x.apart (Gf h1) (Gf h2)
 ·have hy:scope.names.lookup y=some .cell\/scope.names.lookup y=some .free:=hy
  rcases hy with hy|hy
  ·exact rs hy
  ·exact absurd rfl (S.nofree _ (Gf hy))
 ·exact Iw (x.above y c (Gf h))
 ·have hi:i<vs.length:=by
   unfold start at h2
   by_cases hi:i<vs.length
   ·exact hi
   ·rw[FE (by simpa using hi)]at h2
    rw[List.getElem?_replicate]at h2
    split at h2<;>cases h2
  have ha:vs[i]? = some v:=by
   unfold start at h2
   rw[FL (by simpa using hi),FA]at h2
   cases e:vs[i]? with
   |none=>rw[e]at h2;cases h2
   |some a=>rw[e]at h2;cases h2;rfl
  obtain⟨u,hu,rv⟩:=r.get ha
  have hp:ps[i]? = some y:=by
   rw[<-S.pre,List.getElem?_take_of_lt (by omega)];exact h1
  have ndP:ps.Nodup:=by rw[<-S.pre];exact S.nd.sublist (List.take_sublist _ _)
  refine⟨u,rv,?_⟩
  rcases S.par y (Gg hp) with k|k
  ·exact .inl ⟨k,oK ndP hp hu k⟩
  ·obtain⟨c,e⟩:=rs (n:=s.heap.objs.size+1) k
   refine .inr ⟨.inl k,c,e,?_⟩
   have q:=x.cell y c e
   rw[pA ndP hp hu (by show scope.names.lookup y≠_;rw[k];decide)]at q
   exact q
 ·exact e0.hok.fresh (Iw (x.above y c (Gf h)))
 ·unfold start
  show _=N.length
  rw[Fm,lmp,Ic]
  omega
theorem Cv {CX:CXT}{P:FW}{w:G0}{K:GC}{mg:Str->Option Value}{base:Heap}{k:Nat}{f:Fi}{name qual:Str}{params:Arguments}{body:List Hy}{scope:Scope}{dV kV doc pm cdv ct oc:Value}{an od:Option Fi}
  {osl:Array (Option Value)} {N ps:List Str} {sp:Sp} (lk:K.lookup f=some ⟨oc,od,.func (HN name qual params body scope dV kV doc pm an cdv ct),osl⟩) (hcd:Je K cdv qual=true) (S:ap N ps scope)
  (len:∀vs H Q E,sp vs H Q E->vs.length=ps.length)
  (hbody:∀(A:Around) (outer:List Env) (s:Fh) (H:Hp) (vs:List V) (Q:VK) (E:XK),bf k (A.deeper (envOfC qual scope s.heap.objs.size f cdv))->sp vs H Q E ->
   ∃t,PSs (qp CX P w K mg base N qual scope f cdv A outer s H E) body t/\t { nx:=λ_ H'=>Q .non H',rt:=Q } (start N vs) H) :
  jq P w K mg base CX (k+1) f (HN name qual params body scope dV kV doc pm an cdv ct) ps sp:=by
 refine⟨len,λA outer s H args us vs Q E hr e0 hb r hsp=>?_⟩
 have hl:=len _ _ _ _ hsp
 have KX:K.In s.heap:=e0.mod.kin.keeps λb o e=>(e0.bs b o e).1
 have lim:s.heap.NoLimit:=e0.mod.nolimit.keeps λb o e=>(e0.bs b o e).1
 have hkind:∀y∈ps.zip us,scope.names.lookup y.1=some .local\/(scope.names.lookup y.1=some .cell/\((G9 (s.heap.objs.size+1) scope.names []).lookup y.1).isSome=true):=λ⟨n,v⟩ hy=>by
  rcases S.par n (List.of_mem_zip hy).1 with q|q
  ·exact .inl q
  ·exact .inr ⟨q,PySem.W.cellsFrom_some _ _ _ (.inl q)⟩
 refine codeAny_call_function hr.depth (KX _ _ lk) rfl S.co S.gen rfl (PySem.W.codeRec_of KX hcd) (hb _ _ _ _ ?_)
 refine wpAny_newFunctionEnv_cells S.kind hkind λenv he s1 x=>?_
 subst he
 refine⟨lim.keeps x.toInCall.keep,codeAny_func ?_⟩
 obtain⟨t,ht,hq⟩:=hbody A outer s H vs Q E (hr.deeper _) hsp
 have I:Inv (qp CX P w K mg base N qual scope f cdv A outer s H E) [] (start N vs) H s1:=u5 S hr.hd e0 hl r x
 refine IY (ht [] s1 (start N vs) H _ I hq) (λfl s' hs=>?_) λe s' hs=>hs
 have fin:∀{σ':St} {H':Hp} {v:V} {u:Value},Inv (qp CX P w K mg base N qual scope f cdv A outer s H E) [] σ' H' s'->aZ v u->Q v H'->CE outer P w H s Q u s' :=
  λ{σ' H' v u} J rv q=>⟨v,H',J.os,J.bare,J.base,J.hok,rv,q⟩
 cases fl with
 |ret u =>
  obtain⟨v,σ',H',J,rv,q⟩:=hs
  exact fin J rv q
 |next =>
  obtain⟨σ',H',J,q⟩:=hs
  exact fin (v:=V.non) (u:=IX) J rfl q
 |brk =>
  obtain⟨_,_,_,q⟩:=hs
  exact G1 q
 |cont =>
  obtain⟨_,_,_,q⟩:=hs
  exact G1 q
end L2
namespace L2
open PySem PySem.Spec PyProof.Rows
section
variable  {X:Cx}{x:Str}{p pos:Pos}{e:Expr}{es:List Expr}{t:TA}{id T:String}{r:List V->Hp->VK->Prop}
def tCB (r:List V->Hp->VK->Prop)(t:TA):TE:=λσ H Q=>t σ H λvs H1=>r vs H1 Q
theorem aU (hc:nG X (.builtin id) r)(hg:Gl X x)(hm:X.mg x=none)(hv:HL x=some (.builtin id))(ha:PA X (e :: es) t) (hn:x≠"__name__":=by decide) (hdb:(x==("__debug__" : Str))=false:=by decide)
  (he:FU (e :: es) X.env=(false,Jd e X.env) :: FU es X.env:=by rfl) (hpl:(II pos (FU es X.env)).any (·.1)=false:=by rfl):PE X (.Call (.Name x p) (e :: es) [] pos) (tCB r t):=by
 intro pins s σ H Q I h
 refine IK (gp I hg hm hv ?_ hn hdb)
 exact PyProof.Rows.callWith_builtin1 (thn (ha pos pins s σ H _ I h) λus s1 ⟨vs,H1,I1,r1,q1⟩=>hc pins s1 σ H1 vs us Q I1 r1 q1) he hpl
theorem vY (hc:nG X (.type T) r)(hg:Gl X x)(hm:X.mg x=none)(hv:HL x=some (.type T))(ha:PA X (e :: es) t) (hn:x≠"__name__":=by decide) (hdb:(x==("__debug__" : Str))=false:=by decide)
  (he:FU (e :: es) X.env=(false,Jd e X.env) :: FU es X.env:=by rfl) (hpl:(II pos (FU es X.env)).any (·.1)=false:=by rfl):PE X (.Call (.Name x p) (e :: es) [] pos) (tCB r t):=by
 intro pins s σ H Q I h
 refine IK (gp I hg hm hv ?_ hn hdb)
 exact Gm (thn (ha pos pins s σ H _ I h) λus s1 ⟨vs,H1,I1,r1,q1⟩=>hc pins s1 σ H1 vs us Q I1 r1 q1) he hpl
end
end L2
namespace HT
open PySem PyProof.Rows
def lexLt:List Int->List Int->Bool
 |[],[]=>false
 |[],_ :: _=>true
 |_ :: _,[]=>false
 |x :: xs,y :: ys=>if x=y then lexLt xs ys else decide (x<y)
theorem lexLt_cons (x y:Int)(xs ys:List Int):lexLt (x :: xs) (y :: ys)=if x=y then lexLt xs ys else decide (x<y):=rfl
theorem lexLt_nil_nil:lexLt [] []=false:=rfl
theorem lexLt_nil_cons (y:Int)(ys:List Int):lexLt [] (y :: ys)=true:=rfl
theorem lexLt_cons_nil (x:Int)(xs:List Int):lexLt (x :: xs) []=false:=rfl
theorem eqAt_int (A:Around)(s:Fh)(a:Int)(t:Tok)(c:Int)(u:Tok):∃e,SeqAt.EqAt A s (.int a t) (.int c u) e/\(e=true↔a=c) :=
 ⟨(a==c),SeqAt.EqAt.int_int a t c u,by simp⟩
section
open PySem.SeqAt
open PySem.AutoSeq1 (wpAny_loadPart')
open PySem.MeetsSeq PySem.MeetsSeq2 PySem.MeetsSeq3
end
section
variable  {prog:FW}{w:G0}{A:Around}{E:Value->Fh->Prop}{s:Fh}
theorem cat_tup {t b:Fi}{vs ws:List Value}{Q:Value->Fh->Prop}(ht:IsTup s.heap t vs.toArray)(hb:IsTup s.heap b ws.toArray)(hv:vs≠[])
  (h1:ws=[]->Q (.ref t) s) (h2:ws≠[]->Q (.ref s.heap.objs.size) { s with heap:=s.heap.push { cls:=.type "tuple",data:=.seq (vs++ws).toArray } })
  (hsz:vs.length+ws.length<=Fk):FV (Gj prog w) A (binaryOp .Add (.ref t) (.ref b)) Q E s:=by
 obtain⟨⟨cls,dd,data,sl⟩,ho,hc,n,hd⟩:=id ht
 obtain⟨⟨cls2,dd2,data2,sl2⟩,ho2,hc2,n2,hd2⟩:=id hb
 simp only at hc hd hc2 hd2
 subst hc hd hc2 hd2
 have e:vs.toArray++ws.toArray=(vs++ws).toArray:=by simp
 by_cases hw:ws=[]
 ·exact concat_meets ⟨_,ho,rfl⟩ ⟨_,ho2,rfl⟩ noFill_tuple_add seq_tuple_add PySem.F.slot_tuple_add PySem.F.entry_tuple_add (PySem.F.args_tuple_add_2 _ _)
   (tuple_addW1 t b vs.toArray ws.toArray n n2 dd dd2 sl sl2 (by simpa using hv) (by simp[hw])) ⟨ho,ho2,h1 hw⟩
 ·refine concat_meets ⟨_,ho,rfl⟩ ⟨_,ho2,rfl⟩ noFill_tuple_add seq_tuple_add PySem.F.slot_tuple_add PySem.F.entry_tuple_add (PySem.F.args_tuple_add_2 _ _)
   (tuple_addW2 t b vs.toArray ws.toArray n n2 dd dd2 sl sl2 (by simpa using hv) (by simpa using hw) (by rw[Fu,Fu];exact hsz)) ⟨ho,ho2,?_⟩
  rw[e]
  exact h2 hw
def sIx (n d:Nat):Option Int->Nat
 |none=>d
 |some v=>if v<0 then (v+(n:Int)).toNat else min v.toNat n
theorem sIx_none (n d:Nat):sIx n d none=d:=rfl
theorem sIx_nat (n d k:Nat):sIx n d (some (k:Int))=min k n:=by
 show(if (k:Int)<0 then ((k:Int)+(n:Int)).toNat else min (k:Int).toNat n)=min k n
 rw[Fl (by omega),GG]
end
end HT
namespace L2
open PySem PySem.Spec PyProof.Rows
abbrev TO:=St->Hp->(Option Int->Hp->Prop)->Prop
def PO (X:Cx)(e:Option Expr)(t:TO):Prop :=
 ∀(pins:List (Fi×Obj)) (s:Fh) (σ:St) (H:Hp) (Q:Option Int->Hp->Prop),Inv X pins σ H s->t σ H Q ->
  FV (Gj X.prog X.w) X.A (evalPart e X.env) (λu s'=>∃o H',Inv X pins σ H' s'/\IsPart u o/\Q o H') X.xe s
def zu:TO:=λ_ H Q=>Q none H
def CK (t:TE):TO:=λσ H Q=>t σ H λx H1=>∃i,x=.int i/\Q (some i) H1
theorem hZ {ns:List Int}:∀{us:List Value},aR (ns.map V.int) us->IH us ns:=by
 induction ns with
 |nil=>intro us r;rw[List.map_nil]at r;cases r;exact .nil
 |cons n ns ih =>
  intro us r
  rw[FH]at r
  cases r with
  |cons r1 r2 =>
   obtain⟨t,e⟩:=r1
   subst e
   exact .cons n t (ih r2)
section
variable  {X:Cx}{e:Expr}{te:TE}{lo hi:Option Expr}{tl th:TO}{pos p2:Pos}
theorem zN:PO X none zu:=by
 intro pins s σ H Q I h
 rw[evalPart_none]
 exact FD ⟨none,H,I,.none,h⟩
theorem km (h:PE X e te):PO X (some e) (CK te):=by
 intro pins s σ H Q I hw
 rw[evalPart_some]
 refine thn (h pins s σ H _ I hw) λu s1 ⟨x,H1,I1,r1,q1⟩=>?_
 obtain⟨i,rfl,q⟩:=q1
 obtain⟨t,rfl⟩:=r1
 exact⟨some i,H1,I1,.int i t,q⟩
def SlR (X:Cx)(r:V->Option Int->Option Int->Hp->VK->Prop):Prop :=
 ∀(pins:List (Fi×Obj)) (s:Fh) (σ:St) (H:Hp) (x:V) (v vl vu:Value) (lo hi:Option Int) (sl:Fi) (Q:VK),Inv X pins σ H s->aZ x v->s.heap.IsSliceOf sl vl vu .none->IsPart vl lo->IsPart vu hi->r x lo hi H Q ->
  ∃T id,typeLookup (.type T) "__getitem__"=pure (some (.builtin id))/\s.TypeIs v T/\FV (Gj X.prog X.w) X.A (getItem v (.ref sl)) (EP X pins σ Q) X.xe s
def tSl (r:V->Option Int->Option Int->Hp->VK->Prop)(te:TE)(tl th:TO):TE:=λσ H Q=>te σ H λx H1=>tl σ H1 λl H2=>th σ H2 λu H3=>r x l u H3 Q
theorem mx {r:V->Option Int->Option Int->Hp->VK->Prop}(hr:SlR X r)(he:PE X e te)(hl:PO X lo tl)(hu:PO X hi th):PE X (.Subscript e (.Slice lo hi none p2) pos) (tSl r te tl th):=by
 intro pins s σ H Q I h
 refine Subscript_ (thn (he pins s σ H _ I h) λv s1 ⟨x,H1,I1,r1,q1⟩=>?_)
 refine wpAny_Slice (thn (hl pins s1 σ H1 _ I1 q1) λvl s2 ⟨l,H2,I2,pl,q2⟩=>thn (hu pins s2 σ H2 _ I2 q2) λvu s3 ⟨u,H3,I3,pu,q3⟩=>?_)
 rw[evalPart_none]
 refine FD ?_
 have I4:Inv X pins σ H3 { s3 with heap:=s3.heap.push { cls:=.type "slice",data:=.fields #[vl,vu,.none] } }:=I3.kept (t':=s3.toks) λb ob q=>Ft _ q
 obtain⟨T,id,hT,ht,hg⟩:=hr pins { s3 with heap:=s3.heap.push { cls:=.type "slice",data:=.fields #[vl,vu,.none] } } σ H3 x v vl vu l u s3.heap.objs.size Q I4 r1 (Heap.IsSliceOf.new ..) pl pu q3
 show FV (Gj X.prog X.w) X.A (subscriptTail e (.Slice lo hi none p2) v (.ref s3.heap.objs.size)) (EP X pins σ Q) X.xe { s3 with heap:=s3.heap.push { cls:=.type "slice",data:=.fields #[vl,vu,.none] } }
 exact tail_any (ops:=[.ref s3.heap.objs.size,v]) ht hT hg (by with_unfolding_all rfl)
def n0 (xs:List V)(lo hi:Option Int):List V:=(xs.drop (HT.sIx xs.length 0 lo)).take (HT.sIx xs.length xs.length hi-HT.sIx xs.length 0 lo)
theorem rn (xs:List V)(lo hi:Option Int):(n0 xs lo hi).length<=xs.length:=by
 unfold n0
 rw[Gr,FZ]
 omega
def En (K:GC):R2:=λx y H Q=>∃a b xs ys,x=.ref a/\y=.ref b/\SqT K H a xs/\SqT K H b ys/\xs≠[]/\xs.length+ys.length<=Fk /\
 (ys=[]->Q (.ref a) H)/\(ys≠[]->∀p,H p=none->Q (.ref p) (upd H p (.tup (xs++ys))))
theorem aR.nil_iff {xs:List V}{us:List Value}(r:aR xs us):us=[]↔xs=[]:=by
 cases r with
 |nil=>simp
 |cons _ _=>simp
theorem yG:OpR X (binaryOp .Add) (En X.K):=by
 intro pins s σ H x y v u Q I rx ry h
 obtain⟨a,b,xs,ys,rfl,rfl,ha,hb,hx,hz,q1,q2⟩:=h
 cases rx
 cases ry
 obtain⟨its,r1,p1,_⟩:=I.tuple ha
 obtain⟨its2,r2,p2,_⟩:=I.tuple hb
 refine HT.cat_tup p1 p2 (λz=>hx (r1.nil_iff.mp z)) (λz=>⟨.ref a,H,I,rfl,q1 (r2.nil_iff.mp z)⟩) (λz=>?_) (by rw[<-r1.length,<-r2.length];exact hz)
 refine⟨.ref s.heap.objs.size,_,I.laid (t':=s.toks) (o:=.tup (xs++ys)) (λb ob q=>Ft _ q) (nlr _) ?_,rfl,q2 (λw=>z (r2.nil_iff.mpr w)) _ (I.hok.fresh (nlr _))⟩
 exact⟨by rw[Fm];exact hz,_,r1.append r2,IsTup.new _ _⟩
end
end L2
namespace L2
open PySem PySem.Spec PyProof.Rows
def ixN (n:Nat)(i:Int):Option Nat:=if 0<=i then (if i<n then some i.toNat else none) else if -(n:Int)<=i then some (i+n).toNat else none
def atI {α:Type}(xs:List α)(i:Int):Option α:=(ixN xs.length i).bind λj=>xs[j]?
theorem uq {n:Nat}{i:Int}{j:Nat}(h:ixN n i=some j):seqIndex? i n=some j/\j<n/\-(n:Int)<=i/\i<n:=by
 unfold ixN at h
 by_cases h0:0<=i
 ·rw[Fs h0]at h
  by_cases h1:i<n
  ·rw[Fs h1]at h
   have e:i.toNat=j:=osi h
   exact⟨by rw[seqIndex_of h0 h1,e],by omega,by omega,h1⟩
  ·rw[Fl h1]at h;cases h
 ·rw[Fl h0]at h
  by_cases h1:-(n:Int)<=i
  ·rw[Fs h1]at h
   have e:(i+n).toNat=j:=osi h
   exact⟨by rw[seqIndex_neg (by omega) h1,e],by omega,h1,by omega⟩
  ·rw[Fl h1]at h;cases h
theorem uo {α:Type}{xs:List α}{i:Int}{v:α}(h:atI xs i=some v):∃j,seqIndex? i xs.length=some j/\xs[j]? = some v/\j<xs.length/\-(xs.length:Int)<=i/\i<xs.length:=by
 unfold atI at h
 cases e:ixN xs.length i with
 |none=>rw[e]at h;cases h
 |some j =>
  rw[e]at h
  obtain⟨h1,h2,h3,h4⟩:=uq e
  exact⟨j,h1,h,h2,h3,h4⟩
theorem qe {α:Type}{xs:List α}{j:Nat}{v:α}(h:xs[j]? = some v):atI xs (j:Int)=some v:=by
 have hj:j<xs.length:=(gsi h).1
 have e:ixN xs.length (j:Int)=some j:=by
  unfold ixN
  rw[Fs (by omega),Fs (by omega)];simp
 unfold atI;rw[e];exact h
theorem mw {α:Type}(xs:List α)(v:α):atI (xs++[v]) (-1)=some v:=by
 have hl:(xs++[v]).length=xs.length+1:=by simp
 have e:ixN (xs++[v]).length (-1)=some xs.length:=by
  unfold ixN
  rw[hl,Fl (by decide),Fs (by omega)]
  congr 1
  omega
 unfold atI
 rw[e]
 show(xs++[v])[xs.length]? = some v
 simp
def zz (b:Expr):Prop:=∀o i,subscripted b false o i=operate [o,i] (getItem o i)
def IxR (X:Cx)(r:R2):Prop :=
 ∀(value slice:Expr) (pins:List (Fi×Obj)) (s:Fh) (σ:St) (H:Hp) (x y:V) (v u:Value) (Q:VK),Inv X pins σ H s->aZ x v->aZ y u->r x y H Q ->
  subscripted slice false v u=operate [v,u] (getItem v u)->FV (Gj X.prog X.w) X.A (subscriptTail value slice v u) (EP X pins σ Q) X.xe s
def MtR (X:Cx)(id:String)(r:V->List V->Hp->VK->Prop):Prop :=
 ∀(pins:List (Fi×Obj)) (s:Fh) (σ:St) (H:Hp) (x:V) (xs:List V) (v:Value) (us:List Value) (Q:VK),Inv X pins σ H s->aZ x v->aR xs us->r x xs H Q ->
  FV (Gj X.prog X.w) X.A (call (.builtin id) (v :: us)) (EP X pins σ Q) X.xe s
section
variable  {X:Cx}{a b:Expr}{ta tb:TE}{pos:Pos}
theorem aw {r:R2}(hr:IxR X r)(ha:PE X a ta)(hb:PE X b tb)(hs:zz b):PE X (.Subscript a b pos) (tOp r ta tb):=by
 intro pins s σ H Q I h
 exact Subscript_ (Bx ha hb I h λv u s2 x y H2 I2 rx ry q=>hr a b pins s2 σ H2 x y v u Q I2 rx ry q (hs _ _))
def uX (K:GC):R2:=λx y H Q=>∃p xs i v,x=.ref p/\y=.int i/\SqL K H p xs/\atI xs i=some v/\Q v H
def pI (K:GC):R2:=λx y H Q=>∃p xs i v,x=.ref p/\y=.int i/\SqT K H p xs/\atI xs i=some v/\Q v H
theorem aS:IxR X (uX X.K):=by
 intro value slice pins s σ H x y v u Q I rx ry h hs
 obtain⟨p,xs,i,z,rfl,rfl,hq,he,q⟩:=h
 cases rx
 obtain⟨t,rfl⟩:=ry
 obtain⟨its,r,pl,hz⟩:=I.list hq
 obtain⟨j,h1,h2,h3,h4,h5⟩:=uo he
 obtain⟨w,ew,rw'⟩:=r.get h2
 have hl:=r.length
 have hn:=qw
 have fin:EP X pins σ Q w s:=⟨z,H,I,rw',q⟩
 by_cases h0:0<=i
 ·have hj:i.toNat=j:=by
   rw[seqIndex_of h0 h5]at h1
   exact osi h1
  exact item_listR pl.isList h0 (by omega) (by rw[hj];simpa using ew) fin hs
 ·have hj:(i+(its.toArray.size:Int)).toNat=j:=by
   rw[seqIndex_neg (by omega) h4]at h1
   rw[Fu,<-hl]
   exact osi h1
  exact subscriptTail_builtinR (x:=w) pl.isList.typeIs slot_list_getitem.lookup
   (wpAny_getItem_list_neg (Q:=λr s'=>r=w/\EP X pins σ Q r s') pl.isList (by omega) (by rw[Fu]<;>omega) (by omega) (by rw[hj];simpa using ew) ⟨rfl,fin⟩) hs
theorem aC:IxR X (pI X.K):=by
 intro value slice pins s σ H x y v u Q I rx ry h hs
 obtain⟨p,xs,i,z,rfl,rfl,hq,he,q⟩:=h
 cases rx
 obtain⟨t,rfl⟩:=ry
 obtain⟨its,r,pl,hz⟩:=I.tuple hq
 obtain⟨j,h1,h2,h3,h4,h5⟩:=uo he
 obtain⟨w,ew,rw'⟩:=r.get h2
 have hl:=r.length
 have hn:=qw
 have fin:EP X pins σ Q w s:=⟨z,H,I,rw',q⟩
 exact subscriptTail_builtinR (x:=w) pl.typeIs slot_tuple_getitem.lookup
  (getItem_tuple (j:=j) (Q:=λr s'=>r=w/\EP X pins σ Q r s') pl (by omega) (by omega) (by rw[Fu,<-hl];exact h1) (by simpa using ew) ⟨rfl,fin⟩) hs
theorem tO (its:List Value)(n j:Nat)(u:Value):Hz (·.setIfInBounds j u) { cls:=.type "list",data:=.seq its.toArray n }={ cls:=.type "list",data:=.seq (its.set j u).toArray n }:=by
 simp[Hz]
theorem Inv.lst {pins:List (Fi×Obj)}{σ:St}{H:Hp}{s:Fh}{p:Fi}{xs:List V}(I:Inv X pins σ H s)(h:H p=some (.lst xs)) :
  ∃(its:List Value) (n:Nat),aR xs its/\s.heap.get? p=some { cls:=.type "list",data:=.seq its.toArray n }/\xs.length<=Fk:=by
 obtain⟨z,its,n,r,e⟩:=I.hok p _ h
 exact⟨its,n,r,e,z⟩
theorem Inv.lstUpd {pins:List (Fi×Obj)}{σ:St}{H:Hp}{s:Fh}{p:Fi}{xs ys:List V}{its its':List Value}{n n':Nat}{f:Obj->Obj}(I:Inv X pins σ H s)(h:H p=some (.lst xs))
  (ho:s.heap.get? p=some { cls:=.type "list",data:=.seq its.toArray n }) (hf:f { cls:=.type "list",data:=.seq its.toArray n }={ cls:=.type "list",data:=.seq its'.toArray n' }) (r:aR ys its') (hz:ys.length<=Fk) (t:Nat) :
  Inv X pins σ (upd H p (.lst ys)) { s with heap:=s.heap.update p f,toks:=t }:=by
 have e:(s.heap.update p f).get? p=some { cls:=.type "list",data:=.seq its'.toArray n' }:=by
  rw[Hv f ho (by rw[hf]<;>rfl),hf]
 refine I.write (x:=p) (e:=p) (by rw[h];trivial) (.inl rfl) (λb u hb q=>(Hq _ _ (FQ hb)).trans q) ⟨_,e⟩ ?_
 exact⟨hz,its',n',r,e⟩
def DR:V->V->V->Hp->(Hp->Prop)->Prop:=λo i v H Q=>∃p xs k j,o=.ref p/\i=.int k/\H p=some (.lst xs)/\ixN xs.length k=some j/\Q (upd H p (.lst (xs.set j v)))
theorem rV:Dj X DR:=by
 intro pins s σ H o i v ov iv u Q I ro ri rv h
 obtain⟨p,xs,k,j,rfl,rfl,hp,hj,q⟩:=h
 cases ro
 obtain⟨t,rfl⟩:=ri
 obtain⟨its,n,r,ho,hz⟩:=I.lst hp
 obtain⟨h1,h2,h3,h4⟩:=uq hj
 have hl:=r.length
 have hn:=qw
 have I':Inv X pins σ (upd H p (.lst (xs.set j v))) { s with heap:=s.heap.update p (Hz (·.setIfInBounds j u)) } :=
  I.lstUpd hp ho (tO its n j u) (r.set rv j) (by rw[List.length_set];exact hz) s.toks
 by_cases h0:0<=k
 ·have hk:k.toNat=j:=by
   rw[seqIndex_of h0 h4]at h1
   exact osi h1
  exact PySem.W.ki_setAt ho h0 (by omega) (by rw[Fu,<-hl];exact h4) (by rw[hk];exact⟨_,I',q⟩)
 ·have hk:(k+(its.toArray.size:Int)).toNat=j:=by
   rw[seqIndex_neg (by omega) h3]at h1
   rw[Fu,<-hl]
   exact osi h1
  exact PySem.W.ki_setBack ho (by omega) (by rw[Fu,<-hl];exact h3) (by omega) (by rw[hk];exact⟨_,I',q⟩)
theorem p7 (lo hi:Option Int)(n:Nat):(sliceBounds lo hi none n).1=((HT.sIx n 0 lo:Nat):Int)/\(sliceBounds lo hi none n).2.1=((HT.sIx n n hi:Nat):Int)/\(sliceBounds lo hi none n).2.2=1:=by
 refine⟨?_,?_,rfl⟩
 ·cases lo with
  |none=>simp[sliceBounds,HT.sIx]
  |some i =>
   simp only[sliceBounds,HT.sIx,Option.getD_none,show(1:Int) > 0 by decide,if_true]
   by_cases h:i<0
   ·simp only[h,if_true]<;>omega
   ·simp only[h,I0]<;>omega
 ·cases hi with
  |none=>simp[sliceBounds,HT.sIx]
  |some i =>
   simp only[sliceBounds,HT.sIx,Option.getD_none,show(1:Int) > 0 by decide,if_true]
   by_cases h:i<0
   ·simp only[h,if_true]<;>omega
   ·simp only[h,I0]<;>omega
theorem og (its:List Value)(lo hi:Option Int):slicePick its.toArray lo hi none=((its.drop (HT.sIx its.length 0 lo)).take (HT.sIx its.length its.length hi-HT.sIx its.length 0 lo)).toArray:=by
 obtain⟨h1,h2,h3⟩:=p7 lo hi its.toArray.size
 unfold slicePick
 rw[h1,h2,h3]
 simp only[sliceRange_one,pick_run,Fu]<;>rfl
def EJ (K:GC):V->Option Int->Option Int->Hp->VK->Prop:=λx lo hi H Q=>∃a xs,x=.ref a/\SqL K H a xs/\∀p,H p=none->Q (.ref p) (upd H p (.lst (n0 xs lo hi)))
theorem pP:SlR X (EJ X.K):=by
 intro pins s σ H x v vl vu lo hi sl Q I rx hs pl pu h
 obtain⟨a,xs,rfl,hx,q⟩:=h
 cases rx
 obtain⟨its,r,ht,hz⟩:=I.list hx
 have hlen:=r.length
 refine⟨"list",_,slot_list_getitem.lookup,ht.isList.typeIs,?_⟩
 refine wpAny_getItem_list_slice ht.isList hs pl pu .none (by simp) ?_ (by rw[Fu]<;>omega)
 rw[og,<-hlen]
 refine⟨.ref s.heap.objs.size,_,I.laid (t':=s.toks) (o:=.lst (n0 xs lo hi)) (λb ob q=>Ft _ q) (nlr _) ?_,rfl,q _ (I.hok.fresh (nlr _))⟩
 exact⟨Gb (rn xs lo hi) hz,_,0,(r.drop (HT.sIx xs.length 0 lo)).take (HT.sIx xs.length xs.length hi-HT.sIx xs.length 0 lo),FK _ rfl⟩
def kh:V->Bool
 |.non=>true
 |.bl _=>true
 |.int _=>true
 |.str _=>true
 |_=>false
def eqV:V->V->Bool
 |.non,.non=>true
 |.bl a,.bl b=>a==b
 |.bl a,.int b=>(if a then 1 else 0)==b
 |.int a,.bl b=>a==(if b then 1 else 0)
 |.int a,.int b=>a==b
 |.str a,.str b=>a==b
 |_,_=>false
theorem Az {A:Around}{s:Fh}{y x:V}{u v:Value}(ry:aZ y u)(rx:aZ x v)(fy:kh y=true)(fx:kh x=true):SeqAt.EqAt A s u v (eqV y x):=by
 cases y with
 |non =>
  cases ry
  cases x with
  |non=>cases rx;exact SeqAt.EqAt.same _
  |bl b=>cases rx;exact SeqAt.EqAt.none_bool b
  |int b=>obtain⟨t,rfl⟩:=rx;exact SeqAt.EqAt.none_int b t
  |str b=>obtain⟨t,rfl⟩:=rx;exact SeqAt.EqAt.none_str b t
  |_=>exact absurd (show false=true from fx) Fy
 |bl a =>
  cases ry
  cases x with
  |non=>cases rx;exact SeqAt.EqAt.bool_none a
  |bl b=>cases rx;exact SeqAt.EqAt.bool_bool a b
  |int b=>obtain⟨t,rfl⟩:=rx;exact SeqAt.EqAt.bool_int a b t
  |str b=>obtain⟨t,rfl⟩:=rx;exact SeqAt.EqAt.bool_str a b t
  |_=>exact absurd (show false=true from fx) Fy
 |int a =>
  obtain⟨t',rfl⟩:=ry
  cases x with
  |non=>cases rx;exact SeqAt.EqAt.int_none a t'
  |bl b=>cases rx;exact SeqAt.EqAt.int_bool a t' b
  |int b=>obtain⟨t,rfl⟩:=rx;exact SeqAt.EqAt.int_int a t' b t
  |str b=>obtain⟨t,rfl⟩:=rx;exact SeqAt.EqAt.int_str a t' b t
  |_=>exact absurd (show false=true from fx) Fy
 |str a =>
  obtain⟨t',rfl⟩:=ry
  cases x with
  |non=>cases rx;exact SeqAt.EqAt.str_none a t'
  |bl b=>cases rx;exact SeqAt.EqAt.str_bool a t' b
  |int b=>obtain⟨t,rfl⟩:=rx;exact SeqAt.EqAt.str_int a t' b t
  |str b=>obtain⟨t,rfl⟩:=rx;exact SeqAt.EqAt.str_str a t' b t
  |_=>exact absurd (show false=true from fx) Fy
 |_=>exact absurd (show false=true from fy) Fy
def eqU (x:V)(u:Value):Bool:=match u with
 |.none=>eqV .non x
 |.bool b=>eqV (.bl b) x
 |.int i _=>eqV (.int i) x
 |.str z _=>eqV (.str z) x
 |_=>false
theorem sM {x y:V}{u:Value}(r:aZ y u)(f:kh y=true):eqU x u=eqV y x:=by
 cases y with
 |non=>cases r;rfl
 |bl b=>cases r;rfl
 |int i=>obtain⟨t,rfl⟩:=r;rfl
 |str z=>obtain⟨t,rfl⟩:=r;rfl
 |_=>exact absurd (show false=true from f) Fy
theorem rP {A:Around}{s:Fh}{x:V}{v:Value}(rx:aZ x v)(fx:kh x=true):∀{xs:List V} {us:List Value},aR xs us->xs.all kh=true->∀u∈us,SeqAt.EqAt A s u v (eqU x u)
 |_,_,.nil,_=>λu hu=>by cases hu
 |y :: xs,u :: us,.cons r t,f=>λu' hu=>by
  rw[List.all_cons,Fn]at f
  rcases Fp.mp hu with rfl|hu
  ·rw[sM r f.1];exact Az r rx f.1 fx
  ·exact rP rx fx t f.2 u' hu
theorem aM:nG X (.builtin "len") (λxs H Q=>∃p ys,xs=[.ref p]/\(SqL X.K H p ys\/SqT X.K H p ys)/\Q (.int ys.length) H):=by
 intro pins s σ H xs us Q I r h
 obtain⟨p,ys,rfl,hq,q⟩:=h
 obtain⟨u,rfl,rx⟩:=wD r
 cases rx
 have hn:=qw
 rcases hq with hq|hq
 ·obtain⟨its,r',pl,hz⟩:=I.list hq
  have hlen:=r'.length
  exact Calls.call_len_list pl.isList (by simp only[Fu]<;>omega) ⟨.int ys.length,H,I.tok _,⟨s.toks+1,by rw[Fu,hlen]⟩,q⟩
 ·obtain⟨its,r',pl,hz⟩:=I.tuple hq
  have hlen:=r'.length
  exact len_tuple pl (by simp only[Fu]<;>omega) ⟨.int ys.length,H,I.tok _,⟨s.toks+1,by rw[Fu,hlen]⟩,q⟩
theorem qr:nG X (.type "list") (λxs H Q=>∃p ys,xs=[.ref p]/\(SqL X.K H p ys\/SqT X.K H p ys)/\∀l,H l=none->Q (.ref l) (upd H l (.lst ys))):=by
 intro pins s σ H xs us Q I r h
 obtain⟨p,ys,rfl,hq,q⟩:=h
 obtain⟨u,rfl,rx⟩:=wD r
 cases rx
 have fin:∀(its:List Value),aR ys its->ys.length<=Fk->∀(h':Heap) (c':Nat),(∀b o',s.heap.get? b=some o'->h'.get? b=some o') ->
   h'.get? s.heap.objs.size=some { cls:=.type "list",dict:=none,data:=.seq its.toArray c',slots:=#[] }->EP X pins σ Q (.ref s.heap.objs.size) { s with heap:=h' }:=λits r' hz h' c' kp e =>
  ⟨.ref s.heap.objs.size,_,I.laid (t':=s.toks) kp (nlr _) (show b6 X.prog X.w _ h' _ (.lst ys) from⟨hz,its,c',r',e⟩),rfl,q _ (I.hok.fresh (nlr _))⟩
 rcases hq with hq|hq
 ·obtain⟨its,r',pl,hz⟩:=I.list hq
  have hlen:=r'.length
  obtain⟨o,ho,hc,n,hd⟩:=pl.isList
  exact call_list_seq p (.inl rfl) ho hc hd (λh' c' kp e=>fin its r' hz h' c' kp e) (by simp only[Fu]<;>omega)
 ·obtain⟨its,r',pl,hz⟩:=I.tuple hq
  have hlen:=r'.length
  obtain⟨o,ho,hc,n,hd⟩:=pl
  exact call_list_seq p (.inr rfl) ho hc hd (λh' c' kp e=>fin its r' hz h' c' kp e) (by simp only[Fu]<;>omega)
def tyV (K:GC)(T:String)(x:V)(H:Hp):Prop:=match x with
 |.str _=>T="str"
 |.int _=>T="int"
 |.ref p=>(T="list"/\∃xs,SqL K H p xs)\/(T="tuple"/\∃o,K.lookup p=some o/\o.cls=.type "tuple"/\o.dict=none) \/
   (T="dict"/\((∃kvs,H p=some (.dK kvs))\/∃kvs,H p=some (.dT kvs)))\/(T="set"/\∃S n,H p=some (.set S n))
 |_=>False
theorem wJ {pins:List (Fi×Obj)}{σ:St}{H:Hp}{s:Fh}{T:String}{x:V}{v:Value}(I:Inv X pins σ H s)(r:aZ x v)(ty:tyV X.K T x H) :
  s.TypeIs v T/\∀a,v=.ref a->∃ob,s.heap.get? a=some ob/\ob.dict=none:=by
 cases x with
 |str z =>
  obtain⟨t,rfl⟩:=r
  cases (show T="str" from ty)
  exact⟨typeIs_str s z t,λ_ e=>nomatch e⟩
 |int i =>
  obtain⟨t,rfl⟩:=r
  cases (show T="int" from ty)
  exact⟨typeIs_int s i t,λ_ e=>nomatch e⟩
 |ref p =>
  cases r
  rcases ty with⟨rfl,xs,hq⟩|⟨rfl,o,hk,hc,hd⟩|⟨rfl,hk⟩|⟨rfl,S,n,hk⟩
  ·obtain⟨its,_,pl,_⟩:=I.list hq
   refine⟨pl.isList.typeIs,λa e=>?_⟩
   cases e
   obtain⟨o,n,e,c,hd,_⟩:=pl
   exact⟨o,e,hd⟩
  ·refine⟨⟨o,I.kIn p o hk,hc⟩,λa e=>?_⟩
   cases e
   exact⟨o,I.kIn _ o hk,hd⟩
  ·have z:∃o,s.heap.get? p=some o/\o.ExactDict:=by
    rcases hk with⟨kvs,hk⟩|⟨kvs,hk⟩
    ·obtain⟨_,_,_,_,o,_,_,e,ex,_⟩:=I.hok p _ hk
     exact⟨o,e,ex⟩
    ·obtain⟨_,_,_,_,o,_,_,e,ex,_⟩:=I.hok p _ hk
     exact⟨o,e,ex⟩
   obtain⟨o,e,ex⟩:=z
   refine⟨⟨o,e,ex.1⟩,λa e2=>?_⟩
   cases e2
   exact⟨o,e,ex.2.1⟩
  ·obtain⟨o,_,_,_,e,ex,_⟩:=I.hok p _ hk
   refine⟨⟨o,e,ex.1⟩,λa e2=>?_⟩
   cases e2
   exact⟨o,e,ex.2.1⟩
 |_=>exact G1 ty
def E6 (K:GC)(T:String)(r:V->List V->Hp->VK->Prop)(to:TE):TE:=λσ H Q=>to σ H λx H1=>tyV K T x H1/\r x [] H1 Q
def tBM (K:GC)(T:String)(r:V->List V->Hp->VK->Prop)(to:TE)(t:TA):TE:=λσ H Q=>to σ H λx H1=>tyV K T x H1/\t σ H1 λxs H2=>r x xs H2 Q
variable  {o e:Expr}{es:List Expr}{to:TE}{t:TA}{name:Str}{apos cpos:Pos}{T id:String}{r:V->List V->Hp->VK->Prop}
theorem Bp (pa:PlainAttrs T)(slot:Slot T name id) (hty:typeOf (.builtin id)=pure (.type "method_descriptor")) (hm:MtR X id r) (ho:PE X o to)
  (hbase:attributeBase o name X.env (Jd o X.env)=Jd o X.env:=by rfl) (hline:(apos.endLine==cpos.line)=true:=by rfl):PE X (.Call (.Attribute o name apos) [] [] cpos) (E6 X.K T r to):=by
 intro pins s σ H Q I h
 refine wpAny_Call_method0_late hbase hline (thn (ho pins s σ H _ I h) λv s1 ⟨x,H1,I1,r1,ty,q1⟩=>?_)
 obtain⟨h1,h2⟩:=wJ I1 r1 ty
 exact⟨T,id,pa,slot,hty,h1,h2,Calls.callWith_builtin rfl (PySem.evalArgs_none (hm pins s1 σ H1 x [] v [] Q I1 r1 .nil q1))⟩
theorem lJ (pa:PlainAttrs T)(slot:Slot T name id) (hty:typeOf (.builtin id)=pure (.type "method_descriptor")) (hm:MtR X id r) (ho:PE X o to) (ha:PA X (e :: es) t)
  (hbase:attributeBase o name X.env (Jd o X.env)=Jd o X.env:=by rfl)
  (hfew:((II cpos (FU (e :: es) X.env)).all (λx=>!x.1)&&(backToKw cpos (IL [] X.env)).all (λx=>x.1.isSome)
   &&decide ((e :: es).length+([]:List Keyword).length+(if ([]:List Keyword).isEmpty then 0 else 1)<30))=true:=by rfl)
  (hline:(apos.endLine==cpos.line)=true:=by rfl) (hs:FU (e :: es) X.env=(false,Jd e X.env) :: FU es X.env:=by rfl) (hplain:(II cpos (FU es X.env)).any (·.1)=false:=by rfl) :
  PE X (.Call (.Attribute o name apos) (e :: es) [] cpos) (tBM X.K T r to t):=by
 intro pins s σ H Q I h
 refine wpAny_Call_method_late hbase hfew hline rfl (thn (ho pins s σ H _ I h) λv s1 ⟨x,H1,I1,r1,ty,q1⟩=>?_)
 obtain⟨h1,h2⟩:=wJ I1 r1 ty
 refine⟨T,id,pa,slot,hty,h1,h2,?_⟩
 have hA:=ha cpos pins s1 σ H1 _ I1 q1
 rw[hs]at hA ⊢
 refine Calls.callWith_builtin (by show(false||(II cpos (FU es X.env)).any (·.1))=false;rw[hplain]<;>rfl) (Calls.evalArgs_plain ?_)
 exact thn hA λus s2 ⟨vs,H2,I2,r2,q2⟩=>hm pins s2 σ H2 x vs v us Q I2 r1 r2 q2
end
end L2
namespace L2
open PySem PySem.Spec PyProof.Rows
def MtM (X:Cx)(id:String)(r:V->List V->Hp->VK->Prop):Prop :=
 ∀(pins:List (Fi×Obj)) (s:Fh) (σ:St) (H:Hp) (x:V) (xs:List V) (v:Value) (us:List Value) (Q:VK),Inv X pins σ H s->aZ x v->aR xs us->r x xs H Q ->
  FV (Gj X.prog X.w) X.A (call (.builtin id) (v :: us)) (EP X pins σ Q) X.xe s
theorem aR.one:∀{x:V} {us:List Value},aR [x] us->∃u,us=[u]/\aZ x u
 |_,_,.cons r .nil=>⟨_,rfl,r⟩
theorem aR.two:∀{x y:V} {us:List Value},aR [x,y] us->∃u v,us=[u,v]/\aZ x u/\aZ y v
 |_,_,_,.cons r (.cons q .nil)=>⟨_,_,rfl,r,q⟩
theorem aR.zero:∀{us:List Value},aR [] us->us=[]
 |_,.nil=>rfl
theorem aR.dropLast {xs:List V}{us:List Value}(h:aR xs us):aR xs.dropLast us.dropLast:=by
 induction h with
 |nil=>exact .nil
 |cons r t ih =>
  cases t with
  |nil=>exact .nil
  |cons q t'=>exact .cons r ih
theorem tI {α:Type}(l:List α):l.eraseIdx (l.length-1)=l.dropLast:=by
 induction l with
 |nil=>rfl
 |cons a r ih =>
  cases r with
  |nil=>rfl
  |cons b r =>
   have e:(a :: b :: r).length-1=((b :: r).length-1)+1:=by
    have h1:(a :: b :: r).length=r.length+2:=rfl
    have h2:(b :: r).length=r.length+1:=rfl
    omega
   rw[e,List.eraseIdx_cons_succ,ih]
   all_goals rfl
section
variable  {X:Cx}{pins:List (Fi×Obj)}{σ:St}{H:Hp}{s:Fh}{l b:Fi}{xs ys zs:List V}
theorem Inv.lset {its its':List Value}{n:Nat}{f:Array Value->Array Value}{t':Nat}(I:Inv X pins σ H s)(hH:H l=some (.lst xs))
  (e:s.heap.get? l=some { cls:=.type "list",data:=.seq its.toArray n }) (hf:f its.toArray=its'.toArray) (hv:aR ys its') (hz:ys.length<=Fk) :
  Inv X pins σ (upd H l (.lst ys)) { s with heap:=s.heap.update l (Hz f),toks:=t' }:=by
 have q:=PySem.IsL.update e f
 rw[hf]at q
 refine I.write (x:=l) (e:=l) (by rw[hH];exact trivial) (.inl rfl) (λb' u hb hu=>(Hq s.heap (Hz f) (FQ hb)).trans hu) ⟨_,q⟩ ?_
 exact⟨hz,its',_,hv,q⟩
theorem Inv.lnew {its:List Value}{t':Nat}(I:Inv X pins σ H s)(hv:aR ys its)(hz:ys.length<=Fk) :
  Inv X pins σ (upd H s.heap.objs.size (.lst ys)) { s with heap:=s.heap.push { cls:=.type "list",data:=.seq its.toArray },toks:=t' } :=
 I.laid (λ_ _ q=>Ft _ q) (nlr _) ⟨hz,its,0,hv,FK _ rfl⟩
theorem Inv.fresh (I:Inv X pins σ H s):H s.heap.objs.size=none:=I.hok.fresh (nlr _)
theorem Inv.lstM (I:Inv X pins σ H s)(hH:H l=some (.lst xs)):xs.length<=Fk/\∃(its:List Value) (n:Nat),aR xs its/\xs.length=its.length/\s.heap.get? l=some { cls:=.type "list",data:=.seq its.toArray n }:=by
 obtain⟨z,its,n,r,e⟩:=I.hok l _ hH
 exact⟨z,its,n,r,r.length,e⟩
theorem wW {n:Nat}(h:n<=Fk):Jq n=false:=by
 unfold Jq
 exact dqf (by omega)
end
section
variable  {X:Cx}
def yH:V->List V->Hp->VK->Prop:=λx vs H Q=>∃l xs y,x=.ref l/\vs=[y]/\H l=some (.lst xs)/\xs.length<Fk/\Q .non (upd H l (.lst (xs++[y])))
theorem gQ:MtM X "list.append" yH:=by
 intro pins s σ H x vs v us Q I rx rv h
 obtain⟨l,xs,y,rfl,rfl,hH,hz,q⟩:=h
 cases rx
 obtain⟨u,rfl,ru⟩:=rv.one
 obtain⟨z,its,n,r,hl,e⟩:=I.lstM hH
 refine call_meets F.slot_list_append ⟨_,e,rfl⟩ F.entry_list_append (F.args_list_append_2 _ _) (PySem.list_append l its.toArray n u (by rw[Fu];omega)) ⟨e,?_⟩
 refine⟨.non,_,I.lset (its':=its++[u]) hH e (by simp) (r.append (.cons ru .nil)) ?_,rfl,q⟩
 rw[Fm,List.length_singleton]
 omega
def zh:V->List V->Hp->VK->Prop:=λx vs H Q=>∃l b xs zs,x=.ref l/\vs=[.ref b]/\H l=some (.lst xs)/\H b=some (.lst zs)/\xs.length+zs.length<=Fk/\Q .non (upd H l (.lst (xs++zs)))
theorem BQ:MtM X "list.extend" zh:=by
 intro pins s σ H x vs v us Q I rx rv h
 obtain⟨l,b,xs,zs,rfl,rfl,hH,hB,hz,q⟩:=h
 cases rx
 obtain⟨u,rfl,ru⟩:=rv.one
 cases ru
 obtain⟨z,its,n,r,hl,e⟩:=I.lstM hH
 obtain⟨z2,its2,n2,r2,hl2,e2⟩:=I.lstM hB
 have hsz:its.toArray.size+its2.toArray.size<=Fk:=by rw[Fu,Fu];omega
 have hlong:¬(!its.toArray.isEmpty&&Jq (its.toArray.size+its2.toArray.size))=true:=by
  rw[wW hsz,Bool.and_false]
  exact Fy
 refine call_meets F.slot_list_extend ⟨_,e,rfl⟩ F.entry_list_extend (F.args_list_extend_2 _ _)
  (AutoSeq1.list_extend_list_list_0 l its.toArray n b its2.toArray n2 hlong (by rw[Fu];omega) (by omega)) ⟨e,e2,?_⟩
 refine⟨.non,_,I.lset (its':=its++its2) hH e (by simp) (r.append r2) ?_,rfl,q⟩
 rw[Fm]
 omega
def EE:V->List V->Hp->VK->Prop:=λx vs H Q=>∃l xs y,x=.ref l/\vs=[]/\H l=some (.lst xs)/\xs[xs.length-1]? = some y/\Q y (upd H l (.lst xs.dropLast))
theorem Bu:MtM X "list.pop" EE:=by
 intro pins s σ H x vs v us Q I rx rv h
 obtain⟨l,xs,y,rfl,rfl,hH,hy,q⟩:=h
 cases rx
 have hus:=rv.zero
 subst hus
 obtain⟨z,its,n,r,hl,e⟩:=I.lstM hH
 obtain⟨u,hu,ru⟩:=r.get hy
 have hy':its.toArray[its.toArray.size-1]? = some u:=by
  show its.toArray[its.length-1]? = some u
  rw[<-Array.getElem?_toList,<-hl]
  exact hu
 refine call_meets F.slot_list_pop ⟨_,e,rfl⟩ F.entry_list_pop (F.args_list_pop_1 _) (MeetsSeq.list_pop_last l its.toArray n u hy' (by rw[Fu];omega)) ⟨e,?_⟩
 refine⟨y,_,I.lset (its':=its.dropLast) hH e ?_ r.dropLast ?_,ru,q⟩
 ·show its.toArray.eraseIdxIfInBounds (its.toArray.size-1)=its.dropLast.toArray
  rw[Fu,List.eraseIdxIfInBounds_toArray,tI]
 ·rw[List.length_dropLast]
  omega
def E2:R2:=λx y H Q=>∃l b xs zs,x=.ref l/\y=.ref b/\H l=some (.lst xs)/\H b=some (.lst zs)/\xs.length+zs.length<=Fk/\∀p,H p=none->Q (.ref p) (upd H p (.lst (xs++zs)))
theorem xR:OpR X (binaryOp .Add) E2:=by
 intro pins s σ H x y v u Q I rx ry h
 obtain⟨l,b,xs,zs,rfl,rfl,hH,hB,hz,q⟩:=h
 cases rx
 cases ry
 obtain⟨z,its,n,r,hl,e⟩:=I.lstM hH
 obtain⟨z2,its2,n2,r2,hl2,e2⟩:=I.lstM hB
 refine PySem.P.add_list e e2 ?_ (by rw[Fu,Fu];omega)
 have ea:its.toArray++its2.toArray=(its++its2).toArray:=by simp
 rw[ea]
 exact⟨.ref _,_,I.lnew (t':=s.toks) (r.append r2) (by rw[Fm];omega),rfl,q _ I.fresh⟩
end
section
variable  {prog:FW}{w:G0}{A:Around}{E:Value->Fh->Prop}{s:Fh}
end
section
variable  {X:Cx}
end
end L2
namespace L2
open PySem PySem.Spec PyProof.Rows
theorem aR.bls:∀{bs:List Bool} {us:List Value},aR (bs.map V.bl) us->us=bs.map Value.bool
 |[],us,h=>by
  rw[List.map_nil]at h
  cases h
  rfl
 |b :: bs,us,h=>by
  rw[FH]at h
  cases h with
  |cons r t =>
   cases r
   rw[aR.bls t,FH]
section
variable  {prog:FW}{w:G0}{A:Around}{E:Value->Fh->Prop}{s:Fh}{l:Fi}{its:List Value}{ns:List Int}{Q:Value->Fh->Prop}
end
section
variable  {X:Cx}
end
section
variable  {X:Cx}
def AQ (K:GC):V->List V->Hp->VK->Prop:=λx xs H Q=>∃(a:Fi) (ys:List V) (y:V) (j:Nat) (z:V),x=V.ref a/\xs=[y]/\SqL K H a ys/\kh y=true/\ys.all kh=true/\ys[j]? = some z/\eqV z y=true /\
 (∀(m:Nat) (z':V),m<j->ys[m]? = some z'->eqV z' y=false)/\Q (.int (j:Nat)) H
theorem uH {ys:List V}(f:ys.all kh=true){j:Nat}{z:V}(h:ys[j]? = some z):kh z=true:=Gx.mp f z (Gg h)
theorem wU:MtR X "list.index" (AQ X.K):=by
 intro pins s σ H x xs v us Q I rx rxs h
 obtain⟨a,ys,y,j,z,rfl,rfl,hs,fy,fys,hz,hzj,hno,q⟩:=h
 cases rx
 cases rxs with
 |cons ry rt =>
  rename_i uy ut
  cases rt
  obtain⟨its,rv,⟨⟨cls,dd,data,sl⟩,n,ho,hc,hdn,hd⟩,hlen⟩:=I.list hs
  simp only at hc hd
  subst hc hd
  obtain⟨u,hu,ru⟩:=rv.get hz
  obtain⟨hjl,hje⟩:=gsi hu
  have hvl:=rv.length
  have hj:j<its.toArray.size:=by simpa using hjl
  have hsl:=sizeLine_eq
  refine call_meets PySem.F.slot_list_index ⟨_,ho,rfl⟩ PySem.F.entry_list_index (PySem.F.args_list_index_2 _ _)
   (SeqAt.list_indexAt a its.toArray n dd sl uy (eqU y) j hj (by omega) ?_ ?_) ⟨ho,λu' hu'=>rP ry fy rv fys u' (by simpa using hu'),?_⟩
  ·have e1:its.toArray[j]=u:=by simpa using hje
   rw[e1,sM ru (uH fys hz)]
   exact hzj
  ·intro m hm hmj
   have hml:m<its.length:=by simpa using hm
   have hmy:m<ys.length:=by omega
   have hy':ys[m]? = some ys[m]:=gge hmy
   obtain⟨u2,hu2,ru2⟩:=rv.get hy'
   obtain⟨_,hme⟩:=gsi hu2
   have e1:its.toArray[m]=u2:=by simpa using hme
   rw[e1,sM ru2 (uH fys hy')]
   exact hno m _ hmj hy'
  ·exact⟨.int (j:Nat),H,I.tok _,⟨_,rfl⟩,q⟩
end
section
variable  {X:Cx}
end
section
variable  {X:Cx}
end
mutual
inductive Dp (K:GC)(H:Hp):V->PyData->Prop
 |non:Dp K H .non .none
 |bl (b:Bool):Dp K H (.bl b) (.bool b)
 |int (i:Int):Dp K H (.int i) (.int i)
 |str (x:Str):Dp K H (.str x) (.str x)
 |lst {a:Fi} {xs:List V} {ds:List PyData}:SqL K H a xs->lL K H xs ds->Dp K H (.ref a) (.list ds)
 |tup {a:Fi} {xs:List V} {ds:List PyData}:SqT K H a xs->lL K H xs ds->Dp K H (.ref a) (.tuple ds)
inductive lL (K:GC)(H:Hp):List V->List PyData->Prop
 |nil:lL K H [] []
 |cons {v:V} {vs:List V} {d:PyData} {ds:List PyData}:Dp K H v d->lL K H vs ds->lL K H (v :: vs) (d :: ds)
end
section
variable  {X:Cx}{pins:List (Fi×Obj)}{σ:St}{H:Hp}{s:Fh}
mutual
theorem Dp.reads (I:Inv X pins σ H s):∀(d:PyData) (v:V) (u:Value),Dp X.K H v d->aZ v u->∃as,Reads s.heap u d as
 |.none,_,_,h,r=>by
  cases h
  cases r
  exact⟨_,Reads.none⟩
 |.bool b,_,_,h,r=>by
  cases h
  cases r
  exact⟨_,Reads.bool b⟩
 |.int i,_,_,h,r=>by
  cases h
  obtain⟨t,rfl⟩:=r
  exact⟨_,Reads.int i t⟩
 |.str x,_,_,h,r=>by
  cases h
  obtain⟨t,rfl⟩:=r
  exact⟨_,Reads.str x t⟩
 |.list ds,_,_,h,r=>by
  cases h with
  |lst hs ha =>
   cases r
   obtain⟨its,rv,⟨o,n,ho,hc,_,hd⟩,_⟩:=I.list hs
   obtain⟨as,hr⟩:=Dp.readsAll I ds _ its ha rv
   exact⟨_,Reads.list ho hc hd hr⟩
 |.tuple ds,_,_,h,r=>by
  cases h with
  |tup hs ha =>
   cases r
   obtain⟨its,rv,⟨o,ho,hc,n,hd⟩,_⟩:=I.tuple hs
   obtain⟨as,hr⟩:=Dp.readsAll I ds _ its ha rv
   exact⟨_,Reads.tuple ho hc hd hr⟩
 |.dict _,_,_,h,_=>by cases h
theorem Dp.readsAll (I:Inv X pins σ H s):∀(ds:List PyData) (vs:List V) (us:List Value),lL X.K H vs ds->aR vs us->∃as,ReadsAll s.heap us ds as
 |[],_,_,h,r=>by
  cases h
  cases r
  exact⟨_,ReadsAll.nil⟩
 |d :: ds,_,_,h,r=>by
  cases h with
  |cons h1 h2 =>
   cases r with
   |cons r1 r2 =>
    obtain⟨as,q1⟩:=Dp.reads I d _ _ h1 r1
    obtain⟨bs,q2⟩:=Dp.readsAll I ds _ _ h2 r2
    exact⟨_,ReadsAll.cons q1 q2⟩
end
end
section
variable  {X:Cx}
def ED (K:GC):R2:=λx y H Q=>∃d e,Dp K H x d/\Dp K H y e/\SeqAt.shaped d=true/\SeqAt.shaped e=true/\Q (.bl (!PyData.eqv d e)) H
theorem Bq (hu:X.A.units+64<cLine):OpR X (GQ .NotEq) (ED X.K):=by
 intro pins s σ H x y v u Q I rx ry h
 obtain⟨d,e,hd,he,sd,se,q⟩:=h
 obtain⟨as,r1⟩:=Dp.reads I d x v hd rx
 obtain⟨bs,r2⟩:=Dp.reads I e y u he ry
 exact SeqAt.compareNe_shaped r1 r2 sd se hu ⟨.bl _,H,I,rfl,q⟩
end
end L2
namespace L2
open PySem PySem.Spec PyProof.Rows
abbrev xY (h:Heap)(c:Fi)(v:Option Value):Prop:=h.IsCell c v
def E3 (scope sc:Scope):Scope :=
 { scope with names:=scope.names.map λ(n,k)=>if (k==.free&&sc.kind==.function&&sc.names.lookup n==some .cell) then (n,.cell) else (n,k) }
def bE (cells:List (Str×Fi)):List (Str×NameKind)->List (Str×Fi)->List (Str×Fi)
 |[],acc=>acc
 |(n,k) :: r,acc=>if k==.free then bE cells r ((n,(cells.lookup n).getD 0) :: acc) else bE cells r acc
theorem j7 (env:Env)(f:Str×NameKind->List (Str×Fi)->Sem (ForInStep (List (Str×Fi))))
  (hf:∀n k c,f (n,k) c=if k==.free then (do let a <-cellOf env n;pure (.yield ((n,a) :: c))) else pure (.yield c)) :
  ∀(names:List (Str×NameKind)) (acc:List (Str×Fi)),(∀y∈names,y.2=.free->∃c,env.cells.lookup y.1=some c)->forIn names acc f=pure (bE env.cells names acc)
 |[],acc,_=>by rw[List.forIn_nil];rfl
 |(n,k) :: r,acc,h=>by
  rw[List.forIn_cons,hf]
  have ih:=λacc=>j7 env f hf r acc λy hy=>h y (Fj _ hy)
  unfold bE
  by_cases hk:(k==NameKind.free)=true
  ·rw[Fs hk,Fs hk]
   obtain⟨c,hc⟩:=h (n,k) FB (by simpa using hk)
   have e:cellOf env n=pure c:=by unfold cellOf;rw[hc]
   rw[e]
   have e2:(env.cells.lookup n).getD 0=c:=by rw[hc];rfl
   rw[e2]
   exact ih _
  ·rw[Fl hk,Fl hk]
   exact ih _
theorem sK {scope:Scope}{env:Env}(h:∀y∈scope.names,y.2=.free->∃c,env.cells.lookup y.1=some c):closureFor scope env=pure (bE env.cells scope.names []):=by
 simp only[closureFor]
 rw[j7 env _ (λn k c=>rfl) scope.names [] h]
 rfl
theorem jw {α:Type}:∀{l:List (Str×α)} {n:Str} {c:α},(n,c)∈l->∃c',l.lookup n=some c'
 |(k,v) :: r,n,c,h=>by
  rw[HD]
  cases hb:n==k with
  |true=>exact⟨_,rfl⟩
  |false =>
   rcases Fp.mp h with e|h
   ·cases e;simp at hb
   ·exact jw h
theorem gc {cells:List (Str×Fi)}:∀{names:List (Str×NameKind)} {acc:List (Str×Fi)} {n:Str} {c:Fi},(n,c)∈bE cells names acc->(n,c)∈acc\/((n,.free)∈names/\c=(cells.lookup n).getD 0)
 |[],_,_,_,h=>.inl h
 |(m,k) :: r,acc,n,c,h=>by
  unfold bE at h
  split at h
  ·rename_i hk
   have hk:k=.free:=by simpa using hk
   rcases gc h with h|⟨h1,h2⟩
   ·rcases Fp.mp h with e|h
    ·cases e;exact .inr ⟨hk▸FB,rfl⟩
    ·exact .inl h
   ·exact .inr ⟨Fj _ h1,h2⟩
  ·rcases gc h with h|⟨h1,h2⟩
   ·exact .inl h
   ·exact .inr ⟨Fj _ h1,h2⟩
theorem i5 {cells:List (Str×Fi)}:∀{names:List (Str×NameKind)} {acc:List (Str×Fi)} {p:Str×Fi},p∈acc->p∈bE cells names acc
 |[],_,_,h=>h
 |(m,k) :: r,acc,p,h=>by
  unfold bE
  split
  ·exact i5 (Fj _ h)
  ·exact i5 h
theorem iI {cells:List (Str×Fi)}:∀{names:List (Str×NameKind)} {acc:List (Str×Fi)} {n:Str},(n,.free)∈names->(n,(cells.lookup n).getD 0)∈bE cells names acc
 |(m,k) :: r,acc,n,h=>by
  unfold bE
  rcases Fp.mp h with e|h
  ·cases e
   exact i5 FB
  ·split
   ·exact iI h
   ·exact iI h
theorem gA:∀{names:List (Str×NameKind)} {h:Heap} {acc:List (Str×Fi)} {x:Str} {c:Fi},(x,c)∈G9 h.objs.size names acc ->
  (x,c)∈acc\/((x,.cell)∈names/\h.objs.size<=c/\xY (pushCells h names) c none)
 |[],_,_,_,_,h=>.inl h
 |(n,k) :: r,h,acc,x,c,hm=>by
  unfold G9 at hm
  unfold pushCells
  split at hm
  ·rename_i hk
   rw[Fs hk]
   have hk:k=.cell:=by simpa using hk
   rw[<-GM h { cls:=.type "cell",data:=.cell none }]at hm
   rcases gA hm with hm|⟨h1,h2,h3⟩
   ·rcases Fp.mp hm with e|hm
    ·cases e
     exact .inr ⟨hk▸FB,nlr _,_,pushCells_keeps r _ _ _ (FK _ rfl),rfl⟩
    ·exact .inl hm
   ·rw[GM]at h2
    exact .inr ⟨Fj _ h1,Nat.le_of_succ_le h2,h3⟩
  ·rename_i hk
   rw[Fl hk]
   rcases gA hm with hm|⟨h1,h2,h3⟩
   ·exact .inl hm
   ·exact .inr ⟨Fj _ h1,h2,h3⟩
theorem jc:∀{names:List (Str×NameKind)} {n:Nat} {acc:List (Str×Fi)} {p:Str×Fi},p∈acc->p∈G9 n names acc
 |[],_,_,_,h=>h
 |(m,k) :: r,n,acc,p,h=>by
  unfold G9
  split
  ·exact jc (Fj _ h)
  ·exact jc h
theorem kR:∀{names:List (Str×NameKind)} {n:Nat} {acc:List (Str×Fi)} {x:Str},(x,.cell)∈names->∃c,(x,c)∈G9 n names acc
 |(m,k) :: r,n,acc,x,h=>by
  unfold G9
  rcases Fp.mp h with e|h
  ·cases e
   exact⟨n,jc FB⟩
  ·split
   ·exact kR h
   ·exact kR h
theorem kG:∀{names:List (Str×NameKind)} {h:Heap} {acc:List (Str×Fi)} {x y:Str} {c:Fi},(∀p∈acc,p.2<h.objs.size)->(∀x y c,(x,c)∈acc->(y,c)∈acc->x=y) ->
  (x,c)∈G9 h.objs.size names acc->(y,c)∈G9 h.objs.size names acc->x=y
 |[],_,_,_,_,_,_,hi,h1,h2=>hi _ _ _ h1 h2
 |(n,k) :: r,h,acc,x,y,c,hl,hi,h1,h2=>by
  unfold G9 at h1 h2
  split at h1
  ·rename_i hk
   rw[Fs hk]at h2
   rw[<-GM h { cls:=.type "cell",data:=.cell none }]at h1 h2
   refine kG (h:=h.push _) (λp hp=>?_) (λx y c a b=>?_) h1 h2
   ·rw[GM]
    rcases Fp.mp hp with rfl|hp
    ·exact Nat.lt_succ_self _
    ·exact Ja (hl p hp)
   ·rcases Fp.mp a with e|a<;>rcases Fp.mp b with e'|b
    ·cases e;cases e';rfl
    ·cases e;exact absurd (hl _ b) (Hj _)
    ·cases e';exact absurd (hl _ a) (Hj _)
    ·exact hi _ _ _ a b
  ·rename_i hk
   rw[Fl hk]at h2
   exact kG hl hi h1 h2
theorem sr {M:Model}{A:Around}{E:Value->Fh->Prop}{s:Fh}{scope:Scope}{globals:Fi}{closure:List (Str×Fi)}{qual:Str}{func:Option Fi}{code:Value}{around:Env}{builtins:Fi}{Q:Env->Fh->Prop}
  (h:Q (newEnv scope s.heap.objs.size globals (G9 (s.heap.objs.size+1) scope.names closure) qual func code (some around) builtins)
   { s with heap:=pushCells (s.heap.push { cls:=.type "dict",data:=.dict #[] }) scope.names }) :
  FV M A (newFunctionEnv scope globals closure [] qual func code (some around) builtins) Q E s:=by
 simp only[newFunctionEnv,Option.isSome_some,if_true]
 refine Fg (wpAny_alloc ?_)
 refine Fg (wpAny_layCells _ (λn k c=>rfl) scope.names closure _ _ ?_)
 rw[show({ s with heap:=s.heap.push { cls:=.type "dict",data:=.dict #[] } }:Fh).heap.objs.size=s.heap.objs.size+1 from GM ..]
 rw[List.forIn_nil]
 exact Fg (FD (FD h))
theorem iL {sc:Scope}:∀{names:List (Str×NameKind)} {x:Str} {k:NameKind},
  (names.map λ(n,k)=>if (k==NameKind.free&&sc.kind==.function&&sc.names.lookup n==some .cell) then (n,NameKind.cell) else (n,k)).lookup x=some k ->
  ∃k',names.lookup x=some k'/\(k=k'\/(k'=.free/\k=.cell))
 |[],_,_,h=>by simp at h
 |(n,k₀) :: r,x,k,h=>by
  have ih:=@iL sc r x k
  have h':Jl x ((if (k₀==NameKind.free&&sc.kind==.function&&sc.names.lookup n==some .cell)=true then (n,NameKind.cell) else (n,k₀)) :: (r.map _))=some k:=h
  cases hx:x==n with
  |true =>
   simp only[HD,hx]
   by_cases hc:(k₀==NameKind.free&&sc.kind==.function&&sc.names.lookup n==some .cell)=true
   ·rw[Fs hc]at h'
    simp only[HD,hx]at h'
    cases h'
    simp only[Fn,IF]at hc
    exact⟨k₀,rfl,.inr ⟨hc.1.1,rfl⟩⟩
   ·rw[Fl hc]at h'
    simp only[HD,hx]at h'
    cases h'
    exact⟨_,rfl,.inl rfl⟩
  |false =>
   simp only[HD,hx]
   by_cases hc:(k₀==NameKind.free&&sc.kind==.function&&sc.names.lookup n==some .cell)=true
   ·rw[Fs hc]at h'
    simp only[HD,hx]at h'
    exact ih h'
   ·rw[Fl hc]at h'
    simp only[HD,hx]at h'
    exact ih h'
structure rR (N:List Str)(sc scope:Scope)(own:List (Str×Nat)):Prop where
 kind:scope.kind=.function
 uniq:∀y∈scope.names,scope.names.lookup y.1=some y.2
 ix:∀p∈own,N[p.2]? = some p.1
 free:∀y∈scope.names,y.2=.free->sc.names.lookup y.1=some .cell\/sc.names.lookup y.1=some .free
 own:∀y∈scope.names,y.2=.local\/y.2=.cell->y.1∈own.map (·.1)\/y.1∉N
def bV (σ:St):List Nat->St
 |[]=>σ
 |v :: vs=>(bV σ vs).set v none
theorem iG (σ:St):∀vs:List Nat,(bV σ vs).length=σ.length
 |[]=>rfl
 |v :: vs=>by unfold bV;rw[List.length_set,iG σ vs]
theorem kE {σ:St}{i:Nat}{x:V}:∀{vs:List Nat},(bV σ vs)[i]? = some (some x)->σ[i]? = some (some x)/\i∉vs
 |[],h=>⟨h,by simp⟩
 |v :: vs,h=>by
  unfold bV at h
  by_cases hi:v=i
  ·subst hi
   by_cases hv:v<(bV σ vs).length
   ·rw[IG hv]at h;cases h
   ·rw[List.getElem?_eq_none (by simpa using hv)]at h;cases h
  ·rw[HI hi]at h
   obtain⟨h1,h2⟩:=kE h
   exact⟨h1,by simp only[Fp,not_or];exact⟨λe=>hi e.symm,h2⟩⟩
abbrev Cx.blk (X:Cx)(s:Fh)(H:Hp)(scope:Scope)(cenv:Env)(fp:List Fi):Cx:={ X with s_0:=s,H_0:=H,env:=cenv,outer:=X.stack,ex:=fp,fn:=λx=>scope.names.lookup x==some .cell,pn:=[],xe:=λ_ _=>False }
section
variable  {X:Cx}{pins:List (Fi×Obj)}{σ:St}{H:Hp}{s:Fh}
theorem so {scope:Scope}{own:List (Str×Nat)}{fp:List Fi}(I:Inv X pins σ H s)(ok:rR X.N X.env.scope scope own)(hN:X.N.Nodup)(hfp:∀b∈fp,lP X pins H b/\b<s.heap.objs.size) :
  Inv (X.blk s H scope (Jh scope (G9 (s.heap.objs.size+1) scope.names (bE X.env.cells scope.names [])) s.heap.objs.size X.env) fp) [] (bV σ (own.map (·.2))) H { s with heap:=pushCells (s.heap.push { cls:=.type "dict",data:=.dict #[] }) scope.names }:=by
 have hfree:∀y∈scope.names,y.2=.free->∃c,X.env.cells.lookup y.1=some c:=λy hy e=>by
  rcases ok.free y hy e with k|k
  ·exact I.ok.has _ (.inl k)
  ·exact I.ok.has _ (.inr k)
 generalize hcenv:Jh scope (G9 (s.heap.objs.size+1) scope.names (bE X.env.cells scope.names [])) s.heap.objs.size X.env=cenv
 have kp:∀b o,s.heap.get? b=some o->(pushCells (s.heap.push { cls:=.type "dict",data:=.dict #[] }) scope.names).get? b=some o:=λb o e=>pushCells_keeps _ _ _ _ (Ft _ e)
 have hL:cenv.locals=s.heap.objs.size:=by rw[<-hcenv];rfl
 have hcl:cenv.cells=G9 (s.heap.objs.size+1) scope.names (bE X.env.cells scope.names []):=by rw[<-hcenv];rfl
 have hsc:cenv.scope=E3 scope X.env.scope:=by rw[<-hcenv];rfl
 rw[<-GM s.heap { cls:=.type "dict",data:=.dict #[] }]at hcl
 have cm:∀{y c},(y,c)∈bE X.env.cells scope.names []->X.env.cells.lookup y=some c/\c<s.heap.objs.size:=λ{y c} hm=>by
  rcases gc hm with hm|⟨h1,rfl⟩
  ·cases hm
  ·obtain⟨c,hc⟩:=hfree _ h1 rfl
   rw[hc]
   obtain⟨w,z⟩:=I.cell _ _ hc
   exact⟨rfl,z.lt⟩
 have mem:∀{y c},cenv.cells.lookup y=some c->(X.env.cells.lookup y=some c/\c<s.heap.objs.size)\/(s.heap.objs.size+1<=c/\xY (pushCells (s.heap.push { cls:=.type "dict",data:=.dict #[] }) scope.names) c none):=λ{y c} e=>by
  rw[hcl]at e
  rcases gA (Gf e) with hm|⟨_,h2,h3⟩
  ·exact .inl (cm hm)
  ·rw[GM]at h2;exact .inr ⟨h2,h3⟩
 have look:∀{y},scope.names.lookup y=some .free->∃c,cenv.cells.lookup y=some c/\X.env.cells.lookup y=some c:=λ{y} hl=>by
  have hy:(y,NameKind.free)∈scope.names:=Gf hl
  obtain⟨c',e'⟩:=jw (jc (names:=scope.names) (n:=(s.heap.push { cls:=.type "dict",data:=.dict #[] }).objs.size) (iI (cells:=X.env.cells) (acc:=[]) hy))
  rw[<-hcl]at e'
  refine⟨c',e',?_⟩
  rw[hcl]at e'
  rcases gA (Gf e') with hm|⟨h1,_,_⟩
  ·exact(cm hm).1
  ·have:=ok.uniq _ h1
   rw[hl]at this;cases this
 have okB:(X.blk s H scope cenv fp).Ok:=by
  refine⟨I.ok.mod,by show cenv.scope.kind=_;rw[hsc];exact ok.kind,by show cenv.globals=_;rw[<-hcenv];exact I.ok.glob,by show cenv.builtins=_;rw[<-hcenv];exact I.ok.blt,by show s.heap.objs.size<=cenv.locals;rw[hL];exact nlr _,
   λy z c e1 e2=>?_,λy hy=>?_,λy c z e=>?_,I.ok.hd,I.ok.frames,.inl rfl,λb hb=>⟨?_,λy c e z=>?_⟩,I.bs,Gb I.ok.bsz I.sz,λb o e hb=>?_,λb hb z=>?_,I.stack,I.stkFree⟩
  ·have e1:cenv.cells.lookup y=some c:=e1
   have e2:cenv.cells.lookup z=some c:=e2
   rw[hcl]at e1 e2
   refine kG (λp hp=>?_) (λy z c a b=>I.ok.inj y z c (cm a).1 (cm b).1) (Gf e1) (Gf e2)
   rw[GM]
   exact Ja (cm (y:=p.1) (c:=p.2) hp).2
  ·show ∃c,cenv.cells.lookup y=some c
   have key:∀k,cenv.kindOf y=some k->(k=.cell\/k=.free)->∃c,cenv.cells.lookup y=some c:=λk hk hk'=>by
    unfold Env.kindOf at hk
    rw[hsc]at hk
    obtain⟨k',e,r⟩:=iL hk
    have:k'=.cell\/k'=.free:=by
     rcases r with rfl|⟨rfl,_⟩
     ·exact hk'
     ·exact .inr rfl
    rcases this with rfl|rfl
    ·obtain⟨c,hm⟩:=kR (n:=(s.heap.push { cls:=.type "dict",data:=.dict #[] }).objs.size) (acc:=bE X.env.cells scope.names []) (Gf e)
     obtain⟨c',e'⟩:=jw hm
     exact⟨c',by rw[hcl];exact e'⟩
    ·obtain⟨c,h1,_⟩:=look e
     exact⟨c,h1⟩
   rcases hy with hy|hy
   ·exact key _ hy (.inl rfl)
   ·exact key _ hy (.inr rfl)
  ·have z:(scope.names.lookup y==some NameKind.cell)=true:=z
   have z:scope.names.lookup y=some .cell:=by simpa using z
   have e:cenv.cells.lookup y=some c:=e
   rw[hcl]at e
   rcases gA (Gf e) with hm|⟨_,h2,_⟩
   ·rcases gc hm with hm|⟨h1,_⟩
    ·cases hm
    ·have q:=ok.uniq _ h1
     rw[z]at q;cases q
   ·rw[GM]at h2
    exact Nat.le_of_succ_le h2
  ·show b≠cenv.locals
   rw[hL];exact Ga (hfp b hb).2
  ·have e:cenv.cells.lookup y=some c:=e
   rcases mem e with⟨h1,_⟩|⟨h1,_⟩
   ·exact(hfp b hb).1.2.2.2.2.1 y c h1 z
   ·have h2:s.heap.objs.size+1<=b:=by rw[<-z];exact h1
    exact absurd (FF (hfp b hb).2 (Nat.le_of_succ_le h2)) (Hj _)
  ·rcases(hfp b hb).1.2.2.2.1 with z|z
   ·exact I.ok.noex b o e z
   ·exact absurd (FF (Fv e) (Gb I.ok.bsz z)) (Hj _)
  ·rcases Fp.mp (I.stkSub b z) with z|z
   ·exact(hfp b hb).1.2.1 z
   ·exact(hfp b hb).1.2.2.1 z
 refine⟨okB,rfl,I.bare,Un.kept kp,⟨λ_=>none,?_,λi y av e1 e2 e3=>?_⟩,λy c e=>?_,?_,λy c e=>?_,λp hp=>?_,I.hok.kept kp,by rw[iG];exact I.len⟩
 ·show Heap.Ns _ cenv.locals _
  rw[hL]
  exact Heap.Ns.keeps (Heap.Ns.new ..) λb o e=>pushCells_keeps _ _ _ _ e
 ·obtain⟨e2,hne⟩:=kE e2
  have hfr:scope.names.lookup y=some .free/\(cenv.kindOf y=some .cell\/cenv.kindOf y=some .free):=by
   have key:∀k,cenv.scope.names.lookup y=some k->k=.local\/k=.cell\/k=.free->scope.names.lookup y=some .free/\(cenv.kindOf y=some .cell\/cenv.kindOf y=some .free):=λk hk hk'=>by
    have hk0:=hk
    rw[hsc]at hk
    obtain⟨k',e,r⟩:=iL hk
    have no:¬(k'=.local\/k'=.cell):=λhh=>by
     rcases ok.own _ (Gf e) hh with e'|e'
     ·obtain⟨p,hp,hpy⟩:=Gc.mp e'
      have e3:=ok.ix p hp
      have:p.1=y:=hpy
      rw[this]at e3
      exact hne (Gc.mpr ⟨p,hp,mR hN e3 e1⟩)
     ·exact e' (Gg e1)
    rcases r with rfl|⟨rfl,rfl⟩
    ·rcases hk' with rfl|rfl|rfl
     ·exact absurd (.inl rfl) no
     ·exact absurd (.inr rfl) no
     ·exact⟨e,.inr hk0⟩
    ·exact⟨e,.inl hk0⟩
   have e3:Vis cenv.scope y:=e3
   rcases e3 with e3|e3|e3
   ·exact key _ e3 (.inl rfl)
   ·exact key _ e3 (.inr (.inl rfl))
   ·exact key _ e3 (.inr (.inr rfl))
  obtain⟨m,hn,hl⟩:=I.loc
  have hvis:Vis X.env.scope y:=(ok.free _ (Gf hfr.1) rfl).elim (λk=>.inr (.inl k)) (λk=>.inr (.inr k))
  obtain⟨w,r,q⟩:=hl i y av e1 e2 hvis
  refine⟨w,r,.inr ⟨hfr.2,?_⟩⟩
  obtain⟨c,h1,h2⟩:=look hfr.1
  rcases q with⟨k,_⟩|⟨_,c',e',z⟩
  ·have k:X.env.scope.names.lookup y=some .local:=k
   rcases ok.free _ (Gf hfr.1) rfl with k'|k'<;>rw[show X.env.scope.names.lookup y=_ from k']at k<;>cases k
  ·rw[h2]at e';cases e'
   exact⟨c,h1,z.keeps kp⟩
 ·have e:cenv.cells.lookup y=some c:=e
  rcases mem e with⟨h1,_⟩|⟨_,z⟩
  ·obtain⟨w,z⟩:=I.cell y c h1
   exact⟨w,z.keeps kp⟩
  ·exact⟨_,z⟩
 ·show H cenv.locals=none
  rw[hL];exact I.hok.fresh (nlr _)
 ·have e:cenv.cells.lookup y=some c:=e
  rcases mem e with⟨h1,_⟩|⟨h1,_⟩
  ·exact I.freeC y c h1
  ·exact I.hok.fresh (Nat.le_of_succ_le h1)
 ·exact absurd (show p∈([]:List (Fi×Obj))++[] from hp) (by simp)
theorem Bw {E:Value->Fh->Prop}{D:Fi}{xs:List V}{y:V}{v:Value}{Q:Value->Fh->Prop}(I:Inv X pins σ H s)(hD:H D=some (.lst xs))(hz:xs.length<Fk)(r:aZ y v)
  (h:∀s',Inv X pins σ (upd H D (.lst (xs++[y]))) s'->Q .none s'):FV (Gj X.prog X.w) X.A (call (.builtin "list.append") [.ref D,v]) Q E s:=by
 obtain⟨hz',its,n,ri,e⟩:=I.hok D _ hD
 have hl:=ri.length
 refine append_at (hsz:=by rw[Fu];omega) e λh' sb ho'=>?_
 refine h { s with heap:=h' } (I.write (t':=s.toks) (by rw[hD];trivial) (.inl rfl) (λb u hb q=>(sb.2 b hb).trans q) ⟨_,ho'⟩ ⟨by rw[Fm];exact hz,its++[v],n+1,ri.append (.cons r .nil),?_⟩)
 rw[ho']
 simp
def PTs (X:Cx)(ifs:List Expr)(t:TT):Prop :=
 ∀(pins:List (Fi×Obj)) (s:Fh) (σ:St) (H:Hp) (Q:Bool->Hp->Prop),Inv X pins σ H s->t σ H Q ->
  FV (Gj X.prog X.w) X.A (forIn ifs true λc r=>if r=true then do let ok <-isTrue c X.env (Jd c X.env);pure (ForInStep.yield ok) else pure (ForInStep.yield r)) (TP X pins σ Q) X.xe s
def CO:TT:=λ_ H Q=>Q true H
theorem eO:PTs X [] CO:=λ_ _ _ H _ I h=>wpAny_tests_nil ⟨H,I,h⟩
theorem jf {c:Expr}{t:TT}(h:PT X c t):PTs X [c] t:=λpins s σ H Q I hw=>wpAny_tests_one (h pins s σ H Q I hw)
end
theorem vo {α:Type}{t:Sem α}{Q Q':α->Fh->Prop}{M:Model}{A:Around}{E:Value->Fh->Prop}{s:Fh}(h:FV M A t Q (λ_ _=>False) s)(hQ:∀a s,Q a s->Q' a s):FV M A t Q' E s:=IY h hQ λ_ _ z=>G1 z
theorem qm {prog:FW}{w:G0}{A:Around}{R:Result->Fh->Prop}{s:Fh}{elt target aD:Expr}{ifs:List Expr}{scope:Scope}{pos:Pos}{it acc:Value}{env:Env}(I:Nat->Fh->Prop)
  (turn:∀n s,I n s->FV (Gj prog w) A (pyNext it) (λr s₁=>match r with
   |none=>R (.ok .next) s₁
   |some v=>FV (Gj prog w) A (letOwnedTupleGo target it v) (λ_ s₁'=>FV (Gj prog w) A (assign target env v) (λ_ s₂ =>
     FV (Gj prog w) A (forIn ifs true λc r=>if r=true then do let ok <-isTrue c env (Jd c env);pure (ForInStep.yield ok) else pure (ForInStep.yield r)) (λok s₃ =>
      if ok=true then FV (Gj prog w) A (Jd elt env) (λx s₄ =>
       FV (Gj prog w) A (call (.builtin "list.append") [acc,x]) (λ_ s₅=>∃m,m<n/\I m s₅) (notedBy (Gj prog w) A env λe s'=>R (.error e) s') s₄) (notedBy (Gj prog w) A env λe s'=>R (.error e) s') s₃
      else ∃m,m<n/\I m s₃) (notedBy (Gj prog w) A env λe s'=>R (.error e) s') s₂) (notedBy (Gj prog w) A env λe s'=>R (.error e) s') s₁') (notedBy (Gj prog w) A env λe s'=>R (.error e) s') s₁) (notedBy (Gj prog w) A env λe s'=>R (.error e) s') s)
  (n:Nat) (h:I n s) :
  codeAny (Gj prog w) A (.compLoop (.ListComp elt [⟨target,aD,ifs,0⟩] scope pos) 0 it acc env) R s:=by
 refine codeAny_loop rfl I (λn s hI=>?_) n h
 show FV _ A ((compTurn (.ListComp elt [⟨target,aD,ifs,0⟩] scope pos) 0 it acc env).onRaise (λx=>do noteFrame x env;theTreesLotGoes x)) _ _ s
 refine wpAny_noted ?_
 rw[compTurn_list]
 refine Fg (wpAny_standAt (Fg (IY (turn n s hI) (λr s₁ h₁=>?_) λ_ _ h'=>h')))
 cases r with
 |none=>exact FD h₁
 |some v =>
  refine Fg (IY h₁ (λ_ s₁' h₁'=>?_) λ_ _ h'=>h')
  refine Fg (IY h₁' (λ_ s₂ h₂=>Fg (IY h₂ (λok s₃ h₃=>?_) λ_ _ h'=>h')) λ_ _ h'=>h')
  cases ok with
  |false=>exact FD ⟨rfl,h₃⟩
  |true =>
   exact Fg (Fg (IY h₃ (λx s₄ h₄=>Fg (IY h₄ (λ_ s₅ h₅=>FD (FD ⟨rfl,h₅⟩)) λ_ _ h'=>h')) λ_ _ h'=>h'))
section
variable  {X:Cx}
def tLc (wi:TI)(g:TG)(tt:TT)(te:TE)(vs:List Nat):TE:=λσ H Q=>wi σ H λJ H1=>∀D,H1 D=none->∃W:Nat->Nat->Hp->Prop,(∃m,W 0 m (upd H1 D (.lst [])))/\∀i m H,W i m H ->
 (J.stop i H/\Q (.ref D) H)\/(J.go i H/\∃Nx:Hp->Prop,(∀H',Nx H'->∃m',m'<m/\W (i+1) m' H')/\∀x H',J.yld i H x H'->g x (bV σ vs) H' λσ2 H2=>bV σ2 vs=bV σ vs/\tt σ2 H2 λb H3 =>
  if b=true then te σ2 H3 λy H4=>∃acc,H4 D=some (.lst acc)/\acc.length<Fk/\Nx (upd H4 D (.lst (acc++[y]))) else Nx H3)
theorem uu {pins:List (Fi×Obj)}{s:Fh}{σ:St}{H:Hp}{Q:VK}{elt tg aD:Expr}{ifs:List Expr}{scope:Scope}{own:List (Str×Nat)}{pos pos':Pos}{wi:TI}{g:TG}{tt:TT}{te:TE}{use:Option (Value->Sem Unit)}{Qf:Value->Fh->Prop}
  (hc:X.calm=true) (hN:X.N.Nodup) (I:Inv X pins σ H s) (hi:PI X tg aD wi) (ok:rR X.N X.env.scope scope own)
  (hg:∀(s:Fh) (H:Hp) (C:Fi) (cl:List (Str×Fi)) (fp:List Fi),PG (X.blk s H scope (Jh scope cl C X.env) fp) tg g) (ht:∀(s:Fh) (H:Hp) (C:Fi) (cl:List (Str×Fi)) (fp:List Fi),PTs (X.blk s H scope (Jh scope cl C X.env) fp) ifs tt)
  (he:∀(s:Fh) (H:Hp) (C:Fi) (cl:List (Str×Fi)) (fp:List Fi),PE (X.blk s H scope (Jh scope cl C X.env) fp) elt te) (hs:∀x,foldedSetIterable aD X.env x=pure x)
  (h:tLc wi g tt te (own.map (·.2)) σ H Q)
  (hRR:∀D C s' m H',Inv X pins σ H' s'->Q (.ref D) H'->s'.heap.Ns C m->lP X pins H' C->compPost (Gj X.prog X.w) X.A X.xe use Qf (.ref D) C (.ok .next) s') :
  FV (Gj X.prog X.w) X.A (comprehension (.ListComp elt [⟨tg,aD,ifs,0⟩] scope pos) scope X.env pos' (newList []) false (Jd aD X.env) use) Qf X.xe s:=by
 have hfree:∀y∈scope.names,y.2=.free->∃c,X.env.cells.lookup y.1=some c:=λy hy e=>by
  rcases ok.free y hy e with k|k
  ·exact I.ok.has _ (.inl k)
  ·exact I.ok.has _ (.inr k)
 refine wpAny_comprehension_free (use:=use) rfl hs (sK hfree) ok.kind (λy hy e=>by rw[ok.uniq y hy,e])
  (thn (hi pins s σ H _ I h) λxv s1 hx=>thn hx λitv s2 h2=>?_)
 obtain⟨it,fp,tn,J,H2,e,I2,T,st2,f2,q⟩:=h2
 subst e
 refine wpAny_newObj_type (sr ?_) (by show 0<=Fk;decide)
 generalize hD:s2.heap.objs.size=D
 have hDn:H2 D=none:=I2.hok.fresh (Nat.le_of_eq hD)
 obtain⟨W,⟨m0,w0⟩,turn⟩:=q D hDn
 generalize hs3:({ s2 with heap:=s2.heap.push { cls:=.type "list",data:=.seq ([]:List Value).toArray } }:Fh)=s3
 have I3:Inv X pins σ (upd H2 D (.lst [])) s3:=by
  rw[<-hs3]
  refine I2.laid (t':=s2.toks) (λb o e=>Ft _ e) (Nat.le_of_eq hD) ⟨Gw _,[],0,.nil,?_⟩
  rw[<-hD]
  exact FK _ rfl
 have h3:s3.heap=s2.heap.push { cls:=.type "list",data:=.seq ([]:List Value).toArray }:=by rw[<-hs3]
 have sz:∀b∈fp,b<s2.heap.objs.size:=λb hb=>by
  obtain⟨o,e,_⟩:=T.obj _ _ st2 b hb
  exact Fv e
 have f3:∀b∈fp,lP X pins (upd H2 D (.lst [])) b/\b<s3.heap.objs.size:=λb hb=>by
  have hlt:=sz b hb
  refine⟨⟨?_,(f2 b hb).2⟩,by rw[h3,GM];exact Ja hlt⟩
  rw[aq (by rw[<-hD];exact Ga hlt)]
  exact(f2 b hb).1
 have st3:tn 0 s3.heap:=T.keep _ _ _ st2 λb _ o e=>by rw[h3];exact Ft _ e
 have I4:=so I3 ok hN f3
 have pg:=hg s3 (upd H2 D (.lst [])) s3.heap.objs.size (G9 (s3.heap.objs.size+1) scope.names (bE X.env.cells scope.names [])) fp
 have pt:=ht s3 (upd H2 D (.lst [])) s3.heap.objs.size (G9 (s3.heap.objs.size+1) scope.names (bE X.env.cells scope.names [])) fp
 have pe:=he s3 (upd H2 D (.lst [])) s3.heap.objs.size (G9 (s3.heap.objs.size+1) scope.names (bE X.env.cells scope.names [])) fp
 show codeAny _ _ (.compStart (.ListComp elt [⟨tg,aD,ifs,0⟩] scope pos) 0 (.ref it) (.ref D) (Jh scope (G9 (s3.heap.objs.size+1) scope.names (bE X.env.cells scope.names [])) s3.heap.objs.size X.env)) (compPost (Gj X.prog X.w) X.A X.xe use Qf (.ref D) s3.heap.objs.size) { s3 with heap:=pushCells (s3.heap.push { cls:=.type "dict",data:=.dict #[] }) scope.names }
 have nfp:∀b∈fp,(upd H2 D (.lst [])) b=none:=λb hb=>(f3 b hb).1.1
 generalize hce:Jh scope (G9 (s3.heap.objs.size+1) scope.names (bE X.env.cells scope.names [])) s3.heap.objs.size X.env=ce at I4 pg pt pe ⊢
 have cL:ce.locals=s3.heap.objs.size:=by subst hce;rfl
 generalize hH3:upd H2 D (.lst [])=H3 at I3 I4 pg pt pe w0 nfp f3
 generalize hs4:({ s3 with heap:=pushCells (s3.heap.push { cls:=.type "dict",data:=.dict #[] }) scope.names }:Fh)=s4 at I4 ⊢
 have st4:tn 0 s4.heap:=T.keep _ _ _ st3 λb _ o e=>by rw[<-hs4];exact pushCells_keeps _ _ _ _ (Ft _ e)
 have stat:∀{σ':St} {H':Hp} {s':Fh},Inv (X.blk s3 H3 scope ce fp) [] σ' H' s'->(∀b∈fp,H' b=none)->∀b∈fp,lP (X.blk s3 H3 scope ce fp) [] H' b:=λ{σ' H' s'} I' hn b hb =>
  ⟨hn b hb,(I'.ok.exf b hb).1,I'.ok.exfs b hb,.inl hb,λx c e=>(I'.ok.exf b hb).2 x c e,λp hp=>absurd (show p∈([]:List (Fi×Obj))++[] from hp) (by simp)⟩
 have loop:codeAny (Gj X.prog X.w) X.A (.compLoop (.ListComp elt [⟨tg,aD,ifs,0⟩] scope pos) 0 (.ref it) (.ref D) ce) (compPost (Gj X.prog X.w) X.A X.xe use Qf (.ref D) s3.heap.objs.size) s4:=by
  refine qm (λn s'=>∃i H',Inv (X.blk s3 H3 scope ce fp) [] (bV σ (own.map (·.2))) H' s'/\tn i s'.heap/\(∀b∈fp,H' b=none)/\W i n H') ?_ m0 ⟨0,H3,I4,st4,nfp,w0⟩
  rintro n s5 ⟨i,H5,I5,st5,n5,w5⟩
  rcases turn i n H5 w5 with⟨stop,qq⟩|⟨go,Nx,hNx,step⟩
  ·have td:=T.done (X.blk s3 H3 scope ce fp) rfl rfl rfl hc i [] s5 _ H5 (λ_ _=>False) I5 (stat I5 n5) st5 stop
   refine vo td λr s6 ⟨hr,I6⟩=>?_
   subst hr
   have I7:Inv X pins σ H5 s6:=I3.call' (ch:=fp) I6.os I6.base I6.hok I6.bare λb hb=>⟨(f3 b hb).1.2.2.2.1,(f3 b hb).1.2.1,(f3 b hb).1.2.2.2.2.1,(f3 b hb).1.2.2.2.2.2⟩
   have nC:H5 s3.heap.objs.size=none:=by
    have z:H5 ce.locals=none:=I6.free
    rw[cL]at z
    exact z
   obtain⟨m,hn,_⟩:=I6.loc
   have hn:s6.heap.Ns ce.locals m:=hn
   rw[cL]at hn
   exact hRR D s3.heap.objs.size s6 m H5 I7 qq hn (I3.fpOk (nlr _) nC)
  ·have ti:=T.item (X.blk s3 H3 scope ce fp) rfl rfl rfl hc i [] s5 _ H5 (λ_ _=>False) I5 (stat I5 n5) st5 go
   refine vo ti λr s6 ⟨u,hr,h6⟩=>?_
   subst hr
   refine vo h6 λ_ s7 ⟨x,H7,I7,r7,y7,st7,n7⟩=>?_
   have I7':=I7.pinned (stat I7 n7) (T.obj _ _ st7)
   refine vo (pg _ s7 _ H7 x u _ I7' r7 (step x H7 y7)) λ_ s8 ⟨σ8,H8,I8,hw8,q8⟩=>?_
   refine vo (pt _ s8 σ8 H8 _ I8 q8) λb s9 ⟨H9,I9,q9⟩=>?_
   have fin:∀{s':Fh} {H':Hp},Inv (X.blk s3 H3 scope ce fp) ([]++my fp s7.heap) σ8 H' s'->Nx H'->∃m,m<n/\∃i H',Inv (X.blk s3 H3 scope ce fp) [] (bV σ (own.map (·.2))) H' s'/\tn i s'.heap/\(∀b∈fp,H' b=none)/\W i m H':=λ{s' H'} I' nx=>by
    obtain⟨m',hm,w'⟩:=hNx H' nx
    have pin':∀b∈fp,∀o,s7.heap.get? b=some o->s'.heap.get? b=some o/\H' b=none:=λb hb o e =>
     let z:=I'.pin (b,o) (GS _ (GS _ (jE hb e)))
     ⟨z.1,z.2.1⟩
    have hl:(bV σ (own.map (·.2))).length=σ8.length:=by rw[<-hw8,iG]
    refine⟨m',hm,i+1,H',(I'.unpinned (pins:=[])).weak hl (λj v e=>?_),T.keep _ _ _ st7 λb hb o e=>(pin' b hb o e).1,λb hb=>?_,w'⟩
    ·rw[<-hw8]at e
     exact(kE e).1
    ·obtain⟨o,e,_⟩:=T.obj _ _ st7 b hb
     exact(pin' b hb o e).2
   cases b with
   |false =>
    simp only[Bool.false_eq_true,I0]at q9 ⊢
    exact fin I9 q9
   |true =>
    simp only[if_true]at q9 ⊢
    refine vo (pe _ s9 σ8 H9 _ I9 q9) λz s10 ⟨yv,H10,I10,r10,acc,hD10,hz10,nx⟩=>?_
    exact Bw (X:=X.blk s3 H3 scope ce fp) I10 hD10 hz10 r10 λs11 I11=>fin I11 nx
 exact codeAny_compStart_list loop (T.self X.A 0 _ _ _ st4 loop)
theorem xC {elt tg aD:Expr}{ifs:List Expr}{scope:Scope}{own:List (Str×Nat)}{pos:Pos}{wi:TI}{g:TG}{tt:TT}{te:TE}(hc:X.calm=true)(hN:X.N.Nodup)(hi:PI X tg aD wi)(ok:rR X.N X.env.scope scope own)
  (hg:∀(s:Fh) (H:Hp) (C:Fi) (cl:List (Str×Fi)) (fp:List Fi),PG (X.blk s H scope (Jh scope cl C X.env) fp) tg g) (ht:∀(s:Fh) (H:Hp) (C:Fi) (cl:List (Str×Fi)) (fp:List Fi),PTs (X.blk s H scope (Jh scope cl C X.env) fp) ifs tt)
  (he:∀(s:Fh) (H:Hp) (C:Fi) (cl:List (Str×Fi)) (fp:List Fi),PE (X.blk s H scope (Jh scope cl C X.env) fp) elt te) (hs:∀x,foldedSetIterable aD X.env x=pure x:=by intro _;rfl) :
  PE X (.ListComp elt [⟨tg,aD,ifs,0⟩] scope pos) (tLc wi g tt te (own.map (·.2))):=by
 intro pins s σ H Q I h
 rw[eval_ListComp]
 refine uu hc hN I hi ok hg ht he hs h λD C s' m H' I' q hn f=>⟨m,hn,λh'' sb=>?_⟩
 obtain⟨f0,f1,f2,f3,f4,f5⟩:=f
 exact⟨.ref D,H',I'.turned (t':=s'.toks) (λb o hb e=>(sb.2 b hb).trans e) f0 f1 f3 f4 f5,rfl,q⟩
theorem cp {i:Nat}{y:Str}{py:Pos}{elt tg aD:Expr}{ifs:List Expr}{scope:Scope}{own:List (Str×Nat)}{pos spos:Pos}{wi:TI}{g:TG}{tt:TT}{te:TE}(hc:X.calm=true)(hN:X.N.Nodup)(hy:X.N[i]? = some y)(hyl:X.env.scope.names.lookup y=some .local)
  (hsw:swapsWith (.ListComp elt [⟨tg,aD,ifs,0⟩] scope pos) (some (.Name y py)) spos.line X.env=pure true) (hi:PI X tg aD wi) (ok:rR X.N X.env.scope scope own)
  (hg:∀(s:Fh) (H:Hp) (C:Fi) (cl:List (Str×Fi)) (fp:List Fi),PG (X.blk s H scope (Jh scope cl C X.env) fp) tg g) (ht:∀(s:Fh) (H:Hp) (C:Fi) (cl:List (Str×Fi)) (fp:List Fi),PTs (X.blk s H scope (Jh scope cl C X.env) fp) ifs tt)
  (he:∀(s:Fh) (H:Hp) (C:Fi) (cl:List (Str×Fi)) (fp:List Fi),PE (X.blk s H scope (Jh scope cl C X.env) fp) elt te) (hs:∀x,foldedSetIterable aD X.env x=pure x:=by intro _;rfl) :
  PS X (.Assign [.Name y py] (.ListComp elt [⟨tg,aD,ifs,0⟩] scope pos) spos) (AO (tLc wi g tt te (own.map (·.2))) (oP i)):=by
 intro pins s σ H D I h
 rw[exec_Assign_Name_used _ _ _ _ hsw]
 refine Fg (wpAny_standAt (Fg ?_))
 show FV _ X.A (do let _ <-comprehension (.ListComp elt [⟨tg,aD,ifs,0⟩] scope pos) scope X.env (firstIterPos [⟨tg,aD,ifs,0⟩] pos) (newList []) false (Jd aD X.env) (some (assign (.Name y py) X.env))) _ _ s
 have h:tLc wi g tt te (own.map (·.2)) σ H (λx H1=>oP i x σ H1 D.nx):=h
 refine Fg (thn (uu (Qf:=λ_ s'=>SP X pins D .next s') hc hN I hi ok hg ht he hs h λL C s' m H' I' q hn f=>?_) λ_ s' hq=>FD (FD hq))
 show FV _ _ (assign (.Name y py) X.env (.ref L)) _ _ _
 refine wpAny_assign_Name (store_ok2 (v:=V.ref L) I' hN hy (.inl hyl) rfl (λs2 I2 ⟨a,sb,ha⟩=>?_) (.inr hyl))
 obtain⟨f0,f1,f2,f3,f4,f5⟩:=f
 have haC:C≠a:=by
  rcases ha with z|z
  ·rw[z];exact f1
  ·exact λe=>f4 y a z e.symm
 refine⟨m,hn.sameBut sb haC,λh3 sb3=>?_⟩
 exact⟨_,H',I2.turned (t':=s2.toks) (λb o hb e=>(sb3.2 b hb).trans e) f0 f1 f3 f4 f5,q⟩
theorem dC {elt:Expr}{gs:List Comprehension}{scope:Scope}{pos py:Pos}{y:Str}{l:Nat}{env:Env}(hk:env.scope.kind=.function)(hy:env.scope.names.lookup y=some .local)(hl:(py.line==pos.line)=true)
  (ha:(scope.names.any λ(n,k)=>n==y&&(k==.local||k==.cell))=false):swapsWith (.ListComp elt gs scope pos) (some (.Name y py)) l env=pure true:=by
 have ky:env.kindOf y=some .local:=hy
 have hb:env.blockKind=.function:=by unfold Env.blockKind;rw[hk];rfl
 unfold swapsWith
 simp only[hb,ky,ha,Expr.pos,hl]
 rfl
end
theorem ie {K:GC}{a:Fi}{xs:List V}{g:TG}{tt:TT}{te:TE}{vs:List Nat}{σ:St}{H1:Hp}{D:Fi}{Qd:Hp->Prop}(Pv:Nat->Hp->Prop)(h0:Pv 0 (upd H1 D (.lst [])))(hl:∀i H,i<=xs.length->Pv i H->SqL K H a xs)
  (hs:∀i x H,xs[i]? = some x->Pv i H->g x (bV σ vs) H λσ2 H2=>bV σ2 vs=bV σ vs/\tt σ2 H2 λb H3 =>
   if b=true then te σ2 H3 λy H4=>∃acc,H4 D=some (.lst acc)/\acc.length<Fk/\Pv (i+1) (upd H4 D (.lst (acc++[y]))) else Pv (i+1) H3) (hd:∀H,Pv xs.length H->Qd H) :
  ∃W:Nat->Nat->Hp->Prop,(∃m,W 0 m (upd H1 D (.lst [])))/\∀i m H,W i m H ->
   ((Itl K a).stop i H/\Qd H)\/((Itl K a).go i H/\∃Nx:Hp->Prop,(∀H',Nx H'->∃m',m'<m/\W (i+1) m' H')/\∀x H',(Itl K a).yld i H x H'->g x (bV σ vs) H' λσ2 H2=>bV σ2 vs=bV σ vs/\tt σ2 H2 λb H3 =>
    if b=true then te σ2 H3 λy H4=>∃acc,H4 D=some (.lst acc)/\acc.length<Fk/\Nx (upd H4 D (.lst (acc++[y]))) else Nx H3):=by
 refine⟨λi m H=>m=xs.length-i/\i<=xs.length/\Pv i H,⟨xs.length,by simp,Gw _,h0⟩,?_⟩
 rintro i m H ⟨rfl,hi,p⟩
 have q:=hl i H hi p
 by_cases hlt:i<xs.length
 ·refine .inr ⟨⟨xs,xs[i],q,by simp[hlt]⟩,Pv (i+1),λH' p'=>⟨xs.length-(i+1),by omega,rfl,hlt,p'⟩,λx H' y=>?_⟩
  obtain⟨e,y⟩:=y
  subst e
  exact hs i x _ (y xs q) p
 ·have e:i=xs.length:=by omega
  subst e
  exact .inl ⟨⟨xs,q,nlr _⟩,hd H p⟩
def iu (N:List Str)(sc scope:Scope)(own:List (Str×Nat)):Bool :=
 (match scope.kind with|.function=>true|_=>false)&&(scope.names.all λy=>decide (scope.names.lookup y.1=some y.2))&&(own.all λp=>decide (N[p.2]? = some p.1)) &&
  (scope.names.all λy=>match y.2 with
   |.free=>(match sc.names.lookup y.1 with|some .cell=>true|some .free=>true|_=>false)
   |.local=>decide (y.1∈own.map (·.1))||decide (y.1∉N)
   |.cell=>decide (y.1∈own.map (·.1))||decide (y.1∉N)
   |_=>true)
theorem bJ {N:List Str}{sc scope:Scope}{own:List (Str×Nat)}(h:iu N sc scope own=true):rR N sc scope own:=by
 unfold iu at h
 simp only[Fn,Gx,Fq]at h
 obtain⟨⟨⟨h1,h2⟩,h3⟩,h4⟩:=h
 refine⟨?_,h2,h3,λy hy e=>?_,λy hy e=>?_⟩
 ·split at h1
  ·assumption
  ·cases h1
 ·have q:=h4 y hy
  simp only[e]at q
  split at q<;>first|exact .inl (by assumption)|exact .inr (by assumption)|cases q
 ·have q:=h4 y hy
  rcases e with e|e<;>(simp only[e,Hw,Fq]at q;exact q)
end L2
namespace L2
open PySem PySem.Spec PyProof.Rows
section
variable  {prog:FW}{w:G0}{A:Around}{R:Result->Fh->Prop}{s:Fh}{elt t0 i0 t1 i1:Expr}{ifs0 ifs1:List Expr}{scope:Scope}{pos:Pos}{it acc:Value}{env:Env}
end
section
variable  {X:Cx}
end
end L2
namespace L2
open PySem PySem.Spec PyProof.Rows
section
variable  {κ:Type}[DecidableEq κ]
def fH (kvs:List (κ×V))(k:κ):Option V:=(kvs.find? λkv=>decide (kv.1=k)).map (·.2)
def iR (kvs:List (κ×V))(k:κ)(v:V):List (κ×V) :=
 if (kvs.any λkv=>decide (kv.1=k))=true then kvs.map (λkv=>if kv.1=k then (kv.1,v) else kv) else kvs++[(k,v)]
theorem c8 {p:κ×V}{r:List (κ×V)}{k:κ}(e:p.1=k):fH (p :: r) k=some p.2:=by simp[fH,HQ,e]
theorem dk {p:κ×V}{r:List (κ×V)}{k:κ}(e:¬p.1=k):fH (p :: r) k=fH r k:=by simp[fH,HQ,e]
theorem gv (k:κ):∀kvs:List (κ×V),(kvs.any λkv=>decide (kv.1=k))=(fH kvs k).isSome
 |[]=>rfl
 |p :: r=>by
  rw[List.any_cons]
  by_cases e:p.1=k
  ·simp only[c8 e,dqt e,Jr,Option.isSome_some]
  ·rw[dk e,dqf e,Bool.false_or];exact gv k r
theorem rT (k j:κ)(y:V):∀kvs:List (κ×V),fH (kvs.map λkv=>if kv.1=k then (kv.1,y) else kv) j=(fH kvs j).map λx=>if j=k then y else x
 |[]=>rfl
 |p :: r=>by
  have ih:=rT k j y r
  rw[FH]
  by_cases h:p.1=k
  ·rw[Fs h]
   by_cases e:p.1=j
   ·rw[c8 (p:=(p.1,y)) e,c8 e,Option.map_some,Fs (e.symm.trans h)]
   ·rw[dk (p:=(p.1,y)) e,dk e,ih]
  ·rw[Fl h]
   by_cases e:p.1=j
   ·rw[c8 (p:=p) e,c8 e,Option.map_some,Fl (λz=>h (e.trans z))]
   ·rw[dk (p:=p) e,dk e,ih]
theorem pz (k j:κ)(y:V):∀kvs:List (κ×V),fH kvs k=none->fH (kvs++[(k,y)]) j=if j=k then some y else fH kvs j
 |[],_=>by
  by_cases e:k=j
  ·rw[Fs e.symm];exact c8 (p:=(k,y)) e
  ·rw[Fl (λz=>e z.symm)];exact dk (p:=(k,y)) e
 |p :: r,hn=>by
  rw[Ji]
  have hk:¬p.1=k:=λz=>by rw[c8 z]at hn;cases hn
  rw[dk hk]at hn
  have ih:=pz k j y r hn
  by_cases e:p.1=j
  ·rw[c8 e,c8 e,Fl (λz=>hk (e.trans z))]
  ·rw[dk e,dk e,ih]
theorem wP (kvs:List (κ×V))(k j:κ)(y:V):fH (iR kvs k y) j=if j=k then some y else fH kvs j:=by
 unfold iR
 by_cases a:(kvs.any λkv=>decide (kv.1=k))=true
 ·rw[Fs a,rT]
  rw[gv]at a
  by_cases e:j=k
  ·obtain⟨x,hx⟩:=Option.isSome_iff_exists.mp a
   rw[Fs e,e,hx,Option.map_some,Fs rfl]
  ·rw[Fl e]
   cases fH kvs j with
   |none=>rfl
   |some x=>rw[Option.map_some,Fl e]
 ·rw[Fl a]
  refine pz k j y kvs ?_
  rw[gv]at a
  cases q:fH kvs k with
  |none=>rfl
  |some x=>rw[q]at a;exact(a rfl).elim
theorem gj (kvs:List (κ×V))(k:κ)(v:V):(iR kvs k v).length<=kvs.length+1:=by
 unfold iR
 split
 ·rw[lmp];omega
 ·rw[Fm,FT,Iq];omega
theorem jV.isSome_eq {o:Option V}{u:Option Value}(r:jV o u):o.isSome=u.isSome:=by
 cases o with
 |none=>cases u with
  |none=>rfl
  |some _=>exact(show False from r).elim
 |some _=>cases u with
  |none=>exact(show False from r).elim
  |some _=>rfl
theorem KV.val {kvs:List (κ×V)}{vs:List (κ×Value)}(r:KV kvs vs)(k:κ):jV (fH kvs k) (valueAt vs k):=by
 unfold KV at r
 induction r with
 |nil=>exact True.intro
 |@cons p q ps qs h t ih =>
  obtain⟨h1,h2⟩:=h
  by_cases e:p.1=k
  ·have e':q.1=k:=h1.symm.trans e
   have b:valueAt (q :: qs) k=some q.2:=by simp[valueAt,HQ,e']
   rw[c8 e,b];exact h2
  ·have e':¬q.1=k:=λz=>e (h1.trans z)
   have b:valueAt (q :: qs) k=valueAt qs k:=by simp[valueAt,HQ,e']
   rw[dk e,b];exact ih
theorem KV.any {kvs:List (κ×V)}{vs:List (κ×Value)}(r:KV kvs vs)(k:κ):(kvs.any λkv=>decide (kv.1=k))=vs.any λkv=>decide (kv.1=k):=by
 unfold KV at r
 induction r with
 |nil=>rfl
 |cons h t ih=>rw[List.any_cons,List.any_cons,ih,h.1]
theorem KV.repl {kvs:List (κ×V)}{vs:List (κ×Value)}(r:KV kvs vs)(k:κ){y:V}{u:Value}(ry:aZ y u) :
  KV (kvs.map λkv=>if kv.1=k then (kv.1,y) else kv) (vs.map λkv=>if kv.1=k then (kv.1,u) else kv):=by
 unfold KV at r ⊢
 induction r with
 |nil=>exact .nil
 |@cons p q ps qs h t ih =>
  rw[FH,FH]
  refine .cons ?_ ih
  obtain⟨h1,h2⟩:=h
  by_cases e:p.1=k
  ·rw[Fs e,Fs (h1.symm.trans e)];exact⟨h1,ry⟩
  ·rw[Fl e,Fl (λz=>e (h1.trans z))];exact⟨h1,h2⟩
theorem KV.put {kvs:List (κ×V)}{vs:List (κ×Value)}(r:KV kvs vs)(k:κ){y:V}{u:Value}(ry:aZ y u):KV (iR kvs k y) (stored vs k u):=by
 unfold iR stored
 rw[r.any k]
 by_cases e:(vs.any λkv=>decide (kv.1=k))=true
 ·rw[Fs e,Fs e];exact r.repl k ry
 ·rw[Fl e,Fl e];exact Paired.snoc r ⟨rfl,ry⟩
theorem KV.length {kvs:List (κ×V)}{vs:List (κ×Value)}(r:KV kvs vs):kvs.length=vs.length:=Paired.length r
end
theorem uJ {P:FW}{w:G0}{k:Key}{u:Value}(r:aZ (kV k) u):(cV P w).is k u=true:=by
 cases k with
 |inl i=>obtain⟨t,e⟩:=(show ∃t,u=Value.int i t from r);subst e;exact re P w i t
 |inr x=>obtain⟨t,e⟩:=(show ∃t,u=Value.str x t from r);subst e;exact rk P w x t
theorem oZ {P:FW}{w:G0}:∀{ks:List Key} {us:List Value},aR (ks.map kV) us->ItemsAre (cV P w) ks us
 |[],_,r=>by rw[List.map_nil]at r;cases r;exact .nil
 |k :: ks,_,r=>by
  rw[FH]at r
  cases r with
  |cons h t=>exact .cons (uJ h) (oZ t)
abbrev KT (H:Hp):List (List Key×V)->List (List Key×Fi×Value)->Prop:=Paired λp q=>p.1=q.1/\H q.2.1=some (.tup (p.1.map kV))/\aZ p.2 q.2.2
theorem KT.val {H:Hp}{kvs:List (List Key×V)}{xs:List (List Key×Fi×Value)}(r:KT H kvs xs)(k:List Key):jV (fH kvs k) ((atKey xs k).map (·.2)):=by
 induction r with
 |nil=>exact True.intro
 |@cons p q ps qs h t ih =>
  obtain⟨h1,_,h2⟩:=h
  by_cases e:p.1=k
  ·have e':q.1=k:=h1.symm.trans e
   have b:atKey (q :: qs) k=some q.2:=by simp[atKey,HQ,e']
   rw[c8 e,b];exact h2
  ·have e':¬q.1=k:=λz=>e (h1.trans z)
   have b:atKey (q :: qs) k=atKey qs k:=by simp[atKey,HQ,e']
   rw[dk e,b];exact ih
theorem KT.repl {H:Hp}{kvs:List (List Key×V)}{xs:List (List Key×Fi×Value)}(r:KT H kvs xs)(k:List Key){y:V}{u:Value}(ry:aZ y u) :
  KT H (kvs.map λkv=>if kv.1=k then (kv.1,y) else kv) (xs.map (putAt k u)):=by
 induction r with
 |nil=>exact .nil
 |@cons p q ps qs h t ih =>
  rw[FH,FH]
  refine .cons ?_ ih
  obtain⟨h1,h2,h3⟩:=h
  unfold putAt
  by_cases e:p.1=k
  ·rw[Fs e,Fs (h1.symm.trans e)];exact⟨h1,h2,ry⟩
  ·rw[Fl e,Fl (λz=>e (h1.trans z))];exact⟨h1,h2,h3⟩
theorem KT.put {H:Hp}{kvs:List (List Key×V)}{xs:List (List Key×Fi×Value)}(r:KT H kvs xs)(k:List Key){b:Fi}{y:V}{u:Value}(hb:H b=some (.tup (k.map kV)))(ry:aZ y u) :
  KT H (iR kvs k y) (storedH xs k b u):=by
 have e:(kvs.any λkv=>decide (kv.1=k))=(atKey xs k).isSome:=by
  rw[gv,(r.val k).isSome_eq,Option.isSome_map]
 unfold iR storedH
 rw[e]
 by_cases q:(atKey xs k).isSome=true
 ·rw[Fs q,Fs q];exact r.repl k ry
 ·rw[Fl q,Fl q];exact Paired.snoc r ⟨rfl,hb,ry⟩
theorem KT.keeps {H H':Hp}{kvs:List (List Key×V)}{xs:List (List Key×Fi×Value)}(r:KT H kvs xs)(ht:∀b ys,H b=some (.tup ys)->H' b=some (.tup ys)):KT H' kvs xs :=
 Paired.mapP r λ_ _ z=>⟨z.1,ht _ _ z.2.1,z.2.2⟩
section
variable  {P:FW}{w:G0}{H:Hp}{h:Heap}{a:Fi}
theorem zY {u:HO}(ok:HOk P w H h)(e:Rd H a u):b6 P w H h a u:=e.ok ok
theorem uO {kvs:List (Key×V)}(ok:HOk P w H h)(e:Rd H a (.dK kvs)):kvs.length<=Fk/\(a==Ia)=false/\∃vs,KV kvs vs/\h.DictOf (cV P w) a vs :=
 show b6 P w H h a (.dK kvs) from zY ok e
theorem Eb {kvs:List (Key×V)}(ok:HOk P w H h)(e:H a=some (.dK kvs)):kvs.length<=Fk/\(a==Ia)=false/\∃vs,KV kvs vs/\h.DictOf (cV P w) a vs:=uO ok (.inl e)
theorem pS {ks:List Key}(ok:HOk P w H h)(e:H a=some (.tup (ks.map kV))):(tupleKind (cV P w)).is h ks a:=by
 obtain⟨_,its,r,o,h1,h2,n,h3⟩:=(show b6 P w H h a (.tup (ks.map kV)) from ok a _ e)
 exact⟨o,its.toArray,n,h1,h2,h3,by simpa using oZ r⟩
theorem xw {kvs:List (List Key×V)}(ok:HOk P w H h)(e:Rd H a (.dT kvs)):kvs.length<=Fk/\(a==Ia)=false /\
  ∃xs,KT H kvs xs/\h.DictOfH (tupleKind (cV P w)) a xs:=by
 obtain⟨z,y,xs,r,o,es,ep,h1,h2,h3,h4,h5⟩:=(show b6 P w H h a (.dT kvs) from zY ok e)
 refine⟨z,y,xs,r,o,es,ep,h1,h2,h3,h4,λx hx=>?_,h5⟩
 have all:∀{l:List (List Key×V)} {m:List (List Key×Fi×Value)},KT H l m->∀x∈m,(tupleKind (cV P w)).is h x.1 x.2.1:=by
  intro l m q
  induction q with
  |nil=>intro x hx;exact nomatch hx
  |@cons p q ps qs hq t ih =>
   intro x hx
   rcases Fp.mp hx with e|hx
   ·subst e
    exact pS ok (by rw[<-hq.1];exact hq.2.1)
   ·exact ih x hx
 exact all r x hx
theorem Em {kvs:List (List Key×V)}(ok:HOk P w H h)(e:H a=some (.dT kvs)):kvs.length<=Fk/\(a==Ia)=false /\
  ∃xs,KT H kvs xs/\h.DictOfH (tupleKind (cV P w)) a xs:=xw ok (.inl e)
end
def mI (H:Hp)(a:Fi)(y:V)(r:Option V):Prop :=
 (∃kvs k,Rd H a (.dK kvs)/\y=kV k/\r=fH kvs k)\/∃kvs k b,Rd H a (.dT kvs)/\y=.ref b/\H b=some (.tup (k.map kV))/\r=fH kvs k
def pT (H:Hp)(a:Fi)(y v:V)(H':Hp):Prop :=
 (∃kvs k,H a=some (.dK kvs)/\y=kV k/\kvs.length<Fk/\H'=upd H a (.dK (iR kvs k v))) \/
 ∃kvs k b,H a=some (.dT kvs)/\y=.ref b/\H b=some (.tup (k.map kV))/\kvs.length<Fk/\H'=upd H a (.dT (iR kvs k v))
theorem mI.k {H:Hp}{a:Fi}{kvs:List (Key×V)}{k:Key}(e:H a=some (.dK kvs)):mI H a (kV k) (fH kvs k):=.inl ⟨kvs,k,.inl e,rfl,rfl⟩
theorem mI.t {H:Hp}{a b:Fi}{kvs:List (List Key×V)}{k:List Key}(e:H a=some (.dT kvs))(eb:H b=some (.tup (k.map kV))):mI H a (.ref b) (fH kvs k):=.inr ⟨kvs,k,b,.inl e,rfl,eb,rfl⟩
theorem pT.k {H:Hp}{a:Fi}{kvs:List (Key×V)}{k:Key}{v:V}(e:H a=some (.dK kvs))(hl:kvs.length<Fk):pT H a (kV k) v (upd H a (.dK (iR kvs k v))):=.inl ⟨kvs,k,e,rfl,hl,rfl⟩
theorem pT.t {H:Hp}{a b:Fi}{kvs:List (List Key×V)}{k:List Key}{v:V}(e:H a=some (.dT kvs))(eb:H b=some (.tup (k.map kV)))(hl:kvs.length<Fk) :
  pT H a (.ref b) v (upd H a (.dT (iR kvs k v))):=.inr ⟨kvs,k,b,e,rfl,eb,hl,rfl⟩
section
variable  {X:Cx}{pins:List (Fi×Obj)}{σ:St}{H:Hp}{s:Fh}{a:Fi}{y v:V}{u r:Value}{o:Option V}{A:Around}{E:Value->Fh->Prop}
theorem Inv.big (I:Inv X pins σ H s):Ia<s.heap.objs.size:=by
 have h:Gk<s.heap.objs.size:=(I.mod.glob.keeps I.bk).lt
 exact Nat.lt_trans (by decide) h
theorem EF {Q:Value->Fh->Prop}(hu:A.units+1<cLine)(I:Inv X pins σ H s)(g:mI H a y o)(ry:aZ y u)(h:∀s',Inv X pins σ H s'->Q (.bool o.isSome) s') :
  FV (Gj X.prog X.w) A (GQ .In u (.ref a)) Q E s:=by
 rcases g with⟨kvs,k,e,ey,l⟩|⟨kvs,k,b,e,ey,eb,l⟩
 ·subst ey
  obtain⟨z,hd,vs,rel,dd⟩:=uO I.hok e
  refine wpAny_in_of (uJ ry) hd dd.mapOf ?_
  rw[<-(rel.val k).isSome_eq,<-l]
  exact h _ (I.tok _)
 ·subst ey
  cases (show u=Gd b from ry)
  obtain⟨z,hd,xs,rel,dd⟩:=xw I.hok e
  refine wpAny_in_heap (tupleKind_room_in1 hu) (pS I.hok eb) hd dd ?_
  have q:=(rel.val k).isSome_eq
  rw[Option.isSome_map]at q
  rw[<-q,<-l]
  exact h _ (I.tok _)
theorem zf {Q:Value->Fh->Prop}(hu:A.units+1<cLine)(I:Inv X pins σ H s)(g:mI H a y o)(ry:aZ y u)(h:∀s',Inv X pins σ H s'->Q (.bool (!o.isSome)) s') :
  FV (Gj X.prog X.w) A (GQ .NotIn u (.ref a)) Q E s:=by
 rcases g with⟨kvs,k,e,ey,l⟩|⟨kvs,k,b,e,ey,eb,l⟩
 ·subst ey
  obtain⟨z,hd,vs,rel,dd⟩:=uO I.hok e
  refine wpAny_notIn_of (uJ ry) hd dd.mapOf ?_
  rw[<-(rel.val k).isSome_eq,<-l]
  exact h _ (I.tok _)
 ·subst ey
  cases (show u=Gd b from ry)
  obtain⟨z,hd,xs,rel,dd⟩:=xw I.hok e
  refine wpAny_notIn_heap (tupleKind_room_in1 hu) (pS I.hok eb) hd dd ?_
  have q:=(rel.val k).isSome_eq
  rw[Option.isSome_map]at q
  rw[<-q,<-l]
  exact h _ (I.tok _)
theorem tY {h':Heap}{t':Nat}{ob:HO}(I:Inv X pins σ H s)(mu:Mut (H a))(hs:Heap.SameBut a s.heap h')(he:∃q,h'.get? a=some q)(new:b6 X.prog X.w (upd H a ob) h' a ob) :
  Inv X pins σ (upd H a ob) { s with heap:=h',toks:=t' } :=
 I.write (x:=a) (e:=a) mu (.inl rfl) (λb q hb z=>(hs.2 b hb).trans z) he new
theorem Aw {P:FW}{w:G0}{H':Hp}{h':Heap}{kvs:List (Key×V)}{vs:List (Key×Value)}(z:kvs.length<=Fk)(hd:(a==Ia)=false)(rel:KV kvs vs)(dd:h'.DictOf (cV P w) a vs) :
  b6 P w H' h' a (.dK kvs):=⟨z,hd,vs,rel,dd⟩
theorem vi {H':Hp}{Q:Unit->Fh->Prop}(hu:A.units+1<cLine)(I:Inv X pins σ H s)(g:pT H a y v H')(ry:aZ y u)(rv:aZ v r)(h:∀s',Inv X pins σ H' s'->Q () s') :
  FV (Gj X.prog X.w) A (setItem (.ref a) u r) Q E s:=by
 rcases g with⟨kvs,k,e,ey,l,eH⟩|⟨kvs,k,b,e,ey,eb,l,eH⟩
 ·subst ey eH
  obtain⟨z,hd,vs,rel,dd⟩:=Eb I.hok e
  have hz:vs.length<=Fk:=by rw[<-rel.length];exact z
  have hl:(iR kvs k v).length<=Fk:=by have:=gj kvs k v;omega
  refine wpAny_setItem_pairs (hsz:=hz) (uJ ry) dd λh' dd' hs=>h _ ?_
  have he:∃q,h'.get? a=some q:=let ⟨q,_,_,hq,_⟩:=dd';⟨q,hq⟩
  exact tY I (by rw[e];exact True.intro) hs he (Aw hl hd (rel.put k rv) dd')
 ·subst ey eH
  cases (show u=Gd b from ry)
  obtain⟨z,hd,xs,rel,dd⟩:=Em I.hok e
  have hz:xs.length<=Fk:=by rw[<-Paired.length rel];exact z
  have hl:(iR kvs k v).length<=Fk:=by have:=gj kvs k v;omega
  refine wpAny_setItem_heap (hsz:=hz) (tupleKind_room_in1 hu) (pS I.hok eb) dd λh' dd' hs=>h _ ?_
  obtain⟨q,es,ep,hq,h2,h3,h4,_,h5⟩:=dd'
  refine tY I (by rw[e];exact True.intro) hs ⟨q,hq⟩ ⟨hl,hd,_,(rel.put k eb rv).keeps λc ys ec=>?_,q,es,ep,hq,h2,h3,h4,h5⟩
  rw[aq (Cq ec e (λz=>nomatch z))]
  exact ec
end
section
variable  {X:Cx}{pins:List (Fi×Obj)}{σ:St}{H:Hp}{s:Fh}{a:Fi}{kvs:List (Key×V)}{k:Key}{u:Value}{A:Around}{E:Value->Fh->Prop}
theorem Cf {Q:Value->Fh->Prop}(I:Inv X pins σ H s)(e:Rd H a (.dK kvs))(h:∀t s',Inv X pins σ H s'->Q (.int kvs.length t) s'):FV (Gj X.prog X.w) A (call (.builtin "len") [.ref a]) Q E s:=by
 obtain⟨z,hd,vs,rel,dd⟩:=uO I.hok e
 refine call_len_dict hd dd (by rw[<-rel.length];rw[sizeLine_eq]at z;omega) ?_
 rw[<-rel.length]
 exact h _ _ (I.tok _)
end
def EO (ty td:TE):TE:=λσ H Q=>ty σ H λy H1=>td σ H1 λx H2=>∃a o,x=.ref a/\mI H2 a y o/\Q (.bl o.isSome) H2
def zD (ty td:TE):TE:=λσ H Q=>ty σ H λy H1=>td σ H1 λx H2=>∃a o,x=.ref a/\mI H2 a y o/\Q (.bl (!o.isSome)) H2
def Cs (td ty tv:TE):TS:=λD σ H=>tv σ H λv H1=>td σ H1 λx H2=>ty σ H2 λy H3=>∃a H4,x=.ref a/\pT H3 a y v H4/\D.nx σ H4
section
variable  {X:Cx}{o i e value:Expr}{pos pos' tpos:Pos}{td ty tv:TE}
theorem BO (hu:X.A.units+1<cLine)(hi:PE X i ty)(ho:PE X o td):PC X .In i o (EO ty td):=by
 intro pins s σ H Q I h
 refine thn (hi pins s σ H _ I h) λiv s1 ⟨y,H1,I1,ry,q1⟩=>thn (ho pins s1 σ H1 _ I1 q1) λu s2 ⟨x,H2,I2,rx,a,ov,ex,g,q2⟩=>?_
 subst ex
 obtain rfl:u=Gd a:=rx
 exact EF hu I2 g ry λs3 I3=>⟨.bl ov.isSome,H2,I3,rfl,q2⟩
theorem pG (hu:X.A.units+1<cLine)(hi:PE X i ty)(ho:PE X o td):PC X .NotIn i o (zD ty td):=by
 intro pins s σ H Q I h
 refine thn (hi pins s σ H _ I h) λiv s1 ⟨y,H1,I1,ry,q1⟩=>thn (ho pins s1 σ H1 _ I1 q1) λu s2 ⟨x,H2,I2,rx,a,ov,ex,g,q2⟩=>?_
 subst ex
 obtain rfl:u=Gd a:=rx
 exact zf hu I2 g ry λs3 I3=>⟨.bl (!ov.isSome),H2,I3,rfl,q2⟩
theorem pO (hu:X.A.units+1<cLine)(ho:PE X o td)(hi:PE X i ty)(hv:PE X value tv)(hs:swapsWith value (some (.Subscript o i pos')) pos.line X.env=pure false) :
  PS X (.Assign [.Subscript o i pos'] value pos) (Cs td ty tv):=by
 intro pins s σ H D I h
 refine wpAny_Assign_Subscript (thn (hv pins s σ H _ I h) λr s1 ⟨v,H1,I1,rv,q1⟩=>thn (ho pins s1 σ H1 _ I1 q1) λu s2 ⟨x,H2,I2,rx,q2⟩=>thn (hi pins s2 σ H2 _ I2 q2) λiv s3 ⟨y,H3,I3,ry,a,H4,ex,g,q3⟩=>?_) hs
 subst ex
 obtain rfl:u=Gd a:=rx
 exact vi hu I3 g ry rv λs4 I4=>⟨σ,H4,I4,q3⟩
end
theorem wT {P:FW}{w:G0}{H:Hp}(h:Heap)(hb:Ia<h.objs.size):b6 P w H (h.push { cls:=.type "dict",data:=.dict #[] }) h.objs.size (.dK []) :=
 ⟨Gw _,GR.mpr (FQ (Ga hb)),[],.nil,Heap.DictOf.new h⟩
theorem xk {P:FW}{w:G0}{H:Hp}(h:Heap)(hb:Ia<h.objs.size):b6 P w H (h.push { cls:=.type "dict",data:=.dict #[] }) h.objs.size (.dT []) :=
 ⟨Gw _,GR.mpr (FQ (Ga hb)),[],.nil,_,#[],0,FK _ rfl,⟨rfl,rfl,rfl⟩,rfl,rfl,List.nodup_nil⟩
def BG:TE:=λ_ H Q=>∀p,H p=none->Q (.ref p) (upd H p (.dK []))
def Bf:TE:=λ_ H Q=>∀p,H p=none->Q (.ref p) (upd H p (.dT []))
section
variable  {X:Cx}{pos:Pos}
theorem xI:PE X (.Dict [] [] pos) BG:=λpins s σ H Q I h =>
 wpAny_Dict_empty ⟨.ref s.heap.objs.size,_,I.laid (a:=s.heap.objs.size) (o:=.dK []) (t':=s.toks) (λ_ _ q=>Ft _ q) (nlr _) (wT s.heap I.big),rfl,h _ (I.hok.fresh (nlr _))⟩
theorem qV:PE X (.Dict [] [] pos) Bf:=λpins s σ H Q I h =>
 wpAny_Dict_empty ⟨.ref s.heap.objs.size,_,I.laid (a:=s.heap.objs.size) (o:=.dT []) (t':=s.toks) (λ_ _ q=>Ft _ q) (nlr _) (xk s.heap I.big),rfl,h _ (I.hok.fresh (nlr _))⟩
end
structure M1 (X:Cx)(o:Expr)(m:Str)(apos:Pos)(e:Expr)(cpos:Pos):Prop where
 base:attributeBase o m X.env (Jd o X.env)=Jd o X.env
 few:((II cpos (FU [e] X.env)).all (λx=>!x.1)&&(backToKw cpos (IL [] X.env)).all (λx=>x.1.isSome)
  &&decide (([e]:List Expr).length+([]:List Keyword).length+(if ([]:List Keyword).isEmpty then 0 else 1)<30))=true
 line:(apos.endLine==cpos.line)=true
 trees:II cpos (FU [e] X.env)=[(false,Jd e X.env)]
structure M2 (X:Cx)(o:Expr)(m:Str)(apos:Pos)(e f:Expr)(cpos:Pos):Prop where
 base:attributeBase o m X.env (Jd o X.env)=Jd o X.env
 few:((II cpos (FU [e,f] X.env)).all (λx=>!x.1)&&(backToKw cpos (IL [] X.env)).all (λx=>x.1.isSome)
  &&decide (([e,f]:List Expr).length+([]:List Keyword).length+(if ([]:List Keyword).isEmpty then 0 else 1)<30))=true
 line:(apos.endLine==cpos.line)=true
 trees:II cpos (FU [e,f] X.env)=[(false,Jd e X.env),(false,Jd f X.env)]
section
variable  {X:Cx}{pins:List (Fi×Obj)}{σ:St}{H:Hp}{s:Fh}{a:Fi}{y d:V}{u r:Value}{o:Option V}{A:Around}{E:Value->Fh->Prop}
end
section
variable  {X:Cx}{o e f:Expr}{apos cpos:Pos}{td ty tx:TE}
end
section
variable  {X:Cx}{pins:List (Fi×Obj)}{σ:St}{H:Hp}{s:Fh}{a:Fi}{kvs:List (Key×V)}{A:Around}{E:Value->Fh->Prop}
end
section
variable  {X:Cx}{pins:List (Fi×Obj)}{σ:St}{H:Hp}{s:Fh}{a:Fi}{y:V}{u:Value}{A:Around}{E:Value->Fh->Prop}
end
end L2
namespace L2
open PySem PySem.Spec PyProof.Rows
section
variable  {prog:FW}{w:G0}{A:Around}{E:Value->Fh->Prop}
end
section
variable  {X:Cx}
end
end L2
namespace L2
open PySem PySem.Spec PyProof.Rows
theorem mf:HL "reversed"=some (.type "reversed"):=by decide +kernel
section
variable  {X:Cx}{pins:List (Fi×Obj)}{σ:St}{H:Hp}{s:Fh}{h':Heap}
theorem Inv.turnedL {t':Nat}{ch:List Fi}(I:Inv X pins σ H s)(k:∀b o,b∉ch->s.heap.get? b=some o->h'.get? b=some o)(hf:∀b∈ch,lP X pins H b):Inv X pins σ H { s with heap:=h',toks:=t' }:=by
 have nit:∀b u,H b=some u->b∉ch:=λb u e z=>by
  have q:=(hf b z).1
  rw[q]at e;cases e
 refine I.step (g':=s.gens) (d':=s.drawn) (ch:=ch) (λb hb=>⟨(hf b hb).2.2.2.1,(hf b hb).2.1,(hf b hb).2.2.2.2.1,(hf b hb).2.2.2.2.2⟩) (λb o _ _ hc e _=>k b o hc e) (λb o _ _ hc e _=>⟨o.slots,k b o hc e⟩)
  (λ_ _ _ _ n=>n) (λb o hc e=>⟨o,k b o hc e⟩) (λ_ _ e=>e) (λ_ _ _ e=>e) (λb ps e=>⟨#[],by rw[e];simp⟩) (λm hm=>?_) (λb u e=>?_) I.bare
 ·obtain⟨o,es,ep,ho,r⟩:=hm
  exact⟨o,es,ep,k _ o (λz=>(hf _ z).2.1 rfl) ho,r⟩
 ·refine(I.hok b u e).stay (λc v hc q=>k c v ?_ q) (λ_ q=>q) λ_ _ q=>q
  rcases hc with z|z
  ·rw[z];exact nit b u e
  ·exact nit c _ z
theorem Inv.turnedNew {t':Nat}{ch:List Fi}{T:Fi}{ob:HO}(I:Inv X pins σ H s)(k:∀b o,b∉ch->s.heap.get? b=some o->h'.get? b=some o)(hf:∀b∈ch,lP X pins H b)(hT:s.heap.objs.size<=T)
  (new:b6 X.prog X.w (upd H T ob) h' T ob):Inv X pins σ (upd H T ob) { s with heap:=h',toks:=t' }:=by
 have hn:H T=none:=I.hok.fresh hT
 have nit:∀b u,H b=some u->b∉ch:=λb u e z=>by
  have q:=(hf b z).1
  rw[q]at e;cases e
 refine I.step (g':=s.gens) (d':=s.drawn) (ch:=ch) (λb hb=>⟨(hf b hb).2.2.2.1,(hf b hb).2.1,(hf b hb).2.2.2.2.1,(hf b hb).2.2.2.2.2⟩) (λb o _ _ hc e _=>k b o hc e) (λb o _ _ hc e _=>⟨o.slots,k b o hc e⟩)
  (λb o _ e n=>?_) (λb o hc e=>⟨o,k b o hc e⟩) (λb xs e=>?_) (λb o u e=>?_) (λb ps e=>⟨#[],?_⟩) (λm hm=>?_) (λb u e=>?_) I.bare
 ·rw[aq (Ga (FF (Fv e) hT))];exact n
 ·rw[aq (aO e hn)];exact e
 ·rw[aq (aO e hn)];exact e
 ·rw[aq (aO e hn),e];simp
 ·obtain⟨o,es,ep,ho,r⟩:=hm
  exact⟨o,es,ep,k _ o (λz=>(hf _ z).2.1 rfl) ho,r⟩
 ·by_cases hb:b=T
  ·subst hb
   rw[ag]at e
   cases e
   exact new
  ·rw[aq hb]at e
   refine(I.hok b u e).stay (λc v hc q=>k c v ?_ q) (λc q=>by rw[aq (aO q hn)];exact q) λc xs q=>by rw[aq (aO q hn)];exact q
   rcases hc with z|z
   ·rw[z];exact nit b u e
   ·exact nit c _ z
theorem Inv.lock {d:Fi}{u:HO}(I:Inv X pins σ H s)(h:H d=some u)(mu:Mut (some u)):∃od,Inv X pins σ (upd H d (.frz od u)) s:=by
 have x:=I.hok d u h
 have ex:∃od,s.heap.get? d=some od:=by
  cases u with
  |lst xs=>obtain⟨_,_,_,_,e⟩:=x;exact⟨_,e⟩
  |dK kvs=>obtain⟨_,_,_,_,o,_,_,e,_⟩:=x;exact⟨o,e⟩
  |dT kvs=>obtain⟨_,_,_,_,o,_,_,e,_⟩:=x;exact⟨o,e⟩
  |set S n=>obtain⟨o,_,_,_,e,_⟩:=x;exact⟨o,e⟩
  |ins C dx fs=>obtain⟨_,_,_,e,_⟩:=x;exact⟨_,e⟩
  |ext φ=>obtain⟨_,⟨_,e⟩,_⟩:=x;exact⟨_,e⟩
  |_=>exact G1 mu
 obtain⟨od,e⟩:=ex
 have new:b6 X.prog X.w (upd H d (.frz od u)) s.heap d (.frz od u):=by
  refine⟨e,x.stay (λb v _ q=>q) (λb q=>?_) λb xs q=>?_⟩
  ·rw[aq (λz=>by rw[z,h]at q;cases q;exact mu)];exact q
  ·rw[aq (λz=>by rw[z,h]at q;cases q;exact mu)];exact q
 exact⟨od,I.write (x:=d) (e:=d) (t':=s.toks) (h':=s.heap) (by rw[h];exact mu) (.inl rfl) (λb v _ q=>q) ⟨od,e⟩ new⟩
theorem Inv.nofrz {d:Fi}{u:HO}(I:Inv X pins σ H s)(h:H d=some u)(mu:Mut (some u)):∀o' u',X.H_0 d≠some (.frz o' u'):=λo' u' e=>by
 have q:=I.base.frzs d o' u' e
 rw[h]at q
 cases q
 exact mu
theorem Inv.unlock {d:Fi}{od:Obj}{u:HO}(I:Inv X pins σ H s)(h:H d=some (.frz od u))(hn:∀o' u',X.H_0 d≠some (.frz o' u')):Inv X pins σ (upd H d u) s:=by
 have neH:∀b o,H b=some o->(∀o' u',o≠.frz o' u')->b≠d:=λb o e hne z=>by
  rw[z,h]at e
  cases e
  exact hne _ _ rfl
 have neN:∀b,H b=none->b≠d:=λb e z=>by rw[z,h]at e;cases e
 refine⟨I.ok,I.os,I.bare,⟨I.base.keep,I.base.slot,λb o e n hx=>?_,I.base.there,λb xs e=>?_,λb o x e=>?_,λb ps e=>?_⟩,I.loc,I.cell,?_,λx c e=>?_,λp hp=>?_,λb o e=>?_,I.len⟩
 ·rw[aq (neN b (I.base.free b o e n hx))];exact I.base.free b o e n hx
 ·have q:=I.base.tups b xs e
  rw[aq (neH b _ q (λ_ _ z=>nomatch z))];exact q
 ·have q:=I.base.frzs b o x e
  rw[aq (λz=>by rw[z]at e;exact hn _ _ e)];exact q
 ·obtain⟨m,q⟩:=I.base.tbls b ps e
  exact⟨m,by rw[aq (neH b _ q (λ_ _ z=>nomatch z))];exact q⟩
 ·rw[aq (neN _ I.free)];exact I.free
 ·rw[aq (neN c (I.freeC x c e))];exact I.freeC x c e
 ·obtain⟨e,n,r⟩:=I.pin p hp
  exact⟨e,by rw[aq (neN _ n)];exact n,r⟩
 ·by_cases hb:b=d
  ·rw[hb,ag]at e
   cases e
   rw[hb]
   obtain⟨_,x⟩:=I.hok d _ h
   exact x.stay (λc v _ q=>q) (λc q=>by rw[aq (neH c _ q (λ_ _ z=>nomatch z))];exact q) λc xs q=>by rw[aq (neH c _ q (λ_ _ z=>nomatch z))];exact q
  ·rw[aq hb]at e
   exact(I.hok b o e).stay (λc v _ q=>q) (λc q=>by rw[aq (neH c _ q (λ_ _ z=>nomatch z))];exact q) λc xs q=>by rw[aq (neH c _ q (λ_ _ z=>nomatch z))];exact q
end
def AE (t:TE):TE:=λσ H Q=>∃d u,H d=some u/\Mut (some u)/\∀od,t σ (upd H d (.frz od u)) λv H'=>H' d=some (.frz od u)/\Q v (upd H' d u)
section
variable  {X:Cx}
theorem zR {e:Expr}{t:TE}(h:PE X e t):PE X e (AE t):=by
 intro pins s σ H Q I hw
 obtain⟨d,u,hd,mu,hw⟩:=hw
 obtain⟨od,I1⟩:=I.lock hd mu
 refine thn (h pins s σ _ _ I1 (hw od)) λv s1 ⟨x,H1,I2,r,e2,q⟩=>?_
 exact⟨x,_,I2.unlock e2 (I.nofrz hd mu),r,q⟩
theorem pQ {tg:Expr}{pins:List (Fi×Obj)}{σ:St}{H:Hp}{s:Fh}{R:It->Hp->Prop}{J:It}{tn:Nat->Heap->Prop}{tk:Nat}(I:Inv X pins σ H s)(o:Obj)
  (T:mU X.prog X.w X.K tg J [s.heap.objs.size] s.heap.objs.size tn) (st:tn 0 (s.heap.push o)) (q:R J H):PIE X pins σ tg R (.ref s.heap.objs.size) { s with heap:=s.heap.push o,toks:=tk }:=by
 refine⟨s.heap.objs.size,[s.heap.objs.size],tn,J,H,rfl,I.kept λb ob e=>Ft _ e,T,st,λb hb=>?_,q⟩
 have e:b=s.heap.objs.size:=by simpa using hb
 subst e
 exact I.fpOk (nlr _) (I.hok.fresh (nlr _))
end
def Itc (lo c:Int)(n:Nat):It:=⟨λi _=>i<n,λi H x H'=>H'=H/\x=.int (lo+(i:Nat)*c),λi _=>n<=i⟩
theorem rh {P:FW}{w:G0}{K:GC}{tg:Expr}(it:Fi)(lo c:Int)(n:Nat):mU P w K tg (Itc lo c n) [it] it (λi h=>IsRangeIter h it (lo+(i:Nat)*c) ((n:Int)-(i:Nat)) c) where
 mem:=by simp
 obj:=λi h st b hb=>by
  have e:b=it:=by simpa using hb
  subst e
  exact⟨_,st,λv z=>nomatch z⟩
 keep:=λi h h' st k=>k it (by simp) _ st
 item:=by
  intro X hP hw hK hc i pins s σ H E I hf st hg
  subst hP hw hK
  obtain⟨f0,f1,f2,f3,f4,f5⟩:=hf it (by simp)
  have W:=Walks.range (prog:=X.prog) (w:=X.w) (I.ok.hd hc) it lo c n
  refine W.item i s _ _ hg st λv h' tk hv st' kk=>?_
  obtain⟨t,rfl⟩:=hv
  have I1:Inv X pins σ H { s with heap:=h',toks:=tk }:=I.turned (λb o hb e=>kk b o (by simpa using hb) e) f0 f1 f3 f4 f5
  exact⟨_,rfl,mr (s:={ s with heap:=h',toks:=tk }) (n:="range_iterator") st' rfl rfl (by decide) ⟨.int (lo+(i:Nat)*c),H,I1,⟨t,rfl⟩,⟨rfl,rfl⟩,st',λb hb=>(hf b hb).1⟩⟩
 done:=by
  intro X hP hw hK hc i pins s σ H E I hf st hg
  subst hP hw hK
  obtain⟨f0,f1,f2,f3,f4,f5⟩:=hf it (by simp)
  exact wpAny_pyNext_range_end (I.ok.hd hc) st (by have:n<=i:=hg;omega) λh' eb=>⟨rfl,I.turned (t':=s.toks) (λb o hb e=>eb b o hb e) f0 f1 f3 f4 f5⟩
 self:=λA i s Q E st h=>wpAny_pyIter_rangeiter st h
def RgC (i j c:Int)(n:Nat):Prop:=c≠0/\c.natAbs<1073741824/\Builtin.Range.small i j c=true/\HK i j c=n
def DW (ta:TA):TI:=λσ H R=>ta σ H λvs H1=>∃(i j c:Int) (n:Nat),vs=[.int i,.int j,.int c]/\RgC i j c n/\R (Itc i c n) H1
section
variable  {X:Cx}{tg:Expr}
theorem kP {a b c:Expr}{ta:TA}{p pos:Pos} (hg:Gl X "range") (hm:X.mg "range"=none) (ha:PA X [a,b,c] ta)
  (hs:FU [a,b,c] X.env=(false,Jd a X.env) :: FU [b,c] X.env:=by rfl) (hpl:(II pos (FU [b,c] X.env)).any (·.1)=false:=by rfl) :
  PI X tg (.Call (.Name "range" p) [a,b,c] [] pos) (DW ta):=by
 intro pins s σ H R I h
 refine Call_ (gp I hg hm boot_range (Gm (thn (ha pos pins s σ H _ I h) λus s1 ⟨vs,H1,I1,r1,q1⟩=>?_) hs hpl))
 obtain⟨i,j,k,n,e,⟨c0,c1,c2,c3⟩,q⟩:=q1
 subst e
 cases r1 with
 |cons r rr =>
  cases rr with
  |cons r' rr =>
   cases rr with
   |cons r'' rr =>
    cases rr
    obtain⟨t,rfl⟩:=r
    obtain⟨t',rfl⟩:=r'
    obtain⟨t'',rfl⟩:=r''
    refine call_range_3 c0 ?_ (.inl (PyProof.noPylong_small c1))
    refine wpAny_pyIter_range (IsRange.new ..) c2 ?_
    have I2:Inv X pins σ H1 { s1 with heap:=s1.heap.push { cls:=.type "range",data:=.fields #[.int i t,.int j t',.int k t''] } }:=I1.kept (t':=s1.toks) λb o e=>Ft _ e
    refine pQ (tk:=s1.toks) I2 _ (rh _ i k n) ?_ q
    have e1:i+((0:Nat):Int)*k=i:=by simp
    have e2:(n:Int)-((0:Nat):Int)=HK i j k:=by rw[c3];simp
    show IsRangeIter _ _ (i+((0:Nat):Int)*k) ((n:Int)-((0:Nat):Int)) k
    rw[e1,e2]
    exact FK _ rfl
end
def Itv (K:GC)(a:Fi)(n:Nat):It :=
 ⟨λi H=>i<n/\∃(xs:List V) (x:V),SqL K H a xs/\xs[n-1-i]? = some x,λi H x H'=>H'=H/\∀xs,SqL K H a xs->xs[n-1-i]? = some x,λi _=>n<=i⟩
theorem xE {P:FW}{w:G0}{K:GC}{tg:Expr}(a it:Fi)(n:Nat):mU P w K tg (Itv K a n) [it] it (λi h=>i<=n/\h.IsRevIter it a ((n:Int)-1-(i:Nat))) where
 mem:=by simp
 obj:=λi h st b hb=>by
  have e:b=it:=by simpa using hb
  subst e
  obtain⟨_,o,e,c,d⟩:=st
  exact⟨o,e,λv z=>by rw[d]at z;cases z⟩
 keep:=λi h h' st k=>⟨st.1,st.2.at λo e=>k it (by simp) o e⟩
 item:=by
  intro X hP hw hK hc i pins s σ H E I hf st hg
  subst hP hw hK
  obtain⟨hin,xs,x,hq,hx⟩:=hg
  obtain⟨its,rv,p,hz⟩:=I.list hq
  obtain⟨u,hu,ru⟩:=rv.get hx
  obtain⟨f0,f1,f2,f3,f4,f5⟩:=hf it (by simp)
  obtain⟨_,hit⟩:=st
  have e1:(n:Int)-1-((i:Nat):Int)=((n-1-i:Nat):Int):=by omega
  rw[e1]at hit
  refine wpAny_pyNext_rev_item hit p.isList (x:=u) (by simpa using hu) λh' st' sb=>?_
  have e2:((n-1-i:Nat):Int)-1=(n:Int)-1-((i+1:Nat):Int):=by omega
  rw[e2]at st'
  have I1:Inv X pins σ H { s with heap:=h' }:=I.turned (t':=s.toks) (λb o hb e=>(sb.2 b hb).trans e) f0 f1 f3 f4 f5
  obtain⟨o,e,c,d⟩:=id st'
  exact⟨u,rfl,mr (s:={ s with heap:=h' }) e c d (by decide) ⟨x,H,I1,ru,⟨rfl,λys hy=>by rw[I.list_inj hy hq];exact hx⟩,⟨hin,st'⟩,λb hb=>(hf b hb).1⟩⟩
 done:=by
  intro X hP hw hK hc i pins s σ H E I hf st hg
  subst hP hw hK
  obtain⟨f0,f1,f2,f3,f4,f5⟩:=hf it (by simp)
  obtain⟨hin,hit⟩:=st
  have hge:n<=i:=hg
  have e1:(n:Int)-1-((i:Nat):Int)=-1:=by omega
  rw[e1]at hit
  exact wpAny_pyNext_rev_end (I.ok.hd hc) hit λh' eb=>⟨rfl,I.turned (t':=s.toks) (λb o hb e=>eb b o hb e) f0 f1 f3 f4 f5⟩
 self:=λA i s Q E st h=>wpAny_pyIter_revIter st.2 h
def ES (K:GC)(ta:TA):TI:=λσ H R=>ta σ H λvs H1=>∃(a:Fi) (xs:List V),vs=[.ref a]/\SqL K H1 a xs/\R (Itv K a xs.length) H1
section
variable  {X:Cx}{tg:Expr}
theorem rj {e:Expr}{ta:TA}{p pos:Pos} (hg:Gl X "reversed") (hm:X.mg "reversed"=none) (ha:PA X [e] ta) (hs:FU [e] X.env=[(false,Jd e X.env)]:=by rfl):PI X tg (.Call (.Name "reversed" p) [e] [] pos) (ES X.K ta):=by
 intro pins s σ H R I h
 refine Call_ (gp I hg hm mf (Gm (thn (ha pos pins s σ H _ I h) λus s1 ⟨vs,H1,I1,r1,q1⟩=>?_) hs rfl))
 obtain⟨a,xs,e,hq,q⟩:=q1
 subst e
 cases r1 with
 |cons r rr =>
  cases rr
  cases r
  obtain⟨its,rv,p',hz⟩:=I1.list hq
  have hl:=rv.length
  have e1:((its.toArray.size:Nat):Int)-1=(xs.length:Int)-1-((0:Nat):Int):=by simp only[Fu];omega
  refine call_reversed_list p'.isList (wpAny_pyIter_revIter (l:=a) (i:=((its.toArray.size:Nat):Int)-1) ⟨_,FK _ rfl,rfl,rfl⟩ ?_)
  refine pQ (tk:=s1.toks) I1 _ (xE a _ xs.length) ⟨Gw _,?_⟩ q
  rw[<-e1]
  exact⟨_,FK _ rfl,rfl,rfl⟩
end
section
variable  {prog:FW}{w:G0}{A:Around}{E:Value->Fh->Prop}{s:Fh}
theorem ot {d:Fi}{o:Obj}{es:Array DictEntry}{ep:Nat}{Q:Value->Fh->Prop}(hd:(d==Ia)=false)(ho:s.heap.get? d=some o)(hc:o.ExactDict)(hdat:o.data=.dict es ep)
  (hQ:Q (.ref s.heap.objs.size) { s with heap:=s.heap.push { cls:=.type "dict_keyiterator",data:=.fields #[.ref d,.int 0 0,.int es.size 0,.int ep 0] } }) :
  FV (Gj prog w) A (pyIter (.ref d)) Q E s:=by
 have hT:s.TypeIs (.ref d) "dict":=⟨o,ho,hc.1⟩
 refine wpAny_pyIter_slot hT F.slot_dict_iter (IB F.slot_dict_iter hT F.entry_dict_iter ?_ (F.args_dict_iter_1 _))
 unfold Builtin.«dict.__iter__»
 refine Fg ?_
 unfold Builtin.Dict.dictSlotNone
 refine Fg (wpAny_notOrdered_dict hT ?_)
 show FV _ _ (pure (Gd d)) _ _ s
 refine FD ?_
 show FV _ _ (Builtin.Dict.showsAll d >>= _) _ _ s
 unfold Builtin.Dict.showsAll
 rw[Fl (by rw[hd];exact Fy)]
 refine Fg (FD ?_)
 refine Fg (wpAny_dictEntries ho hdat ?_)
 refine Fg (wpAny_dictEpoch ho hdat ?_)
 refine Fg (wpAny_newObj_type (FD ⟨_,rfl,"dict_keyiterator",_,⟨_,FK _ rfl,rfl⟩,F.slot_dict_keyiterator_next.lookup,?_⟩))
 simpa [rawInt] using hQ
theorem nU {it d:Fi}{i n ep:Nat}{od:Obj}{es:Array DictEntry}{en:DictEntry}{Q:Option Value->Fh->Prop}(hit:s.heap.IsKeyIter it d i n ep)(hod:s.heap.get? d=some od)(hdd:od.data=.dict es ep)
  (hsz:es.size=n) (hx:es[i]? = some en) (hQ:∀h',h'.IsKeyIter it d (i+1) n ep->Heap.SameBut it s.heap h'->Q (some en.key) { s with heap:=h' }):FV (Gj prog w) A (pyNext (.ref it)) Q E s:=by
 obtain⟨o,ho,hc,hd⟩:=id hit
 unfold pyNext
 refine Fg (wpAny_attempt (Iz (name:=Str.ofString "__next__") hit.typeIs F.slot_dict_keyiterator_next
  (IB F.slot_dict_keyiterator_next hit.typeIs F.entry_dict_keyiterator_next ?_ (F.args_dict_keyiterator_next_1 _))))
 refine Fg (FD ?_)
 refine Fg ?_
 refine Fg ?_
 first|refine Fg (HE hit.typeIs (FD ?_))|refine Fg (Ir hit.typeIs (FD ?_))
 refine Fg (wpAny_fieldsOf ho hd ?_)
 have hown:Builtin.Dict_items.ownsTuple "dict_keyiterator"=false:=by decide
 simp only[hown,Bool.false_eq_true,I0]
 show FV _ _ (if (Gd d==IX)=true then _ else _) _ _ s
 rw[Fl (show ¬((Gd d==IX)=true) from Fy)]
 refine Fg (FD ?_)
 refine Fg (wpAny_dictEntries hod hdd ?_)
 rw[Fl (by rw[hsz];simp)]
 refine Fg (FD ?_)
 refine Fg (wpAny_dictEpoch hod hdd ?_)
 rw[Fl (by simp)]
 refine FD ?_
 obtain⟨hlt',hen⟩:=Array.getElem?_eq_some_iff.mp hx
 simp only[show ¬((i:Int)<0) from by omega,I0,GG,Jf hlt']
 refine Fg ?_
 first|refine Fg (HE hit.typeIs (FD ?_))|refine Fg (Ir hit.typeIs (FD ?_))
 refine Fg (wpAny_isOneOf_keyiter hit.typeIs ?_)
 show FV _ _ (setField (.ref it) 1 (rawInt ((i:Int)+1)) >>= _) _ _ s
 refine Fg (wpAny_setField ho hd (by simp) ?_)
 have hit':(s.heap.update it (Obj.mapFields (·.setIfInBounds 1 (rawInt ((i:Int)+1))))).IsKeyIter it d (i+1) n ep :=
  ⟨_,Hv _ ho (Obj.isFreed_of_fields (Obj.data_mapFields hd _)),(Obj.cls_mapFields ..).trans hc,by rw[Obj.data_mapFields hd];simp[rawInt]⟩
 refine Fg (wpAny_holding ?_)
 refine Fg (wpAny_isOneOf_keyiter (s:={ s with heap:=s.heap.update it (Obj.mapFields (·.setIfInBounds 1 (rawInt ((i:Int)+1)))) }) hit'.typeIs ?_)
 show FV _ _ (pure es[i].key) _ _ _
 rw[hen]
 exact FD (FD ⟨_,rfl,FD (hQ _ hit' (Heap.SameBut.update ..))⟩)
theorem jW {it d:Fi}{i n ep:Nat}{od:Obj}{es:Array DictEntry}{Q:Option Value->Fh->Prop}(hh:A.handled=none)(hit:s.heap.IsKeyIter it d i n ep)(hod:s.heap.get? d=some od)(hdd:od.data=.dict es ep)
  (hsz:es.size=n) (hge:n<=i) (hQ:∀h',Heap.ExtBut it s.heap h'->Q none { s with heap:=h' }):FV (Gj prog w) A (pyNext (.ref it)) Q E s:=by
 obtain⟨o,ho,hc,hd⟩:=id hit
 unfold pyNext
 refine Fg (wpAny_attempt (Iz (name:=Str.ofString "__next__") hit.typeIs F.slot_dict_keyiterator_next
  (IB F.slot_dict_keyiterator_next hit.typeIs F.entry_dict_keyiterator_next ?_ (F.args_dict_keyiterator_next_1 _))))
 refine Fg (FD ?_)
 refine Fg ?_
 refine Fg ?_
 first|refine Fg (HE hit.typeIs (FD ?_))|refine Fg (Ir hit.typeIs (FD ?_))
 refine Fg (wpAny_fieldsOf ho hd ?_)
 have hown:Builtin.Dict_items.ownsTuple "dict_keyiterator"=false:=by decide
 simp only[hown,Bool.false_eq_true,I0]
 show FV _ _ (if (Gd d==IX)=true then _ else _) _ _ s
 rw[Fl (show ¬((Gd d==IX)=true) from Fy)]
 refine Fg (FD ?_)
 refine Fg (wpAny_dictEntries hod hdd ?_)
 rw[Fl (by rw[hsz];simp)]
 refine Fg (FD ?_)
 refine Fg (wpAny_dictEpoch hod hdd ?_)
 rw[Fl (by simp)]
 refine FD ?_
 have hge':es.size<=i:=by rw[hsz];exact hge
 simp only[show ¬((i:Int)<0) from by omega,I0,GG,Array.getElem?_eq_none hge']
 refine Fg ?_
 first|refine Fg (HE hit.typeIs (FD ?_))|refine Fg (Ir hit.typeIs (FD ?_))
 show FV _ _ (setField (.ref it) 0 .none >>= _) _ _ s
 refine Fg (wpAny_setField ho hd (by simp) ?_)
 show FV _ _ (newExc (.type "StopIteration") [] >>= _) _ _ _
 refine Fg ?_
 simp only[newExc,newTuple]
 refine Fg (wpAny_newObj_type ?_ (by size_fits))
 refine Fg (m:=firstArgMember _ _) (wpAny_of_eq (a:=IX) (by first|rfl|(simp only[firstArgMember];rfl)) ?_)
 refine wpAny_newObj_type ?_ (by size_fits)
 simp only[raiseNew]
 refine Fg (wpAny_handled ?_)
 rw[show A.in1.handled=none from hh]
 refine Fg (FD (wpAny_throw ?_))
 refine Fg (wpAny_isInstance (T:="StopIteration") (b:=true) ⟨_,FK _ rfl,rfl⟩ isSubtype_stop ?_)
 exact FD (hQ _ (((Heap.SameBut.update ..).extBut.push _).push _))
end
theorem Bn {κ:Type}{kvs:List (κ×V)}{vs:List (κ×Value)}(h:KV kvs vs):∀{i:Nat} {k:κ} {v:V},kvs[i]? = some (k,v)->∃u,vs[i]? = some (k,u)/\aZ v u:=by
 unfold KV at h
 induction h with
 |nil=>intro i k v e;simp at e
 |@cons a b l₁ l₂ r t ih =>
  intro i k v e
  cases i with
  |zero =>
   simp only[List.getElem?_cons_zero,Option.some.injEq]at e
   subst e
   refine⟨b.2,?_,r.2⟩
   simp only[List.getElem?_cons_zero]
   exact G5 some (Prod.ext r.1.symm rfl)
  |succ j =>
   simp only[List.getElem?_cons_succ]at e ⊢
   exact ih e
theorem tH {α β:Type}{G:α->β->Prop}{l₁:List α}{l₂:List β}(h:Paired G l₁ l₂):∀{i:Nat} {a:α},l₁[i]? = some a->∃b,l₂[i]? = some b/\G a b:=by
 induction h with
 |nil=>intro i a e;simp at e
 |@cons a b l₁ l₂ r t ih =>
  intro i a' e
  cases i with
  |zero =>
   simp only[List.getElem?_cons_zero,Option.some.injEq]at e
   subst e
   exact⟨b,rfl,r⟩
  |succ j =>
   simp only[List.getElem?_cons_succ]at e ⊢
   exact ih e
theorem xK {k:Key}{u:Value}(h:lA k u=true):aZ (kV k) u:=by
 rcases bO h with⟨i,t,rfl,rfl⟩|⟨x,t,rfl,rfl⟩
 ·exact⟨t,rfl⟩
 ·exact⟨t,rfl⟩
section
variable  {X:Cx}{pins:List (Fi×Obj)}{σ:St}{H:Hp}{s:Fh}{d:Fi}{o:Obj}
theorem Inv.frzK {kvs:List (Key×V)}(I:Inv X pins σ H s)(h:H d=some (.frz o (.dK kvs))) :
  (d==Ia)=false/\s.heap.get? d=some o/\o.ExactDict/\∃(es:Array DictEntry) (ep:Nat) (vs:List (Key×Value)),o.data=.dict es ep/\es.size=kvs.length/\KV kvs vs/\s.heap.DictAt (cV X.prog X.w) d vs ep:=by
 obtain⟨hd,z,hs,vs,kv,o',es,ep,ho,hx,hdt,r⟩:=I.hok d _ h
 rw[hd]at ho
 cases ho
 refine⟨hs,hd,hx,es,ep,vs,hdt,?_,kv,o,es,hd,hx,hdt,r⟩
 have l1:=r.2.1.length
 have l2:kvs.length=vs.length:=Paired.length kv
 rw[Iy]at l1
 omega
theorem Inv.frzT {kvs:List (List Key×V)}(I:Inv X pins σ H s)(h:H d=some (.frz o (.dT kvs))) :
  (d==Ia)=false/\s.heap.get? d=some o/\o.ExactDict/\∃(es:Array DictEntry) (ep:Nat),o.data=.dict es ep/\es.size=kvs.length /\
   ∀(i:Nat) (k:List Key) (v:V),kvs[i]? = some (k,v)->∃(en:DictEntry) (q:Fi),es[i]? = some en/\en.key=.ref q/\H q=some (.tup (k.map kV)):=by
 obtain⟨hd,z,hs,xs,pr,o',es,ep,ho,hx,hdt,he,_⟩:=I.hok d _ h
 rw[hd]at ho
 cases ho
 refine⟨hs,hd,hx,es,ep,hdt,?_,λi k v e=>?_⟩
 ·have l1:es.size=xs.length:=size_of_entries he
  have l2:kvs.length=xs.length:=Paired.length pr
  omega
 ·obtain⟨b,hb,e1,e2,_⟩:=tH pr e
  have q:=entry_at he i
  rw[hb]at q
  exact⟨_,b.2.1,q,rfl,e2⟩
end
def Itk (d:Fi)(o:Obj)(kvs:List (Key×V)):It :=
 ⟨λi H=>H d=some (.frz o (.dK kvs))/\i<kvs.length,λi H x H'=>H'=H/\∃k v,kvs[i]? = some (k,v)/\x=kV k,λi H=>H d=some (.frz o (.dK kvs))/\kvs.length<=i⟩
def DC (d:Fi)(o:Obj)(kvs:List (List Key×V)):It :=
 ⟨λi H=>H d=some (.frz o (.dT kvs))/\i<kvs.length,λi H x H'=>H'=H/\∃(k:List Key) (v:V) (q:Fi),kvs[i]? = some (k,v)/\x=.ref q/\H q=some (.tup (k.map kV)),λi H=>H d=some (.frz o (.dT kvs))/\kvs.length<=i⟩
theorem lZ {o:Obj}{es es':Array DictEntry}{ep ep':Nat}(h:o.data=.dict es ep)(h':o.data=.dict es' ep'):es'=es/\ep'=ep:=by
 rw[h]at h'
 cases h'
 exact⟨rfl,rfl⟩
section
variable  {P:FW}{w:G0}{K:GC}{tg:Expr}{d:Fi}{o:Obj}{es:Array DictEntry}{ep:Nat}
theorem uY {kvs:List (Key×V)}(it:Fi)(hod:o.data=.dict es ep):mU P w K tg (Itk d o kvs) [it] it (λi h=>h.IsKeyIter it d i kvs.length ep) where
 mem:=by simp
 obj:=λi h st b hb=>by
  have e:b=it:=by simpa using hb
  subst e
  obtain⟨oi,e,c,dd⟩:=st
  exact⟨oi,e,λv z=>by rw[dd]at z;cases z⟩
 keep:=λi h h' st k=>st.at λoi e=>k it (by simp) oi e
 item:=by
  intro X hP hw hK hc i pins s σ H E I hf st hg
  subst hP hw hK
  obtain⟨hd,hi⟩:=hg
  obtain⟨f0,f1,f2,f3,f4,f5⟩:=hf it (by simp)
  obtain⟨hs,hgd,hx,es',ep',vs,hdt,hsz,kv,hm⟩:=I.frzK hd
  obtain⟨rfl,rfl⟩:=lZ hod hdt
  obtain⟨⟨k,v⟩,hkv⟩:∃p,kvs[i]? = some p:=⟨kvs[i],gge hi⟩
  obtain⟨u,hu,ru⟩:=Bn kv hkv
  have hl:kvs.length=vs.length:=Paired.length kv
  rw[hl]at st
  refine wpAny_pyNext_dict_item st hm hu λkey h' hkey st' sb=>?_
  have I1:Inv X pins σ H { s with heap:=h' }:=I.turned (t':=s.toks) (λb ob hb e=>(sb.2 b hb).trans e) f0 f1 f3 f4 f5
  obtain⟨oi,e,c,dd⟩:=id st'
  refine⟨key,rfl,mr (s:={ s with heap:=h' }) e c dd (by decide) ⟨kV k,H,I1,xK (show lA k key=true from hkey),⟨rfl,k,v,hkv,rfl⟩,?_,λb hb=>(hf b hb).1⟩⟩
  show h'.IsKeyIter it d (i+1) kvs.length _
  rw[hl]
  exact st'
 done:=by
  intro X hP hw hK hc i pins s σ H E I hf st hg
  subst hP hw hK
  obtain⟨hd,hi⟩:=hg
  obtain⟨f0,f1,f2,f3,f4,f5⟩:=hf it (by simp)
  obtain⟨hs,hgd,hx,es',ep',vs,hdt,hsz,kv,hm⟩:=I.frzK hd
  obtain⟨rfl,rfl⟩:=lZ hod hdt
  exact jW (I.ok.hd hc) st hgd hdt hsz hi λh' eb=>⟨rfl,I.turned (t':=s.toks) (λb ob hb e=>eb b ob hb e) f0 f1 f3 f4 f5⟩
 self:=λA i s Q E st h=>wpAny_pyIter_keyiter st h
theorem tR {kvs:List (List Key×V)}(it:Fi)(hod:o.data=.dict es ep):mU P w K tg (DC d o kvs) [it] it (λi h=>h.IsKeyIter it d i kvs.length ep) where
 mem:=by simp
 obj:=λi h st b hb=>by
  have e:b=it:=by simpa using hb
  subst e
  obtain⟨oi,e,c,dd⟩:=st
  exact⟨oi,e,λv z=>by rw[dd]at z;cases z⟩
 keep:=λi h h' st k=>st.at λoi e=>k it (by simp) oi e
 item:=by
  intro X hP hw hK hc i pins s σ H E I hf st hg
  subst hP hw hK
  obtain⟨hd,hi⟩:=hg
  obtain⟨f0,f1,f2,f3,f4,f5⟩:=hf it (by simp)
  obtain⟨hs,hgd,hx,es',ep',hdt,hsz,ent⟩:=I.frzT hd
  obtain⟨rfl,rfl⟩:=lZ hod hdt
  obtain⟨⟨k,v⟩,hkv⟩:∃p,kvs[i]? = some p:=⟨kvs[i],gge hi⟩
  obtain⟨en,q,hen,hkey,hq⟩:=ent i k v hkv
  refine nU st hgd hdt hsz hen λh' st' sb=>?_
  have I1:Inv X pins σ H { s with heap:=h' }:=I.turned (t':=s.toks) (λb ob hb e=>(sb.2 b hb).trans e) f0 f1 f3 f4 f5
  obtain⟨oi,e,c,dd⟩:=id st'
  exact⟨en.key,rfl,mr (s:={ s with heap:=h' }) e c dd (by decide) ⟨.ref q,H,I1,hkey,⟨rfl,k,v,q,hkv,rfl,hq⟩,st',λb hb=>(hf b hb).1⟩⟩
 done:=by
  intro X hP hw hK hc i pins s σ H E I hf st hg
  subst hP hw hK
  obtain⟨hd,hi⟩:=hg
  obtain⟨f0,f1,f2,f3,f4,f5⟩:=hf it (by simp)
  obtain⟨hs,hgd,hx,es',ep',hdt,hsz,ent⟩:=I.frzT hd
  obtain⟨rfl,rfl⟩:=lZ hod hdt
  exact jW (I.ok.hd hc) st hgd hdt hsz hi λh' eb=>⟨rfl,I.turned (t':=s.toks) (λb ob hb e=>eb b ob hb e) f0 f1 f3 f4 f5⟩
 self:=λA i s Q E st h=>by
  refine wpAny_pyIter_slot st.typeIs F.slot_dict_keyiterator_iter (IB F.slot_dict_keyiterator_iter st.typeIs F.entry_dict_keyiterator_iter ?_ (F.args_dict_keyiterator_iter_1 _))
  show FV _ _ (ret (.ref it)) _ _ s
  exact FD ⟨_,rfl,"dict_keyiterator",_,st.typeIs,F.slot_dict_keyiterator_next.lookup,h⟩
end
def Cj (td:TE):TI:=λσ H R=>td σ H λx H1=>∃d o,x=.ref d/\((∃kvs,H1 d=some (.frz o (.dK kvs))/\R (Itk d o kvs) H1)\/∃kvs,H1 d=some (.frz o (.dT kvs))/\R (DC d o kvs) H1)
section
variable  {X:Cx}{tg e:Expr}{td:TE}{apos cpos:Pos}
theorem zp (he:PE X e td):PI X tg e (Cj td):=by
 intro pins s σ H R I h
 refine thn (he pins s σ H _ I h) λu s1 ⟨x,H1,I1,rx,d,o,ex,q⟩=>?_
 subst ex
 obtain rfl:u=Gd d:=rx
 rcases q with⟨kvs,hd,q⟩|⟨kvs,hd,q⟩
 ·obtain⟨hs,hgd,hx,es,ep,vs,hdt,hsz,kv,hm⟩:=I1.frzK hd
  refine ot hs hgd hx hdt (pQ (tk:=s1.toks) I1 _ (uY _ hdt) ⟨_,FK _ rfl,rfl,?_⟩ q)
  rw[hsz]<;>rfl
 ·obtain⟨hs,hgd,hx,es,ep,hdt,hsz,ent⟩:=I1.frzT hd
  refine ot hs hgd hx hdt (pQ (tk:=s1.toks) I1 _ (tR _ hdt) ⟨_,FK _ rfl,rfl,?_⟩ q)
  rw[hsz]<;>rfl
end
def Ite (K:GC)(a:Fi):It :=
 ⟨λi H=>∃(xs:List V) (x:V),SqL K H a xs/\xs[i]? = some x,λi H v H'=>∃T x,v=.ref T/\H T=none/\H'=upd H T (.tup [.int (i:Nat),x])/\∀xs,SqL K H a xs->xs[i]? = some x,λi H=>∃xs:List V,SqL K H a xs/\xs.length<=i⟩
theorem vE {P:FW}{w:G0}{K:GC}{elts:List Expr}{kk:Nat}{tpos:Pos}(a e it:Fi) :
  mU P w K (.Tuple elts kk tpos) (Ite K a) [e,it] e (λi h=>(∃old,IsEnum h e it ((i:Nat):Int) old)/\h.IsListIter it a i/\e≠it) where
 mem:=by simp
 obj:=λi h st b hb=>by
  obtain⟨⟨old,he⟩,⟨o,ho,hc,hd⟩,_⟩:=st
  have e':b=e\/b=it:=by simpa using hb
  rcases e' with z|z
  ·rw[z];exact⟨_,he,λv q=>nomatch q⟩
  ·rw[z];exact⟨o,ho,λv q=>by rw[hd]at q;cases q⟩
 keep:=λi h h' st k=>let ⟨⟨old,he⟩,hi,hne⟩:=st;⟨⟨old,k e (by simp) _ he⟩,hi.at λo q=>k it (by simp) o q,hne⟩
 item:=by
  intro X hP hw hK hc i pins s σ H E I hf st hg
  subst hP hw hK
  obtain⟨⟨old,he⟩,hit,hne⟩:=st
  obtain⟨xs,x,hq,hx⟩:=hg
  obtain⟨its,rv,p,hz⟩:=I.list hq
  obtain⟨u,hu,ru⟩:=rv.get hx
  have hel:e<s.heap.objs.size:=Fv he
  have hil:it<s.heap.objs.size:=by obtain⟨_,q,_⟩:=hit;exact Fv q
  refine wpAny_pyNext_enum_item he hit p.isList (x:=u) (by simpa using hu) hne λh' ho hit' hT hsz hk=>?_
  refine⟨_,rfl,wpAny_letOwnedTupleGo_enum (s:={ s with heap:=h',toks:=s.toks+1 }) ho λh'' he' sb=>?_⟩
  have hT2:h''.get? s.heap.objs.size=some { cls:=.type "tuple",data:=.seq #[.int i s.toks,u] }:=(sb.2 _ (Hu hel)).trans hT
  have new:b6 X.prog X.w (upd H s.heap.objs.size (.tup [.int (i:Nat),x])) h'' s.heap.objs.size (.tup [.int (i:Nat),x]) :=
   ⟨by show 2<=Fk;decide,[.int i s.toks,u],.cons ⟨_,rfl⟩ (.cons ru .nil),⟨_,hT2,rfl,_,rfl⟩⟩
  have I1:Inv X pins σ (upd H s.heap.objs.size (.tup [.int (i:Nat),x])) { s with heap:=h'',toks:=s.toks+1 } :=
   I.turnedNew (ch:=[e,it]) (λb ob hb q=>(sb.2 b (λz=>hb (by simp[z]))).trans (hk b ob (λz=>hb (by simp[z])) (λz=>hb (by simp[z])) q)) hf (nlr _) new
  refine⟨.ref s.heap.objs.size,_,I1,rfl,⟨_,x,rfl,I.hok.fresh (nlr _),rfl,λys hy=>by rw[I.list_inj hy hq];exact hx⟩,⟨⟨u,?_⟩,hit'.at λo q=>(sb.2 it (FQ hne)).trans q,hne⟩,λb hb=>?_⟩
  ·have e1:((i+1:Nat):Int)=(i:Int)+1:=by omega
   rw[e1];exact he'
  ·have hb':b<s.heap.objs.size:=by
    have e':b=e\/b=it:=by simpa using hb
    rcases e' with z|z
    ·rw[z];exact hel
    ·rw[z];exact hil
   rw[aq (Ga hb')]
   exact(hf b hb).1
 done:=by
  intro X hP hw hK hc i pins s σ H E I hf st hg
  subst hP hw hK
  obtain⟨⟨old,he⟩,hit,hne⟩:=st
  obtain⟨xs,hq,hx⟩:=hg
  obtain⟨its,rv,p,hz⟩:=I.list hq
  obtain⟨f0,f1,f2,f3,f4,f5⟩:=hf it (by simp)
  have hl:=rv.length
  exact wpAny_pyNext_enum_end (I.ok.hd hc) he hit p.isList (by simp;omega) λh' eb=>⟨rfl,I.turned (t':=s.toks) (λb o hb q=>eb b o hb q) f0 f1 f3 f4 f5⟩
 self:=λA i s Q E st h=>let ⟨⟨_,he⟩,_⟩:=st;wpAny_pyIter_enum he h
def CF (K:GC)(ta:TA):TI:=λσ H R=>ta σ H λvs H1=>∃a xs,vs=[.ref a]/\SqL K H1 a xs/\R (Ite K a) H1
theorem dR {X:Cx}{e:Expr}{ta:TA}{p pos tpos:Pos}{elts:List Expr}{kk:Nat} (hg:Gl X "enumerate") (hm:X.mg "enumerate"=none) (ha:PA X [e] ta) (hs:FU [e] X.env=[(false,Jd e X.env)]:=by rfl) :
  PI X (.Tuple elts kk tpos) (.Call (.Name "enumerate" p) [e] [] pos) (CF X.K ta):=by
 intro pins s σ H R I h
 refine Call_ (gp I hg hm boot_enumerate (Gm (thn (ha pos pins s σ H _ I h) λus s1 ⟨vs,H1,I1,r1,q1⟩=>?_) hs rfl))
 obtain⟨a,xs,ex,hq,q⟩:=q1
 subst ex
 cases r1 with
 |cons r rr =>
  cases rr
  cases r
  obtain⟨its,rv,p',hz⟩:=I1.list hq
  refine call_enumerate_list p'.isList λh' he hit hsz hk=>wpAny_pyIter_enum he ?_
  have I2:Inv X pins σ H1 { s1 with heap:=h' }:=I1.kept (t':=s1.toks) hk
  refine⟨s1.heap.objs.size+1,[s1.heap.objs.size+1,s1.heap.objs.size],_,_,H1,rfl,I2,vE a (s1.heap.objs.size+1) s1.heap.objs.size,⟨⟨.none,he⟩,hit,Nat.succ_ne_self _⟩,λb hb=>?_,q⟩
  have e':b=s1.heap.objs.size+1\/b=s1.heap.objs.size:=by simpa using hb
  have hle:s1.heap.objs.size<=b:=by
   rcases e' with z|z
   ·rw[z];exact GY _ _
   ·rw[z];exact nlr _
  exact I1.fpOk hle (I1.hok.fresh hle)
theorem vz:HL "zip"=some (.type "zip"):=by decide +kernel
def Itz (K:GC)(a b:Fi):It :=
 ⟨λi H=>∃(xs ys:List V) (x y:V),SqL K H a xs/\SqL K H b ys/\xs[i]? = some x/\ys[i]? = some y,
  λi H v H'=>∃T x y,v=.ref T/\H T=none/\H'=upd H T (.tup [x,y])/\(∀xs,SqL K H a xs->xs[i]? = some x)/\∀ys,SqL K H b ys->ys[i]? = some y,
  λi H=>∃xs ys:List V,SqL K H a xs/\SqL K H b ys/\(xs.length<=i\/ys.length<=i)⟩
theorem x5 {P:FW}{w:G0}{K:GC}{elts:List Expr}{kk:Nat}{tpos:Pos}{a b z TI TO i1 i2:Fi}(D:ZipApart z TI TO i1 i2 a b) :
  mU P w K (.Tuple elts kk tpos) (Itz K a b) [z,TI,TO,i1,i2] z (λi h=>IsZip h z TI TO .none/\IsPair h TI (.ref i1) (.ref i2)/\(∃x y,IsPair h TO x y)/\h.IsListIter i1 a i/\h.IsListIter i2 b i) where
 mem:=by simp
 obj:=λi h st c hc=>by
  obtain⟨hz,hTI,⟨x,y,hTO⟩,⟨o1,e1,_,d1⟩,⟨o2,e2,_,d2⟩⟩:=st
  have e':c=z\/c=TI\/c=TO\/c=i1\/c=i2:=by simpa using hc
  rcases e' with q|q|q|q|q
  ·rw[q];exact⟨_,hz,λv q=>nomatch q⟩
  ·rw[q];exact⟨_,hTI,λv q=>nomatch q⟩
  ·rw[q];exact⟨_,hTO,λv q=>nomatch q⟩
  ·rw[q];exact⟨o1,e1,λv q=>by rw[d1]at q;cases q⟩
  ·rw[q];exact⟨o2,e2,λv q=>by rw[d2]at q;cases q⟩
 keep:=λi h h' st k=>by
  obtain⟨hz,hTI,⟨x,y,hTO⟩,h1,h2⟩:=st
  exact⟨k z (by simp) _ hz,k TI (by simp) _ hTI,⟨x,y,k TO (by simp) _ hTO⟩,h1.at λo q=>k i1 (by simp) o q,h2.at λo q=>k i2 (by simp) o q⟩
 item:=by
  intro X hP hw hK hc i pins s σ H E I hf st hg
  subst hP hw hK
  obtain⟨hz,hTI,⟨x0,y0,hTO⟩,h1,h2⟩:=st
  obtain⟨xs,ys,x,y,hqx,hqy,hx,hy⟩:=hg
  obtain⟨its,rv,p,_⟩:=I.list hqx
  obtain⟨its2,rv2,p2,_⟩:=I.list hqy
  obtain⟨u,hu,ru⟩:=rv.get hx
  obtain⟨u2,hu2,ru2⟩:=rv2.get hy
  have hzl:z<s.heap.objs.size:=Fv hz
  refine wpAny_pyNext_zip_item D hz hTI hTO h1 h2 p.isList p2.isList (x:=u) (y:=u2) (by simpa using hu) (by simpa using hu2) λh' z' TO' h1' h2' hT hsz hk=>?_
  refine⟨_,rfl,wpAny_letOwnedTupleGo_zip (s:={ s with heap:=h' }) z' λh'' z'' sb=>?_⟩
  have hT2:h''.get? s.heap.objs.size=some { cls:=.type "tuple",data:=.seq #[u,u2] }:=(sb.2 _ (Hu hzl)).trans hT
  have new:b6 X.prog X.w (upd H s.heap.objs.size (.tup [x,y])) h'' s.heap.objs.size (.tup [x,y]) :=
   ⟨by show 2<=Fk;decide,[u,u2],.cons ru (.cons ru2 .nil),⟨_,hT2,rfl,_,rfl⟩⟩
  have I1:Inv X pins σ (upd H s.heap.objs.size (.tup [x,y])) { s with heap:=h'' } :=
   I.turnedNew (t':=s.toks) (ch:=[z,TI,TO,i1,i2]) (λc o hb q=>(sb.2 c (λq'=>hb (by simp[q']))).trans (hk c o (λq'=>hb (by simp[q'])) (λq'=>hb (by simp[q'])) (λq'=>hb (by simp[q'])) (λq'=>hb (by simp[q'])) q)) hf (nlr _) new
  refine⟨.ref s.heap.objs.size,_,I1,rfl,⟨_,x,y,rfl,I.hok.fresh (nlr _),rfl,λl hl=>by rw[I.list_inj hl hqx];exact hx,λl hl=>by rw[I.list_inj hl hqy];exact hy⟩,⟨z'',?_,⟨u,u2,?_⟩,?_,?_⟩,λc hcm=>?_⟩
  ·exact(sb.2 _ D.TIz).trans (hk _ _ D.TIz D.TITO D.TIi1 D.TIi2 hTI)
  ·exact(sb.2 _ D.TOz).trans TO'
  ·exact h1'.at λo q=>(sb.2 _ D.i1z).trans q
  ·exact h2'.at λo q=>(sb.2 _ D.i2z).trans q
  ·have hlt:c<s.heap.objs.size:=by
    have e':c=z\/c=TI\/c=TO\/c=i1\/c=i2:=by simpa using hcm
    rcases e' with q|q|q|q|q
    ·rw[q];exact hzl
    ·rw[q];exact Fv hTI
    ·rw[q];exact Fv hTO
    ·rw[q];obtain⟨_,e1,_⟩:=h1;exact Fv e1
    ·rw[q];obtain⟨_,e2,_⟩:=h2;exact Fv e2
   rw[aq (Ga hlt)]
   exact(hf c hcm).1
 done:=by
  intro X hP hw hK hc i pins s σ H E I hf st hg
  subst hP hw hK
  obtain⟨hz,hTI,⟨x0,y0,hTO⟩,h1,h2⟩:=st
  obtain⟨xs,ys,hqx,hqy,hend⟩:=hg
  obtain⟨its,rv,p,_⟩:=I.list hqx
  obtain⟨its2,rv2,p2,_⟩:=I.list hqy
  have l1:=rv.length
  have l2:=rv2.length
  have he:its.toArray[i]? = none\/its2.toArray[i]? = none:=by
   rcases hend with q|q
   ·exact .inl (by simp;omega)
   ·exact .inr (by simp;omega)
  exact wpAny_pyNext_zip_end (I.ok.hd hc) D hz hTI hTO h1 h2 p.isList p2.isList he λh' hk=>⟨rfl,I.turnedL (t':=s.toks) (ch:=[z,TI,TO,i1,i2]) (λc o hb q =>
   hk c o (λq'=>hb (by simp[q'])) (λq'=>hb (by simp[q'])) (λq'=>hb (by simp[q'])) (λq'=>hb (by simp[q'])) q) hf⟩
 self:=λA i s Q E st h=>wpAny_pyIter_zip st.1 h
def EU (K:GC)(ta:TA):TI:=λσ H R=>ta σ H λvs H1=>∃a b xs ys,vs=[.ref a,.ref b]/\SqL K H1 a xs/\SqL K H1 b ys/\R (Itz K a b) H1
theorem BJ {X:Cx}{e e2:Expr}{ta:TA}{p pos tpos:Pos}{elts:List Expr}{kk:Nat} (hg:Gl X "zip") (hm:X.mg "zip"=none) (ha:PA X [e,e2] ta)
  (hs:FU [e,e2] X.env=(false,Jd e X.env) :: FU [e2] X.env:=by rfl) (hpl:(II pos (FU [e2] X.env)).any (·.1)=false:=by rfl) :
  PI X (.Tuple elts kk tpos) (.Call (.Name "zip" p) [e,e2] [] pos) (EU X.K ta):=by
 intro pins s σ H R I h
 refine Call_ (gp I hg hm vz (Gm (thn (ha pos pins s σ H _ I h) λus s1 ⟨vs,H1,I1,r1,q1⟩=>?_) hs hpl))
 obtain⟨a,b,xs,ys,ex,hqx,hqy,q⟩:=q1
 subst ex
 cases r1 with
 |cons r rr =>
  cases rr with
  |cons r' rr =>
   cases rr
   cases r
   cases r'
   obtain⟨its,rv,p1,_⟩:=I1.list hqx
   obtain⟨its2,rv2,p2,_⟩:=I1.list hqy
   have la:a<s1.heap.objs.size:=p1.lt
   have lb:b<s1.heap.objs.size:=p2.lt
   refine call_zip_2 p1.isList p2.isList λh' hz hTI hTO h1 h2 hsz hk=>wpAny_pyIter_zip hz ?_
   have I2:Inv X pins σ H1 { s1 with heap:=h' }:=I1.kept (t':=s1.toks) hk
   refine⟨s1.heap.objs.size+4,[s1.heap.objs.size+4,s1.heap.objs.size+2,s1.heap.objs.size+3,s1.heap.objs.size,s1.heap.objs.size+1],_,_,H1,rfl,I2,x5 (PySem.W.ktu_apart s1.heap.objs.size a b la lb),⟨hz,hTI,⟨_,_,hTO⟩,h1,h2⟩,λc hcm=>?_,q⟩
   have e':c=s1.heap.objs.size+4\/c=s1.heap.objs.size+2\/c=s1.heap.objs.size+3\/c=s1.heap.objs.size\/c=s1.heap.objs.size+1:=by simpa using hcm
   have hle:s1.heap.objs.size<=c:=by
    rcases e' with z|z|z|z|z
    ·rw[z];exact GY _ _
    ·rw[z];exact GY _ _
    ·rw[z];exact GY _ _
    ·rw[z];exact nlr _
    ·rw[z];exact GY _ _
   exact I1.fpOk hle (I1.hok.fresh hle)
end L2
section
namespace Bits
open PySem PyProof.Rows
end Bits
end
section
namespace TL
open PySem PySem.Builtin PySem.Builtin.Str PySem.StrLaws
abbrev tl (x:Str):List Nat:=x.cps.toList
def pre (S l:List Nat):Bool:=l.take S.length==S
def par (S:List Nat):List Nat->List Nat->Option (List Nat×List Nat)
 |_,[]=>none
 |acc,c :: r=>if pre S (c :: r)=true then some (acc,(c :: r).drop S.length) else par S (acc++[c]) r
end TL
end
namespace L2
open PySem PySem.Spec PyProof.Rows
section
variable  {X:Cx}{pins:List (Fi×Obj)}{σ:St}{H:Hp}{s:Fh}{Q:VK}
end
section
variable  {X:Cx}
end
section
variable  {X:Cx}{o e:Expr}{to te:TE}
end
end L2
namespace L2
open PySem PySem.Spec PyProof.Rows
section
variable  {X:Cx}
end
end L2
namespace Att
open PySem PySem.W PySem.Calls PyProof.Rows
section
variable  {prog:FW}{w:G0}{A:Around}{E:Value->Fh->Prop}{s:Fh}{K:GC}
end
end Att
namespace L2
open PySem PySem.Spec PyProof.Rows
theorem oY:∀{vs:List Value} {ns:List Int},IH vs ns->aR (ns.map V.int) vs
 |_,_,.nil=>.nil
 |_,_,.cons n t h=>.cons ⟨t,rfl⟩ (oY h)
def D6 (H:Hp):Prop:=∀b,H b=none\/∃o xs,H b=some (.frz o (.lst xs))
theorem CC {P:FW}{w:G0}{K:GC}{mg mb:Str->Option Value}{CX:CXT}{k:Nat}{fa a:Fi}{fd:Jg}{x:Str}{sp:Sp}{s₁:Fh}{vs:List Value}{ns:List Int}
  (KX:K.In s₁.heap) (hns:s₁.heap.Ns Gk mg) (hb:s₁.heap.Ns builtinsNs mb) (hbb:∀x:Str,x≠"__name__"->mb x=HL x) (hlim:s₁.heap.NoLimit) (hg:s₁.gens=#[])
  (ha:s₁.heap.get? a=some { cls:=.type "list",data:=.seq vs.toArray }) (hi:IH vs ns) (hl:ns.length<=Fk) (hr:bf k callerA)
  (F:∀base:Heap,K.In base->base.Ns Gk mg->jq P w K mg base CX k fa fd [x] sp) (hbind:∀(s:Fh) (u:Value),BindsTo s fd ⟨[u],[]⟩ [(x,u)])
  (hsp:∀H:Hp,D6 H->SqL K H a (ns.map V.int)->sp [.ref a] H (λv _=>v=.bl true) λ_ _ _=>False)
  (hCX:∀H e s',CX [] H s₁ (λ_ _ _=>False) e s'->False) :
  codeAny (Gj P w) callerA (.call (.ref fa) ⟨[.ref a],[]⟩) (λr s'=>r=.ok (.ret (.bool true))/\OldK s₁.heap s'.heap/\s'.os=s₁.os/\AllBare s'.gens) s₁:=by
 have rv:=oY hi
 have lenV:=hi.length
 have xN:∀H:Hp,D6 H->SqL K H a (ns.map V.int)->HOk P w H s₁.heap->(∀b,H b≠none->b=a)->(H a≠none->K.lookup a=none) ->
   codeAny (Gj P w) callerA (.call (.ref fa) ⟨[.ref a],[]⟩) (λr s'=>r=.ok (.ret (.bool true))/\OldK s₁.heap s'.heap/\s'.os=s₁.os/\AllBare s'.gens) s₁:=by
  intro H hO hS hok hA hK
  have base_of:∀{b:Fi} {o:Obj},s₁.heap.get? b=some o->H b=none->(jZ s₁.heap H).get? b=some o:=λe n=>sv e n
  have noA:∀{b:Fi} {o:Obj} {es:Array DictEntry} {ep:Nat},s₁.heap.get? b=some o->o.data=.dict es ep->H b=none:=λ{b o es ep} e d=>by
   cases q:H b with
   |none=>rfl
   |some u =>
    have e':b=a:=hA b (by rw[q];simp)
    subst e'
    rw[ha]at e;cases e
    have d':Data.seq vs.toArray _=Data.dict es ep:=d
    cases d'
  have nsK:∀{b:Fi} {m:Str->Option Value},s₁.heap.Ns b m->(jZ s₁.heap H).Ns b m:=λ{b m} ⟨o,es,ep,e,d,r⟩=>⟨o,es,ep,base_of e (noA e d),d,r⟩
  have hKb:K.In (jZ s₁.heap H):=λb o e=>base_of (KX b o e) (by
   cases q:H b with
   |none=>rfl
   |some u =>
    have e':b=a:=hA b (by rw[q];simp)
    subst e'
    rw[hK (by rw[q];simp)]at e;cases e)
  have hM:Mod K mg (jZ s₁.heap H):=⟨hKb,nsK hns,⟨mb,nsK hb,hbb⟩,let ⟨mc,h1,h2⟩:=hlim;⟨mc,nsK h1,h2⟩⟩
  have e0:rX P w K mg (jZ s₁.heap H) callerA [] s₁ H:=⟨rfl,hM,λb o e=>tU e,Nat.le_of_eq (oO _ _),trivial,λb hb=>absurd (show b∈([]:List Fi) from hb) (by simp),hok,.of_eq hg⟩
  refine codeAny_mono ((F _ hKb (nsK hns)).run callerA [] s₁ H ⟨[.ref a],[]⟩ [.ref a] [.ref a] _ _ hr e0 (hbind s₁ (.ref a)) (.cons rfl .nil) (hsp H hO hS)) λr s' h=>?_
  cases r with
  |error e=>exact(hCX H e s' h).elim
  |ok fl =>
   cases fl with
   |next=>exact G1 h
   |brk=>exact G1 h
   |cont=>exact G1 h
   |ret u =>
    obtain⟨v,H',os,bare,un,hok',r',q⟩:=h
    have q':v=.bl true:=q
    subst q'
    obtain rfl:u=Value.bool true:=r'
    refine⟨rfl,OldK.of_keep λb o e=>?_,os,bare⟩
    cases q:H b with
    |none=>exact un.keep b o e q (by intro z;exact absurd (show b∈([]:List Fi) from z) (by simp)) (by simp)
    |some u =>
     rcases hO b with z|⟨ob,xs,z⟩
     ·rw[q]at z;cases z
     ·have z2:=un.frzs b ob _ z
      obtain⟨e1,_⟩:=hok b _ z
      obtain⟨e2,_⟩:=hok' b _ z2
      rw[e]at e1;cases e1
      exact e2
 cases hk:K.lookup a with
 |some o =>
  have e:=KX a o hk
  rw[ha]at e
  cases e
  refine xN (λ_=>none) (λ_=>.inl rfl) (.inr ⟨_,vs.toArray,_,hk,rfl,rfl,rfl,by rw[Fu,lenV];exact hl,by simpa using rv⟩) (λb u z=>by have z':(none:Option HO)=some u:=z;cases z') (λb z=>absurd rfl z) λz=>absurd rfl z
 |none =>
  refine xN (λb=>if b=a then some (.frz { cls:=.type "list",data:=.seq vs.toArray } (.lst (ns.map V.int))) else none) (λb=>?_) (.inl (.inr ⟨{ cls:=.type "list",data:=.seq vs.toArray },Fs rfl⟩)) (λb u z=>?_) (λb z=>?_) λ_=>hk
  ·by_cases hb:b=a
   ·exact .inr ⟨_,_,Fs hb⟩
   ·exact .inl (Fl hb)
  ·by_cases hb:b=a
   ·have z':=(Fs hb).symm.trans z
    cases z'
    subst hb
    exact⟨ha,by rw[lmp];exact hl,vs,_,rv,ha⟩
   ·have z':=(Fl hb).symm.trans z
    cases z'
  ·by_cases hb:b=a
   ·exact hb
   ·exact absurd (Fl hb) z
end L2
namespace L2
open PySem PySem.Spec PyProof.Rows
end L2
namespace L2
open PySem PySem.Spec PyProof.Rows
open PySem.W (WData Codec OpenSpec Well WellAll ReadsW ReadsAllW)
mutual
inductive Dw (K:GC)(H:Hp):V->WData->Prop
 |non:Dw K H .non .none
 |bl (b:Bool):Dw K H (.bl b) (.bool b)
 |int (i:Int):Dw K H (.int i) (.int i)
 |str (x:Str):Dw K H (.str x) (.str x)
 |byt (b:Array UInt8):Dw K H (.byt b) (.bytes b.toList)
 |lst {a:Fi} {xs:List V} {ds:List WData}:SqL K H a xs->ip K H xs ds->Dw K H (.ref a) (.list ds)
 |tup {a:Fi} {xs:List V} {ds:List WData}:SqT K H a xs->ip K H xs ds->Dw K H (.ref a) (.tuple ds)
inductive ip (K:GC)(H:Hp):List V->List WData->Prop
 |nil:ip K H [] []
 |cons {v:V} {vs:List V} {d:WData} {ds:List WData}:Dw K H v d->ip K H vs ds->ip K H (v :: vs) (d :: ds)
end
theorem tZ {K:GC}{H:Hp}:∀ns:List Int,ip K H (ns.map V.int) (ns.map WData.int)
 |[]=>.nil
 |n :: r=>.cons (.int n) (tZ r)
theorem kf {K:GC}{H:Hp}:∀(ns:List Int) (xs:List V),ip K H xs (ns.map WData.int)->xs=ns.map V.int
 |[],xs,h=>by
  cases h
  rfl
 |n :: r,xs,h=>by
  cases h with
  |cons h1 h2 =>
   cases h1
   rw[kf r _ h2]<;>rfl
section
variable  {P:FW}{w:G0}{K:GC}{H:Hp}{h:Heap}{R:PySem.W.WRecords}{cl:Str->Option Fi}
theorem AK {a:Fi}{xs:List V}(hok:HOk P w H h)(KX:K.In h)(q:SqL K H a xs):∃(its:List Value) (o:Obj) (n:Nat),aR xs its/\h.get? a=some o/\o.cls=.type "list"/\o.data=.seq its.toArray n:=by
 rcases q with q|⟨o,its,n,e,hc,_,hd,_,hv⟩
 ·obtain⟨_,its,n,hv,e⟩:=(show b6 P w H h a (.lst xs) from q.ok hok)
  exact⟨its,_,n,hv,e,rfl,rfl⟩
 ·exact⟨its.toList,o,n,hv,KX _ _ e,hc,by simp[hd]⟩
theorem A0 {a:Fi}{xs:List V}(hok:HOk P w H h)(KX:K.In h)(q:SqT K H a xs):∃(its:List Value) (o:Obj) (n:Nat),aR xs its/\h.get? a=some o/\o.cls=.type "tuple"/\o.data=.seq its.toArray n:=by
 rcases q with q|⟨o,its,n,e,hc,hd,_,hv⟩
 ·obtain⟨_,its,hv,o,e,hc,n,hd⟩:=(show b6 P w H h a (.tup xs) from q.ok hok)
  exact⟨its,o,n,hv,e,hc,hd⟩
 ·exact⟨its.toList,o,n,hv,KX _ _ e,hc,by simp[hd]⟩
mutual
theorem Dw.reads (hok:HOk P w H h)(KX:K.In h):∀(d:WData) (v:V) (u:Value),Dw K H v d->aZ v u->∃as,ReadsW R cl h u d as
 |.none,_,_,x,r=>by
  cases x
  cases r
  exact⟨_,ReadsW.none⟩
 |.bool b,_,_,x,r=>by
  cases x
  cases r
  exact⟨_,ReadsW.bool b⟩
 |.int i,_,_,x,r=>by
  cases x
  obtain⟨t,rfl⟩:=r
  exact⟨_,ReadsW.int i t⟩
 |.str s,_,_,x,r=>by
  cases x
  obtain⟨t,rfl⟩:=r
  exact⟨_,ReadsW.str s t⟩
 |.bytes b,_,_,x,r=>by
  cases x
  obtain⟨t,rfl⟩:=r
  exact⟨_,ReadsW.bytes _ t⟩
 |.list ds,_,_,x,r=>by
  cases x with
  |lst hs ha =>
   cases r
   obtain⟨its,o,n,rv,ho,hc,hd⟩:=AK hok KX hs
   obtain⟨as,hr⟩:=Dw.readsAll hok KX ds _ its ha rv
   exact⟨_,ReadsW.list ho hc hd hr⟩
 |.tuple ds,_,_,x,r=>by
  cases x with
  |tup hs ha =>
   cases r
   obtain⟨its,o,n,rv,ho,hc,hd⟩:=A0 hok KX hs
   obtain⟨as,hr⟩:=Dw.readsAll hok KX ds _ its ha rv
   exact⟨_,ReadsW.tuple ho hc hd hr⟩
 |.float _,_,_,x,_=>by cases x
 |.dict _,_,_,x,_=>by cases x
 |.bytearray _,_,_,x,_=>by cases x
 |.set _,_,_,x,_=>by cases x
 |.frozenset _,_,_,x,_=>by cases x
 |.obj _ _,_,_,x,_=>by cases x
theorem Dw.readsAll (hok:HOk P w H h)(KX:K.In h):∀(ds:List WData) (vs:List V) (us:List Value),ip K H vs ds->aR vs us->∃as,ReadsAllW R cl h us ds as
 |[],_,_,x,r=>by
  cases x
  cases r
  exact⟨_,ReadsAllW.nil⟩
 |d :: ds,_,_,x,r=>by
  cases x with
  |cons h1 h2 =>
   cases r with
   |cons r1 r2 =>
    obtain⟨as,q1⟩:=Dw.reads hok KX d _ _ h1 r1
    obtain⟨bs,q2⟩:=Dw.readsAll hok KX ds _ _ h2 r2
    exact⟨_,ReadsAllW.cons q1 q2⟩
end
end
mutual
def plW:WData->Bool
 |.none=>true
 |.bool _=>true
 |.int _=>true
 |.str _=>true
 |.bytes _=>true
 |.list xs=>lN xs
 |.tuple xs=>lN xs
 |_=>false
def lN:List WData->Bool
 |[]=>true
 |x :: r=>plW x&&lN r
end
theorem qQ {α:Type}{f:α->WData}(h:∀a,plW (f a)=true):∀l:List α,lN (l.map f)=true
 |[]=>rfl
 |x :: r=>by
  show(plW (f x)&&lN (r.map f))=true
  rw[h x,qQ h r]<;>rfl
theorem iZ:∀(c:Codec) (a:c.denote),plW (c.enc a)=true
 |.unit,_=>rfl
 |.bool,_=>rfl
 |.int _ _,_=>rfl
 |.nat _ _,_=>rfl
 |.u8,_=>rfl
 |.bytes _ _,_=>rfl
 |.text _ _ _ _,_=>rfl
 |.list _ _ c,a=>qQ (λx=>iZ c x) a
 |.pair c d,a=>by
  show(plW (c.enc a.1)&&(plW (d.enc a.2)&&true))=true
  rw[iZ c a.1,iZ d a.2]<;>rfl
 |.triple c d e,a=>by
  show(plW (c.enc a.1)&&(plW (d.enc a.2.1)&&(plW (e.enc a.2.2)&&true)))=true
  rw[iZ c a.1,iZ d a.2.1,iZ e a.2.2]<;>rfl
 |.option c,none=>rfl
 |.option c,some x=>iZ c x
theorem oJ:∀(cs:List Codec) (a:Codec.denoteAll cs),lN (Codec.encAll cs a)=true
 |[],_=>rfl
 |c :: cs,a=>by
  show(plW (c.enc a.1)&&lN (Codec.encAll cs a.2))=true
  rw[iZ c a.1,oJ cs a.2]<;>rfl
theorem jJ:∀{xs:List WData} {d:WData},d∈xs->d.weight<=WData.weightAll xs
 |[],d,h=>absurd h (by simp)
 |x :: r,d,h=>by
  show d.weight<=x.weight+1+WData.weightAll r
  rcases Fp.mp h with e|m
  ·rw[e]
   omega
  ·have z:=jJ m
   omega
def toV:Value->V
 |.none=>.non
 |.bool b=>.bl b
 |.int i _=>.int i
 |.str x _=>.str x
 |.bytes b _=>.byt b
 |.ref a=>.ref a
 |_=>.non
def OkU (A:List Fi):Value->Prop
 |.none=>True
 |.bool _=>True
 |.int _ _=>True
 |.str _ _=>True
 |.bytes _ _=>True
 |.ref a=>a∈A
 |_=>False
theorem OkU.mono {A B:List Fi}(h:∀a∈A,a∈B):∀{u:Value},OkU A u->OkU B u:=λ{u} x=>by
 cases u with
 |ref a=>exact h a x
 |none=>trivial
 |bool b=>trivial
 |int i t=>trivial
 |str s t=>trivial
 |bytes b t=>trivial
 |_=>exact G1 x
theorem wN {A:List Fi}{u:Value}(x:OkU A u):aZ (toV u) u:=by
 cases u with
 |ref a=>rfl
 |none=>rfl
 |bool b=>rfl
 |int i t=>exact⟨t,rfl⟩
 |str s t=>exact⟨t,rfl⟩
 |bytes b t=>exact⟨t,rfl⟩
 |_=>exact G1 x
theorem gJ {A:List Fi}:∀{vs:List Value},(∀u∈vs,OkU A u)->aR (vs.map toV) vs
 |[],_=>.nil
 |u :: r,h=>.cons (wN (h u (FB ..))) (gJ λx hx=>h x (Fj _ hx))
def ir (h:Heap)(A:List Fi)(a:Fi):Prop:=∃vs:List Value,vs.length<=Fk/\(∀u∈vs,OkU A u) /\
 (h.get? a=some { cls:=.type "list",data:=.seq vs.toArray }\/h.get? a=some { cls:=.type "tuple",data:=.seq vs.toArray })
theorem ir.mono {h:Heap}{A B:List Fi}{a:Fi}(k:∀a∈A,a∈B)(x:ir h A a):ir h B a:=by
 obtain⟨vs,h1,h2,h3⟩:=x
 exact⟨vs,h1,λu hu=>(h2 u hu).mono k,h3⟩
theorem fR {P:Params}{h:Heap}:∀{vs:List Value} {ds:List WData},WellAll P h vs ds->vs.length=ds.length
 |_,_,.nil=>rfl
 |_,_,.cons _ b=>by
  show _+1=_+1
  rw[fR b]
theorem oR {P:Params}{h:Heap}{v:Value}{ds:List WData}(x:Well P h v (.list ds)):∃(a:Fi) (vs:List Value),v=.ref a/\h.get? a=some { cls:=.type "list",data:=.seq vs.toArray }/\WellAll P h vs ds:=by
 cases x with
 |list ho hall=>exact⟨_,_,rfl,ho,hall⟩
theorem mT {P:Params}{h:Heap}{v:Value}{ds:List WData}(x:Well P h v (.tuple ds)):∃(a:Fi) (vs:List Value),v=.ref a/\h.get? a=some { cls:=.type "tuple",data:=.seq vs.toArray }/\WellAll P h vs ds:=by
 cases x with
 |tuple ho hall=>exact⟨_,_,rfl,ho,hall⟩
theorem pE {P:Params}{h:Heap}{us:List Value}{d:WData}{ds:List WData}(x:WellAll P h us (d :: ds)):∃(v:Value) (vs:List Value),us=v :: vs/\Well P h v d/\WellAll P h vs ds:=by
 cases x with
 |cons a b=>exact⟨_,_,rfl,a,b⟩
theorem qD {n:Nat}(h:n<=1048576):n<=Fk:=Gb h (by decide)
section
variable  {P:Params}{h:Heap}
mutual
theorem wq:∀(d:WData) (v:Value),Well P h v d->plW d=true->d.weight<=1048576->∃A:List Fi,OkU A v/\∀a∈A,ir h A a
 |.none,_,x,_,_=>by
  cases x
  exact⟨[],trivial,λa m=>absurd m (by simp)⟩
 |.bool b,_,x,_,_=>by
  cases x
  exact⟨[],trivial,λa m=>absurd m (by simp)⟩
 |.int i,_,x,_,_=>by
  cases x
  exact⟨[],trivial,λa m=>absurd m (by simp)⟩
 |.str s,_,x,_,_=>by
  cases x
  exact⟨[],trivial,λa m=>absurd m (by simp)⟩
 |.bytes b,_,x,_,_=>by
  cases x
  exact⟨[],trivial,λa m=>absurd m (by simp)⟩
 |.list ds,_,x,p,z=>by
  obtain⟨a,vs,rfl,ho,hall⟩:=oR x
  have z2:WData.weightAll ds<=1048576:=z
  obtain⟨A,h1,h2⟩:=jY ds _ hall p λd hd=>Gb (jJ hd) z2
  have k:∀b∈A,b∈a :: A:=λb hb=>Fj _ hb
  refine⟨a :: A,FB ..,λb hb=>?_⟩
  rcases Fp.mp hb with e|m
  ·rw[e]
   exact⟨vs,qD (by rw[fR hall];exact Gb (PySem.W.length_le_weightAllW ds) z2),λu hu=>(h1 u hu).mono k,.inl ho⟩
  ·exact(h2 b m).mono k
 |.tuple ds,_,x,p,z=>by
  obtain⟨a,vs,rfl,ho,hall⟩:=mT x
  have z2:WData.weightAll ds<=1048576:=z
  obtain⟨A,h1,h2⟩:=jY ds _ hall p λd hd=>Gb (jJ hd) z2
  have k:∀b∈A,b∈a :: A:=λb hb=>Fj _ hb
  refine⟨a :: A,FB ..,λb hb=>?_⟩
  rcases Fp.mp hb with e|m
  ·rw[e]
   exact⟨vs,qD (by rw[fR hall];exact Gb (PySem.W.length_le_weightAllW ds) z2),λu hu=>(h1 u hu).mono k,.inr ho⟩
  ·exact(h2 b m).mono k
 |.float _,_,_,p,_=>GF (show false=true from p)
 |.dict _,_,_,p,_=>GF (show false=true from p)
 |.bytearray _,_,_,p,_=>GF (show false=true from p)
 |.set _,_,_,p,_=>GF (show false=true from p)
 |.frozenset _,_,_,p,_=>GF (show false=true from p)
 |.obj _ _,_,_,p,_=>GF (show false=true from p)
theorem jY:∀(ds:List WData) (vs:List Value),WellAll P h vs ds->lN ds=true->(∀d∈ds,d.weight<=1048576)->∃A:List Fi,(∀u∈vs,OkU A u)/\∀a∈A,ir h A a
 |[],_,x,_,_=>by
  cases x
  exact⟨[],λu m=>absurd m (by simp),λa m=>absurd m (by simp)⟩
 |d :: ds,_,x,p,z=>by
  obtain⟨v,vs,rfl,x1,x2⟩:=pE x
  have q:plW d=true/\lN ds=true:=GN.mp p
  obtain⟨A,a1,a2⟩:=wq d v x1 q.1 (z d (FB ..))
  obtain⟨B,b1,b2⟩:=jY ds vs x2 q.2 λe he=>z e (Fj _ he)
  have kA:∀b∈A,b∈A++B:=λb hb=>FR.mpr (.inl hb)
  have kB:∀b∈B,b∈A++B:=λb hb=>FR.mpr (.inr hb)
  refine⟨A++B,λu hu=>?_,λb hb=>?_⟩
  ·rcases Fp.mp hu with e|m
   ·rw[e]
    exact a1.mono kA
   ·exact(b1 u m).mono kB
  ·rcases FR.mp hb with m|m
   ·exact(a2 b m).mono kA
   ·exact(b2 b m).mono kB
end
end
def zJ (o:Obj):Option HO:=match o.data with
 |.seq vs _=>if (o.cls==Value.type "list")=true then some (.frz o (.lst (vs.toList.map toV))) else some (.frz o (.tup (vs.toList.map toV)))
 |_=>none
def hX (K:GC)(h:Heap)(A:List Fi):Hp:=λb=>if b∈A then (if (K.lookup b).isNone=true then (h.get? b).bind zJ else none) else none
def sf (H:Hp):Prop:=∀b,H b=none\/∃o u,H b=some (.frz o u)
theorem qY (vs:List Value):zJ { cls:=.type "list",data:=.seq vs.toArray }=some (.frz { cls:=.type "list",data:=.seq vs.toArray } (.lst (vs.map toV))):=by
 show(if (Value.type "list"==Value.type "list")=true then some (HO.frz { cls:=.type "list",data:=.seq vs.toArray } (.lst (vs.toArray.toList.map toV))) else some (HO.frz { cls:=.type "list",data:=.seq vs.toArray } (.tup (vs.toArray.toList.map toV))))=_
 rw[Fs (beq_self_eq_true _)]
theorem qU (vs:List Value):zJ { cls:=.type "tuple",data:=.seq vs.toArray }=some (.frz { cls:=.type "tuple",data:=.seq vs.toArray } (.tup (vs.map toV))):=by
 show(if (Value.type "tuple"==Value.type "list")=true then some (HO.frz { cls:=.type "tuple",data:=.seq vs.toArray } (.lst (vs.toArray.toList.map toV))) else some (HO.frz { cls:=.type "tuple",data:=.seq vs.toArray } (.tup (vs.toArray.toList.map toV))))=_
 rw[Fl (by decide)]
section
variable  {P:FW}{w:G0}{K:GC}{h:Heap}{A:List Fi}
theorem lX {b:Fi}{o:Obj}(hb:b∈A)(hk:K.lookup b=none)(e:h.get? b=some o):hX K h A b=zJ o:=by
 unfold hX
 rw[Fs hb,hk,Fs (show(none:Option Obj).isNone=true from rfl),e]<;>rfl
theorem yA {b:Fi}{u:HO}(q:hX K h A b=some u):b∈A/\K.lookup b=none:=by
 unfold hX at q
 by_cases hb:b∈A
 ·rw[Fs hb]at q
  cases hk:K.lookup b with
  |none=>exact⟨hb,rfl⟩
  |some o =>
   rw[hk,Fl (by simp)]at q
   cases q
 ·rw[Fl hb]at q
  cases q
theorem lV (ar:∀a∈A,ir h A a){b:Fi}{u:HO}(q:hX K h A b=some u):K.lookup b=none/\∃vs:List Value,vs.length<=Fk/\(∀u∈vs,OkU A u) /\
  ((h.get? b=some { cls:=.type "list",data:=.seq vs.toArray }/\u=.frz { cls:=.type "list",data:=.seq vs.toArray } (.lst (vs.map toV))) \/
   (h.get? b=some { cls:=.type "tuple",data:=.seq vs.toArray }/\u=.frz { cls:=.type "tuple",data:=.seq vs.toArray } (.tup (vs.map toV)))):=by
 obtain⟨hb,hk⟩:=yA q
 obtain⟨vs,h1,h2,h3⟩:=ar b hb
 refine⟨hk,vs,h1,h2,?_⟩
 rcases h3 with e|e
 ·rw[lX hb hk e,qY]at q
  exact .inl ⟨e,(osi q).symm⟩
 ·rw[lX hb hk e,qU]at q
  exact .inr ⟨e,(osi q).symm⟩
theorem vW (ar:∀a∈A,ir h A a):sf (hX K h A):=λb=>by
 cases q:hX K h A b with
 |none=>exact .inl rfl
 |some u =>
  obtain⟨_,vs,_,_,⟨_,e⟩|⟨_,e⟩⟩:=lV ar q
  ·exact .inr ⟨_,_,by rw[e]⟩
  ·exact .inr ⟨_,_,by rw[e]⟩
theorem yK (ar:∀a∈A,ir h A a):HOk P w (hX K h A) h:=λb u q=>by
 obtain⟨_,vs,h1,h2,⟨e,rfl⟩|⟨e,rfl⟩⟩:=lV ar q
 ·exact⟨e,by rw[lmp];exact h1,vs,_,gJ h2,e⟩
 ·exact⟨e,by rw[lmp];exact h1,vs,gJ h2,_,e,rfl,_,rfl⟩
theorem l5 {c c':Value}{vs us:List Value}(e:(some { cls:=c,data:=.seq vs.toArray }:Option Obj)=some { cls:=c',data:=.seq us.toArray }):c=c'/\vs=us:=by
 have e1:=osi e
 have e2:c=c':=G5 Obj.cls e1
 have e3:Data.seq vs.toArray=Data.seq us.toArray:=G5 Obj.data e1
 injection e3 with e4
 refine⟨e2,?_⟩
 have e5:=G5 Array.toList e4
 simpa using e5
theorem Ev (KX:K.In h)(ar:∀a∈A,ir h A a){a:Fi}{vs:List Value}(ha:a∈A) (e:h.get? a=some { cls:=.type "list",data:=.seq vs.toArray }):(∀u∈vs,OkU A u)/\SqL K (hX K h A) a (vs.map toV):=by
 obtain⟨us,h1,h2,h3⟩:=ar a ha
 have hu:us=vs:=by
  rcases h3 with q|q
  ·rw[e]at q
   exact(l5 q).2.symm
  ·rw[e]at q
   exact absurd (Value.type.inj (l5 q).1) (by decide)
 subst hu
 refine⟨h2,?_⟩
 cases hk:K.lookup a with
 |none=>exact .inl (.inr ⟨_,by rw[lX ha hk e,qY]⟩)
 |some o =>
  have e2:=KX a o hk
  rw[e]at e2
  obtain rfl:=osi e2
  exact .inr ⟨_,us.toArray,_,hk,rfl,rfl,rfl,by rw[Fu];exact h1,by simpa using gJ h2⟩
theorem EN (KX:K.In h)(ar:∀a∈A,ir h A a){a:Fi}{vs:List Value}(ha:a∈A) (e:h.get? a=some { cls:=.type "tuple",data:=.seq vs.toArray }):(∀u∈vs,OkU A u)/\SqT K (hX K h A) a (vs.map toV):=by
 obtain⟨us,h1,h2,h3⟩:=ar a ha
 have hu:us=vs:=by
  rcases h3 with q|q
  ·rw[e]at q
   exact absurd (Value.type.inj (l5 q).1) (by decide)
  ·rw[e]at q
   exact(l5 q).2.symm
 subst hu
 refine⟨h2,?_⟩
 cases hk:K.lookup a with
 |none=>exact .inl (.inr ⟨_,by rw[lX ha hk e,qU]⟩)
 |some o =>
  have e2:=KX a o hk
  rw[e]at e2
  obtain rfl:=osi e2
  exact .inr ⟨_,us.toArray,_,hk,rfl,rfl,by rw[Fu];exact h1,by simpa using gJ h2⟩
mutual
theorem Bi {Pm:Params}(KX:K.In h)(ar:∀a∈A,ir h A a):∀(d:WData) (v:Value),Well Pm h v d->plW d=true->OkU A v->Dw K (hX K h A) (toV v) d
 |.none,_,x,_,_=>by
  cases x
  exact .non
 |.bool b,_,x,_,_=>by
  cases x
  exact .bl b
 |.int i,_,x,_,_=>by
  cases x
  exact .int i
 |.str s,_,x,_,_=>by
  cases x
  exact .str s
 |.bytes b,_,x,_,_=>by
  cases x
  have z:=Dw.byt (K:=K) (H:=hX K h A) b.toArray
  exact z
 |.list ds,_,x,p,hu=>by
  obtain⟨a,vs,rfl,ho,hall⟩:=oR x
  obtain⟨h2,hs⟩:=Ev KX ar hu ho
  exact .lst hs (qu KX ar ds _ hall p h2)
 |.tuple ds,_,x,p,hu=>by
  obtain⟨a,vs,rfl,ho,hall⟩:=mT x
  obtain⟨h2,hs⟩:=EN KX ar hu ho
  exact .tup hs (qu KX ar ds _ hall p h2)
 |.float _,_,_,p,_=>GF (show false=true from p)
 |.dict _,_,_,p,_=>GF (show false=true from p)
 |.bytearray _,_,_,p,_=>GF (show false=true from p)
 |.set _,_,_,p,_=>GF (show false=true from p)
 |.frozenset _,_,_,p,_=>GF (show false=true from p)
 |.obj _ _,_,_,p,_=>GF (show false=true from p)
theorem qu {Pm:Params}(KX:K.In h)(ar:∀a∈A,ir h A a):∀(ds:List WData) (vs:List Value),WellAll Pm h vs ds->lN ds=true->(∀u∈vs,OkU A u)->ip K (hX K h A) (vs.map toV) ds
 |[],_,x,_,_=>by
  cases x
  exact .nil
 |d :: ds,_,x,p,hu=>by
  obtain⟨v,vs,rfl,x1,x2⟩:=pE x
  have q:plW d=true/\lN ds=true:=GN.mp p
  exact .cons (Bi KX ar d v x1 q.1 (hu _ (FB ..))) (qu KX ar ds vs x2 q.2 λu m=>hu u (Fj _ m))
end
end
theorem wg {P:FW}{w:G0}{K:GC}{mg mb:Str->Option Value}{CX:CXT}{k:Nat}{fa:Fi}{fd:Jg}{ps:List Str}{sp:Sp}{s₁:Fh}{vals:List Value}{ds:List WData}{R:PySem.W.WRecords}{cl:Str->Option Fi}{d0:WData}
  (KX:K.In s₁.heap) (hns:s₁.heap.Ns Gk mg) (hb:s₁.heap.Ns builtinsNs mb) (hbb:∀x:Str,x≠"__name__"->mb x=HL x) (hlim:s₁.heap.NoLimit) (hg:s₁.gens=#[])
  (hwl:WellAll w.params s₁.heap vals ds) (hpl:lN ds=true) (hwt:∀d∈ds,d.weight<=1048576) (hr:bf k callerA)
  (F:∀base:Heap,K.In base->base.Ns Gk mg->jq P w K mg base CX k fa fd ps sp) (hbind:∀(s:Fh) (us:List Value),us.length=ps.length->BindsTo s fd ⟨us,[]⟩ (ps.zip us)) (hlen:ds.length=ps.length)
  (hsp:∀(H:Hp) (xs:List V),sf H->ip K H xs ds->sp xs H (λv H'=>Dw K H' v d0) λ_ _ _=>False)
  (hCX:∀H e s',CX [] H s₁ (λ_ _ _=>False) e s'->False) :
  codeAny (Gj P w) callerA (.call (.ref fa) ⟨vals,[]⟩) (λr s'=>∃u as,r=.ok (.ret u)/\ReadsW R cl s'.heap u d0 as/\OldK s₁.heap s'.heap/\s'.os=s₁.os/\AllBare s'.gens) s₁:=by
 obtain⟨A,ho,ar⟩:=jY ds vals hwl hpl hwt
 have hO:sf (hX K s₁.heap A):=vW ar
 have hok:HOk P w (hX K s₁.heap A) s₁.heap:=yK ar
 have hS:=qu KX ar ds vals hwl hpl ho
 have hV:=gJ ho
 have hK:∀b u,hX K s₁.heap A b=some u->K.lookup b=none:=λb u q=>(lV ar q).1
 have noA:∀{b:Fi} {o:Obj} {es:Array DictEntry} {ep:Nat},s₁.heap.get? b=some o->o.data=.dict es ep->hX K s₁.heap A b=none:=λ{b o es ep} e d=>by
  cases q:hX K s₁.heap A b with
  |none=>rfl
  |some u =>
   obtain⟨_,vs,_,_,⟨e2,_⟩|⟨e2,_⟩⟩:=lV ar q
   ·rw[e2]at e
    cases e
    have d':Data.seq vs.toArray _=Data.dict es ep:=d
    cases d'
   ·rw[e2]at e
    cases e
    have d':Data.seq vs.toArray _=Data.dict es ep:=d
    cases d'
 generalize hX K s₁.heap A=H at hO hok hS hK noA
 have base_of:∀{b:Fi} {o:Obj},s₁.heap.get? b=some o->H b=none->(jZ s₁.heap H).get? b=some o:=λe n=>sv e n
 have nsK:∀{b:Fi} {m:Str->Option Value},s₁.heap.Ns b m->(jZ s₁.heap H).Ns b m:=λ{b m} ⟨o,es,ep,e,d,r⟩=>⟨o,es,ep,base_of e (noA e d),d,r⟩
 have nK:∀b o,K.lookup b=some o->H b=none:=λb o e=>by
  cases q:H b with
  |none=>rfl
  |some u =>
   rw[hK b u q]at e
   cases e
 have hKb:K.In (jZ s₁.heap H):=λb o e=>base_of (KX b o e) (nK b o e)
 have hM:Mod K mg (jZ s₁.heap H):=⟨hKb,nsK hns,⟨mb,nsK hb,hbb⟩,let ⟨mc,h1,h2⟩:=hlim;⟨mc,nsK h1,h2⟩⟩
 have e0:rX P w K mg (jZ s₁.heap H) callerA [] s₁ H:=⟨rfl,hM,λb o e=>tU e,Nat.le_of_eq (oO _ _),trivial,λb hb=>absurd (show b∈([]:List Fi) from hb) (by simp),hok,.of_eq hg⟩
 have hl:vals.length=ps.length:=by rw[fR hwl];exact hlen
 refine codeAny_mono ((F _ hKb (nsK hns)).run callerA [] s₁ H ⟨vals,[]⟩ vals (vals.map toV) _ _ hr e0 (hbind s₁ vals hl) hV (hsp H _ hO hS)) λr s' x=>?_
 cases r with
 |error e=>exact(hCX H e s' x).elim
 |ok fl =>
  cases fl with
  |next=>exact G1 x
  |brk=>exact G1 x
  |cont=>exact G1 x
  |ret u =>
   obtain⟨v,H',os,bare,un,hok',r',q⟩:=x
   have kept:∀b o,s₁.heap.get? b=some o->s'.heap.get? b=some o:=λb o e=>by
    cases q2:H b with
    |none=>exact un.keep b o e q2 (by intro z;exact absurd (show b∈([]:List Fi) from z) (by simp)) (by simp)
    |some u2 =>
     rcases hO b with z|⟨ob,u3,z⟩
     ·rw[q2]at z
      cases z
     ·have z2:=un.frzs b ob _ z
      obtain⟨e1,_⟩:=hok b _ z
      obtain⟨e2,_⟩:=hok' b _ z2
      rw[e]at e1
      cases e1
      exact e2
   have KX':K.In s'.heap:=λb o e=>kept b o (KX b o e)
   obtain⟨as,hrd⟩:=Dw.reads (R:=R) (cl:=cl) hok' KX' d0 v u q r'
   exact⟨u,as,rfl,hrd,OldK.of_keep kept,os,bare⟩
theorem nQ {ds:List WData}(h:WData.layableAll ds=true):∀d∈ds,d.weight<=1048576:=λd hd =>
 (PySem.W.layableW_iff.mp (Gx.mp h d hd)).2.2
theorem m9:∀(cs:List Codec) (a:Codec.denoteAll cs),(Codec.encAll cs a).length=cs.length
 |[],_=>rfl
 |c :: cs,a=>by
  show(Codec.encAll cs a.2).length+1=cs.length+1
  rw[m9 cs a.2]
theorem vK {r:OpenSpec}{k:Nat}{q:FW}{loose:List Str}{XP:(Str->Option Value)->Heap->Prop}{YP:G0->Heap->Prop}{d:DefRec}{K:Params->GC}{CX:G0->CXT}{ps:List Str}{sp:G0->Sp}
  (hwell:r.wellSaid=true) (hdf:d.params.defaults=[]) (hlen:r.args.length=ps.length) (hr:bf k callerA)
  (hY:∀(w:G0) (h:Heap),YP w h->(K w.params).In h)
  (F:∀(w:G0) (mg:Str->Option Value) (fa:Fi) (h:Heap),YP w h->(K w.params).In h->h.Ns Gk mg->mg d.name=some (.ref fa) ->
   ∃fd:Jg,(∀(s:Fh) (us:List Value),us.length=ps.length->BindsTo s fd ⟨us,[]⟩ (ps.zip us)) /\
    ∀base:Heap,(K w.params).In base->base.Ns Gk mg->jq r.prog w (K w.params) mg base (CX w) k fa fd ps (sp w))
  (hsp:∀(w:G0) (H:Hp) (xs:List V) (a:Codec.denoteAll r.args),sf H->Codec.withinAll r.args a=true->Codec.app r.args r.asked a=true->ip (K w.params) H xs (Codec.encAll r.args a) ->
   sp w xs H (λv H'=>Dw (K w.params) H' v (r.ret.enc (Codec.app r.args r.f a))) λ_ _ _=>False)
  (hCX:∀(w:G0) (H:Hp) (s:Fh) (e:Value) (s':Fh),CX w [] H s (λ_ _ _=>False) e s'->False) :
  PySem.W.WalkOS q loose XP YP r d [] (λf vs=>PySem.call f vs):=by
 intro w s_0 s₁ mg mb G Y fa o pm cd doc dV kV ho hd hcd hD hmg hg args vals as hpre hlay hrd hwl hlo
 obtain⟨a,e1,e2⟩:=PySem.W.os_pre_some hpre
 obtain⟨e3,hwi⟩:=Codec.encAll_of_decAll r.args args a e1
 subst e3
 have KX:=hY w _ Y
 obtain⟨fd,hb,hF⟩:=F w mg fa _ Y KX G.T.g hmg
 refine PySem.W.enter_call (codeAny_mono (wg (R:=[]) (cl:=classAt s_0.heap) (d0:=r.ret.enc (Codec.app r.args r.f a)) KX G.T.g G.T.b G.T.builtins G.T.nolimit hg hwl (oJ _ _) (nQ hlay) hr hF hb (by rw[m9];exact hlen)
  (λH xs hO hS=>hsp w H xs a hO hwi e2 hS) λH e s'=>hCX w H s₁ e s') λr' s' hq=>?_)
 obtain⟨u,as',rfl,h1,h2,h3,h4⟩:=hq
 exact⟨.inl ⟨u,_,as',rfl,λ_=>rfl,h1,(OpenSpec.post_iff hwell hwi _ _).mpr rfl,λz=>GF (show false=true from z)⟩,h2,h3,h4⟩
end L2
namespace L2
open PySem PySem.Spec PyProof.Rows
abbrev CX0:CXT:=λ_ _ _ _ _ _=>False
abbrev E0:XK:=λ_ _ _=>False
theorem uL {X:Cx}:jK CX0 X E0:=λ_ _ _ _ _ _ _ h=>h.elim
structure Fun (K:GC)(x qual:Str)(st:Hy)(f:Fi)(fd:Jg):Prop where
 ex:∃(oc:Value) (od:Option Fi) (kV doc pm:Value) (an:Option Fi) (cdv ct:Value) (osl:Array (Option Value)),
  fd=HN x qual (cY st) (bU st) (ah st) .none kV doc pm an cdv ct/\K.lookup f=some ⟨oc,od,.func fd,osl⟩/\Je K cdv qual=true
 kp:Hr K (.ref f)=true
section
variable  {P:FW}{w:G0}{K:GC}{mg:Str->Option Value}{base:Heap}
theorem Fun.ok {x qual:Str}{st:Hy}{f:Fi}{fd:Jg}{N ps:List Str}{k:Nat}{sp:Sp}(F:Fun K x qual st f fd)(S:ap N ps (ah st))(len:∀vs H Q E,sp vs H Q E->vs.length=ps.length)
  (hbody:∀(cdv:Value) (A:Around) (outer:List Env) (s:Fh) (H:Hp) (vs:List V) (Q:VK) (E:XK),bf k (A.deeper (envOfC qual (ah st) s.heap.objs.size f cdv))->sp vs H Q E ->
   ∃t,PSs (qp CX0 P w K mg base N qual (ah st) f cdv A outer s H E).nox (bU st) t/\t { nx:=λ_ H'=>Q .non H',rt:=Q } (start N vs) H):jq P w K mg base CX0 (k+1) f fd ps sp:=by
 obtain⟨oc,od,kV,doc,pm,an,cdv,ct,osl,rfl,lk,hcd⟩:=F.ex
 refine Cv lk hcd S len λA outer s H vs Q E hr hsp=>?_
 obtain⟨t,h,q⟩:=hbody cdv A outer s H vs Q E hr hsp
 exact⟨t,h.nox,q⟩
theorem sN {x qual:Str}{st:Hy}{f:Fi}{oc:Value}{od an:Option Fi}{osl:Array (Option Value)}{kV doc pm cdv ct:Value}(l:K.lookup f=some ⟨oc,od,.func (HN x qual (cY st) (bU st) (ah st) .none kV doc pm an cdv ct),osl⟩)
  (c:Je K cdv qual=true) (k:Hr K (.ref f)=true):Fun K x qual st f (HN x qual (cY st) (bU st) (ah st) .none kV doc pm an cdv ct):=⟨⟨oc,od,kV,doc,pm,an,cdv,ct,osl,rfl,l,c⟩,k⟩
end
section
variable  {X:Cx}
theorem pv (i:Nat){x:Str}{pos:Pos}(hN:X.N[i]? = some x:=by rfl)(hv:Vis X.env.scope x:=by first|exact G3 rfl|exact GA (.inl rfl)|exact GA (.inr rfl)) (hd:(x==("__debug__" : Str))=false:=by decide)
  (hcd:(x==("__classdict__" : Str))=false:=by decide):PE X (.Name x pos) (a5 i):=A9 hN hv hd hcd
theorem vP:nG X (.builtin "len") (λxs H Q=>∃a kvs,xs=[V.ref a]/\H a=some (.dK kvs)/\Q (.int kvs.length) H):=by
 intro pins s σ H xs us Q I r h
 obtain⟨a,kvs,rfl,ha,q⟩:=h
 obtain⟨u,rfl,ru⟩:=wD r
 cases ru
 exact Cf I (.inl ha) λt s' I'=>⟨.int kvs.length,H,I',⟨t,rfl⟩,q⟩
end
theorem jy {A B:Prop}(h:B):if false=true then A else B:=by
 rw[Fl Fy]
 exact h
theorem eI {A B:Prop}(h:A):if true=true then A else B:=by
 rw[Fs rfl]
 exact h
theorem aQ {c A B:Prop}[Decidable c](h1:c->A)(h2:¬c->B):if c then A else B:=by
 by_cases h:c
 ·rw[Fs h]
  exact h1 h
 ·rw[Fl h]
  exact h2 h
def al (H H':Hp):Prop:=∀b o,H b=some o->H' b=some o
theorem al.refl (H:Hp):al H H:=λ_ _ h=>h
theorem al.trans {H H1 H2:Hp}(a:al H H1)(b:al H1 H2):al H H2:=λc o h=>b c o (a c o h)
theorem al.free {H H':Hp}(e:al H H'){l:Fi}(h:H' l=Option.none):H l=Option.none:=by
 cases q:H l with
 |none=>rfl
 |some o =>
  rw[e l o q]at h
  cases h
theorem al.seq {K:GC}{H H':Hp}{a:Fi}{xs:List V}(e:al H H')(h:SqL K H a xs):SqL K H' a xs:=by
 rcases h with(h|⟨o,h⟩)|h
 ·exact .inl (.inl (e _ _ h))
 ·exact .inl (.inr ⟨o,e _ _ h⟩)
 ·exact .inr h
section
variable  {κ:Type}[DecidableEq κ]
end
theorem aA {xs:List V}{z:Int}{j:Nat}{v:V}(e:z=(j:Int))(h:xs[j]? = some v):atI xs z=some v:=by
 rw[e]
 exact qe h
theorem al.made {H H1:Hp}{x dx C:Fi}(nx:H x=Option.none)(nd:H dx=Option.none)(k:∀b o,(upd (upd H dx (.own x)) x (.ins C dx [])) b=some o->b≠x->H1 b=some o):al H H1:=λb o e =>
 k b o (by rw[aq (aO e nx),aq (aO e nd)];exact e) (aO e nx)
end L2
section
namespace LM
open Gla
def ph (ns:List Int):Bool:=ns.all λx=>decide (0<=x)&&decide (x<=65535)
def isL (ns:List Int):Bool:=decide (ns.length=32)&&ph ns
def cn (ns:List Int):Bool:=decide (ns.length % 32=0)&&ph ns
def cnt (ns:List Int):Nat:=ns.length / 32
def lat (ns:List Int)(k:Nat):List Int:=(ns.drop (32*k)).take 32
def apI (xs ys:List Int):Int:=((xs.zip ys).map λp=>(p.1-p.2)*(p.1-p.2)).sum
def thI (xs ys:List Int):List Int:=(xs.zip ys).map λp=>(p.1*p.2+32767) / 65535
def Ef {α:Type}(f:α->Int):List α->Option α
 |[]=>none
 |x :: r=>match Ef f r with
  |none=>some x
  |some y=>if f y<f x then some y else some x
theorem gU:∀{l:List Int},(∀x∈l,0<=x)->(l.map G4).map (λn:Nat=>(n:Int))=l
 |[],_=>rfl
 |x :: r,h=>by
  have h1:=h x FB
  show((x.toNat:Nat):Int) :: (r.map G4).map (λn:Nat=>(n:Int))=x :: r
  rw[gU λy hy=>h y (Fj _ hy)]
  congr 1
  lia
theorem nv:∀{l:List Int},(∀x∈l,0<=x)->l.mapM IC=some (l.map G4)
 |[],_=>rfl
 |x :: r,h=>by
  have h1:=h x FB
  rw[List.mapM_cons,nv λy hy=>h y (Fj _ hy)]
  have e:IC x=some x.toNat:=by
   unfold IC
   rw[Fl (by lia)]
  rw[e]
  rfl
def iY:Nat->List Nat->List (List Nat)
 |0,_=>[]
 |k+1,l=>if l.isEmpty=true then [] else l.take 32 :: iY k (l.drop 32)
theorem lc:∀(k:Nat) {l:List Int},(∀x∈l,0<=x)->LightNeutral.lights k l=some (iY k (l.map G4))
 |0,_,_=>rfl
 |k+1,l,h=>by
  unfold LightNeutral.lights iY
  cases l with
  |nil=>rfl
  |cons a r =>
   rw[Fl (by simp),Fl (by simp)]
   rw[nv λx hx=>h x (GO hx),lc k λx hx=>h x (HJ hx)]
   rw[Ie,Jb]
   rfl
theorem nS:∀(n k:Nat) (l:List Nat),l.length=32*n->n<k->iY k l=(FJ n).map λi=>(l.drop (32*i)).take 32
 |_,0,_,_,h=>absurd h (by lia)
 |0,k+1,l,e,_=>by
  have:l=[]:=Hk.mp (by lia)
  subst this
  rfl
 |n+1,k+1,l,e,h=>by
  unfold iY
  have ne:l.isEmpty=false:=by
   cases l with
   |nil=>simp at e
   |cons a r=>rfl
  rw[ne,Fl (by decide),nS n k (l.drop 32) (by rw[FZ];lia) (by lia),List.range_succ_eq_map,FH,List.map_map]
  congr 1
  apply G6
  intro i _
  simp only[Function.comp]
  rw[List.drop_drop,show 32+32*i=32*(i+1) by lia]
theorem nN:∀(k:Nat) (l:List Nat),l.length<k->¬l.length % 32=0->(iY k l).all lightOk=false
 |0,_,h,_=>absurd h (by lia)
 |k+1,l,h,hm=>by
  unfold iY
  have ne:l.isEmpty=false:=by
   cases l with
   |nil=>exact absurd rfl hm
   |cons a r=>rfl
  rw[ne,Fl (by decide),List.all_cons]
  by_cases c:l.length<32
  ·have:lightOk (l.take 32)=false:=by
    unfold lightOk
    have:((l.take 32).length==BANDS)=false:=by
     rw[Gr]
     simp only[BANDS,GR,ne_eq]
     intro e
     have:l.length≠0:=by intro z;rw[z]at hm;exact hm rfl
     lia
    rw[this]
    rfl
   rw[this]
   rfl
  ·rw[nN k (l.drop 32) (by rw[FZ];lia) (by rw[FZ];lia),Bool.and_false]
theorem gP {ns:List Int}:ph ns=true↔∀x∈ns,0<=x/\x<=65535:=by
 unfold ph
 rw[Gx]
 constructor
 ·intro h x hx
  have:=h x hx
  simp only[Fn,Fq]at this
  exact this
 ·intro h x hx
  simp only[Fn,Fq]
  exact h x hx
theorem iM {l:List Nat}:lightOk l=true↔l.length=32/\∀x∈l,x<=65535:=by
 unfold lightOk
 simp only[Fn,IF,Gx,BANDS,FULL]
 exact and_congr Iff.rfl ⟨λh x hx=>Ff (h x hx),λh x hx=>dqt (h x hx)⟩
theorem uN {a b:Bool}(h:a=true↔b=true):a=b:=by
 cases a<;>cases b<;>simp_all
theorem nY {ws:List Int}(h:∀x∈ws,0<=x):lightOk (ws.map G4)=isL ws:=by
 apply uN
 rw[iM]
 unfold isL
 rw[Fn,gP,Fq,lmp]
 constructor
 ·rintro⟨h1,h2⟩
  refine⟨h1,λx hx=>⟨h x hx,?_⟩⟩
  have:=h2 x.toNat (List.mem_map_of_mem hx)
  have:=h x hx
  lia
 ·rintro⟨h1,h2⟩
  refine⟨h1,λy hy=>?_⟩
  obtain⟨x,hx,rfl⟩:=Gc.mp hy
  have:=h2 x hx
  lia
def aV (gs:List Int):List (List Nat):=iY (gs.length+1) (gs.map G4)
theorem d3 {gs:List Int}(hm:gs.length % 32=0):aV gs=(FJ (cnt gs)).map λi=>(lat gs i).map G4:=by
 unfold aV
 rw[nS (cnt gs) _ _ (by rw[lmp];unfold cnt;lia) (by unfold cnt;lia)]
 apply G6
 intro i _
 unfold lat
 rw[Ie,Jb]
theorem uj {gs:List Int}(h:∀x∈gs,0<=x):(aV gs).all lightOk=cn gs:=by
 by_cases hm:gs.length % 32=0
 ·rw[d3 hm]
  apply uN
  unfold cn
  rw[Fn,gP,Fq,Gx]
  constructor
  ·intro q
   refine⟨hm,λx hx=>⟨h x hx,?_⟩⟩
   obtain⟨j,hj,e⟩:=List.mem_iff_getElem.mp hx
   have q1:=q ((lat gs (j / 32)).map G4) (List.mem_map_of_mem (GJ.mpr (by unfold cnt;lia)))
   have q2:=(iM.mp q1).2 x.toNat (List.mem_map_of_mem ?_)
   ·have:=h x hx
    lia
   ·unfold lat
    rw[Ig]
    refine⟨j % 32,?_⟩
    rw[List.getElem?_take,Fs (by lia),List.getElem?_drop,show 32*(j / 32)+j % 32=j by lia,gge hj,e]
  ·rintro⟨_,q⟩ l hl
   obtain⟨i,hi,rfl⟩:=Gc.mp hl
   have hi:=GJ.mp hi
   rw[iM,lmp]
   refine⟨?_,λy hy=>?_⟩
   ·unfold lat
    rw[Gr,FZ]
    unfold cnt at hi
    lia
   ·obtain⟨x,hx,rfl⟩:=Gc.mp hy
    have:=q x (HJ (GO hx))
    lia
 ·unfold aV
  rw[nN _ _ (by rw[lmp];lia) (by rw[lmp];exact hm)]
  unfold cn
  rw[dqf hm]
  rfl
theorem zi (a b:Nat):((bandThrough a b:Nat):Int)=((a:Int)*b+32767) / 65535:=by
 unfold bandThrough FULL
 have e:((a:Int)*b)=((a*b:Nat):Int):=(Int.natCast_mul a b).symm
 rw[e,Nat.mul_assoc]
 generalize a*b=m
 lia
theorem mz:∀(a b:List Nat),(throughBoth a b).map (λn:Nat=>(n:Int))=thI (a.map λn:Nat=>(n:Int)) (b.map λn:Nat=>(n:Int))
 |[],_=>by unfold throughBoth thI;simp
 |_ :: _,[]=>by unfold throughBoth thI;simp
 |x :: r,y :: t=>by
  have ih:=mz r t
  unfold throughBoth thI at ih ⊢
  simp only[List.zipWith_cons_cons,FH,HA]
  rw[<-ih,zi]
theorem nX {xs ys:List Int}(hx:∀x∈xs,0<=x)(hy:∀y∈ys,0<=y):(throughBoth (xs.map G4) (ys.map G4)).map (λn:Nat=>(n:Int))=thI xs ys:=by
 rw[mz,gU hx,gU hy]
theorem ox {xs ys:List Int}(hx:∀x∈xs,0<=x)(hy:∀y∈ys,0<=y):(thI xs ys).map G4=throughBoth (xs.map G4) (ys.map G4):=by
 rw[<-nX hx hy,List.map_map]
 conv=>rhs;rw[<-List.map_id (throughBoth (xs.map G4) (ys.map G4))]
 apply G6
 intro n _
 simp
def uG (gs ws:List Int)(i:Nat):Int:=apI (lat gs i) ws
theorem qK {gs:List Int}(hm:gs.length % 32=0){i:Nat}(hi:i<cnt gs):(aV gs).getD i []=(lat gs i).map G4:=by
 rw[d3 hm,FG,FA,HR hi]
 rfl
theorem jT {gs:List Int}(h:cn gs=true):gs.length % 32=0:=by
 unfold cn at h
 rw[Fn,Fq]at h
 exact h.1
end LM
end
section
namespace WL
def tr6 (ax ay bx by' cx cy:Int):Int:=(bx-ax)*(cy-by')-(by'-ay)*(cx-bx)
theorem idA (ux uy wx wy px py qx qy:Int) :
 -(qy-py)*tr6 ux uy wx wy px py=(wy-uy)*tr6 px py qx qy ux uy+(tr6 px py qx qy wx wy-tr6 px py qx qy ux uy)*(py-uy):=by
 unfold tr6;grind
theorem idB (ux uy wx wy px py qx qy:Int) :
 -(qy-py)*tr6 ux uy wx wy qx qy=(wy-uy)*tr6 px py qx qy ux uy+(tr6 px py qx qy wx wy-tr6 px py qx qy ux uy)*(qy-uy):=by
 unfold tr6;grind
theorem rW (a b A B C D K py qy uy wy:Int)(ha:a=wy-uy)(hb:b=qy-py)(hK:K=D-C)
 (h1:-b*A=a*C+K*(py-uy)) (h2:-b*B=a*C+K*(qy-uy)) (ha0:0<a) (hb0:0<b)
 (hp:py<=uy) (hq:uy<qy) (hw:qy<=wy) (hC:0<C) (hB:0<B):A<0/\D<0:=by
 have e1:0<a*C:=Fw ha0 hC
 have e2:0<b*B:=Fw hb0 hB
 have e3:K*(qy-uy)<0:=by grind
 have e4:K<0:=by
  apply bcn;intro h
  have:0<=K*(qy-uy):=Fo (by lia) (by lia)
  lia
 have e5:0<=K*(py-uy):=by
  have:0<=(-K)*(uy-py):=Fo (by lia) (by lia)
  grind
 have e6:0 < -b*A:=by lia
 constructor
 ·apply bcn;intro h
  have:0<=b*A:=Fo (by lia) (by lia)
  grind
 ·have e7:a*D=a*C+K*(qy-uy)+K*(wy-qy):=by grind
  have e8:K*(wy-qy)<=0:=by
   have:0<=(-K)*(wy-qy):=Fo (by lia) (by lia)
   grind
  have e9:a*D<0:=by grind
  apply bcn;intro h
  have:0<=a*D:=Fo (by lia) (by lia)
  lia
structure Dr where
 n:Nat
 X:Nat->Int
 Y:Nat->Int
 J:Nat->Nat->Prop
def Dr.tr (d:Dr)(i j k:Nat):Int:=tr6 (d.X i) (d.Y i) (d.X j) (d.Y j) (d.X k) (d.Y k)
def Dr.on (d:Dr)(i j k:Nat):Prop :=
 d.tr i j k=0/\min (d.X i) (d.X j)<=d.X k/\d.X k<=max (d.X i) (d.X j)/\min (d.Y i) (d.Y j)<=d.Y k/\d.Y k<=max (d.Y i) (d.Y j)
structure eF (d:Dr):Prop where
 symm:∀{i j},d.J i j->d.J j i
 lt:∀{i j},d.J i j->i<d.n
 ne:∀{i j},d.J i j->i≠j
 ord:∀{i j},i<j->j<d.n->d.Y i<d.Y j\/(d.Y i=d.Y j/\d.X i<d.X j)
 nocross:∀{i j k l},d.J i j->d.J k l->¬(d.tr i j k*d.tr i j l<0/\d.tr k l i*d.tr k l j<0)
 nopt:∀{i j k},d.J i j->k<d.n->k≠i->k≠j->¬d.on i j k
theorem az (a b:Int)(ha:0<a)(hb:b<0):a*b<0:=Int.mul_neg_of_pos_of_neg ha hb
theorem cq (a b:Int)(ha:a<0)(hb:0<b):a*b<0:=Int.mul_neg_of_neg_of_pos ha hb
theorem ck (d:Dr){i j k}(h0:d.tr i j k=0)(h:d.Y i<d.Y j)(h1:d.Y i<=d.Y k)(h2:d.Y k<=d.Y j):d.on i j k:=by
 refine⟨h0,?_,?_,by lia,by lia⟩
 ·apply bcn;intro hc
  have c1:d.X k<d.X i:=by lia
  have c2:d.X k<d.X j:=by lia
  have e:(d.Y j-d.Y k)*(d.X k-d.X i)+(d.Y k-d.Y i)*(d.X k-d.X j)=0:=by
   unfold Dr.tr tr6 at h0;grind
  by_cases hz:d.Y k=d.Y i
  ·have:(d.Y j-d.Y k)*(d.X k-d.X i)<0:=az _ _ (by lia) (by lia)
   have:(d.Y k-d.Y i)*(d.X k-d.X j)=0:=by rw[hz];simp
   lia
  ·have t1:(d.Y k-d.Y i)*(d.X k-d.X j)<0:=az _ _ (by lia) (by lia)
   have t2:0<=(d.Y j-d.Y k)*(d.X i-d.X k):=Fo (by lia) (by lia)
   grind
 ·apply bcn;intro hc
  have c1:d.X k > d.X i:=by lia
  have c2:d.X k > d.X j:=by lia
  have e:(d.Y j-d.Y k)*(d.X k-d.X i)+(d.Y k-d.Y i)*(d.X k-d.X j)=0:=by
   unfold Dr.tr tr6 at h0;grind
  by_cases hz:d.Y k=d.Y i
  ·have:0<(d.Y j-d.Y k)*(d.X k-d.X i):=Fw (by lia) (by lia)
   have:(d.Y k-d.Y i)*(d.X k-d.X j)=0:=by rw[hz];simp
   lia
  ·have t1:0<(d.Y k-d.Y i)*(d.X k-d.X j):=Fw (by lia) (by lia)
   have t2:0<=(d.Y j-d.Y k)*(d.X k-d.X i):=Fo (by lia) (by lia)
   grind
theorem j5 (d:Dr)(i j k:Nat):d.tr j i k=- d.tr i j k:=by unfold Dr.tr tr6;grind
theorem de (d:Dr)(i j k:Nat):d.tr i k j=- d.tr i j k:=by unfold Dr.tr tr6;grind
theorem kH (d:Dr)(i j k:Nat):d.tr j k i=d.tr i j k:=by unfold Dr.tr tr6;grind
theorem kr (d:Dr)(i j:Nat):d.tr i j i=0:=by unfold Dr.tr tr6;grind
theorem cH (d:Dr)(i j:Nat):d.tr i j j=0:=by unfold Dr.tr tr6;grind
theorem yB (d:Dr){i j k}(h:d.on i j k):d.on j i k:=by
 obtain⟨h0,h1,h2,h3,h4⟩:=h
 refine⟨by rw[j5];lia,by lia,by lia,by lia,by lia⟩
variable  {d:Dr}
theorem L1 (g:eF d){u w p q:Nat}(huw:d.J u w)(hpq:d.J p q)(h1:d.Y p<=d.Y u)(h2:d.Y u<d.Y q)(h3:d.Y q<=d.Y w)
  (hpu:p≠u) (hqw:q≠w):(d.tr u w q<0/\0<d.tr p q u)\/(0<d.tr u w q/\d.tr p q u<0):=by
 have hun:u<d.n:=g.lt huw
 have hqn:q<d.n:=g.lt (g.symm hpq)
 have nB:d.tr u w q≠0:=by
  intro h
  refine g.nopt huw hqn ?_ hqw (ck d h (by lia) (by lia) h3)
  intro e;subst e;lia
 have nC:d.tr p q u≠0:=by
  intro h
  refine g.nopt hpq hun (FQ hpu) ?_ (ck d h (by lia) (by lia) (by lia))
  intro e;subst e;lia
 have i1:=idA (d.X u) (d.Y u) (d.X w) (d.Y w) (d.X p) (d.Y p) (d.X q) (d.Y q)
 have i2:=idB (d.X u) (d.Y u) (d.X w) (d.Y w) (d.X p) (d.Y p) (d.X q) (d.Y q)
 have n1:=g.nocross huw hpq
 by_cases hB:0<d.tr u w q
 ·by_cases hC:0<d.tr p q u
  ·exfalso
   obtain⟨a1,a2⟩:=rW (d.Y w-d.Y u) (d.Y q-d.Y p) (d.tr u w p) (d.tr u w q) (d.tr p q u) (d.tr p q w) _ (d.Y p) (d.Y q) (d.Y u) (d.Y w) rfl rfl rfl i1 i2 (by lia) (by lia) h1 h2 h3 hC hB
   exact n1 ⟨cq _ _ a1 hB,az _ _ hC a2⟩
  ·right;exact⟨hB,by lia⟩
 ·by_cases hC:0<d.tr p q u
  ·left;exact⟨by lia,hC⟩
  ·exfalso
   have j1:-(d.Y q-d.Y p)*(- d.tr u w p)=(d.Y w-d.Y u)*(- d.tr p q u)+((- d.tr p q w)-(- d.tr p q u))*(d.Y p-d.Y u):=by
    unfold Dr.tr;grind
   have j2:-(d.Y q-d.Y p)*(- d.tr u w q)=(d.Y w-d.Y u)*(- d.tr p q u)+((- d.tr p q w)-(- d.tr p q u))*(d.Y q-d.Y u):=by
    unfold Dr.tr;grind
   obtain⟨a1,a2⟩:=rW (d.Y w-d.Y u) (d.Y q-d.Y p) (- d.tr u w p) (- d.tr u w q) (- d.tr p q u) (- d.tr p q w) _ (d.Y p) (d.Y q) (d.Y u) (d.Y w) rfl rfl rfl j1 j2 (by lia) (by lia) h1 h2 h3 (by lia) (by lia)
   exact n1 ⟨az _ _ (by lia) (by lia),cq _ _ (by lia) (by lia)⟩
theorem oz (a b A B C D K py qy uy wy:Int)(ha:a=wy-uy)(hb:b=qy-py)(hK:K=D-C)
 (h1:-b*A=a*C+K*(py-uy)) (h2:-b*B=a*C+K*(qy-uy)) (ha0:0<a) (hb0:0<b)
 (hp:py<=uy) (hw:wy<=qy) (hC:0<C) (hD:D<0):A<0/\0<B:=by
 have e1:0<a*C:=Fw ha0 hC
 have e4:K<0:=by lia
 have e5:0<=K*(py-uy):=by
  have:0<=(-K)*(uy-py):=Fo (by lia) (by lia)
  grind
 have e7:a*D<0:=az _ _ ha0 hD
 have e8:a*D=a*C+K*(wy-uy):=by grind
 have e9:K*(qy-wy)<=0:=by
  have:0<=(-K)*(qy-wy):=Fo (by lia) (by lia)
  grind
 have e10:-b*B<0:=by grind
 constructor
 ·apply bcn;intro h
  have:0<=b*A:=Fo (by lia) (by lia)
  grind
 ·apply bcn;intro h
  have:0<=b*(-B):=Fo (by lia) (by lia)
  grind
theorem L2 (g:eF d){u w p q:Nat}(huw:d.J u w)(hpq:d.J p q)(h1:d.Y p<=d.Y u)(h2:d.Y u<d.Y w)(h3:d.Y w<=d.Y q)
  (hpu:p≠u) (hqw:q≠w):(d.tr p q u<0/\d.tr p q w<0)\/(0<d.tr p q u/\0<d.tr p q w):=by
 have hun:u<d.n:=g.lt huw
 have hwn:w<d.n:=g.lt (g.symm huw)
 have nC:d.tr p q u≠0:=by
  intro h
  refine g.nopt hpq hun (FQ hpu) ?_ (ck d h (by lia) (by lia) (by lia))
  intro e;subst e;lia
 have nD:d.tr p q w≠0:=by
  intro h
  refine g.nopt hpq hwn ?_ (FQ hqw) (ck d h (by lia) (by lia) (by lia))
  intro e;subst e;lia
 have i1:=idA (d.X u) (d.Y u) (d.X w) (d.Y w) (d.X p) (d.Y p) (d.X q) (d.Y q)
 have i2:=idB (d.X u) (d.Y u) (d.X w) (d.Y w) (d.X p) (d.Y p) (d.X q) (d.Y q)
 have n1:=g.nocross huw hpq
 by_cases hC:0<d.tr p q u
 ·by_cases hD:0<d.tr p q w
  ·right;exact⟨hC,hD⟩
  ·exfalso
   obtain⟨a1,a2⟩:=oz (d.Y w-d.Y u) (d.Y q-d.Y p) (d.tr u w p) (d.tr u w q) (d.tr p q u) (d.tr p q w) _ (d.Y p) (d.Y q) (d.Y u) (d.Y w) rfl rfl rfl i1 i2 (by lia) (by lia) h1 h3 hC (by lia)
   exact n1 ⟨cq _ _ a1 a2,az _ _ hC (by lia)⟩
 ·by_cases hD:0<d.tr p q w
  ·exfalso
   have j1:-(d.Y q-d.Y p)*(- d.tr u w p)=(d.Y w-d.Y u)*(- d.tr p q u)+((- d.tr p q w)-(- d.tr p q u))*(d.Y p-d.Y u):=by
    unfold Dr.tr;grind
   have j2:-(d.Y q-d.Y p)*(- d.tr u w q)=(d.Y w-d.Y u)*(- d.tr p q u)+((- d.tr p q w)-(- d.tr p q u))*(d.Y q-d.Y u):=by
    unfold Dr.tr;grind
   obtain⟨a1,a2⟩:=oz (d.Y w-d.Y u) (d.Y q-d.Y p) (- d.tr u w p) (- d.tr u w q) (- d.tr p q u) (- d.tr p q w) _ (d.Y p) (d.Y q) (d.Y u) (d.Y w) rfl rfl rfl j1 j2 (by lia) (by lia) h1 h3 (by lia) (by lia)
   exact n1 ⟨az _ _ (by lia) (by lia),cq _ _ (by lia) (by lia)⟩
  ·left;exact⟨by lia,by lia⟩
def Dr.base (d:Dr)(u p q:Nat):Bool:=decide (u≠p/\u≠q/\d.Y p<=d.Y u/\d.Y u<d.Y q/\0<d.tr p q u)
def Dr.pre (d:Dr)(u b w:Nat):Bool:=decide (b=w\/(u<b/\w<u)\/(((u<b/\u<w)\/(b<u/\w<u))/\0<d.tr u b w))
def Dr.Om (d:Dr)(u w p q:Nat):Bool :=
 (d.base u p q^^decide (p=u/\d.Y q=d.Y u))^^((decide (p=u)&&d.pre u q w)^^(decide (q=u)&&d.pre u p w))
def Dr.Psi (d:Dr)(u w v:Nat):Bool :=
 if d.Y u<d.Y w then decide (d.Y u<d.Y v/\d.Y v<=d.Y w/\d.tr u w v<0)^^decide (v=w) else false
variable  {d:Dr}
theorem ka (d:Dr)(i j k:Nat)(h:d.Y k=d.Y i):d.tr i j k=(d.Y j-d.Y i)*(d.X i-d.X k):=by
 unfold Dr.tr tr6;grind
theorem oQ (d:Dr)(i j k:Nat)(h:d.Y k=d.Y j):d.tr i j k=(d.Y j-d.Y i)*(d.X j-d.X k):=by
 unfold Dr.tr tr6;grind
theorem el (d:Dr)(i j k:Nat)(h:d.Y i=d.Y j):d.tr i j k=(d.X j-d.X i)*(d.Y k-d.Y j):=by
 unfold Dr.tr tr6;grind
theorem a8 {a b:Int}(ha:0<a):(0<a*b↔0<b):=by
 constructor
 ·intro h;apply bcn;intro hb
  have:0<=a*(-b):=Fo (by lia) (by lia)
  grind
 ·intro h;exact Fw ha h
theorem em {a b:Int}(ha:0<a):(a*b<0↔b<0):=by
 constructor
 ·intro h;apply bcn;intro hb
  have:0<=a*b:=Fo (by lia) (by lia)
  lia
 ·intro h;exact az _ _ ha h
theorem nz (g:eF d){u w v:Nat}(huw:d.J u w)(hv:v<d.n)(h:d.Y u<d.Y w)(h1:d.Y u<=d.Y v)(h2:d.Y v<=d.Y w)
  (hu:v≠u) (hw:v≠w):d.tr u w v≠0:=by
 intro h0
 exact g.nopt huw hv hu hw (ck d h0 h h1 h2)
theorem qd (g:eF d){u w p q:Nat}(huw:d.J u w)(hpq:d.J p q)(h1:u<w)(h2:p<q)(hy:d.Y u<d.Y w)(hf:d.Y p=d.Y q) :
  ((d.Om u w p q^^d.Om w u p q)^^decide (p=u/\q=w))=(d.Psi u w p^^d.Psi u w q):=by
 have hpn:=g.lt hpq
 have hqn:=g.lt (g.symm hpq)
 have hwn:=g.lt (g.symm huw)
 have hun:=g.lt huw
 have hx:d.X p<d.X q:=by rcases g.ord h2 hqn with h|h<;>lia
 have sA:∀k,d.Y k=d.Y w->(d.tr u w k<0↔d.X w<d.X k):=by
  intro k hk;rw[oQ d u w k hk,em (by lia)];lia
 have mv:d.tr u w q<d.tr u w p:=by
  have:d.tr u w p-d.tr u w q=(d.Y w-d.Y u)*(d.X q-d.X p):=by unfold Dr.tr tr6;grind
  have:0<(d.Y w-d.Y u)*(d.X q-d.X p):=Fw (by lia) (by lia)
  lia
 have c1:=de d u q w
 have c2:=kH d u w p
 have c3:=kH d w p u
 have base1:d.base u p q=false:=by simp[Dr.base];intros;lia
 have base2:d.base w p q=false:=by simp[Dr.base];intros;lia
 simp only[Dr.Om,base1,base2,Dr.Psi,hy,if_true]
 by_cases hpu:p=u
 ·subst hpu
  have t1:0<d.tr p q w:=by
   rw[el d p q w hf];exact Fw (by lia) (by lia)
  have n1:q≠w:=by intro e;subst e;lia
  have n2:p≠w:=by lia
  have n3:q≠p:=by lia
  simp[Dr.pre,n1,n2,n3,hf,t1,h1,h2]
 by_cases hqu:q=u
 ·subst hqu
  have n1:q≠w:=by lia
  have n2:p≠w:=by lia
  have n3:p≠q:=by lia
  have n4:¬q<p:=by lia
  have n5:¬w<q:=by lia
  have n6:¬q<q:=by lia
  simp[Dr.pre,n1,n2,n3,n4,n5,n6]
  lia
 by_cases hpw:p=w
 ·subst hpw
  have n1:q≠p:=by lia
  have:d.tr u p q<0:=(sA q (by lia)).2 hx
  have z:d.tr u p p=0:=cH d u p
  simp[Dr.pre,n1,hqu,hpu,hf,h2,h1,this,z,hy]
  rw[<-hf];simp[hy]
 by_cases hqw:q=w
 ·subst hqw
  have n1:p≠q:=by lia
  have z:d.tr u q q=0:=cH d u q
  have a1:¬d.tr u q p<0:=by rw[sA p hf];lia
  have a2:=nz g huw hpn hy (by lia) (by lia) hpu hpw
  have a3:0<d.tr q p u:=by
   have:=kH d u q p;lia
  simp[Dr.pre,n1,hpu,hqu,hpw,a1,z,a3]
  lia
 ·
  have goal:(d.Y u<d.Y p/\d.Y p<=d.Y w/\d.tr u w p<0)↔(d.Y u<d.Y q/\d.Y q<=d.Y w/\d.tr u w q<0):=by
   rw[hf]
   by_cases hr:d.Y u<d.Y q/\d.Y q<=d.Y w
   ·obtain⟨r1,r2⟩:=hr
    simp only[r1,r2,true_and]
    constructor
    ·intro h;lia
    ·intro h
     apply bcn;intro hn
     have a2:=nz g huw hpn hy (by lia) (by lia) hpu hpw
     have a3:0<d.tr u w p:=by lia
     by_cases he:d.Y q=d.Y w
     ·have b1:=(sA q he).1 h
      have b2:¬d.X w<d.X p:=by rw[<-sA p (by lia)];lia
      refine g.nopt hpq hwn (FQ hpw) (FQ hqw) ⟨?_,by lia,by lia,by lia,by lia⟩
      rw[el d p q w hf,he];simp
     ·refine g.nocross huw hpq ⟨az _ _ a3 h,?_⟩
      rw[el d p q u hf,el d p q w hf]
      have e1:(d.X q-d.X p)*(d.Y u-d.Y q)<0:=az _ _ (by lia) (by lia)
      have e2:0<(d.X q-d.X p)*(d.Y w-d.Y q):=Fw (by lia) (by lia)
      exact cq _ _ e1 e2
   ·constructor
    ·intro h;exact absurd ⟨h.1,h.2.1⟩ hr
    ·intro h;exact absurd ⟨h.1,h.2.1⟩ hr
  simp only[hpu,hqu,hpw,hqw,goal,false_and,IN,Go,GZ,IA]
theorem sE (g:eF d){u w p q:Nat}(huw:d.J u w)(hpq:d.J p q)(h1:u<w)(h2:p<q)(hy:d.Y u<d.Y w)(hf:d.Y p<d.Y q) :
  ((d.Om u w p q^^d.Om w u p q)^^decide (p=u/\q=w))=(d.Psi u w p^^d.Psi u w q):=by
 have hpn:=g.lt hpq
 have hqn:=g.lt (g.symm hpq)
 have hwn:=g.lt (g.symm huw)
 have hun:=g.lt huw
 have o1:∀{i j},i<j->j<d.n->d.Y i<=d.Y j:=by
  intro i j h h';rcases g.ord h h' with h|h<;>lia
 simp only[Dr.Om,Dr.base,Dr.Psi,hy,if_true]
 by_cases hpu:p=u
 ·subst hpu
  have s1:=de d p q w
  have n3:q≠p:=by lia
  have n4:p≠w:=by lia
  have hYq:d.Y q≠d.Y p:=by lia
  by_cases hqw:q=w
  ·subst hqw
   have z:d.tr p q q=0:=cH d p q
   simp[Dr.pre,n3,n4,z,hYq]
  ·have a2:d.Y q<=d.Y w->d.tr p w q≠0:=λhh=>nz g huw hqn hy (by lia) hh n3 hqw
   simp[Dr.pre,n3,n4,hqw,h1,h2,hYq,hf]
   by_cases hh:d.Y q<=d.Y w
   ·have b1:¬d.Y w<d.Y q:=by lia
    simp[hh,b1];grind
   ·have b1:d.Y w<d.Y q:=by lia
    have b2:d.Y p<=d.Y w:=by lia
    simp[hh,b1,b2,FQ n4,FQ hqw]
    lia
 by_cases hqu:q=u
 ·subst hqu
  have n1:q≠w:=by lia
  have n2:p≠w:=by lia
  have n3:p≠q:=by lia
  have n4:¬q<p:=by lia
  have n5:¬w<q:=by lia
  have n6:¬q<q:=by lia
  have n7:¬d.Y w<d.Y q:=by lia
  have n8:¬d.Y q<d.Y p:=by lia
  simp[Dr.pre,n1,n2,n3,n4,n5,n6,n7,n8]
 by_cases hpw:p=w
 ·subst hpw
  have n1:q≠p:=by lia
  have z:d.tr u p p=0:=cH d u p
  have n2:¬d.Y p<=d.Y u:=by lia
  have n3:¬d.Y q=d.Y p:=by lia
  have n4:¬d.Y q<=d.Y p:=by lia
  simp[Dr.pre,n1,hqu,hpu,h2,h1,z,n2,n3,n4]
 by_cases hqw:q=w
 ·subst hqw
  have n1:p≠q:=by lia
  have z:d.tr u q q=0:=cH d u q
  have s1:=kH d u q p
  have s2:=j5 d p q u
  have s3:=kH d p u q
  have n2:¬q<p:=by lia
  simp[Dr.pre,n1,hpu,hqu,hpw,FQ hpu,FQ hqu,z,n2,h1,h2]
  by_cases hh:d.Y p<=d.Y u
  ·have b1:¬d.Y u<d.Y p:=by lia
   simp[hh,b1,hy];
   have t:d.tr p q u≠0:=nz g hpq hun hf hh (by lia) (FQ hpu) (FQ hqu)
   grind
  ·have b1:d.Y u<d.Y p:=by lia
   have t:d.tr u q p≠0:=nz g huw hpn hy (by lia) (by lia) hpu hpw
   have b2:d.Y p<=d.Y q:=by lia
   simp[hh,b1,b2]
   grind
 ·simp only[hpu,hqu,hpw,hqw,FQ hpu,FQ hqu,FQ hpw,FQ hqw,false_and,IN,Go,GZ,ne_eq,not_false_eq_true,true_and]
  by_cases c1:d.Y q<=d.Y u
  ·have b1:¬d.Y u<d.Y q:=by lia
   have b2:¬d.Y w<d.Y q:=by lia
   have b3:¬d.Y u<d.Y p:=by lia
   simp[b1,b2,b3]
  by_cases c2:d.Y w<d.Y p
  ·have b1:¬d.Y p<=d.Y u:=by lia
   have b2:¬d.Y q<=d.Y w:=by lia
   have b3:¬d.Y p<=d.Y w:=by lia
   simp[b1,b2,b3]
  have c1':d.Y u<d.Y q:=by lia
  have c2':d.Y p<=d.Y w:=by lia
  by_cases c3:d.Y p<=d.Y u
  ·have c3':¬d.Y u<d.Y p:=by lia
   by_cases c4:d.Y q<=d.Y w
   ·have c4':¬d.Y w<d.Y q:=by lia
    have:=L1 g huw hpq c3 c1' c4 hpu hqw
    simp[c3,c3',c4,c4',c1',c2']
    grind
   ·have c4':d.Y w<d.Y q:=by lia
    have:=L2 g huw hpq c3 hy (by lia) hpu hqw
    simp[c3,c3',c4,c4',c1',c2']
    grind
  ·have c3':d.Y u<d.Y p:=by lia
   by_cases c4:d.Y q<=d.Y w
   ·have c4':¬d.Y w<d.Y q:=by lia
    have:=L2 g hpq huw (by lia) hf c4 (FQ hpu) (FQ hqw)
    simp[c3,c3',c4,c4',c1',c2']
    grind
   ·have c4':d.Y w<d.Y q:=by lia
    simp[c3,c3',c4,c4',c1',c2']
    by_cases c5:d.Y p=d.Y w
    ·have e1:=oQ d u w p c5
     have e2:=ka d p q w c5.symm
     rw[e1,e2]
     have e3:=@em (d.Y w-d.Y u) (d.X w-d.X p) (by lia)
     have e4:=@a8 (d.Y q-d.Y p) (d.X p-d.X w) (by lia)
     rw[e3,e4];lia
    ·have:=L1 g hpq huw (by lia) (by lia) (by lia) (FQ hpu) (FQ hqw)
     grind
theorem vc (g:eF d){u w p q:Nat}(huw:d.J u w)(hpq:d.J p q)(h1:u<w)(h2:p<q)(hy:d.Y u=d.Y w) :
  ((d.Om u w p q^^d.Om w u p q)^^decide (p=u/\q=w))=(d.Psi u w p^^d.Psi u w q):=by
 have hpn:=g.lt hpq
 have hqn:=g.lt (g.symm hpq)
 have hwn:=g.lt (g.symm huw)
 have hun:=g.lt huw
 have hx:d.X u<d.X w:=by rcases g.ord h1 hwn with h|h<;>lia
 have hnn:¬d.Y u<d.Y w:=by lia
 have fl:=λk=>el d u w k hy
 have onrow:∀k,k<d.n->d.Y k=d.Y u->d.X u<=d.X k->d.X k<=d.X w->k=u\/k=w:=by
  intro k hk e x1 x2
  apply bcn;intro hc
  refine g.nopt huw hk (by lia) (by lia) ⟨?_,by lia,by lia,by lia,by lia⟩
  rw[fl,e,hy];simp
 have ordX:∀{i j},i<j->j<d.n->d.Y i=d.Y j->d.X i<d.X j:=by
  intro i j h h' e;rcases g.ord h h' with h|h<;>lia
 have ordY:∀{i j},i<j->j<d.n->d.Y i<=d.Y j:=by
  intro i j h h';rcases g.ord h h' with h|h<;>lia
 simp only[Dr.Om,Dr.base,Dr.Psi,hnn,I0,GZ]
 by_cases hpu:p=u
 ·subst hpu
  have n3:q≠p:=by lia
  have n4:p≠w:=by lia
  have preE:d.pre p q w=decide (q=w):=by
   unfold Dr.pre
   rw[Fz]
   constructor
   ·rintro(h|h|h)
    ·exact h
    ·lia
    ·exfalso
     by_cases e:d.Y q=d.Y p
     ·have:=onrow q hqn e (by have:=ordX h2 hqn e.symm;lia)
      have t:=h.2
      rw[de d p w q,fl,e,hy]at t;simp at t
     ·have t:=h.2
      have:=ordY h2 hqn
      rw[de d p w q,fl]at t
      have:0<(d.X w-d.X p)*(d.Y q-d.Y w):=Fw (by lia) (by lia)
      lia
   ·intro h;exact G3 h
  by_cases e:d.Y q=d.Y p
  ·have xq:=ordX h2 hqn e.symm
   have hqw:q=w:=by
    apply bcn;intro hc
    by_cases hl:d.X q<=d.X w
    ·rcases onrow q hqn e (by lia) hl with h|h<;>lia
    ·refine g.nopt hpq hwn (by lia) (FQ hc) ⟨?_,by lia,by lia,by lia,by lia⟩
     rw[el d p q w e.symm,e,hy];simp
   subst hqw
   have nn:¬q<q:=by lia
   simp[n3,n4,preE,e]
   simp[Dr.pre]
  ·have hqw:q≠w:=by intro h;subst h;lia
   have:=ordY h2 hqn
   have hf:d.Y p<d.Y q:=by lia
   have t:¬0<d.tr p q w:=by
    rw[de d p w q,fl]
    have:0<(d.X w-d.X p)*(d.Y q-d.Y w):=Fw (by lia) (by lia)
    lia
   simp[n3,n4,preE,e,hqw,t]
 by_cases hqu:q=u
 ·subst hqu
  have n1:q≠w:=by lia
  have n2:p≠w:=by lia
  have n3:p≠q:=by lia
  have n4:¬q<p:=by lia
  have n5:¬w<q:=by lia
  have n6:¬q<q:=by lia
  have n7:¬d.Y w<d.Y q:=by lia
  simp[Dr.pre,n1,n2,n3,n4,n5,n6,n7]
 by_cases hpw:p=w
 ·subst hpw
  have n1:q≠p:=by lia
  have oy:=ordY h2 hqn
  by_cases e:d.Y q=d.Y p
  ·have n3:¬d.Y u<d.Y q:=by lia
   simp[Dr.pre,n1,hqu,hpu,h2,h1,e]
   lia
  ·have n3:d.Y u<d.Y q:=by lia
   have n4:d.Y p<=d.Y u:=by lia
   have t:0<d.tr p q u:=by
    rw[ka d p q u hy];exact Fw (by lia) (by lia)
   simp[Dr.pre,n1,hqu,hpu,FQ hpu,FQ hqu,h2,h1,n3,n4,e,t]
 by_cases hqw:q=w
 ·subst hqw
  have n1:p≠q:=by lia
  have n2:¬q<p:=by lia
  have oy:=ordY h2 hqn
  have n5:¬d.Y u<d.Y q:=by lia
  have n6:¬q<q:=by lia
  have t:¬0<d.tr q p u:=by
   rw[kH d u q p,fl]
   have:0<=(d.X q-d.X u)*(d.Y q-d.Y p):=Fo (by lia) (by lia)
   grind
  simp[Dr.pre,n1,hpu,hqu,n5,n2,t]
 ·simp only[hpu,hqu,hpw,hqw,FQ hpu,FQ hqu,FQ hpw,FQ hqw,false_and,IN,Go,GZ,ne_eq,not_false_eq_true,true_and]
  by_cases c:d.Y p<=d.Y u/\d.Y u<d.Y q
  ·obtain⟨c1,c2⟩:=c
   have c3:d.Y p<=d.Y w:=by lia
   have c4:d.Y w<d.Y q:=by lia
   have mv:d.tr p q u-d.tr p q w=(d.Y q-d.Y p)*(d.X w-d.X u):=by unfold Dr.tr tr6;grind
   have mv2:0<(d.Y q-d.Y p)*(d.X w-d.X u):=Fw (by lia) (by lia)
   have nD:d.tr p q w≠0:=nz g hpq hwn (by lia) c3 (by lia) (FQ hpw) (FQ hqw)
   have key:0<d.tr p q u->0<d.tr p q w:=by
    intro h
    apply bcn;intro hn
    by_cases e:d.Y p=d.Y u
    ·have e1:=ka d p q u e.symm
     have e2:=ka d p q w (by lia)
     have f1:=(@a8 (d.Y q-d.Y p) (d.X p-d.X u) (by lia)).1 (by lia)
     have f2:=(@em (d.Y q-d.Y p) (d.X p-d.X w) (by lia)).1 (by lia)
     rcases onrow p hpn e (by lia) (by lia) with h|h<;>lia
    ·refine g.nocross huw hpq ⟨?_,az _ _ h (by lia)⟩
     rw[fl,fl]
     exact cq _ _ (az _ _ (by lia) (by lia)) (Fw (by lia) (by lia))
   simp only[c1,c2,c3,c4,true_and]
   have:decide (0<d.tr p q u)=decide (0<d.tr p q w):=by
    rw[Fz]
    constructor
    ·exact key
    ·intro h;lia
   rw[this];simp
  ·have c':¬(d.Y p<=d.Y w/\d.Y w<d.Y q):=by lia
   have e1:¬(d.Y p<=d.Y u/\d.Y u<d.Y q/\0<d.tr p q u):=λh=>c ⟨h.1,h.2.1⟩
   have e2:¬(d.Y p<=d.Y w/\d.Y w<d.Y q/\0<d.tr p q w):=λh=>c' ⟨h.1,h.2.1⟩
   simp[e1,e2]
theorem xN (g:eF d){u w p q:Nat}(huw:d.J u w)(hpq:d.J p q)(h1:u<w)(h2:p<q) :
  ((d.Om u w p q^^d.Om w u p q)^^decide (p=u/\q=w))=(d.Psi u w p^^d.Psi u w q):=by
 have hqn:=g.lt (g.symm hpq)
 have hwn:=g.lt (g.symm huw)
 rcases g.ord h1 hwn with a|a
 ·rcases g.ord h2 hqn with b|b
  ·exact sE g huw hpq h1 h2 a b
  ·exact qd g huw hpq h1 h2 a b.1
 ·exact vc g huw hpq h1 h2 a.1
variable  {d:Dr}
abbrev ao:=Nat×Nat
def xs (f:ao->Bool):List ao->Bool
 |[]=>false
 |e :: r=>f e^^xs f r
theorem gR (f g:ao->Bool):∀E,xs (λe=>f e^^g e) E=(xs f E^^xs g E)
 |[]=>rfl
 |e :: r=>by simp only[xs,gR f g r];cases f e<;>cases g e<;>cases xs f r<;>cases xs g r<;>rfl
theorem bh {f g:ao->Bool}:∀{E:List ao},(∀e∈E,f e=g e)->xs f E=xs g E
 |[],_=>rfl
 |e :: r,h=>by
  simp only[xs,h e (by simp),bh (λx hx=>h x (Fj _ hx))]
def cM (E:List ao):Prop:=∀Q:Nat->Bool,xs (λe=>Q e.1^^Q e.2) E=false
def Dr.om (d:Dr)(E:List ao)(u w:Nat):Bool:=xs (λe=>d.Om u w (min e.1 e.2) (max e.1 e.2)) E
def ce (E:List ao)(u w:Nat):Bool:=xs (λe=>decide ((e.1=u/\e.2=w)\/(e.1=w/\e.2=u))) E
theorem yQ (E:List ao)(u w:Nat):ce E u w=ce E w u:=by
 apply bh;intro e _;rw[Fz];exact Or.comm
theorem Ai (g:eF d){u w:Nat}(huw:d.J u w)(h1:u<w){E:List ao}(hE:∀e∈E,d.J e.1 e.2)(hc:cM E) :
  (d.om E u w^^d.om E w u)=ce E u w:=by
 have h:xs (λe=>((d.Om u w (min e.1 e.2) (max e.1 e.2)^^d.Om w u (min e.1 e.2) (max e.1 e.2)) ^^
   decide ((e.1=u/\e.2=w)\/(e.1=w/\e.2=u)))) E=false:=by
  rw[<-hc (d.Psi u w)]
  apply bh
  intro e he
  have hj:=hE e he
  have hne:=g.ne hj
  rcases Gs hne with hl|hl
  ·have:=xN g huw hj h1 hl
   rw[FN (by lia),Gu (by lia),<-this]
   congr 1
   rw[Fz];lia
  ·have:=xN g huw (g.symm hj) h1 hl
   rw[FM (by lia),GV (by lia),Ih (d.Psi u w e.1),<-this]
   congr 1
   rw[Fz];lia
 rw[gR,gR]at h
 unfold Dr.om ce
 revert h
 generalize xs _ E=a;generalize xs _ E=b;generalize xs _ E=c
 cases a<;>cases b<;>cases c<;>simp
theorem zW (g:eF d){u w:Nat}(huw:d.J u w){E:List ao}(hE:∀e∈E,d.J e.1 e.2)(hc:cM E) :
  (d.om E u w^^d.om E w u)=ce E u w:=by
 rcases Gs (g.ne huw) with h|h
 ·exact Ai g huw h hE hc
 ·rw[Ih,yQ];exact Ai g (g.symm huw) h hE hc
def bC (l:List Nat)(x:Nat):Nat:=if l.idxOf x=0 then l.getLast?.getD 0 else l.getD (l.idxOf x-1) 0
theorem iQ {l:List Nat}{x:Nat}(h:x∈l):∃l1 l2,l=l1++x :: l2/\x∉l1:=by
 induction l with
 |nil=>cases h
 |cons a r ih =>
  by_cases e:a=x
  ·exact⟨[],r,by simp[e],by simp⟩
  ·have:x∈r:=by
    rcases Fp.1 h with h|h
    ·exact absurd h.symm e
    ·exact h
   obtain⟨l1,l2,e1,e2⟩:=ih this
   exact⟨a :: l1,l2,by simp[e1],by simp[e2];lia⟩
theorem lx {l1 l2:List Nat}{x:Nat}(h:x∉l1):(l1++x :: l2).idxOf x=l1.length:=by
 induction l1 with
 |nil=>simp
 |cons a r ih =>
  have h1:a≠x:=by intro e;apply h;simp[e]
  have h2:x∉r:=by intro e;apply h;simp[e]
  have h3:(a==x)=false:=by simpa using h1
  rw[Ji,List.idxOf_cons,ih h2,h3];rfl
theorem iP (x:Nat)(l2:List Nat):bC (x :: l2) x=(x :: l2).getLast (by simp):=by
 unfold bC
 simp[List.getLast?_eq_some_getLast]
theorem iW {l1 l2:List Nat}{x:Nat}(h:x∉l1)(hn:l1≠[]):bC (l1++x :: l2) x=l1.getLast hn:=by
 unfold bC
 rw[lx h]
 have:l1.length≠0:=by intro e;exact hn (Hk.1 e)
 rw[Fl this,FG,FL (by lia)]
 rw[List.getLast_eq_getElem]
 rw[gge (by lia)];rfl
structure lO (d:Dr)(ring:Nat->List Nat):Prop where
 mem:∀{u w},w∈ring u↔d.J u w
 sorted:∀u,(ring u).Pairwise (λb w=>d.pre u b w=true/\d.pre u w b=false/\b≠w)
theorem jU (d:Dr)(u b:Nat):d.pre u b b=true:=by simp[Dr.pre]
theorem kL {l:List Nat}{x:Nat}(h:x∈l):bC l x∈l:=by
 obtain⟨l1,l2,e,hn⟩:=iQ h
 subst e
 by_cases h1:l1=[]
 ·subst h1;rw[Hl,iP];exact HG _
 ·rw[iW hn h1]
  exact List.mem_append_left _ (HG _)
theorem Au (g:eF d){ring:Nat->List Nat}(r:lO d ring){u v:Nat}(huv:d.J u v){E:List ao}(hE:∀e∈E,d.J e.1 e.2)(hc:cM E) :
  d.om E v (bC (ring v) u)=(d.om E v u^^ce E u v):=by
 have hm:u∈ring v:=r.mem.2 (g.symm huv)
 obtain⟨l1,l2,e,hn⟩:=iQ hm
 have hs:=r.sorted v
 rw[e]at hs
 rw[GE]at hs
 obtain⟨s1,s2,s3⟩:=hs
 rw[Gv]at s2
 have key:∃Q:Nat->Bool,∀b,d.J v b->(d.pre v b (bC (ring v) u)^^d.pre v b u)=(decide (b=u)^^Q v):=by
  by_cases h1:l1=[]
  ·subst h1
   refine⟨λ_=>true,λb hb=>?_⟩
   have hb':b∈ring v:=r.mem.2 hb
   rw[e,Hl,iP]
   rw[e,Hl]at hb'
   have t1:d.pre v b ((u :: l2).getLast (by simp))=true:=by
    by_cases hbl:b=(u :: l2).getLast (by simp)
    ·rw[<-hbl];exact jU _ _ _
    ·have hall:((u :: l2).dropLast++[(u :: l2).getLast (by simp)]).Pairwise (λb w=>d.pre v b w=true/\d.pre v w b=false/\b≠w):=by
      rw[Gq];exact Gv.2 s2
     rw[GE]at hall
     have:b∈(u :: l2).dropLast:=by
      have hx:b∈(u :: l2).dropLast++[(u :: l2).getLast (by simp)]:=by
       rw[Gq];exact hb'
      rcases FR.1 hx with hx|hx
      ·exact hx
      ·simp at hx;exact absurd hx (by simpa using hbl)
     exact(hall.2.2 b this _ (by simp)).1
   rw[t1]
   rcases Fp.1 hb' with hb2|hb2
   ·subst hb2;simp[jU]
   ·have:=s2.1 b hb2
    rw[this.2.1]
    have:b≠u:=FQ this.2.2
    simp[this]
  ·refine⟨λ_=>false,λb hb=>?_⟩
   have hb':b∈ring v:=r.mem.2 hb
   rw[e,iW hn h1]
   rw[e]at hb'
   rcases FR.1 hb' with hb2|hb2
   ·have a1:=(s3 b hb2 u (by simp))
    have a2:d.pre v b (l1.getLast h1)=true:=by
     by_cases hbl:b=l1.getLast h1
     ·rw[<-hbl];exact jU _ _ _
     ·have hall:(l1.dropLast++[l1.getLast h1]).Pairwise (λb w=>d.pre v b w=true/\d.pre v w b=false/\b≠w):=by
       rw[Gq];exact s1
      rw[GE]at hall
      have:b∈l1.dropLast:=by
       have hx:b∈l1.dropLast++[l1.getLast h1]:=by
        rw[Gq];exact hb2
       rcases FR.1 hx with hx|hx
       ·exact hx
       ·simp at hx;exact absurd hx hbl
      exact(hall.2.2 b this _ (by simp)).1
    rw[a2,a1.1];simp[a1.2.2]
   ·rcases Fp.1 hb2 with hb3|hb3
    ·subst hb3
     have a1:=s3 (l1.getLast h1) (HG _) b (by simp)
     rw[a1.2.1,jU];simp
    ·have a1:=s3 (l1.getLast h1) (HG _) b (Fj _ hb3)
     have a2:=s2.1 b hb3
     rw[a1.2.1,a2.2.1];simp[FQ a2.2.2]
 obtain⟨Q,hQ⟩:=key
 have hcl:=hc (λx=>decide (x=v)&&Q v)
 have h:xs (λe=>((d.Om v (bC (ring v) u) (min e.1 e.2) (max e.1 e.2)^^d.Om v u (min e.1 e.2) (max e.1 e.2)) ^^
   decide ((e.1=u/\e.2=v)\/(e.1=v/\e.2=u)))) E=false:=by
  rw[<-hcl]
  apply bh
  intro e he
  have hj:=hE e he
  have hne:=g.ne hj
  have aux:∀p q,d.J p q->p<q->((d.Om v (bC (ring v) u) p q^^d.Om v u p q)^^decide ((p=u/\q=v)\/(p=v/\q=u)))
    = ((decide (p=v)&&Q v)^^(decide (q=v)&&Q v)):=by
   intro p q hpq hl
   unfold Dr.Om
   generalize hB:(d.base v p q^^decide (p=v/\d.Y q=d.Y v))=B
   by_cases hp:p=v
   ·subst hp
    have hq:q≠p:=by lia
    have:=hQ q hpq
    have h3:decide ((p=u/\q=p)\/(p=p/\q=u))=decide (q=u):=by
     rw[Fz];constructor
     ·rintro(h|h)
      ·lia
      ·exact h.2
     ·intro h;exact GA ⟨rfl,h⟩
    rw[h3]
    simp only[hq,decide_true,IN,GK,Go,GZ]
    revert this
    generalize d.pre p q (bC (ring p) u)=x1;generalize d.pre p q u=x2;generalize decide (q=u)=x3;generalize Q p=x4
    cases x1<;>cases x2<;>cases x3<;>cases x4<;>cases B<;>simp
   ·by_cases hq:q=v
    ·subst hq
     have:=hQ p (g.symm hpq)
     have h3:decide ((p=u/\q=q)\/(p=q/\q=u))=decide (p=u):=by
      rw[Fz];constructor
      ·rintro(h|h)
       ·exact h.1
       ·exact absurd h.1 hp
      ·intro h;exact G3 ⟨h,rfl⟩
     rw[h3]
     simp only[hp,decide_true,IN,GK,Go,GB]
     revert this
     generalize d.pre q p (bC (ring q) u)=x1;generalize d.pre q p u=x2;generalize decide (p=u)=x3;generalize Q q=x4
     cases x1<;>cases x2<;>cases x3<;>cases x4<;>cases B<;>simp
    ·have h3:¬((p=u/\q=v)\/(p=v/\q=u)):=by lia
     rw[dqf h3]
     simp only[hp,hq,IN,Go,GZ,IA]
  rcases Gs hne with hl|hl
  ·have:=aux e.1 e.2 hj hl
   rw[FN (by lia),Gu (by lia),<-this]
  ·have:=aux e.2 e.1 (g.symm hj) hl
   rw[FM (by lia),GV (by lia),Ih (decide (e.1=v)&&Q v),<-this]
   congr 1
   rw[Fz];lia
 rw[gR,gR]at h
 unfold Dr.om ce
 revert h
 generalize xs _ E=a;generalize xs _ E=b;generalize xs _ E=c
 cases a<;>cases b<;>cases c<;>simp
theorem uw (g:eF d){ring:Nat->List Nat}(r:lO d ring){u v:Nat}(huv:d.J u v){E:List ao}(hE:∀e∈E,d.J e.1 e.2)(hc:cM E) :
  d.om E v (bC (ring v) u)=d.om E u v:=by
 rw[Au g r huv hE hc,<-zW g huv hE hc]
 cases d.om E v u<;>cases d.om E u v<;>rfl
variable  {d:Dr}
def nxt (ring:Nat->List Nat)(e:ao):ao:=(e.2,bC (ring e.2) e.1)
def aD (ring:Nat->List Nat)(e:ao):Nat->ao
 |0=>e
 |k+1=>nxt ring (aD ring e k)
theorem fD (ring:Nat->List Nat)(e:ao)(k:Nat):aD ring e (k+1)=nxt ring (aD ring e k):=rfl
theorem dO (ring:Nat->List Nat)(e:ao)(k:Nat):(aD ring e (k+1)).1=(aD ring e k).2:=rfl
theorem lO.nodup {ring:Nat->List Nat}(r:lO d ring)(u:Nat):(ring u).Nodup :=
 (r.sorted u).imp (λh=>h.2.2)
theorem gk {l:List Nat}(hl:l.Nodup){a b:Nat}(ha:a<l.length)(hb:b<l.length)(h:l[a]=l[b]):a=b:=by
 have hp:=FY.1 hl
 rcases Nat.lt_trichotomy a b with hlt|heq|hgt
 ·exact absurd h (hp a b ha hb hlt)
 ·exact heq
 ·exact absurd h.symm (hp b a hb ha hgt)
theorem vU {l:List Nat}(hl:l.Nodup){x y:Nat}(hx:x∈l)(hy:y∈l)(h:bC l x=bC l y):x=y:=by
 have key:∀z∈l,∃k,∃hk:k<l.length,l[k]=z/\bC l z=(if k=0 then l[l.length-1]'(by lia) else l[k-1]'(by lia)):=by
  intro z hz
  refine⟨l.idxOf z,HS hz,List.getElem_idxOf _,?_⟩
  unfold bC
  have hlt:=HS hz
  split
  ·rename_i h0
   rw[List.getLast?_eq_getElem?,gge (by lia)];rfl
  ·rename_i h0
   rw[FG,gge (by lia)];rfl
 obtain⟨i,hi,ei,pi⟩:=key x hx
 obtain⟨j,hj,ej,pj⟩:=key y hy
 have inj:∀a b (ha:a<l.length) (hb:b<l.length),l[a]=l[b]->a=b:=by
  intro a b ha hb e
  exact gk hl ha hb e
 rw[pi,pj]at h
 have:i=j:=by
  by_cases h1:i=0<;>by_cases h2:j=0
  ·lia
  ·rw[Fs h1,Fl h2]at h
   have:=inj _ _ _ _ h;lia
  ·rw[Fl h1,Fs h2]at h
   have:=inj _ _ _ _ h;lia
  ·rw[Fl h1,Fl h2]at h
   have:=inj _ _ _ _ h;lia
 subst this
 rw[<-ei,<-ej]
theorem CL (g:eF d){ring:Nat->List Nat}(r:lO d ring){e:ao}(h:d.J e.1 e.2):d.J (nxt ring e).1 (nxt ring e).2 :=
 r.mem.1 (kL (r.mem.2 (g.symm h)))
theorem lW (g:eF d){ring:Nat->List Nat}(r:lO d ring){a b:ao}(ha:d.J a.1 a.2)(hb:d.J b.1 b.2)(h:nxt ring a=nxt ring b):a=b:=by
 unfold nxt at h
 have h1:a.2=b.2:=(Hm h).1
 have h2:=(Hm h).2
 rw[h1]at h2
 have:=vU (r.nodup b.2) (r.mem.2 (by rw[<-h1];exact g.symm ha)) (r.mem.2 (g.symm hb)) h2
 exact Prod.ext this h1
theorem eE (g:eF d){ring:Nat->List Nat}(r:lO d ring){e:ao}(h:d.J e.1 e.2):∀k,d.J (aD ring e k).1 (aD ring e k).2
 |0=>h
 |k+1=>CL g r (eE g r h k)
theorem nu {l:List Nat}(hl:l.Nodup){F:Nat->Bool}(h:∀x∈l,F (bC l x)=F x):∀x∈l,∀y∈l,F x=F y:=by
 have key:∀k (hk:k<l.length),F l[k]=F (l[0]'(by lia)):=by
  intro k
  induction k with
  |zero=>intro _;rfl
  |succ k ih =>
   intro hk
   rw[<-ih (by lia)]
   have hm:l[k+1]∈l:=FS _
   rw[<-h _ hm]
   congr 1
   unfold bC
   have:l.idxOf l[k+1]=k+1:=by
    have h1:=HS hm
    have h2:=List.getElem_idxOf h1
    exact gk hl _ _ h2
   rw[this,Fl (by lia),FG]
   simp only[Nat.add_sub_cancel]
   rw[gge (by lia)];rfl
 intro x hx y hy
 obtain⟨i,hi,e1⟩:=FO hx
 obtain⟨j,hj,e2⟩:=FO hy
 rw[<-e1,<-e2,key i hi,key j hj]
def tw (d:Dr)(ok:Nat->Prop):Prop :=
 ∀m:Nat->Bool,(∀a b,d.J a b->ok a->ok b->m a=m b)->∀a b,a<d.n->b<d.n->ok a->ok b->m a=m b
theorem yw {E:List ao}(hn:E.Nodup){u w:Nat}(huw:u≠w):ce E u w=(decide ((u,w)∈E)^^decide ((w,u)∈E)):=by
 induction E with
 |nil=>simp[ce,xs]
 |cons e r ih =>
  rw[GU]at hn
  have:=ih hn.2
  unfold ce at this ⊢
  rw[xs,this]
  obtain⟨a,b⟩:=e
  simp only[Fp,Prod.mk.injEq]
  by_cases h1:a=u/\b=w
  ·obtain⟨rfl,rfl⟩:=h1
   have h2:(a,b)∉r:=hn.1
   simp[h2,huw]
  ·by_cases h2:a=w/\b=u
   ·obtain⟨rfl,rfl⟩:=h2
    have h3:(a,b)∉r:=hn.1
    simp[h3,huw]
   ·have t1:¬((a=u/\b=w)\/(a=w/\b=u)):=by lia
    have t2:¬(u=a/\w=b):=by lia
    have t3:¬(w=a/\u=b):=by lia
    simp only[t1,t2,t3,IN,GB,false_or]
theorem jQ (g:eF d){ring:Nat->List Nat}(r:lO d ring){E:List ao}(hE:∀e∈E,d.J e.1 e.2)(hc:cM E)(hn:E.Nodup)
  (ok:Nat->Prop) (hk:tw d ok) (hnx:∀a b,d.J a b->ok b->((a,b)∈E↔nxt ring (a,b)∈E)) :
  ∀a b a' b',d.J a b->d.J a' b'->ok a->ok a' ->
   (d.om E a b^^decide ((a,b)∈E))=(d.om E a' b'^^decide ((a',b')∈E)):=by
 have rev:∀a b,d.J a b->(d.om E a b^^decide ((a,b)∈E))=(d.om E b a^^decide ((b,a)∈E)):=by
  intro a b h
  have h1:=zW g h hE hc
  rw[yw hn (g.ne h)]at h1
  revert h1
  generalize d.om E a b=x1;generalize d.om E b a=x2;generalize decide ((a,b)∈E)=x3;generalize decide ((b,a)∈E)=x4
  cases x1<;>cases x2<;>cases x3<;>cases x4<;>simp
 have rot:∀u,ok u->∀x∈ring u,∀y∈ring u,(d.om E u x^^decide ((u,x)∈E))=(d.om E u y^^decide ((u,y)∈E)):=by
  intro u hu
  refine nu (F:=λx=>d.om E u x^^decide ((u,x)∈E)) (r.nodup u) ?_
  intro x hx
  have hj:d.J u x:=r.mem.1 hx
  show(d.om E u (bC (ring u) x)^^decide ((u,bC (ring u) x)∈E))=_
  rw[uw g r (g.symm hj) hE hc,rev u x hj]
  have:=hnx x u (g.symm hj) hu
  have e:decide ((u,bC (ring u) x)∈E)=decide ((x,u)∈E):=by
   rw[Fz];exact this.symm
  rw[e]
 intro a b a' b' h h' ha ha'
 have hm:=hk (λu=>match ring u with|[]=>false|x :: _=>d.om E u x^^decide ((u,x)∈E))
 have val:∀u x,ok u->x∈ring u->(match ring u with|[]=>false|x :: _=>d.om E u x^^decide ((u,x)∈E))=(d.om E u x^^decide ((u,x)∈E)):=by
  intro u x hu hx
  have:=rot u hu
  cases hr:ring u with
  |nil=>rw[hr]at hx;cases hx
  |cons y l =>
   rw[hr]at this hx
   simp only
   exact this y (by simp) x hx
 have:=hm (by
  intro p q hpq hp hq
  rw[val p q hp (r.mem.2 hpq),val q p hq (r.mem.2 (g.symm hpq))]
  exact rev p q hpq) a a' (g.lt h) (g.lt h') ha ha'
 rw[val a b ha (r.mem.2 h),val a' b' ha' (r.mem.2 h')]at this
 exact this
def seg (ring:Nat->List Nat)(e:ao)(i:Nat):Nat->List ao
 |0=>[]
 |k+1=>aD ring e i :: seg ring e (i+1) k
theorem bK (ring:Nat->List Nat)(e x:ao):∀k i,x∈seg ring e i k↔∃j,i<=j/\j<i+k/\x=aD ring e j
 |0,i=>by simp[seg];lia
 |k+1,i=>by
  rw[seg,Fp,bK ring e x k (i+1)]
  constructor
  ·rintro(h|⟨j,h1,h2,h3⟩)
   ·exact⟨i,by lia,by lia,h⟩
   ·exact⟨j,by lia,by lia,h3⟩
  ·rintro⟨j,h1,h2,h3⟩
   by_cases h:j=i
   ·subst h;exact G3 h3
   ·exact GA ⟨j,by lia,by lia,h3⟩
theorem fG (ring:Nat->List Nat)(e:ao):∀k i,(∀a b,i<=a->a<b->b<i+k->aD ring e a≠aD ring e b)->(seg ring e i k).Nodup
 |0,_,_=>by simp[seg]
 |k+1,i,h=>by
  rw[seg,GU]
  constructor
  ·rw[bK]
   rintro⟨j,h1,h2,h3⟩
   exact h i j (by lia) (by lia) (by lia) h3
  ·exact fG ring e k (i+1) (λa b h1 h2 h3=>h a b (by lia) h2 (by lia))
theorem qM (ring:Nat->List Nat)(e:ao)(Q:Nat->Bool):∀k i,xs (λe=>Q e.1^^Q e.2) (seg ring e i k)=(Q (aD ring e i).1^^Q (aD ring e (i+k)).1)
 |0,i=>by simp[seg,xs]
 |k+1,i=>by
  rw[seg,xs,qM ring e Q k (i+1),dO]
  have:i+1+k=i+(k+1):=by lia
  rw[this]
  generalize Q (aD ring e i).1=a;generalize Q (aD ring e i).2=b;generalize Q (aD ring e (i+(k+1))).1=c
  cases a<;>cases b<;>cases c<;>rfl
theorem fO (ring:Nat->List Nat)(e:ao){i k:Nat}(h:(aD ring e i).1=(aD ring e (i+k)).1):cM (seg ring e i k):=by
 intro Q
 rw[qM,h];simp
theorem lS (g:eF d){ring:Nat->List Nat}(r:lO d ring){E:List ao}(hE:∀e∈E,d.J e.1 e.2)(hc:cM E){e:ao}(he:d.J e.1 e.2) :
  ∀k,d.om E (aD ring e k).1 (aD ring e k).2=d.om E e.1 e.2
 |0=>rfl
 |k+1=>by
  rw[<-lS g r hE hc he k]
  exact uw g r (eE g r he k) hE hc
theorem sj (g:eF d){ring:Nat->List Nat}(r:lO d ring){e:ao}(he:d.J e.1 e.2){N:Nat}
  (hN:aD ring e N=e) (hd:∀a b,a<b->b<N->aD ring e a≠aD ring e b)
  (hk:∀v,v<d.n->tw d (λu=>u≠v)) {i j:Nat} (hij:i<j) (hj:j<N):(aD ring e i).1≠(aD ring e j).1:=by
 intro hv
 have hEJ:=eE g r he
 let E:=seg ring e i (j-i)
 have hE:∀x∈E,d.J x.1 x.2:=by
  intro x hx
  obtain⟨k,_,_,rfl⟩:=(bK ring e x _ _).1 hx
  exact hEJ k
 have hc:cM E:=fO ring e (by rw[hv];congr 2;lia)
 have hn:E.Nodup:=fG ring e _ _ (λa b _ h2 h3=>hd a b h2 (by lia))
 let v:=(aD ring e i).1
 have nx1:(aD ring e i).2≠v:=FQ (g.ne (hEJ i))
 have nx2:(aD ring e j).2≠v:=by
  show _≠(aD ring e i).1
  rw[hv];exact FQ (g.ne (hEJ j))
 have hlt:i+1<j:=by
  apply bcn;intro hc'
  have:j=i+1:=by lia
  subst this
  rw[dO]at hv
  exact g.ne (hEJ i) hv
 have sc:=jQ g r hE hc hn (λu=>u≠v) (hk v (g.lt (hEJ i))) (by
  intro a b hab hb
  constructor
  ·intro h
   obtain⟨k,h1,h2,h3⟩:=(bK ring e _ _ _).1 h
   rw[h3]
   refine(bK ring e _ _ _).2 ⟨k+1,by lia,?_,rfl⟩
   apply bcn;intro hn'
   have:k+1=j:=by lia
   have hb2:(aD ring e (k+1)).1=b:=by rw[dO,<-h3]
   rw[this,<-hv]at hb2
   exact hb hb2.symm
  ·intro h
   obtain⟨k,h1,h2,h3⟩:=(bK ring e _ _ _).1 h
   have hki:k≠i:=by
    intro e';subst e'
    have:b=(aD ring e k).1:=by rw[<-h3];rfl
    exact hb this
   obtain⟨k',rfl⟩:∃k',k=k'+1:=⟨k-1,by lia⟩
   have:=lW g r hab (hEJ k') h3
   rw[this]
   exact(bK ring e _ _ _).2 ⟨k',by lia,by lia,rfl⟩)
 have f1:=sc _ _ _ _ (hEJ (i+1)) (hEJ (j+1)) (by rw[dO];exact nx1) (by rw[dO];exact nx2)
 have m1:((aD ring e (i+1)).1,(aD ring e (i+1)).2)∈E:=(bK ring e _ _ _).2 ⟨i+1,by lia,by lia,rfl⟩
 have m2:((aD ring e (j+1)).1,(aD ring e (j+1)).2)∉E:=by
  intro h
  obtain⟨k,h1,h2,h3⟩:=(bK ring e _ _ _).1 h
  have h3':aD ring e (j+1)=aD ring e k:=h3
  by_cases hjn:j+1<N
  ·exact hd k (j+1) (by lia) hjn h3'.symm
  ·have hjN:j+1=N:=by lia
   rw[hjN,hN]at h3'
   have:k=0:=by
    apply bcn;intro hk0
    exact hd 0 k (by lia) (by lia) h3'
   have hi0:i=0:=by lia
   have:(aD ring e (j+1)).1=v:=by
    show _=(aD ring e i).1
    rw[hjN,hN,hi0];rfl
   rw[dO]at this
   exact nx2 this
 rw[lS g r hE hc he,lS g r hE hc he,dqt m1,dqf m2]at f1
 revert f1
 cases d.om E e.1 e.2<;>simp
theorem pq (g:eF d){ring:Nat->List Nat}(r:lO d ring){e:ao}(he:d.J e.1 e.2){N:Nat}(hN0:0<N)
  (hN:aD ring e N=e) (hd:∀a b,a<b->b<N->aD ring e a≠aD ring e b)
  (hk:tw d (λ_=>True)) {o:ao} (ho:d.J o.1 o.2) (hoz:d.om (seg ring e 0 N) o.1 o.2=false) (hoN:o∉seg ring e 0 N)
  {x:ao} (hx:d.J x.1 x.2):d.om (seg ring e 0 N) x.1 x.2=decide (x∈seg ring e 0 N):=by
 have hEJ:=eE g r he
 have hE:∀x∈seg ring e 0 N,d.J x.1 x.2:=by
  intro x hx
  obtain⟨k,_,_,rfl⟩:=(bK ring e x _ _).1 hx
  exact hEJ k
 have hc:cM (seg ring e 0 N):=fO ring e (by rw[Hf,hN];rfl)
 have hn:(seg ring e 0 N).Nodup:=fG ring e _ _ (λa b _ h2 h3=>hd a b h2 (by lia))
 have sc:=jQ g r hE hc hn (λ_=>True) hk (by
  intro a b hab _
  constructor
  ·intro h
   obtain⟨k,h1,h2,h3⟩:=(bK ring e _ _ _).1 h
   rw[h3]
   by_cases hkN:k+1<N
   ·exact(bK ring e _ _ _).2 ⟨k+1,by lia,by lia,rfl⟩
   ·have:k+1=N:=by lia
    refine(bK ring e _ _ _).2 ⟨0,by lia,by lia,?_⟩
    rw[<-fD,this,hN];rfl
  ·intro h
   obtain⟨k,h1,h2,h3⟩:=(bK ring e _ _ _).1 h
   by_cases hk0:k=0
   ·have:nxt ring (a,b)=nxt ring (aD ring e (N-1)):=by
     rw[h3,hk0,<-fD]
     have:N-1+1=N:=by lia
     rw[this,hN];rfl
    rw[lW g r hab (hEJ _) this]
    exact(bK ring e _ _ _).2 ⟨N-1,by lia,by lia,rfl⟩
   ·obtain⟨k',rfl⟩:∃k',k=k'+1:=⟨k-1,by lia⟩
    rw[lW g r hab (hEJ k') h3]
    exact(bK ring e _ _ _).2 ⟨k',by lia,by lia,rfl⟩)
 have:=sc _ _ _ _ hx ho trivial trivial
 rw[hoz,dqf (show(o.1,o.2)∉_ from hoN)]at this
 revert this
 show(d.om (seg ring e 0 N) x.1 x.2^^decide (x∈seg ring e 0 N))=_->_
 generalize d.om (seg ring e 0 N) x.1 x.2=a;generalize decide (x∈seg ring e 0 N)=b
 cases a<;>cases b<;>simp
variable  {d:Dr}
def Dr.trz (d:Dr)(p q:Nat)(zx zy:Int):Int:=tr6 (d.X p) (d.Y p) (d.X q) (d.Y q) zx zy
def Dr.cz (d:Dr)(zx zy:Int)(p q:Nat):Bool:=decide (d.Y p<=zy/\zy<d.Y q/\0<d.trz p q zx zy)
def Dr.num (d:Dr)(zx zy:Int)(p q:Nat):Int:=2*d.trz p q zx zy+(d.X q-d.X p)
def Dr.den (d:Dr)(p q:Nat):Int:=d.Y q-d.Y p
theorem xP (g:eF d){u w p q:Nat}(huw:d.J u w)(hpq:d.J p q)(h1:u<w)(h2:p<q)(hy:d.Y u<d.Y w) :
  d.Om u w p q=if p=u then decide (q=w\/(d.Y u<d.Y q/\d.tr u w q<0)) else decide (d.Y p<=d.Y u/\d.Y u<d.Y q/\0<d.tr p q u):=by
 have hqn:=g.lt (g.symm hpq)
 unfold Dr.Om Dr.base
 by_cases hpu:p=u
 ·subst hpu
  have n1:q≠p:=by lia
  have s1:=de d p q w
  have hp2:d.pre p q w=decide (q=w\/0<d.tr p q w):=by
   unfold Dr.pre;rw[Fz];constructor
   ·rintro(h|h|h)
    ·exact G3 h
    ·lia
    ·exact GA h.2
   ·rintro(h|h)
    ·exact G3 h
    ·exact GA (GA ⟨G3 ⟨h2,h1⟩,h⟩)
  rcases g.ord h2 hqn with hf|hf
  ·have e1:¬d.Y q=d.Y p:=by lia
   simp only[ne_eq,not_true_eq_false,false_and,IN,e1,and_false,GZ,decide_true,GK,n1,Go,hp2,if_true,GB,hf,true_and,Fz]
   lia
  ·have t1:0<d.tr p q w:=by
    rw[el d p q w hf.1];exact Fw (by lia) (by lia)
   have e1:d.Y q=d.Y p:=by lia
   have e2:¬d.Y p<d.Y q:=by lia
   have e3:q≠w:=by intro e;subst e;lia
   simp[n1,hp2,t1,e1,e3]
 ·rw[Fl hpu]
  by_cases hqu:q=u
  ·subst hqu
   have e1:d.pre q p w=false:=by
    simp[Dr.pre];lia
   simp[e1,hpu]
  ·simp[hpu,hqu,FQ hpu,FQ hqu]
theorem Fa (ux uy wx wy px py qx qy zx zy:Int) :
 (wy-uy)*tr6 px py qx qy zx zy-(qy-py)*tr6 ux uy wx wy zx zy=(wy-uy)*tr6 px py qx qy ux uy+(tr6 px py qx qy wx wy-tr6 px py qx qy ux uy)*(zy-uy):=by
 unfold tr6;grind
theorem yf (ux uy wx wy px py qx qy zx zy:Int) :
 (wy-uy)*(2*tr6 px py qx qy zx zy+(qx-px))-(qy-py)*(2*tr6 ux uy wx wy zx zy+(wx-ux))
  = 2*((wy-uy)*tr6 px py qx qy ux uy)+(tr6 px py qx qy wx wy-tr6 px py qx qy ux uy)*(2*zy+1-2*uy):=by
 unfold tr6;grind
theorem DB (ux uy wx wy px py qx qy:Int) :
 (wy-uy)*tr6 px py qx qy wx wy=(wy-uy)*tr6 px py qx qy ux uy+(tr6 px py qx qy wx wy-tr6 px py qx qy ux uy)*(wy-uy):=by
 grind
theorem rF (c K s z m v0:Int)(hs:0<v0+K*(s-c))(hm:0<=v0+K*(m-c))(h1:s<=z)(h2:z<m):0<v0+K*(z-c):=by
 by_cases hK:0<=K
 ·have:0<=K*(z-s):=Fo hK (by lia)
  have e:v0+K*(z-c)=(v0+K*(s-c))+K*(z-s):=by grind
  lia
 ·have:0<(-K)*(m-z):=Fw (by lia) (by lia)
  have e:v0+K*(z-c)=(v0+K*(m-c))+(-K)*(m-z):=by grind
  lia
theorem kQ (c K s z m v0:Int)(hs:0<v0+K*(s-c))(hm:0<=v0+K*(m-c))(h1:s<=z)(h2:z<m):0<2*v0+K*(2*z+1-2*c):=by
 by_cases hK:0<=K
 ·have:0<=K*(2*z+1-2*s):=Fo hK (by lia)
  have e:2*v0+K*(2*z+1-2*c)=2*(v0+K*(s-c))+K*(2*z+1-2*s):=by grind
  lia
 ·have:0<(-K)*(2*m-2*z-1):=Fw (by lia) (by lia)
  have e:2*v0+K*(2*z+1-2*c)=2*(v0+K*(m-c))+(-K)*(2*m-2*z-1):=by grind
  lia
theorem jg (c K s z m v0:Int)(hs:v0+K*(s-c)<0)(hm:v0+K*(m-c)<=0)(h1:s<=z)(h2:z<m):2*v0+K*(2*z+1-2*c)<0:=by
 have:=kQ c (-K) s z m (-v0) (by grind) (by grind) h1 h2
 grind
theorem xh {a b zA zC v:Int}(ha:0<a)(hb:0<b)(hA:0<zA)(h:a*zC-b*zA=v)(hv:0<=v):0<zC:=by
 have h1:0<b*zA:=Fw hb hA
 exact(a8 ha).1 (by lia)
theorem zk (g:eF d){u w p q:Nat}{zx zy:Int}(huw:d.J u w)(hpq:d.J p q)(hu:d.Y u<=zy)(hw:zy<d.Y w)(hp:d.Y p<=zy)(hq:zy<d.Y q)
  (hA:0<d.trz u w zx zy) (hne:¬(p=u/\q=w))
  (hmin:0<d.trz p q zx zy->d.num zx zy u w*d.den p q<=d.num zx zy p q*d.den u w) :
  (0<d.trz p q zx zy↔if p=u then d.tr u w q<0 else if d.Y p<=d.Y u then 0<d.tr p q u else d.tr u w p<0):=by
 have hun:=g.lt huw
 have hwn:=g.lt (g.symm huw)
 have hpn:=g.lt hpq
 have hqn:=g.lt (g.symm hpq)
 have iA:=idA (d.X u) (d.Y u) (d.X w) (d.Y w) (d.X p) (d.Y p) (d.X q) (d.Y q)
 have iB:=idB (d.X u) (d.Y u) (d.X w) (d.Y w) (d.X p) (d.Y p) (d.X q) (d.Y q)
 have iD:=DB (d.X u) (d.Y u) (d.X w) (d.Y w) (d.X p) (d.Y p) (d.X q) (d.Y q)
 have iz:=Fa (d.X u) (d.Y u) (d.X w) (d.Y w) (d.X p) (d.Y p) (d.X q) (d.Y q) zx zy
 have iN:=yf (d.X u) (d.Y u) (d.X w) (d.Y w) (d.X p) (d.Y p) (d.X q) (d.Y q) zx zy
 change -(d.Y q-d.Y p)*d.tr u w p=(d.Y w-d.Y u)*d.tr p q u+(d.tr p q w-d.tr p q u)*(d.Y p-d.Y u) at iA
 change -(d.Y q-d.Y p)*d.tr u w q=(d.Y w-d.Y u)*d.tr p q u+(d.tr p q w-d.tr p q u)*(d.Y q-d.Y u) at iB
 change (d.Y w-d.Y u)*d.tr p q w=(d.Y w-d.Y u)*d.tr p q u+(d.tr p q w-d.tr p q u)*(d.Y w-d.Y u) at iD
 change (d.Y w-d.Y u)*d.trz p q zx zy-(d.Y q-d.Y p)*d.trz u w zx zy=(d.Y w-d.Y u)*d.tr p q u+(d.tr p q w-d.tr p q u)*(zy-d.Y u) at iz
 change (d.Y w-d.Y u)*d.num zx zy p q-(d.Y q-d.Y p)*d.num zx zy u w=2*((d.Y w-d.Y u)*d.tr p q u)+(d.tr p q w-d.tr p q u)*(2*zy+1-2*d.Y u) at iN
 have hmin':0<d.trz p q zx zy->0<=(d.Y w-d.Y u)*d.num zx zy p q-(d.Y q-d.Y p)*d.num zx zy u w:=by
  intro h
  have:=hmin h
  unfold Dr.den at this
  rw[Hg (d.Y w-d.Y u),Hg (d.Y q-d.Y p)]
  lia
 rw[iN]at hmin'
 have a0:0<d.Y w-d.Y u:=by lia
 have b0:0<d.Y q-d.Y p:=by lia
 have nb:∀x:Int,-(d.Y q-d.Y p)*x=(d.Y q-d.Y p)*(-x):=by intro x;grind
 rw[nb]at iA iB
 generalize hv0:(d.Y w-d.Y u)*d.tr p q u=v0 at *
 generalize hK:d.tr p q w-d.tr p q u=K at *
 by_cases hpu:p=u
 ·subst hpu
  rw[Fs rfl]
  have hqw:q≠w:=λe=>hne ⟨rfl,e⟩
  have hC:d.tr p q p=0:=kr d p q
  have v00:v0=0:=by rw[<-hv0,hC];simp
  have nB:d.tr p w q≠0:=by
   by_cases hh:d.Y q<=d.Y w
   ·exact nz g huw hqn (by lia) (by lia) hh (by intro e;subst e;lia) hqw
   ·have:=nz g hpq hwn (by lia) (by lia) (by lia) (by intro e;subst e;lia) (FQ hqw)
    have:=de d p q w
    lia
  constructor
  ·intro h
   apply bcn;intro hn
   have hB:0<d.tr p w q:=by lia
   have e1:K*(d.Y q-d.Y p)<0:=by
    have:(d.Y q-d.Y p)*(- d.tr p w q)<0:=az _ _ b0 (by lia)
    lia
   have e2:K<0:=by
    rw[Hg]at e1;exact(em b0).1 e1
   have e3:=hmin' h
   have:0<(-K)*(2*zy+1-2*d.Y p):=Fw (by lia) (by lia)
   have e:(-K)*(2*zy+1-2*d.Y p)=- (K*(2*zy+1-2*d.Y p)):=by grind
   lia
  ·intro h
   have e1:0<K*(d.Y q-d.Y p):=by
    have:0<(d.Y q-d.Y p)*(- d.tr p w q):=Fw b0 (by lia)
    lia
   have e2:0<K:=by
    rw[Hg]at e1;exact(a8 b0).1 e1
   have:0<=K*(zy-d.Y p):=Fo (by lia) (by lia)
   exact xh a0 b0 hA iz (by lia)
 ·rw[Fl hpu]
  by_cases hpy:d.Y p<=d.Y u
  ·rw[Fs hpy]
   have nC:d.tr p q u≠0:=nz g hpq hun (by lia) hpy (by lia) (FQ hpu) (by intro e;subst e;lia)
   have sC:0<d.tr p q u\/d.tr p q u<0:=by lia
   have up:(0<d.tr p q u->∃m,zy<m/\0<=v0+K*(m-d.Y u))/\(d.tr p q u<0->∃m,zy<m/\v0+K*(m-d.Y u)<=0):=by
    by_cases hqw:q=w
    ·subst hqw
     have hD:d.tr p q q=0:=cH d p q
     rw[hD]at iD
     simp at iD
     exact⟨λ_=>⟨_,hw,by lia⟩,λ_=>⟨_,hw,by lia⟩⟩
    ·by_cases hh:d.Y q<=d.Y w
     ·have l:=L1 g huw hpq hpy (by lia) hh hpu hqw
      constructor
      ·intro h;exact⟨d.Y q,hq,by rw[<-iB];exact Fo (by lia) (by lia)⟩
      ·intro h;exact⟨d.Y q,hq,by
        rw[<-iB]
        have:=az (d.Y q-d.Y p) (- d.tr u w q) b0 (by lia)
        lia⟩
     ·have l:=L2 g huw hpq hpy (by lia) (by lia) hpu hqw
      constructor
      ·intro h;exact⟨d.Y w,hw,by rw[<-iD];exact Fo (by lia) (by lia)⟩
      ·intro h;exact⟨d.Y w,hw,by
        rw[<-iD]
        have:=az (d.Y w-d.Y u) (d.tr p q w) a0 (by lia)
        lia⟩
   constructor
   ·intro h
    apply bcn;intro hn
    have hC:d.tr p q u<0:=sC.resolve_left hn
    obtain⟨m,m1,m2⟩:=up.2 hC
    have v0n:v0<0:=by rw[<-hv0];exact az _ _ a0 hC
    have t:=jg (d.Y u) K (d.Y u) zy m v0 (by simpa using v0n) m2 hu m1
    exact absurd (hmin' h) (Int.not_le.2 t)
   ·intro hC
    obtain⟨m,m1,m2⟩:=up.1 hC
    have v0p:0<v0:=by rw[<-hv0];exact Fw a0 hC
    have t:=rF (d.Y u) K (d.Y u) zy m v0 (by simpa using v0p) m2 hu m1
    exact xh a0 b0 hA iz (Ii t)
  ·rw[Fl hpy]
   have nA:d.tr u w p≠0:=nz g huw hpn (by lia) (by lia) (by lia) hpu (by intro e;subst e;lia)
   have sA:d.tr u w p<0\/0<d.tr u w p:=by lia
   have up:(d.tr u w p<0->∃m,zy<m/\0<=v0+K*(m-d.Y u))/\(0<d.tr u w p->∃m,zy<m/\v0+K*(m-d.Y u)<=0):=by
    by_cases hqw:q=w
    ·subst hqw
     have hD:d.tr p q q=0:=cH d p q
     rw[hD]at iD
     simp at iD
     exact⟨λ_=>⟨_,hw,by lia⟩,λ_=>⟨_,hw,by lia⟩⟩
    ·by_cases hh:d.Y q<=d.Y w
     ·have l:=L2 g hpq huw (by lia) (by lia) hh (FQ hpu) (FQ hqw)
      constructor
      ·intro h;exact⟨d.Y q,hq,by rw[<-iB];exact Fo (by lia) (by lia)⟩
      ·intro h;exact⟨d.Y q,hq,by
        rw[<-iB]
        have:=az (d.Y q-d.Y p) (- d.tr u w q) b0 (by lia)
        lia⟩
     ·have l:=L1 g hpq huw (by lia) (by lia) (by lia) (FQ hpu) (FQ hqw)
      constructor
      ·intro h;exact⟨d.Y w,hw,by rw[<-iD];exact Fo (by lia) (by lia)⟩
      ·intro h;exact⟨d.Y w,hw,by
        rw[<-iD]
        have:=az (d.Y w-d.Y u) (d.tr p q w) a0 (by lia)
        lia⟩
   constructor
   ·intro h
    apply bcn;intro hn
    have hA':0<d.tr u w p:=sA.resolve_left hn
    obtain⟨m,m1,m2⟩:=up.2 hA'
    have v0n:v0+K*(d.Y p-d.Y u)<0:=by rw[<-iA];exact az _ _ b0 (by lia)
    have t:=jg (d.Y u) K (d.Y p) zy m v0 v0n m2 hp m1
    exact absurd (hmin' h) (Int.not_le.2 t)
   ·intro hC
    obtain⟨m,m1,m2⟩:=up.1 hC
    have v0p:0<v0+K*(d.Y p-d.Y u):=by rw[<-iA];exact Fw b0 (by lia)
    have t:=rF (d.Y u) K (d.Y p) zy m v0 v0p m2 hp m1
    exact xh a0 b0 hA iz (Ii t)
def Dr.Pz (d:Dr)(zy:Int)(u w v:Nat):Bool:=decide (d.Y u<d.Y v/\d.Y v<=zy/\d.tr u w v<0)
theorem yt (g:eF d){u w p q:Nat}{zx zy:Int}(huw:d.J u w)(hpq:d.J p q)(h1:u<w)(h2:p<q)
  (hz:d.cz zx zy u w=true) (hmin:d.cz zx zy p q=true->d.num zx zy u w*d.den p q<=d.num zx zy p q*d.den u w) :
  (d.cz zx zy p q^^d.Om u w p q)=(d.Pz zy u w p^^d.Pz zy u w q):=by
 have hpn:=g.lt hpq
 have hqn:=g.lt (g.symm hpq)
 have hwn:=g.lt (g.symm huw)
 have hun:=g.lt huw
 unfold Dr.cz at hz
 have hz:=Ff hz
 obtain⟨hu,hw,hA⟩:=hz
 have hy:d.Y u<d.Y w:=by lia
 rw[xP g huw hpq h1 h2 hy]
 have hpqy:d.Y p<=d.Y q:=by rcases g.ord h2 hqn with h|h<;>lia
 by_cases he:p=u/\q=w
 ·obtain⟨rfl,rfl⟩:=he
  have e1:d.cz zx zy p q=true:=by unfold Dr.cz;exact dqt ⟨hu,hw,hA⟩
  have e2:d.Pz zy p q p=false:=by unfold Dr.Pz;exact dqf (by lia)
  have e3:d.Pz zy p q q=false:=by unfold Dr.Pz;exact dqf (by lia)
  rw[e1,e2,e3];simp
 have pz1:∀v,¬(d.Y u<d.Y v/\d.Y v<=zy)->d.Pz zy u w v=false:=by
  intro v h;unfold Dr.Pz;exact dqf (λx=>h ⟨x.1,x.2.1⟩)
 have pz2:∀v,d.Y u<d.Y v->d.Y v<=zy->d.Pz zy u w v=decide (d.tr u w v<0):=by
  intro v h h';unfold Dr.Pz;simp[h,h']
 by_cases hcz:d.Y p<=zy/\zy<d.Y q
 ·
  obtain⟨c1,c2⟩:=hcz
  have czE:d.cz zx zy p q=decide (0<d.trz p q zx zy):=by unfold Dr.cz;simp[c1,c2]
  have zo:=zk g huw hpq hu hw c1 c2 hA he (λh=>hmin (by rw[czE];exact dqt h))
  rw[pz1 q (by lia),GZ,czE]
  by_cases hpu:p=u
  ·subst hpu
   rw[Fs rfl]at zo ⊢
   rw[pz1 p (by lia)]
   have hqw:q≠w:=λe=>he ⟨rfl,e⟩
   have:(q=w\/(d.Y p<d.Y q/\d.tr p w q<0))↔0<d.trz p q zx zy:=by
    rw[zo];constructor
    ·rintro(h|h)
     ·exact absurd h hqw
     ·exact h.2
    ·intro h;exact GA ⟨by lia,h⟩
   simp only[this,IA]
  ·rw[Fl hpu]at zo ⊢
   by_cases hpy:d.Y p<=d.Y u
   ·rw[Fs hpy]at zo
    rw[pz1 p (by lia)]
    have:(d.Y p<=d.Y u/\d.Y u<d.Y q/\0<d.tr p q u)↔0<d.trz p q zx zy:=by
     rw[zo];constructor
     ·exact λh=>h.2.2
     ·exact λh=>⟨hpy,by lia,h⟩
    simp only[this,IA]
   ·rw[Fl hpy]at zo
    rw[pz2 p (by lia) c1]
    have:¬(d.Y p<=d.Y u/\d.Y u<d.Y q/\0<d.tr p q u):=λh=>hpy h.1
    rw[dqf this,GZ,Fz.2 zo]
 ·have czE:d.cz zx zy p q=false:=by unfold Dr.cz;exact dqf (λh=>hcz ⟨h.1,h.2.1⟩)
  rw[czE,GB]
  by_cases c1:zy<d.Y p
  ·rw[pz1 p (by lia),pz1 q (by lia)]
   by_cases hpu:p=u
   ·subst hpu;lia
   ·rw[Fl hpu]
    have:¬(d.Y p<=d.Y u/\d.Y u<d.Y q/\0<d.tr p q u):=by lia
    rw[dqf this];rfl
  ·have c2:d.Y q<=zy:=by lia
   by_cases hpu:p=u
   ·subst hpu
    rw[Fs rfl,pz1 p (by lia),GB]
    have hqw:q≠w:=λe=>he ⟨rfl,e⟩
    unfold Dr.Pz
    rw[Fz]
    constructor
    ·rintro(h|h)
     ·exact absurd h hqw
     ·exact⟨h.1,c2,h.2⟩
    ·intro h;exact GA ⟨h.1,h.2.2⟩
   ·rw[Fl hpu]
    have hqw:q≠w:=by intro e;subst e;lia
    have hpw:p≠w:=by intro e;subst e;lia
    by_cases c3:d.Y p<=d.Y u
    ·rw[pz1 p (by lia),GB]
     unfold Dr.Pz
     rw[Fz]
     by_cases c4:d.Y u<d.Y q
     ·have l:=L1 g huw hpq c3 c4 (by lia) hpu hqw
      constructor
      ·intro h;exact⟨c4,c2,by lia⟩
      ·intro h;exact⟨c3,c4,by lia⟩
     ·constructor
      ·intro h;exact absurd h.2.1 c4
      ·intro h;exact absurd h.1 c4
    ·have:¬(d.Y p<=d.Y u/\d.Y u<d.Y q/\0<d.tr p q u):=λh=>c3 h.1
     rw[dqf this,pz2 p (by lia) (by lia),pz2 q (by lia) c2]
     have:d.tr u w p<0↔d.tr u w q<0:=by
      rcases g.ord h2 hqn with hf|hf
      ·have l:=L2 g hpq huw (by lia) hf (by lia) (FQ hpu) (FQ hqw)
       lia
      ·have mv:d.tr u w q<d.tr u w p:=by
        have:d.tr u w p-d.tr u w q=(d.Y w-d.Y u)*(d.X q-d.X p):=by
         have:=hf.1;unfold Dr.tr tr6;grind
        have:0<(d.Y w-d.Y u)*(d.X q-d.X p):=Fw (by lia) (by lia)
        lia
       constructor
       ·intro h;lia
       ·intro h
        apply bcn;intro hn
        have a2:=nz g huw hpn hy (by lia) (by lia) hpu hpw
        refine g.nocross huw hpq ⟨az _ _ (by lia) h,?_⟩
        rw[el d p q u hf.1,el d p q w hf.1]
        exact cq _ _ (az _ _ (by lia) (by lia)) (Fw (by lia) (by lia))
     simp only[this,IA]
theorem jC {α:Type}(N D:α->Int):∀l:List α,l≠[]->(∀x∈l,0<D x)->∃x∈l,∀y∈l,N x*D y<=N y*D x
 |[],h,_=>absurd rfl h
 |[a],_,_=>⟨a,by simp,by simp⟩
 |a :: b :: r,_,hD=>by
  obtain⟨x,hx,hm⟩:=jC N D (b :: r) (by simp) (λy hy=>hD y (Fj _ hy))
  by_cases h:N a*D x<=N x*D a
  ·refine⟨a,by simp,λy hy=>?_⟩
   rcases Fp.1 hy with e|e
   ·subst e;lia
   ·have h1:=hm y e
    have dx:=hD x (Fj _ hx)
    have dy:=hD y (Fj _ e)
    have da:=hD a (by simp)
    have p1:N a*D x*D y<=N x*D a*D y:=Int.mul_le_mul_of_nonneg_right h (by lia)
    have p2:N x*D y*D a<=N y*D x*D a:=Int.mul_le_mul_of_nonneg_right h1 (by lia)
    have p3:(N a*D y)*D x<=(N y*D a)*D x:=by
     have e1:N a*D x*D y=(N a*D y)*D x:=by grind
     have e2:N x*D a*D y=N x*D y*D a:=by grind
     have e3:N y*D x*D a=(N y*D a)*D x:=by grind
     lia
    exact Int.le_of_mul_le_mul_right p3 dx
  ·refine⟨x,Fj _ hx,λy hy=>?_⟩
   rcases Fp.1 hy with e|e
   ·subst e;lia
   ·exact hm y e
def lh (f:Nat->Nat->Bool)(e:ao):Bool:=f (min e.1 e.2) (max e.1 e.2)
theorem AN (g:eF d)(edges:List ao)(hed:∀p q,d.J p q->p<q->(p,q)∈edges)(hed2:∀e∈edges,d.J e.1 e.2/\e.1<e.2)(zx zy:Int) :
  (∀E:List ao,(∀e∈E,d.J e.1 e.2)->xs (lh (d.cz zx zy)) E=false) \/
  ∃u w,d.J u w/\∀E:List ao,(∀e∈E,d.J e.1 e.2)->cM E->xs (lh (d.cz zx zy)) E=d.om E u w:=by
 have side:∀(F:Nat->Nat->Prop),(∀p q,d.J p q->p<q->F p q)->∀e:ao,d.J e.1 e.2->F (min e.1 e.2) (max e.1 e.2):=by
  intro F hF e he
  rcases Gs (g.ne he) with h|h
  ·rw[FN (by lia),Gu (by lia)];exact hF _ _ he h
  ·rw[FM (by lia),GV (by lia)];exact hF _ _ (g.symm he) h
 by_cases hall:(edges.filter (λe=>d.cz zx zy e.1 e.2))=[]
 ·left
  intro E hE
  have:xs (lh (d.cz zx zy)) E=xs (λ_=>false) E:=by
   apply bh
   intro e he
   refine side (λp q=>d.cz zx zy p q=false) ?_ e (hE e he)
   intro p q hpq hlt
   have hm:=hed p q hpq hlt
   cases h:d.cz zx zy p q with
   |false=>rfl
   |true =>
    have:(p,q)∈edges.filter (λe=>d.cz zx zy e.1 e.2):=FX.2 ⟨hm,h⟩
    rw[hall]at this;cases this
  rw[this]
  clear this hE
  induction E with
  |nil=>rfl
  |cons a r ih=>rw[xs,ih];rfl
 ·right
  obtain⟨⟨u,w⟩,hx,hm⟩:=jC (λe:ao=>d.num zx zy e.1 e.2) (λe:ao=>d.den e.1 e.2) _ hall (by
   intro x hx
   have:=Ff (FX.1 hx).2
   unfold Dr.den;lia)
  obtain⟨hx1,hx2⟩:=FX.1 hx
  obtain⟨huw,hlt⟩:=hed2 _ hx1
  refine⟨u,w,huw,λE hE hc=>?_⟩
  have h:xs (λe=>lh (d.cz zx zy) e^^d.Om u w (min e.1 e.2) (max e.1 e.2)) E=false:=by
   rw[<-hc (d.Pz zy u w)]
   apply bh
   intro e he
   have ze:∀p q,d.J p q->p<q->(d.cz zx zy p q^^d.Om u w p q)=(d.Pz zy u w p^^d.Pz zy u w q):=by
    intro p q hpq hlt'
    exact yt g huw hpq hlt hlt' hx2 (λh=>hm (p,q) (FX.2 ⟨hed p q hpq hlt',h⟩))
   have hj:=hE e he
   unfold lh
   rcases Gs (g.ne hj) with h|h
   ·rw[FN (by lia),Gu (by lia)];exact ze _ _ hj h
   ·rw[FM (by lia),GV (by lia),Ih (d.Pz zy u w e.1)];exact ze _ _ (g.symm hj) h
  rw[gR]at h
  unfold Dr.om
  revert h
  generalize xs (lh (d.cz zx zy)) E=a;generalize xs _ E=b
  cases a<;>cases b<;>simp
open Gla
theorem gt {α:Type}{p:α×Nat->Bool}:∀{l:List α} {k:Nat},(l.zipIdx k).find? p=none->∀i (h:i<l.length),p (l[i],k+i)=false
 |[],_,_,i,h=>absurd h (by simp)
 |a :: r,k,hf,i,h=>by
  rw[List.zipIdx_cons,HQ]at hf
  cases hp:p (a,k) with
  |true=>rw[hp]at hf;simp at hf
  |false =>
   rw[hp]at hf
   cases i with
   |zero=>simpa using hp
   |succ i =>
    have:=gt (l:=r) (k:=k+1) hf i (by simpa using h)
    simp only[List.getElem_cons_succ]
    rw[<-this];congr 2;lia
theorem fw {α:Type}{p:Nat->α->Bool}{l:List α}(h:firstAt p l=none):∀i (hi:i<l.length),p i l[i]=false:=by
 intro i hi
 unfold firstAt at h
 rw[Option.map_eq_none_iff]at h
 have:=gt h i hi
 simpa using this
theorem b9 {α:Type}{ok:α->Bool}{before:α->α->Bool}{l:List α}(h:firstBad ok before l=none) :
  (∀x∈l,ok x=true)/\∀i (hi:i+1<l.length),before l[i] l[i+1]=true:=by
 have h':=fw h
 constructor
 ·intro x hx
  obtain⟨i,hi,e⟩:=FO hx
  have:=h' i hi
  rw[e]at this
  cases hk:ok x with
  |true=>rfl
  |false=>rw[hk]at this;simp at this
 ·intro i hi
  have:=h' (i+1) hi
  rw[gge (show i+1-1<l.length by lia)]at this
  simp at this
  exact this.2
theorem eG (p q:Pt):p.below q=true↔p.y<q.y\/(p.y=q.y/\p.x<q.x):=by
 unfold Pt.below;simp
theorem lu {p q r:Pt}(h1:p.below q=true)(h2:q.below r=true):p.below r=true:=by
 rw[eG]at *;lia
theorem gn (p q:Nat×Nat):lineBelow p q=true↔p.1<q.1\/(p.1=q.1/\p.2<q.2):=by
 unfold lineBelow;simp
theorem lM {p q r:Nat×Nat}(h1:lineBelow p q=true)(h2:lineBelow q r=true):lineBelow p r=true:=by
 rw[gn]at *;lia
theorem chain_lt {α:Type}{R:α->α->Bool}(ht:∀{a b c},R a b=true->R b c=true->R a c=true){l:List α}
  (h:∀i (hi:i+1<l.length),R l[i] l[i+1]=true):∀i j (hi:i<j) (hj:j<l.length),R (l[i]'(by lia)) l[j]=true:=by
 intro i j hi
 induction j with
 |zero=>lia
 |succ j ih =>
  intro hj
  by_cases e:i=j
  ·subst e;exact h i hj
  ·exact ht (ih (by lia) (by lia)) (h j hj)
structure Kept (S:Plan):Prop where
 r4:firstBad (λ(p:Pt)=>decide (p.x<=S.w)&&decide (p.y<=S.h)) Pt.below S.pts=none
 r5:firstBad (λ(l:Nat×Nat)=>decide (l.1<l.2)&&decide (l.2<S.pts.length)) lineBelow S.lines=none
 r7:firstAt (touches S) S.lines=none
def ab (S:Plan):Dr:=⟨S.pts.length,λi=>((S.pt i).x:Int),λi=>((S.pt i).y:Int),λi j=>(i,j)∈S.lines\/(j,i)∈S.lines⟩
theorem lT (S:Plan)(i j k:Nat):turn (S.pt i) (S.pt j) (S.pt k)=(ab S).tr i j k:=by
 unfold turn Dr.tr tr6 dx dy ab;rfl
theorem bH (S:Plan){i:Nat}(h:i<S.pts.length):S.pt i=S.pts[i]:=by
 unfold Plan.pt;rw[FG,gge h];rfl
theorem xW (S:Plan)(i j k:Nat):isOn (S.pt i) (S.pt j) (S.pt k)=true↔(ab S).on i j k:=by
 unfold isOn Dr.on between
 rw[lT]
 simp only[ab,Fn,IF,Fq]
 lia
theorem Kept.ord {S:Plan}(k:Kept S){i j:Nat}(h:i<j)(hj:j<S.pts.length):(S.pt i).below (S.pt j)=true:=by
 have:=chain_lt (R:=Pt.below) (l:=S.pts) lu (b9 k.r4).2 i j h hj
 rw[bH S (by lia),bH S hj];exact this
theorem Kept.line {S:Plan}(k:Kept S){l:Nat×Nat}(h:l∈S.lines):l.1<l.2/\l.2<S.pts.length:=by
 have:=(b9 k.r5).1 l h
 simpa using this
theorem Kept.lines_lt {S:Plan}(k:Kept S):∀i j (_:i<j) (hj:j<S.lines.length),lineBelow (S.lines[i]'(by lia)) S.lines[j]=true :=
 chain_lt (R:=lineBelow) (l:=S.lines) lM (b9 k.r5).2
theorem pW (p q r s:Pt):crosses p q r s=crosses r s p q:=by unfold crosses;rw[Bool.and_comm]
theorem jl (d:Dr)(i j k l:Nat):d.tr j i k*d.tr j i l=d.tr i j k*d.tr i j l:=by
 rw[j5 d i j k,j5 d i j l];grind
theorem bc (S:Plan)(k:Kept S):eF (ab S) where
 symm:=λh=>h.elim GA G3
 lt:=by
  intro i j h
  rcases h with h|h
  ·have:=k.line h;show i<S.pts.length;lia
  ·have:=k.line h;exact this.2
 ne:=by
  intro i j h
  rcases h with h|h<;>(have:=k.line h;lia)
 ord:=by
  intro i j h hj
  have:=k.ord h hj
  rw[eG]at this
  simp only[ab];lia
 nocross:=by
  have main:∀e f,e∈S.lines->f∈S.lines->¬((ab S).tr e.1 e.2 f.1*(ab S).tr e.1 e.2 f.2<0/\(ab S).tr f.1 f.2 e.1*(ab S).tr f.1 f.2 e.2<0):=by
   intro e f he hf hc
   obtain⟨a,ha,ea⟩:=FO he
   obtain⟨b,hb,eb⟩:=FO hf
   have hcr:crosses (S.pt e.1) (S.pt e.2) (S.pt f.1) (S.pt f.2)=true:=by
    unfold crosses;simp only[lT,Fn,Fq];exact hc
   have one:∀a b (ha:a<S.lines.length) (hb:b<S.lines.length),b<a->crosses (S.pt S.lines[a].1) (S.pt S.lines[a].2) (S.pt S.lines[b].1) (S.pt S.lines[b].2)=false:=by
    intro a b ha hb hlt
    have:=fw k.r7 a ha
    unfold touches at this
    rw[Bool.or_eq_false_iff]at this
    have h2:=this.2
    rw[Ip]at h2
    have hm:S.lines[b]∈S.lines.take a:=by
     rw[Hs]
     exact⟨b,by lia,rfl⟩
    have:=h2 _ hm
    simpa using this
   rcases Nat.lt_trichotomy a b with h|h|h
   ·have:=one b a hb ha h
    rw[ea,eb,pW,hcr]at this;cases this
   ·subst h
    rw[ea]at eb;subst eb
    rw[kr]at hc;simp at hc
   ·have:=one a b ha hb h
    rw[ea,eb,hcr]at this;cases this
  intro i j p q hij hpq
  rcases hij with h1|h1<;>rcases hpq with h2|h2
  ·exact main (i,j) (p,q) h1 h2
  ·have:=main (i,j) (q,p) h1 h2
   simp only at this
   rw[jl (ab S) p q,Hg ((ab S).tr i j q)]at this;exact this
  ·have:=main (j,i) (p,q) h1 h2
   simp only at this
   rw[jl (ab S) i j,Hg ((ab S).tr p q j)]at this;exact this
  ·have:=main (j,i) (q,p) h1 h2
   simp only at this
   rw[jl (ab S) p q,jl (ab S) i j,Hg ((ab S).tr i j q),Hg ((ab S).tr p q j)]at this;exact this
 nopt:=by
  have main:∀e,e∈S.lines->∀c,c<S.pts.length->c≠e.1->c≠e.2->¬(ab S).on e.1 e.2 c:=by
   intro e he c hc h1 h2 hon
   obtain⟨a,ha,ea⟩:=FO he
   have:=fw k.r7 a ha
   unfold touches at this
   rw[Bool.or_eq_false_iff]at this
   have h3:=this.1
   rw[Ip]at h3
   have:=h3 c (by simpa using hc)
   rw[ea]at this
   apply this
   rw[(xW S _ _ _).2 hon]
   simp[h1,h2]
  intro i j c hij hc h1 h2 hon
  rcases hij with h|h
  ·exact main (i,j) h c hc h1 h2 hon
  ·exact main (j,i) h c hc h2 h1 (yB _ hon)
def cr (a b:Int×Int):Int:=a.1*b.2-a.2*b.1
def Hi (a:Int×Int):Prop:=0<a.2\/(a.2=0/\0<a.1)
def Lo (a:Int×Int):Prop:=a.2<0\/(a.2=0/\a.1<0)
theorem kg (a b:Int×Int):cr b a=- cr a b:=by unfold cr;grind
theorem tW (a b c:Int×Int):a.2*cr b c-b.2*cr a c+c.2*cr a b=0:=by unfold cr;grind
theorem na {a b:Int×Int}(ha:Hi a)(hb:Hi b)(h:0<cr a b):0<b.2:=by
 rcases hb with h1|h1
 ·exact h1
 ·exfalso
  unfold cr at h
  rw[h1.1]at h
  have:0<=a.2*b.1:=Fo (by unfold Hi at ha;lia) (by lia)
  simp at h;lia
theorem mD {a b:Int×Int}(ha:Lo a)(hb:Lo b)(h:0<cr a b):b.2<0:=by
 rcases hb with h1|h1
 ·exact h1
 ·exfalso
  unfold cr at h
  rw[h1.1]at h
  have:0<=(-a.2)*(-b.1):=Fo (by unfold Lo at ha;lia) (by lia)
  have e:(-a.2)*(-b.1)=a.2*b.1:=by grind
  simp at h;lia
theorem nk {a b c:Int×Int}(ha:Hi a)(hb:Hi b)(hc:Hi c)(h1:0<cr a b)(h2:0<cr b c):0<cr a c:=by
 have yb:=na ha hb h1
 have yc:=na hb hc h2
 have p:=tW a b c
 have t1:0<c.2*cr a b:=Fw yc h1
 have t2:0<=a.2*cr b c:=Fo (by unfold Hi at ha;lia) (by lia)
 have t3:0<b.2*cr a c:=by lia
 exact(a8 yb).1 t3
theorem mL {a b c:Int×Int}(ha:Lo a)(hb:Lo b)(hc:Lo c)(h1:0<cr a b)(h2:0<cr b c):0<cr a c:=by
 have yb:=mD ha hb h1
 have yc:=mD hb hc h2
 have p:=tW a b c
 have t1:0<(-c.2)*cr a b:=Fw (by lia) h1
 have t2:0<=(-a.2)*cr b c:=Fo (by unfold Lo at ha;lia) (by lia)
 have t3:0<(-b.2)*cr a c:=by grind
 exact(a8 (show 0 < -b.2 by lia)).1 t3
theorem hhl {i j k:Int×Int}(hi:Hi i)(hj:Hi j)(hk:Lo k)(h:0<cr i j)(h2:0<=cr i k):0<cr j k:=by
 have yj:=na hi hj h
 have p:=tW i j k
 by_cases hk0:k.2=0
 ·have:k.1<0:=by unfold Lo at hk;lia
  unfold cr;rw[hk0]
  have:0<j.2*(-k.1):=Fw yj (by lia)
  grind
 ·have hk1:k.2<0:=by unfold Lo at hk;lia
  have t1:0<(-k.2)*cr i j:=Fw (by lia) h
  have t2:0<=j.2*cr i k:=Fo (by lia) h2
  by_cases hi0:i.2=0
  ·exfalso
   have:0<i.1:=by unfold Hi at hi;lia
   have:0<i.1*(-k.2):=Fw this (by lia)
   unfold cr at h2;rw[hi0]at h2
   grind
  ·have:0<i.2*cr j k:=by grind
   exact(a8 (show 0<i.2 by unfold Hi at hi;lia)).1 this
theorem hll {i j k:Int×Int}(hi:Hi i)(hj:Lo j)(hk:Lo k)(h:0<cr j k)(h2:0<=cr i k):0<cr i j:=by
 have yk:=mD hj hk h
 have p:=tW i j k
 by_cases hi0:i.2=0
 ·exfalso
  have:0<i.1:=by unfold Hi at hi;lia
  have:0<i.1*(-k.2):=Fw this (by lia)
  unfold cr at h2;rw[hi0]at h2
  grind
 ·have t1:0<i.2*cr j k:=Fw (by unfold Hi at hi;lia) h
  have t2:0<=(-j.2)*cr i k:=Fo (by unfold Lo at hj;lia) h2
  have:0<(-k.2)*cr i j:=by grind
  exact(a8 (show 0 < -k.2 by lia)).1 this
theorem sum_sq_neg {a b c e:Int}(h:a*e=b*c)(h1:0<b\/(b=0/\0<a))(h2:e<0\/(e=0/\c<0)):a*c+b*e<0:=by
 by_cases hb:b=0
 ·subst hb
  have ha:0<a:=by lia
  have he:e=0:=by
   have:a*e=0:=by simpa using h
   rcases Hx.1 this with h|h<;>lia
  subst he
  have:a*c<0:=az _ _ ha (by lia)
  simpa using this
 ·have hb':0<b:=by lia
  have he:e<0:=by
   rcases h2 with h2|h2
   ·exact h2
   ·exfalso
    rw[h2.1]at h
    have:b*c<0:=az _ _ hb' h2.2
    simp at h;lia
  have t:b*e<0:=az _ _ hb' he
  have t2:b*(a*c)=a*a*e:=by grind
  have t3:a*a*e<=0:=by
   have:0<=a*a:=by
    rcases Int.le_total 0 a with h|h
    ·exact Fo h h
    ·have:=Fo (show 0<=-a by lia) (show 0<=-a by lia);grind
   have:0<=(a*a)*(-e):=Fo this (by lia)
   grind
  have t4:a*c<=0:=by
   apply bcn;intro hn
   have:0<b*(a*c):=Fw hb' (by lia)
   lia
  lia
theorem yI {a b:Int×Int}(ha:Hi a)(hb:Lo b)(h:cr a b=0):a.1*b.1+a.2*b.2<0 :=
 sum_sq_neg (by unfold cr at h;lia) ha hb
theorem dm {r e:Int×Int}(h:0<cr e r):half r e=0:=by
 have:r.1*e.2-r.2*e.1<0:=by unfold cr at h;grind
 unfold half;simp[this]
theorem bG {r e:Int×Int}(h:0<cr r e):half r e=2:=by
 have h1:¬r.1*e.2-r.2*e.1<0:=by unfold cr at h;lia
 have h2:0<r.1*e.2-r.2*e.1:=h
 unfold half;simp only[h1,h2,if_true,I0]
theorem md {r e:Int×Int}(h:cr r e=0)(hd:r.1*e.1+r.2*e.2<0):half r e=1:=by
 have h1:¬r.1*e.2-r.2*e.1<0:=by unfold cr at h;lia
 have h2:¬0<r.1*e.2-r.2*e.1:=by unfold cr at h;lia
 unfold half;simp only[h1,h2,hd,if_true,I0]
theorem jH (r a b:Int×Int):sooner r a b=true↔half r a<half r b\/(half r a=half r b/\cr a b<0):=by
 unfold sooner cr;simp
theorem dq (r a b:Int×Int):sooner r a b=false↔¬(half r a<half r b\/(half r a=half r b/\cr a b<0)):=by
 rw[<-jH];simp
def Bef (a b:Int×Int):Prop:=(Hi a/\Lo b)\/(Hi a/\Hi b/\0<cr a b)\/(Lo a/\Lo b/\0<cr a b)
def tQ (r a b:Int×Int):Prop:=sooner r a b=true/\sooner r b a=false
theorem bI {r a b:Int×Int}(h:half r a<half r b):tQ r a b :=
 ⟨(jH r a b).2 (G3 h),(dq r b a).2 (by lia)⟩
theorem b8 {r a b:Int×Int}(h:half r a<=half r b)(hc:cr a b<0):tQ r a b:=by
 refine⟨(jH r a b).2 ?_,(dq r b a).2 ?_⟩
 ·lia
 ·have:=kg a b;lia
theorem fX {a b:Int×Int}(ha:Hi a)(hb:Lo b) :
  (0<cr a b/\half a b=2/\half b a=0)\/(cr a b=0/\half a b=1/\half b a=1)\/(cr a b<0/\half a b=0/\half b a=2):=by
 have s:=kg a b
 rcases Int.lt_trichotomy (cr a b) 0 with h|h|h
 ·exact GA (GA ⟨h,dm (by lia),bG (by lia)⟩)
 ·have dd:=yI ha hb h
  refine GA (G3 ⟨h,md h dd,md (by lia) ?_⟩)
  rw[Hg b.1,Hg b.2];exact dd
 ·exact G3 ⟨h,bG h,dm h⟩
theorem CJ {i j k:Int×Int}(hij:Bef i j)(hjk:Bef j k)(hik:Bef i k)(nh:∀a,¬(Hi a/\Lo a)):tQ k j i:=by
 have s1:=kg i j
 rcases hij with⟨a,b⟩|⟨a,b,c⟩|⟨a,b,c⟩
 ·rcases hjk with⟨a',b'⟩|⟨a',b',c'⟩|⟨a',b',c'⟩
  ·exact absurd ⟨a',b⟩ (nh j)
  ·exact absurd ⟨a',b⟩ (nh j)
  ·
   have h1:half k j=0:=dm c'
   rcases fX a b' with h|h|h
   ·have:=hll a b b' c' (by lia)
    exact b8 (by lia) (by lia)
   ·exact bI (by lia)
   ·exact bI (by lia)
 ·rcases hjk with⟨a',b'⟩|⟨a',b',c'⟩|⟨a',b',c'⟩
  ·
   refine b8 ?_ (by lia)
   rcases fX a b' with h|h|h
   ·have:=hhl a b b' c (by lia)
    rw[dm this];lia
   ·have:=hhl a b b' c (by lia)
    rw[dm this];lia
   ·rcases fX a' b' with h'|h'|h'<;>lia
  ·have:=nk a b b' c c'
   exact b8 (by rw[dm c',dm this];lia) (by lia)
  ·exact absurd ⟨b,a'⟩ (nh j)
 ·rcases hjk with⟨a',b'⟩|⟨a',b',c'⟩|⟨a',b',c'⟩
  ·exact absurd ⟨a',b⟩ (nh j)
  ·exact absurd ⟨a',b⟩ (nh j)
  ·have:=mL a b b' c c'
   exact b8 (by rw[dm c',dm this];lia) (by lia)
theorem DT {i j k:Int×Int}(hij:Bef i j)(hjk:Bef j k)(hik:Bef i k)(nh:∀a,¬(Hi a/\Lo a)):tQ j i k:=by
 have s1:=kg i j
 rcases hij with⟨a,b⟩|⟨a,b,c⟩|⟨a,b,c⟩
 ·rcases hjk with⟨a',b'⟩|⟨a',b',c'⟩|⟨a',b',c'⟩
  ·exact absurd ⟨a',b⟩ (nh j)
  ·exact absurd ⟨a',b⟩ (nh j)
  ·have h1:half j k=2:=bG c'
   rcases fX a b with h|h|h
   ·exact bI (by lia)
   ·exact bI (by lia)
   ·refine b8 (by lia) ?_
    apply bcn;intro hn
    have:=hll a b b' c' (by lia)
    lia
 ·have h0:half j i=0:=dm c
  rcases hjk with⟨a',b'⟩|⟨a',b',c'⟩|⟨a',b',c'⟩
  ·rcases fX a' b' with h|h|h
   ·exact bI (by lia)
   ·exact bI (by lia)
   ·refine b8 (by lia) ?_
    apply bcn;intro hn
    have:=hhl a b b' c (by lia)
    lia
  ·exact bI (by rw[h0,bG c'];lia)
  ·exact absurd ⟨b,a'⟩ (nh j)
 ·rcases hjk with⟨a',b'⟩|⟨a',b',c'⟩|⟨a',b',c'⟩
  ·exact absurd ⟨a',b⟩ (nh j)
  ·exact absurd ⟨a',b⟩ (nh j)
  ·exact bI (by rw[dm c,bG c'];lia)
theorem DE {i j k:Int×Int}(hij:Bef i j)(hjk:Bef j k)(hik:Bef i k)(nh:∀a,¬(Hi a/\Lo a)):tQ i k j:=by
 have s1:=kg j k
 rcases hij with⟨a,b⟩|⟨a,b,c⟩|⟨a,b,c⟩
 ·rcases hjk with⟨a',b'⟩|⟨a',b',c'⟩|⟨a',b',c'⟩
  ·exact absurd ⟨a',b⟩ (nh j)
  ·exact absurd ⟨a',b⟩ (nh j)
  ·refine b8 ?_ (by lia)
   rcases fX a b' with h|h|h
   ·have:=hll a b b' c' (by lia)
    rw[bG this];lia
   ·have:=hll a b b' c' (by lia)
    rw[bG this];lia
   ·lia
 ·rcases hjk with⟨a',b'⟩|⟨a',b',c'⟩|⟨a',b',c'⟩
  ·have h2:half i j=2:=bG c
   rcases fX a b' with h|h|h
   ·have:=hhl a b b' c (by lia)
    exact b8 (by lia) (by lia)
   ·exact bI (by lia)
   ·exact bI (by lia)
  ·have:=nk a b b' c c'
   exact b8 (by rw[bG c,bG this];lia) (by lia)
  ·exact absurd ⟨b,a'⟩ (nh j)
 ·rcases hjk with⟨a',b'⟩|⟨a',b',c'⟩|⟨a',b',c'⟩
  ·exact absurd ⟨a',b⟩ (nh j)
  ·exact absurd ⟨a',b⟩ (nh j)
  ·have:=mL a b b' c c'
   exact b8 (by rw[bG c,bG this];lia) (by lia)
theorem mQ (a:Int×Int):¬(Hi a/\Lo a):=by unfold Hi Lo;lia
theorem oN {r:Int×Int}(h:Hi r\/Lo r):half r r=3:=by
 have e:r.1*r.2-r.2*r.1=0:=by grind
 have sq:∀x:Int,0<=x*x:=by
  intro x
  rcases Int.le_total 0 x with h|h
  ·exact Fo h h
  ·have:=Fo (show 0<=-x by lia) (show 0<=-x by lia);grind
 have:¬r.1*r.1+r.2*r.2<0:=by have:=sq r.1;have:=sq r.2;lia
 unfold half;simp only[e,this];simp
theorem kq {a b:Int×Int}(h:Bef a b):half a b<3/\half b a<3:=by
 rcases h with⟨x,y⟩|⟨x,y,c⟩|⟨x,y,c⟩
 ·rcases fX x y with h|h|h<;>lia
 ·rw[bG c,dm c];lia
 ·rw[bG c,dm c];lia
def bb (S:Plan)(m e:Nat):List Nat->List Nat
 |[]=>[e]
 |a :: r=>if 0<turn (S.pt m) (S.pt a) (S.pt e) then a :: bb S m e r else e :: a :: r
def sortTurn (S:Plan)(m:Nat)(ends:List Nat):List Nat:=ends.foldl (λring e=>bb S m e ring) []
def aj (S:Plan)(k:Nat):List Nat :=
 sortTurn S k ((S.near k).filter λe=>decide (k<e))++sortTurn S k ((S.near k).filter λe=>decide (e<k))
theorem fA (S:Plan)(m e:Nat):∀l,(bb S m e l).Perm (e :: l)
 |[]=>List.Perm.refl _
 |a :: r=>by
  rw[bb];split
  ·exact((fA S m e r).cons a).trans (List.Perm.swap e a r)
  ·exact List.Perm.refl _
theorem i7 (S:Plan)(m:Nat):∀(l acc:List Nat),(l.foldl (λring e=>bb S m e ring) acc).Perm (acc++l)
 |[],acc=>by simp
 |e :: r,acc=>by
  rw[HU]
  refine(i7 S m r _).trans ?_
  refine((fA S m e acc).append_right r).trans ?_
  exact(List.perm_middle (a:=e) (l₁:=acc) (l₂:=r)).symm
theorem cK (S:Plan)(m:Nat)(l:List Nat):(sortTurn S m l).Perm l:=by
 have:=i7 S m l []
 simpa [sortTurn] using this
theorem fQ {S:Plan}(k:Kept S){i j:Nat}:j∈S.near i↔(ab S).J i j:=by
 unfold Plan.near
 rw[IJ]
 constructor
 ·rintro⟨l,hl,h⟩
  have:=k.line hl
  split at h
  ·rename_i e
   cases h
   left;rw[<-e];exact hl
  ·split at h
   ·rename_i e' e
    cases h
    right;rw[<-e];exact hl
   ·cases h
 ·rintro(h|h)
  ·exact⟨(i,j),h,by simp⟩
  ·have:=k.line h
   refine⟨(j,i),h,?_⟩
   simp only
   rw[Fl (by simp only at this;lia)];simp
theorem lines_nodup {S:Plan}(k:Kept S):S.lines.Nodup:=by
 rw[List.Nodup,FY]
 intro i j hi hj hlt e
 have:=k.lines_lt i j hlt hj
 rw[e,gn]at this;lia
theorem l9 {S:Plan}(k:Kept S)(i:Nat):(S.near i).Nodup:=by
 unfold Plan.near
 rw[List.Nodup,List.pairwise_filterMap]
 refine Iu ?_ (lines_nodup k)
 intro a b ha hb hab x hx y hy e
 subst e
 have la:=k.line ha
 have lb:=k.line hb
 apply hab
 split at hx
 ·cases hx
  split at hy
  ·simp at hy;exact Prod.ext (by lia) (by lia)
  ·split at hy
   ·simp at hy;lia
   ·cases hy
 ·split at hx
  ·cases hx
   split at hy
   ·simp at hy;lia
   ·split at hy
    ·simp at hy;exact Prod.ext (by lia) (by lia)
    ·cases hy
  ·cases hx
theorem a6 (S:Plan)(i j:Nat):dir S i j=((ab S).X j-(ab S).X i,(ab S).Y j-(ab S).Y i):=rfl
theorem tT (S:Plan)(m a b:Nat):(ab S).tr m a b=cr (dir S m a) (dir S m b):=by
 rw[a6,a6];unfold Dr.tr tr6 cr;grind
theorem pC {S:Plan}(k:Kept S){m a:Nat}(h:(ab S).J m a)(hlt:m<a):Hi (dir S m a):=by
 have g:=bc S k
 rcases g.ord hlt (g.lt (g.symm h)) with h|h
 ·left;rw[a6];simp only;lia
 ·right;rw[a6];simp only;lia
theorem oM {S:Plan}(k:Kept S){m a:Nat}(h:(ab S).J m a)(hlt:a<m):Lo (dir S m a):=by
 have g:=bc S k
 rcases g.ord hlt (g.lt h) with h|h
 ·left;rw[a6];simp only;lia
 ·right;rw[a6];simp only;lia
theorem oG {S:Plan}(k:Kept S){m a b:Nat}(ha:(ab S).J m a)(hb:(ab S).J m b)(hab:a≠b)(hs:(m<a/\m<b)\/(a<m/\b<m)) :
  (ab S).tr m a b≠0:=by
 have g:=bc S k
 have up:∀x y,(ab S).J m x->(ab S).J m y->m<x->x<y->(ab S).tr m y x=0->False:=by
  intro x y hx hy h1 h2 h0
  have hyn:=g.lt (g.symm hy)
  have hxn:=g.lt (g.symm hx)
  refine g.nopt hy hxn (by lia) (by lia) ?_
  rcases g.ord h1 hxn with o1|o1<;>rcases g.ord h2 hyn with o2|o2
  ·exact ck _ h0 (by lia) (by lia) (by lia)
  ·exact ck _ h0 (by lia) (by lia) (by lia)
  ·exact ck _ h0 (by lia) (by lia) (by lia)
  ·exact⟨h0,by lia,by lia,by lia,by lia⟩
 have dn:∀x y,(ab S).J m x->(ab S).J m y->x<m->y<x->(ab S).tr m y x=0->False:=by
  intro x y hx hy h1 h2 h0
  have hmn:=g.lt hx
  have hxn:=g.lt (g.symm hx)
  refine g.nopt (g.symm hy) hxn (by lia) (by lia) ?_
  have h0':(ab S).tr y m x=0:=by rw[j5];lia
  rcases g.ord h1 hmn with o1|o1<;>rcases g.ord h2 hxn with o2|o2
  ·exact ck _ h0' (by lia) (by lia) (by lia)
  ·exact ck _ h0' (by lia) (by lia) (by lia)
  ·exact ck _ h0' (by lia) (by lia) (by lia)
  ·exact⟨h0',by lia,by lia,by lia,by lia⟩
 intro h0
 have h0':(ab S).tr m b a=0:=by rw[de];lia
 rcases hs with⟨h1,h2⟩|⟨h1,h2⟩
 ·rcases Gs hab with h|h
  ·exact up a b ha hb h1 h h0'
  ·exact up b a hb ha h2 h h0
 ·rcases Gs hab with h|h
  ·exact dn b a hb ha h2 h h0
  ·exact dn a b ha hb h1 h h0'
theorem iO {S:Plan}(k:Kept S){m:Nat}(up:Bool){e:Nat} :
  ∀(l:List Nat),(∀a∈e :: l,(ab S).J m a/\if up then m<a else a<m)->e∉l ->
  l.Pairwise (λa b=>0<(ab S).tr m a b)->(bb S m e l).Pairwise (λa b=>0<(ab S).tr m a b)
 |[],_,_,_=>by simp[bb]
 |a :: r,hm,hn,hp=>by
  rw[Gv]at hp
  have ha:=hm a (by simp)
  have he:=hm e (by simp)
  rw[bb]
  split
  ·rename_i ht
   rw[lT]at ht
   rw[Gv]
   refine⟨?_,iO k up r (λx hx=>hm x ?_) (λh=>hn (Fj _ h)) hp.2⟩
   ·intro x hx
    rcases Fp.1 ((fA S m e r).mem_iff.1 hx) with h|h
    ·subst h;exact ht
    ·exact hp.1 x h
   ·rcases Fp.1 hx with h|h
    ·subst h;simp
    ·simp[h]
  ·rename_i ht
   rw[lT]at ht
   have hne:a≠e:=λh=>hn (by simp[h])
   have hz:(ab S).tr m a e≠0:=oG k ha.1 he.1 hne (by cases up<;>simp at ha he<;>lia)
   have t1:0<(ab S).tr m e a:=by rw[de];lia
   rw[Gv]
   refine⟨?_,Gv.2 hp⟩
   intro x hx
   rcases Fp.1 hx with h|h
   ·subst h;exact t1
   ·have t2:=hp.1 x h
    have hx':=hm x (by simp[h])
    rw[tT]at t1 t2 ⊢
    cases up with
    |true =>
     simp at ha he hx'
     exact nk (pC k he.1 he.2) (pC k ha.1 ha.2) (pC k hx'.1 hx'.2) t1 t2
    |false =>
     simp at ha he hx'
     exact mL (oM k he.1 he.2) (oM k ha.1 ha.2) (oM k hx'.1 hx'.2) t1 t2
theorem eU {S:Plan}(k:Kept S){m:Nat}(up:Bool):∀(l acc:List Nat),(∀a∈acc++l,(ab S).J m a/\if up then m<a else a<m)->(acc++l).Nodup ->
  acc.Pairwise (λa b=>0<(ab S).tr m a b)->(l.foldl (λring e=>bb S m e ring) acc).Pairwise (λa b=>0<(ab S).tr m a b)
 |[],acc,_,_,h=>h
 |e :: r,acc,hm,hn,hp=>by
  rw[HU]
  have pm:=fA S m e acc
  have hen:e∉acc:=by
   intro h
   rw[List.nodup_append]at hn
   exact hn.2.2 e h e (by simp) rfl
  have pm2:(bb S m e acc++r).Perm (acc++e :: r) :=
   (pm.append_right r).trans (List.perm_middle (a:=e) (l₁:=acc) (l₂:=r)).symm
  refine eU k up r _ ?_ ?_ ?_
  ·intro a ha
   exact hm a (pm2.mem_iff.1 ha)
  ·exact pm2.nodup_iff.2 hn
  ·refine iO k up acc ?_ hen hp
   intro a ha
   apply hm
   rcases Fp.1 ha with h|h
   ·simp[h]
   ·simp[h]
theorem lG {S:Plan}(k:Kept S)(m:Nat):(aj S m).Perm (S.near m):=by
 unfold aj
 refine((cK S m _).append (cK S m _)).trans ?_
 have h:(S.near m).filter (λe=>decide (e<m))=(S.near m).filter (λe=>!decide (m<e)):=by
  apply List.filter_congr
  intro x hx
  have:=(bc S k).ne ((fQ k).1 hx)
  by_cases h:m<x
  ·simp[h];lia
  ·simp[h];lia
 rw[h]
 exact List.filter_append_perm _ _
theorem lj {S:Plan}(k:Kept S)(m:Nat):(aj S m).Pairwise (λb w=>Bef (dir S m b) (dir S m w) /\
  ((m<b/\w<m)\/(((m<b/\m<w)\/(b<m/\w<m))/\0<(ab S).tr m b w))):=by
 unfold aj
 rw[GE]
 have m1:∀x∈sortTurn S m ((S.near m).filter λe=>decide (m<e)),(ab S).J m x/\m<x:=by
  intro x hx
  have:=FX.1 ((cK S m _).mem_iff.1 hx)
  exact⟨(fQ k).1 this.1,by simpa using this.2⟩
 have m2:∀x∈sortTurn S m ((S.near m).filter λe=>decide (e<m)),(ab S).J m x/\x<m:=by
  intro x hx
  have:=FX.1 ((cK S m _).mem_iff.1 hx)
  exact⟨(fQ k).1 this.1,by simpa using this.2⟩
 refine⟨?_,?_,?_⟩
 ·have h:=eU k (m:=m) true ((S.near m).filter λe=>decide (m<e)) [] (by
   intro a ha
   simp only[Hl]at ha
   have:=FX.1 ha
   exact⟨(fQ k).1 this.1,by simpa using this.2⟩) (by rw[Hl];exact(l9 k m).filter _) List.Pairwise.nil
  refine Iu ?_ h
  intro a b ha hb hab
  have h1:=m1 a ha
  have h2:=m1 b hb
  refine⟨GA (G3 ⟨pC k h1.1 h1.2,pC k h2.1 h2.2,?_⟩),GA ⟨G3 ⟨h1.2,h2.2⟩,hab⟩⟩
  rw[<-tT];exact hab
 ·have h:=eU k (m:=m) false ((S.near m).filter λe=>decide (e<m)) [] (by
   intro a ha
   simp only[Hl]at ha
   have:=FX.1 ha
   exact⟨(fQ k).1 this.1,by simpa using this.2⟩) (by rw[Hl];exact(l9 k m).filter _) List.Pairwise.nil
  refine Iu ?_ h
  intro a b ha hb hab
  have h1:=m2 a ha
  have h2:=m2 b hb
  refine⟨GA (GA ⟨oM k h1.1 h1.2,oM k h2.1 h2.2,?_⟩),GA ⟨GA ⟨h1.2,h2.2⟩,hab⟩⟩
  rw[<-tT];exact hab
 ·intro a ha b hb
  have h1:=m1 a ha
  have h2:=m2 b hb
  exact⟨G3 ⟨pC k h1.1 h1.2,oM k h2.1 h2.2⟩,G3 ⟨h1.2,h2.2⟩⟩
theorem cw {S:Plan}(k:Kept S):lO (ab S) (aj S) where
 mem:=by
  intro u w
  rw[(lG k u).mem_iff,fQ k]
 sorted:=by
  intro u
  refine(lj k u).imp ?_
  intro b w h
  have hne:b≠w:=by
   intro e;subst e
   rcases h.2 with h|h
   ·lia
   ·rw[cH]at h;lia
  refine⟨?_,?_,hne⟩
  ·unfold Dr.pre
   apply dqt
   exact GA h.2
  ·unfold Dr.pre
   apply dqf
   have:=de (ab S) u b w
   lia
theorem gx {f:Nat->Int×Int}{R:Int×Int}{y:Nat}:∀(l:List Nat) (a:Nat),(∀b∈a :: l,b≠y->tQ R (f y) (f b))->y∈a :: l ->
  l.foldl (λ(a b:Nat)=>if sooner R (f b) (f a)=true then b else a) a=y
 |[],a,h,hy=>by
  simp at hy;simp[hy]
 |b :: r,a,h,hy=>by
  rw[HU]
  by_cases ha:a=y
  ·subst ha
   by_cases hb:b=a
   ·subst hb
    simp only[ite_self]
    exact gx r b (λc hc=>h c (by rcases Fp.1 hc with h|h<;>simp[h])) (by simp)
   ·have:=(h b (by simp) hb).2
    rw[Fl (by rw[this];simp)]
    exact gx r a (λc hc=>h c (by rcases Fp.1 hc with h|h<;>simp[h])) (by simp)
  ·by_cases hb:b=y
   ·subst hb
    have:=(h a (by simp) ha).1
    rw[Fs this]
    exact gx r b (λc hc=>h c (by rcases Fp.1 hc with h|h<;>simp[h])) (by simp)
   ·have hr:y∈r:=by
     rcases Fp.1 hy with h1|h1
     ·exact absurd h1.symm ha
     ·rcases Fp.1 h1 with h2|h2
      ·exact absurd h2.symm hb
      ·exact h2
    refine gx r _ ?_ (by simp[hr])
    intro c hc
    apply h
    rcases Fp.1 hc with h1|h1
    ·subst h1;split<;>simp
    ·simp[h1]
theorem mB {S:Plan}(k:Kept S){u v:Nat}(hu:u∈aj S v):∀b∈aj S v,b≠bC (aj S v) u->tQ (dir S v u) (dir S v (bC (aj S v) u)) (dir S v b):=by
 intro b hb hne
 obtain⟨l1,l2,e,hn⟩:=iQ hu
 have hp:=(lj k v).imp (λh=>h.1)
 rw[e]at hp hb hne ⊢
 by_cases h1:l1=[]
 ·subst h1
  simp only[Hl]at *
  rw[iP]at hne ⊢
  by_cases h2:l2=[]
  ·subst h2;simp at *;exact absurd hb hne
  ·have hy:(u :: l2).getLast (by simp)=l2.getLast h2:=List.getLast_cons h2
   rw[hy]at hne ⊢
   rw[Gv]at hp
   rcases Fp.1 hb with h3|h3
   ·subst h3
    have:=hp.1 _ (HG h2)
    have h4:=kq this
    refine bI ?_
    rw[oN]
    ·lia
    ·rcases this with x|x|x
     ·exact G3 x.1
     ·exact G3 x.1
     ·exact GA x.1
   ·have hall:(l2.dropLast++[l2.getLast h2]).Pairwise (λb w=>Bef (dir S v b) (dir S v w)):=by
     rw[Gq];exact hp.2
    rw[GE]at hall
    have hb':b∈l2.dropLast:=by
     have hx:b∈l2.dropLast++[l2.getLast h2]:=by
      rw[Gq];exact h3
     rcases FR.1 hx with hx|hx
     ·exact hx
     ·simp at hx;exact absurd hx hne
    exact DE (hp.1 b h3) (hall.2.2 b hb' _ (by simp)) (hp.1 _ (HG h2)) mQ
 ·rw[iW hn h1]at hne ⊢
  rw[GE,Gv]at hp
  obtain⟨p1,p2,p3⟩:=hp
  have hyu:=p3 _ (HG h1) u (by simp)
  rcases FR.1 hb with h3|h3
  ·have hall:(l1.dropLast++[l1.getLast h1]).Pairwise (λb w=>Bef (dir S v b) (dir S v w)):=by
    rw[Gq];exact p1
   rw[GE]at hall
   have hb':b∈l1.dropLast:=by
    have hx:b∈l1.dropLast++[l1.getLast h1]:=by
     rw[Gq];exact h3
    rcases FR.1 hx with hx|hx
    ·exact hx
    ·simp at hx;exact absurd hx hne
   exact CJ (hall.2.2 b hb' _ (by simp)) hyu (p3 b h3 u (by simp)) mQ
  ·rcases Fp.1 h3 with h4|h4
   ·subst h4
    have h5:=kq hyu
    refine bI ?_
    rw[oN (r:=dir S v b)]
    ·lia
    ·rcases hyu with x|x|x
     ·exact GA x.2
     ·exact G3 x.2.1
     ·exact GA x.2.1
   ·exact DT hyu (p2.1 b h4) (p3 _ (HG h1) b (by simp[h4])) mQ
theorem zc {S:Plan}(k:Kept S){u v:Nat}(h:(ab S).J u v):S.next u v=bC (aj S v) u:=by
 have g:=bc S k
 have r:=cw k
 have hu:u∈aj S v:=r.mem.2 (g.symm h)
 have hs:=mB k hu
 have hm:=kL hu
 have pm:=lG k v
 unfold Plan.next
 cases hn:S.near v with
 |nil =>
  rw[hn]at pm
  have:=pm.mem_iff.1 hu;cases this
 |cons a l =>
  rw[hn]at pm
  exact gx (f:=λx=>dir S v x) l a (λb hb hne=>hs b (pm.mem_iff.2 hb) hne) (pm.mem_iff.1 hm)
theorem bB {α:Type}[DecidableEq α]:∀{l m:List α},l.Nodup->(∀x∈l,x∈m)->l.length<=m.length
 |[],_,_,_=>by simp
 |a :: r,m,hn,hs=>by
  rw[GU]at hn
  have ha:a∈m:=hs a (by simp)
  have:=bB (l:=r) (m:=m.erase a) hn.2 (by
   intro x hx
   have hne:x≠a:=by intro e;subst e;exact hn.1 hx
   exact(List.mem_erase_of_ne hne).2 (hs x (by simp[hx])))
  rw[List.length_erase_of_mem ha]at this
  have:0<m.length:=List.length_pos_of_mem ha
  simp;lia
theorem iJ {S:Plan}{a b:Nat}:(a,b)∈ways S↔(ab S).J a b:=by
 unfold ways
 rw[Jj]
 constructor
 ·rintro⟨l,hl,h⟩
  simp at h
  rcases h with h|h
  ·left;rw[h];exact hl
  ·right;rw[h.1,h.2];exact hl
 ·rintro(h|h)
  ·exact⟨_,h,by simp⟩
  ·exact⟨_,h,by simp⟩
theorem ly (S:Plan):(ways S).length=2*S.lines.length:=by
 unfold ways
 induction S.lines with
 |nil=>rfl
 |cons a r ih=>rw[List.flatMap_cons,Fm,ih];simp;lia
section
variable  {S:Plan}(k:Kept S)
include k
theorem kN {e:ao}(he:(ab S).J e.1 e.2):∀i j,aD (aj S) e i=aD (aj S) e (i+j)->aD (aj S) e j=e
 |0,j,h=>by rw[Hf]at h;exact h.symm
 |i+1,j,h=>by
  have g:=bc S k
  have r:=cw k
  have e1:i+1+j=(i+j)+1:=by lia
  rw[e1,fD,fD]at h
  exact kN he i j (lW g r (eE g r he _) (eE g r he _) h)
theorem qH {e:ao}(he:(ab S).J e.1 e.2):∃N,0<N/\N<=2*S.lines.length/\aD (aj S) e N=e:=by
 have g:=bc S k
 have r:=cw k
 apply bcn
 intro hno
 have hd:∀a b,0<=a->a<b->b<0+(2*S.lines.length+1)->aD (aj S) e a≠aD (aj S) e b:=by
  intro a b _ hab hb heq
  apply hno
  refine⟨b-a,by lia,by lia,kN k he a (b-a) ?_⟩
  have:a+(b-a)=b:=by lia
  rw[this];exact heq
 have nd:=fG (aj S) e (2*S.lines.length+1) 0 hd
 have hl:=bB nd (m:=ways S) (by
  intro x hx
  obtain⟨j,_,_,rfl⟩:=(bK _ _ _ _ _).1 hx
  exact iJ.2 (eE g r he j))
 have seg_len:∀n i,(seg (aj S) e i n).length=n:=by
  intro n;induction n with
  |zero=>intro i;rfl
  |succ n ih=>intro i;rw[seg,FT,ih]
 rw[seg_len,ly]at hl
 lia
theorem p9 {e:ao}(he:(ab S).J e.1 e.2):∃N,0<N/\N<=2*S.lines.length/\aD (aj S) e N=e /\
  ∀m,0<m->m<N->aD (aj S) e m≠e:=by
 have step:∀n,(∃N,0<N/\N<=n/\aD (aj S) e N=e)->∃N,0<N/\N<=n/\aD (aj S) e N=e/\∀m,0<m->m<N->aD (aj S) e m≠e:=by
  intro n
  induction n with
  |zero=>rintro⟨N,h1,h2,_⟩;lia
  |succ n ih =>
   rintro⟨N,h1,h2,h3⟩
   by_cases hx:∃N,0<N/\N<=n/\aD (aj S) e N=e
   ·obtain⟨N,a,b,c,d⟩:=ih hx
    exact⟨N,a,by lia,c,d⟩
   ·refine⟨N,h1,h2,h3,λm m1 m2 m3=>hx ⟨m,m1,by lia,m3⟩⟩
 exact step _ (qH k he)
end
theorem cC (ring:Nat->List Nat)(e:ao):∀n i,(seg ring e i n).length=n
 |0,_=>rfl
 |n+1,i=>by rw[seg,FT,cC ring e n]
theorem pp {S:Plan}(k:Kept S){e:ao}(he:(ab S).J e.1 e.2){N:Nat}(h0:0<N)(hN:aD (aj S) e N=e)
  (hm:∀m,0<m->m<N->aD (aj S) e m≠e):∀n i,i<N->N<=i+n->S.round n e (aD (aj S) e i)=(seg (aj S) e i (N-i)).map (·.1)
 |0,i,h1,h2=>by lia
 |n+1,i,h1,h2=>by
  have g:=bc S k
  have r:=cw k
  have hj:=eE g r he i
  rw[Plan.round]
  have e1:((aD (aj S) e i).2,S.next (aD (aj S) e i).1 (aD (aj S) e i).2)=aD (aj S) e (i+1):=by
   rw[zc k hj];rfl
  simp only[e1]
  have e2:N-i=(N-(i+1))+1:=by lia
  rw[e2,seg,FH]
  congr 1
  by_cases h:i+1=N
  ·rw[Fs (by rw[h,hN]),h];simp[seg]
  ·rw[Fl (hm (i+1) (by lia) (by lia))]
   exact pp k he h0 hN hm n (i+1) (by lia) (by lia)
def rnd (S:Plan)(e:ao):List Nat:=S.round (2*S.lines.length+1) e e
def orb (S:Plan)(e:ao):List ao:=seg (aj S) e 0 (rnd S e).length
structure Per (S:Plan)(e:ao)(N:Nat):Prop where
 pos:0<N
 back:aD (aj S) e N=e
 dist:∀a b,a<b->b<N->aD (aj S) e a≠aD (aj S) e b
 rnd:rnd S e=(seg (aj S) e 0 N).map (·.1)
 len:(WL.rnd S e).length=N
 orb:orb S e=seg (aj S) e 0 N
theorem dg {S:Plan}(k:Kept S){e:ao}(he:(ab S).J e.1 e.2):Per S e (rnd S e).length:=by
 obtain⟨N,h0,hL,hN,hm⟩:=p9 k he
 have hr:rnd S e=(seg (aj S) e 0 N).map (·.1):=by
  have:=pp k he h0 hN hm (2*S.lines.length+1) 0 h0 (by lia)
  simpa [rnd,aD] using this
 have hl:(rnd S e).length=N:=by rw[hr,lmp,cC]
 rw[hl]
 refine⟨h0,hN,?_,hr,hl,?_⟩
 ·intro a b hab hb heq
  have:=kN k he a (b-a) (by rw[heq];congr 1;lia)
  exact hm (b-a) (by lia) (by lia) this
 ·unfold orb;rw[hl]
theorem fM (ring:Nat->List Nat)(e:ao)(i:Nat):∀j,aD ring e (i+j)=aD ring (aD ring e i) j
 |0=>rfl
 |j+1=>by rw[<-Nat.add_assoc,fD,fM ring e i j];rfl
theorem qO {ring:Nat->List Nat}{e:ao}{N:Nat}(hN:aD ring e N=e):∀m,aD ring e (N*m)=e
 |0=>rfl
 |m+1=>by rw[Nat.mul_succ,fM,qO hN m,hN]
theorem qc {ring:Nat->List Nat}{e:ao}{N:Nat}(hN:aD ring e N=e)(h0:0<N)(j:Nat):aD ring e j=aD ring e (j % N):=by
 have:j=N*(j / N)+j % N:=(Nat.div_add_mod j N).symm
 conv=>lhs;rw[this]
 rw[fM,qO hN]
theorem dS {S:Plan}(k:Kept S){e x:ao}(he:(ab S).J e.1 e.2):x∈orb S e↔∃j,x=aD (aj S) e j:=by
 have p:=dg k he
 rw[p.orb,bK]
 constructor
 ·rintro⟨j,_,_,h⟩;exact⟨j,h⟩
 ·rintro⟨j,h⟩
  refine⟨j % (rnd S e).length,Gw _,?_,?_⟩
  ·rw[Hf];exact Nat.mod_lt _ p.pos
  ·rw[h];exact qc p.back p.pos j
theorem gE {S:Plan}(k:Kept S){e:ao}(he:(ab S).J e.1 e.2):e∈orb S e:=(dS k he).2 ⟨0,rfl⟩
theorem fN {S:Plan}(k:Kept S){e x:ao}(he:(ab S).J e.1 e.2)(h:x∈orb S e):(ab S).J x.1 x.2:=by
 obtain⟨j,rfl⟩:=(dS k he).1 h
 exact eE (bc S k) (cw k) he j
theorem ee {S:Plan}(k:Kept S){e x:ao}(he:(ab S).J e.1 e.2)(h:x∈orb S e):e∈orb S x:=by
 have hx:=fN k he h
 have p:=dg k he
 rw[p.orb,bK]at h
 obtain⟨j,_,h2,rfl⟩:=h
 refine(dS k hx).2 ⟨(rnd S e).length-j,?_⟩
 rw[<-fM]
 have:j+((rnd S e).length-j)=(rnd S e).length:=by lia
 rw[this,p.back]
theorem fF {S:Plan}(k:Kept S){e x y:ao}(he:(ab S).J e.1 e.2)(h:x∈orb S e)(h2:y∈orb S x):y∈orb S e:=by
 have hx:=fN k he h
 obtain⟨i,rfl⟩:=(dS k he).1 h
 obtain⟨j,rfl⟩:=(dS k hx).1 h2
 exact(dS k he).2 ⟨i+j,by rw[fM]⟩
def prs (l:List Nat):List ao:=l.zip (l.drop 1++l.take 1)
theorem qX (ring:Nat->List Nat)(e:ao):∀n i,((seg ring e i (n+1)).map (·.1)).zip (((seg ring e i (n+1)).map (·.1)).drop 1++[(aD ring e (i+n+1)).1])=seg ring e i (n+1)
 |0,i=>by
  simp[seg]
  exact Prod.ext rfl (dO ring e i)
 |n+1,i=>by
  have ih:=qX ring e n (i+1)
  rw[seg,FH,List.drop_one,List.tail_cons]
  have e0:(seg ring e (i+1) (n+1)).map (·.1)=(aD ring e (i+1)).1 :: ((seg ring e (i+1) (n+1)).map (·.1)).drop 1:=by
   rw[seg];rfl
  have e1:i+1+n+1=i+(n+1)+1:=by lia
  rw[e1]at ih
  conv=>lhs;rw[e0]
  rw[Ji,HA,<-e0,ih]
  congr 1
theorem ig {S:Plan}(k:Kept S){e:ao}(he:(ab S).J e.1 e.2):prs (rnd S e)=orb S e:=by
 have p:=dg k he
 obtain⟨n,hn⟩:∃n,(rnd S e).length=n+1:=⟨(rnd S e).length-1,by have:=p.pos;lia⟩
 have hr:=p.rnd
 have hb:=p.back
 rw[hn]at hr hb
 unfold prs
 have ht:(rnd S e).take 1=[(aD (aj S) e (0+n+1)).1]:=by
  rw[hr,Hf,hb,seg];rfl
 rw[ht,hr,qX,p.orb,hn]
theorem eB (ring:Nat->List Nat)(e:ao):∀a b i,seg ring e i (a+b)=seg ring e i a++seg ring e (i+a) b
 |0,b,i=>by simp[seg]
 |a+1,b,i=>by
  have:a+1+b=(a+b)+1:=by lia
  rw[this,seg,seg,eB ring e a b (i+1),Ji]
  congr 2;congr 1;lia
theorem k6 (ring:Nat->List Nat)(e:ao)(j:Nat):∀n i,seg ring (aD ring e j) i n=seg ring e (j+i) n
 |0,i=>rfl
 |n+1,i=>by
  rw[seg,seg,k6 ring e j n (i+1),<-fM];rfl
theorem mj {ring:Nat->List Nat}{e:ao}{N:Nat}(hN:aD ring e N=e):∀n i,seg ring e (N+i) n=seg ring e i n
 |0,i=>rfl
 |n+1,i=>by
  have:N+i+1=N+(i+1):=by lia
  rw[seg,seg,this,mj hN n (i+1),fM,hN]
theorem mE {S:Plan}(k:Kept S){e x:ao}(he:(ab S).J e.1 e.2)(h:x∈orb S e):(rnd S x).length=(rnd S e).length:=by
 have le:∀{a b:ao},(ab S).J a.1 a.2->b∈orb S a->(orb S b).length<=(orb S a).length:=by
  intro a b ha hb
  have hbj:=fN k ha hb
  have pb:=dg k hbj
  apply bB
  ·rw[pb.orb];exact fG _ _ _ _ (λx y _ h1 h2=>pb.dist x y h1 (by lia))
  ·intro y hy;exact fF k ha hb hy
 have hx:=fN k he h
 have l1:=le he h
 have l2:=le hx (ee k he h)
 unfold orb at l1 l2
 rw[cC,cC]at l1 l2
 lia
theorem yL {S:Plan}(k:Kept S){e:ao}(he:(ab S).J e.1 e.2){j:Nat}(hj:j<(rnd S e).length) :
  rnd S (aD (aj S) e j)=(rnd S e).drop j++(rnd S e).take j:=by
 have g:=bc S k
 have r:=cw k
 have p:=dg k he
 have hx:=eE g r he j
 have hm:aD (aj S) e j∈orb S e:=(dS k he).2 ⟨j,rfl⟩
 have px:=dg k hx
 have hl:=mE k he hm
 rw[px.rnd,hl,k6]
 obtain⟨m,hm'⟩:∃m,(rnd S e).length=j+m:=⟨(rnd S e).length-j,by lia⟩
 have e1:seg (aj S) e (j+0) (rnd S e).length=seg (aj S) e j m++seg (aj S) e 0 j:=by
  rw[hm']
  have:j+m=m+j:=by lia
  rw[this,Nat.add_zero,eB]
  congr 1
  have h2:=mj p.back j 0
  rw[Nat.add_zero,hm']at h2;exact h2
 have e2:rnd S e=(seg (aj S) e 0 j).map (·.1)++(seg (aj S) e j m).map (·.1):=by
  rw[p.rnd,hm',eB,FP,Hf]
 have hl1:((seg (aj S) e 0 j).map (·.1)).length=j:=by rw[lmp,cC]
 rw[e1,FP]
 conv=>rhs;rw[e2]
 rw[List.drop_left' hl1,List.take_left' hl1]
structure Ax (S:Plan)(ok:Nat->Prop)(m:Nat->Bool)(c:Bool)(todo:List Nat)(seen:Array Bool):Prop where
 t:∀x∈todo,ok x/\m x=c
 s:∀j,seen[j]? = some true->ok j->m j=c
 f:∀j,seen[j]? = some false->ok j
theorem sJ {S:Plan}{i:Nat}{j:Nat}(h:j∈S.nears.getD i []):j∈S.near i:=by
 unfold Plan.nears at h
 rw[GW]at h
 simp only[List.getElem?_toArray,FA]at h
 cases hr:(FJ S.pts.length)[i]? with
 |none=>rw[hr]at h;simp at h
 |some x =>
  rw[hr]at h
  have:x=i:=by
   have:=List.getElem?_eq_some_iff.1 hr
   obtain⟨a,b⟩:=this
   rw[List.getElem_range]at b;exact b.symm
  subst this;simpa using h
theorem oF {S:Plan}{ok:Nat->Prop}{m:Nat->Bool}{c:Bool}(he:∀a b,(ab S).J a b->ok a->ok b->m a=m b){i:Nat}(hi:ok i/\m i=c) :
  ∀(l:List Nat),(∀j∈l,(ab S).J i j)->∀(z:List Nat×Array Bool),Ax S ok m c z.1 z.2 ->
  Ax S ok m c (l.foldl (λ(a:List Nat×Array Bool) (j:Nat)=>if a.2.getD j true=true then a else (j :: a.1,a.2.setIfInBounds j true)) z).1
   (l.foldl (λ(a:List Nat×Array Bool) (j:Nat)=>if a.2.getD j true=true then a else (j :: a.1,a.2.setIfInBounds j true)) z).2
 |[],_,z,h=>h
 |j :: r,hl,z,h=>by
  rw[HU]
  refine oF he hi r (λx hx=>hl x (by simp[hx])) _ ?_
  split
  ·exact h
  ·rename_i hs
   have hjf:z.2[j]? = some false:=by
    rw[GW]at hs
    cases hz:z.2[j]? with
    |none=>rw[hz]at hs;simp at hs
    |some b=>cases b with
     |true=>rw[hz]at hs;simp at hs
     |false=>rfl
   have hok:=h.f j hjf
   have hm:m j=c:=by rw[<-he i j (hl j (by simp)) hi.1 hok];exact hi.2
   constructor
   ·intro x hx
    rcases Fp.1 hx with e|e
    ·subst e;exact⟨hok,hm⟩
    ·exact h.t x e
   ·intro x hx hokx
    by_cases e:j=x
    ·subst e;exact hm
    ·rw[GH e]at hx
     exact h.s x hx hokx
   ·intro x hx
    by_cases e:j=x
    ·subst e;exact hok
    ·rw[GH e]at hx
     exact h.f x hx
theorem i6 {S:Plan}(k:Kept S){ok:Nat->Prop}{m:Nat->Bool}{c:Bool}(he:∀a b,(ab S).J a b->ok a->ok b->m a=m b) :
  ∀(n:Nat) (todo:List Nat) (seen:Array Bool),Ax S ok m c todo seen->∀j,(spread S.nears n todo seen)[j]? = some true->ok j->m j=c
 |0,todo,seen,h=>by intro j;rw[spread];exact h.s j
 |n+1,todo,seen,h=>by
  cases todo with
  |nil=>exact h.s
  |cons x r =>
   have hx:=h.t x (by simp)
   refine i6 k he n _ _ (oF he hx _ (λj hj=>(fQ k).1 (sJ hj)) (r,seen) ⟨?_,h.s,h.f⟩)
   intro y hy;exact h.t y (by simp[hy])
theorem oA:∀(l:List Nat) (z:List Nat×Array Bool),
  (l.foldl (λ(a:List Nat×Array Bool) (j:Nat)=>if a.2.getD j true=true then a else (j :: a.1,a.2.setIfInBounds j true)) z).2.size=z.2.size
 |[],z=>rfl
 |j :: r,z=>by
  rw[HU,oA r];split
  ·rfl
  ·simp
theorem lf {near:Array (List Nat)}:∀(n:Nat) (todo:List Nat) (seen:Array Bool),(spread near n todo seen).size=seen.size
 |0,_,_=>rfl
 |n+1,todo,seen=>by
  cases todo with
  |nil=>rfl
  |cons x r=>exact(lf n _ _).trans (oA _ _)
theorem xx {S:Plan}(k:Kept S)(h0:0<S.pts.length)
  (h9:(FJ S.pts.length).find? (λ(i:Nat)=>!((seenFrom S.nears S.pts.length 0 (noneSeen S.pts.length)).getD i false))=none):tw (ab S) (λ_=>True):=by
 intro m he
 have key:∀a,a<S.pts.length->m a=m 0:=by
  intro a ha
  have:=Ij.1 h9 a (by simpa using ha)
  have hs:(seenFrom S.nears S.pts.length 0 (noneSeen S.pts.length))[a]? = some true:=by
   rw[GW]at this
   cases hz:(seenFrom S.nears S.pts.length 0 (noneSeen S.pts.length))[a]? with
   |none=>rw[hz]at this;simp at this
   |some b=>cases b with
    |true=>rfl
    |false=>rw[hz]at this;simp at this
  refine i6 k (ok:=λ_=>True) (c:=m 0) he _ _ _ ⟨?_,?_,?_⟩ a hs trivial
  ·intro x hx;simp at hx;subst hx;exact⟨trivial,rfl⟩
  ·intro j hj _
   by_cases e:0=j
   ·subst e;rfl
   ·rw[GH e]at hj
    unfold noneSeen at hj
    rw[Array.getElem?_replicate]at hj
    split at hj<;>simp at hj
  ·intro _ _;trivial
 intro a b ha hb _ _
 rw[key a ha,key b hb]
theorem ye {S:Plan}(k:Kept S)(h0:4<=S.pts.length){v:Nat}(hv:v<S.pts.length)
  (h10:cuts S.nears S.pts.length v=false):tw (ab S) (λu=>u≠v):=by
 intro m he
 let s:=if v=0 then 1 else 0
 have hsv:s≠v:=by show(if v=0 then 1 else 0)≠v;split<;>lia
 have key:∀a,a<S.pts.length->a≠v->m a=m s:=by
  intro a ha hav
  unfold cuts at h10
  have hsz:(seenFrom S.nears S.pts.length (if v=0 then 1 else 0) ((noneSeen S.pts.length).setIfInBounds v true)).size=S.pts.length:=by
   unfold seenFrom;rw[lf];simp[noneSeen]
  have hs:(seenFrom S.nears S.pts.length (if v=0 then 1 else 0) ((noneSeen S.pts.length).setIfInBounds v true))[a]? = some true:=by
   have hlt:a<(seenFrom S.nears S.pts.length (if v=0 then 1 else 0) ((noneSeen S.pts.length).setIfInBounds v true)).size:=by rw[hsz];exact ha
   rw[Jf hlt]
   cases hz:(seenFrom S.nears S.pts.length (if v=0 then 1 else 0) ((noneSeen S.pts.length).setIfInBounds v true))[a] with
   |true=>rfl
   |false =>
    exfalso
    have:(seenFrom S.nears S.pts.length (if v=0 then 1 else 0) ((noneSeen S.pts.length).setIfInBounds v true)).contains false=true:=by
     rw[Array.contains_iff_mem]
     rw[<-hz];exact Array.getElem_mem hlt
    rw[h10]at this;cases this
  refine i6 k (ok:=λu=>u≠v) (c:=m s) he _ _ _ ⟨?_,?_,?_⟩ a hs hav
  ·intro x hx
   have hx:x=s:=by simpa using hx
   subst hx;exact⟨hsv,rfl⟩
  ·intro j hj hjv
   by_cases e:s=j
   ·subst e;rfl
   ·rw[GH e,GH (FQ hjv)]at hj
    unfold noneSeen at hj
    rw[Array.getElem?_replicate]at hj
    split at hj<;>simp at hj
  ·intro j hj e
   subst e
   rw[GH hsv,Array.getElem?_setIfInBounds_self]at hj
   split at hj<;>simp at hj
 intro a b ha hb hav hbv
 rw[key a ha hav,key b hb hbv]
theorem gZ:∀(r:List Nat) (a m:Nat),m∈a :: r->(∀x∈a :: r,m<=x)->r.foldl min a=m
 |[],a,m,h,_=>by simp at h;simp[h]
 |b :: r,a,m,h,hm=>by
  rw[HU]
  apply gZ r
  ·have h1:=hm a (by simp)
   have h2:=hm b (by simp)
   rcases Fp.1 h with e|e
   ·subst e;simp;left;lia
   ·rcases Fp.1 e with e|e
    ·subst e;simp;left;lia
    ·simp[e]
  ·intro x hx
   rcases Fp.1 hx with e|e
   ·have h1:=hm a (by simp)
    have h2:=hm b (by simp)
    lia
   ·exact hm x (by simp[e])
theorem dQ {m:Nat}{t:List Nat}(hm:∀x∈t,m<x){j:Nat}(hj:j<(m :: t).length) :
  fromLeast ((m :: t).drop j++(m :: t).take j)=m :: t:=by
 have hmem:∀x,x∈(m :: t).drop j++(m :: t).take j->x∈m :: t:=by
  intro x hx
  rcases FR.1 hx with h|h
  ·exact HJ h
  ·exact GO h
 have hge:∀x,x∈(m :: t).drop j++(m :: t).take j->m<=x:=by
  intro x hx
  rcases Fp.1 (hmem x hx) with e|e
  ·lia
  ·exact Iw (hm x e)
 by_cases h0:j=0
 ·subst h0
  simp only[List.drop_zero,List.take_zero,GT]at *
  unfold fromLeast
  simp only
  rw[gZ t m m (by simp) hge]
  simp
 ·obtain⟨i,rfl⟩:∃i,j=i+1:=⟨j-1,by lia⟩
  have hin:m∈(m :: t).drop (i+1)++(m :: t).take (i+1):=by simp
  have hno:m∉(m :: t).drop (i+1):=by
   intro h
   simp only[List.drop_succ_cons]at h
   have:=hm m (HJ h);lia
  have hidx:((m :: t).drop (i+1)++(m :: t).take (i+1)).idxOf m=((m :: t).drop (i+1)).length:=by
   rw[List.take_succ_cons];exact lx hno
  generalize hL:(m :: t).drop (i+1)++(m :: t).take (i+1)=L at *
  unfold fromLeast
  cases L with
  |nil=>simp at hin
  |cons a r =>
   simp only
   rw[gZ r a m hin hge,hidx,<-hL,List.drop_left,List.take_left,List.take_append_drop]
structure dh (S:Plan):Prop extends Kept S where
 pts4:4<=S.pts.length
 r6:frameOk S=true
 r9:(FJ S.pts.length).find? (λ(i:Nat)=>!((seenFrom S.nears S.pts.length 0 (noneSeen S.pts.length)).getD i false))=none
 r10:(FJ S.pts.length).find? (cuts S.nears S.pts.length)=none
theorem dh.conn {S:Plan}(k:dh S):tw (ab S) (λ_=>True):=xx k.toKept (by have:=k.pts4;lia) k.r9
theorem dh.but {S:Plan}(k:dh S):∀v,v<(ab S).n->tw (ab S) (λu=>u≠v):=by
 intro v hv
 have:=Ij.1 k.r10 v (by simpa [ab] using hv)
 exact ye k.toKept k.pts4 hv (by simpa using this)
theorem kC {S:Plan}(k:dh S){e:ao}(he:(ab S).J e.1 e.2):(rnd S e).Nodup:=by
 have p:=dg k.toKept he
 have g:=bc S k.toKept
 have r:=cw k.toKept
 rw[p.rnd,List.Nodup,List.pairwise_map,FY]
 have get:∀n i a (h:a<(seg (aj S) e i n).length),(seg (aj S) e i n)[a]=aD (aj S) e (i+a):=by
  intro n
  induction n with
  |zero=>intro i a h;simp[seg]at h
  |succ n ih =>
   intro i a h
   cases a with
   |zero=>rfl
   |succ a =>
    simp only[seg,List.getElem_cons_succ]
    rw[ih];congr 1;lia
 intro a b ha hb hab
 rw[get,get]
 rw[cC]at hb
 simpa using sj g r he p.back p.dist k.but hab hb
theorem kY {S:Plan}{l:List Nat}(hc:chained S l=true){i:Nat}(hi:i+1<l.length):(ab S).J l[i] l[i+1]:=by
 unfold chained at hc
 rw[Gx]at hc
 have hm:(l[i],l[i+1])∈l.zip (l.drop 1):=by
  rw[List.mem_iff_getElem]
  refine⟨i,by simp;lia,?_⟩
  rw[ID,Iv]
  congr 2;lia
 have:=hc _ hm
 unfold Plan.joined at this
 rw[Ik]at this
 simp only at this
 rcases Nat.le_total l[i] l[i+1] with h|h
 ·rw[FN h,Gu h]at this;exact G3 this
 ·rw[FM h,GV h]at this;exact GA this
theorem a4 {S:Plan}{on:Pt->Bool}{b:Nat}:b∈edgePts S on↔b<S.pts.length/\on (S.pt b)=true:=by
 unfold edgePts;rw[FX];simp
theorem hU {S:Plan}{on:Pt->Bool}:(edgePts S on).Pairwise (· < ·):=by
 unfold edgePts;exact List.pairwise_lt_range.filter _
theorem m6 {S:Plan}{on:Pt->Bool}(hc:chained S (edgePts S on)=true){b c:Nat}(hb:b∈edgePts S on)(hcm:c∈edgePts S on)(h:c<b) :
  ∃k,k∈edgePts S on/\k<b/\(ab S).J k b:=by
 obtain⟨i,hi,ei⟩:=FO hb
 obtain⟨j,hj,ej⟩:=FO hcm
 have hlt:=FY.1 (hU (S:=S) (on:=on))
 have hji:j<i:=by
  apply bcn;intro hn
  rcases Nat.lt_or_eq_of_le (Nat.le_of_not_lt hn) with h'|h'
  ·have:=hlt i j hi hj h';lia
  ·subst h';lia
 obtain⟨i',rfl⟩:∃i',i=i'+1:=⟨i-1,by lia⟩
 refine⟨(edgePts S on)[i'],FS _,?_,?_⟩
 ·have:=hlt i' (i'+1) (by lia) hi (by lia);lia
 ·have:=kY hc hi
  rw[ei]at this;exact this
theorem m5 {S:Plan}{on:Pt->Bool}(hc:chained S (edgePts S on)=true){b c:Nat}(hb:b∈edgePts S on)(hcm:c∈edgePts S on)(h:b<c) :
  ∃k,k∈edgePts S on/\b<k/\(ab S).J b k:=by
 obtain⟨i,hi,ei⟩:=FO hb
 obtain⟨j,hj,ej⟩:=FO hcm
 have hlt:=FY.1 (hU (S:=S) (on:=on))
 have hji:i<j:=by
  apply bcn;intro hn
  rcases Nat.lt_or_eq_of_le (Nat.le_of_not_lt hn) with h'|h'
  ·have:=hlt j i hj hi h';lia
  ·subst h';lia
 refine⟨(edgePts S on)[i+1],FS _,?_,?_⟩
 ·have:=hlt i (i+1) (by lia) (by lia) (by lia);lia
 ·have:=kY hc (i:=i) (by lia)
  rw[ei]at this;exact this
structure uE (S:Plan):Prop where
 inw:∀{i},i<S.pts.length->(S.pt i).x<=S.w/\(S.pt i).y<=S.h
 bot:∀{b},b<S.pts.length->(S.pt b).y=0->(S.pt b).x≠0->∃k,(ab S).J b k/\(S.pt k).y=0/\(S.pt k).x<(S.pt b).x
 lef:∀{b},b<S.pts.length->(S.pt b).x=0->(S.pt b).y≠S.h->∃k,(ab S).J b k/\(S.pt k).x=0/\(S.pt b).y<(S.pt k).y
 top:∀{b},b<S.pts.length->(S.pt b).y=S.h->(S.pt b).x≠S.w->∃k,(ab S).J b k/\(S.pt k).y=S.h/\(S.pt b).x<(S.pt k).x
 rig:∀{b},b<S.pts.length->(S.pt b).x=S.w->(S.pt b).y≠0->∃k,(ab S).J b k/\(S.pt k).x=S.w/\(S.pt k).y<(S.pt b).y
 last:∃c,c+1=S.pts.length/\(S.pt c).x=S.w/\(S.pt c).y=S.h
theorem dZ {S:Plan}{p:Pt}(h:S.pts.contains p=true):∃c,c<S.pts.length/\S.pt c=p:=by
 rw[Ik]at h
 obtain⟨i,hi,e⟩:=FO h
 exact⟨i,hi,by rw[bH S hi];exact e⟩
theorem iy {S:Plan}(k:Kept S)(h6:frameOk S=true):uE S:=by
 have hin:∀{i},i<S.pts.length->(S.pt i).x<=S.w/\(S.pt i).y<=S.h:=by
  intro i hi
  have:=(b9 k.r4).1 (S.pt i) (by rw[bH S hi];exact FS _)
  simpa using this
 unfold frameOk at h6
 simp only[Fn]at h6
 obtain⟨c00,cw0,c0h,cwh,e1,e2,e3,e4⟩:=h6
 obtain⟨a0,a1,a2⟩:=dZ c00
 obtain⟨b0,b1,b2⟩:=dZ cw0
 obtain⟨c0,c1,c2⟩:=dZ c0h
 obtain⟨d0,d1,d2⟩:=dZ cwh
 have lt_of:∀{i j},i<S.pts.length->j<S.pts.length->((S.pt i).y<(S.pt j).y\/((S.pt i).y=(S.pt j).y/\(S.pt i).x<(S.pt j).x))->i<j:=by
  intro i j hi hj h
  rcases Nat.lt_trichotomy i j with h'|h'|h'
  ·exact h'
  ·subst h';lia
  ·have:=k.ord h' hi
   rw[eG]at this;lia
 have lt_to:∀{i j},i<j->j<S.pts.length->((S.pt i).y<(S.pt j).y\/((S.pt i).y=(S.pt j).y/\(S.pt i).x<(S.pt j).x)):=by
  intro i j h hj
  have:=k.ord h hj
  rw[eG]at this;exact this
 have g:=bc S k
 refine⟨hin,?_,?_,?_,?_,?_⟩
 ·intro b hb hy hx
  obtain⟨j,h1,h2,h3⟩:=m6 e1 (b:=b) (c:=a0) (a4.2 ⟨hb,by simpa using hy⟩) (a4.2 ⟨a1,by rw[a2];rfl⟩)
   (lt_of a1 hb (by rw[a2];simp only;lia))
  have h1':=(a4.1 h1).2
  have:=lt_to h2 hb
  exact⟨j,g.symm h3,by simpa using h1',by simp at h1';lia⟩
 ·intro b hb hx hy
  have:=hin hb
  obtain⟨j,h1,h2,h3⟩:=m5 e3 (b:=b) (c:=c0) (a4.2 ⟨hb,by simpa using hx⟩) (a4.2 ⟨c1,by rw[c2];rfl⟩)
   (lt_of hb c1 (by rw[c2];simp only;lia))
  have h1':=(a4.1 h1)
  have:=lt_to h2 h1'.1
  have h1'':=h1'.2
  exact⟨j,h3,by simpa using h1'',by simp at h1'';lia⟩
 ·intro b hb hy hx
  have:=hin hb
  obtain⟨j,h1,h2,h3⟩:=m5 e2 (b:=b) (c:=d0) (a4.2 ⟨hb,by simpa using hy⟩) (a4.2 ⟨d1,by rw[d2];simp⟩)
   (lt_of hb d1 (by rw[d2];simp only;lia))
  have h1':=(a4.1 h1)
  have:=lt_to h2 h1'.1
  have h1'':=h1'.2
  exact⟨j,h3,by simpa using h1'',by simp at h1'';lia⟩
 ·intro b hb hx hy
  have:=hin hb
  obtain⟨j,h1,h2,h3⟩:=m6 e4 (b:=b) (c:=b0) (a4.2 ⟨hb,by simpa using hx⟩) (a4.2 ⟨b1,by rw[b2];simp⟩)
   (lt_of b1 hb (by rw[b2];simp only;lia))
  have h1':=(a4.1 h1).2
  have:=lt_to h2 hb
  exact⟨j,g.symm h3,by simpa using h1',by simp at h1';lia⟩
 ·refine⟨d0,?_,by rw[d2],by rw[d2]⟩
  apply bcn;intro hn
  have hl:d0+1<S.pts.length:=by lia
  have h1:=lt_to (show d0<d0+1 by lia) hl
  have h2:=hin hl
  rw[d2]at h1;simp only at h1;lia
theorem gi {R k c:Int×Int}(h1:cr R k=0)(h2:R.1*k.1+R.2*k.2<0)(h3:0<=cr R c)(h4:cr R c=0->cr c k=0):sooner R c k=false:=by
 rw[dq,md h1 h2]
 by_cases h:cr R c=0
 ·have:=h4 h
  have:half R c≠0:=by
   have e:¬R.1*c.2-R.2*c.1<0:=by unfold cr at h;lia
   unfold half;simp only[e,I0];split
   ·lia
   ·split<;>lia
  lia
 ·rw[bG (by lia)];lia
theorem fV {R k c:Int×Int}(h1:0<cr R k)(h2:0<=cr R c)(h3:0<=cr c k)(h4:cr R c=0->0<=R.1*c.1+R.2*c.2):sooner R c k=false:=by
 rw[dq,bG h1]
 by_cases h:cr R c=0
 ·have h5:=h4 h
  have:half R c=3:=by
   have e:¬R.1*c.2-R.2*c.1<0:=by unfold cr at h;lia
   have e2:¬0<R.1*c.2-R.2*c.1:=by unfold cr at h;lia
   have e3:¬R.1*c.1+R.2*c.2<0:=by lia
   unfold half;simp only[e,e2,e3,I0]
  lia
 ·rw[bG (by lia)];lia
def Fc (S:Plan)(a b:Nat):Prop :=
 ((S.pt a).y=0/\(S.pt b).y=0/\(S.pt b).x<(S.pt a).x)\/((S.pt a).x=0/\(S.pt b).x=0/\(S.pt a).y<(S.pt b).y) \/
 ((S.pt a).y=S.h/\(S.pt b).y=S.h/\(S.pt a).x<(S.pt b).x)\/((S.pt a).x=S.w/\(S.pt b).x=S.w/\(S.pt b).y<(S.pt a).y)
theorem zt {S:Plan}(k:Kept S)(f:uE S)(hw:0<S.w)(hh:0<S.h){a b:Nat}(hab:(ab S).J a b)(h:Fc S a b) :
  Fc S b (bC (aj S b) a):=by
 have g:=bc S k
 have r:=cw k
 have hb:b<S.pts.length:=g.lt (g.symm hab)
 have ha:=r.mem.2 (g.symm hab)
 have soon:=mB k ha
 have key:∀j,(ab S).J b j->sooner (dir S b a) (dir S b (bC (aj S b) a)) (dir S b j)=false->Fc S b j->Fc S b (bC (aj S b) a):=by
  intro j hj hs hf
  by_cases e:j=bC (aj S b) a
  ·rw[<-e];exact hf
  ·have:=(soon j (r.mem.2 hj) e).1
   rw[hs]at this;cases this
 have hc:(ab S).J b (bC (aj S b) a):=r.mem.1 (kL ha)
 have hcn:bC (aj S b) a<S.pts.length:=g.lt (g.symm hc)
 have ic:=f.inw hcn
 have ib:=f.inw hb
 generalize bC (aj S b) a=c at *
 have mn:∀{x y:Int},0<=x->0<=y->0<=x*y:=λh1 h2=>Fo h1 h2
 rcases h with⟨y1,y2,y3⟩|⟨y1,y2,y3⟩|⟨y1,y2,y3⟩|⟨y1,y2,y3⟩
 ·
  by_cases e:(S.pt b).x=0
  ·obtain⟨j,hj,j1,j2⟩:=f.lef hb e (by lia)
   refine key j hj ?_ (GA (G3 ⟨e,j1,j2⟩))
   rw[a6,a6,a6]
   have r1:(0:Int)<(ab S).X a-(ab S).X b:=by simp only[ab];lia
   have r2:(ab S).Y a-(ab S).Y b=0:=by simp only[ab];lia
   have k1:(ab S).X j-(ab S).X b=0:=by simp only[ab];lia
   have k2:(0:Int)<(ab S).Y j-(ab S).Y b:=by simp only[ab];lia
   have c1:(0:Int)<=(ab S).X c-(ab S).X b:=by simp only[ab];lia
   have c2:(0:Int)<=(ab S).Y c-(ab S).Y b:=by simp only[ab];lia
   rw[r2,k1]
   generalize (ab S).X a-(ab S).X b=rx at *
   generalize (ab S).Y j-(ab S).Y b=ky at *
   generalize (ab S).X c-(ab S).X b=cx at *
   generalize (ab S).Y c-(ab S).Y b=cy at *
   apply fV
   ·have:=Fw r1 k2;simpa [cr] using this
   ·have:=mn (Ii r1) c2;simpa [cr] using this
   ·have:=mn c1 (Ii k2);simpa [cr] using this
   ·intro _;have:=mn (Ii r1) c1;simpa using this
  ·obtain⟨j,hj,j1,j2⟩:=f.bot hb y2 e
   refine key j hj ?_ (G3 ⟨y2,j1,j2⟩)
   rw[a6,a6,a6]
   have r1:(0:Int)<(ab S).X a-(ab S).X b:=by simp only[ab];lia
   have r2:(ab S).Y a-(ab S).Y b=0:=by simp only[ab];lia
   have k1:(ab S).X j-(ab S).X b<0:=by simp only[ab];lia
   have k2:(ab S).Y j-(ab S).Y b=0:=by simp only[ab];lia
   have c2:(0:Int)<=(ab S).Y c-(ab S).Y b:=by simp only[ab];lia
   rw[r2,k2]
   generalize (ab S).X a-(ab S).X b=rx at *
   generalize (ab S).X j-(ab S).X b=kx at *
   generalize (ab S).X c-(ab S).X b=cx at *
   generalize (ab S).Y c-(ab S).Y b=cy at *
   apply gi
   ·simp[cr]
   ·have:=az _ _ r1 k1;simpa using this
   ·have:=mn (Ii r1) c2;simpa [cr] using this
   ·intro h
    simp[cr]at h ⊢
    rcases Hx.1 h with h|h
    ·lia
    ·rw[h];simp
 ·
  by_cases e:(S.pt b).y=S.h
  ·obtain⟨j,hj,j1,j2⟩:=f.top hb e (by lia)
   refine key j hj ?_ (GA (GA (G3 ⟨e,j1,j2⟩)))
   rw[a6,a6,a6]
   have r1:(ab S).X a-(ab S).X b=0:=by simp only[ab];lia
   have r2:(ab S).Y a-(ab S).Y b<0:=by simp only[ab];lia
   have k1:(0:Int)<(ab S).X j-(ab S).X b:=by simp only[ab];lia
   have k2:(ab S).Y j-(ab S).Y b=0:=by simp only[ab];lia
   have c1:(0:Int)<=(ab S).X c-(ab S).X b:=by simp only[ab];lia
   have c2:(ab S).Y c-(ab S).Y b<=0:=by simp only[ab];lia
   rw[r1,k2]
   generalize (ab S).Y a-(ab S).Y b=ry at *
   generalize (ab S).X j-(ab S).X b=kx at *
   generalize (ab S).X c-(ab S).X b=cx at *
   generalize (ab S).Y c-(ab S).Y b=cy at *
   apply fV
   ·have:=Fw (show 0 < -ry by lia) k1;simp[cr];grind
   ·have:=mn (show 0<=-ry by lia) c1;simp[cr];grind
   ·have:=mn (show 0<=-cy by lia) (Ii k1);simp[cr];grind
   ·intro _;have:=mn (show 0<=-ry by lia) (show 0<=-cy by lia);simp;grind
  ·obtain⟨j,hj,j1,j2⟩:=f.lef hb y2 e
   refine key j hj ?_ (GA (G3 ⟨y2,j1,j2⟩))
   rw[a6,a6,a6]
   have r1:(ab S).X a-(ab S).X b=0:=by simp only[ab];lia
   have r2:(ab S).Y a-(ab S).Y b<0:=by simp only[ab];lia
   have k1:(ab S).X j-(ab S).X b=0:=by simp only[ab];lia
   have k2:(0:Int)<(ab S).Y j-(ab S).Y b:=by simp only[ab];lia
   have c1:(0:Int)<=(ab S).X c-(ab S).X b:=by simp only[ab];lia
   rw[r1,k1]
   generalize (ab S).Y a-(ab S).Y b=ry at *
   generalize (ab S).Y j-(ab S).Y b=ky at *
   generalize (ab S).X c-(ab S).X b=cx at *
   generalize (ab S).Y c-(ab S).Y b=cy at *
   apply gi
   ·simp[cr]
   ·have:=Fw (show 0 < -ry by lia) k2;simp;grind
   ·have:=mn (show 0<=-ry by lia) c1;simp[cr];grind
   ·intro h
    simp[cr]at h ⊢
    rcases Hx.1 h with h|h
    ·lia
    ·rw[h];simp
 ·
  by_cases e:(S.pt b).x=S.w
  ·obtain⟨j,hj,j1,j2⟩:=f.rig hb e (by lia)
   refine key j hj ?_ (GA (GA (GA ⟨e,j1,j2⟩)))
   rw[a6,a6,a6]
   have r1:(ab S).X a-(ab S).X b<0:=by simp only[ab];lia
   have r2:(ab S).Y a-(ab S).Y b=0:=by simp only[ab];lia
   have k1:(ab S).X j-(ab S).X b=0:=by simp only[ab];lia
   have k2:(ab S).Y j-(ab S).Y b<0:=by simp only[ab];lia
   have c1:(ab S).X c-(ab S).X b<=0:=by simp only[ab];lia
   have c2:(ab S).Y c-(ab S).Y b<=0:=by simp only[ab];lia
   rw[r2,k1]
   generalize (ab S).X a-(ab S).X b=rx at *
   generalize (ab S).Y j-(ab S).Y b=ky at *
   generalize (ab S).X c-(ab S).X b=cx at *
   generalize (ab S).Y c-(ab S).Y b=cy at *
   apply fV
   ·have:=Fw (show 0 < -rx by lia) (show 0 < -ky by lia);simp[cr];grind
   ·have:=mn (show 0<=-rx by lia) (show 0<=-cy by lia);simp[cr];grind
   ·have:=mn (show 0<=-cx by lia) (show 0<=-ky by lia);simp[cr];grind
   ·intro _;have:=mn (show 0<=-rx by lia) (show 0<=-cx by lia);simp;grind
  ·obtain⟨j,hj,j1,j2⟩:=f.top hb y2 e
   refine key j hj ?_ (GA (GA (G3 ⟨y2,j1,j2⟩)))
   rw[a6,a6,a6]
   have r1:(ab S).X a-(ab S).X b<0:=by simp only[ab];lia
   have r2:(ab S).Y a-(ab S).Y b=0:=by simp only[ab];lia
   have k1:(0:Int)<(ab S).X j-(ab S).X b:=by simp only[ab];lia
   have k2:(ab S).Y j-(ab S).Y b=0:=by simp only[ab];lia
   have c2:(ab S).Y c-(ab S).Y b<=0:=by simp only[ab];lia
   rw[r2,k2]
   generalize (ab S).X a-(ab S).X b=rx at *
   generalize (ab S).X j-(ab S).X b=kx at *
   generalize (ab S).X c-(ab S).X b=cx at *
   generalize (ab S).Y c-(ab S).Y b=cy at *
   apply gi
   ·simp[cr]
   ·have:=Fw (show 0 < -rx by lia) k1;simp;grind
   ·have:=mn (show 0<=-rx by lia) (show 0<=-cy by lia);simp[cr];grind
   ·intro h
    simp[cr]at h ⊢
    rcases Hx.1 h with h|h
    ·lia
    ·rw[h];simp
 ·
  by_cases e:(S.pt b).y=0
  ·obtain⟨j,hj,j1,j2⟩:=f.bot hb e (by lia)
   refine key j hj ?_ (G3 ⟨e,j1,j2⟩)
   rw[a6,a6,a6]
   have r1:(ab S).X a-(ab S).X b=0:=by simp only[ab];lia
   have r2:(0:Int)<(ab S).Y a-(ab S).Y b:=by simp only[ab];lia
   have k1:(ab S).X j-(ab S).X b<0:=by simp only[ab];lia
   have k2:(ab S).Y j-(ab S).Y b=0:=by simp only[ab];lia
   have c1:(ab S).X c-(ab S).X b<=0:=by simp only[ab];lia
   have c2:(0:Int)<=(ab S).Y c-(ab S).Y b:=by simp only[ab];lia
   rw[r1,k2]
   generalize (ab S).Y a-(ab S).Y b=ry at *
   generalize (ab S).X j-(ab S).X b=kx at *
   generalize (ab S).X c-(ab S).X b=cx at *
   generalize (ab S).Y c-(ab S).Y b=cy at *
   apply fV
   ·have:=Fw r2 (show 0 < -kx by lia);simp[cr];grind
   ·have:=mn (Ii r2) (show 0<=-cx by lia);simp[cr];grind
   ·have:=mn c2 (show 0<=-kx by lia);simp[cr];grind
   ·intro _;have:=mn (Ii r2) c2;simpa using this
  ·obtain⟨j,hj,j1,j2⟩:=f.rig hb y2 e
   refine key j hj ?_ (GA (GA (GA ⟨y2,j1,j2⟩)))
   rw[a6,a6,a6]
   have r1:(ab S).X a-(ab S).X b=0:=by simp only[ab];lia
   have r2:(0:Int)<(ab S).Y a-(ab S).Y b:=by simp only[ab];lia
   have k1:(ab S).X j-(ab S).X b=0:=by simp only[ab];lia
   have k2:(ab S).Y j-(ab S).Y b<0:=by simp only[ab];lia
   have c1:(ab S).X c-(ab S).X b<=0:=by simp only[ab];lia
   rw[r1,k1]
   generalize (ab S).Y a-(ab S).Y b=ry at *
   generalize (ab S).Y j-(ab S).Y b=ky at *
   generalize (ab S).X c-(ab S).X b=cx at *
   generalize (ab S).Y c-(ab S).Y b=cy at *
   apply gi
   ·simp[cr]
   ·have:=az _ _ r2 k2;simpa using this
   ·have:=mn (Ii r2) (show 0<=-cx by lia);simp[cr];grind
   ·intro h
    simp[cr]at h ⊢
    rcases Hx.1 h with h|h
    ·lia
    ·rw[h];simp
theorem lv:∀(l:List Int),(∀x∈l,x<=0)->l.foldr (λ(a b:Int)=>a+b) 0<=0
 |[],_=>by simp
 |a :: r,h=>by
  rw[List.foldr_cons]
  have:=lv r (λx hx=>h x (by simp[hx]))
  have:=h a (by simp);lia
theorem outer {S:Plan}(k:Kept S)(f:uE S)(hw:0<S.w)(hh:0<S.h):∃o:ao,(ab S).J o.1 o.2 /\
  (∀E:List ao,(∀e∈E,(ab S).J e.1 e.2)->cM E->(ab S).om E o.1 o.2=false)/\twiceArea S (rnd S o)<=0:=by
 have g:=bc S k
 have r:=cw k
 obtain⟨v,hv,vx,vy⟩:=f.last
 obtain⟨j,hj,j1,j2⟩:=f.rig (b:=v) (by lia) vx (by lia)
 have hjv:j<v:=by
  have h1:j<S.pts.length:=g.lt (g.symm hj)
  have h2:=g.ne hj
  lia
 refine⟨(v,j),hj,?_,?_⟩
 ·intro E hE hc
  rw[<-hc (λx=>decide (x=v))]
  unfold Dr.om
  apply bh
  intro e he
  have hje:=hE e he
  have aux:∀p q,(ab S).J p q->p<q->(ab S).Om v j p q=(decide (p=v)^^decide (q=v)):=by
   intro p q hpq hlt
   have hq:q<S.pts.length:=g.lt (g.symm hpq)
   have hpv:p≠v:=by lia
   have hb:(ab S).base v p q=false:=by
    unfold Dr.base
    apply dqf
    intro h
    have h1:=f.inw hq
    have h2:=h.2.2.2.1
    simp only[ab]at h2;lia
   unfold Dr.Om
   rw[hb]
   by_cases hqv:q=v
   ·subst hqv
    have hpre:(ab S).pre q p j=true:=by
     unfold Dr.pre
     apply dqt
     by_cases e:p=j
     ·exact G3 e
     ·refine GA (GA ⟨GA ⟨hlt,hjv⟩,?_⟩)
      have hz:=oG k (g.symm hpq) hj e (GA ⟨hlt,hjv⟩)
      have:0<=(ab S).tr q p j:=by
       rw[tT,a6,a6]
       have k1:(ab S).X j-(ab S).X q=0:=by simp only[ab];lia
       have k2:(ab S).Y j-(ab S).Y q<0:=by simp only[ab];lia
       have i1:=f.inw (show p<S.pts.length by lia)
       have c1:(ab S).X p-(ab S).X q<=0:=by simp only[ab];lia
       rw[k1]
       have:=Fo (show 0<=-((ab S).X p-(ab S).X q) by lia) (show 0<=-((ab S).Y j-(ab S).Y q) by lia)
       simp only[cr];grind
      lia
    simp[hpv,hpre]
   ·simp[hpv,hqv]
  rcases Gs (g.ne hje) with h|h
  ·rw[FN (by lia),Gu (by lia)];exact aux _ _ hje h
  ·rw[FM (by lia),GV (by lia),Ih];exact aux _ _ (g.symm hje) h
 ·have hall:∀i,Fc S (aD (aj S) (v,j) i).1 (aD (aj S) (v,j) i).2:=by
   intro i
   induction i with
   |zero=>exact GA (GA (GA ⟨vx,j1,j2⟩))
   |succ i ih=>exact zt k f hw hh (eE g r hj i) ih
  unfold twiceArea
  apply lv
  intro x hx
  rw[Gc]at hx
  obtain⟨e,he,rfl⟩:=hx
  have he:e∈prs (rnd S (v,j)):=he
  rw[ig k hj,dS k hj]at he
  obtain⟨i,rfl⟩:=he
  rcases hall i with⟨h1,h2,h3⟩|⟨h1,h2,h3⟩|⟨h1,h2,h3⟩|⟨h1,h2,h3⟩
  ·rw[h1,h2];simp
  ·rw[h1,h2];simp
  ·rw[h1,h2]
   have:=Fo (show(0:Int)<=((S.pt (aD (aj S) (v,j) i).2).x:Int)-((S.pt (aD (aj S) (v,j) i).1).x:Int) by lia) (show(0:Int)<=(S.h:Int) by lia)
   grind
  ·rw[h1,h2]
   have:=Fo (show(0:Int)<=((S.pt (aD (aj S) (v,j) i).1).y:Int)-((S.pt (aD (aj S) (v,j) i).2).y:Int) by lia) (show(0:Int)<=(S.w:Int) by lia)
   grind
theorem oU (f:ao->Bool):∀E:List ao,xs f E=decide ((E.filter f).length % 2=1)
 |[]=>by simp[xs]
 |e :: r=>by
  rw[xs,oU f r,List.filter_cons]
  cases f e with
  |false=>simp
  |true =>
   simp only[if_true,FT,Bool.true_xor]
   by_cases h:(r.filter f).length % 2=1
   ·have:¬((r.filter f).length+1) % 2=1:=by lia
    simp[h,this]
   ·have:((r.filter f).length+1) % 2=1:=by lia
    simp[h,this]
theorem k9 {S:Plan}(k:Kept S){e:ao}(he:(ab S).J e.1 e.2)(z:Pt):insideOf S (rnd S e) z=xs (lh ((ab S).cz z.x z.y)) (orb S e):=by
 have g:=bc S k
 rw[oU]
 unfold insideOf
 have h1:(rnd S e).zip ((rnd S e).drop 1++(rnd S e).take 1)=orb S e:=ig k he
 rw[h1]
 have:∀x∈orb S e,(let p:=S.pt x.1
   let q:=S.pt x.2
   (decide (p.y<=z.y)&&(decide (z.y<q.y)&&decide (0<turn p q z)))||(decide (q.y<=z.y)&&(decide (z.y<p.y)&&decide (turn p q z<0))))=lh ((ab S).cz z.x z.y) x:=by
  intro x hx
  have hj:=fN k he hx
  have ord:∀{i j},(ab S).J i j->i<j->(S.pt i).y<=(S.pt j).y:=by
   intro i j h hlt
   rcases g.ord hlt (g.lt (g.symm h)) with h|h<;>(simp only[ab]at h;lia)
  have trz:∀p q,turn (S.pt p) (S.pt q) z=(ab S).trz p q z.x z.y:=by intro p q;rfl
  have trs:∀p q,(ab S).trz q p z.x z.y=- (ab S).trz p q z.x z.y:=by intro p q;unfold Dr.trz tr6;grind
  unfold lh
  rcases Gs (g.ne hj) with h|h
  ·rw[FN (by lia),Gu (by lia)]
   have o:=ord hj h
   simp only[trz]
   unfold Dr.cz
   rw[Ge]
   simp only[Hw,Fn,Fq]
   simp only[ab]at *
   lia
  ·rw[FM (by lia),GV (by lia)]
   have o:=ord (g.symm hj) h
   simp only[trz]
   rw[trs x.2 x.1]
   unfold Dr.cz
   rw[Ge]
   simp only[Hw,Fn,Fq]
   simp only[ab]at *
   lia
 rw[List.filter_congr this]
theorem one_pane {S:Plan}(k:dh S)(hw:0<S.w)(hh:0<S.h){e e':ao}(he:(ab S).J e.1 e.2)(he':(ab S).J e'.1 e'.2)
  (a:0<twiceArea S (rnd S e)) (a':0<twiceArea S (rnd S e')) {z:Pt} (i:insideOf S (rnd S e) z=true) (i':insideOf S (rnd S e') z=true)
  (hrot:∀{x y:ao},(ab S).J x.1 x.2->y∈orb S x->twiceArea S (rnd S y)=twiceArea S (rnd S x)):e'∈orb S e:=by
 have kk:=k.toKept
 have g:=bc S kk
 have r:=cw kk
 obtain⟨o,ho,hoz,hoa⟩:=outer kk (iy kk k.r6) hw hh
 rw[k9 kk he]at i
 rw[k9 kk he']at i'
 have oE:∀{e:ao},(ab S).J e.1 e.2->∀x∈orb S e,(ab S).J x.1 x.2:=λh x hx=>fN kk h hx
 have oC:∀{e:ao},(ab S).J e.1 e.2->cM (orb S e):=by
  intro e h
  have p:=dg kk h
  rw[p.orb]
  exact fO _ _ (by rw[Hf,p.back];rfl)
 have sees:∀{e:ao},(ab S).J e.1 e.2->0<twiceArea S (rnd S e)->∀{x:ao},(ab S).J x.1 x.2->(ab S).om (orb S e) x.1 x.2=decide (x∈orb S e):=by
  intro e h ha x hx
  have p:=dg kk h
  have hno:o∉orb S e:=by
   intro hm
   have:=hrot h hm
   lia
  have hz:=hoz (orb S e) (oE h) (oC h)
  rw[p.orb]at hno hz ⊢
  exact pq g r h p.pos p.back p.dist k.conn ho hz hno hx
 rcases AN g S.lines (by
   intro p q hpq hlt
   rcases hpq with h|h
   ·exact h
   ·have:=kk.line h;simp only at this;lia) (by
   intro l hl
   have:=kk.line hl
   exact⟨G3 hl,this.1⟩) z.x z.y with h|⟨u,w,huw,h⟩
 ·rw[h _ (oE he)]at i;cases i
 ·rw[h _ (oE he) (oC he)]at i
  rw[h _ (oE he') (oC he')]at i'
  have s1:=sees he a (x:=(u,w)) huw
  have s2:=sees he' a' (x:=(u,w)) huw
  simp only at s1 s2
  rw[i]at s1
  rw[i']at s2
  have m1:=Ff s1.symm
  have m2:=Ff s2.symm
  exact fF kk he m1 (ee kk he' m2)
def sm (l:List Int):Int:=l.foldr (λ(a b:Int)=>a+b) 0
theorem bS (a:Int)(l:List Int):sm (a :: l)=a+sm l:=rfl
theorem je:∀l m:List Int,sm (l++m)=sm l+sm m
 |[],m=>by show sm m=0+sm m;lia
 |a :: l,m=>by
  show a+sm (l++m)=a+sm l+sm m
  rw[je l m];lia
theorem tS {l m:List Int}(h:l.Perm m):sm l=sm m:=by
 induction h with
 |nil=>rfl
 |cons x _ ih=>rw[bS,bS,ih]
 |swap x y l=>rw[bS,bS,bS,bS];lia
 |trans _ _ h1 h2=>rw[h1,h2]
theorem io {α:Type}(f g:α->Int):∀l:List α,sm (l.map λx=>f x+g x)=sm (l.map f)+sm (l.map g)
 |[]=>rfl
 |a :: l=>by
  simp only[FH,bS]
  rw[io f g l];lia
theorem er {α:Type}(c:Int)(f:α->Int):∀l:List α,sm (l.map λx=>c*f x)=c*sm (l.map f)
 |[]=>by simp[sm]
 |a :: l=>by
  simp only[FH,bS]
  rw[er c f l,Int.mul_add]
theorem db {α:Type}{f g:α->Int}{l:List α}(h:∀x∈l,f x=g x):sm (l.map f)=sm (l.map g):=by
 rw[G6 h]
theorem qg {α:Type}:∀l:List α,sm (l.map λ_=>0)=0
 |[]=>rfl
 |a :: l=>by
  simp only[FH,bS]
  rw[qg l];rfl
theorem qC {α β:Type}(f:α->β->Int)(m:List β):∀l:List α,sm (l.map λx=>sm (m.map λy=>f x y))=sm (m.map λy=>sm (l.map λx=>f x y))
 |[]=>by
  show(0:Int)=sm (m.map λ_=>0)
  rw[qg]
 |a :: l=>by
  simp only[FH,bS]
  rw[qC f m l,<-io]
theorem oW:∀{l:List Int},(∀x∈l,0<=x)->0<=sm l
 |[],_=>Int.le_refl 0
 |a :: l,h=>by
  have h1:=h a FB
  have h2:=oW (l:=l) λx hx=>h x (Fj _ hx)
  rw[bS];lia
theorem AI {l:List Int}(h:∀x∈l,0<=x){y:Int}(hy:y∈l)(hp:0<y):0<sm l:=by
 induction l with
 |nil=>cases hy
 |cons a l ih =>
  rw[bS]
  have h1:=h a FB
  have h2:=oW (l:=l) λx hx=>h x (Fj _ hx)
  rcases Fp.1 hy with e|e
  ·subst e;lia
  ·have:=ih (λx hx=>h x (Fj _ hx)) e
   lia
def cr2 (S:Plan)(x:ao):Int:=((S.pt x.1).x:Int)*((S.pt x.2).y:Int)-((S.pt x.2).x:Int)*((S.pt x.1).y:Int)
theorem m7 {S:Plan}(k:Kept S){e:ao}(he:(ab S).J e.1 e.2):twiceArea S (rnd S e)=sm ((orb S e).map (cr2 S)):=by
 unfold twiceArea
 rw[show(rnd S e).zip ((rnd S e).drop 1++(rnd S e).take 1)=prs (rnd S e) from rfl,ig k he]
 rfl
theorem zH {S:Plan}(k:Kept S){e x:ao}(he:(ab S).J e.1 e.2)(hx:x∈orb S e):∃a b,orb S e=a++b/\orb S x=b++a:=by
 have p:=dg k he
 obtain⟨j,hj⟩:=(dS k he).1 hx
 rw[qc p.back p.pos]at hj
 have hjl:j % (rnd S e).length<(rnd S e).length:=Nat.mod_lt _ p.pos
 generalize j % (rnd S e).length=i at hj hjl
 have hl:=mE k he hx
 obtain⟨m,hm⟩:∃m,(rnd S e).length=i+m:=⟨(rnd S e).length-i,by lia⟩
 refine⟨seg (aj S) e 0 i,seg (aj S) e i m,?_,?_⟩
 ·rw[p.orb,hm,eB,Hf]
 ·unfold orb
  rw[hl,hj,k6,hm]
  have:i+m=m+i:=by lia
  rw[this,Nat.add_zero,eB]
  congr 1
  have h2:=mj p.back i 0
  rw[Nat.add_zero,hm]at h2;exact h2
theorem qT {S:Plan}(k:Kept S){x y:ao}(hx:(ab S).J x.1 x.2)(hy:y∈orb S x):twiceArea S (rnd S y)=twiceArea S (rnd S x):=by
 obtain⟨a,b,h1,h2⟩:=zH k hx hy
 rw[m7 k hx,m7 k (fN k hx hy),h1,h2,FP,FP,je,je,Int.add_comm]
variable  {d:Dr}
def Dr.ahead (d:Dr)(c:Int)(u w p q:Nat):Int:=d.den u w*d.num 0 c p q-d.den p q*d.num 0 c u w
theorem uz (g:eF d){u w p q:Nat}{c:Int}(huw:d.J u w)(hpq:d.J p q)(hu:d.Y u<=c)(hw:c<d.Y w)(hp:d.Y p<=c)(hq:c<d.Y q)(hne:¬(p=u/\q=w)) :
  (0<d.ahead c u w p q↔if p=u then d.tr u w q<0 else if d.Y p<=d.Y u then 0<d.tr p q u else d.tr u w p<0)/\d.ahead c u w p q≠0:=by
 have hun:=g.lt huw
 have hwn:=g.lt (g.symm huw)
 have hpn:=g.lt hpq
 have hqn:=g.lt (g.symm hpq)
 have iA:=idA (d.X u) (d.Y u) (d.X w) (d.Y w) (d.X p) (d.Y p) (d.X q) (d.Y q)
 have iB:=idB (d.X u) (d.Y u) (d.X w) (d.Y w) (d.X p) (d.Y p) (d.X q) (d.Y q)
 have iD:=DB (d.X u) (d.Y u) (d.X w) (d.Y w) (d.X p) (d.Y p) (d.X q) (d.Y q)
 have iN:=yf (d.X u) (d.Y u) (d.X w) (d.Y w) (d.X p) (d.Y p) (d.X q) (d.Y q) 0 c
 change -(d.Y q-d.Y p)*d.tr u w p=(d.Y w-d.Y u)*d.tr p q u+(d.tr p q w-d.tr p q u)*(d.Y p-d.Y u) at iA
 change -(d.Y q-d.Y p)*d.tr u w q=(d.Y w-d.Y u)*d.tr p q u+(d.tr p q w-d.tr p q u)*(d.Y q-d.Y u) at iB
 change (d.Y w-d.Y u)*d.tr p q w=(d.Y w-d.Y u)*d.tr p q u+(d.tr p q w-d.tr p q u)*(d.Y w-d.Y u) at iD
 change d.ahead c u w p q=2*((d.Y w-d.Y u)*d.tr p q u)+(d.tr p q w-d.tr p q u)*(2*c+1-2*d.Y u) at iN
 rw[iN]
 have a0:0<d.Y w-d.Y u:=by lia
 have b0:0<d.Y q-d.Y p:=by lia
 have nb:∀x:Int,-(d.Y q-d.Y p)*x=(d.Y q-d.Y p)*(-x):=by intro x;grind
 rw[nb]at iA iB
 generalize hv0:(d.Y w-d.Y u)*d.tr p q u=v0 at *
 generalize hK:d.tr p q w-d.tr p q u=K at *
 have fin:∀{P:Prop} {D:Int},(P->0<D)->(¬P->D<0)->((0<D↔P)/\D≠0):=by
  intro P D h1 h2
  by_cases hP:P
  ·have:=h1 hP
   exact⟨⟨λ_=>hP,λ_=>this⟩,by lia⟩
  ·have:=h2 hP
   exact⟨⟨λh=>by lia,λh=>absurd h hP⟩,by lia⟩
 apply fin
 ·intro hc
  by_cases hpu:p=u
  ·subst hpu
   rw[Fs rfl]at hc
   have hC:d.tr p q p=0:=kr d p q
   have v00:v0=0:=by rw[<-hv0,hC];simp
   have e1:0<K*(d.Y q-d.Y p):=by
    have:0<(d.Y q-d.Y p)*(- d.tr p w q):=Fw b0 (by lia)
    lia
   have e2:0<K:=by
    rw[Hg]at e1;exact(a8 b0).1 e1
   have:0<K*(2*c+1-2*d.Y p):=Fw e2 (by lia)
   lia
  ·rw[Fl hpu]at hc
   by_cases hpy:d.Y p<=d.Y u
   ·rw[Fs hpy]at hc
    have up:∃m,c<m/\0<=v0+K*(m-d.Y u):=by
     by_cases hqw:q=w
     ·subst hqw
      have hD:d.tr p q q=0:=cH d p q
      rw[hD]at iD
      simp at iD
      exact⟨_,hw,by lia⟩
     ·by_cases hh:d.Y q<=d.Y w
      ·have l:=L1 g huw hpq hpy (by lia) hh hpu hqw
       exact⟨d.Y q,hq,by rw[<-iB];exact Fo (by lia) (by lia)⟩
      ·have l:=L2 g huw hpq hpy (by lia) (by lia) hpu hqw
       exact⟨d.Y w,hw,by rw[<-iD];exact Fo (by lia) (by lia)⟩
    obtain⟨m,m1,m2⟩:=up
    have v0p:0<v0:=by rw[<-hv0];exact Fw a0 hc
    exact kQ (d.Y u) K (d.Y u) c m v0 (by simpa using v0p) m2 hu m1
   ·rw[Fl hpy]at hc
    have up:∃m,c<m/\0<=v0+K*(m-d.Y u):=by
     by_cases hqw:q=w
     ·subst hqw
      have hD:d.tr p q q=0:=cH d p q
      rw[hD]at iD
      simp at iD
      exact⟨_,hw,by lia⟩
     ·by_cases hh:d.Y q<=d.Y w
      ·have l:=L2 g hpq huw (by lia) (by lia) hh (FQ hpu) (FQ hqw)
       exact⟨d.Y q,hq,by rw[<-iB];exact Fo (by lia) (by lia)⟩
      ·have l:=L1 g hpq huw (by lia) (by lia) (by lia) (FQ hpu) (FQ hqw)
       exact⟨d.Y w,hw,by rw[<-iD];exact Fo (by lia) (by lia)⟩
    obtain⟨m,m1,m2⟩:=up
    have v0p:0<v0+K*(d.Y p-d.Y u):=by rw[<-iA];exact Fw b0 (by lia)
    exact kQ (d.Y u) K (d.Y p) c m v0 v0p m2 hp m1
 ·intro hc
  by_cases hpu:p=u
  ·subst hpu
   rw[Fs rfl]at hc
   have hqw:q≠w:=λe=>hne ⟨rfl,e⟩
   have hC:d.tr p q p=0:=kr d p q
   have v00:v0=0:=by rw[<-hv0,hC];simp
   have nB:d.tr p w q≠0:=by
    by_cases hh:d.Y q<=d.Y w
    ·exact nz g huw hqn (by lia) (by lia) hh (by intro e;subst e;lia) hqw
    ·have:=nz g hpq hwn (by lia) (by lia) (by lia) (by intro e;subst e;lia) (FQ hqw)
     have:=de d p q w
     lia
   have e1:K*(d.Y q-d.Y p)<0:=by
    have:(d.Y q-d.Y p)*(- d.tr p w q)<0:=az _ _ b0 (by lia)
    lia
   have e2:K<0:=by
    rw[Hg]at e1;exact(em b0).1 e1
   have:0<(-K)*(2*c+1-2*d.Y p):=Fw (by lia) (by lia)
   have e:(-K)*(2*c+1-2*d.Y p)=- (K*(2*c+1-2*d.Y p)):=by grind
   lia
  ·rw[Fl hpu]at hc
   by_cases hpy:d.Y p<=d.Y u
   ·rw[Fs hpy]at hc
    have nC:d.tr p q u≠0:=nz g hpq hun (by lia) hpy (by lia) (FQ hpu) (by intro e;subst e;lia)
    have hC:d.tr p q u<0:=by lia
    have up:∃m,c<m/\v0+K*(m-d.Y u)<=0:=by
     by_cases hqw:q=w
     ·subst hqw
      have hD:d.tr p q q=0:=cH d p q
      rw[hD]at iD
      simp at iD
      exact⟨_,hw,by lia⟩
     ·by_cases hh:d.Y q<=d.Y w
      ·have l:=L1 g huw hpq hpy (by lia) hh hpu hqw
       exact⟨d.Y q,hq,by
        rw[<-iB]
        have:=az (d.Y q-d.Y p) (- d.tr u w q) b0 (by lia)
        lia⟩
      ·have l:=L2 g huw hpq hpy (by lia) (by lia) hpu hqw
       exact⟨d.Y w,hw,by
        rw[<-iD]
        have:=az (d.Y w-d.Y u) (d.tr p q w) a0 (by lia)
        lia⟩
    obtain⟨m,m1,m2⟩:=up
    have v0n:v0<0:=by rw[<-hv0];exact az _ _ a0 hC
    exact jg (d.Y u) K (d.Y u) c m v0 (by simpa using v0n) m2 hu m1
   ·rw[Fl hpy]at hc
    have nA:d.tr u w p≠0:=nz g huw hpn (by lia) (by lia) (by lia) hpu (by intro e;subst e;lia)
    have hA':0<d.tr u w p:=by lia
    have up:∃m,c<m/\v0+K*(m-d.Y u)<=0:=by
     by_cases hqw:q=w
     ·subst hqw
      have hD:d.tr p q q=0:=cH d p q
      rw[hD]at iD
      simp at iD
      exact⟨_,hw,by lia⟩
     ·by_cases hh:d.Y q<=d.Y w
      ·have l:=L2 g hpq huw (by lia) (by lia) hh (FQ hpu) (FQ hqw)
       exact⟨d.Y q,hq,by
        rw[<-iB]
        have:=az (d.Y q-d.Y p) (- d.tr u w q) b0 (by lia)
        lia⟩
      ·have l:=L1 g hpq huw (by lia) (by lia) (by lia) (FQ hpu) (FQ hqw)
       exact⟨d.Y w,hw,by
        rw[<-iD]
        have:=az (d.Y w-d.Y u) (d.tr p q w) a0 (by lia)
        lia⟩
    obtain⟨m,m1,m2⟩:=up
    have v0n:v0+K*(d.Y p-d.Y u)<0:=by rw[<-iA];exact az _ _ b0 (by lia)
    exact jg (d.Y u) K (d.Y p) c m v0 v0n m2 hp m1
def Dr.sl (d:Dr)(c:Int)(u w p q:Nat):Bool:=decide (d.Y p<=c/\c<d.Y q/\((p=u/\q=w)\/0<d.ahead c u w p q))
theorem Bv (g:eF d){u w p q:Nat}{c:Int}(huw:d.J u w)(hpq:d.J p q)(h1:u<w)(h2:p<q)(hu:d.Y u<=c)(hw:c<d.Y w) :
  (d.sl c u w p q^^d.Om u w p q)=(d.Pz c u w p^^d.Pz c u w q):=by
 have hpn:=g.lt hpq
 have hqn:=g.lt (g.symm hpq)
 have hwn:=g.lt (g.symm huw)
 have hun:=g.lt huw
 have hy:d.Y u<d.Y w:=by lia
 rw[xP g huw hpq h1 h2 hy]
 have hpqy:d.Y p<=d.Y q:=by rcases g.ord h2 hqn with h|h<;>lia
 by_cases he:p=u/\q=w
 ·obtain⟨rfl,rfl⟩:=he
  have e1:d.sl c p q p q=true:=by unfold Dr.sl;exact dqt ⟨hu,hw,G3 ⟨rfl,rfl⟩⟩
  have e2:d.Pz c p q p=false:=by unfold Dr.Pz;exact dqf (by lia)
  have e3:d.Pz c p q q=false:=by unfold Dr.Pz;exact dqf (by lia)
  rw[e1,e2,e3];simp
 have pz1:∀v,¬(d.Y u<d.Y v/\d.Y v<=c)->d.Pz c u w v=false:=by
  intro v h;unfold Dr.Pz;exact dqf (λx=>h ⟨x.1,x.2.1⟩)
 have pz2:∀v,d.Y u<d.Y v->d.Y v<=c->d.Pz c u w v=decide (d.tr u w v<0):=by
  intro v h h';unfold Dr.Pz;simp[h,h']
 by_cases hcz:d.Y p<=c/\c<d.Y q
 ·obtain⟨c1,c2⟩:=hcz
  have czE:d.sl c u w p q=decide (0<d.ahead c u w p q):=by unfold Dr.sl;simp[c1,c2,he]
  have zo:=(uz g huw hpq hu hw c1 c2 he).1
  rw[pz1 q (by lia),GZ,czE]
  by_cases hpu:p=u
  ·subst hpu
   rw[Fs rfl]at zo ⊢
   rw[pz1 p (by lia)]
   have hqw:q≠w:=λe=>he ⟨rfl,e⟩
   have:(q=w\/(d.Y p<d.Y q/\d.tr p w q<0))↔0<d.ahead c p w p q:=by
    rw[zo];constructor
    ·rintro(h|h)
     ·exact absurd h hqw
     ·exact h.2
    ·intro h;exact GA ⟨by lia,h⟩
   simp only[this,IA]
  ·rw[Fl hpu]at zo ⊢
   by_cases hpy:d.Y p<=d.Y u
   ·rw[Fs hpy]at zo
    rw[pz1 p (by lia)]
    have:(d.Y p<=d.Y u/\d.Y u<d.Y q/\0<d.tr p q u)↔0<d.ahead c u w p q:=by
     rw[zo];constructor
     ·exact λh=>h.2.2
     ·exact λh=>⟨hpy,by lia,h⟩
    simp only[this,IA]
   ·rw[Fl hpy]at zo
    rw[pz2 p (by lia) c1]
    have:¬(d.Y p<=d.Y u/\d.Y u<d.Y q/\0<d.tr p q u):=λh=>hpy h.1
    rw[dqf this,GZ,Fz.2 zo]
 ·have czE:d.sl c u w p q=false:=by unfold Dr.sl;exact dqf (λh=>hcz ⟨h.1,h.2.1⟩)
  rw[czE,GB]
  by_cases c1:c<d.Y p
  ·rw[pz1 p (by lia),pz1 q (by lia)]
   by_cases hpu:p=u
   ·subst hpu;lia
   ·rw[Fl hpu]
    have:¬(d.Y p<=d.Y u/\d.Y u<d.Y q/\0<d.tr p q u):=by lia
    rw[dqf this];rfl
  ·have c2:d.Y q<=c:=by lia
   by_cases hpu:p=u
   ·subst hpu
    rw[Fs rfl,pz1 p (by lia),GB]
    have hqw:q≠w:=λe=>he ⟨rfl,e⟩
    unfold Dr.Pz
    rw[Fz]
    constructor
    ·rintro(h|h)
     ·exact absurd h hqw
     ·exact⟨h.1,c2,h.2⟩
    ·intro h;exact GA ⟨h.1,h.2.2⟩
   ·rw[Fl hpu]
    have hqw:q≠w:=by intro e;subst e;lia
    have hpw:p≠w:=by intro e;subst e;lia
    by_cases c3:d.Y p<=d.Y u
    ·rw[pz1 p (by lia),GB]
     unfold Dr.Pz
     rw[Fz]
     by_cases c4:d.Y u<d.Y q
     ·have l:=L1 g huw hpq c3 c4 (by lia) hpu hqw
      constructor
      ·intro h;exact⟨c4,c2,by lia⟩
      ·intro h;exact⟨c3,c4,by lia⟩
     ·constructor
      ·intro h;exact absurd h.2.1 c4
      ·intro h;exact absurd h.1 c4
    ·have:¬(d.Y p<=d.Y u/\d.Y u<d.Y q/\0<d.tr p q u):=λh=>c3 h.1
     rw[dqf this,pz2 p (by lia) (by lia),pz2 q (by lia) c2]
     have:d.tr u w p<0↔d.tr u w q<0:=by
      rcases g.ord h2 hqn with hf|hf
      ·have l:=L2 g hpq huw (by lia) hf (by lia) (FQ hpu) (FQ hqw)
       lia
      ·have mv:d.tr u w q<d.tr u w p:=by
        have:d.tr u w p-d.tr u w q=(d.Y w-d.Y u)*(d.X q-d.X p):=by
         have:=hf.1;unfold Dr.tr tr6;grind
        have:0<(d.Y w-d.Y u)*(d.X q-d.X p):=Fw (by lia) (by lia)
        lia
       constructor
       ·intro h;lia
       ·intro h
        apply bcn;intro hn
        have a2:=nz g huw hpn hy (by lia) (by lia) hpu hpw
        refine g.nocross huw hpq ⟨az _ _ (by lia) h,?_⟩
        rw[el d p q u hf.1,el d p q w hf.1]
        exact cq _ _ (az _ _ (by lia) (by lia)) (Fw (by lia) (by lia))
     simp only[this,IA]
theorem BB (g:eF d){u w:Nat}{c:Int}(huw:d.J u w)(hlt:u<w)(hu:d.Y u<=c)(hw:c<d.Y w){E:List ao}(hE:∀e∈E,d.J e.1 e.2)(hc:cM E) :
  xs (lh (d.sl c u w)) E=d.om E u w:=by
 have h:xs (λe=>lh (d.sl c u w) e^^d.Om u w (min e.1 e.2) (max e.1 e.2)) E=false:=by
  rw[<-hc (d.Pz c u w)]
  apply bh
  intro e he
  have ze:∀p q,d.J p q->p<q->(d.sl c u w p q^^d.Om u w p q)=(d.Pz c u w p^^d.Pz c u w q):=λp q hpq hlt'=>Bv g huw hpq hlt hlt' hu hw
  have hj:=hE e he
  unfold lh
  rcases Gs (g.ne hj) with h|h
  ·rw[FN (by lia),Gu (by lia)];exact ze _ _ hj h
  ·rw[FM (by lia),GV (by lia),Ih (d.Pz c u w e.1)];exact ze _ _ (g.symm hj) h
 rw[gR]at h
 unfold Dr.om
 revert h
 generalize xs (lh (d.sl c u w)) E=a;generalize xs _ E=b
 cases a<;>cases b<;>simp
theorem gy (L:List ao):xs (λ_=>false) L=false:=by
 induction L with
 |nil=>rfl
 |cons a r ih=>rw[xs,ih];rfl
theorem d6 (f:ao->Bool):∀l m:List ao,xs f (l++m)=(xs f l^^xs f m)
 |[],m=>by simp[xs]
 |a :: l,m=>by
  rw[Ji,xs,xs,d6 f l m,Bool.xor_assoc]
theorem uT {f:ao->Bool}{l m:List ao}(h:l.Perm m):xs f l=xs f m:=by
 induction h with
 |nil=>rfl
 |cons x _ ih=>rw[xs,xs,ih]
 |swap x y l =>
  rw[xs,xs,xs,xs]
  cases f x<;>cases f y<;>cases xs f l<;>rfl
 |trans _ _ h1 h2=>rw[h1,h2]
theorem ui (F:ao->Bool)(G:ao->ao->Bool)(E:List ao):∀L:List ao,xs (λl=>F l&&xs (λe=>G l e) E) L=xs (λe=>xs (λl=>F l&&G l e) L) E
 |[]=>by
  show false=xs (λ_=>false) E
  rw[gy]
 |a :: L=>by
  rw[xs,ui F G E L]
  have:xs (λe=>xs (λl=>F l&&G l e) (a :: L)) E=xs (λe=>(F a&&G a e)^^xs (λl=>F l&&G l e) L) E:=rfl
  rw[this,gR]
  congr 1
  cases F a with
  |true=>simp
  |false=>simp[gy]
theorem oB (F:ao->Bool)(a:ao):∀{L:List ao},L.Nodup->a∈L->xs (λl=>F l&&decide (l=a)) L=F a
 |[],_,h=>by cases h
 |b :: L,hn,h=>by
  rw[GU]at hn
  rw[xs]
  by_cases e:b=a
  ·subst e
   have:xs (λl=>F l&&decide (l=b)) L=xs (λ_=>false) L:=by
    apply bh
    intro l hl
    have:¬l=b:=λq=>hn.1 (q▸hl)
    simp[this]
   rw[this,gy]
   simp
  ·have h2:a∈L:=(Fp.1 h).resolve_left (λq=>e q.symm)
   rw[oB F a hn.2 h2]
   simp[e]
structure Lns (L E:List ao):Prop where
 nd:L.Nodup
 lt:∀l∈L,l.1<l.2
 has:∀e∈E,(min e.1 e.2,max e.1 e.2)∈L
 ne:∀e∈E,e.1≠e.2
theorem rH {L E:List ao}(h:Lns L E)(F:Nat->Nat->Bool):xs (lh F) E=xs (λl=>F l.1 l.2&&ce E l.1 l.2) L:=by
 unfold ce
 rw[ui (λl=>F l.1 l.2) (λl e=>decide ((e.1=l.1/\e.2=l.2)\/(e.1=l.2/\e.2=l.1))) E L]
 apply bh
 intro e he
 have hh:=h.has e he
 have hn:=h.ne e he
 have:xs (λl=>F l.1 l.2&&decide ((e.1=l.1/\e.2=l.2)\/(e.1=l.2/\e.2=l.1))) L=xs (λl=>F l.1 l.2&&decide (l=(min e.1 e.2,max e.1 e.2))) L:=by
  apply bh
  intro l hl
  have:=h.lt l hl
  congr 1
  rw[Fz]
  obtain⟨a,b⟩:=l
  simp only[Prod.mk.injEq]at *
  lia
 rw[this,oB (λl=>F l.1 l.2) _ h.nd hh]
 rfl
def bi (b:Bool):Int:=if b=true then 1 else 0
theorem AD:bi true=1:=rfl
theorem xc:bi false=0:=rfl
theorem kK (F:ao->Int)(a:ao):∀{L:List ao},L.Nodup->sm (L.map λl=>F l*bi (decide (l=a)))=if a∈L then F a else 0
 |[],_=>by simp[sm]
 |b :: L,hn=>by
  rw[GU]at hn
  rw[FH,bS,kK F a hn.2]
  by_cases e:b=a
  ·subst e
   rw[Fl hn.1,Fs FB,dqt rfl,AD]
   lia
  ·rw[dqf e,xc]
   by_cases h2:a∈L
   ·rw[Fs h2,Fs (Fj _ h2)];lia
   ·rw[Fl h2,Fl (λq=>h2 ((Fp.1 q).resolve_left (λz=>e z.symm)))];lia
theorem yg {L E:List ao}(h:Lns L E)(hE:E.Nodup)(F:Nat->Nat->Int)(hF:∀a b,F b a=- F a b) :
  sm (E.map λe=>F e.1 e.2)=sm (L.map λl=>F l.1 l.2*(bi (decide (l∈E))-bi (decide ((l.2,l.1)∈E)))):=by
 have e1:sm (E.map λe=>F e.1 e.2)=sm (E.map λe=>sm (L.map λl=>F l.1 l.2*(bi (decide (e=l))-bi (decide (e=(l.2,l.1)))))):=by
  apply db
  intro e he
  have hh:=h.has e he
  have hn:=h.ne e he
  have:sm (L.map λl=>F l.1 l.2*(bi (decide (e=l))-bi (decide (e=(l.2,l.1)))))=sm (L.map λl=>F e.1 e.2*bi (decide (l=(min e.1 e.2,max e.1 e.2)))):=by
   apply db
   intro l hl
   have:=h.lt l hl
   obtain⟨a,b⟩:=l
   obtain⟨p,q⟩:=e
   simp only[Prod.mk.injEq]at *
   by_cases c1:p=a/\q=b
   ·obtain⟨rfl,rfl⟩:=c1
    have n1:¬(p=q/\q=p):=by lia
    have n2:p=min p q/\q=max p q:=by lia
    rw[dqt ⟨rfl,rfl⟩,dqf n1,dqt n2,AD,xc]
    lia
   ·by_cases c2:p=b/\q=a
    ·obtain⟨rfl,rfl⟩:=c2
     have n2:q=min p q/\p=max p q:=by lia
     rw[dqf c1,dqt ⟨rfl,rfl⟩,dqt n2,AD,xc,hF]
     lia
    ·have n2:¬(a=min p q/\b=max p q):=by lia
     rw[dqf c1,dqf c2,dqf n2,xc]
     simp
  rw[this,kK (λ_=>F e.1 e.2) _ h.nd,Fs hh]
 rw[e1,qC]
 apply db
 intro l hl
 have e2:sm (E.map λe=>F l.1 l.2*(bi (decide (e=l))-bi (decide (e=(l.2,l.1)))))=F l.1 l.2*sm (E.map λe=>bi (decide (e=l))-bi (decide (e=(l.2,l.1)))):=er _ _ _
 rw[e2]
 congr 1
 have cnt:∀a:ao,sm (E.map λe=>bi (decide (e=a)))=bi (decide (a∈E)):=by
  intro a
  have:=kK (λ_=>1) a hE
  simp only[Int.one_mul]at this
  rw[this]
  by_cases q:a∈E
  ·rw[Fs q,dqt q];rfl
  ·rw[Fl q,dqf q];rfl
 have e3:sm (E.map λe=>bi (decide (e=l))-bi (decide (e=(l.2,l.1))))=sm (E.map λe=>bi (decide (e=l))+(-1)*bi (decide (e=(l.2,l.1)))):=by
  apply db
  intro e _
  lia
 rw[e3,io,er,cnt,cnt]
 lia
theorem DF {V:ao->Int}{up mm:ao->Bool}:∀(L:List ao) (p:Bool),L.Pairwise (λa b=>V b<V a)->(∀a l b,L=a++l :: b->up l=(p^^(xs mm a^^mm l)))->(p^^xs mm L)=false ->
  ∀B,(∀l∈L,V l<=B)->- (B*bi p)<=sm (L.map λl=>V l*(bi (up l)-bi (up l^^mm l)))/\(p=false->(∃l∈L,up l=true)->0<sm (L.map λl=>V l*(bi (up l)-bi (up l^^mm l))))
 |[],p,_,_,hp,B,_=>by
  have:p=false:=by simpa [xs] using hp
  subst this
  refine⟨by simp[bi,sm],λ_ h=>?_⟩
  obtain⟨l,hl,_⟩:=h
  cases hl
 |l :: r,p,hw,hup,hp,B,hB=>by
  rw[Gv]at hw
  have u0:=hup [] l r rfl
  simp only[xs,GB]at u0
  have ih:=DF (V:=V) (up:=up) (mm:=mm) r (p^^mm l) hw.2 (λa x b e=>by
   have:=hup (l :: a) x b (by rw[e];rfl)
   rw[this,xs]
   cases p<;>cases mm l<;>cases xs mm a<;>cases mm x<;>rfl) (by
   rw[xs]at hp
   rw[<-hp]
   cases p<;>cases mm l<;>cases xs mm r<;>rfl) (V l-1) (λx hx=>by
   have:=hw.1 x hx
   lia)
  have hl:=hB l FB
  rw[FH,bS,u0]
  have e0:((p^^mm l)^^mm l)=p:=by cases p<;>cases mm l<;>rfl
  rw[e0]
  obtain⟨i1,i2⟩:=ih
  generalize sm (r.map λl=>V l*(bi (up l)-bi (up l^^mm l)))=s at *
  constructor
  ·clear i2 u0 e0 hup hp
   generalize mm l=m at *
   cases p<;>cases m<;>simp[bi]at i1 ⊢<;>lia
  ·intro hpf hex
   subst hpf
   cases hm:mm l with
   |true =>
    rw[hm]at i1
    simp[bi]at i1 ⊢
    lia
   |false =>
    rw[hm]at i1 i2 u0
    obtain⟨x,hx,hxu⟩:=hex
    rcases Fp.1 hx with e|e
    ·subst e
     rw[u0]at hxu
     simp at hxu
    ·have:=i2 rfl ⟨x,e,hxu⟩
     simp[bi]
     lia
theorem Cp (G:Nat->Int)(a b:Nat)(hab:a<=b):∀H:Nat,sm ((FJ H).map λc=>if a<=c/\c<b then G (c+1)-G c else 0)=G (min H b)-G (min H a)
 |0=>by simp[sm]
 |H+1=>by
  rw[IP,FP,je,Cp G a b hab H]
  simp only[FH,List.map_nil,bS]
  show _+(_+0)=_
  by_cases c:a<=H/\H<b
  ·rw[Fs c,FN (by lia:H<=b),FM (by lia:a<=H),FN (by lia:H+1<=b),FM (by lia:a<=H+1)]
   lia
  ·rw[Fl c]
   by_cases c2:H<a
   ·rw[FN (by lia:H<=b),FN (by lia:H<=a),FN (by lia:H+1<=b),FN (by lia:H+1<=a)]
    lia
   ·rw[FM (by lia:b<=H),FM (by lia:a<=H),FM (by lia:b<=H+1),FM (by lia:a<=H+1)]
    lia
theorem Kept.lines_nodup {S:Plan}(k:Kept S):S.lines.Nodup:=by
 rw[List.Nodup,FY]
 intro i j hi hj hij e
 have:=k.lines_lt i j hij hj
 rw[e,gn]at this
 lia
theorem wI {S:Plan}(k:Kept S){E:List ao}(hE:∀e∈E,(ab S).J e.1 e.2):Lns S.lines E:=by
 have g:=bc S k
 refine⟨k.lines_nodup,λl hl=>(k.line hl).1,λe he=>?_,λe he=>g.ne (hE e he)⟩
 rcases hE e he with h|h
 ·have:=(k.line h).1
  simp only at this
  rw[FN (by lia),Gu (by lia)]
  exact h
 ·have:=(k.line h).1
  simp only at this
  rw[FM (by lia),GV (by lia)]
  exact h
def gq (d:Dr):List ao->Int
 |[]=>1
 |l :: r=>(if d.Y l.1<d.Y l.2 then 2*d.den l.1 l.2 else 1)*gq d r
theorem mJ (d:Dr):∀L:List ao,0<gq d L
 |[]=>by show(0:Int)<1;decide
 |l :: r=>by
  unfold gq
  refine Fw ?_ (mJ d r)
  by_cases h:d.Y l.1<d.Y l.2
  ·rw[Fs h];unfold Dr.den;lia
  ·rw[Fl h];decide
theorem mq (d:Dr){l:ao}(h:d.Y l.1<d.Y l.2):∀{L:List ao},l∈L->(2*d.den l.1 l.2) ∣ gq d L
 |[],hl=>by cases hl
 |a :: r,hl=>by
  unfold gq
  rcases Fp.1 hl with e|e
  ·subst e
   rw[Fs h]
   exact⟨_,rfl⟩
  ·obtain⟨q,hq⟩:=mq d h e
   exact⟨(if d.Y a.1<d.Y a.2 then 2*d.den a.1 a.2 else 1)*q,by rw[hq];grind⟩
def Vs (d:Dr)(L:List ao)(c:Int)(l:ao):Int:=gq d L / (2*d.den l.1 l.2)*d.num 0 c l.1 l.2
theorem xQ (d:Dr){L:List ao}{l:ao}(hl:l∈L)(h:d.Y l.1<d.Y l.2)(c:Int):Vs d L c l*(2*d.den l.1 l.2)=gq d L*d.num 0 c l.1 l.2:=by
 have q:=Int.ediv_mul_cancel (mq d h hl)
 unfold Vs
 generalize gq d L / (2*d.den l.1 l.2)=m at q ⊢
 rw[<-q]
 grind
theorem uB (d:Dr){L:List ao}{a b:ao}(ha:a∈L)(hb:b∈L)(h1:d.Y a.1<d.Y a.2)(h2:d.Y b.1<d.Y b.2)(c:Int):0<d.ahead c a.1 a.2 b.1 b.2↔Vs d L c a<Vs d L c b:=by
 have e1:=xQ d ha h1 c
 have e2:=xQ d hb h2 c
 have dA:0<d.den a.1 a.2:=by unfold Dr.den;lia
 have dB:0<d.den b.1 b.2:=by unfold Dr.den;lia
 have hM:=mJ d L
 have e3:(Vs d L c b-Vs d L c a)*(2*(d.den a.1 a.2*d.den b.1 b.2))=gq d L*d.ahead c a.1 a.2 b.1 b.2:=by
  unfold Dr.ahead
  have:(Vs d L c b-Vs d L c a)*(2*(d.den a.1 a.2*d.den b.1 b.2))=(Vs d L c b*(2*d.den b.1 b.2))*d.den a.1 a.2-(Vs d L c a*(2*d.den a.1 a.2))*d.den b.1 b.2:=by grind
  rw[this,e1,e2]
  grind
 have dd:0<2*(d.den a.1 a.2*d.den b.1 b.2):=by
  have:=Fw dA dB
  lia
 constructor
 ·intro h
  have:0<(Vs d L c b-Vs d L c a)*(2*(d.den a.1 a.2*d.den b.1 b.2)):=by rw[e3];exact Fw hM h
  rw[Hg]at this
  have:=(a8 dd).1 this
  lia
 ·intro h
  have:0<gq d L*d.ahead c a.1 a.2 b.1 b.2:=by rw[<-e3];exact Fw (by lia) dd
  exact(a8 hM).1 this
theorem jB (P g:ao->Bool):∀L:List ao,xs (λx=>P x&&g x) L=xs g (L.filter P)
 |[]=>rfl
 |a :: r=>by
  rw[xs,jB P g r,List.filter_cons]
  cases h:P a with
  |true=>rw[Fs rfl,xs,GK]
  |false=>rw[Fl (by decide),Go,GB]
theorem oX (P:ao->Bool)(f:ao->Int):∀L:List ao,sm (L.map λx=>if P x=true then f x else 0)=sm ((L.filter P).map f)
 |[]=>rfl
 |a :: r=>by
  rw[FH,bS,oX P f r,List.filter_cons]
  cases h:P a with
  |true=>rw[Fs rfl,Fs rfl,FH,bS]
  |false=>rw[Fl (by decide),Fl (by decide)];lia
section
variable  {S:Plan}
def eD (S:Plan)(c:Int)(l:ao):Bool:=decide ((ab S).Y l.1<=c/\c<(ab S).Y l.2)
theorem Dz (k:Kept S){E:List ao}(hE:∀e∈E,(ab S).J e.1 e.2)(hc:cM E)(hn:E.Nodup)(hs:∀x:ao,(ab S).J x.1 x.2->(ab S).om E x.1 x.2=decide (x∈E))(c:Int) :
  0<=sm ((S.lines.filter (eD S c)).map λl=>Vs (ab S) S.lines c l*(bi (decide (l∈E))-bi (decide ((l.2,l.1)∈E)))) /\
  ((∃l∈S.lines.filter (eD S c),l∈E)->0<sm ((S.lines.filter (eD S c)).map λl=>Vs (ab S) S.lines c l*(bi (decide (l∈E))-bi (decide ((l.2,l.1)∈E))))):=by
 have g:=bc S k
 have hL:=wI k hE
 have hP:∀{l},l∈S.lines.filter (eD S c)->l∈S.lines/\(ab S).Y l.1<=c/\c<(ab S).Y l.2:=by
  intro l hl
  obtain⟨h1,h2⟩:=FX.1 hl
  exact⟨h1,Ff h2⟩
 let le:ao->ao->Bool:=λa b=>decide (Vs (ab S) S.lines c b<=Vs (ab S) S.lines c a)
 have hperm:((S.lines.filter (eD S c)).mergeSort le).Perm (S.lines.filter (eD S c)):=List.mergeSort_perm _ _
 have hsort:((S.lines.filter (eD S c)).mergeSort le).Pairwise (λa b=>le a b=true):=by
  apply List.pairwise_mergeSort
  ·intro a b c h1 h2
   have h1:=Ff h1
   have h2:=Ff h2
   exact dqt (by lia)
  ·intro a b
   show(decide _||decide _)=true
   rw[Hw,Fq,Fq]
   lia
 have hnd:((S.lines.filter (eD S c)).mergeSort le).Nodup:=hperm.nodup_iff.2 (k.lines_nodup.filter _)
 have hstr:((S.lines.filter (eD S c)).mergeSort le).Pairwise (λa b=>Vs (ab S) S.lines c b<Vs (ab S) S.lines c a):=by
  refine Iu ?_ (hsort.and hnd)
  intro a b ha hb h
  obtain⟨h1,h2⟩:=h
  have h1:=Ff h1
  obtain⟨a1,a2,a3⟩:=hP (hperm.mem_iff.1 ha)
  obtain⟨b1,b2,b3⟩:=hP (hperm.mem_iff.1 hb)
  have q:=(uz g (u:=a.1) (w:=a.2) (p:=b.1) (q:=b.2) (c:=c) (G3 a1) (G3 b1) a2 a3 b2 b3 (λz=>h2 (Prod.ext z.1.symm z.2.symm))).2
  have q1:=uB (ab S) a1 b1 (by lia) (by lia) c
  have q2:=uB (ab S) b1 a1 (by lia) (by lia) c
  have q3:(ab S).ahead c b.1 b.2 a.1 a.2=- (ab S).ahead c a.1 a.2 b.1 b.2:=by unfold Dr.ahead;lia
  lia
 have hsum:sm ((S.lines.filter (eD S c)).map λl=>Vs (ab S) S.lines c l*(bi (decide (l∈E))-bi (decide ((l.2,l.1)∈E)))) =
   sm (((S.lines.filter (eD S c)).mergeSort le).map λl=>Vs (ab S) S.lines c l*(bi (decide (l∈E))-bi (decide (l∈E)^^ce E l.1 l.2))):=by
  rw[<-tS (hperm.map _)]
  apply db
  intro l hl
  obtain⟨l1,_,_⟩:=hP (hperm.mem_iff.1 hl)
  have hlt:=(k.line l1).1
  rw[yw hn (by lia:l.1≠l.2)]
  have:(l.1,l.2)=l:=rfl
  rw[this]
  congr 2
  cases decide (l∈E)<;>cases decide ((l.2,l.1)∈E)<;>rfl
 rw[hsum]
 generalize hM:(S.lines.filter (eD S c)).mergeSort le=M at *
 have key:=DF (V:=Vs (ab S) S.lines c) (up:=λl=>decide (l∈E)) (mm:=λl=>ce E l.1 l.2) M false hstr ?_ ?_
 ·obtain⟨B,hB⟩:∃B,∀l∈M,Vs (ab S) S.lines c l<=B:=by
   clear key hperm hsort hnd hstr hsum hM
   induction M with
   |nil=>exact⟨0,λl hl=>by cases hl⟩
   |cons a r ih =>
    obtain⟨B,hB⟩:=ih
    refine⟨max B (Vs (ab S) S.lines c a),λl hl=>?_⟩
    rcases Fp.1 hl with e|e
    ·subst e;lia
    ·have:=hB l e;lia
  obtain⟨k1,k2⟩:=key B hB
  rw[xc,Int.mul_zero]at k1
  refine⟨by simpa using k1,λ⟨l,hl,hlE⟩=>k2 rfl ⟨l,hperm.mem_iff.2 hl,dqt hlE⟩⟩
 ·intro a l b e
  have hlM:l∈M:=by rw[e];simp
  obtain⟨l1,l2,l3⟩:=hP (hperm.mem_iff.1 hlM)
  have hlt:=(k.line l1).1
  have s1:=hs l (G3 l1)
  rw[<-BB g (G3 l1) hlt l2 l3 hE hc,rH hL]at s1
  have s2:xs (λx=>(ab S).sl c l.1 l.2 x.1 x.2&&ce E x.1 x.2) S.lines=xs (λx=>eD S c x&&(decide (x=l\/0<(ab S).ahead c l.1 l.2 x.1 x.2)&&ce E x.1 x.2)) S.lines:=by
   apply bh
   intro x hx
   rw[<-Bool.and_assoc]
   congr 1
   unfold Dr.sl eD
   rw[<-Bool.decide_and,Fz]
   have:(x.1=l.1/\x.2=l.2)↔x=l:=by
    constructor
    ·intro h;exact Prod.ext h.1 h.2
    ·intro h;rw[h];exact⟨rfl,rfl⟩
   rw[this]
   exact and_assoc.symm
  rw[s2,jB,<-uT hperm,e,d6,xs]at s1
  rw[e,GE,Gv]at hstr
  rw[e,List.nodup_append,GU]at hnd
  have memM:∀x,x∈a\/x∈b->x∈S.lines/\(ab S).Y x.1<=c/\c<(ab S).Y x.2:=by
   intro x hx
   refine hP (hperm.mem_iff.1 ?_)
   rw[e]
   rcases hx with h|h
   ·simp[h]
   ·simp[h]
  have ta:xs (λx=>decide (x=l\/0<(ab S).ahead c l.1 l.2 x.1 x.2)&&ce E x.1 x.2) a=xs (λx=>ce E x.1 x.2) a:=by
   apply bh
   intro x hx
   obtain⟨x1,x2,x3⟩:=memM x (G3 hx)
   have:=hstr.2.2 x hx l (by simp)
   have:=(uB (ab S) l1 x1 (by lia) (by lia) c).2 this
   rw[dqt (GA this),GK]
  have tb:xs (λx=>decide (x=l\/0<(ab S).ahead c l.1 l.2 x.1 x.2)&&ce E x.1 x.2) b=xs (λ_=>false) b:=by
   apply bh
   intro x hx
   obtain⟨x1,x2,x3⟩:=memM x (GA hx)
   have h1:=hstr.2.1.1 x hx
   have h2:¬0<(ab S).ahead c l.1 l.2 x.1 x.2:=λq=>by
    have:=(uB (ab S) l1 x1 (by lia) (by lia) c).1 q
    lia
   have h3:¬x=l:=λq=>by subst q;lia
   rw[dqf (λq=>q.elim h3 h2),Go]
  rw[ta,tb,gy]at s1
  show decide (l∈E)=_
  rw[<-s1]
  simp
 ·
  have h0:=hc (λv=>decide ((ab S).Y v<=c))
  have h1:xs (λe=>decide ((ab S).Y e.1<=c)^^decide ((ab S).Y e.2<=c)) E=xs (lh λp q=>decide ((ab S).Y p<=c/\c<(ab S).Y q)) E:=by
   apply bh
   intro e he
   have hj:=hE e he
   have hord:∀{i j},(ab S).J i j->i<j->(ab S).Y i<=(ab S).Y j:=by
    intro i j h hlt
    rcases g.ord hlt (g.lt (g.symm h)) with h|h<;>lia
   have fin:∀{i j:Int},i<=j->(decide (i<=c)^^decide (j<=c))=decide (i<=c/\c<j):=by
    intro i j hij
    by_cases a:i<=c
    ·by_cases b:j<=c
     ·rw[dqt a,dqt b,dqf (by lia)];rfl
     ·rw[dqt a,dqf b,dqt (by lia)];rfl
    ·rw[dqf a,dqf (by lia:¬j<=c),dqf (by lia)];rfl
   unfold lh
   rcases Gs (g.ne hj) with h|h
   ·rw[FN (by lia),Gu (by lia)]
    exact fin (hord hj h)
   ·rw[FM (by lia),GV (by lia),Ih]
    exact fin (hord (g.symm hj) h)
  rw[h1,rH hL]at h0
  rw[GB,uT hperm,<-jB]
  exact h0
theorem j0 {c:Nat}{l:ao}:eD S (c:Int) l=true↔(S.pt l.1).y<=c/\c<(S.pt l.2).y:=by
 unfold eD
 rw[Fq]
 show(((S.pt l.1).y:Int)<=(c:Int)/\(c:Int)<((S.pt l.2).y:Int))↔_
 lia
def Gt (m x1 x2 y2 n:Int)(c:Nat):Int:=(2*m)*((x2-x1)*((c:Int)*c-2*y2*c)+2*n*x2*c)
theorem we (k:Kept S)(f:uE S){l:ao}(hl:l∈S.lines):gq (ab S) S.lines*(((ab S).X l.1+(ab S).X l.2)*((ab S).Y l.2-(ab S).Y l.1)) =
  sm ((FJ S.h).map λc:Nat=>if eD S (c:Int) l=true then 2*Vs (ab S) S.lines (c:Int) l else 0):=by
 have g:=bc S k
 obtain⟨hlt,hlp⟩:=k.line hl
 have hin:=(f.inw hlp).2
 have hyy:(S.pt l.1).y<=(S.pt l.2).y:=by
  rcases g.ord hlt hlp with h|h<;>(simp only[ab]at h;lia)
 by_cases hy:(S.pt l.1).y=(S.pt l.2).y
 ·have e1:∀c∈FJ S.h,(if eD S (c:Int) l=true then 2*Vs (ab S) S.lines (c:Int) l else 0)=0:=by
   intro c _
   rw[Fl]
   rw[j0]
   lia
  rw[db e1,qg]
  have:(ab S).Y l.2-(ab S).Y l.1=0:=by simp only[ab];lia
  rw[this];simp
 ·have hY:(ab S).Y l.1<(ab S).Y l.2:=by simp only[ab];lia
  have q:=Int.ediv_mul_cancel (mq (ab S) hY hl)
  have e2:sm ((FJ S.h).map λc:Nat=>if eD S (c:Int) l=true then 2*Vs (ab S) S.lines (c:Int) l else 0) =
    sm ((FJ S.h).map λc:Nat=>if (S.pt l.1).y<=c/\c<(S.pt l.2).y then
     Gt (gq (ab S) S.lines / (2*(ab S).den l.1 l.2)) ((ab S).X l.1) ((ab S).X l.2) ((ab S).Y l.2) ((ab S).den l.1 l.2) (c+1) -
     Gt (gq (ab S) S.lines / (2*(ab S).den l.1 l.2)) ((ab S).X l.1) ((ab S).X l.2) ((ab S).Y l.2) ((ab S).den l.1 l.2) c else 0):=by
   apply db
   intro c _
   by_cases hc:(S.pt l.1).y<=c/\c<(S.pt l.2).y
   ·rw[Fs hc,Fs (j0.2 hc)]
    unfold Vs Dr.num Dr.trz tr6 Gt
    have:((c+1:Nat):Int)=(c:Int)+1:=by lia
    simp only[this]
    unfold Dr.den
    generalize gq (ab S) S.lines / (2*((ab S).Y l.2-(ab S).Y l.1))=m
    generalize (ab S).X l.1=x1
    generalize (ab S).X l.2=x2
    generalize (ab S).Y l.1=y1
    generalize (ab S).Y l.2=y2
    generalize (c:Int)=z
    grind
   ·rw[Fl hc,Fl (λq=>hc (j0.1 q))]
  rw[e2,Cp _ _ _ hyy,FM hin,FM (by lia:(S.pt l.1).y<=S.h)]
  have q':gq (ab S) S.lines=gq (ab S) S.lines / (2*(ab S).den l.1 l.2)*(2*(ab S).den l.1 l.2):=q.symm
  generalize gq (ab S) S.lines / (2*(ab S).den l.1 l.2)=m at q' ⊢
  rw[q']
  show _*(((ab S).X l.1+(ab S).X l.2)*((ab S).Y l.2-(ab S).Y l.1))=2*m*(((ab S).X l.2-(ab S).X l.1)*((ab S).Y l.2*(ab S).Y l.2-2*(ab S).Y l.2*(ab S).Y l.2)+2*(ab S).den l.1 l.2*(ab S).X l.2*(ab S).Y l.2) -
   2*m*(((ab S).X l.2-(ab S).X l.1)*((ab S).Y l.1*(ab S).Y l.1-2*(ab S).Y l.2*(ab S).Y l.1)+2*(ab S).den l.1 l.2*(ab S).X l.2*(ab S).Y l.1)
  unfold Dr.den
  generalize (ab S).X l.1=x1
  generalize (ab S).X l.2=x2
  generalize (ab S).Y l.1=y1
  generalize (ab S).Y l.2=y2
  grind
end
section
variable  {S:Plan}
theorem wt (f:Nat->Int):∀{l m:List Nat},l.length=m.length->sm ((l.zip m).map λx=>f x.1-f x.2)=sm (l.map f)-sm (m.map f)
 |[],[],_=>rfl
 |[],_ :: _,h=>by simp at h
 |_ :: _,[],h=>by simp at h
 |a :: l,b :: m,h=>by
  simp only[HA,FH,bS]
  rw[wt f (by simpa using h)]
  lia
theorem vO (f:Nat->Int)(l:List Nat):sm ((prs l).map λx=>f x.1-f x.2)=0:=by
 have hp:(l.drop 1++l.take 1).Perm l:=List.perm_append_comm.trans (by rw[List.take_append_drop])
 unfold prs
 rw[wt f (by rw[hp.length_eq]),tS (hp.map f)]
 lia
theorem xO (k:dh S){e:ao}(he:(ab S).J e.1 e.2)(hs:∀x:ao,(ab S).J x.1 x.2->(ab S).om (orb S e) x.1 x.2=decide (x∈orb S e))
  {l:ao} (hl:l∈S.lines) (hy:(S.pt l.1).y<(S.pt l.2).y) (hm:l∈orb S e):0<twiceArea S (rnd S e):=by
 have kk:=k.toKept
 have g:=bc S kk
 have f:=iy kk k.r6
 have p:=dg kk he
 have hE:∀x∈orb S e,(ab S).J x.1 x.2:=λx hx=>fN kk he hx
 have hc:cM (orb S e):=by
  rw[p.orb]
  exact fO _ _ (by rw[Hf,p.back];rfl)
 have hn:(orb S e).Nodup:=by
  rw[p.orb]
  exact fG _ _ _ _ (λx y _ h1 h2=>p.dist x y h1 (by lia))
 have hL:=wI kk hE
 have e1:twiceArea S (rnd S e)=sm ((orb S e).map λx=>((ab S).X x.1+(ab S).X x.2)*((ab S).Y x.2-(ab S).Y x.1)):=by
  rw[m7 kk he]
  have:sm ((orb S e).map (cr2 S))=sm ((orb S e).map λx=>((ab S).X x.1+(ab S).X x.2)*((ab S).Y x.2-(ab S).Y x.1)+((λi=>(ab S).X i*(ab S).Y i) x.1-(λi=>(ab S).X i*(ab S).Y i) x.2)):=by
   apply db
   intro x _
   unfold cr2
   show(ab S).X x.1*(ab S).Y x.2-(ab S).X x.2*(ab S).Y x.1=_
   grind
  rw[this,io (λx:ao=>((ab S).X x.1+(ab S).X x.2)*((ab S).Y x.2-(ab S).Y x.1)) (λx:ao=>(λi=>(ab S).X i*(ab S).Y i) x.1-(λi=>(ab S).X i*(ab S).Y i) x.2)]
  rw[<-ig kk he,vO (λi=>(ab S).X i*(ab S).Y i)]
  lia
 have hM:=mJ (ab S) S.lines
 have e2:gq (ab S) S.lines*twiceArea S (rnd S e)=sm ((FJ S.h).map λc:Nat=>2*sm ((S.lines.filter (eD S (c:Int))).map λl=>Vs (ab S) S.lines (c:Int) l*(bi (decide (l∈orb S e))-bi (decide ((l.2,l.1)∈orb S e))))):=by
  rw[e1,yg hL hn (λa b=>((ab S).X a+(ab S).X b)*((ab S).Y b-(ab S).Y a)) (by intro a b;grind),<-er]
  have e3:∀x∈S.lines,gq (ab S) S.lines*(((ab S).X x.1+(ab S).X x.2)*((ab S).Y x.2-(ab S).Y x.1)*(bi (decide (x∈orb S e))-bi (decide ((x.2,x.1)∈orb S e)))) =
    sm ((FJ S.h).map λc:Nat=>if eD S (c:Int) x=true then 2*(Vs (ab S) S.lines (c:Int) x*(bi (decide (x∈orb S e))-bi (decide ((x.2,x.1)∈orb S e)))) else 0):=by
   intro x hx
   have q:=we kk f hx
   have:sm ((FJ S.h).map λc:Nat=>if eD S (c:Int) x=true then 2*(Vs (ab S) S.lines (c:Int) x*(bi (decide (x∈orb S e))-bi (decide ((x.2,x.1)∈orb S e)))) else 0) =
     sm ((FJ S.h).map λc:Nat=>(bi (decide (x∈orb S e))-bi (decide ((x.2,x.1)∈orb S e)))*(if eD S (c:Int) x=true then 2*Vs (ab S) S.lines (c:Int) x else 0)):=by
    apply db
    intro c _
    by_cases hp:eD S (c:Int) x=true
    ·rw[Fs hp,Fs hp];grind
    ·rw[Fl hp,Fl hp];simp
   rw[this,er,<-q]
   grind
  rw[db e3,qC (λ(x:ao) (c:Nat)=>if eD S (c:Int) x=true then 2*(Vs (ab S) S.lines (c:Int) x*(bi (decide (x∈orb S e))-bi (decide ((x.2,x.1)∈orb S e)))) else 0)]
  apply db
  intro c _
  rw[oX (eD S (c:Int)) (λx=>2*(Vs (ab S) S.lines (c:Int) x*(bi (decide (x∈orb S e))-bi (decide ((x.2,x.1)∈orb S e))))),er]
 have hpos:0<gq (ab S) S.lines*twiceArea S (rnd S e):=by
  rw[e2]
  have hin:=(f.inw (kk.line hl).2).2
  refine AI (y:=2*sm ((S.lines.filter (eD S (((S.pt l.1).y:Nat):Int))).map λx=>Vs (ab S) S.lines (((S.pt l.1).y:Nat):Int) x*(bi (decide (x∈orb S e))-bi (decide ((x.2,x.1)∈orb S e))))) ?_ (Gc.2 ⟨(S.pt l.1).y,GJ.2 (by lia),rfl⟩) ?_
  ·intro x hx
   obtain⟨c,_,rfl⟩:=Gc.1 hx
   have:=(Dz kk hE hc hn hs (c:Int)).1
   lia
  ·have:=(Dz kk hE hc hn hs (((S.pt l.1).y:Nat):Int)).2 ⟨l,FX.2 ⟨hl,j0.2 ⟨by lia,hy⟩⟩,hm⟩
   lia
 exact(a8 hM).1 hpos
def fd (l:List Nat):List ao:=l.zip (l.drop 1)
theorem ql (Q:Nat->Bool):∀{l:List Nat} {a z:Nat},l.head? = some a->l.getLast? = some z->xs (λe=>Q e.1^^Q e.2) (fd l)=(Q a^^Q z)
 |[],_,_,h,_=>by simp at h
 |[x],a,z,h1,h2=>by
  simp at h1 h2
  subst h1 h2
  simp[fd,xs]
 |x :: y :: r,a,z,h1,h2=>by
  have h1:x=a:=by simpa using h1
  subst h1
  have ih:=ql Q (l:=y :: r) (a:=y) (z:=z) rfl (by rw[List.getLast?_cons_cons]at h2;exact h2)
  show xs _ ((x,y) :: fd (y :: r))=_
  rw[xs,ih]
  cases Q x<;>cases Q y<;>cases Q z<;>rfl
theorem mK {l:List Nat}(h:l.Pairwise (· < ·)){a:Nat}(ha:a∈l)(hm:∀b∈l,a<=b):l.head? = some a:=by
 cases l with
 |nil=>cases ha
 |cons x r =>
  rw[Gv]at h
  rcases Fp.1 ha with e|e
  ·rw[e];rfl
  ·have:=h.1 a e
   have:=hm x FB
   lia
theorem kZ:∀{l:List Nat},l.Pairwise (· < ·)->∀{z:Nat},z∈l->(∀b∈l,b<=z)->l.getLast? = some z
 |[],_,_,h,_=>by cases h
 |[x],_,z,h,_=>by
  have:z=x:=by simpa using h
  rw[this];rfl
 |x :: y :: r,hp,z,h,hm=>by
  rw[List.getLast?_cons_cons]
  rw[Gv]at hp
  refine kZ hp.2 ?_ (λb hb=>hm b (Fj _ hb))
  rcases Fp.1 h with e|e
  ·have h1:=hp.1 y FB
   have h2:=hm y (Fj _ FB)
   lia
  ·exact e
theorem xt {l:List Nat}{e:ao}(h:e∈fd l):∃i,∃(hi:i+1<l.length),e=(l[i],l[i+1]):=by
 unfold fd at h
 obtain⟨i,hi,he⟩:=FO h
 rw[ID]at he
 have hl:i<(l.zip (l.drop 1)).length:=hi
 rw[HV,FZ]at hl
 refine⟨i,by lia,?_⟩
 rw[<-he]
 congr 1
 rw[Iv]
 congr 1
 lia
def frm (S:Plan):List ao:=fd (edgePts S λp=>p.y==0)++(fd (edgePts S λp=>p.x==S.w)++(fd (edgePts S λp=>p.y==S.h)++fd (edgePts S λp=>p.x==0)))
structure yO (S:Plan)(a b c d:Nat):Prop where
 ha:a<S.pts.length/\S.pt a=⟨0,0⟩
 hb:b<S.pts.length/\S.pt b=⟨S.w,0⟩
 hc:c<S.pts.length/\S.pt c=⟨0,S.h⟩
 hd:d<S.pts.length/\S.pt d=⟨S.w,S.h⟩
theorem ng (h6:frameOk S=true):∃a b c d,yO S a b c d:=by
 unfold frameOk at h6
 simp only[Fn]at h6
 obtain⟨a,ha⟩:=dZ h6.1
 obtain⟨b,hb⟩:=dZ h6.2.1
 obtain⟨c,hc⟩:=dZ h6.2.2.1
 obtain⟨d,hd⟩:=dZ h6.2.2.2.1
 exact⟨a,b,c,d,ha,hb,hc,hd⟩
theorem gm (k:Kept S){i j:Nat}(hi:i<S.pts.length)(hj:j<S.pts.length)(h:(S.pt i).y<(S.pt j).y\/((S.pt i).y=(S.pt j).y/\(S.pt i).x<=(S.pt j).x)):i<=j:=by
 apply bcn
 intro hn
 have:=(eG _ _).1 (k.ord (i:=j) (j:=i) (by lia) hi)
 lia
theorem wd (k:dh S):(∀e∈frm S,(ab S).J e.1 e.2)/\cM (frm S):=by
 have kk:=k.toKept
 have f:=iy kk k.r6
 have h6:=k.r6
 obtain⟨a,b,c,d,C⟩:=ng h6
 unfold frameOk at h6
 simp only[Fn]at h6
 obtain⟨_,_,_,_,c1,c2,c3,c4⟩:=h6
 have jj:∀{on:Pt->Bool},chained S (edgePts S on)=true->∀e∈fd (edgePts S on),(ab S).J e.1 e.2:=by
  intro on hc e he
  obtain⟨i,hi,rfl⟩:=xt he
  exact kY hc hi
 constructor
 ·intro e he
  unfold frm at he
  rcases FR.1 he with h|h
  ·exact jj c1 e h
  ·rcases FR.1 h with h|h
   ·exact jj c4 e h
   ·rcases FR.1 h with h|h
    ·exact jj c2 e h
    ·exact jj c3 e h
 ·intro Q
  have tel:∀{on:Pt->Bool} {u v:Nat},u<S.pts.length->v<S.pts.length->on (S.pt u)=true->on (S.pt v)=true->(∀i,i<S.pts.length->on (S.pt i)=true->u<=i/\i<=v) ->
    xs (λe=>Q e.1^^Q e.2) (fd (edgePts S on))=(Q u^^Q v):=by
   intro on u v hu hv ou ov hm
   refine ql Q (mK hU (a4.2 ⟨hu,ou⟩) λx hx=>?_) (kZ hU (a4.2 ⟨hv,ov⟩) λx hx=>?_)
   ·obtain⟨h1,h2⟩:=a4.1 hx
    exact(hm x h1 h2).1
   ·obtain⟨h1,h2⟩:=a4.1 hx
    exact(hm x h1 h2).2
  obtain⟨ha,ea⟩:=C.ha
  obtain⟨hb,eb⟩:=C.hb
  obtain⟨hc,ec⟩:=C.hc
  obtain⟨hd,ed⟩:=C.hd
  unfold frm
  rw[d6,d6,d6]
  rw[tel (u:=a) (v:=b) ha hb (by rw[ea];rfl) (by rw[eb];rfl) (λi hi h=>?_),tel (u:=b) (v:=d) hb hd (by rw[eb];simp) (by rw[ed];simp) (λi hi h=>?_),
   tel (u:=c) (v:=d) hc hd (by rw[ec];simp) (by rw[ed];simp) (λi hi h=>?_),tel (u:=a) (v:=c) ha hc (by rw[ea];rfl) (by rw[ec];rfl) (λi hi h=>?_)]
  ·cases Q a<;>cases Q b<;>cases Q c<;>cases Q d<;>rfl
  ·have h:(S.pt i).x=0:=by simpa using h
   have hi2:=f.inw hi
   constructor
   ·apply gm kk ha hi;rw[ea];simp only;lia
   ·apply gm kk hi hc;rw[ec];simp only;lia
  ·have h:(S.pt i).y=S.h:=by simpa using h
   have hi2:=f.inw hi
   constructor
   ·apply gm kk hc hi;rw[ec];simp only;lia
   ·apply gm kk hi hd;rw[ed];simp only;lia
  ·have h:(S.pt i).x=S.w:=by simpa using h
   have hi2:=f.inw hi
   constructor
   ·apply gm kk hb hi;rw[eb];simp only;lia
   ·apply gm kk hi hd;rw[ed];simp only;lia
  ·have h:(S.pt i).y=0:=by simpa using h
   have hi2:=f.inw hi
   constructor
   ·apply gm kk ha hi;rw[ea];simp only;lia
   ·apply gm kk hi hb;rw[eb];simp only;lia
theorem AL (k:dh S){z:Pt}(hx0:0<z.x)(hxw:z.x<S.w)(hyh:z.y<S.h):xs (lh ((ab S).cz z.x z.y)) (frm S)=true:=by
 have kk:=k.toKept
 have f:=iy kk k.r6
 obtain⟨a,b,c,d,C⟩:=ng k.r6
 have edge:∀{on:Pt->Bool} {e:ao},e∈fd (edgePts S on)->e.1<e.2/\e.1<S.pts.length/\e.2<S.pts.length/\on (S.pt e.1)=true/\on (S.pt e.2)=true:=by
  intro on e he
  obtain⟨i,hi,rfl⟩:=xt he
  have h1:=FY.1 (hU (S:=S) (on:=on)) i (i+1) (by lia) hi (by lia)
  obtain⟨m1,m2⟩:=a4.1 (FS (l:=edgePts S on) (n:=i) (by lia))
  obtain⟨m3,m4⟩:=a4.1 (FS (l:=edgePts S on) (n:=i+1) hi)
  exact⟨h1,m1,m3,m2,m4⟩
 have none:∀{on:Pt->Bool},(∀i j,i<j->i<S.pts.length->j<S.pts.length->on (S.pt i)=true->on (S.pt j)=true->(ab S).cz z.x z.y i j=false)->xs (lh ((ab S).cz z.x z.y)) (fd (edgePts S on))=false:=by
  intro on h
  have:xs (lh ((ab S).cz z.x z.y)) (fd (edgePts S on))=xs (λ_=>false) (fd (edgePts S on)):=by
   apply bh
   intro e he
   obtain⟨h1,h2,h3,h4,h5⟩:=edge he
   unfold lh
   rw[FN (by lia),Gu (by lia)]
   exact h _ _ h1 h2 h3 h4 h5
  rw[this,gy]
 have ord:∀{i j},i<j->j<S.pts.length->(S.pt i).y<=(S.pt j).y:=by
  intro i j h hj
  have:=(eG _ _).1 (kk.ord h hj)
  lia
 unfold frm
 rw[d6,d6,d6]
 rw[none (on:=λp=>p.y==0) (λi j _ _ _ h1 h2=>?_),none (on:=λp=>p.y==S.h) (λi j _ _ _ h1 h2=>?_),none (on:=λp=>p.x==0) (λi j hij hi hj h1 h2=>?_)]
 ·have hr:xs (lh ((ab S).cz z.x z.y)) (fd (edgePts S λp=>p.x==S.w))=xs (λe=>decide ((S.pt e.1).y<=z.y)^^decide ((S.pt e.2).y<=z.y)) (fd (edgePts S λp=>p.x==S.w)):=by
   apply bh
   intro e he
   obtain⟨h1,h2,h3,h4,h5⟩:=edge he
   have h4:(S.pt e.1).x=S.w:=by simpa using h4
   have h5:(S.pt e.2).x=S.w:=by simpa using h5
   have ho:=ord h1 h3
   unfold lh
   rw[FN (by lia),Gu (by lia)]
   unfold Dr.cz Dr.trz tr6
   show decide (((S.pt e.1).y:Int)<=(z.y:Int)/\(z.y:Int)<((S.pt e.2).y:Int)/\0<(((S.pt e.2).x:Int)-((S.pt e.1).x:Int))*((z.y:Int)-((S.pt e.2).y:Int))-(((S.pt e.2).y:Int)-((S.pt e.1).y:Int))*((z.x:Int)-((S.pt e.2).x:Int)))=_
   rw[h4,h5]
   by_cases c1:(S.pt e.1).y<=z.y
   ·by_cases c2:(S.pt e.2).y<=z.y
    ·rw[dqt c1,dqt c2,dqf (by lia)];rfl
    ·rw[dqt c1,dqf c2]
     have:0<(((S.pt e.2).y:Int)-((S.pt e.1).y:Int))*((S.w:Int)-(z.x:Int)):=Fw (by lia) (by lia)
     rw[dqt ⟨by lia,by lia,by grind⟩];rfl
   ·rw[dqf c1,dqf (by lia:¬(S.pt e.2).y<=z.y),dqf (by lia)];rfl
  obtain⟨hb,eb⟩:=C.hb
  obtain⟨hd,ed⟩:=C.hd
  have ht:=ql (λv=>decide ((S.pt v).y<=z.y)) (l:=edgePts S λp=>p.x==S.w) (a:=b) (z:=d)
   (mK hU (a4.2 ⟨hb,by rw[eb];simp⟩) λx hx=>by
    obtain⟨h1,h2⟩:=a4.1 hx
    have h2:(S.pt x).x=S.w:=by simpa using h2
    have:=f.inw h1
    apply gm kk hb h1;rw[eb];simp only;lia)
   (kZ hU (a4.2 ⟨hd,by rw[ed];simp⟩) λx hx=>by
    obtain⟨h1,h2⟩:=a4.1 hx
    have h2:(S.pt x).x=S.w:=by simpa using h2
    have:=f.inw h1
    apply gm kk h1 hd;rw[ed];simp only;lia)
  rw[hr,ht,eb,ed,dqt (by simp only;lia:({ x:=S.w,y:=0 }:Pt).y<=z.y),dqf (by simp only;lia:¬({ x:=S.w,y:=S.h }:Pt).y<=z.y)]
  rfl
 ·have h1:(S.pt i).x=0:=by simpa using h1
  have h2:(S.pt j).x=0:=by simpa using h2
  have ho:=ord hij hj
  unfold Dr.cz Dr.trz tr6
  refine dqf ?_
  show ¬(((S.pt i).y:Int)<=(z.y:Int)/\(z.y:Int)<((S.pt j).y:Int)/\0<(((S.pt j).x:Int)-((S.pt i).x:Int))*((z.y:Int)-((S.pt j).y:Int))-(((S.pt j).y:Int)-((S.pt i).y:Int))*((z.x:Int)-((S.pt j).x:Int)))
  rw[h1,h2]
  rintro⟨q1,q2,q3⟩
  have:0<(((S.pt j).y:Int)-((S.pt i).y:Int))*(z.x:Int):=Fw (by lia) (by lia)
  grind
 ·have h1:(S.pt i).y=S.h:=by simpa using h1
  have h2:(S.pt j).y=S.h:=by simpa using h2
  unfold Dr.cz
  refine dqf ?_
  show ¬(((S.pt i).y:Int)<=(z.y:Int)/\(z.y:Int)<((S.pt j).y:Int)/\_)
  lia
 ·have h1:(S.pt i).y=0:=by simpa using h1
  have h2:(S.pt j).y=0:=by simpa using h2
  unfold Dr.cz
  refine dqf ?_
  show ¬(((S.pt i).y:Int)<=(z.y:Int)/\(z.y:Int)<((S.pt j).y:Int)/\_)
  lia
end
section
variable  {d:Dr}
theorem yW (g:eF d)(edges:List ao)(hed:∀p q,d.J p q->p<q->(p,q)∈edges)(hed2:∀e∈edges,d.J e.1 e.2/\e.1<e.2)(zx zy:Int) :
  (∀E:List ao,(∀e∈E,d.J e.1 e.2)->xs (lh (d.cz zx zy)) E=false) \/
  ∃u w,d.J u w/\u<w/\d.Y u<d.Y w/\∀E:List ao,(∀e∈E,d.J e.1 e.2)->cM E->xs (lh (d.cz zx zy)) E=d.om E u w:=by
 have side:∀(F:Nat->Nat->Prop),(∀p q,d.J p q->p<q->F p q)->∀e:ao,d.J e.1 e.2->F (min e.1 e.2) (max e.1 e.2):=by
  intro F hF e he
  rcases Gs (g.ne he) with h|h
  ·rw[FN (by lia),Gu (by lia)];exact hF _ _ he h
  ·rw[FM (by lia),GV (by lia)];exact hF _ _ (g.symm he) h
 by_cases hall:(edges.filter (λe=>d.cz zx zy e.1 e.2))=[]
 ·left
  intro E hE
  have:xs (lh (d.cz zx zy)) E=xs (λ_=>false) E:=by
   apply bh
   intro e he
   refine side (λp q=>d.cz zx zy p q=false) ?_ e (hE e he)
   intro p q hpq hlt
   have hm:=hed p q hpq hlt
   cases h:d.cz zx zy p q with
   |false=>rfl
   |true =>
    have:(p,q)∈edges.filter (λe=>d.cz zx zy e.1 e.2):=FX.2 ⟨hm,h⟩
    rw[hall]at this;cases this
  rw[this,gy]
 ·right
  obtain⟨⟨u,w⟩,hx,hm⟩:=jC (λe:ao=>d.num zx zy e.1 e.2) (λe:ao=>d.den e.1 e.2) _ hall (by
   intro x hx
   have:=Ff (FX.1 hx).2
   unfold Dr.den;lia)
  obtain⟨hx1,hx2⟩:=FX.1 hx
  obtain⟨huw,hlt⟩:=hed2 _ hx1
  have hcz:d.cz zx zy u w=true:=hx2
  refine⟨u,w,huw,hlt,?_,λE hE hc=>?_⟩
  ·have:=Ff hcz
   lia
  have h:xs (λe=>lh (d.cz zx zy) e^^d.Om u w (min e.1 e.2) (max e.1 e.2)) E=false:=by
   rw[<-hc (d.Pz zy u w)]
   apply bh
   intro e he
   have ze:∀p q,d.J p q->p<q->(d.cz zx zy p q^^d.Om u w p q)=(d.Pz zy u w p^^d.Pz zy u w q):=by
    intro p q hpq hlt'
    exact yt g huw hpq hlt hlt' hx2 (λh=>hm (p,q) (FX.2 ⟨hed p q hpq hlt',h⟩))
   have hj:=hE e he
   unfold lh
   rcases Gs (g.ne hj) with h|h
   ·rw[FN (by lia),Gu (by lia)];exact ze _ _ hj h
   ·rw[FM (by lia),GV (by lia),Ih (d.Pz zy u w e.1)];exact ze _ _ (g.symm hj) h
  rw[gR]at h
  unfold Dr.om
  revert h
  generalize xs (lh (d.cz zx zy)) E=a;generalize xs _ E=b
  cases a<;>cases b<;>simp
end
section
variable  {S:Plan}
theorem vI (k:dh S){z:Pt}(hx0:0<z.x)(hxw:z.x<S.w)(hyh:z.y<S.h):∃e:ao,(ab S).J e.1 e.2/\0<twiceArea S (rnd S e)/\insideOf S (rnd S e) z=true:=by
 have kk:=k.toKept
 have g:=bc S kk
 have r:=cw kk
 have hw:0<S.w:=by lia
 have hh:0<S.h:=by lia
 obtain⟨o,ho,hoz,hoa⟩:=outer kk (iy kk k.r6) hw hh
 obtain⟨fE,fC⟩:=wd k
 have fin:=AL k hx0 hxw hyh
 rcases yW g S.lines (by
   intro p q hpq hlt
   rcases hpq with h|h
   ·exact h
   ·have:=kk.line h;simp only at this;lia) (by
   intro l hl
   have:=kk.line hl
   exact⟨G3 hl,this.1⟩) z.x z.y with h|⟨u,w,huw,hlt,hyy,h⟩
 ·rw[h _ fE]at fin;cases fin
 ·rw[h _ fE fC]at fin
  have hl:(u,w)∈S.lines:=by
   rcases huw with q|q
   ·exact q
   ·have:=kk.line q;simp only at this;lia
  have oE:∀x∈orb S (u,w),(ab S).J x.1 x.2:=λx hx=>fN kk huw hx
  have p:=dg kk (e:=(u,w)) huw
  have oC:cM (orb S (u,w)):=by
   rw[p.orb]
   exact fO _ _ (by rw[Hf,p.back];rfl)
  have hno:o∉orb S (u,w):=by
   intro hm
   have hm2:=ee kk (e:=(u,w)) huw hm
   obtain⟨j,hj⟩:=(dS kk ho).1 hm2
   have q:=lS g r fE fC ho j
   rw[<-hj,hoz _ fE fC]at q
   simp only at q
   rw[q]at fin
   cases fin
  have sees:∀x:ao,(ab S).J x.1 x.2->(ab S).om (orb S (u,w)) x.1 x.2=decide (x∈orb S (u,w)):=by
   intro x hx
   have hz:=hoz (orb S (u,w)) oE oC
   rw[p.orb]at hno hz ⊢
   exact pq g r huw p.pos p.back p.dist k.conn ho hz hno hx
  refine⟨(u,w),huw,xO k huw sees hl ?_ (gE kk huw),?_⟩
  ·simp only[ab]at hyy;simp only;lia
  ·rw[k9 kk (e:=(u,w)) huw,h _ oE oC,sees (u,w) huw]
   exact dqt (gE kk huw)
theorem vt (k:dh S){z:Pt}(hw:0<S.w)(hh:0<S.h){e e':ao}(he:(ab S).J e.1 e.2)(he':(ab S).J e'.1 e'.2)
  (a:0<twiceArea S (rnd S e)) (a':0<twiceArea S (rnd S e')) (i:insideOf S (rnd S e) z=true) (i':insideOf S (rnd S e') z=true):e'∈orb S e :=
 one_pane k hw hh he he' a a' i i' (λhx hy=>qT k.toKept hx hy)
end
section
variable  {S:Plan}
def bN (S:Plan):List ao:=(FJ S.pts.length).flatMap λi=>(aj S i).map λj=>(i,j)
theorem br (k:Kept S){e:ao}:e∈bN S↔(ab S).J e.1 e.2:=by
 have g:=bc S k
 have r:=cw k
 unfold bN
 rw[Jj]
 constructor
 ·rintro⟨i,hi,h⟩
  obtain⟨j,hj,rfl⟩:=Gc.1 h
  exact r.mem.1 hj
 ·intro h
  exact⟨e.1,GJ.2 (g.lt h),Gc.2 ⟨e.2,r.mem.2 h,rfl⟩⟩
def jX (S:Plan)(st:List ao×List (List Nat))(e:ao):List ao×List (List Nat) :=
 if e∈st.1 then st else (st.1++orb S e,if 0<twiceArea S (rnd S e) then st.2++[rnd S e] else st.2)
def bF (S:Plan)(D:List ao):List ao×List (List Nat):=D.foldl (jX S) ([],[])
def dD (S:Plan):List (List Nat):=(bF S (bN S)).2
theorem fS (S:Plan)(D:List ao)(e:ao):bF S (D++[e])=jX S (bF S D) e:=by
 unfold bF
 rw[List.foldl_append]
 rfl
def Fst (S:Plan)(D:List ao)(e:ao):Prop:=∃a b,D=a++e :: b/\∀x∈a,e∉orb S x
structure wZ (S:Plan)(D:List ao)(st:List ao×List (List Nat)):Prop where
 walked:∀x,x∈st.1↔∃e∈D,x∈orb S e
 mem:∀l,l∈st.2↔∃e,Fst S D e/\0<twiceArea S (rnd S e)/\l=rnd S e
 nd:st.2.Nodup
theorem fL {D:List ao}{e x:ao}:Fst S (D++[e]) x↔Fst S D x\/(x=e/\∀y∈D,e∉orb S y):=by
 constructor
 ·rintro⟨a,b,h,hn⟩
  rcases Il b with hb|⟨b',y,hb⟩
  ·subst hb
   have:=List.append_inj' h rfl
   obtain⟨h1,h2⟩:=this
   have h2:e=x:=by simpa using h2
   subst h2 h1
   exact GA ⟨rfl,hn⟩
  ·left
   subst hb
   have h':D++[e]=(a++x :: b')++[y]:=by rw[h];simp
   have:=List.append_inj' h' rfl
   exact⟨a,b',this.1,hn⟩
 ·rintro(⟨a,b,h,hn⟩|⟨rfl,hn⟩)
  ·exact⟨a,b++[e],by rw[h];simp,hn⟩
  ·exact⟨D,[],rfl,hn⟩
theorem xG (k:Kept S){D:List ao}{st:List ao×List (List Nat)}(h:wZ S D st)(hD:∀x∈D,(ab S).J x.1 x.2){e:ao}(he:(ab S).J e.1 e.2):wZ S (D++[e]) (jX S st e):=by
 unfold jX
 by_cases hw:e∈st.1
 ·rw[Fs hw]
  obtain⟨y,hy,hey⟩:=(h.walked e).1 hw
  refine⟨λx=>?_,λl=>?_,h.nd⟩
  ·rw[h.walked x]
   constructor
   ·rintro⟨z,hz,hx⟩;exact⟨z,by simp[hz],hx⟩
   ·rintro⟨z,hz,hx⟩
    rcases FR.1 hz with q|q
    ·exact⟨z,q,hx⟩
    ·have:z=e:=by simpa using q
     subst this
     exact⟨y,hy,fF k (hD y hy) hey hx⟩
  ·rw[h.mem l]
   constructor
   ·rintro⟨x,hx,q⟩;exact⟨x,fL.2 (G3 hx),q⟩
   ·rintro⟨x,hx,q⟩
    rcases fL.1 hx with q1|⟨rfl,q1⟩
    ·exact⟨x,q1,q⟩
    ·exact absurd hey (q1 y hy)
 ·rw[Fl hw]
  have hn:∀y∈D,e∉orb S y:=λy hy q=>hw ((h.walked e).2 ⟨y,hy,q⟩)
  refine⟨λx=>?_,λl=>?_,?_⟩
  ·rw[FR,h.walked x]
   constructor
   ·rintro(⟨z,hz,hx⟩|hx)
    ·exact⟨z,by simp[hz],hx⟩
    ·exact⟨e,by simp,hx⟩
   ·rintro⟨z,hz,hx⟩
    rcases FR.1 hz with q|q
    ·exact G3 ⟨z,q,hx⟩
    ·have:z=e:=by simpa using q
     subst this
     exact GA hx
  ·by_cases ha:0<twiceArea S (rnd S e)
   ·rw[Fs ha,FR,h.mem l]
    constructor
    ·rintro(⟨x,hx,q⟩|q)
     ·exact⟨x,fL.2 (G3 hx),q⟩
     ·exact⟨e,fL.2 (GA ⟨rfl,hn⟩),ha,by simpa using q⟩
    ·rintro⟨x,hx,q⟩
     rcases fL.1 hx with q1|⟨rfl,q1⟩
     ·exact G3 ⟨x,q1,q⟩
     ·exact GA (by simpa using q.2)
   ·rw[Fl ha,h.mem l]
    constructor
    ·rintro⟨x,hx,q⟩;exact⟨x,fL.2 (G3 hx),q⟩
    ·rintro⟨x,hx,q⟩
     rcases fL.1 hx with q1|⟨rfl,q1⟩
     ·exact⟨x,q1,q⟩
     ·exact absurd q.1 ha
  ·by_cases ha:0<twiceArea S (rnd S e)
   ·rw[Fs ha,List.nodup_append]
    refine⟨h.nd,by simp,λl hl m hm q=>?_⟩
    have hm:m=rnd S e:=by simpa using hm
    subst hm q
    obtain⟨x,⟨a,b,hx,_⟩,_,e1⟩:=(h.mem _).1 hl
    have hxD:x∈D:=by rw[hx];simp
    have e2:orb S e=orb S x:=by rw[<-ig k he,<-ig k (hD x hxD),e1]
    exact hn x hxD (by rw[<-e2];exact gE k he)
   ·rw[Fl ha];exact h.nd
theorem kJ (k:Kept S):∀{D:List ao},(∀x∈D,(ab S).J x.1 x.2)->wZ S D (bF S D):=by
 intro D
 generalize hn:D.length=n
 induction n generalizing D with
 |zero =>
  intro _
  have:D=[]:=Hk.1 hn
  subst this
  refine⟨λx=>?_,λl=>?_,List.nodup_nil⟩
  ·constructor
   ·intro h;cases h
   ·rintro⟨e,he,_⟩;cases he
  ·constructor
   ·intro h;cases h
   ·rintro⟨e,⟨a,b,h,_⟩,_⟩
    simp at h
 |succ n ih =>
  intro hD
  rcases Il D with h|⟨D',e,h⟩
  ·subst h;simp at hn
  ·rw[IQ]at h
   subst h
   rw[fS]
   exact xG k (ih (by simpa using hn) λx hx=>hD x (by simp[hx])) (λx hx=>hD x (by simp[hx])) (hD e (by simp))
theorem iq {α:Type}[BEq α][LawfulBEq α]:∀(n:Nat) (l:List α),l.length<=n->l.eraseDups.Nodup
 |0,l,h=>by
  have:l=[]:=Hk.1 (by lia)
  subst this
  simp
 |n+1,[],_=>by simp
 |n+1,a :: l,h=>by
  rw[List.eraseDups_cons,GU]
  refine⟨λq=>?_,iq n _ (by have:=Im (λb=>!b==a) l;simp at h;lia)⟩
  rw[List.mem_eraseDups,FX]at q
  simp at q
theorem rG:(bN S).Pairwise (λx y=>x.1<=y.1):=by
 unfold bN
 generalize S.pts.length=n
 induction n with
 |zero=>exact List.Pairwise.nil
 |succ n ih =>
  rw[IP,List.flatMap_append,GE]
  refine⟨ih,?_,?_⟩
  ·rw[List.flatMap_cons,List.flatMap_nil,GT,List.pairwise_map]
   exact List.pairwise_of_forall (λ_ _=>nlr _)
  ·intro x hx y hy
   obtain⟨i,hi,h⟩:=Jj.1 hx
   obtain⟨j,hj,rfl⟩:=Gc.1 h
   obtain⟨i',hi',h'⟩:=Jj.1 hy
   obtain⟨j',hj',rfl⟩:=Gc.1 h'
   have:=GJ.1 hi
   have:i'=n:=by simpa using hi'
   simp only
   lia
theorem nR (k:Kept S){e:ao}(he:(ab S).J e.1 e.2):∃t,rnd S e=e.1 :: t:=by
 have p:=dg k he
 obtain⟨n,hn⟩:∃n,(rnd S e).length=n+1:=⟨(rnd S e).length-1,by have:=p.pos;lia⟩
 rw[p.rnd,hn]
 exact⟨_,rfl⟩
theorem t6 (k:Kept S){e:ao}(he:(ab S).J e.1 e.2){v:Nat}(h:v∈rnd S e):∃x∈orb S e,x.1=v:=by
 have p:=dg k he
 rw[p.rnd,<-p.orb]at h
 obtain⟨x,hx,e⟩:=Gc.1 h
 exact⟨x,hx,e⟩
theorem gw (k:dh S){e:ao}(h:Fst S (bN S) e):∃t,rnd S e=e.1 :: t/\∀x∈t,e.1<x:=by
 have kk:=k.toKept
 obtain⟨a,b,hD,hn⟩:=h
 have he:(ab S).J e.1 e.2:=(br kk).1 (by rw[hD];simp)
 obtain⟨t,ht⟩:=nR kk he
 refine⟨t,ht,λv hv=>?_⟩
 have nd:=kC k he
 rw[ht,GU]at nd
 have hne:v≠e.1:=λq=>nd.1 (q▸hv)
 obtain⟨x,hx,hxv⟩:=t6 kk he (v:=v) (by rw[ht];simp[hv])
 apply bcn
 intro hlt
 have hxD:x∈bN S:=(br kk).2 (fN kk he hx)
 have ord:=rG (S:=S)
 rw[hD,GE,Gv]at ord
 rw[hD]at hxD
 rcases FR.1 hxD with q|q
 ·exact hn x q (ee kk he hx)
 ·rcases Fp.1 q with q|q
  ·subst q;lia
  ·have:=ord.2.1.1 x q
   lia
theorem sV (k:Kept S){e x:ao}(he:(ab S).J e.1 e.2)(hx:x∈orb S e):∃j,j<(rnd S e).length/\rnd S x=(rnd S e).drop j++(rnd S e).take j:=by
 have p:=dg k he
 obtain⟨j,hj⟩:=(dS k he).1 hx
 rw[qc p.back p.pos]at hj
 refine⟨j % (rnd S e).length,Nat.mod_lt _ p.pos,?_⟩
 rw[hj]
 exact yL k he (Nat.mod_lt _ p.pos)
theorem iS (k:dh S)(l:List Nat):l∈dD S↔l∈S.outlines:=by
 have kk:=k.toKept
 have ok:=kJ kk (D:=bN S) (λx hx=>(br kk).1 hx)
 unfold dD
 rw[ok.mem]
 unfold Plan.outlines
 rw[FX,List.mem_eraseDups,Gc]
 constructor
 ·rintro⟨e,hf,ha,rfl⟩
  obtain⟨t,ht,hm⟩:=gw k hf
  obtain⟨a,b,hD,_⟩:=hf
  have he:(ab S).J e.1 e.2:=(br kk).1 (by rw[hD];simp)
  refine⟨⟨e,iJ.2 he,?_⟩,dqt ha⟩
  show fromLeast (rnd S e)=rnd S e
  have:=dQ hm (j:=0) (by simp)
  rw[ht]
  simpa using this
 ·rintro⟨⟨e',hw,rfl⟩,ha⟩
  have he':(ab S).J e'.1 e'.2:=iJ.1 (by obtain⟨x,y⟩:=e';exact hw)
  have ha:0<twiceArea S (fromLeast (rnd S e')):=Ff ha
  obtain⟨a,e,b,hD,he,hn⟩:∃a e b,bN S=a++e :: b/\e∈orb S e'/\∀x∈a,x∉orb S e':=by
   have h0:e'∈bN S:=(br kk).2 he'
   have h1:=gE kk he'
   generalize bN S=D at h0
   induction D with
   |nil=>cases h0
   |cons y r ih =>
    by_cases hy:y∈orb S e'
    ·exact⟨[],y,r,rfl,hy,λx hx=>by cases hx⟩
    ·have:e'∈r:=(Fp.1 h0).resolve_left (λq=>hy (q▸h1))
     obtain⟨a,e,b,h2,h3,h4⟩:=ih this
     refine⟨y :: a,e,b,by rw[h2];rfl,h3,λx hx=>?_⟩
     rcases Fp.1 hx with q|q
     ·rw[q];exact hy
     ·exact h4 x q
  have hej:=fN kk he' he
  have hf:Fst S (bN S) e:=⟨a,b,hD,λx hx q=>by
   have hxj:(ab S).J x.1 x.2:=(br kk).1 (by rw[hD];simp[hx])
   exact hn x hx (fF kk he' he (ee kk hxj q))⟩
  obtain⟨t,ht,hm⟩:=gw k hf
  obtain⟨j,hj,hr⟩:=sV kk hej (ee kk he' he)
  have e1:fromLeast (rnd S e')=rnd S e:=by
   rw[hr,ht]
   exact dQ hm (by rw[<-ht];exact hj)
  have e1':fromLeast (S.round (2*S.lines.length+1) e' e')=rnd S e:=e1
  exact⟨e,hf,by rw[<-e1];exact ha,e1'⟩
theorem ia (k:Kept S):(dD S).Nodup:=(kJ k (D:=bN S) (λx hx=>(br k).1 hx)).nd
theorem mW (S:Plan):S.outlines.Nodup:=(iq _ _ (nlr _)).filter _
theorem qN (k:dh S):(dD S).length=S.outlines.length:=by
 have h1:=bB (ia k.toKept) (λx hx=>(iS k x).1 hx)
 have h2:=bB (mW S) (λx hx=>(iS k x).2 hx)
 lia
theorem nE (k:dh S){l:List Nat}(h:l∈dD S):∃e:ao,(ab S).J e.1 e.2/\0<twiceArea S (rnd S e)/\l=rnd S e:=by
 have kk:=k.toKept
 have ok:=kJ kk (D:=bN S) (λx hx=>(br kk).1 hx)
 obtain⟨e,⟨a,b,hD,_⟩,ha,hl⟩:=(ok.mem l).1 h
 exact⟨e,(br kk).1 (by rw[hD];simp),ha,hl⟩
theorem Bm (k:dh S){z:Pt}(hz:clear S z=true):∃h,∃(hh:h<(dD S).length),S.among S.outlines z=some (dD S)[h]/\insideOf S (dD S)[h] z=true /\
  ∀j (hj:j<(dD S).length),insideOf S (dD S)[j] z=true->j=h:=by
 have kk:=k.toKept
 have hz':=hz
 unfold clear at hz'
 simp only[Fn,Fq]at hz'
 obtain⟨z1,z2,z3,z4,_⟩:=hz'
 have hw:0<S.w:=by lia
 have hh:0<S.h:=by lia
 obtain⟨e,he,ha,hi⟩:=vI k z1 z2 z4
 have uniq:∀l∈dD S,∀m∈dD S,insideOf S l z=true->insideOf S m z=true->l=m:=by
  intro l hl m hm il im
  have ok:=kJ kk (D:=bN S) (λx hx=>(br kk).1 hx)
  obtain⟨x,hx,ax,rfl⟩:=(ok.mem l).1 hl
  obtain⟨y,hy,ay,rfl⟩:=(ok.mem m).1 hm
  obtain⟨t1,h1,m1⟩:=gw k hx
  obtain⟨t2,h2,m2⟩:=gw k hy
  obtain⟨a1,b1,d1,n1⟩:=hx
  obtain⟨a2,b2,d2,n2⟩:=hy
  have xj:(ab S).J x.1 x.2:=(br kk).1 (by rw[d1];simp)
  have yj:(ab S).J y.1 y.2:=(br kk).1 (by rw[d2];simp)
  have hm:=vt k hw hh xj yj ax ay il im
  obtain⟨j,hj,hr⟩:=sV kk xj hm
  have:fromLeast (rnd S y)=rnd S x:=by
   rw[hr,h1]
   exact dQ m1 (by rw[<-h1];exact hj)
  have e2:=dQ m2 (j:=0) (by simp)
  rw[h2]at this
  rw[<-this,h2]
  have e3:fromLeast (y.1 :: t2)=y.1 :: t2:=by simpa using e2
  exact e3
 have ex:∃l∈dD S,insideOf S l z=true:=by
  have hl:fromLeast (rnd S e)∈S.outlines:=by
   unfold Plan.outlines
   rw[FX,List.mem_eraseDups,Gc]
   refine⟨⟨e,iJ.2 he,rfl⟩,?_⟩
   have q:∃x∈orb S e,fromLeast (rnd S e)=rnd S x:=by
    obtain⟨a,x,b,hD,hx,hn⟩:∃a x b,bN S=a++x :: b/\x∈orb S e/\∀y∈a,y∉orb S e:=by
     have h0:e∈bN S:=(br kk).2 he
     have h1:=gE kk he
     generalize bN S=D at h0
     induction D with
     |nil=>cases h0
     |cons y r ih =>
      by_cases hy:y∈orb S e
      ·exact⟨[],y,r,rfl,hy,λx hx=>by cases hx⟩
      ·have:e∈r:=(Fp.1 h0).resolve_left (λq=>hy (q▸h1))
       obtain⟨a,x,b,h2,h3,h4⟩:=ih this
       refine⟨y :: a,x,b,by rw[h2];rfl,h3,λv hv=>?_⟩
       rcases Fp.1 hv with q|q
       ·rw[q];exact hy
       ·exact h4 v q
    have hxj:=fN kk he hx
    have hf:Fst S (bN S) x:=⟨a,b,hD,λy hy q=>by
     have hyj:(ab S).J y.1 y.2:=(br kk).1 (by rw[hD];simp[hy])
     exact hn y hy (fF kk he hx (ee kk hyj q))⟩
    obtain⟨t,ht,hm⟩:=gw k hf
    obtain⟨j,hj,hr⟩:=sV kk hxj (ee kk he hx)
    refine⟨x,hx,?_⟩
    rw[hr,ht]
    exact dQ hm (by rw[<-ht];exact hj)
   obtain⟨x,hx,hq⟩:=q
   rw[hq,qT kk he hx]
   exact dqt ha
  have hlo:=(iS k _).2 hl
  refine⟨_,hlo,?_⟩
  obtain⟨x,xj,ax,hx⟩:=nE k hlo
  have q:x∈orb S e\/True:=GA trivial
  have hrot:∃a b,rnd S e=a++b/\fromLeast (rnd S e)=b++a:=by
   generalize rnd S e=r
   cases r with
   |nil=>exact⟨[],[],rfl,rfl⟩
   |cons a r =>
    refine⟨(a :: r).take ((a :: r).idxOf (r.foldl min a)),(a :: r).drop ((a :: r).idxOf (r.foldl min a)),(List.take_append_drop _ _).symm,rfl⟩
  obtain⟨a,b,h1,h2⟩:=hrot
  rw[h2]
  rw[h1]at hi
  have pr:∀(a b:List Nat),(prs (a++b)).Perm (prs (b++a)):=by
   intro a b
   unfold prs
   cases a with
   |nil=>rw[Hl,GT]
   |cons x a =>
    cases b with
    |nil=>rw[Hl,GT]
    |cons y b =>
     have c1:((x :: a)++(y :: b)).zip (((x :: a)++(y :: b)).drop 1++((x :: a)++(y :: b)).take 1)=(x :: a).zip (a++[y])++(y :: b).zip (b++[x]):=by
      have:((x :: a)++(y :: b)).drop 1++((x :: a)++(y :: b)).take 1=(a++[y])++(b++[x]):=by simp
      rw[this,List.zip_append (by simp)]
     have c2:((y :: b)++(x :: a)).zip (((y :: b)++(x :: a)).drop 1++((y :: b)++(x :: a)).take 1)=(y :: b).zip (b++[x])++(x :: a).zip (a++[y]):=by
      have:((y :: b)++(x :: a)).drop 1++((y :: b)++(x :: a)).take 1=(b++[x])++(a++[y]):=by simp
      rw[this,List.zip_append (by simp)]
     rw[c1,c2]
     exact List.perm_append_comm
  have ins:∀l m:List Nat,(prs l).Perm (prs m)->insideOf S l z=insideOf S m z:=by
   intro l m hp
   unfold insideOf
   have:(l.zip (l.drop 1++l.take 1)).Perm (m.zip (m.drop 1++m.take 1)):=hp
   rw[(this.filter _).length_eq]
  rw[ins _ _ (pr b a)]
  exact hi
 obtain⟨l,hl,hin⟩:=ex
 obtain⟨h,hh,hlh⟩:=FO hl
 refine⟨h,hh,?_,by rw[hlh];exact hin,λj hj q=>?_⟩
 ·unfold Plan.among
  rw[Fs hz,hlh]
  cases hf:S.outlines.find? λ(l:List Nat)=>insideOf S l z with
  |none =>
   have:=Ij.1 hf l ((iS k l).1 hl)
   rw[hin]at this
   exact absurd rfl this
  |some m =>
   have h1:=List.find?_some hf
   have h2:=List.mem_of_find?_eq_some hf
   rw[uniq m ((iS k m).2 h2) l hl h1 hin]
 ·have e:=uniq _ (FS hj) _ hl q hin
  have nd:=ia kk
  exact(List.getElem_inj nd).1 (e.trans hlh.symm)
end
theorem ef {α:Type}{p:Nat->α->Bool}{l:List α}{k:Nat}(hk:k<l.length)(h:p k l[k]=true)(hb:∀j (hj:j<k),p j (l[j]'(by lia))=false):firstAt p l=some k:=by
 unfold firstAt
 have:(l.zipIdx.find? λ(x:α×Nat)=>p x.2 x.1)=some (l[k],k):=by
  rw[Ix]
  refine⟨h,k,by rw[List.length_zipIdx];exact hk,by rw[List.getElem_zipIdx];simp,λj hj=>?_⟩
  rw[List.getElem_zipIdx]
  simp only[Hf]
  rw[hb j hj]
  rfl
 rw[this]
 rfl
theorem dN {α:Type}{p:Nat->α->Bool}{l:List α}(hb:∀j (hj:j<l.length),p j l[j]=false):firstAt p l=none:=by
 unfold firstAt
 rw[Option.map_eq_none_iff,Ij]
 intro x hx
 obtain⟨i,hi,rfl⟩:=FO hx
 rw[List.getElem_zipIdx]
 simp only[Hf]
 rw[List.length_zipIdx]at hi
 rw[hb i hi]
 simp
theorem jF {p:Nat->Bool}{n k:Nat}(hk:k<n)(h:p k=true)(hb:∀j,j<k->p j=false):(FJ n).find? p=some k:=by
 rw[Ix]
 refine⟨h,k,by rw[GI];exact hk,by rw[List.getElem_range],λj hj=>?_⟩
 rw[List.getElem_range,hb j hj]
 rfl
theorem i8 {p:Nat->Bool}{n:Nat}(hb:∀j,j<n->p j=false):(FJ n).find? p=none:=by
 rw[Ij]
 intro x hx
 rw[hb x (GJ.1 hx)]
 simp
def bX {α:Type}(ok:α->Bool)(before:α->α->Bool)(l:List α)(i:Nat)(x:α):Bool:=!ok x||(decide (0<i)&&(match l[i-1]? with
 |some y=>!before y x
 |none=>false))
theorem d4 {α:Type}(ok:α->Bool)(before:α->α->Bool)(l:List α):firstBad ok before l=firstAt (bX ok before l) l:=rfl
theorem jv {α:Type}{ok:α->Bool}{before:α->α->Bool}{l:List α}{x:α}:bX ok before l 0 x=!ok x:=by
 unfold bX
 simp
theorem jz {α:Type}{ok:α->Bool}{before:α->α->Bool}{l:List α}{i:Nat}(hi:i<l.length){x:α}:bX ok before l (i+1) x=(!ok x||!before l[i] x):=by
 unfold bX
 rw[dqt (by lia),GK,show i+1-1=i by lia,gge hi]
section
variable  {S:Plan}
def R4 (S:Plan):Prop:=firstBad (λ(p:Pt)=>decide (p.x<=S.w)&&decide (p.y<=S.h)) Pt.below S.pts=none
def R5 (S:Plan):Prop:=firstBad (λ(l:Nat×Nat)=>decide (l.1<l.2)&&decide (l.2<S.pts.length)) lineBelow S.lines=none
theorem R4.ord (h:R4 S){i j:Nat}(hij:i<j)(hj:j<S.pts.length):(S.pt i).y<(S.pt j).y\/((S.pt i).y=(S.pt j).y/\(S.pt i).x<(S.pt j).x):=by
 have q:=chain_lt (R:=Pt.below) (λh1 h2=>lu h1 h2) (b9 h).2 i j hij hj
 rw[bH S hj,bH S (by lia:i<S.pts.length)]
 exact(eG _ _).1 q
theorem R5.line (h:R5 S){l:Nat×Nat}(hl:l∈S.lines):l.1<l.2/\l.2<S.pts.length:=by
 have:=(b9 h).1 l hl
 simpa using this
theorem tu (h4:R4 S){p q j:Nat}(hpq:p<q)(hq:q<S.pts.length)(hj:j<S.pts.length)(h1:j≠p)(h2:j≠q)(hon:isOn (S.pt p) (S.pt q) (S.pt j)=true):p<j/\j<q:=by
 unfold isOn between at hon
 simp only[Fn,IF,Fq]at hon
 obtain⟨ht,⟨hx1,hx2⟩,hy1,hy2⟩:=hon
 have o:=h4.ord hpq hq
 unfold turn dx dy at ht
 constructor
 ·apply bcn
  intro hn
  have oj:=h4.ord (i:=j) (j:=p) (by lia) (by lia)
  have ey:(S.pt j).y=(S.pt p).y:=by lia
  have exl:(S.pt j).x<(S.pt p).x:=by lia
  rcases o with o|o
  ·rw[ey]at ht
   have:(((S.pt q).y:Int)-((S.pt p).y:Int))*(((S.pt p).x:Int)-((S.pt j).x:Int))=0:=by grind
   have:0<(((S.pt q).y:Int)-((S.pt p).y:Int))*(((S.pt p).x:Int)-((S.pt j).x:Int)):=Fw (by lia) (by lia)
   lia
  ·lia
 ·apply bcn
  intro hn
  have oj:=h4.ord (i:=q) (j:=j) (by lia) hj
  have ey:(S.pt j).y=(S.pt q).y:=by lia
  have exl:(S.pt q).x<(S.pt j).x:=by lia
  rcases o with o|o
  ·rw[ey]at ht
   have:(((S.pt q).y:Int)-((S.pt p).y:Int))*(((S.pt j).x:Int)-((S.pt q).x:Int))=0:=by grind
   have:0<(((S.pt q).y:Int)-((S.pt p).y:Int))*(((S.pt j).x:Int)-((S.pt q).x:Int)):=Fw (by lia) (by lia)
   lia
  ·lia
theorem vG (h4:R4 S){p q r s:Nat}(hpq:p<q)(hq:q<S.pts.length)(hrs:r<s)(hs:s<S.pts.length)(hc:crosses (S.pt p) (S.pt q) (S.pt r) (S.pt s)=true):p<s:=by
 apply bcn
 intro hn
 have o1:=h4.ord hpq hq
 have o2:=h4.ord hrs hs
 have o3:(S.pt s).y<=(S.pt p).y:=by
  by_cases e:s=p
  ·rw[e];exact nlr _
  ·have:=h4.ord (i:=s) (j:=p) (by lia) (by lia)
   lia
 unfold crosses at hc
 simp only[Fn,Fq]at hc
 obtain⟨c1,c2⟩:=hc
 unfold turn dx dy at c1 c2
 have y1:(S.pt p).y<=(S.pt q).y:=by lia
 have y2:(S.pt r).y<=(S.pt s).y:=by lia
 generalize hpx:((S.pt p).x:Int)=px at *
 generalize hqx:((S.pt q).x:Int)=qx at *
 generalize hrx:((S.pt r).x:Int)=rx at *
 generalize hsx:((S.pt s).x:Int)=sx at *
 have y1':((S.pt p).y:Int)<=((S.pt q).y:Int):=by lia
 have y2':((S.pt r).y:Int)<=((S.pt s).y:Int):=by lia
 have y3':((S.pt s).y:Int)<=((S.pt p).y:Int):=by lia
 generalize ((S.pt p).y:Int)=py at *
 generalize ((S.pt q).y:Int)=qy at *
 generalize ((S.pt r).y:Int)=ry at *
 generalize ((S.pt s).y:Int)=sy at *
 have fin:∀(fr fs hp hq:Int),fr=(qx-px)*(ry-qy)-(qy-py)*(rx-qx)->fs=(qx-px)*(sy-qy)-(qy-py)*(sx-qx)->hp=(sx-rx)*(py-sy)-(sy-ry)*(px-sx)->hq=(sx-rx)*(qy-sy)-(sy-ry)*(qx-sx)->fr*fs<0->hp*hq<0->False:=by
  intro fr fs hp hq e1 e2 e3 e4 m1 m2
  have i1:fs*ry-fr*sy=hp*qy-hq*py:=by rw[e1,e2,e3,e4];grind
  have i2:fs-fr=hp-hq:=by rw[e1,e2,e3,e4];grind
  have i3:fs-fr=(qx-px)*(sy-ry)-(qy-py)*(sx-rx):=by rw[e1,e2];grind
  have sg:(0<fs/\fr<0/\0<hp/\hq<0)\/(fs<0/\0<fr/\hp<0/\0<hq):=by
   have s1:(0<fs/\fr<0)\/(fs<0/\0<fr):=by
    rcases Int.lt_trichotomy fs 0 with h|h|h
    ·right
     refine⟨h,?_⟩
     apply bcn;intro q
     have:0<=(-fr)*(-fs):=Fo (by lia) (by lia)
     grind
    ·rw[h]at m1;simp at m1
    ·left
     refine⟨h,?_⟩
     apply bcn;intro q
     have:0<=fr*fs:=Fo (by lia) (by lia)
     lia
   have s2:(0<hp/\hq<0)\/(hp<0/\0<hq):=by
    rcases Int.lt_trichotomy hp 0 with h|h|h
    ·right
     refine⟨h,?_⟩
     apply bcn;intro q
     have:0<=(-hp)*(-hq):=Fo (by lia) (by lia)
     grind
    ·rw[h]at m2;simp at m2
    ·left
     refine⟨h,?_⟩
     apply bcn;intro q
     have:0<=hp*hq:=Fo (by lia) (by lia)
     lia
   rcases s1 with s1|s1<;>rcases s2 with s2|s2
   ·exact G3 ⟨s1.1,s1.2,s2.1,s2.2⟩
   ·lia
   ·lia
   ·exact GA ⟨s1.1,s1.2,s2.1,s2.2⟩
  have j1:fs*(sy-ry)+hp*(qy-py)+(fs-fr)*(py-sy)=0:=by grind
  rcases sg with⟨g1,g2,g3,g4⟩|⟨g1,g2,g3,g4⟩
  ·have a1:0<=fs*(sy-ry):=Fo (by lia) (by lia)
   have a2:0<=hp*(qy-py):=Fo (by lia) (by lia)
   have a3:0<=(fs-fr)*(py-sy):=Fo (by lia) (by lia)
   have z1:sy-ry=0:=by
    rcases Hx.1 (by omega:fs*(sy-ry)=0) with h|h<;>omega
   have z2:qy-py=0:=by
    rcases Hx.1 (by omega:hp*(qy-py)=0) with h|h<;>omega
   rw[z1,z2]at i3
   simp at i3
   lia
  ·have a1:0<=(-fs)*(sy-ry):=Fo (by lia) (by lia)
   have a2:0<=(-hp)*(qy-py):=Fo (by lia) (by lia)
   have a3:0<=(-(fs-fr))*(py-sy):=Fo (by lia) (by lia)
   have b1:(-fs)*(sy-ry)=- (fs*(sy-ry)):=by grind
   have b2:(-hp)*(qy-py)=- (hp*(qy-py)):=by grind
   have b3:(-(fs-fr))*(py-sy)=- ((fs-fr)*(py-sy)):=by grind
   have z1:sy-ry=0:=by
    rcases Hx.1 (by omega:fs*(sy-ry)=0) with h|h<;>omega
   have z2:qy-py=0:=by
    rcases Hx.1 (by omega:hp*(qy-py)=0) with h|h<;>omega
   rw[z1,z2]at i3
   simp at i3
   lia
 exact fin _ _ _ _ rfl rfl rfl rfl c1 c2
def m8 (S:Plan)(l:Nat×Nat):Bool:=(FJ S.pts.length).any λk=>decide (l.1<k)&&(decide (k<l.2)&&isOn (S.pt l.1) (S.pt l.2) (S.pt k))
def jA (S:Plan)(i:Nat)(l:Nat×Nat):Bool:=(S.lines.take i).any λm=>decide (l.1<m.2)&&crosses (S.pt l.1) (S.pt l.2) (S.pt m.1) (S.pt m.2)
theorem x8 (h4:R4 S)(h5:R5 S)(i:Nat){l:Nat×Nat}(hl:l∈S.lines):touches S i l=(m8 S l||jA S i l):=by
 obtain⟨l1,l2⟩:=h5.line hl
 unfold touches m8 jA
 congr 1
 ·rw[Ge,HH,HH]
  constructor
  ·rintro⟨k,hk,h⟩
   simp only[Fn,bne_iff_ne,ne_eq]at h
   obtain⟨a,b⟩:=tu h4 l1 l2 (GJ.1 hk) h.1 h.2.1 h.2.2
   exact⟨k,hk,by simp[a,b,h.2.2]⟩
  ·rintro⟨k,hk,h⟩
   simp only[Fn,Fq]at h
   exact⟨k,hk,by simp only[Fn,bne_iff_ne,ne_eq];exact⟨by lia,by lia,h.2.2⟩⟩
 ·rw[Ge,HH,HH]
  constructor
  ·rintro⟨m,hm,h⟩
   obtain⟨m1,m2⟩:=h5.line (GO hm)
   exact⟨m,hm,by rw[Fn];exact⟨dqt (vG h4 l1 l2 m1 m2 h),h⟩⟩
  ·rintro⟨m,hm,h⟩
   rw[Fn]at h
   exact⟨m,hm,h.2⟩
end
def eX (a:List Nat×Array Bool)(j:Nat):List Nat×Array Bool:=if a.2.getD j true=true then a else (j :: a.1,a.2.setIfInBounds j true)
theorem tD (near:Array (List Nat))(m:Nat)(seen:Array Bool):spread near m [] seen=seen:=by
 cases m<;>rfl
theorem rY (near:Array (List Nat))(m k:Nat)(r:List Nat)(seen:Array Bool):spread near (m+1) (k :: r) seen=spread near m ((near.getD k []).foldl eX (r,seen)).1 ((near.getD k []).foldl eX (r,seen)).2:=rfl
def eV (a:Array Bool):Nat:=a.toList.count false
theorem jd:∀{l:List Bool} {j:Nat},l[j]? = some false->(l.set j true).count false+1=l.count false
 |[],_,h=>by simp at h
 |a :: l,0,h=>by
  have:a=false:=by simpa using h
  subst this
  simp
 |a :: l,j+1,h=>by
  have ih:=jd (l:=l) (j:=j) (by simpa using h)
  rw[List.set_cons_succ,List.count_cons,List.count_cons]
  lia
theorem sG {a:Array Bool}{j:Nat}(h:¬a.getD j true=true):a.toList[j]? = some false/\j<a.size:=by
 unfold Array.getD at h
 by_cases c:j<a.size
 ·rw[dif_pos c]at h
  refine⟨?_,c⟩
  rw[gge (by simpa using c)]
  simp only[Array.getElem_toList]
  congr 1
  cases q:a[j] with
  |false=>rfl
  |true=>exact absurd q h
 ·rw[dif_neg c]at h
  exact absurd rfl h
theorem yu (a:List Nat×Array Bool)(j:Nat):(eX a j).1.length+eV (eX a j).2=a.1.length+eV a.2:=by
 unfold eX
 by_cases h:a.2.getD j true=true
 ·rw[Fs h]
 ·rw[Fl h]
  obtain⟨h1,h2⟩:=sG h
  have:=jd h1
  unfold eV
  rw[HZ]
  simp only[FT]
  lia
theorem kX:∀(l:List Nat) (a:List Nat×Array Bool),(l.foldl eX a).1.length+eV (l.foldl eX a).2=a.1.length+eV a.2
 |[],_=>rfl
 |j :: l,a=>by rw[HU,kX l,yu]
section
variable  {S:Plan}
theorem ny {all:List (List Nat)}:∀{l:List Mark} {i:Nat} {had:List (Option (List Nat))} {k:Nat} (hk:k<l.length),((((l.take k).map λm=>S.among all m.at_).reverse++had).contains (S.among all (l[k]).at_)=true) ->
  (∀j (hj:j<k),(((l.take j).map λm=>S.among all m.at_).reverse++had).contains (S.among all (l[j]'(by lia)).at_)=false)->twice S all i had l=some (i+k)
 |[],_,_,_,hk,_,_=>by simp at hk
 |m :: r,i,had,0,hk,h,_=>by
  unfold twice
  have h:had.contains (S.among all m.at_)=true:=by simpa using h
  simp only
  rw[Fs h]
  rfl
 |m :: r,i,had,k+1,hk,h,hb=>by
  have h0:had.contains (S.among all m.at_)=false:=by simpa using hb 0 (by lia)
  unfold twice
  simp only
  rw[Fl (by rw[h0];decide)]
  have:=ny (l:=r) (i:=i+1) (had:=S.among all m.at_ :: had) (k:=k) (by simpa using hk) (by simpa using h) (λj hj=>by
   have:=hb (j+1) (by lia)
   simpa using this)
  rw[this]
  congr 1
  lia
theorem lE {all:List (List Nat)}:∀{l:List Mark} {i:Nat} {had:List (Option (List Nat))},
  (∀j (hj:j<l.length),(((l.take j).map λm=>S.among all m.at_).reverse++had).contains (S.among all (l[j]).at_)=false)->twice S all i had l=none
 |[],_,_,_=>rfl
 |m :: r,i,had,hb=>by
  have h0:had.contains (S.among all m.at_)=false:=hb 0 (Nat.zero_lt_succ _)
  unfold twice
  simp only
  rw[Fl (by rw[h0];decide)]
  exact lE (l:=r) (λj hj=>by
   have:=hb (j+1) (by simpa using hj)
   simpa using this)
end
end WL
end
section
namespace CM
open Gla
def sW (l:List Int):Int:=l.foldr (λb n=>256*n+b) 0
def rd (ns:List Int)(p w:Nat):Int:=sW ((ns.drop p).take w)
def toB (ns:List Int):List UInt8:=ns.map λz=>UInt8.ofNat z.toNat
def Byt (ns:List Int):Prop:=∀z∈ns,0<=z/\z<=255
theorem uK {z:Int}(h:0<=z/\z<=255):(((UInt8.ofNat z.toNat).toNat:Nat):Int)=z:=by
 have:(UInt8.ofNat z.toNat).toNat=z.toNat:=by
  rw[UInt8.toNat_ofNat']
  lia
 rw[this]
 lia
theorem uM:∀{l:List Int},Byt l->sW l=((numLe (toB l):Nat):Int)
 |[],_=>rfl
 |z :: l,h=>by
  have ih:=uM (l:=l) λy hy=>h y (Fj _ hy)
  have hz:=uK (h z FB)
  show 256*sW l+z=(((UInt8.ofNat z.toNat).toNat+256*numLe (toB l):Nat):Int)
  rw[ih,Int.natCast_add,hz,Int.natCast_mul]
  lia
theorem Byt.sub {ns:List Int}(h:Byt ns)(p w:Nat):Byt ((ns.drop p).take w):=λz hz=>h z (HJ (GO hz))
theorem cN {ns:List Int}(h:Byt ns)(p w:Nat):rd ns p w=((num (toB ns) p w:Nat):Int):=by
 unfold rd num
 rw[uM (h.sub p w)]
 unfold toB
 rw[Ie,Jb]
theorem rD:∀(l:List UInt8),numLe l<256 ^ l.length
 |[]=>by simp[numLe]
 |c :: r=>by
  have:=rD r
  have hc:=c.toNat_lt
  rw[numLe,FT,Nat.pow_succ]
  have:c.toNat+256*numLe r<256*(numLe r+1):=by lia
  have:256*(numLe r+1)<=256*256 ^ r.length:=Nat.mul_le_mul_left _ (by lia)
  lia
theorem qz (b:List UInt8)(p w:Nat):num b p w<256 ^ w:=by
 unfold num
 have h:=rD ((b.drop p).take w)
 have:((b.drop p).take w).length<=w:=by rw[Gr];lia
 exact FF h (Nat.pow_le_pow_right (by lia) this)
theorem sX {ns:List Int}(h:Byt ns)(p:Nat):0<=rd ns p 2/\rd ns p 2<65536:=by
 have:=qz (toB ns) p 2
 rw[cN h]
 lia
def eA (ns:List Int)(r:List Int):Bool:=decide (r.getD 2 0<=rd ns (r.getD 0 0).toNat (r.getD 1 0).toNat)&&decide (rd ns (r.getD 0 0).toNat (r.getD 1 0).toNat<=r.getD 3 0)
def told (ns:List Int):Int:=20+8*rd ns 12 2+4*rd ns 14 2+12*rd ns 16 2
def dJ (ns:List Int):Option (Int×Int):=if ns.length<20 then some (1,(ns.length:Int)) else if ns.take 4≠jx then some (1,0) else match eR.find? (λr=>!eA ns r) with
 |some r=>some (2,r.getD 0 0)
 |none=>if (ns.length:Int)≠told ns then some (3,20) else none
theorem ub {ns:List Int}(h:Byt ns):(toB ns).take 4=MAGIC↔ns.take 4=jx:=by
 have e:(toB ns).take 4=toB (ns.take 4):=by unfold toB;rw[Ie]
 have hb:Byt (ns.take 4):=λz hz=>h z (GO hz)
 rw[e]
 constructor
 ·intro q
  have:((toB (ns.take 4)).map λc:UInt8=>((c.toNat:Nat):Int))=jx:=by rw[q];rfl
  rw[<-this]
  unfold toB
  rw[List.map_map]
  conv=>lhs;rw[<-List.map_id (ns.take 4)]
  apply G6
  intro z hz
  exact(uK (hb z hz)).symm
 ·intro q
  rw[q]
  rfl
def fK (b:List UInt8):Option Fault :=
 if b.length<HEAD then some ⟨1,b.length⟩
 else if b.take 4≠MAGIC then some ⟨1,0⟩
 else if within SMALLEST LARGEST (num b 4 4)=false then some ⟨2,4⟩
 else if within SMALLEST LARGEST (num b 8 4)=false then some ⟨2,8⟩
 else if within 4 POINTS (num b 12 2)=false then some ⟨2,12⟩
 else if within 4 LINES (num b 14 2)=false then some ⟨2,14⟩
 else if within 1 MARKS (num b 16 2)=false then some ⟨2,16⟩
 else if num b 18 2≠0 then some ⟨2,18⟩
 else if b.length≠HEAD+8*num b 12 2+4*num b 14 2+12*num b 16 2 then some ⟨3,HEAD⟩ else none
theorem l7 (b:List UInt8):judgePlan b=match fK b with
  |some e=>.error e
  |none=>match (parts b).fault with
   |some e=>.error e
   |none=>.ok (parts b):=by
 unfold judgePlan fK
 repeat' split
 all_goals first|rfl|simp_all
theorem d8 {a c n:Nat}{z:Int}(hz:z=(n:Int)):within a c n=(decide ((a:Int)<=z)&&decide (z<=(c:Int))):=by
 unfold within
 subst hz
 congr 1
 ·rw[Fz];lia
 ·rw[Fz];lia
theorem ja {ns:List Int}(h:Byt ns):dJ ns=(fK (toB ns)).map λe=>((e.rule:Int),(e.place:Int)):=by
 have hl:(toB ns).length=ns.length:=by unfold toB;rw[lmp]
 unfold dJ fK
 rw[hl]
 by_cases c1:ns.length<20
 ·rw[Fs c1,Fs (show ns.length<HEAD from c1)]
  rfl
 ·rw[Fl c1,Fl (show ¬ns.length<HEAD from c1)]
  by_cases c2:ns.take 4=jx
  ·rw[Fl (show ¬ns.take 4≠jx from λq=>q c2),Fl (show ¬(toB ns).take 4≠MAGIC from λq=>q ((ub h).2 c2))]
   have w1:=d8 (a:=SMALLEST) (c:=LARGEST) (cN h 4 4)
   have w2:=d8 (a:=SMALLEST) (c:=LARGEST) (cN h 8 4)
   have w3:=d8 (a:=4) (c:=POINTS) (cN h 12 2)
   have w4:=d8 (a:=4) (c:=LINES) (cN h 14 2)
   have w5:=d8 (a:=1) (c:=MARKS) (cN h 16 2)
   have o1:eA ns [4,4,16,1048575]=within SMALLEST LARGEST (num (toB ns) 4 4):=by rw[w1];rfl
   have o2:eA ns [8,4,16,1048575]=within SMALLEST LARGEST (num (toB ns) 8 4):=by rw[w2];rfl
   have o3:eA ns [12,2,4,4096]=within 4 POINTS (num (toB ns) 12 2):=by rw[w3];rfl
   have o4:eA ns [14,2,4,8192]=within 4 LINES (num (toB ns) 14 2):=by rw[w4];rfl
   have o5:eA ns [16,2,1,2048]=within 1 MARKS (num (toB ns) 16 2):=by rw[w5];rfl
   have o6:eA ns [18,2,0,0]=decide (num (toB ns) 18 2=0):=by
    show(decide ((0:Int)<=rd ns 18 2)&&decide (rd ns 18 2<=0))=_
    rw[cN h,<-Bool.decide_and,Fz]
    lia
   unfold eR
   simp only[HQ,List.find?_nil,o1,o2,o3,o4,o5,o6]
   cases within SMALLEST LARGEST (num (toB ns) 4 4) with
   |false=>rfl
   |true =>
    cases within SMALLEST LARGEST (num (toB ns) 8 4) with
    |false=>rfl
    |true =>
     cases within 4 POINTS (num (toB ns) 12 2) with
     |false=>rfl
     |true =>
      cases within 4 LINES (num (toB ns) 14 2) with
      |false=>rfl
      |true =>
       cases within 1 MARKS (num (toB ns) 16 2) with
       |false=>rfl
       |true =>
        by_cases c6:num (toB ns) 18 2=0
        ·simp only[c6,decide_true,Bool.not_true,ne_eq,not_true_eq_false,I0,Bool.true_eq_false]
         have e:told ns=((HEAD+8*num (toB ns) 12 2+4*num (toB ns) 14 2+12*num (toB ns) 16 2:Nat):Int):=by
          unfold told HEAD
          rw[cN h,cN h,cN h]
          lia
         rw[e]
         by_cases c7:ns.length=HEAD+8*num (toB ns) 12 2+4*num (toB ns) 14 2+12*num (toB ns) 16 2
         ·rw[Fl (by lia),Fl (by lia)];rfl
         ·rw[Fs (by lia),Fs (by lia)];rfl
        ·simp[c6]
  ·rw[Fs (show ns.take 4≠jx from c2),Fs (show(toB ns).take 4≠MAGIC from λq=>c2 ((ub h).1 q))]
   rfl
def fJ (p:Pt):List Int:=[(p.x:Int),(p.y:Int)]
def tX (l:Nat×Nat):List Int:=[(l.1:Int),(l.2:Int)]
def ke (m:Mark):List Int:=[(m.at_.x:Int),(m.at_.y:Int),(m.glass:Int),(m.painting:Int)]
def P_ (ns:List Int):Nat:=(rd ns 12 2).toNat
def L_ (ns:List Int):Nat:=(rd ns 14 2).toNat
def M_ (ns:List Int):Nat:=(rd ns 16 2).toNat
def kt (ns:List Int):List (List Int):=(FJ (P_ ns)).map λi=>[rd ns (20+8*i) 4,rd ns (20+8*i+4) 4]
def k7 (ns:List Int):List (List Int):=(FJ (L_ ns)).map λi=>[rd ns (20+8*P_ ns+4*i) 2,rd ns (20+8*P_ ns+4*i+2) 2]
def kD (ns:List Int):List (List Int):=(FJ (M_ ns)).map λi=>[rd ns (20+8*P_ ns+4*L_ ns+12*i) 4,rd ns (20+8*P_ ns+4*L_ ns+12*i+4) 4,rd ns (20+8*P_ ns+4*L_ ns+12*i+8) 2,rd ns (20+8*P_ ns+4*L_ ns+12*i+10) 2]
theorem BK {ns:List Int}(h:Byt ns):P_ ns=num (toB ns) 12 2:=by unfold P_;rw[cN h];lia
theorem BU {ns:List Int}(h:Byt ns):L_ ns=num (toB ns) 14 2:=by unfold L_;rw[cN h];lia
theorem E5 {ns:List Int}(h:Byt ns):M_ ns=num (toB ns) 16 2:=by unfold M_;rw[cN h];lia
theorem uU {ns:List Int}(h:Byt ns):kt ns=(parts (toB ns)).pts.map fJ:=by
 unfold kt parts
 simp only[List.map_map,BK h]
 apply G6
 intro i _
 simp only[Function.comp,fJ,HEAD,cN h]
theorem wa {ns:List Int}(h:Byt ns):k7 ns=(parts (toB ns)).lines.map tX:=by
 unfold k7 parts
 simp only[List.map_map,BK h,BU h]
 apply G6
 intro i _
 simp only[Function.comp,tX,HEAD,cN h]
theorem wb {ns:List Int}(h:Byt ns):kD ns=(parts (toB ns)).marks.map ke:=by
 unfold kD parts
 simp only[List.map_map,BK h,BU h,E5 h]
 apply G6
 intro i _
 simp only[Function.comp,ke,HEAD,cN h]
end CM
end
section
namespace Wg
open PySem PySem.Spec PyProof.Rows L2
theorem aY {H0 H:Hp}{T:Fi}{o:HO}(s:al H0 H)(h:H T=none):al H0 (upd H T o):=λb u e=>by
 have e1:=s b u e
 rw[aq (aO e1 h)]
 exact e1
theorem aW {H0 H:Hp}{T:Fi}{o:HO}(s:al H0 H)(h:H0 T=none):al H0 (upd H T o):=λb u e=>by
 have e1:=s b u e
 rw[aq (aO e h)]
 exact e1
theorem aL {H:Hp}{T:Fi}{o:HO}(h:H T=none):al H (upd H T o):=aY (al.refl H) h
theorem iC {K:GC}{H H':Hp}{a:Fi}{xs:List V}(e:al H H')(h:SqT K H a xs):SqT K H' a xs:=by
 rcases h with(h|⟨o,h⟩)|h
 ·exact .inl (.inl (e _ _ h))
 ·exact .inl (.inr ⟨o,e _ _ h⟩)
 ·exact .inr h
section
variable  {K:GC}{a b:Fi}{xs ys:List V}
theorem BI {g:TG}{tt:TT}{te:TE}{vs:List Nat}{σ:L2.St}{H1:Hp}{D:Fi}{Qd:Hp->Prop}(Pv:Nat->Hp->Prop)(h0:Pv 0 (upd H1 D (.lst [])))
  (hl:∀i H,i<=min xs.length ys.length->Pv i H->SqL K H a xs/\SqL K H b ys)
  (hs:∀i x y T H,xs[i]? = some x->ys[i]? = some y->H T=none->Pv i H->g (.ref T) (bV σ vs) (upd H T (.tup [x,y])) λσ2 H2=>bV σ2 vs=bV σ vs/\tt σ2 H2 λb H3 =>
   if b=true then te σ2 H3 λy H4=>∃acc,H4 D=some (.lst acc)/\acc.length<Fk/\Pv (i+1) (upd H4 D (.lst (acc++[y]))) else Pv (i+1) H3) (hd:∀H,Pv (min xs.length ys.length) H->Qd H) :
  ∃W:Nat->Nat->Hp->Prop,(∃m,W 0 m (upd H1 D (.lst [])))/\∀i m H,W i m H ->
   ((Itz K a b).stop i H/\Qd H)\/((Itz K a b).go i H/\∃Nx:Hp->Prop,(∀H',Nx H'->∃m',m'<m/\W (i+1) m' H')/\∀x H',(Itz K a b).yld i H x H'->g x (bV σ vs) H' λσ2 H2=>bV σ2 vs=bV σ vs/\tt σ2 H2 λb H3 =>
    if b=true then te σ2 H3 λy H4=>∃acc,H4 D=some (.lst acc)/\acc.length<Fk/\Nx (upd H4 D (.lst (acc++[y]))) else Nx H3):=by
 refine⟨λi m H=>m=min xs.length ys.length-i/\i<=min xs.length ys.length/\Pv i H,⟨min xs.length ys.length,by simp,Gw _,h0⟩,?_⟩
 rintro i m H ⟨rfl,hi,p⟩
 obtain⟨q1,q2⟩:=hl i H hi p
 by_cases hlt:i<min xs.length ys.length
 ·have hx:i<xs.length:=by lia
  have hy:i<ys.length:=by lia
  refine .inr ⟨⟨xs,ys,xs[i],ys[i],q1,q2,by simp[hx],by simp[hy]⟩,Pv (i+1),λH' p'=>⟨min xs.length ys.length-(i+1),by lia,rfl,hlt,p'⟩,λx H' y=>?_⟩
  obtain⟨T,x1,y1,e1,e2,e3,e4,e5⟩:=y
  subst e1 e3
  exact hs i x1 y1 T H (e4 xs q1) (e5 ys q2) e2 p
 ·have e:i=min xs.length ys.length:=by lia
  subst e
  exact .inl ⟨⟨xs,ys,q1,q2,by lia⟩,hd H p⟩
theorem dc {g:TG}{tb:TS}{D:oa}{σ:L2.St}{H:Hp}(Pv:Nat->L2.St->Hp->Prop)(h0:Pv 0 σ H)(hl:∀i σ H,i<=xs.length->Pv i σ H->SqL K H a xs)
  (hs:∀i x T σ H,xs[i]? = some x->H T=none->Pv i σ H->g (.ref T) σ (upd H T (.tup [.int (i:Nat),x])) λσ2 H2=>tb { D with nx:=Pv (i+1),ct:=Pv (i+1),bk:=D.nx } σ2 H2) (hd:∀σ H,Pv xs.length σ H->D.nx σ H) :
  ∃W:Nat->Nat->L2.St->Hp->Prop,(∃m,W 0 m σ H)/\∀i m σ H,W i m σ H ->
   ((Ite K a).stop i H/\D.nx σ H)\/((Ite K a).go i H/\∃N:L2.St->Hp->Prop,(∀σ' H',N σ' H'->∃m',m'<m/\W (i+1) m' σ' H')/\∀x H',(Ite K a).yld i H x H'->g x σ H' λσ2 H2=>tb { D with nx:=N,ct:=N,bk:=D.nx } σ2 H2):=by
 refine⟨λi m σ H=>m=xs.length-i/\i<=xs.length/\Pv i σ H,⟨xs.length,by simp,Gw _,h0⟩,?_⟩
 rintro i m σ H ⟨rfl,hi,p⟩
 have q:=hl i σ H hi p
 by_cases hlt:i<xs.length
 ·refine .inr ⟨⟨xs,xs[i],q,by simp[hlt]⟩,Pv (i+1),λσ' H' p'=>⟨xs.length-(i+1),by lia,rfl,hlt,p'⟩,λx H' y=>?_⟩
  obtain⟨T,x1,e1,e2,e3,e4⟩:=y
  subst e1 e3
  exact hs i x1 T σ H (e4 xs q) e2 p
 ·have e:i=xs.length:=by lia
  subst e
  exact .inl ⟨⟨xs,q,nlr _⟩,hd σ H p⟩
theorem zd {g:TG}{tt:TT}{te:TE}{vs:List Nat}{σ:L2.St}{H1:Hp}{D:Fi}{Qd:Hp->Prop}(Pv:Nat->Hp->Prop)(h0:Pv 0 (upd H1 D (.lst [])))
  (hl:∀i H,i<=xs.length->Pv i H->SqL K H a xs)
  (hs:∀i x T H,xs[i]? = some x->H T=none->Pv i H->g (.ref T) (bV σ vs) (upd H T (.tup [.int (i:Nat),x])) λσ2 H2=>bV σ2 vs=bV σ vs/\tt σ2 H2 λb H3 =>
   if b=true then te σ2 H3 λy H4=>∃acc,H4 D=some (.lst acc)/\acc.length<Fk/\Pv (i+1) (upd H4 D (.lst (acc++[y]))) else Pv (i+1) H3) (hd:∀H,Pv xs.length H->Qd H) :
  ∃W:Nat->Nat->Hp->Prop,(∃m,W 0 m (upd H1 D (.lst [])))/\∀i m H,W i m H ->
   ((Ite K a).stop i H/\Qd H)\/((Ite K a).go i H/\∃Nx:Hp->Prop,(∀H',Nx H'->∃m',m'<m/\W (i+1) m' H')/\∀x H',(Ite K a).yld i H x H'->g x (bV σ vs) H' λσ2 H2=>bV σ2 vs=bV σ vs/\tt σ2 H2 λb H3 =>
    if b=true then te σ2 H3 λy H4=>∃acc,H4 D=some (.lst acc)/\acc.length<Fk/\Nx (upd H4 D (.lst (acc++[y]))) else Nx H3):=by
 refine⟨λi m H=>m=xs.length-i/\i<=xs.length/\Pv i H,⟨xs.length,by simp,Gw _,h0⟩,?_⟩
 rintro i m H ⟨rfl,hi,p⟩
 have q:=hl i H hi p
 by_cases hlt:i<xs.length
 ·refine .inr ⟨⟨xs,xs[i],q,by simp[hlt]⟩,Pv (i+1),λH' p'=>⟨xs.length-(i+1),by lia,rfl,hlt,p'⟩,λx H' y=>?_⟩
  obtain⟨T,x1,e1,e2,e3,e4⟩:=y
  subst e1 e3
  exact hs i x1 T H (e4 xs q) e2 p
 ·have e:i=xs.length:=by lia
  subst e
  exact .inl ⟨⟨xs,q,nlr _⟩,hd H p⟩
end
def Has (K:GC)(mg:Str->Option Value)(x:Str)(st:Hy)(ps:List Str):Prop:=∃f fd,Fun K x x st f fd/\(∀us:List Value,us.length=ps.length->bindArgs fd ⟨us,[]⟩=pure (ps.zip us))/\mg x=some (.ref f)
def Cb (P:FW)(w:G0)(K:GC)(mg:Str->Option Value)(base:Heap)(k:Nat)(x:Str)(ps:List Str)(sp:Sp):Prop :=
 ∃f fd,jq P w K mg base CX0 k f fd ps sp/\iU K fd ps []/\mg x=some (.ref f)/\Hr K (.ref f)=true/\∃o,K.lookup f=some o/\o.data=.func fd
section
variable  {P:FW}{w:G0}{K:GC}{mg:Str->Option Value}{base:Heap}
theorem qW {x:Str}{st:Hy}{f:Fi}{fd:Jg}(F:Fun K x x st f fd):∃o,K.lookup f=some o/\o.data=.func fd:=by
 obtain⟨oc,od,kV,doc,pm,an,cdv,ct,osl,e,lk,_⟩:=F.ex
 exact⟨_,lk,by rw[e]⟩
theorem Has.cb {x:Str}{st:Hy}{N ps:List Str}{k:Nat}{sp:Sp}(F:Has K mg x st ps)(S:ap N ps (ah st))(len:∀vs H Q E,sp vs H Q E->vs.length=ps.length)
  (hbody:∀(f:Fi) (cdv:Value) (A:Around) (outer:List Env) (s:Fh) (H:Hp) (vs:List V) (Q:VK) (E:XK),bf k (A.deeper (envOfC x (ah st) s.heap.objs.size f cdv))->sp vs H Q E ->
   ∃t,PSs (qp CX0 P w K mg base N x (ah st) f cdv A outer s H E).nox (bU st) t/\t { nx:=λ_ H'=>Q .non H',rt:=Q } (start N vs) H):Cb P w K mg base (k+1) x ps sp:=by
 obtain⟨f,fd,h1,h2,h3⟩:=F
 exact⟨f,fd,h1.ok S len (hbody f),.all h2,h3,h1.kp,qW h1⟩
theorem By {h:Heap}{x:Str}{st:Hy}{ps:List Str}{f:Fi}{oc:Value}{od an:Option Fi}{osl:Array (Option Value)}{kV doc pm cdv ct:Value}(X:K.In h)(G:h.Ns Gk mg)
  (bind:∀(kV doc pm:Value) (an:Option Fi) (cdv ct:Value) (us:List Value),us.length=ps.length->bindArgs (HN x x (cY st) (bU st) (ah st) .none kV doc pm an cdv ct) ⟨us,[]⟩=pure (ps.zip us))
  (a:PySem.W.nsIn K Gk x=some (some (.ref f))) (l:K.lookup f=some ⟨oc,od,.func (HN x x (cY st) (bU st) (ah st) .none kV doc pm an cdv ct),osl⟩)
  (c:Je K cdv x=true) (kp:Hr K (.ref f)=true):Has K mg x st ps :=
 ⟨f,_,sN (st:=st) l c kp,bind kV doc pm an cdv ct,PySem.W.mg_of X G a⟩
theorem Has.top {x:Str}{st:Hy}{ps:List Str}{k:Nat}{sp:Sp}{fa:Fi}(F:Has K mg x st ps)(hfa:mg x=some (.ref fa))(C:∀base:Heap,K.In base->base.Ns Gk mg->Cb P w K mg base k x ps sp) :
  ∃fd:Jg,(∀(s:Fh) (us:List Value),us.length=ps.length->BindsTo s fd ⟨us,[]⟩ (ps.zip us))/\∀base:Heap,K.In base->base.Ns Gk mg->jq P w K mg base CX0 k fa fd ps sp:=by
 obtain⟨f,fd,h1,h2,h3⟩:=F
 have e:fa=f:=by
  have q:=hfa.symm.trans h3
  injection q with q
  injection q
 subst e
 refine⟨fd,λs us hu=>.of_eq (h2 us hu),λbase kb nb=>?_⟩
 obtain⟨f',fd',g1,g2,g3,g4,o,g5,g6⟩:=C base kb nb
 have e':fa=f':=by
  have q:=h3.symm.trans g3
  injection q with q
  injection q
 subst e'
 obtain⟨o2,e5,e6⟩:=qW h1
 rw[g5]at e5
 cases e5
 rw[g6]at e6
 injection e6 with e6
 rw[<-e6]
 exact g1
end
theorem aE {X:Cx}{k:Nat}{x:Str}{ps:List Str}{sp:Sp}{p pos:Pos}{e:Expr}{es:List Expr}{t:TA}(C:Cb X.prog X.w X.K X.mg X.base k x ps sp)(hr:bf k X.A)(ha:PA X (e :: es) t)(hg:Gl X x:=by rfl)
  (hdb:(x==("__debug__" : Str))=false:=by decide) (he:FU (e :: es) X.env=(false,Jd e X.env) :: FU es X.env:=by rfl) (hpl:(II pos (FU es X.env)).any (·.1)=false:=by rfl) :
  PE X (.Call (.Name x p) (e :: es) [] pos) (lI sp [] E0 t):=by
 obtain⟨f,fd,h1,h2,h3,h4,_⟩:=C
 exact zr h1 hr hg h3 h4 h2 .nil uL ha hdb he hpl
theorem bo {X:Cx}{x:Str}{n:Int}{pos:Pos}(hm:∃t,X.mg x=some (.int n t))(hg:Gl X x:=by rfl) (hd:(x==("__debug__" : Str))=false:=by decide):PE X (.Name x pos) (tC (.int n)):=by
 obtain⟨t,h⟩:=hm
 exact qF hg h ⟨t,rfl⟩ hd
theorem oe {σ:L2.St}{H:Hp}{Q:Bool->Hp->Prop}(h:Q true H):CO σ H Q:=h
abbrev g2 (K:GC)(i j:Nat):TG:=DY K 2 (wH (oP i) (wH (oP j) BY))
abbrev iV (ns:List Int):List V:=ns.map V.int
def LI (K:GC)(H:Hp)(a:Fi)(ns:List Int):Prop:=SqL K H a (iV ns)/\ns.length<=1000000
theorem LI.same {K:GC}{H H':Hp}{a:Fi}{ns:List Int}(h:LI K H a ns)(s:al H H'):LI K H' a ns:=⟨s.seq h.1,h.2⟩
theorem qD {n:Nat}(h:n<=1000000):n<=Fk:=Gb h (by decide)
theorem bn {n:Nat}(h:n<=1000000):n<Fk:=Gn h (by decide)
theorem qB {ns:List Int}{i:Nat}{v:V}(h:(iV ns)[i]? = some v):∃z,ns[i]? = some z/\v=.int z:=by
 rw[FA]at h
 cases e:ns[i]? with
 |none=>rw[e]at h;cases h
 |some z=>rw[e]at h;exact⟨z,rfl,(osi h).symm⟩
theorem bW {α:Type}:∀{l:List α} {i:Nat} {x:α},l[i]? = some x->l.take (i+1)=l.take i++[x]
 |[],i,x,h=>by simp at h
 |a :: l,0,x,h=>by
  have e:a=x:=osi h
  subst e
  rfl
 |a :: l,i+1,x,h=>by
  have ih:=bW (l:=l) (i:=i) (x:=x) h
  show a :: l.take (i+1)=a :: l.take i++[x]
  rw[ih]
  rfl
theorem AS {α β:Type}{l:List α}{k:List β}{i:Nat}{x:α}{y:β}(h1:l[i]? = some x)(h2:k[i]? = some y):(l.zip k)[i]? = some (x,y):=by
 rw[List.getElem?_zip_eq_some]
 exact⟨h1,h2⟩
end Wg
end
section
namespace Wx
open PySem PySem.Spec PyProof.Rows L2 Wg
def gL (a b:List Int):Bool:=HT.lexLt b a
def gK:List Int->List Int->Bool
 |[],[]=>true
 |[],_ :: _=>true
 |_ :: _,[]=>false
 |x :: xs,y :: ys=>if x=y then gK xs ys else decide (x<=y)
theorem jD (x y:Int)(xs ys:List Int):gL (x :: xs) (y :: ys)=if x=y then gL xs ys else decide (y<x):=by
 unfold gL
 rw[HT.lexLt_cons]
 by_cases h:x=y
 ·rw[Fs h,Fs h.symm]
 ·rw[Fl h,Fl (λq=>h q.symm)]
theorem jG (x y:Int)(xs ys:List Int):gK (x :: xs) (y :: ys)=if x=y then gK xs ys else decide (x<=y):=rfl
theorem wk (A:Around)(s:Fh)(a:Int)(t:Tok)(c:Int)(u:Tok)(prog:FW)(w:G0)(E:Value->Fh->Prop)(Q:Value->Fh->Prop)(h:Q (.bool (decide (c<a))) s) :
  FV (Gj prog w) A (richCompare .Gt (.int a t) (.int c u)) Q E s :=
 (PyProof.Rows.gt_int h:FV (Gj prog w) A (GQ .Gt (.int a t) (.int c u)) Q E s)
theorem ym (A:Around)(s:Fh)(a:Int)(t:Tok)(c:Int)(u:Tok)(prog:FW)(w:G0)(E:Value->Fh->Prop)(Q:Value->Fh->Prop)(h:Q (.bool (decide (a<=c))) s) :
  FV (Gj prog w) A (richCompare .LtE (.int a t) (.int c u)) Q E s :=
 (PyProof.Rows.le_int h:FV (Gj prog w) A (GQ .LtE (.int a t) (.int c u)) Q E s)
section
open PySem.SeqAt
open PySem.AutoSeq1 (wpAny_loadPart')
open PySem.MeetsSeq PySem.MeetsSeq2 PySem.MeetsSeq3
theorem nZ (l b:Fi)(items items2:Array Value)(n n2:Nat)(dd dd2:Option Fi)(sl sl2:Array (Option Value))(ns ms:List Int)(hi:IH items.toList ns)(hj:IH items2.toList ms) :
  Meets (Builtin.«tuple.__gt__» ⟨[.ref l,.ref b],[]⟩)
   (λ_ R s=>s.heap.get? l=some { cls:=.type "tuple",dict:=dd,data:=.seq items n,slots:=sl }/\s.heap.get? b=some { cls:=.type "tuple",dict:=dd2,data:=.seq items2 n2,slots:=sl2 } /\
    R (.ok (.ret (.bool (gL ns ms)))) s) :=
 .of_wp λprog w A R s h=>by
  obtain⟨hp,g,d,tk,os⟩:=s;obtain⟨hl,hb,h⟩:=h
  have f2:=AutoSeq1.sub_tuple_tuple
  have z1:items.size=ns.length:=by rw[<-hi.length];simp
  have z2:items2.size=ms.length:=by rw[<-hj.length];simp
  wp_walk using IM hl,IM hb,wpAny_forIn_list _ (λgO b s'=>b.1=none/\s'=⟨hp,g,d,tk,os⟩/\∃(vs ws:List Value) (ns' ms':List Int),gO=vs.zip ws /\
   IH vs ns'/\IH ws ms'/\ns'.length+items2.size=ms'.length+items.size/\R (.ok (.ret (.bool (gL ns' ms')))) ⟨hp,g,d,tk,os⟩) _
  case turn =>
   rintro⟨y,x⟩ gO b s' ⟨hb',rfl,vs,ws,ns',ms',hz,hvi,hwi,hlen,hR⟩
   cases hvi with
   |nil=>rw[List.zip_nil_left]at hz;cases hz
   |cons a t hvi' =>
    cases hwi with
    |nil=>rw[List.zip_nil_right]at hz;cases hz
    |cons c u hwi' =>
     rw[HA]at hz
     injection hz with hyx hrest
     injection hyx with hy hx
     subst hy hx
     rw[jD]at hR
     simp only[FT]at hlen
     obtain⟨e,he,hiff⟩:=HT.eqAt_int A.in1 ⟨hp,g,d,tk,os⟩ a t c u
     refine Fg (he prog w _ _ ?_)
     cases e with
     |true =>
      rw[Fs (hiff.mp rfl)]at hR
      wp_walk
      exact⟨rfl,rfl,_,_,_,_,hrest,hvi',hwi',by lia,hR⟩
     |false =>
      rw[Fl (λq=>absurd (hiff.mpr q) Fy)]at hR
      have hri:=wk A.in1 ⟨hp,g,d,tk,os⟩ a t c u prog w
      wp_walk using hri
      exact⟨_,rfl,by simpa using hR⟩
  case fin =>
   rintro⟨b1,b2⟩ s' ⟨hb',rfl,vs,ws,ns',ms',hz,hvi,hwi,hlen,hR⟩
   simp only at hb'
   subst hb'
   have hv:gL ns' ms'=decide (items2.size<items.size):=by
    cases hvi with
    |nil =>
     cases hwi with
     |nil =>
      simp only[Iq]at hlen
      show HT.lexLt [] []=_
      rw[HT.lexLt_nil_nil]
      exact(dqf (by lia)).symm
     |cons c u hw =>
      simp only[Iq,FT]at hlen
      show HT.lexLt (_ :: _) []=_
      rw[HT.lexLt_cons_nil]
      exact(dqf (by lia)).symm
    |cons a t hv =>
     cases hwi with
     |nil =>
      simp only[Iq,FT]at hlen
      show HT.lexLt [] (_ :: _)=_
      rw[HT.lexLt_nil_cons]
      exact(dqt (by lia)).symm
     |cons c u hw =>
      rw[HA]at hz
      cases hz
   rw[hv]at hR
   wp_walk
   exact⟨_,rfl,by simpa [Builtin.Tuple.tupleCompareSizes] using hR⟩
  case h =>
   exact⟨rfl,rfl,items.toList,items2.toList,ns,ms,rfl,hi,hj,by lia,h⟩
theorem n9 (l b:Fi)(items items2:Array Value)(n n2:Nat)(dd dd2:Option Fi)(sl sl2:Array (Option Value))(ns ms:List Int)(hi:IH items.toList ns)(hj:IH items2.toList ms) :
  Meets (Builtin.«tuple.__le__» ⟨[.ref l,.ref b],[]⟩)
   (λ_ R s=>s.heap.get? l=some { cls:=.type "tuple",dict:=dd,data:=.seq items n,slots:=sl }/\s.heap.get? b=some { cls:=.type "tuple",dict:=dd2,data:=.seq items2 n2,slots:=sl2 } /\
    R (.ok (.ret (.bool (gK ns ms)))) s) :=
 .of_wp λprog w A R s h=>by
  obtain⟨hp,g,d,tk,os⟩:=s;obtain⟨hl,hb,h⟩:=h
  have f2:=AutoSeq1.sub_tuple_tuple
  have z1:items.size=ns.length:=by rw[<-hi.length];simp
  have z2:items2.size=ms.length:=by rw[<-hj.length];simp
  wp_walk using IM hl,IM hb,wpAny_forIn_list _ (λgO b s'=>b.1=none/\s'=⟨hp,g,d,tk,os⟩/\∃(vs ws:List Value) (ns' ms':List Int),gO=vs.zip ws /\
   IH vs ns'/\IH ws ms'/\ns'.length+items2.size=ms'.length+items.size/\R (.ok (.ret (.bool (gK ns' ms')))) ⟨hp,g,d,tk,os⟩) _
  case turn =>
   rintro⟨y,x⟩ gO b s' ⟨hb',rfl,vs,ws,ns',ms',hz,hvi,hwi,hlen,hR⟩
   cases hvi with
   |nil=>rw[List.zip_nil_left]at hz;cases hz
   |cons a t hvi' =>
    cases hwi with
    |nil=>rw[List.zip_nil_right]at hz;cases hz
    |cons c u hwi' =>
     rw[HA]at hz
     injection hz with hyx hrest
     injection hyx with hy hx
     subst hy hx
     rw[jG]at hR
     simp only[FT]at hlen
     obtain⟨e,he,hiff⟩:=HT.eqAt_int A.in1 ⟨hp,g,d,tk,os⟩ a t c u
     refine Fg (he prog w _ _ ?_)
     cases e with
     |true =>
      rw[Fs (hiff.mp rfl)]at hR
      wp_walk
      exact⟨rfl,rfl,_,_,_,_,hrest,hvi',hwi',by lia,hR⟩
     |false =>
      rw[Fl (λq=>absurd (hiff.mpr q) Fy)]at hR
      have hri:=ym A.in1 ⟨hp,g,d,tk,os⟩ a t c u prog w
      wp_walk using hri
      exact⟨_,rfl,by simpa using hR⟩
  case fin =>
   rintro⟨b1,b2⟩ s' ⟨hb',rfl,vs,ws,ns',ms',hz,hvi,hwi,hlen,hR⟩
   simp only at hb'
   subst hb'
   have hv:gK ns' ms'=decide (items.size<=items2.size):=by
    cases hvi with
    |nil =>
     cases hwi with
     |nil =>
      simp only[Iq]at hlen
      exact(dqt (by lia)).symm
     |cons c u hw =>
      simp only[Iq,FT]at hlen
      exact(dqt (by lia)).symm
    |cons a t hv =>
     cases hwi with
     |nil =>
      simp only[Iq,FT]at hlen
      exact(dqf (by lia)).symm
     |cons c u hw =>
      rw[HA]at hz
      cases hz
   rw[hv]at hR
   wp_walk
   exact⟨_,rfl,by simpa [Builtin.Tuple.tupleCompareSizes] using hR⟩
  case h =>
   exact⟨rfl,rfl,items.toList,items2.toList,ns,ms,rfl,hi,hj,by lia,h⟩
end
section
variable  {prog:FW}{w:G0}{A:Around}{E:Value->Fh->Prop}{s:Fh}
theorem sS {l b:Fi}{items items2:Array Value}{ns ms:List Int}{Q:Value->Fh->Prop}(hl:IsTup s.heap l items)(hb:IsTup s.heap b items2)(hi:IH items.toList ns)(hj:IH items2.toList ms)
  (hu:A.units<cLine) (h:Q (.bool (gL ns ms)) s):FV (Gj prog w) A (GQ .Gt (.ref l) (.ref b)) Q E s:=by
 obtain⟨⟨cls,dd,data,sl⟩,ho,hc,n,hd⟩:=id hl
 obtain⟨⟨cls2,dd2,data2,sl2⟩,ho2,hc2,n2,hd2⟩:=id hb
 simp only at hc hd hc2 hd2
 subst hc hd hc2 hd2
 exact richCompare_meets_room (op:=.Gt) ⟨_,ho,rfl⟩ ⟨_,ho2,rfl⟩ PySem.F.slot_tuple_gt PySem.F.entry_tuple_gt (PySem.F.args_tuple_gt_2 _ _) (nZ l b items items2 n n2 dd dd2 sl sl2 ns ms hi hj)
  ⟨ho,ho2,show Value.bool (gL ns ms)≠Value.notImplemented/\Q (.bool (gL ns ms)) s from⟨(λx=>nomatch x),h⟩⟩ hu
theorem sR {l b:Fi}{items items2:Array Value}{ns ms:List Int}{Q:Value->Fh->Prop}(hl:IsTup s.heap l items)(hb:IsTup s.heap b items2)(hi:IH items.toList ns)(hj:IH items2.toList ms)
  (hu:A.units<cLine) (h:Q (.bool (gK ns ms)) s):FV (Gj prog w) A (GQ .LtE (.ref l) (.ref b)) Q E s:=by
 obtain⟨⟨cls,dd,data,sl⟩,ho,hc,n,hd⟩:=id hl
 obtain⟨⟨cls2,dd2,data2,sl2⟩,ho2,hc2,n2,hd2⟩:=id hb
 simp only at hc hd hc2 hd2
 subst hc hd hc2 hd2
 exact richCompare_meets_room (op:=.LtE) ⟨_,ho,rfl⟩ ⟨_,ho2,rfl⟩ PySem.F.slot_tuple_le PySem.F.entry_tuple_le (PySem.F.args_tuple_le_2 _ _) (n9 l b items items2 n n2 dd dd2 sl sl2 ns ms hi hj)
  ⟨ho,ho2,show Value.bool (gK ns ms)≠Value.notImplemented/\Q (.bool (gK ns ms)) s from⟨(λx=>nomatch x),h⟩⟩ hu
end
section
variable  {X:Cx}
def EM (K:GC):R2:=λx y H Q=>∃a b ns ms,x=.ref a/\y=.ref b/\SqT K H a (ns.map V.int)/\SqT K H b (ms.map V.int)/\Q (.bl (gL ns ms)) H
theorem AU (hu:X.A.units<cLine):OpR X (GQ .Gt) (EM X.K):=by
 intro pins s σ H x y v u Q I rx ry h
 obtain⟨a,b,ns,ms,rfl,rfl,ha,hb,q⟩:=h
 cases rx
 cases ry
 obtain⟨its,r1,p1,_⟩:=I.tuple ha
 obtain⟨its2,r2,p2,_⟩:=I.tuple hb
 have i1:IH its.toArray.toList ns:=hZ r1
 have i2:IH its2.toArray.toList ms:=hZ r2
 exact sS p1 p2 i1 i2 hu ⟨.bl (gL ns ms),H,I,rfl,q⟩
def Dl (K:GC):R2:=λx y H Q=>∃a b ns ms,x=.ref a/\y=.ref b/\SqT K H a (ns.map V.int)/\SqT K H b (ms.map V.int)/\Q (.bl (gK ns ms)) H
theorem AZ (hu:X.A.units<cLine):OpR X (GQ .LtE) (Dl X.K):=by
 intro pins s σ H x y v u Q I rx ry h
 obtain⟨a,b,ns,ms,rfl,rfl,ha,hb,q⟩:=h
 cases rx
 cases ry
 obtain⟨its,r1,p1,_⟩:=I.tuple ha
 obtain⟨its2,r2,p2,_⟩:=I.tuple hb
 have i1:IH its.toArray.toList ns:=hZ r1
 have i2:IH its2.toArray.toList ms:=hZ r2
 exact sR p1 p2 i1 i2 hu ⟨.bl (gK ns ms),H,I,rfl,q⟩
def uP:V->List V->Hp->VK->Prop:=λx vs H Q=>∃(l:Fi) (xs:List V) (k:Int) (y:V),x=.ref l/\vs=[.int k,y]/\H l=some (.lst xs)/\0<=k/\k<=(xs.length:Int)/\xs.length<Fk/\Q .non (upd H l (.lst (xs.take k.toNat++y :: xs.drop k.toNat)))
theorem vD:MtM X "list.insert" uP:=by
 intro pins s σ H x vs v us Q I rx rv h
 obtain⟨l,xs,k,y,rfl,rfl,hH,k0,hk,hz,q⟩:=h
 cases rx
 obtain⟨u1,u2,rfl,ru1,ru2⟩:=rv.two
 obtain⟨t,rfl⟩:=ru1
 obtain⟨z,its,n,r,hl,e⟩:=I.lstM hH
 have hsl:=sizeLine_eq
 have hfit:¬(!Builtin.List.listFitsIndex k)=true:=by
  rw[hsl]at hz
  have k1:-(2 ^ 63)<=k:=by lia
  have k2:k<2 ^ 63:=by lia
  have:Builtin.List.listFitsIndex k=true:=fitsIndex_both k1 k2
  rw[this]
  decide
 have hs1:its.toArray.size<=Fk:=by rw[Fu];lia
 have M:=AutoSeq1.list_insert_list_int_val_1 l its.toArray n k t u2 hfit hs1
 refine call_meets F.slot_list_insert ⟨_,e,rfl⟩ F.entry_list_insert (F.args_list_insert_3 _ _ _) M ⟨e,?_⟩
 refine⟨.non,_,I.lset (its':=its.take k.toNat++u2 :: its.drop k.toNat) hH e ?_ ((r.take k.toNat).append (.cons ru2 (r.drop k.toNat))) ?_,rfl,q⟩
 ·have hk2:k.toNat<=its.length:=by lia
  dsimp only
  rw[Fl (by lia),Fu,FN hk2]
  apply Array.ext'
  simp
  rw[GP (by rw[FZ];exact nlr _)]
 ·rw[Fm,Gr,FT,FZ]
  lia
def uS (K:GC):V->List V->Hp->VK->Prop:=λx vs H Q=>∃(a:Fi) (bs:List Bool) (b:Bool),x=.ref a/\vs=[.bl b]/\SqL K H a (bs.map V.bl)/\Q (.int (bs.count b:Nat)) H
theorem js (b:Bool):∀bs:List Bool,countIn (.bool b) (bs.map PyData.bool)=((bs.count b:Nat):Int)
 |[]=>rfl
 |c :: bs=>by
  rw[FH,countIn,js b bs,List.count_cons]
  cases b<;>cases c<;>simp[same]<;>lia
theorem lg {hp:Heap}:∀bs:List Bool,∃as,ReadsAll hp (bs.map Value.bool) (bs.map PyData.bool) as
 |[]=>⟨_,ReadsAll.nil⟩
 |b :: bs=>by
  obtain⟨as,h⟩:=lg (hp:=hp) bs
  exact⟨_,ReadsAll.cons (Reads.bool b) h⟩
theorem vT:MtR X "list.count" (uS X.K):=by
 intro pins s σ H x vs v us Q I rx rv h
 obtain⟨a,bs,b,rfl,rfl,hs,q⟩:=h
 cases rx
 obtain⟨u,rfl,ru⟩:=rv.one
 cases ru
 obtain⟨its,r,pl,_⟩:=I.list hs
 have e:its=bs.map Value.bool:=r.bls
 subst e
 obtain⟨as,ra⟩:=lg (hp:=s.heap) bs
 refine count_list_bools pl.isList ra (by simp[Shape.has]) ⟨.int _,H,I.tok _,⟨s.toks,?_⟩,q⟩
 rw[js]
def zj (K:GC):R2:=λx y H Q=>∃(b p:Fi) (r:List Int) (as:List Fi) (rows:List (List Int)),x=.ref b/\y=.ref p/\SqT K H b (iV r)/\SqL K H p (as.map V.ref)/\as.length=rows.length/\(∀(i:Nat) (a:Fi) (q:List Int),as[i]? = some a->rows[i]? = some q->SqT K H a (iV q)) /\
 Q (.bl (!decide (r∈rows))) H
theorem fP {K:GC}{H:Hp}:∀r:List Int,lL K H (iV r) (r.map Gp)
 |[]=>.nil
 |i :: r=>.cons (.int i) (fP r)
theorem iF:∀(r q:List Int),PyData.eqvAll (r.map Gp) (q.map Gp)=decide (r=q)
 |[],[]=>by simp[PyData.eqvAll]
 |[],_ :: _=>by simp[PyData.eqvAll]
 |_ :: _,[]=>by simp[PyData.eqvAll]
 |a :: r,b :: q=>by
  rw[FH,FH,PyData.eqvAll,iF r q,PyData.eqv]
  rw[Ge]
  simp
theorem fU:∀r:List Int,Jc (r.map Gp)=true
 |[]=>rfl
 |a :: r=>by
  show(PyData.canLay0 (.int a)&&Jc (r.map Gp))=true
  rw[fU r]
  rfl
theorem jM:∀r:List Int,PyData.depthAll (r.map Gp)<=1
 |[]=>Gw _
 |a :: r=>by
  show max (PyData.depth (.int a)) (PyData.depthAll (r.map Gp))<=1
  refine Nat.max_le.2 ⟨?_,jM r⟩
  first|exact Gw _|exact nlr _|simp[PyData.depth]
theorem rE (r:List Int):∀rows:List (List Int),((rows.map λq=>IR (q.map Gp)).any λy=>PyData.eqv y (.tuple (r.map Gp)))=decide (r∈rows)
 |[]=>by simp
 |q :: rows=>by
  rw[FH,List.any_cons,rE r rows]
  show(PyData.eqvAll (q.map Gp) (r.map Gp)||_)=_
  rw[iF,Ge]
  simp only[Hw,Fq,Fp]
  constructor
  ·rintro(h|h)
   ·exact G3 h.symm
   ·exact GA h
  ·rintro(h|h)
   ·exact G3 h.symm
   ·exact GA h
theorem rg:∀rows:List (List Int),Jc (rows.map λq=>IR (q.map Gp))=true
 |[]=>rfl
 |q :: rows=>by
  show(Jc (q.map Gp)&&Jc (rows.map λq=>IR (q.map Gp)))=true
  rw[rg rows,fU q]
  rfl
theorem uf {K:GC}{H:Hp}:∀(as:List Fi) (rows:List (List Int)),as.length=rows.length->(∀(i:Nat) (a:Fi) (q:List Int),as[i]? = some a->rows[i]? = some q->SqT K H a (iV q))->lL K H (as.map V.ref) (rows.map λq=>IR (q.map Gp))
 |[],[],_,_=>.nil
 |[],_ :: _,h,_=>by simp at h
 |_ :: _,[],h,_=>by simp at h
 |a :: as,q :: rows,h,hat=>.cons (.tup (hat 0 a q rfl rfl) (fP q)) (uf as rows (by simpa using h) λi b r e1 e2=>hat (i+1) b r (by simpa using e1) (by simpa using e2))
theorem uV (hu:X.A.units+64<cLine):OpR X (GQ .NotIn) (zj X.K):=by
 intro pins s σ H x y v u Q I rx ry h
 obtain⟨b,p,r,as,rows,rfl,rfl,hb,hp,hlen,hat,q⟩:=h
 obtain⟨bs,rb⟩:=Dp.reads I (.tuple (r.map Gp)) (.ref b) v (.tup hb (fP r)) rx
 obtain⟨cs,rc⟩:=Dp.reads I (.list (rows.map λq=>IR (q.map Gp))) (.ref p) u (.lst hp (uf as rows hlen hat)) ry
 refine SeqAt.notIn_list_reads rc rb (rg rows) (fU r) ?_ ⟨.bl _,H,I,rfl,?_⟩
 ·have h1:(IR (r.map Gp)).depth<=2:=by
   show PyData.depthAll (r.map Gp)+1<=2
   have:=jM r
   lia
  have h2:=Nat.min_le_right (PyData.depthAll (rows.map λq=>IR (q.map Gp))) (IR (r.map Gp)).depth
  lia
 ·rw[rE]
  exact q
end
theorem jP {M:Model}{A:Around}{E:Value->Fh->Prop}{s:Fh}{a:Fi}{Q:Option Obj->Fh->Prop}(h:Q (s.heap.get? a) s):FV M A (loadIfAlive a) Q E s:=by
 intro Γ p hΓ
 show Sem.wp _ Γ (loadIfAlive a) _ _ p s
 unfold loadIfAlive
 rw[Sem.wp_loadIfAlive]
 first
  |exact h
  |(rw[Sem.wp_pure];exact h)
  |simpa using h
abbrev fe (h:Heap)(e it:Fi)(i:Int)(T:Fi)(b:Bool)(old:Value):Prop :=
 h.get? e=some { cls:=.type "enumerate",dict:=none,data:=.fields #[rawInt ((T:Nat):Int),.bool b,.ref it,rawInt i,.none,old],slots:=#[] }
section
variable  {prog:FW}{w:G0}{A:Around}{E:Value->Fh->Prop}{s:Fh}
theorem jo {e it l T:Fi}{b:Bool}{i:Nat}{items:Array Value}{x old:Value}{oT:Obj}{Q:Value->Fh->Prop}
  (he:fe s.heap e it i T b old) (hT:s.heap.get? T=some oT) (hTe:T≠e) (hTi:T≠it) (hit:s.heap.IsListIter it l i) (hl:s.heap.IsList l items) (hx:items[i]? = some x) (hne:e≠it)
  (hQ:∀h',fe h' e it ((i:Int)+1) T true old->h'.IsListIter it l (i+1) ->
   h'.get? s.heap.objs.size=some { cls:=.type "tuple",data:=.seq #[.int i s.toks,x] }->h'.objs.size=s.heap.objs.size+1 ->
   (∀b o,b≠e->b≠it->s.heap.get? b=some o->h'.get? b=some o)->Q (.ref s.heap.objs.size) { s with heap:=h',toks:=s.toks+1 }) :
  FV (Gj prog w) A (Builtin.«enumerate.__next__» ⟨[.ref e],[]⟩) (λfin s'=>∃v,fin=.done (.ret v)/\Q v s') E s:=by
 obtain⟨hp,g,d,tk,os⟩:=s
 show FV _ _ (field (.ref e) 2 >>= _) _ _ _
 refine Fg (wpAny_field he rfl (x:=.ref it) rfl ?_)
 refine Fg (wpAny_nextOf_list_item hit hl hx λh₁ hit₁ hs₁=>?_)
 replace hs₁:Heap.SameBut it hp h₁:=hs₁
 have he₁:fe h₁ e it i T b old:=(hs₁.2 e hne).trans he
 show FV _ _ (field (.ref e) 3 >>= _) _ _ ⟨h₁,g,d,tk,os⟩
 refine Fg (wpAny_field he₁ rfl (x:=rawInt i) rfl ?_)
 show FV _ _ (field (.ref e) 4 >>= _) _ _ ⟨h₁,g,d,tk,os⟩
 refine Fg (wpAny_field he₁ rfl (x:=.none) rfl ?_)
 show FV _ _ (mkInt i >>= _) _ _ ⟨h₁,g,d,tk,os⟩
 refine Fg (wpAny_mkInt ?_)
 show FV _ _ (setField (.ref e) 3 (rawInt ((i:Int)+1)) >>= _) _ _ ⟨h₁,g,d,tk+1,os⟩
 refine Fg (wpAny_setField_rec he₁ (by simp) λh₂ he₂ hs₂=>?_)
 replace hs₂:Heap.SameBut e h₁ h₂:=hs₂
 replace he₂:fe h₂ e it ((i:Int)+1) T b old:=he₂
 show FV _ _ (setField (.ref e) 4 .none >>= _) _ _ ⟨h₂,g,d,tk+1,os⟩
 refine Fg (wpAny_setField_rec he₂ (by simp) λh₃ he₃ hs₃=>?_)
 replace hs₃:Heap.SameBut e h₂ h₃:=hs₃
 replace he₃:fe h₃ e it ((i:Int)+1) T b old:=he₃
 show FV _ _ (newTuple [.int i tk,x] >>= _) _ _ ⟨h₃,g,d,tk+1,os⟩
 refine Fg (wpAny_newTuple ?_)
 have he₄:fe (h₃.push { cls:=.type "tuple",data:=.seq #[.int i tk,x] }) e it ((i:Int)+1) T b old:=Ft _ he₃
 generalize hh₄:h₃.push { cls:=.type "tuple",data:=.seq #[.int i tk,x] }=h₄ at he₄
 have hsz:h₃.objs.size=hp.objs.size:=by rw[hs₃.1,hs₂.1,hs₁.1]
 have hel:e<hp.objs.size:=Fv he
 have ht₄:h₄.get? hp.objs.size=some { cls:=.type "tuple",data:=.seq #[.int i tk,x] }:=by rw[<-hh₄,<-hsz];exact FK _ rfl
 have hz₄:h₄.objs.size=hp.objs.size+1:=by rw[<-hh₄,GM,hsz]
 have hk₄:∀b o,b≠e->b≠it->hp.get? b=some o->h₄.get? b=some o:=λb o hbe hbi hb=>by
  rw[<-hh₄];exact Ft _ (hs₃.extBut b o hbe (hs₂.extBut b o hbe (hs₁.extBut b o hbi hb)))
 have hT₄:h₄.get? T=some oT:=hk₄ T oT hTe hTi hT
 have hit₄:h₄.IsListIter it l (i+1):=by
  rw[<-hh₄];obtain⟨o,ho,r⟩:=(hit₁.extBut hs₂.extBut (FQ hne)).extBut hs₃.extBut (FQ hne);exact⟨o,Ft _ ho,r⟩
 show FV _ _ (Jm (.ref e) >>= _) _ _ ⟨h₄,g,d,tk+1,os⟩
 rw[hsz]
 clear hh₄ he₃ hs₃ he₂ hs₂ he₁ hs₁ hit₁ hsz h₃ h₂ h₁
 refine Fg ?_
 unfold Jm
 refine Fg (wpAny_field he₄ rfl (x:=rawInt ((T:Nat):Int)) rfl ?_)
 show FV _ _ (loadIfAlive ((T:Nat):Int).toNat >>= _) _ _ ⟨h₄,g,d,tk+1,os⟩
 rw[GG]
 refine Fg (jP ?_)
 show FV _ _ (if (Option.isNone (h₄.get? T))=true then _ else _) _ _ ⟨h₄,g,d,tk+1,os⟩
 rw[hT₄,Fl (show ¬(Option.isNone (some oT))=true from Fy)]
 have fin:∀h₅,fe h₅ e it ((i:Int)+1) T true old->(∀b o,b≠e->h₄.get? b=some o->h₅.get? b=some o)->h₅.objs.size=h₄.objs.size ->
   ∃v,Fin.done (Flow.ret (Gd hp.objs.size))=Fin.done (Flow.ret v)/\Q v ⟨h₅,g,d,tk+1,os⟩:=λh₅ he₅ k5 z5=>by
  refine⟨_,rfl,hQ h₅ he₅ ?_ (k5 _ _ (Hu hel) ht₄) (by rw[z5,hz₄]) λb o hbe hbi hb=>k5 b o hbe (hk₄ b o hbe hbi hb)⟩
  obtain⟨o,ho,r⟩:=hit₄
  exact⟨o,k5 it o (FQ hne) ho,r⟩
 refine Fg (wpAny_field he₄ rfl (x:=.bool b) rfl ?_)
 cases b with
 |true =>
  show FV _ _ (pure false) _ _ ⟨h₄,g,d,tk+1,os⟩
  refine FD ?_
  show FV _ _ (pure (Fin.done (Flow.ret (Gd hp.objs.size)))) _ _ ⟨h₄,g,d,tk+1,os⟩
  exact FD (fin h₄ he₄ (λ_ _ _ q=>q) rfl)
 |false =>
  show FV _ _ (setField (.ref e) 1 (.bool true) >>= λ_=>pure false) _ _ ⟨h₄,g,d,tk+1,os⟩
  refine Fg (wpAny_setField_rec he₄ (by simp) λh₅ he₅ hs₅=>?_)
  replace hs₅:Heap.SameBut e h₄ h₅:=hs₅
  replace he₅:fe h₅ e it ((i:Int)+1) T true old:=he₅
  refine FD ?_
  show FV _ _ (pure (Fin.done (Flow.ret (Gd hp.objs.size)))) _ _ ⟨h₅,g,d,tk+1,os⟩
  exact FD (fin h₅ he₅ (λb o hb q=>hs₅.extBut b o hb q) hs₅.1)
end
theorem rZ:typeLookup (.type "enumerate") "__len__"=pure none:=by rw[typeLookup_type,builtinLookup_eq_fast];kernel_rfl
theorem pU:typeLookup (.type "enumerate") "__length_hint__"=pure none:=by rw[typeLookup_type,builtinLookup_eq_fast];kernel_rfl
theorem mX:HL "list"=some (.type "list"):=by decide +kernel
def zn (h:Heap)(e it S:Fi)(i:Nat):Prop:=(i=0/\∃old,IsEnum h e it 0 old)\/∃T b old,fe h e it i T b old/\(∃o,h.get? T=some o)/\T≠e/\T≠it/\T≠S
def Prs (h:Heap)(items:Array Value)(B e it S:Fi)(ts:List Fi):Prop:=∀(j:Nat) (t:Fi),ts[j]? = some t->B<=t/\t≠e/\t≠it/\t≠S/\∃tok x,items[j]? = some x/\h.get? t=some { cls:=.type "tuple",data:=.seq #[.int j tok,x] }
section
variable  {prog:FW}{w:G0}{A:Around}{E:Value->Fh->Prop}{s:Fh}
theorem vB {e it l S:Fi}{i:Nat}{items:Array Value}{x:Value}{Q:Option Value->Fh->Prop}
  (he:zn s.heap e it S i) (hit:s.heap.IsListIter it l i) (hl:s.heap.IsList l items) (hx:items[i]? = some x) (hne:e≠it) (hS:S<s.heap.objs.size)
  (hQ:∀h',zn h' e it S (i+1)->h'.IsListIter it l (i+1) ->
   h'.get? s.heap.objs.size=some { cls:=.type "tuple",data:=.seq #[.int i s.toks,x] }->h'.objs.size=s.heap.objs.size+1 ->
   (∀b o,b≠e->b≠it->s.heap.get? b=some o->h'.get? b=some o)->Q (some (.ref s.heap.objs.size)) { s with heap:=h',toks:=s.toks+1 }) :
  FV (Gj prog w) A (pyNext (.ref e)) Q E s:=by
 rcases he with⟨rfl,old,he⟩|⟨T,b,old,he,⟨o,hT⟩,hTe,hTi,hTS⟩
 ·have hel:e<s.heap.objs.size:=Fv he
  have hil:it<s.heap.objs.size:=by obtain⟨_,q,_⟩:=hit;exact Fv q
  refine wpAny_pyNext_enum_item he hit hl hx hne λh' ho hit' hT hsz hk=>hQ h' (GA ⟨s.heap.objs.size,false,x,?_,⟨_,hT⟩,Hu hel,Hu hil,Hu hS⟩) hit' hT hsz hk
  exact ho
 ·have hT':s.TypeIs (.ref e) "enumerate":=⟨_,he,rfl⟩
  unfold pyNext
  refine Fg (wpAny_attempt (Iz (name:=Str.ofString "__next__") hT' IS
   (IB IS hT' F.entry_enumerate_next
    (jo he hT hTe hTi hit hl hx hne λh' a b c d k=>FD (hQ h' (GA ⟨T,true,old,?_,⟨o,k T o hTe hTi hT⟩,hTe,hTi,hTS⟩) b c d k)) (F.args_enumerate_next_1 _))))
  have e1:((i+1:Nat):Int)=(i:Int)+1:=by lia
  rw[e1];exact a
theorem qk {e it l S:Fi}{i:Nat}{items:Array Value}{Q:Option Value->Fh->Prop}(hh:A.handled=none)
  (he:zn s.heap e it S i) (hit:s.heap.IsListIter it l i) (hl:s.heap.IsList l items) (hx:items[i]? = none)
  (hQ:∀h',Heap.ExtBut it s.heap h'->Q none { s with heap:=h' }):FV (Gj prog w) A (pyNext (.ref e)) Q E s:=by
 have go:∀(f0 f1 fi fx:Value),s.heap.get? e=some { cls:=.type "enumerate",dict:=none,data:=.fields #[f0,f1,.ref it,fi,.none,fx],slots:=#[] }->FV (Gj prog w) A (pyNext (.ref e)) Q E s:=λf0 f1 fi fx he=>by
  have hT:s.TypeIs (.ref e) "enumerate":=⟨_,he,rfl⟩
  unfold pyNext
  refine Fg (wpAny_attempt (Iz (name:=Str.ofString "__next__") hT IS
   (IB IS hT F.entry_enumerate_next ?_ (F.args_enumerate_next_1 _))))
  show FV _ _ (field (.ref e) 2 >>= _) _ _ _
  refine Fg (wpAny_field he rfl (x:=.ref it) rfl ?_)
  refine Fg (wpAny_nextOf_list_end hh hit hl hx λh' x he' hx'=>?_)
  obtain⟨o,ho,hc⟩:=hx'
  refine Fg (wpAny_isInstance (T:="StopIteration") (b:=true) ⟨o,ho,hc⟩ isSubtype_stop ?_)
  exact FD (hQ _ he')
 rcases he with⟨_,old,he⟩|⟨T,b,old,he,_⟩
 ·exact go _ _ _ _ he
 ·exact go _ _ _ _ he
theorem vf {e it l S B:Fi}{items:Array Value}{R:Result->Fh->Prop}(hh:A.handled=none)(hei:e≠it)(hle:l≠e)(hli:l≠it)(hlS:l≠S)(heS:e≠S)(hiS:it≠S)(hn:items.size<=Fk)(res:Value) :
  ∀(k i:Nat) (s:Fh) (ts:List Fi) (c:Nat),items.size-i=k->i<=items.size->B<=s.heap.objs.size->zn s.heap e it S i->s.heap.IsListIter it l i->s.heap.IsList l items ->
   s.heap.get? S=some { cls:=.type "list",dict:=none,data:=.seq (ts.map Gd).toArray c,slots:=#[] }->ts.length=i->Prs s.heap items B e it S ts ->
   (∀h' tk ts' c',(∀b o,b≠e->b≠it->b≠S->s.heap.get? b=some o->h'.get? b=some o)->h'.get? S=some { cls:=.type "list",dict:=none,data:=.seq (ts'.map Gd).toArray c',slots:=#[] } ->
    ts'.length=items.size->Prs h' items B e it S ts'->R (.ok (.ret res)) { s with heap:=h',toks:=tk }) ->
  codeAny (Gj prog w) A (.builtin "list.extend.loop" ⟨[.ref S,.ref e,res],[]⟩) R s:=by
 intro k
 induction k with
 |zero =>
  intro i s ts c hk hi hB hst hit hl hS hlen hprs hR
  have hin:i=items.size:=by lia
  subst hin
  refine codeAny_builtin F.entry_extend_loop ?_
  rw[Around.under_plainId Jn _]
  show FV _ A.in1 (pyNext (.ref e) >>= _) _ _ s
  refine Fg (qk (A:=A.in1) hh hst hit hl (Array.getElem?_eq_none (nlr _)) λh' hx=>?_)
  refine FD (hR h' s.toks ts c (λb o hbe hbi hbS q=>hx b o hbi q) (hx S _ (FQ hiS) hS) hlen λj t ht=>?_)
  obtain⟨p1,p2,p3,p4,tok,x,p5,p6⟩:=hprs j t ht
  exact⟨p1,p2,p3,p4,tok,x,p5,hx t _ p3 p6⟩
 |succ k ih =>
  intro i s ts c hk hi hB hst hit hl hS hlen hprs hR
  have hlt:i<items.size:=by lia
  refine codeAny_builtin F.entry_extend_loop ?_
  rw[Around.under_plainId Jn _]
  show FV _ A.in1 (pyNext (.ref e) >>= _) _ _ s
  have hSl:S<s.heap.objs.size:=Fv hS
  have hx:items[i]? = some items[i]:=Jf hlt
  refine Fg (vB hst hit hl hx hei hSl λh' hst' hit' hT hsz hkp=>?_)
  have hS':=hkp S _ (FQ heS) (FQ hiS) hS
  have hel:e<s.heap.objs.size:=by
   rcases hst with⟨_,_,q⟩|⟨_,_,_,q,_⟩
   ·exact Fv q
   ·exact Fv q
  have hil:it<s.heap.objs.size:=by obtain⟨_,q,_⟩:=hit;exact Fv q
  show FV _ A.in1 (updateSeq S (·.push (.ref s.heap.objs.size)) >>= _) _ _ _
  refine Fg ?_
  have upS:∀b o,b≠S->h'.get? b=some o->(h'.update S (Hz (·.push (Gd s.heap.objs.size)))).get? b=some o:=λb o hb q=>(Hq _ _ (FQ hb)).trans q
  refine wpAny_updateSeq hS' rfl (FD ⟨plainId_quiet Jn _,ih (i+1) _ (ts++[s.heap.objs.size]) (c+1) (by lia) hlt ?_ ?_ ?_ ?_ ?_ (by rw[Fm,hlen];rfl) ?_ ?_⟩) ?_ ?_
  ·show B<=(h'.update S _).objs.size
   rw[Heap.size_update,hsz];exact Gb hB (Nat.le_succ _)
  ·rcases hst' with⟨q,_⟩|⟨T,b,old,h1,⟨o,h2⟩,h3,h4,h5⟩
   ·lia
   ·exact GA ⟨T,b,old,upS e _ heS h1,⟨o,upS T o h5 h2⟩,h3,h4,h5⟩
  ·obtain⟨o,ho,r⟩:=hit'
   exact⟨o,upS it o hiS ho,r⟩
  ·obtain⟨o,ho,r⟩:=hl
   exact⟨o,upS l o hlS (hkp l o hle hli ho),r⟩
  ·have q:=Hv (Hz (·.push (Gd s.heap.objs.size))) hS' rfl
   show(h'.update S _).get? S=_
   rw[q]
   simp[Hz]
  ·intro j t ht
   by_cases hj:j<ts.length
   ·rw[FL hj]at ht
    obtain⟨p1,p2,p3,p4,tok,x,p5,p6⟩:=hprs j t ht
    exact⟨p1,p2,p3,p4,tok,x,p5,upS t _ p4 (hkp t _ p2 p3 p6)⟩
   ·have hjl:j=ts.length:=by
     have:=(gsi ht).1
     rw[Fm]at this
     simp at this
     lia
    subst hjl
    rw[FE (nlr _),GX]at ht
    have ht:s.heap.objs.size=t:=osi ht
    subst ht
    refine⟨hB,Hu hel,Hu hil,Hu hSl,s.toks,items[i],by rw[hlen];exact hx,?_⟩
    rw[hlen]
    exact upS _ _ (Hu hSl) hT
  ·intro h'' tk ts' c' hk2 hS2 hl2 hp2
   refine hR h'' tk ts' c' (λb o hbe hbi hbS q=>hk2 b o hbe hbi hbS (upS b o hbS (hkp b o hbe hbi q))) hS2 hl2 hp2
  ·have:(ts.map Gd).toArray.size=i:=by simp[hlen]
   rw[this];lia
  ·show((ts.map Gd).toArray.push (Gd s.heap.objs.size)).size<=Fk+1
   rw[Array.size_push]
   have:(ts.map Gd).toArray.size=i:=by simp[hlen]
   rw[this];lia
theorem qZ {e it l S:Fi}{items:Array Value}{R:Result->Fh->Prop}(hh:A.handled=none)(hei:e≠it)(hle:l≠e)(hli:l≠it)(hlS:l≠S)(heS:e≠S)(hiS:it≠S)(hn:items.size<=Fk)(res:Value)(c₀:Nat)
  {old:Value} (he:IsEnum s.heap e it 0 old) (hit:s.heap.IsListIter it l 0) (hl:s.heap.IsList l items) (hS:s.heap.get? S=some { cls:=.type "list",data:=.seq #[] c₀ })
  (hR:∀h' tk ts' c',(∀b o,b≠e->b≠it->b≠S->s.heap.get? b=some o->h'.get? b=some o)->h'.get? S=some { cls:=.type "list",dict:=none,data:=.seq (ts'.map Gd).toArray c',slots:=#[] } ->
    ts'.length=items.size->Prs h' items s.heap.objs.size e it S ts'->R (.ok (.ret res)) { s with heap:=h',toks:=tk }) :
  FV (Gj prog w) A.in1 (HW (.ref S) (.ref e) res)
   (λfin s'=>match fin with|.done f=>R (.ok f) s'|.again c'=>c'.quiet=true/\codeAny (Gj prog w) A c' R s') (λe s'=>R (.error e) s') s:=by
 have hT:s.TypeIs (.ref e) "enumerate":=⟨_,he,rfl⟩
 unfold HW
 refine Fg (wpAny_typeOf hT ?_)
 have h1:Builtin.List.listSameRef (.ref S) (.ref e)=false:=by simp[Builtin.List.listSameRef,FQ heS]
 have h2:(Value.type "enumerate"==Value.type "list")=false:=by decide
 have h3:(Value.type "enumerate"==Value.type "tuple")=false:=by decide
 simp only[h1,h2,h3,Bool.or_false,Bool.false_eq_true,I0]
 refine Fg (wpAny_pyIter_enum he ?_)
 refine Fg (wpAny_holding ?_)
 unfold Builtin.List.listLengthHint
 refine Fg (wpAny_specialOf hT rZ ?_)
 show FV _ A.in1 (specialOf (Gd e) (Str.ofString "__length_hint__") >>= _) _ _ _
 refine Fg (wpAny_specialOf hT pU ?_)
 refine FD ?_
 show FV _ A.in1 (rule "list.extend.makes-room" >>= λ_=>Builtin.List.listTouch (.ref S) >>= λ_ =>
  again (.builtin "list.extend.loop" ⟨[.ref S,.ref e,res],[]⟩)) _ _ _
 refine Fg (wpAny_rule ?_)
 refine Fg ?_
 show FV _ A.in1 (updateSeq S (·.push .none) >>= λ_=>updateSeq S (·.pop)) _ _ _
 refine Fg (wpAny_updateSeq hS rfl ?_)
 have hS₂:=Hv (Hz (·.push IX)) hS rfl
 refine wpAny_updateSeq (hz:=by seq_fits) hS₂ rfl ?_
 have hS₃:=Hv (Hz (·.pop)) hS₂ rfl
 have oth:∀b o,b≠S->s.heap.get? b=some o->((s.heap.update S (Hz (·.push IX))).update S (Hz (·.pop))).get? b=some o :=
  λb o hb e=>(Hq _ _ (FQ hb)).trans ((Hq _ _ (FQ hb)).trans e)
 refine FD ⟨plainId_quiet Jn _,vf (B:=s.heap.objs.size) hh hei hle hli hlS heS hiS hn res items.size 0 _ [] (c₀+1+1) (by lia) (Gw _) ?_ (G3 ⟨rfl,old,oth e _ heS he⟩) ?_ ?_ ?_ rfl ?_ ?_⟩
 ·show s.heap.objs.size<=((s.heap.update S _).update S _).objs.size
  rw[Heap.size_update,Heap.size_update]
  exact nlr _
 ·obtain⟨o,ho,r⟩:=hit
  exact⟨o,oth it o hiS ho,r⟩
 ·obtain⟨o,ho,r⟩:=hl
  exact⟨o,oth l o hlS ho,r⟩
 ·rw[hS₃]
  simp[Hz]
 ·intro j t ht
  simp at ht
 ·intro h' tk ts' c' hk hS' hlen hprs
  exact hR h' tk ts' c' (λb o hbe hbi hbS q=>hk b o hbe hbi hbS (oth b o hbS q)) hS' hlen hprs
theorem mH {e it l:Fi}{items:Array Value}{old:Value}{Q:Value->Fh->Prop}(hh:A.handled=none)(hei:e≠it)(hle:l≠e)(hli:l≠it)(hn:items.size<=Fk)
  (he:IsEnum s.heap e it 0 old) (hit:s.heap.IsListIter it l 0) (hl:s.heap.IsList l items)
  (hQ:∀h' tk ts c',(∀b o,b≠e->b≠it->s.heap.get? b=some o->h'.get? b=some o)->h'.get? s.heap.objs.size=some { cls:=.type "list",dict:=none,data:=.seq (ts.map Gd).toArray c',slots:=#[] } ->
   ts.length=items.size->Prs h' items s.heap.objs.size e it s.heap.objs.size ts->Q (.ref s.heap.objs.size) { s with heap:=h',toks:=tk }) :
  FV (Gj prog w) A (call (.type "list") [.ref e]) Q E s:=by
 refine callType_codes (Q₁:=λobj s₁=>obj=.ref s.heap.objs.size/\s₁={ s with heap:=s.heap.push { cls:=.type "list",data:=.seq #[] } }) F.called_list (F.typeCall_list_1 _) F.entry_list_init
  (code_list_new _ ⟨rfl,rfl⟩) λobj s₁ h₁=>?_
 obtain⟨rfl,rfl⟩:=h₁
 have hS:(s.heap.push { cls:=.type "list",data:=.seq #[] }).get? s.heap.objs.size=some { cls:=.type "list",data:=.seq #[] }:=FK _ rfl
 refine⟨⟨_,hS,rfl⟩,F.args_list_init_2 _ _,?_⟩
 have hel:e<s.heap.objs.size:=Fv he
 have hil:it<s.heap.objs.size:=by obtain⟨_,q,_⟩:=hit;exact Fv q
 have hll:l<s.heap.objs.size:=by obtain⟨_,q,_⟩:=hl;exact Fv q
 show FV _ A.in1.in1 (do let old <-Builtin.List.listItems (.ref s.heap.objs.size);Builtin.List.listUpdate (.ref s.heap.objs.size) (λ_=>#[]);letGo old.toList.reverse;HW (.ref s.heap.objs.size) (.ref e) .none) _ _ _
 refine Fg ?_
 unfold Builtin.List.listItems
 refine Fg (wpAny_seqItems hS rfl (FD ?_))
 show FV _ _ (updateSeq s.heap.objs.size (λ_=>#[]) >>= λ_=>letGo (#[]:Array Value).toList.reverse >>= λ_=>HW (.ref s.heap.objs.size) (.ref e) .none) _ _ _
 refine Fg (wpAny_updateSeq hS rfl ?_)
 have hS₂:=Hv (Hz (λ_=>(#[]:Array Value))) hS rfl
 have oth:∀b o,s.heap.get? b=some o->((s.heap.push { cls:=.type "list",data:=.seq #[] }).update s.heap.objs.size (Hz (λ_=>(#[]:Array Value)))).get? b=some o :=
  λb o q=>(Hq _ _ (Hu (Fv q))).trans (Ft _ q)
 refine Fg (wpAny_letGo ?_)
 refine qZ (A:=A.in1) (old:=old) hh hei hle hli (Ga hll) (Ga hel) (Ga hil) hn .none _ (oth e _ he) ?_ ?_ hS₂ λh' tk ts c' hk hS' hlen hprs=>?_
 ·obtain⟨o,ho,r⟩:=hit
  exact⟨o,oth it o ho,r⟩
 ·obtain⟨o,ho,r⟩:=hl
  exact⟨o,oth l o ho,r⟩
 ·refine⟨rfl,hQ h' tk ts c' (λb o hbe hbi q=>hk b o hbe hbi (Ga (Fv q)) (oth b o q)) hS' hlen λj t ht=>?_⟩
  obtain⟨p1,p2,p3,p4,r⟩:=hprs j t ht
  refine⟨Gb ?_ p1,p2,p3,p4,r⟩
  show s.heap.objs.size<=((s.heap.push _).update _ _).objs.size
  rw[Heap.size_update,GM]
  exact Nat.le_succ _
end
section
variable  {X:Cx}{pins:List (Fi×Obj)}{σ:L2.St}{H H':Hp}{s:Fh}{h':Heap}
theorem xr {t':Nat}(I:L2.Inv X pins σ H s)(k:∀b u,s.heap.get? b=some u->h'.get? b=some u)(sm:al H H')(fr:∀b o,H' b=some o->H b=some o\/(s.heap.objs.size<=b/\b6 X.prog X.w H' h' b o)) :
  L2.Inv X pins σ H' { s with heap:=h',toks:=t' }:=by
 refine I.un ⟨λb o q _ _ _=>k b o q,λb o q _ _ _=>⟨o.slots,k b o q⟩,λb o q n _=>?_,λb o q _=>⟨o,k b o q⟩,λb xs q=>sm b _ q,λb o u q=>sm b _ q,λb ps q=>⟨#[],by rw[sm b _ q];simp⟩⟩ ?_
 ·cases e:H' b with
  |none=>rfl
  |some u =>
   rcases fr b u e with q1|⟨q1,_⟩
   ·rw[n]at q1;cases q1
   ·exact absurd (FF (Fv q) q1) (Hj _)
 ·intro b o e
  rcases fr b o e with q|⟨_,q⟩
  ·exact(I.hok b o q).stay (λc u _ r=>k c u r) (λc r=>sm c _ r) λc xs r=>sm c _ r
  ·exact q
def tLE (K:GC)(ta:TA):TE:=λσ H Q=>ta σ H λvs H1=>∃(a:Fi) (xs:List V),vs=[.ref a]/\SqL K H1 a xs/\∀(H':Hp) (p:Fi) (ts:List Fi),al H1 H'->H' p=some (.lst (ts.map V.ref))->ts.length=xs.length ->
 (∀(i:Nat) (t:Fi) (x:V),ts[i]? = some t->xs[i]? = some x->H' t=some (.tup [.int (i:Nat),x]))->Q (.ref p) H'
theorem kU:∀ts:List Fi,aR (ts.map V.ref) (ts.map Gd)
 |[]=>.nil
 |t :: ts=>.cons rfl (kU ts)
theorem si {e:Expr}{ta:TA}{p p2 pos pos2:Pos}(hc:X.calm=true) (hg:Gl X "list") (hm:X.mg "list"=none) (hg2:Gl X "enumerate") (hm2:X.mg "enumerate"=none) (ha:PA X [e] ta)
  (hs:FU [e] X.env=[(false,Jd e X.env)]:=by rfl)
  (hs2:FU [.Call (.Name "enumerate" p2) [e] [] pos2] X.env=[(false,Jd (.Call (.Name "enumerate" p2) [e] [] pos2) X.env)]:=by rfl) :
  PE X (.Call (.Name "list" p) [.Call (.Name "enumerate" p2) [e] [] pos2] [] pos) (tLE X.K ta):=by
 intro pins s σ H Q I h
 refine IK (gp I hg hm mX ?_)
 refine Gm ?_ hs2 rfl
 rw[hs2]
 show FV _ _ (spliced ((false,Jd (.Call (.Name "enumerate" p2) [e] [] pos2) X.env) :: [])) _ _ s
 refine Calls.spliced_cons ?_
 refine Call_ (gp I hg2 hm2 boot_enumerate (Gm (thn (ha pos2 pins s σ H _ I h) λus s1 ⟨vs,H1,I1,r1,q1⟩=>?_) hs rfl))
 obtain⟨a,xs,ex,hq,q⟩:=q1
 subst ex
 cases r1 with
 |cons r rr =>
  cases rr
  cases r
  obtain⟨its,rv,p',hz⟩:=I1.list hq
  have hla:a<s1.heap.objs.size:=p'.lt
  refine call_enumerate_list p'.isList λh1 he hit hsz hk=>Calls.spliced_nil ?_
  have hlen:=rv.length
  refine mH (items:=its.toArray) (I.ok.hd hc) (Nat.succ_ne_self _) (Ga (Ja hla)) (Ga hla) (by simp only[Fu];lia) he hit (p'.isList.at λo z=>hk a o z) λh2 tk ts c' hk2 hS hl2 hprs=>?_
  have hsz2:s1.heap.objs.size+2=h1.objs.size:=hsz.symm
  let S:=h1.objs.size
  have inj:∀(i j:Nat) (t:Fi),ts[i]? = some t->ts[j]? = some t->i=j:=λi j t e1 e2=>by
   obtain⟨_,_,_,_,tok1,x1,_,g1⟩:=hprs i t e1
   obtain⟨_,_,_,_,tok2,x2,_,g2⟩:=hprs j t e2
   rw[g1]at g2
   have:=G5 (λo:Option Obj=>o.map (·.data)) g2
   simp only[Option.map_some]at this
   injection this with this
   injection this with this
   have:=G5 (λa:Array Value=>a.toList.head?) this
   simp only[List.head?]at this
   injection this with this
   injection this with this
   lia
  have hidx:∀(i:Nat) (t:Fi),ts[i]? = some t->ts.idxOf t=i:=λi t e1=>by
   have hm:t∈ts:=Gg e1
   exact inj _ _ t (by rw[gge (HS hm),List.getElem_idxOf]) e1
  let H2:Hp:=λb=>if b=h1.objs.size then some (.lst (ts.map V.ref)) else if b∈ts then some (.tup [.int ((ts.idxOf b:Nat):Int),xs.getD (ts.idxOf b) .non]) else H1 b
  have old:∀b o,s1.heap.get? b=some o->b≠s1.heap.objs.size+1/\b≠s1.heap.objs.size/\b≠h1.objs.size/\b∉ts:=λb o z=>by
   have hb:=Fv z
   refine⟨Ga (Ja hb),Ga hb,Ga (FF hb (by rw[<-hsz2];exact GY _ _)),λhm=>?_⟩
   obtain⟨i,hi⟩:=Ig.mp hm
   have:=(hprs i b hi).1
   rw[<-hsz2]at this
   exact absurd (FF hb (Gb (GY _ 2) this)) (Hj _)
  have kk:∀b o,s1.heap.get? b=some o->h2.get? b=some o:=λb o z=>by
   obtain⟨n1,n2,_,_⟩:=old b o z
   exact hk2 b o n1 n2 (hk b o z)
  have sm:al H1 H2:=λb o z=>by
   have hb:=I1.hok.lt z
   have n3:b≠h1.objs.size:=Ga (FF hb (by rw[<-hsz2];exact GY _ _))
   have n4:b∉ts:=λhm=>by
    obtain⟨i,hi⟩:=Ig.mp hm
    have:=(hprs i b hi).1
    rw[<-hsz2]at this
    exact absurd (FF hb (Gb (GY _ 2) this)) (Hj _)
   show(if b=h1.objs.size then _ else if b∈ts then _ else H1 b)=_
   rw[Fl n3,Fl n4]
   exact z
  have hts:ts.length=xs.length:=by
   rw[hl2,Fu,hlen]
  have I2:L2.Inv X pins σ H2 { s1 with heap:=h2,toks:=tk }:=by
   refine xr I1 kk sm λb o z=>?_
   by_cases c1:b=h1.objs.size
   ·right
    subst c1
    have z':some (HO.lst (ts.map V.ref))=some o:=by
     rw[<-z]
     show _=(if h1.objs.size=h1.objs.size then _ else _)
     rw[Fs rfl]
    have z':=osi z'
    subst z'
    refine⟨by rw[<-hsz2];exact GY _ _,?_⟩
    exact⟨by rw[lmp,hts];exact hz,_,c',kU ts,hS⟩
   ·by_cases c2:b∈ts
    ·right
     obtain⟨i,hi⟩:=Ig.mp c2
     obtain⟨p1,p2,p3,p4,tok,x',p5,p6⟩:=hprs i b hi
     have z':some (HO.tup [.int ((ts.idxOf b:Nat):Int),xs.getD (ts.idxOf b) .non])=some o:=by
      rw[<-z]
      show _=(if b=h1.objs.size then _ else if b∈ts then _ else H1 b)
      rw[Fl c1,Fs c2]
     have z':=osi z'
     subst z'
     rw[hidx i b hi]
     have hil:i<xs.length:=by rw[<-hts];exact(gsi hi).1
     have hxi:xs[i]? = some xs[i]:=gge hil
     obtain⟨u,hu,ru⟩:=rv.get hxi
     have hux:u=x':=by
      have:its[i]? = some x':=by simpa using p5
      exact osi (hu.symm.trans this)
     subst hux
     refine⟨Gb (by rw[<-hsz2];exact GY _ _) p1,by show 2<=Fk;decide,[.int i tok,u],.cons ⟨tok,rfl⟩ (.cons ?_ .nil),⟨_,p6,rfl,_,rfl⟩⟩
     rw[FG,hxi]
     exact ru
    ·left
     rw[<-z]
     show _=(if b=h1.objs.size then _ else if b∈ts then _ else H1 b)
     rw[Fl c1,Fl c2]
  refine⟨.ref h1.objs.size,H2,I2,rfl,q H2 h1.objs.size ts sm ?_ hts λi t x e1 e2=>?_⟩
  ·show(if h1.objs.size=h1.objs.size then _ else _)=_
   rw[Fs rfl]
  ·obtain⟨p1,p2,p3,p4,_⟩:=hprs i t e1
   show(if t=h1.objs.size then _ else if t∈ts then _ else H1 t)=_
   rw[Fl p4,Fs (Gg e1),hidx i t e1,FG,e2]
   rfl
end
end Wx
end
section
namespace Wg
open PySem PySem.Spec PyProof.Rows L2
theorem zE {K:GC}{a:Fi}{xs:List V}{g:TG}{tb:TS}{D:oa}{σ:L2.St}{H:Hp}(Pv:Nat->L2.St->Hp->Prop)(h0:Pv 0 σ H)(hl:∀i σ H,i<=xs.length->Pv i σ H->SqL K H a xs)
  (hs:∀i x σ H,i<xs.length->xs[xs.length-1-i]? = some x->Pv i σ H->g x σ H λσ2 H2=>tb { D with nx:=Pv (i+1),ct:=Pv (i+1),bk:=D.nx } σ2 H2) (hd:∀σ H,Pv xs.length σ H->D.nx σ H) :
  ∃W:Nat->Nat->L2.St->Hp->Prop,(∃m,W 0 m σ H)/\∀i m σ H,W i m σ H ->
   ((Itv K a xs.length).stop i H/\D.nx σ H)\/((Itv K a xs.length).go i H/\∃N:L2.St->Hp->Prop,(∀σ' H',N σ' H'->∃m',m'<m/\W (i+1) m' σ' H')/\∀x H',(Itv K a xs.length).yld i H x H'->g x σ H' λσ2 H2=>tb { D with nx:=N,ct:=N,bk:=D.nx } σ2 H2):=by
 refine⟨λi m σ H=>m=xs.length-i/\i<=xs.length/\Pv i σ H,⟨xs.length,by simp,Gw _,h0⟩,?_⟩
 rintro i m σ H ⟨rfl,hi,p⟩
 have q:=hl i σ H hi p
 by_cases hlt:i<xs.length
 ·refine .inr ⟨⟨hlt,xs,xs[xs.length-1-i],q,by simp⟩,Pv (i+1),λσ' H' p'=>⟨xs.length-(i+1),by lia,rfl,hlt,p'⟩,λx H' y=>?_⟩
  obtain⟨e,y⟩:=y
  subst e
  exact hs i x σ _ hlt (y xs q) p
 ·have e:i=xs.length:=by lia
  subst e
  exact .inl ⟨nlr _,hd σ H p⟩
theorem kS {lo c:Int}{n:Nat}{g:TG}{tt:TT}{te:TE}{vs:List Nat}{σ:L2.St}{H1:Hp}{D:Fi}{Qd:Hp->Prop}(Pv:Nat->Hp->Prop)(h0:Pv 0 (upd H1 D (.lst [])))
  (hs:∀i H,i<n->Pv i H->g (.int (lo+(i:Nat)*c)) (bV σ vs) H λσ2 H2=>bV σ2 vs=bV σ vs/\tt σ2 H2 λb H3 =>
   if b=true then te σ2 H3 λy H4=>∃acc,H4 D=some (.lst acc)/\acc.length<Fk/\Pv (i+1) (upd H4 D (.lst (acc++[y]))) else Pv (i+1) H3) (hd:∀H,Pv n H->Qd H) :
  ∃W:Nat->Nat->Hp->Prop,(∃m,W 0 m (upd H1 D (.lst [])))/\∀i m H,W i m H ->
   ((Itc lo c n).stop i H/\Qd H)\/((Itc lo c n).go i H/\∃Nx:Hp->Prop,(∀H',Nx H'->∃m',m'<m/\W (i+1) m' H')/\∀x H',(Itc lo c n).yld i H x H'->g x (bV σ vs) H' λσ2 H2=>bV σ2 vs=bV σ vs/\tt σ2 H2 λb H3 =>
    if b=true then te σ2 H3 λy H4=>∃acc,H4 D=some (.lst acc)/\acc.length<Fk/\Nx (upd H4 D (.lst (acc++[y]))) else Nx H3):=by
 refine⟨λi m H=>m=n-i/\i<=n/\Pv i H,⟨n,by simp,Gw _,h0⟩,?_⟩
 rintro i m H ⟨rfl,hi,p⟩
 by_cases hlt:i<n
 ·refine .inr ⟨hlt,Pv (i+1),λH' p'=>⟨n-(i+1),by lia,rfl,hlt,p'⟩,λx H' y=>?_⟩
  obtain⟨e,y⟩:=y
  subst e y
  exact hs i _ hlt p
 ·have e:i=n:=by lia
  subst e
  exact .inl ⟨nlr _,hd H p⟩
def TL (H:Hp)(p:Fi)(rows:List (List Int)):Prop:=∃as:List Fi,H p=some (.lst (as.map V.ref))/\as.length=rows.length/\∀(i:Nat) (a:Fi) (r:List Int),as[i]? = some a->rows[i]? = some r->H a=some (.tup (iV r))
theorem TL.same {H H':Hp}{p:Fi}{rows:List (List Int)}(h:TL H p rows)(s:al H H'):TL H' p rows:=by
 obtain⟨as,h1,h2,h3⟩:=h
 exact⟨as,s _ _ h1,h2,λi a r e1 e2=>s _ _ (h3 i a r e1 e2)⟩
theorem cg {as:List Fi}{i:Nat}{v:V}(h:(as.map V.ref)[i]? = some v):∃a,as[i]? = some a/\v=.ref a:=by
 rw[FA]at h
 cases e:as[i]? with
 |none=>rw[e]at h;cases h
 |some z=>rw[e]at h;exact⟨z,rfl,(osi h).symm⟩
theorem aN {as:List Fi}{i:Nat}{a:Fi}(h:as[i]? = some a):(as.map V.ref)[i]? = some (.ref a):=by
 rw[FA,h];rfl
def PvR (H0:Hp)(D:Fi)(rows:List (List Int))(i:Nat)(H:Hp):Prop:=∃as:List Fi,al H0 H/\H D=some (.lst (as.map V.ref))/\as.length=(rows.take i).length/\∀(j:Nat) (b:Fi) (x:List Int),as[j]? = some b->(rows.take i)[j]? = some x->b≠D/\H b=some (HO.tup (iV x))
theorem PvR.start {H0 H:Hp}{D:Fi}{rows:List (List Int)}(s:al H0 H)(hD:H D=none):PvR H0 D rows 0 (upd H D (.lst [])):=⟨[],aY s hD,ag,rfl,λj b x e=>by simp at e⟩
theorem PvR.same {H0 H:Hp}{D:Fi}{rows:List (List Int)}{i:Nat}(h:PvR H0 D rows i H):al H0 H:=by
 obtain⟨_,h1,_⟩:=h
 exact h1
theorem PvR.turn {H0 H H1:Hp}{D q:Fi}{rows:List (List Int)}{i:Nat}{r:List Int}(h:PvR H0 D rows i H)(hD0:H0 D=none)(hn:rows.length<=1000000)(hr:rows[i]? = some r)(s1:al H H1)(hq:H1 q=some (HO.tup (iV r)))(nq:q≠D) :
  ∃acc,H1 D=some (.lst acc)/\acc.length<Fk/\PvR H0 D rows (i+1) (upd H1 D (.lst (acc++[.ref q]))):=by
 obtain⟨as,hS,hD,hl,hat⟩:=h
 have hD1:=s1 _ _ hD
 have hl':as.length=i:=by
  have:=(gsi hr).1
  rw[hl,Gr]
  lia
 refine⟨as.map V.ref,hD1,?_,as++[q],aW (hS.trans s1) hD0,?_,?_,λj a x e1 e2=>?_⟩
 ·rw[lmp,hl,Gr]
  exact bn (by lia)
 ·rw[ag,FP]
  rfl
 ·rw[bW hr,Fm,Fm,hl]
  rfl
 ·rw[bW hr]at e2
  by_cases c:j<as.length
  ·rw[FL c]at e1
   rw[FL (by rw[<-hl];exact c)]at e2
   obtain⟨n1,n2⟩:=hat j a x e1 e2
   exact⟨n1,by rw[aq n1];exact s1 _ _ n2⟩
  ·have hi:=(gsi e1).1
   rw[Fm]at hi
   simp at hi
   have ei:j=as.length:=by lia
   subst ei
   rw[FE (nlr _),GX]at e1
   rw[hl,FE (nlr _),GX]at e2
   have e1:q=a:=osi e1
   have e2:r=x:=osi e2
   subst e1 e2
   exact⟨nq,by rw[aq nq];exact hq⟩
theorem PvR.done {H0 H:Hp}{D:Fi}{rows:List (List Int)}{n:Nat}(h:PvR H0 D rows n H)(hn:rows.length<=n):al H0 H/\TL H D rows:=by
 obtain⟨as,hS,hD,hl,hat⟩:=h
 rw[GP hn]at hl hat
 exact⟨hS,as,hD,hl,λi a r e1 e2=>(hat i a r e1 e2).2⟩
theorem cQ {f:Str}{v:V}:∀{fs:List (Str×V)} {n:Nat},fs.length<=n->(eT f v fs).length<=n+1
 |[],n,_=>Nat.succ_le_succ (Gw n)
 |(g,x) :: r,n,h=>by
  unfold eT
  by_cases c:g=f
  ·rw[Fs c]
   exact Gb h (Nat.le_succ _)
  ·rw[Fl c]
   cases n with
   |zero=>simp at h
   |succ n =>
    have:=cQ (f:=f) (v:=v) (fs:=r) (n:=n) (by simpa using h)
    simp only[FT]
    lia
def lQ (K:GC)(C:Fi)(m qual:Str)(st:Hy)(ps:List Str):Prop:=∃f fd,Fun K m qual st f fd/\(∀us:List Value,us.length=ps.length->bindArgs fd ⟨us,[]⟩=pure (ps.zip us))/\vS K C m f
def Cm (P:FW)(w:G0)(K:GC)(mg:Str->Option Value)(base:Heap)(k:Nat)(C:Fi)(m:Str)(ps:List Str)(sp:Sp):Prop :=
 ∃f fd,jq P w K mg base CX0 k f fd ps sp/\iU K fd ps []/\vS K C m f
section
variable  {P:FW}{w:G0}{K:GC}{mg:Str->Option Value}{base:Heap}
theorem lQ.cm {C:Fi}{m qual:Str}{st:Hy}{N ps:List Str}{k:Nat}{sp:Sp}(F:lQ K C m qual st ps)(S:ap N ps (ah st))(len:∀vs H Q E,sp vs H Q E->vs.length=ps.length)
  (hbody:∀(f:Fi) (cdv:Value) (A:Around) (outer:List Env) (s:Fh) (H:Hp) (vs:List V) (Q:VK) (E:XK),bf k (A.deeper (envOfC qual (ah st) s.heap.objs.size f cdv))->sp vs H Q E ->
   ∃t,PSs (qp CX0 P w K mg base N qual (ah st) f cdv A outer s H E).nox (bU st) t/\t { nx:=λ_ H'=>Q .non H',rt:=Q } (start N vs) H):Cm P w K mg base (k+1) C m ps sp:=by
 obtain⟨f,fd,h1,h2,h3⟩:=F
 exact⟨f,fd,h1.ok S len (hbody f),.all h2,h3⟩
def rO (K:GC)(C:Fi)(qual:Str)(st:Hy)(ps:List Str):Prop:=∃f fd,Fun K "__init__" qual st f fd/\(∀us:List Value,us.length=ps.length->bindArgs fd ⟨us,[]⟩=pure (ps.zip us))/\Mk K C f
def Ci (P:FW)(w:G0)(K:GC)(mg:Str->Option Value)(base:Heap)(k:Nat)(C:Fi)(ps:List Str)(sp:Sp):Prop :=
 ∃f fd,jq P w K mg base CX0 k f fd ps sp/\iU K fd ps []/\Mk K C f
theorem rO.ci {C:Fi}{qual:Str}{st:Hy}{N ps:List Str}{k:Nat}{sp:Sp}(F:rO K C qual st ps)(S:ap N ps (ah st))(len:∀vs H Q E,sp vs H Q E->vs.length=ps.length)
  (hbody:∀(f:Fi) (cdv:Value) (A:Around) (outer:List Env) (s:Fh) (H:Hp) (vs:List V) (Q:VK) (E:XK),bf k (A.deeper (envOfC qual (ah st) s.heap.objs.size f cdv))->sp vs H Q E ->
   ∃t,PSs (qp CX0 P w K mg base N qual (ah st) f cdv A outer s H E).nox (bU st) t/\t { nx:=λ_ H'=>Q .non H',rt:=Q } (start N vs) H):Ci P w K mg base (k+1) C ps sp:=by
 obtain⟨f,fd,h1,h2,h3⟩:=F
 exact⟨f,fd,h1.ok S len (hbody f),.all h2,h3⟩
theorem yD {C:Fi}{m qual:Str}{st:Hy}{ps:List Str}{f:Fi}{oc:Value}{od an:Option Fi}{osl:Array (Option Value)}{kV doc pm cdv ct:Value}
  (bind:∀(kV doc pm:Value) (an:Option Fi) (cdv ct:Value) (us:List Value),us.length=ps.length->bindArgs (HN m qual (cY st) (bU st) (ah st) .none kV doc pm an cdv ct) ⟨us,[]⟩=pure (ps.zip us))
  (a:Hh K (.ref C) m=some (some (.ref f))) (i:PySem.W.isFn K (.ref f)=true) (l:K.lookup f=some ⟨oc,od,.func (HN m qual (cY st) (bU st) (ah st) .none kV doc pm an cdv ct),osl⟩)
  (c:Je K cdv qual=true) (kp:Hr K (.ref f)=true):lQ K C m qual st ps :=
 ⟨f,_,sN (st:=st) l c kp,bind kV doc pm an cdv ct,⟨a,i,kp⟩⟩
theorem yE {C:Fi}{qual:Str}{st:Hy}{ps:List Str}{f:Fi}{oc:Value}{od an:Option Fi}{osl:Array (Option Value)}{kV doc pm cdv ct:Value}
  (bind:∀(kV doc pm:Value) (an:Option Fi) (cdv ct:Value) (us:List Value),us.length=ps.length->bindArgs (HN "__init__" qual (cY st) (bU st) (ah st) .none kV doc pm an cdv ct) ⟨us,[]⟩=pure (ps.zip us))
  (mk:PySem.W.makesIn K C=true) (kc:Hr K (.ref C)=true)
  (a:Hh K (.ref C) "__init__"=some (some (.ref f))) (i:PySem.W.isFn K (.ref f)=true) (l:K.lookup f=some ⟨oc,od,.func (HN "__init__" qual (cY st) (bU st) (ah st) .none kV doc pm an cdv ct),osl⟩)
  (c:Je K cdv qual=true) (kp:Hr K (.ref f)=true):rO K C qual st ps :=
 ⟨f,_,sN (st:=st) l c kp,bind kV doc pm an cdv ct,⟨mk,a,i,kc⟩⟩
end
theorem gI {X:Cx}{k:Nat}{C:Fi}{m:Str}{ps:List Str}{sp:Sp}{pos apos:Pos}{o e:Expr}{es:List Expr}{ta:TE}{t:TA}{pl:Sem Bool}(he:PE X o ta)(cl:Cls X.K C)(c:Cm X.prog X.w X.K X.mg X.base k C m ps sp)(hr:bf k X.A)(ha:PA X (e :: es) t)
  (hst:FU (e :: es) X.env=(false,Jd e X.env) :: FU es X.env:=by rfl) (hpl:(II pos (FU es X.env)).any (·.1)=false:=by rfl)
  (ht:Jd (.Call (.Attribute o m apos) (e :: es) [] pos) X.env=(do
   let ov <-Jd o X.env
   standAt apos.atName
   let (f,first) <-holding [ov] (getMethod ov m pl)
   callWith pos f first (II pos (FU (e :: es) X.env)) (backToKw pos (IL [] X.env))):=by rfl) :
  PE X (.Call (.Attribute o m apos) (e :: es) [] pos) (j6 C m sp [] E0 ta t):=by
 obtain⟨f,fd,h1,h2,h3⟩:=c
 exact yz he cl h3 h1 hr h2 .nil uL ha hst hpl ht
theorem AX {X:Cx}{k:Nat}{C:Fi}{m:Str}{ps:List Str}{sp:Sp}{pos apos:Pos}{o:Expr}{ta:TE}{pl:Sem Bool}(he:PE X o ta)(cl:Cls X.K C)(c:Cm X.prog X.w X.K X.mg X.base k C m ps sp)(hr:bf k X.A)
  (ht:Jd (.Call (.Attribute o m apos) [] [] pos) X.env=(do
   let ov <-Jd o X.env
   standAt apos.atName
   let (f,first) <-holding [ov] (getMethod ov m pl)
   callWith pos f first (II pos (FU [] X.env)) (backToKw pos (IL [] X.env))):=by rfl) :
  PE X (.Call (.Attribute o m apos) [] [] pos) (j6 C m sp [] E0 ta fI):=by
 obtain⟨f,fd,h1,h2,h3⟩:=c
 exact wF he cl h3 h1 hr h2 .nil uL ht
theorem oq {X:Cx}{k:Nat}{C:Fi}{x:Str}{ps:List Str}{sp:Sp}{p pos:Pos}{e:Expr}{es:List Expr}{t:TA}(c:Ci X.prog X.w X.K X.mg X.base k C ps sp)(hr:bf (k+1) X.A)(hm:X.mg x=some (.ref C))(ha:PA X (e :: es) t)(hg:Gl X x:=by rfl)
  (hdb:(x==("__debug__" : Str))=false:=by decide) (he:FU (e :: es) X.env=(false,Jd e X.env) :: FU es X.env:=by rfl) (hpl:(II pos (FU es X.env)).any (·.1)=false:=by rfl) :
  PE X (.Call (.Name x p) (e :: es) [] pos) (An C sp [] E0 t):=by
 obtain⟨f,fd,h1,h2,h3⟩:=c
 exact yy h3 h1 hr hg hm h2 .nil uL ha hdb he hpl
end Wg
end
section
namespace Hd
open PySem PySem.W PyProof.Rows L2 Wg
theorem u6 (h:Heap):(nw h).In h:=by
 intro b o e
 have hm:∀l:List (Fi×Obj),l.lookup b=some o->(b,o)∈l:=by
  intro l
  induction l with
  |nil=>intro h;cases h
  |cons x r ih =>
   intro h
   obtain⟨a,u⟩:=x
   rw[HD]at h
   cases c:b==a with
   |true =>
    rw[c]at h
    rw[eq_of_beq c,<-osi h]
    exact FB ..
   |false =>
    rw[c]at h
    exact Fj _ (ih h)
 have h1:=hm _ e
 unfold nw at h1
 obtain⟨a,_,q⟩:=IJ.1 h1
 cases g:h.get? a with
 |none=>rw[g]at q;cases q
 |some u =>
  rw[g]at q
  have q:=osi q
  obtain⟨rfl,rfl⟩:=Hm q
  exact g
theorem jL {K:GC}{f:Fi}{n q:Str}{st:Hy}(h:mh K f=some (qR n q st)):∃oc od osl kV doc pm an cdv ct,K.lookup f=some ⟨oc,od,.func (fnOf n q (cY st) (bU st) (ah st) .none kV doc pm an cdv ct),osl⟩/\codeIn K cdv q=true/\keepIn K (.ref f)=true:=by
 unfold mh at h
 split at h
 ·rename_i oc od fd osl e
  have h:=osi h
  unfold qR at h
  cases fd
  simp only[Prod.mk.injEq]at h
  obtain⟨rfl,rfl,rfl,rfl,rfl,rfl,rfl,rfl,rfl,hc⟩:=h
  refine⟨_,_,_,_,_,_,_,_,_,e,hc,?_⟩
  unfold keepIn
  dsimp only
  rw[e]
 ·cases h
theorem hG {K:GC}{x:Str}{f:Fi}(h:ju K x=some f):nsIn K Gk x=some (some (.ref f)):=by
 unfold ju at h
 split at h
 ·rename_i e
  rw[e,osi h]
 ·cases h
section
variable  {K:GC}{mg:Str->Option Value}{h:Heap}
theorem bu {x:Str}{st:Hy}{ps:List Str}(X:K.In h)(G:h.Ns Gk mg)(e:yo K x=some (qR x x st))
  (bind:∀(kV doc pm:Value) (an:Option Fi) (cdv ct:Value) (us:List Value),us.length=ps.length->bindArgs (fnOf x x (cY st) (bU st) (ah st) .none kV doc pm an cdv ct) ⟨us,[]⟩=pure (ps.zip us):=by
   intro _ _ _ _ _ _ us hl
   rcases us with _|⟨a,_|⟨b,_|⟨c,_|⟨d,_|⟨e,_|⟨g,us⟩⟩⟩⟩⟩⟩<;>first|rfl|cases hl):Has K mg x st ps:=by
 unfold yo at e
 cases g:ju K x with
 |none=>rw[g]at e;cases e
 |some f =>
  rw[g]at e
  obtain⟨_,_,_,_,_,_,_,_,_,h1,h2,h3⟩:=jL e
  exact By X G bind (hG g) h1 h2 h3
theorem qP {x:Str}{n:Int}(X:K.In h)(G:h.Ns Gk mg)(e:wC K x=some n):∃t,mg x=some (.int n t):=by
 unfold wC at e
 split at e
 ·rename_i i t q
  rw[<-osi e]
  exact⟨t,mg_of X G q⟩
 ·cases e
theorem B2 {c:Str}{fields:List Str}{ms:List (Str×Str×Hy)}(X:K.In h)(G:h.Ns Gk mg)(e:xU K c fields ms=some (A5 fields ms)) :
  ∃C,mg c=some (.ref C)/\Cls K C/\makesIn K C=true/\keepIn K (.ref C)=true/\(∀f∈fields,dX K C f)/\∀m∈ms,∃f,findIn K (.ref C) m.1=some (some (.ref f))/\isFn K (.ref f)=true/\mh K f=some (qR m.1 m.2.1 m.2.2):=by
 unfold xU at e
 cases g:ju K c with
 |none=>rw[g]at e;cases e
 |some C =>
  rw[g]at e
  have e:=osi e
  unfold A5 at e
  simp only[Prod.mk.injEq,List.cons.injEq,and_true]at e
  obtain⟨⟨h1,h2,h3,h4,h5⟩,⟨h6,h7⟩,h8⟩:=e
  refine⟨C,mg_of X G (hG g),⟨h1,h2,h3,h6⟩,h4,h5,λf hf=>List.map_inj_left.1 h7 f hf,λm hm=>?_⟩
  have q:=List.map_inj_left.1 h8 m hm
  unfold Aj at q
  split at q
  ·rename_i f e1
   have q:=osi q
   obtain⟨q1,q2⟩:=Hm q
   exact⟨f,e1,q1,q2⟩
  ·cases q
theorem yU {C:Fi}{m qual:Str}{st:Hy}{ps:List Str}(e:∃f,findIn K (.ref C) m=some (some (.ref f))/\isFn K (.ref f)=true/\mh K f=some (qR m qual st))
  (bind:∀(kV doc pm:Value) (an:Option Fi) (cdv ct:Value) (us:List Value),us.length=ps.length->bindArgs (fnOf m qual (cY st) (bU st) (ah st) .none kV doc pm an cdv ct) ⟨us,[]⟩=pure (ps.zip us):=by
   intro _ _ _ _ _ _ us hl
   rcases us with _|⟨a,_|⟨b,_|⟨c,_|⟨d,_|⟨e,_|⟨g,us⟩⟩⟩⟩⟩⟩<;>first|rfl|cases hl):lQ K C m qual st ps:=by
 obtain⟨f,e1,e2,e3⟩:=e
 obtain⟨_,_,_,_,_,_,_,_,_,h1,h2,h3⟩:=jL e3
 exact yD bind e1 e2 h1 h2 h3
theorem DL {C:Fi}{qual:Str}{st:Hy}{ps:List Str}(mk:makesIn K C=true)(kc:keepIn K (.ref C)=true) (e:∃f,findIn K (.ref C) "__init__"=some (some (.ref f))/\isFn K (.ref f)=true/\mh K f=some (qR "__init__" qual st))
  (bind:∀(kV doc pm:Value) (an:Option Fi) (cdv ct:Value) (us:List Value),us.length=ps.length->bindArgs (fnOf "__init__" qual (cY st) (bU st) (ah st) .none kV doc pm an cdv ct) ⟨us,[]⟩=pure (ps.zip us):=by
   intro _ _ _ _ _ _ us hl
   rcases us with _|⟨a,_|⟨b,_|⟨c,_|⟨d,_|⟨e,_|⟨g,_|⟨i,us⟩⟩⟩⟩⟩⟩⟩<;>first|rfl|cases hl):rO K C qual st ps:=by
 obtain⟨f,e1,e2,e3⟩:=e
 obtain⟨_,_,_,_,_,_,_,_,_,h1,h2,h3⟩:=jL e3
 exact yE bind mk kc e1 e2 h1 h2 h3
theorem wE {p:Fi}{c:Value}{its:List Value}(e:ij K p=some (c,its)):∃od n osl ar,K.lookup p=some ⟨c,od,.seq ar n,osl⟩/\ar.toList=its:=by
 unfold ij at e
 split at e
 ·rename_i c' od ar n osl q
  have e:=osi e
  obtain⟨rfl,rfl⟩:=Hm e
  exact⟨_,_,_,_,q,rfl⟩
 ·cases e
theorem su:∀{its:List Value} {r:List Int},its.map Df=r.map some->aR (iV r) its
 |[],[],_=>.nil
 |[],_ :: _,e=>by cases e
 |_ :: _,[],e=>by cases e
 |v :: its,i :: r,e=>by
  rw[FH,FH,List.cons.injEq]at e
  refine .cons ?_ (su e.2)
  cases v with
  |int j t=>exact⟨t,by rw[osi e.1]⟩
  |_=>cases e.1
theorem B0 {p:Fi}{r:List Int}(hr:r.length<=1000)(e:mY K p=some (pL r)):∀H:Hp,SqT K H p (iV r):=by
 unfold mY at e
 cases g:ij K p with
 |none=>rw[g]at e;cases e
 |some x =>
  rw[g]at e
  obtain⟨c,its⟩:=x
  have e:=osi e
  unfold pL at e
  obtain⟨rfl,e2⟩:=Hm e
  obtain⟨od,n,osl,ar,q,rfl⟩:=wE g
  have hl:ar.toList.length=r.length:=by
   have:=G5 List.length e2
   rwa [lmp,lmp]at this
  exact λH=>.inr ⟨_,ar,n,q,rfl,rfl,by rw[<-Iy,hl];exact Iw (bn (by lia)),su e2⟩
theorem Et {x:Str}{r:List Int}(hr:r.length<=1000)(X:K.In h)(G:h.Ns Gk mg)(e:xX K x=some (pL r)):∃a,mg x=some (.ref a)/\∀H:Hp,SqT K H a (iV r):=by
 unfold xX at e
 cases g:ju K x with
 |none=>rw[g]at e;cases e
 |some f =>
  rw[g]at e
  exact⟨f,mg_of X G (hG g),B0 hr e⟩
theorem t7:∀{its:List Value} {rows:List (List Int)},its.map (Bs K)=rows.map (λr=>some (pL r))->∃bs:List Fi,bs.length=rows.length/\its=bs.map Gd/\∀(i:Nat) (b:Fi) (r:List Int),bs[i]? = some b->rows[i]? = some r->mY K b=some (pL r)
 |[],[],_=>⟨[],rfl,rfl,λi b r e=>by simp at e⟩
 |[],_ :: _,e=>by cases e
 |_ :: _,[],e=>by cases e
 |v :: its,r :: rows,e=>by
  rw[FH,FH,List.cons.injEq]at e
  obtain⟨bs,h1,h2,h3⟩:=t7 e.2
  cases v with
  |ref b =>
   refine⟨b :: bs,by rw[FT,FT,h1],by rw[h2];rfl,λi b' r' e1 e2=>?_⟩
   cases i with
   |zero =>
    cases osi e1
    cases osi e2
    exact e.1
   |succ i=>exact h3 i b' r' e1 e2
  |_=>cases e.1
theorem Dd {x:Str}{rows:List (List Int)}(hr:∀r∈rows,r.length<=1000)(hn:rows.length<=1000)(X:K.In h)(G:h.Ns Gk mg) (e:sY K x=some (.type "tuple",rows.map λr=>some (pL r))) :
  ∃(a:Fi) (bs:List Fi),mg x=some (.ref a)/\bs.length=rows.length/\(∀H:Hp,SqT K H a (bs.map V.ref))/\∀(H:Hp) (i:Nat) (b:Fi) (r:List Int),bs[i]? = some b->rows[i]? = some r->SqT K H b (iV r):=by
 unfold sY at e
 cases g:ju K x with
 |none=>rw[g]at e;cases e
 |some f =>
  rw[g]at e
  have e:(ij K f).map (λy=>(y.1,y.2.map (Bs K)))=some (.type "tuple",rows.map λr=>some (pL r)):=e
  cases g2:ij K f with
  |none=>rw[g2]at e;cases e
  |some y =>
   rw[g2]at e
   obtain⟨c,its⟩:=y
   have e:=osi e
   obtain⟨rfl,e2⟩:=Hm e
   obtain⟨od,n,osl,ar,q,rfl⟩:=wE g2
   obtain⟨bs,h1,h2,h3⟩:=t7 e2
   have h2:ar.toList=bs.map Gd:=h2
   refine⟨f,bs,mg_of X G (hG g),h1,λH=>.inr ⟨_,ar,n,q,rfl,rfl,?_,?_⟩,λH i b r e1 e2=>B0 (hr r (Gg e2)) (h3 i b r e1 e2) H⟩
   ·rw[<-Iy,h2,lmp]
    exact Iw (bn (by lia))
   ·rw[h2]
    exact Wx.kU bs
end
theorem nth {α β:Type}{f g:α->β}{l:List α}(h:l.map f=l.map g)(i:Nat){a:α}(e:l[i]? = some a):f a=g a:=List.map_inj_left.1 h a (Gg e)
theorem zP {α β γ:Type}{o:Option α}{f:α->β}{g:α->γ}{b:β}{c:γ}(h1:o.map f=some b)(h2:o.map g=some c):∃a,o=some a/\f a=b/\g a=c:=by
 cases o with
 |none=>cases h1
 |some a=>exact⟨a,rfl,osi h1,osi h2⟩
theorem CT {p q:FW}{α:Type}{Yf:Fh->α}{A:α}{N:Nat}(e:opening p=plainProg p.main.scope.names)(hN:Nat.ble 600 N=true)(f:∀s,fenceModules? p s=some s)
  (a:∀w:G0,((boot_heap w.params).isNs Gk&&(Array.mk ([]:List GenState)).size==0)=true)
  (b1:∀w os,(qE p N w os).map (λs=>(yl p w s,(lB p q s).1))=some (true,(openGood q []).1))
  (b0:∀w os,(qE p N w os).map (λs=>((lB p q s).2.1,(lB p q s).2.2.1))=some ((openGood q []).2.1,(openGood q []).2.2.1))
  (b2:∀w os,(qE p N w os).map (λs=>(lB p q s).2.2.2)=some (openGood q []).2.2.2)
  (b3:∀w os,(qE p N w os).map Yf=some A):LeftO p q [] (λs=>xlAt q [] s&&recOk [] s) Yf (λ_=>A) N:=λw=>by
 obtain⟨⟨h,gs,d,k,os⟩,h1,h2⟩:=Option.map_eq_some_iff.mp (boot_open (p:=p) (N:=N) e hN f w)
 simp only[Prod.mk.injEq]at h2
 obtain⟨rfl,rfl,rfl,rfl⟩:=h2
 obtain⟨s,r,c1,c2⟩:=zP (b1 w os) (b2 w os)
 have c0:=b0 w os
 have c3:=b3 w os
 rw[r]at c0 c3
 have c3:Yf s=A:=osi c3
 obtain⟨k1,k2⟩:=Hm c1
 obtain⟨k3,k4⟩:=Hm (osi c0)
 unfold qE at r
 rw[<-PySem.W.Fast.te14082659384304107361,<-PySem.W.Fast.te14364793385576792824]at r
 have k5:openSeen q [] (importedModules p.main.body) (λs=>xlAt q [] s&&recOk [] s) true s=openGood q []:=by
  rw[PySem.W.Fast.te4187177175401517315]
  exact Prod.ext k2 (Prod.ext k3 (Prod.ext k4 c2))
 have t:topFrom treeTable p w N ⟨boot_heap w.params,Array.mk [],boot_drawn,boot_toks,os⟩=some s:=by
  unfold topFrom
  dsimp only
  have a:=a w
  rw[a,r]
  show(match yl p w s with
   |true=>some s
   |false=>none)=some s
  rw[k1]
 unfold openEnds
 rw[h1]
 show(topFrom treeTable p w N _).map _=_
 rw[t]
 exact G5 some (Prod.ext k5 c3)
theorem Ec {r:OpenSpec}{k:Nat}{q:FW}{loose:List Str}{XP:(Str->Option Value)->Heap->Prop}{Fx:GC->Prop}{d:DefRec}{ps:List Str}{sp:GC->Sp}
  (hwell:r.wellSaid=true) (hdf:d.params.defaults=[]) (hlen:r.args.length=ps.length) (hr:bf k callerA)
  (F:∀(w:G0) (mg:Str->Option Value) (fa:Fi) (h:Heap) (K:GC),Fx K->K.In h->h.Ns Gk mg->mg d.name=some (.ref fa) ->
   ∃fd:Jg,(∀(s:Fh) (us:List Value),us.length=ps.length->BindsTo s fd ⟨us,[]⟩ (ps.zip us))/\∀base:Heap,K.In base->base.Ns Gk mg->jq r.prog w K mg base CX0 k fa fd ps (sp K))
  (hsp:∀(K:GC) (H:Hp) (xs:List V) (a:Codec.denoteAll r.args),sf H->Codec.withinAll r.args a=true->Codec.app r.args r.asked a=true->ip K H xs (Codec.encAll r.args a) ->
   sp K xs H (λv H'=>Dw K H' v (r.ret.enc (Codec.app r.args r.f a))) λ_ _ _=>False) :
  WalkOS q loose XP (λ_ h=>∃K:GC,K.In h/\Fx K) r d [] (λf vs=>PySem.call f vs):=by
 intro w s_0 s₁ mg mb G Y
 obtain⟨K,KX,hx⟩:=Y
 exact vK (K:=λ_=>K) (YP:=λ_ h=>K.In h) (CX:=λ_=>CX0) (sp:=λ_=>sp K) hwell hdf hlen hr (λ_ _ y=>y) (λw mg fa h _ KX G hm=>F w mg fa h K hx KX G hm) (λ_ H xs a=>hsp K H xs a) (λ_ _ _ _ _ z=>z) w s_0 s₁ mg mb G KX
end Hd
end
section
namespace Wl
open PySem PySem.Spec PyProof.Rows L2 Wg
open PySem.W (Codec)
open CM
def eQ (w h:Int)(p l m:Fi):List (Str×V):=eT "marks" (.ref m) (eT "lines" (.ref l) (eT "points" (.ref p) (eT "height" (.int h) (eT "width" (.int w) []))))
section
variable  {w h:Int}{p l m:Fi}
theorem AC:(eQ w h p l m).lookup ("width" : Str)=some (.int w):=by
 unfold eQ
 rw[aG,Fl (by decide +kernel),aG,Fl (by decide +kernel),aG,Fl (by decide +kernel),aG,Fl (by decide +kernel),aG,Fs rfl]
theorem A1:(eQ w h p l m).lookup ("height" : Str)=some (.int h):=by
 unfold eQ
 rw[aG,Fl (by decide +kernel),aG,Fl (by decide +kernel),aG,Fl (by decide +kernel),aG,Fs rfl]
theorem iw:(eQ w h p l m).lookup ("points" : Str)=some (.ref p):=by
 unfold eQ
 rw[aG,Fl (by decide +kernel),aG,Fl (by decide +kernel),aG,Fs rfl]
theorem qi:(eQ w h p l m).lookup ("lines" : Str)=some (.ref l):=by
 unfold eQ
 rw[aG,Fl (by decide +kernel),aG,Fs rfl]
theorem xF:(eQ w h p l m).lookup ("marks" : Str)=some (.ref m):=by
 unfold eQ
 rw[aG,Fs rfl]
theorem mF {f:Str} (h1:¬f="marks") (h2:¬f="lines") (h3:¬f="points") (h4:¬f="height") (h5:¬f="width"):(eQ w h p l m).lookup f=none:=by
 unfold eQ
 rw[aG,Fl h1,aG,Fl h2,aG,Fl h3,aG,Fl h4,aG,Fl h5]
 rfl
end
structure DCl (K:GC)(mg:Str->Option Value)(C:Fi):Prop where
 cl:Cls K C
 nW:dX K C "width"
 nH:dX K C "height"
 nP:dX K C "points"
 nL:dX K C "lines"
 nM:dX K C "marks"
 mgC:mg "Drawing"=some (.ref C)
def bz (C:Fi)(H:Hp)(a:Fi)(S:Gla.Plan):Prop:=∃dx p l m,H a=some (.ins C dx (eQ S.w S.h p l m))/\TL H p (S.pts.map fJ)/\TL H l (S.lines.map tX)/\TL H m (S.marks.map ke)
theorem bz.same {C:Fi}{H H':Hp}{a:Fi}{S:Gla.Plan}(h:bz C H a S)(s:al H H'):bz C H' a S:=by
 obtain⟨dx,p,l,m,h1,h2,h3,h4⟩:=h
 exact⟨dx,p,l,m,s _ _ h1,h2.same s,h3.same s,h4.same s⟩
variable  {P:FW}{w:G0}{K:GC}{mg:Str->Option Value}{base:Heap}{C CV:Fi}
def Ck (C:Fi):Sp:=λvs H Q _=>∃(x dx:Fi) (wi he:Int) (p l m:Fi),vs=[.ref x,.int wi,.int he,.ref p,.ref l,.ref m]/\H x=some (.ins C dx []) /\
 ∀H':Hp,H' x=some (.ins C dx (eQ wi he p l m))->(∀b o,H b=some o->b≠x->H' b=some o)->Q .non H'
theorem Ey:ap ["self","width","height","points","lines","marks"] ["self","width","height","points","lines","marks"] (ah g9):=fsk
theorem zO (F:rO K C "Drawing.__init__" g9 ["self","width","height","points","lines","marks"]) (T:DCl K mg C):Ci P w K mg base 1 C ["self","width","height","points","lines","marks"] (Ck C):=by
 refine F.ci Ey (λvs H Q E h=>?_) (λ_ _ A _ s H vs Q E hr h=>?_)
 ·obtain⟨x,dx,wi,he,p,l,m,rfl,_⟩:=h
  rfl
 ·obtain⟨x,dx,wi,he,p,l,m,rfl,hx,k⟩:=h
  refine⟨_,ad (iT (pv 0) (pv 1) rfl) (ad (iT (pv 0) (pv 2) rfl) (ad (iT (pv 0) (pv 3) rfl) (ad (iT (pv 0) (pv 4) rfl) (ae (iT (pv 0) (pv 5) rfl))))),?_⟩
  refine⟨_,rfl,_,rfl,x,C,dx,_,rfl,hx,T.cl,T.nW,(by show 0<1000;decide),?_⟩
  refine⟨_,rfl,_,rfl,x,C,dx,_,rfl,ag,T.cl,T.nH,(Gn (cQ (n:=0) (nlr 0)) (by decide)),?_⟩
  refine⟨_,rfl,_,rfl,x,C,dx,_,rfl,ag,T.cl,T.nP,(Gn (cQ (cQ (n:=0) (nlr 0))) (by decide)),?_⟩
  refine⟨_,rfl,_,rfl,x,C,dx,_,rfl,ag,T.cl,T.nL,(Gn (cQ (cQ (cQ (n:=0) (nlr 0)))) (by decide)),?_⟩
  refine⟨_,rfl,_,rfl,x,C,dx,_,rfl,ag,T.cl,T.nM,(Gn (cQ (cQ (cQ (cQ (n:=0) (nlr 0))))) (by decide)),?_⟩
  refine k _ ag λb o e hb=>?_
  rw[aq hb,aq hb,aq hb,aq hb,aq hb]
  exact e
def pV:Sp:=λvs H Q _=>∃(v:V) (k:Int),vs=[v,.int k]/\Q (.int (20+8*k)) H
theorem E1:ap ["self","k"] ["self","k"] (ah ki):=fsk
theorem Cu (F:lQ K C "place_of_point" "Drawing.place_of_point" ki ["self","k"]) (gHB:∃t,mg "HEAD_BYTES"=some (.int 20 t)) (gPB:∃t,mg "POINT_BYTES"=some (.int 8 t)):Cm P w K mg base 1 C "place_of_point" ["self","k"] pV:=by
 refine F.cm E1 (λvs H Q E h=>?_) (λ_ _ A _ s H vs Q E hr h=>?_)
 ·obtain⟨v,k,rfl,_⟩:=h
  rfl
 ·obtain⟨v,i,rfl,k⟩:=h
  refine⟨_,ae (ak (aT dG (bo gHB) (aT dM (bo gPB) (pv 1)))),?_⟩
  exact⟨_,rfl,_,_,rfl,rfl,.inl ⟨by decide,by decide⟩,_,_,rfl,rfl,k⟩
def vw (C:Fi):Sp:=λvs H Q _=>∃(a:Fi) (S:Gla.Plan) (k:Int),vs=[.ref a,.int k]/\bz C H a S/\Q (.int (20+8*(S.pts.length:Int)+4*k)) H
theorem EA:ap ["self","k"] ["self","k"] (ah j9):=fsk
theorem Eg (F:lQ K C "place_of_line" "Drawing.place_of_line" j9 ["self","k"]) (T:DCl K mg C) (gl:mg "len"=none) (gLB:∃t,mg "LINE_BYTES"=some (.int 4 t)) (C1:Cm P w K mg base 1 C "place_of_point" ["self","k"] pV) :
  Cm P w K mg base 2 C "place_of_line" ["self","k"] (vw C):=by
 refine F.cm EA (λvs H Q E h=>?_) (λ_ _ A _ s H vs Q E hr h=>?_)
 ·obtain⟨a,S,k,rfl,_⟩:=h
  rfl
 ·obtain⟨a,S,i,rfl,hd,k⟩:=h
  obtain⟨dx,p,l,m,h1,⟨as,h2,h2l,_⟩,h3,h4⟩:=hd
  refine⟨_,ae (ak (aT dG (gI (pv 0) T.cl C1 hr (aa (aU aM (by rfl) gl Gh (aa (aP (pv 0) rfl) ac)) ac)) (aT dM (bo gLB) (pv 1)))),?_⟩
  refine⟨_,rfl,a,dx,_,rfl,h1,mF (by decide +kernel) (by decide +kernel) (by decide +kernel) (by decide +kernel) (by decide +kernel),_,rfl,a,C,dx,_,_,rfl,h1,T.cl,T.nP,iw,p,_,rfl,.inl (SqL.of h2),?_⟩
  refine⟨_,_,rfl,_,rfl,_,_,rfl,rfl,.inl ⟨by decide,by decide⟩,_,_,rfl,rfl,?_⟩
  rw[lmp,h2l,lmp]
  exact k
def yx (C:Fi):Sp:=λvs H Q _=>∃(a:Fi) (S:Gla.Plan) (k:Int),vs=[.ref a,.int k]/\bz C H a S/\Q (.int (20+8*(S.pts.length:Int)+4*(S.lines.length:Int)+12*k)) H
theorem EX:ap ["self","k"] ["self","k"] (ah kj):=fsk
theorem Ea (F:lQ K C "place_of_mark" "Drawing.place_of_mark" kj ["self","k"]) (T:DCl K mg C) (gl:mg "len"=none) (gMB:∃t,mg "MARK_BYTES"=some (.int 12 t)) (C1:Cm P w K mg base 2 C "place_of_line" ["self","k"] (vw C)) :
  Cm P w K mg base 3 C "place_of_mark" ["self","k"] (yx C):=by
 refine F.cm EX (λvs H Q E h=>?_) (λ_ _ A _ s H vs Q E hr h=>?_)
 ·obtain⟨a,S,k,rfl,_⟩:=h
  rfl
 ·obtain⟨a,S,i,rfl,hd,k⟩:=h
  have hd0:=hd
  obtain⟨dx,p,l,m,h1,h2,⟨as,h3,h3l,_⟩,h4⟩:=hd
  refine⟨_,ae (ak (aT dG (gI (pv 0) T.cl C1 hr (aa (aU aM (by rfl) gl Gh (aa (aP (pv 0) rfl) ac)) ac)) (aT dM (bo gMB) (pv 1)))),?_⟩
  refine⟨_,rfl,a,dx,_,rfl,h1,mF (by decide +kernel) (by decide +kernel) (by decide +kernel) (by decide +kernel) (by decide +kernel),_,rfl,a,C,dx,_,_,rfl,h1,T.cl,T.nL,qi,l,_,rfl,.inl (SqL.of h3),?_⟩
  refine⟨a,S,_,rfl,hd0,_,rfl,_,_,rfl,rfl,.inl ⟨by decide,by decide⟩,_,_,rfl,rfl,?_⟩
  rw[lmp,h3l,lmp]
  exact k
def Cn (C:Fi):Sp:=λvs H Q _=>∃(a:Fi) (S:Gla.Plan),vs=[.ref a]/\bz C H a S/\Q (.int (20+8*(S.pts.length:Int)+4*(S.lines.length:Int)+12*(S.marks.length:Int))) H
theorem Fb:ap ["self"] ["self"] (ah jR):=fsk
theorem Cg (F:lQ K C "place_of_end" "Drawing.place_of_end" jR ["self"]) (T:DCl K mg C) (gl:mg "len"=none) (C1:Cm P w K mg base 3 C "place_of_mark" ["self","k"] (yx C)) :
  Cm P w K mg base 4 C "place_of_end" ["self"] (Cn C):=by
 refine F.cm Fb (λvs H Q E h=>?_) (λ_ _ A _ s H vs Q E hr h=>?_)
 ·obtain⟨a,S,rfl,_⟩:=h
  rfl
 ·obtain⟨a,S,rfl,hd,k⟩:=h
  have hd0:=hd
  obtain⟨dx,p,l,m,h1,h2,h3,⟨as,h4,h4l,_⟩⟩:=hd
  refine⟨_,ae (ak (gI (pv 0) T.cl C1 hr (aa (aU aM (by rfl) gl Gh (aa (aP (pv 0) rfl) ac)) ac))),?_⟩
  refine⟨_,rfl,a,dx,_,rfl,h1,mF (by decide +kernel) (by decide +kernel) (by decide +kernel) (by decide +kernel) (by decide +kernel),_,rfl,a,C,dx,_,_,rfl,h1,T.cl,T.nM,xF,m,_,rfl,.inl (SqL.of h4),?_⟩
  refine⟨a,S,_,rfl,hd0,?_⟩
  rw[lmp,h4l,lmp]
  exact k
open PySem PySem.Spec PyProof.Rows L2 Wg Wx CM
open Gla (Pt)
theorem BM (ns:List Int)(p z:Nat):n0 (iV ns) (some (p:Int)) (some ((p:Int)+(z:Int)))=iV ((ns.drop p).take z):=by
 have e2:((p:Int)+(z:Int))=((p+z:Nat):Int):=by omega
 rw[e2]
 unfold n0
 rw[HT.sIx_nat,HT.sIx_nat,iV,<-Jb,<-Ie,lmp]
 congr 1
 by_cases c:p<=ns.length
 ·rw[FN c]
  by_cases c2:p+z<=ns.length
  ·rw[FN c2]
   congr 1
   omega
  ·rw[FM (show ns.length<=p+z by omega)]
   rw[GP (by rw[FZ];omega),GP (by rw[FZ];omega)]
 ·rw[FM (show ns.length<=p by omega),HY (nlr _),HY (show ns.length<=p by omega)]
  simp
theorem vp {l:List Int}{i:Nat}{z:Int}(hi:i<l.length)(h:l[l.length-1-i]? = some z):sW (l.drop (l.length-(i+1)))=256*sW (l.drop (l.length-i))+z:=by
 have e:l.length-(i+1)=l.length-1-i:=by omega
 have e2:l.length-i=l.length-1-i+1:=by omega
 rw[e,e2]
 obtain⟨hk,hz⟩:=gsi h
 rw[Ht hk,hz]
 rfl
def pf (K:GC):Sp:=λvs H Q _=>∃(a:Fi) (ns:List Int) (p z:Nat),vs=[.ref a,.int (p:Int),.int (z:Int)]/\LI K H a ns/\∀H':Hp,al H H'->Q (.int (rd ns p z)) H'
theorem uI:ap ["cartoon","place","size","number","byte"] ["cartoon","place","size"] (ah gf):=fsk
theorem AY (F:Has K mg "number_at" gf ["cartoon","place","size"]) (grv:mg "reversed"=none):Cb P w K mg base 1 "number_at" ["cartoon","place","size"] (pf K):=by
 refine F.cb uI (λvs H Q E h=>?_) (λ_ _ A _ s H vs Q E hr h=>?_)
 ·obtain⟨a,ns,p,z,rfl,_⟩:=h
  rfl
 ·obtain⟨a,ns,p,z,rfl,hl,k⟩:=h
  refine⟨_,ad (aB (i:=3) uI.nd rfl (.inl rfl) af)
   (ad (bw FC rfl (rj rfl grv (aa (mx pP (pv 0) (km (pv 1)) (km (aT dG (pv 1) (pv 2)))) ac)) (au (i:=4) uI.nd rfl (.inl rfl))
    (ae (aB (i:=3) uI.nd rfl (.inl rfl) (aT dG (aT dM af (pv 3)) (pv 4)))))
   (ae (ak (pv 3)))),?_⟩
  refine⟨_,rfl,_,rfl,_,rfl,_,rfl,_,rfl,_,_,rfl,rfl,_,rfl,a,_,rfl,hl.1,λq hq=>?_⟩
  rw[BM ns p z]
  have s1:al H (upd H q (.lst (iV ((ns.drop p).take z)))):=aL hq
  refine⟨q,_,rfl,SqL.of ag,zE (K:=K) (a:=q) (xs:=iV ((ns.drop p).take z)) (λi σ H'=>H'=upd H q (.lst (iV ((ns.drop p).take z)))/\∃v,σ=[some (.ref a),some (.int (p:Int)),some (.int (z:Int)),some (.int (sW (((ns.drop p).take z).drop (((ns.drop p).take z).length-i)))),v])
   ⟨rfl,none,?_⟩ (λi σ H' _ h=>by rw[h.1];exact SqL.of ag) ?_ ?_⟩
  ·rw[Nat.sub_zero,List.drop_length]
   rfl
  ·rintro i y σ H' hi hy ⟨rfl,v,rfl⟩
   rw[lmp]at hi hy
   obtain⟨x,hx,rfl⟩:=qB hy
   refine⟨_,rfl,_,_,rfl,rfl,.inl ⟨by decide,by decide⟩,_,rfl,_,_,rfl,rfl,rfl,some (.int x),?_⟩
   rw[vp hi hx]
   rfl
  ·rintro σ H' ⟨rfl,v,rfl⟩
   refine⟨_,rfl,?_⟩
   have e:sW (((ns.drop p).take z).drop (((ns.drop p).take z).length-(iV ((ns.drop p).take z)).length))=rd ns p z:=by
    rw[lmp,GX,List.drop_zero]
    rfl
   rw[e]
   exact k _ s1
def wX (K:GC):Sp:=λvs H Q _=>∃(a:Fi) (ns:List Int),vs=[.ref a]/\LI K H a ns/\∀H':Hp,al H H'->Q (.int (told ns)) H'
theorem qh:ap ["cartoon","points","lines","marks"] ["cartoon"] (ah eK):=fsk
theorem zK (F:Has K mg "told_length" eK ["cartoon"]) (gHB:∃t,mg "HEAD_BYTES"=some (.int 20 t)) (gPB:∃t,mg "POINT_BYTES"=some (.int 8 t)) (gLB:∃t,mg "LINE_BYTES"=some (.int 4 t)) (gMB:∃t,mg "MARK_BYTES"=some (.int 12 t))
  (C1:Cb P w K mg base 1 "number_at" ["cartoon","place","size"] (pf K)):Cb P w K mg base 2 "told_length" ["cartoon"] (wX K):=by
 refine F.cb qh (λvs H Q E h=>?_) (λ_ _ A _ s H vs Q E hr h=>?_)
 ·obtain⟨a,ns,rfl,_⟩:=h
  rfl
 ·obtain⟨a,ns,rfl,hl,k⟩:=h
  refine⟨_,ad (aB (i:=1) qh.nd rfl (.inl rfl) (aE C1 hr (aa (pv 0) (aa af (aa af ac)))))
   (ad (aB (i:=2) qh.nd rfl (.inl rfl) (aE C1 hr (aa (pv 0) (aa af (aa af ac)))))
   (ad (aB (i:=3) qh.nd rfl (.inl rfl) (aE C1 hr (aa (pv 0) (aa af (aa af ac)))))
   (ae (ak (aT dG (aT dG (aT dG (bo gHB) (aT dM (bo gPB) (pv 1))) (aT dM (bo gLB) (pv 2))) (aT dM (bo gMB) (pv 3))))))),?_⟩
  refine⟨_,rfl,a,ns,12,2,rfl,hl,λH1 s1=>?_⟩
  refine⟨_,rfl,a,ns,14,2,rfl,hl.same s1,λH2 s2=>?_⟩
  refine⟨_,rfl,a,ns,16,2,rfl,hl.same (s1.trans s2),λH3 s3=>?_⟩
  exact⟨_,rfl,_,_,rfl,rfl,.inl ⟨by decide,by decide⟩,_,_,rfl,rfl,_,rfl,_,_,rfl,rfl,.inl ⟨by decide,by decide⟩,_,_,rfl,rfl,_,rfl,_,_,rfl,rfl,.inl ⟨by decide,by decide⟩,_,_,rfl,rfl,k _ (s1.trans (s2.trans s3))⟩
def B7 (K:GC)(mg:Str->Option Value)(x:Str)(r:List Int):Prop:=∃a,mg x=some (.ref a)/\∀H:Hp,SqT K H a (iV r)
def Aa (K:GC)(mg:Str->Option Value)(x:Str)(rows:List (List Int)):Prop:=∃(a:Fi) (bs:List Fi),mg x=some (.ref a)/\bs.length=rows.length/\(∀H:Hp,SqT K H a (bs.map V.ref))/\∀(H:Hp) (i:Nat) (b:Fi) (r:List Int),bs[i]? = some b->rows[i]? = some r->SqT K H b (iV r)
def dr (o:Option (Int×Int))(H:Hp)(Q:VK):Prop:=match o with
 |none=>∀H':Hp,al H H'->Q .non H'
 |some (r,p)=>∀(H':Hp) (q:Fi),al H H'->H' q=some (.tup [.int r,.int p])->Q (.ref q) H'
theorem dr.some' {H H1:Hp}{Q:VK}{r p:Int}(k:dr (some (r,p)) H Q)(s:al H H1):∀q,H1 q=none->Q (.ref q) (upd H1 q (.tup [.int r,.int p])):=λq hq=>k _ q (aY s hq) ag
theorem vR (r q:List Int):PyData.eqv (.list (r.map Gp)) (.list (q.map Gp))=decide (r=q):=iF r q
def Ei (K:GC):Sp:=λvs H Q _=>∃(a:Fi) (ns:List Int),vs=[.ref a]/\LI K H a ns/\dr (dJ ns) H Q
theorem xf:ap ["cartoon","place","size","least","greatest"] ["cartoon"] (ah dF):=fsk
theorem BV (ns:List Int):n0 (iV ns) none (some 4)=iV (ns.take 4):=by
 unfold n0
 have e:(4:Int)=((4:Nat):Int):=rfl
 rw[HT.sIx_none,e,HT.sIx_nat,List.drop_zero,iV,Nat.sub_zero,<-Ie,lmp]
 congr 1
 by_cases c:4<=ns.length
 ·rw[FN c]
 ·rw[FM (by omega),GP (by omega),GP (by omega)]
theorem Dx (F:Has K mg "fault_of_bytes" dF ["cartoon"]) (gl:mg "len"=none) (gli:mg "list"=none) (gHB:∃t,mg "HEAD_BYTES"=some (.int 20 t)) (gS:B7 K mg "SIGN" jx) (gH:Aa K mg "HEAD_NUMBERS" eR)
  (C1:Cb P w K mg base 1 "number_at" ["cartoon","place","size"] (pf K)) (C2:Cb P w K mg base 2 "told_length" ["cartoon"] (wX K)):Cb P w K mg base 3 "fault_of_bytes" ["cartoon"] (Ei K):=by
 refine F.cb xf (λvs H Q E h=>?_) (λ_ _ A _ s H vs Q E hr h=>?_)
 ·obtain⟨a,ns,rfl,_⟩:=h
  rfl
 ·obtain⟨a,ns,rfl,hl,k⟩:=h
  obtain⟨sa,gS1,gS2⟩:=gS
  obtain⟨ha,bs,gH1,gHl,gH2,gH3⟩:=gH
  have hr1:bf 1 _:=hr.mono (by decide)
  have hu:=hr.units
  refine⟨_,ad (aX (aJ fT (aU aM (by rfl) gl Gh (aa (pv 0) ac)) (bo gHB) (aH _)) (ae (ak (bv (aa af (aa (aU aM (by rfl) gl Gh (aa (pv 0) ac)) ac))))) aI)
   (ad (aX (aJ (Bq hu) (mx pP (pv 0) zN (km af)) (vY qr (by rfl) gli mX (aa (qF (v:=.ref sa) (by rfl) gS1 rfl) ac)) (aH _)) (ae (ak (bv (aa af (aa af ac))))) aI)
   (ad (bw FC rfl (sI (qF (v:=.ref ha) (by rfl) gH1 rfl)) (cO (n:=4) rfl (aK (au (i:=1) xf.nd rfl (.inl rfl)) (aK (au (i:=2) xf.nd rfl (.inl rfl)) (aK (au (i:=3) xf.nd rfl (.inl rfl)) (aK (au (i:=4) xf.nd rfl (.inl rfl)) bR)))))
    (ae (aX (iK (ni lr lr (pv 3) (aE C1 hr1 (aa (pv 0) (aa (pv 1) (aa (pv 2) ac)))) (pv 4))) (ae (ak (bv (aa af (aa (pv 1) ac))))) aI)))
   (ad (aX (aJ xL (aU aM (by rfl) gl Gh (aa (pv 0) ac)) (aE C2 hr (aa (pv 0) ac)) (aH _)) (ae (ak (bv (aa af (aa (bo gHB) ac))))) aI)
   (ae (ak a9))))),?_⟩
  refine⟨_,rfl,a,_,rfl,.inl hl.1,_,_,rfl,rfl,_,rfl,aQ (λc=>?_) (λc=>?_)⟩
  ·have c1:(((iV ns).length:Nat):Int)<20:=Ff c
   rw[lmp]at c1
   have e:dJ ns=some (1,(ns.length:Int)):=by
    unfold dJ
    rw[Fs (by omega)]
   rw[e]at k
   refine⟨_,rfl,a,_,rfl,.inl hl.1,(by show 2<=Fk;decide),λq hq=>?_⟩
   rw[lmp]
   exact k.some' (al.refl H) q hq
  ·have c1:¬(((iV ns).length:Nat):Int)<20:=λq=>c (dqt q)
   rw[lmp]at c1
   refine⟨_,rfl,_,rfl,a,_,rfl,hl.1,λq hq=>?_⟩
   rw[BV ns]
   have s1:al H (upd H q (.lst (iV (ns.take 4)))):=aL hq
   refine⟨sa,_,rfl,.inr (gS2 _),λq2 hq2=>?_⟩
   have s2:al H (upd (upd H q (.lst (iV (ns.take 4)))) q2 (.lst (iV jx))):=aY s1 hq2
   have nq:q≠q2:=λz=>by rw[<-z,ag]at hq2;cases hq2
   refine⟨.list ((ns.take 4).map Gp),.list (jx.map Gp),.lst (SqL.of (by rw[aq nq];exact ag)) (fP _),.lst (SqL.of ag) (fP _),?_,?_,?_⟩
   ·show(PyData.canLay0 (.list ((ns.take 4).map Gp))&&decide ((PyData.list ((ns.take 4).map Gp)).depth<=64))=true
    rw[show PyData.canLay0 (.list ((ns.take 4).map Gp))=true from fU _,GK]
    refine dqt ?_
    show PyData.depthAll ((ns.take 4).map Gp)+1<=64
    have:=jM (ns.take 4)
    omega
   ·decide +kernel
   rw[vR]
   refine⟨_,rfl,aQ (λc2=>?_) (λc2=>?_)⟩
   ·have c3:ns.take 4≠jx:=λz=>by
     rw[dqt z]at c2
     exact absurd c2 (by decide)
    have e:dJ ns=some (1,0):=by
     unfold dJ
     rw[Fl (by omega),Fs c3]
    rw[e]at k
    exact⟨(by show 2<=Fk;decide),λq3 hq3=>k.some' s2 q3 hq3⟩
   ·have c3:ns.take 4=jx:=by
     by_cases z:ns.take 4=jx
     ·exact z
     ·rw[dqf z]at c2
      exact absurd rfl c2
    have e:dJ ns=match eR.find? (λr=>!eA ns r) with
      |some r=>some (2,r.getD 0 0)
      |none=>if (ns.length:Int)≠told ns then some (3,20) else none:=by
     unfold dJ
     rw[Fl (by omega),Fl (λz=>z c3)]<;>rfl
    generalize upd (upd H q (.lst (iV (ns.take 4)))) q2 (.lst (iV jx))=H2 at s2
    refine⟨ha,rfl,⟨_,gH2 _⟩,pH (K:=K) (a:=ha) (xs:=bs.map V.ref) (λi σ H'=>al H H'/\(∃v1 v2 v3 v4,σ=[some (.ref a),v1,v2,v3,v4])/\∀(j:Nat) (r:List Int),j<i->eR[j]? = some r->eA ns r=true)
     ⟨s2,⟨none,none,none,none,rfl⟩,λj r h=>absurd h (Gy _)⟩ (λi σ H' _ _=>gH2 H') ?_ ?_⟩
    ·rintro i y σ H' hi ⟨hS,⟨v1,v2,v3,v4,rfl⟩,hok⟩
     obtain⟨b,hb,rfl⟩:=cg hi
     have hib:i<eR.length:=by rw[<-gHl];exact(gsi hb).1
     have h0:eR[i]? = some eR[i]:=gge hib
     have hrow:=gH3 H' i b eR[i] hb h0
     obtain⟨p0,z0,lo,hi0,e4⟩:∃(p0 z0:Nat) (lo hi0:Int),eR[i]=[(p0:Int),(z0:Int),lo,hi0]:=by
      have:i=0\/i=1\/i=2\/i=3\/i=4\/i=5:=by
       have:eR.length=6:=rfl
       omega
      rcases this with rfl|rfl|rfl|rfl|rfl|rfl
      ·exact⟨4,4,16,1048575,rfl⟩
      ·exact⟨8,4,16,1048575,rfl⟩
      ·exact⟨12,2,4,4096,rfl⟩
      ·exact⟨14,2,4,8192,rfl⟩
      ·exact⟨16,2,1,2048,rfl⟩
      ·exact⟨18,2,0,0,rfl⟩
     rw[e4]at hrow h0
     have hoke:eA ns [(p0:Int),(z0:Int),lo,hi0]=(decide (lo<=rd ns p0 z0)&&decide (rd ns p0 z0<=hi0)):=by
      show(decide (lo<=rd ns ((p0:Int)).toNat ((z0:Int)).toNat)&&decide (rd ns ((p0:Int)).toNat ((z0:Int)).toNat<=hi0))=_
      rw[GG,GG]
     have bad:eA ns [(p0:Int),(z0:Int),lo,hi0]=false->dJ ns=some (2,(p0:Int)):=λhb=>by
      have hf:eR.find? (λr=>!eA ns r)=some [(p0:Int),(z0:Int),lo,hi0]:=by
       rw[Ix]
       refine⟨by rw[hb];rfl,i,hib,e4,λj hj=>?_⟩
       have:=hok j eR[j] hj (gge (by omega))
       rw[this];rfl
      rw[e,hf]
      rfl
     refine⟨b,_,rfl,hrow,rfl,_,_,rfl,_,_,rfl,_,_,rfl,_,_,rfl,rfl,?_⟩
     refine⟨_,rfl,_,rfl,_,rfl,_,rfl,a,ns,p0,z0,rfl,hl.same hS,λH3 s3=>?_⟩
     have hS3:=hS.trans s3
     refine⟨_,_,rfl,rfl,_,rfl,aQ (λd=>?_) (λd=>?_)⟩
     ·refine⟨_,rfl,_,_,rfl,rfl,_,rfl,aQ (λd2=>?_) (λd2=>?_)⟩
      ·have:decide (rd ns p0 z0<=hi0)=false:=by
        cases q4:decide (rd ns p0 z0<=hi0) with
        |false=>rfl
        |true=>rw[q4]at d2;exact absurd d2 (by decide)
       have hb2:=bad (by rw[hoke,this,Bool.and_false])
       rw[hb2]at k
       exact⟨_,rfl,(by show 2<=Fk;decide),λq3 hq3=>k.some' hS3 q3 hq3⟩
      ·have d2':decide (rd ns p0 z0<=hi0)=true:=by
        cases q4:decide (rd ns p0 z0<=hi0) with
        |true=>rfl
        |false=>rw[q4]at d2;exact absurd rfl d2
       refine⟨hS3,⟨_,_,_,_,rfl⟩,λj r hj hjr=>?_⟩
       by_cases cj:j<i
       ·exact hok j r cj hjr
       ·have:j=i:=by omega
        subst this
        rw[h0]at hjr
        have hjr:=osi hjr
        rw[<-hjr,hoke,d,d2']
        rfl
     ·refine⟨_,rfl,?_⟩
      have d':decide (lo<=rd ns p0 z0)=false:=by
       cases q4:decide (lo<=rd ns p0 z0) with
       |false=>rfl
       |true=>exact absurd q4 d
      have hb2:=bad (by rw[hoke,d',Go])
      rw[hb2]at k
      refine eI ?_
      exact⟨_,rfl,(by show 2<=Fk;decide),λq3 hq3=>k.some' hS3 q3 hq3⟩
    ·rintro σ H' ⟨hS,⟨v1,v2,v3,v4,rfl⟩,hok⟩
     have hf:eR.find? (λr=>!eA ns r)=none:=by
      rw[Ij]
      intro r hr2
      obtain⟨j,hj,rfl⟩:=FO hr2
      rw[hok j eR[j] (by rw[lmp,gHl];exact hj) (gge hj)]
      decide
     rw[hf]at e
     simp only at e
     refine⟨_,rfl,a,_,rfl,.inl (hS.seq hl.1),_,rfl,a,ns,rfl,hl.same hS,λH3 s3=>?_⟩
     have hS3:=hS.trans s3
     refine⟨rfl,_,rfl,aQ (λd=>?_) (λd=>?_)⟩
     ·have d1:(ns.length:Int)≠told ns:=λz=>by
       have:(decide (V.int (((iV ns).length:Nat):Int)=V.int (told ns)))=true:=dqt (by rw[lmp,z])
       rw[this]at d
       exact absurd d (by decide)
      rw[e,Fs d1]at k
      exact⟨(by show 2<=Fk;decide),λq3 hq3=>k.some' hS3 q3 hq3⟩
     ·have d1:(ns.length:Int)=told ns:=by
       by_cases z:V.int (((iV ns).length:Nat):Int)=V.int (told ns)
       ·have:=V.int.inj z
        rw[lmp]at this
        exact this
       ·rw[dqf z]at d
        exact absurd rfl d
      rw[e,Fl (λz=>z d1)]at k
      exact k H3 hS3
def AR (r:List Int)(H:Hp)(Q:VK):Prop:=∀(H':Hp) (q:Fi),al H H'->H' q=some (.tup (iV r))->Q (.ref q) H'
def BH (K:GC):Sp:=λvs H Q _=>∃(a:Fi) (ns:List Int) (p:Nat),vs=[.ref a,.int (p:Int)]/\LI K H a ns/\AR [rd ns p 4,rd ns (p+4) 4] H Q
theorem Es:ap ["cartoon","place"] ["cartoon","place"] (ah fg):=fsk
theorem Ct (F:Has K mg "read_point" fg ["cartoon","place"]) (C1:Cb P w K mg base 1 "number_at" ["cartoon","place","size"] (pf K)):Cb P w K mg base 2 "read_point" ["cartoon","place"] (BH K):=by
 refine F.cb Es (λvs H Q E h=>?_) (λ_ _ A _ s H vs Q E hr h=>?_)
 ·obtain⟨a,ns,p,rfl,_⟩:=h
  rfl
 ·obtain⟨a,ns,p,rfl,hl,k⟩:=h
  refine⟨_,ae (ak (bv (aa (aE C1 hr (aa (pv 0) (aa (pv 1) (aa af ac)))) (aa (aE C1 hr (aa (pv 0) (aa (aT dG (pv 1) af) (aa af ac)))) ac)))),?_⟩
  refine⟨_,rfl,_,rfl,a,ns,p,4,rfl,hl,λH1 s1=>?_⟩
  refine⟨_,rfl,_,rfl,_,_,rfl,rfl,a,ns,p+4,4,?_,hl.same s1,λH2 s2=>?_⟩
  ·show [V.ref a,V.int ((p:Int)+4),V.int 4]=[V.ref a,V.int ((p+4:Nat):Int),V.int ((4:Nat):Int)]
   rw[Int.natCast_add]
   rfl
  exact⟨(by show 2<=Fk;decide),λq hq=>k _ q (aY (s1.trans s2) hq) ag⟩
def Bl (K:GC):Sp:=λvs H Q _=>∃(a:Fi) (ns:List Int) (p:Nat),vs=[.ref a,.int (p:Int)]/\LI K H a ns/\AR [rd ns p 2,rd ns (p+2) 2] H Q
theorem Ex:ap ["cartoon","place"] ["cartoon","place"] (ah gg):=fsk
theorem BT (F:Has K mg "read_line" gg ["cartoon","place"]) (C1:Cb P w K mg base 1 "number_at" ["cartoon","place","size"] (pf K)):Cb P w K mg base 2 "read_line" ["cartoon","place"] (Bl K):=by
 refine F.cb Ex (λvs H Q E h=>?_) (λ_ _ A _ s H vs Q E hr h=>?_)
 ·obtain⟨a,ns,p,rfl,_⟩:=h
  rfl
 ·obtain⟨a,ns,p,rfl,hl,k⟩:=h
  refine⟨_,ae (ak (bv (aa (aE C1 hr (aa (pv 0) (aa (pv 1) (aa af ac)))) (aa (aE C1 hr (aa (pv 0) (aa (aT dG (pv 1) af) (aa af ac)))) ac)))),?_⟩
  refine⟨_,rfl,_,rfl,a,ns,p,2,rfl,hl,λH1 s1=>?_⟩
  refine⟨_,rfl,_,rfl,_,_,rfl,rfl,a,ns,p+2,2,?_,hl.same s1,λH2 s2=>?_⟩
  ·show [V.ref a,V.int ((p:Int)+2),V.int 2]=[V.ref a,V.int ((p+2:Nat):Int),V.int ((2:Nat):Int)]
   rw[Int.natCast_add]
   rfl
  exact⟨(by show 2<=Fk;decide),λq hq=>k _ q (aY (s1.trans s2) hq) ag⟩
def CD (K:GC):Sp:=λvs H Q _=>∃(a:Fi) (ns:List Int) (p:Nat),vs=[.ref a,.int (p:Int)]/\LI K H a ns/\AR [rd ns p 4,rd ns (p+4) 4,rd ns (p+8) 2,rd ns (p+10) 2] H Q
theorem E7:ap ["cartoon","place"] ["cartoon","place"] (ah fZ):=fsk
theorem Cc (F:Has K mg "read_mark" fZ ["cartoon","place"]) (C1:Cb P w K mg base 2 "read_point" ["cartoon","place"] (BH K)) (C2:Cb P w K mg base 2 "read_line" ["cartoon","place"] (Bl K)):Cb P w K mg base 3 "read_mark" ["cartoon","place"] (CD K):=by
 refine F.cb E7 (λvs H Q E h=>?_) (λ_ _ A _ s H vs Q E hr h=>?_)
 ·obtain⟨a,ns,p,rfl,_⟩:=h
  rfl
 ·obtain⟨a,ns,p,rfl,hl,k⟩:=h
  refine⟨_,ae (ak (aT yG (aE C1 hr (aa (pv 0) (aa (pv 1) ac))) (aE C2 hr (aa (pv 0) (aa (aT dG (pv 1) af) ac))))),?_⟩
  refine⟨_,rfl,_,rfl,a,ns,p,rfl,hl,λH1 q1 s1 h1=>?_⟩
  refine⟨_,rfl,_,rfl,_,_,rfl,rfl,a,ns,p+8,?_,hl.same s1,λH2 q2 s2 h2=>?_⟩
  ·show [V.ref a,V.int ((p:Int)+8)]=[V.ref a,V.int ((p+8:Nat):Int)]
   rw[Int.natCast_add]
   rfl
  refine⟨q1,q2,_,_,rfl,rfl,SqT.of (s2 _ _ h1),SqT.of h2,(by intro z;cases z),(by show 4<=Fk;decide),λz=>absurd z (by intro z;cases z),λ_ q hq=>?_⟩
  exact k _ q (aY (s1.trans s2) hq) ag
theorem rgc {lo c:Int}{n:Nat}(hc:0<c)(hc2:c<=1000)(h0:0<=lo)(h1:lo<=1000000000)(hn:n<=1000000):RgC lo (lo+c*(n:Int)) c n:=by
 have hm:0<=c*(n:Int):=Fo (by omega) (by omega)
 have hm2:c*(n:Int)<=1000*1000000:=Int.mul_le_mul (by omega) (by omega) (by omega) (by omega)
 have hs:HK lo (lo+c*(n:Int)) c=n:=by
  unfold HK
  rw[Fs hc]
  by_cases hz:n=0
  ·subst hz
   rw[Fl (by simp)]
   rfl
  ·have hp:0<c*(n:Int):=Fw hc (by omega)
   rw[Fs (by omega)]
   have e:lo+c*(n:Int)-lo-1=(c-1)+c*((n:Int)-1):=by grind
   rw[e,Int.add_mul_ediv_left _ _ (by omega:c≠0),Int.ediv_eq_zero_of_lt (by omega) (by omega)]
   omega
 refine⟨by omega,by omega,?_,hs⟩
 unfold Builtin.Range.small
 rw[hs]
 have e2:c > 0:=hc
 simp only[Builtin.Range.rangeFitsLong,Fn,Hw,Fq,IF,e2,if_true]
 generalize c*(n:Int)=m at *
 omega
def DP (K:GC)(C:Fi):Sp:=λvs H Q _=>∃(a:Fi) (ns:List Int),vs=[.ref a]/\LI K H a ns/\Byt ns/\(ns.length:Int)=told ns/\∀(H':Hp) (d:Fi),al H H'->bz C H' d (IE (toB ns))->Q (.ref d) H'
theorem qt:ap ["cartoon","first_line","first_mark","points","lines","marks","place"] ["cartoon"] (ah bP):=fsk
theorem DG (F:Has K mg "read_drawing" bP ["cartoon"]) (T:DCl K mg C) (gl:mg "len"=none) (gr:mg "range"=none) (gHB:∃t,mg "HEAD_BYTES"=some (.int 20 t)) (gPB:∃t,mg "POINT_BYTES"=some (.int 8 t)) (gLB:∃t,mg "LINE_BYTES"=some (.int 4 t)) (gMB:∃t,mg "MARK_BYTES"=some (.int 12 t))
  (C1:Cb P w K mg base 1 "number_at" ["cartoon","place","size"] (pf K)) (C2:Cb P w K mg base 2 "read_point" ["cartoon","place"] (BH K)) (C3:Cb P w K mg base 2 "read_line" ["cartoon","place"] (Bl K)) (C4:Cb P w K mg base 3 "read_mark" ["cartoon","place"] (CD K))
  (C5:Ci P w K mg base 1 C ["self","width","height","points","lines","marks"] (Ck C)):Cb P w K mg base 4 "read_drawing" ["cartoon"] (DP K C):=by
 refine F.cb qt (λvs H Q E h=>?_) (λ_ _ A _ s H vs Q E hr h=>?_)
 ·obtain⟨a,ns,rfl,_⟩:=h
  rfl
 ·obtain⟨a,ns,rfl,hl,hb,hlen,k⟩:=h
  have hr1:bf 1 _:=hr.mono (by decide)
  have hr2:bf 2 _:=hr.mono (by decide)
  refine⟨_,ad (aB (i:=1) qt.nd rfl (.inl rfl) (aT dG (bo gHB) (aT dM (bo gPB) (aE C1 hr1 (aa (pv 0) (aa af (aa af ac)))))))
   (ad (aB (i:=2) qt.nd rfl (.inl rfl) (aT dG (pv 1) (aT dM (bo gLB) (aE C1 hr1 (aa (pv 0) (aa af (aa af ac)))))))
   (ad (cp (i:=3) (own:=[("place",6)]) rfl qt.nd rfl rfl (dC rfl rfl rfl (by decide +kernel)) (kP rfl gr (aa (bo gHB) (aa (pv 1) (aa (bo gPB) ac)))) (bJ (by show iu ["cartoon","first_line","first_mark","points","lines","marks","place"] (ah bP) _ _=true;decide +kernel))
    (λ_ _ _ _ _=>au (i:=6) qt.nd rfl (.inl rfl) (.inr rfl)) (λ_ _ _ _ _=>eO) (λ_ _ _ _ _=>aE C2 hr2 (aa (pv 0) (aa (pv 6) ac))))
   (ad (cp (i:=4) (own:=[("place",6)]) rfl qt.nd rfl rfl (dC rfl rfl rfl (by decide +kernel)) (kP rfl gr (aa (pv 1) (aa (pv 2) (aa (bo gLB) ac)))) (bJ (by show iu ["cartoon","first_line","first_mark","points","lines","marks","place"] (ah bP) _ _=true;decide +kernel))
    (λ_ _ _ _ _=>au (i:=6) qt.nd rfl (.inl rfl) (.inr rfl)) (λ_ _ _ _ _=>eO) (λ_ _ _ _ _=>aE C3 hr2 (aa (pv 0) (aa (pv 6) ac))))
   (ad (cp (i:=5) (own:=[("place",6)]) rfl qt.nd rfl rfl (dC rfl rfl rfl (by decide +kernel)) (kP rfl gr (aa (pv 2) (aa (aU aM (by rfl) gl Gh (aa (pv 0) ac)) (aa (bo gMB) ac)))) (bJ (by show iu ["cartoon","first_line","first_mark","points","lines","marks","place"] (ah bP) _ _=true;decide +kernel))
    (λ_ _ _ _ _=>au (i:=6) qt.nd rfl (.inl rfl) (.inr rfl)) (λ_ _ _ _ _=>eO) (λ_ _ _ _ _=>aE C4 hr (aa (pv 0) (aa (pv 6) ac))))
   (ae (ak (oq C5 hr2 T.mgC (aa (aE C1 hr1 (aa (pv 0) (aa af (aa af ac)))) (aa (aE C1 hr1 (aa (pv 0) (aa af (aa af ac)))) (aa (pv 3) (aa (pv 4) (aa (pv 5) ac)))))))))))),?_⟩
  have b12:=sX hb 12
  have b14:=sX hb 14
  have b16:=sX hb 16
  have eP:rd ns 12 2=((P_ ns:Nat):Int):=by unfold P_;omega
  have eL:rd ns 14 2=((L_ ns:Nat):Int):=by unfold L_;omega
  have eM:rd ns 16 2=((M_ ns:Nat):Int):=by unfold M_;omega
  refine⟨_,rfl,a,ns,12,2,rfl,hl,λH1 s1=>⟨_,_,rfl,rfl,.inl ⟨by decide,by decide⟩,_,_,rfl,rfl,?_⟩⟩
  refine⟨_,rfl,_,rfl,a,ns,14,2,rfl,hl.same s1,λH2 s2=>⟨_,_,rfl,rfl,.inl ⟨by decide,by decide⟩,_,_,rfl,rfl,?_⟩⟩
  have sA:=s1.trans s2
  rw[eP,eL]
  have hP:(kt ns).length=P_ ns:=by unfold kt;rw[lmp,GI]
  have hL:(k7 ns).length=L_ ns:=by unfold k7;rw[lmp,GI]
  have hM:(kD ns).length=M_ ns:=by unfold kD;rw[lmp,GI]
  refine⟨_,rfl,_,_,_,P_ ns,rfl,rgc (by decide) (by decide) (by decide) (by decide) (by omega),λD hD=>?_⟩
  have hD0:=sA.free hD
  refine kS (λi H'=>PvR H D (kt ns) i H') (PvR.start sA hD) ?_ ?_
  ·intro i H' hi pv'
   refine⟨rfl,oe (eI ?_)⟩
   refine⟨_,rfl,_,rfl,a,ns,20+8*i,?_,hl.same pv'.same,λH3 q s3 hq=>?_⟩
   ·show [V.ref a,V.int (20+(i:Nat)*8)]=[V.ref a,V.int ((20+8*i:Nat):Int)]
    rw[show(20:Int)+(i:Nat)*8=((20+8*i:Nat):Int) by omega]
   have hDq:∃acc,H3 D=some (.lst acc):=by
    obtain⟨as,_,h2,_⟩:=pv'
    exact⟨_,s3 _ _ h2⟩
   have nq:q≠D:=λz=>by
    obtain⟨acc,h2⟩:=hDq
    rw[z,h2]at hq
    cases hq
   exact pv'.turn hD0 (by rw[hP];omega) (by unfold kt;rw[FA,HR hi];rfl) s3 hq nq
  intro H3 pv3
  obtain⟨s3,t3⟩:=pv3.done (by rw[hP];exact nlr _)
  refine⟨_,rfl,_,rfl,_,_,_,L_ ns,rfl,rgc (by decide) (by decide) (by omega) (by omega) (by omega),λD2 hD2=>?_⟩
  have hD20:=s3.free hD2
  refine kS (λi H'=>PvR H3 D2 (k7 ns) i H') (PvR.start (al.refl H3) hD2) ?_ ?_
  ·intro i H' hi pv'
   refine⟨rfl,oe (eI ?_)⟩
   refine⟨_,rfl,_,rfl,a,ns,20+8*P_ ns+4*i,?_,hl.same (s3.trans pv'.same),λH4 q s4 hq=>?_⟩
   ·show [V.ref a,V.int (20+8*((P_ ns:Nat):Int)+(i:Nat)*4)]=[V.ref a,V.int ((20+8*P_ ns+4*i:Nat):Int)]
    rw[show(20:Int)+8*((P_ ns:Nat):Int)+(i:Nat)*4=((20+8*P_ ns+4*i:Nat):Int) by omega]
   have nq:q≠D2:=λz=>by
    obtain⟨as,_,h2,_⟩:=pv'
    have h2:=s4 _ _ h2
    rw[z,h2]at hq
    cases hq
   exact pv'.turn hD2 (by rw[hL];omega) (by unfold k7;rw[FA,HR hi];rfl) s4 hq nq
  intro H4 pv4
  obtain⟨s4,t4⟩:=pv4.done (by rw[hL];exact nlr _)
  have hlM:(ns.length:Int)=20+8*((P_ ns:Nat):Int)+4*((L_ ns:Nat):Int)+12*((M_ ns:Nat):Int):=by
   rw[hlen]
   unfold told
   rw[eP,eL,eM]
  refine⟨_,rfl,_,rfl,a,_,rfl,.inl ((s3.trans s4).seq hl.1),_,_,_,M_ ns,rfl,?_,λD5 hD5=>?_⟩
  ·rw[lmp,hlM]
   exact rgc (by decide) (by decide) (by omega) (by omega) (by omega)
  refine kS (λi H'=>PvR H4 D5 (kD ns) i H') (PvR.start (al.refl H4) hD5) ?_ ?_
  ·intro i H' hi pv'
   refine⟨rfl,oe (eI ?_)⟩
   refine⟨_,rfl,_,rfl,a,ns,20+8*P_ ns+4*L_ ns+12*i,?_,hl.same (s3.trans (s4.trans pv'.same)),λH5 q s5 hq=>?_⟩
   ·show [V.ref a,V.int (20+8*((P_ ns:Nat):Int)+4*((L_ ns:Nat):Int)+(i:Nat)*12)]=[V.ref a,V.int ((20+8*P_ ns+4*L_ ns+12*i:Nat):Int)]
    rw[show(20:Int)+8*((P_ ns:Nat):Int)+4*((L_ ns:Nat):Int)+(i:Nat)*12=((20+8*P_ ns+4*L_ ns+12*i:Nat):Int) by omega]
   have nq:q≠D5:=λz=>by
    obtain⟨as,_,h2,_⟩:=pv'
    have h2:=s5 _ _ h2
    rw[z,h2]at hq
    cases hq
   exact pv'.turn hD5 (by rw[hM];omega) (by unfold kD;rw[FA,HR hi];rfl) s5 hq nq
  intro H5 pv5
  obtain⟨s5,t5⟩:=pv5.done (by rw[hM];exact nlr _)
  have sB:al H H5:=s3.trans (s4.trans s5)
  refine⟨_,rfl,a,ns,4,4,rfl,hl.same sB,λH6 s6=>?_⟩
  refine⟨_,rfl,a,ns,8,4,rfl,hl.same (sB.trans s6),λH7 s7=>?_⟩
  refine⟨_,rfl,_,rfl,_,rfl,λx dx nx ndx nex=>?_⟩
  refine⟨x,dx,_,_,D,D2,D5,rfl,ag,λH8 h8 kp=>⟨rfl,?_⟩⟩
  have s8:al H7 H8:=al.made nx ndx kp
  have sC:=s6.trans (s7.trans s8)
  refine k H8 x (sB.trans sC) ⟨dx,D,D2,D5,?_,?_,?_,?_⟩
  ·rw[h8]
   show some (HO.ins C dx (eQ (rd ns 4 4) (rd ns 8 4) D D2 D5))=_
   rw[cN hb,cN hb]
   rfl
  ·rw[<-uU hb]
   exact t3.same (s4.trans (s5.trans sC))
  ·rw[<-wa hb]
   exact t4.same (s5.trans sC)
  ·rw[<-wb hb]
   exact t5.same sC
def cD (K:GC)(H:Hp)(a:Fi)(p:Pt):Prop:=(∃gO:List Int,SqT K H a (iV ((p.x:Int) :: (p.y:Int) :: gO)))/\p.x<4294967296/\p.y<4294967296
theorem cD.same {K:GC}{H H':Hp}{a:Fi}{p:Pt}(h:cD K H a p)(s:al H H'):cD K H' a p:=by
 obtain⟨⟨r,h1⟩,h2⟩:=h
 exact⟨⟨r,iC s h1⟩,h2⟩
theorem aF {p:Prop}[Decidable p](h:¬decide p=true):¬p:=λz=>h (dqt z)
theorem cB {b:Bool}(h:b=true->False):b=false:=by
 cases b with
 |false=>rfl
 |true=>exact(h rfl).elim
def kF (K:GC):Sp:=λvs H Q _=>∃(a b c:Fi) (p q r:Pt),vs=[.ref a,.ref b,.ref c]/\cD K H a p/\cD K H b q/\cD K H c r/\Q (.int (G2 p q r)) H
theorem AF:ap ["p","q","r"] ["p","q","r"] (ah qo):=fsk
theorem yC (F:Has K mg "turn" qo ["p","q","r"]):Cb P w K mg base 1 "turn" ["p","q","r"] (kF K):=by
 refine F.cb AF (λvs H Q E h=>?_) (λ_ _ A _ s H vs Q E hr h=>?_)
 ·obtain⟨a,b,c,p,q,r,rfl,_⟩:=h
  rfl
 ·obtain⟨a,b,c,p,q,r,rfl,⟨⟨rp,hp⟩,b1⟩,⟨⟨rq,hq⟩,b2⟩,⟨⟨rr,hr'⟩,b3⟩,k⟩:=h
  refine⟨_,ae (ak (aT eu (aT dM (aT eu (aw aC (pv 1) af (λ_ _=>rfl)) (aw aC (pv 0) af (λ_ _=>rfl))) (aT eu (aw aC (pv 2) af (λ_ _=>rfl)) (aw aC (pv 1) af (λ_ _=>rfl)))) (aT dM (aT eu (aw aC (pv 1) af (λ_ _=>rfl)) (aw aC (pv 0) af (λ_ _=>rfl))) (aT eu (aw aC (pv 2) af (λ_ _=>rfl)) (aw aC (pv 1) af (λ_ _=>rfl)))))),?_⟩
  exact⟨_,rfl,b,_,_,_,rfl,rfl,hq,aA (j:=0) rfl rfl,_,rfl,a,_,_,_,rfl,rfl,hp,aA (j:=0) rfl rfl,_,_,rfl,rfl,_,rfl,c,_,_,_,rfl,rfl,hr',aA (j:=1) rfl rfl,_,rfl,b,_,_,_,rfl,rfl,hq,aA (j:=1) rfl rfl,_,_,rfl,rfl,_,_,rfl,rfl,.inl ⟨by omega,by omega⟩,_,rfl,b,_,_,_,rfl,rfl,hq,aA (j:=1) rfl rfl,_,rfl,a,_,_,_,rfl,rfl,hp,aA (j:=1) rfl rfl,_,_,rfl,rfl,_,rfl,c,_,_,_,rfl,rfl,hr',aA (j:=0) rfl rfl,_,rfl,b,_,_,_,rfl,rfl,hq,aA (j:=0) rfl rfl,_,_,rfl,rfl,_,_,rfl,rfl,.inl ⟨by omega,by omega⟩,_,_,rfl,rfl,k⟩
def x6 (K:GC):Sp:=λvs H Q _=>∃(a b:Fi) (q p:Pt),vs=[.ref a,.ref b]/\cD K H a q/\cD K H b p/\∀H':Hp,al H H'->Q (.bl (p.below q)) H'
theorem Fe:ap ["q","p"] ["q","p"] (ah ek):=fsk
theorem uZ (p q:Pt):gL [(q.y:Int),(q.x:Int)] [(p.y:Int),(p.x:Int)]=p.below q:=by
 rw[jD,jD]
 unfold Pt.below
 have e0:gL [] []=false:=rfl
 rw[e0,Ge]
 by_cases c:(q.y:Int)=(p.y:Int)
 ·rw[Fs c]
  by_cases d:(q.x:Int)=(p.x:Int)
  ·rw[Fs d]
   simp
   omega
  ·rw[Fl d]
   simp
   omega
 ·rw[Fl c]
  simp
  omega
theorem Cd (F:Has K mg "comes_behind" ek ["q","p"]):Cb P w K mg base 1 "comes_behind" ["q","p"] (x6 K):=by
 refine F.cb Fe (λvs H Q E h=>?_) (λ_ _ A _ s H vs Q E hr h=>?_)
 ·obtain⟨a,b,q,p,rfl,_⟩:=h
  rfl
 ·obtain⟨a,b,q,p,rfl,⟨⟨rq,hq⟩,_⟩,⟨⟨rp,hp⟩,_⟩,k⟩:=h
  refine⟨_,ae (ak (cf (AU hr.units0) (bv (aa (aw aC (pv 0) af (λ_ _=>rfl)) (aa (aw aC (pv 0) af (λ_ _=>rfl)) ac))) (bv (aa (aw aC (pv 1) af (λ_ _=>rfl)) (aa (aw aC (pv 1) af (λ_ _=>rfl)) ac))) (aH _))),?_⟩
  refine⟨_,rfl,a,_,_,_,rfl,rfl,hq,aA (j:=1) rfl rfl,_,rfl,a,_,_,_,rfl,rfl,hq,aA (j:=0) rfl rfl,(by show 2<=Fk;decide),λt ht=>?_⟩
  have s1:al H (upd H t (.tup [.int (q.y:Int),.int (q.x:Int)])):=aL ht
  refine⟨_,rfl,b,_,_,_,rfl,rfl,(iC s1 hp),aA (j:=1) rfl rfl,_,rfl,b,_,_,_,rfl,rfl,(iC s1 hp),aA (j:=0) rfl rfl,(by show 2<=Fk;decide),λu hu=>?_⟩
  have s2:=aY (o:=.tup [.int (p.y:Int),.int (p.x:Int)]) s1 hu
  have ntu:t≠u:=λz=>by rw[<-z,ag]at hu;cases hu
  refine⟨t,u,[(q.y:Int),(q.x:Int)],[(p.y:Int),(p.x:Int)],rfl,rfl,SqT.of (by rw[aq ntu];exact ag),SqT.of ag,?_⟩
  rw[uZ]
  exact k _ s2
def vd (p q r:Pt):Bool:=Gla.between p.x q.x r.x&&Gla.between p.y q.y r.y
theorem tV {p q r:Pt}:vd p q r=true↔(min p.x q.x<=r.x/\r.x<=max p.x q.x)/\(min p.y q.y<=r.y/\r.y<=max p.y q.y):=by
 unfold vd Gla.between
 simp only[Fn,Fq]
def Ac (K:GC):Sp:=λvs H Q _=>∃(a b c:Fi) (p q r:Pt),vs=[.ref a,.ref b,.ref c]/\cD K H a p/\cD K H b q/\cD K H c r/\Q (.bl (vd p q r)) H
theorem Ej:ap ["p","q","r"] ["p","q","r"] (ah fY):=fsk
theorem pc:HL "min"=some (.builtin "min"):=by decide +kernel
theorem oS:HL "max"=some (.builtin "max"):=by decide +kernel
theorem qf (a b:Nat):(if (b:Int)<(a:Int) then (b:Int) else (a:Int))=((min a b:Nat):Int):=by
 split<;>omega
theorem tF (a b:Nat):(if (b:Int) > (a:Int) then (b:Int) else (a:Int))=((max a b:Nat):Int):=by
 split<;>omega
theorem Bt (F:Has K mg "is_in_box" fY ["p","q","r"]) (gmi:mg "min"=none) (gma:mg "max"=none):Cb P w K mg base 1 "is_in_box" ["p","q","r"] (Ac K):=by
 refine F.cb Ej (λvs H Q E h=>?_) (λ_ _ A _ s H vs Q E hr h=>?_)
 ·obtain⟨a,b,c,p,q,r,rfl,_⟩:=h
  rfl
 ·obtain⟨a,b,c,p,q,r,rfl,⟨⟨rp,hp⟩,b1⟩,⟨⟨rq,hq⟩,b2⟩,⟨⟨rr,hr'⟩,b3⟩,k⟩:=h
  refine⟨_,ae (ak (iH
   (kl lr lr (aU (pB rfl) (by rfl) gmi pc (aa (aw aC (pv 0) af (λ_ _=>rfl)) (aa (aw aC (pv 1) af (λ_ _=>rfl)) ac))) (aw aC (pv 2) af (λ_ _=>rfl)) (aU (oH rfl) (by rfl) gma oS (aa (aw aC (pv 0) af (λ_ _=>rfl)) (aa (aw aC (pv 1) af (λ_ _=>rfl)) ac))))
   (eq (kl lr lr (aU (pB rfl) (by rfl) gmi pc (aa (aw aC (pv 0) af (λ_ _=>rfl)) (aa (aw aC (pv 1) af (λ_ _=>rfl)) ac))) (aw aC (pv 2) af (λ_ _=>rfl)) (aU (oH rfl) (by rfl) gma oS (aa (aw aC (pv 0) af (λ_ _=>rfl)) (aa (aw aC (pv 1) af (λ_ _=>rfl)) ac))))))),?_⟩
  have no:¬((min p.x q.x<=r.x/\r.x<=max p.x q.x)/\(min p.y q.y<=r.y/\r.y<=max p.y q.y))->Q (.bl false) H:=λz=>by
   rw[cB λe=>z (tV.1 e)]at k
   exact k
  refine⟨_,rfl,a,_,_,_,rfl,rfl,hp,aA (j:=0) rfl rfl,_,rfl,b,_,_,_,rfl,rfl,hq,aA (j:=0) rfl rfl,_,_,rfl,_,rfl,c,_,_,_,rfl,rfl,hr',aA (j:=0) rfl rfl,_,_,rfl,rfl,_,rfl,aQ (λc1=>?_) (λc1=>?_)⟩
  ·have c1:=Ff c1
   rw[qf]at c1
   refine⟨_,rfl,a,_,_,_,rfl,rfl,hp,aA (j:=0) rfl rfl,_,rfl,b,_,_,_,rfl,rfl,hq,aA (j:=0) rfl rfl,_,_,rfl,_,_,rfl,rfl,_,rfl,aQ (λc2=>?_) (λc2=>?_)⟩
   ·have c2:=Ff c2
    rw[tF]at c2
    refine⟨_,rfl,a,_,_,_,rfl,rfl,hp,aA (j:=1) rfl rfl,_,rfl,b,_,_,_,rfl,rfl,hq,aA (j:=1) rfl rfl,_,_,rfl,_,rfl,c,_,_,_,rfl,rfl,hr',aA (j:=1) rfl rfl,_,_,rfl,rfl,_,rfl,aQ (λc3=>?_) (λc3=>?_)⟩
    ·have c3:=Ff c3
     rw[qf]at c3
     refine⟨_,rfl,a,_,_,_,rfl,rfl,hp,aA (j:=1) rfl rfl,_,rfl,b,_,_,_,rfl,rfl,hq,aA (j:=1) rfl rfl,_,_,rfl,_,_,rfl,rfl,?_⟩
     rw[tF]
     have e:vd p q r=decide ((r.y:Int)<=((max p.y q.y:Nat):Int)):=by
      rw[Ge,tV,Fq]
      omega
     rw[e]at k
     exact k
    ·have c3:=aF c3
     rw[qf]at c3
     exact no (by omega)
   ·have c2:=aF c2
    rw[tF]at c2
    exact no (by omega)
  ·have c1:=aF c1
   rw[qf]at c1
   exact⟨_,rfl,jy (no (by omega))⟩
def BL (K:GC):Sp:=λvs H Q _=>∃(a b c:Fi) (p q r:Pt),vs=[.ref a,.ref b,.ref c]/\cD K H a p/\cD K H b q/\cD K H c r/\Q (.bl (Gla.isOn p q r)) H
theorem EW:ap ["p","q","r"] ["p","q","r"] (ah l6):=fsk
theorem B1 (F:Has K mg "is_on" l6 ["p","q","r"]) (C1:Cb P w K mg base 1 "turn" ["p","q","r"] (kF K)) (C2:Cb P w K mg base 1 "is_in_box" ["p","q","r"] (Ac K)):Cb P w K mg base 2 "is_on" ["p","q","r"] (BL K):=by
 refine F.cb EW (λvs H Q E h=>?_) (λ_ _ A _ s H vs Q E hr h=>?_)
 ·obtain⟨a,b,c,p,q,r,rfl,_⟩:=h
  rfl
 ·obtain⟨a,b,c,p,q,r,rfl,hp,hq,hr',k⟩:=h
  refine⟨_,ae (ak (iH (cf jS (aE C1 hr (aa (pv 0) (aa (pv 1) (aa (pv 2) ac)))) af (aH _)) (eq (aE C2 hr (aa (pv 0) (aa (pv 1) (aa (pv 2) ac))))))),?_⟩
  refine⟨_,rfl,_,rfl,_,rfl,a,b,c,p,q,r,rfl,hp,hq,hr',rfl,_,rfl,aQ (λc1=>?_) (λc1=>?_)⟩
  ·have c1:=V.int.inj (Ff c1)
   refine⟨_,rfl,_,rfl,_,rfl,a,b,c,p,q,r,rfl,hp,hq,hr',?_⟩
   have e:Gla.isOn p q r=vd p q r:=by
    unfold Gla.isOn vd
    rw[c1]
    rfl
   rw[e]at k
   exact k
  ·have e:Gla.isOn p q r=false:=by
    unfold Gla.isOn
    have:(G2 p q r==0)=false:=by
     rw[GR]
     intro z
     exact c1 (dqt (by rw[z]))
    rw[this]
    rfl
   rw[e]at k
   exact k
def rS (p q r s:Pt):Bool:=decide (G2 p q r*G2 p q s<0)
theorem qI (a b:Int):a*b<0↔(a<0/\0<b)\/(0<a/\b<0):=by
 constructor
 ·intro h
  rcases Int.lt_trichotomy a 0 with c|c|c
  ·left
   refine⟨c,?_⟩
   apply bcn
   intro d
   have:0<=(-a)*(-b):=Fo (by omega) (by omega)
   grind
  ·rw[c]at h
   simp at h
  ·right
   refine⟨c,?_⟩
   apply bcn
   intro d
   have:0<=a*b:=Fo (by omega) (by omega)
   omega
 ·rintro(⟨h1,h2⟩|⟨h1,h2⟩)
  ·exact Int.mul_neg_of_neg_of_pos h1 h2
  ·exact Int.mul_neg_of_pos_of_neg h1 h2
def xa (K:GC):Sp:=λvs H Q _=>∃(a b c d:Fi) (p q r s:Pt),vs=[.ref a,.ref b,.ref c,.ref d]/\cD K H a p/\cD K H b q/\cD K H c r/\cD K H d s/\Q (.bl (rS p q r s)) H
theorem sT:ap ["p","q","r","s","one","other"] ["p","q","r","s"] (ah fc):=fsk
theorem yV (F:Has K mg "are_parted" fc ["p","q","r","s"]) (C1:Cb P w K mg base 1 "turn" ["p","q","r"] (kF K)):Cb P w K mg base 2 "are_parted" ["p","q","r","s"] (xa K):=by
 refine F.cb sT (λvs H Q E h=>?_) (λ_ _ A _ s H vs Q E hr h=>?_)
 ·obtain⟨a,b,c,d,p,q,r,s,rfl,_⟩:=h
  rfl
 ·obtain⟨a,b,c,d,p,q,r,s',rfl,hp,hq,hr',hs,k⟩:=h
  refine⟨_,ad (aB (i:=4) sT.nd rfl (.inl rfl) (aE C1 hr (aa (pv 0) (aa (pv 1) (aa (pv 2) ac)))))
   (ad (aB (i:=5) sT.nd rfl (.inl rfl) (aE C1 hr (aa (pv 0) (aa (pv 1) (aa (pv 3) ac)))))
   (ae (ak (rN (iH (cf fT (pv 4) af (aH _)) (eq (cf dY (pv 5) af (aH _)))) (eq (iH (cf dY (pv 4) af (aH _)) (eq (cf fT (pv 5) af (aH _))))))))),?_⟩
  refine⟨_,rfl,_,rfl,_,rfl,a,b,c,p,q,r,rfl,hp,hq,hr',?_⟩
  refine⟨_,rfl,_,rfl,_,rfl,a,b,d,p,q,s',rfl,hp,hq,hs,?_⟩
  have yes:(G2 p q r<0/\0<G2 p q s')\/(0<G2 p q r/\G2 p q s'<0)->Q (.bl true) H:=λz=>by
   have e:rS p q r s'=true:=dqt ((qI _ _).2 z)
   rw[e]at k
   exact k
  have no:¬((G2 p q r<0/\0<G2 p q s')\/(0<G2 p q r/\G2 p q s'<0))->Q (.bl false) H:=λz=>by
   have e:rS p q r s'=false:=dqf (λy=>z ((qI _ _).1 y))
   rw[e]at k
   exact k
  have second:¬(G2 p q r<0/\0<G2 p q s')->Ao (tOp (rI0 λi j=>.bl (decide (j<i))) (a5 4) (tC (.int 0))) (tOp (rI0 λi j=>.bl (decide (i<j))) (a5 5) (tC (.int 0))) [some (.ref a),some (.ref b),some (.ref c),some (.ref d),some (.int (G2 p q r)),some (.int (G2 p q s'))] H Q:=λz=>by
   refine⟨_,rfl,_,_,rfl,rfl,_,rfl,aQ (λc2=>?_) (λc2=>?_)⟩
   ·have c2:=Ff c2
    refine⟨_,rfl,_,_,rfl,rfl,?_⟩
    show Q (.bl (decide (G2 p q s'<0))) H
    by_cases d2:G2 p q s'<0
    ·rw[dqt d2]
     exact yes (GA ⟨c2,d2⟩)
    ·rw[dqf d2]
     exact no (by omega)
   ·have c2:=aF c2
    exact no (by omega)
  refine⟨_,rfl,_,_,rfl,rfl,_,rfl,aQ (λc1=>?_) (λc1=>?_)⟩
  ·have c1:=Ff c1
   refine⟨_,rfl,_,_,rfl,rfl,_,rfl,aQ (λc2=>?_) (λc2=>?_)⟩
   ·have c2:=Ff c2
    exact yes (G3 ⟨c1,c2⟩)
   ·have c2:=aF c2
    exact second (by omega)
  ·have c1:=aF c1
   exact⟨_,rfl,jy (second (by omega))⟩
def uk (K:GC):Sp:=λvs H Q _=>∃(a b c d:Fi) (p q r s:Pt),vs=[.ref a,.ref b,.ref c,.ref d]/\cD K H a p/\cD K H b q/\cD K H c r/\cD K H d s/\Q (.bl (Gla.crosses p q r s)) H
theorem yZ:ap ["p","q","r","s"] ["p","q","r","s"] (ah gW):=fsk
theorem yd (F:Has K mg "do_cross" gW ["p","q","r","s"]) (C1:Cb P w K mg base 2 "are_parted" ["p","q","r","s"] (xa K)):Cb P w K mg base 3 "do_cross" ["p","q","r","s"] (uk K):=by
 refine F.cb yZ (λvs H Q E h=>?_) (λ_ _ A _ s H vs Q E hr h=>?_)
 ·obtain⟨a,b,c,d,p,q,r,s,rfl,_⟩:=h
  rfl
 ·obtain⟨a,b,c,d,p,q,r,s',rfl,hp,hq,hr',hs,k⟩:=h
  refine⟨_,ae (ak (iH (aE C1 hr (aa (pv 0) (aa (pv 1) (aa (pv 2) (aa (pv 3) ac))))) (eq (aE C1 hr (aa (pv 2) (aa (pv 3) (aa (pv 0) (aa (pv 1) ac)))))))),?_⟩
  have e:Gla.crosses p q r s'=(rS p q r s'&&rS r s' p q):=rfl
  rw[e]at k
  refine⟨_,rfl,_,rfl,_,rfl,_,rfl,a,b,c,d,p,q,r,s',rfl,hp,hq,hr',hs,_,rfl,aQ (λc1=>?_) (λc1=>?_)⟩
  ·refine⟨_,rfl,_,rfl,_,rfl,_,rfl,c,d,a,b,r,s',p,q,rfl,hr',hs,hp,hq,?_⟩
   rw[c1,GK]at k
   exact k
  ·have c1:=cB c1
   rw[c1,Go]at k
   exact k
def PL (K:GC)(H:Hp)(a:Fi)(ps:List Pt):Prop:=∃as:List Fi,SqL K H a (as.map V.ref)/\as.length=ps.length/\∀(i:Nat) (b:Fi) (p:Pt),as[i]? = some b->ps[i]? = some p->cD K H b p
def crs (a b:Pt):Int:=(a.x:Int)*(b.y:Int)-(a.y:Int)*(b.x:Int)
def dj:Pt->List Pt->Int
 |_,[]=>0
 |l,c :: r=>crs l c+dj c r
def cR (p q r:Pt):Bool:=if p.y<=r.y/\r.y<q.y then decide (0<G2 p q r) else if q.y<=r.y/\r.y<p.y then decide (0<G2 q p r) else false
def eW (z:Pt):Pt->List Pt->Bool
 |_,[]=>false
 |l,c :: r=>cR l c z^^eW z c r
theorem j8 {α:Type}{ps:List α}(h:ps≠[]):∃(init:List α) (l:α),ps=init++[l]:=by
 rcases Il ps with e|⟨i,l,e⟩
 ·exact absurd e h
 ·exact⟨i,l,by rw[e,IQ]⟩
theorem PL.last {H:Hp}{a:Fi}{ps init:List Pt}{l:Pt}(h:PL K H a ps)(e:ps=init++[l]):∃(as:List Fi) (la:Fi),SqL K H a (as.map V.ref)/\as.length=ps.length/\atI (as.map V.ref) (-1)=some (.ref la)/\cD K H la l /\
  ∀(i:Nat) (b:Fi) (p:Pt),as[i]? = some b->ps[i]? = some p->cD K H b p:=by
 obtain⟨as,h1,h2,h3⟩:=h
 have hne:as≠[]:=λz=>by
  rw[z,e,Fm]at h2
  simp at h2
 obtain⟨ai,la,ea⟩:=j8 hne
 refine⟨as,la,h1,h2,?_,?_,h3⟩
 ·rw[ea,FP]
  exact mw _ _
 ·have hl:ai.length=init.length:=by
   rw[ea,e,Fm,Fm]at h2
   simpa using h2
  refine h3 ai.length la l ?_ ?_
  ·rw[ea,FE (nlr _),GX]
   rfl
  ·rw[e,hl,FE (nlr _),GX]
   rfl
def wO (K:GC):Sp:=λvs H Q _=>∃(a:Fi) (ps init:List Pt) (l:Pt),vs=[.ref a]/\PL K H a ps/\ps=init++[l]/\Q (.int (dj l ps)) H
theorem kT:ap ["corners","total","last","corner"] ["corners"] (ah fj):=fsk
theorem y8 (F:Has K mg "twice_area" fj ["corners"]):Cb P w K mg base 1 "twice_area" ["corners"] (wO K):=by
 refine F.cb kT (λvs H Q E h=>?_) (λ_ _ A _ s H vs Q E hr h=>?_)
 ·obtain⟨a,ps,init,l,rfl,_⟩:=h
  rfl
 ·obtain⟨a,ps,init,l,rfl,hl,ei,k⟩:=h
  obtain⟨as,la,h1,h2,h3,h4,h5⟩:=hl.last ei
  refine⟨_,ad (aB (i:=1) kT.nd rfl (.inl rfl) af)
   (ad (aB (i:=2) kT.nd rfl (.inl rfl) (aw aS (pv 0) (lD i4 af) (λ_ _=>rfl)))
   (ad (bw FC rfl (bL (pv 0)) (au (i:=3) kT.nd rfl (.inl rfl))
    (ad (wn (i:=1) kT.nd rfl (.inl rfl) (aT eu (aT dM (aw aC (pv 2) af (λ_ _=>rfl)) (aw aC (pv 3) af (λ_ _=>rfl))) (aT dM (aw aC (pv 2) af (λ_ _=>rfl)) (aw aC (pv 3) af (λ_ _=>rfl)))) xT) (ae (aB (i:=2) kT.nd rfl (.inl rfl) (pv 3)))))
   (ae (ak (pv 1))))),?_⟩
  refine⟨_,rfl,_,rfl,a,_,_,_,rfl,rfl,h1,h3,?_⟩
  refine⟨_,rfl,a,rfl,⟨_,h1⟩,eg (K:=K) (a:=a) (xs:=as.map V.ref) (λi σ H'=>H'=H/\∃(t:Int) (lb:Fi) (lp:Pt) (v:Option V),σ=[some (.ref a),some (.int t),some (.ref lb),v]/\cD K H lb lp/\t+dj lp (ps.drop i)=dj l ps)
   ⟨rfl,0,la,l,none,rfl,h4,by rw[List.drop_zero,Int.zero_add]⟩ (λi σ H' _ h=>by rw[h.1];exact h1) ?_ ?_⟩
  ·rintro i y σ H' hi ⟨rfl,t,lb,lp,v,rfl,⟨⟨rl,hlb⟩,b1⟩,ht⟩
   obtain⟨c,hc,rfl⟩:=cg hi
   have hil:i<ps.length:=by rw[<-h2];exact(gsi hc).1
   have hp:ps[i]? = some ps[i]:=gge hil
   have hpt:=h5 i c ps[i] hc hp
   obtain⟨⟨rc,hcc⟩,b2⟩:=id hpt
   refine⟨_,rfl,_,rfl,lb,_,_,_,rfl,rfl,hlb,aA (j:=0) rfl rfl,_,rfl,c,_,_,_,rfl,rfl,hcc,aA (j:=1) rfl rfl,_,_,rfl,rfl,.inl ⟨by omega,by omega⟩,_,rfl,lb,_,_,_,rfl,rfl,hlb,aA (j:=1) rfl rfl,_,rfl,c,_,_,_,rfl,rfl,hcc,aA (j:=0) rfl rfl,_,_,rfl,rfl,.inl ⟨by omega,by omega⟩,_,_,rfl,rfl,_,_,rfl,rfl,_,rfl,?_⟩
   refine⟨rfl,_,c,ps[i],_,rfl,hpt,?_⟩
   rw[<-ht,Ht hil]
   show t+crs lp ps[i]+dj ps[i] (ps.drop (i+1))=t+(crs lp ps[i]+dj ps[i] (ps.drop (i+1)))
   omega
  ·rintro σ H' ⟨rfl,t,lb,lp,v,rfl,_,ht⟩
   refine⟨_,rfl,?_⟩
   rw[lmp,h2,List.drop_length]at ht
   have e:t=dj l ps:=by
    rw[<-ht]
    show t=t+0
    omega
   rw[e]
   exact k
def Ae (K:GC):Sp:=λvs H Q _=>∃(a b c:Fi) (p q r:Pt),vs=[.ref a,.ref b,.ref c]/\cD K H a p/\cD K H b q/\cD K H c r/\Q (.bl (cR p q r)) H
theorem CU:ap ["p","q","r"] ["p","q","r"] (ah dw):=fsk
theorem AT (F:Has K mg "is_left_beside" dw ["p","q","r"]) (C1:Cb P w K mg base 1 "turn" ["p","q","r"] (kF K)):Cb P w K mg base 2 "is_left_beside" ["p","q","r"] (Ae K):=by
 refine F.cb CU (λvs H Q E h=>?_) (λ_ _ A _ s H vs Q E hr h=>?_)
 ·obtain⟨a,b,c,p,q,r,rfl,_⟩:=h
  rfl
 ·obtain⟨a,b,c,p,q,r,rfl,hp0,hq0,hr0,k⟩:=h
  obtain⟨⟨rp,hp⟩,b1⟩:=id hp0
  obtain⟨⟨rq,hq⟩,b2⟩:=id hq0
  obtain⟨⟨rr,hr'⟩,b3⟩:=id hr0
  refine⟨_,ad (aX (ni lr fT (aw aC (pv 0) af (λ_ _=>rfl)) (aw aC (pv 2) af (λ_ _=>rfl)) (aw aC (pv 1) af (λ_ _=>rfl))) (ae (ak (cf dY (aE C1 hr (aa (pv 0) (aa (pv 1) (aa (pv 2) ac)))) af (aH _)))) aI)
   (ad (aX (ni lr fT (aw aC (pv 1) af (λ_ _=>rfl)) (aw aC (pv 2) af (λ_ _=>rfl)) (aw aC (pv 0) af (λ_ _=>rfl))) (ae (ak (cf dY (aE C1 hr (aa (pv 1) (aa (pv 0) (aa (pv 2) ac)))) af (aH _)))) aI)
   (ae (ak d9))),?_⟩
  have first:p.y<=r.y/\r.y<q.y->Q (.bl (decide (0<G2 p q r))) H:=λz=>by
   unfold cR at k
   rw[Fs z]at k
   exact k
  have second:¬(p.y<=r.y/\r.y<q.y)->AA (tp (eY (sL (rI0 λi j=>.bl (decide (i<=j))) (rI0 λi j=>.bl (decide (i<j))) (tOp (pI K) (a5 1) (tC (.int 1))) (tOp (pI K) (a5 2) (tC (.int 1))) (tOp (pI K) (a5 0) (tC (.int 1)))))
    (mO (tOp (rI0 λi j=>.bl (decide (j<i))) (lI (kF K) [] E0 (bD (a5 1) (bD (a5 0) (bD (a5 2) fI)))) (tC (.int 0)))) nt) (mO (tC (.bl false))) { nx:=λ_ H'=>Q .non H',rt:=Q } [some (.ref a),some (.ref b),some (.ref c)] H:=λz=>by
   refine⟨_,rfl,b,_,_,_,rfl,rfl,hq,aA (j:=1) rfl rfl,_,rfl,c,_,_,_,rfl,rfl,hr',aA (j:=1) rfl rfl,_,_,rfl,rfl,_,rfl,aQ (λc1=>?_) (λc1=>?_)⟩
   ·have c1:=Ff c1
    refine⟨_,rfl,a,_,_,_,rfl,rfl,hp,aA (j:=1) rfl rfl,_,_,rfl,rfl,_,rfl,aQ (λc2=>?_) (λc2=>?_)⟩
    ·have c2:=Ff c2
     refine⟨_,rfl,_,rfl,_,rfl,b,a,c,q,p,r,rfl,hq0,hp0,hr0,_,_,rfl,rfl,?_⟩
     unfold cR at k
     rw[Fl z,Fs (by omega)]at k
     exact k
    ·have c2:=aF c2
     unfold cR at k
     rw[Fl z,Fl (by omega)]at k
     exact k
   ·have c1:=aF c1
    unfold cR at k
    rw[Fl z,Fl (by omega)]at k
    exact⟨_,rfl,jy k⟩
  refine⟨_,rfl,a,_,_,_,rfl,rfl,hp,aA (j:=1) rfl rfl,_,rfl,c,_,_,_,rfl,rfl,hr',aA (j:=1) rfl rfl,_,_,rfl,rfl,_,rfl,aQ (λc1=>?_) (λc1=>?_)⟩
  ·have c1:=Ff c1
   refine⟨_,rfl,b,_,_,_,rfl,rfl,hq,aA (j:=1) rfl rfl,_,_,rfl,rfl,_,rfl,aQ (λc2=>?_) (λc2=>?_)⟩
   ·have c2:=Ff c2
    exact⟨_,rfl,_,rfl,_,rfl,a,b,c,p,q,r,rfl,hp0,hq0,hr0,_,_,rfl,rfl,first (by omega)⟩
   ·have c2:=aF c2
    exact second (by omega)
  ·have c1:=aF c1
   exact⟨_,rfl,jy (second (by omega))⟩
def Cz (K:GC):Sp:=λvs H Q _=>∃(a c:Fi) (ps init:List Pt) (l z:Pt),vs=[.ref a,.ref c]/\PL K H a ps/\ps=init++[l]/\cD K H c z/\Q (.bl (eW z l ps)) H
theorem vN:ap ["corners","r","inside","last","corner"] ["corners","r"] (ah gh):=fsk
theorem CQ (F:Has K mg "is_inside" gh ["corners","r"]) (C1:Cb P w K mg base 2 "is_left_beside" ["p","q","r"] (Ae K)):Cb P w K mg base 3 "is_inside" ["corners","r"] (Cz K):=by
 refine F.cb vN (λvs H Q E h=>?_) (λ_ _ A _ s H vs Q E hr h=>?_)
 ·obtain⟨a,c,ps,init,l,z,rfl,_⟩:=h
  rfl
 ·obtain⟨a,c,ps,init,l,z,rfl,hl,ei,hz,k⟩:=h
  obtain⟨as,la,h1,h2,h3,h4,h5⟩:=hl.last ei
  refine⟨_,ad (aB (i:=2) vN.nd rfl (.inl rfl) d9)
   (ad (aB (i:=3) vN.nd rfl (.inl rfl) (aw aS (pv 0) (lD i4 af) (λ_ _=>rfl)))
   (ad (bw FC rfl (bL (pv 0)) (au (i:=4) vN.nd rfl (.inl rfl))
    (ad (aX (cA (aE C1 hr (aa (pv 3) (aa (pv 4) (aa (pv 1) ac))))) (ae (aB (i:=2) vN.nd rfl (.inl rfl) (xu (pv 2)))) aI) (ae (aB (i:=3) vN.nd rfl (.inl rfl) (pv 4)))))
   (ae (ak (pv 2))))),?_⟩
  refine⟨_,rfl,_,rfl,a,_,_,_,rfl,rfl,h1,h3,?_⟩
  refine⟨_,rfl,a,rfl,⟨_,h1⟩,eg (K:=K) (a:=a) (xs:=as.map V.ref) (λi σ H'=>H'=H/\∃(t:Bool) (lb:Fi) (lp:Pt) (v:Option V),σ=[some (.ref a),some (.ref c),some (.bl t),some (.ref lb),v]/\cD K H lb lp/\(t^^eW z lp (ps.drop i))=eW z l ps)
   ⟨rfl,false,la,l,none,rfl,h4,by rw[List.drop_zero,GB]⟩ (λi σ H' _ h=>by rw[h.1];exact h1) ?_ ?_⟩
  ·rintro i y σ H' hi ⟨rfl,t,lb,lp,v,rfl,hlb,ht⟩
   obtain⟨cc,hc,rfl⟩:=cg hi
   have hil:i<ps.length:=by rw[<-h2];exact(gsi hc).1
   have hp:ps[i]? = some ps[i]:=gge hil
   have hpt:=h5 i cc ps[i] hc hp
   rw[Ht hil]at ht
   have ht:(t^^(cR lp ps[i] z^^eW z ps[i] (ps.drop (i+1))))=eW z l ps:=ht
   refine⟨_,rfl,_,rfl,_,rfl,lb,cc,c,lp,ps[i],z,rfl,hlb,hpt,hz,_,rfl,aQ (λc1=>?_) (λc1=>?_)⟩
   ·refine⟨_,rfl,_,rfl,_,rfl,?_⟩
    refine⟨rfl,!t,cc,ps[i],_,rfl,hpt,?_⟩
    rw[<-ht,c1]
    cases t<;>cases eW z ps[i] (ps.drop (i+1))<;>rfl
   ·refine⟨_,rfl,?_⟩
    refine⟨rfl,t,cc,ps[i],_,rfl,hpt,?_⟩
    rw[<-ht,cB c1,GB]
  ·rintro σ H' ⟨rfl,t,lb,lp,v,rfl,_,ht⟩
   refine⟨_,rfl,?_⟩
   rw[lmp,h2,List.drop_length]at ht
   have e:t=eW z l ps:=by
    rw[<-ht]
    show t=(t^^false)
    rw[GZ]
   rw[e]
   exact k
structure SB (S:Gla.Plan):Prop where
 pts:∀p∈S.pts,p.x<4294967296/\p.y<4294967296
 mks:∀m∈S.marks,m.at_.x<4294967296/\m.at_.y<4294967296
 np:S.pts.length<=100000
 nl:S.lines.length<=100000
 nm:S.marks.length<=100000
structure Op (K:GC)(C:Fi)(H:Hp)(a dx p l m:Fi)(S:Gla.Plan)(ps ls ms:List Fi):Prop where
 at_:H a=some (.ins C dx (eQ S.w S.h p l m))
 pl:H p=some (.lst (ps.map V.ref))
 ll:H l=some (.lst (ls.map V.ref))
 ml:H m=some (.lst (ms.map V.ref))
 pn:ps.length=S.pts.length
 ln:ls.length=S.lines.length
 mn:ms.length=S.marks.length
 pt:∀(i:Nat) (b:Fi),ps[i]? = some b->H b=some (.tup (iV (fJ (S.pt i))))
 li:∀(i:Nat) (b:Fi) (x:Nat×Nat),ls[i]? = some b->S.lines[i]? = some x->H b=some (.tup (iV (tX x)))
 ma:∀(i:Nat) (b:Fi) (x:Jk),ms[i]? = some b->S.marks[i]? = some x->H b=some (.tup (iV (ke x)))
theorem bz.op {K:GC}{C:Fi}{H:Hp}{a:Fi}{S:Gla.Plan}(h:bz C H a S):∃dx p l m ps ls ms,Op K C H a dx p l m S ps ls ms:=by
 obtain⟨dx,p,l,m,h1,⟨ps,p1,p2,p3⟩,⟨ls,l1,l2,l3⟩,⟨ms,m1,m2,m3⟩⟩:=h
 rw[lmp]at p2 l2 m2
 refine⟨dx,p,l,m,ps,ls,ms,h1,p1,l1,m1,p2,l2,m2,λi b e=>?_,λi b x e1 e2=>?_,λi b x e1 e2=>?_⟩
 ·have hi:i<S.pts.length:=by rw[<-p2];exact(gsi e).1
  exact p3 i b _ e (by rw[FA,gge hi,WL.bH S hi];rfl)
 ·exact l3 i b _ e1 (by rw[FA,e2];rfl)
 ·exact m3 i b _ e1 (by rw[FA,e2];rfl)
theorem Op.same {K:GC}{C:Fi}{H H':Hp}{a dx p l m:Fi}{S:Gla.Plan}{ps ls ms:List Fi}(o:Op K C H a dx p l m S ps ls ms)(s:al H H'):Op K C H' a dx p l m S ps ls ms :=
 ⟨s _ _ o.at_,s _ _ o.pl,s _ _ o.ll,s _ _ o.ml,o.pn,o.ln,o.mn,λi b e=>s _ _ (o.pt i b e),λi b x e1 e2=>s _ _ (o.li i b x e1 e2),λi b x e1 e2=>s _ _ (o.ma i b x e1 e2)⟩
theorem Op.draw {K:GC}{C:Fi}{H:Hp}{a dx p l m:Fi}{S:Gla.Plan}{ps ls ms:List Fi}(o:Op K C H a dx p l m S ps ls ms):bz C H a S:=by
 refine⟨dx,p,l,m,o.at_,⟨ps,o.pl,by rw[lmp,o.pn],λi b r e1 e2=>?_⟩,⟨ls,o.ll,by rw[lmp,o.ln],λi b r e1 e2=>?_⟩,⟨ms,o.ml,by rw[lmp,o.mn],λi b r e1 e2=>?_⟩⟩
 ·have hi:i<S.pts.length:=by rw[<-o.pn];exact(gsi e1).1
  rw[FA,gge hi]at e2
  have e2:=osi e2
  rw[<-e2,<-WL.bH S hi]
  exact o.pt i b e1
 ·rw[FA]at e2
  cases e:S.lines[i]? with
  |none=>rw[e]at e2;cases e2
  |some x =>
   rw[e]at e2
   have e2:=osi e2
   rw[<-e2]
   exact o.li i b x e1 e
 ·rw[FA]at e2
  cases e:S.marks[i]? with
  |none=>rw[e]at e2;cases e2
  |some x =>
   rw[e]at e2
   have e2:=osi e2
   rw[<-e2]
   exact o.ma i b x e1 e
theorem SB.pt {S:Gla.Plan}(h:SB S)(i:Nat):(S.pt i).x<4294967296/\(S.pt i).y<4294967296:=by
 by_cases hi:i<S.pts.length
 ·rw[WL.bH S hi]
  exact h.pts _ (FS hi)
 ·unfold Gla.Plan.pt
  rw[FG,List.getElem?_eq_none (by omega)]
  decide
theorem Op.ptAt {K:GC}{C:Fi}{H:Hp}{a dx p l m:Fi}{S:Gla.Plan}{ps ls ms:List Fi}(o:Op K C H a dx p l m S ps ls ms)(sb:SB S){i:Nat}{b:Fi}(e:ps[i]? = some b):cD K H b (S.pt i):=⟨⟨[],SqT.of (o.pt i b e)⟩,sb.pt i⟩
theorem Op.mkAt {K:GC}{C:Fi}{H:Hp}{a dx p l m:Fi}{S:Gla.Plan}{ps ls ms:List Fi}(o:Op K C H a dx p l m S ps ls ms)(sb:SB S){i:Nat}{b:Fi}{x:Jk}(e:ms[i]? = some b)(e2:S.marks[i]? = some x):cD K H b x.at_ :=
 ⟨⟨_,SqT.of (o.ma i b x e e2)⟩,sb.mks x (Gg e2)⟩
theorem Op.hasP {K:GC}{C:Fi}{H:Hp}{a dx p l m:Fi}{S:Gla.Plan}{ps ls ms:List Fi}(o:Op K C H a dx p l m S ps ls ms){i:Nat}(hi:i<S.pts.length):∃b,ps[i]? = some b:=⟨_,gge (by rw[o.pn];exact hi)⟩
theorem Op.hasL {K:GC}{C:Fi}{H:Hp}{a dx p l m:Fi}{S:Gla.Plan}{ps ls ms:List Fi}(o:Op K C H a dx p l m S ps ls ms){i:Nat}(hi:i<S.lines.length):∃b,ls[i]? = some b:=⟨_,gge (by rw[o.ln];exact hi)⟩
theorem bZ {wi he:Int}{p l m:Fi}{f:Str} (h:(f="place_of_point"\/f="place_of_line")\/f="place_of_mark"\/f="place_of_end"):(eQ wi he p l m).lookup f=none:=by
 rcases h with(rfl|rfl)|rfl|rfl
 ·exact mF (by decide +kernel) (by decide +kernel) (by decide +kernel) (by decide +kernel) (by decide +kernel)
 ·exact mF (by decide +kernel) (by decide +kernel) (by decide +kernel) (by decide +kernel) (by decide +kernel)
 ·exact mF (by decide +kernel) (by decide +kernel) (by decide +kernel) (by decide +kernel) (by decide +kernel)
 ·exact mF (by decide +kernel) (by decide +kernel) (by decide +kernel) (by decide +kernel) (by decide +kernel)
def jp (r:Int)(pl:Nat->Int)(o:Option Nat):Option (Int×Int):=o.map λi=>(r,pl i)
def ok4 (S:Gla.Plan)(p:Pt):Bool:=decide (p.x<=S.w)&&decide (p.y<=S.h)
def BZ (C:Fi):Sp:=λvs H Q _=>∃(a:Fi) (S:Gla.Plan),vs=[.ref a]/\bz C H a S/\SB S/\dr (jp 4 (λi=>20+8*(i:Int)) (GD (ok4 S) Pt.below S.pts)) H Q
theorem zF:ap ["drawing","k","point","outside"] ["drawing"] (ah cZ):=fsk
theorem B4 (F:Has K mg "fault_of_points" cZ ["drawing"]) (T:DCl K mg C) (ge:mg "enumerate"=none) (C1:Cm P w K mg base 1 C "place_of_point" ["self","k"] pV) (C2:Cb P w K mg base 1 "comes_behind" ["q","p"] (x6 K)) :
  Cb P w K mg base 2 "fault_of_points" ["drawing"] (BZ C):=by
 refine F.cb zF (λvs H Q E h=>?_) (λ_ _ A _ s H vs Q E hr h=>?_)
 ·obtain⟨a,S,rfl,_⟩:=h
  rfl
 ·obtain⟨a,S,rfl,hd,sb,k⟩:=h
  obtain⟨dx,p,l,m,ps,ls,ms,o⟩:=hd.op (K:=K)
  refine⟨_,ad (bw FC rfl (dR rfl ge (aa (aP (pv 0) rfl) ac)) (cO (n:=2) rfl (aK (au (i:=1) zF.nd rfl (.inl rfl)) (aK (au (i:=2) zF.nd rfl (.inl rfl)) bR)))
    (ad (aB (i:=3) zF.nd rfl (.inl rfl) (rN (cf dY (aw aC (pv 2) af (λ_ _=>rfl)) (aP (pv 0) rfl) (aH _)) (eq (cf dY (aw aC (pv 2) af (λ_ _=>rfl)) (aP (pv 0) rfl) (aH _)))))
    (ae (aX (mi (cA (pv 3)) (jI (jN (aJ dY (pv 1) af (aH _)) (ik (iK (cA (aE C2 hr (aa (pv 2) (aa (aw aS (aP (pv 0) rfl) (aT eu (pv 1) af) (λ_ _=>rfl)) ac))))))).pt)).pt
     (ae (ak (bv (aa af (aa (gI (pv 0) T.cl C1 hr (aa (pv 1) ac)) ac))))) aI))))
   (ae (ak a9)),?_⟩
  refine⟨_,rfl,a,C,dx,_,_,rfl,o.at_,T.cl,T.nP,iw,p,_,rfl,SqL.of o.pl,dc (K:=K) (a:=p) (xs:=ps.map V.ref) (λi σ H'=>al H H'/\(∃v1 v2 v3,σ=[some (.ref a),v1,v2,v3])/\∀j (hj:j<S.pts.length),j<i->WL.bX (ok4 S) Pt.below S.pts j S.pts[j]=false)
   ⟨al.refl H,⟨none,none,none,rfl⟩,λj hj h=>absurd h (Gy _)⟩ (λi σ H' _ h=>SqL.of (h.1 _ _ o.pl)) ?_ ?_⟩
  ·rintro i y T' σ H' hi hT ⟨hS,⟨v1,v2,v3,rfl⟩,hok⟩
   obtain⟨b,hb,rfl⟩:=cg hi
   have hil:i<S.pts.length:=by rw[<-o.pn];exact(gsi hb).1
   have s2:al H (upd H' T' (.tup [.int (i:Nat),.ref b])):=aY hS hT
   refine⟨T',_,rfl,SqT.of ag,rfl,_,_,rfl,_,_,rfl,rfl,?_⟩
   generalize upd H' T' (.tup [.int (i:Nat),.ref b])=H2 at s2
   have o2:=o.same s2
   have hpt:=o2.ptAt sb hb
   obtain⟨⟨rb,hbb⟩,_⟩:=id hpt
   have ep:S.pt i=S.pts[i]:=WL.bH S hil
   have bad:WL.bX (ok4 S) Pt.below S.pts i S.pts[i]=true->∀H3,al H H3->∀q,H3 q=none->Q (.ref q) (upd H3 q (.tup [.int 4,.int (20+8*(i:Int))])):=λz H3 s3 q hq=>by
    have e:GD (ok4 S) Pt.below S.pts=some i:=by
     rw[WL.d4]
     exact WL.ef hil z λj hj=>hok j (by omega) hj
    rw[e]at k
    exact dr.some' k s3 q hq
   have next:WL.bX (ok4 S) Pt.below S.pts i S.pts[i]=false->∀j (hj:j<S.pts.length),j<i+1->WL.bX (ok4 S) Pt.below S.pts j S.pts[j]=false:=λz j hj h=>by
    by_cases c:j<i
    ·exact hok j hj c
    ·have:j=i:=by omega
     subst this
     exact z
   have cont:∀(t:Bool),t=(!ok4 S S.pts[i])->tp (tOr (tB (a5 3)) (yT (eY (tOp (rI0 λi j=>.bl (decide (j<i))) (a5 1) (tC (.int 0)))) (AV (tB (lI (x6 K) [] E0 (bD (a5 2) (bD (tOp (uX K) (wv K (a5 0) "points") (tOp (rI0 λi j=>.int (i-j)) (a5 1) (tC (.int 1)))) fI)))))))
     (mO (va (bD (tC (.int 4)) (bD (j6 C "place_of_point" pV [] E0 (a5 0) (bD (a5 1) fI)) fI)))) nt
     { nx:=λσ H'=>al H H'/\(∃v1 v2 v3,σ=[some (.ref a),v1,v2,v3])/\∀j (hj:j<S.pts.length),j<i+1->WL.bX (ok4 S) Pt.below S.pts j S.pts[j]=false,rt:=Q,bk:=λσ H'=>Q .non H',ct:=λσ H'=>al H H'/\(∃v1 v2 v3,σ=[some (.ref a),v1,v2,v3])/\∀j (hj:j<S.pts.length),j<i+1->WL.bX (ok4 S) Pt.below S.pts j S.pts[j]=false }
     [some (.ref a),some (.int (i:Nat)),some (.ref b),some (.bl t)] H2:=λt et=>by
    refine⟨_,rfl,_,rfl,aQ (λc1=>?_) (λc1=>?_)⟩
    ·refine eI ?_
     refine⟨_,rfl,a,dx,_,rfl,o2.at_,bZ (.inl (.inl rfl)),_,rfl,_,_,rfl,(by show 2<=Fk;decide),λq hq=>?_⟩
     refine bad ?_ H2 s2 q hq
     unfold WL.bX
     rw[<-et,c1,Jr]
    ·have okt:(!ok4 S S.pts[i])=false:=by rw[<-et];exact cB c1
     refine⟨_,rfl,_,_,rfl,rfl,_,rfl,aQ (λc2=>?_) (λc2=>?_)⟩
     ·have c2:(0:Int)<((i:Nat):Int):=Ff c2
      obtain⟨i',rfl⟩:∃i',i=i'+1:=⟨i-1,by omega⟩
      obtain⟨b',hb'⟩:=o2.hasP (i:=i') (by omega)
      have hpt':=o2.ptAt sb hb'
      have ep':S.pt i'=S.pts[i']:=WL.bH S (by omega)
      refine⟨_,rfl,_,rfl,a,C,dx,_,_,rfl,o2.at_,T.cl,T.nP,iw,_,rfl,_,_,rfl,rfl,p,_,_,_,rfl,rfl,SqL.of o2.pl,aA (j:=i') (by omega) (aN hb'),b,b',S.pt (i'+1),S.pt i',rfl,hpt,hpt',λH3 s3=>?_⟩
      have hbe:WL.bX (ok4 S) Pt.below S.pts (i'+1) S.pts[i'+1]=!((S.pt i').below (S.pt (i'+1))):=by
       rw[WL.jz (by omega),okt,Bool.false_or,ep,ep']
      refine⟨_,rfl,?_⟩
      cases hc:(S.pt i').below (S.pt (i'+1)) with
      |true =>
       refine jy ?_
       exact⟨s2.trans s3,⟨_,_,_,rfl⟩,next (by rw[hbe,hc];rfl)⟩
      |false =>
       refine eI ?_
       refine⟨_,rfl,a,dx,_,rfl,(o2.same s3).at_,bZ (.inl (.inl rfl)),_,rfl,_,_,rfl,(by show 2<=Fk;decide),λq hq=>?_⟩
       exact bad (by rw[hbe,hc];rfl) H3 (s2.trans s3) q hq
     ·have c2:=aF c2
      have i0:i=0:=by omega
      subst i0
      exact⟨s2,⟨_,_,_,rfl⟩,next (by rw[WL.jv];exact okt)⟩
   refine⟨_,rfl,b,_,_,_,rfl,rfl,hbb,aA (j:=0) rfl rfl,_,rfl,a,C,dx,_,_,rfl,o2.at_,T.cl,T.nW,AC,_,_,rfl,rfl,_,rfl,aQ (λc1=>?_) (λc1=>?_)⟩
   ·have c1:(S.w:Int)<((S.pt i).x:Int):=Ff c1
    refine cont true ?_
    rw[<-ep]
    unfold ok4
    rw[dqf (by omega),Go]
    rfl
   ·have c1:¬(S.w:Int)<((S.pt i).x:Int):=aF c1
    refine⟨_,rfl,b,_,_,_,rfl,rfl,hbb,aA (j:=1) rfl rfl,_,rfl,a,C,dx,_,_,rfl,o2.at_,T.cl,T.nH,A1,_,_,rfl,rfl,?_⟩
    refine cont _ ?_
    rw[<-ep]
    unfold ok4
    rw[dqt (by omega:(S.pt i).x<=S.w),GK,<-decide_not,Fz]
    omega
  ·rintro σ H' ⟨hS,⟨v1,v2,v3,rfl⟩,hok⟩
   have e:GD (ok4 S) Pt.below S.pts=none:=by
    rw[WL.d4]
    refine WL.dN λj hj=>hok j hj ?_
    rw[lmp,o.pn]
    exact hj
   rw[e]at k
   exact k H' hS
def ok5 (S:Gla.Plan)(l:Nat×Nat):Bool:=decide (l.1<l.2)&&decide (l.2<S.pts.length)
def pX (S:Gla.Plan)(i:Nat):Int:=20+8*(S.pts.length:Int)+4*(i:Int)
def CY (C:Fi):Sp:=λvs H Q _=>∃(a:Fi) (S:Gla.Plan),vs=[.ref a]/\bz C H a S/\SB S/\dr (jp 5 (pX S) (GD (ok5 S) GL S.lines)) H Q
theorem zg:ap ["drawing","k","line","wrong_ends"] ["drawing"] (ah dE):=fsk
theorem xS (l m:Nat×Nat):gK [(l.1:Int),(l.2:Int)] [(m.1:Int),(m.2:Int)]=!Gla.lineBelow m l:=by
 rw[jG,jG]
 unfold GL
 have e0:gK [] []=true:=rfl
 rw[e0,Ge]
 by_cases c:(l.1:Int)=(m.1:Int)
 ·rw[Fs c]
  by_cases d:(l.2:Int)=(m.2:Int)
  ·rw[Fs d]
   simp
   omega
  ·rw[Fl d]
   simp
   omega
 ·rw[Fl c]
  simp
  omega
theorem DS (F:Has K mg "fault_of_lines" dE ["drawing"]) (T:DCl K mg C) (ge:mg "enumerate"=none) (gl:mg "len"=none) (C1:Cm P w K mg base 2 C "place_of_line" ["self","k"] (vw C)) :
  Cb P w K mg base 3 "fault_of_lines" ["drawing"] (CY C):=by
 refine F.cb zg (λvs H Q E h=>?_) (λ_ _ A _ s H vs Q E hr h=>?_)
 ·obtain⟨a,S,rfl,_⟩:=h
  rfl
 ·obtain⟨a,S,rfl,hd,sb,k⟩:=h
  obtain⟨dx,p,l,m,ps,ls,ms,o⟩:=hd.op (K:=K)
  refine⟨_,ad (bw FC rfl (dR rfl ge (aa (aP (pv 0) rfl) ac)) (cO (n:=2) rfl (aK (au (i:=1) zg.nd rfl (.inl rfl)) (aK (au (i:=2) zg.nd rfl (.inl rfl)) bR)))
    (ad (aB (i:=3) zg.nd rfl (.inl rfl) (rN (cf uh (aw aC (pv 2) af (λ_ _=>rfl)) (aw aC (pv 2) af (λ_ _=>rfl)) (aH _)) (eq (cf uh (aw aC (pv 2) af (λ_ _=>rfl)) (aU aM (by rfl) gl Gh (aa (aP (pv 0) rfl) ac)) (aH _)))))
    (ae (aX (mi (cA (pv 3)) (jI (jN (aJ dY (pv 1) af (aH _)) (ik (aJ (AZ hr.units0) (pv 2) (aw aS (aP (pv 0) rfl) (aT eu (pv 1) af) (λ_ _=>rfl)) (aH _)))).pt)).pt
     (ae (ak (bv (aa af (aa (gI (pv 0) T.cl C1 hr (aa (pv 1) ac)) ac))))) aI))))
   (ae (ak a9)),?_⟩
  refine⟨_,rfl,a,C,dx,_,_,rfl,o.at_,T.cl,T.nL,qi,l,_,rfl,SqL.of o.ll,dc (K:=K) (a:=l) (xs:=ls.map V.ref) (λi σ H'=>al H H'/\(∃v1 v2 v3,σ=[some (.ref a),v1,v2,v3])/\∀j (hj:j<S.lines.length),j<i->WL.bX (ok5 S) GL S.lines j S.lines[j]=false)
   ⟨al.refl H,⟨none,none,none,rfl⟩,λj hj h=>absurd h (Gy _)⟩ (λi σ H' _ h=>SqL.of (h.1 _ _ o.ll)) ?_ ?_⟩
  ·rintro i y T' σ H' hi hT ⟨hS,⟨v1,v2,v3,rfl⟩,hok⟩
   obtain⟨b,hb,rfl⟩:=cg hi
   have hil:i<S.lines.length:=by rw[<-o.ln];exact(gsi hb).1
   have s2:al H (upd H' T' (.tup [.int (i:Nat),.ref b])):=aY hS hT
   refine⟨T',_,rfl,SqT.of ag,rfl,_,_,rfl,_,_,rfl,rfl,?_⟩
   generalize upd H' T' (.tup [.int (i:Nat),.ref b])=H2 at s2
   have o2:=o.same s2
   have hbb:SqT K H2 b (iV [(S.lines[i].1:Int),(S.lines[i].2:Int)]):=SqT.of (o2.li i b _ hb (gge hil))
   have bad:WL.bX (ok5 S) GL S.lines i S.lines[i]=true->∀H3,al H H3->∀q,H3 q=none->Q (.ref q) (upd H3 q (.tup [.int 5,.int (pX S i)])):=λz H3 s3 q hq=>by
    have e:GD (ok5 S) GL S.lines=some i:=by
     rw[WL.d4]
     exact WL.ef hil z λj hj=>hok j (by omega) hj
    rw[e]at k
    exact dr.some' k s3 q hq
   have next:WL.bX (ok5 S) GL S.lines i S.lines[i]=false->∀j (hj:j<S.lines.length),j<i+1->WL.bX (ok5 S) GL S.lines j S.lines[j]=false:=λz j hj h=>by
    by_cases c:j<i
    ·exact hok j hj c
    ·have:j=i:=by omega
     subst this
     exact z
   have cont:∀(t:Bool),t=(!ok5 S S.lines[i])->tp (tOr (tB (a5 3)) (yT (eY (tOp (rI0 λi j=>.bl (decide (j<i))) (a5 1) (tC (.int 0)))) (eY (tOp (Dl K) (a5 2) (tOp (uX K) (wv K (a5 0) "lines") (tOp (rI0 λi j=>.int (i-j)) (a5 1) (tC (.int 1))))))))
     (mO (va (bD (tC (.int 5)) (bD (j6 C "place_of_line" (vw C) [] E0 (a5 0) (bD (a5 1) fI)) fI)))) nt
     { nx:=λσ H'=>al H H'/\(∃v1 v2 v3,σ=[some (.ref a),v1,v2,v3])/\∀j (hj:j<S.lines.length),j<i+1->WL.bX (ok5 S) GL S.lines j S.lines[j]=false,rt:=Q,bk:=λσ H'=>Q .non H',ct:=λσ H'=>al H H'/\(∃v1 v2 v3,σ=[some (.ref a),v1,v2,v3])/\∀j (hj:j<S.lines.length),j<i+1->WL.bX (ok5 S) GL S.lines j S.lines[j]=false }
     [some (.ref a),some (.int (i:Nat)),some (.ref b),some (.bl t)] H2:=λt et=>by
    refine⟨_,rfl,_,rfl,aQ (λc1=>?_) (λc1=>?_)⟩
    ·refine eI ?_
     refine⟨_,rfl,a,dx,_,rfl,o2.at_,bZ (.inl (.inr rfl)),_,rfl,a,S,_,rfl,o2.draw,(by show 2<=Fk;decide),λq hq=>?_⟩
     refine bad ?_ H2 s2 q hq
     unfold WL.bX
     rw[<-et,c1,Jr]
    ·have okt:(!ok5 S S.lines[i])=false:=by rw[<-et];exact cB c1
     refine⟨_,rfl,_,_,rfl,rfl,_,rfl,aQ (λc2=>?_) (λc2=>?_)⟩
     ·have c2:(0:Int)<((i:Nat):Int):=Ff c2
      obtain⟨i',rfl⟩:∃i',i=i'+1:=⟨i-1,by omega⟩
      obtain⟨b',hb'⟩:=o2.hasL (i:=i') (by omega)
      have hbb':SqT K H2 b' (iV [(S.lines[i'].1:Int),(S.lines[i'].2:Int)]):=SqT.of (o2.li i' b' _ hb' (gge (by omega)))
      refine⟨_,rfl,_,rfl,a,C,dx,_,_,rfl,o2.at_,T.cl,T.nL,qi,_,rfl,_,_,rfl,rfl,l,_,_,_,rfl,rfl,SqL.of o2.ll,aA (j:=i') (by omega) (aN hb'),b,b',_,_,rfl,rfl,hbb,hbb',?_⟩
      have hbe:WL.bX (ok5 S) GL S.lines (i'+1) S.lines[i'+1]=!(GL S.lines[i'] S.lines[i'+1]):=by
       rw[WL.jz (by omega),okt,Bool.false_or]
      rw[xS]
      refine⟨_,rfl,aQ (λc3=>?_) (λc3=>?_)⟩
      ·refine⟨_,rfl,a,dx,_,rfl,o2.at_,bZ (.inl (.inr rfl)),_,rfl,a,S,_,rfl,o2.draw,(by show 2<=Fk;decide),λq hq=>?_⟩
       exact bad (by rw[hbe];exact c3) H2 s2 q hq
      ·exact⟨s2,⟨_,_,_,rfl⟩,next (by rw[hbe];exact cB c3)⟩
     ·have c2:=aF c2
      have i0:i=0:=by omega
      subst i0
      exact⟨s2,⟨_,_,_,rfl⟩,next (by rw[WL.jv];exact okt)⟩
   refine⟨_,rfl,b,_,_,_,rfl,rfl,hbb,aA (j:=0) rfl rfl,_,rfl,b,_,_,_,rfl,rfl,hbb,aA (j:=1) rfl rfl,_,_,rfl,rfl,_,rfl,aQ (λc1=>?_) (λc1=>?_)⟩
   ·have c1:(S.lines[i].2:Int)<=(S.lines[i].1:Int):=Ff c1
    refine cont true ?_
    unfold ok5
    rw[dqf (by omega),Go]
    rfl
   ·have c1:¬(S.lines[i].2:Int)<=(S.lines[i].1:Int):=aF c1
    refine⟨_,rfl,b,_,_,_,rfl,rfl,hbb,aA (j:=1) rfl rfl,_,rfl,a,C,dx,_,_,rfl,o2.at_,T.cl,T.nP,iw,p,_,rfl,.inl (SqL.of o2.pl),_,_,rfl,rfl,?_⟩
    refine cont _ ?_
    unfold ok5
    rw[dqt (by omega:S.lines[i].1<S.lines[i].2),GK,<-decide_not,Fz,lmp,o.pn]
    omega
  ·rintro σ H' ⟨hS,⟨v1,v2,v3,rfl⟩,hok⟩
   have e:GD (ok5 S) GL S.lines=none:=by
    rw[WL.d4]
    refine WL.dN λj hj=>hok j hj ?_
    rw[lmp,o.ln]
    exact hj
   rw[e]at k
   exact k H' hS
theorem vM {S:Gla.Plan}{x:Nat×Nat}{j:Nat}(h0:j<S.pts.length)(h1:x.1<j)(h2:j<x.2)(h:Gla.isOn (S.pt x.1) (S.pt x.2) (S.pt j)=true):WL.m8 S x=true:=by
 unfold WL.m8
 rw[HH]
 exact⟨j,GJ.2 h0,by rw[dqt h1,dqt h2,h];rfl⟩
theorem xl {S:Gla.Plan}{x:Nat×Nat}(h:∀j,x.1<j->j<x.2->Gla.isOn (S.pt x.1) (S.pt x.2) (S.pt j)=false):WL.m8 S x=false:=by
 unfold WL.m8
 rw[Ip]
 intro j _ z
 rw[Fn,Fn]at z
 rw[h j (Ff z.1) (Ff z.2.1)]at z
 exact absurd z.2.2 (by decide)
def DV (K:GC)(H:Hp)(b:Fi)(x:Nat×Nat):Prop:=SqT K H b (iV [(x.1:Int),(x.2:Int)])
theorem Op.lnAt {H:Hp}{a dx p l m:Fi}{S:Gla.Plan}{ps ls ms:List Fi}(o:Op K C H a dx p l m S ps ls ms){i:Nat}{b:Fi}(hi:i<S.lines.length)(e:ls[i]? = some b):DV K H b S.lines[i]:=SqT.of (o.li i b _ e (gge hi))
def Dq (K:GC)(C:Fi):Sp:=λvs H Q _=>∃(a b:Fi) (S:Gla.Plan) (x:Nat×Nat),vs=[.ref a,.ref b]/\bz C H a S/\SB S/\DV K H b x/\x.1<x.2/\x.2<S.pts.length/\Q (.bl (WL.m8 S x)) H
theorem yP:ap ["drawing","line","p","q","k"] ["drawing","line"] (ah cW):=fsk
theorem Dc (F:Has K mg "has_point_on_it" cW ["drawing","line"]) (T:DCl K mg C) (gr:mg "range"=none) (C1:Cb P w K mg base 2 "is_on" ["p","q","r"] (BL K)) :
  Cb P w K mg base 3 "has_point_on_it" ["drawing","line"] (Dq K C):=by
 refine F.cb yP (λvs H Q E h=>?_) (λ_ _ A _ s H vs Q E hr h=>?_)
 ·obtain⟨a,b,S,x,rfl,_⟩:=h
  rfl
 ·obtain⟨a,b,S,x,rfl,hd,sb,hx,x1,x2,k⟩:=h
  obtain⟨dx,p,l,m,ps,ls,ms,o⟩:=hd.op (K:=K)
  have np:=sb.np
  have hx:SqT K H b (iV [(x.1:Int),(x.2:Int)]):=hx
  obtain⟨b1,hb1⟩:=o.hasP (i:=x.1) (by omega)
  obtain⟨b2,hb2⟩:=o.hasP (i:=x.2) (by omega)
  refine⟨_,ad (aB (i:=2) yP.nd rfl (.inl rfl) (aw aS (aP (pv 0) rfl) (aw aC (pv 1) af (λ_ _=>rfl)) (λ_ _=>rfl))) (ad (aB (i:=3) yP.nd rfl (.inl rfl) (aw aS (aP (pv 0) rfl) (aw aC (pv 1) af (λ_ _=>rfl)) (λ_ _=>rfl)))
   (ad (bw FC rfl (pd rfl gr (aa (aT dG (aw aC (pv 1) af (λ_ _=>rfl)) af) (aa (aw aC (pv 1) af (λ_ _=>rfl)) ac))) (au (i:=4) yP.nd rfl (.inl rfl))
    (ae (aX (cA (aE C1 hr (aa (pv 2) (aa (pv 3) (aa (aw aS (aP (pv 0) rfl) (pv 4) (λ_ _=>rfl)) ac))))) (ae (ak d9)) aI)))
   (ae (ak d9)))),?_⟩
  refine⟨_,rfl,a,C,dx,_,_,rfl,o.at_,T.cl,T.nP,iw,_,rfl,b,_,_,_,rfl,rfl,hx,aA (j:=0) rfl rfl,p,_,_,_,rfl,rfl,SqL.of o.pl,aA (j:=x.1) rfl (aN hb1),?_⟩
  refine⟨_,rfl,a,C,dx,_,_,rfl,o.at_,T.cl,T.nP,iw,_,rfl,b,_,_,_,rfl,rfl,hx,aA (j:=1) rfl rfl,p,_,_,_,rfl,rfl,SqL.of o.pl,aA (j:=x.2) rfl (aN hb2),?_⟩
  refine⟨_,rfl,b,_,_,_,rfl,rfl,hx,aA (j:=0) rfl rfl,_,_,rfl,rfl,_,rfl,b,_,_,_,rfl,rfl,hx,aA (j:=1) rfl rfl,_,_,rfl,⟨by omega,by omega,by omega,by omega⟩,i9 (λt σ H'=>H'=H/\(∃v,σ=[some (.ref a),some (.ref b),some (.ref b1),some (.ref b2),v])/\∀j,x.1<j->j<x.1+1+t->Gla.isOn (S.pt x.1) (S.pt x.2) (S.pt j)=false)
   ⟨rfl,⟨none,rfl⟩,λj h1 h2=>by omega⟩ ?_ ?_⟩
  ·rintro t σ H' ht ⟨rfl,⟨v,rfl⟩,hno⟩
   have et:((x.1:Int)+1+(t:Int))=((x.1+1+t:Nat):Int):=by omega
   rw[et]
   obtain⟨b3,hb3⟩:=o.hasP (i:=x.1+1+t) (by omega)
   refine⟨_,rfl,_,rfl,_,rfl,a,C,dx,_,_,rfl,o.at_,T.cl,T.nP,iw,_,rfl,p,_,_,_,rfl,rfl,SqL.of o.pl,aA (j:=x.1+1+t) rfl (aN hb3),b1,b2,b3,_,_,_,rfl,o.ptAt sb hb1,o.ptAt sb hb2,o.ptAt sb hb3,_,rfl,aQ (λc=>?_) (λc=>?_)⟩
   ·show Q (.bl true) H'
    rw[vM (j:=x.1+1+t) (by omega) (by omega) (by omega) c]at k
    exact k
   ·refine⟨rfl,⟨_,rfl⟩,λj h1 h2=>?_⟩
    by_cases d:j<x.1+1+t
    ·exact hno j h1 d
    ·have:j=x.1+1+t:=by omega
     subst this
     exact cB c
  ·rintro σ H' ⟨rfl,⟨v,rfl⟩,hno⟩
   rw[xl λj h1 h2=>hno j h1 (by omega)]at k
   exact k
def gb (S:Gla.Plan):Prop:=∀l∈S.lines,l.1<l.2/\l.2<S.pts.length
def B9 (C:Fi):Sp:=λvs H Q _=>∃(a:Fi) (S:Gla.Plan) (i:Nat) (hi:i<S.lines.length),vs=[.ref a,.int (i:Int)]/\bz C H a S/\SB S/\gb S/\Q (.bl (WL.jA S i S.lines[i])) H
theorem vk:ap ["drawing","k","line","p","q","j","earlier"] ["drawing","k"] (ah b7):=fsk
theorem vV {S:Gla.Plan}{x:Nat×Nat}{i j:Nat}(hi:i<=S.lines.length)(hj:j<i)(h1:x.1<(S.lines[j]'(by omega)).2)(h:Gla.crosses (S.pt x.1) (S.pt x.2) (S.pt (S.lines[j]'(by omega)).1) (S.pt (S.lines[j]'(by omega)).2)=true):WL.jA S i x=true:=by
 unfold WL.jA
 rw[HH]
 refine⟨S.lines[j]'(by omega),?_,by rw[dqt h1,h];rfl⟩
 rw[Hs]
 exact⟨j,by omega,rfl⟩
theorem wM {S:Gla.Plan}{x:Nat×Nat}{i:Nat}(h:∀j (hj:j<S.lines.length),j<i->(decide (x.1<(S.lines[j]).2)&&Gla.crosses (S.pt x.1) (S.pt x.2) (S.pt (S.lines[j]).1) (S.pt (S.lines[j]).2))=false):WL.jA S i x=false:=by
 unfold WL.jA
 rw[Ip]
 intro y hy z
 rw[Hs]at hy
 obtain⟨j,hj,rfl⟩:=hy
 rw[h j (by omega) (by omega)]at z
 exact absurd z (by decide)
theorem Cy (F:Has K mg "crosses_one_before" b7 ["drawing","k"]) (T:DCl K mg C) (gr:mg "range"=none) (C1:Cb P w K mg base 3 "do_cross" ["p","q","r","s"] (uk K)) :
  Cb P w K mg base 4 "crosses_one_before" ["drawing","k"] (B9 C):=by
 refine F.cb vk (λvs H Q E h=>?_) (λ_ _ A _ s H vs Q E hr h=>?_)
 ·obtain⟨a,S,i,hi,rfl,_⟩:=h
  rfl
 ·obtain⟨a,S,i,hi,rfl,hd,sb,hlo,k⟩:=h
  obtain⟨dx,p,l,m,ps,ls,ms,o⟩:=hd.op (K:=K)
  have np:=sb.np
  have nl:=sb.nl
  obtain⟨x1,x2⟩:=hlo _ (FS hi)
  obtain⟨b,hb⟩:=o.hasL (i:=i) hi
  have hx:SqT K H b (iV [(S.lines[i].1:Int),(S.lines[i].2:Int)]):=o.lnAt hi hb
  obtain⟨b1,hb1⟩:=o.hasP (i:=S.lines[i].1) (by omega)
  obtain⟨b2,hb2⟩:=o.hasP (i:=S.lines[i].2) (by omega)
  refine⟨_,ad (aB (i:=2) vk.nd rfl (.inl rfl) (aw aS (aP (pv 0) rfl) (pv 1) (λ_ _=>rfl))) (ad (aB (i:=3) vk.nd rfl (.inl rfl) (aw aS (aP (pv 0) rfl) (aw aC (pv 2) af (λ_ _=>rfl)) (λ_ _=>rfl))) (ad (aB (i:=4) vk.nd rfl (.inl rfl) (aw aS (aP (pv 0) rfl) (aw aC (pv 2) af (λ_ _=>rfl)) (λ_ _=>rfl)))
   (ad (bw FC rfl (oo rfl gr (aa (pv 1) ac)) (au (i:=5) vk.nd rfl (.inl rfl))
    (ad (aB (i:=6) vk.nd rfl (.inl rfl) (aw aS (aP (pv 0) rfl) (pv 5) (λ_ _=>rfl)))
    (ae (aX (jN (aJ dY (aw aC (pv 6) af (λ_ _=>rfl)) (aw aC (pv 2) af (λ_ _=>rfl)) (aH _)) (ik (cA (aE C1 hr (aa (pv 3) (aa (pv 4) (aa (aw aS (aP (pv 0) rfl) (aw aC (pv 6) af (λ_ _=>rfl)) (λ_ _=>rfl)) (aa (aw aS (aP (pv 0) rfl) (aw aC (pv 6) af (λ_ _=>rfl)) (λ_ _=>rfl)) ac)))))))).pt (ae (ak d9)) aI))))
   (ae (ak d9))))),?_⟩
  refine⟨_,rfl,a,C,dx,_,_,rfl,o.at_,T.cl,T.nL,qi,_,rfl,l,_,_,_,rfl,rfl,SqL.of o.ll,aA (j:=i) rfl (aN hb),?_⟩
  refine⟨_,rfl,a,C,dx,_,_,rfl,o.at_,T.cl,T.nP,iw,_,rfl,b,_,_,_,rfl,rfl,hx,aA (j:=0) rfl rfl,p,_,_,_,rfl,rfl,SqL.of o.pl,aA (j:=S.lines[i].1) rfl (aN hb1),?_⟩
  refine⟨_,rfl,a,C,dx,_,_,rfl,o.at_,T.cl,T.nP,iw,_,rfl,b,_,_,_,rfl,rfl,hx,aA (j:=1) rfl rfl,p,_,_,_,rfl,rfl,SqL.of o.pl,aA (j:=S.lines[i].2) rfl (aN hb2),?_⟩
  refine⟨_,rfl,_,rfl,by omega,by omega,i9 (λt σ H'=>H'=H/\(∃v1 v2,σ=[some (.ref a),some (.int (i:Int)),some (.ref b),some (.ref b1),some (.ref b2),v1,v2])/\∀j (hj:j<S.lines.length),j<t->(decide (S.lines[i].1<(S.lines[j]).2)&&Gla.crosses (S.pt S.lines[i].1) (S.pt S.lines[i].2) (S.pt (S.lines[j]).1) (S.pt (S.lines[j]).2))=false)
   ⟨rfl,⟨none,none,rfl⟩,λj h1 h2=>by omega⟩ ?_ ?_⟩
  ·rintro t σ H' ht ⟨rfl,⟨v1,v2,rfl⟩,hno⟩
   rw[GG]at ht
   rw[Int.zero_add]
   have htl:t<S.lines.length:=by omega
   obtain⟨y1,y2⟩:=hlo _ (FS htl)
   obtain⟨c,hc⟩:=o.hasL (i:=t) htl
   have hy:SqT K H' c (iV [(S.lines[t].1:Int),(S.lines[t].2:Int)]):=o.lnAt htl hc
   obtain⟨b3,hb3⟩:=o.hasP (i:=S.lines[t].1) (by omega)
   obtain⟨b4,hb4⟩:=o.hasP (i:=S.lines[t].2) (by omega)
   have next:(decide (S.lines[i].1<(S.lines[t]).2)&&Gla.crosses (S.pt S.lines[i].1) (S.pt S.lines[i].2) (S.pt (S.lines[t]).1) (S.pt (S.lines[t]).2))=false->∀j (hj:j<S.lines.length),j<t+1->(decide (S.lines[i].1<(S.lines[j]).2)&&Gla.crosses (S.pt S.lines[i].1) (S.pt S.lines[i].2) (S.pt (S.lines[j]).1) (S.pt (S.lines[j]).2))=false:=λz j hj h=>by
    by_cases d:j<t
    ·exact hno j hj d
    ·have:j=t:=by omega
     subst this
     exact z
   refine⟨_,rfl,a,C,dx,_,_,rfl,o.at_,T.cl,T.nL,qi,_,rfl,l,_,_,_,rfl,rfl,SqL.of o.ll,aA (j:=t) rfl (aN hc),?_⟩
   refine⟨_,rfl,c,_,_,_,rfl,rfl,hy,aA (j:=1) rfl rfl,_,rfl,b,_,_,_,rfl,rfl,hx,aA (j:=0) rfl rfl,_,_,rfl,rfl,_,rfl,aQ (λc1=>?_) (λc1=>?_)⟩
   ·have c1:(S.lines[i].1:Int)<(S.lines[t].2:Int):=Ff c1
    refine⟨_,rfl,_,rfl,_,rfl,a,C,dx,_,_,rfl,o.at_,T.cl,T.nP,iw,_,rfl,c,_,_,_,rfl,rfl,hy,aA (j:=0) rfl rfl,p,_,_,_,rfl,rfl,SqL.of o.pl,aA (j:=S.lines[t].1) rfl (aN hb3),_,rfl,a,C,dx,_,_,rfl,o.at_,T.cl,T.nP,iw,_,rfl,c,_,_,_,rfl,rfl,hy,aA (j:=1) rfl rfl,p,_,_,_,rfl,rfl,SqL.of o.pl,aA (j:=S.lines[t].2) rfl (aN hb4),b1,b2,b3,b4,_,_,_,_,rfl,o.ptAt sb hb1,o.ptAt sb hb2,o.ptAt sb hb3,o.ptAt sb hb4,_,rfl,aQ (λc2=>?_) (λc2=>?_)⟩
    ·show Q (.bl true) H'
     rw[vV (j:=t) (by omega) ht (by omega) c2]at k
     exact k
    ·exact⟨rfl,⟨_,_,rfl⟩,next (by rw[cB c2,Bool.and_false])⟩
   ·have c1:¬(S.lines[i].1:Int)<(S.lines[t].2:Int):=aF c1
    exact⟨rfl,⟨_,_,rfl⟩,next (by rw[dqf (by omega),Go])⟩
  ·rintro σ H' ⟨rfl,⟨v1,v2,rfl⟩,hno⟩
   rw[GG]at hno
   rw[wM hno]at k
   exact k
def DJ (C:Fi):Sp:=λvs H Q _=>∃(a:Fi) (S:Gla.Plan),vs=[.ref a]/\bz C H a S/\SB S/\WL.R4 S/\WL.R5 S/\dr (jp 7 (pX S) (Gla.firstAt (IT S) S.lines)) H Q
theorem AM:ap ["drawing","k","line"] ["drawing"] (ah bY):=fsk
theorem B5 (F:Has K mg "fault_of_crossings" bY ["drawing"]) (T:DCl K mg C) (ge:mg "enumerate"=none) (C1:Cb P w K mg base 3 "has_point_on_it" ["drawing","line"] (Dq K C)) (C2:Cb P w K mg base 4 "crosses_one_before" ["drawing","k"] (B9 C)) (C3:Cm P w K mg base 2 C "place_of_line" ["self","k"] (vw C)) :
  Cb P w K mg base 5 "fault_of_crossings" ["drawing"] (DJ C):=by
 refine F.cb AM (λvs H Q E h=>?_) (λ_ _ A _ s H vs Q E hr h=>?_)
 ·obtain⟨a,S,rfl,_⟩:=h
  rfl
 ·obtain⟨a,S,rfl,hd,sb,h4,h5,k⟩:=h
  obtain⟨dx,p,l,m,ps,ls,ms,o⟩:=hd.op (K:=K)
  have hr3:bf 3 _:=hr.mono (by decide)
  have hr2:bf 2 _:=hr.mono (by decide)
  have hlo:gb S:=λl hl=>h5.line hl
  refine⟨_,ad (bw FC rfl (dR rfl ge (aa (aP (pv 0) rfl) ac)) (cO (n:=2) rfl (aK (au (i:=1) AM.nd rfl (.inl rfl)) (aK (au (i:=2) AM.nd rfl (.inl rfl)) bR)))
    (ae (aX (mi (cA (aE C1 hr3 (aa (pv 0) (aa (pv 2) ac)))) (jI (cA (aE C2 hr (aa (pv 0) (aa (pv 1) ac)))))).pt
     (ae (ak (bv (aa af (aa (gI (pv 0) T.cl C3 hr2 (aa (pv 1) ac)) ac))))) aI)))
   (ae (ak a9)),?_⟩
  refine⟨_,rfl,a,C,dx,_,_,rfl,o.at_,T.cl,T.nL,qi,l,_,rfl,SqL.of o.ll,dc (K:=K) (a:=l) (xs:=ls.map V.ref) (λi σ H'=>al H H'/\(∃v1 v2,σ=[some (.ref a),v1,v2])/\∀j (hj:j<S.lines.length),j<i->IT S j S.lines[j]=false)
   ⟨al.refl H,⟨none,none,rfl⟩,λj hj h=>absurd h (Gy _)⟩ (λi σ H' _ h=>SqL.of (h.1 _ _ o.ll)) ?_ ?_⟩
  ·rintro i y T' σ H' hi hT ⟨hS,⟨v1,v2,rfl⟩,hok⟩
   obtain⟨b,hb,rfl⟩:=cg hi
   have hil:i<S.lines.length:=by rw[<-o.ln];exact(gsi hb).1
   have s2:al H (upd H' T' (.tup [.int (i:Nat),.ref b])):=aY hS hT
   refine⟨T',_,rfl,SqT.of ag,rfl,_,_,rfl,_,_,rfl,rfl,?_⟩
   generalize upd H' T' (.tup [.int (i:Nat),.ref b])=H2 at s2
   have o2:=o.same s2
   have te:=WL.x8 h4 h5 i (FS hil)
   have ret:IT S i S.lines[i]=true->mO (va (bD (tC (.int 7)) (bD (j6 C "place_of_line" (vw C) [] E0 (a5 0) (bD (a5 1) fI)) fI)))
     { nx:=λσ H'=>al H H'/\(∃v1 v2,σ=[some (.ref a),v1,v2])/\∀j (hj:j<S.lines.length),j<i+1->IT S j S.lines[j]=false,rt:=Q,bk:=λσ H'=>Q .non H',ct:=λσ H'=>al H H'/\(∃v1 v2,σ=[some (.ref a),v1,v2])/\∀j (hj:j<S.lines.length),j<i+1->IT S j S.lines[j]=false }
     [some (.ref a),some (.int (i:Nat)),some (.ref b)] H2:=λz=>by
    refine⟨_,rfl,a,dx,_,rfl,o2.at_,bZ (.inl (.inr rfl)),_,rfl,a,S,_,rfl,o2.draw,(by show 2<=Fk;decide),λq hq=>?_⟩
    have e:Gla.firstAt (IT S) S.lines=some i:=WL.ef hil z λj hj=>hok j (by omega) hj
    rw[e]at k
    exact dr.some' k s2 q hq
   refine⟨_,rfl,_,rfl,a,b,S,S.lines[i],rfl,o2.draw,sb,o2.lnAt hil hb,(hlo _ (FS hil)).1,(hlo _ (FS hil)).2,_,rfl,aQ (λc1=>?_) (λc1=>?_)⟩
   ·exact eI (ret (by rw[te,c1];rfl))
   ·refine⟨_,rfl,_,rfl,a,S,i,hil,rfl,o2.draw,sb,hlo,_,rfl,aQ (λc2=>?_) (λc2=>?_)⟩
    ·exact ret (by rw[te,c2,Bool.or_true])
    ·refine⟨s2,⟨_,_,rfl⟩,λj hj h=>?_⟩
     by_cases c:j<i
     ·exact hok j hj c
     ·have:j=i:=by omega
      subst this
      rw[te,cB c1,cB c2]
      rfl
  ·rintro σ H' ⟨hS,⟨v1,v2,rfl⟩,hok⟩
   have e:Gla.firstAt (IT S) S.lines=none:=by
    refine WL.dN λj hj=>hok j hj ?_
    rw[lmp,o.ln]
    exact hj
   rw[e]at k
   exact k H' hS
def nI (l:List Nat):List Int:=l.map λ(x:Nat)=>(x:Int)
def uG (i:Nat)(l:Nat×Nat):Option Nat:=if l.1=i then some l.2 else if l.2=i then some l.1 else none
def eC (S:Gla.Plan)(t i:Nat):List Nat:=(S.lines.take t).filterMap (uG i)
theorem sQ (S:Gla.Plan)(i:Nat):eC S S.lines.length i=S.near i:=by
 unfold eC
 rw[Ho]
 rfl
theorem mN (S:Gla.Plan)(t i:Nat):(eC S t i).length<=t:=by
 refine Gb (List.length_filterMap_le _ _) ?_
 rw[Gr]
 omega
theorem rK {S:Gla.Plan}{t:Nat}(ht:t<S.lines.length)(i:Nat):eC S (t+1) i=eC S t i++(uG i S.lines[t]).toList:=by
 unfold eC
 rw[bW (gge ht),List.filterMap_append]
 congr 1
structure NbS (H0 H:Hp)(N:Fi)(as:List Fi)(f:Nat->List Nat):Prop where
 sm:al H0 H
 fr:H0 N=none
 at_:H N=some (.lst (as.map V.ref))
 nd:∀(i j:Nat) (b:Fi),as[i]? = some b->as[j]? = some b->i=j
 row:∀(i:Nat) (b:Fi),as[i]? = some b->b≠N/\H0 b=none/\H b=some (.lst (iV (nI (f i))))
theorem NbS.push {H0 H:Hp}{N:Fi}{as:List Fi}{f g:Nat->List Nat}(h:NbS H0 H N as f){i:Nat}{b:Fi}{z:Nat}(e:as[i]? = some b)(hg:∀j,j<as.length->g j=if j=i then f i++[z] else f j) :
  NbS H0 (upd H b (.lst (iV (nI (f i))++[.int (z:Int)]))) N as g:=by
 obtain⟨r1,r2,r3⟩:=h.row i b e
 refine⟨aW h.sm r2,h.fr,by rw[aq r1.symm];exact h.at_,h.nd,λj c ec=>?_⟩
 obtain⟨q1,q2,q3⟩:=h.row j c ec
 refine⟨q1,q2,?_⟩
 have hj:=(gsi ec).1
 by_cases cj:j=i
 ·subst cj
  rw[e]at ec
  have ec:=osi ec
  subst ec
  rw[ag,hg j hj,Fs rfl]
  unfold nI iV
  rw[FP,FP]
  rfl
 ·rw[hg j hj,Fl cj]
  rw[aq (λz=>cj (h.nd j i b (by rw[<-z];exact ec) e))]
  exact q3
def Bz (C:Fi):Sp:=λvs H Q _=>∃(a:Fi) (S:Gla.Plan),vs=[.ref a]/\bz C H a S/\SB S/\gb S/\∀(H':Hp) (N:Fi) (as:List Fi),NbS H H' N as S.near->as.length=S.pts.length->Q (.ref N) H'
theorem y6:ap ["drawing","neighbours","line","point"] ["drawing"] (ah cF):=fsk
theorem D9 (F:Has K mg "neighbours_of" cF ["drawing"]) (T:DCl K mg C):Cb P w K mg base 1 "neighbours_of" ["drawing"] (Bz C):=by
 refine F.cb y6 (λvs H Q E h=>?_) (λ_ _ A _ s H vs Q E hr h=>?_)
 ·obtain⟨a,S,rfl,_⟩:=h
  rfl
 ·obtain⟨a,S,rfl,hd,sb,hlo,k⟩:=h
  obtain⟨dx,p,l,m,ps,ls,ms,o⟩:=hd.op (K:=K)
  have np:=sb.np
  have nl:=sb.nl
  refine⟨_,ad (cp (i:=1) (own:=[("point",3)]) rfl y6.nd rfl rfl (dC rfl rfl rfl (by decide +kernel)) (bL (aP (pv 0) rfl)) (bJ (by show iu ["drawing","neighbours","line","point"] (ah cF) _ _=true;decide +kernel))
    (λ_ _ _ _ _=>au (i:=3) y6.nd rfl (.inl rfl) (.inr rfl)) (λ_ _ _ _ _=>eO) (λ_ _ _ _ _=>dL ac))
   (ad (bw FC rfl (bL (aP (pv 0) rfl)) (au (i:=2) y6.nd rfl (.inl rfl))
    (ad (jb (lJ Gz HB HC gQ (aw aS (pv 1) (aw aC (pv 2) af (λ_ _=>rfl)) (λ_ _=>rfl)) (aa (aw aC (pv 2) af (λ_ _=>rfl)) ac)))
    (ae (jb (lJ Gz HB HC gQ (aw aS (pv 1) (aw aC (pv 2) af (λ_ _=>rfl)) (λ_ _=>rfl)) (aa (aw aC (pv 2) af (λ_ _=>rfl)) ac))))))
   (ae (ak (pv 1)))),?_⟩
  refine⟨_,rfl,a,C,dx,_,_,rfl,o.at_,T.cl,T.nP,iw,p,rfl,⟨_,SqL.of o.pl⟩,λD hD=>?_⟩
  refine ie (K:=K) (a:=p) (xs:=ps.map V.ref) (λi H'=>∃as:List Fi,al H H'/\H' D=some (.lst (as.map V.ref))/\as.length=i/\(∀(i j:Nat) (b:Fi),as[i]? = some b->as[j]? = some b->i=j)/\∀(j:Nat) (b:Fi),as[j]? = some b->b≠D/\H b=none/\H' b=some (.lst []))
   ⟨[],aL hD,ag,rfl,λi j b e=>by simp at e,λj b e=>by simp at e⟩ (λi H' _ h=>by obtain⟨as,h1,_⟩:=h;exact SqL.of (h1 _ _ o.pl)) ?_ ?_
  ·rintro i y H' hi ⟨as,hS,hDl,hlen,hnd,hat⟩
   have hil:i<ps.length:=by
    have:=(gsi hi).1
    rw[lmp]at this
    exact this
   have pn:=o.pn
   refine⟨rfl,oe (eI ?_)⟩
   refine⟨(by show 0<=Fk;decide),λq hq=>?_⟩
   have nqD:q≠D:=λz=>by rw[z,hDl]at hq;cases hq
   refine⟨as.map V.ref,by rw[aq nqD.symm];exact hDl,by rw[lmp];exact bn (by omega),as++[q],aW (aY hS hq) hD,?_,by rw[Fm,hlen];rfl,?_,?_⟩
   ·rw[ag,FP]
    rfl
   ·have old:∀(j:Nat),as[j]? = some q->False:=λj e=>by
     have:=(hat j q e).2.2
     rw[hq]at this
     cases this
    intro j1 j2 b e1 e2
    by_cases c1:j1<as.length
    ·rw[FL c1]at e1
     by_cases c2:j2<as.length
     ·rw[FL c2]at e2
      exact hnd j1 j2 b e1 e2
     ·have h2:=(gsi e2).1
      rw[Fm]at h2
      have ej:j2=as.length:=by simp at h2;omega
      subst ej
      rw[FE (nlr _),GX]at e2
      have e2:q=b:=osi e2
      subst e2
      exact(old j1 e1).elim
    ·have h1:=(gsi e1).1
     rw[Fm]at h1
     have ej1:j1=as.length:=by simp at h1;omega
     by_cases c2:j2<as.length
     ·rw[FL c2]at e2
      subst ej1
      rw[FE (nlr _),GX]at e1
      have e1:q=b:=osi e1
      subst e1
      exact(old j2 e2).elim
     ·have h2:=(gsi e2).1
      rw[Fm]at h2
      have ej2:j2=as.length:=by simp at h2;omega
      omega
   ·intro j b e
    by_cases c:j<as.length
    ·rw[FL c]at e
     obtain⟨n1,n2,n3⟩:=hat j b e
     refine⟨n1,n2,?_⟩
     rw[aq n1,aq (aO n3 hq)]
     exact n3
    ·have h1:=(gsi e).1
     rw[Fm]at h1
     have ej:j=as.length:=by simp at h1;omega
     subst ej
     rw[FE (nlr _),GX]at e
     have e:q=b:=osi e
     subst e
     refine⟨nqD,hS.free hq,?_⟩
     rw[aq nqD]
     exact ag
  rintro H1 ⟨as,hS,hDl,hlen,hnd,hat⟩
  rw[lmp,o.pn]at hlen
  have hb0:NbS H H1 D as (eC S 0):=⟨hS,hD,hDl,hnd,λi b e=>hat i b e⟩
  have o1:=o.same hS
  refine⟨_,rfl,a,C,dx,_,_,rfl,o1.at_,T.cl,T.nL,qi,l,rfl,⟨_,SqL.of o1.ll⟩,eg (K:=K) (a:=l) (xs:=ls.map V.ref) (λi σ H'=>(∃v,σ=[some (.ref a),some (.ref D),v,none])/\NbS H H' D as (eC S i))
   ⟨⟨none,rfl⟩,hb0⟩ (λi σ H' _ h=>SqL.of (h.2.sm _ _ o.ll)) ?_ ?_⟩
  ·rintro t y σ H' hi ⟨⟨v,rfl⟩,hb⟩
   obtain⟨b,hbl,rfl⟩:=cg hi
   have ht:t<S.lines.length:=by rw[<-o.ln];exact(gsi hbl).1
   obtain⟨x1,x2⟩:=hlo _ (FS ht)
   obtain⟨c1,hc1⟩:∃c,as[S.lines[t].1]? = some c:=⟨as[S.lines[t].1]'(by omega),gge _⟩
   obtain⟨c2,hc2⟩:∃c,as[S.lines[t].2]? = some c:=⟨as[S.lines[t].2]'(by omega),gge _⟩
   have hx:SqT K H' b (iV [(S.lines[t].1:Int),(S.lines[t].2:Int)]):=(o.same hb.sm).lnAt ht hbl
   have hr1:=(hb.row _ _ hc1).2.2
   refine⟨_,rfl,_,rfl,b,_,_,_,rfl,rfl,hx,aA (j:=0) rfl rfl,D,_,_,_,rfl,rfl,SqL.of hb.at_,aA (j:=S.lines[t].1) rfl (aN hc1),.inl ⟨rfl,_,SqL.of hr1⟩,_,rfl,b,_,_,_,rfl,rfl,hx,aA (j:=1) rfl rfl,c1,_,_,rfl,rfl,hr1,?_,?_⟩
   ·unfold iV nI
    rw[lmp,lmp]
    have:=mN S t S.lines[t].1
    exact bn (by omega)
   have hb2:=hb.push (g:=λj=>if j=S.lines[t].1 then eC S t S.lines[t].1++[S.lines[t].2] else eC S t j) hc1 (λj _=>rfl)
   generalize upd H' c1 (.lst (iV (nI (eC S t S.lines[t].1))++[.int (S.lines[t].2:Int)]))=H2 at hb2
   have hx2:SqT K H2 b (iV [(S.lines[t].1:Int),(S.lines[t].2:Int)]):=(o.same hb2.sm).lnAt ht hbl
   have hr2:=(hb2.row _ _ hc2).2.2
   rw[Fl (show ¬S.lines[t].2=S.lines[t].1 by omega)]at hr2
   refine⟨_,rfl,_,rfl,b,_,_,_,rfl,rfl,hx2,aA (j:=1) rfl rfl,D,_,_,_,rfl,rfl,SqL.of hb2.at_,aA (j:=S.lines[t].2) rfl (aN hc2),.inl ⟨rfl,_,SqL.of hr2⟩,_,rfl,b,_,_,_,rfl,rfl,hx2,aA (j:=0) rfl rfl,c2,_,_,rfl,rfl,hr2,?_,?_⟩
   ·unfold iV nI
    rw[lmp,lmp]
    have:=mN S t S.lines[t].2
    exact bn (by omega)
   refine⟨⟨_,rfl⟩,?_⟩
   have hb3:=hb2.push (g:=eC S (t+1)) hc2 (z:=S.lines[t].1) (λj _=>by
    rw[rK ht,Fl (show ¬S.lines[t].2=S.lines[t].1 by omega)]
    unfold uG
    by_cases e2:j=S.lines[t].2
    ·rw[Fs e2,Fl (by omega),Fs e2.symm,e2]
     rfl
    ·rw[Fl e2]
     by_cases e1:j=S.lines[t].1
     ·rw[Fs e1.symm,Fs e1,e1]
      rfl
     ·rw[Fl (λz=>e1 z.symm),Fl (λz=>e2 z.symm),Fl e1]
      exact GT _)
   rw[Fl (show ¬S.lines[t].2=S.lines[t].1 by omega)]at hb3
   exact hb3
  ·rintro σ H' ⟨⟨v,rfl⟩,hb⟩
   refine⟨_,rfl,k H' D as ?_ hlen⟩
   rw[lmp,o.ln]at hb
   have e:eC S S.lines.length=S.near:=funext λi=>sQ S i
   rw[e]at hb
   exact hb
def loV:Option Nat->V
 |none=>.non
 |some k=>.int (k:Int)
def mkS (lo:Option Nat)(l:List Bool):List Bool:=match lo with
 |none=>l
 |some k=>l.set k true
def fq (lo:Option Nat)(n:Nat):Array Bool:=match lo with
 |none=>Js n
 |some k=>(Js n).setIfInBounds k true
theorem xD {lo:Option Nat}{j:Nat}(h:lo≠some j)(l:List Bool):(mkS lo l)[j]? = l[j]?:=by
 cases lo with
 |none=>rfl
 |some k=>exact HI (λz=>h (by rw[z]))
theorem Eo {j:Nat}{l:List Bool}(h:j<l.length):(mkS (some j) l)[j]? = some true:=IG h
theorem sw {lo:Option Nat}{j:Nat}(h:lo≠some j)(l:List Bool):(mkS lo l).set j true=mkS lo (l.set j true):=by
 cases lo with
 |none=>rfl
 |some k=>exact List.set_comm _ _ (λz=>h (by rw[z]))
theorem Ay (lo:Option Nat)(l:List Bool):(mkS lo l).length=l.length:=by
 cases lo with
 |none=>rfl
 |some k=>exact List.length_set
theorem pK {a:Array Bool}{j:Nat}{b:Bool}(h:a.toList[j]? = some b):a.getD j true=b:=by
 rw[GW,<-Array.getElem?_toList,h]
 rfl
theorem ii (lo:Option Nat)(n:Nat):(fq lo n).toList=mkS lo (HM n false):=by
 cases lo with
 |none=>exact Array.toList_replicate
 |some k =>
  show((Js n).setIfInBounds k true).toList=_
  rw[HZ]
  unfold Js
  rw[Array.toList_replicate]
  rfl
def RW (H:Hp)(N:Fi)(as:List Fi)(f:Nat->List Nat):Prop:=H N=some (.lst (as.map V.ref))/\∀(i:Nat) (b:Fi),as[i]? = some b->H b=some (.lst (iV (nI (f i))))
theorem RW.same {H H':Hp}{N:Fi}{as:List Fi}{f:Nat->List Nat}(h:RW H N as f)(s:al H H'):RW H' N as f:=⟨s _ _ h.1,λi b e=>s _ _ (h.2 i b e)⟩
theorem NbS.rw {H0 H:Hp}{N:Fi}{as:List Fi}{f:Nat->List Nat}(h:NbS H0 H N as f):RW H N as f:=⟨h.at_,λi b e=>(h.row i b e).2.2⟩
def nrs (n:Nat)(f:Nat->List Nat):Array (List Nat):=((FJ n).map f).toArray
theorem Ba {n:Nat}{f:Nat->List Nat}{k:Nat}(h:k<n):(nrs n f).getD k []=f k:=by
 unfold nrs
 rw[GW,List.getElem?_toArray,FA,HR h]
 rfl
structure RfS (H H':Hp)(R Wa:Fi)(n:Nat)(lo:Option Nat)(todo:List Nat)(seen:Array Bool)(Rl:List Bool):Prop where
 sm:al H H'
 r:H' R=some (.lst (Rl.map V.bl))
 w:H' Wa=some (.lst (iV (nI todo.reverse)))
 ln:Rl.length=n
 sk:seen.toList=mkS lo Rl
 lo:∀k,lo=some k->Rl[k]? = some false
 td:∀j∈todo,j<n
def y4:Sp:=λvs H Q _=>∃(st:Nat) (N:Fi) (as:List Fi) (f:Nat->List Nat) (lo:Option Nat) (n:Nat),vs=[.int (st:Int),.ref N,loV lo]/\RW H N as f/\as.length=n/\n<=100000/\st<n/\lo≠some st/\(∀k,lo=some k->k<n)/\(∀i,i<n->∀j∈f i,j<n) /\
 ∀(H':Hp) (R:Fi) (Rl:List Bool),al H H'->H' R=some (.lst (Rl.map V.bl))->Rl.length=n->(∀k,lo=some k->Rl[k]? = some false)->mkS lo Rl=(IU (nrs n f) n st (fq lo n)).toList->Q (.ref R) H'
theorem vF:ap ["start","neighbours","left_out","reached","waiting","here","there","row"] ["start","neighbours","left_out"] (ah df):=fsk
theorem ue {n k:Nat}(h:k<n):ixN n (k:Int)=some k:=by
 unfold ixN
 rw[Fs (by omega),Fs (by omega),GG]
theorem Du {l:List Bool}{j:Nat}{b:Bool}(h:l[j]? = some b):(l.map V.bl)[j]? = some (.bl b):=by
 rw[FA,h]
 rfl
theorem lm {l:List Nat}{i:Nat}{v:V}(h:(iV (nI l))[i]? = some v):∃x,l[i]? = some x/\v=.int (x:Int):=by
 unfold iV nI at h
 rw[FA,FA]at h
 cases e:l[i]? with
 |none=>rw[e]at h;cases h
 |some x =>
  rw[e]at h
  exact⟨x,rfl,(osi h).symm⟩
theorem fW (l:List Nat)(k:Nat):iV (nI (l++[k]))=iV (nI l)++[.int (k:Int)]:=by
 unfold iV nI
 rw[FP,FP]
 rfl
theorem bQ (l:List Nat):(iV (nI l)).length=l.length:=by
 unfold iV nI
 rw[lmp,lmp]
theorem yN (xs:List V)(v:V):(xs++[v])[(xs++[v]).length-1]? = some v:=by
 rw[Fm,List.length_singleton,Nat.add_sub_cancel,FE (nlr _),GX]
 rfl
theorem BW (F:Has K mg "reached_from" df ["start","neighbours","left_out"]) (gl:mg "len"=none):Cb P w K mg base 1 "reached_from" ["start","neighbours","left_out"] y4:=by
 refine F.cb vF (λvs H Q E h=>?_) (λff cdv A outer s H vs Q E hr h=>?_)
 ·obtain⟨st,N,as,f,lo,n,rfl,_⟩:=h
  rfl
 ·obtain⟨st,N,as,f,lo,n,rfl,hrw,hlen,hn,hst,hlost,hlon,hfn,k⟩:=h
  refine⟨_,ad (cp (i:=3) (own:=[("row",7)]) rfl vF.nd rfl rfl (dC rfl rfl rfl (by decide +kernel)) (bL (pv 1)) (bJ (by show iu ["start","neighbours","left_out","reached","waiting","here","there","row"] (ah df) _ _=true;decide +kernel))
    (λ_ _ _ _ _=>au (i:=7) vF.nd rfl (.inl rfl) (.inr rfl)) (λ_ _ _ _ _=>eO) (λ_ _ _ _ _=>d9))
   (ad (xz d9 (wB (pv 3) (pv 0) rV))
   (ad (aB (i:=4) vF.nd rfl (.inl rfl) (dL (aa (pv 0) ac)))
   (ad (mS FC (aJ dY (aU aM (by rfl) gl Gh (aa (pv 4) ac)) af (aH _))
    (ad (aB (i:=5) vF.nd rfl (.inl rfl) (Bp Gz PySem.F.slot_list_pop PySem.F.type_list_pop Bu (pv 4)))
    (ae (bw FC rfl (bL (aw aS (pv 1) (pv 5) (λ_ _=>rfl))) (au (i:=6) vF.nd rfl (.inl rfl))
     (ae (aX (jN (aJ xL (pv 6) (pv 2) (aH _)) (ik (iK (cA (aw aS (pv 3) (pv 6) (λ_ _=>rfl)))))).pt
      (ad (xz d9 (wB (pv 3) (pv 6) rV))
      (ae (jb (lJ Gz HB HC gQ (pv 4) (aa (pv 6) ac))))) aI))))))
   (ae (ak (pv 3)))))),?_⟩
  refine⟨_,rfl,N,rfl,⟨_,SqL.of hrw.1⟩,λD hD=>?_⟩
  refine ie (K:=K) (a:=N) (xs:=as.map V.ref) (λi H'=>H'=upd H D (.lst ((HM i false).map V.bl))) rfl (λi H' _ h=>by rw[h];exact SqL.of (by rw[aq (aO hrw.1 hD)];exact hrw.1)) ?_ ?_
  ·rintro i y H' hi rfl
   have hil:i<as.length:=by
    have:=(gsi hi).1
    rw[lmp]at this
    exact this
   refine⟨rfl,oe (eI ?_)⟩
   refine⟨_,ag,by rw[lmp,Ic];exact bn (by omega),?_⟩
   rw[ud,List.replicate_succ',FP]
   rfl
  rintro H1 rfl
  rw[lmp,hlen]
  refine⟨_,rfl,_,rfl,D,_,_,st,rfl,rfl,ag,ue (by rw[lmp,Ic];exact hst),?_⟩
  rw[ud]
  have eset:((HM n false).map V.bl).set st (.bl true)=((HM n false).set st true).map V.bl:=by rw[List.map_set]
  rw[eset]
  refine⟨_,rfl,(by show 1<=Fk;decide),λWa hWa=>?_⟩
  have nDW:D≠Wa:=λz=>by rw[z,ag]at hWa;cases hWa
  have hW0:H Wa=none:=by rw[aq nDW.symm]at hWa;exact hWa
  have s1:al H (upd H D (.lst (((HM n false).set st true).map V.bl))):=aL hD
  have s2:al H (upd (upd H D (.lst (((HM n false).set st true).map V.bl))) Wa (.lst [.int (st:Int)])):=aW s1 hW0
  have z0:RfS H (upd (upd H D (.lst (((HM n false).set st true).map V.bl))) Wa (.lst [.int (st:Int)])) D Wa n lo [st] ((fq lo n).setIfInBounds st true) ((HM n false).set st true):=by
   refine⟨s2,?_,ag,?_,?_,?_,?_⟩
   ·rw[aq nDW]
    exact ag
   ·rw[List.length_set,Ic]
   ·rw[HZ,ii,sw hlost]
   ·intro q hq
    rw[HI (λz=>hlost (by rw[hq,z])),List.getElem?_replicate,Fs (hlon q hq)]
   ·intro j hj
    rw[List.mem_singleton.1 hj]
    exact hst
  refine⟨λmm σ H'=>mm<=n+1/\∃v5 v6 todo seen Rl,σ=[some (.int (st:Int)),some (.ref N),some (loV lo),some (.ref D),some (.ref Wa),v5,v6,none]/\RfS H H' D Wa n lo todo seen Rl/\todo.length+WL.eV seen<=mm/\Gla.spread (nrs n f) mm todo seen=IU (nrs n f) n st (fq lo n),
   ⟨n+1,nlr _,none,none,[st],_,_,rfl,z0,?_,rfl⟩,?_⟩
  ·unfold WL.eV
   rw[z0.sk,<-sw hlost,<-ii]
   have h1:(fq lo n).toList[st]? = some false:=by
    rw[ii,xD hlost,List.getElem?_replicate,Fs hst]
   have h2:=WL.jd h1
   have h3:(fq lo n).toList.count false<=n:=by
    refine Gb List.count_le_length ?_
    rw[ii,Ay,Ic]
    exact nlr _
   show 1+_<=n+1
   omega
  rintro mm σ H' ⟨hmm,v5,v6,todo,seen,Rl,rfl,z,hmu,hfin⟩
  refine⟨_,rfl,Wa,_,rfl,.inl (SqL.of z.w),_,_,rfl,rfl,_,rfl,aQ (λc=>?_) (λc=>?_)⟩
  ·have c:=Ff c
   rw[bQ,List.length_reverse]at c
   obtain⟨k0,r,rfl⟩:∃k0 r,todo=k0 :: r:=by
    cases todo with
    |nil=>simp at c
    |cons k0 r=>exact⟨k0,r,rfl⟩
   obtain⟨m',rfl⟩:∃m',mm=m'+1:=⟨mm-1,by simp at hmu;omega⟩
   have hk0:k0<n:=z.td k0 (FB)
   rw[WL.rY,Ba hk0]at hfin
   refine⟨λσ' H'=>m'<=n+1/\∃v5 v6 todo seen Rl,σ'=[some (.int (st:Int)),some (.ref N),some (loV lo),some (.ref D),some (.ref Wa),v5,v6,none]/\RfS H H' D Wa n lo todo seen Rl/\todo.length+WL.eV seen<=m'/\Gla.spread (nrs n f) m' todo seen=IU (nrs n f) n st (fq lo n),λσ' H' h=>⟨m',by omega,h⟩,?_⟩
   have hw:=z.w
   rw[List.reverse_cons,fW]at hw
   refine⟨_,rfl,.inl ⟨rfl,_,SqL.of hw⟩,Wa,_,_,rfl,rfl,hw,yN _ _,?_⟩
   rw[List.dropLast_concat]
   have z2:RfS H (upd H' Wa (.lst (iV (nI r.reverse)))) D Wa n lo r seen Rl:=⟨aW z.sm hW0,by rw[aq nDW];exact z.r,ag,z.ln,z.sk,z.lo,λj hj=>z.td j (Fj _ hj)⟩
   generalize upd H' Wa (.lst (iV (nI r.reverse)))=H2 at z2
   obtain⟨b,hb⟩:∃b,as[k0]? = some b:=⟨as[k0]'(by omega),gge _⟩
   have hrw2:=hrw.same z2.sm
   refine⟨_,rfl,_,rfl,N,_,_,_,rfl,rfl,SqL.of hrw2.1,aA (j:=k0) rfl (aN hb),b,rfl,⟨_,SqL.of (hrw2.2 k0 b hb)⟩,?_⟩
   refine eg (K:=K) (a:=b) (xs:=iV (nI (f k0))) (λt σ H'=>∃v6 Rl,σ=[some (.int (st:Int)),some (.ref N),some (loV lo),some (.ref D),some (.ref Wa),some (.int (k0:Int)),v6,none]/\RfS H H' D Wa n lo (((f k0).take t).foldl WL.eX (r,seen)).1 (((f k0).take t).foldl WL.eX (r,seen)).2 Rl)
    ⟨v6,Rl,rfl,z2⟩ (λt σ H' _ h=>by obtain⟨_,_,_,h⟩:=h;exact SqL.of ((hrw.same h.sm).2 k0 b hb)) ?_ ?_
   ·rintro t y σ H3 ht ⟨w6,Rl2,rfl,z3⟩
    obtain⟨j,hj,rfl⟩:=lm ht
    have hjn:j<n:=hfn k0 hk0 j (Gg hj)
    have mu:=WL.kX ((f k0).take t) (r,seen)
    rw[bW hj,List.foldl_append,HU,List.foldl_nil]
    generalize ((f k0).take t).foldl WL.eX (r,seen)=za at z3 mu
    obtain⟨za1,za2⟩:=za
    have hskip:za2.getD j true=true->WL.eX (za1,za2) j=(za1,za2):=λe=>by
     unfold WL.eX
     rw[Fs e]
    obtain⟨bj,hbj⟩:∃bj,Rl2[j]? = some bj:=⟨Rl2[j]'(by have:=z3.ln;omega),gge _⟩
    refine⟨_,rfl,_,rfl,(by cases lo<;>rfl),_,rfl,aQ (λc1=>?_) (λc1=>?_)⟩
    ·have c1:lo≠some j:=λe=>by
      rw[e]at c1
      have:decide (V.int (j:Int)=loV (some j))=true:=dqt rfl
      rw[this]at c1
      exact absurd c1 (by decide)
     refine⟨_,rfl,_,rfl,D,_,_,_,rfl,rfl,SqL.of z3.r,aA (j:=j) rfl (Du hbj),_,rfl,?_⟩
     have hgs:za2.toList[j]? = some bj:=by rw[z3.sk,xD c1,hbj]
     cases bj with
     |true =>
      refine jy ?_
      refine⟨_,Rl2,rfl,?_⟩
      rw[hskip (pK hgs)]
      exact z3
     |false =>
      refine eI ?_
      refine⟨_,rfl,_,rfl,D,_,_,j,rfl,rfl,z3.r,ue (by rw[lmp,z3.ln];exact hjn),?_⟩
      have e3:(Rl2.map V.bl).set j (.bl true)=(Rl2.set j true).map V.bl:=by rw[List.map_set]
      rw[e3]
      have hw3:(upd H3 D (.lst ((Rl2.set j true).map V.bl))) Wa=some (.lst (iV (nI za1.reverse))):=by
       rw[aq nDW.symm]
       exact z3.w
      refine⟨_,rfl,.inl ⟨rfl,_,SqL.of hw3⟩,_,rfl,Wa,_,_,rfl,rfl,hw3,?_,?_⟩
      ·rw[bQ,List.length_reverse]
       have e1:za1.length+WL.eV za2=r.length+WL.eV seen:=mu
       simp at hmu
       exact bn (by omega)
      refine⟨_,Rl2.set j true,rfl,?_⟩
      have hv:WL.eX (za1,za2) j=(j :: za1,za2.setIfInBounds j true):=by
       unfold WL.eX
       rw[Fl (by rw[pK hgs];decide)]
      rw[hv]
      refine⟨aW (aW z3.sm hD) hW0,?_,?_,?_,?_,?_,?_⟩
      ·rw[aq nDW]
       exact ag
      ·rw[ag,List.reverse_cons,fW]
      ·rw[List.length_set]
       exact z3.ln
      ·rw[HZ,z3.sk,sw c1]
      ·intro q hq
       rw[HI (λe=>c1 (by rw[hq,e]))]
       exact z3.lo q hq
      ·intro i hi
       rcases Fp.1 hi with rfl|hi
       ·exact hjn
       ·exact z3.td i hi
    ·have c1:lo=some j:=by
      cases lo with
      |none=>exact absurd rfl c1
      |some q =>
       by_cases e:q=j
       ·rw[e]
       ·exfalso
        refine c1 ?_
        have:decide (V.int (j:Int)=loV (some q))=false:=dqf (λy=>e (by have:=V.int.inj y;omega))
        rw[this]
        rfl
     refine jy ?_
     refine⟨_,Rl2,rfl,?_⟩
     rw[hskip (pK (by rw[z3.sk,c1];exact Eo (by rw[z3.ln];exact hjn)))]
     exact z3
   ·rintro σ H3 ⟨w6,Rl2,rfl,z3⟩
    rw[bQ,Ho]at z3
    have mu:=WL.kX (f k0) (r,seen)
    refine⟨by omega,_,_,_,_,Rl2,rfl,z3,?_,hfin⟩
    have e1:((f k0).foldl WL.eX (r,seen)).1.length+WL.eV ((f k0).foldl WL.eX (r,seen)).2=r.length+WL.eV seen:=mu
    simp at hmu
    omega
  ·have c:=aF c
   rw[bQ,List.length_reverse]at c
   have e0:todo=[]:=List.eq_nil_of_length_eq_zero (by omega)
   subst e0
   rw[WL.tD]at hfin
   refine⟨_,rfl,k H' D Rl z.sm z.r z.ln z.lo ?_⟩
   rw[<-hfin,z.sk]
def kM (i:Nat):Int:=20+8*(i:Int)
def D0 (C:Fi):Sp:=λvs H Q _=>∃(a N:Fi) (as:List Fi) (S:Gla.Plan),vs=[.ref a,.ref N]/\bz C H a S/\RW H N as S.near/\as.length=S.pts.length/\dr (jp 8 kM ((FJ S.pts.length).find? λi=>decide ((S.near i).length<2))) H Q
theorem Aq:ap ["drawing","neighbours","k","row"] ["drawing","neighbours"] (ah dU):=fsk
theorem C0 (F:Has K mg "fault_of_ends" dU ["drawing","neighbours"]) (T:DCl K mg C) (ge:mg "enumerate"=none) (gl:mg "len"=none) (C1:Cm P w K mg base 1 C "place_of_point" ["self","k"] pV) :
  Cb P w K mg base 2 "fault_of_ends" ["drawing","neighbours"] (D0 C):=by
 refine F.cb Aq (λvs H Q E h=>?_) (λ_ _ A _ s H vs Q E hr h=>?_)
 ·obtain⟨a,N,as,S,rfl,_⟩:=h
  rfl
 ·obtain⟨a,N,as,S,rfl,hd,hrw,hlen,k⟩:=h
  obtain⟨dx,p,l,m,ps,ls,ms,o⟩:=hd.op (K:=K)
  refine⟨_,ad (bw FC rfl (dR rfl ge (aa (pv 1) ac)) (cO (n:=2) rfl (aK (au (i:=2) Aq.nd rfl (.inl rfl)) (aK (au (i:=3) Aq.nd rfl (.inl rfl)) bR)))
    (ae (aX (aJ fT (aU aM (by rfl) gl Gh (aa (pv 3) ac)) af (aH _))
     (ae (ak (bv (aa af (aa (gI (pv 0) T.cl C1 hr (aa (pv 2) ac)) ac))))) aI)))
   (ae (ak a9)),?_⟩
  refine⟨_,rfl,N,_,rfl,SqL.of hrw.1,dc (K:=K) (a:=N) (xs:=as.map V.ref) (λi σ H'=>al H H'/\(∃v1 v2,σ=[some (.ref a),some (.ref N),v1,v2])/\∀j,j<i->decide ((S.near j).length<2)=false)
   ⟨al.refl H,⟨none,none,rfl⟩,λj h=>absurd h (Gy _)⟩ (λi σ H' _ h=>SqL.of (h.1 _ _ hrw.1)) ?_ ?_⟩
  ·rintro i y T' σ H' hi hT ⟨hS,⟨v1,v2,rfl⟩,hok⟩
   obtain⟨b,hb,rfl⟩:=cg hi
   have hil:i<S.pts.length:=by rw[<-hlen];exact(gsi hb).1
   have s2:al H (upd H' T' (.tup [.int (i:Nat),.ref b])):=aY hS hT
   refine⟨T',_,rfl,SqT.of ag,rfl,_,_,rfl,_,_,rfl,rfl,?_⟩
   generalize upd H' T' (.tup [.int (i:Nat),.ref b])=H2 at s2
   have o2:=o.same s2
   refine⟨_,rfl,b,_,rfl,.inl (SqL.of ((hrw.same s2).2 i b hb)),_,_,rfl,rfl,_,rfl,?_⟩
   rw[bQ]
   refine aQ (λc=>?_) (λc=>?_)
   ·have c:=Ff c
    refine⟨_,rfl,a,dx,_,rfl,o2.at_,bZ (.inl (.inl rfl)),_,rfl,_,_,rfl,(by show 2<=Fk;decide),λq hq=>?_⟩
    have e:(FJ S.pts.length).find? (λi=>decide ((S.near i).length<2))=some i:=WL.jF hil (dqt (by omega)) hok
    rw[e]at k
    exact dr.some' k s2 q hq
   ·have c:=aF c
    refine⟨s2,⟨_,_,rfl⟩,λj h=>?_⟩
    by_cases cc:j<i
    ·exact hok j cc
    ·have:j=i:=by omega
     subst this
     exact dqf (by omega)
  ·rintro σ H' ⟨hS,⟨v1,v2,rfl⟩,hok⟩
   have e:(FJ S.pts.length).find? (λi=>decide ((S.near i).length<2))=none:=WL.i8 λj hj=>hok j (by rw[lmp,hlen];exact hj)
   rw[e]at k
   exact k H' hS
def lF (S:Gla.Plan):Array Bool:=IU S.nears S.pts.length 0 (Js S.pts.length)
def wL (S:Gla.Plan):Prop:=∀i,i<S.pts.length->∀j∈S.near i,j<S.pts.length
def Di (C:Fi):Sp:=λvs H Q _=>∃(a N:Fi) (as:List Fi) (S:Gla.Plan),vs=[.ref a,.ref N]/\bz C H a S/\SB S/\4<=S.pts.length/\wL S/\RW H N as S.near/\as.length=S.pts.length/\dr (jp 9 kM ((FJ S.pts.length).find? λi=>!((lF S).getD i false))) H Q
theorem A3:ap ["drawing","neighbours","k","reached"] ["drawing","neighbours"] (ah dW):=fsk
theorem yn {a:Array Bool}{j:Nat}{b:Bool}(h:a.toList[j]? = some b):a.getD j false=b:=by
 rw[GW,<-Array.getElem?_toList,h]
 rfl
theorem Ee {l:List Bool}{i:Nat}{v:V}(h:(l.map V.bl)[i]? = some v):∃x,l[i]? = some x/\v=.bl x:=by
 rw[FA]at h
 cases e:l[i]? with
 |none=>rw[e]at h;cases h
 |some x =>
  rw[e]at h
  exact⟨x,rfl,(osi h).symm⟩
theorem Ch (F:Has K mg "fault_of_ways" dW ["drawing","neighbours"]) (T:DCl K mg C) (ge:mg "enumerate"=none) (C1:Cm P w K mg base 1 C "place_of_point" ["self","k"] pV) (C2:Cb P w K mg base 1 "reached_from" ["start","neighbours","left_out"] y4) :
  Cb P w K mg base 2 "fault_of_ways" ["drawing","neighbours"] (Di C):=by
 refine F.cb A3 (λvs H Q E h=>?_) (λ_ _ A _ s H vs Q E hr h=>?_)
 ·obtain⟨a,N,as,S,rfl,_⟩:=h
  rfl
 ·obtain⟨a,N,as,S,rfl,hd,sb,h4,hns,hrw,hlen,k⟩:=h
  obtain⟨dx,p,l,m,ps,ls,ms,o⟩:=hd.op (K:=K)
  have np:=sb.np
  refine⟨_,ad (bw FC rfl (dR rfl ge (aa (aE C2 hr (aa af (aa (pv 1) (aa a9 ac)))) ac)) (cO (n:=2) rfl (aK (au (i:=2) A3.nd rfl (.inl rfl)) (aK (au (i:=3) A3.nd rfl (.inl rfl)) bR)))
    (ae (aX (iK (cA (pv 3)))
     (ae (ak (bv (aa af (aa (gI (pv 0) T.cl C1 hr (aa (pv 2) ac)) ac))))) aI)))
   (ae (ak a9)),?_⟩
  refine⟨_,rfl,0,N,as,S.near,none,S.pts.length,rfl,hrw,hlen,np,by omega,(λz=>by cases z),(λq z=>by cases z),hns,λH1 R Rl s1 hR hRl _ hmk=>?_⟩
  have hmk:Rl=(lF S).toList:=hmk
  have bit:∀j,Rl[j]? = some true->(!((lF S).getD j false))=false:=λj e=>by rw[yn (by rw[<-hmk];exact e)];rfl
  refine⟨R,_,rfl,SqL.of hR,dc (K:=K) (a:=R) (xs:=Rl.map V.bl) (λi σ H'=>al H1 H'/\(∃v1 v2,σ=[some (.ref a),some (.ref N),v1,v2])/\∀j,j<i->(!((lF S).getD j false))=false)
   ⟨al.refl H1,⟨none,none,rfl⟩,λj h=>absurd h (Gy _)⟩ (λi σ H' _ h=>SqL.of (h.1 _ _ hR)) ?_ ?_⟩
  ·rintro i y T' σ H' hi hT ⟨hS,⟨v1,v2,rfl⟩,hok⟩
   obtain⟨b,hb,rfl⟩:=Ee hi
   have hil:i<S.pts.length:=by rw[<-hRl];exact(gsi hb).1
   have s2:al H1 (upd H' T' (.tup [.int (i:Nat),.bl b])):=aY hS hT
   refine⟨T',_,rfl,SqT.of ag,rfl,_,_,rfl,_,_,rfl,rfl,?_⟩
   generalize upd H' T' (.tup [.int (i:Nat),.bl b])=H2 at s2
   have o2:=o.same (s1.trans s2)
   refine⟨_,rfl,_,rfl,?_⟩
   cases b with
   |true =>
    refine jy ?_
    refine⟨s2,⟨_,_,rfl⟩,λj h=>?_⟩
    by_cases cc:j<i
    ·exact hok j cc
    ·have:j=i:=by omega
     subst this
     exact bit j hb
   |false =>
    refine eI ?_
    refine⟨_,rfl,a,dx,_,rfl,o2.at_,bZ (.inl (.inl rfl)),_,rfl,_,_,rfl,(by show 2<=Fk;decide),λq hq=>?_⟩
    have e:(FJ S.pts.length).find? (λi=>!((lF S).getD i false))=some i:=WL.jF hil (by rw[yn (by rw[<-hmk];exact hb)];rfl) hok
    rw[e]at k
    exact dr.some' k (s1.trans s2) q hq
  ·rintro σ H' ⟨hS,⟨v1,v2,rfl⟩,hok⟩
   have e:(FJ S.pts.length).find? (λi=>!((lF S).getD i false))=none:=WL.i8 λj hj=>hok j (by rw[lmp,hRl];exact hj)
   rw[e]at k
   exact k H' (s1.trans hS)
def zX (C:Fi):Sp:=λvs H Q _=>∃(a N:Fi) (as:List Fi) (S:Gla.Plan),vs=[.ref a,.ref N]/\bz C H a S/\SB S/\4<=S.pts.length/\wL S/\RW H N as S.near/\as.length=S.pts.length/\dr (jp 10 kM ((FJ S.pts.length).find? (Gla.cuts S.nears S.pts.length))) H Q
theorem wG:ap ["drawing","neighbours","k","start"] ["drawing","neighbours"] (ah cv):=fsk
theorem wc {l:List Bool}:false∈l↔0<l.count false:=by rw[List.count_pos_iff]
theorem yR {S:Gla.Plan}{i:Nat}{Rl:List Bool}(h1:Rl[i]? = some false)(h2:mkS (some i) Rl=(IU S.nears S.pts.length (if i=0 then 1 else 0) (fq (some i) S.pts.length)).toList):Gla.cuts S.nears S.pts.length i=decide (1<(Rl.count false:Nat)):=by
 have e:Gla.cuts S.nears S.pts.length i=(IU S.nears S.pts.length (if i=0 then 1 else 0) (fq (some i) S.pts.length)).contains false:=rfl
 rw[e,Ge,Array.contains_iff_mem,<-Array.mem_toList_iff,<-h2,wc,Fq]
 have h3:=WL.jd h1
 have h4:(mkS (some i) Rl).count false=(Rl.set i true).count false:=rfl
 omega
theorem Bk (F:Has K mg "fault_of_narrows" cv ["drawing","neighbours"]) (T:DCl K mg C) (gr:mg "range"=none) (gl:mg "len"=none) (C1:Cm P w K mg base 1 C "place_of_point" ["self","k"] pV) (C2:Cb P w K mg base 1 "reached_from" ["start","neighbours","left_out"] y4) :
  Cb P w K mg base 2 "fault_of_narrows" ["drawing","neighbours"] (zX C):=by
 refine F.cb wG (λvs H Q E h=>?_) (λ_ _ A _ s H vs Q E hr h=>?_)
 ·obtain⟨a,N,as,S,rfl,_⟩:=h
  rfl
 ·obtain⟨a,N,as,S,rfl,hd,sb,h4,hns,hrw,hlen,k⟩:=h
  obtain⟨dx,p,l,m,ps,ls,ms,o⟩:=hd.op (K:=K)
  have np:=sb.np
  refine⟨_,ad (bw FC rfl (oo rfl gr (aa (aU aM (by rfl) gl Gh (aa (pv 1) ac)) ac)) (au (i:=2) wG.nd rfl (.inl rfl))
    (ad (aB (i:=3) wG.nd rfl (.inl rfl) (wl (aJ jS (pv 2) af (aH _)) af af))
    (ae (aX (aJ dY (lJ Gz PySem.F.slot_list_count PySem.F.type_list_count vT (aE C2 hr (aa (pv 3) (aa (pv 1) (aa (pv 2) ac)))) (aa d9 ac)) af (aH _))
     (ae (ak (bv (aa af (aa (gI (pv 0) T.cl C1 hr (aa (pv 2) ac)) ac))))) aI))))
   (ae (ak a9)),?_⟩
  refine⟨_,rfl,N,_,rfl,.inl (SqL.of hrw.1),_,rfl,by omega,by rw[lmp];omega,?_⟩
  rw[lmp,hlen,GG]
  refine i9 (λi σ H'=>al H H'/\(∃v1 v2,σ=[some (.ref a),some (.ref N),v1,v2])/\∀j,j<i->Gla.cuts S.nears S.pts.length j=false)
   ⟨al.refl H,⟨none,none,rfl⟩,λj h=>absurd h (Gy _)⟩ ?_ ?_
  ·rintro i σ H' hil ⟨hS,⟨v1,v2,rfl⟩,hok⟩
   rw[Int.zero_add]
   have body:∀st:Nat,st=(if i=0 then 1 else 0)->tp (eY (tOp (rI0 λi j=>.bl (decide (j<i))) (tBM K "list" (uS K) (lI y4 [] E0 (bD (a5 3) (bD (a5 1) (bD (a5 2) fI)))) (bD (tC (.bl false)) fI)) (tC (.int 1))))
     (mO (va (bD (tC (.int 10)) (bD (j6 C "place_of_point" pV [] E0 (a5 0) (bD (a5 2) fI)) fI)))) nt
     { nx:=λσ H'=>al H H'/\(∃v1 v2,σ=[some (.ref a),some (.ref N),v1,v2])/\∀j,j<i+1->Gla.cuts S.nears S.pts.length j=false,rt:=Q,bk:=λσ H'=>Q .non H',ct:=λσ H'=>al H H'/\(∃v1 v2,σ=[some (.ref a),some (.ref N),v1,v2])/\∀j,j<i+1->Gla.cuts S.nears S.pts.length j=false }
     [some (.ref a),some (.ref N),some (.int (i:Int)),some (.int (st:Int))] H':=λst est=>by
    refine⟨_,rfl,_,rfl,_,rfl,st,N,as,S.near,some i,S.pts.length,rfl,hrw.same hS,hlen,np,?_,?_,?_,hns,λH1 R Rl s1 hR hRl hlo hmk=>?_⟩
    ·rw[est];split<;>omega
    ·intro z
     have z:=osi z
     rw[est]at z
     split at z<;>omega
    ·intro q z
     have z:=osi z
     omega
    rw[est]at hmk
    have ec:=yR (hlo i rfl) hmk
    have s2:=hS.trans s1
    have o2:=o.same s2
    refine⟨.inl ⟨rfl,_,SqL.of hR⟩,R,Rl,false,rfl,rfl,SqL.of hR,_,_,rfl,rfl,_,rfl,aQ (λc=>?_) (λc=>?_)⟩
    ·have c:=Ff c
     refine⟨_,rfl,a,dx,_,rfl,o2.at_,bZ (.inl (.inl rfl)),_,rfl,_,_,rfl,(by show 2<=Fk;decide),λq hq=>?_⟩
     have e:(FJ S.pts.length).find? (Gla.cuts S.nears S.pts.length)=some i:=WL.jF hil (by rw[ec];exact dqt (by omega)) hok
     rw[e]at k
     exact dr.some' k s2 q hq
    ·have c:=aF c
     refine⟨s2,⟨_,_,rfl⟩,λj h=>?_⟩
     by_cases cc:j<i
     ·exact hok j cc
     ·have:j=i:=by omega
      subst this
      rw[ec]
      exact dqf (by omega)
   refine⟨_,rfl,rfl,_,rfl,aQ (λc=>?_) (λc=>?_)⟩
   ·have c:=V.int.inj (Ff c)
    refine body 1 ?_
    rw[Fs (by omega)]
   ·have c:¬i=0:=λz=>c (dqt (by rw[z];rfl))
    refine body 0 ?_
    rw[Fl c]
  ·rintro σ H' ⟨hS,⟨v1,v2,rfl⟩,hok⟩
   have e:(FJ S.pts.length).find? (Gla.cuts S.nears S.pts.length)=none:=WL.i8 λj hj=>hok j hj
   rw[e]at k
   exact k H' hS
def qJ (S:Gla.Plan)(z:Pt):Bool:=(decide (0<z.x)&&decide (z.x<S.w))&&(decide (0<z.y)&&decide (z.y<S.h))
theorem xb (S:Gla.Plan)(z:Pt):Gla.clear S z=(qJ S z&&!Gla.onLines S z):=by
 unfold Gla.clear qJ
 rw[Bool.and_assoc,Bool.and_assoc,Bool.and_assoc]
def Dh (K:GC)(C:Fi):Sp:=λvs H Q _=>∃(a b:Fi) (S:Gla.Plan) (z:Pt),vs=[.ref a,.ref b]/\bz C H a S/\cD K H b z/\Q (.bl (qJ S z)) H
theorem E4:ap ["drawing","mark"] ["drawing","mark"] (ah cP):=fsk
theorem CG (F:Has K mg "is_within_frame" cP ["drawing","mark"]) (T:DCl K mg C):Cb P w K mg base 1 "is_within_frame" ["drawing","mark"] (Dh K C):=by
 refine F.cb E4 (λvs H Q E h=>?_) (λ_ _ A _ s H vs Q E hr h=>?_)
 ·obtain⟨a,b,S,z,rfl,_⟩:=h
  rfl
 ·obtain⟨a,b,S,z,rfl,hd,⟨⟨rz,hz⟩,_⟩,k⟩:=h
  obtain⟨dx,p,l,m,ps,ls,ms,o⟩:=hd.op (K:=K)
  refine⟨_,ae (ak (iH (kl fT fT af (aw aC (pv 1) af (λ_ _=>rfl)) (aP (pv 0) rfl)) (eq (kl fT fT af (aw aC (pv 1) af (λ_ _=>rfl)) (aP (pv 0) rfl))))),?_⟩
  have no:¬((0<z.x/\z.x<S.w)/\(0<z.y/\z.y<S.h))->Q (.bl false) H:=λq=>by
   have e:qJ S z=false:=cB λy=>q (by unfold qJ at y;simp only[Fn,Fq]at y;exact y)
   rw[e]at k
   exact k
  refine⟨_,rfl,b,_,_,_,rfl,rfl,hz,aA (j:=0) rfl rfl,_,_,rfl,rfl,_,rfl,aQ (λc1=>?_) (λc1=>?_)⟩
  ·have c1:=Ff c1
   refine⟨_,rfl,a,C,dx,_,_,rfl,o.at_,T.cl,T.nW,AC,_,_,rfl,rfl,_,rfl,aQ (λc2=>?_) (λc2=>?_)⟩
   ·have c2:=Ff c2
    refine⟨_,rfl,b,_,_,_,rfl,rfl,hz,aA (j:=1) rfl rfl,_,_,rfl,rfl,_,rfl,aQ (λc3=>?_) (λc3=>?_)⟩
    ·have c3:=Ff c3
     refine⟨_,rfl,a,C,dx,_,_,rfl,o.at_,T.cl,T.nH,A1,_,_,rfl,rfl,?_⟩
     have e:qJ S z=decide ((z.y:Int)<(S.h:Int)):=by
      unfold qJ
      rw[dqt (by omega:0<z.x),dqt (by omega:z.x<S.w),dqt (by omega:0<z.y),GK,GK,GK,Fz]
      omega
     rw[e]at k
     exact k
    ·have c3:=aF c3
     exact no (by omega)
   ·have c2:=aF c2
    exact no (by omega)
  ·have c1:=aF c1
   exact⟨_,rfl,jy (no (by omega))⟩
def CZ (K:GC)(C:Fi):Sp:=λvs H Q _=>∃(a b:Fi) (S:Gla.Plan) (z:Pt),vs=[.ref a,.ref b]/\bz C H a S/\SB S/\gb S/\cD K H b z/\Q (.bl (Gla.onLines S z)) H
theorem Da:ap ["drawing","mark","line"] ["drawing","mark"] (ah cX):=fsk
theorem Dy (F:Has K mg "is_on_some_line" cX ["drawing","mark"]) (T:DCl K mg C) (C1:Cb P w K mg base 2 "is_on" ["p","q","r"] (BL K)):Cb P w K mg base 3 "is_on_some_line" ["drawing","mark"] (CZ K C):=by
 refine F.cb Da (λvs H Q E h=>?_) (λ_ _ A _ s H vs Q E hr h=>?_)
 ·obtain⟨a,b,S,z,rfl,_⟩:=h
  rfl
 ·obtain⟨a,b,S,z,rfl,hd,sb,hlo,hz,k⟩:=h
  obtain⟨dx,p,l,m,ps,ls,ms,o⟩:=hd.op (K:=K)
  refine⟨_,ad (bw FC rfl (bL (aP (pv 0) rfl)) (au (i:=2) Da.nd rfl (.inl rfl))
    (ae (aX (cA (aE C1 hr (aa (aw aS (aP (pv 0) rfl) (aw aC (pv 2) af (λ_ _=>rfl)) (λ_ _=>rfl)) (aa (aw aS (aP (pv 0) rfl) (aw aC (pv 2) af (λ_ _=>rfl)) (λ_ _=>rfl)) (aa (pv 1) ac))))) (ae (ak d9)) aI)))
   (ae (ak d9)),?_⟩
  refine⟨_,rfl,a,C,dx,_,_,rfl,o.at_,T.cl,T.nL,qi,l,rfl,⟨_,SqL.of o.ll⟩,eg (K:=K) (a:=l) (xs:=ls.map V.ref) (λi σ H'=>H'=H/\(∃v,σ=[some (.ref a),some (.ref b),v])/\∀j (hj:j<S.lines.length),j<i->Gla.isOn (S.pt S.lines[j].1) (S.pt S.lines[j].2) z=false)
   ⟨rfl,⟨none,rfl⟩,λj hj h=>absurd h (Gy _)⟩ (λi σ H' _ h=>by rw[h.1];exact SqL.of o.ll) ?_ ?_⟩
  ·rintro t y σ H' hi ⟨rfl,⟨v,rfl⟩,hno⟩
   obtain⟨c,hc,rfl⟩:=cg hi
   have ht:t<S.lines.length:=by rw[<-o.ln];exact(gsi hc).1
   obtain⟨x1,x2⟩:=hlo _ (FS ht)
   have hx:SqT K H' c (iV [(S.lines[t].1:Int),(S.lines[t].2:Int)]):=o.lnAt ht hc
   obtain⟨b1,hb1⟩:=o.hasP (i:=S.lines[t].1) (by omega)
   obtain⟨b2,hb2⟩:=o.hasP (i:=S.lines[t].2) (by omega)
   refine⟨_,rfl,a,C,dx,_,_,rfl,o.at_,T.cl,T.nP,iw,_,rfl,c,_,_,_,rfl,rfl,hx,aA (j:=0) rfl rfl,p,_,_,_,rfl,rfl,SqL.of o.pl,aA (j:=S.lines[t].1) rfl (aN hb1),_,rfl,a,C,dx,_,_,rfl,o.at_,T.cl,T.nP,iw,_,rfl,c,_,_,_,rfl,rfl,hx,aA (j:=1) rfl rfl,p,_,_,_,rfl,rfl,SqL.of o.pl,aA (j:=S.lines[t].2) rfl (aN hb2),_,rfl,b1,b2,b,_,_,_,rfl,o.ptAt sb hb1,o.ptAt sb hb2,hz,_,rfl,aQ (λc1=>?_) (λc1=>?_)⟩
   ·show Q (.bl true) H'
    have e:Gla.onLines S z=true:=by
     unfold Gla.onLines
     rw[HH]
     exact⟨_,FS ht,c1⟩
    rw[e]at k
    exact k
   ·refine⟨rfl,⟨_,rfl⟩,λj hj h=>?_⟩
    by_cases d:j<t
    ·exact hno j hj d
    ·have:j=t:=by omega
     subst this
     exact cB c1
  ·rintro σ H' ⟨rfl,⟨v,rfl⟩,hno⟩
   have e:Gla.onLines S z=false:=by
    unfold Gla.onLines
    rw[Ip]
    intro x hx q
    obtain⟨j,hj,rfl⟩:=FO hx
    rw[hno j hj (by rw[lmp,o.ln];exact hj)]at q
    exact absurd q (by decide)
   rw[e]at k
   exact k
def mG (S:Gla.Plan)(i:Nat):Int:=20+8*(S.pts.length:Int)+4*(S.lines.length:Int)+12*(i:Int)
def Ah (C:Fi):Sp:=λvs H Q _=>∃(a:Fi) (S:Gla.Plan),vs=[.ref a]/\bz C H a S/\SB S/\gb S/\dr (jp 11 (mG S) (GD (Ib S) Hn S.marks)) H Q
theorem uD:ap ["drawing","k","mark","misplaced"] ["drawing"] (ah dt):=fsk
theorem Op.hasM {H:Hp}{a dx p l m:Fi}{S:Gla.Plan}{ps ls ms:List Fi}(o:Op K C H a dx p l m S ps ls ms){i:Nat}(hi:i<S.marks.length):∃b,ms[i]? = some b:=⟨_,gge (by rw[o.mn];exact hi)⟩
theorem Bg (F:Has K mg "fault_of_marks" dt ["drawing"]) (T:DCl K mg C) (ge:mg "enumerate"=none) (C1:Cm P w K mg base 3 C "place_of_mark" ["self","k"] (yx C)) (C2:Cb P w K mg base 1 "comes_behind" ["q","p"] (x6 K)) (C3:Cb P w K mg base 1 "is_within_frame" ["drawing","mark"] (Dh K C)) (C4:Cb P w K mg base 3 "is_on_some_line" ["drawing","mark"] (CZ K C)) :
  Cb P w K mg base 4 "fault_of_marks" ["drawing"] (Ah C):=by
 refine F.cb uD (λvs H Q E h=>?_) (λ_ _ A _ s H vs Q E hr h=>?_)
 ·obtain⟨a,S,rfl,_⟩:=h
  rfl
 ·obtain⟨a,S,rfl,hd,sb,hlo,k⟩:=h
  obtain⟨dx,p,l,m,ps,ls,ms,o⟩:=hd.op (K:=K)
  have hr1:bf 1 _:=hr.mono (by decide)
  refine⟨_,ad (bw FC rfl (dR rfl ge (aa (aP (pv 0) rfl) ac)) (cO (n:=2) rfl (aK (au (i:=1) uD.nd rfl (.inl rfl)) (aK (au (i:=2) uD.nd rfl (.inl rfl)) bR)))
    (ad (aB (i:=3) uD.nd rfl (.inl rfl) (rN (xu (aE C3 hr1 (aa (pv 0) (aa (pv 2) ac)))) (eq (aE C4 hr (aa (pv 0) (aa (pv 2) ac))))))
    (ae (aX (mi (cA (pv 3)) (jI (jN (aJ dY (pv 1) af (aH _)) (ik (iK (cA (aE C2 hr1 (aa (pv 2) (aa (aw aS (aP (pv 0) rfl) (aT eu (pv 1) af) (λ_ _=>rfl)) ac))))))).pt)).pt
     (ae (ak (bv (aa af (aa (gI (pv 0) T.cl C1 hr (aa (pv 1) ac)) ac))))) aI))))
   (ae (ak a9)),?_⟩
  refine⟨_,rfl,a,C,dx,_,_,rfl,o.at_,T.cl,T.nM,xF,m,_,rfl,SqL.of o.ml,dc (K:=K) (a:=m) (xs:=ms.map V.ref) (λi σ H'=>al H H'/\(∃v1 v2 v3,σ=[some (.ref a),v1,v2,v3])/\∀j (hj:j<S.marks.length),j<i->WL.bX (Ib S) Hn S.marks j S.marks[j]=false)
   ⟨al.refl H,⟨none,none,none,rfl⟩,λj hj h=>absurd h (Gy _)⟩ (λi σ H' _ h=>SqL.of (h.1 _ _ o.ml)) ?_ ?_⟩
  ·rintro i y T' σ H' hi hT ⟨hS,⟨v1,v2,v3,rfl⟩,hok⟩
   obtain⟨b,hb,rfl⟩:=cg hi
   have hil:i<S.marks.length:=by rw[<-o.mn];exact(gsi hb).1
   have s2:al H (upd H' T' (.tup [.int (i:Nat),.ref b])):=aY hS hT
   refine⟨T',_,rfl,SqT.of ag,rfl,_,_,rfl,_,_,rfl,rfl,?_⟩
   generalize upd H' T' (.tup [.int (i:Nat),.ref b])=H2 at s2
   have o2:=o.same s2
   have hpt:cD K H2 b S.marks[i].at_:=o2.mkAt sb hb (gge hil)
   have bad:WL.bX (Ib S) Hn S.marks i S.marks[i]=true->∀H3,al H H3->∀q,H3 q=none->Q (.ref q) (upd H3 q (.tup [.int 11,.int (mG S i)])):=λz H3 s3 q hq=>by
    have e:GD (Ib S) Hn S.marks=some i:=by
     rw[WL.d4]
     exact WL.ef hil z λj hj=>hok j (by omega) hj
    rw[e]at k
    exact dr.some' k s3 q hq
   have next:WL.bX (Ib S) Hn S.marks i S.marks[i]=false->∀j (hj:j<S.marks.length),j<i+1->WL.bX (Ib S) Hn S.marks j S.marks[j]=false:=λz j hj h=>by
    by_cases c:j<i
    ·exact hok j hj c
    ·have:j=i:=by omega
     subst this
     exact z
   have cont:∀(t:Bool),t=(!Gla.markOk S S.marks[i])->tp (tOr (tB (a5 3)) (yT (eY (tOp (rI0 λi j=>.bl (decide (j<i))) (a5 1) (tC (.int 0)))) (AV (tB (lI (x6 K) [] E0 (bD (a5 2) (bD (tOp (uX K) (wv K (a5 0) "marks") (tOp (rI0 λi j=>.int (i-j)) (a5 1) (tC (.int 1)))) fI)))))))
     (mO (va (bD (tC (.int 11)) (bD (j6 C "place_of_mark" (yx C) [] E0 (a5 0) (bD (a5 1) fI)) fI)))) nt
     { nx:=λσ H'=>al H H'/\(∃v1 v2 v3,σ=[some (.ref a),v1,v2,v3])/\∀j (hj:j<S.marks.length),j<i+1->WL.bX (Ib S) Hn S.marks j S.marks[j]=false,rt:=Q,bk:=λσ H'=>Q .non H',ct:=λσ H'=>al H H'/\(∃v1 v2 v3,σ=[some (.ref a),v1,v2,v3])/\∀j (hj:j<S.marks.length),j<i+1->WL.bX (Ib S) Hn S.marks j S.marks[j]=false }
     [some (.ref a),some (.int (i:Nat)),some (.ref b),some (.bl t)] H2:=λt et=>by
    refine⟨_,rfl,_,rfl,aQ (λc1=>?_) (λc1=>?_)⟩
    ·refine eI ?_
     refine⟨_,rfl,a,dx,_,rfl,o2.at_,bZ (.inr (.inl rfl)),_,rfl,a,S,_,rfl,o2.draw,(by show 2<=Fk;decide),λq hq=>?_⟩
     refine bad ?_ H2 s2 q hq
     unfold WL.bX
     rw[<-et,c1,Jr]
    ·have okt:(!Gla.markOk S S.marks[i])=false:=by rw[<-et];exact cB c1
     refine⟨_,rfl,_,_,rfl,rfl,_,rfl,aQ (λc2=>?_) (λc2=>?_)⟩
     ·have c2:(0:Int)<((i:Nat):Int):=Ff c2
      obtain⟨i',rfl⟩:∃i',i=i'+1:=⟨i-1,by omega⟩
      obtain⟨b',hb'⟩:=o2.hasM (i:=i') (by omega)
      have hpt':cD K H2 b' S.marks[i'].at_:=o2.mkAt sb hb' (gge (by omega))
      refine⟨_,rfl,_,rfl,a,C,dx,_,_,rfl,o2.at_,T.cl,T.nM,xF,_,rfl,_,_,rfl,rfl,m,_,_,_,rfl,rfl,SqL.of o2.ml,aA (j:=i') (by omega) (aN hb'),b,b',_,_,rfl,hpt,hpt',λH3 s3=>?_⟩
      have hbe:WL.bX (Ib S) Hn S.marks (i'+1) S.marks[i'+1]=!(S.marks[i'].at_.below S.marks[i'+1].at_):=by
       rw[WL.jz (by omega),okt,Bool.false_or]
       rfl
      refine⟨_,rfl,?_⟩
      cases hc:S.marks[i'].at_.below S.marks[i'+1].at_ with
      |true =>
       refine jy ?_
       exact⟨s2.trans s3,⟨_,_,_,rfl⟩,next (by rw[hbe,hc];rfl)⟩
      |false =>
       refine eI ?_
       refine⟨_,rfl,a,dx,_,rfl,(o2.same s3).at_,bZ (.inr (.inl rfl)),_,rfl,a,S,_,rfl,(o2.same s3).draw,(by show 2<=Fk;decide),λq hq=>?_⟩
       exact bad (by rw[hbe,hc];rfl) H3 (s2.trans s3) q hq
     ·have c2:=aF c2
      have i0:i=0:=by omega
      subst i0
      exact⟨s2,⟨_,_,_,rfl⟩,next (by rw[WL.jv];exact okt)⟩
   have ec:(!Gla.markOk S S.marks[i])=(!qJ S S.marks[i].at_||Gla.onLines S S.marks[i].at_):=by
    unfold Ib
    rw[xb,Bool.not_and,Bool.not_not]
   refine⟨_,rfl,_,rfl,a,b,S,_,rfl,o2.draw,hpt,_,rfl,_,rfl,aQ (λc1=>?_) (λc1=>?_)⟩
   ·refine cont true ?_
    rw[ec,c1,Jr]
   ·refine⟨_,rfl,_,rfl,a,b,S,_,rfl,o2.draw,sb,hlo,hpt,?_⟩
    refine cont _ ?_
    rw[ec,cB c1,Bool.false_or]
  ·rintro σ H' ⟨hS,⟨v1,v2,v3,rfl⟩,hok⟩
   have e:GD (Ib S) Hn S.marks=none:=by
    rw[WL.d4]
    refine WL.dN λj hj=>hok j hj ?_
    rw[lmp,o.mn]
    exact hj
   rw[e]at k
   exact k H' hS
def lk (x:Nat×Nat):List L2.Key:=[Sum.inl (x.1:Int),Sum.inl (x.2:Int)]
theorem BD {x y:Nat×Nat}(h:lk x=lk y):x=y:=by
 have h1:=List.cons.inj h
 have h2:=List.cons.inj h1.2
 have e1:=Sum.inl.inj h1.1
 have e2:=Sum.inl.inj h2.1
 exact Prod.ext (by omega) (by omega)
def LD (kvs:List (List L2.Key×V))(L:List (Nat×Nat)):Prop:=∀x:Nat×Nat,(fH kvs (lk x)).isSome=decide (x∈L)
theorem LD.put {kvs:List (List L2.Key×V)}{L:List (Nat×Nat)}(h:LD kvs L)(x:Nat×Nat)(v:V):LD (iR kvs (lk x) v) (L++[x]):=λy=>by
 rw[wP]
 by_cases e:lk y=lk x
 ·rw[Fs e,BD e]
  exact(dqt (by simp)).symm
 ·rw[Fl e,h y,Fz,FR,List.mem_singleton]
  constructor
  ·exact .inl
  ·rintro(q|q)
   ·exact q
   ·exact absurd (by rw[q]) e
def eN (L:List (Nat×Nat))(es:List Nat):Bool:=(es.zip (es.drop 1)).all λx=>decide (x∈L)
theorem tN {L:List (Nat×Nat)}{es:List Nat}{t:Nat}(h:t+1<es.length)(hx:(es[t],es[t+1])∉L):eN L es=false:=by
 unfold eN
 rw[List.all_eq_false]
 refine⟨(es[t],es[t+1]),?_,by rw[dqf hx];decide⟩
 rw[List.mem_iff_getElem]
 refine⟨t,by rw[HV,FZ];omega,?_⟩
 rw[ID,Iv]
 congr 2
 omega
theorem rQ {L:List (Nat×Nat)}{es:List Nat}(h:∀t (ht:t+1<es.length),(es[t],es[t+1])∈L):eN L es=true:=by
 unfold eN
 rw[Gx]
 intro x hx
 obtain⟨t,ht,rfl⟩:=FO hx
 rw[HV,FZ]at ht
 rw[ID,Iv]
 have:=h t (by omega)
 refine dqt ?_
 have e:1+t=t+1:=by omega
 simp only[e]
 exact this
def Ek:Sp:=λvs H Q _=>∃(n d:Fi) (es:List Nat) (kvs:List (List L2.Key×V)) (L:List (Nat×Nat)),vs=[.ref n,.ref d]/\H n=some (.lst (iV (nI es)))/\H d=some (.dT kvs)/\LD kvs L/\es.length<=100000/\∀H':Hp,al H H'->Q (.bl (eN L es)) H'
theorem B8:ap ["numbers","lines","k"] ["numbers","lines"] (ah bT):=fsk
theorem kI {l:List Nat}{i:Nat}(h:i<l.length):(iV (nI l))[i]? = some (.int (l[i]:Int)):=by
 unfold iV nI
 rw[FA,FA,gge h]
 rfl
theorem B3 (F:Has K mg "are_joined_in_a_row" bT ["numbers","lines"]) (gr:mg "range"=none) (gl:mg "len"=none):Cb P w K mg base 1 "are_joined_in_a_row" ["numbers","lines"] Ek:=by
 refine F.cb B8 (λvs H Q E h=>?_) (λ_ _ A _ s H vs Q E hr h=>?_)
 ·obtain⟨n,d,es,kvs,L,rfl,_⟩:=h
  rfl
 ·obtain⟨n,d,es,kvs,L,rfl,hn,hd,hL,hlen,k⟩:=h
  have hu:=hr.units
  refine⟨_,ad (bw FC rfl (pd rfl gr (aa af (aa (aU aM (by rfl) gl Gh (aa (pv 0) ac)) ac))) (au (i:=2) B8.nd rfl (.inl rfl))
    (ae (aX (sD (pG (Gn (HX (by decide) _) hu) (bv (aa (aw aS (pv 0) (aT eu (pv 2) af) (λ_ _=>rfl)) (aa (aw aS (pv 0) (pv 2) (λ_ _=>rfl)) ac))) (pv 1))) (ae (ak d9)) aI)))
   (ae (ak d9)),?_⟩
  refine⟨_,rfl,n,_,rfl,.inl (SqL.of hn),_,_,rfl,?_,?_⟩
  ·rw[bQ]
   omega
  rw[bQ]
  refine i9 (λt σ H'=>al H H'/\(∃v,σ=[some (.ref n),some (.ref d),v])/\∀j (hj:j+1<es.length),j<t->(es[j],es[j+1])∈L)
   ⟨al.refl H,⟨none,rfl⟩,λj hj h=>absurd h (Gy _)⟩ ?_ ?_
  ·rintro t σ H' ht ⟨hS,⟨v,rfl⟩,hok⟩
   have et:((1:Int)+(t:Int))=((t+1:Nat):Int):=by omega
   rw[et]
   have htl:t+1<es.length:=by omega
   have hn':=hS _ _ hn
   refine⟨_,rfl,_,rfl,_,_,rfl,rfl,n,_,_,_,rfl,rfl,SqL.of hn',aA (j:=t) (by omega) (kI (by omega)),_,rfl,_,rfl,n,_,_,_,rfl,rfl,SqL.of hn',aA (j:=t+1) rfl (kI htl),(by show 2<=Fk;decide),λq hq=>?_⟩
   have s2:al H (upd H' q (.tup [.int (es[t]:Int),.int (es[t+1]:Int)])):=aY hS hq
   refine⟨_,rfl,d,_,rfl,mI.t (k:=lk (es[t],es[t+1])) (s2 _ _ hd) ag,_,rfl,?_⟩
   rw[hL]
   refine aQ (λc=>?_) (λc=>?_)
   ·have c:(es[t],es[t+1])∉L:=λz=>by
     rw[dqt z]at c
     exact absurd c (by decide)
    rw[tN htl c]at k
    exact k _ s2
   ·have c:(es[t],es[t+1])∈L:=bcn λz=>c (by rw[dqf z];rfl)
    refine⟨s2,⟨_,rfl⟩,λj hj h=>?_⟩
    by_cases e:j<t
    ·exact hok j hj e
    ·have:j=t:=by omega
     subst this
     exact c
  ·rintro σ H' ⟨hS,⟨v,rfl⟩,hok⟩
   rw[rQ λt ht=>hok t ht (by omega)]at k
   exact k H' hS
def dH (S:Gla.Plan)(on:Pt->Bool)(t:Nat):List Nat:=(FJ t).filter λi=>on (S.pt i)
theorem lq (S:Gla.Plan)(on:Pt->Bool)(t:Nat):dH S on (t+1)=if on (S.pt t)=true then dH S on t++[t] else dH S on t:=by
 unfold dH
 rw[IP,List.filter_append]
 split
 ·rename_i h
  rw[List.filter_cons_of_pos (p:=λi=>on (S.pt i)) h]
  rfl
 ·rename_i h
  rw[List.filter_cons_of_neg (p:=λi=>on (S.pt i)) h]
  exact GT _
theorem nT (S:Gla.Plan)(on:Pt->Bool)(t:Nat):(dH S on t).length<=t:=by
 refine Gb (Im _ _) ?_
 rw[GI]
 exact nlr _
theorem tj (S:Gla.Plan)(on:Pt->Bool):Gla.chained S (Gla.edgePts S on)=eN S.lines (dH S on S.pts.length):=by
 have e:Gla.edgePts S on=dH S on S.pts.length:=rfl
 rw[e]
 have pw:(dH S on S.pts.length).Pairwise (· < ·):=List.Pairwise.filter _ List.pairwise_lt_range
 generalize dH S on S.pts.length=es at pw
 have hlt:∀t (ht:t+1<es.length),es[t]<es[t+1]:=λt ht=>FY.1 pw t (t+1) (by omega) ht (by omega)
 unfold Gla.chained eN
 rw[Ge,Gx,Gx]
 have key:∀x∈es.zip (es.drop 1),S.joined x.1 x.2=decide (x∈S.lines):=by
  intro x hx
  obtain⟨t,ht,rfl⟩:=FO hx
  rw[HV,FZ]at ht
  have h1:=hlt t (by omega)
  rw[ID,Iv]
  have e:1+t=t+1:=by omega
  simp only[e]
  unfold Gla.Plan.joined
  simp only[FN (Iw h1),Gu (Iw h1)]
  rw[Ge,Ik,Fq]
 constructor
 ·intro h x hx
  rw[<-key x hx]
  exact h x hx
 ·intro h x hx
  rw[key x hx]
  exact h x hx
structure wA (H:Hp)(n:Fi)(ts ps:List Fi):Prop where
 at_:H n=some (.lst (ts.map V.ref))
 ln:ts.length=ps.length
 row:∀(i:Nat) (t b:Fi),ts[i]? = some t->ps[i]? = some b->H t=some (.tup [.int (i:Nat),.ref b])
theorem wA.same {H H':Hp}{n:Fi}{ts ps:List Fi}(h:wA H n ts ps)(s:al H H'):wA H' n ts ps:=⟨s _ _ h.at_,h.ln,λi t b e1 e2=>s _ _ (h.row i t b e1 e2)⟩
theorem lY {H:Hp}{n D a dx p l m:Fi}{S:Gla.Plan}{ts ps ls ms:List Fi}{s0 s1 s2 s3 s4 s5 s6 s7 s8 s9 s10 s11 s12 s13:Option V}{Qd:Hp->Prop}(c:Nat)(pick:Pt->Int)(hpick:∀q:Pt,(fJ q)[c]? = some (pick q))(on:Pt->Bool)(z:Int)(hon:∀q,on q=decide (pick q=z))(tz:TE)
  (htz:∀(v12 v13:Option V) (H:Hp) (Q:VK),Q (.int z) H->tz [s0,s1,s2,s3,s4,s5,s6,s7,s8,s9,s10,s11,v12,v13] H Q)
  (o:Op K C H a dx p l m S ps ls ms) (nl:wA H n ts ps) (hn:S.pts.length<=100000) (hD:H D=none) (hQ:∀H',al H H'->H' D=some (.lst (iV (nI (dH S on S.pts.length))))->Qd H') :
  ∃W:Nat->Nat->Hp->Prop,(∃m,W 0 m (upd H D (.lst [])))/\∀i m H,W i m H ->
   ((Itl K n).stop i H/\Qd H)\/((Itl K n).go i H/\∃Nx:Hp->Prop,(∀H',Nx H'->∃m',m'<m/\W (i+1) m' H')/\∀x H',(Itl K n).yld i H x H'->g2 K 12 13 x (bV [s0,s1,s2,s3,s4,s5,s6,s7,s8,s9,s10,s11,s12,s13] [12,13]) H' λσ2 H2=>bV σ2 [12,13]=bV [s0,s1,s2,s3,s4,s5,s6,s7,s8,s9,s10,s11,s12,s13] [12,13]/\eY (tOp rEq (tOp (pI K) (a5 13) (tC (.int (c:Int)))) tz) σ2 H2 λb H3 =>
    if b=true then a5 12 σ2 H3 λy H4=>∃acc,H4 D=some (.lst acc)/\acc.length<Fk/\Nx (upd H4 D (.lst (acc++[y]))) else Nx H3):=by
 refine ie (K:=K) (a:=n) (xs:=ts.map V.ref) (λi H'=>al H H'/\H' D=some (.lst (iV (nI (dH S on i))))) ⟨aL hD,ag⟩ (λi H' _ h=>SqL.of (h.1 _ _ nl.at_)) ?_ ?_
 ·rintro i y H' hi ⟨hS,hDl⟩
  obtain⟨t,ht,rfl⟩:=cg hi
  have hil:i<ps.length:=by rw[<-nl.ln];exact(gsi ht).1
  have pn:=o.pn
  obtain⟨b,hb⟩:∃b,ps[i]? = some b:=⟨ps[i],gge _⟩
  have hrow:=(nl.same hS).row i t b ht hb
  have hpt:SqT K H' b (iV (fJ (S.pt i))):=SqT.of ((o.same hS).pt i b hb)
  refine⟨t,_,rfl,SqT.of hrow,rfl,_,_,rfl,_,_,rfl,rfl,rfl,?_⟩
  refine⟨_,rfl,b,_,_,_,rfl,rfl,hpt,aA (j:=c) rfl (v:=.int (pick (S.pt i))) ?_,htz _ _ _ _ ⟨rfl,_,rfl,?_⟩⟩
  ·unfold iV
   rw[FA,hpick]
   rfl
  have eon:decide (V.int (pick (S.pt i))=V.int z)=on (S.pt i):=by
   rw[hon,Fz]
   exact⟨V.int.inj,λq=>by rw[q]⟩
  rw[eon]
  refine aQ (λcc=>?_) (λcc=>?_)
  ·refine⟨_,rfl,_,hDl,?_,aW hS hD,?_⟩
   ·rw[bQ]
    have:=nT S on i
    exact bn (by omega)
   ·rw[ag,lq,Fs cc,fW]
  ·refine⟨hS,?_⟩
   rw[lq,Fl cc]
   exact hDl
 ·rintro H' ⟨hS,hDl⟩
  rw[lmp,nl.ln,o.pn]at hDl
  exact hQ H' hS hDl
def eh (S:Gla.Plan):List Pt:=[⟨0,0⟩,⟨S.w,0⟩,⟨0,S.h⟩,⟨S.w,S.h⟩]
def ons (S:Gla.Plan):List (Pt->Bool):=[λp=>p.y==0,λp=>p.y==S.h,λp=>p.x==0,λp=>p.x==S.w]
theorem kz (S:Gla.Plan):Jo S=true↔(∀c∈eh S,c∈S.pts)/\∀on∈ons S,eN S.lines (dH S on S.pts.length)=true:=by
 unfold Jo eh ons
 simp only[Fn,Ik,tj,List.forall_mem_cons,List.not_mem_nil,false_imp_iff,implies_true,and_true,and_assoc]
def CB (C:Fi):Sp:=λvs H Q _=>∃(a:Fi) (S:Gla.Plan),vs=[.ref a]/\bz C H a S/\SB S/\dr (if Jo S=false then some (6,20) else none) H Q
theorem gG:ap ["drawing","width","height","corner","lines","line","numbered","bottom","top","left","right","edge","k","point"] ["drawing"] (ah ba):=fsk
theorem uR (S:Gla.Plan)(c:Pt):fJ c∈S.pts.map fJ↔c∈S.pts:=by
 rw[Gc]
 constructor
 ·rintro⟨q,hq,e⟩
  have h1:=List.cons.inj e
  have h2:=List.cons.inj h1.2
  have:q=c:=by
   cases q
   cases c
   have e1:((_:Nat):Int)=_:=h1.1
   have e2:((_:Nat):Int)=_:=h2.1
   simp only[Gla.Pt.mk.injEq]
   exact⟨by exact_mod_cast e1,by exact_mod_cast e2⟩
  rw[<-this]
  exact hq
 ·exact λh=>⟨c,h,rfl⟩
theorem lR (a b:Nat):(a==b)=decide ((a:Int)=(b:Int)):=by
 rw[Ge,IF,Fq]
 omega
theorem D7 (F:Has K mg "fault_of_frame" ba ["drawing"]) (T:DCl K mg C) (ge:mg "enumerate"=none) (gli:mg "list"=none) (C1:Cm P w K mg base 1 C "place_of_point" ["self","k"] pV) (C2:Cb P w K mg base 1 "are_joined_in_a_row" ["numbers","lines"] Ek) :
  Cb P w K mg base 2 "fault_of_frame" ["drawing"] (CB C):=by
 refine F.cb gG (λvs H Q E h=>?_) (λ_ _ A _ s H vs Q E hr h=>?_)
 ·obtain⟨a,S,rfl,_⟩:=h
  rfl
 ·obtain⟨a,S,rfl,hd,sb,k⟩:=h
  obtain⟨dx,p,l,m,ps,ls,ms,o⟩:=hd.op (K:=K)
  have hu:=hr.units
  have np:=sb.np
  have nl:=sb.nl
  refine⟨_,ad (aB (i:=1) gG.nd rfl (.inr rfl) (aP (pv 0) rfl)) (ad (aB (i:=2) gG.nd rfl (.inr rfl) (aP (pv 0) rfl))
   (ad (bw FC rfl (sI (bv (aa (bv (aa af (aa af ac))) (aa (bv (aa (pv 1) (aa af ac))) (aa (bv (aa af (aa (pv 2) ac))) (aa (bv (aa (pv 1) (aa (pv 2) ac))) ac)))))) (au (i:=3) gG.nd rfl (.inl rfl))
    (ae (aX (aJ (uV hu) (pv 3) (aP (pv 0) rfl) (by rfl)) (ae (ak (bv (aa af (aa (gI (pv 0) T.cl C1 hr (aa af ac)) ac))))) aI)))
   (ad (aB (i:=4) gG.nd rfl (.inl rfl) qV)
   (ad (bw FC rfl (bL (aP (pv 0) rfl)) (au (i:=5) gG.nd rfl (.inl rfl))
    (ae (pO (Gn (HX (by decide) _) hu) (pv 4) (pv 5) d9 rfl)))
   (ad (aB (i:=6) gG.nd rfl (.inl rfl) (si rfl rfl gli rfl ge (aa (aP (pv 0) rfl) ac)))
   (ad (cp (i:=7) (own:=[("k",12),("point",13)]) (g:=g2 K 12 13) (tt:=eY (tOp rEq (tOp (pI K) (a5 13) (tC (.int 1))) (tC (.int 0)))) rfl gG.nd rfl rfl (dC rfl rfl rfl (by decide +kernel)) (bL (pv 6)) (bJ (by show iu ["drawing","width","height","corner","lines","line","numbered","bottom","top","left","right","edge","k","point"] (ah ba) _ _=true;decide +kernel))
    (λ_ _ _ _ _=>cO (n:=2) rfl (aK (au (i:=12) gG.nd rfl (.inl rfl) (.inr rfl)) (aK (au (i:=13) gG.nd rfl (.inl rfl) (.inr rfl)) bR))) (λ_ _ _ _ _=>jf (aJ jS (aw aC (pv 13) af (λ_ _=>rfl)) af (aH _))) (λ_ _ _ _ _=>pv 12))
   (ad (cp (i:=8) (own:=[("k",12),("point",13)]) (g:=g2 K 12 13) (tt:=eY (tOp rEq (tOp (pI K) (a5 13) (tC (.int 1))) (a5 2))) rfl gG.nd rfl rfl (dC rfl rfl rfl (by decide +kernel)) (bL (pv 6)) (bJ (by show iu ["drawing","width","height","corner","lines","line","numbered","bottom","top","left","right","edge","k","point"] (ah ba) _ _=true;decide +kernel))
    (λ_ _ _ _ _=>cO (n:=2) rfl (aK (au (i:=12) gG.nd rfl (.inl rfl) (.inr rfl)) (aK (au (i:=13) gG.nd rfl (.inl rfl) (.inr rfl)) bR))) (λ_ _ _ _ _=>jf (aJ jS (aw aC (pv 13) af (λ_ _=>rfl)) (pv 2) (aH _))) (λ_ _ _ _ _=>pv 12))
   (ad (cp (i:=9) (own:=[("k",12),("point",13)]) (g:=g2 K 12 13) (tt:=eY (tOp rEq (tOp (pI K) (a5 13) (tC (.int 0))) (tC (.int 0)))) rfl gG.nd rfl rfl (dC rfl rfl rfl (by decide +kernel)) (bL (pv 6)) (bJ (by show iu ["drawing","width","height","corner","lines","line","numbered","bottom","top","left","right","edge","k","point"] (ah ba) _ _=true;decide +kernel))
    (λ_ _ _ _ _=>cO (n:=2) rfl (aK (au (i:=12) gG.nd rfl (.inl rfl) (.inr rfl)) (aK (au (i:=13) gG.nd rfl (.inl rfl) (.inr rfl)) bR))) (λ_ _ _ _ _=>jf (aJ jS (aw aC (pv 13) af (λ_ _=>rfl)) af (aH _))) (λ_ _ _ _ _=>pv 12))
   (ad (cp (i:=10) (own:=[("k",12),("point",13)]) (g:=g2 K 12 13) (tt:=eY (tOp rEq (tOp (pI K) (a5 13) (tC (.int 0))) (a5 1))) rfl gG.nd rfl rfl (dC rfl rfl rfl (by decide +kernel)) (bL (pv 6)) (bJ (by show iu ["drawing","width","height","corner","lines","line","numbered","bottom","top","left","right","edge","k","point"] (ah ba) _ _=true;decide +kernel))
    (λ_ _ _ _ _=>cO (n:=2) rfl (aK (au (i:=12) gG.nd rfl (.inl rfl) (.inr rfl)) (aK (au (i:=13) gG.nd rfl (.inl rfl) (.inr rfl)) bR))) (λ_ _ _ _ _=>jf (aJ jS (aw aC (pv 13) af (λ_ _=>rfl)) (pv 1) (aH _))) (λ_ _ _ _ _=>pv 12))
   (ad (bw FC rfl (sI (bv (aa (pv 7) (aa (pv 8) (aa (pv 9) (aa (pv 10) ac)))))) (au (i:=11) gG.nd rfl (.inl rfl))
    (ae (aX (iK (cA (aE C2 hr (aa (pv 11) (aa (pv 4) ac))))) (ae (ak (bv (aa af (aa (gI (pv 0) T.cl C1 hr (aa af ac)) ac))))) aI)))
   (ae (ak a9)))))))))))),?_⟩
  have bad:Jo S=false->∀H3,al H H3->∀q,H3 q=none->Q (.ref q) (upd H3 q (.tup [.int 6,.int (20+8*0)])):=λz H3 s3 q hq=>by
   rw[Fs z]at k
   exact dr.some' k s3 q hq
  refine⟨_,rfl,a,C,dx,_,_,rfl,o.at_,T.cl,T.nW,AC,?_⟩
  refine⟨_,rfl,a,C,dx,_,_,rfl,o.at_,T.cl,T.nH,A1,?_⟩
  refine⟨(by show 2<=Fk;decide),λt1 h1=>?_⟩
  have hs1:al H (upd H t1 (.tup [.int 0,.int 0])):=aL h1
  have g1:(upd H t1 (.tup [.int 0,.int 0])) t1=some (.tup (iV (fJ ⟨0,0⟩))):=ag
  generalize upd H t1 (.tup [.int 0,.int 0])=Ha at hs1 g1
  refine⟨_,rfl,(by show 2<=Fk;decide),λt2 h2=>?_⟩
  have hs2:al Ha (upd Ha t2 (.tup [.int (S.w:Int),.int 0])):=aL h2
  have g2':(upd Ha t2 (.tup [.int (S.w:Int),.int 0])) t2=some (.tup (iV (fJ ⟨S.w,0⟩))):=ag
  generalize upd Ha t2 (.tup [.int (S.w:Int),.int 0])=Hb at hs2 g2'
  refine⟨_,rfl,(by show 2<=Fk;decide),λt3 h3=>?_⟩
  have hs3:al Hb (upd Hb t3 (.tup [.int 0,.int (S.h:Int)])):=aL h3
  have g3:(upd Hb t3 (.tup [.int 0,.int (S.h:Int)])) t3=some (.tup (iV (fJ ⟨0,S.h⟩))):=ag
  generalize upd Hb t3 (.tup [.int 0,.int (S.h:Int)])=Hc at hs3 g3
  refine⟨_,rfl,_,rfl,(by show 2<=Fk;decide),λt4 h4=>?_⟩
  have hs4:al Hc (upd Hc t4 (.tup [.int (S.w:Int),.int (S.h:Int)])):=aL h4
  have g4:(upd Hc t4 (.tup [.int (S.w:Int),.int (S.h:Int)])) t4=some (.tup (iV (fJ ⟨S.w,S.h⟩))):=ag
  generalize upd Hc t4 (.tup [.int (S.w:Int),.int (S.h:Int)])=Hd at hs4 g4
  refine⟨(by show 4<=Fk;decide),λt5 h5=>?_⟩
  have hs5:al Hd (upd Hd t5 (.tup [.ref t1,.ref t2,.ref t3,.ref t4])):=aL h5
  have g5:(upd Hd t5 (.tup [.ref t1,.ref t2,.ref t3,.ref t4])) t5=some (.tup ([t1,t2,t3,t4].map V.ref)):=ag
  generalize upd Hd t5 (.tup [.ref t1,.ref t2,.ref t3,.ref t4])=He at hs5 g5
  have sHe:al H He:=hs1.trans (hs2.trans (hs3.trans (hs4.trans hs5)))
  have rows:∀(i:Nat) (b:Fi) (c:Pt),[t1,t2,t3,t4][i]? = some b->(eh S)[i]? = some c->He b=some (.tup (iV (fJ c))):=by
   intro i b c e1 e2
   have hi:i<4:=(gsi e1).1
   rcases(by omega:i=0\/i=1\/i=2\/i=3) with rfl|rfl|rfl|rfl
   ·cases osi e1;cases osi e2
    exact hs5 _ _ (hs4 _ _ (hs3 _ _ (hs2 _ _ g1)))
   ·cases osi e1;cases osi e2
    exact hs5 _ _ (hs4 _ _ (hs3 _ _ g2'))
   ·cases osi e1;cases osi e2
    exact hs5 _ _ (hs4 _ _ g3)
   ·cases osi e1;cases osi e2
    exact hs5 _ _ g4
  refine⟨t5,rfl,⟨_,SqT.of g5⟩,pH (K:=K) (a:=t5) (xs:=[t1,t2,t3,t4].map V.ref) (λi σ H'=>al He H'/\(∃v,σ=[some (.ref a),some (.int (S.w:Int)),some (.int (S.h:Int)),v,none,none,none,none,none,none,none,none,none,none])/\∀(j:Nat) (c:Pt),j<i->(eh S)[j]? = some c->c∈S.pts)
   ⟨al.refl He,⟨none,rfl⟩,λj c h=>absurd h (Gy _)⟩ (λi σ H' _ h=>SqT.of (h.1 _ _ g5)) ?_ ?_⟩
  ·rintro i y σ H' hi ⟨hS,⟨v,rfl⟩,hok⟩
   obtain⟨b,hb,rfl⟩:=cg hi
   have hi4:i<(eh S).length:=(gsi hb).1
   have hc:(eh S)[i]? = some (eh S)[i]:=gge hi4
   have o2:=o.same (sHe.trans hS)
   refine⟨_,rfl,_,rfl,a,C,dx,_,_,rfl,o2.at_,T.cl,T.nP,iw,b,p,fJ (eh S)[i],ps,S.pts.map fJ,rfl,rfl,SqT.of (hS _ _ (rows i b _ hb hc)),SqL.of o2.pl,by rw[lmp,o.pn],?_,_,rfl,aQ (λc=>?_) (λc=>?_)⟩
   ·intro j a' q e1 e2
    have hj:j<S.pts.length:=by rw[<-o.pn];exact(gsi e1).1
    rw[FA,gge hj]at e2
    have e2:=osi e2
    rw[<-e2,<-WL.bH S hj]
    exact SqT.of (o2.pt j a' e1)
   ·have c:(eh S)[i]∉S.pts:=λz=>by
     rw[dqt ((uR S _).2 z)]at c
     exact absurd c (by decide)
    refine⟨_,rfl,a,dx,_,rfl,o2.at_,bZ (.inl (.inl rfl)),_,_,rfl,(by show 2<=Fk;decide),λq hq=>?_⟩
    refine bad (cB λz=>c ?_) H' (sHe.trans hS) q hq
    exact((kz S).1 z).1 _ (FS hi4)
   ·have c:(eh S)[i]∈S.pts:=bcn λz=>c (by rw[dqf (λy=>z ((uR S _).1 y))];rfl)
    refine⟨hS,⟨_,rfl⟩,λj q h e=>?_⟩
    by_cases cc:j<i
    ·exact hok j q cc e
    ·have:j=i:=by omega
     subst this
     rw[hc]at e
     cases e
     exact c
  rintro σ H1 ⟨hS1,⟨v3,rfl⟩,hok1⟩
  have cor:∀c∈eh S,c∈S.pts:=λc hc=>by
   obtain⟨j,hj,rfl⟩:=FO hc
   exact hok1 j _ hj (gge hj)
  have s1:al H H1:=sHe.trans hS1
  clear hok1 rows g5 g4 g3 g2' g1
  refine λd hd=>?_
  have hd0:H d=none:=s1.free hd
  have s2:al H (upd H1 d (.dT [])):=aY s1 hd
  have o2:=o.same s2
  refine⟨_,rfl,a,C,dx,_,_,rfl,o2.at_,T.cl,T.nL,qi,l,rfl,⟨_,SqL.of o2.ll⟩,eg (K:=K) (a:=l) (xs:=ls.map V.ref) (λi σ H'=>al H H'/\(∃v,σ=[some (.ref a),some (.int (S.w:Int)),some (.int (S.h:Int)),v3,some (.ref d),v,none,none,none,none,none,none,none,none])/\∃kvs,H' d=some (.dT kvs)/\LD kvs (S.lines.take i)/\kvs.length<=i)
   ⟨s2,⟨none,rfl⟩,[],ag,λx=>rfl,nlr _⟩ (λi σ H' _ h=>SqL.of (h.1 _ _ o.ll)) ?_ ?_⟩
  ·rintro t y σ H' hi ⟨hS,⟨v,rfl⟩,kvs,hk,hL,hkl⟩
   obtain⟨b,hb,rfl⟩:=cg hi
   have ht:t<S.lines.length:=by rw[<-o.ln];exact(gsi hb).1
   have hx:H' b=some (.tup ((lk S.lines[t]).map kV)):=(o.same hS).li t b _ hb (gge ht)
   refine⟨_,rfl,_,rfl,d,_,rfl,pT.t (k:=lk S.lines[t]) hk hx (bn (by omega)),?_⟩
   refine⟨aW hS hd0,⟨_,rfl⟩,_,ag,?_,?_⟩
   ·rw[bW (gge ht)]
    exact hL.put _ _
   ·have:=gj kvs (lk S.lines[t]) (.bl true)
    omega
  rintro σ H2 ⟨hS2,⟨v5,rfl⟩,kvs,hk,hL,hkl⟩
  rw[lmp,o.ln,Ho]at hL
  have o3:=o.same hS2
  refine⟨_,rfl,a,C,dx,_,_,rfl,o3.at_,T.cl,T.nP,iw,p,_,rfl,SqL.of o3.pl,λH3 n ts s3 hn hnl hnr=>?_⟩
  rw[lmp]at hnl
  have nm:wA H3 n ts ps:=⟨hn,hnl,λi t b e1 e2=>hnr i t _ e1 (aN e2)⟩
  have sH3:al H H3:=hS2.trans s3
  have hk3:=s3 _ _ hk
  clear hn hnr hnl
  refine⟨_,rfl,n,rfl,⟨_,SqL.of nm.at_⟩,λD1 hD1=>?_⟩
  refine lY 1 (λq=>(q.y:Int)) (λq=>rfl) (λp=>p.y==0) 0 (λq=>lR q.y 0) (tC (.int 0)) (λ_ _ _ _ h=>h) (o.same sH3) nm np hD1 λH4 s4 e4=>?_
  have sH4:=sH3.trans s4
  have nm4:=nm.same s4
  refine⟨_,rfl,n,rfl,⟨_,SqL.of nm4.at_⟩,λD2 hD2=>?_⟩
  refine lY 1 (λq=>(q.y:Int)) (λq=>rfl) (λp=>p.y==S.h) (S.h:Int) (λq=>lR q.y S.h) (a5 2) (λ_ _ _ _ h=>⟨_,rfl,h⟩) (o.same sH4) nm4 np hD2 λH5 s5 e5=>?_
  have sH5:=sH4.trans s5
  have nm5:=nm4.same s5
  refine⟨_,rfl,n,rfl,⟨_,SqL.of nm5.at_⟩,λD3 hD3=>?_⟩
  refine lY 0 (λq=>(q.x:Int)) (λq=>rfl) (λp=>p.x==0) 0 (λq=>lR q.x 0) (tC (.int 0)) (λ_ _ _ _ h=>h) (o.same sH5) nm5 np hD3 λH6 s6 e6=>?_
  have sH6:=sH5.trans s6
  have nm6:=nm5.same s6
  refine⟨_,rfl,n,rfl,⟨_,SqL.of nm6.at_⟩,λD4 hD4=>?_⟩
  refine lY 0 (λq=>(q.x:Int)) (λq=>rfl) (λp=>p.x==S.w) (S.w:Int) (λq=>lR q.x S.w) (a5 1) (λ_ _ _ _ h=>⟨_,rfl,h⟩) (o.same sH6) nm6 np hD4 λH7 s7 e7=>?_
  have sH7:=sH6.trans s7
  have s37:al H3 H7:=s4.trans (s5.trans (s6.trans s7))
  refine⟨_,rfl,_,rfl,_,rfl,_,rfl,(by show 4<=Fk;decide),λt8 h8=>?_⟩
  have s8:al H7 (upd H7 t8 (.tup [.ref D1,.ref D2,.ref D3,.ref D4])):=aL h8
  have g8:(upd H7 t8 (.tup [.ref D1,.ref D2,.ref D3,.ref D4])) t8=some (.tup ([D1,D2,D3,D4].map V.ref)):=ag
  generalize upd H7 t8 (.tup [.ref D1,.ref D2,.ref D3,.ref D4])=H8 at s8 g8
  have sH8:=sH7.trans s8
  have hk8:=s8 _ _ (s37 _ _ hk3)
  have edges:∀(i:Nat) (b:Fi) (on:Pt->Bool),[D1,D2,D3,D4][i]? = some b->(ons S)[i]? = some on->H8 b=some (.lst (iV (nI (dH S on S.pts.length)))):=by
   intro i b on e1 e2
   have hi:i<4:=(gsi e1).1
   rcases(by omega:i=0\/i=1\/i=2\/i=3) with rfl|rfl|rfl|rfl
   ·cases osi e1;cases osi e2
    exact s8 _ _ (s7 _ _ (s6 _ _ (s5 _ _ e4)))
   ·cases osi e1;cases osi e2
    exact s8 _ _ (s7 _ _ (s6 _ _ e5))
   ·cases osi e1;cases osi e2
    exact s8 _ _ (s7 _ _ e6)
   ·cases osi e1;cases osi e2
    exact s8 _ _ e7
  refine⟨t8,rfl,⟨_,SqT.of g8⟩,pH (K:=K) (a:=t8) (xs:=[D1,D2,D3,D4].map V.ref) (λi σ H'=>al H8 H'/\(∃v,σ=[some (.ref a),some (.int (S.w:Int)),some (.int (S.h:Int)),v3,some (.ref d),v5,some (.ref n),some (.ref D1),some (.ref D2),some (.ref D3),some (.ref D4),v,none,none])/\∀(j:Nat) (on:Pt->Bool),j<i->(ons S)[j]? = some on->eN S.lines (dH S on S.pts.length)=true)
   ⟨al.refl H8,⟨none,rfl⟩,λj c h=>absurd h (Gy _)⟩ (λi σ H' _ h=>SqT.of (h.1 _ _ g8)) ?_ ?_⟩
  ·rintro i y σ H' hi ⟨hS,⟨v,rfl⟩,hok⟩
   obtain⟨b,hb,rfl⟩:=cg hi
   have hi4:i<(ons S).length:=(gsi hb).1
   have hc:(ons S)[i]? = some (ons S)[i]:=gge hi4
   refine⟨_,rfl,_,rfl,b,d,dH S (ons S)[i] S.pts.length,kvs,S.lines,rfl,hS _ _ (edges i b _ hb hc),hS _ _ hk8,hL,?_,λH9 s9=>?_⟩
   ·have:=nT S (ons S)[i] S.pts.length
    omega
   refine⟨_,rfl,?_⟩
   have o9:=o.same (sH8.trans (hS.trans s9))
   cases hj:eN S.lines (dH S (ons S)[i] S.pts.length) with
   |true =>
    refine jy ?_
    refine⟨hS.trans s9,⟨_,rfl⟩,λj q h e=>?_⟩
    by_cases cc:j<i
    ·exact hok j q cc e
    ·have:j=i:=by omega
     subst this
     rw[hc]at e
     cases e
     exact hj
   |false =>
    refine eI ?_
    refine⟨_,rfl,a,dx,_,rfl,o9.at_,bZ (.inl (.inl rfl)),_,_,rfl,(by show 2<=Fk;decide),λq hq=>?_⟩
    refine bad (cB λz=>?_) H9 (sH8.trans (hS.trans s9)) q hq
    rw[((kz S).1 z).2 _ (FS hi4)]at hj
    cases hj
  ·rintro σ H' ⟨hS,⟨v,rfl⟩,hok⟩
   have z:Jo S=true:=(kz S).2 ⟨cor,λon hon=>by
    obtain⟨j,hj,rfl⟩:=FO hon
    exact hok j _ hj (gge hj)⟩
   rw[z,Fl (by decide)]at k
   exact k H' (sH8.trans hS)
def ku (o:Option (Int×Int))(v:V)(H:Hp):Prop:=match o with
 |none=>v=.non
 |some (r,p)=>∃q,v=.ref q/\H q=some (.tup [.int r,.int p])
theorem dr.of {o:Option (Int×Int)}{H:Hp}{Q:VK}(h:∀v H',al H H'->ku o v H'->Q v H'):dr o H Q:=by
 cases o with
 |none=>exact λH' s=>h .non H' s rfl
 |some x=>exact λH' q s e=>h (.ref q) H' s ⟨q,rfl,e⟩
theorem dr.to {o:Option (Int×Int)}{H H':Hp}{Q:VK}{v:V}(k:dr o H Q)(s:al H H')(f:ku o v H'):Q v H':=by
 cases o with
 |none=>rw[show v=.non from f];exact k H' s
 |some x =>
  obtain⟨q,rfl,e⟩:=f
  exact k H' q s e
def o4 (S:Gla.Plan):Option (Int×Int):=jp 4 kM (GD (ok4 S) Pt.below S.pts)
def o5 (S:Gla.Plan):Option (Int×Int):=jp 5 (pX S) (GD (ok5 S) GL S.lines)
def o6 (S:Gla.Plan):Option (Int×Int):=if Jo S=false then some (6,20) else none
def o7 (S:Gla.Plan):Option (Int×Int):=jp 7 (pX S) (Gla.firstAt (IT S) S.lines)
def o8 (S:Gla.Plan):Option (Int×Int):=jp 8 kM ((FJ S.pts.length).find? λi=>decide ((S.near i).length<2))
def o9 (S:Gla.Plan):Option (Int×Int):=jp 9 kM ((FJ S.pts.length).find? λi=>!((lF S).getD i false))
def o10 (S:Gla.Plan):Option (Int×Int):=jp 10 kM ((FJ S.pts.length).find? (Gla.cuts S.nears S.pts.length))
def o11 (S:Gla.Plan):Option (Int×Int):=jp 11 (mG S) (GD (Ib S) Hn S.marks)
def k8 (a b:Option (Int×Int)):Option (Int×Int):=match a with
 |some x=>some x
 |none=>b
def bM (S:Gla.Plan):Option (Int×Int):=k8 (o4 S) (k8 (o5 S) (k8 (o6 S) (k8 (o7 S) (k8 (o8 S) (k8 (o9 S) (k8 (o10 S) (o11 S)))))))
theorem d5 {r:Int}{pl:Nat->Int}{o:Option Nat}(h:jp r pl o=none):o=none:=by
 cases o with
 |none=>rfl
 |some i=>cases h
theorem mZ {S:Gla.Plan}(h:gb S):wL S:=λi hi j hj=>by
 unfold Gla.Plan.near at hj
 rw[IJ]at hj
 obtain⟨l,hl,e⟩:=hj
 obtain⟨l1,l2⟩:=h l hl
 split at e
 ·have e:=osi e
  omega
 ·split at e
  ·have e:=osi e
   omega
  ·cases e
theorem gN {b:V}{q:Fi}{A B:Prop}(h:B)(e:b=.ref q):if decide (b=V.non)=true then A else B:=aQ (λc=>by rw[e]at c;exact absurd (Ff c) (by intro z;cases z)) (λ_=>h)
theorem lC {A B:Prop}(h:A):if decide (V.non=V.non)=true then A else B:=aQ (λ_=>h) (λc=>absurd (dqt rfl) c)
def B6 (C:Fi):Sp:=λvs H Q _=>∃(a:Fi) (S:Gla.Plan),vs=[.ref a]/\bz C H a S/\SB S/\4<=S.pts.length/\dr (bM S) H Q
theorem oh:ap ["drawing","fault","neighbours"] ["drawing"] (ah cu):=fsk
theorem DZ (F:Has K mg "fault_of_drawing" cu ["drawing"]) (C4:Cb P w K mg base 2 "fault_of_points" ["drawing"] (BZ C)) (C5:Cb P w K mg base 3 "fault_of_lines" ["drawing"] (CY C)) (C6:Cb P w K mg base 2 "fault_of_frame" ["drawing"] (CB C)) (C7:Cb P w K mg base 5 "fault_of_crossings" ["drawing"] (DJ C))
  (CN:Cb P w K mg base 1 "neighbours_of" ["drawing"] (Bz C)) (C8:Cb P w K mg base 2 "fault_of_ends" ["drawing","neighbours"] (D0 C)) (C9:Cb P w K mg base 2 "fault_of_ways" ["drawing","neighbours"] (Di C)) (C10:Cb P w K mg base 2 "fault_of_narrows" ["drawing","neighbours"] (zX C)) (C11:Cb P w K mg base 4 "fault_of_marks" ["drawing"] (Ah C)) :
  Cb P w K mg base 6 "fault_of_drawing" ["drawing"] (B6 C):=by
 refine F.cb oh (λvs H Q E h=>?_) (λ_ _ A _ s H vs Q E hr h=>?_)
 ·obtain⟨a,S,rfl,_⟩:=h
  rfl
 ·obtain⟨a,S,rfl,hd,sb,h4,k⟩:=h
  have hr1:bf 1 _:=hr.mono (by decide)
  have hr2:bf 2 _:=hr.mono (by decide)
  have hr3:bf 3 _:=hr.mono (by decide)
  have hr4:bf 4 _:=hr.mono (by decide)
  refine⟨_,ad (aB (i:=1) oh.nd rfl (.inl rfl) (aE C4 hr2 (aa (pv 0) ac)))
   (ad (aX (aJ iE (pv 1) a9 (aH _)) (ae (aB (i:=1) oh.nd rfl (.inl rfl) (aE C5 hr3 (aa (pv 0) ac)))) aI)
   (ad (aX (aJ iE (pv 1) a9 (aH _)) (ae (aB (i:=1) oh.nd rfl (.inl rfl) (aE C6 hr2 (aa (pv 0) ac)))) aI)
   (ad (aX (aJ iE (pv 1) a9 (aH _)) (ae (aB (i:=1) oh.nd rfl (.inl rfl) (aE C7 hr (aa (pv 0) ac)))) aI)
   (ad (aX (aJ jn (pv 1) a9 (aH _)) (ae (ak (pv 1))) aI)
   (ad (aB (i:=2) oh.nd rfl (.inl rfl) (aE CN hr1 (aa (pv 0) ac)))
   (ad (aB (i:=1) oh.nd rfl (.inl rfl) (aE C8 hr2 (aa (pv 0) (aa (pv 2) ac))))
   (ad (aX (aJ iE (pv 1) a9 (aH _)) (ae (aB (i:=1) oh.nd rfl (.inl rfl) (aE C9 hr2 (aa (pv 0) (aa (pv 2) ac))))) aI)
   (ad (aX (aJ iE (pv 1) a9 (aH _)) (ae (aB (i:=1) oh.nd rfl (.inl rfl) (aE C10 hr2 (aa (pv 0) (aa (pv 2) ac))))) aI)
   (ad (aX (aJ iE (pv 1) a9 (aH _)) (ae (aB (i:=1) oh.nd rfl (.inl rfl) (aE C11 hr4 (aa (pv 0) ac)))) aI)
   (ae (ak (pv 1)))))))))))),?_⟩
  refine⟨_,rfl,a,S,rfl,hd,sb,dr.of λv H1 s1 f4=>?_⟩
  have f4:ku (o4 S) v H1:=f4
  cases e4:o4 S with
  |some x =>
   rw[e4]at f4
   obtain⟨q,rfl,hq⟩:=id f4
   refine⟨_,rfl,rfl,_,rfl,gN ?_ rfl⟩
   refine⟨_,rfl,rfl,_,rfl,gN ?_ rfl⟩
   refine⟨_,rfl,rfl,_,rfl,gN ?_ rfl⟩
   refine⟨_,rfl,rfl,_,rfl,aQ (λ_=>⟨_,rfl,?_⟩) (λc=>absurd (by rw[dqf (by intro z;cases z)];rfl) c)⟩
   have e:bM S=some x:=by unfold bM;rw[e4];rfl
   rw[e]at k
   exact k.to s1 f4
  |none =>
  rw[e4]at f4
  obtain rfl:v=.non:=f4
  have r4:WL.R4 S:=d5 e4
  refine⟨_,rfl,rfl,_,rfl,lC ?_⟩
  refine⟨_,rfl,a,S,rfl,hd.same s1,sb,dr.of λv H2 s2 f5=>?_⟩
  have f5:ku (o5 S) v H2:=f5
  have s2:=s1.trans s2
  cases e5:o5 S with
  |some x =>
   rw[e5]at f5
   obtain⟨q,rfl,hq⟩:=id f5
   refine⟨_,rfl,rfl,_,rfl,gN ?_ rfl⟩
   refine⟨_,rfl,rfl,_,rfl,gN ?_ rfl⟩
   refine⟨_,rfl,rfl,_,rfl,aQ (λ_=>⟨_,rfl,?_⟩) (λc=>absurd (by rw[dqf (by intro z;cases z)];rfl) c)⟩
   have e:bM S=some x:=by unfold bM;rw[e4,e5];rfl
   rw[e]at k
   exact k.to s2 f5
  |none =>
  rw[e5]at f5
  obtain rfl:v=.non:=f5
  have r5:WL.R5 S:=d5 e5
  have hlo:gb S:=λl hl=>r5.line hl
  refine⟨_,rfl,rfl,_,rfl,lC ?_⟩
  refine⟨_,rfl,a,S,rfl,hd.same s2,sb,dr.of λv H3 s3 f6=>?_⟩
  have f6:ku (o6 S) v H3:=f6
  have s3:=s2.trans s3
  cases e6:o6 S with
  |some x =>
   rw[e6]at f6
   obtain⟨q,rfl,hq⟩:=id f6
   refine⟨_,rfl,rfl,_,rfl,gN ?_ rfl⟩
   refine⟨_,rfl,rfl,_,rfl,aQ (λ_=>⟨_,rfl,?_⟩) (λc=>absurd (by rw[dqf (by intro z;cases z)];rfl) c)⟩
   have e:bM S=some x:=by unfold bM;rw[e4,e5,e6];rfl
   rw[e]at k
   exact k.to s3 f6
  |none =>
  rw[e6]at f6
  obtain rfl:v=.non:=f6
  refine⟨_,rfl,rfl,_,rfl,lC ?_⟩
  refine⟨_,rfl,a,S,rfl,hd.same s3,sb,r4,r5,dr.of λv H4 s4 f7=>?_⟩
  have f7:ku (o7 S) v H4:=f7
  have s4:=s3.trans s4
  cases e7:o7 S with
  |some x =>
   rw[e7]at f7
   obtain⟨q,rfl,hq⟩:=id f7
   refine⟨_,rfl,rfl,_,rfl,aQ (λ_=>⟨_,rfl,?_⟩) (λc=>absurd (by rw[dqf (by intro z;cases z)];rfl) c)⟩
   have e:bM S=some x:=by unfold bM;rw[e4,e5,e6,e7];rfl
   rw[e]at k
   exact k.to s4 f7
  |none =>
  rw[e7]at f7
  obtain rfl:v=.non:=f7
  refine⟨_,rfl,rfl,_,rfl,aQ (λc=>absurd c (by decide)) (λ_=>?_)⟩
  refine⟨_,rfl,a,S,rfl,hd.same s4,sb,hlo,λH5 N as hN hNl=>?_⟩
  have s5:=s4.trans hN.sm
  have rw5:=hN.rw
  refine⟨_,rfl,_,rfl,a,N,as,S,rfl,hd.same s5,rw5,hNl,dr.of λv H6 s6 f8=>?_⟩
  have f8:ku (o8 S) v H6:=f8
  have rw6:=rw5.same s6
  have s6:=s5.trans s6
  cases e8:o8 S with
  |some x =>
   rw[e8]at f8
   obtain⟨q,rfl,hq⟩:=id f8
   refine⟨_,rfl,rfl,_,rfl,gN ?_ rfl⟩
   refine⟨_,rfl,rfl,_,rfl,gN ?_ rfl⟩
   refine⟨_,rfl,rfl,_,rfl,gN ⟨_,rfl,?_⟩ rfl⟩
   have e:bM S=some x:=by unfold bM;rw[e4,e5,e6,e7,e8];rfl
   rw[e]at k
   exact k.to s6 f8
  |none =>
  rw[e8]at f8
  obtain rfl:v=.non:=f8
  refine⟨_,rfl,rfl,_,rfl,lC ?_⟩
  refine⟨_,rfl,_,rfl,a,N,as,S,rfl,hd.same s6,sb,h4,mZ hlo,rw6,hNl,dr.of λv H7 s7 f9=>?_⟩
  have f9:ku (o9 S) v H7:=f9
  have rw7:=rw6.same s7
  have s7:=s6.trans s7
  cases e9:o9 S with
  |some x =>
   rw[e9]at f9
   obtain⟨q,rfl,hq⟩:=id f9
   refine⟨_,rfl,rfl,_,rfl,gN ?_ rfl⟩
   refine⟨_,rfl,rfl,_,rfl,gN ⟨_,rfl,?_⟩ rfl⟩
   have e:bM S=some x:=by unfold bM;rw[e4,e5,e6,e7,e8,e9];rfl
   rw[e]at k
   exact k.to s7 f9
  |none =>
  rw[e9]at f9
  obtain rfl:v=.non:=f9
  refine⟨_,rfl,rfl,_,rfl,lC ?_⟩
  refine⟨_,rfl,_,rfl,a,N,as,S,rfl,hd.same s7,sb,h4,mZ hlo,rw7,hNl,dr.of λv H8 s8 f10=>?_⟩
  have f10:ku (o10 S) v H8:=f10
  have s8:=s7.trans s8
  cases e10:o10 S with
  |some x =>
   rw[e10]at f10
   obtain⟨q,rfl,hq⟩:=id f10
   refine⟨_,rfl,rfl,_,rfl,gN ⟨_,rfl,?_⟩ rfl⟩
   have e:bM S=some x:=by unfold bM;rw[e4,e5,e6,e7,e8,e9,e10];rfl
   rw[e]at k
   exact k.to s8 f10
  |none =>
  rw[e10]at f10
  obtain rfl:v=.non:=f10
  refine⟨_,rfl,rfl,_,rfl,lC ?_⟩
  refine⟨_,rfl,a,S,rfl,hd.same s8,sb,hlo,dr.of λv H9 s9 f11=>?_⟩
  refine⟨_,rfl,?_⟩
  have e:bM S=o11 S:=by unfold bM;rw[e4,e5,e6,e7,e8,e9,e10];rfl
  rw[e]at k
  exact k.to (s8.trans s9) f11
def me (K:GC)(H:Hp)(p:Fi)(ps:List Fi)(S:Gla.Plan):Prop:=H p=some (.lst (ps.map V.ref))/\ps.length=S.pts.length/\∀(i:Nat) (b:Fi),ps[i]? = some b->cD K H b (S.pt i)
theorem me.same {K:GC}{H H':Hp}{p:Fi}{ps:List Fi}{S:Gla.Plan}(h:me K H p ps S)(s:al H H'):me K H' p ps S:=⟨s _ _ h.1,h.2.1,λi b e=>(h.2.2 i b e).same s⟩
theorem me.has {K:GC}{H:Hp}{p:Fi}{ps:List Fi}{S:Gla.Plan}(h:me K H p ps S){i:Nat}(hi:i<S.pts.length):∃b,ps[i]? = some b:=⟨ps[i]'(by rw[h.2.1];exact hi),gge _⟩
theorem Op.ptsL {K:GC}{C:Fi}{H:Hp}{a dx p l m:Fi}{S:Gla.Plan}{ps ls ms:List Fi}(o:Op K C H a dx p l m S ps ls ms)(sb:SB S):me K H p ps S:=⟨o.pl,o.pn,λi b e=>o.ptAt sb e⟩
theorem pY {S:Gla.Plan}{m e:Nat}{l:List Nat}{t:Nat}(h:l.length<=t):WL.bb S m e (l.drop t)=e :: l.drop t:=by
 rw[HY h]
 rfl
theorem xV {S:Gla.Plan}{m e:Nat}{l:List Nat}{t:Nat}(h:t<l.length)(ht:¬0<G2 (S.pt m) (S.pt l[t]) (S.pt e)):WL.bb S m e (l.drop t)=e :: l.drop t:=by
 rw[Ht h]
 unfold WL.bb
 rw[Fl ht]
theorem As {S:Gla.Plan}{m e:Nat}{l:List Nat}{t:Nat}(h:t<l.length)(ht:0<G2 (S.pt m) (S.pt l[t]) (S.pt e)):l.take t++WL.bb S m e (l.drop t)=l.take (t+1)++WL.bb S m e (l.drop (t+1)):=by
 rw[Ht h,bW (gge h),List.append_assoc]
 conv=>lhs;unfold WL.bb
 rw[Fs ht]
 rfl
theorem vC {S:Gla.Plan}{m:Nat}{l:List Nat}{i e:Nat}(h:l[i]? = some e):WL.sortTurn S m (l.take (i+1))=WL.bb S m e (WL.sortTurn S m (l.take i)):=by
 unfold WL.sortTurn
 rw[bW h,List.foldl_append]
 rfl
theorem nj (S:Gla.Plan)(m:Nat)(l:List Nat):(WL.sortTurn S m l).length=l.length:=(WL.cK S m l).length_eq
theorem yq {S:Gla.Plan}{m:Nat}{l:List Nat}{x:Nat}(h:x∈WL.sortTurn S m l):x∈l:=(WL.cK S m l).mem_iff.1 h
theorem zS (l:List Nat)(t:Nat):(iV (nI l)).take t=iV (nI (l.take t)):=by
 unfold iV nI
 rw[Ie,Ie]
theorem zM (l:List Nat)(t:Nat):(iV (nI l)).drop t=iV (nI (l.drop t)):=by
 unfold iV nI
 rw[Jb,Jb]
theorem xB (l r:List Nat):iV (nI (l++r))=iV (nI l)++iV (nI r):=by
 unfold iV nI
 rw[FP,FP]
def DM (K:GC):Sp:=λvs H Q _=>∃(p ea:Fi) (ps:List Fi) (S:Gla.Plan) (m:Nat) (ends:List Nat),vs=[.ref p,.int (m:Int),.ref ea]/\me K H p ps S/\m<S.pts.length/\H ea=some (.lst (iV (nI ends)))/\(∀x∈ends,x<S.pts.length)/\ends.length<=100000 /\
 ∀(H':Hp) (r:Fi),al H H'->H r=none->H' r=some (.lst (iV (nI (WL.sortTurn S m ends))))->Q (.ref r) H'
theorem wo:ap ["points","middle","ends","ring","end","place"] ["points","middle","ends"] (ah dz):=fsk
theorem Dg (F:Has K mg "sorted_by_turn" dz ["points","middle","ends"]) (gl:mg "len"=none) (C1:Cb P w K mg base 1 "turn" ["p","q","r"] (kF K)):Cb P w K mg base 2 "sorted_by_turn" ["points","middle","ends"] (DM K):=by
 refine F.cb wo (λvs H Q E h=>?_) (λ_ _ A _ s H vs Q E hr h=>?_)
 ·obtain⟨p,ea,ps,S,m,ends,rfl,_⟩:=h
  rfl
 ·obtain⟨p,ea,ps,S,m,ends,rfl,hp,hm,he,hen,hel,k⟩:=h
  refine⟨_,ad (aB (i:=3) wo.nd rfl (.inl rfl) (dL ac))
   (ad (bw FC rfl (bL (pv 2)) (au (i:=4) wo.nd rfl (.inl rfl))
    (ad (aB (i:=5) wo.nd rfl (.inl rfl) af)
    (ad (mS FC (jN (aJ fT (pv 5) (aU aM (by rfl) gl Gh (aa (pv 3) ac)) (aH _)) (ik (aJ dY (aE C1 hr (aa (aw aS (pv 0) (pv 1) (λ_ _=>rfl)) (aa (aw aS (pv 0) (aw aS (pv 3) (pv 5) (λ_ _=>rfl)) (λ_ _=>rfl)) (aa (aw aS (pv 0) (pv 4) (λ_ _=>rfl)) ac)))) af (aH _)))).pt
     (ae (wn (i:=5) wo.nd rfl (.inl rfl) af xT)))
    (ae (jb (lJ Gz PySem.F.slot_list_insert PySem.F.type_list_insert vD (pv 3) (aa (pv 5) (aa (pv 4) ac))))))))
   (ae (ak (pv 3)))),?_⟩
  refine⟨(by show 0<=Fk;decide),λr hr0=>?_⟩
  have ner:ea≠r:=aO he hr0
  refine⟨_,rfl,ea,rfl,⟨_,SqL.of (by rw[aq ner];exact he)⟩,eg (K:=K) (a:=ea) (xs:=iV (nI ends)) (λi σ H'=>al H H'/\(∃v1 v2,σ=[some (.ref p),some (.int (m:Int)),some (.ref ea),some (.ref r),v1,v2])/\H' r=some (.lst (iV (nI (WL.sortTurn S m (ends.take i))))))
   ⟨aL hr0,⟨none,none,rfl⟩,ag⟩ (λi σ H' _ h=>SqL.of (h.1 _ _ he)) ?_ ?_⟩
  ·rintro i y σ H' hi ⟨hS,⟨v1,v2,rfl⟩,hrr⟩
   obtain⟨e,hie,rfl⟩:=lm hi
   have hen':e<S.pts.length:=hen e (Gg hie)
   have hp':=hp.same hS
   have hlt:(WL.sortTurn S m (ends.take i)).length<=i:=by
    rw[nj,Gr]
    omega
   have hil:i<ends.length:=(gsi hie).1
   have hrn:∀x∈WL.sortTurn S m (ends.take i),x<S.pts.length:=λx hx=>hen x (GO (yq hx))
   rw[vC hie]
   generalize WL.sortTurn S m (ends.take i)=ring at hrr hlt hrn
   obtain⟨bm,hbm⟩:=hp'.has hm
   obtain⟨be,hbe⟩:=hp'.has hen'
   have fin:∀(t:Nat),t<=ring.length->ring.take t++WL.bb S m e (ring.drop t)=WL.bb S m e ring->WL.bb S m e (ring.drop t)=e :: ring.drop t ->
     z8 (tBM K "list" uP (a5 3) (bD (a5 5) (bD (a5 4) fI))) { nx:=λσ H'=>al H H'/\(∃v1 v2,σ=[some (.ref p),some (.int (m:Int)),some (.ref ea),some (.ref r),v1,v2])/\H' r=some (.lst (iV (nI (WL.bb S m e ring)))),rt:=Q,bk:=λσ H'=>mO (a5 3) { nx:=λ_ H'=>Q .non H',rt:=Q } σ H',ct:=λσ H'=>al H H'/\(∃v1 v2,σ=[some (.ref p),some (.int (m:Int)),some (.ref ea),some (.ref r),v1,v2])/\H' r=some (.lst (iV (nI (WL.bb S m e ring)))) }
      [some (.ref p),some (.int (m:Int)),some (.ref ea),some (.ref r),some (.int (e:Int)),some (.int (t:Int))] H':=λt ht h1 h2=>by
    refine⟨_,rfl,.inl ⟨rfl,_,SqL.of hrr⟩,_,rfl,_,rfl,r,_,_,_,rfl,rfl,hrr,by omega,by rw[bQ];omega,by rw[bQ];exact bn (by omega),?_⟩
    refine⟨aW hS hr0,⟨_,_,rfl⟩,?_⟩
    rw[ag,GG,zS,zM,<-h1,h2,xB]
    rfl
   refine⟨λmm σ H2=>H2=H'/\∃t,mm=ring.length-t/\t<=ring.length/\σ=[some (.ref p),some (.int (m:Int)),some (.ref ea),some (.ref r),some (.int (e:Int)),some (.int (t:Int))]/\ring.take t++WL.bb S m e (ring.drop t)=WL.bb S m e ring,
    ⟨ring.length,rfl,0,rfl,Gw _,rfl,rfl⟩,?_⟩
   rintro mm σ H2 ⟨rfl,t,rfl,ht,rfl,hins⟩
   refine⟨_,rfl,_,rfl,r,_,rfl,.inl (SqL.of hrr),_,_,rfl,rfl,_,rfl,aQ (λc=>?_) (λc=>jy ?_)⟩
   ·have c:=Ff c
    rw[bQ]at c
    have htl:t<ring.length:=by omega
    obtain⟨bt,hbt⟩:=hp'.has (hrn _ (FS htl))
    refine⟨_,rfl,_,rfl,p,_,_,_,rfl,rfl,SqL.of hp'.1,aA (j:=m) rfl (aN hbm),_,rfl,_,rfl,_,rfl,r,_,_,_,rfl,rfl,SqL.of hrr,aA (j:=t) rfl (kI htl),p,_,_,_,rfl,rfl,SqL.of hp'.1,aA (j:=ring[t]) rfl (aN hbt),
     _,rfl,_,rfl,p,_,_,_,rfl,rfl,SqL.of hp'.1,aA (j:=e) rfl (aN hbe),bm,bt,be,_,_,_,rfl,hp'.2.2 _ _ hbm,hp'.2.2 _ _ hbt,hp'.2.2 _ _ hbe,_,_,rfl,rfl,_,rfl,aQ (λc2=>?_) (λc2=>?_)⟩
    ·have c2:=Ff c2
     refine⟨λσ2 H3=>H3=H2/\σ2=[some (.ref p),some (.int (m:Int)),some (.ref ea),some (.ref r),some (.int (e:Int)),some (.int ((t+1:Nat):Int))],?_,?_⟩
     ·rintro σ2 H3 ⟨rfl,rfl⟩
      refine⟨ring.length-(t+1),by omega,rfl,t+1,rfl,htl,rfl,?_⟩
      rw[<-hins]
      exact(As htl c2).symm
     ·refine⟨_,rfl,_,_,rfl,rfl,rfl,?_⟩
      rfl
    ·have c2:=aF c2
     exact fin t ht hins (xV htl c2)
   ·have c:=aF c
    rw[bQ]at c
    exact fin t ht hins (pY (by omega))
  ·rintro σ H' ⟨hS,⟨v1,v2,rfl⟩,hrr⟩
   rw[bQ,Ho]at hrr
   exact⟨_,rfl,k H' r hS hr0 hrr⟩
theorem kn {l:List Nat}{i x:Nat}{q:Nat->Bool}(h:l[i]? = some x):(l.take (i+1)).filter q=if q x=true then (l.take i).filter q++[x] else (l.take i).filter q:=by
 rw[bW h,List.filter_append]
 split
 ·rename_i c
  rw[List.filter_cons_of_pos c]
  rfl
 ·rename_i c
  rw[List.filter_cons_of_neg c]
  exact GT _
theorem um (l:List Nat)(i:Nat)(q:Nat->Bool):((l.take i).filter q).length<=l.length:=Gb (Im _ _) (by rw[Gr];omega)
def Ep (S:Gla.Plan)(m:Nat)(ends:List Nat):List Nat:=WL.sortTurn S m (ends.filter λe=>decide (m<e))++WL.sortTurn S m (ends.filter λe=>decide (e<m))
def BE (K:GC):Sp:=λvs H Q _=>∃(p ea:Fi) (ps:List Fi) (S:Gla.Plan) (m:Nat) (ends:List Nat),vs=[.ref p,.int (m:Int),.ref ea]/\me K H p ps S/\m<S.pts.length/\H ea=some (.lst (iV (nI ends)))/\(∀x∈ends,x<S.pts.length)/\ends.length<=100000 /\
 ∀(H':Hp) (r:Fi),al H H'->H r=none->H' r=some (.lst (iV (nI (Ep S m ends))))->Q (.ref r) H'
theorem wV:ap ["points","middle","ends","higher","lower","end"] ["points","middle","ends"] (ah du):=fsk
theorem Dk (F:Has K mg "ring_round" du ["points","middle","ends"]) (C1:Cb P w K mg base 2 "sorted_by_turn" ["points","middle","ends"] (DM K)):Cb P w K mg base 3 "ring_round" ["points","middle","ends"] (BE K):=by
 refine F.cb wV (λvs H Q E h=>?_) (λ_ _ A _ s H vs Q E hr h=>?_)
 ·obtain⟨p,ea,ps,S,m,ends,rfl,_⟩:=h
  rfl
 ·obtain⟨p,ea,ps,S,m,ends,rfl,hp,hm,he,hen,hel,k⟩:=h
  refine⟨_,ad (cp (i:=3) (own:=[("end",5)]) (tt:=eY (tOp (rI0 λi j=>.bl (decide (j<i))) (a5 5) (a5 1))) rfl wV.nd rfl rfl (dC rfl rfl rfl (by decide +kernel)) (bL (pv 2)) (bJ (by show iu ["points","middle","ends","higher","lower","end"] (ah du) _ _=true;decide +kernel))
    (λ_ _ _ _ _=>au (i:=5) wV.nd rfl (.inl rfl) (.inr rfl)) (λ_ _ _ _ _=>jf (aJ dY (pv 5) (pv 1) (aH _))) (λ_ _ _ _ _=>pv 5))
   (ad (cp (i:=4) (own:=[("end",5)]) (tt:=eY (tOp (rI0 λi j=>.bl (decide (i<j))) (a5 5) (a5 1))) rfl wV.nd rfl rfl (dC rfl rfl rfl (by decide +kernel)) (bL (pv 2)) (bJ (by show iu ["points","middle","ends","higher","lower","end"] (ah du) _ _=true;decide +kernel))
    (λ_ _ _ _ _=>au (i:=5) wV.nd rfl (.inl rfl) (.inr rfl)) (λ_ _ _ _ _=>jf (aJ fT (pv 5) (pv 1) (aH _))) (λ_ _ _ _ _=>pv 5))
   (ae (ak (aT xR (aE C1 hr (aa (pv 0) (aa (pv 1) (aa (pv 3) ac)))) (aE C1 hr (aa (pv 0) (aa (pv 1) (aa (pv 4) ac)))))))),?_⟩
  refine⟨_,rfl,ea,rfl,⟨_,SqL.of he⟩,λD hD=>?_⟩
  refine ie (K:=K) (a:=ea) (xs:=iV (nI ends)) (λi H'=>al H H'/\H' D=some (.lst (iV (nI ((ends.take i).filter λe=>decide (m<e)))))) ⟨aL hD,ag⟩ (λi H' _ h=>SqL.of (h.1 _ _ he)) ?_ ?_
  ·rintro i y H' hi ⟨hS,hDl⟩
   obtain⟨e,hie,rfl⟩:=lm hi
   refine⟨rfl,_,rfl,_,rfl,_,_,rfl,rfl,_,rfl,?_⟩
   have ec:decide ((m:Int)<(e:Int))=decide (m<e):=by rw[Fz];omega
   rw[ec]
   refine aQ (λc=>?_) (λc=>?_)
   ·refine⟨_,rfl,_,hDl,?_,aW hS hD,?_⟩
    ·rw[bQ]
     have:=um ends i (λe=>decide (m<e))
     exact bn (by omega)
    ·rw[ag,kn hie,Fs c,fW]
   ·refine⟨hS,?_⟩
    rw[kn hie,Fl c]
    exact hDl
  rintro H1 ⟨s1,hD1⟩
  rw[bQ,Ho]at hD1
  refine⟨_,rfl,ea,rfl,⟨_,SqL.of (s1 _ _ he)⟩,λD2 hD2=>?_⟩
  refine ie (K:=K) (a:=ea) (xs:=iV (nI ends)) (λi H'=>al H1 H'/\H' D2=some (.lst (iV (nI ((ends.take i).filter λe=>decide (e<m)))))) ⟨aL hD2,ag⟩ (λi H' _ h=>SqL.of (h.1 _ _ (s1 _ _ he))) ?_ ?_
  ·rintro i y H' hi ⟨hS,hDl⟩
   obtain⟨e,hie,rfl⟩:=lm hi
   refine⟨rfl,_,rfl,_,rfl,_,_,rfl,rfl,_,rfl,?_⟩
   have ec:decide ((e:Int)<(m:Int))=decide (e<m):=by rw[Fz];omega
   rw[ec]
   refine aQ (λc=>?_) (λc=>?_)
   ·refine⟨_,rfl,_,hDl,?_,aW hS hD2,?_⟩
    ·rw[bQ]
     have:=um ends i (λe=>decide (e<m))
     exact bn (by omega)
    ·rw[ag,kn hie,Fs c,fW]
   ·refine⟨hS,?_⟩
    rw[kn hie,Fl c]
    exact hDl
  rintro H2 ⟨s2,hD22⟩
  rw[bQ,Ho]at hD22
  have s12:=s1.trans s2
  have l1:(ends.filter λe=>decide (m<e)).length<=ends.length:=Im _ _
  have l2:(ends.filter λe=>decide (e<m)).length<=ends.length:=Im _ _
  refine⟨_,rfl,_,rfl,_,rfl,p,D,ps,S,m,_,rfl,hp.same s12,hm,s2 _ _ hD1,λx hx=>hen x ((FX.1 hx).1),by omega,λH3 r1 s3 _ hr1=>?_⟩
  refine⟨_,rfl,_,rfl,_,rfl,p,D2,ps,S,m,_,rfl,hp.same (s12.trans s3),hm,s3 _ _ hD22,λx hx=>hen x ((FX.1 hx).1),by omega,λH4 r2 s4 _ hr2=>?_⟩
  have s14:=s12.trans (s3.trans s4)
  refine⟨r1,r2,_,_,rfl,rfl,s4 _ _ hr1,hr2,?_,λq hq=>?_⟩
  ·rw[bQ,bQ,nj,nj]
   exact Iw (bn (by omega))
  ·refine k _ q (aY s14 hq) (s14.free hq) ?_
   rw[ag,<-xB]
   rfl
theorem ko (ring:Nat->List Nat)(e:Nat×Nat):∀n i j,j<n->(WL.seg ring e i n)[j]? = some (WL.aD ring e (i+j))
 |0,_,_,h=>absurd h (Gy _)
 |n+1,i,0,_=>rfl
 |n+1,i,j+1,h=>by
  show(WL.seg ring e (i+1) n)[j]? = _
  rw[ko ring e n (i+1) j (by omega)]
  congr 2
  omega
theorem vq {l:List Nat}{x:Nat}(h:x∈l):atI (iV (nI l)) (((l.idxOf x:Nat):Int)-1)=some (.int (WL.bC l x:Int)):=by
 unfold WL.bC
 by_cases c:l.idxOf x=0
 ·rw[Fs c,c]
  obtain⟨init,z,e⟩:=j8 (λq:l=[]=>by rw[q]at h;cases h)
  rw[e,fW,List.getLast?_concat]
  exact mw _ _
 ·rw[Fl c]
  have hlt:l.idxOf x-1<l.length:=by
   have:=List.idxOf_lt_length_iff.2 h
   omega
  have ez:((l.idxOf x:Nat):Int)-1=((l.idxOf x-1:Nat):Int):=by omega
  rw[ez]
  rw[FG,gge hlt]
  exact qe (kI hlt)
def DQ:Sp:=λvs H Q _=>∃(R:Fi) (as:List Fi) (S:Gla.Plan) (u v:Nat),vs=[.ref R,.int (u:Int),.int (v:Int)]/\RW H R as (WL.aj S)/\as.length=S.pts.length/\S.pts.length<=100000/\WL.dh S/\(WL.ab S).J u v /\
 ∀(H':Hp) (c:Fi),al H H'->H c=none->H' c=some (.lst (iV (nI (WL.rnd S (u,v)))))->Q (.ref c) H'
theorem ss:ap ["rings","first","second","corners","last","here","ring","onward"] ["rings","first","second"] (ah fB):=fsk
theorem tE {S:Gla.Plan}(k:WL.dh S){e:Nat×Nat}(he:(WL.ab S).J e.1 e.2):∀v∈WL.rnd S e,v<S.pts.length:=λv hv=>by
 obtain⟨x,hx,rfl⟩:=WL.t6 k.toKept he hv
 exact(WL.bc S k.toKept).lt (WL.fN k.toKept he hx)
theorem pM {S:Gla.Plan}(k:WL.dh S){e:Nat×Nat}(he:(WL.ab S).J e.1 e.2):(WL.rnd S e).length<=S.pts.length:=by
 have h:=WL.bB (m:=FJ S.pts.length) (WL.kC k he) λx hx=>GJ.2 (tE k he x hx)
 rw[GI]at h
 exact h
theorem eE {S:Gla.Plan}(k:WL.Kept S){e:Nat×Nat}(he:(WL.ab S).J e.1 e.2):∀t,(WL.ab S).J (WL.aD (WL.aj S) e t).1 (WL.aD (WL.aj S) e t).2:=λt =>
 WL.fN k he ((WL.dS k he).2 ⟨t,rfl⟩)
theorem BX (F:Has K mg "walk_round" fB ["rings","first","second"]):Cb P w K mg base 1 "walk_round" ["rings","first","second"] DQ:=by
 refine F.cb ss (λvs H Q E h=>?_) (λ_ _ A _ s H vs Q E hr h=>?_)
 ·obtain⟨R,as,S,u,v,rfl,_⟩:=h
  rfl
 ·obtain⟨R,as,S,u,v,rfl,hrw,hlen,hn,kp,hJ,k⟩:=h
  refine⟨_,ad (aB (i:=3) ss.nd rfl (.inl rfl) (dL (aa (pv 1) ac)))
   (ad (aB (i:=4) ss.nd rfl (.inl rfl) (pv 1)) (ad (aB (i:=5) ss.nd rfl (.inl rfl) (pv 2))
   (ad (mS FC (aJ xL (pv 5) (pv 1) (aH _))
    (ad (jb (lJ Gz HB HC gQ (pv 3) (aa (pv 5) ac)))
    (ad (aB (i:=6) ss.nd rfl (.inl rfl) (aw aS (pv 0) (pv 5) (λ_ _=>rfl)))
    (ad (aB (i:=7) ss.nd rfl (.inl rfl) (aw aS (pv 6) (aT eu (lJ Gz PySem.F.slot_list_index PySem.F.type_list_index wU (pv 6) (aa (pv 4) ac)) af) (λ_ _=>rfl)))
    (ad (aB (i:=4) ss.nd rfl (.inl rfl) (pv 5)) (ae (aB (i:=5) ss.nd rfl (.inl rfl) (pv 7))))))))
   (ae (ak (pv 3)))))),?_⟩
  have per:=WL.dg kp.toKept (e:=(u,v)) hJ
  have hNl:=pM kp (e:=(u,v)) hJ
  have hnd:=WL.kC kp (e:=(u,v)) hJ
  have hrnd:=per.rnd
  generalize hN:(WL.rnd S (u,v)).length=N at per hNl hrnd
  have g:=WL.bc S kp.toKept
  refine⟨_,rfl,(by show 1<=Fk;decide),λc hc=>?_⟩
  refine⟨_,rfl,_,rfl,?_⟩
  refine⟨λmm σ H'=>al H H'/\∃t v6 v7,mm=N-t/\t<N/\σ=[some (.ref R),some (.int (u:Int)),some (.int (v:Int)),some (.ref c),some (.int ((WL.aD (WL.aj S) (u,v) t).1:Int)),some (.int ((WL.aD (WL.aj S) (u,v) t).2:Int)),v6,v7]/\H' c=some (.lst (iV (nI ((WL.seg (WL.aj S) (u,v) 0 (t+1)).map (·.1))))),
   ⟨N,aL hc,0,none,none,rfl,per.pos,rfl,ag⟩,?_⟩
  rintro mm σ H' ⟨hS,t,v6,v7,rfl,ht,rfl,hcc⟩
  refine⟨_,rfl,_,rfl,rfl,_,rfl,aQ (λc1=>?_) (λc1=>?_)⟩
  ·have c1:(WL.aD (WL.aj S) (u,v) t).2≠u:=λz=>by
    rw[z,dqt rfl]at c1
    exact absurd c1 (by decide)
   have ht2:t+1<N:=by
    refine bcn λz=>c1 ?_
    have e:t+1=N:=by omega
    have:=per.back
    rw[<-e]at this
    have h2:=WL.dO (WL.aj S) (u,v) t
    rw[this]at h2
    exact h2.symm
   have hJt:=eE kp.toKept (e:=(u,v)) hJ t
   generalize hxy:WL.aD (WL.aj S) (u,v) t=xy at c1 hJt
   obtain⟨x,y⟩:=xy
   have hy:y<S.pts.length:=(g.lt (g.symm hJt))
   obtain⟨b,hb⟩:∃b,as[y]? = some b:=⟨as[y]'(by omega),gge _⟩
   refine⟨λσ' H'=>al H H'/\∃t' v6 v7,t+1=t'/\t'<N/\σ'=[some (.ref R),some (.int (u:Int)),some (.int (v:Int)),some (.ref c),some (.int ((WL.aD (WL.aj S) (u,v) t').1:Int)),some (.int ((WL.aD (WL.aj S) (u,v) t').2:Int)),v6,v7]/\H' c=some (.lst (iV (nI ((WL.seg (WL.aj S) (u,v) 0 (t'+1)).map (·.1))))),?_,?_⟩
   ·rintro σ' H2 ⟨hS2,t',w6,w7,rfl,h2,h3,h4⟩
    exact⟨N-(t+1),by omega,hS2,t+1,w6,w7,rfl,h2,h3,h4⟩
   refine⟨_,rfl,.inl ⟨rfl,_,SqL.of hcc⟩,_,rfl,c,_,_,rfl,rfl,hcc,?_,?_⟩
   ·rw[bQ,lmp,WL.cC]
    exact bn (by omega)
   have s2:al H (upd H' c (.lst (iV (nI ((WL.seg (WL.aj S) (u,v) 0 (t+1)).map (·.1)))++[.int (y:Int)]))):=aW hS hc
   have hc2:(upd H' c (.lst (iV (nI ((WL.seg (WL.aj S) (u,v) 0 (t+1)).map (·.1)))++[.int (y:Int)]))) c=some (.lst (iV (nI ((WL.seg (WL.aj S) (u,v) 0 (t+1+1)).map (·.1))))):=by
    rw[ag,WL.eB _ _ (t+1) 1 0,FP]
    have e1:(WL.seg (WL.aj S) (u,v) (0+(t+1)) 1).map (·.1)=[y]:=by
     show [(WL.aD (WL.aj S) (u,v) (0+(t+1))).1]=[y]
     rw[Hf,WL.dO,hxy]
    rw[e1,fW]
   generalize upd H' c (.lst (iV (nI ((WL.seg (WL.aj S) (u,v) 0 (t+1)).map (·.1)))++[.int (y:Int)]))=H2 at s2 hc2
   have rw2:=hrw.same s2
   have hbr:=rw2.2 y b hb
   have hmem:x∈WL.aj S y:=(WL.cw kp.toKept).mem.2 (g.symm hJt)
   have hidx:=List.idxOf_lt_length_iff.2 hmem
   refine⟨_,rfl,_,rfl,R,_,_,_,rfl,rfl,SqL.of rw2.1,aA (j:=y) rfl (aN hb),?_⟩
   refine⟨_,rfl,_,rfl,.inl ⟨rfl,_,SqL.of hbr⟩,_,rfl,b,_,_,(WL.aj S y).idxOf x,_,rfl,rfl,SqL.of hbr,rfl,?_,kI hidx,?_,?_,_,_,rfl,rfl,b,_,_,_,rfl,rfl,SqL.of hbr,vq hmem,?_⟩
   ·rw[Gx]
    intro z hz
    unfold iV nI at hz
    rw[Gc]at hz
    obtain⟨q,_,rfl⟩:=hz
    rfl
   ·show(((WL.aj S y)[(WL.aj S y).idxOf x]:Int)==(x:Int))=true
    rw[List.getElem_idxOf hidx]
    exact beq_self_eq_true _
   ·intro i z hi hz
    obtain⟨q,hq,rfl⟩:=lm hz
    show((q:Int)==(x:Int))=false
    rw[GR]
    intro hqx
    have hqx:q=x:=by omega
    subst hqx
    obtain⟨hil,hq⟩:=gsi hq
    have h9:=List.not_of_lt_findIdx (p:=λz=>z==q) (xs:=WL.aj S y) hi
    rw[hq]at h9
    simp at h9
   refine⟨_,rfl,_,rfl,s2,t+1,some (.ref b),some (.int (WL.bC (WL.aj S y) x:Int)),rfl,ht2,?_,hc2⟩
   have e1:WL.aD (WL.aj S) (u,v) (t+1)=(y,WL.bC (WL.aj S y) x):=by
    rw[WL.fD,hxy]
    rfl
   rw[e1]
   rfl
  ·have c1:(WL.aD (WL.aj S) (u,v) t).2=u:=bcn λz=>c1 (by
    rw[dqf (λy=>z (by have:=V.int.inj y;omega))]
    rfl)
   have e:t+1=N:=by
    refine bcn λz=>?_
    have h0:(WL.rnd S (u,v))[0]? = some u:=by
     rw[hrnd,FA,ko _ _ N 0 0 per.pos]
     rfl
    have h1:(WL.rnd S (u,v))[t+1]? = some u:=by
     rw[hrnd,FA,ko _ _ N 0 (t+1) (by omega),Hf]
     show some (WL.aD (WL.aj S) (u,v) (t+1)).1=_
     rw[WL.dO,c1]
    obtain⟨l0,g0⟩:=gsi h0
    obtain⟨l1,g1⟩:=gsi h1
    exact FY.1 hnd 0 (t+1) l0 l1 (by omega) (by rw[g0,g1])
   refine⟨_,rfl,k H' c hS hc ?_⟩
   rw[hcc,e,hrnd]
def lK (H:Hp)(r:Fi)(as ps:List Fi)(cs:List Nat):Prop:=H r=some (.lst (as.map V.ref))/\as.length=cs.length/\∀(i:Nat) (b:Fi) (x:Nat),as[i]? = some b->cs[i]? = some x->ps[x]? = some b
theorem lK.pl {H:Hp}{r p:Fi}{as ps:List Fi}{cs:List Nat}{S:Gla.Plan}(h:lK H r as ps cs)(hp:me K H p ps S):PL K H r (cs.map S.pt):=by
 obtain⟨h1,h2,h3⟩:=h
 refine⟨as,SqL.of h1,by rw[lmp,h2],λi b q e1 e2=>?_⟩
 have hil:i<cs.length:=by rw[<-h2];exact(gsi e1).1
 rw[FA,gge hil]at e2
 have e2:=osi e2
 rw[<-e2]
 exact hp.2.2 _ b (h3 i b _ e1 (gge hil))
def zl (K:GC):Sp:=λvs H Q _=>∃(p c:Fi) (ps:List Fi) (S:Gla.Plan) (cs:List Nat),vs=[.ref p,.ref c]/\me K H p ps S/\H c=some (.lst (iV (nI cs)))/\(∀x∈cs,x<S.pts.length)/\cs.length<=100000 /\
 ∀(H':Hp) (r:Fi) (as:List Fi),al H H'->H r=none->lK H' r as ps cs->Q (.ref r) H'
theorem BA:ap ["points","corners","corner"] ["points","corners"] (ah eS):=fsk
theorem De (F:Has K mg "points_at" eS ["points","corners"]):Cb P w K mg base 1 "points_at" ["points","corners"] (zl K):=by
 refine F.cb BA (λvs H Q E h=>?_) (λ_ _ A _ s H vs Q E hr h=>?_)
 ·obtain⟨p,c,ps,S,cs,rfl,_⟩:=h
  rfl
 ·obtain⟨p,c,ps,S,cs,rfl,hp,hc,hcn,hcl,k⟩:=h
  refine⟨_,ae (ak (xC (own:=[("corner",2)]) (te:=tOp (uX K) (a5 0) (a5 2)) rfl BA.nd (bL (pv 1)) (bJ (by show iu ["points","corners","corner"] (ah eS) _ _=true;decide +kernel))
   (λ_ _ _ _ _=>au (i:=2) BA.nd rfl (.inl rfl)) (λ_ _ _ _ _=>eO) (λ_ _ _ _ _=>aw aS (pv 0) (pv 2) (λ_ _=>rfl)))),?_⟩
  refine⟨_,rfl,c,rfl,⟨_,SqL.of hc⟩,λD hD=>?_⟩
  refine ie (K:=K) (a:=c) (xs:=iV (nI cs)) (λi H'=>∃as:List Fi,al H H'/\H' D=some (.lst (as.map V.ref))/\as.length=i/\∀(j:Nat) (b:Fi) (x:Nat),as[j]? = some b->cs[j]? = some x->ps[x]? = some b)
   ⟨[],aL hD,ag,rfl,λj b x e=>by simp at e⟩ (λi H' _ h=>by obtain⟨as,h1,_⟩:=h;exact SqL.of (h1 _ _ hc)) ?_ ?_
  ·rintro i y H' hi ⟨as,hS,hDl,hal,hat⟩
   obtain⟨x,hix,rfl⟩:=lm hi
   have hil:i<cs.length:=(gsi hix).1
   obtain⟨b,hb⟩:=hp.has (hcn x (Gg hix))
   refine⟨rfl,oe (eI ?_)⟩
   refine⟨_,rfl,_,rfl,p,_,_,_,rfl,rfl,SqL.of (hp.same hS).1,aA (j:=x) rfl (aN hb),_,hDl,?_,as++[b],aW hS hD,?_,?_,?_⟩
   ·rw[lmp]
    exact bn (by omega)
   ·rw[ag,FP]
    rfl
   ·rw[Fm,hal]
    rfl
   ·intro j q z e1 e2
    by_cases cj:j<as.length
    ·rw[FL cj]at e1
     exact hat j q z e1 e2
    ·have hj:=(gsi e1).1
     rw[Fm]at hj
     have ej:j=as.length:=by simp at hj;omega
     subst ej
     rw[FE (nlr _),GX]at e1
     have e1:b=q:=osi e1
     rw[hal,hix]at e2
     have e2:=osi e2
     rw[<-e1,<-e2]
     exact hb
  rintro H' ⟨as,hS,hDl,hal,hat⟩
  rw[bQ]at hal
  exact k H' D as hS hD ⟨hDl,hal,hat⟩
def prF (S:Gla.Plan)(x:Nat×Nat):Int:=((S.pt x.1).x:Int)*((S.pt x.2).y:Int)-((S.pt x.2).x:Int)*((S.pt x.1).y:Int)
theorem t9 (S:Gla.Plan)(x:Nat×Nat):prF S x=crs (S.pt x.1) (S.pt x.2):=by
 unfold prF crs
 rw[Hg ((S.pt x.2).x:Int)]
theorem nJ (S:Gla.Plan)(c:Nat):∀(r:List Nat) (a:Nat),((((a :: r).zip (r++[c])).map (prF S)).foldr (λ(a b:Int)=>a+b) 0)=dj (S.pt a) (r.map S.pt)+crs (S.pt ((a :: r).getLast (by simp))) (S.pt c)
 |[],a=>by
  show prF S (a,c)+0=0+crs (S.pt a) (S.pt c)
  rw[t9]
  show crs (S.pt a) (S.pt c)+0=_
  omega
 |b :: r,a=>by
  show prF S (a,b)+((((b :: r).zip (r++[c])).map (prF S)).foldr (λ(a b:Int)=>a+b) 0)=(crs (S.pt a) (S.pt b)+dj (S.pt b) (r.map S.pt))+crs (S.pt ((a :: b :: r).getLast (by simp))) (S.pt c)
  have e:(a :: b :: r).getLast (by simp)=(b :: r).getLast (by simp):=List.getLast_cons (by simp)
  rw[nJ S c r b,t9,e]
  show crs (S.pt a) (S.pt b)+_=_
  omega
theorem rB {S:Gla.Plan}{a:Nat}{r:List Nat}{init:List Pt}{l:Pt}(h:(a :: r).map S.pt=init++[l]):l=S.pt ((a :: r).getLast (by simp)):=by
 have e1:((a :: r).map S.pt).getLast? = some l:=by rw[h,List.getLast?_concat]
 rw[List.getLast?_map,List.getLast?_eq_some_getLast (by simp)]at e1
 exact(osi e1).symm
theorem zG (S:Gla.Plan){cs:List Nat}{init:List Pt}{l:Pt}(h:cs.map S.pt=init++[l]):dj l (cs.map S.pt)=Gla.twiceArea S cs:=by
 cases cs with
 |nil=>simp at h
 |cons a r =>
  have e:Gla.twiceArea S (a :: r)=((((a :: r).zip (r++[a])).map (prF S)).foldr (λ(a b:Int)=>a+b) 0):=rfl
  rw[e,nJ,rB h]
  show crs _ (S.pt a)+dj (S.pt a) (r.map S.pt)=_
  omega
def prB (S:Gla.Plan)(z:Pt)(x:Nat×Nat):Bool :=
 let p:=S.pt x.1
 let q:=S.pt x.2
 (decide (p.y<=z.y)&&(decide (z.y<q.y)&&decide (0<G2 p q z)))||(decide (q.y<=z.y)&&(decide (z.y<p.y)&&decide (G2 p q z<0)))
theorem vg (p q z:Pt):G2 q p z=- G2 p q z:=by
 unfold G2 Gla.dx Gla.dy
 grind
theorem uF (S:Gla.Plan)(z:Pt)(x:Nat×Nat):prB S z x=cR (S.pt x.1) (S.pt x.2) z:=by
 unfold prB cR
 have e:=vg (S.pt x.1) (S.pt x.2) z
 rw[e,Ge]
 simp only[Hw,Fn,Fq]
 split
 ·rename_i h
  rw[Fq]
  constructor
  ·rintro(h1|h1)
   ·exact h1.2.2
   ·omega
  ·exact λh1=>.inl ⟨h.1,h.2,h1⟩
 ·rename_i h
  split
  ·rename_i h2
   rw[Fq]
   constructor
   ·rintro(h1|h1)
    ·omega
    ·have:=h1.2.2
     omega
   ·exact λh1=>.inr ⟨h2.1,h2.2,by omega⟩
  ·rename_i h2
   constructor
   ·rintro(h1|h1)
    ·omega
    ·omega
   ·intro h1
    cases h1
def qA (n:Nat):Bool:=decide (n % 2=1)
theorem xm (n:Nat):qA (n+1)=!qA n:=by
 unfold qA
 rw[<-decide_not,Fz]
 omega
theorem r8 {α:Type}(q:α->Bool)(x:α)(l:List α):qA ((x :: l).filter q).length=(q x^^qA (l.filter q).length):=by
 by_cases c:q x=true
 ·rw[List.filter_cons_of_pos c,FT,xm,c,Bool.true_xor]
 ·rw[List.filter_cons_of_neg c,cB c,GB]
theorem qL (S:Gla.Plan)(z:Pt)(c:Nat):∀(r:List Nat) (a:Nat),qA (((a :: r).zip (r++[c])).filter (prB S z)).length=(eW z (S.pt a) (r.map S.pt)^^cR (S.pt ((a :: r).getLast (by simp))) (S.pt c) z)
 |[],a=>by
  show qA (((a,c) :: []).filter (prB S z)).length=(false^^cR (S.pt a) (S.pt c) z)
  rw[r8,uF]
  show(_^^false)=_
  rw[GZ,GB]
 |b :: r,a=>by
  show qA (((a,b) :: ((b :: r).zip (r++[c]))).filter (prB S z)).length=((cR (S.pt a) (S.pt b) z^^eW z (S.pt b) (r.map S.pt))^^cR (S.pt ((a :: b :: r).getLast (by simp))) (S.pt c) z)
  have e:(a :: b :: r).getLast (by simp)=(b :: r).getLast (by simp):=List.getLast_cons (by simp)
  rw[r8,qL S z c r b,uF,e,Bool.xor_assoc]
theorem DI (S:Gla.Plan)(z:Pt){cs:List Nat}{init:List Pt}{l:Pt}(h:cs.map S.pt=init++[l]):eW z l (cs.map S.pt)=IV S cs z:=by
 cases cs with
 |nil=>simp at h
 |cons a r =>
  have e:IV S (a :: r) z=qA (((a :: r).zip (r++[a])).filter (prB S z)).length:=rfl
  rw[e,qL,rB h]
  show(cR _ (S.pt a) z^^eW z (S.pt a) (r.map S.pt))=_
  rw[Ih]
theorem vJ {S:Gla.Plan}(k:WL.Kept S){e:Nat×Nat}(he:(WL.ab S).J e.1 e.2):(WL.orb S e).Nodup:=by
 have per:=WL.dg k he
 rw[per.orb]
 rw[List.Nodup,FY]
 intro i j hi hj hij
 rw[WL.cC]at hi hj
 have e1:=(gsi (ko (WL.aj S) e _ 0 i hi)).2
 have e2:=(gsi (ko (WL.aj S) e _ 0 j hj)).2
 rw[e1,e2]
 exact per.dist (0+i) (0+j) (by omega) (by omega)
theorem pR {S:Gla.Plan}(k:WL.Kept S):∀{D:List (Nat×Nat)},(∀x∈D,(WL.ab S).J x.1 x.2)->(WL.bF S D).1.Nodup:=by
 intro D
 generalize hn:D.length=n
 induction n generalizing D with
 |zero =>
  intro _
  have:D=[]:=Hk.1 hn
  subst this
  exact List.nodup_nil
 |succ n ih =>
  intro hD
  rcases Il D with h|⟨D',e,h⟩
  ·subst h;simp at hn
  ·rw[IQ]at h
   subst h
   have hD':∀x∈D',(WL.ab S).J x.1 x.2:=λx hx=>hD x (by simp[hx])
   have he:=hD e (by simp)
   have ok:=WL.kJ k hD'
   have nd:=ih (by simpa using hn) hD'
   rw[WL.fS]
   unfold WL.jX
   by_cases hw:e∈(WL.bF S D').1
   ·rw[Fs hw]
    exact nd
   ·rw[Fl hw]
    show((WL.bF S D').1++WL.orb S e).Nodup
    rw[List.nodup_append]
    refine⟨nd,vJ k he,λx hx y hy hxy=>hw ?_⟩
    subst hxy
    obtain⟨e',he',hx'⟩:=(ok.walked x).1 hx
    exact(ok.walked e).2 ⟨e',he',WL.fF k (hD' e' he') hx' (WL.ee k he hy)⟩
theorem mM {S:Gla.Plan}(k:WL.Kept S){D:List (Nat×Nat)}(hD:∀x∈D,(WL.ab S).J x.1 x.2):(WL.bF S D).1.length<=2*S.lines.length:=by
 rw[<-WL.ly]
 refine WL.bB (pR k hD) λx hx=>?_
 obtain⟨e,he,hxe⟩:=((WL.kJ k hD).walked x).1 hx
 exact WL.iJ.2 (WL.fN k (hD e he) hxe)
def bef (cs:List Nat)(k:Nat):Nat:=if k=0 then cs.getLast?.getD 0 else cs.getD (k-1) 0
def sO (cs:List Nat)(k:Nat):List (Nat×Nat):=(FJ k).map λi=>(bef cs i,cs.getD i 0)
theorem vb (cs:List Nat)(k:Nat):sO cs (k+1)=sO cs k++[(bef cs k,cs.getD k 0)]:=by
 unfold sO
 rw[IP,FP]
 rfl
theorem pZ {cs:List Nat}{j:Nat}(h:j<cs.length):(WL.prs cs)[j]? = some (cs.getD j 0,cs.getD (if j+1=cs.length then 0 else j+1) 0):=by
 unfold WL.prs
 have hl:(cs.drop 1++cs.take 1).length=cs.length:=by
  rw[Fm,FZ,Gr]
  omega
 rw[gge (by rw[HV,hl];omega),ID]
 congr 2
 ·rw[FG,gge h]
  rfl
 ·split
  ·rename_i c
   rw[List.getElem_append_right (by rw[FZ];omega)]
   rw[List.getElem_take,FG,gge (by omega)]
   simp only[FZ,Option.getD_some]
   congr 1
   omega
  ·rename_i c
   rw[List.getElem_append_left (by rw[FZ];omega),Iv,FG,gge (by omega)]
   simp only[Option.getD_some]
   congr 1
   omega
theorem tq (cs:List Nat):(WL.prs cs).length=cs.length:=by
 unfold WL.prs
 rw[HV,Fm,FZ,Gr]
 omega
theorem ow {cs:List Nat}:cs.getLast?.getD 0=cs.getD (cs.length-1) 0:=by
 rw[List.getLast?_eq_getElem?,FG]
theorem wQ (cs:List Nat)(x:Nat×Nat):x∈sO cs cs.length↔x∈WL.prs cs:=by
 unfold sO
 rw[Gc,Ig]
 constructor
 ·rintro⟨i,hi,rfl⟩
  have hi:=GJ.1 hi
  by_cases c:i=0
  ·subst c
   refine⟨cs.length-1,?_⟩
   rw[pZ (by omega),Fs (by omega)]
   unfold bef
   rw[Fs rfl,ow]
  ·refine⟨i-1,?_⟩
   rw[pZ (by omega),Fl (by omega),Nat.sub_add_cancel (by omega)]
   unfold bef
   rw[Fl c]
 ·rintro⟨j,hj⟩
  have hjl:=(gsi hj).1
  rw[tq]at hjl
  rw[pZ hjl]at hj
  have hj:=osi hj
  by_cases c:j+1=cs.length
  ·refine⟨0,GJ.2 (by omega),?_⟩
   rw[<-hj,Fs c]
   unfold bef
   rw[Fs rfl,ow]
   congr 2
   omega
  ·refine⟨j+1,GJ.2 (by omega),?_⟩
   rw[<-hj,Fl c]
   unfold bef
   rw[Fl (by omega),Nat.add_sub_cancel]
theorem LD.same_mem {kvs:List (List L2.Key×V)}{L L':List (Nat×Nat)}(h:LD kvs L)(e:∀x,x∈L↔x∈L'):LD kvs L':=λx=>by
 rw[h x,Fz]
 exact e x
theorem yS {cs:List Nat}{k:Nat}(h:k<cs.length):atI (iV (nI cs)) ((k:Int)-1)=some (.int (bef cs k:Int)):=by
 unfold bef
 by_cases c:k=0
 ·subst c
  rw[Fs rfl]
  obtain⟨init,z,e⟩:=j8 (λq:cs=[]=>by rw[q]at h;simp at h)
  rw[e,fW,List.getLast?_concat]
  exact mw _ _
 ·rw[Fl c]
  have ez:((k:Int)-1)=((k-1:Nat):Int):=by omega
  rw[ez,FG,gge (by omega)]
  exact qe (kI (by omega))
def tM (S:Gla.Plan)(i:Nat):List (Nat×Nat):=(FJ i).flatMap λi=>(WL.aj S i).map λj=>(i,j)
def dTo (S:Gla.Plan)(i j:Nat):List (Nat×Nat):=tM S i++((WL.aj S i).take j).map λj=>(i,j)
theorem yp (S:Gla.Plan)(i:Nat):dTo S i 0=tM S i:=by
 unfold dTo
 rw[List.take_zero]
 exact GT _
theorem xH (S:Gla.Plan)(i:Nat):dTo S i (WL.aj S i).length=tM S (i+1):=by
 unfold dTo tM
 rw[Ho,IP,List.flatMap_append]
 congr 1
 show _=_++[]
 rw[GT]
theorem ww {S:Gla.Plan}{i j x:Nat}(h:(WL.aj S i)[j]? = some x):dTo S i (j+1)=dTo S i j++[(i,x)]:=by
 unfold dTo
 rw[bW h,FP,List.append_assoc]
 rfl
theorem CS {S:Gla.Plan}(k:WL.Kept S){i j:Nat}:∀x∈dTo S i j,(WL.ab S).J x.1 x.2:=by
 have r:=WL.cw k
 intro x hx
 unfold dTo tM at hx
 rw[FR,Jj,Gc]at hx
 rcases hx with⟨q,_,hq⟩|⟨y,hy,rfl⟩
 ·rw[Gc]at hq
  obtain⟨y,hy,rfl⟩:=hq
  exact r.mem.1 hy
 ·exact r.mem.1 (GO hy)
theorem uc {S:Gla.Plan}(k:WL.Kept S):∀{D:List (Nat×Nat)},(∀x∈D,(WL.ab S).J x.1 x.2)->(WL.bF S D).2.length<=(WL.bF S D).1.length:=by
 intro D
 generalize hn:D.length=n
 induction n generalizing D with
 |zero =>
  intro _
  have:D=[]:=Hk.1 hn
  subst this
  exact nlr _
 |succ n ih =>
  intro hD
  rcases Il D with h|⟨D',e,h⟩
  ·subst h;simp at hn
  ·rw[IQ]at h
   subst h
   have hD':∀x∈D',(WL.ab S).J x.1 x.2:=λx hx=>hD x (by simp[hx])
   have he:=hD e (by simp)
   have le:=ih (by simpa using hn) hD'
   rw[WL.fS]
   unfold WL.jX
   split
   ·exact le
   ·have ho:0<(WL.orb S e).length:=List.length_pos_of_mem (WL.gE k he)
    show(if _ then _ else _:List (List Nat)).length<=((WL.bF S D').1++WL.orb S e).length
    rw[Fm]
    split
    ·rw[Fm,List.length_singleton]
     omega
    ·omega
def dI (H:Hp)(O:Fi)(os:List Fi)(L:List (List Nat)):Prop:=H O=some (.lst (os.map V.ref))/\os.length=L.length/\∀(j:Nat) (b:Fi) (l:List Nat),os[j]? = some b->L[j]? = some l->b≠O/\H b=some (.lst (iV (nI l)))
theorem dI.same {H H':Hp}{O:Fi}{os:List Fi}{L:List (List Nat)}(h:dI H O os L)(s:al H H'):dI H' O os L:=⟨s _ _ h.1,h.2.1,λj b l e1 e2=>⟨(h.2.2 j b l e1 e2).1,s _ _ (h.2.2 j b l e1 e2).2⟩⟩
theorem dI.updW {H:Hp}{O W:Fi}{os:List Fi}{L:List (List Nat)}{q q':List (List L2.Key×V)}(h:dI H O os L)(hW:H W=some (.dT q)):dI (upd H W (.dT q')) O os L:=by
 refine⟨?_,h.2.1,λj b l e1 e2=>⟨(h.2.2 j b l e1 e2).1,?_⟩⟩
 ·rw[aq (λz=>by have:=h.1;rw[z,hW]at this;cases this)]
  exact h.1
 ·have hb:=(h.2.2 j b l e1 e2).2
  rw[aq (λz=>by rw[z,hW]at hb;cases hb)]
  exact hb
theorem dI.push {H:Hp}{O c:Fi}{os:List Fi}{L:List (List Nat)}{l:List Nat}(h:dI H O os L)(hc:H c=some (.lst (iV (nI l))))(nc:c≠O):dI (upd H O (.lst (os.map V.ref++[.ref c]))) O (os++[c]) (L++[l]):=by
 refine⟨by rw[ag,FP];rfl,by rw[Fm,Fm,h.2.1];rfl,λj b l' e1 e2=>?_⟩
 by_cases cj:j<os.length
 ·rw[FL cj]at e1
  rw[FL (by rw[<-h.2.1];exact cj)]at e2
  obtain⟨n1,n2⟩:=h.2.2 j b l' e1 e2
  exact⟨n1,by rw[aq n1];exact n2⟩
 ·have hj:=(gsi e1).1
  rw[Fm]at hj
  have ej:j=os.length:=by simp at hj;omega
  subst ej
  rw[FE (nlr _),GX]at e1
  rw[h.2.1,FE (nlr _),GX]at e2
  have e1:c=b:=osi e1
  have e2:l=l':=osi e2
  subst e1 e2
  exact⟨nc,by rw[aq nc];exact hc⟩
structure OSt (H H':Hp)(W O:Fi)(S:Gla.Plan)(D:List (Nat×Nat))(kvs:List (List L2.Key×V))(os:List Fi):Prop where
 sm:al H H'
 w:H' W=some (.dT kvs)
 ld:LD kvs (WL.bF S D).1
 ln:kvs.length<=(WL.bF S D).1.length
 o:dI H' O os (WL.bF S D).2
theorem OSt.same {H H' H'':Hp}{W O:Fi}{S:Gla.Plan}{D:List (Nat×Nat)}{kvs:List (List L2.Key×V)}{os:List Fi}(h:OSt H H' W O S D kvs os)(s:al H' H''):OSt H H'' W O S D kvs os:=⟨h.sm.trans s,s _ _ h.w,h.ld,h.ln,h.o.same s⟩
def zZ (C:Fi):Sp:=λvs H Q _=>∃(a:Fi) (S:Gla.Plan),vs=[.ref a]/\bz C H a S/\SB S/\WL.dh S/\∀(H':Hp) (O:Fi) (os:List Fi),al H H'->dI H' O os (WL.dD S)->Q (.ref O) H'
theorem gu:ap ["drawing","points","rings","walked","outlines","first","ring","second","corners","k","corner","ends"] ["drawing"] (ah dP):=fsk
theorem Ar (F:Has K mg "outlines_of" dP ["drawing"]) (T:DCl K mg C) (ge:mg "enumerate"=none) (CN:Cb P w K mg base 1 "neighbours_of" ["drawing"] (Bz C)) (CR:Cb P w K mg base 3 "ring_round" ["points","middle","ends"] (BE K)) (CW:Cb P w K mg base 1 "walk_round" ["rings","first","second"] DQ) (CA:Cb P w K mg base 1 "twice_area" ["corners"] (wO K)) (CP:Cb P w K mg base 1 "points_at" ["points","corners"] (zl K)) :
  Cb P w K mg base 4 "outlines_of" ["drawing"] (zZ C):=by
 refine F.cb gu (λvs H Q E h=>?_) (λ_ _ A _ s H vs Q E hr h=>?_)
 ·obtain⟨a,S,rfl,_⟩:=h
  rfl
 ·obtain⟨a,S,rfl,hd,sb,kp,k⟩:=h
  obtain⟨dx,p,l,m,ps,ls,ms,o⟩:=hd.op (K:=K)
  have hr1:bf 1 _:=hr.mono (by decide)
  have hu:=hr.units
  have np:=sb.np
  have nl:=sb.nl
  have kk:=kp.toKept
  have hlo:gb S:=λl hl=>kk.line hl
  refine⟨_,ad (aB (i:=1) gu.nd rfl (.inr rfl) (aP (pv 0) rfl))
   (ad (cp (i:=2) (own:=[("k",9),("ends",11)]) (g:=g2 K 9 11) (te:=lI (BE K) [] E0 (bD (a5 1) (bD (a5 9) (bD (a5 11) fI)))) rfl gu.nd rfl rfl (dC rfl rfl rfl (by decide +kernel)) (dR rfl ge (aa (aE CN hr1 (aa (pv 0) ac)) ac)) (bJ (by show iu ["drawing","points","rings","walked","outlines","first","ring","second","corners","k","corner","ends"] (ah dP) _ _=true;decide +kernel))
    (λ_ _ _ _ _=>cO (n:=2) rfl (aK (au (i:=9) gu.nd rfl (.inl rfl) (.inr rfl)) (aK (au (i:=11) gu.nd rfl (.inl rfl) (.inr rfl)) bR))) (λ_ _ _ _ _=>eO) (λ_ _ _ _ _=>aE CR hr (aa (pv 1) (aa (pv 9) (aa (pv 11) ac)))))
   (ad (aB (i:=3) gu.nd rfl (.inl rfl) qV)
   (ad (aB (i:=4) gu.nd rfl (.inl rfl) (dL ac))
   (ad (bw FC rfl (dR rfl ge (aa (pv 2) ac)) (cO (n:=2) rfl (aK (au (i:=5) gu.nd rfl (.inl rfl)) (aK (au (i:=6) gu.nd rfl (.inl rfl)) bR)))
    (ae (bw FC rfl (bL (pv 6)) (au (i:=7) gu.nd rfl (.inl rfl))
     (ae (aX (sD (pG (Gn (HX (by decide) _) hu) (bv (aa (pv 5) (aa (pv 7) ac))) (pv 3)))
      (ad (aB (i:=8) gu.nd rfl (.inl rfl) (aE CW hr1 (aa (pv 2) (aa (pv 5) (aa (pv 7) ac)))))
      (ad (bw FC rfl (dR rfl ge (aa (pv 8) ac)) (cO (n:=2) rfl (aK (au (i:=9) gu.nd rfl (.inl rfl)) (aK (au (i:=10) gu.nd rfl (.inl rfl)) bR)))
       (ae (pO (Gn (HX (by decide) _) hu) (pv 3) (bv (aa (aw aS (pv 8) (aT eu (pv 9) af) (λ_ _=>rfl)) (aa (pv 10) ac))) d9 rfl)))
      (ae (aX (aJ dY (aE CA hr1 (aa (aE CP hr1 (aa (pv 1) (aa (pv 8) ac))) ac)) af (aH _))
       (ae (jb (lJ Gz HB HC gQ (pv 4) (aa (pv 8) ac)))) aI))))
      aI)))))
   (ae (ak (pv 4))))))),?_⟩
  refine⟨_,rfl,a,C,dx,_,_,rfl,o.at_,T.cl,T.nP,iw,?_⟩
  refine⟨_,rfl,a,S,rfl,hd,sb,hlo,λH1 N nas hN hNl=>?_⟩
  have s1:=hN.sm
  have rw1:=hN.rw
  refine⟨N,_,rfl,SqL.of rw1.1,λD hD=>?_⟩
  refine zd (K:=K) (a:=N) (xs:=nas.map V.ref) (λi H'=>∃as:List Fi,al H1 H'/\H' D=some (.lst (as.map V.ref))/\as.length=i/\∀(j:Nat) (b:Fi),as[j]? = some b->b≠D/\H' b=some (.lst (iV (nI (WL.aj S j)))))
   ⟨[],aL hD,ag,rfl,λj b e=>by simp at e⟩ (λi H' _ h=>by obtain⟨as,h1,_⟩:=h;exact SqL.of (h1 _ _ rw1.1)) ?_ ?_
  ·rintro i y T' H' hi hT ⟨as,hS,hDl,hal,hat⟩
   obtain⟨b,hb,rfl⟩:=cg hi
   have hil:i<S.pts.length:=by rw[<-hNl];exact(gsi hb).1
   have s2:al H' (upd H' T' (.tup [.int (i:Nat),.ref b])):=aL hT
   refine⟨T',_,rfl,SqT.of ag,rfl,_,_,rfl,_,_,rfl,rfl,rfl,oe (eI ?_)⟩
   generalize upd H' T' (.tup [.int (i:Nat),.ref b])=H2 at s2
   have s12:=hS.trans s2
   refine⟨_,rfl,_,rfl,_,rfl,p,b,ps,S,i,S.near i,rfl,(o.same (s1.trans s12)).ptsL sb,hil,(rw1.same s12).2 i b hb,mZ hlo i hil,?_,λH3 r s3 hr0 hr3=>?_⟩
   ·have h9:(S.near i).length<=S.lines.length:=List.length_filterMap_le _ _
    omega
   have hD3:=s3 _ _ (s2 _ _ hDl)
   have nr:r≠D:=λz=>by rw[z,s2 _ _ hDl]at hr0;cases hr0
   refine⟨as.map V.ref,hD3,by rw[lmp];exact bn (by omega),as++[r],aW (s12.trans s3) hD,?_,by rw[Fm,hal];rfl,λj c e=>?_⟩
   ·rw[ag,FP]
    rfl
   ·by_cases cj:j<as.length
    ·rw[FL cj]at e
     obtain⟨n1,n2⟩:=hat j c e
     exact⟨n1,by rw[aq n1];exact s3 _ _ (s2 _ _ n2)⟩
    ·have hj:=(gsi e).1
     rw[Fm]at hj
     have ej:j=as.length:=by simp at hj;omega
     subst ej
     rw[FE (nlr _),GX]at e
     have e:r=c:=osi e
     subst e
     refine⟨nr,?_⟩
     rw[aq nr,hal]
     exact hr3
  rintro H2 ⟨as,hS2,hDl,hal,hat⟩
  rw[lmp,hNl]at hal
  have rwR:RW H2 D as (WL.aj S):=⟨hDl,λi b e=>(hat i b e).2⟩
  have sH2:=s1.trans hS2
  clear hat hDl hS2
  refine λW hW=>?_
  refine⟨(by show 0<=Fk;decide),λO hO=>?_⟩
  have nWO:W≠O:=λz=>by rw[z,ag]at hO;cases hO
  have hO2:H2 O=none:=by rw[aq nWO.symm]at hO;exact hO
  have z0:OSt H2 (upd (upd H2 W (.dT [])) O (.lst [])) W O S (tM S 0) [] []:=⟨aW (aL hW) hO2,by rw[aq nWO];exact ag,λx=>rfl,Gw _,ag,rfl,λj b l e=>by simp at e⟩
  generalize upd (upd H2 W (.dT [])) O (.lst [])=H3 at z0
  refine⟨_,rfl,D,_,rfl,SqL.of (rwR.same z0.sm).1,dc (K:=K) (a:=D) (xs:=as.map V.ref) (λi σ H'=>(∃v5 v6 v7 v8 v9 v10,σ=[some (.ref a),some (.ref p),some (.ref D),some (.ref W),some (.ref O),v5,v6,v7,v8,v9,v10,none])/\∃kvs os,OSt H2 H' W O S (tM S i) kvs os)
   ⟨⟨none,none,none,none,none,none,rfl⟩,[],[],z0⟩ (λi σ H' _ h=>by obtain⟨_,kvs,os,h⟩:=h;exact SqL.of (rwR.same h.sm).1) ?_ ?_⟩
  ·rintro i y T' σ H' hi hT ⟨⟨v5,v6,v7,v8,v9,v10,rfl⟩,kvs0,os0,z⟩
   obtain⟨b,hb,rfl⟩:=cg hi
   have hil:i<S.pts.length:=by rw[<-hal];exact(gsi hb).1
   have s2:al H' (upd H' T' (.tup [.int (i:Nat),.ref b])):=aL hT
   refine⟨T',_,rfl,SqT.of ag,rfl,_,_,rfl,_,_,rfl,rfl,?_⟩
   have z1:=z.same s2
   generalize upd H' T' (.tup [.int (i:Nat),.ref b])=H4 at z1
   rw[<-yp]at z1
   refine⟨_,rfl,b,rfl,⟨_,SqL.of ((rwR.same z1.sm).2 i b hb)⟩,eg (K:=K) (a:=b) (xs:=iV (nI (WL.aj S i))) (λj σ H'=>(∃v7 v8 v9 v10,σ=[some (.ref a),some (.ref p),some (.ref D),some (.ref W),some (.ref O),some (.int (i:Int)),some (.ref b),v7,v8,v9,v10,none])/\∃kvs os,OSt H2 H' W O S (dTo S i j) kvs os)
    ⟨⟨_,_,_,_,rfl⟩,_,_,z1⟩ (λj σ H' _ h=>by obtain⟨_,kvs,os,h⟩:=h;exact SqL.of ((rwR.same h.sm).2 i b hb)) ?_ ?_⟩
   ·rintro j y σ H5 hj ⟨⟨w7,w8,w9,w10,rfl⟩,kvs,os,z5⟩
    obtain⟨x,hjx,rfl⟩:=lm hj
    have hJ:(WL.ab S).J i x:=(WL.cw kk).mem.1 (Gg hjx)
    have hDJ:=CS kk (i:=i) (j:=j)
    have hwl:=mM kk hDJ
    have hol:=uc kk hDJ
    have e1:WL.bF S (dTo S i (j+1))=WL.jX S (WL.bF S (dTo S i j)) (i,x):=by rw[ww hjx,WL.fS]
    refine⟨_,rfl,_,rfl,(by show 2<=Fk;decide),λq hq=>?_⟩
    have s6:al H5 (upd H5 q (.tup [.int (i:Int),.int (x:Int)])):=aL hq
    have z6:=z5.same s6
    refine⟨_,rfl,W,_,rfl,mI.t (k:=lk (i,x)) z6.w ag,_,rfl,?_⟩
    generalize upd H5 q (.tup [.int (i:Int),.int (x:Int)])=H6 at z6
    rw[z6.ld]
    refine aQ (λc=>?_) (λc=>?_)
    ·have c:(i,x)∉(WL.bF S (dTo S i j)).1:=λz=>by
      rw[dqt z]at c
      exact absurd c (by decide)
     have e2:WL.bF S (dTo S i (j+1))=((WL.bF S (dTo S i j)).1++WL.orb S (i,x),if 0<Gla.twiceArea S (WL.rnd S (i,x)) then (WL.bF S (dTo S i j)).2++[WL.rnd S (i,x)] else (WL.bF S (dTo S i j)).2):=by
      rw[e1]
      unfold WL.jX
      rw[Fl c]
     refine⟨_,rfl,_,rfl,_,rfl,D,as,S,i,x,rfl,rwR.same z6.sm,hal,np,kp,hJ,λH7 c7 s7 hc6 hc7=>?_⟩
     have z7:=z6.same s7
     have ncO:c7≠O:=(aO z6.o.1 hc6).symm
     have ncW:c7≠W:=(aO z6.w hc6).symm
     have hlen:=pM kp (e:=(i,x)) hJ
     have hcn:=tE kp (e:=(i,x)) hJ
     have hprs:=WL.ig kk (e:=(i,x)) hJ
     have hol2:(WL.orb S (i,x)).length=(WL.rnd S (i,x)).length:=WL.cC _ _ _ _
     obtain⟨tl,htl⟩:=WL.nR kk (e:=(i,x)) hJ
     have hne:WL.rnd S (i,x)≠[]:=by rw[htl];simp
     clear htl
     generalize hcs:WL.rnd S (i,x)=cs at hc7 hlen hcn hprs hol2 hne e2
     have zsm:=z7.sm
     have zw:=z7.w
     have zld:=z7.ld
     have zln:=z7.ln
     have zo:=z7.o
     generalize WL.bF S (dTo S i j)=st at c e2 hwl hol zld zln zo
     obtain⟨st1,st2⟩:=st
     have hwl:st1.length<=2*S.lines.length:=hwl
     have hol:st2.length<=st1.length:=hol
     have zld:LD kvs st1:=zld
     have zln:kvs.length<=st1.length:=zln
     have zo:dI H7 O os st2:=zo
     refine⟨_,rfl,c7,_,rfl,SqL.of hc7,dc (K:=K) (a:=c7) (xs:=iV (nI cs)) (λt σ H'=>(∃v9 v10,σ=[some (.ref a),some (.ref p),some (.ref D),some (.ref W),some (.ref O),some (.int (i:Int)),some (.ref b),some (.int (x:Int)),some (.ref c7),v9,v10,none])/\al H2 H'/\H' c7=some (.lst (iV (nI cs)))/\(∃kv,H' W=some (.dT kv)/\LD kv (st1++sO cs t)/\kv.length<=st1.length+t)/\dI H' O os st2)
      ⟨⟨_,_,rfl⟩,zsm,hc7,⟨kvs,zw,zld.same_mem (λy=>by rw[show st1++sO cs 0=st1 from GT _]),zln⟩,zo⟩ (λt σ H' _ h=>SqL.of h.2.2.1) ?_ ?_⟩
     ·rintro t y T2 σ H8 ht hT2 ⟨⟨u9,u10,rfl⟩,sm8,hc8,⟨kv,hw8,ld8,ln8⟩,o8⟩
      obtain⟨cx,htx,rfl⟩:=lm ht
      have htl:t<cs.length:=(gsi htx).1
      have ecx:cs.getD t 0=cx:=by rw[FG,htx];rfl
      refine⟨T2,_,rfl,SqT.of ag,rfl,_,_,rfl,_,_,rfl,rfl,?_⟩
      have s9:al H8 (upd H8 T2 (.tup [.int (t:Nat),.int (cx:Int)])):=aL hT2
      generalize upd H8 T2 (.tup [.int (t:Nat),.int (cx:Int)])=H9 at s9
      refine⟨_,rfl,_,rfl,_,rfl,_,_,rfl,rfl,c7,_,_,_,rfl,rfl,SqL.of (s9 _ _ hc8),yS htl,_,rfl,(by show 2<=Fk;decide),λq2 hq2=>?_⟩
      have s10:al H9 (upd H9 q2 (.tup [.int (bef cs t:Int),.int (cx:Int)])):=aL hq2
      have s8:=s9.trans s10
      refine⟨W,_,rfl,pT.t (k:=lk (bef cs t,cx)) (s8 _ _ hw8) ag (bn (by omega)),?_⟩
      generalize upd H9 q2 (.tup [.int (bef cs t:Int),.int (cx:Int)])=H10 at s10 s8
      refine⟨⟨_,_,rfl⟩,aW (sm8.trans s8) hW,by rw[aq ncW];exact s8 _ _ hc8,⟨_,ag,?_,?_⟩,(o8.same s8).updW (s8 _ _ hw8)⟩
      ·rw[vb,ecx,<-List.append_assoc]
       exact ld8.put _ _
      ·have:=gj kv (lk (bef cs t,cx)) (.bl true)
       omega
     ·rintro σ H8 ⟨⟨u9,u10,rfl⟩,sm8,hc8,⟨kv,hw8,ld8,ln8⟩,o8⟩
      rw[bQ]at ld8 ln8
      have ld9:LD kv (st1++WL.orb S (i,x)):=ld8.same_mem λy=>by
       rw[FR,FR,wQ,hprs]
      have hsm:al H H8:=sH2.trans sm8
      obtain⟨init,lz,einit⟩:=j8 (show cs.map S.pt≠[] by simpa using hne)
      refine⟨_,rfl,_,rfl,p,c7,ps,S,cs,rfl,(o.same hsm).ptsL sb,hc8,hcn,by omega,λH9 r as9 s9 _ hsh=>?_⟩
      refine⟨r,_,init,lz,rfl,hsh.pl ((o.same (hsm.trans s9)).ptsL sb),einit,?_⟩
      rw[zG S einit]
      refine⟨_,_,rfl,rfl,_,rfl,aQ (λc9=>?_) (λc9=>?_)⟩
      ·have c9:=Ff c9
       have o9:=o8.same s9
       refine⟨_,rfl,.inl ⟨rfl,_,SqL.of o9.1⟩,_,rfl,O,_,_,rfl,rfl,o9.1,?_,?_⟩
       ·rw[lmp,o9.2.1]
        exact bn (by have:st2.length<=st1.length:=hol;have:st1.length<=2*S.lines.length:=hwl;omega)
       ·refine⟨⟨_,_,_,_,rfl⟩,kv,os++[c7],aW (sm8.trans s9) hO2,?_,?_,?_,?_⟩
        ·rw[aq nWO]
         exact s9 _ _ hw8
        ·rw[e2]
         exact ld9
        ·rw[e2]
         show kv.length<=(st1++WL.orb S (i,x)).length
         rw[Fm,hol2]
         exact ln8
        ·rw[e2]
         show dI _ O (os++[c7]) (if 0<Gla.twiceArea S cs then st2++[cs] else st2)
         rw[Fs c9]
         exact o9.push (s9 _ _ hc8) ncO
      ·have c9:=aF c9
       refine⟨⟨_,_,_,_,rfl⟩,kv,os,sm8.trans s9,s9 _ _ hw8,?_,?_,?_⟩
       ·rw[e2]
        exact ld9
       ·rw[e2]
        show kv.length<=(st1++WL.orb S (i,x)).length
        rw[Fm,hol2]
        exact ln8
       ·rw[e2]
        show dI _ O os (if 0<Gla.twiceArea S cs then st2++[cs] else st2)
        rw[Fl c9]
        exact o8.same s9
    ·have c:(i,x)∈(WL.bF S (dTo S i j)).1:=bcn λz=>c (by rw[dqf z];rfl)
     have e2:WL.bF S (dTo S i (j+1))=WL.bF S (dTo S i j):=by
      rw[e1]
      unfold WL.jX
      rw[Fs c]
     exact⟨⟨_,_,_,_,rfl⟩,kvs,os,z6.sm,z6.w,by rw[e2];exact z6.ld,by rw[e2];exact z6.ln,by rw[e2];exact z6.o⟩
   ·rintro σ H5 ⟨⟨w7,w8,w9,w10,rfl⟩,kvs,os,z5⟩
    rw[bQ,xH]at z5
    exact⟨⟨_,_,_,_,_,_,rfl⟩,kvs,os,z5⟩
  ·rintro σ H' ⟨⟨v5,v6,v7,v8,v9,v10,rfl⟩,kvs,os,z⟩
   rw[lmp,hal]at z
   exact⟨_,rfl,k H' O os (sH2.trans z.sm) z.o⟩
def vh (f d o:V):List (Str×V):=eT "outlines" o (eT "drawing" d (eT "fault" f []))
theorem A4 {f d o:V}:(vh f d o).lookup ("fault" : Str)=some f:=by
 unfold vh
 rw[aG,Fl (by decide +kernel),aG,Fl (by decide +kernel),aG,Fs rfl]
theorem EB {f d o:V}:(vh f d o).lookup ("drawing" : Str)=some d:=by
 unfold vh
 rw[aG,Fl (by decide +kernel),aG,Fs rfl]
structure VCl (K:GC)(mg:Str->Option Value)(C:Fi):Prop where
 cl:Cls K C
 nF:dX K C "fault"
 nD:dX K C "drawing"
 nO:dX K C "outlines"
 mgC:mg "Verdict"=some (.ref C)
def xZ (CV:Fi)(H:Hp)(v:Fi)(fo:Option (Int×Int))(dv ov:V):Prop:=∃dx fv,H v=some (.ins CV dx (vh fv dv ov))/\ku fo fv H
theorem ku.same {o:Option (Int×Int)}{v:V}{H H':Hp}(h:ku o v H)(s:al H H'):ku o v H':=by
 cases o with
 |none=>exact h
 |some x =>
  obtain⟨q,e,h⟩:=h
  exact⟨q,e,s _ _ h⟩
theorem zI {d:Fi}{o:Obj}{kvs:List (L2.Key×V)}{g:TG}{tt:TT}{te:TE}{vs:List Nat}{σ:L2.St}{H1:Hp}{D:Fi}{Qd:Hp->Prop}(Pv:Nat->Hp->Prop)(h0:Pv 0 (upd H1 D (.lst [])))(hl:∀i H,i<=kvs.length->Pv i H->H d=some (.frz o (.dK kvs)))
  (hs:∀i k v H,kvs[i]? = some (k,v)->Pv i H->g (kV k) (bV σ vs) H λσ2 H2=>bV σ2 vs=bV σ vs/\tt σ2 H2 λb H3 =>
   if b=true then te σ2 H3 λy H4=>∃acc,H4 D=some (.lst acc)/\acc.length<Fk/\Pv (i+1) (upd H4 D (.lst (acc++[y]))) else Pv (i+1) H3) (hd:∀H,Pv kvs.length H->Qd H) :
  ∃W:Nat->Nat->Hp->Prop,(∃m,W 0 m (upd H1 D (.lst [])))/\∀i m H,W i m H ->
   ((Itk d o kvs).stop i H/\Qd H)\/((Itk d o kvs).go i H/\∃Nx:Hp->Prop,(∀H',Nx H'->∃m',m'<m/\W (i+1) m' H')/\∀x H',(Itk d o kvs).yld i H x H'->g x (bV σ vs) H' λσ2 H2=>bV σ2 vs=bV σ vs/\tt σ2 H2 λb H3 =>
    if b=true then te σ2 H3 λy H4=>∃acc,H4 D=some (.lst acc)/\acc.length<Fk/\Nx (upd H4 D (.lst (acc++[y]))) else Nx H3):=by
 refine⟨λi m H=>m=kvs.length-i/\i<=kvs.length/\Pv i H,⟨kvs.length,by simp,Gw _,h0⟩,?_⟩
 rintro i m H ⟨rfl,hi,p⟩
 have q:=hl i H hi p
 by_cases hlt:i<kvs.length
 ·refine .inr ⟨⟨q,hlt⟩,Pv (i+1),λH' p'=>⟨kvs.length-(i+1),by omega,rfl,hlt,p'⟩,λx H' y=>?_⟩
  obtain⟨e,k,v,y,rfl⟩:=y
  subst e
  exact hs i k v _ y p
 ·have e:i=kvs.length:=by omega
  subst e
  exact .inl ⟨⟨q,nlr _⟩,hd H p⟩
def kd (l:List Nat):List (L2.Key×V):=l.map λ(h:Nat)=>((Sum.inl (h:Int):L2.Key),V.bl true)
theorem zU (l:List Nat)(h:Nat):(fH (kd l) (Sum.inl (h:Int))).isSome=decide (h∈l):=by
 rw[<-gv,Ge,Fq,HH]
 constructor
 ·rintro⟨x,hx,e⟩
  unfold kd at hx
  rw[Gc]at hx
  obtain⟨y,hy,rfl⟩:=hx
  have e:=Sum.inl.inj (Ff e)
  have:y=h:=by omega
  rw[<-this]
  exact hy
 ·intro hh
  refine⟨(Sum.inl (h:Int),.bl true),?_,dqt rfl⟩
  unfold kd
  exact Gc.2 ⟨h,hh,rfl⟩
theorem Bb {l:List Nat}{h:Nat}(hh:h∉l):iR (kd l) (Sum.inl (h:Int)) (.bl true)=kd (l++[h]):=by
 unfold iR
 rw[gv,zU,dqf hh,Fl (by decide)]
 unfold kd
 rw[FP]
 rfl
theorem pN (l:List Nat):(kd l).length=l.length:=by unfold kd;rw[lmp]
def AB (C:Fi):Sp:=λvs H Q _=>∃(x dx:Fi) (f d o:V),vs=[.ref x,f,d,o]/\H x=some (.ins C dx []) /\
 ∀H':Hp,H' x=some (.ins C dx (vh f d o))->(∀b u,H b=some u->b≠x->H' b=some u)->Q .non H'
theorem Ew:ap ["self","fault","drawing","outlines"] ["self","fault","drawing","outlines"] (ah jk):=fsk
theorem At (F:rO K CV "Verdict.__init__" jk ["self","fault","drawing","outlines"]) (T:VCl K mg CV):Ci P w K mg base 1 CV ["self","fault","drawing","outlines"] (AB CV):=by
 refine F.ci Ew (λvs H Q E h=>?_) (λ_ _ A _ s H vs Q E hr h=>?_)
 ·obtain⟨x,dx,f,d,o,rfl,_⟩:=h
  rfl
 ·obtain⟨x,dx,f,d,o,rfl,hx,k⟩:=h
  refine⟨_,ad (iT (pv 0) (pv 1) rfl) (ad (iT (pv 0) (pv 2) rfl) (ae (iT (pv 0) (pv 3) rfl))),?_⟩
  refine⟨_,rfl,_,rfl,x,CV,dx,_,rfl,hx,T.cl,T.nF,(by show 0<1000;decide),?_⟩
  refine⟨_,rfl,_,rfl,x,CV,dx,_,rfl,ag,T.cl,T.nD,(Gn (cQ (n:=0) (nlr 0)) (by decide)),?_⟩
  refine⟨_,rfl,_,rfl,x,CV,dx,_,rfl,ag,T.cl,T.nO,(Gn (cQ (cQ (n:=0) (nlr 0))) (by decide)),?_⟩
  refine k _ ag λb u e hb=>?_
  rw[aq hb,aq hb,aq hb]
  exact e
def l8 (H:Hp)(D:Fi)(bs ps:List Fi)(L:List (List Nat)):Prop:=H D=some (.lst (bs.map V.ref))/\bs.length=L.length/\∀(j:Nat) (b:Fi) (l:List Nat),bs[j]? = some b->L[j]? = some l->b≠D/\∃as,lK H b as ps l
theorem lK.same {H H':Hp}{r:Fi}{as ps:List Fi}{cs:List Nat}(h:lK H r as ps cs)(s:al H H'):lK H' r as ps cs:=⟨s _ _ h.1,h.2.1,h.2.2⟩
theorem l8.same {H H':Hp}{D:Fi}{bs ps:List Fi}{L:List (List Nat)}(h:l8 H D bs ps L)(s:al H H'):l8 H' D bs ps L:=⟨s _ _ h.1,h.2.1,λj b l e1 e2=>⟨(h.2.2 j b l e1 e2).1,by obtain⟨as,q⟩:=(h.2.2 j b l e1 e2).2;exact⟨as,q.same s⟩⟩⟩
def BS (K:GC):Sp:=λvs H Q _=>∃(ma s p:Fi) (bs ps:List Fi) (L:List (List Nat)) (S:Gla.Plan) (z:Pt) (h:Nat) (hh:h<L.length),vs=[.ref ma,.ref s]/\cD K H ma z/\me K H p ps S/\l8 H s bs ps L/\(∀l∈L,l≠[])/\IV S L[h] z=true/\(∀j (hj:j<L.length),j<h->IV S L[j] z=false)/\∀H':Hp,al H H'->Q (.int (h:Int)) H'
theorem Ap:ap ["mark","shapes","k","shape"] ["mark","shapes"] (ah gd):=fsk
theorem zm (F:Has K mg "holder_of" gd ["mark","shapes"]) (ge:mg "enumerate"=none) (C1:Cb P w K mg base 3 "is_inside" ["corners","r"] (Cz K)):Cb P w K mg base 4 "holder_of" ["mark","shapes"] (BS K):=by
 refine F.cb Ap (λvs H Q E h=>?_) (λ_ _ A _ s H vs Q E hr h=>?_)
 ·obtain⟨ma,s,p,bs,ps,L,S,z,h,hh,rfl,_⟩:=h
  rfl
 ·obtain⟨ma,sa,p,bs,ps,L,S,z,h,hh,rfl,hz,hp,hs,hne,hin,hno,k⟩:=h
  refine⟨_,ad (bw FC rfl (dR rfl ge (aa (pv 1) ac)) (cO (n:=2) rfl (aK (au (i:=2) Ap.nd rfl (.inl rfl)) (aK (au (i:=3) Ap.nd rfl (.inl rfl)) bR)))
    (ae (aX (cA (aE C1 hr (aa (pv 3) (aa (pv 0) ac)))) (ae (ak (pv 2))) aI)))
   (ae (ak a9)),?_⟩
  refine⟨_,rfl,sa,_,rfl,SqL.of hs.1,dc (K:=K) (a:=sa) (xs:=bs.map V.ref) (λi σ H'=>al H H'/\i<=h/\∃v1 v2,σ=[some (.ref ma),some (.ref sa),v1,v2])
   ⟨al.refl H,Gw _,none,none,rfl⟩ (λi σ H' _ q=>SqL.of (q.1 _ _ hs.1)) ?_ ?_⟩
  ·rintro i y T' σ H' hi hT ⟨hS,hih,v1,v2,rfl⟩
   obtain⟨b,hb,rfl⟩:=cg hi
   have hil:i<L.length:=by rw[<-hs.2.1];exact(gsi hb).1
   have s2:al H (upd H' T' (.tup [.int (i:Nat),.ref b])):=aY hS hT
   refine⟨T',_,rfl,SqT.of ag,rfl,_,_,rfl,_,_,rfl,rfl,?_⟩
   generalize upd H' T' (.tup [.int (i:Nat),.ref b])=H2 at s2
   obtain⟨_,as,hsh⟩:=(hs.same s2).2.2 i b L[i] hb (gge hil)
   have hl0:=hne _ (FS hil)
   obtain⟨init,lz,einit⟩:=j8 (show L[i].map S.pt≠[] by simpa using hl0)
   refine⟨_,rfl,_,rfl,b,ma,_,init,lz,z,rfl,hsh.pl (hp.same s2),einit,hz.same s2,?_⟩
   rw[DI S z einit]
   refine⟨_,rfl,aQ (λc=>?_) (λc=>?_)⟩
   ·have e:i=h:=by
     refine bcn λq=>?_
     rw[hno i hil (by omega)]at c
     exact absurd c (by decide)
    subst e
    exact⟨_,rfl,k H2 s2⟩
   ·refine⟨s2,?_,_,_,rfl⟩
    have e:i≠h:=λq=>by
     subst q
     exact c hin
    omega
  ·rintro σ H' ⟨hS,hih,_⟩
   rw[lmp,hs.2.1]at hih
   omega
def o12 (S:Gla.Plan):Option (Int×Int):=jp 12 (mG S) (Gla.twice S S.outlines 0 [] S.marks)
def o13 (S:Gla.Plan):Option (Int×Int):=if S.marks.length<S.outlines.length then some (13,mG S S.marks.length) else none
def eo (S:Gla.Plan):Option (Int×Int):=k8 (o12 S) (o13 S)
def ul (H:Hp)(ov:V)(S:Gla.Plan):Prop:=∃(ol:Fi) (osl:List Fi),ov=.ref ol/\H ol=some (.lst (osl.map V.ref))/\osl.length=S.marks.length/\∀(i:Nat) (b:Fi) (m:Jk),osl[i]? = some b->S.marks[i]? = some m->∃l,S.among S.outlines m.at_=some l/\H b=some (.lst (iV (nI l)))
structure HF (S:Gla.Plan)(hf:Nat->Nat):Prop where
 lt:∀i,i<S.marks.length->hf i<(WL.dD S).length
 am:∀i (hi:i<S.marks.length),S.among S.outlines S.marks[i].at_=(WL.dD S)[hf i]?
 ins:∀i (hi:i<S.marks.length) (hh:hf i<(WL.dD S).length),IV S (WL.dD S)[hf i] S.marks[i].at_=true
 no:∀i (hi:i<S.marks.length) (j:Nat) (hj:j<(WL.dD S).length),j<hf i->IV S (WL.dD S)[j] S.marks[i].at_=false
theorem Co {S:Gla.Plan}(k:WL.dh S)(hm:∀m∈S.marks,Gla.clear S m.at_=true):∃hf,HF S hf:=by
 have ex:∀i,∃h,∀(hi:i<S.marks.length),∃(hh:h<(WL.dD S).length),S.among S.outlines S.marks[i].at_=some (WL.dD S)[h]/\IV S (WL.dD S)[h] S.marks[i].at_=true/\∀j (hj:j<(WL.dD S).length),IV S (WL.dD S)[j] S.marks[i].at_=true->j=h:=λi=>by
  by_cases hi:i<S.marks.length
  ·obtain⟨h,hh,h1,h2,h3⟩:=WL.Bm k (hm _ (FS hi))
   exact⟨h,λ_=>⟨hh,h1,h2,h3⟩⟩
  ·exact⟨0,λh=>absurd h hi⟩
 refine⟨λi=>Classical.choose (ex i),λi hi=>?_,λi hi=>?_,λi hi hh=>?_,λi hi j hj hlt=>?_⟩
 ·obtain⟨hh,_⟩:=IW (ex i) hi
  exact hh
 ·obtain⟨hh,h1,_⟩:=IW (ex i) hi
  rw[h1,gge hh]
 ·obtain⟨hh,_,h2,_⟩:=IW (ex i) hi
  exact h2
 ·obtain⟨hh,_,_,h3⟩:=IW (ex i) hi
  refine cB λz=>?_
  have:=h3 j hj z
  omega
theorem HF.eq_iff {S:Gla.Plan}{hf:Nat->Nat}(k:WL.Kept S)(h:HF S hf){i j:Nat}(hi:i<S.marks.length)(hj:j<S.marks.length):S.among S.outlines S.marks[i].at_=S.among S.outlines S.marks[j].at_↔hf i=hf j:=by
 rw[h.am i hi,h.am j hj]
 constructor
 ·intro e
  have l1:=h.lt i hi
  have l2:=h.lt j hj
  rw[gge l1,gge l2]at e
  have e:=osi e
  rcases Nat.lt_trichotomy (hf i) (hf j) with c|c|c
  ·exact absurd e (FY.1 (WL.ia k) _ _ l1 l2 c)
  ·exact c
  ·exact absurd e.symm (FY.1 (WL.ia k) _ _ l2 l1 c)
 ·intro e
  rw[e]
def gC (hf:Nat->Nat)(k:Nat):List Nat:=(FJ k).map hf
theorem vQ (hf:Nat->Nat)(k:Nat):gC hf (k+1)=gC hf k++[hf k]:=by
 unfold gC
 rw[IP,FP]
 rfl
theorem j4 (hf:Nat->Nat)(k:Nat):(gC hf k).length=k:=by
 unfold gC
 rw[lmp,GI]
theorem tm {S:Gla.Plan}{hf:Nat->Nat}(k:WL.Kept S)(h:HF S hf){i:Nat}(hi:i<S.marks.length):((((S.marks.take i).map λ(m:Jk)=>S.among S.outlines m.at_).reverse++[]).contains (S.among S.outlines S.marks[i].at_))=decide (hf i∈gC hf i):=by
 rw[GT,Ge,Ik,Fq,List.mem_reverse,Gc]
 unfold gC
 rw[Gc]
 constructor
 ·rintro⟨m,hm,e⟩
  rw[Hs]at hm
  obtain⟨j,hj,rfl⟩:=hm
  exact⟨j,GJ.2 (by omega),(h.eq_iff k (by omega) hi).1 e⟩
 ·rintro⟨j,hj,e⟩
  have hj:=GJ.1 hj
  refine⟨S.marks[j]'(by omega),Hs.2 ⟨j,by omega,rfl⟩,(h.eq_iff k (by omega) hi).2 e⟩
def DU (C CV:Fi):Sp:=λvs H Q _=>∃(a O:Fi) (os:List Fi) (S:Gla.Plan),vs=[.ref a,.ref O]/\bz C H a S/\SB S/\WL.dh S/\(∀m∈S.marks,Gla.clear S m.at_=true)/\dI H O os (WL.dD S)/\∀(H':Hp) (v:Fi) (ov:V),al H H'->xZ CV H' v (eo S) (.ref a) ov->(eo S=none->ul H' ov S)->Q (.ref v) H'
theorem qb:ap ["drawing","outlines","shapes","marked","k","mark","holder","outline"] ["drawing","outlines"] (ah cJ):=fsk
theorem Db (F:Has K mg "judge_marks" cJ ["drawing","outlines"]) (T:DCl K mg C) (TV:VCl K mg CV) (ge:mg "enumerate"=none) (gl:mg "len"=none) (CI:Ci P w K mg base 1 CV ["self","fault","drawing","outlines"] (AB CV)) (CP:Cb P w K mg base 1 "points_at" ["points","corners"] (zl K)) (CH:Cb P w K mg base 4 "holder_of" ["mark","shapes"] (BS K))
  (CM1:Cm P w K mg base 3 C "place_of_mark" ["self","k"] (yx C)) (CE:Cm P w K mg base 4 C "place_of_end" ["self"] (Cn C)):Cb P w K mg base 5 "judge_marks" ["drawing","outlines"] (DU C CV):=by
 refine F.cb qb (λvs H Q E h=>?_) (λ_ _ A _ s H vs Q E hr h=>?_)
 ·obtain⟨a,O,os,S,rfl,_⟩:=h
  rfl
 ·obtain⟨a,O,os,S,rfl,hd,sb,kp,hclear,hO,k⟩:=h
  obtain⟨dx,p,l,m,ps,ls,ms,o⟩:=hd.op (K:=K)
  have hr1:bf 1 _:=hr.mono (by decide)
  have hr2:bf 2 _:=hr.mono (by decide)
  have hr3:bf 3 _:=hr.mono (by decide)
  have hu:=hr.units
  have kk:=kp.toKept
  have np:=sb.np
  have nl:=sb.nl
  have nm:=sb.nm
  obtain⟨hf,hF⟩:=Co kp hclear
  have hol:(WL.dD S).length<=2*S.lines.length:=Gb (uc kk λx hx=>(WL.br kk).1 hx) (mM kk λx hx=>(WL.br kk).1 hx)
  refine⟨_,ad (cp (i:=2) (own:=[("outline",7)]) (te:=lI (zl K) [] E0 (bD (wv K (a5 0) "points") (bD (a5 7) fI))) rfl qb.nd rfl rfl (dC rfl rfl rfl (by decide +kernel)) (bL (pv 1)) (bJ (by show iu ["drawing","outlines","shapes","marked","k","mark","holder","outline"] (ah cJ) _ _=true;decide +kernel))
    (λ_ _ _ _ _=>au (i:=7) qb.nd rfl (.inl rfl) (.inr rfl)) (λ_ _ _ _ _=>eO) (λ_ _ _ _ _=>aE CP hr1 (aa (aP (pv 0) rfl) (aa (pv 7) ac))))
   (ad (aB (i:=3) qb.nd rfl (.inl rfl) xI)
   (ad (bw FC rfl (dR rfl ge (aa (aP (pv 0) rfl) ac)) (cO (n:=2) rfl (aK (au (i:=4) qb.nd rfl (.inl rfl)) (aK (au (i:=5) qb.nd rfl (.inl rfl)) bR)))
    (ad (aB (i:=6) qb.nd rfl (.inl rfl) (aE CH hr (aa (pv 5) (aa (pv 2) ac))))
    (ad (aX (sD (BO (Gn (HX (by decide) _) hu) (pv 6) (pv 3))) (ae (ak (oq CI hr2 TV.mgC (aa (bv (aa af (aa (gI (pv 0) T.cl CM1 hr3 (aa (pv 4) ac)) ac))) (aa (pv 0) (aa (dL ac) ac)))))) aI)
    (ae (pO (Gn (HX (by decide) _) hu) (pv 3) (pv 6) d9 rfl)))))
   (ad (aX (aJ fT (aU vP (by rfl) gl Gh (aa (pv 3) ac)) (aU aM (by rfl) gl Gh (aa (pv 1) ac)) (aH _)) (ae (ak (oq CI hr2 TV.mgC (aa (bv (aa af (aa (AX (pv 0) T.cl CE hr) ac))) (aa (pv 0) (aa (dL ac) ac)))))) aI)
   (ae (ak (oq CI hr2 TV.mgC (aa a9 (aa (pv 0) (aa (zR (xC (own:=[("holder",6)]) (te:=tOp (uX K) (a5 1) (a5 6)) rfl qb.nd (zp (pv 3)) (bJ (by show iu ["drawing","outlines","shapes","marked","k","mark","holder","outline"] (ah cJ) _ _=true;decide +kernel))
    (λ_ _ _ _ _=>au (i:=6) qb.nd rfl (.inl rfl) (.inr rfl)) (λ_ _ _ _ _=>eO) (λ_ _ _ _ _=>aw aS (pv 1) (pv 6) (λ_ _=>rfl)))) ac))))))))),?_⟩
  refine⟨_,rfl,O,rfl,⟨_,SqL.of hO.1⟩,λD hD=>?_⟩
  refine ie (K:=K) (a:=O) (xs:=os.map V.ref) (λi H'=>∃bs,al H H'/\H' D=some (.lst (bs.map V.ref))/\bs.length=i/\∀(j:Nat) (b:Fi) (l:List Nat),bs[j]? = some b->(WL.dD S)[j]? = some l->b≠D/\∃as,lK H' b as ps l)
   ⟨[],aL hD,ag,rfl,λj b l e=>by simp at e⟩ (λi H' _ h=>by obtain⟨bs,h1,_⟩:=h;exact SqL.of (h1 _ _ hO.1)) ?_ ?_
  ·rintro i y H' hi ⟨bs,hS,hDl,hbl,hat⟩
   obtain⟨c,hc,rfl⟩:=cg hi
   have hil:i<(WL.dD S).length:=by rw[<-hO.2.1];exact(gsi hc).1
   obtain⟨e,hJ,_,hle⟩:=WL.nE kp (FS hil)
   have o2:=o.same hS
   refine⟨rfl,oe (eI ?_)⟩
   refine⟨_,rfl,a,C,dx,_,_,rfl,o2.at_,T.cl,T.nP,iw,_,rfl,p,c,ps,S,(WL.dD S)[i],rfl,o2.ptsL sb,hS _ _ (hO.2.2 i c _ hc (gge hil)).2,?_,?_,λH2 r as s2 hr0 hsh=>?_⟩
   ·rw[hle]
    exact tE kp hJ
   ·rw[hle]
    have:=pM kp hJ
    omega
   have nr:r≠D:=λz=>by rw[z,hDl]at hr0;cases hr0
   refine⟨_,s2 _ _ hDl,by rw[lmp];exact bn (by omega),bs++[r],aW (hS.trans s2) hD,by rw[ag,FP];rfl,by rw[Fm,hbl];rfl,λj b l' e1 e2=>?_⟩
   by_cases cj:j<bs.length
   ·rw[FL cj]at e1
    obtain⟨n1,as',q1,q2⟩:=hat j b l' e1 e2
    exact⟨n1,as',by rw[aq n1];exact s2 _ _ q1,q2⟩
   ·have hj:=(gsi e1).1
    rw[Fm]at hj
    have ej:j=bs.length:=by simp at hj;omega
    subst ej
    rw[FE (nlr _),GX]at e1
    have e1:r=b:=osi e1
    subst e1
    rw[hbl,gge hil]at e2
    have e2:=osi e2
    subst e2
    exact⟨nr,as,by rw[aq nr];exact hsh.1,hsh.2⟩
  rintro H1 ⟨bs,s1,hDl,hbl,hat⟩
  rw[lmp,hO.2.1]at hbl
  have shp:l8 H1 D bs ps (WL.dD S):=⟨hDl,hbl,hat⟩
  have hne:∀l∈WL.dD S,l≠[]:=λl hl=>by
   obtain⟨e,hJ,_,rfl⟩:=WL.nE kp hl
   obtain⟨t,ht⟩:=WL.nR kk hJ
   rw[ht]
   simp
  clear hat hDl hbl
  refine λW hW=>?_
  have s2:al H1 (upd H1 W (.dK [])):=aL hW
  have hW2:(upd H1 W (.dK (kd (gC hf 0)))) W=some (.dK (kd (gC hf 0))):=ag
  have o2:=o.same (s1.trans s2)
  refine⟨_,rfl,a,C,dx,_,_,rfl,o2.at_,T.cl,T.nM,xF,m,_,rfl,SqL.of o2.ml,dc (K:=K) (a:=m) (xs:=ms.map V.ref) (λi σ H'=>al H1 H'/\(∃v4 v5 v6,σ=[some (.ref a),some (.ref O),some (.ref D),some (.ref W),v4,v5,v6,none])/\H' W=some (.dK (kd (gC hf i)))/\∀j,j<i->hf j∉gC hf j)
   ⟨s2,⟨none,none,none,rfl⟩,hW2,λj h=>absurd h (Gy _)⟩ (λi σ H' _ h=>SqL.of (h.1 _ _ (s1 _ _ o.ml))) ?_ ?_⟩
  ·rintro i y T' σ H' hi hT ⟨hS,⟨v4,v5,v6,rfl⟩,hWi,hok⟩
   obtain⟨b,hb,rfl⟩:=cg hi
   have hil:i<S.marks.length:=by rw[<-o.mn];exact(gsi hb).1
   have s3:al H' (upd H' T' (.tup [.int (i:Nat),.ref b])):=aL hT
   refine⟨T',_,rfl,SqT.of ag,rfl,_,_,rfl,_,_,rfl,rfl,?_⟩
   generalize upd H' T' (.tup [.int (i:Nat),.ref b])=H2 at s3
   have s13:=hS.trans s3
   have o3:=o.same (s1.trans s13)
   refine⟨_,rfl,_,rfl,b,D,p,bs,ps,WL.dD S,S,S.marks[i].at_,hf i,hF.lt i hil,rfl,o3.mkAt sb hb (gge hil),o3.ptsL sb,shp.same s13,hne,hF.ins i hil _,λj hj hlt=>hF.no i hil j hj hlt,λH3 s4=>?_⟩
   have hW3:=s4 _ _ (s3 _ _ hWi)
   have s14:=s13.trans s4
   have o4:=o.same (s1.trans s14)
   refine⟨_,rfl,_,rfl,W,_,rfl,mI.k (k:=Sum.inl (hf i:Int)) hW3,_,rfl,?_⟩
   rw[zU]
   refine aQ (λc=>?_) (λc=>?_)
   ·have c:=Ff c
    refine⟨_,rfl,a,dx,_,rfl,o4.at_,bZ (.inr (.inl rfl)),_,rfl,a,S,_,rfl,o4.draw,(by show 2<=Fk;decide),λq hq=>?_⟩
    refine⟨_,rfl,(by show 0<=Fk;decide),λq2 hq2=>?_⟩
    refine λx xd nx ndx nex=>?_
    refine⟨x,xd,_,_,_,rfl,ag,λH8 h8 kp8=>⟨rfl,?_⟩⟩
    have s8:al _ H8:=al.made nx ndx kp8
    have e12:eo S=some (12,mG S i):=by
     unfold eo o12
     rw[WL.ny (k:=i) hil (by rw[tm kk hF hil];exact dqt c) (λj hj=>by rw[tm kk hF (by omega)];exact dqf (hok j hj)),Hf]
     rfl
    refine k H8 x (.ref q2) ((s1.trans s14).trans ((aL hq).trans ((aL hq2).trans s8))) ⟨xd,_,h8,?_⟩ (λz=>by rw[e12]at z;cases z)
    rw[e12]
    exact⟨q,rfl,s8 _ _ ((aL hq2) _ _ ag)⟩
   ·have c:hf i∉gC hf i:=λz=>c (dqt z)
    refine⟨_,rfl,_,rfl,W,_,rfl,pT.k (k:=Sum.inl (hf i:Int)) hW3 (by rw[pN,j4];exact bn (by omega)),?_⟩
    refine⟨aW s14 hW,⟨_,_,_,rfl⟩,by rw[ag,Bb c,vQ],λj h=>?_⟩
    by_cases cc:j<i
    ·exact hok j cc
    ·have:j=i:=by omega
     subst this
     exact c
  rintro σ H2 ⟨hS,⟨v4,v5,v6,rfl⟩,hWn,hok⟩
  rw[lmp,o.mn]at hWn hok
  have sH:=s1.trans hS
  have o3:=o.same sH
  have hO2:=hO.same sH
  have e12:o12 S=none:=by
   unfold o12
   rw[WL.lE λj hj=>by rw[tm kk hF hj];exact dqf (hok j hj)]
   rfl
  have eM:eo S=o13 S:=by unfold eo;rw[e12];rfl
  refine⟨_,rfl,W,_,rfl,hWn,_,rfl,O,_,rfl,.inl (SqL.of hO2.1),_,_,rfl,rfl,_,rfl,?_⟩
  rw[pN,j4,lmp,hO.2.1,WL.qN kp]
  refine aQ (λc=>?_) (λc=>?_)
  ·have c:=Ff c
   refine⟨_,rfl,a,dx,_,rfl,o3.at_,bZ (.inr (.inr rfl)),a,S,rfl,o3.draw,(by show 2<=Fk;decide),λq hq=>?_⟩
   refine⟨_,rfl,(by show 0<=Fk;decide),λq2 hq2=>?_⟩
   refine λx xd nx ndx nex=>?_
   refine⟨x,xd,_,_,_,rfl,ag,λH8 h8 kp8=>⟨rfl,?_⟩⟩
   have s8:al _ H8:=al.made nx ndx kp8
   have e13:eo S=some (13,mG S S.marks.length):=by
    rw[eM]
    unfold o13
    rw[Fs (by omega)]
   refine k H8 x (.ref q2) (sH.trans ((aL hq).trans ((aL hq2).trans s8))) ⟨xd,_,h8,?_⟩ (λz=>by rw[e13]at z;cases z)
   rw[e13]
   exact⟨q,rfl,s8 _ _ ((aL hq2) _ _ ag)⟩
  ·have c:=aF c
   have e13:eo S=none:=by
    rw[eM]
    unfold o13
    rw[Fl (by omega)]
   refine⟨_,rfl,W,_,hWn,trivial,λod=>?_⟩
   have hWH:H W=none:=s1.free hW
   have sF:al H (upd H2 W (.frz od (.dK (kd (gC hf S.marks.length))))):=aW sH hWH
   refine⟨_,rfl,W,od,rfl,.inl ⟨_,ag,λD2 hD2=>?_⟩⟩
   have hF0:(upd H2 W (.frz od (.dK (kd (gC hf S.marks.length))))) W=some (.frz od (.dK (kd (gC hf S.marks.length)))):=ag
   generalize upd H2 W (.frz od (.dK (kd (gC hf S.marks.length))))=H3 at sF hF0 hD2
   have nDW:D2≠W:=(aO hF0 hD2).symm
   refine zI (λi H'=>∃bs2,al H3 H'/\H' D2=some (.lst (bs2.map V.ref))/\bs2.length=i/\∀(j:Nat) (b:Fi),bs2[j]? = some b->os[hf j]? = some b)
    ⟨[],aL hD2,ag,rfl,λj b e=>by simp at e⟩ (λi H' _ h=>by obtain⟨bs2,h1,_⟩:=h;exact h1 _ _ hF0) ?_ ?_
   ·rintro i kx vx H' hi ⟨bs2,hS2,hDl2,hbl2,hat2⟩
    have hil:i<S.marks.length:=by
     have:=(gsi hi).1
     rw[pN,j4]at this
     exact this
    unfold kd gC at hi
    rw[FA,FA,HR hil]at hi
    have hi:=osi hi
    obtain⟨rfl,rfl⟩:=Hm hi
    obtain⟨b,hb⟩:∃b,os[hf i]? = some b:=⟨os[hf i]'(by rw[hO.2.1];exact hF.lt i hil),gge _⟩
    refine⟨rfl,oe (eI ?_)⟩
    refine⟨_,rfl,_,rfl,O,_,_,_,rfl,rfl,SqL.of (hS2 _ _ (sF _ _ hO.1)),aA (j:=hf i) rfl (aN hb),_,hDl2,by rw[lmp];exact bn (by omega),bs2++[b],aW hS2 hD2,by rw[ag,FP];rfl,by rw[Fm,hbl2];rfl,λj q e=>?_⟩
    by_cases cj:j<bs2.length
    ·rw[FL cj]at e
     exact hat2 j q e
    ·have hj:=(gsi e).1
     rw[Fm]at hj
     have ej:j=bs2.length:=by simp at hj;omega
     subst ej
     rw[FE (nlr _),GX]at e
     have e:b=q:=osi e
     rw[hbl2,<-e]
     exact hb
   ·rintro H4 ⟨bs2,hS2,hDl2,hbl2,hat2⟩
    rw[pN,j4]at hbl2
    refine⟨hS2 _ _ hF0,?_⟩
    have s5:al H (upd H4 W (.dK (kd (gC hf S.marks.length)))):=aW (sF.trans hS2) hWH
    have hD5:(upd H4 W (.dK (kd (gC hf S.marks.length)))) D2=some (.lst (bs2.map V.ref)):=by rw[aq nDW];exact hDl2
    generalize upd H4 W (.dK (kd (gC hf S.marks.length)))=H5 at s5 hD5
    refine λx xd nx ndx nex=>?_
    refine⟨x,xd,_,_,_,rfl,ag,λH8 h8 kp8=>⟨rfl,?_⟩⟩
    have s8:al H5 H8:=al.made nx ndx kp8
    refine k H8 x (.ref D2) (s5.trans s8) ⟨xd,_,h8,by rw[e13];rfl⟩ λ_=>?_
    refine⟨D2,bs2,rfl,s8 _ _ hD5,hbl2,λi b mm e1 e2=>?_⟩
    have hil:i<S.marks.length:=(gsi e2).1
    rw[gge hil]at e2
    have e2:=osi e2
    subst e2
    have hlt:=hF.lt i hil
    refine⟨(WL.dD S)[hf i],by rw[hF.am i hil,gge hlt],?_⟩
    exact s8 _ _ (s5 _ _ (hO.2.2 (hf i) b _ (hat2 i b e1) (gge hlt)).2)
def bA (ns:List Int):Gla.Plan:=IE (toB ns)
def di (ns:List Int):Option (Int×Int):=k8 (dJ ns) (k8 (bM (bA ns)) (eo (bA ns)))
theorem rL {ns:List Int}(h:Byt ns)(e:dJ ns=none):(ns.length:Int)=told ns/\fK (toB ns)=none:=by
 refine⟨?_,?_⟩
 ·unfold dJ at e
  split at e
  ·cases e
  ·split at e
   ·cases e
   ·split at e
    ·cases e
    ·split at e
     ·cases e
     ·rename_i h1
      exact bcn λz=>h1 z
 ·rw[ja h]at e
  cases q:fK (toB ns) with
  |none=>rfl
  |some x=>rw[q]at e;cases e
theorem ug (ns:List Int):(bA ns).pts.length=Gla.num (toB ns) 12 2:=by
 unfold bA IE
 simp only[lmp,GI]
theorem vH (ns:List Int):(bA ns).lines.length=Gla.num (toB ns) 14 2:=by
 unfold bA IE
 simp only[lmp,GI]
theorem vA (ns:List Int):(bA ns).marks.length=Gla.num (toB ns) 16 2:=by
 unfold bA IE
 simp only[lmp,GI]
theorem DK (ns:List Int):SB (bA ns):=by
 have n4:∀p,Gla.num (toB ns) p 4<4294967296:=λp=>qz _ p 4
 have n2:∀p,Gla.num (toB ns) p 2<65536:=λp=>qz _ p 2
 refine⟨λp hp=>?_,λm hm=>?_,?_,?_,?_⟩
 ·unfold bA IE at hp
  simp only[Gc]at hp
  obtain⟨i,_,rfl⟩:=hp
  exact⟨n4 _,n4 _⟩
 ·unfold bA IE at hm
  simp only[Gc]at hm
  obtain⟨i,_,rfl⟩:=hm
  exact⟨n4 _,n4 _⟩
 ·rw[ug]
  have:=n2 12
  omega
 ·rw[vH]
  have:=n2 14
  omega
 ·rw[vA]
  have:=n2 16
  omega
theorem xA {ns:List Int}(e:fK (toB ns)=none):4<=(bA ns).pts.length:=by
 rw[ug]
 refine bcn λz=>?_
 have hw:Gla.within 4 Gla.POINTS (Gla.num (toB ns) 12 2)=false:=by
  unfold Gla.within
  rw[dqf z,Go]
 unfold fK at e
 rw[Fs hw]at e
 repeat' split at e
 all_goals cases e
theorem d7 {a b:Option (Int×Int)}(h:k8 a b=none):a=none/\b=none:=by
 cases a with
 |none=>exact⟨rfl,h⟩
 |some x=>cases h
theorem rJ {S:Gla.Plan}(h4:4<=S.pts.length)(h:bM S=none):WL.dh S/\∀m∈S.marks,Gla.clear S m.at_=true:=by
 unfold bM at h
 obtain⟨e4,h⟩:=d7 h
 obtain⟨e5,h⟩:=d7 h
 obtain⟨e6,h⟩:=d7 h
 obtain⟨e7,h⟩:=d7 h
 obtain⟨e8,h⟩:=d7 h
 obtain⟨e9,h⟩:=d7 h
 obtain⟨e10,e11⟩:=d7 h
 refine⟨⟨⟨d5 e4,d5 e5,d5 e7⟩,h4,?_,d5 e9,d5 e10⟩,λm hm=>?_⟩
 ·unfold o6 at e6
  split at e6
  ·cases e6
  ·rename_i c
   cases q:Jo S with
   |true=>rfl
   |false=>exact absurd q c
 ·exact(WL.b9 (d5 e11)).1 m hm
def spJ (K:GC)(C CV:Fi):Sp:=λvs H Q _=>∃(a:Fi) (ns:List Int),vs=[.ref a]/\LI K H a ns/\Byt ns/\∀(H':Hp) (v:Fi) (dv ov:V),al H H'->xZ CV H' v (di ns) dv ov->(di ns=none->∃d,dv=.ref d/\bz C H' d (bA ns)/\ul H' ov (bA ns))->Q (.ref v) H'
theorem scJ:ap ["cartoon","fault","drawing"] ["cartoon"] (ah lU):=fsk
theorem Er (F:Has K mg "judge" lU ["cartoon"]) (TV:VCl K mg CV) (CI:Ci P w K mg base 1 CV ["self","fault","drawing","outlines"] (AB CV)) (C1:Cb P w K mg base 3 "fault_of_bytes" ["cartoon"] (Ei K)) (C2:Cb P w K mg base 4 "read_drawing" ["cartoon"] (DP K C)) (C3:Cb P w K mg base 6 "fault_of_drawing" ["drawing"] (B6 C)) (C4:Cb P w K mg base 4 "outlines_of" ["drawing"] (zZ C)) (C5:Cb P w K mg base 5 "judge_marks" ["drawing","outlines"] (DU C CV)) :
  Cb P w K mg base 7 "judge" ["cartoon"] (spJ K C CV):=by
 refine F.cb scJ (λvs H Q E h=>?_) (λ_ _ A _ s H vs Q E hr h=>?_)
 ·obtain⟨a,ns,rfl,_⟩:=h
  rfl
 ·obtain⟨a,ns,rfl,hl,hb,k⟩:=h
  have hr2:bf 2 _:=hr.mono (by decide)
  have hr3:bf 3 _:=hr.mono (by decide)
  have hr4:bf 4 _:=hr.mono (by decide)
  have hr5:bf 5 _:=hr.mono (by decide)
  refine⟨_,ad (aB (i:=1) scJ.nd rfl (.inl rfl) (aE C1 hr3 (aa (pv 0) ac)))
   (ad (aX (aJ jn (pv 1) a9 (aH _)) (ae (ak (oq CI hr2 TV.mgC (aa (pv 1) (aa a9 (aa (dL ac) ac)))))) aI)
   (ad (aB (i:=2) scJ.nd rfl (.inl rfl) (aE C2 hr4 (aa (pv 0) ac)))
   (ad (aB (i:=1) scJ.nd rfl (.inl rfl) (aE C3 hr (aa (pv 2) ac)))
   (ad (aX (aJ jn (pv 1) a9 (aH _)) (ae (ak (oq CI hr2 TV.mgC (aa (pv 1) (aa (pv 2) (aa (dL ac) ac)))))) aI)
   (ae (ak (aE C5 hr5 (aa (pv 2) (aa (aE C4 hr4 (aa (pv 2) ac)) ac))))))))),?_⟩
  refine⟨_,rfl,a,ns,rfl,hl,dr.of λv H1 s1 f1=>?_⟩
  cases e1:dJ ns with
  |some x =>
   rw[e1]at f1
   have eJ:di ns=some x:=by unfold di;rw[e1];rfl
   obtain⟨q,rfl,hq⟩:=id f1
   refine⟨_,rfl,rfl,_,rfl,aQ (λ_=>?_) (λc=>absurd (by rw[dqf (by intro z;cases z)];rfl) c)⟩
   refine⟨_,rfl,(by show 0<=Fk;decide),λq2 hq2=>?_⟩
   refine λy xd nx ndx nex=>?_
   refine⟨y,xd,_,_,_,rfl,ag,λH8 h8 kp8=>⟨rfl,?_⟩⟩
   have s8:al _ H8:=al.made nx ndx kp8
   refine k H8 y .non (.ref q2) (s1.trans ((aL hq2).trans s8)) ⟨xd,_,h8,?_⟩ (λz=>by rw[eJ]at z;cases z)
   rw[eJ]
   exact f1.same ((aL hq2).trans s8)
  |none =>
  rw[e1]at f1
  obtain rfl:v=.non:=f1
  obtain⟨hlen,hjB⟩:=rL hb e1
  refine⟨_,rfl,rfl,_,rfl,aQ (λc=>absurd c (by decide)) (λ_=>?_)⟩
  refine⟨_,rfl,a,ns,rfl,hl.same s1,hb,hlen,λH2 d s2 hd=>?_⟩
  have hd:bz C H2 d (bA ns):=hd
  have sb:=DK ns
  have h4:=xA hjB
  have s2:=s1.trans s2
  generalize hS:bA ns=S at hd sb h4
  refine⟨_,rfl,d,S,rfl,hd,sb,h4,dr.of λv H3 s3 f2=>?_⟩
  have hd3:=hd.same s3
  have s3:=s2.trans s3
  cases e2:bM S with
  |some x =>
   rw[e2]at f2
   have eJ:di ns=some x:=by unfold di;rw[e1,hS,e2];rfl
   obtain⟨q,rfl,hq⟩:=id f2
   refine⟨_,rfl,rfl,_,rfl,aQ (λ_=>?_) (λc=>absurd (by rw[dqf (by intro z;cases z)];rfl) c)⟩
   refine⟨_,rfl,_,rfl,(by show 0<=Fk;decide),λq2 hq2=>?_⟩
   refine λy xd nx ndx nex=>?_
   refine⟨y,xd,_,_,_,rfl,ag,λH8 h8 kp8=>⟨rfl,?_⟩⟩
   have s8:al _ H8:=al.made nx ndx kp8
   refine k H8 y (.ref d) (.ref q2) (s3.trans ((aL hq2).trans s8)) ⟨xd,_,h8,?_⟩ (λz=>by rw[eJ]at z;cases z)
   rw[eJ]
   exact f2.same ((aL hq2).trans s8)
  |none =>
  rw[e2]at f2
  obtain rfl:v=.non:=f2
  obtain⟨kp,hclear⟩:=rJ h4 e2
  refine⟨_,rfl,rfl,_,rfl,aQ (λc=>absurd c (by decide)) (λ_=>?_)⟩
  refine⟨_,rfl,_,rfl,d,S,rfl,hd3,sb,kp,λH4 O os s4 hO=>?_⟩
  have eJ:di ns=eo S:=by unfold di;rw[e1,hS,e2];rfl
  refine⟨d,O,os,S,rfl,hd3.same s4,sb,kp,hclear,hO,λH5 v ov s5 hv hp=>?_⟩
  refine k H5 v (.ref d) ov (s3.trans (s4.trans s5)) (by rw[eJ];exact hv) λz=>?_
  rw[eJ]at z
  rw[hS]
  exact⟨d,rfl,hd3.same (s4.trans s5),hp z⟩
def lH (lo hi:Int)(ns:List Int):Bool:=ns.all λx=>decide (lo<=x)&&decide (x<=hi)
theorem pD {lo hi:Int}{ns:List Int}:lH lo hi ns=true↔∀x∈ns,lo<=x/\x<=hi:=by
 unfold lH
 rw[Gx]
 simp only[Fn,Fq]
theorem nV {lo hi:Int}{ns:List Int}{i:Nat}{z:Int}(h:lH lo hi (ns.take i)=true)(hz:ns[i]? = some z)(h0:¬z<lo)(h1:¬hi<z):lH lo hi (ns.take (i+1))=true:=by
 rw[pD]at h ⊢
 intro x hx
 rw[bW hz,FR]at hx
 rcases hx with hx|hx
 ·exact h x hx
 ·have e:x=z:=by simpa using hx
  subst e
  omega
theorem oV {lo hi:Int}{ns:List Int}{i:Nat}{z:Int}(hz:ns[i]? = some z)(h:z<lo\/hi<z):lH lo hi ns=false:=by
 cases e:lH lo hi ns with
 |false=>rfl
 |true =>
  have:=pD.mp e z (Gg hz)
  omega
def wj (K:GC):Sp:=λvs H Q _=>∃(a:Fi) (ns:List Int) (lo hi:Int),vs=[.ref a,.int lo,.int hi]/\LI K H a ns/\Q (.bl (lH lo hi ns)) H
theorem Am:ap ["row","least","greatest","number"] ["row","least","greatest"] (ah fu):=fsk
theorem Bc (F:Has K mg "are_within" fu ["row","least","greatest"]):Cb P w K mg base 1 "are_within" ["row","least","greatest"] (wj K):=by
 refine F.cb Am (λvs H Q E h=>?_) (λ_ _ A _ s H vs Q E hr h=>?_)
 ·obtain⟨a,ns,lo,hi,rfl,_⟩:=h
  rfl
 ·obtain⟨a,ns,lo,hi,rfl,hl,k⟩:=h
  refine⟨_,ad (bw FC rfl (bL (pv 0)) (au (i:=3) Am.nd rfl (.inl rfl))
   (ae (aX (mi (aJ fT (pv 3) (pv 1) (aH _)) (jI (aJ dY (pv 3) (pv 2) (aH _)))).pt (ae (ak d9)) aI)))
   (ae (ak d9)),?_⟩
  refine⟨_,rfl,a,rfl,⟨_,hl.1⟩,eg (K:=K) (a:=a) (xs:=iV ns) (λi σ H'=>H'=H/\(∃v,σ=[some (.ref a),some (.int lo),some (.int hi),v])/\lH lo hi (ns.take i)=true) ⟨rfl,⟨none,rfl⟩,rfl⟩ (λi σ H' _ h=>by rw[h.1];exact hl.1) ?_ ?_⟩
  ·rintro i y σ H' hi' ⟨rfl,⟨v,rfl⟩,hb⟩
   obtain⟨z,hz,rfl⟩:=qB hi'
   refine⟨_,rfl,_,rfl,_,_,rfl,rfl,_,rfl,aQ (λc=>?_) (λc=>?_)⟩
   ·refine eI ?_
    show Q (.bl false) H'
    rw[oV hz (.inl (Ff c))]at k
    exact k
   ·refine⟨_,rfl,_,rfl,_,_,rfl,rfl,_,rfl,aQ (λc2=>?_) (λc2=>?_)⟩
    ·show Q (.bl false) H'
     rw[oV hz (.inr (Ff c2))]at k
     exact k
    ·exact⟨rfl,⟨_,rfl⟩,nV hb hz (λq=>c (dqt q)) (λq=>c2 (dqt q))⟩
  ·rintro σ H' ⟨rfl,⟨v,rfl⟩,hb⟩
   rw[lmp,Ho]at hb
   show Q (.bl true) H'
   rw[hb]at k
   exact k
def Af (K:GC):Sp:=λvs H Q _=>∃(a:Fi) (ns:List Int),vs=[.ref a]/\LI K H a ns/\Q (.bl (LM.isL ns)) H
theorem DD:ap ["row"] ["row"] (ah gT):=fsk
theorem Bj (F:Has K mg "is_light" gT ["row"]) (gB:∃t,mg "BANDS"=some (.int 32 t)) (gl:mg "len"=none) (gF:∃t,mg "FULL"=some (.int 65535 t)) (C:Cb P w K mg base 1 "are_within" ["row","least","greatest"] (wj K)):Cb P w K mg base 2 "is_light" ["row"] (Af K):=by
 refine F.cb DD (λvs H Q E h=>?_) (λ_ _ A _ s H vs Q E hr h=>?_)
 ·obtain⟨a,ns,rfl,_⟩:=h
  rfl
 ·obtain⟨a,ns,rfl,hl,k⟩:=h
  refine⟨_,ae (ak (iH (cf jS (aU aM (by rfl) gl Gh (aa (pv 0) ac)) (bo gB) (aH _)) (eq (aE C hr (aa (pv 0) (aa af (aa (bo gF) ac))))))),?_⟩
  refine⟨_,rfl,a,_,rfl,.inl hl.1,rfl,_,rfl,aQ (λc=>?_) (λc=>?_)⟩
  ·refine⟨_,rfl,a,ns,0,65535,rfl,hl,?_⟩
   have e:LM.isL ns=LM.ph ns:=by
    unfold LM.isL
    rw[dqt (p:=ns.length=32) ?_,GK]
    have:=V.int.inj (Ff c)
    rw[lmp]at this
    omega
   rw[e]at k
   exact k
  ·have e:LM.isL ns=false:=by
    unfold LM.isL
    rw[dqf (p:=ns.length=32) ?_,Go]
    intro q
    apply c
    apply dqt
    rw[lmp,q]
    rfl
   rw[e]at k
   exact k
def xn (K:GC):Sp:=λvs H Q _=>∃(a:Fi) (ns:List Int),vs=[.ref a]/\LI K H a ns/\Q (.bl (LM.cn ns)) H
theorem Bo:ap ["row"] ["row"] (ah fk):=fsk
theorem yY (F:Has K mg "are_lights" fk ["row"]) (gB:∃t,mg "BANDS"=some (.int 32 t)) (gl:mg "len"=none) (gF:∃t,mg "FULL"=some (.int 65535 t)) (C:Cb P w K mg base 1 "are_within" ["row","least","greatest"] (wj K)):Cb P w K mg base 2 "are_lights" ["row"] (xn K):=by
 refine F.cb Bo (λvs H Q E h=>?_) (λ_ _ A _ s H vs Q E hr h=>?_)
 ·obtain⟨a,ns,rfl,_⟩:=h
  rfl
 ·obtain⟨a,ns,rfl,hl,k⟩:=h
  refine⟨_,ae (ak (iH (cf jS (aT Be (aU aM (by rfl) gl Gh (aa (pv 0) ac)) (bo gB)) af (aH _)) (eq (aE C hr (aa (pv 0) (aa af (aa (bo gF) ac))))))),?_⟩
  refine⟨_,rfl,a,_,rfl,.inl hl.1,_,_,rfl,rfl,(by show(0:Int)<32;decide),rfl,_,rfl,aQ (λc=>?_) (λc=>?_)⟩
  ·refine⟨_,rfl,a,ns,0,65535,rfl,hl,?_⟩
   have e:LM.cn ns=LM.ph ns:=by
    unfold LM.cn
    rw[dqt (p:=ns.length % 32=0) ?_,GK]
    have:=V.int.inj (Ff c)
    rw[lmp]at this
    omega
   rw[e]at k
   exact k
  ·have e:LM.cn ns=false:=by
    unfold LM.cn
    rw[dqf (p:=ns.length % 32=0) ?_,Go]
    intro q
    apply c
    apply dqt
    rw[lmp]
    show V.int ((ns.length:Int) % 32)=V.int 0
    rw[show(ns.length:Int) % 32=0 by omega]
   rw[e]at k
   exact k
def wm (K:GC):Sp:=λvs H Q _=>∃(a:Fi) (ns:List Int),vs=[.ref a]/\LI K H a ns/\Q (.int (LM.cnt ns)) H
theorem DX:ap ["row"] ["row"] (ah cS):=fsk
theorem A8 (F:Has K mg "how_many_lights" cS ["row"]) (gB:∃t,mg "BANDS"=some (.int 32 t)) (gl:mg "len"=none):Cb P w K mg base 1 "how_many_lights" ["row"] (wm K):=by
 refine F.cb DX (λvs H Q E h=>?_) (λ_ _ A _ s H vs Q E hr h=>?_)
 ·obtain⟨a,ns,rfl,_⟩:=h
  rfl
 ·obtain⟨a,ns,rfl,hl,k⟩:=h
  refine⟨_,ae (ak (aT pJ (aU aM (by rfl) gl Gh (aa (pv 0) ac)) (bo gB))),?_⟩
  refine⟨_,rfl,a,_,rfl,.inl hl.1,_,_,rfl,rfl,⟨by decide,by decide⟩,?_⟩
  have e:(((iV ns).length:Nat):Int) / 32=((LM.cnt ns:Nat):Int):=by
   rw[lmp]
   unfold LM.cnt
   omega
  show Q (.int ((((iV ns).length:Nat):Int) / 32)) H
  rw[e]
  exact k
theorem zQ (ns:List Int)(k:Nat):n0 (iV ns) (some (32*(k:Int))) (some (32*((k:Int)+1)))=iV (LM.lat ns k):=by
 have e1:(32*(k:Int))=((32*k:Nat):Int):=by omega
 have e2:(32*((k:Int)+1))=((32*k+32:Nat):Int):=by omega
 rw[e1,e2]
 unfold n0 LM.lat
 rw[HT.sIx_nat,HT.sIx_nat,iV,<-Jb,<-Ie,lmp]
 congr 1
 by_cases c:32*k<=ns.length
 ·rw[FN c]
  by_cases c2:32*k+32<=ns.length
  ·rw[FN c2]
   congr 1
   omega
  ·rw[FM (by omega)]
   rw[GP (by rw[FZ];omega),GP (by rw[FZ];omega)]
 ·rw[FM (show ns.length<=32*k by omega),HY (nlr _),HY (show ns.length<=32*k by omega)]
  simp
def zV (K:GC):Sp:=λvs H Q _=>∃(a:Fi) (ns:List Int) (k:Nat),vs=[.ref a,.int k]/\LI K H a ns/\k<=1000000/\∀p,H p=none->Q (.ref p) (upd H p (.lst (iV (LM.lat ns k))))
theorem Ed:ap ["row","k"] ["row","k"] (ah gX):=fsk
theorem A7 (F:Has K mg "light_at" gX ["row","k"]) (gB:∃t,mg "BANDS"=some (.int 32 t)):Cb P w K mg base 1 "light_at" ["row","k"] (zV K):=by
 refine F.cb Ed (λvs H Q E h=>?_) (λ_ _ A _ s H vs Q E hr h=>?_)
 ·obtain⟨a,ns,k,rfl,_⟩:=h
  rfl
 ·obtain⟨a,ns,i,rfl,hl,hi,k⟩:=h
  refine⟨_,ae (ak (mx pP (pv 0) (km (aT dM (bo gB) (pv 1))) (km (aT dM (bo gB) (aT dG (pv 1) af))))),?_⟩
  refine⟨_,rfl,_,rfl,_,_,rfl,rfl,.inl ⟨by decide,by decide⟩,_,rfl,_,rfl,_,_,rfl,rfl,_,_,rfl,rfl,.inl ⟨by decide,by decide⟩,_,rfl,a,_,rfl,hl.1,λp hp=>?_⟩
  rw[zQ ns i]
  exact k p hp
def Sm (ns:List Int):Prop:=∀x∈ns,-8589934592<=x/\x<=8589934592
theorem Sm.at {ns:List Int}(h:Sm ns){i:Nat}{z:Int}(e:ns[i]? = some z):-8589934592<=z/\z<=8589934592:=h z (Gg e)
def x9 (K:GC):Sp:=λvs H Q _=>∃(a b:Fi) (xs ys:List Int),vs=[.ref a,.ref b]/\LI K H a xs/\LI K H b ys/\Sm xs/\Sm ys/\∀(H':Hp) (p:Fi),al H H'->H' p=some (.lst (iV (LM.thI xs ys)))->Q (.ref p) H'
theorem uC:ap ["one","other","a","b"] ["one","other"] (ah cI):=fsk
theorem AH (F:Has K mg "light_through" cI ["one","other"]) (gF:∃t,mg "FULL"=some (.int 65535 t)) (gz:mg "zip"=none):Cb P w K mg base 1 "light_through" ["one","other"] (x9 K):=by
 refine F.cb uC (λvs H Q E h=>?_) (λ_ _ A _ s H vs Q E hr h=>?_)
 ·obtain⟨a,b,xs,ys,rfl,_⟩:=h
  rfl
 ·obtain⟨a,b,xs,ys,rfl,hx,hy,sx,sy,k⟩:=h
  refine⟨_,ae (ak (xC (own:=[("a",2),("b",3)]) (g:=g2 K 2 3) rfl uC.nd (BJ rfl gz (aa (pv 0) (aa (pv 1) ac))) (bJ (by show iu ["one","other","a","b"] (ah cI) _ _=true;decide +kernel))
   (λ_ _ _ _ _=>cO (n:=2) rfl (aK (au (i:=2) uC.nd rfl (.inl rfl) (.inr rfl)) (aK (au (i:=3) uC.nd rfl (.inl rfl) (.inr rfl)) bR))) (λ_ _ _ _ _=>eO)
   (λ_ _ _ _ _=>aT pJ (aT dG (aT dM (pv 2) (pv 3)) (aT pJ (bo gF) af)) (bo gF)))),?_⟩
  refine⟨_,rfl,_,rfl,a,b,_,_,rfl,hx.1,hy.1,λD hD=>?_⟩
  refine BI (xs:=iV xs) (ys:=iV ys) (λi H'=>al H H'/\H' D=some (.lst (iV (((xs.zip ys).take i).map λp=>(p.1*p.2+32767) / 65535)))) ?_ ?_ ?_ ?_
  ·exact⟨aL hD,ag⟩
  ·rintro i H' _ ⟨hS,_⟩
   exact⟨hS.seq hx.1,hS.seq hy.1⟩
  ·rintro i x' y' T H' ex' ey' hT ⟨hS,hDl⟩
   obtain⟨x,ex,rfl⟩:=qB ex'
   obtain⟨y,ey,rfl⟩:=qB ey'
   refine⟨T,_,rfl,SqT.of ag,rfl,_,_,rfl,_,_,rfl,rfl,rfl,oe (eI ?_)⟩
   have nTD:D≠T:=aO hDl hT
   have b1:=sx.at ex
   refine⟨_,rfl,_,rfl,_,_,rfl,rfl,.inl ⟨by omega,by omega⟩,_,_,rfl,rfl,⟨by decide,by decide⟩,_,_,rfl,rfl,_,_,rfl,rfl,⟨by decide,by decide⟩,_,by rw[aq nTD];exact hDl,?_,aW (aY hS hT) hD,?_⟩
   ·rw[lmp,lmp,Gr]
    have:=hx.2
    have:i<xs.length:=(gsi ex).1
    exact bn (by omega)
   ·rw[ag,bW (AS ex ey)]
    simp only[iV,FP,FH,List.map_nil]
    rfl
  ·rintro H' ⟨hS,hDl⟩
   have e:(xs.zip ys).take (min (iV xs).length (iV ys).length)=xs.zip ys:=by
    rw[lmp,lmp,<-HV]
    exact Ho
   rw[e]at hDl
   exact k H' D hS hDl
def BF (o:Option (List Int))(v:V)(H:Hp):Prop:=match o with
 |none=>v=.non
 |some r=>∃q,v=.ref q/\H q=some (.lst (iV r))
def rM (o:Option (List Int))(H:Hp)(Q:VK):Prop:=∀v H',al H H'->BF o v H'->Q v H'
def Bd (ns:List Int):Prop:=∀x∈ns,0<=x/\x<=65535
theorem Bd.sm {ns:List Int}(h:Bd ns):Sm ns:=λx hx=>by have:=h x hx;omega
theorem Bd.lat {ns:List Int}(h:Bd ns)(k:Nat):Bd (LM.lat ns k):=λx hx=>h x (HJ (GO hx))
theorem Bd.th {xs ys:List Int}(hx:Bd xs)(hy:Bd ys):Bd (LM.thI xs ys):=λz hz=>by
 unfold LM.thI at hz
 rw[Gc]at hz
 obtain⟨p,hp,rfl⟩:=hz
 have h1:=hx p.1 (List.of_mem_zip hp).1
 have h2:=hy p.2 (List.of_mem_zip hp).2
 have h3:0<=p.1*p.2:=Fo h1.1 h2.1
 have h4:p.1*p.2<=65535*65535:=Int.mul_le_mul h1.2 h2.2 h2.1 (by decide)
 constructor
 ·omega
 ·omega
theorem j3 (ns:List Int)(k:Nat):(LM.lat ns k).length<=32:=by
 unfold LM.lat
 rw[Gr]
 omega
theorem wu (xs ys:List Int):(LM.thI xs ys).length<=xs.length:=by
 unfold LM.thI
 rw[lmp,HV]
 omega
def cG (gs qs:List Int)(S:Gla.Plan):Option Nat:=Gla.firstAt (λ(_:Nat) (m:Jk)=>!(decide (m.glass<LM.cnt gs)&&decide (m.painting<=LM.cnt qs))) S.marks
def plI (gs qs:List Int)(m:Jk):List Int:=if m.painting=0 then LM.lat gs m.glass else LM.thI (LM.lat gs m.glass) (LM.lat qs (m.painting-1))
def iX (cs gs qs ds:List Int):Option (List Int):=if (LM.isL ds&&(LM.cn gs&&LM.cn qs))=false then some [-1] else if (decide (131072<cs.length)||(decide (256<LM.cnt gs)||decide (256<LM.cnt qs)))=true then some [-6] else none
def MkL (H:Hp)(m:Fi)(ms:List Fi)(S:Gla.Plan):Prop:=H m=some (.lst (ms.map V.ref))/\ms.length=S.marks.length/\∀(i:Nat) (b:Fi) (x:Jk),ms[i]? = some b->S.marks[i]? = some x->H b=some (.tup (iV (ke x)))
def EV (o:Option Nat):V:=match o with
 |none=>.non
 |some k=>.int (k:Int)
def Ca (K:GC):Sp:=λvs H Q _=>∃(m ga qa:Fi) (ms:List Fi) (S:Gla.Plan) (gs qs:List Int),vs=[.ref m,.ref ga,.ref qa]/\MkL H m ms S/\LI K H ga gs/\LI K H qa qs/\∀H',al H H'->Q (EV (cG gs qs S)) H'
theorem A2:ap ["marks","glasses","paintings","k","mark"] ["marks","glasses","paintings"] (ah bp):=fsk
theorem DA (F:Has K mg "first_mark_without_light" bp ["marks","glasses","paintings"]) (ge:mg "enumerate"=none) (C1:Cb P w K mg base 1 "how_many_lights" ["row"] (wm K)):Cb P w K mg base 2 "first_mark_without_light" ["marks","glasses","paintings"] (Ca K):=by
 refine F.cb A2 (λvs H Q E h=>?_) (λ_ _ A _ s H vs Q E hr h=>?_)
 ·obtain⟨m,ga,qa,ms,S,gs,qs,rfl,_⟩:=h
  rfl
 ·obtain⟨m,ga,qa,ms,S,gs,qs,rfl,hm,hg,hq,k⟩:=h
  refine⟨_,ad (bw FC rfl (dR rfl ge (aa (pv 0) ac)) (cO (n:=2) rfl (aK (au (i:=3) A2.nd rfl (.inl rfl)) (aK (au (i:=4) A2.nd rfl (.inl rfl)) bR)))
    (ae (aX (mi (aJ uh (aw aC (pv 4) af (λ_ _=>rfl)) (aE C1 hr (aa (pv 1) ac)) (aH _)) (jI (aJ dY (aw aC (pv 4) af (λ_ _=>rfl)) (aE C1 hr (aa (pv 2) ac)) (aH _)))).pt (ae (ak (pv 3))) aI)))
   (ae (ak a9)),?_⟩
  refine⟨_,rfl,m,_,rfl,SqL.of hm.1,dc (K:=K) (a:=m) (xs:=ms.map V.ref) (λi σ H'=>al H H'/\(∃v1 v2,σ=[some (.ref m),some (.ref ga),some (.ref qa),v1,v2])/\∀j (hj:j<S.marks.length),j<i->(!(decide (S.marks[j].glass<LM.cnt gs)&&decide (S.marks[j].painting<=LM.cnt qs)))=false)
   ⟨al.refl H,⟨none,none,rfl⟩,λj hj h=>absurd h (Gy _)⟩ (λi σ H' _ h=>SqL.of (h.1 _ _ hm.1)) ?_ ?_⟩
  ·rintro i y T' σ H' hi hT ⟨hS,⟨v1,v2,rfl⟩,hok⟩
   obtain⟨b,hb,rfl⟩:=cg hi
   have hil:i<S.marks.length:=by rw[<-hm.2.1];exact(gsi hb).1
   have s2:al H (upd H' T' (.tup [.int (i:Nat),.ref b])):=aY hS hT
   refine⟨T',_,rfl,SqT.of ag,rfl,_,_,rfl,_,_,rfl,rfl,?_⟩
   generalize upd H' T' (.tup [.int (i:Nat),.ref b])=H2 at s2
   have hbb:SqT K H2 b (iV (ke S.marks[i])):=SqT.of (s2 _ _ (hm.2.2 i b _ hb (gge hil)))
   have bad:(!(decide (S.marks[i].glass<LM.cnt gs)&&decide (S.marks[i].painting<=LM.cnt qs)))=true->Q (.int (i:Int)) H2:=λz=>by
    have e:cG gs qs S=some i:=WL.ef hil z λj hj=>hok j (by omega) hj
    rw[e]at k
    exact k H2 s2
   refine⟨_,rfl,b,_,_,_,rfl,rfl,hbb,aA (j:=2) rfl rfl,_,rfl,ga,gs,rfl,hg.same s2,_,_,rfl,rfl,_,rfl,aQ (λc1=>?_) (λc1=>?_)⟩
   ·have c1:=Ff c1
    refine eI ⟨_,rfl,bad ?_⟩
    rw[dqf (by omega),Go]
    rfl
   ·have c1:=aF c1
    refine⟨_,rfl,b,_,_,_,rfl,rfl,hbb,aA (j:=3) rfl rfl,_,rfl,qa,qs,rfl,hq.same s2,_,_,rfl,rfl,_,rfl,aQ (λc2=>?_) (λc2=>?_)⟩
    ·have c2:=Ff c2
     refine⟨_,rfl,bad ?_⟩
     rw[dqf (show ¬S.marks[i].painting<=LM.cnt qs by omega),Bool.and_false]
     rfl
    ·have c2:=aF c2
     refine⟨s2,⟨_,_,rfl⟩,λj hj h=>?_⟩
     by_cases c:j<i
     ·exact hok j hj c
     ·have:j=i:=by omega
      subst this
      rw[dqt (by omega:S.marks[j].glass<LM.cnt gs),dqt (by omega:S.marks[j].painting<=LM.cnt qs)]
      rfl
  ·rintro σ H' ⟨hS,⟨v1,v2,rfl⟩,hok⟩
   have e:cG gs qs S=none:=WL.dN λj hj=>hok j hj (by rw[lmp,hm.2.1];exact hj)
   rw[e]at k
   exact k H' hS
def Cw (K:GC):Sp:=λvs H Q _=>∃(b ga qa:Fi) (x:Jk) (gs qs:List Int),vs=[.ref b,.ref ga,.ref qa]/\SqT K H b (iV (ke x))/\LI K H ga gs/\LI K H qa qs/\Bd gs/\Bd qs/\x.glass<=1000000/\x.painting<=1000000/\∀(H':Hp) (p:Fi),al H H'->H' p=some (.lst (iV (plI gs qs x)))->Q (.ref p) H'
theorem Dm:ap ["mark","glasses","paintings","glass"] ["mark","glasses","paintings"] (ah eZ):=fsk
theorem Dv (F:Has K mg "pane_light" eZ ["mark","glasses","paintings"]) (C1:Cb P w K mg base 1 "light_at" ["row","k"] (zV K)) (C2:Cb P w K mg base 1 "light_through" ["one","other"] (x9 K)):Cb P w K mg base 2 "pane_light" ["mark","glasses","paintings"] (Cw K):=by
 refine F.cb Dm (λvs H Q E h=>?_) (λ_ _ A _ s H vs Q E hr h=>?_)
 ·obtain⟨b,ga,qa,x,gs,qs,rfl,_⟩:=h
  rfl
 ·obtain⟨b,ga,qa,x,gs,qs,rfl,hb,hg,hq,bg,bq,xg,xp,k⟩:=h
  refine⟨_,ad (aB (i:=3) Dm.nd rfl (.inl rfl) (aE C1 hr (aa (pv 1) (aa (aw aC (pv 0) af (λ_ _=>rfl)) ac))))
   (ad (aX (aJ jS (aw aC (pv 0) af (λ_ _=>rfl)) af (aH _)) (ae (ak (pv 3))) aI)
   (ae (ak (aE C2 hr (aa (pv 3) (aa (aE C1 hr (aa (pv 2) (aa (aT eu (aw aC (pv 0) af (λ_ _=>rfl)) af) ac))) ac)))))),?_⟩
  refine⟨_,rfl,_,rfl,b,_,_,_,rfl,rfl,hb,aA (j:=2) rfl rfl,ga,gs,x.glass,rfl,hg,xg,λp hp=>?_⟩
  have s1:al H (upd H p (.lst (iV (LM.lat gs x.glass)))):=aL hp
  have h1:(upd H p (.lst (iV (LM.lat gs x.glass)))) p=some (.lst (iV (LM.lat gs x.glass))):=ag
  generalize upd H p (.lst (iV (LM.lat gs x.glass)))=H1 at s1 h1
  refine⟨_,rfl,b,_,_,_,rfl,rfl,(iC s1 hb),aA (j:=3) rfl rfl,rfl,_,rfl,aQ (λc=>?_) (λc=>?_)⟩
  ·have c:=V.int.inj (Ff c)
   refine⟨_,rfl,k H1 p s1 ?_⟩
   unfold plI
   rw[Fs (by omega)]
   exact h1
  ·have c:¬x.painting=0:=λz=>c (dqt (by rw[z];rfl))
   refine⟨_,rfl,_,rfl,_,rfl,b,_,_,_,rfl,rfl,(iC s1 hb),aA (j:=3) rfl rfl,_,_,rfl,rfl,qa,qs,x.painting-1,?_,hq.same s1,by omega,λp2 hp2=>?_⟩
   ·show [V.ref qa,V.int ((x.painting:Int)-1)]=_
    rw[show((x.painting:Int)-1)=((x.painting-1:Nat):Int) by omega]
   have s2:al H1 (upd H1 p2 (.lst (iV (LM.lat qs (x.painting-1))))):=aL hp2
   have l1:=j3 gs x.glass
   have l2:=j3 qs (x.painting-1)
   refine⟨p,p2,_,_,rfl,⟨SqL.of (s2 _ _ h1),by omega⟩,⟨SqL.of ag,by omega⟩,(bg.lat _).sm,(bq.lat _).sm,λH3 r s3 hr3=>?_⟩
   refine k H3 r (s1.trans (s2.trans s3)) ?_
   unfold plI
   rw[Fl c]
   exact hr3
theorem yh {gs qs:List Int}(bg:Bd gs)(bq:Bd qs)(x:Jk):Bd (plI gs qs x):=by
 unfold plI
 split
 ·exact bg.lat _
 ·exact(bg.lat _).th (bq.lat _)
theorem AW (gs qs:List Int)(x:Jk):(plI gs qs x).length<=32:=by
 unfold plI
 split
 ·exact j3 _ _
 ·exact Gb (wu _ _) (j3 _ _)
def DN:Sp:=λvs H Q _=>∃(r:Fi) (ns:List Int),vs=[.ref r]/\H r=some (.lst (iV ns))/\ns.length<=1000000/\∀(H':Hp) (p:Fi),al H H'->H' p=some (.lst (iV (0 :: (ns.length:Int) :: ns)))->Q (.ref p) H'
theorem ET:ap ["row"] ["row"] (ah fz):=fsk
theorem Do (F:Has K mg "row_answer" fz ["row"]) (gl:mg "len"=none):Cb P w K mg base 1 "row_answer" ["row"] DN:=by
 refine F.cb ET (λvs H Q E h=>?_) (λ_ _ A _ s H vs Q E hr h=>?_)
 ·obtain⟨r,ns,rfl,_⟩:=h
  rfl
 ·obtain⟨r,ns,rfl,hrr,hl,k⟩:=h
  refine⟨_,ae (ak (aT xR (dL (aa af (aa (aU aM (by rfl) gl Gh (aa (pv 0) ac)) ac))) (pv 0))),?_⟩
  refine⟨_,rfl,r,_,rfl,.inl (SqL.of hrr),(by show 2<=Fk;decide),λp hp=>?_⟩
  have s1:al H (upd H p (.lst [.int 0,.int (((iV ns).length:Nat):Int)])):=aL hp
  refine⟨_,rfl,p,r,_,_,rfl,rfl,ag,s1 _ _ hrr,?_,λq hq=>?_⟩
  ·rw[iV,lmp]
   have:ns.length+2<Fk:=Gn (Nat.add_le_add_right hl 2) (by decide)
   show 2+ns.length<=Fk
   omega
  ·refine k _ q (aY s1 hq) ?_
   rw[ag]
   show some (HO.lst (.int 0 :: .int (((iV ns).length:Nat):Int) :: iV ns))=_
   rw[iV,lmp]
   rfl
def El (K:GC):Sp:=λvs H Q _=>∃(b ga qa da:Fi) (x:Jk) (gs qs ds:List Int),vs=[.ref b,.ref ga,.ref qa,.ref da]/\SqT K H b (iV (ke x))/\LI K H ga gs/\LI K H qa qs/\LI K H da ds/\Bd gs/\Bd qs/\Bd ds/\x.glass<=1000000/\x.painting<=1000000/\∀(H':Hp) (p:Fi),al H H'->H' p=some (.lst (iV (LM.thI ds (plI gs qs x))))->Q (.ref p) H'
theorem EZ:ap ["mark","glasses","paintings","daylight"] ["mark","glasses","paintings","daylight"] (ah fh):=fsk
theorem Ds (F:Has K mg "seen_light" fh ["mark","glasses","paintings","daylight"]) (C1:Cb P w K mg base 2 "pane_light" ["mark","glasses","paintings"] (Cw K)) (C2:Cb P w K mg base 1 "light_through" ["one","other"] (x9 K)):Cb P w K mg base 3 "seen_light" ["mark","glasses","paintings","daylight"] (El K):=by
 refine F.cb EZ (λvs H Q E h=>?_) (λ_ _ A _ s H vs Q E hr h=>?_)
 ·obtain⟨b,ga,qa,da,x,gs,qs,ds,rfl,_⟩:=h
  rfl
 ·obtain⟨b,ga,qa,da,x,gs,qs,ds,rfl,hb,hg,hq,hd,bg,bq,bd,xg,xp,k⟩:=h
  have hr1:bf 1 _:=hr.mono (by decide)
  refine⟨_,ae (ak (aE C2 hr1 (aa (pv 3) (aa (aE C1 hr (aa (pv 0) (aa (pv 1) (aa (pv 2) ac)))) ac)))),?_⟩
  refine⟨_,rfl,_,rfl,_,rfl,_,rfl,b,ga,qa,x,gs,qs,rfl,hb,hg,hq,bg,bq,xg,xp,λH1 p s1 hp=>?_⟩
  have l1:=AW gs qs x
  exact⟨da,p,ds,_,rfl,hd.same s1,⟨SqL.of hp,by omega⟩,bd.sm,(yh bg bq x).sm,λH2 r s2 hr2=>k H2 r (s1.trans s2) hr2⟩
theorem rM.none' {o:Option (List Int)}{H H':Hp}{Q:VK}(k:rM o H Q)(e:o=none)(s:al H H'):Q .non H':=by
 subst e
 exact k .non H' s rfl
theorem rM.some' {o:Option (List Int)}{H H':Hp}{Q:VK}{r:List Int}(k:rM o H Q)(e:o=some r)(s:al H H'):∀q,H' q=none->Q (.ref q) (upd H' q (.lst (iV r))):=λq hq=>by
 subst e
 exact k (.ref q) _ (aY s hq) ⟨q,rfl,ag⟩
def oI (cs gs qs:List Int):Option (List Int):=if (LM.cn gs&&LM.cn qs)=false then some [-1] else if (decide (131072<cs.length)||(decide (256<LM.cnt gs)||decide (256<LM.cnt qs)))=true then some [-6] else none
def wK (K:GC):Sp:=λvs H Q _=>∃(ca ga qa:Fi) (cs gs qs:List Int),vs=[.ref ca,.ref ga,.ref qa]/\LI K H ca cs/\LI K H ga gs/\LI K H qa qs/\rM (oI cs gs qs) H Q
theorem xJ:ap ["cartoon","glasses","paintings","too_many_lights"] ["cartoon","glasses","paintings"] (ah cU):=fsk
theorem zb (F:Has K mg "refusal_of_shop" cU ["cartoon","glasses","paintings"]) (gl:mg "len"=none) (gM:∃t,mg "MOST_LIGHTS"=some (.int 256 t)) (gY:∃t,mg "MOST_BYTES"=some (.int 131072 t)) (C2:Cb P w K mg base 2 "are_lights" ["row"] (xn K)) (C3:Cb P w K mg base 1 "how_many_lights" ["row"] (wm K)) :
  Cb P w K mg base 3 "refusal_of_shop" ["cartoon","glasses","paintings"] (wK K):=by
 refine F.cb xJ (λvs H Q E h=>?_) (λ_ _ A _ s H vs Q E hr h=>?_)
 ·obtain⟨ca,ga,qa,cs,gs,qs,rfl,_⟩:=h
  rfl
 ·obtain⟨ca,ga,qa,cs,gs,qs,rfl,hc,hg,hq,k⟩:=h
  have hr1:bf 1 _:=hr.mono (by decide)
  refine⟨_,ad (aX (iK (jN (cA (aE C2 hr (aa (pv 1) ac))) (ik (cA (aE C2 hr (aa (pv 2) ac))))).pt) (ae (ak (dL (aa (lD i4 af) ac)))) aI)
   (ad (aB (i:=3) xJ.nd rfl (.inl rfl) (rN (cf dY (aE C3 hr1 (aa (pv 1) ac)) (bo gM) (aH _)) (eq (cf dY (aE C3 hr1 (aa (pv 2) ac)) (bo gM) (aH _)))))
   (ad (aX (mi (aJ dY (aU aM (by rfl) gl Gh (aa (pv 0) ac)) (bo gY) (aH _)) (jI (cA (pv 3)))).pt (ae (ak (dL (aa (lD i4 af) ac)))) aI)
   (ae (ak a9)))),?_⟩
  have bad:(LM.cn gs&&LM.cn qs)=false->∀p,H p=none->Q (.ref p) (upd H p (.lst [.int (-1)])):=λe p hp=>k.some' (r:=[-1]) (by unfold oI;rw[Fs e]) (al.refl H) p hp
  have six:(LM.cn gs&&LM.cn qs)=true->(decide (131072<cs.length)||(decide (256<LM.cnt gs)||decide (256<LM.cnt qs)))=true->∀p,H p=none->Q (.ref p) (upd H p (.lst [.int (-6)])):=λe e2 p hp=>k.some' (r:=[-6]) (by unfold oI;rw[e,Fl (by decide),Fs e2]) (al.refl H) p hp
  have non:(LM.cn gs&&LM.cn qs)=true->¬(decide (131072<cs.length)||(decide (256<LM.cnt gs)||decide (256<LM.cnt qs)))=true->Q .non H:=λe e2=>k.none' (by unfold oI;rw[e,Fl (by decide),Fl e2]) (al.refl H)
  refine⟨_,rfl,ga,gs,rfl,hg,_,rfl,?_⟩
  cases h2:LM.cn gs with
  |false =>
   refine jy (eI ⟨_,rfl,(by show 1<=Fk;decide),λp hp=>bad (by rw[h2];rfl) p hp⟩)
  |true =>
  refine eI ?_
  refine⟨_,rfl,qa,qs,rfl,hq,_,rfl,?_⟩
  cases h3:LM.cn qs with
  |false =>
   refine eI ⟨_,rfl,(by show 1<=Fk;decide),λp hp=>bad (by rw[h2,h3];rfl) p hp⟩
  |true =>
  refine jy ?_
  have ok:(LM.cn gs&&LM.cn qs)=true:=by rw[h2,h3];rfl
  have cont:∀t:Bool,t=(decide (256<LM.cnt gs)||decide (256<LM.cnt qs))->AA (tp (tOr (eY (tOp (rI0 λi j=>.bl (decide (j<i))) (tCB (λxs H Q=>∃p ys,xs=[.ref p]/\(SqL K H p ys\/SqT K H p ys)/\Q (.int ys.length) H) (bD (a5 0) fI)) (tC (.int 131072)))) (tB (a5 3)))
    (mO (Cr (bD (tUn (rU λi=>.int (-i)) (tC (.int 6))) fI))) nt) (mO (tC .non)) { nx:=λ_ H'=>Q .non H',rt:=Q } [some (.ref ca),some (.ref ga),some (.ref qa),some (.bl t)] H:=λt et=>by
   refine⟨_,rfl,ca,_,rfl,.inl hc.1,_,_,rfl,rfl,_,rfl,?_⟩
   rw[iV,lmp]
   refine aQ (λc=>?_) (λc=>?_)
   ·have c:=Ff c
    refine eI ⟨_,rfl,(by show 1<=Fk;decide),λp hp=>six ok ?_ p hp⟩
    rw[dqt (by omega:131072<cs.length),Jr]
   ·have c:=aF c
    refine⟨_,rfl,_,rfl,aQ (λc2=>?_) (λc2=>?_)⟩
    ·refine⟨_,rfl,(by show 1<=Fk;decide),λp hp=>six ok ?_ p hp⟩
     rw[<-et,c2,Bool.or_true]
    ·refine non ok ?_
     rw[<-et,cB c2,dqf (by omega)]
     decide
  refine⟨_,rfl,ga,gs,rfl,hg,_,_,rfl,rfl,_,rfl,aQ (λc=>?_) (λc=>?_)⟩
  ·have c:=Ff c
   refine cont true ?_
   rw[dqt (by omega:256<LM.cnt gs),Jr]
  ·have c:=aF c
   refine⟨_,rfl,qa,qs,rfl,hq,_,_,rfl,rfl,?_⟩
   refine cont _ ?_
   rw[dqf (by omega:¬256<LM.cnt gs),Bool.false_or,Fz]
   omega
def Ag (fo:Option (Int×Int)):Option (List Int):=fo.map λx=>[-5,x.1,x.2]
def DO (CV:Fi):Sp:=λvs H Q _=>∃(v:Fi) (fo:Option (Int×Int)) (dv ov:V),vs=[.ref v]/\xZ CV H v fo dv ov/\rM (Ag fo) H Q
theorem E9:ap ["verdict"] ["verdict"] (ah b5):=fsk
theorem Dt (F:Has K mg "refusal_of_cartoon" b5 ["verdict"]) (TV:VCl K mg CV):Cb P w K mg base 1 "refusal_of_cartoon" ["verdict"] (DO CV):=by
 refine F.cb E9 (λvs H Q E h=>?_) (λ_ _ A _ s H vs Q E hr h=>?_)
 ·obtain⟨v,fo,dv,ov,rfl,_⟩:=h
  rfl
 ·obtain⟨v,fo,dv,ov,rfl,⟨dx,fv,hv,hf⟩,k⟩:=h
  refine⟨_,ad (aX (aJ iE (aP (pv 0) rfl) a9 (aH _)) (ae (ak a9)) aI)
   (ae (ak (dL (aa (lD i4 af) (aa (aw aC (aP (pv 0) rfl) af (λ_ _=>rfl)) (aa (aw aC (aP (pv 0) rfl) af (λ_ _=>rfl)) ac)))))),?_⟩
  refine⟨_,rfl,v,CV,dx,_,_,rfl,hv,TV.cl,TV.nF,A4,rfl,_,rfl,?_⟩
  cases fo with
  |none =>
   obtain rfl:fv=.non:=hf
   exact lC (k.none' rfl (al.refl H))
  |some x =>
   obtain⟨q,rfl,hq⟩:=hf
   refine gN ?_ rfl
   refine⟨_,rfl,_,rfl,v,CV,dx,_,_,rfl,hv,TV.cl,TV.nF,A4,q,_,_,_,rfl,rfl,SqT.of hq,aA (j:=0) rfl rfl,_,rfl,v,CV,dx,_,_,rfl,hv,TV.cl,TV.nF,A4,q,_,_,_,rfl,rfl,SqT.of hq,aA (j:=1) rfl rfl,(by show 3<=Fk;decide),λp hp=>?_⟩
   exact k.some' (r:=[-5,x.1,x.2]) rfl (al.refl H) p hp
def mP (o:Option Nat):Option (List Int):=o.map λk=>[-3,(k:Int)]
def Ab (K:GC):Sp:=λvs H Q _=>∃(m ga qa:Fi) (ms:List Fi) (S:Gla.Plan) (gs qs:List Int),vs=[.ref m,.ref ga,.ref qa]/\MkL H m ms S/\LI K H ga gs/\LI K H qa qs/\rM (mP (cG gs qs S)) H Q
theorem Al:ap ["marks","glasses","paintings","k"] ["marks","glasses","paintings"] (ah cE):=fsk
theorem AG (F:Has K mg "refusal_of_marks" cE ["marks","glasses","paintings"]) (C1:Cb P w K mg base 2 "first_mark_without_light" ["marks","glasses","paintings"] (Ca K)):Cb P w K mg base 3 "refusal_of_marks" ["marks","glasses","paintings"] (Ab K):=by
 refine F.cb Al (λvs H Q E h=>?_) (λ_ _ A _ s H vs Q E hr h=>?_)
 ·obtain⟨m,ga,qa,ms,S,gs,qs,rfl,_⟩:=h
  rfl
 ·obtain⟨m,ga,qa,ms,S,gs,qs,rfl,hm,hg,hq,k⟩:=h
  refine⟨_,ad (aB (i:=3) Al.nd rfl (.inl rfl) (aE C1 hr (aa (pv 0) (aa (pv 1) (aa (pv 2) ac)))))
   (ad (aX (aJ iE (pv 3) a9 (aH _)) (ae (ak a9)) aI)
   (ae (ak (dL (aa (lD i4 af) (aa (pv 3) ac)))))),?_⟩
  refine⟨_,rfl,_,rfl,_,rfl,m,ga,qa,ms,S,gs,qs,rfl,hm,hg,hq,λH1 s1=>?_⟩
  cases e:cG gs qs S with
  |none =>
   exact⟨_,rfl,rfl,_,rfl,lC (k.none' (by rw[e];rfl) s1)⟩
  |some i =>
   refine⟨_,rfl,rfl,_,rfl,aQ (λc=>absurd (Ff c) (by intro z;cases z)) (λ_=>?_)⟩
   exact⟨_,rfl,_,rfl,(by show 2<=Fk;decide),λp hp=>k.some' (r:=[-3,(i:Int)]) (by rw[e];rfl) s1 p hp⟩
theorem BF.some {r:List Int}{v:V}{H:Hp}(h:BF (some r) v H):∃q,v=.ref q/\H q=some (.lst (iV r)):=h
theorem ur {cs gs qs ds:List Int}(h:iX cs gs qs ds=none):Bd gs/\Bd qs/\Bd ds:=by
 unfold iX at h
 split at h
 ·cases h
 ·rename_i c
  have c:(LM.isL ds&&(LM.cn gs&&LM.cn qs))=true:=by
   cases e:(LM.isL ds&&(LM.cn gs&&LM.cn qs)) with
   |true=>rfl
   |false=>exact absurd e c
  rw[Fn,Fn]at c
  unfold LM.isL LM.cn at c
  rw[Fn,Fn,Fn]at c
  exact⟨LM.gP.1 c.2.1.2,LM.gP.1 c.2.2.2,LM.gP.1 c.1.2⟩
theorem yJ {ns:List Int}{m:Jk}(h:m∈(bA ns).marks):m.glass<=1000000/\m.painting<=1000000:=by
 have n2:∀p,Gla.num (toB ns) p 2<65536:=λp=>qz _ p 2
 unfold bA IE at h
 simp only[Gc]at h
 obtain⟨i,_,rfl⟩:=h
 exact⟨by have:=n2 (Gla.HEAD+8*Gla.num (toB ns) 12 2+4*Gla.num (toB ns) 14 2+12*i+8);show Gla.num _ _ _<=_;omega,by have:=n2 (Gla.HEAD+8*Gla.num (toB ns) 12 2+4*Gla.num (toB ns) 14 2+12*i+10);show Gla.num _ _ _<=_;omega⟩
def Ad (K:GC):Sp:=λvs H Q _=>∃(ca ga qa da:Fi) (cs gs qs ds:List Int),vs=[.ref ca,.ref ga,.ref qa,.ref da]/\LI K H ca cs/\LI K H ga gs/\LI K H qa qs/\LI K H da ds/\rM (iX cs gs qs ds) H Q
theorem BR:ap ["cartoon","glasses","paintings","daylight"] ["cartoon","glasses","paintings","daylight"] (ah cT):=fsk
theorem Br (F:Has K mg "refusal_of_rows" cT ["cartoon","glasses","paintings","daylight"]) (C1:Cb P w K mg base 2 "is_light" ["row"] (Af K)) (C2:Cb P w K mg base 3 "refusal_of_shop" ["cartoon","glasses","paintings"] (wK K)) :
  Cb P w K mg base 4 "refusal_of_rows" ["cartoon","glasses","paintings","daylight"] (Ad K):=by
 refine F.cb BR (λvs H Q E h=>?_) (λ_ _ A _ s H vs Q E hr h=>?_)
 ·obtain⟨ca,ga,qa,da,cs,gs,qs,ds,rfl,_⟩:=h
  rfl
 ·obtain⟨ca,ga,qa,da,cs,gs,qs,ds,rfl,hc,hg,hq,hd,k⟩:=h
  have hr2:bf 2 _:=hr.mono (by decide)
  refine⟨_,ad (aX (iK (cA (aE C1 hr2 (aa (pv 3) ac)))) (ae (ak (dL (aa (lD i4 af) ac)))) aI)
   (ae (ak (aE C2 hr (aa (pv 0) (aa (pv 1) (aa (pv 2) ac)))))),?_⟩
  refine⟨_,rfl,da,ds,rfl,hd,_,rfl,?_⟩
  cases h1:LM.isL ds with
  |false =>
   exact eI ⟨_,rfl,(by show 1<=Fk;decide),λp hp=>k.some' (r:=[-1]) (by unfold iX;rw[h1];rfl) (al.refl H) p hp⟩
  |true =>
   have e:iX cs gs qs ds=oI cs gs qs:=by
    unfold iX oI
    rw[h1,GK]
   rw[e]at k
   refine jy ?_
   exact⟨_,rfl,_,rfl,_,rfl,ca,ga,qa,cs,gs,qs,rfl,hc,hg,hq,k⟩
def jt (i:Nat)(cs gs qs ds:List Int):List Int:=match iX cs gs qs ds with
 |some r=>r
 |none=>match Ag (di cs) with
  |some r=>r
  |none=>match (bA cs).marks[i]? with
   |none=>[-2]
   |some m=>match mP (cG gs qs (bA cs)) with
    |some r=>r
    |none=>0 :: ((LM.thI ds (plI gs qs m)).length:Int) :: LM.thI ds (plI gs qs m)
def tf (K:GC):Sp:=λvs H Q _=>∃(i:Nat) (ca ga qa da:Fi) (cs gs qs ds:List Int),vs=[.int (i:Int),.ref ca,.ref ga,.ref qa,.ref da]/\LI K H ca cs/\LI K H ga gs/\LI K H qa qs/\LI K H da ds/\Byt cs/\∀(H':Hp) (p:Fi),H' p=some (.lst (iV (jt i cs gs qs ds)))->Q (.ref p) H'
theorem kO:ap ["i","cartoon","glasses","paintings","daylight","refusal","verdict","marks"] ["i","cartoon","glasses","paintings","daylight"] (ah qj):=fsk
theorem zq (F:Has K mg "pane" qj ["i","cartoon","glasses","paintings","daylight"]) (T:DCl K mg C) (TV:VCl K mg CV) (gl:mg "len"=none) (C1:Cb P w K mg base 4 "refusal_of_rows" ["cartoon","glasses","paintings","daylight"] (Ad K)) (C2:Cb P w K mg base 7 "judge" ["cartoon"] (spJ K C CV)) (C3:Cb P w K mg base 1 "refusal_of_cartoon" ["verdict"] (DO CV)) (C4:Cb P w K mg base 3 "refusal_of_marks" ["marks","glasses","paintings"] (Ab K)) (C5:Cb P w K mg base 3 "seen_light" ["mark","glasses","paintings","daylight"] (El K)) (C6:Cb P w K mg base 1 "row_answer" ["row"] DN) :
  Cb P w K mg base 8 "pane" ["i","cartoon","glasses","paintings","daylight"] (tf K):=by
 refine F.cb kO (λvs H Q E h=>?_) (λ_ _ A _ s H vs Q E hr h=>?_)
 ·obtain⟨i,ca,ga,qa,da,cs,gs,qs,ds,rfl,_⟩:=h
  rfl
 ·obtain⟨i,ca,ga,qa,da,cs,gs,qs,ds,rfl,hc,hg,hq,hd,hb,k⟩:=h
  have hr1:bf 1 _:=hr.mono (by decide)
  have hr3:bf 3 _:=hr.mono (by decide)
  have hr4:bf 4 _:=hr.mono (by decide)
  refine⟨_,ad (aB (i:=5) kO.nd rfl (.inl rfl) (aE C1 hr4 (aa (pv 1) (aa (pv 2) (aa (pv 3) (aa (pv 4) ac))))))
   (ad (aX (aJ jn (pv 5) a9 (aH _)) (ae (ak (pv 5))) aI)
   (ad (aB (i:=6) kO.nd rfl (.inl rfl) (aE C2 hr (aa (pv 1) ac)))
   (ad (aB (i:=5) kO.nd rfl (.inl rfl) (aE C3 hr1 (aa (pv 6) ac)))
   (ad (aX (aJ jn (pv 5) a9 (aH _)) (ae (ak (pv 5))) aI)
   (ad (aB (i:=7) kO.nd rfl (.inl rfl) (aP (aP (pv 6) rfl) rfl))
   (ad (aX (aJ uh (pv 0) (aU aM (by rfl) gl Gh (aa (pv 7) ac)) (aH _)) (ae (ak (dL (aa (lD i4 af) ac)))) aI)
   (ad (aB (i:=5) kO.nd rfl (.inl rfl) (aE C4 hr3 (aa (pv 7) (aa (pv 2) (aa (pv 3) ac)))))
   (ad (aX (aJ jn (pv 5) a9 (aH _)) (ae (ak (pv 5))) aI)
   (ae (ak (aE C6 hr1 (aa (aE C5 hr3 (aa (aw aS (pv 7) (pv 0) (λ_ _=>rfl)) (aa (pv 2) (aa (pv 3) (aa (pv 4) ac))))) ac)))))))))))),?_⟩
  refine⟨_,rfl,_,rfl,_,rfl,_,rfl,ca,ga,qa,da,cs,gs,qs,ds,rfl,hc,hg,hq,hd,λv H1 s1 l1=>?_⟩
  cases e1:iX cs gs qs ds with
  |some r =>
   rw[e1]at l1
   obtain⟨q,rfl,hq1⟩:=l1.some
   refine⟨_,rfl,rfl,_,rfl,aQ (λ_=>⟨_,rfl,k H1 q ?_⟩) (λc=>absurd (by rw[dqf (by intro z;cases z)];rfl) c)⟩
   unfold jt
   rw[e1]
   exact hq1
  |none =>
  rw[e1]at l1
  obtain rfl:v=.non:=l1
  obtain⟨bg,bq,bd⟩:=ur e1
  refine⟨_,rfl,rfl,_,rfl,aQ (λc=>absurd c (by decide)) (λ_=>?_)⟩
  refine⟨_,rfl,ca,cs,rfl,hc.same s1,hb,λH2 ve dv ov s2 hve hdr=>?_⟩
  have s2:=s1.trans s2
  refine⟨_,rfl,ve,di cs,dv,ov,rfl,hve,λv H3 s3 l3=>?_⟩
  cases e2:di cs with
  |some x =>
   rw[e2]at l3
   obtain⟨q,rfl,hq1⟩:=l3.some
   refine⟨_,rfl,rfl,_,rfl,aQ (λ_=>⟨_,rfl,k H3 q ?_⟩) (λc=>absurd (by rw[dqf (by intro z;cases z)];rfl) c)⟩
   unfold jt
   rw[e1,e2]
   exact hq1
  |none =>
  rw[e2]at l3
  obtain rfl:v=.non:=l3
  obtain⟨d,rfl,hD,_⟩:=hdr e2
  have hD:=hD.same s3
  obtain⟨vx,fv,hv,_⟩:=hve
  have hv:=s3 _ _ hv
  have s3:=s2.trans s3
  have mb:=@yJ cs
  have epI:∀S,bA cs=S->jt i cs gs qs ds=match S.marks[i]? with
   |none=>[-2]
   |some m=>match mP (cG gs qs S) with
    |some r=>r
    |none=>0 :: ((LM.thI ds (plI gs qs m)).length:Int) :: LM.thI ds (plI gs qs m):=λS hS=>by
   unfold jt
   rw[e1,e2,hS]
   rfl
  refine⟨_,rfl,rfl,_,rfl,aQ (λc=>absurd c (by decide)) (λ_=>?_)⟩
  have epI:=epI _ rfl
  generalize bA cs=S at hD mb epI
  rw[epI]at k
  obtain⟨dx,p,l,m,ps,ls,ms,o⟩:=hD.op (K:=K)
  refine⟨_,rfl,ve,CV,vx,_,_,rfl,hv,TV.cl,TV.nD,EB,d,C,dx,_,_,rfl,o.at_,T.cl,T.nM,xF,?_⟩
  refine⟨_,rfl,_,rfl,m,_,rfl,.inl (SqL.of o.ml),_,_,rfl,rfl,_,rfl,?_⟩
  rw[lmp,o.mn]
  refine aQ (λc=>?_) (λc=>?_)
  ·have c:=Ff c
   refine⟨_,rfl,(by show 1<=Fk;decide),λq hq1=>k _ q ?_⟩
   rw[List.getElem?_eq_none (by omega)]
   exact ag
  ·have c:=aF c
   have hi:i<S.marks.length:=by omega
   rw[gge hi]at k
   have hmk:MkL H3 m ms S:=⟨o.ml,o.mn,λi b x e1 e2=>o.ma i b x e1 e2⟩
   refine⟨_,rfl,_,rfl,_,rfl,m,ga,qa,ms,S,gs,qs,rfl,hmk,hg.same s3,hq.same s3,λv H4 s4 l4=>?_⟩
   cases e3:mP (cG gs qs S) with
   |some r =>
    rw[e3]at l4
    obtain⟨q,rfl,hq1⟩:=l4.some
    refine⟨_,rfl,rfl,_,rfl,aQ (λ_=>⟨_,rfl,k H4 q ?_⟩) (λc=>absurd (by rw[dqf (by intro z;cases z)];rfl) c)⟩
    dsimp only
    rw[e3]
    exact hq1
   |none =>
   rw[e3]at l4
   obtain rfl:v=.non:=l4
   have s4':=s3.trans s4
   obtain⟨b,hbm⟩:=o.hasM hi
   have hrow:SqT K H4 b (iV (ke S.marks[i])):=SqT.of (s4 _ _ (o.ma i b _ hbm (gge hi)))
   obtain⟨mb1,mb2⟩:=mb (FS hi)
   refine⟨_,rfl,rfl,_,rfl,aQ (λc=>absurd c (by decide)) (λ_=>?_)⟩
   refine⟨_,rfl,_,rfl,m,_,_,_,rfl,rfl,SqL.of (s4 _ _ o.ml),aA (j:=i) rfl (aN hbm),_,rfl,_,rfl,_,rfl,b,ga,qa,da,S.marks[i],gs,qs,ds,rfl,hrow,hg.same s4',hq.same s4',hd.same s4',bg,bq,bd,mb1,mb2,λH5 r s5 hr5=>?_⟩
   have tl:=wu ds (plI gs qs S.marks[i])
   have dl:=hd.2
   refine⟨r,_,rfl,hr5,by omega,λH6 q s6 hq6=>k H6 q ?_⟩
   dsimp only
   rw[e3]
   exact hq6
section
variable  {S:Gla.Plan}
def fp (e:Gla.Fault):Int×Int:=((e.rule:Int),(e.place:Int))
theorem uv (r:Nat)(i:Nat):fp ⟨r,Gla.ptPlace i⟩=((r:Int),kM i):=by
 unfold fp Gla.ptPlace Gla.HEAD kM
 simp
theorem z9 (S:Gla.Plan)(r:Nat)(i:Nat):fp ⟨r,Gla.linePlace S i⟩=((r:Int),pX S i):=by
 unfold fp Gla.linePlace Gla.HEAD pX
 simp
theorem yr (S:Gla.Plan)(r:Nat)(i:Nat):fp ⟨r,Gla.markPlace S i⟩=((r:Int),mG S i):=by
 unfold fp Gla.markPlace Gla.HEAD mG
 simp
theorem rA (S:Gla.Plan):S.fault.map fp=k8 (bM S) (eo S):=by
 unfold Gla.Plan.fault bM
 cases h4:GD (ok4 S) Pt.below S.pts with
 |some i =>
  have e:o4 S=some (4,kM i):=by unfold o4;rw[h4];rfl
  have h4':GD (λ(p:Pt)=>decide (p.x<=S.w)&&decide (p.y<=S.h)) Pt.below S.pts=some i:=h4
  rw[h4',e]
  exact G5 some (uv 4 i)
 |none =>
 have e4:o4 S=none:=by unfold o4;rw[h4];rfl
 have h4':GD (λ(p:Pt)=>decide (p.x<=S.w)&&decide (p.y<=S.h)) Pt.below S.pts=none:=h4
 rw[h4',e4]
 dsimp only
 cases h5:GD (ok5 S) GL S.lines with
 |some i =>
  have e:o5 S=some (5,pX S i):=by unfold o5;rw[h5];rfl
  have h5':GD (λ(l:Nat×Nat)=>decide (l.1<l.2)&&decide (l.2<S.pts.length)) GL S.lines=some i:=h5
  rw[h5',e]
  exact G5 some (z9 S 5 i)
 |none =>
 have e5:o5 S=none:=by unfold o5;rw[h5];rfl
 have h5':GD (λ(l:Nat×Nat)=>decide (l.1<l.2)&&decide (l.2<S.pts.length)) GL S.lines=none:=h5
 rw[h5',e5]
 dsimp only
 cases h6:Jo S with
 |false =>
  have e:o6 S=some (6,20):=by unfold o6;rw[h6];rfl
  rw[Fs rfl,e]
  rfl
 |true =>
 have e6:o6 S=none:=by unfold o6;rw[h6];rfl
 rw[Fl (by decide),e6]
 cases h7:Gla.firstAt (IT S) S.lines with
 |some i =>
  have e:o7 S=some (7,pX S i):=by unfold o7;rw[h7];rfl
  rw[e]
  exact G5 some (z9 S 7 i)
 |none =>
 have e7:o7 S=none:=by unfold o7;rw[h7];rfl
 rw[e7]
 dsimp only
 cases h8:(FJ S.pts.length).find? λ(i:Nat)=>decide ((S.near i).length<2) with
 |some i =>
  have e:o8 S=some (8,kM i):=by unfold o8;rw[h8];rfl
  rw[e]
  exact G5 some (uv 8 i)
 |none =>
 have e8:o8 S=none:=by unfold o8;rw[h8];rfl
 rw[e8]
 dsimp only
 cases h9:(FJ S.pts.length).find? λ(i:Nat)=>!((lF S).getD i false) with
 |some i =>
  have e:o9 S=some (9,kM i):=by unfold o9;rw[h9];rfl
  have h9':((FJ S.pts.length).find? λ(i:Nat)=>!((IU S.nears S.pts.length 0 (Js S.pts.length)).getD i false))=some i:=h9
  rw[h9',e]
  exact G5 some (uv 9 i)
 |none =>
 have e9:o9 S=none:=by unfold o9;rw[h9];rfl
 have h9':((FJ S.pts.length).find? λ(i:Nat)=>!((IU S.nears S.pts.length 0 (Js S.pts.length)).getD i false))=none:=h9
 rw[h9',e9]
 dsimp only
 cases h10:(FJ S.pts.length).find? (Gla.cuts S.nears S.pts.length) with
 |some i =>
  have e:o10 S=some (10,kM i):=by unfold o10;rw[h10];rfl
  rw[e]
  exact G5 some (uv 10 i)
 |none =>
 have e10:o10 S=none:=by unfold o10;rw[h10];rfl
 rw[e10]
 dsimp only
 cases h11:GD (Ib S) Hn S.marks with
 |some i =>
  have e:o11 S=some (11,mG S i):=by unfold o11;rw[h11];rfl
  rw[e]
  exact G5 some (yr S 11 i)
 |none =>
 have e11:o11 S=none:=by unfold o11;rw[h11];rfl
 rw[e11]
 dsimp only
 unfold eo
 cases h12:Gla.twice S S.outlines 0 [] S.marks with
 |some i =>
  have e:o12 S=some (12,mG S i):=by unfold o12;rw[h12];rfl
  rw[e]
  exact G5 some (yr S 12 i)
 |none =>
 have e12:o12 S=none:=by unfold o12;rw[h12];rfl
 rw[e12]
 dsimp only
 show _=o13 S
 unfold o13
 by_cases c:S.marks.length<S.outlines.length
 ·rw[Fs c,Fs c]
  exact G5 some (yr S 13 S.marks.length)
 ·rw[Fl c,Fl c]
  rfl
end
theorem vZ {cs:List Int}(hb:Byt cs):Gla.judgePlan (toB cs)=match di cs with
  |none=>.ok (bA cs)
  |some _=>Gla.judgePlan (toB cs):=by
 cases e:di cs with
 |some x=>rfl
 |none =>
  unfold di at e
  obtain⟨e1,e2⟩:=d7 e
  rw[<-rA]at e2
  rw[ja hb]at e1
  have h1:fK (toB cs)=none:=by
   cases q:fK (toB cs) with
   |none=>rfl
   |some x=>rw[q]at e1;cases e1
  have h2:(IE (toB cs)).fault=none:=by
   cases q:(IE (toB cs)).fault with
   |none=>rfl
   |some x =>
    have e2:(IE (toB cs)).fault.map fp=none:=e2
    rw[q]at e2
    cases e2
  rw[l7,h1,h2]
  rfl
theorem vj {cs:List Int}(hb:Byt cs){x:Int×Int}(e:di cs=some x):∃ft,Gla.judgePlan (toB cs)=.error ft/\fp ft=x:=by
 unfold di at e
 cases h1:fK (toB cs) with
 |some ft =>
  have e1:dJ cs=some (fp ft):=by rw[ja hb,h1];rfl
  rw[e1]at e
  refine⟨ft,?_,osi e⟩
  rw[l7,h1]
 |none =>
  have e1:dJ cs=none:=by rw[ja hb,h1];rfl
  rw[e1]at e
  have e:k8 (bM (bA cs)) (eo (bA cs))=some x:=e
  rw[<-rA]at e
  have e:(IE (toB cs)).fault.map fp=some x:=e
  cases h2:(IE (toB cs)).fault with
  |none=>rw[h2]at e;cases e
  |some ft =>
   rw[h2]at e
   refine⟨ft,?_,osi e⟩
   rw[l7,h1,h2]
theorem yi {cs:List Int}(hb:Byt cs):LightNeutral.bytes cs=some (toB cs):=by
 unfold LightNeutral.bytes
 have e:NeutralIO.bytes cs=true:=by
  unfold NeutralIO.bytes
  rw[Gx]
  intro z hz
  have:=hb z hz
  simp only[Fn,Fq]
  omega
 rw[Fs e]
 rfl
theorem qS {gs qs:List Int}(hm:gs.length % 32=0)(hm2:qs.length % 32=0):GlaLits.many ⟨LM.aV gs,LM.aV qs⟩=(decide (256<LM.cnt gs)||decide (256<LM.cnt qs)):=by
 unfold GlaLits.many
 simp only[LM.d3 hm,LM.d3 hm2,lmp,GI]
 rfl
theorem wS {gs qs:List Int}(bg:Bd gs)(bq:Bd qs)(hm:gs.length % 32=0)(hm2:qs.length % 32=0){m:Jk}(h1:m.glass<LM.cnt gs)(h2:m.painting<=LM.cnt qs):Gla.lightOf ⟨LM.aV gs,LM.aV qs⟩ m=(plI gs qs m).map G4:=by
 unfold Gla.lightOf plI
 dsimp only
 rw[LM.qK hm h1]
 by_cases c:m.painting=0
 ·rw[Fs c,Fs c]
 ·rw[Fl c,Fl c,LM.qK hm2 (by omega),LM.ox (λx hx=>((bg.lat _) x hx).1) (λx hx=>((bq.lat _) x hx).1)]
theorem uW {i:Nat}{cs gs qs ds:List Int}(hb:Byt cs)(hg:∀x∈gs,0<=x)(hq:∀x∈qs,0<=x)(hd:∀x∈ds,0<=x):PyYqglfa.pane (i:Int) cs gs qs ds=LightNeutral.told (GlaLits.answer (.pane (toB cs) ⟨LM.aV gs,LM.aV qs⟩ i (ds.map G4))):=by
 have e:LightNeutral.callOf [[1,(i:Int)],cs,gs,qs,ds]=some (.pane (toB cs) ⟨LM.aV gs,LM.aV qs⟩ i (ds.map G4)):=by
  show(do some (GlaLits.Call.pane (<-LightNeutral.bytes cs) (<-LightNeutral.shop gs qs) (<-IC (i:Int)) (<-ds.mapM IC)))=_
  unfold LightNeutral.shop
  rw[yi hb,LM.lc _ hg,LM.lc _ hq,LM.nv hd]
  unfold IC
  rw[Fl (by omega),GG]
  rfl
 unfold PyYqglfa.pane LightNeutral.f
 rw[e]
theorem yX {i:Nat}{cs gs qs ds:List Int}(hb:Byt cs)(hg:∀x∈gs,0<=x)(hq:∀x∈qs,0<=x)(hd:∀x∈ds,0<=x):jt i cs gs qs ds=PyYqglfa.pane (i:Int) cs gs qs ds:=by
 rw[uW hb hg hq hd]
 have bu:GlaLits.asked (.pane (toB cs) ⟨LM.aV gs,LM.aV qs⟩ i (ds.map G4))=((LM.cn gs&&LM.cn qs)&&LM.isL ds):=by
  show(GlaLits.shopOk _&&Gla.lightOk _)=_
  unfold GlaLits.shopOk
  rw[LM.uj hg,LM.uj hq,LM.nY hd]
 unfold GlaLits.answer
 rw[bu]
 cases e1:iX cs gs qs ds with
 |some r =>
  have ep:jt i cs gs qs ds=r:=by unfold jt;rw[e1]
  rw[ep]
  unfold iX at e1
  by_cases c:(LM.isL ds&&(LM.cn gs&&LM.cn qs))=false
  ·rw[Fs c]at e1
   rw[Fs (by rw[Bool.and_comm];exact c),<-osi e1]
   rfl
  ·rw[Fl c]at e1
   rw[Fl (by rw[Bool.and_comm];exact c)]
   by_cases c2:(decide (131072<cs.length)||(decide (256<LM.cnt gs)||decide (256<LM.cnt qs)))=true
   ·rw[Fs c2]at e1
    have c:(LM.isL ds&&(LM.cn gs&&LM.cn qs))=true:=by
     cases q:(LM.isL ds&&(LM.cn gs&&LM.cn qs)) with
     |true=>rfl
     |false=>exact absurd q c
    rw[Fn,Fn]at c
    show r=LightNeutral.told (GlaLits.ofPlan _ _ _)
    unfold GlaLits.ofPlan
    rw[Fs ?_,<-osi e1]
    ·rfl
    ·rw[qS (LM.jT c.2.1) (LM.jT c.2.2)]
     have hl:(toB cs).length=cs.length:=by unfold toB;rw[lmp]
     rw[hl]
     rw[Hw,Fq]at c2
     exact c2
   ·rw[Fl c2]at e1
    cases e1
 |none =>
  obtain⟨bg,bq,bd⟩:=ur e1
  have c:(LM.isL ds&&(LM.cn gs&&LM.cn qs))=true/\¬(decide (131072<cs.length)||(decide (256<LM.cnt gs)||decide (256<LM.cnt qs)))=true:=by
   unfold iX at e1
   split at e1
   ·cases e1
   ·rename_i q
    split at e1
    ·cases e1
    ·rename_i q2
     refine⟨?_,q2⟩
     cases z:(LM.isL ds&&(LM.cn gs&&LM.cn qs)) with
     |true=>rfl
     |false=>exact absurd z q
  obtain⟨c,c2⟩:=c
  rw[Fl (by rw[Bool.and_comm,c];decide)]
  rw[Fn,Fn]at c
  have m1:=LM.jT c.2.1
  have m2:=LM.jT c.2.2
  show _=LightNeutral.told (GlaLits.ofPlan _ _ _)
  unfold GlaLits.ofPlan
  rw[Fl ?_]
  ·cases e2:di cs with
   |some x =>
    obtain⟨ft,hj,hx⟩:=vj hb e2
    rw[hj]
    unfold jt
    rw[e1,e2,<-hx]
    rfl
   |none =>
    have hj:=vZ hb
    rw[e2]at hj
    have hj:Gla.judgePlan (toB cs)=.ok (bA cs):=hj
    rw[hj]
    unfold jt
    rw[e1,e2]
    generalize bA cs=S
    show(match S.marks[i]? with
     |none=>[-2]
     |some m=>match mP (cG gs qs S) with
      |some r=>r
      |none=>0 :: ((LM.thI ds (plI gs qs m)).length:Int) :: LM.thI ds (plI gs qs m))=LightNeutral.told (match S.marks[i]? with
     |none=>GlaLits.NO
     |some m=>GlaLits.withShop ⟨LM.aV gs,LM.aV qs⟩ S (.row (Gla.seenOf ⟨LM.aV gs,LM.aV qs⟩ (ds.map G4) m)))
    cases hm:S.marks[i]? with
    |none=>rfl
    |some m =>
     dsimp only
     have hst:Gla.strange ⟨LM.aV gs,LM.aV qs⟩ S=cG gs qs S:=by
      unfold Gla.strange cG Gla.goesWith
      simp only[LM.d3 m1,LM.d3 m2,lmp,GI]
     unfold GlaLits.withShop
     rw[hst]
     cases hs:cG gs qs S with
     |some kx=>rfl
     |none =>
      obtain⟨hi,hmi⟩:=gsi hm
      have hno:=WL.fw hs i hi
      rw[hmi]at hno
      have hno:(decide (m.glass<LM.cnt gs)&&decide (m.painting<=LM.cnt qs))=true:=by
       cases q:(decide (m.glass<LM.cnt gs)&&decide (m.painting<=LM.cnt qs)) with
       |true=>rfl
       |false=>rw[q]at hno;cases hno
      rw[Fn,Fq,Fq]at hno
      show 0 :: _=0 :: LightNeutral.rowN (LightNeutral.ints (Gla.seenOf _ _ m))
      unfold Gla.seenOf
      rw[wS bg bq m1 m2 hno.1 hno.2,<-LM.ox (λx hx=>(bd x hx).1) (λx hx=>((yh bg bq m) x hx).1)]
      have hnn:=(bd.th (yh bg bq m))
      have ei:LightNeutral.ints ((LM.thI ds (plI gs qs m)).map G4)=LM.thI ds (plI gs qs m):=LM.gU (λx hx=>(hnn x hx).1)
      rw[ei]
      rfl
  ·rw[qS m1 m2]
   have hl:(toB cs).length=cs.length:=by unfold toB;rw[lmp]
   rw[hl]
   rw[Hw,Fq]at c2
   exact c2
end Wl
open PySem PySem.W PyProof.Rows
theorem Wl.ji {lo hi:Int}{n m:Nat}{l:List Int}(h:(Codec.inLen n m l&&l.all (Jp lo hi))=true):l.length<=m/\∀x∈l,lo<=x/\x<=hi:=by
 rw[Fn]at h
 refine⟨(Codec.inNat_iff.mp h.1).2,λx hx=>?_⟩
 have q:=Gx.mp h.2 x hx
 unfold Jp at q
 rw[Fn,Fq,Fq]at q
 exact q
theorem Wl.wY {P:FW}{w:G0}{K:GC}{mg:Str->Option Value}{base:Heap}{C CV:Fi}(T:Wl.DCl K mg C)(TV:Wl.VCl K mg CV)
  (g0:∃t,mg "HEAD_BYTES"=some (.int 20 t)) (g1:∃t,mg "POINT_BYTES"=some (.int 8 t)) (g2:∃t,mg "LINE_BYTES"=some (.int 4 t)) (g3:∃t,mg "MARK_BYTES"=some (.int 12 t)) (g4:∃t,mg "MOST_LIGHTS"=some (.int 256 t)) (g5:∃t,mg "MOST_BYTES"=some (.int 131072 t)) (g6:∃t,mg "BANDS"=some (.int 32 t)) (g7:∃t,mg "FULL"=some (.int 65535 t))
  (o0:mg "len"=none) (o1:mg "range"=none) (o2:mg "enumerate"=none) (o3:mg "list"=none) (o4:mg "reversed"=none) (o5:mg "min"=none) (o6:mg "max"=none) (o7:mg "zip"=none)
  (gS:Wl.B7 K mg "SIGN" CM.jx) (gH:Wl.Aa K mg "HEAD_NUMBERS" CM.eR)
  (I1:Wg.rO K C "Drawing.__init__" Wl.g9 ["self","width","height","points","lines","marks"]) (I2:Wg.rO K CV "Verdict.__init__" Wl.jk ["self","fault","drawing","outlines"])
  (M1:Wg.lQ K C "place_of_point" "Drawing.place_of_point" Wl.ki ["self","k"]) (M2:Wg.lQ K C "place_of_line" "Drawing.place_of_line" Wl.j9 ["self","k"]) (M3:Wg.lQ K C "place_of_mark" "Drawing.place_of_mark" Wl.kj ["self","k"]) (M4:Wg.lQ K C "place_of_end" "Drawing.place_of_end" Wl.jR ["self"])
  (F0:Wg.Has K mg "number_at" Wl.gf ["cartoon","place","size"])
  (F1:Wg.Has K mg "told_length" Wl.eK ["cartoon"])
  (F2:Wg.Has K mg "fault_of_bytes" Wl.dF ["cartoon"])
  (F3:Wg.Has K mg "read_point" Wl.fg ["cartoon","place"])
  (F4:Wg.Has K mg "read_line" Wl.gg ["cartoon","place"])
  (F5:Wg.Has K mg "read_mark" Wl.fZ ["cartoon","place"])
  (F6:Wg.Has K mg "read_drawing" Wl.bP ["cartoon"])
  (F7:Wg.Has K mg "turn" Wl.qo ["p","q","r"])
  (F8:Wg.Has K mg "comes_behind" Wl.ek ["q","p"])
  (F9:Wg.Has K mg "is_in_box" Wl.fY ["p","q","r"])
  (F10:Wg.Has K mg "is_on" Wl.l6 ["p","q","r"])
  (F11:Wg.Has K mg "are_parted" Wl.fc ["p","q","r","s"])
  (F12:Wg.Has K mg "do_cross" Wl.gW ["p","q","r","s"])
  (F13:Wg.Has K mg "twice_area" Wl.fj ["corners"])
  (F14:Wg.Has K mg "is_left_beside" Wl.dw ["p","q","r"])
  (F15:Wg.Has K mg "is_inside" Wl.gh ["corners","r"])
  (F16:Wg.Has K mg "fault_of_points" Wl.cZ ["drawing"])
  (F17:Wg.Has K mg "fault_of_lines" Wl.dE ["drawing"])
  (F18:Wg.Has K mg "are_joined_in_a_row" Wl.bT ["numbers","lines"])
  (F19:Wg.Has K mg "fault_of_frame" Wl.ba ["drawing"])
  (F20:Wg.Has K mg "has_point_on_it" Wl.cW ["drawing","line"])
  (F21:Wg.Has K mg "crosses_one_before" Wl.b7 ["drawing","k"])
  (F22:Wg.Has K mg "fault_of_crossings" Wl.bY ["drawing"])
  (F23:Wg.Has K mg "neighbours_of" Wl.cF ["drawing"])
  (F24:Wg.Has K mg "reached_from" Wl.df ["start","neighbours","left_out"])
  (F25:Wg.Has K mg "fault_of_ends" Wl.dU ["drawing","neighbours"])
  (F26:Wg.Has K mg "fault_of_ways" Wl.dW ["drawing","neighbours"])
  (F27:Wg.Has K mg "fault_of_narrows" Wl.cv ["drawing","neighbours"])
  (F28:Wg.Has K mg "is_within_frame" Wl.cP ["drawing","mark"])
  (F29:Wg.Has K mg "is_on_some_line" Wl.cX ["drawing","mark"])
  (F30:Wg.Has K mg "fault_of_marks" Wl.dt ["drawing"])
  (F31:Wg.Has K mg "fault_of_drawing" Wl.cu ["drawing"])
  (F32:Wg.Has K mg "sorted_by_turn" Wl.dz ["points","middle","ends"])
  (F33:Wg.Has K mg "ring_round" Wl.du ["points","middle","ends"])
  (F34:Wg.Has K mg "walk_round" Wl.fB ["rings","first","second"])
  (F35:Wg.Has K mg "points_at" Wl.eS ["points","corners"])
  (F36:Wg.Has K mg "outlines_of" Wl.dP ["drawing"])
  (F37:Wg.Has K mg "holder_of" Wl.gd ["mark","shapes"])
  (F38:Wg.Has K mg "judge_marks" Wl.cJ ["drawing","outlines"])
  (F39:Wg.Has K mg "judge" Wl.lU ["cartoon"])
  (F40:Wg.Has K mg "are_within" Wl.fu ["row","least","greatest"])
  (F41:Wg.Has K mg "is_light" Wl.gT ["row"])
  (F42:Wg.Has K mg "are_lights" Wl.fk ["row"])
  (F43:Wg.Has K mg "how_many_lights" Wl.cS ["row"])
  (F44:Wg.Has K mg "light_at" Wl.gX ["row","k"])
  (F45:Wg.Has K mg "light_through" Wl.cI ["one","other"])
  (F46:Wg.Has K mg "first_mark_without_light" Wl.bp ["marks","glasses","paintings"])
  (F47:Wg.Has K mg "pane_light" Wl.eZ ["mark","glasses","paintings"])
  (F48:Wg.Has K mg "seen_light" Wl.fh ["mark","glasses","paintings","daylight"])
  (F49:Wg.Has K mg "refusal_of_shop" Wl.cU ["cartoon","glasses","paintings"])
  (F50:Wg.Has K mg "refusal_of_rows" Wl.cT ["cartoon","glasses","paintings","daylight"])
  (F51:Wg.Has K mg "refusal_of_cartoon" Wl.b5 ["verdict"])
  (F52:Wg.Has K mg "refusal_of_marks" Wl.cE ["marks","glasses","paintings"])
  (F53:Wg.Has K mg "row_answer" Wl.fz ["row"])
  (F54:Wg.Has K mg "pane" Wl.qj ["i","cartoon","glasses","paintings","daylight"]) :
  Wg.Cb P w K mg base 8 "pane" ["i","cartoon","glasses","paintings","daylight"] (Wl.tf K):=by
 have m1:=Wl.Cu (P:=P) (w:=w) (base:=base) M1 g0 g1
 have m2:=Wl.Eg M2 T o0 g2 m1
 have m3:=Wl.Ea M3 T o0 g3 m2
 have m4:=Wl.Cg M4 T o0 m3
 have i1:=Wl.zO (P:=P) (w:=w) (base:=base) I1 T
 have i2:=Wl.At (P:=P) (w:=w) (base:=base) I2 TV
 have num:=Wl.AY (P:=P) (w:=w) (base:=base) F0 o4
 have told:=Wl.zK F1 g0 g1 g2 g3 num
 have fb:=Wl.Dx F2 o0 o3 g0 gS gH num told
 have rp:=Wl.Ct F3 num
 have rl:=Wl.BT F4 num
 have rm:=Wl.Cc F5 rp rl
 have rd:=Wl.DG F6 T o0 o1 g0 g1 g2 g3 num rp rl rm i1
 have turn:=Wl.yC (P:=P) (w:=w) (base:=base) F7
 have beh:=Wl.Cd (P:=P) (w:=w) (base:=base) F8
 have box:=Wl.Bt (P:=P) (w:=w) (base:=base) F9 o5 o6
 have on_:=Wl.B1 F10 turn box
 have part:=Wl.yV F11 turn
 have cross:=Wl.yd F12 part
 have area:=Wl.y8 (P:=P) (w:=w) (base:=base) F13
 have bes:=Wl.AT F14 turn
 have ins:=Wl.CQ F15 bes
 have f4:=Wl.B4 F16 T o2 m1 beh
 have f5:=Wl.DS F17 T o2 o0 m2
 have jr:=Wl.B3 (P:=P) (w:=w) (base:=base) F18 o1 o0
 have f6:=Wl.D7 F19 T o2 o3 m1 jr
 have ho:=Wl.Dc F20 T o1 on_
 have xo:=Wl.Cy F21 T o1 cross
 have f7:=Wl.B5 F22 T o2 ho xo m2
 have nb:=Wl.D9 (P:=P) (w:=w) (base:=base) F23 T
 have rf:=Wl.BW (P:=P) (w:=w) (base:=base) F24 o0
 have f8:=Wl.C0 F25 T o2 o0 m1
 have f9:=Wl.Ch F26 T o2 m1 rf
 have f10:=Wl.Bk F27 T o1 o0 m1 rf
 have wf:=Wl.CG (P:=P) (w:=w) (base:=base) F28 T
 have ol:=Wl.Dy F29 T on_
 have f11:=Wl.Bg F30 T o2 m3 beh wf ol
 have fd:=Wl.DZ F31 f4 f5 f6 f7 nb f8 f9 f10 f11
 have st:=Wl.Dg F32 o0 turn
 have rr:=Wl.Dk F33 st
 have wr:=Wl.BX (P:=P) (w:=w) (base:=base) F34
 have pa:=Wl.De (P:=P) (w:=w) (base:=base) F35
 have out:=Wl.Ar F36 T o2 nb rr wr area pa
 have hold:=Wl.zm F37 o2 ins
 have jm:=Wl.Db F38 T TV o2 o0 i2 pa hold m3 m4
 have j:=Wl.Er F39 TV i2 fb rd fd out jm
 have wit:=Wl.Bc (P:=P) (w:=w) (base:=base) F40
 have isl:=Wl.Bj F41 g6 o0 g7 wit
 have arel:=Wl.yY F42 g6 o0 g7 wit
 have cnt:=Wl.A8 (P:=P) (w:=w) (base:=base) F43 g6 o0
 have lat:=Wl.A7 (P:=P) (w:=w) (base:=base) F44 g6
 have thr:=Wl.AH (P:=P) (w:=w) (base:=base) F45 g7 o7
 have fm:=Wl.DA F46 o2 cnt
 have pn:=Wl.Dv F47 lat thr
 have sn:=Wl.Ds F48 pn thr
 have ra:=Wl.Do (P:=P) (w:=w) (base:=base) F53 o0
 have sh:=Wl.zb F49 o0 g4 g5 arel cnt
 have r1:=Wl.Br F50 isl sh
 have rc:=Wl.Dt (P:=P) (w:=w) (base:=base) F51 TV
 have rm1:=Wl.AG F52 fm
 exact Wl.zq F54 T TV o0 r1 j rc rm1 sn ra
open PySem PySem.W L2 Wg Hd
theorem Wl.left:LeftO PySem.Challenge.pw_windowlight_s01_pane Wl.qv [] (λs=>xlAt Wl.qv [] s&&recOk [] s) (λs=>Wl.fx (nw s.heap)) (λ_=>Wl.ax) 5080:=CT (by kernel_rfl) (by decide +kernel) (λs=>by kernel_rfl) (λw=>by kernel_rfl) Wl.k1 Wl.k0 Wl.k2 Wl.k3
end
section
open PySem PySem.W PyProof.Rows L2 Wg Hd
set_option maxRecDepth 100000 in
set_option maxHeartbeats 0 in
theorem PySem.Challenge.cw_windowlight_s01_pane_holds : PySem.Challenge.rw_windowlight_s01_pane.Holds := by
 refine holds_os (q:=Wl.qv) (loose:=[]) (Xt:=λs=>xlAt Wl.qv [] s&&recOk [] s) (XP:=XL Wl.qv []) (Yf:=λs=>Wl.fx (nw s.heap)) (Ya:=λ_=>Wl.ax) (YP:=λ_ h=>∃K:GC,K.In h/\Wl.fx K=Wl.ax) (N:=5080) Wl.left
  (λw s e=>⟨_,u6 _,e⟩) (λw h h' y k=>by obtain⟨K,a,b⟩:=y;exact⟨K,λx o e=>k x o (a x o e),b⟩) (λs e=>xl_of s (GN.mp e).1) XL.keeps (by rfl) (by rfl) (by rfl) (λs e=>recFacts_of (GN.mp e).2) os_shapes
  (by decide +kernel) (by decide +kernel) ⟨rfl,rfl,rfl,rfl,rfl,by decide +kernel⟩ ⟨[.int 0,.list [],.list [],.list [],.list []],by decide +kernel,by decide +kernel⟩ ?_
 refine Hd.Ec (k:=8) (ps:=["i","cartoon","glasses","paintings","daylight"]) (sp:=Wl.tf) (by decide +kernel) rfl rfl ⟨rfl,by decide,by decide⟩ ?F ?S
 case F =>
  intro w mg fa h K hx KX G hmg
  obtain⟨h1,hx⟩:=Hm hx
  obtain⟨h2,hx⟩:=Hm hx
  obtain⟨h3,hx⟩:=Hm hx
  obtain⟨h4,hx⟩:=Hm hx
  obtain⟨h5,h6⟩:=Hm hx
  have F0:=bu (ps:=["cartoon","place","size"]) KX G (nth h1 0 rfl)
  have F1:=bu (ps:=["cartoon"]) KX G (nth h1 1 rfl)
  have F2:=bu (ps:=["cartoon"]) KX G (nth h1 2 rfl)
  have F3:=bu (ps:=["cartoon","place"]) KX G (nth h1 3 rfl)
  have F4:=bu (ps:=["cartoon","place"]) KX G (nth h1 4 rfl)
  have F5:=bu (ps:=["cartoon","place"]) KX G (nth h1 5 rfl)
  have F6:=bu (ps:=["cartoon"]) KX G (nth h1 6 rfl)
  have F7:=bu (ps:=["p","q","r"]) KX G (nth h1 7 rfl)
  have F8:=bu (ps:=["q","p"]) KX G (nth h1 8 rfl)
  have F9:=bu (ps:=["p","q","r"]) KX G (nth h1 9 rfl)
  have F10:=bu (ps:=["p","q","r"]) KX G (nth h1 10 rfl)
  have F11:=bu (ps:=["p","q","r","s"]) KX G (nth h1 11 rfl)
  have F12:=bu (ps:=["p","q","r","s"]) KX G (nth h1 12 rfl)
  have F13:=bu (ps:=["corners"]) KX G (nth h1 13 rfl)
  have F14:=bu (ps:=["p","q","r"]) KX G (nth h1 14 rfl)
  have F15:=bu (ps:=["corners","r"]) KX G (nth h1 15 rfl)
  have F16:=bu (ps:=["drawing"]) KX G (nth h1 16 rfl)
  have F17:=bu (ps:=["drawing"]) KX G (nth h1 17 rfl)
  have F18:=bu (ps:=["numbers","lines"]) KX G (nth h1 18 rfl)
  have F19:=bu (ps:=["drawing"]) KX G (nth h1 19 rfl)
  have F20:=bu (ps:=["drawing","line"]) KX G (nth h1 20 rfl)
  have F21:=bu (ps:=["drawing","k"]) KX G (nth h1 21 rfl)
  have F22:=bu (ps:=["drawing"]) KX G (nth h1 22 rfl)
  have F23:=bu (ps:=["drawing"]) KX G (nth h1 23 rfl)
  have F24:=bu (ps:=["start","neighbours","left_out"]) KX G (nth h1 24 rfl)
  have F25:=bu (ps:=["drawing","neighbours"]) KX G (nth h1 25 rfl)
  have F26:=bu (ps:=["drawing","neighbours"]) KX G (nth h1 26 rfl)
  have F27:=bu (ps:=["drawing","neighbours"]) KX G (nth h1 27 rfl)
  have F28:=bu (ps:=["drawing","mark"]) KX G (nth h1 28 rfl)
  have F29:=bu (ps:=["drawing","mark"]) KX G (nth h1 29 rfl)
  have F30:=bu (ps:=["drawing"]) KX G (nth h1 30 rfl)
  have F31:=bu (ps:=["drawing"]) KX G (nth h1 31 rfl)
  have F32:=bu (ps:=["points","middle","ends"]) KX G (nth h1 32 rfl)
  have F33:=bu (ps:=["points","middle","ends"]) KX G (nth h1 33 rfl)
  have F34:=bu (ps:=["rings","first","second"]) KX G (nth h1 34 rfl)
  have F35:=bu (ps:=["points","corners"]) KX G (nth h1 35 rfl)
  have F36:=bu (ps:=["drawing"]) KX G (nth h1 36 rfl)
  have F37:=bu (ps:=["mark","shapes"]) KX G (nth h1 37 rfl)
  have F38:=bu (ps:=["drawing","outlines"]) KX G (nth h1 38 rfl)
  have F39:=bu (ps:=["cartoon"]) KX G (nth h1 39 rfl)
  have F40:=bu (ps:=["row","least","greatest"]) KX G (nth h1 40 rfl)
  have F41:=bu (ps:=["row"]) KX G (nth h1 41 rfl)
  have F42:=bu (ps:=["row"]) KX G (nth h1 42 rfl)
  have F43:=bu (ps:=["row"]) KX G (nth h1 43 rfl)
  have F44:=bu (ps:=["row","k"]) KX G (nth h1 44 rfl)
  have F45:=bu (ps:=["one","other"]) KX G (nth h1 45 rfl)
  have F46:=bu (ps:=["marks","glasses","paintings"]) KX G (nth h1 46 rfl)
  have F47:=bu (ps:=["mark","glasses","paintings"]) KX G (nth h1 47 rfl)
  have F48:=bu (ps:=["mark","glasses","paintings","daylight"]) KX G (nth h1 48 rfl)
  have F49:=bu (ps:=["cartoon","glasses","paintings"]) KX G (nth h1 49 rfl)
  have F50:=bu (ps:=["cartoon","glasses","paintings","daylight"]) KX G (nth h1 50 rfl)
  have F51:=bu (ps:=["verdict"]) KX G (nth h1 51 rfl)
  have F52:=bu (ps:=["marks","glasses","paintings"]) KX G (nth h1 52 rfl)
  have F53:=bu (ps:=["row"]) KX G (nth h1 53 rfl)
  have F54:=bu (ps:=["i","cartoon","glasses","paintings","daylight"]) KX G (nth h1 54 rfl)
  obtain⟨C,mC,cl,mk,kc,nf,mt⟩:=B2 KX G (nth h4 0 rfl)
  obtain⟨CV,mV,clV,mkV,kcV,nfV,mtV⟩:=B2 KX G (nth h4 1 rfl)
  have T:Wl.DCl K mg C:=⟨cl,nf _ (.head _),nf _ (.tail _ (.head _)),nf _ (.tail _ (.tail _ (.head _))),nf _ (.tail _ (.tail _ (.tail _ (.head _)))),nf _ (.tail _ (.tail _ (.tail _ (.tail _ (.head _))))),mC⟩
  have TV:Wl.VCl K mg CV:=⟨clV,nfV _ (.head _),nfV _ (.tail _ (.head _)),nfV _ (.tail _ (.tail _ (.head _))),mV⟩
  have I1:=DL (ps:=["self","width","height","points","lines","marks"]) mk kc (mt _ (.head _))
  have I2:=DL (ps:=["self","fault","drawing","outlines"]) mkV kcV (mtV _ (.head _))
  have M1:=yU (ps:=["self","k"]) (mt _ (.tail _ (.head _)))
  have M2:=yU (ps:=["self","k"]) (mt _ (.tail _ (.tail _ (.head _))))
  have M3:=yU (ps:=["self","k"]) (mt _ (.tail _ (.tail _ (.tail _ (.head _)))))
  have M4:=yU (ps:=["self"]) (mt _ (.tail _ (.tail _ (.tail _ (.tail _ (.head _))))))
  exact F54.top hmg λbase _ _=>Wl.wY T TV (qP KX G (nth h2 0 rfl)) (qP KX G (nth h2 1 rfl)) (qP KX G (nth h2 2 rfl)) (qP KX G (nth h2 3 rfl)) (qP KX G (nth h2 4 rfl)) (qP KX G (nth h2 5 rfl)) (qP KX G (nth h2 6 rfl)) (qP KX G (nth h2 7 rfl)) (mg_none_of KX G (nth h3 0 rfl)) (mg_none_of KX G (nth h3 1 rfl)) (mg_none_of KX G (nth h3 2 rfl)) (mg_none_of KX G (nth h3 3 rfl)) (mg_none_of KX G (nth h3 4 rfl)) (mg_none_of KX G (nth h3 5 rfl)) (mg_none_of KX G (nth h3 6 rfl)) (mg_none_of KX G (nth h3 7 rfl)) (Et (by decide) KX G h5) (Dd (by decide) (by decide) KX G h6) I1 I2 M1 M2 M3 M4 F0 F1 F2 F3 F4 F5 F6 F7 F8 F9 F10 F11 F12 F13 F14 F15 F16 F17 F18 F19 F20 F21 F22 F23 F24 F25 F26 F27 F28 F29 F30 F31 F32 F33 F34 F35 F36 F37 F38 F39 F40 F41 F42 F43 F44 F45 F46 F47 F48 F49 F50 F51 F52 F53 F54
 case S =>
  intro K H xs a hO hwi bu hx
  cases hx with
  |cons h0 r0 =>
  cases r0 with
  |cons h1 r1 =>
  cases r1 with
  |cons h2 r2 =>
  cases r2 with
  |cons h3 r3 =>
  cases r3 with
  |cons h4 r4 =>
  cases r4
  cases h0
  cases h1 with
  |lst hs1 ha1 =>
  cases h2 with
  |lst hs2 ha2 =>
  cases h3 with
  |lst hs3 ha3 =>
  cases h4 with
  |lst hs4 ha4 =>
  have e1:=L2.kf a.2.1 _ ha1
  subst e1
  have e2:=L2.kf a.2.2.1 _ ha2
  subst e2
  have e3:=L2.kf a.2.2.2.1 _ ha3
  subst e3
  have e4:=L2.kf a.2.2.2.2.1 _ ha4
  subst e4
  have q:(Jp 0 4294967295 a.1&&((Codec.inLen 0 100000 a.2.1&&a.2.1.all (Jp 0 255))&&((Codec.inLen 0 9000 a.2.2.1&&a.2.2.1.all (Jp 0 4294967295))&&((Codec.inLen 0 9000 a.2.2.2.1&&a.2.2.2.1.all (Jp 0 4294967295))&&((Codec.inLen 0 100 a.2.2.2.2.1&&a.2.2.2.2.1.all (Jp 0 4294967295))&&true)))))=true:=hwi
  obtain⟨q0,q⟩:=GN.mp q
  obtain⟨q1,q⟩:=GN.mp q
  obtain⟨q2,q⟩:=GN.mp q
  obtain⟨q3,q⟩:=GN.mp q
  obtain⟨q4,q⟩:=GN.mp q
  obtain⟨l1,b1⟩:=Wl.ji q1
  obtain⟨l2,b2⟩:=Wl.ji q2
  obtain⟨l3,b3⟩:=Wl.ji q3
  obtain⟨l4,b4⟩:=Wl.ji q4
  unfold Jp at q0
  rw[Fn,Fq,Fq]at q0
  have e0:((a.1.toNat:Nat):Int)=a.1:=by omega
  refine⟨a.1.toNat,_,_,_,_,a.2.1,a.2.2.1,a.2.2.2.1,a.2.2.2.2.1,by rw[e0],⟨hs1,by omega⟩,⟨hs2,by omega⟩,⟨hs3,by omega⟩,⟨hs4,by omega⟩,b1,λH' p hp=>?_⟩
  rw[Wl.yX b1 (λx hx=>(b2 x hx).1) (λx hx=>(b3 x hx).1) (λx hx=>(b4 x hx).1),e0]at hp
  exact .lst (L2.SqL.of hp) (L2.tZ _)
end
