import PyProof.Rows.All
import Wide.All
import OpenK.AllK
import Wide.FinOn
import PyProof.EqAt
import PyProof.EqKinds
import PyProof.TupleCall
import KE.BitLaws
import Open.SpecLaws
import KE.OsHead
import KE.OsGo
import PySem.Challenge.RW_windowlight_s02_all_of
set_option Elab.async false
set_option linter.all false
set_option maxRecDepth 100000
set_option maxHeartbeats 4000000
open PySem.W (Frag)
theorem bcn {p : Prop} (h : ¬p → False) : p := Classical.byContradiction h
theorem osi {α : Type} {a b : α} (h : some a = some b) : a = b := Option.some.inj h
theorem dqf {p : Prop} [Decidable p] (h : ¬p) : decide p = false := decide_eq_false h
theorem dqt {p : Prop} [Decidable p] (h : p) : decide p = true := decide_eq_true h
theorem nlr (n : Nat) : n ≤ n := Nat.le_refl n
theorem gsi {α : Type} {l : List α} {i : Nat} {a : α} (h : l[i]? = some a) : ∃ h : i < l.length, l[i] = a := List.getElem?_eq_some_iff.mp h
theorem gge {α : Type} {l : List α} {i : Nat} (h : i < l.length) : l[i]? = some l[i] := List.getElem?_eq_getElem h
theorem lmp {α β : Type} {l : List α} (f : α → β) : (l.map f).length = l.length := List.length_map f
open PySem renaming wpAny_bind→FZ,Shared→Ga,Addr→Gb,sizeLine→Ge,wpAny_pure→Gz,starEach→GM,wpAny→GO,Program→GQ,mainGlobals→GX,mem_of_lookup→G1,Spec→G3,model→G4,boot_len→G6,compareOp→HI,World→HJ,wpAny_truthy_bool→Ib,cellsFrom→Ie,Stmt→Iw,wpAny_typeNameOfWhole_keyiter→IG,bootBuiltins→IM,sysModules→IZ,wpAny_passesOwn→Ji,wpAny_typeNameOf_keyiter→Jm,wpAny_callSpecial?_slot→Ju,wpAny_call_entry→Jw,backTo→JC,wpAny_Call_Name_kw→JE,keywordEach→JF,wpAny_loadPart'→JG,wpAny_mono→JS,behindInMarks→JT,FuncData→JU,eval→JZ,compEnvC→J4
open List renaming mem_cons_of_mem→Gc,length_append→Gd,mem_cons→Gh,size_toArray→Gm,getElem?_map→Gp,getD_eq_getElem?_getD→Gr,mem_cons_self→Gv,map_cons→Gw,getElem?_append_right→Gx,map_append→GA,getElem?_append_left→GB,getElem_mem→GC,range→GE,getElem_of_mem→GI,mem_append→GK,length_cons→GL,length_drop→GN,mem_map→GP,mem_filter→GR,replicate→GS,pairwise_iff_getElem→GT,mem_of_getElem?→GV,length_take→GY,dropLast_concat_getLast→G2,pairwise_cons→Hh,all_eq_true→Hk,length_range→Hl,length_zip→Hm,pairwise_append→Hv,take_length→Hx,mem_range→Hz,mem_of_mem_take→HE,take_of_length_le→HH,mem_append_right→HL,append_nil→HM,nodup_cons→HN,map_congr_left→HP,nil_append→HY,length_replicate→Ig,foldl_cons→Il,length_eq_zero_iff→Im,mem_take_iff_getElem→Iu,drop_eq_getElem_cons→Iv,zip_cons_cons→IC,lookup_cons→IF,getLast_mem→IH,any_eq_true→II,getElem?_set_ne→IJ,mem_of_mem_drop→IK,map_map→IP,find?_cons→IR,getElem?_range→IS,idxOf_lt_length_of_mem→IT,drop_eq_nil_of_le→IW,map_take→Ja,mem_iff_getElem?→Jb,find?_eq_none→Je,contains_iff_mem→Jf,eq_nil_or_concat→Jg,length_filter_le→Jh,any_eq_false→Jj,length_nil→Jl,getElem_drop→Jo,find?_eq_some_iff_getElem→Jq,getElem?_replicate→Js,replicate_succ→Jt,getElem_zip→Jx,getElem?_set_self→JA,mem_filterMap→JD,map_nil→JH,range_succ→JJ,concat_eq_append→JK,map_drop→JX,mem_iff_getElem→J0,cons_append→J5,mem_flatMap→J6,lookup→J7
open Int renaming mul_nonneg→Gg,mul_pos→Gs,toNat→Ht,toNat_natCast→HD,mul_comm→Ii,mul_eq_zero→IA,le_of_lt→Jd
open Bool renaming and_eq_true→Gi,false_ne_true→Go,eq_iff_iff→G0,false_and→G5,false_xor→Hs,noConfusion→Hw,true_and→HA,xor_false→HU,and_eq_true_iff→HX,or_eq_true→Iz,xor_comm→Jc,xor_self→Jv,and_false→J2,true_or→Kb
open PySem.Heap renaming get?_push_of_some→Gn,lt_size→Gq,get?_push_size→GF,size_push→HC,get?_update_other→Iq,get?_update_self→Iy
open PySem.PassesOwn renaming never→Gy
open Nat renaming lt_of_lt_of_le→GD,min_eq_right→GG,min_eq_left→GH,le_trans→GU,ne_of_lt→GW,lt_of_le_of_lt→G8,lt_or_gt_of_ne→Hf,max_eq_right→Hg,zero_le→Hj,not_lt_zero→Hn,sub_self→HG,max_eq_left→HQ,le_add_right→HS,zero_add→Ih,lt_irrefl→Ik,ne_of_gt→Ix,add_le_add_left→IV,le_of_lt→Jp,lt_succ_of_lt→JW
open Ne renaming symm→GJ
open PySem.Value renaming ref→GZ,none→JR
open PyProof.Rows renaming callWith_type1→G7,IntsAre→JB
open PySem.PyData renaming int→G9,tuple→JL,canLayAll0→JY
open PySem.F renaming plainAttrs_list→Ho,slot_list_append→ID,type_list_append→IE,slot_enumerate_next→JM,plain_extend_loop→J9
open PySem.W renaming Frag→Hq,emptyDict→Ic,findIn→Ij,keepIn→Ir,fnOf→IN,instObj→IQ,codeIn→J1
open Or renaming inr→Hr,inl→HZ
open Gla renaming firstBad→Hu,lineBelow→HB,turn→HW,markBelow→Ip,Mark→IX,markOk→I0,parts→Jy,touches→JN,seenFrom→JO,insideOf→JP,frameOk→Ka,noneSeen→Kd
open Array renaming getElem?_setIfInBounds_ne→Hy,getD_eq_getD_getElem?→HR,toList_setIfInBounds→IY,length_toList→Jr,getElem?_eq_getElem→J3
open False renaming elim→HV
open Prod.mk renaming inj→Io
open PySem.Obj renaming mapSeq→IB
open PySem.Builtin.Range renaming rangeSize→IL
open PySem.Builtin.List renaming listExtendWith→IU,listTooLong→Jk
open List.Pairwise renaming imp_of_mem→Jn
open Classical renaming choose_spec→JQ
open PySem.Builtin.SmallTypes renaming ownedTupleIsFree→J8
open PySem.W.Codec renaming encAll→Kc
def FY:=@of_decide_eq_true
def Gf:=@if_neg
def Gj:=@decide_eq_true_eq
def Gk:=@if_pos
def Gu:=@decide_eq_decide
def HK:=@beq_eq_false_iff_ne
def Ia:=@congrArg
def Jz:=@beq_iff_eq
def JI:=@decide_false
def JV:=@if_false
namespace L2
open PySem PySem.Spec PyProof.Rows
def jt (s:Iw)(j:Nat):Iw:=match s with
 |.ClassDef _ _ _ body _ _ _ _ _ _ _=>body.getD j (.Pass ⟨0,0,0,0⟩)
 |_=>.Pass ⟨0,0,0,0⟩
def dh (s:Iw):Arguments:=match s with
 |.FunctionDef _ a _ _ _ _ _ _ _ _=>a
 |_=>{ posonlyargs:=[],args:=[],vararg:=none,kwonlyargs:=[],kw_defaults:=[],kwarg:=none,defaults:=[] }
def bZ (s:Iw):List Iw:=match s with
 |.FunctionDef _ _ b _ _ _ _ _ _ _=>b
 |_=>[]
def ag (s:Iw):Scope:=match s with
 |.FunctionDef _ _ _ _ _ _ sc _ _ _=>sc
 |_=>{ kind:=.function,names:=[],isGenerator:=false,isCoroutine:=false }
end L2
namespace CM
open PySem PySem.Spec
def jL:List Int:=[71,76,65,49]
def eY:List (List Int):=[[4,4,16,1048575],[8,4,16,1048575],[12,2,4,4096],[14,2,4,8192],[16,2,1,2048],[18,2,0,0]]
end CM
namespace Hd
open PySem PySem.W PyProof.Rows L2
def m6 (h:Heap):Hq:=(GE h.objs.size).filterMap λa=>(h.get? a).map λo=>(a,o)
abbrev FI:=Arguments×FuncBody×Scope×Str×Str×Gb×List (Str×Gb)×Value×Gb×Bool
def na (K:Hq)(f:Gb):Option FI:=match K.lookup f with
 |some ⟨_,_,.func fd,_⟩=>some (fd.params,fd.body,fd.scope,fd.name,fd.qualname,fd.globals,fd.closure,fd.defaults,fd.builtins,codeIn K fd.code fd.qualname)
 |_=>none
def sK (n q:Str)(st:Iw):FI:=(dh st,.stmts (bZ st),ag st,n,q,GX,[],.none,builtinsNs,true)
def jD (K:Hq)(x:Str):Option Gb:=match nsIn K GX x with
 |some (some (.ref f))=>some f
 |_=>none
def xA (K:Hq)(x:Str):Option FI:=(jD K x).bind (na K)
def wR (K:Hq)(x:Str):Option Int:=match nsIn K GX x with
 |some (some (.int i _))=>some i
 |_=>none
def AX (K:Hq)(C:Gb)(m:Str):Option (Bool×Option FI):=match findIn K (.ref C) m with
 |some (some (.ref f))=>some (isFn K (.ref f),na K f)
 |_=>none
abbrev CI:=List Bool×List (Option (Option Value))×List (Option (Bool×Option FI))
def yV (K:Hq)(c:Str)(fields:List Str)(ms:List (Str×Str×Iw)):Option CI:=(jD K c).map λC =>
 ([plainGet K C Str.empty,hasDictIn K C,plainOver K C,makesIn K C,keepIn K (.ref C)],findIn K (.ref C) "__setattr__" :: fields.map (findIn K (.ref C)),ms.map λm=>AX K C m.1)
def Br (fields:List Str)(ms:List (Str×Str×Iw)):CI:=([true,true,true,true,true],some (some (.builtin "object.__setattr__")) :: fields.map (λ_=>some none),ms.map λm=>some (true,some (sK m.1 m.2.1 m.2.2)))
def iF (K:Hq)(p:Gb):Option (Value×List Value):=match K.lookup p with
 |some ⟨c,_,.seq its _,_⟩=>some (c,its.toList)
 |_=>none
def Dj:Value->Option Int
 |.int i _=>some i
 |_=>none
def ni (K:Hq)(p:Gb):Option (Value×List (Option Int)):=(iF K p).map λx=>(x.1,x.2.map Dj)
def x9 (K:Hq)(x:Str):Option (Value×List (Option Int)):=(jD K x).bind (ni K)
def BD (K:Hq):Value->Option (Value×List (Option Int))
 |.ref b=>ni K b
 |_=>none
def t7 (K:Hq)(x:Str):Option (Value×List (Option (Value×List (Option Int)))):=(jD K x).bind λp=>(iF K p).map λy=>(y.1,y.2.map (BD K))
def qr (r:List Int):Value×List (Option Int):=(.type "tuple",r.map some)
noncomputable def qH (p:GQ) (N:Nat) (w:HJ) (os:OsState):Option Ga:=PySem.W.Fast.tw14082659384304107361 PySem.W.Fast.tw14364793385576792824 p w (boot_heap w.params).objs.size ((boot_heap w.params).nsMap GX "__annotations__") N ⟨boot_heap w.params,Array.mk [],boot_drawn,boot_toks,os⟩ (topStub p)
noncomputable def yR (p:GQ) (w:HJ) (s:Ga):Bool:=staticsOk (importedModules p.main.body) (boot_heap w.params) s.heap&&namesBound p s.heap&&gensDone s&&laidKept (boot_heap w.params) s.heap
noncomputable def lE (p q:GQ) (s:Ga):=PySem.W.Fast.tw4187177175401517315 q [] (importedModules p.main.body) (λs=>xlAt q [] s&&recOk [] s) true s
end Hd
namespace Wl
open PySem PySem.W PyProof.Rows L2 Hd
def top (i:Nat):Iw:=PySem.Challenge.pw_windowlight_s02_all_of.main.body.getD i (.Pass ⟨0,0,0,0⟩)
abbrev gK:Iw:=top 7
abbrev gm:Iw:=top 8
abbrev eX:Iw:=top 9
abbrev dF:Iw:=top 10
abbrev fH:Iw:=top 11
abbrev gn:Iw:=top 12
abbrev gp:Iw:=top 13
abbrev bV:Iw:=top 14
abbrev qb:Iw:=top 16
abbrev eC:Iw:=top 17
abbrev gd:Iw:=top 18
abbrev mf:Iw:=top 19
abbrev fA:Iw:=top 20
abbrev iC:Iw:=top 21
abbrev fB:Iw:=top 22
abbrev dG:Iw:=top 23
abbrev gt:Iw:=top 24
abbrev dj:Iw:=top 26
abbrev dL:Iw:=top 27
abbrev b5:Iw:=top 28
abbrev bn:Iw:=top 29
abbrev di:Iw:=top 30
abbrev b7:Iw:=top 31
abbrev ck:Iw:=top 32
abbrev cP:Iw:=top 33
abbrev dz:Iw:=top 34
abbrev d6:Iw:=top 35
abbrev d3:Iw:=top 36
abbrev cK:Iw:=top 37
abbrev c8:Iw:=top 38
abbrev db:Iw:=top 39
abbrev dP:Iw:=top 40
abbrev cM:Iw:=top 41
abbrev dN:Iw:=top 43
abbrev dI:Iw:=top 44
abbrev fL:Iw:=top 45
abbrev fe:Iw:=top 46
abbrev dY:Iw:=top 47
abbrev wA:Iw:=top 49
abbrev gb:Iw:=top 50
abbrev cS:Iw:=top 51
abbrev mo:Iw:=top 52
abbrev fz:Iw:=top 56
abbrev ig:Iw:=top 57
abbrev fK:Iw:=top 58
abbrev dg:Iw:=top 59
abbrev iu:Iw:=top 60
abbrev cQ:Iw:=top 61
abbrev bD:Iw:=top 63
abbrev fM:Iw:=top 64
abbrev fI:Iw:=top 65
abbrev dO:Iw:=top 66
abbrev dc:Iw:=top 70
abbrev de:Iw:=top 71
abbrev b8:Iw:=top 72
abbrev cN:Iw:=top 73
abbrev cv:Iw:=top 74
abbrev fw:Iw:=top 75
abbrev gZ:Iw:=top 76
abbrev ik:Iw:=jt gK 0
abbrev km:Iw:=jt gK 1
abbrev kz:Iw:=jt gK 2
abbrev kC:Iw:=jt gK 3
abbrev kJ:Iw:=jt gK 4
abbrev jw:Iw:=jt wA 0
def qv:GQ:={ PySem.Challenge.pw_windowlight_s02_all_of with main:={ PySem.Challenge.pw_windowlight_s02_all_of.main with body:=([1,2,3,4,5,6,7,8,9,10,11,12,13,14,16,17,18,19,20,21,22,23,24,26,27,28,29,30,31,32,33,34,35,36,37,38,39,40,41,43,44,45,46,47,49,50,51,52,54,55,56,57,58,59,60,61,63,64,65,66,68,69,70,71,72,73,74,75,76]:List Nat).map top } }
def Ft:List (Str×Iw):=[("number_at",gm),("told_length",eX),("fault_of_bytes",dF),("read_point",fH),("read_line",gn),("read_mark",gp),("read_drawing",bV),("turn",qb),("comes_behind",eC),("is_in_box",gd),("is_on",mf),("are_parted",fA),("do_cross",iC),("twice_area",fB),("is_left_beside",dG),("is_inside",gt),("fault_of_points",dj),("fault_of_lines",dL),("are_joined_in_a_row",b5),("fault_of_frame",bn),("has_point_on_it",di),("crosses_one_before",b7),("fault_of_crossings",ck),("neighbours_of",cP)]
def FF:List (Str×Iw):=[("reached_from",dz),("fault_of_ends",d6),("fault_of_ways",d3),("fault_of_narrows",cK),("is_within_frame",c8),("is_on_some_line",db),("fault_of_marks",dP),("fault_of_drawing",cM),("sorted_by_turn",dN),("ring_round",dI),("walk_round",fL),("points_at",fe),("outlines_of",dY),("holder_of",gb),("judge_marks",cS),("judge",mo),("are_within",fz),("is_light",ig),("are_lights",fK),("how_many_lights",dg),("light_at",iu),("light_through",cQ),("first_mark_without_light",bD),("pane_light",fM)]
def FN:List (Str×Iw):=[("seen_light",fI),("mean_light",dO),("refusal_of_shop",dc),("refusal_of_rows",de),("refusal_of_cartoon",b8),("refusal_of_marks",cN),("refusal_of_window",cv),("row_answer",fw),("all_of",gZ)]
def dfs:List (Str×Iw):=Ft++FF++FN
def nms:List (Str×Int):=[("HEAD_BYTES",20),("POINT_BYTES",8),("LINE_BYTES",4),("MARK_BYTES",12),("MOST_LIGHTS",256),("MOST_BYTES",131072),("BANDS",32),("FULL",65535)]
def nns:List Str:=["len","range","enumerate","list","reversed","min","max","zip"]
def cls:List (Str×List Str×List (Str×Str×Iw)):=[("Drawing",["width","height","points","lines","marks"],[("__init__","Drawing.__init__",ik),("place_of_point","Drawing.place_of_point",km),("place_of_line","Drawing.place_of_line",kz),("place_of_mark","Drawing.place_of_mark",kC),("place_of_end","Drawing.place_of_end",kJ)]),("Verdict",["fault","drawing","outlines"],[("__init__","Verdict.__init__",jw)])]
def fx (K:Hq):=(dfs.map (λd=>xA K d.1),nms.map (λd=>wR K d.1),nns.map (nsIn K GX),cls.map (λc=>yV K c.1 c.2.1 c.2.2),x9 K "SIGN",t7 K "HEAD_NUMBERS")
def ax:=(dfs.map (λd=>some (sK d.1 d.1 d.2)),nms.map (λd=>some d.2),nns.map (λ_=>(some none:Option (Option Value))),cls.map (λc=>some (Br c.2.1 c.2.2)),some (qr CM.jL),some ((.type "tuple" : Value),CM.eY.map λr=>some (qr r)))
theorem k1:∀w os,(qH PySem.Challenge.pw_windowlight_s02_all_of 5176 w os).map (λs=>(yR PySem.Challenge.pw_windowlight_s02_all_of w s,(lE PySem.Challenge.pw_windowlight_s02_all_of qv s).1))=some (true,(openGood qv []).1):=λw os=>by kernel_rfl
theorem k0:∀w os,(qH PySem.Challenge.pw_windowlight_s02_all_of 5176 w os).map (λs=>((lE PySem.Challenge.pw_windowlight_s02_all_of qv s).2.1,(lE PySem.Challenge.pw_windowlight_s02_all_of qv s).2.2.1))=some ((openGood qv []).2.1,(openGood qv []).2.2.1):=λw os=>by kernel_rfl
theorem k2:∀w os,(qH PySem.Challenge.pw_windowlight_s02_all_of 5176 w os).map (λs=>(lE PySem.Challenge.pw_windowlight_s02_all_of qv s).2.2.2)=some (openGood qv []).2.2.2:=λw os=>by kernel_rfl
theorem k3:∀w os,(qH PySem.Challenge.pw_windowlight_s02_all_of 5176 w os).map (λs=>fx (m6 s.heap))=some ax:=λw os=>by kernel_rfl
end Wl
namespace L2
open PySem PySem.Spec PyProof.Rows
abbrev Key:=Sum Int Str
def lL:Key->Value->Bool
 |.inl k,v=>Value.isInt k v
 |.inr x,v=>Value.isStrOf x v
def Fw (w:HJ):Key->Int
 |.inl k=>hashInt k
 |.inr x=>hashStr w x
theorem bU:∀{k:Key} {v:Value},lL k v=true->(∃i t,k=Sum.inl i/\v=Value.int i t)\/(∃x t,k=Sum.inr x/\v=Value.str x t)
 |.inl i,v,h=>by
  obtain⟨t,e⟩:=Value.isInt_shape (k:=i) (v:=v) h
  exact .inl ⟨i,t,rfl,e⟩
 |.inr x,v,h=>by
  obtain⟨t,e⟩:=Value.isStrOf_shape (x:=x) (v:=v) h
  exact .inr ⟨x,t,rfl,e⟩
theorem wt (i:Int)(t:Tok):lL (.inl i) (.int i t)=true:=by simp[lL,Value.isInt]
theorem vt (x:Str)(t:Tok):lL (.inr x) (.str x t)=true:=by simp[lL,Value.isStrOf]
theorem BR (a b:Int):decide ((Sum.inl a:Key)=Sum.inl b)=(a==b):=by
 by_cases e:a=b
 ·subst e;simp
 ·have h:¬(Sum.inl a:Key)=Sum.inl b:=λq=>e (Sum.inl.inj q)
  rw[dqf h]
  exact(HK.mpr e).symm
theorem A1 (a b:Str):decide ((Sum.inr a:Key)=Sum.inr b)=decide (a=b):=by
 by_cases e:a=b
 ·subst e;simp
 ·have h:¬(Sum.inr a:Key)=Sum.inr b:=λq=>e (Sum.inr.inj q)
  rw[dqf h,dqf e]
theorem Bl (a:Int)(b:Str):decide ((Sum.inl a:Key)=Sum.inr b)=false:=dqf (λq=>nomatch q)
theorem Bw (a:Str)(b:Int):decide ((Sum.inr a:Key)=Sum.inl b)=false:=dqf (λq=>nomatch q)
def df (prog:GQ)(w:HJ):PySem.KeyKind prog w Key where
 is:=lL
 hash:=Fw w
 inj:=λv a b ha hb=>by
  rcases bU ha with⟨i,t,rfl,rfl⟩|⟨x,t,rfl,rfl⟩
  ·rcases bU hb with⟨j,u,rfl,e⟩|⟨y,u,rfl,e⟩
   ·injection e with e1 _;rw[e1]
   ·exact nomatch e
  ·rcases bU hb with⟨j,u,rfl,e⟩|⟨y,u,rfl,e⟩
   ·exact nomatch e
   ·injection e with e1 _;rw[e1]
 byValue:=λk v h=>by
  rcases bU h with⟨i,t,rfl,rfl⟩|⟨x,t,rfl,rfl⟩<;>rfl
 pyHash:=λhv h=>by
  rcases bU hv with⟨i,t,rfl,rfl⟩|⟨x,t,rfl,rfl⟩
  ·exact wpAny_pyHash_int h
  ·exact wpAny_pyHash_str h
 eqBool:=λhu hv h=>by
  rcases bU hu with⟨i,t,rfl,rfl⟩|⟨x,t,rfl,rfl⟩
  ·rcases bU hv with⟨j,u,rfl,rfl⟩|⟨y,u,rfl,rfl⟩
   ·rw[BR]at h;exact wpAny_eqBool_int h
   ·rw[Bl]at h;exact SeqAt.EqAt.int_str i t y u _ _ _ _ h
  ·rcases bU hv with⟨j,u,rfl,rfl⟩|⟨y,u,rfl,rfl⟩
   ·rw[Bw]at h;exact SeqAt.EqAt.str_int x t j u _ _ _ _ h
   ·rw[A1]at h;exact wpAny_eqBool_str h
 «strs»:=λk x t v h=>by
  rcases bU h with⟨i,u,rfl,e⟩|⟨y,u,rfl,e⟩
  ·exact nomatch e
  ·injection e with e1 _
   subst e1
   cases v<;>rfl
theorem sW (prog:GQ)(w:HJ)(i:Int)(t:Tok):(df prog w).is (.inl i) (.int i t)=true:=wt i t
theorem rh (prog:GQ)(w:HJ)(x:Str)(t:Tok):(df prog w).is (.inr x) (.str x t)=true:=vt x t
end L2
namespace L2
open PySem PySem.Spec PyProof.Rows
inductive V where
 |non|bl (b:Bool)|int (i:Int)|str (x:Str)|byt (b:Array UInt8)|flt (b:UInt64)|ref (a:Gb)|ty (n:String)
 deriving DecidableEq
def a5:V->Value->Prop
 |.non,u=>u=JR
 |.bl b,u=>u=Value.bool b
 |.int i,u=>∃t,u=Value.int i t
 |.str x,u=>∃t,u=Value.str x t
 |.byt b,u=>∃t,u=Value.bytes b t
 |.flt b,u=>∃t,u=Value.float b t
 |.ref a,u=>u=GZ a
 |.ty n,u=>u=Value.type n
abbrev aS:List V->List Value->Prop:=Paired a5
theorem aS.length {xs:List V}{us:List Value}(r:aS xs us):xs.length=us.length:=Paired.length r
theorem aS.get:∀{xs:List V} {us:List Value} {i:Nat} {x:V},aS xs us->xs[i]? = some x->∃u,us[i]? = some u/\a5 x u
 |_,_,_,_,.nil,e=>by simp at e
 |_,_,0,_,.cons r _,e=>by simp at e;subst e;exact⟨_,rfl,r⟩
 |_,_,i+1,x,.cons _ t,e=>by
  obtain⟨u,h1,h2⟩:=aS.get (i:=i) (x:=x) t (by simpa using e)
  exact⟨u,by simpa using h1,h2⟩
theorem aS.set {x:V}{u:Value}(r:a5 x u):∀{xs:List V} {us:List Value} (i:Nat),aS xs us->aS (xs.set i x) (us.set i u)
 |_,_,_,.nil=>.nil
 |_,_,0,.cons _ t=>.cons r t
 |_,_,i+1,.cons q t=>.cons q (aS.set r i t)
theorem aS.append:∀{xs ys:List V} {us ws:List Value},aS xs us->aS ys ws->aS (xs++ys) (us++ws)
 |_,_,_,_,.nil,s=>s
 |_,_,_,_,.cons r t,s=>.cons r (aS.append t s)
theorem aS.take:∀{xs:List V} {us:List Value} (n:Nat),aS xs us->aS (xs.take n) (us.take n)
 |_,_,0,_=>.nil
 |_,_,_+1,.nil=>.nil
 |_,_,n+1,.cons r t=>.cons r (aS.take n t)
theorem aS.drop:∀{xs:List V} {us:List Value} (n:Nat),aS xs us->aS (xs.drop n) (us.drop n)
 |_,_,0,r=>r
 |_,_,_+1,.nil=>.nil
 |_,_,n+1,.cons _ t=>aS.drop n t
def kG:Option V->Option Value->Prop
 |some v,some u=>a5 v u
 |none,none=>True
 |_,_=>False
def KV {κ:Type}:List (κ×V)->List (κ×Value)->Prop:=Paired λ(p:κ×V) (q:κ×Value)=>p.1=q.1/\a5 p.2 q.2
def kV:Key->V
 |.inl i=>.int i
 |.inr x=>.str x
inductive HO where
 |lst (xs:List V)
 |tup (xs:List V)
 |dK (kvs:List (Key×V))|dT (kvs:List (List Key×V))
 |set (S:Int->Bool) (n:Nat)
 |ins (C dx:Gb) (fs:List (Str×V))
 |own (x:Gb)
 |xd (fs:List (Str×V))
 |met (f x:Gb)
 |rng (lo hi:Int)
 |frz (o:Obj) (u:HO)
 |tbl (ps:Array Value)
 |ext (φ:Heap->Prop)
abbrev Hp:=Gb->Option HO
def upd (H:Hp)(a:Gb)(o:HO):Hp:=λb=>if b=a then some o else H b
theorem ae {H:Hp}{a:Gb}{o:HO}:upd H a o a=some o:=by unfold upd;rw[Gk rfl]
theorem ap {H:Hp}{a b:Gb}{o:HO}(h:b≠a):upd H a o b=H b:=by unfold upd;rw[Gf h]
theorem uz {H:Hp}{a:Gb}{o u:HO}:upd (upd H a o) a u=upd H a u:=by
 funext b;unfold upd;split<;>rfl
theorem Es {H:Hp}{a b:Gb}{o u:HO}(h:H a=some o)(h':H b=some u)(d:o≠u):a≠b:=by
 intro e;subst e;rw[h]at h';exact d (osi h')
theorem aO {H:Hp}{a b:Gb}{o:HO}(h:H a=some o)(h':H b=none):a≠b:=by
 intro e;subst e;rw[h]at h';cases h'
section
variable  (P:GQ)(w:HJ)
def b9 (H:Hp)(h:Heap)(a:Gb):HO->Prop
 |.lst xs=>xs.length<=Ge/\∃(its:List Value) (n:Nat),aS xs its/\h.get? a=some { cls:=.type "list",data:=.seq its.toArray n }
 |.tup xs=>xs.length<=Ge/\∃its:List Value,aS xs its/\IsTup h a its.toArray
 |.dK kvs=>kvs.length<=Ge/\(a==IZ)=false/\∃vs,KV kvs vs/\h.DictOf (df P w) a vs
 |.dT kvs=>kvs.length<=Ge/\(a==IZ)=false/\∃xs:List (List Key×Gb×Value),
   Paired (λ(p:List Key×V) (q:List Key×Gb×Value)=>p.1=q.1/\H q.2.1=some (.tup (p.1.map kV))/\a5 p.2 q.2.2) kvs xs /\
   ∃o es ep,h.get? a=some o/\o.ExactDict/\o.data=.dict es ep/\es.toList=xs.map (entryOfKey (tupleKind (df P w)))/\(xs.map (·.1)).Nodup
 |.set S n=>h.SetOf (intKind P w) a S n
 |.ins C dx fs=>H dx=some (.own a)/\fs.length<=1000/\dx≠a/\h.get? a=some (IQ C dx) /\
   ∃mA,h.Ns1 dx mA/\(∀f,kG (fs.lookup f) (mA f))/\PySem.Within mA (fs.map (·.1))
 |.own _=>∃o,h.get? a=some o
 |.xd fs=>∃mA,h.Ns1 a mA/\∀f,kG (fs.lookup f) (mA f)
 |.rng lo hi=>∃t u v,h.get? a=some { cls:=.type "range",data:=.fields #[.int lo t,.int hi u,.int 1 v] }
 |.frz o u=>h.get? a=some o/\b9 H h a u
 |.tbl ps=>h.get? a=some { cls:=.none,data:=.fields ps }
 |.met f x=>h.get? a=some (PySem.W.methodObj (.ref f) (.ref x))
 |.ext φ=>φ h/\(∃o,h.get? a=some o)/\∀h1 h2:Heap,φ h1->(∀o,h1.get? a=some o->h2.get? a=some o)->φ h2
def HOk (H:Hp)(h:Heap):Prop:=∀a o,H a=some o->b9 P w H h a o
end
section
variable  {P:GQ}{w:HJ}{H H':Hp}{h h':Heap}{a:Gb}{o:HO}
theorem b9.lt (x:b9 P w H h a o):a<h.objs.size:=by
 cases o with
 |lst xs=>obtain⟨_,_,_,_,e⟩:=x;exact Gq e
 |tup xs=>obtain⟨_,_,_,p⟩:=x;exact p.lt
 |dK kvs=>obtain⟨_,_,_,_,o,_,_,e,_⟩:=x;exact Gq e
 |dT kvs=>obtain⟨_,_,_,_,o,_,_,e,_⟩:=x;exact Gq e
 |set S n=>obtain⟨o,_,_,_,e,_⟩:=x;exact Gq e
 |ins C dx fs=>obtain⟨_,_,_,e,_⟩:=x;exact Gq e
 |own y=>obtain⟨_,e⟩:=x;exact Gq e
 |xd fs=>obtain⟨_,⟨_,_,_,e,_⟩,_⟩:=x;exact Gq e
 |rng lo hi=>obtain⟨_,_,_,e⟩:=x;exact Gq e
 |frz ob u=>obtain⟨e,_⟩:=x;exact Gq e
 |tbl ps=>exact Gq (show h.get? a=some _ from x)
 |met f y=>exact Gq (show h.get? a=some _ from x)
 |ext φ=>obtain⟨_,⟨_,e⟩,_⟩:=x;exact Gq e
theorem Paired.mapP {α β:Type}{F G:α->β->Prop}:∀{l₁:List α} {l₂:List β},Paired F l₁ l₂->(∀a b,F a b->G a b)->Paired G l₁ l₂
 |_,_,.nil,_=>.nil
 |_,_,.cons r t,f=>.cons (f _ _ r) (Paired.mapP t f)
theorem b9.stay (x:b9 P w H h a o)(k:∀b u,(b=a\/H b=some (.own a))->h.get? b=some u->h'.get? b=some u)
  (ho:∀b,H b=some (.own a)->H' b=some (.own a)) (ht:∀b xs,H b=some (.tup xs)->H' b=some (.tup xs)):b9 P w H' h' a o:=by
 induction o with
 |lst xs=>obtain⟨z,its,n,r,e⟩:=x;exact⟨z,its,n,r,k _ _ (.inl rfl) e⟩
 |tup xs=>obtain⟨z,its,r,ob,e,c⟩:=x;exact⟨z,its,r,ob,k _ _ (.inl rfl) e,c⟩
 |dK kvs=>obtain⟨z,y,vs,r,ob,es,ep,e,c⟩:=x;exact⟨z,y,vs,r,ob,es,ep,k _ _ (.inl rfl) e,c⟩
 |dT kvs =>
  obtain⟨z,y,xs,r,ob,es,ep,e,c⟩:=x
  exact⟨z,y,xs,Paired.mapP r λp q z=>⟨z.1,ht _ _ z.2.1,z.2.2⟩,ob,es,ep,k _ _ (.inl rfl) e,c⟩
 |set S n=>obtain⟨ob,es,ep,t,e,c⟩:=x;exact⟨ob,es,ep,t,k _ _ (.inl rfl) e,c⟩
 |ins C dx fs =>
  obtain⟨d,z,ne,e,mA,⟨od,es,ep,e2,c⟩,r⟩:=x
  exact⟨ho _ d,z,ne,k _ _ (.inl rfl) e,mA,⟨od,es,ep,k _ _ (.inr d) e2,c⟩,r⟩
 |own y=>obtain⟨ob,e⟩:=x;exact⟨ob,k _ _ (.inl rfl) e⟩
 |xd fs=>obtain⟨mA,⟨od,es,ep,e,c⟩,r⟩:=x;exact⟨mA,⟨od,es,ep,k _ _ (.inl rfl) e,c⟩,r⟩
 |rng lo hi=>obtain⟨t,u,v,e⟩:=x;exact⟨t,u,v,k _ _ (.inl rfl) e⟩
 |frz ob u ih=>obtain⟨e,q⟩:=x;exact⟨k _ _ (.inl rfl) e,ih q⟩
 |tbl ps =>
  have e:h.get? a=some { cls:=.none,data:=.fields ps }:=x
  show h'.get? a=some { cls:=.none,data:=.fields ps }
  exact k a _ (.inl rfl) e
 |met f y =>
  have e:h.get? a=some (PySem.W.methodObj (.ref f) (.ref y)):=x
  show h'.get? a=some (PySem.W.methodObj (.ref f) (.ref y))
  exact k a _ (.inl rfl) e
 |ext φ=>obtain⟨p,⟨o,e⟩,st⟩:=x;exact⟨st _ _ p λo q=>k _ _ (.inl rfl) q,⟨o,k _ _ (.inl rfl) e⟩,st⟩
theorem HOk.lt (x:HOk P w H h)(e:H a=some o):a<h.objs.size:=(x a o e).lt
theorem HOk.fresh (x:HOk P w H h)(e:h.objs.size<=a):H a=none:=by
 cases q:H a with
 |none=>rfl
 |some u=>exact absurd (GD (x.lt q) e) (Ik _)
theorem HOk.kept (x:HOk P w H h)(k:∀b u,h.get? b=some u->h'.get? b=some u):HOk P w H h':=λa o e =>
 (x a o e).stay (λb u _ q=>k b u q) (λ_ q=>q) λ_ _ q=>q
theorem HOk.laid (x:HOk P w H h)(k:∀b u,h.get? b=some u->h'.get? b=some u)(hp:h.objs.size<=a)(new:b9 P w (upd H a o) h' a o):HOk P w (upd H a o) h':=λb u e=>by
 have hn:=x.fresh hp
 by_cases hb:b=a
 ·subst hb;rw[ae]at e;cases e;exact new
 ·rw[ap hb]at e
  exact(x b u e).stay (λc v _ q=>k c v q) (λc q=>by rw[ap (aO q hn)];exact q) λc xs q=>by rw[ap (aO q hn)];exact q
end
def Rd (H:Hp)(a:Gb)(u:HO):Prop:=H a=some u\/∃o,H a=some (.frz o u)
theorem Rd.ok {P:GQ}{w:HJ}{H:Hp}{h:Heap}{a:Gb}{u:HO}(r:Rd H a u)(x:HOk P w H h):b9 P w H h a u:=by
 rcases r with r|⟨o,r⟩
 ·exact x a u r
 ·obtain⟨_,q⟩:=x a _ r
  exact q
def Mut:Option HO->Prop
 |some (.lst _)=>True
 |some (.dK _)=>True
 |some (.dT _)=>True
 |some (.set _ _)=>True
 |some (.ins _ _ _)=>True
 |some (.ext _)=>True
 |_=>False
section
variable  {P:GQ}{w:HJ}{H:Hp}{h h':Heap}{x e:Gb}{o':HO}
theorem HOk.write (ok:HOk P w H h)(mu:Mut (H x))(he:e=x\/H e=some (.own x))(k:∀b u,b≠e->h.get? b=some u->h'.get? b=some u)(heo:∃u,h'.get? e=some u)
  (new:b9 P w (upd H x o') h' x o'):HOk P w (upd H x o') h':=λb u q=>by
 have nown:∀c y,H c=some (.own y)->c≠x:=λc y r z=>by subst z;rw[r]at mu;exact mu
 have ntup:∀c xs,H c=some (.tup xs)->c≠x:=λc xs r z=>by subst z;rw[r]at mu;exact mu
 by_cases hb:b=x
 ·subst hb;rw[ae]at q;cases q;exact new
 ·rw[ap hb]at q
  by_cases hbe:b=e
  ·have q':H b=some (.own x):=by
    rcases he with z|z
    ·exact absurd (hbe.trans z) hb
    ·rw[hbe];exact z
   rw[q]at q';cases q'
   obtain⟨v,hv⟩:=heo
   exact⟨v,by rw[hbe];exact hv⟩
  ·refine(ok b u q).stay (λc v hc r=>k c v ?_ r) (λc r=>by rw[ap (nown c b r)];exact r) λc xs r=>by rw[ap (ntup c xs r)];exact r
   rcases hc with rfl|hc
   ·exact hbe
   ·rintro rfl
    rcases he with z|z
    ·exact nown c b hc z
    ·rw[hc]at z;cases z;exact hb rfl
end
structure Un (fs ex:List Gb)(H H':Hp)(h h':Heap):Prop where
 keep:∀b o,h.get? b=some o->H b=none->b∉fs->b∉ex->h'.get? b=some o
 slot:∀b o,h.get? b=some o->H b=none->b∈fs->b∉ex->∃sl,h'.get? b=some { o with slots:=sl }
 free:∀b o,h.get? b=some o->H b=none->b∉ex->H' b=none
 there:∀b o,h.get? b=some o->b∉ex->∃o',h'.get? b=some o'
 tups:∀b xs,H b=some (.tup xs)->H' b=some (.tup xs)
 frzs:∀b o u,H b=some (.frz o u)->H' b=some (.frz o u)
 tbls:∀b ps,H b=some (.tbl ps)->∃more,H' b=some (.tbl (ps++more))
section
variable  {fs fs' ex ex':List Gb}{H H1 H2:Hp}{h h1 h2 h':Heap}{a x e:Gb}{o:HO}
theorem Un.any (u:Un fs ex H H1 h h1){b:Gb}{ob:Obj}(q:h.get? b=some ob)(n:H b=none)(hx:b∉ex):∃sl,h1.get? b=some { ob with slots:=sl }:=by
 by_cases hb:b∈fs
 ·exact u.slot b ob q n hb hx
 ·exact⟨ob.slots,u.keep b ob q n hb hx⟩
theorem Un.kept (k:∀b u,h.get? b=some u->h'.get? b=some u):Un fs ex H H h h' :=
 ⟨λb ob q _ _ _=>k b ob q,λb ob q _ _ _=>⟨ob.slots,k b ob q⟩,λ_ _ _ n _=>n,λb ob q _=>⟨ob,k b ob q⟩,λ_ _ q=>q,λ_ _ _ q=>q,λ_ ps q=>⟨#[],by rw[q];simp⟩⟩
theorem Un.refl:Un fs ex H H h h:=Un.kept λ_ _ q=>q
theorem Un.laid (k:∀b u,h.get? b=some u->h'.get? b=some u)(hp:h.objs.size<=a)(hn:H a=none):Un fs ex H (upd H a o) h h' where
 keep:=λb u q _ _ _=>k b u q
 slot:=λb u q _ _ _=>⟨u.slots,k b u q⟩
 free:=λb u q n _=>by rw[ap (GW (GD (Gq q) hp))];exact n
 there:=λb u q _=>⟨u,k b u q⟩
 tups:=λb xs q=>by rw[ap (aO q hn)];exact q
 frzs:=λb u xs q=>by rw[ap (aO q hn)];exact q
 tbls:=λb ps q=>⟨#[],by rw[ap (aO q hn),q];simp⟩
theorem Un.write (mu:Mut (H x))(he:e=x\/H e=some (.own x))(k:∀b u,b≠e->h.get? b=some u->h'.get? b=some u)(heo:∃u,h'.get? e=some u):Un fs ex H (upd H x o) h h':=by
 have hx:∀b,H b=none->b≠x:=λb n z=>by subst z;rw[n]at mu;exact mu
 have hb:∀b,H b=none->b≠e:=λb n z=>by
  subst z
  rcases he with r|r
  ·exact hx b n r
  ·rw[n]at r;cases r
 have hm:∀b u,H b=some u->¬Mut (some u)->b≠x:=λb u q nm z=>by subst z;rw[q]at mu;exact nm mu
 refine⟨λb u q n _ _=>k b u (hb b n) q,λb u q n _ _=>⟨u.slots,k b u (hb b n) q⟩,λb u q n _=>by rw[ap (hx b n)];exact n,λb u q _=>?_,
  λb xs q=>by rw[ap (hm b _ q λz=>z)];exact q,λb u xs q=>by rw[ap (hm b _ q λz=>z)];exact q,λb ps q=>⟨#[],by rw[ap (hm b _ q λz=>z),q];simp⟩⟩
 by_cases hbe:b=e
 ·subst hbe;exact heo
 ·exact⟨u,k b u hbe q⟩
end
def trk (h:Heap)(H:Hp):List Gb:=(GE h.objs.size).filter λa=>(H a).isSome
def kE (h:Heap)(H:Hp):Heap:=PySem.W.hideAll h (trk h H)
theorem pk (h:Heap)(H:Hp):(kE h H).objs.size=h.objs.size:=PySem.W.hideAll_size _ _
theorem sv {h:Heap}{H:Hp}{b:Gb}{o:Obj}(e:h.get? b=some o)(n:H b=none):(kE h H).get? b=some o :=
 PySem.W.hideAll_get _ e λhm=>by
  have q:(H b).isSome=true:=(GR.mp hm).2
  rw[n]at q;simp at q
theorem uS {h:Heap}{H:Hp}{b:Gb}{o:Obj}(e:(kE h H).get? b=some o):h.get? b=some o/\H b=none:=by
 have e':h.get? b=some o:=PySem.W.of_hideAll (trk h H) e
 refine⟨e',?_⟩
 cases q:H b with
 |none=>rfl
 |some x =>
  have hm:b∈trk h H:=GR.mpr ⟨Hz.mpr (Gq e'),by simp[q]⟩
  have z:(kE h H).get? b=none:=PySem.W.hideAll_none (trk h H) hm
  rw[z]at e;cases e
def zD (g h:Heap)(L:Gb):List (Gb×Obj):=(GE h.objs.size).filterMap λa=>if a=L\/(g.get? a).isSome=true then none else (h.get? a).map λo=>(a,o)
def hG (g h:Heap)(L d:Gb):List (Gb×Obj):=(zD g h L).filter λp=>decide (p.1≠d)
end L2
namespace L2
open PySem PySem.Spec PyProof.Rows
structure Mod (K:Hq)(mg:Str->Option Value)(base:Heap):Prop where
 kin:K.In base
 glob:base.Ns GX mg
 blt:∃mb,base.Ns builtinsNs mb/\∀x:Str,x≠"__name__"->mb x=IM x
 nolimit:base.NoLimit
structure Cx where
 prog:GQ
 w:HJ
 K:Hq
 mg:Str->Option Value
 base:Heap
 A:Around
 N:List Str
 s_0:Ga
 H_0:Hp
 env:Env
 outer:List Env
 stack:List Env
 ex:List Gb
 fn:Str->Bool
 calm:Bool
 pn:List (Gb×Obj)
 xe:Value->Ga->Prop
def frs (l:List Env):List Gb:=l.filterMap (·.frame)
abbrev Cx.fs (X:Cx):List Gb:=frs X.outer
def Vis (sc:Scope)(x:Str):Prop:=sc.names.lookup x=some .local\/sc.names.lookup x=some .cell\/sc.names.lookup x=some .free
def Loc (sc:Scope)(x:Str):Prop:=sc.names.lookup x=some .local\/sc.names.lookup x=some .cell
def FW (env:Env)(h:Heap)(m:Str->Option Value)(x:Str)(u:Value):Prop :=
 (env.kindOf x=some .local/\m x=some u)\/((env.kindOf x=some .cell\/env.kindOf x=some .free)/\∃c,env.cells.lookup x=some c/\h.IsCell c (some u))
structure Cx.Ok (X:Cx):Prop where
 mod:Mod X.K X.mg X.base
 kind:X.env.scope.kind=.function
 glob:X.env.globals=GX
 blt:X.env.builtins=builtinsNs
 above:X.s_0.heap.objs.size<=X.env.locals
 inj:∀x y c,X.env.cells.lookup x=some c->X.env.cells.lookup y=some c->x=y
 has:∀x,(X.env.kindOf x=some .cell\/X.env.kindOf x=some .free)->∃c,X.env.cells.lookup x=some c
 cab:∀x c,X.fn x=true->X.env.cells.lookup x=some c->X.s_0.heap.objs.size<=c
 hd:X.calm=true->X.A.handled=none
 frames:X.A.frames=some X.stack
 stk:X.stack=X.outer\/(X.stack=X.env :: X.outer/\X.env.frame=some X.env.locals)
 exf:∀b∈X.ex,b≠X.env.locals/\∀x c,X.env.cells.lookup x=some c->c≠b
 bs:∀b o,X.base.get? b=some o->X.s_0.heap.get? b=some o/\X.H_0 b=none
 bsz:X.base.objs.size<=X.s_0.heap.objs.size
 noex:∀b o,X.base.get? b=some o->b∉X.ex
 exfs:∀b∈X.ex,b∉X.fs
 funs:X.s_0.heap.FunFrames X.base X.outer
 frf:∀b∈X.fs,X.H_0 b=none
structure Inv (X:Cx)(pins:List (Gb×Obj))(σ:List (Option V))(H:Hp)(s:Ga):Prop where
 ok:X.Ok
 os:s.os=X.s_0.os
 bare:AllBare s.gens
 base:Un X.fs X.ex X.H_0 H X.s_0.heap s.heap
 loc:∃m,s.heap.Ns X.env.locals m/\∀(i:Nat) (x:Str) (v:V),X.N[i]? = some x->σ[i]? = some (some v)->Vis X.env.scope x->∃u,a5 v u/\FW X.env s.heap m x u
 cell:∀x c,X.env.cells.lookup x=some c->∃v,s.heap.IsCell c v
 free:H X.env.locals=none
 freeC:∀x c,X.env.cells.lookup x=some c->H c=none
 pin:∀p∈X.pn++pins,s.heap.get? p.1=some p.2/\H p.1=none/\p.1≠X.env.locals/\p.1∉X.fs/\∀v,p.2.data≠.cell v
 hok:HOk X.prog X.w H s.heap
 len:σ.length=X.N.length
section
variable  {X:Cx}{pins:List (Gb×Obj)}{σ:List (Option V)}{H H':Hp}{s:Ga}{h':Heap}
theorem Cx.Ok.nofr (ok:X.Ok){b:Gb}{o:Obj}(e:X.base.get? b=some o):b∉X.fs:=λhb=>by
 have:=(ok.funs.mem hb).1
 rw[e]at this;cases this
theorem Inv.bs (I:Inv X pins σ H s):∀b o,X.base.get? b=some o->s.heap.get? b=some o/\H b=none:=λb o e =>
 ⟨I.base.keep b o (I.ok.bs b o e).1 (I.ok.bs b o e).2 (I.ok.nofr e) (I.ok.noex b o e),I.base.free b o (I.ok.bs b o e).1 (I.ok.bs b o e).2 (I.ok.noex b o e)⟩
theorem Inv.bk (I:Inv X pins σ H s):∀b o,X.base.get? b=some o->s.heap.get? b=some o:=λb o e=>(I.bs b o e).1
theorem Inv.mod (I:Inv X pins σ H s):Mod X.K X.mg X.base:=I.ok.mod
theorem Inv.kIn (I:Inv X pins σ H s):X.K.In s.heap:=I.ok.mod.kin.keeps I.bk
theorem Inv.fr (I:Inv X pins σ H s):∃m,Fr X.base X.env.locals s.heap m :=
 let ⟨m,hn,_⟩:=I.loc
 ⟨m,hn,I.bk,GU I.ok.bsz I.ok.above⟩
theorem Inv.lt (I:Inv X pins σ H s):X.env.locals<s.heap.objs.size:=let ⟨_,hn,_⟩:=I.loc;hn.lt
theorem Inv.sz (I:Inv X pins σ H s):X.s_0.heap.objs.size<=s.heap.objs.size:=GU I.ok.above (Jp I.lt)
theorem Inv.nofs (I:Inv X pins σ H s){a:Gb}(h:s.heap.objs.size<=a):a∉X.fs:=λhb=>by
 obtain⟨_,o,ho,_⟩:=I.ok.funs.mem hb
 exact absurd (GD (Gq ho) (GU I.sz h)) (Ik _)
theorem Inv.cne (I:Inv X pins σ H s):∀x c,X.env.cells.lookup x=some c->c≠X.env.locals:=λx c e z=>by
 obtain⟨v,o,ho,hd⟩:=I.cell x c e
 obtain⟨m,⟨o',es,ep,ho',hd',_⟩,_⟩:=I.loc
 rw[z,ho']at ho;cases ho;rw[hd']at hd;cases hd
theorem Inv.funs (I:Inv X pins σ H s):s.heap.FunFrames X.base X.outer:=by
 have all:∀(l:List Env),(∀b∈frs l,b∈X.fs)->X.s_0.heap.FunFrames X.base l->s.heap.FunFrames X.base l:=by
  intro l
  induction l with
  |nil=>intro _ _;trivial
  |cons env r ih =>
   intro hs hl
   obtain⟨hk,⟨L,o,hf,hn,ho,hd⟩,hr⟩:=hl
   have hL:L∈X.fs:=hs L (by unfold frs;rw[List.filterMap_cons,hf];exact Gv)
   obtain⟨sl,e⟩:=I.base.slot L o ho (I.ok.frf L hL) hL λz=>I.ok.exfs L z hL
   exact⟨hk,⟨L,_,hf,hn,e,hd⟩,ih (λb hb=>hs b (by unfold frs;rw[List.filterMap_cons,hf];exact Gc _ hb)) hr⟩
 exact all X.outer (λ_ hb=>hb) I.ok.funs
theorem Inv.stack (I:Inv X pins σ H s):s.heap.FunFrames X.base X.stack:=by
 rcases I.ok.stk with e|⟨e,hf⟩
 ·rw[e];exact I.funs
 ·rw[e]
  obtain⟨m,hn,_⟩:=I.loc
  refine .cons (by rw[I.ok.kind];decide) hf hn ?_ I.funs
  exact Heap.get?_none_of_le (GU I.ok.bsz I.ok.above)
theorem Inv.stkSub (I:Inv X pins σ H s):∀b∈frs X.stack,b∈X.env.locals :: X.fs:=λb hb=>by
 rcases I.ok.stk with e|⟨e,hf⟩
 ·rw[e]at hb;exact Gc _ hb
 ·rw[e]at hb
  unfold frs at hb
  rw[List.filterMap_cons,hf]at hb
  exact hb
theorem Inv.stkFree (I:Inv X pins σ H s):∀b∈frs X.stack,H b=none:=λb hb=>by
 rcases Gh.mp (I.stkSub b hb) with e|hb
 ·rw[e];exact I.free
 ·obtain⟨_,o,ho,_⟩:=I.ok.funs.mem hb
  exact I.base.free b o ho (I.ok.frf b hb) λz=>I.ok.exfs b z hb
theorem Inv.step {g':Array GenState}{t':Nat}{d':Drawn}{ch:List Gb}(I:Inv X pins σ H s)
  (hch:∀b∈ch,(b∈X.ex\/X.s_0.heap.objs.size<=b)/\b≠X.env.locals/\(∀x c,X.env.cells.lookup x=some c->c≠b)/\∀p∈X.pn++pins,p.1≠b)
  (keep:∀b o,b≠X.env.locals->b∉X.fs->b∉ch->s.heap.get? b=some o->H b=none->h'.get? b=some o)
  (slot:∀b o,b≠X.env.locals->b∈X.fs->b∉ch->s.heap.get? b=some o->H b=none->∃sl,h'.get? b=some { o with slots:=sl }) (free:∀b o,b∉ch->s.heap.get? b=some o->H b=none->H' b=none)
  (there:∀b o,b∉ch->s.heap.get? b=some o->∃o',h'.get? b=some o')
  (tups:∀b xs,H b=some (.tup xs)->H' b=some (.tup xs)) (frzs:∀b o u,H b=some (.frz o u)->H' b=some (.frz o u)) (tbls:∀b ps,H b=some (.tbl ps)->∃more,H' b=some (.tbl (ps++more)))
  (ns:∀m,s.heap.Ns X.env.locals m->h'.Ns X.env.locals m) (hok:HOk X.prog X.w H' h') (hg:AllBare g') :
  Inv X pins σ H' { s with heap:=h',gens:=g',drawn:=d',toks:=t' }:=by
 have neL:∀b o,X.s_0.heap.get? b=some o->b≠X.env.locals:=λb o e=>GW (GD (Gq e) I.ok.above)
 have neC:∀b o,X.s_0.heap.get? b=some o->b∉X.ex->b∉ch:=λb o e hx hb=>by
  rcases(hch b hb).1 with z|z
  ·exact hx z
  ·exact absurd (GD (Gq e) z) (Ik _)
 have cellK:∀x c,X.env.cells.lookup x=some c->∀v,s.heap.IsCell c v->h'.IsCell c v:=λx c e v ⟨o,ho,hd⟩=>by
  have nch:c∉ch:=λz=>(hch c z).2.2.1 x c e rfl
  by_cases hc:c∈X.fs
  ·obtain⟨sl,q⟩:=slot c o (I.cne x c e) hc nch ho (I.freeC x c e)
   exact⟨_,q,hd⟩
  ·exact⟨o,keep c o (I.cne x c e) hc nch ho (I.freeC x c e),hd⟩
 refine⟨I.ok,I.os,hg,⟨λb o e n hb hx=>?_,λb o e n hb hx=>?_,λb o e n hx=>?_,λb o e hx=>?_,λb xs e=>tups b xs (I.base.tups b xs e),λb o xs e=>frzs b o xs (I.base.frzs b o xs e),λb ps e=>?_⟩,?_,λx c e=>?_,?_,λx c e=>?_,λp hp=>?_,hok,I.len⟩
 ·exact keep b o (neL b o e) hb (neC b o e hx) (I.base.keep b o e n hb hx) (I.base.free b o e n hx)
 ·obtain⟨sl,e1⟩:=I.base.slot b o e n hb hx
  obtain⟨sl',e2⟩:=slot b _ (neL b o e) hb (neC b o e hx) e1 (I.base.free b o e n hx)
  exact⟨sl',e2⟩
 ·obtain⟨o',e1⟩:=I.base.there b o e hx
  exact free b o' (neC b o e hx) e1 (I.base.free b o e n hx)
 ·obtain⟨o',e1⟩:=I.base.there b o e hx
  exact there b o' (neC b o e hx) e1
 ·obtain⟨m1,e1⟩:=I.base.tbls b ps e
  obtain⟨m2,e2⟩:=tbls b _ e1
  exact⟨m1++m2,by rw[e2,Array.append_assoc]⟩
 ·obtain⟨m,hn,hl⟩:=I.loc
  refine⟨m,ns m hn,λi x v e1 e2 e3=>?_⟩
  obtain⟨u,r,l⟩:=hl i x v e1 e2 e3
  refine⟨u,r,?_⟩
  rcases l with l|⟨k,c,e,z⟩
  ·exact .inl l
  ·exact .inr ⟨k,c,e,cellK x c e _ z⟩
 ·obtain⟨v,z⟩:=I.cell x c e
  exact⟨v,cellK x c e v z⟩
 ·obtain⟨m,⟨o,_,_,ho,_⟩,_⟩:=I.loc
  exact free _ o (λz=>(hch _ z).2.1 rfl) ho I.free
 ·obtain⟨v,o,ho,hd⟩:=I.cell x c e
  exact free c o (λz=>(hch c z).2.2.1 x c e rfl) ho (I.freeC x c e)
 ·obtain⟨e,n,ne,nf,d⟩:=I.pin p hp
  have nch:p.1∉ch:=λz=>(hch p.1 z).2.2.2 p hp rfl
  exact⟨keep p.1 p.2 ne nf nch e n,free p.1 p.2 nch e n,ne,nf,d⟩
theorem Inv.un {t':Nat}(I:Inv X pins σ H s)(u:Un X.fs [] H H' s.heap h')(hok:HOk X.prog X.w H' h'):Inv X pins σ H' { s with heap:=h',toks:=t' }:=by
 obtain⟨m,⟨o,es,ep,ho,r⟩,_⟩:=id I.loc
 obtain⟨sl,hL⟩:=u.any ho I.free (by simp)
 exact I.step (g':=s.gens) (d':=s.drawn) (ch:=[]) (λ_ z=>nomatch z) (λb o _ hb _ e n=>u.keep b o e n hb (by simp)) (λb o _ hb _ e n=>u.slot b o e n hb (by simp)) (λb o _ e n=>u.free b o e n (by simp)) (λb o _ e=>u.there b o e (by simp)) u.tups u.frzs u.tbls (λm' hm=>by
  obtain⟨o',es',ep',ho',r'⟩:=hm
  rw[ho]at ho';cases ho'
  exact⟨_,es',ep',hL,r'⟩) hok I.bare
theorem Inv.call {g':Array GenState}{t':Nat}{d':Drawn}{ch:List Gb}(I:Inv X pins σ H s)(u:Un (frs X.stack) ch H H' s.heap h')(hok:HOk X.prog X.w H' h')(hg:AllBare g')
  (hch:∀b∈ch,(b∈X.ex\/X.s_0.heap.objs.size<=b)/\b≠X.env.locals/\(∀x c,X.env.cells.lookup x=some c->c≠b)/\∀p∈X.pn++pins,p.1≠b) :
  Inv X pins σ H' { s with heap:=h',gens:=g',drawn:=d',toks:=t' }:=by
 obtain⟨m,⟨o,es,ep,ho,r⟩,_⟩:=id I.loc
 obtain⟨sl,hL⟩:=u.any ho I.free λz=>(hch _ z).2.1 rfl
 exact I.step (ch:=ch) hch (λb o hL hb hc e n=>u.keep b o e n (λz=>(Gh.mp (I.stkSub b z)).elim hL hb) hc) (λb o _ _ hc e n=>u.any e n hc) (λb o hc e n=>u.free b o e n hc) (λb o hc e=>u.there b o e hc) u.tups u.frzs u.tbls (λm' hm=>by
  obtain⟨o',es',ep',ho',r'⟩:=hm
  rw[ho]at ho';cases ho'
  exact⟨_,es',ep',hL,r'⟩) hok hg
theorem Inv.turned {t':Nat}{it:Gb}(I:Inv X pins σ H s)(k:∀b o,b≠it->s.heap.get? b=some o->h'.get? b=some o)(hn:H it=none)(hL:it≠X.env.locals)
  (h1:it∈X.ex\/X.s_0.heap.objs.size<=it) (h2:∀x c,X.env.cells.lookup x=some c->c≠it) (h3:∀p∈X.pn++pins,p.1≠it):Inv X pins σ H { s with heap:=h',toks:=t' }:=by
 have nit:∀b u,H b=some u->b≠it:=λb u e z=>by rw[z,hn]at e;cases e
 refine I.step (g':=s.gens) (d':=s.drawn) (ch:=[it]) (λb hb=>?_) (λb o _ _ hc e _=>k b o (λz=>hc (by simp[z])) e) (λb o _ _ hc e _=>⟨o.slots,k b o (λz=>hc (by simp[z])) e⟩) (λ_ _ _ _ n=>n)
  (λb o hc e=>⟨o,k b o (λz=>hc (by simp[z])) e⟩) (λ_ _ e=>e) (λ_ _ _ e=>e) (λb ps e=>⟨#[],by rw[e];simp⟩) (λm hm=>?_) (λb u e=>?_) I.bare
 ·have e:b=it:=by simpa using hb
  subst e
  exact⟨h1,hL,h2,h3⟩
 ·obtain⟨o,es,ep,ho,r⟩:=hm
  exact⟨o,es,ep,k _ o (GJ hL) ho,r⟩
 ·refine(I.hok b u e).stay (λc v hc q=>k c v ?_ q) (λ_ q=>q) λ_ _ q=>q
  rcases hc with z|z
  ·rw[z];exact nit b u e
  ·exact nit c _ z
theorem Inv.tok (I:Inv X pins σ H s)(t:Nat):Inv X pins σ H { s with toks:=t }:=I.un (h':=s.heap) (t':=t) Un.refl I.hok
theorem Inv.kept {t':Nat}(I:Inv X pins σ H s)(k:∀b u,s.heap.get? b=some u->h'.get? b=some u):Inv X pins σ H { s with heap:=h',toks:=t' }:=I.un (Un.kept k) (I.hok.kept k)
theorem Inv.laid {a:Gb}{o:HO}{t':Nat}(I:Inv X pins σ H s)(k:∀b u,s.heap.get? b=some u->h'.get? b=some u)(hp:s.heap.objs.size<=a)(new:b9 X.prog X.w (upd H a o) h' a o) :
  Inv X pins σ (upd H a o) { s with heap:=h',toks:=t' }:=I.un (Un.laid k hp (I.hok.fresh hp)) (I.hok.laid k hp new)
theorem Inv.write {x e:Gb}{o:HO}{t':Nat}(I:Inv X pins σ H s)(mu:Mut (H x))(he:e=x\/H e=some (.own x))(k:∀b u,b≠e->s.heap.get? b=some u->h'.get? b=some u)(heo:∃u,h'.get? e=some u)
  (new:b9 X.prog X.w (upd H x o) h' x o):Inv X pins σ (upd H x o) { s with heap:=h',toks:=t' }:=I.un (Un.write mu he k heo) (I.hok.write mu he k heo new)
theorem Inv.weak {σ':List (Option V)}(I:Inv X pins σ H s)(hl:σ'.length=σ.length)(w:∀(i:Nat) v,σ'[i]? = some (some v)->σ[i]? = some (some v)):Inv X pins σ' H s :=
 ⟨I.ok,I.os,I.bare,I.base,let ⟨m,hn,hl'⟩:=I.loc;⟨m,hn,λi x v e1 e2 e3=>hl' i x v e1 (w i v e2) e3⟩,I.cell,I.free,I.freeC,I.pin,I.hok,hl.trans I.len⟩
theorem Inv.pins_of {pins':List (Gb×Obj)}(I:Inv X pins σ H s)(h:∀p∈pins',s.heap.get? p.1=some p.2/\H p.1=none/\p.1≠X.env.locals/\p.1∉X.fs/\∀v,p.2.data≠.cell v):Inv X pins' σ H s :=
 ⟨I.ok,I.os,I.bare,I.base,I.loc,I.cell,I.free,I.freeC,λp hp=>(GK.mp hp).elim (λz=>I.pin p (List.mem_append_left _ z)) (h p),I.hok,I.len⟩
theorem nu {N:List Str}(hN:N.Nodup){i j:Nat}{x:Str}(a:N[i]? = some x)(b:N[j]? = some x):i=j:=by
 obtain⟨h1,e1⟩:=gsi a
 obtain⟨h2,e2⟩:=gsi b
 exact(List.getElem_inj hN).mp (e1.trans e2.symm)
theorem store_ok2 {M:Model}{A:Around}{E:Value->Ga->Prop}{i:Nat}{x:Str}{v:V}{u:Value}{Q:Unit->Ga->Prop}(I:Inv X pins σ H s)(hN:X.N.Nodup)(hi:X.N[i]? = some x)(hx:Loc X.env.scope x)(r:a5 v u)
  (h:∀s',Inv X pins (σ.set i (some v)) H s'->(∃a,Heap.SameBut a s.heap s'.heap/\(a=X.env.locals\/X.env.cells.lookup x=some a))->Q () s') (hf:X.fn x=true\/X.env.scope.names.lookup x=some .local:=by first|exact .inl rfl|exact .inr rfl|assumption):GO M A (storeName X.env x u) Q E s:=by
 obtain⟨m,hn,hl⟩:=id I.loc
 have hcls:(X.env.scope.kind==.class||(X.env.scope.kind==.module&&X.env.locals != X.env.globals))=false:=by rw[I.ok.kind];rfl
 have hiσ:i<σ.length:=by rw[I.len];exact(gsi hi).1
 have cne:=I.cne
 have tracked:∀{a:Gb} {h':Heap},(∃o,s.heap.get? a=some o/\H a=none)->Heap.SameBut a s.heap h'->HOk X.prog X.w H h':=λ{a h'} ha hs b ob e=>by
  obtain⟨_,_,hfree⟩:=ha
  refine(I.hok b ob e).stay (λc w' hc q=>(hs.2 c ?_).trans q) (λ_ q=>q) λ_ _ q=>q
  rintro rfl
  rcases hc with rfl|hc
  ·rw[hfree]at e;cases e
  ·rw[hfree]at hc;cases hc
 rcases hx with hk|hk
 ·refine wpAny_storeName_local hk hn (λh' hn' hs=>?_) hcls
  obtain⟨oL,_,_,hoL,_⟩:=id hn
  refine h _ ⟨I.ok,I.os,I.bare,⟨λb o e n hb hx=>?_,λb o e n hb hx=>?_,I.base.free,λb o e hx=>?_,I.base.tups,I.base.frzs,I.base.tbls⟩,⟨_,hn',λj y v' e1 e2 e3=>?_⟩,λy c e=>?_,I.free,I.freeC,λp hp=>?_,tracked ⟨oL,hoL,I.free⟩ hs,by simpa using I.len⟩ ⟨_,hs,.inl rfl⟩
  ·exact(hs.2 b (GW (GD (Gq e) I.ok.above))).trans (I.base.keep b o e n hb hx)
  ·obtain⟨sl,e1⟩:=I.base.slot b o e n hb hx
   exact⟨sl,(hs.2 b (GW (GD (Gq e) I.ok.above))).trans e1⟩
  ·obtain⟨o',e1⟩:=I.base.there b o e hx
   exact⟨o',(hs.2 b (GW (GD (Gq e) I.ok.above))).trans e1⟩
  ·by_cases hj:j=i
   ·subst hj
    rw[hi]at e1;cases e1
    rw[JA hiσ]at e2
    cases e2
    exact⟨u,r,.inl ⟨hk,by simp⟩⟩
   ·rw[IJ (GJ hj)]at e2
    obtain⟨u',r',q⟩:=hl j y v' e1 e2 e3
    refine⟨u',r',?_⟩
    rcases q with⟨k,e⟩|⟨k,c,e,z⟩
    ·refine .inl ⟨k,?_⟩
     have:y≠x:=λe=>hj (nu hN e1 (e▸hi))
     simp[this,e]
    ·exact .inr ⟨k,c,e,z.sameBut hs (cne y c e)⟩
  ·obtain⟨w',z⟩:=I.cell y c e
   exact⟨w',z.sameBut hs (cne y c e)⟩
  ·obtain⟨e,n,ne,nf,d⟩:=I.pin p hp
   exact⟨(hs.2 p.1 ne).trans e,n,ne,nf,d⟩
 ·have hfn:X.fn x=true:=by
   rcases hf with z|z
   ·exact z
   ·rw[z]at hk;cases hk
  obtain⟨c,hc⟩:=I.ok.has x (.inl hk)
  obtain⟨w',z⟩:=I.cell x c hc
  refine wpAny_storeName_cell I.ok.kind hk hc z (λh' hc' hs=>?_)
  obtain⟨oc,hoc,hocd⟩:=id z
  refine h { s with heap:=h' } ⟨I.ok,I.os,I.bare,⟨λb o e n hb hx=>?_,λb o e n hb hx=>?_,I.base.free,λb o e hx=>?_,I.base.tups,I.base.frzs,I.base.tbls⟩,⟨m,hn.sameBut hs (GJ (cne x c hc)),λj y v' e1 e2 e3=>?_⟩,λy c' e=>?_,I.free,I.freeC,λp hp=>?_,tracked ⟨oc,hoc,I.freeC x c hc⟩ hs,by simpa using I.len⟩ ⟨c,hs,.inr hc⟩
  ·exact(hs.2 b (GW (GD (Gq e) (I.ok.cab x c hfn hc)))).trans (I.base.keep b o e n hb hx)
  ·obtain⟨sl,e1⟩:=I.base.slot b o e n hb hx
   exact⟨sl,(hs.2 b (GW (GD (Gq e) (I.ok.cab x c hfn hc)))).trans e1⟩
  ·obtain⟨o',e1⟩:=I.base.there b o e hx
   exact⟨o',(hs.2 b (GW (GD (Gq e) (I.ok.cab x c hfn hc)))).trans e1⟩
  ·by_cases hj:j=i
   ·subst hj
    rw[hi]at e1;cases e1
    rw[JA hiσ]at e2
    cases e2
    exact⟨u,r,.inr ⟨.inl hk,c,hc,hc'⟩⟩
   ·rw[IJ (GJ hj)]at e2
    obtain⟨u',r',q⟩:=hl j y v' e1 e2 e3
    refine⟨u',r',?_⟩
    rcases q with q|⟨k,c',e,z'⟩
    ·exact .inl q
    ·refine .inr ⟨k,c',e,z'.sameBut hs ?_⟩
     rintro rfl
     exact hj (nu hN e1 (I.ok.inj _ _ _ e hc▸hi))
  ·by_cases hcc:c'=c
   ·subst hcc;exact⟨_,hc'⟩
   ·obtain⟨w2,z2⟩:=I.cell y c' e
    exact⟨w2,z2.sameBut hs hcc⟩
  ·obtain⟨e,n,ne,nf,d⟩:=I.pin p hp
   refine⟨(hs.2 p.1 ?_).trans e,n,ne,nf,d⟩
   intro q
   rw[q,hoc]at e
   have q':oc=p.2:=osi e
   exact d w' (by rw[<-q'];exact hocd)
theorem nj {M:Model}{A:Around}{E:Value->Ga->Prop}{i:Nat}{x:Str}{v:V}{u:Value}{Q:Unit->Ga->Prop}(I:Inv X pins σ H s)(hN:X.N.Nodup)(hi:X.N[i]? = some x)(hx:Loc X.env.scope x)(r:a5 v u)
  (h:∀s',Inv X pins (σ.set i (some v)) H s'->Q () s') (hf:X.fn x=true\/X.env.scope.names.lookup x=some .local:=by first|exact .inl rfl|exact .inr rfl|assumption):GO M A (storeName X.env x u) Q E s :=
 store_ok2 I hN hi hx r (λs' I' _=>h s' I') hf
theorem Inv.call' {s':Ga}{ch:List Gb}(I:Inv X pins σ H s)(ho:s'.os=s.os)(u:Un (frs X.stack) ch H H' s.heap s'.heap)(hok:HOk X.prog X.w H' s'.heap)(hg:AllBare s'.gens)
  (hch:∀b∈ch,(b∈X.ex\/X.s_0.heap.objs.size<=b)/\b≠X.env.locals/\(∀x c,X.env.cells.lookup x=some c->c≠b)/\∀p∈X.pn++pins,p.1≠b):Inv X pins σ H' s':=by
 obtain⟨h',g',d',t',o'⟩:=s'
 have e:o'=s.os:=ho
 subst e
 exact I.call (g':=g') (t':=t') (d':=d') u hok hg hch
end
abbrev XK:=Value->Option Gb->Hp->Prop
abbrev St:=List (Option V)
abbrev VK:=V->Hp->Prop
abbrev TE:=St->Hp->VK->Prop
abbrev TT:=St->Hp->(Bool->Hp->Prop)->Prop
abbrev TA:=St->Hp->(List V->Hp->Prop)->Prop
structure nE where
 nx:St->Hp->Prop
 rt:VK
 bk:St->Hp->Prop:=λ_ _=>False
 ct:St->Hp->Prop:=λ_ _=>False
abbrev TS:=nE->St->Hp->Prop
def EP (X:Cx)(pins:List (Gb×Obj))(σ:St)(Q:VK)(u:Value)(s':Ga):Prop:=∃v H',Inv X pins σ H' s'/\a5 v u/\Q v H'
def TP (X:Cx)(pins:List (Gb×Obj))(σ:St)(Q:Bool->Hp->Prop)(b:Bool)(s':Ga):Prop:=∃H',Inv X pins σ H' s'/\Q b H'
def AP (X:Cx)(pins:List (Gb×Obj))(σ:St)(Q:List V->Hp->Prop)(us:List Value)(s':Ga):Prop:=∃vs H',Inv X pins σ H' s'/\aS vs us/\Q vs H'
def SP (X:Cx)(pins:List (Gb×Obj))(D:nE)(f:Flow)(s':Ga):Prop :=
 match f with
 |.next=>∃σ' H',Inv X pins σ' H' s'/\D.nx σ' H'
 |.brk=>∃σ' H',Inv X pins σ' H' s'/\D.bk σ' H'
 |.cont=>∃σ' H',Inv X pins σ' H' s'/\D.ct σ' H'
 |.ret u=>∃v σ' H',Inv X pins σ' H' s'/\a5 v u/\D.rt v H'
def PE (X:Cx)(e:Expr)(t:TE):Prop :=
 ∀(pins:List (Gb×Obj)) (s:Ga) (σ:St) (H:Hp) (Q:VK),Inv X pins σ H s->t σ H Q->GO (G4 X.prog X.w) X.A (JZ e X.env) (EP X pins σ Q) X.xe s
def PT (X:Cx)(e:Expr)(t:TT):Prop :=
 ∀(pins:List (Gb×Obj)) (s:Ga) (σ:St) (H:Hp) (Q:Bool->Hp->Prop),Inv X pins σ H s->t σ H Q->GO (G4 X.prog X.w) X.A (isTrue e X.env (JZ e X.env)) (TP X pins σ Q) X.xe s
def PW (X:Cx)(e:Expr)(t:TT):Prop :=
 ∀(whole:Sem Value) (pins:List (Gb×Obj)) (s:Ga) (σ:St) (H:Hp) (Q:Bool->Hp->Prop),Inv X pins σ H s->t σ H Q->GO (G4 X.prog X.w) X.A (isTrue e X.env whole) (TP X pins σ Q) X.xe s
theorem PW.pt {X:Cx}{e:Expr}{t:TT}(h:PW X e t):PT X e t:=h _
def PA (X:Cx)(es:List Expr)(t:TA):Prop :=
 ∀(pos:Pos) (pins:List (Gb×Obj)) (s:Ga) (σ:St) (H:Hp) (Q:List V->Hp->Prop),Inv X pins σ H s->t σ H Q->GO (G4 X.prog X.w) X.A (spliced (JC pos (GM es X.env))) (AP X pins σ Q) X.xe s
def PS (X:Cx)(st:Iw)(t:TS):Prop :=
 ∀(pins:List (Gb×Obj)) (s:Ga) (σ:St) (H:Hp) (D:nE),Inv X pins σ H s->t D σ H->GO (G4 X.prog X.w) X.A (exec st X.env) (SP X pins D) X.xe s
def PSs (X:Cx)(st:List Iw)(t:TS):Prop :=
 ∀(pins:List (Gb×Obj)) (s:Ga) (σ:St) (H:Hp) (D:nE),Inv X pins σ H s->t D σ H->GO (G4 X.prog X.w) X.A (execs st X.env) (SP X pins D) X.xe s
theorem thn {α:Type}{t:Sem α}{Q Q':α->Ga->Prop}{M:Model}{A:Around}{E:Value->Ga->Prop}{s:Ga}(h:GO M A t Q E s)(hQ:∀a s,Q a s->Q' a s):GO M A t Q' E s:=JS h hQ λ_ _ x=>x
end L2
namespace L2
open PySem PySem.Spec PyProof.Rows
section
variable  {X:Cx}
theorem bin {a b:Expr}{ta tb:TE}(ha:PE X a ta)(hb:PE X b tb){pins:List (Gb×Obj)}{s:Ga}{σ:St}{H:Hp}{R:V->V->Hp->Prop}(I:Inv X pins σ H s)(h:ta σ H λx H1=>tb σ H1 λy H2=>R x y H2)
  {α:Type} {Q:α->Ga->Prop} {f:Value->Value->Sem α}
  (hf:∀v u s2 x y H2,Inv X pins σ H2 s2->a5 x v->a5 y u->R x y H2->GO (G4 X.prog X.w) X.A (f v u) Q X.xe s2) :
  GO (G4 X.prog X.w) X.A (JZ a X.env) (λv s₁=>GO (G4 X.prog X.w) X.A (JZ b X.env) (λu s₂=>GO (G4 X.prog X.w) X.A (f v u) Q X.xe s₂) X.xe s₁) X.xe s:=by
 refine thn (ha pins s σ H _ I h) λv s1 ⟨x,H1,I1,r1,q1⟩=>?_
 refine thn (hb pins s1 σ H1 _ I1 q1) λu s2 ⟨y,H2,I2,r2,q2⟩=>?_
 exact hf v u s2 x y H2 I2 r1 r2 q2
def aY (i:Nat):TE:=λσ H Q=>∃v,σ[i]? = some (some v)/\Q v H
def tC (v:V):TE:=λ_ H Q=>Q v H
theorem BX {i:Nat}{x:Str}{pos:Pos}(hN:X.N[i]? = some x)(hv:Vis X.env.scope x) (hd:(x==("__debug__" : Str))=false:=by decide) (hcd:(x==("__classdict__" : Str))=false:=by decide):PE X (.Name x pos) (aY i):=by
 intro pins s σ H Q I h
 obtain⟨v,e,h⟩:=h
 obtain⟨m,hn,hl⟩:=I.loc
 obtain⟨u,r,l⟩:=hl i x v hN e hv
 have fin:EP X pins σ Q u s:=⟨v,H,I,r,h⟩
 rcases l with⟨hk,hm⟩|⟨hk,c,hc,hcell⟩
 ·exact wpAny_Name (wpAny_loadName_local I.ok.kind hk hn hm fin) hd
 ·rcases hk with hk|hk
  ·exact wpAny_Name (wpAny_loadName_cell I.ok.kind hk hc hcell fin) hd
  ·exact wpAny_Name (wpAny_loadName_free I.ok.kind hk hc hcell fin hcd) hd
theorem ah {i j pos}:PE X (.Constant (.int i) j pos) (tC (.int i)):=λ_ _ _ H _ I h=>wpAny_Constant_int ⟨.int i,H,I.tok _,⟨_,rfl⟩,h⟩
theorem eD {b j pos}:PE X (.Constant (.bool b) j pos) (tC (.bl b)):=λ_ _ _ H _ I h=>Constant_bool ⟨.bl b,H,I,rfl,h⟩
theorem bc {j pos}:PE X (.Constant .none j pos) (tC .non):=λ_ _ _ H _ I h=>Constant_none ⟨.non,H,I,rfl,h⟩
def Gl (X:Cx)(x:Str):Prop:=X.env.kindOf x=some .globalImplicit
theorem qm {E:Value->Ga->Prop}{pins:List (Gb×Obj)}{s:Ga}{σ:St}{H:Hp}{x:Str}{u:Value}{pos:Pos}{Q:Value->Ga->Prop}(I:Inv X pins σ H s)(hg:Gl X x)(hm:X.mg x=some u)(h:Q u s)
  (hd:(x==("__debug__" : Str))=false:=by decide):GO (G4 X.prog X.w) X.A (JZ (.Name x pos) X.env) Q E s :=
 Calls.Name_function_global I.ok.kind hg (Calls.loadGlobal_global (by rw[I.ok.glob];exact I.mod.glob.keeps I.bk) hm h) hd
theorem gy {E:Value->Ga->Prop}{pins:List (Gb×Obj)}{s:Ga}{σ:St}{H:Hp}{x:Str}{u:Value}{pos:Pos}{Q:Value->Ga->Prop}(I:Inv X pins σ H s)(hg:Gl X x)(hm:X.mg x=none)(hv:IM x=some u)(h:Q u s)
  (hn:x≠"__name__":=by decide) (hd:(x==("__debug__" : Str))=false:=by decide):GO (G4 X.prog X.w) X.A (JZ (.Name x pos) X.env) Q E s:=by
 obtain⟨mb,h1,h2⟩:=I.mod.blt
 exact Calls.Name_function_global I.ok.kind hg (Calls.loadGlobal_builtin (by rw[I.ok.glob];exact I.mod.glob.keeps I.bk) hm (by rw[I.ok.blt];exact h1.keeps I.bk) ((h2 x hn).trans hv) h) hd
theorem qO {x:Str}{v:V}{u:Value}{pos:Pos}(hg:Gl X x)(hm:X.mg x=some u)(r:a5 v u) (hd:(x==("__debug__" : Str))=false:=by decide):PE X (.Name x pos) (tC v) :=
 λ_ _ _ H _ I h=>qm I hg hm ⟨v,H,I,r,h⟩ hd
variable  {a b:Expr}{ta tb:TE}{pos:Pos}
def PC (X:Cx)(op:CmpOp)(a b:Expr)(t:TE):Prop :=
 ∀(pins:List (Gb×Obj)) (s:Ga) (σ:St) (H:Hp) (Q:VK),Inv X pins σ H s->t σ H Q ->
  GO (G4 X.prog X.w) X.A (JZ a X.env) (λv s₁=>GO (G4 X.prog X.w) X.A (JZ b X.env) (λu s₂=>GO (G4 X.prog X.w) X.A (HI op v u) (EP X pins σ Q) X.xe s₂) X.xe s₁) X.xe s
theorem yo (b:Expr){op:CmpOp}(h:op≠.In)(h2:op≠.NotIn):JT op b=false:=by
 have e1:(op==CmpOp.In)=false:=by cases op<;>first|rfl|exact absurd rfl h
 have e2:(op==CmpOp.NotIn)=false:=by cases op<;>first|rfl|exact absurd rfl h2
 cases b<;>simp[JT,e1,e2]
def tB (t:TE):TT:=λσ H Q=>t σ H λx H1=>∃c,x=.bl c/\Q c H1
theorem tJ {op:CmpOp}{t:TE}(h:PC X op a b t)(h1:JT op b=false:=by first|exact yo _ (by decide) (by decide)|rfl):PT X (.Compare a [op] [b] pos) (tB t):=by
 intro pins s σ H Q I hw
 refine wpAny_isTrue_Compare1 (thn (h pins s σ H _ I hw) λv s1 h1=>thn h1 λu s2 h2=>thn h2 λc s3 ⟨x,H1,I1,r1,q1⟩=>?_) h1
 obtain⟨d,rfl,q⟩:=q1
 cases r1
 exact Ib ⟨H1,I1,q⟩
theorem cG {e:Expr}{t:TE}(h:PE X e t)(he:∀whole,isTrue e X.env whole=(do let v <-whole;standAt e.pos;holding [v] (truthy v)):=by intro _;rfl):PT X e (tB t):=by
 intro pins s σ H Q I hw
 refine isTrue_plain (thn (h pins s σ H _ I hw) λv s1 ⟨x,H1,I1,r1,q1⟩=>?_) (he _)
 obtain⟨d,rfl,q⟩:=q1
 cases r1
 exact Ib ⟨H1,I1,q⟩
variable  {tA tB':TT}{hG:List Expr}
def Af (t u:TT):TT:=λσ H Q=>t σ H λc H1=>if c=true then u σ H1 Q else Q false H1
def tOr (t u:TT):TT:=λσ H Q=>t σ H λc H1=>if c=true then Q true H1 else u σ H1 Q
def Cf (t:TT):TT:=λσ H Q=>t σ H λc H1=>Q (!c) H1
theorem iG (ha:PT X a tA):PW X (.BoolOp .And [a] pos) tA:=by
 intro wh pins s σ H Q I h
 refine isTrue_and (thn (ha pins s σ H Q I h) λc s1 e=>?_)
 cases c with
 |true=>exact isTrue_and_nil e
 |false=>exact e
theorem jG (ha:PT X a tA):PW X (.BoolOp .Or [a] pos) tA:=by
 intro wh pins s σ H Q I h
 refine isTrue_or (thn (ha pins s σ H Q I h) λc s1 e=>?_)
 cases c with
 |false=>exact isTrue_or_nil e
 |true=>exact e
theorem jH (ha:PT X a tA)(hb:PW X (.BoolOp .And (b :: hG) pos) tB'):PW X (.BoolOp .And (a :: b :: hG) pos) (Af tA tB'):=by
 intro wh pins s σ H Q I h
 refine isTrue_and (thn (ha pins s σ H _ I h) λc s1 ⟨H1,I1,q1⟩=>?_)
 cases c with
 |true=>exact hb wh pins s1 σ H1 Q I1 q1
 |false=>exact⟨H1,I1,q1⟩
theorem mZ (ha:PT X a tA)(hb:PW X (.BoolOp .Or (b :: hG) pos) tB'):PW X (.BoolOp .Or (a :: b :: hG) pos) (tOr tA tB'):=by
 intro wh pins s σ H Q I h
 refine isTrue_or (thn (ha pins s σ H _ I h) λc s1 ⟨H1,I1,q1⟩=>?_)
 cases c with
 |true=>exact⟨H1,I1,q1⟩
 |false=>exact hb wh pins s1 σ H1 Q I1 q1
theorem jg (ha:PT X a tA):PT X (.UnaryOp .Not a pos) (Cf tA):=by
 intro pins s σ H Q I h
 exact isTrue_not (ha pins s σ H (λc H1=>Q (!c) H1) I h)
def AM (ta tb:TE):TE:=λσ H Q=>ta σ H λx H1=>∃c,x=.bl c/\if c=true then tb σ H1 Q else Q (.bl false) H1
def FB (ta tb:TE):TE:=λσ H Q=>ta σ H λx H1=>∃c,x=.bl c/\if c=true then Q (.bl true) H1 else tb σ H1 Q
def EA (ta:TE):TE:=λσ H Q=>ta σ H λx H1=>∃c,x=.bl c/\Q (.bl (!c)) H1
theorem eG {op}{t:TE}(h:PE X a t):PE X (.BoolOp op [a] pos) t:=λpins s σ H Q I hw=>BoolOp_one (h pins s σ H Q I hw)
theorem iP (ha:PE X a ta)(hb:PE X (.BoolOp .And (b :: hG) pos) tb):PE X (.BoolOp .And (a :: b :: hG) pos) (AM ta tb):=by
 intro pins s σ H Q I h
 refine BoolOp_and (thn (ha pins s σ H _ I h) λv s1 ⟨x,H1,I1,r1,q1⟩=>?_)
 obtain⟨c,rfl,q1⟩:=q1
 cases r1
 refine Ib ?_
 cases c with
 |true=>exact hb pins s1 σ H1 Q I1 q1
 |false=>exact⟨.bl false,H1,I1,rfl,q1⟩
theorem sw (ha:PE X a ta)(hb:PE X (.BoolOp .Or (b :: hG) pos) tb):PE X (.BoolOp .Or (a :: b :: hG) pos) (FB ta tb):=by
 intro pins s σ H Q I h
 refine BoolOp_or (thn (ha pins s σ H _ I h) λv s1 ⟨x,H1,I1,r1,q1⟩=>?_)
 obtain⟨c,rfl,q1⟩:=q1
 cases r1
 refine Ib ?_
 cases c with
 |false=>exact hb pins s1 σ H1 Q I1 q1
 |true=>exact⟨.bl true,H1,I1,rfl,q1⟩
theorem xn (ha:PE X a ta):PE X (.UnaryOp .Not a pos) (EA ta):=by
 intro pins s σ H Q I h
 refine UnaryOp_ (thn (ha pins s σ H _ I h) λv s1 ⟨x,H1,I1,r1,q1⟩=>?_)
 obtain⟨c,rfl,q1⟩:=q1
 cases r1
 exact not_of (Ib ⟨.bl (!c),H1,I1,rfl,q1⟩)
def tIf (t:TT)(ta tb:TE):TE:=λσ H Q=>t σ H λc H1=>if c=true then ta σ H1 Q else tb σ H1 Q
theorem xz {c:Expr}(hc:PT X c tA)(ha:PE X a ta)(hb:PE X b tb):PE X (.IfExp c a b pos) (tIf tA ta tb):=by
 intro pins s σ H Q I h
 refine wpAny_IfExp (thn (hc pins s σ H _ I h) λd s1 ⟨H1,I1,q1⟩=>?_)
 cases d with
 |true=>exact ha pins s1 σ H1 Q I1 q1
 |false=>exact hb pins s1 σ H1 Q I1 q1
end
end L2
namespace L2
open PySem PySem.Spec PyProof.Rows
def SqL (K:Hq)(H:Hp)(a:Gb)(xs:List V):Prop :=
 Rd H a (.lst xs) \/
  ∃(o:Obj) (its:Array Value) (n:Nat),K.lookup a=some o/\o.cls=.type "list"/\o.dict=none/\o.data=.seq its n/\its.size<=Ge/\aS xs its.toList
def SqT (K:Hq)(H:Hp)(a:Gb)(xs:List V):Prop :=
 Rd H a (.tup xs) \/
  ∃(o:Obj) (its:Array Value) (n:Nat),K.lookup a=some o/\o.cls=.type "tuple"/\o.data=.seq its n/\its.size<=Ge/\aS xs its.toList
def Fb:Value->Option V
 |.none=>some .non
 |.bool b=>some (.bl b)
 |.int i _=>some (.int i)
 |.str x _=>some (.str x)
 |.bytes b _=>some (.byt b)
 |.float b _=>some (.flt b)
 |.ref a=>some (.ref a)
 |.type n=>some (.ty n)
 |_=>none
theorem a5.abs {x:V}{u:Value}(r:a5 x u):Fb u=some x:=by
 cases x with
 |non=>cases r;rfl
 |bl _=>cases r;rfl
 |int _=>obtain⟨t,rfl⟩:=r;rfl
 |str _=>obtain⟨t,rfl⟩:=r;rfl
 |byt _=>obtain⟨t,rfl⟩:=r;rfl
 |flt _=>obtain⟨t,rfl⟩:=r;rfl
 |ref _=>cases r;rfl
 |ty _=>cases r;rfl
theorem a5.inj {x y:V}{u:Value}(r:a5 x u)(q:a5 y u):x=y:=osi (r.abs.symm.trans q.abs)
theorem aS.inj:∀{xs ys:List V} {us:List Value},aS xs us->aS ys us->xs=ys
 |_,_,_,.nil,.nil=>rfl
 |_,_,_,.cons r t,.cons r' t'=>by rw[r.inj r',aS.inj t t']
section
variable  {X:Cx}{pins:List (Gb×Obj)}{σ:St}{H:Hp}{s:Ga}{a:Gb}{xs ys:List V}
theorem SqL.of {K:Hq}(h:H a=some (.lst xs)):SqL K H a xs:=.inl (.inl h)
theorem SqT.of {K:Hq}(h:H a=some (.tup xs)):SqT K H a xs:=.inl (.inl h)
theorem Inv.list (I:Inv X pins σ H s)(h:SqL X.K H a xs):∃its:List Value,aS xs its/\PlainL s.heap a its.toArray/\xs.length<=Ge:=by
 rcases h with h|⟨o,its,n,hk,hc,hd,hs,hz,r⟩
 ·obtain⟨z,its,n,r,e⟩:=h.ok I.hok
  exact⟨its,r,⟨_,n,e,rfl,rfl,rfl⟩,z⟩
 ·refine⟨its.toList,r,⟨o,n,I.kIn a o hk,hc,hd,by simpa using hs⟩,?_⟩
  have e:=r.length
  simp only[Jr]at e
  lia
theorem Inv.tuple (I:Inv X pins σ H s)(h:SqT X.K H a xs):∃its:List Value,aS xs its/\IsTup s.heap a its.toArray/\xs.length<=Ge:=by
 rcases h with h|⟨o,its,n,hk,hc,hs,hz,r⟩
 ·obtain⟨z,its,r,p⟩:=h.ok I.hok
  exact⟨its,r,p,z⟩
 ·refine⟨its.toList,r,⟨o,I.kIn a o hk,hc,n,by simpa using hs⟩,?_⟩
  have e:=r.length
  simp only[Jr]at e
  lia
theorem Inv.list_inj (I:Inv X pins σ H s)(h:SqL X.K H a xs)(h':SqL X.K H a ys):xs=ys:=by
 obtain⟨its,r,⟨o,n,e,_,_,d⟩,_⟩:=I.list h
 obtain⟨its',r',⟨o',n',e',_,_,d'⟩,_⟩:=I.list h'
 rw[e]at e';cases e'
 rw[d]at d'
 injection d' with d1 _
 have:its=its':=by simpa using Ia Array.toList d1
 subst this
 exact r.inj r'
theorem Inv.tuple_inj (I:Inv X pins σ H s)(h:SqT X.K H a xs)(h':SqT X.K H a ys):xs=ys:=by
 obtain⟨its,r,⟨o,e,_,n,d⟩,_⟩:=I.tuple h
 obtain⟨its',r',⟨o',e',_,n',d'⟩,_⟩:=I.tuple h'
 rw[e]at e';cases e'
 rw[d]at d'
 injection d' with d1 _
 have:its=its':=by simpa using Ia Array.toList d1
 subst this
 exact r.inj r'
end
abbrev Cx.wish (X:Cx)(E:Value->Ga->Prop):Cx:={ X with xe:=E }
abbrev Cx.nox (X:Cx):Cx:=X.wish λ_ _=>False
theorem Cx.Ok.wish {X:Cx}(ok:X.Ok)(E:Value->Ga->Prop):(X.wish E).Ok :=
 ⟨ok.mod,ok.kind,ok.glob,ok.blt,ok.above,ok.inj,ok.has,ok.cab,ok.hd,ok.frames,ok.stk,ok.exf,ok.bs,ok.bsz,ok.noex,ok.exfs,ok.funs,ok.frf⟩
theorem Cx.Ok.unwish {X:Cx}{E:Value->Ga->Prop}(ok:(X.wish E).Ok):X.Ok :=
 ⟨ok.mod,ok.kind,ok.glob,ok.blt,ok.above,ok.inj,ok.has,ok.cab,ok.hd,ok.frames,ok.stk,ok.exf,ok.bs,ok.bsz,ok.noex,ok.exfs,ok.funs,ok.frf⟩
section
variable  {X:Cx}{pins:List (Gb×Obj)}{σ:St}{H:Hp}{s:Ga}{E:Value->Ga->Prop}
theorem Inv.wish (I:Inv X pins σ H s)(E:Value->Ga->Prop):Inv (X.wish E) pins σ H s:=⟨I.ok.wish E,I.os,I.bare,I.base,I.loc,I.cell,I.free,I.freeC,I.pin,I.hok,I.len⟩
theorem Inv.unwish (I:Inv (X.wish E) pins σ H s):Inv X pins σ H s:=⟨I.ok.unwish,I.os,I.bare,I.base,I.loc,I.cell,I.free,I.freeC,I.pin,I.hok,I.len⟩
theorem SP.unwish {D:nE}{f:Flow}{s':Ga}(h:SP (X.wish E) pins D f s'):SP X pins D f s':=by
 cases f with
 |next=>obtain⟨σ',H',I,q⟩:=h;exact⟨σ',H',I.unwish,q⟩
 |brk=>obtain⟨σ',H',I,q⟩:=h;exact⟨σ',H',I.unwish,q⟩
 |cont=>obtain⟨σ',H',I,q⟩:=h;exact⟨σ',H',I.unwish,q⟩
 |ret u=>obtain⟨v,σ',H',I,r,q⟩:=h;exact⟨v,σ',H',I.unwish,r,q⟩
theorem PSs.nox {st:List Iw}{t:TS}(h:PSs X.nox st t):PSs X st t:=λpins s σ H D I hw =>
 JS (h pins s σ H D (I.wish _) hw) (λ_ _ q=>q.unwish) λ_ _ z=>HV z
end
section
variable  {X:Cx}{st:Iw}{hG:List Iw}{t u:TS}{e:Expr}{te:TE}{pos:Pos}
def mB:TS:=λD σ H=>D.nx σ H
def Bx (t u:TS):TS:=λD σ H=>t { D with nx:=u D } σ H
theorem aL:PSs X [] mB:=λ_ _ σ H _ I h=>wpAny_execs_nil ⟨σ,H,I,h⟩
theorem ad (h1:PS X st t)(h2:PSs X hG u):PSs X (st :: hG) (Bx t u):=by
 intro pins s σ H D I h
 refine wpAny_execs_cons (thn (h1 pins s σ H { D with nx:=u D } I h) λf s1 q=>?_)
 cases f with
 |next =>
  obtain⟨σ',H',I',q⟩:=q
  exact h2 pins s1 σ' H' D I' q
 |ret v=>exact q
 |brk=>exact q
 |cont=>exact q
theorem af (h1:PS X st t):PSs X [st] t:=by
 intro pins s σ H D I h
 refine wpAny_execs_cons (thn (h1 pins s σ H D I h) λf s1 q=>?_)
 cases f with
 |next=>exact wpAny_execs_nil q
 |ret v=>exact q
 |brk=>exact q
 |cont=>exact q
theorem Inv.quiet {pins:List (Gb×Obj)}{σ:St}{H:Hp}{s:Ga}(I:Inv X pins σ H s):interactive X.env=false:=by simp[interactive,I.ok.kind]
def AI (te:TE):TS:=λD σ H=>te σ H λ_ H1=>D.nx σ H1
theorem jo (he:PE X e te)(hs:swapsWith e none pos.line X.env=pure false:=by rfl):PS X (.Expr e pos) (AI te):=by
 intro pins s σ H D I h
 exact wpAny_Expr_any (thn (he pins s σ H _ I h) λv s1 ⟨x,H1,I1,r1,q1⟩=>⟨σ,H1,I1,q1⟩) I.quiet hs
def m9 (te:TE):TS:=λD σ H=>te σ H D.rt
theorem al (he:PE X e te):PS X (.Return (some e) pos) (m9 te):=by
 intro pins s σ H D I h
 exact wpAny_Return_some (thn (he pins s σ H _ I h) λv s1 ⟨x,H1,I1,r1,q1⟩=>⟨x,σ,H1,I1,r1,q1⟩)
def tF (c:TT)(t u:TS):TS:=λD σ H=>c σ H λb H1=>if b=true then t D σ H1 else u D σ H1
theorem a4 {c:Expr}{a b:List Iw}{tc:TT}(hc:PT X c tc)(ha:PSs X a t)(hb:PSs X b u):PS X (.If c a b pos) (tF tc t u):=by
 intro pins s σ H D I h
 refine wpAny_If (thn (hc pins s σ H _ I h) λd s1 ⟨H1,I1,q1⟩=>?_)
 cases d with
 |true=>exact ha pins s1 σ H1 D I1 q1
 |false=>exact hb pins s1 σ H1 D I1 q1
end
abbrev TG:=V->St->Hp->(St->Hp->Prop)->Prop
abbrev TGs:=List V->St->Hp->(St->Hp->Prop)->Prop
def PG (X:Cx)(target:Expr)(t:TG):Prop :=
 ∀(pins:List (Gb×Obj)) (s:Ga) (σ:St) (H:Hp) (v:V) (u:Value) (Q:St->Hp->Prop),Inv X pins σ H s->a5 v u->t v σ H Q ->
  GO (G4 X.prog X.w) X.A (assign target X.env u) (λ_ s'=>∃σ' H',Inv X pins σ' H' s'/\Q σ' H') X.xe s
def PGs (X:Cx)(ts:List Expr)(t:TGs):Prop :=
 ∀(pins:List (Gb×Obj)) (s:Ga) (σ:St) (H:Hp) (vs:List V) (us:List Value) (Q:St->Hp->Prop),Inv X pins σ H s->aS vs us->t vs σ H Q ->
  GO (G4 X.prog X.w) X.A (assignInOrder ((assignEach ts X.env).map (·.2)) us) (λ_ s'=>∃σ' H',Inv X pins σ' H' s'/\Q σ' H') X.xe s
abbrev A6:=V->V->V->Hp->(Hp->Prop)->Prop
def CC (X:Cx)(t:A6):Prop :=
 ∀(pins:List (Gb×Obj)) (s:Ga) (σ:St) (H:Hp) (o i v:V) (ov iv u:Value) (Q:Hp->Prop),Inv X pins σ H s->a5 o ov->a5 i iv->a5 v u->t o i v H Q ->
  GO (G4 X.prog X.w) X.A (setItem ov iv u) (λ_ s'=>∃H',Inv X pins σ H' s'/\Q H') X.xe s
abbrev TIp:=V->V->Hp->VK->Prop
def PIp (X:Cx)(op:Operator)(t:TIp):Prop :=
 ∀(pins:List (Gb×Obj)) (s:Ga) (σ:St) (H:Hp) (x y:V) (v u:Value) (Q:VK),Inv X pins σ H s->a5 x v->a5 y u->t x y H Q ->
  GO (G4 X.prog X.w) X.A (inplaceOp op v u) (EP X pins σ Q) X.xe s
section
variable  {X:Cx}{pos:Pos}
def pO (i:Nat):TG:=λv σ H Q=>Q (σ.set i (some v)) H
theorem ao {i:Nat}{x:Str}(hN:X.N.Nodup)(hi:X.N[i]? = some x)(hx:Loc X.env.scope x)(hf:X.fn x=true\/X.env.scope.names.lookup x=some .local:=by first|exact .inl rfl|exact .inr rfl|assumption):PG X (.Name x pos) (pO i):=by
 intro pins s σ H v u Q I r h
 exact wpAny_assign_Name (nj I hN hi hx r (λs' I'=>⟨_,H,I',h⟩) hf)
def D0:TGs:=λvs σ H Q=>vs=[]/\Q σ H
def yg (t:TG)(u:TGs):TGs:=λvs σ H Q=>∃v r,vs=v :: r/\t v σ H λσ' H'=>u r σ' H' Q
theorem bN:PGs X [] D0:=by
 intro pins s σ H vs us Q I r h
 obtain⟨e,h⟩:=h
 subst e
 cases r
 exact assignInOrder_nil ⟨σ,H,I,h⟩
theorem aG {e:Expr}{es:List Expr}{t:TG}{u:TGs}(h1:PG X e t)(h2:PGs X es u)
  (hs:(assignEach (e :: es) X.env).map (·.2)=assign e X.env :: (assignEach es X.env).map (·.2):=by rfl):PGs X (e :: es) (yg t u):=by
 intro pins s σ H vs us Q I r h
 obtain⟨v,vr,e1,h⟩:=h
 subst e1
 cases r with
 |cons r rr =>
  rw[hs]
  refine assignInOrder_cons (thn (h1 pins s σ H _ _ _ I r h) λ_ s1 ⟨σ1,H1,I1,q1⟩=>?_)
  exact h2 pins s1 σ1 H1 _ _ Q I1 rr q1
def EB (K:Hq)(n:Nat)(t:TGs):TG:=λv σ H Q=>∃a xs,v=.ref a/\SqT K H a xs/\xs.length=n/\t xs σ H Q
theorem cC {es:List Expr}{k:Nat}{t:TGs}{n:Nat}(hc:X.calm=true)(h:PGs X es t)
  (hn:(assignEach es X.env).length=n:=by rfl) (hst:(assignEach es X.env).findIdx? (·.1)=none:=by rfl):PG X (.Tuple es k pos) (EB X.K n t):=by
 intro pins s σ H v u Q I r hw
 obtain⟨a,xs,e1,hq,hl,hw⟩:=hw
 subst e1
 cases r
 obtain⟨its,rv,ht,hz⟩:=I.tuple hq
 refine assign_Tuple_tuple (I.ok.hd hc) ht (by simp[hn,<-hl,rv.length]) hst λh' hx=>?_
 have I1:Inv X pins σ H { s with heap:=h' }:=I.kept (t':=s.toks) λb o e=>hx b o (GW (Gq e)) e
 exact h pins _ σ H xs _ Q I1 (by simpa using rv) hw
def Fe (to ti:TE)(t:A6):TG:=λv σ H Q=>to σ H λo H1=>ti σ H1 λi H2=>t o i v H2 λH3=>Q σ H3
theorem yY {o i:Expr}{to ti:TE}{t:A6}(ho:PE X o to)(hi:PE X i ti)(hs:CC X t)
  (ha:∀v,assign (.Subscript o i pos) X.env v=(do
   let ov <-holding [v] (JZ o X.env)
   let iv <-holding [v,ov] (JZ i X.env)
   standAt pos
   holding [v,ov,iv] (setItem ov iv v)
   release [v,ov,iv] []):=by intro _;rfl):PG X (.Subscript o i pos) (Fe to ti t):=by
 intro pins s σ H v u Q I r h
 rw[ha]
 refine FZ (wpAny_holding (thn (ho pins s σ H _ I h) λov s1 ⟨x,H1,I1,r1,q1⟩=>?_))
 refine FZ (wpAny_holding (thn (hi pins s1 σ H1 _ I1 q1) λiv s2 ⟨y,H2,I2,r2,q2⟩=>?_))
 refine FZ (wpAny_standAt (FZ (wpAny_holding (thn (hs pins s2 σ H2 x y v ov iv u _ I2 r1 r2 r q2) λ_ s3 ⟨H3,I3,q3⟩=>?_))))
 exact wpAny_release ⟨σ,H3,I3,q3⟩
def BQ (te:TE)(g:TG):TS:=λD σ H=>te σ H λx H1=>g x σ H1 D.nx
theorem yJ {tg e:Expr}{te:TE}{g:TG}(he:PE X e te)(hg:PG X tg g)(hs:swapsWithSole [tg] e pos.line X.env=pure false:=by rfl)(hw:swappedStores [tg] e X.env=pure none:=by rfl)
  (h1:(assignEach [tg] X.env).map (·.2)=[assign tg X.env]:=by rfl):PS X (.Assign [tg] e pos) (BQ te g):=by
 intro pins s σ H D I h
 refine wpAny_Assign_stores (thn (he pins s σ H _ I h) λv s1 ⟨x,H1,I1,r1,q1⟩=>?_) hs hw
 rw[h1]
 exact thn (hg pins s1 σ H1 x v _ I1 r1 q1) λ_ s2 q=>q
theorem aA {i:Nat}{x:Str}{e:Expr}{te:TE}{pos':Pos}(hN:X.N.Nodup)(hi:X.N[i]? = some x)(hx:Loc X.env.scope x)(he:PE X e te)(hs:swapsWith e (some (.Name x pos')) pos.line X.env=pure false:=by rfl)(hf:X.fn x=true\/X.env.scope.names.lookup x=some .local:=by first|exact .inl rfl|exact .inr rfl|assumption) :
  PS X (.Assign [.Name x pos'] e pos) (BQ te (pO i)):=by
 intro pins s σ H D I h
 refine wpAny_Assign_Name (thn (he pins s σ H _ I h) λv s1 ⟨y,H1,I1,r1,q1⟩=>?_) hs
 exact nj I1 hN hi hx r1 (λs2 I2=>⟨_,H1,I2,q1⟩) hf
def FJ (i:Nat)(te:TE)(ti:TIp):TS:=λD σ H=>∃x,σ[i]? = some (some x)/\te σ H λy H1=>ti x y H1 λz H2=>D.nx (σ.set i (some z)) H2
theorem xf {i:Nat}{x:Str}{e:Expr}{te:TE}{op:Operator}{ti:TIp}{pos':Pos}(hN:X.N.Nodup)(hi:X.N[i]? = some x)(hx:Loc X.env.scope x)(he:PE X e te)(ho:PIp X op ti)(hf:X.fn x=true\/X.env.scope.names.lookup x=some .local:=by first|exact .inl rfl|exact .inr rfl|assumption) :
  PS X (.AugAssign (.Name x pos') op e pos) (FJ i te ti):=by
 intro pins s σ H D I h
 obtain⟨v,e1,h⟩:=h
 obtain⟨m,hn,hl⟩:=I.loc
 have vis:Vis X.env.scope x:=by rcases hx with k|k;exact .inl k;exact .inr (.inl k)
 obtain⟨u,r,l⟩:=hl i x v hi e1 vis
 refine wpAny_AugAssign_Name ?_
 have go:GO (G4 X.prog X.w) X.A (JZ e X.env) (λw s₂=>GO (G4 X.prog X.w) X.A (inplaceOp op u w) (λr s₃=>GO (G4 X.prog X.w) X.A (storeName X.env x r) (λ_=>SP X pins D .next) X.xe s₃) X.xe s₂) X.xe s:=by
  refine thn (he pins s σ H _ I h) λw s1 ⟨y,H1,I1,r1,q1⟩=>?_
  refine thn (ho pins s1 σ H1 v y u w _ I1 r r1 q1) λz s2 ⟨zv,H2,I2,r2,q2⟩=>?_
  exact nj I2 hN hi hx r2 (λs3 I3=>⟨_,H2,I3,q2⟩) hf
 rcases l with⟨hk,hm⟩|⟨hk,c,hc,hcell⟩
 ·exact wpAny_loadName_local I.ok.kind hk hn hm go
 ·rcases hk with hk|hk
  ·exact wpAny_loadName_cell I.ok.kind hk hc hcell go
  ·rcases hx with k|k
   ·have:X.env.scope.names.lookup x=some .free:=hk
    rw[k]at this;cases this
   ·have:X.env.scope.names.lookup x=some .free:=hk
    rw[k]at this;cases this
def ipI (f:Int->Int->Int):TIp:=λx y H Q=>∃i j,x=.int i/\y=.int j/\Q (.int (f i j)) H
theorem xI:PIp X .Add (ipI λi j=>i+j):=by
 intro pins s σ H x y v u Q I r1 r2 h
 obtain⟨i,j,e1,e2,q⟩:=h
 subst e1;subst e2
 obtain⟨t,rfl⟩:=r1
 obtain⟨t',rfl⟩:=r2
 exact iadd_int ⟨.int _,H,I.tok _,⟨_,rfl⟩,q⟩
end
section
variable  {X:Cx}{pos:Pos}
def B4 (c:TT)(tb:TS):TS:=λD σ H=>∃W:Nat->St->Hp->Prop,(∃m,W m σ H)/\∀m σ H,W m σ H ->
 c σ H λb H1=>if b=true then ∃N:St->Hp->Prop,(∀σ' H',N σ' H'->∃m',m'<m/\W m' σ' H')/\tb { D with nx:=N,ct:=N,bk:=D.nx } σ H1 else D.nx σ H1
theorem nR {c:Expr}{body:List Iw}{tc:TT}{tb:TS}(hp:PassesOwn (G4 X.prog X.w) X.A X.env X.xe)(hc:PT X c tc)(hb:PSs X body tb):PS X (.While c body [] pos) (B4 tc tb):=by
 intro pins s σ H D I h
 obtain⟨W,⟨m0,w0⟩,turn⟩:=h
 refine wpAny_While (codeAny_whileLoop (λn s'=>∃σ' H',Inv X pins σ' H' s'/\W n σ' H') ?_ m0 ⟨σ,H,I,w0⟩)
 rintro n s1 ⟨σ1,H1,I1,w1⟩
 refine Ji hp (thn (hc pins s1 σ1 H1 _ I1 (turn n σ1 H1 w1)) λb s2 ⟨H2,I2,q2⟩=>?_)
 cases b with
 |true =>
  obtain⟨N,hN,q2⟩:=q2
  rw[Gk rfl]
  refine Ji hp (thn (hb pins s2 σ1 H2 _ I2 q2) λf s3 q3=>?_)
  cases f with
  |next =>
   obtain⟨σ3,H3,I3,n3⟩:=q3
   obtain⟨m',hm,w3⟩:=hN σ3 H3 n3
   exact⟨m',hm,σ3,H3,I3,w3⟩
  |cont =>
   obtain⟨σ3,H3,I3,n3⟩:=q3
   obtain⟨m',hm,w3⟩:=hN σ3 H3 n3
   exact⟨m',hm,σ3,H3,I3,w3⟩
  |brk=>exact q3
  |ret v=>exact q3
 |false =>
  rw[Gf Go]
  exact wpAny_execs_nil ⟨σ1,H2,I2,q2⟩
end
structure It where
 go:Nat->Hp->Prop
 yld:Nat->Hp->V->Hp->Prop
 stop:Nat->Hp->Prop
def l4 (X:Cx)(pins:List (Gb×Obj))(H:Hp)(b:Gb):Prop :=
 H b=none/\b≠X.env.locals/\b∉X.fs/\(b∈X.ex\/X.s_0.heap.objs.size<=b)/\(∀x c,X.env.cells.lookup x=some c->c≠b)/\∀p∈X.pn++pins,p.1≠b
theorem Inv.fpOk {X:Cx}{pins:List (Gb×Obj)}{σ:St}{H H':Hp}{s:Ga}{b:Gb}(I:Inv X pins σ H s)(hb:s.heap.objs.size<=b)(hn:H' b=none):l4 X pins H' b:=by
 refine⟨hn,Ix (GD I.lt hb),I.nofs hb,.inr (GU I.sz hb),λx c e z=>?_,λp hp z=>?_⟩
 ·obtain⟨v,q⟩:=I.cell x c e
  exact absurd (GD q.lt (by rw[z];exact hb)) (Ik _)
 ·exact absurd (GD (Gq (I.pin p hp).1) (by rw[z];exact hb)) (Ik _)
structure nk (P:GQ)(w:HJ)(K:Hq)(tg:Expr)(J:It)(fp:List Gb)(it:Gb)(tn:Nat->Heap->Prop):Prop where
 mem:it∈fp
 obj:∀i h,tn i h->∀b∈fp,∃o,h.get? b=some o/\∀v,o.data≠.cell v
 keep:∀i h h',tn i h->(∀b∈fp,∀o,h.get? b=some o->h'.get? b=some o)->tn i h'
 item:∀(X:Cx),X.prog=P->X.w=w->X.K=K->X.calm=true->∀(i:Nat) (pins:List (Gb×Obj)) (s:Ga) (σ:St) (H:Hp) (E:Value->Ga->Prop),Inv X pins σ H s->(∀b∈fp,l4 X pins H b)->tn i s.heap->J.go i H ->
  GO (G4 P w) X.A (pyNext (.ref it)) (λr s1=>∃u,r=some u /\
   GO (G4 P w) X.A (letOwnedTupleGo tg (.ref it) u) (λ_ s2=>∃x H',Inv X pins σ H' s2/\a5 x u/\J.yld i H x H'/\tn (i+1) s2.heap/\∀b∈fp,H' b=none) E s1) E s
 done:∀(X:Cx),X.prog=P->X.w=w->X.K=K->X.calm=true->∀(i:Nat) (pins:List (Gb×Obj)) (s:Ga) (σ:St) (H:Hp) (E:Value->Ga->Prop),Inv X pins σ H s->(∀b∈fp,l4 X pins H b)->tn i s.heap->J.stop i H ->
  GO (G4 P w) X.A (pyNext (.ref it)) (λr s1=>r=none/\Inv X pins σ H s1) E s
 self:∀(A:Around) (i:Nat) (s:Ga) (Q:Value->Ga->Prop) (E:Value->Ga->Prop),tn i s.heap->Q (.ref it) s->GO (G4 P w) A (pyIter (.ref it)) Q E s
abbrev TI:=St->Hp->(It->Hp->Prop)->Prop
def PIE (X:Cx)(pins:List (Gb×Obj))(σ:St)(tg:Expr)(R:It->Hp->Prop)(itv:Value)(s2:Ga):Prop :=
 ∃(it:Gb) (fp:List Gb) (tn:Nat->Heap->Prop) (J:It) (H':Hp),itv=.ref it/\Inv X pins σ H' s2/\nk X.prog X.w X.K tg J fp it tn/\tn 0 s2.heap/\(∀b∈fp,l4 X pins H' b)/\R J H'
def PI (X:Cx)(tg aE:Expr)(wi:TI):Prop :=
 ∀(pins:List (Gb×Obj)) (s:Ga) (σ:St) (H:Hp) (R:It->Hp->Prop),Inv X pins σ H s->wi σ H R ->
  GO (G4 X.prog X.w) X.A (JZ aE X.env) (λv s1=>GO (G4 X.prog X.w) X.A (pyIter v) (PIE X pins σ tg R) X.xe s1) X.xe s
theorem mO {M:Model}{A:Around}{E:Value->Ga->Prop}{s:Ga}{tg:Expr}{it:Gb}{u:Value}{o:Obj}{n:String}{vs:Array Value}{Q:Unit->Ga->Prop}(ho:s.heap.get? it=some o)(hc:o.cls=.type n)(hd:o.data=.fields vs)
  (hn:["enumerate","zip","dict_itemiterator","dict_reverseitemiterator","odict_iterator","itertools.zip_longest","itertools.pairwise"].contains n=false) (hQ:Q () s):GO M A (letOwnedTupleGo tg (.ref it) u) Q E s:=by
 unfold letOwnedTupleGo
 cases tg<;>first
  |exact Gz hQ
  |(cases u<;>first
    |exact Gz hQ
    |(refine FZ (wpAny_load ho ?_)
      rw[hc,hd]
      show GO M A (if (["enumerate","zip","dict_itemiterator","dict_reverseitemiterator","odict_iterator","itertools.zip_longest","itertools.pairwise"].contains n&&vs[0]?==some (rawInt _))=true then _ else _) Q E s
      rw[Gf (by intro h;rw[hn,G5]at h;cases h)]
      exact Gz hQ))
def Itl (K:Hq)(a:Gb):It :=
 ⟨λi H=>∃xs x,SqL K H a xs/\xs[i]? = some x,λi H x H'=>H'=H/\∀xs,SqL K H a xs->xs[i]? = some x,λi H=>∃xs,SqL K H a xs/\xs.length<=i⟩
def Itt (K:Hq)(a:Gb):It :=
 ⟨λi H=>∃xs x,SqT K H a xs/\xs[i]? = some x,λi H x H'=>H'=H/\∀xs,SqT K H a xs->xs[i]? = some x,λi H=>∃xs,SqT K H a xs/\xs.length<=i⟩
def Itr (lo:Int)(n:Nat):It:=⟨λi _=>i<n,λi H x H'=>H'=H/\x=.int (lo+i),λi _=>n<=i⟩
theorem wc {P:GQ}{w:HJ}{K:Hq}{tg:Expr}(a it:Gb):nk P w K tg (Itl K a) [it] it (λi h=>h.IsListIter it a i) where
 mem:=by simp
 obj:=λi h st b hb=>by
  have e:b=it:=by simpa using hb
  subst e
  obtain⟨o,e,c,d⟩:=st
  exact⟨o,e,λv z=>by rw[d]at z;cases z⟩
 keep:=λi h h' st k=>st.at λo e=>k it (by simp) o e
 item:=by
  intro X hP hw hK hc i pins s σ H E I hf st hg
  subst hP hw hK
  obtain⟨xs,x,hq,hx⟩:=hg
  obtain⟨its,rv,p,hz⟩:=I.list hq
  obtain⟨u,hu,ru⟩:=rv.get hx
  obtain⟨f0,f1,f2,f3,f4,f5⟩:=hf it (by simp)
  refine wpAny_pyNext_list_item st p.isList (x:=u) (by simpa using hu) λh' st' sb=>?_
  have I1:Inv X pins σ H { s with heap:=h' }:=I.turned (t':=s.toks) (λb o hb e=>(sb.2 b hb).trans e) f0 f1 f3 f4 f5
  obtain⟨o,e,c,d⟩:=id st'
  exact⟨u,rfl,mO (s:={ s with heap:=h' }) e c d (by decide) ⟨x,H,I1,ru,⟨rfl,λys hy=>by rw[I.list_inj hy hq];exact hx⟩,st',λb hb=>(hf b hb).1⟩⟩
 done:=by
  intro X hP hw hK hc i pins s σ H E I hf st hg
  subst hP hw hK
  obtain⟨xs,hq,hx⟩:=hg
  obtain⟨its,rv,p,hz⟩:=I.list hq
  obtain⟨f0,f1,f2,f3,f4,f5⟩:=hf it (by simp)
  have hl:=rv.length
  exact wpAny_pyNext_list_end (I.ok.hd hc) st p.isList (by simp;lia) λh' eb=>⟨rfl,I.turned (t':=s.toks) (λb o hb e=>eb b o hb e) f0 f1 f3 f4 f5⟩
 self:=λ_ _ _ _ _ st h=>wpAny_pyIter_listiter st h
theorem tG {P:GQ}{w:HJ}{K:Hq}{tg:Expr}(a it:Gb):nk P w K tg (Itt K a) [it] it (λi h=>h.IsTupleIter it a i) where
 mem:=by simp
 obj:=λi h st b hb=>by
  have e:b=it:=by simpa using hb
  subst e
  obtain⟨o,e,c,d⟩:=st
  exact⟨o,e,λv z=>by rw[d]at z;cases z⟩
 keep:=λi h h' st k=>st.at λo e=>k it (by simp) o e
 item:=by
  intro X hP hw hK hc i pins s σ H E I hf st hg
  subst hP hw hK
  obtain⟨xs,x,hq,hx⟩:=hg
  obtain⟨its,rv,p,hz⟩:=I.tuple hq
  obtain⟨u,hu,ru⟩:=rv.get hx
  obtain⟨f0,f1,f2,f3,f4,f5⟩:=hf it (by simp)
  refine wpAny_pyNext_tuple_item st (show s.heap.IsTuple a its.toArray from p) (x:=u) (by simpa using hu) λh' st' sb=>?_
  have I1:Inv X pins σ H { s with heap:=h' }:=I.turned (t':=s.toks) (λb o hb e=>(sb.2 b hb).trans e) f0 f1 f3 f4 f5
  obtain⟨o,e,c,d⟩:=id st'
  exact⟨u,rfl,mO (s:={ s with heap:=h' }) e c d (by decide) ⟨x,H,I1,ru,⟨rfl,λys hy=>by rw[I.tuple_inj hy hq];exact hx⟩,st',λb hb=>(hf b hb).1⟩⟩
 done:=by
  intro X hP hw hK hc i pins s σ H E I hf st hg
  subst hP hw hK
  obtain⟨xs,hq,hx⟩:=hg
  obtain⟨its,rv,p,hz⟩:=I.tuple hq
  obtain⟨f0,f1,f2,f3,f4,f5⟩:=hf it (by simp)
  have hl:=rv.length
  exact wpAny_pyNext_tuple_end (I.ok.hd hc) st (show s.heap.IsTuple a its.toArray from p) (by simp;lia) λh' eb=>⟨rfl,I.turned (t':=s.toks) (λb o hb e=>eb b o hb e) f0 f1 f3 f4 f5⟩
 self:=λ_ _ _ _ _ st h=>wpAny_pyIter_tupleiter st h
theorem tH {P:GQ}{w:HJ}{K:Hq}{tg:Expr}(it:Gb)(lo:Int)(n:Nat):nk P w K tg (Itr lo n) [it] it (λi h=>IsRangeIter h it (lo+(i:Nat)*1) ((n:Int)-(i:Nat)) 1) where
 mem:=by simp
 obj:=λi h st b hb=>by
  have e:b=it:=by simpa using hb
  subst e
  exact⟨_,st,λv z=>by
   have z':Data.fields _=Data.cell v:=z
   cases z'⟩
 keep:=λi h h' st k=>k it (by simp) _ st
 item:=by
  intro X hP hw hK hc i pins s σ H E I hf st hg
  subst hP hw hK
  obtain⟨f0,f1,f2,f3,f4,f5⟩:=hf it (by simp)
  have W:=Walks.range (prog:=X.prog) (w:=X.w) (I.ok.hd hc) it lo 1 n
  refine W.item i s _ _ hg st λv h' tk hv st' kk=>?_
  obtain⟨t,rfl⟩:=hv
  have I1:Inv X pins σ H { s with heap:=h',toks:=tk }:=I.turned (λb o hb e=>kk b o (by simpa using hb) e) f0 f1 f3 f4 f5
  refine⟨_,rfl,mO (s:={ s with heap:=h',toks:=tk }) (n:="range_iterator") st' rfl rfl (by decide) ⟨.int (lo+i),H,I1,⟨t,?_⟩,⟨rfl,rfl⟩,st',λb hb=>(hf b hb).1⟩⟩
  rw[Int.mul_one]
 done:=by
  intro X hP hw hK hc i pins s σ H E I hf st hg
  subst hP hw hK
  obtain⟨f0,f1,f2,f3,f4,f5⟩:=hf it (by simp)
  exact wpAny_pyNext_range_end (I.ok.hd hc) st (by have:n<=i:=hg;lia) λh' eb=>⟨rfl,I.turned (t':=s.toks) (λb o hb e=>eb b o hb e) f0 f1 f3 f4 f5⟩
 self:=λ_ _ _ _ _ st h=>wpAny_pyIter_rangeiter st h
end L2
namespace L2
open PySem PySem.Spec PyProof.Rows
section
variable  {X:Cx}{tg:Expr}
def CK (K:Hq)(tl:TE):TI:=λσ H R=>tl σ H λx H1=>∃a,x=.ref a/\(∃xs,SqL K H1 a xs)/\R (Itl K a) H1
def Fo (K:Hq)(tl:TE):TI:=λσ H R=>tl σ H λx H1=>∃a,x=.ref a/\(∃xs,SqT K H1 a xs)/\R (Itt K a) H1
theorem bH {l:Expr}{tl:TE}(hl:PE X l tl):PI X tg l (CK X.K tl):=by
 intro pins s σ H R I h
 refine thn (hl pins s σ H _ I h) λv s1 ⟨x,H1,I1,r1,q1⟩=>?_
 obtain⟨a,e,⟨xs,hq⟩,q⟩:=q1
 subst e
 cases r1
 obtain⟨its,rv,p,hz⟩:=I1.list hq
 refine wpAny_pyIter_list p.isList ?_
 refine⟨s1.heap.objs.size,[s1.heap.objs.size],_,_,H1,rfl,I1.kept (t':=s1.toks) λb o e=>Gn _ e,wc a _,⟨_,GF _ rfl,rfl,rfl⟩,λb hb=>?_,q⟩
 have e:b=s1.heap.objs.size:=by simpa using hb
 subst e
 exact I1.fpOk (nlr _) (I1.hok.fresh (nlr _))
theorem tu {l:Expr}{tl:TE}(hl:PE X l tl):PI X tg l (Fo X.K tl):=by
 intro pins s σ H R I h
 refine thn (hl pins s σ H _ I h) λv s1 ⟨x,H1,I1,r1,q1⟩=>?_
 obtain⟨a,e,⟨xs,hq⟩,q⟩:=q1
 subst e
 cases r1
 obtain⟨its,rv,p,hz⟩:=I1.tuple hq
 refine wpAny_pyIter_tuple (show s1.heap.IsTuple a its.toArray from p) ?_
 refine⟨s1.heap.objs.size,[s1.heap.objs.size],_,_,H1,rfl,I1.kept (t':=s1.toks) λb o e=>Gn _ e,tG a _,⟨_,GF _ rfl,rfl,rfl⟩,λb hb=>?_,q⟩
 have e:b=s1.heap.objs.size:=by simpa using hb
 subst e
 exact I1.fpOk (nlr _) (I1.hok.fresh (nlr _))
theorem sG {pins:List (Gb×Obj)}{σ:St}{H:Hp}{s:Ga}{R:It->Hp->Prop}{E:Value->Ga->Prop}{lo hi:Int}{t u v:Tok}{tk:Nat}(I:Inv X pins σ H s)(h1:-(2 ^ 62)<=lo)(h2:lo<2 ^ 62)(h3:-(2 ^ 62)<=hi)(h4:hi<2 ^ 62)
  (q:R (Itr lo (hi-lo).toNat) H):GO (G4 X.prog X.w) X.A (pyIter (.ref s.heap.objs.size)) (PIE X pins σ tg R) E { s with heap:=s.heap.push { cls:=.type "range",data:=.fields #[.int lo t,.int hi u,.int 1 v] },toks:=tk }:=by
 refine wpAny_pyIter_range (IsRange.new ..) (small_one h1 h2 h3 h4) ?_
 have I1:Inv X pins σ H { s with heap:=s.heap.push { cls:=.type "range",data:=.fields #[.int lo t,.int hi u,.int 1 v] },toks:=tk }:=I.kept λb o e=>Gn _ e
 refine⟨(s.heap.push { cls:=.type "range",data:=.fields #[.int lo t,.int hi u,.int 1 v] }).objs.size,[(s.heap.push { cls:=.type "range",data:=.fields #[.int lo t,.int hi u,.int 1 v] }).objs.size],_,_,H,rfl,
  I1.kept (t':=tk) λb o e=>Gn _ e,tH _ lo (hi-lo).toNat,?_,λb hb=>?_,q⟩
 ·have e1:lo+((0:Nat):Int)*1=lo:=by simp
  have e2:(((hi-lo).toNat:Nat):Int)-((0:Nat):Int)=IL lo hi 1:=by rw[rangeSize_one];split<;>lia
  show IsRangeIter _ _ (lo+((0:Nat):Int)*1) ((((hi-lo).toNat:Nat):Int)-((0:Nat):Int)) 1
  rw[e1,e2]
  exact GF _ rfl
 ·have e:b=(s.heap.push { cls:=.type "range",data:=.fields #[.int lo t,.int hi u,.int 1 v] }).objs.size:=by simpa using hb
  subst e
  exact I1.fpOk (nlr _) (I1.hok.fresh (nlr _))
def D8 (ta:TA):TI:=λσ H R=>ta σ H λvs H1=>∃j:Int,vs=[.int j]/\-(2 ^ 62)<=j/\j<2 ^ 62/\R (Itr 0 j.toNat) H1
def Da (ta:TA):TI:=λσ H R=>ta σ H λvs H1=>∃i j:Int,vs=[.int i,.int j]/\(-(2 ^ 62)<=i/\i<2 ^ 62/\-(2 ^ 62)<=j/\j<2 ^ 62)/\R (Itr i (j-i).toNat) H1
theorem oQ {a:Expr}{ta:TA}{p pos:Pos} (hg:Gl X "range") (hm:X.mg "range"=none) (ha:PA X [a] ta) (hs:GM [a] X.env=[(false,JZ a X.env)]:=by rfl):PI X tg (.Call (.Name "range" p) [a] [] pos) (D8 ta):=by
 intro pins s σ H R I h
 refine Call_ (gy I hg hm boot_range (G7 (thn (ha pos pins s σ H _ I h) λus s1 ⟨vs,H1,I1,r1,q1⟩=>?_) hs rfl))
 obtain⟨j,e,q1,q2,q⟩:=q1
 subst e
 cases r1 with
 |cons r rr =>
  cases rr
  obtain⟨t,rfl⟩:=r
  exact call_range_1 (sG I1 (by lia) (by lia) q1 q2 (by simpa using q))
theorem pM {a b:Expr}{ta:TA}{p pos:Pos} (hg:Gl X "range") (hm:X.mg "range"=none) (ha:PA X [a,b] ta) (hs:GM [a,b] X.env=[(false,JZ a X.env),(false,JZ b X.env)]:=by rfl) (hs2:GM [b] X.env=[(false,JZ b X.env)]:=by rfl) :
  PI X tg (.Call (.Name "range" p) [a,b] [] pos) (Da ta):=by
 intro pins s σ H R I h
 refine Call_ (gy I hg hm boot_range (G7 (thn (ha pos pins s σ H _ I h) λus s1 ⟨vs,H1,I1,r1,q1⟩=>?_) (by rw[hs,hs2]) (by rw[hs2];rfl)))
 obtain⟨i,j,e,⟨q1,q2,q3,q4⟩,q⟩:=q1
 subst e
 cases r1 with
 |cons r rr =>
  cases rr with
  |cons r' rr =>
   cases rr
   obtain⟨t,rfl⟩:=r
   obtain⟨t',rfl⟩:=r'
   exact call_range_2 (sG I1 q1 q2 q3 q4 q)
def Fp (wi:TI)(g:TG)(tb:TS):TS:=λD σ H=>wi σ H λJ H1=>∃W:Nat->Nat->St->Hp->Prop,(∃m,W 0 m σ H1)/\∀i m σ H,W i m σ H ->
 (J.stop i H/\D.nx σ H)\/(J.go i H/\∃N:St->Hp->Prop,(∀σ' H',N σ' H'->∃m',m'<m/\W (i+1) m' σ' H')/\∀x H',J.yld i H x H'->g x σ H' λσ2 H2=>tb { D with nx:=N,ct:=N,bk:=D.nx } σ2 H2)
def mP (fp:List Gb)(h:Heap):List (Gb×Obj):=fp.filterMap λb=>(h.get? b).map λo=>(b,o)
theorem jZ {fp:List Gb}{h:Heap}{b:Gb}{o:Obj}(hb:b∈fp)(e:h.get? b=some o):(b,o)∈mP fp h:=JD.mpr ⟨b,hb,by rw[e];rfl⟩
theorem vT {fp:List Gb}{h:Heap}{p:Gb×Obj}(hp:p∈mP fp h):p.1∈fp/\h.get? p.1=some p.2:=by
 obtain⟨b,hb,e⟩:=JD.mp hp
 cases q:h.get? b with
 |none=>rw[q]at e;cases e
 |some o =>
  rw[q]at e
  have e':(b,o)=p:=osi e
  subst e'
  exact⟨hb,q⟩
theorem Inv.pinned {pins:List (Gb×Obj)}{σ:St}{H:Hp}{s:Ga}{fp:List Gb}(I:Inv X pins σ H s)(hf:∀b∈fp,l4 X pins H b)(ho:∀b∈fp,∃o,s.heap.get? b=some o/\∀v,o.data≠.cell v):Inv X (pins++mP fp s.heap) σ H s :=
 I.pins_of λp hp=>(GK.mp hp).elim (λz=>I.pin p (HL _ z)) λz=>by
  obtain⟨hb,e⟩:=vT z
  obtain⟨f0,f1,f2,_⟩:=hf p.1 hb
  obtain⟨o,e',d⟩:=ho p.1 hb
  rw[e]at e';cases e'
  exact⟨e,f0,f1,f2,d⟩
theorem Inv.unpinned {pins pl:List (Gb×Obj)}{σ:St}{H:Hp}{s:Ga}(I:Inv X (pins++pl) σ H s):Inv X pins σ H s:=I.pins_of λp hp=>I.pin p (HL _ (List.mem_append_left _ hp))
theorem bB {aE:Expr}{body:List Iw}{wi:TI}{g:TG}{tb:TS}{pos:Pos}(hp:PassesOwn (G4 X.prog X.w) X.A X.env X.xe)(hc:X.calm=true)(hi:PI X tg aE wi)(hg:PG X tg g)(hb:PSs X body tb)
  (hs:∀x,foldedSetIterable aE X.env x=pure x:=by intro _;rfl):PS X (.For tg aE body [] pos) (Fp wi g tb):=by
 intro pins s σ H D I h
 refine wpAny_For (thn (hi pins s σ H _ I h) λv s1 h1=>thn h1 λitv s2 h2=>?_) hs
 obtain⟨it,fp,tn,J,H2,e,I2,T,st2,f2,W,⟨m0,w0⟩,turn⟩:=h2
 subst e
 have stat:∀{H':Hp},(∀b∈fp,H' b=none)->∀b∈fp,l4 X pins H' b:=λhn b hb=>⟨hn b hb,(f2 b hb).2⟩
 refine codeAny_forLoop_any (λn s'=>∃i σ' H',Inv X pins σ' H' s'/\tn i s'.heap/\(∀b∈fp,H' b=none)/\W i n σ' H') ?_ m0 ⟨0,σ,H2,I2,st2,λb hb=>(f2 b hb).1,w0⟩
 rintro n s3 ⟨i,σ3,H3,I3,st3,fr3,w3⟩
 rcases turn i n σ3 H3 w3 with⟨stop,qn⟩|⟨go,N,hN,step⟩
 ·refine Ji hp (thn (T.done X rfl rfl rfl hc i pins s3 σ3 H3 X.xe I3 (stat fr3) st3 stop) λr s4 ⟨hr,I4⟩=>?_)
  subst hr
  exact wpAny_execs_nil ⟨σ3,H3,I4,qn⟩
 ·refine Ji hp (thn (T.item X rfl rfl rfl hc i pins s3 σ3 H3 X.xe I3 (stat fr3) st3 go) λr s4 ⟨u,hr,h4⟩=>?_)
  subst hr
  refine Ji hp (thn h4 λ_ s5 ⟨x,H5,I5,r5,y5,st5,fr5⟩=>?_)
  have I5':=I5.pinned (stat fr5) (T.obj _ _ st5)
  refine Ji hp (thn (hg _ s5 σ3 H5 x u _ I5' r5 (step x H5 y5)) λ_ s6 ⟨σ6,H6,I6,q6⟩=>?_)
  refine Ji hp (thn (hb _ s6 σ6 H6 _ I6 q6) λf s7 q7=>?_)
  have again:∀{σ7:St} {H7:Hp},Inv X (pins++mP fp s5.heap) σ7 H7 s7->N σ7 H7->∃m,m<n/\∃i σ' H',Inv X pins σ' H' s7/\tn i s7.heap/\(∀b∈fp,H' b=none)/\W i m σ' H':=λ{σ7 H7} I7 n7=>by
   obtain⟨m',hm,w7⟩:=hN σ7 H7 n7
   refine⟨m',hm,i+1,σ7,H7,I7.unpinned,T.keep _ _ _ st5 λb hb o e=>(I7.pin (b,o) (HL _ (HL _ (jZ hb e)))).1,λb hb=>?_,w7⟩
   obtain⟨o,e,d⟩:=T.obj _ _ st5 b hb
   exact(I7.pin (b,o) (HL _ (HL _ (jZ hb e)))).2.1
  cases f with
  |next=>obtain⟨σ7,H7,I7,n7⟩:=q7;exact again I7 n7
  |cont=>obtain⟨σ7,H7,I7,n7⟩:=q7;exact again I7 n7
  |brk=>obtain⟨σ7,H7,I7,q7⟩:=q7;exact⟨σ7,H7,I7.unpinned,q7⟩
  |ret v=>obtain⟨x7,σ7,H7,I7,r7,q7⟩:=q7;exact⟨x7,σ7,H7,I7.unpinned,r7,q7⟩
end
theorem eq {K:Hq}{a:Gb}{xs:List V}{g:TG}{tb:TS}{D:nE}{σ:St}{H:Hp}(Pv:Nat->St->Hp->Prop)(h0:Pv 0 σ H)(hl:∀i σ H,i<=xs.length->Pv i σ H->SqL K H a xs)
  (hs:∀i x σ H,xs[i]? = some x->Pv i σ H->g x σ H λσ2 H2=>tb { D with nx:=Pv (i+1),ct:=Pv (i+1),bk:=D.nx } σ2 H2) (hd:∀σ H,Pv xs.length σ H->D.nx σ H) :
  ∃W:Nat->Nat->St->Hp->Prop,(∃m,W 0 m σ H)/\∀i m σ H,W i m σ H ->
   ((Itl K a).stop i H/\D.nx σ H)\/((Itl K a).go i H/\∃N:St->Hp->Prop,(∀σ' H',N σ' H'->∃m',m'<m/\W (i+1) m' σ' H')/\∀x H',(Itl K a).yld i H x H'->g x σ H' λσ2 H2=>tb { D with nx:=N,ct:=N,bk:=D.nx } σ2 H2):=by
 refine⟨λi m σ H=>m=xs.length-i/\i<=xs.length/\Pv i σ H,⟨xs.length,by simp,Hj _,h0⟩,?_⟩
 rintro i m σ H ⟨rfl,hi,p⟩
 have q:=hl i σ H hi p
 by_cases hlt:i<xs.length
 ·refine .inr ⟨⟨xs,xs[i],q,by simp[hlt]⟩,Pv (i+1),λσ' H' p'=>⟨xs.length-(i+1),by lia,rfl,hlt,p'⟩,λx H' y=>?_⟩
  obtain⟨e,y⟩:=y
  subst e
  exact hs i x σ _ (y xs q) p
 ·have e:i=xs.length:=by lia
  subst e
  exact .inl ⟨⟨xs,q,nlr _⟩,hd σ H p⟩
theorem pZ {K:Hq}{a:Gb}{xs:List V}{g:TG}{tb:TS}{D:nE}{σ:St}{H:Hp}(Pv:Nat->St->Hp->Prop)(h0:Pv 0 σ H)(hl:∀i σ H,i<=xs.length->Pv i σ H->SqT K H a xs)
  (hs:∀i x σ H,xs[i]? = some x->Pv i σ H->g x σ H λσ2 H2=>tb { D with nx:=Pv (i+1),ct:=Pv (i+1),bk:=D.nx } σ2 H2) (hd:∀σ H,Pv xs.length σ H->D.nx σ H) :
  ∃W:Nat->Nat->St->Hp->Prop,(∃m,W 0 m σ H)/\∀i m σ H,W i m σ H ->
   ((Itt K a).stop i H/\D.nx σ H)\/((Itt K a).go i H/\∃N:St->Hp->Prop,(∀σ' H',N σ' H'->∃m',m'<m/\W (i+1) m' σ' H')/\∀x H',(Itt K a).yld i H x H'->g x σ H' λσ2 H2=>tb { D with nx:=N,ct:=N,bk:=D.nx } σ2 H2):=by
 refine⟨λi m σ H=>m=xs.length-i/\i<=xs.length/\Pv i σ H,⟨xs.length,by simp,Hj _,h0⟩,?_⟩
 rintro i m σ H ⟨rfl,hi,p⟩
 have q:=hl i σ H hi p
 by_cases hlt:i<xs.length
 ·refine .inr ⟨⟨xs,xs[i],q,by simp[hlt]⟩,Pv (i+1),λσ' H' p'=>⟨xs.length-(i+1),by lia,rfl,hlt,p'⟩,λx H' y=>?_⟩
  obtain⟨e,y⟩:=y
  subst e
  exact hs i x σ _ (y xs q) p
 ·have e:i=xs.length:=by lia
  subst e
  exact .inl ⟨⟨xs,q,nlr _⟩,hd σ H p⟩
theorem jl {lo:Int}{n:Nat}{g:TG}{tb:TS}{D:nE}{σ:St}{H:Hp}(Pv:Nat->St->Hp->Prop)(h0:Pv 0 σ H)
  (hs:∀i σ H,i<n->Pv i σ H->g (.int (lo+i)) σ H λσ2 H2=>tb { D with nx:=Pv (i+1),ct:=Pv (i+1),bk:=D.nx } σ2 H2) (hd:∀σ H,Pv n σ H->D.nx σ H) :
  ∃W:Nat->Nat->St->Hp->Prop,(∃m,W 0 m σ H)/\∀i m σ H,W i m σ H ->
   ((Itr lo n).stop i H/\D.nx σ H)\/((Itr lo n).go i H/\∃N:St->Hp->Prop,(∀σ' H',N σ' H'->∃m',m'<m/\W (i+1) m' σ' H')/\∀x H',(Itr lo n).yld i H x H'->g x σ H' λσ2 H2=>tb { D with nx:=N,ct:=N,bk:=D.nx } σ2 H2):=by
 refine⟨λi m σ H=>m=n-i/\i<=n/\Pv i σ H,⟨n,by simp,Hj _,h0⟩,?_⟩
 rintro i m σ H ⟨rfl,hi,p⟩
 by_cases hlt:i<n
 ·refine .inr ⟨hlt,Pv (i+1),λσ' H' p'=>⟨n-(i+1),by lia,rfl,hlt,p'⟩,λx H' y=>?_⟩
  obtain⟨e,y⟩:=y
  subst e y
  exact hs i σ _ hlt p
 ·have e:i=n:=by lia
  subst e
  exact .inl ⟨nlr _,hd σ H p⟩
end L2
namespace L2
open PySem PySem.Spec PyProof.Rows
abbrev R2:=V->V->Hp->VK->Prop
def OpR (X:Cx)(f:Value->Value->Sem Value)(r:R2):Prop :=
 ∀(pins:List (Gb×Obj)) (s:Ga) (σ:St) (H:Hp) (x y:V) (v u:Value) (Q:VK),Inv X pins σ H s->a5 x v->a5 y u->r x y H Q ->
  GO (G4 X.prog X.w) X.A (f v u) (EP X pins σ Q) X.xe s
def UnR (X:Cx)(f:Value->Sem Value)(r:V->Hp->VK->Prop):Prop :=
 ∀(pins:List (Gb×Obj)) (s:Ga) (σ:St) (H:Hp) (x:V) (v:Value) (Q:VK),Inv X pins σ H s->a5 x v->r x H Q ->
  GO (G4 X.prog X.w) X.A (f v) (EP X pins σ Q) X.xe s
def mX (X:Cx)(f:Value)(r:List V->Hp->VK->Prop):Prop :=
 ∀(pins:List (Gb×Obj)) (s:Ga) (σ:St) (H:Hp) (xs:List V) (us:List Value) (Q:VK),Inv X pins σ H s->aS xs us->r xs H Q ->
  GO (G4 X.prog X.w) X.A (call f us) (EP X pins σ Q) X.xe s
def tOp (r:R2)(ta tb:TE):TE:=λσ H Q=>ta σ H λx H1=>tb σ H1 λy H2=>r x y H2 Q
def tUn (r:V->Hp->VK->Prop)(ta:TE):TE:=λσ H Q=>ta σ H λx H1=>r x H1 Q
def rI (C:Int->Int->Prop)(g:Int->Int->V):R2:=λx y H Q=>∃i j,x=.int i/\y=.int j/\C i j/\Q (g i j) H
def rI0 (g:Int->Int->V):R2:=λx y H Q=>∃i j,x=.int i/\y=.int j/\Q (g i j) H
def rU (g:Int->V):V->Hp->VK->Prop:=λx H Q=>∃i,x=.int i/\Q (g i) H
section
variable  {X:Cx}{a b c:Expr}{ta tb tc:TE}{pos:Pos}
theorem Bk (ha:PE X a ta)(hb:PE X b tb){pins:List (Gb×Obj)}{s:Ga}{σ:St}{H:Hp}{R:V->V->Hp->Prop}(I:Inv X pins σ H s)
  (h:ta σ H λx H1=>tb σ H1 λy H2=>R x y H2) {Q:Value->Ga->Prop} {f:Value->Value->Sem Value}
  (hf:∀v u s2 x y H2,Inv X pins σ H2 s2->a5 x v->a5 y u->R x y H2->GO (G4 X.prog X.w) X.A (f v u) Q X.xe s2) :
  GO (G4 X.prog X.w) X.A (JZ a X.env) (λv s₁=>GO (G4 X.prog X.w) X.A (JZ b X.env) (λu s₂=>GO (G4 X.prog X.w) X.A (f v u) Q X.xe s₂) X.xe s₁) X.xe s:=by
 refine thn (ha pins s σ H _ I h) λv s1 ⟨x,H1,I1,r1,q1⟩=>?_
 refine thn (hb pins s1 σ H1 _ I1 q1) λu s2 ⟨y,H2,I2,r2,q2⟩=>?_
 exact hf v u s2 x y H2 I2 r1 r2 q2
theorem aR {op:Operator}{r:R2}(ho:OpR X (binaryOp op) r)(ha:PE X a ta)(hb:PE X b tb):PE X (.BinOp a op b pos) (tOp r ta tb):=by
 intro pins s σ H Q I h
 exact wpAny_BinOp (Bk ha hb I h λv u s2 x y H2 I2 rx ry q=>ho pins s2 σ H2 x y v u Q I2 rx ry q)
theorem m5 {op:UnaryOp}{r:V->Hp->VK->Prop}(ho:UnR X (unaryOp op) r)(ha:PE X a ta):PE X (.UnaryOp op a pos) (tUn r ta):=by
 intro pins s σ H Q I h
 exact UnaryOp_ (thn (ha pins s σ H _ I h) λv s1 ⟨x,H1,I1,r1,q1⟩=>ho pins s1 σ H1 x v Q I1 r1 q1)
theorem opI {f:Value->Value->Sem Value}{C:Int->Int->Prop}{g:Int->Int->Int}
  (rule:∀(i j:Int) (t u:Tok) (s:Ga) (Q:Value->Ga->Prop) (E:Value->Ga->Prop),C i j->Q (.int (g i j) s.toks) { s with toks:=s.toks+1 }->GO (G4 X.prog X.w) X.A (f (.int i t) (.int j u)) Q E s) :
  OpR X f (rI C λi j=>.int (g i j)):=by
 intro pins s σ H x y v u Q I rx ry h
 obtain⟨i,j,rfl,rfl,hc,q⟩:=h
 obtain⟨t,rfl⟩:=rx
 obtain⟨t',rfl⟩:=ry
 exact rule i j t t' s _ _ hc ⟨.int (g i j),H,I.tok _,⟨_,rfl⟩,q⟩
theorem CO {f:Value->Value->Sem Value}{g:Int->Int->Int}
  (rule:∀(i j:Int) (t u:Tok) (s:Ga) (Q:Value->Ga->Prop) (E:Value->Ga->Prop),Q (.int (g i j) s.toks) { s with toks:=s.toks+1 }->GO (G4 X.prog X.w) X.A (f (.int i t) (.int j u)) Q E s) :
  OpR X f (rI0 λi j=>.int (g i j)):=by
 intro pins s σ H x y v u Q I rx ry h
 obtain⟨i,j,rfl,rfl,q⟩:=h
 obtain⟨t,rfl⟩:=rx
 obtain⟨t',rfl⟩:=ry
 exact rule i j t t' s _ _ ⟨.int (g i j),H,I.tok _,⟨_,rfl⟩,q⟩
theorem zj {f:Value->Value->Sem Value}{g:Int->Int->Bool}
  (rule:∀(i j:Int) (t u:Tok) (s:Ga) (Q:Value->Ga->Prop) (E:Value->Ga->Prop),Q (.bool (g i j)) s->GO (G4 X.prog X.w) X.A (f (.int i t) (.int j u)) Q E s) :
  OpR X f (rI0 λi j=>.bl (g i j)):=by
 intro pins s σ H x y v u Q I rx ry h
 obtain⟨i,j,rfl,rfl,q⟩:=h
 obtain⟨t,rfl⟩:=rx
 obtain⟨t',rfl⟩:=ry
 exact rule i j t t' s _ _ ⟨.bl (g i j),H,I,rfl,q⟩
def Fh (i j:Int):Prop:=0<j/\j<1073741824
def Ab (i j:Int):Prop:=(-(2 ^ 64)<i/\i<2 ^ 64)\/(-(2 ^ 64)<j/\j<2 ^ 64)
theorem Ab.ok {i j:Int}(h:Ab i j):IntMulOk i j:=by
 rcases h with⟨h1,h2⟩|⟨h1,h2⟩
 ·exact .of_left (intBits_le_64 h1 h2)
 ·exact .of_right (intBits_le_64 h1 h2)
theorem dt:OpR X (binaryOp .Add) (rI0 λi j=>.int (i+j)):=CO λ_ _ _ _ _ _ _ q=>add_int q
theorem eS:OpR X (binaryOp .Sub) (rI0 λi j=>.int (i-j)):=CO λ_ _ _ _ _ _ _ q=>sub_int q
theorem cJ:OpR X (binaryOp .Mult) (rI Ab λi j=>.int (i*j)):=opI λ_ _ _ _ _ _ _ hc q=>mul_int q hc.ok
theorem p9:OpR X (binaryOp .FloorDiv) (rI Fh λi j=>.int (i / j)):=opI λi j _ _ _ _ _ hc q=>by
 have h1:(0:Int)<j:=hc.1
 have h2:j<1073741824:=hc.2
 exact floordiv_int (by lia) (by rw[Int.fdiv_eq_ediv_of_nonneg i (by lia)];exact q) (.inl (PyProof.noPylong_small (by lia)))
theorem Cr:OpR X (binaryOp .Mod) (rI (λ_ j=>0<j) λi j=>.int (i % j)):=opI λi j _ _ _ _ _ hc q=>by
 have h1:(0:Int)<j:=hc
 exact mod_int' (by lia) (by rw[Int.fmod_eq_emod_of_nonneg i (by lia)];exact q)
theorem unI {f:Value->Sem Value}{g:Int->Int}
  (rule:∀(i:Int) (t:Tok) (s:Ga) (Q:Value->Ga->Prop) (E:Value->Ga->Prop),Q (.int (g i) s.toks) { s with toks:=s.toks+1 }->GO (G4 X.prog X.w) X.A (f (.int i t)) Q E s) :
  UnR X f (rU λi=>.int (g i)):=by
 intro pins s σ H x v Q I rx h
 obtain⟨i,rfl,q⟩:=h
 obtain⟨t,rfl⟩:=rx
 exact rule i t s _ _ ⟨.int (g i),H,I.tok _,⟨_,rfl⟩,q⟩
theorem jQ:UnR X (unaryOp .USub) (rU λi=>.int (-i)):=unI λ_ _ _ _ _ q=>neg_int q
end
def Et:V->V->Bool
 |.non,.non=>true|.non,.int _=>true|.int _,.non=>true|.non,.bl _=>true|.bl _,.non=>true|.non,.str _=>true|.str _,.non=>true
 |.int _,.int _=>true|.bl _,.bl _=>true|.str _,.str _=>true|.byt _,.byt _=>true
 |.int _,.str _=>true|.str _,.int _=>true|.bl _,.str _=>true|.str _,.bl _=>true
 |_,_=>false
def rEq:R2:=λx y H Q=>Et x y=true/\Q (.bl (decide (x=y))) H
def rNe:R2:=λx y H Q=>Et x y=true/\Q (.bl (!decide (x=y))) H
theorem uF {i j:Int}:decide (V.int i=V.int j)=(i==j):=by
 rw[G0]
 simp
theorem yW {i j:Bool}:decide (V.bl i=V.bl j)=(i==j):=by
 rw[G0]
 simp
theorem uJ {i j:Str}:decide (V.str i=V.str j)=(i==j):=by
 rw[G0]
 simp
theorem uu {i j:Array UInt8}:decide (V.byt i=V.byt j)=(i.toList==j.toList):=by
 rw[G0]
 cases i
 cases j
 simp
section
variable  {X:Cx}{a b c:Expr}{ta tb tc:TE}{pos:Pos}
theorem a9 {pins:List (Gb×Obj)}{σ:St}{H:Hp}{s:Ga}{Q:VK}{k k':Bool}(I:Inv X pins σ H s)(q:Q (.bl k) H)(e:k=k'):EP X pins σ Q (.bool k') s:=by
 subst e
 exact⟨.bl k,H,I,rfl,q⟩
theorem j5:OpR X (HI .Eq) rEq:=by
 intro pins s σ H x y v u Q I rx ry h
 obtain⟨hs,q⟩:=h
 cases x with
 |non =>
  cases rx
  cases y with
  |non=>cases ry;exact PySem.EqNone.eq_none_none (a9 I q (by simp))
  |bl j=>cases ry;exact PySem.EqNone.eq_none_bool (a9 I q (by simp))
  |int j=>obtain⟨t',rfl⟩:=ry;exact PySem.EqNone.eq_none_int (a9 I q (by simp))
  |str j=>obtain⟨t',rfl⟩:=ry;exact PySem.EqNone.eq_none_str (a9 I q (by simp))
  |_=>exact absurd (show false=true from hs) Go
 |bl i =>
  cases rx
  cases y with
  |non=>cases ry;exact PySem.EqNone.eq_bool_none (a9 I q (by simp))
  |bl j=>cases ry;exact eq_bool (a9 I q yW)
  |str j=>obtain⟨t',rfl⟩:=ry;exact PySem.EqMixed.eq_bool_str (a9 I q (by simp))
  |_=>exact absurd (show false=true from hs) Go
 |int i =>
  obtain⟨t,rfl⟩:=rx
  cases y with
  |non=>cases ry;exact PySem.EqNone.eq_int_none (a9 I q (by simp))
  |int j=>obtain⟨t',rfl⟩:=ry;exact eq_int (a9 I q uF)
  |str j=>obtain⟨t',rfl⟩:=ry;exact PySem.EqMixed.eq_int_str (a9 I q (by simp))
  |_=>exact absurd (show false=true from hs) Go
 |str i =>
  obtain⟨t,rfl⟩:=rx
  cases y with
  |non=>cases ry;exact PySem.EqNone.eq_str_none (a9 I q (by simp))
  |bl j=>cases ry;exact PySem.EqMixed.eq_str_bool (a9 I q (by simp))
  |int j=>obtain⟨t',rfl⟩:=ry;exact PySem.EqMixed.eq_str_int (a9 I q (by simp))
  |str j=>obtain⟨t',rfl⟩:=ry;exact eq_str (a9 I q uJ)
  |_=>exact absurd (show false=true from hs) Go
 |byt i =>
  obtain⟨t,rfl⟩:=rx
  cases y with
  |byt j=>obtain⟨t',rfl⟩:=ry;exact PySem.W.eq_bytes (a9 I q uu)
  |_=>exact absurd (show false=true from hs) Go
 |_=>cases y<;>exact absurd (show false=true from hs) Go
theorem yr:OpR X (HI .NotEq) rNe:=by
 intro pins s σ H x y v u Q I rx ry h
 obtain⟨hs,q⟩:=h
 cases x with
 |non =>
  cases rx
  cases y with
  |non=>cases ry;exact PySem.EqNone.ne_none_none (a9 I q (by simp))
  |bl j=>cases ry;exact PySem.EqNone.ne_none_bool (a9 I q (by simp))
  |int j=>obtain⟨t',rfl⟩:=ry;exact PySem.EqNone.ne_none_int (a9 I q (by simp))
  |str j=>obtain⟨t',rfl⟩:=ry;exact PySem.EqNone.ne_none_str (a9 I q (by simp))
  |_=>exact absurd (show false=true from hs) Go
 |bl i =>
  cases rx
  cases y with
  |non=>cases ry;exact PySem.EqNone.ne_bool_none (a9 I q (by simp))
  |bl j=>cases ry;exact ne_bool (a9 I q (Ia not yW))
  |str j=>obtain⟨t',rfl⟩:=ry;exact PySem.EqMixed.ne_bool_str (a9 I q (by simp))
  |_=>exact absurd (show false=true from hs) Go
 |int i =>
  obtain⟨t,rfl⟩:=rx
  cases y with
  |non=>cases ry;exact PySem.EqNone.ne_int_none (a9 I q (by simp))
  |int j=>obtain⟨t',rfl⟩:=ry;exact ne_int (a9 I q (Ia not uF))
  |str j=>obtain⟨t',rfl⟩:=ry;exact PySem.EqMixed.ne_int_str (a9 I q (by simp))
  |_=>exact absurd (show false=true from hs) Go
 |str i =>
  obtain⟨t,rfl⟩:=rx
  cases y with
  |non=>cases ry;exact PySem.EqNone.ne_str_none (a9 I q (by simp))
  |bl j=>cases ry;exact PySem.EqMixed.ne_str_bool (a9 I q (by simp))
  |int j=>obtain⟨t',rfl⟩:=ry;exact PySem.EqMixed.ne_str_int (a9 I q (by simp))
  |str j=>obtain⟨t',rfl⟩:=ry;exact ne_str (a9 I q (Ia not uJ))
  |_=>exact absurd (show false=true from hs) Go
 |byt i =>
  obtain⟨t,rfl⟩:=rx
  cases y with
  |byt j=>obtain⟨t',rfl⟩:=ry;exact PySem.W.ne_bytes (a9 I q (Ia not uu))
  |_=>exact absurd (show false=true from hs) Go
 |_=>cases y<;>exact absurd (show false=true from hs) Go
theorem fZ:OpR X (HI .Lt) (rI0 λi j=>.bl (decide (i<j))):=zj λ_ _ _ _ _ _ _ q=>lt_int q
theorem lK:OpR X (HI .LtE) (rI0 λi j=>.bl (decide (i<=j))):=zj λ_ _ _ _ _ _ _ q=>le_int q
theorem eg:OpR X (HI .Gt) (rI0 λi j=>.bl (decide (j<i))):=zj λ_ _ _ _ _ _ _ q=>gt_int q
theorem yu:OpR X (HI .GtE) (rI0 λi j=>.bl (decide (j<=i))):=zj λ_ _ _ _ _ _ _ q=>ge_int q
theorem iL:OpR X (HI .Is) (λx y H Q=>y=.non/\Q (.bl (decide (x=.non))) H):=by
 intro pins s σ H x y v u Q I rx ry h
 obtain⟨rfl,q⟩:=h
 cases ry
 refine is_none_gen (a9 I q ?_)
 cases x<;>first
  |(cases rx;rfl)
  |(obtain⟨t,rfl⟩:=rx;rfl)
theorem jq:OpR X (HI .IsNot) (λx y H Q=>y=.non/\Q (.bl (!decide (x=.non))) H):=by
 intro pins s σ H x y v u Q I rx ry h
 obtain⟨rfl,q⟩:=h
 cases ry
 refine isnot_none_gen (a9 I q ?_)
 cases x<;>first
  |(cases rx;rfl)
  |(obtain⟨t,rfl⟩:=rx;rfl)
theorem aI (b:Expr){op:CmpOp}(h:op≠.In:=by decide)(h2:op≠.NotIn:=by decide):JT op b=false:=by
 have e1:(op==CmpOp.In)=false:=by cases op<;>first|rfl|exact absurd rfl h
 have e2:(op==CmpOp.NotIn)=false:=by cases op<;>first|rfl|exact absurd rfl h2
 cases b<;>simp[JT,e1,e2]
theorem cu {op:CmpOp}{r:R2}(ho:OpR X (HI op) r)(ha:PE X a ta)(hb:PE X b tb)(hm:JT op b=false):PE X (.Compare a [op] [b] pos) (tOp r ta tb):=by
 intro pins s σ H Q I h
 exact wpAny_Compare1 (Bk ha hb I h λv u s2 x y H2 I2 rx ry q=>ho pins s2 σ H2 x y v u Q I2 rx ry q) hm
def fq (t:TE):TT:=λσ H Q=>t σ H λx H'=>∃k,x=.bl k/\Q k H'
theorem aM {op:CmpOp}{r:R2}(ho:OpR X (HI op) r)(ha:PE X a ta)(hb:PE X b tb)(hm:JT op b=false):PT X (.Compare a [op] [b] pos) (fq (tOp r ta tb)):=by
 intro pins s σ H Q I h
 refine wpAny_isTrue_Compare1 (thn (ha pins s σ H _ I h) λv s1 ⟨x,H1,I1,r1,q1⟩=>thn (hb pins s1 σ H1 _ I1 q1) λu s2 ⟨y,H2,I2,r2,q2⟩ =>
  thn (ho pins s2 σ H2 x y v u _ I2 r1 r2 q2) λc s3 ⟨z,H3,I3,r3,k,e,q3⟩=>?_) hm
 subst e
 cases r3
 exact Ib ⟨H3,I3,q3⟩
def tI (r r':R2)(ta tb tc:TE):TE:=λσ H Q=>ta σ H λx H1=>tb σ H1 λy H2=>r x y H2 λz H3=>∃k,z=.bl k /\
 (if k=true then tc σ H3 λw' H4=>r' y w' H4 Q else Q (.bl false) H3)
theorem ko {op op':CmpOp}{r r':R2}(ho:OpR X (HI op) r)(ho':OpR X (HI op') r')(ha:PE X a ta)(hb:PE X b tb)(hc:PE X c tc)
  (hm:lastMarks [op,op'] [b,c]=false:=by with_unfolding_all rfl):PE X (.Compare a [op,op'] [b,c] pos) (tI r r' ta tb tc):=by
 intro pins s σ H Q I h
 refine Compare_chain (thn (ha pins s σ H _ I h) λv s1 ⟨x,H1,I1,r1,q1⟩=>chain_link (thn (hb pins s1 σ H1 _ I1 q1) λu s2 ⟨y,H2,I2,r2,q2⟩ =>
  thn (ho pins s2 σ H2 x y v u _ I2 r1 r2 q2) λd s3 ⟨z,H3,I3,r3,k,e,q3⟩=>?_)) hm
 subst e
 cases r3
 refine Ib ?_
 cases k with
 |false=>exact ite_ff ⟨.bl false,H3,I3,rfl,q3⟩
 |true=>exact ite_tt (chain_last (thn (hc pins s3 σ H3 _ I3 q3) λw' s4 ⟨z',H4,I4,r4,q4⟩=>ho' pins s4 σ H4 y z' u w' Q I4 r2 r4 q4))
theorem mU {op op':CmpOp}{r r':R2}(ho:OpR X (HI op) r)(ho':OpR X (HI op') r')(ha:PE X a ta)(hb:PE X b tb)(hc:PE X c tc)
  (hm:lastMarks [op,op'] [b,c]=false:=by with_unfolding_all rfl):PT X (.Compare a [op,op'] [b,c] pos) (fq (tI r r' ta tb tc)):=by
 intro pins s σ H Q I h
 refine isTrue_chain (thn (ha pins s σ H _ I h) λv s1 ⟨x,H1,I1,r1,q1⟩=>test_link (thn (hb pins s1 σ H1 _ I1 q1) λu s2 ⟨y,H2,I2,r2,q2⟩ =>
  thn (ho pins s2 σ H2 x y v u _ I2 r1 r2 q2) λd s3 ⟨z,H3,I3,r3,k,e,q3⟩=>?_)) hm
 subst e
 cases r3
 refine Ib ?_
 cases k with
 |false =>
  obtain⟨k',e',q'⟩:=q3
  cases e'
  exact ite_ff ⟨H3,I3,q'⟩
 |true =>
  refine ite_tt (test_last (thn (hc pins s3 σ H3 _ I3 q3) λw' s4 ⟨z',H4,I4,r4,q4⟩=>thn (ho' pins s4 σ H4 y z' u w' _ I4 r2 r4 q4) λd' s5 ⟨z2,H5,I5,r5,k2,e2,q5⟩=>?_))
  subst e2
  cases r5
  exact Ib ⟨H5,I5,q5⟩
theorem qo:(Ge:Nat)<2 ^ 63:=by rw[sizeLine_eq];decide
theorem ye {x:V}{us:List Value}(r:aS [x] us):∃u,us=[u]/\a5 x u:=by
 cases r with
 |cons r1 r2=>cases r2;exact⟨_,rfl,r1⟩
theorem AV {x y:V}{us:List Value}(r:aS [x,y] us):∃u w',us=[u,w']/\a5 x u/\a5 y w':=by
 cases r with
 |cons r1 r2 =>
  cases r2 with
  |cons r3 r4=>cases r4;exact⟨_,_,rfl,r1,r3⟩
theorem pd (hc:X.calm=true):mX X (.builtin "max") (λxs H Q=>∃i j,xs=[.int i,.int j]/\Q (.int (if j > i then j else i)) H):=by
 intro pins s σ H xs us Q I r h
 obtain⟨i,j,rfl,q⟩:=h
 obtain⟨u,w',rfl,⟨t,rfl⟩,⟨t',rfl⟩⟩:=AV r
 refine max_two_ints (I.ok.hd hc) λh' tk k=>⟨_,H,I.kept k,?_,q⟩
 by_cases hj:j > i
 ·rw[Gk hj,Gk hj];exact⟨_,rfl⟩
 ·rw[Gf hj,Gf hj];exact⟨_,rfl⟩
theorem pJ (hc:X.calm=true):mX X (.builtin "min") (λxs H Q=>∃i j,xs=[.int i,.int j]/\Q (.int (if j<i then j else i)) H):=by
 intro pins s σ H xs us Q I r h
 obtain⟨i,j,rfl,q⟩:=h
 obtain⟨u,w',rfl,⟨t,rfl⟩,⟨t',rfl⟩⟩:=AV r
 refine min_two_ints (I.ok.hd hc) λh' tk k=>⟨_,H,I.kept k,?_,q⟩
 by_cases hj:j<i
 ·rw[Gk hj,Gk hj];exact⟨_,rfl⟩
 ·rw[Gf hj,Gf hj];exact⟨_,rfl⟩
end
end L2
namespace L2
open PySem PySem.Spec PyProof.Rows
structure ub (h:Heap)(x dx C:Gb)(mA:Str->Option Value):Prop where
 obj:h.get? x=some (IQ C dx)
 ns:h.Ns1 dx mA
 ne:dx≠x
theorem vv {h:Heap}{dx:Gb}{mA:Str->Option Value}(n:h.Ns1 dx mA):∃od,h.get? dx=some od/\∀name,PySem.W.lookIn name od=some (mA name):=by
 obtain⟨o,es,ep,ho,hd,hk,_,hm⟩:=n
 refine⟨o,ho,λname=>?_⟩
 have e:=hm name
 unfold nsFind findBy at e
 rw[<-Array.find?_toList]at e
 unfold PySem.W.lookIn
 rw[hd]
 dsimp only
 split
 ·rename_i y q
  rw[q]at e
  exact Ia some e
 ·rename_i q
  rw[q]at e
  have a:es.toList.any (·.refKey)=false:=by
   rw[Jj]
   intro y hy
   obtain⟨z,t,hkey⟩:=hk y (Array.mem_toList_iff.mp hy)
   simp[DictEntry.refKey,hkey]
  have a':¬es.toList.any (·.refKey)=true:=by rw[a];exact Go
  rw[Gf a']
  exact Ia some e
theorem ub.look {h:Heap}{x dx C:Gb}{mA:Str->Option Value}(I:ub h x dx C mA):∃od,PySem.W.InstAt h x (IQ C dx) C (some od)/\∀name,PySem.W.lookIn name od=some (mA name) :=
 let ⟨od,ho,hl⟩:=vv I.ns
 ⟨od,⟨I.obj,rfl,rfl,ho⟩,hl⟩
section
variable  {prog:GQ}{w:HJ}{A:Around}{E:Value->Ga->Prop}{s:Ga}{K:Hq}{x dx C f:Gb}{mA:Str->Option Value}{name:Str}{v:Value}
theorem y6 {expr:Bool}{Q:Value->Ga->Prop}(X:K.In s.heap)(I:ub s.heap x dx C mA)(hg:PySem.W.plainGet K C name=true)(hh:PySem.W.hasDictIn K C=true)
  (ha:Ij K (.ref C) name=some none) (hv:mA name=some v) (hv':PySem.W.handedIn v=true) (h:Q v { s with toks:=s.toks+1 }) :
  GO (G4 prog w) A (getAttr (.ref x) name expr) Q E s:=by
 obtain⟨od,J,hl⟩:=I.look
 exact PySem.W.get_value X J (PySem.W.plainGet_of hg).1 (PySem.W.findObj_own hh ha rfl (by rw[hl,hv])) hv' h
theorem wW {pl:Sem Bool}{Q:Value×List Value->Ga->Prop}(X:K.In s.heap)(I:ub s.heap x dx C mA)(hg:PySem.W.plainGet K C name=true)
  (hf:Ij K (.ref C) name=some (some (.ref f))) (ht:PySem.W.isFn K (.ref f)=true) (hv:mA name=none) (h:Q (.ref f,[.ref x]) s) :
  GO (G4 prog w) A (getMethod (.ref x) name pl) Q E s:=by
 obtain⟨od,J,hl⟩:=I.look
 exact PySem.W.method_fn X J (PySem.W.plainGet_of hg).1 (PySem.W.plainGet_of hg).2 hf (Jz.mp ht) (by show(PySem.W.lookIn name od).map (·.isSome)=some false;rw[hl,hv];rfl) h
theorem zH {ns:List Str}{Q:Unit->Ga->Prop}(X:K.In s.heap)(I:ub s.heap x dx C mA)
  (hs:Ij K (.ref C) "__setattr__"=some (some (.builtin "object.__setattr__"))) (hp:PySem.W.plainOver K C=true) (ht:PySem.W.takerIn K C name=some none) (hh:PySem.W.hasDictIn K C=true)
  (hw:PySem.Within mA ns) (hsz:ns.length<=Ge)
  (h:∀h',ub h' x dx C (λy=>if y=name then some v else mA y)->Heap.SameBut dx s.heap h'->Q () { s with heap:=h',toks:=s.toks+2 }) :
  GO (G4 prog w) A (setAttr (.ref x) name v) Q E s:=by
 obtain⟨od,J,hl⟩:=I.look
 refine PySem.W.set_plain X J hs (PySem.W.osa_open (s:={ s with toks:=s.toks+1 }) (r:=none) X J hp ht λb=>?_)
 obtain⟨cd,hc,hd'⟩:=PySem.W.any_some hh
 have hx:s.heap.get? x=some ⟨.ref C,some dx,.plain,#[]⟩:=I.obj
 refine FZ (Gz (FZ (FZ (wpAny_loadPart hx (FZ (PySem.W.Looks.here (s:={ s with toks:=s.toks+1 }) (PySem.W.looks_clsIn X hc) ?_))))))
 rw[hd']
 refine Gz (a:=some dx) (FZ (Gz (FZ ?_)))
 refine wpAny_nsSet1 (s:={ s with toks:=s.toks+1 }) I.ns λh' hn2 hs2=>?_
 obtain⟨oD,esD,epD,hoD,hdD,hcD⟩:=hn2.count (PySem.Within.cons name v hw)
 refine FZ (wpAny_lookBehind hoD (by rw[hdD];exact pastItsLine_dict (GU hcD (by rw[GL];lia))) ?_)
 exact Gz (h _ ⟨(hs2.2 _ (GJ I.ne)).trans I.obj,hn2,I.ne⟩ hs2)
theorem xD {R:Result->Ga->Prop}{vs:List Value}{kw:List (Str×Value)}(X:K.In s.heap)(hm:PySem.W.makesIn K C=true)
  (hi:Ij K (.ref C) "__init__"=some (some (.ref f))) (hf:PySem.W.typeIn K (.ref f)=some (.type "function"))
  (h:codeAny (G4 prog w) (A.under (.builtin "type.__call__" ⟨.ref C :: vs,kw⟩)) (.call (.ref f) ⟨.ref (s.heap.objs.size+1) :: vs,kw⟩) (PySem.W.InitBack (s.heap.objs.size+1) R)
   { s with heap:=(s.heap.push Ic).push (IQ C s.heap.objs.size) }) :
  codeAny (G4 prog w) A (.call (.ref C) ⟨vs,kw⟩) R s:=by
 obtain⟨hh,g,d,t,os⟩:=s
 exact PySem.W.make_core (PySem.W.makes_of X hm) (PySem.W.looks_findIn X hi) (λself=>PySem.W.bind_fn X self hf) (.inl rfl) h
end
def eZ (f:Str)(v:V):List (Str×V)->List (Str×V)
 |[]=>[(f,v)]
 |(g,x) :: r=>if g=f then (g,v) :: r else (g,x) :: eZ f v r
theorem aF (f g:Str)(v:V):∀fs:List (Str×V),(eZ f v fs).lookup g=if g=f then some v else fs.lookup g
 |[]=>by
  show J7 g [(f,v)]=_
  by_cases h:g=f
  ·have hb:(g==f)=true:=Jz.mpr h
   simp only[J7,hb,Gk h]
  ·have hb:(g==f)=false:=HK.mpr h
   simp only[J7,hb,Gf h]
 |(k,x) :: r=>by
  have ih:=aF f g v r
  rw[show eZ f v ((k,x) :: r)=(if k=f then (k,v) :: r else (k,x) :: eZ f v r) from rfl]
  by_cases hk:k=f
  ·rw[Gk hk]
   by_cases h:g=k
   ·have hb:(g==k)=true:=Jz.mpr h
    simp only[J7,hb,Gk (h.trans hk)]
   ·have hb:(g==k)=false:=HK.mpr h
    simp only[J7,hb,Gf (λe:g=f=>h (e.trans hk.symm))]
  ·rw[Gf hk]
   by_cases h:g=k
   ·have hb:(g==k)=true:=Jz.mpr h
    simp only[J7,hb,Gf (λe:g=f=>hk (h.symm.trans e))]
   ·have hb:(g==k)=false:=HK.mpr h
    simp only[J7,hb]
    exact ih
theorem lw (f:Str)(v:V):∀fs:List (Str×V),f∈(eZ f v fs).map (·.1)/\∀g,g∈fs.map (·.1)->g∈(eZ f v fs).map (·.1)
 |[]=>⟨by simp[eZ],λg h=>by simp at h⟩
 |(k,x) :: r=>by
  obtain⟨i1,i2⟩:=lw f v r
  rw[show eZ f v ((k,x) :: r)=(if k=f then (k,v) :: r else (k,x) :: eZ f v r) from rfl]
  by_cases hk:k=f
  ·rw[Gk hk]
   subst hk
   exact⟨by simp,λg h=>by simpa using h⟩
  ·rw[Gf hk]
   refine⟨?_,λg h=>?_⟩
   ·rw[Gw]
    exact Gc _ i1
   ·rw[Gw]at h ⊢
    rcases Gh.mp h with e|e
    ·exact Gh.mpr (.inl e)
    ·exact Gc _ (i2 g e)
theorem lW (f:Str)(v:V):∀fs:List (Str×V),(eZ f v fs).length<=fs.length+1
 |[]=>by simp[eZ]
 |(k,x) :: r=>by
  have ih:=lW f v r
  rw[show eZ f v ((k,x) :: r)=(if k=f then (k,v) :: r else (k,x) :: eZ f v r) from rfl]
  by_cases hk:k=f
  ·rw[Gk hk,GL,GL];lia
  ·rw[Gf hk,GL,GL];lia
theorem kG.some_of {v:V}{o:Option Value}(r:kG (some v) o):∃u,o=some u/\a5 v u:=by
 cases o with
 |none=>exact(show False from r).elim
 |some u=>exact⟨u,rfl,r⟩
theorem kG.none_of {o:Option Value}(r:kG none o):o=none:=by
 cases o with
 |none=>rfl
 |some u=>exact(show False from r).elim
theorem wg {v:V}{u:Value}(r:a5 v u):PySem.W.handedIn u=true:=by
 cases v with
 |non=>cases (show u=JR from r);rfl
 |bl b=>cases (show u=Value.bool b from r);rfl
 |int i=>obtain⟨t,e⟩:=(show ∃t,u=Value.int i t from r);cases e;rfl
 |str x=>obtain⟨t,e⟩:=(show ∃t,u=Value.str x t from r);cases e;rfl
 |byt b=>obtain⟨t,e⟩:=(show ∃t,u=Value.bytes b t from r);cases e;rfl
 |flt b=>obtain⟨t,e⟩:=(show ∃t,u=Value.float b t from r);cases e;rfl
 |ref a=>cases (show u=GZ a from r);rfl
 |ty n=>cases (show u=Value.type n from r);rfl
section
variable  {P:GQ}{w:HJ}{H H':Hp}{h h':Heap}{a C dx:Gb}{fs fs':List (Str×V)}
theorem qJ (hok:HOk P w H h)(e:H a=some (.ins C dx fs)):∃mA,ub h a dx C mA/\(∀f,kG (fs.lookup f) (mA f))/\PySem.Within mA (fs.map (·.1))/\fs.length<=1000/\H dx=some (.own a):=by
 obtain⟨d,z,ne,ob,mA,n,r,q⟩:=(show b9 P w H h a (.ins C dx fs) from hok a _ e)
 exact⟨mA,⟨ob,n,ne⟩,r,q,z,d⟩
end
structure Cls (K:Hq)(C:Gb):Prop where
 pg:PySem.W.plainGet K C Str.empty=true
 hd:PySem.W.hasDictIn K C=true
 po:PySem.W.plainOver K C=true
 sa:Ij K (.ref C) "__setattr__"=some (some (.builtin "object.__setattr__"))
theorem Cls.get {K:Hq}{C:Gb}(c:Cls K C)(f:Str):PySem.W.plainGet K C f=true:=c.pg
def d8 (K:Hq)(C:Gb)(f:Str):Prop:=Ij K (.ref C) f=some none
theorem d8.taker {K:Hq}{C:Gb}{f:Str}(n:d8 K C f):PySem.W.takerIn K C f=some none:=by
 unfold PySem.W.takerIn
 rw[show Ij K (.ref C) f=some none from n]
 rfl
structure vG (K:Hq)(C:Gb)(m:Str)(f:Gb):Prop where
 at_:Ij K (.ref C) m=some (some (.ref f))
 fn:PySem.W.isFn K (.ref f)=true
 kp:Ir K (.ref f)=true
section
variable  {X:Cx}{pins:List (Gb×Obj)}{σ:St}{H:Hp}{s:Ga}{a C dx:Gb}{fs:List (Str×V)}{f:Str}{v:V}{A:Around}{E:Value->Ga->Prop}
theorem ud {b:Bool}{Q:Value->Ga->Prop}(I:Inv X pins σ H s)(e:H a=some (.ins C dx fs))(c:Cls X.K C)(n:d8 X.K C f)(l:fs.lookup f=some v)
  (h:∀u s',Inv X pins σ H s'->a5 v u->Q u s'):GO (G4 X.prog X.w) A (getAttr (.ref a) f b) Q E s:=by
 obtain⟨mA,O,r,_,_,_⟩:=qJ I.hok e
 obtain⟨u,hu,ru⟩:=kG.some_of (v:=v) (o:=mA f) (by rw[<-l];exact r f)
 exact y6 I.kIn O (c.get f) c.hd n hu (wg ru) (h u _ (I.tok _) ru)
theorem jK {m:Str}{g:Gb}{pl:Sem Bool}{Q:Value×List Value->Ga->Prop}(I:Inv X pins σ H s)(e:H a=some (.ins C dx fs))(c:Cls X.K C)(k:vG X.K C m g)(l:fs.lookup m=none)
  (h:Q (.ref g,[.ref a]) s):GO (G4 X.prog X.w) A (getMethod (.ref a) m pl) Q E s:=by
 obtain⟨mA,O,r,_,_,_⟩:=qJ I.hok e
 have hn:mA m=none:=kG.none_of (by rw[<-l];exact r m)
 exact wW I.kIn O (c.get m) k.at_ k.fn hn h
theorem tX {y:V}{u:Value}{Q:Unit->Ga->Prop}(I:Inv X pins σ H s)(e:H a=some (.ins C dx fs))(c:Cls X.K C)(n:d8 X.K C f)(hl:fs.length<1000)(ry:a5 y u)
  (h:∀s',Inv X pins σ (upd H a (.ins C dx (eZ f y fs))) s'->Q () s'):GO (G4 X.prog X.w) A (setAttr (.ref a) f u) Q E s:=by
 obtain⟨mA,O,r,wi,_,ho⟩:=qJ I.hok e
 have hz:(fs.map (·.1)).length<=Ge:=by rw[lmp,sizeLine_eq];lia
 refine zH I.kIn O c.sa c.po n.taker c.hd wi hz λh' O' sb=>h _ ?_
 have hd:∃o,h'.get? dx=some o:=let ⟨o,_,_,e',_⟩:=O'.ns;⟨o,e'⟩
 refine I.write (x:=a) (e:=dx) (by rw[e];exact True.intro) (.inr ho) (λb q hb z=>(sb.2 b hb).trans z) hd ?_
 refine⟨by rw[ap O.ne];exact ho,?_,O.ne,O'.obj,_,O'.ns,λg=>?_,λg hg=>?_⟩
 ·have:=lW f y fs;lia
 ·show kG ((eZ f y fs).lookup g) (if g=f then some u else mA g)
  rw[aF]
  by_cases q:g=f
  ·rw[Gk q,Gk q];exact ry
  ·rw[Gf q,Gf q];exact r g
 ·by_cases q:g=f
  ·rw[q];exact(lw f y fs).1
  ·refine(lw f y fs).2 g (wi g λz=>hg ?_)
   show(if g=f then some u else mA g)=none
   rw[Gf q];exact z
theorem Inv.made (I:Inv X pins σ H s):Inv X pins σ (upd (upd H s.heap.objs.size (.own (s.heap.objs.size+1))) (s.heap.objs.size+1) (.ins C s.heap.objs.size []))
  { s with heap:=(s.heap.push Ic).push (IQ C s.heap.objs.size) }:=by
 have e1:(s.heap.push Ic).get? s.heap.objs.size=some Ic:=GF s.heap rfl
 have e2:((s.heap.push Ic).push (IQ C s.heap.objs.size)).get? (s.heap.objs.size+1)=some (IQ C s.heap.objs.size):=by
  have:=GF (s.heap.push Ic) (o:=IQ C s.heap.objs.size) rfl
  rwa [HC]at this
 have e3:(s.heap.push Ic).Ns s.heap.objs.size (λ_=>none):=⟨Ic,#[],_,e1,rfl,(λe he=>absurd he (by simp)),λ_=>rfl⟩
 have I1:=I.laid (a:=s.heap.objs.size) (o:=.own (s.heap.objs.size+1)) (h':=s.heap.push Ic) (t':=s.toks) (λb u q=>Gn _ q) (nlr _) ⟨_,e1⟩
 refine I1.laid (a:=s.heap.objs.size+1) (o:=.ins C s.heap.objs.size []) (t':=s.toks) (λb u q=>Gn _ q) (Nat.le_of_eq (HC _ _)) ?_
 have ne:s.heap.objs.size≠s.heap.objs.size+1:=GW (Nat.lt_succ_self _)
 refine⟨by rw[ap ne,ae],Hj _,ne,e2,λ_=>none,(Heap.Ns1.of_empty e3).at λo q=>Gn _ q,λ_=>True.intro,λy hy=>absurd rfl hy⟩
theorem zf {prog:GQ}{w:HJ}{env:Env}{e:Expr}{f:Str}{pos:Pos}{s:Ga}{Q:Value->Ga->Prop}(hb:attributeBase e f env (JZ e env)=JZ e env)
  (h:GO (G4 prog w) A (JZ e env) (λo s₁=>GO (G4 prog w) A (getAttr o f true) Q E s₁) E s):GO (G4 prog w) A (JZ (.Attribute e f pos) env) Q E s :=
 Attribute_any_ h (by rw[arm_eval_Attribute,hb])
end
def wo (K:Hq)(ta:TE)(f:Str):TE:=λσ H Q=>ta σ H λx H1=>∃a C dx fs v,x=.ref a/\H1 a=some (.ins C dx fs)/\Cls K C/\d8 K C f/\fs.lookup f=some v/\Q v H1
def FS (K:Hq)(ta tv:TE)(f:Str):TS:=λD σ H=>tv σ H λy H1=>ta σ H1 λx H2=>∃a C dx fs,x=.ref a/\H2 a=some (.ins C dx fs)/\Cls K C/\d8 K C f/\fs.length<1000 /\
 D.nx σ (upd H2 a (.ins C dx (eZ f y fs)))
section
variable  {X:Cx}{o e value:Expr}{f:Str}{pos pos' tpos:Pos}{ta tv:TE}
theorem aQ (he:PE X e ta)(hb:attributeBase e f X.env (JZ e X.env)=JZ e X.env):PE X (.Attribute e f pos) (wo X.K ta f):=by
 intro pins s σ H Q I h
 refine zf hb (thn (he pins s σ H _ I h) λu s1 ⟨x,H1,I1,rx,a,C,dx,fs,v,ex,ea,c,n,l,q⟩=>?_)
 subst ex
 obtain rfl:u=GZ a:=rx
 exact ud I1 ea c n l λu' s2 I2 ru=>⟨v,H1,I2,ru,q⟩
theorem i9 (ha:PE X o ta)(hv:PE X value tv)(hs:swapsWith value (some (.Attribute o f pos')) pos.line X.env=pure false):PS X (.Assign [.Attribute o f pos'] value pos) (FS X.K ta tv f):=by
 intro pins s σ H D I h
 refine plainObj_wpAny_Assign_Attribute (thn (hv pins s σ H _ I h) λu s1 ⟨y,H1,I1,ry,q⟩=>thn (ha pins s1 σ H1 _ I1 q) λov s2 ⟨x,H2,I2,rx,a,C,dx,fs,ex,ea,c,n,l,q2⟩=>?_) hs
 subst ex
 obtain rfl:ov=GZ a:=rx
 exact tX I2 ea c n l ry λs3 I3=>⟨σ,_,I3,q2⟩
theorem A0 {pl:Sem Bool}{m:Str}{apos:Pos}{args:List Expr}{pins:List (Gb×Obj)}{s:Ga}{σ:St}{H:Hp}{Q:Value->Ga->Prop}{te:TE}(he:PE X e te)(I:Inv X pins σ H s)
  (h:te σ H λx H1=>∃a C dx fs g,x=.ref a/\H1 a=some (.ins C dx fs)/\Cls X.K C/\vG X.K C m g/\fs.lookup m=none /\
   ∀s1,Inv X pins σ H1 s1->GO (G4 X.prog X.w) X.A (callWith pos (.ref g) [.ref a] (JC pos (GM args X.env)) (backToKw pos (JF [] X.env))) Q X.xe s1)
  (ht:JZ (.Call (.Attribute e m apos) args [] pos) X.env=(do
   let ov <-JZ e X.env
   standAt apos.atName
   let (f,first) <-holding [ov] (getMethod ov m pl)
   callWith pos f first (JC pos (GM args X.env)) (backToKw pos (JF [] X.env)))) :
  GO (G4 X.prog X.w) X.A (JZ (.Call (.Attribute e m apos) args [] pos) X.env) Q X.xe s:=by
 refine PySem.W.methodCall_KW (pl:=pl) (thn (he pins s σ H _ I h) λu s1 ⟨x,H1,I1,rx,a,C,dx,fs,g,ex,ea,c,k,l,q⟩=>?_) ht
 subst ex
 obtain rfl:u=GZ a:=rx
 exact jK I1 ea c k l (q s1 I1)
end
section
variable  {X:Cx}{pins:List (Gb×Obj)}{σ:St}{H:Hp}{s:Ga}{A:Around}{E:Value->Ga->Prop}{Q:Value->Ga->Prop}{c:Value}{b:Bool}
end
end L2
namespace L2
open PySem PySem.Spec PyProof.Rows
structure br (k:Nat)(A:Around):Prop where
 hd:A.handled=none
 dp:A.depth+3*k+5<recursionLimit
 un:A.units+16*k+200<cLine
theorem br.mono {j k:Nat}{A:Around}(r:br k A)(h:j<=k):br j A:=⟨r.hd,by have:=r.dp;lia,by have:=r.un;lia⟩
theorem br.deeper {k:Nat}{A:Around}(r:br (k+1) A)(env:Env):br k (A.deeper env) :=
 ⟨r.hd,by have:=r.dp;show A.depth+1+3*k+5<_;lia,by have:=r.un;show A.units+3+16*k+200<_;lia⟩
theorem ua {A:Around}{C:Gb}{us:List Value}{kw:List (Str×Value)}:(A.under (.builtin "type.__call__" ⟨.ref C :: us,kw⟩)).depth=A.depth+1:=by
 first|rfl|simp[Around.under,Code.weight,Code.isCreation,Code.isGuard,Code.isCaller,Code.frames,Code.isFrame,guardIds]
theorem ui {A:Around}{C:Gb}{us:List Value}{kw:List (Str×Value)}:(A.under (.builtin "type.__call__" ⟨.ref C :: us,kw⟩)).units=A.units+1:=by
 first|rfl|simp[Around.under,Code.cUnits,Code.frames,Code.isFrame]
theorem br.make {k:Nat}{A:Around}(r:br (k+1) A)(C:Gb)(us:List Value)(kw:List (Str×Value)):br k (A.under (.builtin "type.__call__" ⟨.ref C :: us,kw⟩)) :=
 ⟨r.hd,by have:=r.dp;rw[ua];lia,by have:=r.un;rw[ui];lia⟩
theorem br.depth {k:Nat}{A:Around}(r:br k A):A.depth<recursionLimit:=by have:=r.dp;lia
theorem br.units {k:Nat}{A:Around}(r:br k A):A.units+64<cLine:=by have:=r.un;lia
theorem br.units0 {k:Nat}{A:Around}(r:br k A):A.units<cLine:=by have:=r.un;lia
def fc:TA:=λ_ H Q=>Q [] H
def a8 (ta:TE)(tr:TA):TA:=λσ H Q=>ta σ H λx H1=>tr σ H1 λxs H2=>Q (x :: xs) H2
section
variable  {X:Cx}{e:Expr}{es:List Expr}{te:TE}{t:TA}{pos:Pos}
theorem ac:PA X [] fc:=λ_ _ _ _ H Q I h=>Calls.spliced_nil ⟨[],H,I,.nil,h⟩
theorem aa (ha:PE X e te)(hr:PA X es t)(hs:GM (e :: es) X.env=(false,JZ e X.env) :: GM es X.env:=by rfl):PA X (e :: es) (a8 te t):=by
 intro pos pins s σ H Q I h
 rw[hs]
 show GO _ _ (spliced ((false,JZ e X.env) :: JC pos (GM es X.env))) _ _ s
 refine Calls.spliced_cons (thn (ha pins s σ H _ I h) λu s1 ⟨x,H1,I1,r1,q1⟩=>?_)
 exact thn (hr pos pins s1 σ H1 _ I1 q1) λus s2 ⟨xs,H2,I2,r2,q2⟩=>⟨x :: xs,H2,I2,.cons r1 r2,q2⟩
def wI (t:TA):TE:=λσ H Q=>t σ H λxs H1=>xs.length<=Ge/\∀p,H1 p=none->Q (.ref p) (upd H1 p (.tup xs))
def DA (t:TA):TE:=λσ H Q=>t σ H λxs H1=>xs.length<=Ge/\∀p,H1 p=none->Q (.ref p) (upd H1 p (.lst xs))
theorem bG {x1}(h:PA X es t):PE X (.Tuple es x1 pos) (wI t):=by
 intro pins s σ H Q I hq
 refine wpAny_Tuple_spliced (thn (h pos pins s σ H _ I hq) λus s1 ⟨xs,H1,I1,r,z,q⟩=>⟨by rw[<-r.length];exact z,?_⟩)
 have hf:H1 s1.heap.objs.size=none:=I1.hok.fresh (nlr _)
 refine⟨.ref s1.heap.objs.size,upd H1 s1.heap.objs.size (.tup xs),I1.laid (t':=s1.toks) (λb u e=>Gn _ e) (nlr _) ?_,rfl,q _ hf⟩
 exact⟨z,us,r,⟨_,GF _ rfl,rfl,_,rfl⟩⟩
theorem dQ (h:PA X es t):PE X (.List es pos) (DA t):=by
 intro pins s σ H Q I hq
 refine wpAny_List_spliced (thn (h pos pins s σ H _ I hq) λus s1 ⟨xs,H1,I1,r,z,q⟩=>⟨by rw[<-r.length];exact z,?_⟩)
 have hf:H1 s1.heap.objs.size=none:=I1.hok.fresh (nlr _)
 refine⟨.ref s1.heap.objs.size,upd H1 s1.heap.objs.size (.lst xs),I1.laid (t':=s1.toks) (λb u e=>Gn _ e) (nlr _) ?_,rfl,q _ hf⟩
 exact⟨z,us,0,r,GF _ rfl⟩
end
abbrev Sp:=List V->Hp->VK->XK->Prop
abbrev CXT:=List Env->Hp->Ga->XK->Value->Ga->Prop
structure si (P:GQ)(w:HJ)(K:Hq)(mg:Str->Option Value)(base:Heap)(A:Around)(outer:List Env)(s:Ga)(H:Hp):Prop where
 frames:A.frames=some outer
 mod:Mod K mg base
 bs:∀b o,base.get? b=some o->s.heap.get? b=some o/\H b=none
 bsz:base.objs.size<=s.heap.objs.size
 funs:s.heap.FunFrames base outer
 frf:∀b∈frs outer,H b=none
 hok:HOk P w H s.heap
 bare:AllBare s.gens
def CE (outer:List Env)(P:GQ)(w:HJ)(H:Hp)(s:Ga)(Q:VK)(u:Value)(s':Ga):Prop :=
 ∃v H',s'.os=s.os/\AllBare s'.gens/\Un (frs outer) [] H H' s.heap s'.heap/\HOk P w H' s'.heap/\a5 v u/\Q v H'
def CR (CX:CXT)(outer:List Env)(P:GQ)(w:HJ)(H:Hp)(s:Ga)(Q:VK)(E:XK)(r:Result)(s':Ga):Prop :=
 match r with
 |.ok (.ret u)=>CE outer P w H s Q u s'
 |.ok _=>False
 |.error e=>CX outer H s E e s'
structure jh (P:GQ)(w:HJ)(K:Hq)(mg:Str->Option Value)(base:Heap)(CX:CXT)(k:Nat)(f:Gb)(fd:JU)(ps:List Str)(sp:Sp):Prop where
 len:∀vs H Q E,sp vs H Q E->vs.length=ps.length
 run:∀(A:Around) (outer:List Env) (s:Ga) (H:Hp) (args:Args) (us:List Value) (vs:List V) (Q:VK) (E:XK),br k A->si P w K mg base A outer s H->BindsTo s fd args (ps.zip us)->aS vs us->sp vs H Q E ->
  codeAny (G4 P w) A (.call (.ref f) args) (CR CX outer P w H s Q E) s
theorem si.make {P:GQ}{w:HJ}{K:Hq}{mg:Str->Option Value}{base:Heap}{A:Around}{outer:List Env}{s:Ga}{H:Hp}(e:si P w K mg base A outer s H)(C:Gb)(us:List Value)(kw:List (Str×Value)) :
  si P w K mg base (A.under (.builtin "type.__call__" ⟨.ref C :: us,kw⟩)) outer s H:=⟨by first|exact e.frames|(simpa [Around.under,Code.envs,Code.isFrame,pushEnvs] using e.frames),e.mod,e.bs,e.bsz,e.funs,e.frf,e.hok,e.bare⟩
section
variable  {X:Cx}{pins:List (Gb×Obj)}{σ:St}{H:Hp}{s s':Ga}
theorem Inv.env0 (I:Inv X pins σ H s):si X.prog X.w X.K X.mg X.base X.A X.stack s H :=
 ⟨I.ok.frames,I.ok.mod,I.bs,GU I.ok.bsz I.sz,I.stack,I.stkFree,I.hok,I.bare⟩
theorem Inv.after {Q:VK}{u:Value}(I:Inv X pins σ H s)(h:CE X.stack X.prog X.w H s Q u s'):EP X pins σ Q u s':=by
 obtain⟨v,H',os,bare,un,hok,r,q⟩:=h
 obtain⟨hh,g,d,t,os'⟩:=s'
 obtain rfl:os'=s.os:=os
 exact⟨v,H',I.call (h':=hh) (g':=g) (d':=d) (t':=t) (ch:=[]) un hok bare (λb z=>absurd z (by simp)),r,q⟩
end
def iM (sp:Sp)(dvs:List V)(E:XK)(t:TA):TE:=λσ H Q=>t σ H λvs H1=>sp (vs++dvs) H1 Q E
def kt (C:Gb)(m:Str)(sp:Sp)(dvs:List V)(E:XK)(ta:TE)(t:TA):TE:=λσ H Q=>ta σ H λx H1=>∃a dx fs,x=.ref a/\H1 a=some (.ins C dx fs)/\fs.lookup m=none /\
 t σ H1 λvs H2=>sp (x :: (vs++dvs)) H2 Q E
def AH (C:Gb)(sp:Sp)(dvs:List V)(E:XK)(t:TA):TE:=λσ H Q=>t σ H λvs H1=>∀x dx,H1 x=none->H1 dx=none->dx≠x ->
 sp (.ref x :: (vs++dvs)) (upd (upd H1 dx (.own x)) x (.ins C dx [])) (λv H2=>v=.non/\Q (.ref x) H2) E
def iQ (K:Hq)(fd:JU)(ps:List Str)(ds:List Value):Prop :=
 ∀(s:Ga) (us:List Value),K.In s.heap->(us++ds).length=ps.length->BindsTo s fd ⟨us,[]⟩ (ps.zip (us++ds))
theorem iQ.all {K:Hq}{fd:JU}{ps:List Str}(h:∀us:List Value,us.length=ps.length->bindArgs fd ⟨us,[]⟩=pure (ps.zip us)):iQ K fd ps []:=λs us _ hl=>by
 rw[HM]at hl ⊢
 exact .of_eq (h us hl)
def jS (CX:CXT)(X:Cx)(E:XK):Prop:=∀(pins:List (Gb×Obj)) (σ:St) (H:Hp) (s:Ga) (e:Value) (s':Ga),Inv X pins σ H s->CX X.stack H s E e s'->X.xe e s'
section
variable  {X:Cx}{CX:CXT}{k:Nat}{f C:Gb}{fd:JU}{ps:List Str}{sp:Sp}{dvs:List V}{ds:List Value}{E:XK}{x m:Str}{p pos apos:Pos}{e o:Expr}{es:List Expr}{ta:TE}{t:TA}
theorem tW {pins:List (Gb×Obj)}{σ:St}{H:Hp}{s:Ga}{Q:VK}{us:List Value}{vs:List V}(F:jh X.prog X.w X.K X.mg X.base CX k f fd ps sp)(hr:br k X.A)(hb:iQ X.K fd ps ds)(hd:aS dvs ds)(hx:jS CX X E)
  (I:Inv X pins σ H s) (r:aS vs us) (h:sp (vs++dvs) H Q E):GO (G4 X.prog X.w) X.A (call (.ref f) us) (EP X pins σ Q) X.xe s:=by
 have r2:aS (vs++dvs) (us++ds):=r.append hd
 have hl:(us++ds).length=ps.length:=by rw[<-r2.length];exact F.len _ _ _ _ h
 refine wpAny_call (codeAny_mono (F.run X.A X.stack s H ⟨us,[]⟩ (us++ds) (vs++dvs) Q E hr I.env0 (hb s us I.kIn hl) r2 h) λr s' hq=>?_)
 cases r with
 |error e=>exact hx pins σ H s e s' I hq
 |ok fl =>
  cases fl with
  |ret u=>exact I.after hq
  |next=>exact HV hq
  |brk=>exact HV hq
  |cont=>exact HV hq
theorem Aq (F:jh X.prog X.w X.K X.mg X.base CX k f fd ps sp)(hr:br k X.A)(hg:Gl X x)(hm:X.mg x=some (.ref f))(hk:Ir X.K (.ref f)=true)(hb:iQ X.K fd ps ds)(hd:aS dvs ds)(hx:jS CX X E)
  (ha:PA X (e :: es) t) (hdb:(x==("__debug__" : Str))=false:=by decide) (he:GM (e :: es) X.env=(false,JZ e X.env) :: GM es X.env:=by rfl) (hpl:(JC pos (GM es X.env)).any (·.1)=false:=by rfl) :
  PE X (.Call (.Name x p) (e :: es) [] pos) (iM sp dvs E t):=by
 intro pins s σ H Q I h
 refine JE (qm I hg hm ?_ hdb)
 refine PySem.W.callWith_K (h₀:=X.base) I.ok.mod.kin hk (thn (ha pos pins s σ H _ I h) λus s1 ⟨vs,H1,I1,r,q⟩=>⟨I1.kIn,?_⟩) he hpl
 exact tW F hr hb hd hx I1 r q
theorem y8 {pl:Sem Bool}(he:PE X o ta)(c:Cls X.K C)(hm:vG X.K C m f)(F:jh X.prog X.w X.K X.mg X.base CX k f fd ps sp)(hr:br k X.A)(hb:iQ X.K fd ps ds)(hd:aS dvs ds)(hx:jS CX X E)(ha:PA X (e :: es) t)
  (hst:GM (e :: es) X.env=(false,JZ e X.env) :: GM es X.env:=by rfl) (hpl:(JC pos (GM es X.env)).any (·.1)=false:=by rfl)
  (ht:JZ (.Call (.Attribute o m apos) (e :: es) [] pos) X.env=(do
   let ov <-JZ o X.env
   standAt apos.atName
   let (f,first) <-holding [ov] (getMethod ov m pl)
   callWith pos f first (JC pos (GM (e :: es) X.env)) (backToKw pos (JF [] X.env))):=by rfl) :
  PE X (.Call (.Attribute o m apos) (e :: es) [] pos) (kt C m sp dvs E ta t):=by
 intro pins s σ H Q I h
 refine PySem.W.methodCall_KW (pl:=pl) (thn (he pins s σ H _ I h) λu s1 ⟨x,H1,I1,rx,a,dx,fs,ex,ea,l,q⟩=>?_) ht
 subst ex
 obtain rfl:u=GZ a:=rx
 refine jK I1 ea c hm l ?_
 refine PySem.W.callWith_K (first:=[.ref a]) (h₀:=X.base) I.ok.mod.kin hm.kp (thn (ha pos pins s1 σ H1 _ I1 q) λus s2 ⟨vs,H2,I2,r,q2⟩=>⟨I2.kIn,?_⟩) hst hpl
 exact tW (us:=.ref a :: us) (vs:=.ref a :: vs) F hr hb hd hx I2 (.cons rfl r) q2
theorem yy {pl:Sem Bool}(he:PE X o ta)(c:Cls X.K C)(hm:vG X.K C m f)(F:jh X.prog X.w X.K X.mg X.base CX k f fd ps sp)(hr:br k X.A)(hb:iQ X.K fd ps ds)(hd:aS dvs ds)(hx:jS CX X E)
  (ht:JZ (.Call (.Attribute o m apos) [] [] pos) X.env=(do
   let ov <-JZ o X.env
   standAt apos.atName
   let (f,first) <-holding [ov] (getMethod ov m pl)
   callWith pos f first (JC pos (GM [] X.env)) (backToKw pos (JF [] X.env))):=by rfl) :
  PE X (.Call (.Attribute o m apos) [] [] pos) (kt C m sp dvs E ta fc):=by
 intro pins s σ H Q I h
 refine PySem.W.methodCall_KW (pl:=pl) (thn (he pins s σ H _ I h) λu s1 ⟨x,H1,I1,rx,a,dx,fs,ex,ea,l,q⟩=>?_) ht
 subst ex
 obtain rfl:u=GZ a:=rx
 refine jK I1 ea c hm l ?_
 exact PySem.W.callWith_K0 (first:=[.ref a]) I1.kIn hm.kp (tW (us:=[.ref a]) (vs:=[.ref a]) F hr hb hd hx I1 (.cons rfl .nil) q)
structure Mk (K:Hq)(C f:Gb):Prop where
 makes:PySem.W.makesIn K C=true
 init:Ij K (.ref C) "__init__"=some (some (.ref f))
 fn:PySem.W.isFn K (.ref f)=true
 kp:Ir K (.ref C)=true
theorem xY {pins:List (Gb×Obj)}{σ:St}{H:Hp}{s:Ga}{Q:VK}{us:List Value}{vs:List V}(M:Mk X.K C f)(F:jh X.prog X.w X.K X.mg X.base CX k f fd ps sp)(hr:br (k+1) X.A)(hb:iQ X.K fd ps ds)(hd:aS dvs ds)
  (hx:jS CX X E) (I:Inv X pins σ H s) (r:aS vs us)
  (h:∀x dx,H x=none->H dx=none->dx≠x->sp (.ref x :: (vs++dvs)) (upd (upd H dx (.own x)) x (.ins C dx [])) (λv H2=>v=.non/\Q (.ref x) H2) E) :
  GO (G4 X.prog X.w) X.A (call (.ref C) us) (EP X pins σ Q) X.xe s:=by
 have hq:=h (s.heap.objs.size+1) s.heap.objs.size (I.hok.fresh (Nat.le_succ _)) (I.hok.fresh (nlr _)) (GW (Nat.lt_succ_self _))
 have I2:=Inv.made (C:=C) I
 have r2:aS (V.ref (s.heap.objs.size+1) :: (vs++dvs)) (GZ (s.heap.objs.size+1) :: (us++ds)):=.cons rfl (r.append hd)
 have hl:(GZ (s.heap.objs.size+1) :: us++ds).length=ps.length:=by
  have e:=r2.length
  rw[F.len _ _ _ _ hq]at e
  exact e.symm
 refine wpAny_call (xD (f:=f) I.kIn M.makes M.init (Jz.mp M.fn) (codeAny_mono (F.run _ X.stack _ _ ⟨GZ (s.heap.objs.size+1) :: us,[]⟩ (GZ (s.heap.objs.size+1) :: (us++ds)) _ _ E (hr.make C us [])
  (I2.env0.make C us []) (hb _ (GZ (s.heap.objs.size+1) :: us) I2.kIn hl) r2 hq) λr s' hq'=>?_))
 cases r with
 |error e=>exact hx pins σ _ _ e s' I2 hq'
 |ok fl =>
  cases fl with
  |ret u =>
   obtain⟨v,H',I3,rv,ev,q3⟩:=I2.after hq'
   subst ev
   exact⟨rv,⟨V.ref (s.heap.objs.size+1),H',I3,rfl,q3⟩⟩
  |next=>exact HV hq'
  |brk=>exact HV hq'
  |cont=>exact HV hq'
theorem zS (M:Mk X.K C f)(F:jh X.prog X.w X.K X.mg X.base CX k f fd ps sp)(hr:br (k+1) X.A)(hg:Gl X x)(hm:X.mg x=some (.ref C))(hb:iQ X.K fd ps ds)(hd:aS dvs ds)(hx:jS CX X E)
  (ha:PA X (e :: es) t) (hdb:(x==("__debug__" : Str))=false:=by decide) (he:GM (e :: es) X.env=(false,JZ e X.env) :: GM es X.env:=by rfl) (hpl:(JC pos (GM es X.env)).any (·.1)=false:=by rfl) :
  PE X (.Call (.Name x p) (e :: es) [] pos) (AH C sp dvs E t):=by
 intro pins s σ H Q I h
 refine JE (qm I hg hm ?_ hdb)
 refine PySem.W.callWith_K (h₀:=X.base) I.ok.mod.kin M.kp (thn (ha pos pins s σ H _ I h) λus s1 ⟨vs,H1,I1,r,q⟩=>⟨I1.kIn,?_⟩) he hpl
 exact xY M F hr hb hd hx I1 r q
end
section
variable  {X:Cx}{CX:CXT}{k:Nat}{f C:Gb}{fd:JU}{ps ks:List Str}{sp:Sp}{E:XK}{x m:Str}{p pos apos kpos:Pos}{e o:Expr}{es:List Expr}{kws:List Keyword}{te ta:TE}{t tk:TA}{nm:Option Str}
variable  {g:List Value->List Value->List Value}{gV:List V->List V->List V}
end
structure aq (N P:List Str)(sc:Scope):Prop where
 kind:sc.kind=.function
 co:sc.isCoroutine=false
 gen:sc.isGenerator=false
 nd:N.Nodup
 pre:N.take P.length=P
 par:∀x∈P,sc.names.lookup x=some .local\/sc.names.lookup x=some .cell
 nofree:∀y∈sc.names,y.2≠.free
theorem fsk {N P:List Str}{sc:Scope}(a:sc.kind=.function:=by rfl)(b:sc.isCoroutine=false:=by rfl)(c:sc.isGenerator=false:=by rfl)(d:N.Nodup:=by decide +kernel)(e:N.take P.length=P:=by rfl)(f:∀x∈P,sc.names.lookup x=some .local\/sc.names.lookup x=some .cell:=by decide +kernel)(g:∀y∈sc.names,y.2≠.free:=by decide +kernel):aq N P sc:=⟨a,b,c,d,e,f,g⟩
theorem pE {kindOf:Str->Option NameKind}{x:Str}:∀{binds:List (Str×Value)} {m:Str->Option Value},(∀v,(x,v)∉binds)->bindL kindOf binds m x=m x
 |[],_,_=>rfl
 |(n,v) :: r,m,h=>by
  unfold bindL
  rw[pE λw hw=>h w (Gc _ hw)]
  split
  ·have:x≠n:=by rintro rfl;exact h v Gv
   simp[this]
  ·rfl
theorem pQ {kindOf:Str->Option NameKind}{x:Str}:∀{binds:List (Str×Value)} {m:Str->Option Value},(∀v,(x,v)∉binds)->bindC kindOf binds m x=m x
 |[],_,_=>rfl
 |(n,v) :: r,m,h=>by
  unfold bindC
  rw[pQ λw hw=>h w (Gc _ hw)]
  split
  ·rfl
  ·have:x≠n:=by rintro rfl;exact h v Gv
   simp[this]
theorem pz {kindOf:Str->Option NameKind}{x:Str}{v:Value}:∀{P:List Str} {vs:List Value} {i:Nat} {m:Str->Option Value},P.Nodup->P[i]? = some x->vs[i]? = some v->kindOf x=some .local ->
  bindL kindOf (P.zip vs) m x=some v
 |[],_,_,_,_,h,_,_=>by simp at h
 |_ :: _,[],_,_,_,_,h,_=>by simp at h
 |p :: P,w :: vs,0,m,nd,h1,h2,hk=>by
  simp at h1 h2;subst h1;subst h2
  show bindL kindOf ((p,w) :: P.zip vs) m p=_
  unfold bindL
  rw[pE λv hv=>(HN.mp nd).1 (List.of_mem_zip hv).1,Gk hk]
  simp
 |p :: P,w :: vs,i+1,m,nd,h1,h2,hk=>by
  show bindL kindOf ((p,w) :: P.zip vs) m x=_
  unfold bindL
  exact pz (i:=i) (HN.mp nd).2 (by simpa using h1) (by simpa using h2) hk
theorem pH {kindOf:Str->Option NameKind}{x:Str}{v:Value}:∀{P:List Str} {vs:List Value} {i:Nat} {m:Str->Option Value},P.Nodup->P[i]? = some x->vs[i]? = some v->kindOf x≠some .local ->
  bindC kindOf (P.zip vs) m x=some v
 |[],_,_,_,_,h,_,_=>by simp at h
 |_ :: _,[],_,_,_,_,h,_=>by simp at h
 |p :: P,w :: vs,0,m,nd,h1,h2,hk=>by
  simp at h1 h2;subst h1;subst h2
  show bindC kindOf ((p,w) :: P.zip vs) m p=_
  unfold bindC
  rw[pQ λv hv=>(HN.mp nd).1 (List.of_mem_zip hv).1,Gf hk]
  simp
 |p :: P,w :: vs,i+1,m,nd,h1,h2,hk=>by
  show bindC kindOf ((p,w) :: P.zip vs) m x=_
  unfold bindC
  exact pH (i:=i) (HN.mp nd).2 (by simpa using h1) (by simpa using h2) hk
def start (N:List Str)(vs:List V):St:=vs.map some++GS (N.length-vs.length) none
def qe (CX:CXT)(P:GQ)(w:HJ)(K:Hq)(mg:Str->Option Value)(base:Heap)(N:List Str)(qual:Str)(scope:Scope)(f:Gb)(cd:Value)(A:Around)(outer:List Env)(s:Ga)(H:Hp)(E:XK):Cx where
 prog:=P
 w:=w
 K:=K
 mg:=mg
 base:=base
 A:=A.deeper (envOfC qual scope s.heap.objs.size f cd)
 N:=N
 s_0:=s
 H_0:=H
 env:=envOfC qual scope s.heap.objs.size f cd
 outer:=outer
 stack:=envOfC qual scope s.heap.objs.size f cd :: outer
 ex:=[]
 calm:=true
 fn:=λ_=>true
 pn:=[]
 xe:=λe s'=>GO (G4 P w) (A.deeper (envOfC qual scope s.heap.objs.size f cd)) (leaving (envOfC qual scope s.heap.objs.size f cd) e) (λ_ s''=>CX outer H s E e s'') (λe' s''=>CX outer H s E e' s'') s'
theorem sO {sc:Scope}{n:Nat}{x:Str}(h:sc.names.lookup x=some .cell):∃c,(Ie n sc.names []).lookup x=some c:=by
 have q:=PySem.W.cellsFrom_some sc.names n [] (.inl h)
 exact Option.isSome_iff_exists.mp q
theorem vW {CX:CXT}{P:GQ}{w:HJ}{K:Hq}{mg:Str->Option Value}{base:Heap}{N ps:List Str}{qual:Str}{scope:Scope}{f:Gb}{cd:Value}{A:Around}{outer:List Env}{s s1:Ga}{H:Hp}{E:XK}{us:List Value}{vs:List V}
  (S:aq N ps scope) (hd:A.handled=none) (e0:si P w K mg base A outer s H) (hl:vs.length=ps.length) (r:aS vs us)
  (x:InCallC s s.heap.objs.size (bindL (envOfC qual scope s.heap.objs.size f cd).kindOf (ps.zip us) λ_=>none) (Ie (s.heap.objs.size+1) scope.names []) (bindC (envOfC qual scope s.heap.objs.size f cd).kindOf (ps.zip us) λ_=>none) s1) :
  Inv (qe CX P w K mg base N qual scope f cd A outer s H E) [] (start N vs) H s1:=by
 have hpl:ps.length<=N.length:=by have:=Ia List.length S.pre;rw[GY]at this;lia
 obtain⟨h1,tk,rfl,hk⟩:=x.done
 have noA:∀b:Gb,b∉(qe CX P w K mg base N qual scope f cd A outer s H E).ex:=λb z=>absurd (show b∈([]:List Gb) from z) (by simp)
 refine⟨⟨e0.mod,S.kind,rfl,rfl,nlr _,λy z c h1 h2=>?_,λy hy=>?_,λy c _ h=>?_,λ_=>hd,Around.frames_deeper e0.frames,.inr ⟨rfl,rfl⟩,λb z=>absurd z (noA b),e0.bs,e0.bsz,λb _ _=>noA b,λb z=>absurd z (noA b),e0.funs,e0.frf⟩,
  rfl,e0.bare,Un.kept hk,⟨_,x.toInCall.ns,λi y v h1 h2 h3=>?_⟩,λy c h=>⟨_,x.cell y c h⟩,e0.hok.fresh (nlr _),λy c h=>?_,λp hp=>absurd (show p∈([]:List (Gb×Obj)) from hp) (by simp),e0.hok.kept hk,?_⟩
 ·exact name_of_addr x.apart (G1 h1) (G1 h2)
 ·have hy:scope.names.lookup y=some .cell\/scope.names.lookup y=some .free:=hy
  rcases hy with hy|hy
  ·exact sO hy
  ·exact absurd rfl (S.nofree _ (G1 hy))
 ·exact Jp (x.above y c (G1 h))
 ·have hi:i<vs.length:=by
   unfold start at h2
   by_cases hi:i<vs.length
   ·exact hi
   ·rw[Gx (by simpa using hi)]at h2
    rw[Js]at h2
    split at h2<;>cases h2
  have ha:vs[i]? = some v:=by
   unfold start at h2
   rw[GB (by simpa using hi),Gp]at h2
   cases e:vs[i]? with
   |none=>rw[e]at h2;cases h2
   |some a=>rw[e]at h2;cases h2;rfl
  obtain⟨u,hu,rv⟩:=r.get ha
  have hp:ps[i]? = some y:=by
   rw[<-S.pre,List.getElem?_take_of_lt (by lia)];exact h1
  have ndP:ps.Nodup:=by rw[<-S.pre];exact S.nd.sublist (List.take_sublist _ _)
  refine⟨u,rv,?_⟩
  rcases S.par y (GV hp) with k|k
  ·exact .inl ⟨k,pz ndP hp hu k⟩
  ·obtain⟨c,e⟩:=sO (n:=s.heap.objs.size+1) k
   refine .inr ⟨.inl k,c,e,?_⟩
   have q:=x.cell y c e
   rw[pH ndP hp hu (by show scope.names.lookup y≠_;rw[k];decide)]at q
   exact q
 ·exact e0.hok.fresh (Jp (x.above y c (G1 h)))
 ·unfold start
  show _=N.length
  rw[Gd,lmp,Ig]
  lia
theorem DQ {CX:CXT}{P:GQ}{w:HJ}{K:Hq}{mg:Str->Option Value}{base:Heap}{k:Nat}{f:Gb}{name qual:Str}{params:Arguments}{body:List Iw}{scope:Scope}{dV kV doc pm cdv ct oc:Value}{an od:Option Gb}
  {osl:Array (Option Value)} {N ps:List Str} {sp:Sp} (lk:K.lookup f=some ⟨oc,od,.func (IN name qual params body scope dV kV doc pm an cdv ct),osl⟩) (hcd:J1 K cdv qual=true) (S:aq N ps scope)
  (len:∀vs H Q E,sp vs H Q E->vs.length=ps.length)
  (hbody:∀(A:Around) (outer:List Env) (s:Ga) (H:Hp) (vs:List V) (Q:VK) (E:XK),br k (A.deeper (envOfC qual scope s.heap.objs.size f cdv))->sp vs H Q E ->
   ∃t,PSs (qe CX P w K mg base N qual scope f cdv A outer s H E) body t/\t { nx:=λ_ H'=>Q .non H',rt:=Q } (start N vs) H) :
  jh P w K mg base CX (k+1) f (IN name qual params body scope dV kV doc pm an cdv ct) ps sp:=by
 refine⟨len,λA outer s H args us vs Q E hr e0 hb r hsp=>?_⟩
 have hl:=len _ _ _ _ hsp
 have KX:K.In s.heap:=e0.mod.kin.keeps λb o e=>(e0.bs b o e).1
 have lim:s.heap.NoLimit:=e0.mod.nolimit.keeps λb o e=>(e0.bs b o e).1
 have hkind:∀y∈ps.zip us,scope.names.lookup y.1=some .local\/(scope.names.lookup y.1=some .cell/\((Ie (s.heap.objs.size+1) scope.names []).lookup y.1).isSome=true):=λ⟨n,v⟩ hy=>by
  rcases S.par n (List.of_mem_zip hy).1 with q|q
  ·exact .inl q
  ·exact .inr ⟨q,PySem.W.cellsFrom_some _ _ _ (.inl q)⟩
 refine codeAny_call_function hr.depth (KX _ _ lk) rfl S.co S.gen rfl (PySem.W.codeRec_of KX hcd) (hb _ _ _ _ ?_)
 refine wpAny_newFunctionEnv_cells S.kind hkind λenv he s1 x=>?_
 subst he
 refine⟨lim.keeps x.toInCall.keep,codeAny_func ?_⟩
 obtain⟨t,ht,hq⟩:=hbody A outer s H vs Q E (hr.deeper _) hsp
 have I:Inv (qe CX P w K mg base N qual scope f cdv A outer s H E) [] (start N vs) H s1:=vW S hr.hd e0 hl r x
 refine JS (ht [] s1 (start N vs) H _ I hq) (λfl s' hs=>?_) λe s' hs=>hs
 have fin:∀{σ':St} {H':Hp} {v:V} {u:Value},Inv (qe CX P w K mg base N qual scope f cdv A outer s H E) [] σ' H' s'->a5 v u->Q v H'->CE outer P w H s Q u s' :=
  λ{σ' H' v u} J rv q=>⟨v,H',J.os,J.bare,J.base,J.hok,rv,q⟩
 cases fl with
 |ret u =>
  obtain⟨v,σ',H',J,rv,q⟩:=hs
  exact fin J rv q
 |next =>
  obtain⟨σ',H',J,q⟩:=hs
  exact fin (v:=V.non) (u:=JR) J rfl q
 |brk =>
  obtain⟨_,_,_,q⟩:=hs
  exact HV q
 |cont =>
  obtain⟨_,_,_,q⟩:=hs
  exact HV q
end L2
namespace L2
open PySem PySem.Spec PyProof.Rows
section
variable  {X:Cx}{x:Str}{p pos:Pos}{e:Expr}{es:List Expr}{t:TA}{id T:String}{r:List V->Hp->VK->Prop}
def tCB (r:List V->Hp->VK->Prop)(t:TA):TE:=λσ H Q=>t σ H λvs H1=>r vs H1 Q
theorem aZ (hc:mX X (.builtin id) r)(hg:Gl X x)(hm:X.mg x=none)(hv:IM x=some (.builtin id))(ha:PA X (e :: es) t) (hn:x≠"__name__":=by decide) (hdb:(x==("__debug__" : Str))=false:=by decide)
  (he:GM (e :: es) X.env=(false,JZ e X.env) :: GM es X.env:=by rfl) (hpl:(JC pos (GM es X.env)).any (·.1)=false:=by rfl):PE X (.Call (.Name x p) (e :: es) [] pos) (tCB r t):=by
 intro pins s σ H Q I h
 refine JE (gy I hg hm hv ?_ hn hdb)
 exact PyProof.Rows.callWith_builtin1 (thn (ha pos pins s σ H _ I h) λus s1 ⟨vs,H1,I1,r1,q1⟩=>hc pins s1 σ H1 vs us Q I1 r1 q1) he hpl
theorem vB (hc:mX X (.type T) r)(hg:Gl X x)(hm:X.mg x=none)(hv:IM x=some (.type T))(ha:PA X (e :: es) t) (hn:x≠"__name__":=by decide) (hdb:(x==("__debug__" : Str))=false:=by decide)
  (he:GM (e :: es) X.env=(false,JZ e X.env) :: GM es X.env:=by rfl) (hpl:(JC pos (GM es X.env)).any (·.1)=false:=by rfl):PE X (.Call (.Name x p) (e :: es) [] pos) (tCB r t):=by
 intro pins s σ H Q I h
 refine JE (gy I hg hm hv ?_ hn hdb)
 exact G7 (thn (ha pos pins s σ H _ I h) λus s1 ⟨vs,H1,I1,r1,q1⟩=>hc pins s1 σ H1 vs us Q I1 r1 q1) he hpl
end
end L2
namespace HT
open PySem PyProof.Rows
def lexLt:List Int->List Int->Bool
 |[],[]=>false
 |[],_ :: _=>true
 |_ :: _,[]=>false
 |x :: xs,y :: ys=>if x=y then lexLt xs ys else decide (x<y)
theorem lexLt_cons (x y:Int)(xs ys:List Int):lexLt (x :: xs) (y :: ys)=if x=y then lexLt xs ys else decide (x<y):=rfl
theorem lexLt_nil_nil:lexLt [] []=false:=rfl
theorem lexLt_nil_cons (y:Int)(ys:List Int):lexLt [] (y :: ys)=true:=rfl
theorem lexLt_cons_nil (x:Int)(xs:List Int):lexLt (x :: xs) []=false:=rfl
theorem eqAt_int (A:Around)(s:Ga)(a:Int)(t:Tok)(c:Int)(u:Tok):∃e,SeqAt.EqAt A s (.int a t) (.int c u) e/\(e=true↔a=c) :=
 ⟨(a==c),SeqAt.EqAt.int_int a t c u,by simp⟩
section
open PySem.SeqAt
open PySem.AutoSeq1 (wpAny_loadPart')
open PySem.MeetsSeq PySem.MeetsSeq2 PySem.MeetsSeq3
end
section
variable  {prog:GQ}{w:HJ}{A:Around}{E:Value->Ga->Prop}{s:Ga}
theorem cat_tup {t b:Gb}{vs ws:List Value}{Q:Value->Ga->Prop}(ht:IsTup s.heap t vs.toArray)(hb:IsTup s.heap b ws.toArray)(hv:vs≠[])
  (h1:ws=[]->Q (.ref t) s) (h2:ws≠[]->Q (.ref s.heap.objs.size) { s with heap:=s.heap.push { cls:=.type "tuple",data:=.seq (vs++ws).toArray } })
  (hsz:vs.length+ws.length<=Ge):GO (G4 prog w) A (binaryOp .Add (.ref t) (.ref b)) Q E s:=by
 obtain⟨⟨cls,dd,data,sl⟩,ho,hc,n,hd⟩:=id ht
 obtain⟨⟨cls2,dd2,data2,sl2⟩,ho2,hc2,n2,hd2⟩:=id hb
 simp only at hc hd hc2 hd2
 subst hc hd hc2 hd2
 have e:vs.toArray++ws.toArray=(vs++ws).toArray:=by simp
 by_cases hw:ws=[]
 ·exact concat_meets ⟨_,ho,rfl⟩ ⟨_,ho2,rfl⟩ noFill_tuple_add seq_tuple_add PySem.F.slot_tuple_add PySem.F.entry_tuple_add (PySem.F.args_tuple_add_2 _ _)
   (tuple_addW1 t b vs.toArray ws.toArray n n2 dd dd2 sl sl2 (by simpa using hv) (by simp[hw])) ⟨ho,ho2,h1 hw⟩
 ·refine concat_meets ⟨_,ho,rfl⟩ ⟨_,ho2,rfl⟩ noFill_tuple_add seq_tuple_add PySem.F.slot_tuple_add PySem.F.entry_tuple_add (PySem.F.args_tuple_add_2 _ _)
   (tuple_addW2 t b vs.toArray ws.toArray n n2 dd dd2 sl sl2 (by simpa using hv) (by simpa using hw) (by rw[Gm,Gm];exact hsz)) ⟨ho,ho2,?_⟩
  rw[e]
  exact h2 hw
def sIx (n d:Nat):Option Int->Nat
 |none=>d
 |some v=>if v<0 then (v+(n:Int)).toNat else min v.toNat n
theorem sIx_none (n d:Nat):sIx n d none=d:=rfl
theorem sIx_nat (n d k:Nat):sIx n d (some (k:Int))=min k n:=by
 show(if (k:Int)<0 then ((k:Int)+(n:Int)).toNat else min (k:Int).toNat n)=min k n
 rw[Gf (by lia),HD]
end
end HT
namespace L2
open PySem PySem.Spec PyProof.Rows
abbrev TO:=St->Hp->(Option Int->Hp->Prop)->Prop
def PO (X:Cx)(e:Option Expr)(t:TO):Prop :=
 ∀(pins:List (Gb×Obj)) (s:Ga) (σ:St) (H:Hp) (Q:Option Int->Hp->Prop),Inv X pins σ H s->t σ H Q ->
  GO (G4 X.prog X.w) X.A (evalPart e X.env) (λu s'=>∃o H',Inv X pins σ H' s'/\IsPart u o/\Q o H') X.xe s
def zu:TO:=λ_ H Q=>Q none H
def ER (t:TE):TO:=λσ H Q=>t σ H λx H1=>∃i,x=.int i/\Q (some i) H1
theorem iq {ns:List Int}:∀{us:List Value},aS (ns.map V.int) us->JB us ns:=by
 induction ns with
 |nil=>intro us r;rw[JH]at r;cases r;exact .nil
 |cons n ns ih =>
  intro us r
  rw[Gw]at r
  cases r with
  |cons r1 r2 =>
   obtain⟨t,e⟩:=r1
   subst e
   exact .cons n t (ih r2)
section
variable  {X:Cx}{e:Expr}{te:TE}{lo hi:Option Expr}{tl th:TO}{pos p2:Pos}
theorem zi:PO X none zu:=by
 intro pins s σ H Q I h
 rw[evalPart_none]
 exact Gz ⟨none,H,I,.none,h⟩
theorem ki (h:PE X e te):PO X (some e) (ER te):=by
 intro pins s σ H Q I hw
 rw[evalPart_some]
 refine thn (h pins s σ H _ I hw) λu s1 ⟨x,H1,I1,r1,q1⟩=>?_
 obtain⟨i,rfl,q⟩:=q1
 obtain⟨t,rfl⟩:=r1
 exact⟨some i,H1,I1,.int i t,q⟩
def SlR (X:Cx)(r:V->Option Int->Option Int->Hp->VK->Prop):Prop :=
 ∀(pins:List (Gb×Obj)) (s:Ga) (σ:St) (H:Hp) (x:V) (v vl vu:Value) (lo hi:Option Int) (sl:Gb) (Q:VK),Inv X pins σ H s->a5 x v->s.heap.IsSliceOf sl vl vu .none->IsPart vl lo->IsPart vu hi->r x lo hi H Q ->
  ∃T id,typeLookup (.type T) "__getitem__"=pure (some (.builtin id))/\s.TypeIs v T/\GO (G4 X.prog X.w) X.A (getItem v (.ref sl)) (EP X pins σ Q) X.xe s
def tSl (r:V->Option Int->Option Int->Hp->VK->Prop)(te:TE)(tl th:TO):TE:=λσ H Q=>te σ H λx H1=>tl σ H1 λl H2=>th σ H2 λu H3=>r x l u H3 Q
theorem ng {r:V->Option Int->Option Int->Hp->VK->Prop}(hr:SlR X r)(he:PE X e te)(hl:PO X lo tl)(hu:PO X hi th):PE X (.Subscript e (.Slice lo hi none p2) pos) (tSl r te tl th):=by
 intro pins s σ H Q I h
 refine Subscript_ (thn (he pins s σ H _ I h) λv s1 ⟨x,H1,I1,r1,q1⟩=>?_)
 refine wpAny_Slice (thn (hl pins s1 σ H1 _ I1 q1) λvl s2 ⟨l,H2,I2,pl,q2⟩=>thn (hu pins s2 σ H2 _ I2 q2) λvu s3 ⟨u,H3,I3,pu,q3⟩=>?_)
 rw[evalPart_none]
 refine Gz ?_
 have I4:Inv X pins σ H3 { s3 with heap:=s3.heap.push { cls:=.type "slice",data:=.fields #[vl,vu,.none] } }:=I3.kept (t':=s3.toks) λb ob q=>Gn _ q
 obtain⟨T,id,hT,ht,hg⟩:=hr pins { s3 with heap:=s3.heap.push { cls:=.type "slice",data:=.fields #[vl,vu,.none] } } σ H3 x v vl vu l u s3.heap.objs.size Q I4 r1 (Heap.IsSliceOf.new ..) pl pu q3
 show GO (G4 X.prog X.w) X.A (subscriptTail e (.Slice lo hi none p2) v (.ref s3.heap.objs.size)) (EP X pins σ Q) X.xe { s3 with heap:=s3.heap.push { cls:=.type "slice",data:=.fields #[vl,vu,.none] } }
 exact tail_any (ops:=[.ref s3.heap.objs.size,v]) ht hT hg (by with_unfolding_all rfl)
def oF (xs:List V)(lo hi:Option Int):List V:=(xs.drop (HT.sIx xs.length 0 lo)).take (HT.sIx xs.length xs.length hi-HT.sIx xs.length 0 lo)
theorem rg (xs:List V)(lo hi:Option Int):(oF xs lo hi).length<=xs.length:=by
 unfold oF
 rw[GY,GN]
 lia
def EF (K:Hq):R2:=λx y H Q=>∃a b xs ys,x=.ref a/\y=.ref b/\SqT K H a xs/\SqT K H b ys/\xs≠[]/\xs.length+ys.length<=Ge /\
 (ys=[]->Q (.ref a) H)/\(ys≠[]->∀p,H p=none->Q (.ref p) (upd H p (.tup (xs++ys))))
theorem aS.nil_iff {xs:List V}{us:List Value}(r:aS xs us):us=[]↔xs=[]:=by
 cases r with
 |nil=>simp
 |cons _ _=>simp
theorem Ag:OpR X (binaryOp .Add) (EF X.K):=by
 intro pins s σ H x y v u Q I rx ry h
 obtain⟨a,b,xs,ys,rfl,rfl,ha,hb,hx,hz,q1,q2⟩:=h
 cases rx
 cases ry
 obtain⟨its,r1,p1,_⟩:=I.tuple ha
 obtain⟨its2,r2,p2,_⟩:=I.tuple hb
 refine HT.cat_tup p1 p2 (λz=>hx (r1.nil_iff.mp z)) (λz=>⟨.ref a,H,I,rfl,q1 (r2.nil_iff.mp z)⟩) (λz=>?_) (by rw[<-r1.length,<-r2.length];exact hz)
 refine⟨.ref s.heap.objs.size,_,I.laid (t':=s.toks) (o:=.tup (xs++ys)) (λb ob q=>Gn _ q) (nlr _) ?_,rfl,q2 (λw=>z (r2.nil_iff.mpr w)) _ (I.hok.fresh (nlr _))⟩
 exact⟨by rw[Gd];exact hz,_,r1.append r2,IsTup.new _ _⟩
end
end L2
namespace L2
open PySem PySem.Spec PyProof.Rows
def ixN (n:Nat)(i:Int):Option Nat:=if 0<=i then (if i<n then some i.toNat else none) else if -(n:Int)<=i then some (i+n).toNat else none
def atI {α:Type}(xs:List α)(i:Int):Option α:=(ixN xs.length i).bind λj=>xs[j]?
theorem uP {n:Nat}{i:Int}{j:Nat}(h:ixN n i=some j):seqIndex? i n=some j/\j<n/\-(n:Int)<=i/\i<n:=by
 unfold ixN at h
 by_cases h0:0<=i
 ·rw[Gk h0]at h
  by_cases h1:i<n
  ·rw[Gk h1]at h
   have e:i.toNat=j:=osi h
   exact⟨by rw[seqIndex_of h0 h1,e],by lia,by lia,h1⟩
  ·rw[Gf h1]at h;cases h
 ·rw[Gf h0]at h
  by_cases h1:-(n:Int)<=i
  ·rw[Gk h1]at h
   have e:(i+n).toNat=j:=osi h
   exact⟨by rw[seqIndex_neg (by lia) h1,e],by lia,h1,by lia⟩
  ·rw[Gf h1]at h;cases h
theorem va {α:Type}{xs:List α}{i:Int}{v:α}(h:atI xs i=some v):∃j,seqIndex? i xs.length=some j/\xs[j]? = some v/\j<xs.length/\-(xs.length:Int)<=i/\i<xs.length:=by
 unfold atI at h
 cases e:ixN xs.length i with
 |none=>rw[e]at h;cases h
 |some j =>
  rw[e]at h
  obtain⟨h1,h2,h3,h4⟩:=uP e
  exact⟨j,h1,h,h2,h3,h4⟩
theorem pX {α:Type}{xs:List α}{j:Nat}{v:α}(h:xs[j]? = some v):atI xs (j:Int)=some v:=by
 have hj:j<xs.length:=(gsi h).1
 have e:ixN xs.length (j:Int)=some j:=by
  unfold ixN
  rw[Gk (by lia),Gk (by lia)];simp
 unfold atI;rw[e];exact h
theorem nG {α:Type}(xs:List α)(v:α):atI (xs++[v]) (-1)=some v:=by
 have hl:(xs++[v]).length=xs.length+1:=by simp
 have e:ixN (xs++[v]).length (-1)=some xs.length:=by
  unfold ixN
  rw[hl,Gf (by decide),Gk (by lia)]
  congr 1
  lia
 unfold atI
 rw[e]
 show(xs++[v])[xs.length]? = some v
 simp
def z8 (b:Expr):Prop:=∀o i,subscripted b false o i=operate [o,i] (getItem o i)
def IxR (X:Cx)(r:R2):Prop :=
 ∀(value slice:Expr) (pins:List (Gb×Obj)) (s:Ga) (σ:St) (H:Hp) (x y:V) (v u:Value) (Q:VK),Inv X pins σ H s->a5 x v->a5 y u->r x y H Q ->
  subscripted slice false v u=operate [v,u] (getItem v u)->GO (G4 X.prog X.w) X.A (subscriptTail value slice v u) (EP X pins σ Q) X.xe s
def MtR (X:Cx)(id:String)(r:V->List V->Hp->VK->Prop):Prop :=
 ∀(pins:List (Gb×Obj)) (s:Ga) (σ:St) (H:Hp) (x:V) (xs:List V) (v:Value) (us:List Value) (Q:VK),Inv X pins σ H s->a5 x v->aS xs us->r x xs H Q ->
  GO (G4 X.prog X.w) X.A (call (.builtin id) (v :: us)) (EP X pins σ Q) X.xe s
section
variable  {X:Cx}{a b:Expr}{ta tb:TE}{pos:Pos}
theorem aw {r:R2}(hr:IxR X r)(ha:PE X a ta)(hb:PE X b tb)(hs:z8 b):PE X (.Subscript a b pos) (tOp r ta tb):=by
 intro pins s σ H Q I h
 exact Subscript_ (Bk ha hb I h λv u s2 x y H2 I2 rx ry q=>hr a b pins s2 σ H2 x y v u Q I2 rx ry q (hs _ _))
def wj (K:Hq):R2:=λx y H Q=>∃p xs i v,x=.ref p/\y=.int i/\SqL K H p xs/\atI xs i=some v/\Q v H
def qX (K:Hq):R2:=λx y H Q=>∃p xs i v,x=.ref p/\y=.int i/\SqT K H p xs/\atI xs i=some v/\Q v H
theorem aW:IxR X (wj X.K):=by
 intro value slice pins s σ H x y v u Q I rx ry h hs
 obtain⟨p,xs,i,z,rfl,rfl,hq,he,q⟩:=h
 cases rx
 obtain⟨t,rfl⟩:=ry
 obtain⟨its,r,pl,hz⟩:=I.list hq
 obtain⟨j,h1,h2,h3,h4,h5⟩:=va he
 obtain⟨w,ew,rw'⟩:=r.get h2
 have hl:=r.length
 have hn:=qo
 have fin:EP X pins σ Q w s:=⟨z,H,I,rw',q⟩
 by_cases h0:0<=i
 ·have hj:i.toNat=j:=by
   rw[seqIndex_of h0 h5]at h1
   exact osi h1
  exact item_listR pl.isList h0 (by lia) (by rw[hj];simpa using ew) fin hs
 ·have hj:(i+(its.toArray.size:Int)).toNat=j:=by
   rw[seqIndex_neg (by lia) h4]at h1
   rw[Gm,<-hl]
   exact osi h1
  exact subscriptTail_builtinR (x:=w) pl.isList.typeIs slot_list_getitem.lookup
   (wpAny_getItem_list_neg (Q:=λr s'=>r=w/\EP X pins σ Q r s') pl.isList (by lia) (by rw[Gm]<;>lia) (by lia) (by rw[hj];simpa using ew) ⟨rfl,fin⟩) hs
theorem aD:IxR X (qX X.K):=by
 intro value slice pins s σ H x y v u Q I rx ry h hs
 obtain⟨p,xs,i,z,rfl,rfl,hq,he,q⟩:=h
 cases rx
 obtain⟨t,rfl⟩:=ry
 obtain⟨its,r,pl,hz⟩:=I.tuple hq
 obtain⟨j,h1,h2,h3,h4,h5⟩:=va he
 obtain⟨w,ew,rw'⟩:=r.get h2
 have hl:=r.length
 have hn:=qo
 have fin:EP X pins σ Q w s:=⟨z,H,I,rw',q⟩
 exact subscriptTail_builtinR (x:=w) pl.typeIs slot_tuple_getitem.lookup
  (getItem_tuple (j:=j) (Q:=λr s'=>r=w/\EP X pins σ Q r s') pl (by lia) (by lia) (by rw[Gm,<-hl];exact h1) (by simpa using ew) ⟨rfl,fin⟩) hs
theorem tR (its:List Value)(n j:Nat)(u:Value):IB (·.setIfInBounds j u) { cls:=.type "list",data:=.seq its.toArray n }={ cls:=.type "list",data:=.seq (its.set j u).toArray n }:=by
 simp[IB]
theorem Inv.lst {pins:List (Gb×Obj)}{σ:St}{H:Hp}{s:Ga}{p:Gb}{xs:List V}(I:Inv X pins σ H s)(h:H p=some (.lst xs)) :
  ∃(its:List Value) (n:Nat),aS xs its/\s.heap.get? p=some { cls:=.type "list",data:=.seq its.toArray n }/\xs.length<=Ge:=by
 obtain⟨z,its,n,r,e⟩:=I.hok p _ h
 exact⟨its,n,r,e,z⟩
theorem Inv.lstUpd {pins:List (Gb×Obj)}{σ:St}{H:Hp}{s:Ga}{p:Gb}{xs ys:List V}{its its':List Value}{n n':Nat}{f:Obj->Obj}(I:Inv X pins σ H s)(h:H p=some (.lst xs))
  (ho:s.heap.get? p=some { cls:=.type "list",data:=.seq its.toArray n }) (hf:f { cls:=.type "list",data:=.seq its.toArray n }={ cls:=.type "list",data:=.seq its'.toArray n' }) (r:aS ys its') (hz:ys.length<=Ge) (t:Nat) :
  Inv X pins σ (upd H p (.lst ys)) { s with heap:=s.heap.update p f,toks:=t }:=by
 have e:(s.heap.update p f).get? p=some { cls:=.type "list",data:=.seq its'.toArray n' }:=by
  rw[Iy f ho (by rw[hf]<;>rfl),hf]
 refine I.write (x:=p) (e:=p) (by rw[h];trivial) (.inl rfl) (λb u hb q=>(Iq _ _ (GJ hb)).trans q) ⟨_,e⟩ ?_
 exact⟨hz,its',n',r,e⟩
def Ea:V->V->V->Hp->(Hp->Prop)->Prop:=λo i v H Q=>∃p xs k j,o=.ref p/\i=.int k/\H p=some (.lst xs)/\ixN xs.length k=some j/\Q (upd H p (.lst (xs.set j v)))
theorem rF:CC X Ea:=by
 intro pins s σ H o i v ov iv u Q I ro ri rv h
 obtain⟨p,xs,k,j,rfl,rfl,hp,hj,q⟩:=h
 cases ro
 obtain⟨t,rfl⟩:=ri
 obtain⟨its,n,r,ho,hz⟩:=I.lst hp
 obtain⟨h1,h2,h3,h4⟩:=uP hj
 have hl:=r.length
 have hn:=qo
 have I':Inv X pins σ (upd H p (.lst (xs.set j v))) { s with heap:=s.heap.update p (IB (·.setIfInBounds j u)) } :=
  I.lstUpd hp ho (tR its n j u) (r.set rv j) (by rw[List.length_set];exact hz) s.toks
 by_cases h0:0<=k
 ·have hk:k.toNat=j:=by
   rw[seqIndex_of h0 h4]at h1
   exact osi h1
  exact PySem.W.ki_setAt ho h0 (by lia) (by rw[Gm,<-hl];exact h4) (by rw[hk];exact⟨_,I',q⟩)
 ·have hk:(k+(its.toArray.size:Int)).toNat=j:=by
   rw[seqIndex_neg (by lia) h3]at h1
   rw[Gm,<-hl]
   exact osi h1
  exact PySem.W.ki_setBack ho (by lia) (by rw[Gm,<-hl];exact h3) (by lia) (by rw[hk];exact⟨_,I',q⟩)
theorem qD (lo hi:Option Int)(n:Nat):(sliceBounds lo hi none n).1=((HT.sIx n 0 lo:Nat):Int)/\(sliceBounds lo hi none n).2.1=((HT.sIx n n hi:Nat):Int)/\(sliceBounds lo hi none n).2.2=1:=by
 refine⟨?_,?_,rfl⟩
 ·cases lo with
  |none=>simp[sliceBounds,HT.sIx]
  |some i =>
   simp only[sliceBounds,HT.sIx,Option.getD_none,show(1:Int) > 0 by decide,if_true]
   by_cases h:i<0
   ·simp only[h,if_true]<;>lia
   ·simp only[h,JV]<;>lia
 ·cases hi with
  |none=>simp[sliceBounds,HT.sIx]
  |some i =>
   simp only[sliceBounds,HT.sIx,Option.getD_none,show(1:Int) > 0 by decide,if_true]
   by_cases h:i<0
   ·simp only[h,if_true]<;>lia
   ·simp only[h,JV]<;>lia
theorem oB (its:List Value)(lo hi:Option Int):slicePick its.toArray lo hi none=((its.drop (HT.sIx its.length 0 lo)).take (HT.sIx its.length its.length hi-HT.sIx its.length 0 lo)).toArray:=by
 obtain⟨h1,h2,h3⟩:=qD lo hi its.toArray.size
 unfold slicePick
 rw[h1,h2,h3]
 simp only[sliceRange_one,pick_run,Gm]<;>rfl
def FR (K:Hq):V->Option Int->Option Int->Hp->VK->Prop:=λx lo hi H Q=>∃a xs,x=.ref a/\SqL K H a xs/\∀p,H p=none->Q (.ref p) (upd H p (.lst (oF xs lo hi)))
theorem qV:SlR X (FR X.K):=by
 intro pins s σ H x v vl vu lo hi sl Q I rx hs pl pu h
 obtain⟨a,xs,rfl,hx,q⟩:=h
 cases rx
 obtain⟨its,r,ht,hz⟩:=I.list hx
 have hlen:=r.length
 refine⟨"list",_,slot_list_getitem.lookup,ht.isList.typeIs,?_⟩
 refine wpAny_getItem_list_slice ht.isList hs pl pu .none (by simp) ?_ (by rw[Gm]<;>lia)
 rw[oB,<-hlen]
 refine⟨.ref s.heap.objs.size,_,I.laid (t':=s.toks) (o:=.lst (oF xs lo hi)) (λb ob q=>Gn _ q) (nlr _) ?_,rfl,q _ (I.hok.fresh (nlr _))⟩
 exact⟨GU (rg xs lo hi) hz,_,0,(r.drop (HT.sIx xs.length 0 lo)).take (HT.sIx xs.length xs.length hi-HT.sIx xs.length 0 lo),GF _ rfl⟩
def kn:V->Bool
 |.non=>true
 |.bl _=>true
 |.int _=>true
 |.str _=>true
 |_=>false
def eqV:V->V->Bool
 |.non,.non=>true
 |.bl a,.bl b=>a==b
 |.bl a,.int b=>(if a then 1 else 0)==b
 |.int a,.bl b=>a==(if b then 1 else 0)
 |.int a,.int b=>a==b
 |.str a,.str b=>a==b
 |_,_=>false
theorem A3 {A:Around}{s:Ga}{y x:V}{u v:Value}(ry:a5 y u)(rx:a5 x v)(fy:kn y=true)(fx:kn x=true):SeqAt.EqAt A s u v (eqV y x):=by
 cases y with
 |non =>
  cases ry
  cases x with
  |non=>cases rx;exact SeqAt.EqAt.same _
  |bl b=>cases rx;exact SeqAt.EqAt.none_bool b
  |int b=>obtain⟨t,rfl⟩:=rx;exact SeqAt.EqAt.none_int b t
  |str b=>obtain⟨t,rfl⟩:=rx;exact SeqAt.EqAt.none_str b t
  |_=>exact absurd (show false=true from fx) Go
 |bl a =>
  cases ry
  cases x with
  |non=>cases rx;exact SeqAt.EqAt.bool_none a
  |bl b=>cases rx;exact SeqAt.EqAt.bool_bool a b
  |int b=>obtain⟨t,rfl⟩:=rx;exact SeqAt.EqAt.bool_int a b t
  |str b=>obtain⟨t,rfl⟩:=rx;exact SeqAt.EqAt.bool_str a b t
  |_=>exact absurd (show false=true from fx) Go
 |int a =>
  obtain⟨t',rfl⟩:=ry
  cases x with
  |non=>cases rx;exact SeqAt.EqAt.int_none a t'
  |bl b=>cases rx;exact SeqAt.EqAt.int_bool a t' b
  |int b=>obtain⟨t,rfl⟩:=rx;exact SeqAt.EqAt.int_int a t' b t
  |str b=>obtain⟨t,rfl⟩:=rx;exact SeqAt.EqAt.int_str a t' b t
  |_=>exact absurd (show false=true from fx) Go
 |str a =>
  obtain⟨t',rfl⟩:=ry
  cases x with
  |non=>cases rx;exact SeqAt.EqAt.str_none a t'
  |bl b=>cases rx;exact SeqAt.EqAt.str_bool a t' b
  |int b=>obtain⟨t,rfl⟩:=rx;exact SeqAt.EqAt.str_int a t' b t
  |str b=>obtain⟨t,rfl⟩:=rx;exact SeqAt.EqAt.str_str a t' b t
  |_=>exact absurd (show false=true from fx) Go
 |_=>exact absurd (show false=true from fy) Go
def eqU (x:V)(u:Value):Bool:=match u with
 |.none=>eqV .non x
 |.bool b=>eqV (.bl b) x
 |.int i _=>eqV (.int i) x
 |.str z _=>eqV (.str z) x
 |_=>false
theorem tp {x y:V}{u:Value}(r:a5 y u)(f:kn y=true):eqU x u=eqV y x:=by
 cases y with
 |non=>cases r;rfl
 |bl b=>cases r;rfl
 |int i=>obtain⟨t,rfl⟩:=r;rfl
 |str z=>obtain⟨t,rfl⟩:=r;rfl
 |_=>exact absurd (show false=true from f) Go
theorem rA {A:Around}{s:Ga}{x:V}{v:Value}(rx:a5 x v)(fx:kn x=true):∀{xs:List V} {us:List Value},aS xs us->xs.all kn=true->∀u∈us,SeqAt.EqAt A s u v (eqU x u)
 |_,_,.nil,_=>λu hu=>by cases hu
 |y :: xs,u :: us,.cons r t,f=>λu' hu=>by
  rw[List.all_cons,Gi]at f
  rcases Gh.mp hu with rfl|hu
  ·rw[tp r f.1];exact A3 r rx f.1 fx
  ·exact rA rx fx t f.2 u' hu
theorem aN:mX X (.builtin "len") (λxs H Q=>∃p ys,xs=[.ref p]/\(SqL X.K H p ys\/SqT X.K H p ys)/\Q (.int ys.length) H):=by
 intro pins s σ H xs us Q I r h
 obtain⟨p,ys,rfl,hq,q⟩:=h
 obtain⟨u,rfl,rx⟩:=ye r
 cases rx
 have hn:=qo
 rcases hq with hq|hq
 ·obtain⟨its,r',pl,hz⟩:=I.list hq
  have hlen:=r'.length
  exact Calls.call_len_list pl.isList (by simp only[Gm]<;>lia) ⟨.int ys.length,H,I.tok _,⟨s.toks+1,by rw[Gm,hlen]⟩,q⟩
 ·obtain⟨its,r',pl,hz⟩:=I.tuple hq
  have hlen:=r'.length
  exact len_tuple pl (by simp only[Gm]<;>lia) ⟨.int ys.length,H,I.tok _,⟨s.toks+1,by rw[Gm,hlen]⟩,q⟩
theorem qC:mX X (.type "list") (λxs H Q=>∃p ys,xs=[.ref p]/\(SqL X.K H p ys\/SqT X.K H p ys)/\∀l,H l=none->Q (.ref l) (upd H l (.lst ys))):=by
 intro pins s σ H xs us Q I r h
 obtain⟨p,ys,rfl,hq,q⟩:=h
 obtain⟨u,rfl,rx⟩:=ye r
 cases rx
 have fin:∀(its:List Value),aS ys its->ys.length<=Ge->∀(h':Heap) (c':Nat),(∀b o',s.heap.get? b=some o'->h'.get? b=some o') ->
   h'.get? s.heap.objs.size=some { cls:=.type "list",dict:=none,data:=.seq its.toArray c',slots:=#[] }->EP X pins σ Q (.ref s.heap.objs.size) { s with heap:=h' }:=λits r' hz h' c' kp e =>
  ⟨.ref s.heap.objs.size,_,I.laid (t':=s.toks) kp (nlr _) (show b9 X.prog X.w _ h' _ (.lst ys) from⟨hz,its,c',r',e⟩),rfl,q _ (I.hok.fresh (nlr _))⟩
 rcases hq with hq|hq
 ·obtain⟨its,r',pl,hz⟩:=I.list hq
  have hlen:=r'.length
  obtain⟨o,ho,hc,n,hd⟩:=pl.isList
  exact call_list_seq p (.inl rfl) ho hc hd (λh' c' kp e=>fin its r' hz h' c' kp e) (by simp only[Gm]<;>lia)
 ·obtain⟨its,r',pl,hz⟩:=I.tuple hq
  have hlen:=r'.length
  obtain⟨o,ho,hc,n,hd⟩:=pl
  exact call_list_seq p (.inr rfl) ho hc hd (λh' c' kp e=>fin its r' hz h' c' kp e) (by simp only[Gm]<;>lia)
def tyV (K:Hq)(T:String)(x:V)(H:Hp):Prop:=match x with
 |.str _=>T="str"
 |.int _=>T="int"
 |.ref p=>(T="list"/\∃xs,SqL K H p xs)\/(T="tuple"/\∃o,K.lookup p=some o/\o.cls=.type "tuple"/\o.dict=none) \/
   (T="dict"/\((∃kvs,H p=some (.dK kvs))\/∃kvs,H p=some (.dT kvs)))\/(T="set"/\∃S n,H p=some (.set S n))
 |_=>False
theorem xQ {pins:List (Gb×Obj)}{σ:St}{H:Hp}{s:Ga}{T:String}{x:V}{v:Value}(I:Inv X pins σ H s)(r:a5 x v)(ty:tyV X.K T x H) :
  s.TypeIs v T/\∀a,v=.ref a->∃ob,s.heap.get? a=some ob/\ob.dict=none:=by
 cases x with
 |str z =>
  obtain⟨t,rfl⟩:=r
  cases (show T="str" from ty)
  exact⟨typeIs_str s z t,λ_ e=>nomatch e⟩
 |int i =>
  obtain⟨t,rfl⟩:=r
  cases (show T="int" from ty)
  exact⟨typeIs_int s i t,λ_ e=>nomatch e⟩
 |ref p =>
  cases r
  rcases ty with⟨rfl,xs,hq⟩|⟨rfl,o,hk,hc,hd⟩|⟨rfl,hk⟩|⟨rfl,S,n,hk⟩
  ·obtain⟨its,_,pl,_⟩:=I.list hq
   refine⟨pl.isList.typeIs,λa e=>?_⟩
   cases e
   obtain⟨o,n,e,c,hd,_⟩:=pl
   exact⟨o,e,hd⟩
  ·refine⟨⟨o,I.kIn p o hk,hc⟩,λa e=>?_⟩
   cases e
   exact⟨o,I.kIn _ o hk,hd⟩
  ·have z:∃o,s.heap.get? p=some o/\o.ExactDict:=by
    rcases hk with⟨kvs,hk⟩|⟨kvs,hk⟩
    ·obtain⟨_,_,_,_,o,_,_,e,ex,_⟩:=I.hok p _ hk
     exact⟨o,e,ex⟩
    ·obtain⟨_,_,_,_,o,_,_,e,ex,_⟩:=I.hok p _ hk
     exact⟨o,e,ex⟩
   obtain⟨o,e,ex⟩:=z
   refine⟨⟨o,e,ex.1⟩,λa e2=>?_⟩
   cases e2
   exact⟨o,e,ex.2.1⟩
  ·obtain⟨o,_,_,_,e,ex,_⟩:=I.hok p _ hk
   refine⟨⟨o,e,ex.1⟩,λa e2=>?_⟩
   cases e2
   exact⟨o,e,ex.2.1⟩
 |_=>exact HV ty
def FG (K:Hq)(T:String)(r:V->List V->Hp->VK->Prop)(to:TE):TE:=λσ H Q=>to σ H λx H1=>tyV K T x H1/\r x [] H1 Q
def tBM (K:Hq)(T:String)(r:V->List V->Hp->VK->Prop)(to:TE)(t:TA):TE:=λσ H Q=>to σ H λx H1=>tyV K T x H1/\t σ H1 λxs H2=>r x xs H2 Q
variable  {o e:Expr}{es:List Expr}{to:TE}{t:TA}{name:Str}{apos cpos:Pos}{T id:String}{r:V->List V->Hp->VK->Prop}
theorem BJ (pa:PlainAttrs T)(slot:Slot T name id) (hty:typeOf (.builtin id)=pure (.type "method_descriptor")) (hm:MtR X id r) (ho:PE X o to)
  (hbase:attributeBase o name X.env (JZ o X.env)=JZ o X.env:=by rfl) (hline:(apos.endLine==cpos.line)=true:=by rfl):PE X (.Call (.Attribute o name apos) [] [] cpos) (FG X.K T r to):=by
 intro pins s σ H Q I h
 refine wpAny_Call_method0_late hbase hline (thn (ho pins s σ H _ I h) λv s1 ⟨x,H1,I1,r1,ty,q1⟩=>?_)
 obtain⟨h1,h2⟩:=xQ I1 r1 ty
 exact⟨T,id,pa,slot,hty,h1,h2,Calls.callWith_builtin rfl (PySem.evalArgs_none (hm pins s1 σ H1 x [] v [] Q I1 r1 .nil q1))⟩
theorem lD (pa:PlainAttrs T)(slot:Slot T name id) (hty:typeOf (.builtin id)=pure (.type "method_descriptor")) (hm:MtR X id r) (ho:PE X o to) (ha:PA X (e :: es) t)
  (hbase:attributeBase o name X.env (JZ o X.env)=JZ o X.env:=by rfl)
  (hfew:((JC cpos (GM (e :: es) X.env)).all (λx=>!x.1)&&(backToKw cpos (JF [] X.env)).all (λx=>x.1.isSome)
   &&decide ((e :: es).length+([]:List Keyword).length+(if ([]:List Keyword).isEmpty then 0 else 1)<30))=true:=by rfl)
  (hline:(apos.endLine==cpos.line)=true:=by rfl) (hs:GM (e :: es) X.env=(false,JZ e X.env) :: GM es X.env:=by rfl) (hplain:(JC cpos (GM es X.env)).any (·.1)=false:=by rfl) :
  PE X (.Call (.Attribute o name apos) (e :: es) [] cpos) (tBM X.K T r to t):=by
 intro pins s σ H Q I h
 refine wpAny_Call_method_late hbase hfew hline rfl (thn (ho pins s σ H _ I h) λv s1 ⟨x,H1,I1,r1,ty,q1⟩=>?_)
 obtain⟨h1,h2⟩:=xQ I1 r1 ty
 refine⟨T,id,pa,slot,hty,h1,h2,?_⟩
 have hA:=ha cpos pins s1 σ H1 _ I1 q1
 rw[hs]at hA ⊢
 refine Calls.callWith_builtin (by show(false||(JC cpos (GM es X.env)).any (·.1))=false;rw[hplain]<;>rfl) (Calls.evalArgs_plain ?_)
 exact thn hA λus s2 ⟨vs,H2,I2,r2,q2⟩=>hm pins s2 σ H2 x vs v us Q I2 r1 r2 q2
end
end L2
namespace L2
open PySem PySem.Spec PyProof.Rows
def MtM (X:Cx)(id:String)(r:V->List V->Hp->VK->Prop):Prop :=
 ∀(pins:List (Gb×Obj)) (s:Ga) (σ:St) (H:Hp) (x:V) (xs:List V) (v:Value) (us:List Value) (Q:VK),Inv X pins σ H s->a5 x v->aS xs us->r x xs H Q ->
  GO (G4 X.prog X.w) X.A (call (.builtin id) (v :: us)) (EP X pins σ Q) X.xe s
theorem aS.one:∀{x:V} {us:List Value},aS [x] us->∃u,us=[u]/\a5 x u
 |_,_,.cons r .nil=>⟨_,rfl,r⟩
theorem aS.two:∀{x y:V} {us:List Value},aS [x,y] us->∃u v,us=[u,v]/\a5 x u/\a5 y v
 |_,_,_,.cons r (.cons q .nil)=>⟨_,_,rfl,r,q⟩
theorem aS.zero:∀{us:List Value},aS [] us->us=[]
 |_,.nil=>rfl
theorem aS.dropLast {xs:List V}{us:List Value}(h:aS xs us):aS xs.dropLast us.dropLast:=by
 induction h with
 |nil=>exact .nil
 |cons r t ih =>
  cases t with
  |nil=>exact .nil
  |cons q t'=>exact .cons r ih
theorem aS.rep {xs:List V}{us:List Value}(h:aS xs us):∀k:Nat,aS (GS k xs).flatten (GS k us).flatten
 |0=>.nil
 |k+1=>by
  rw[Jt,Jt,List.flatten_cons,List.flatten_cons]
  exact aS.append h (aS.rep h k)
theorem ug {α:Type}(l:List α):l.eraseIdx (l.length-1)=l.dropLast:=by
 induction l with
 |nil=>rfl
 |cons a r ih =>
  cases r with
  |nil=>rfl
  |cons b r =>
   have e:(a :: b :: r).length-1=((b :: r).length-1)+1:=by
    have h1:(a :: b :: r).length=r.length+2:=rfl
    have h2:(b :: r).length=r.length+1:=rfl
    lia
   rw[e,List.eraseIdx_cons_succ,ih]
   all_goals rfl
theorem pG (its:List Value):∀(k:Nat) (acc:List Value),
  List.foldl (λx1 x2=>x1++x2) acc.toArray (GS k its.toArray)=(acc++(GS k its).flatten).toArray
 |0,acc=>by simp
 |k+1,acc=>by
  have e:acc.toArray++its.toArray=(acc++its).toArray:=by simp
  have e2:(acc++its)++(GS k its).flatten=acc++(GS (k+1) its).flatten:=by
   rw[Jt,List.flatten_cons,List.append_assoc]
  rw[<-e2,<-pG its k (acc++its),<-e,Jt,Il]
section
variable  {X:Cx}{pins:List (Gb×Obj)}{σ:St}{H:Hp}{s:Ga}{l b:Gb}{xs ys zs:List V}
theorem Inv.lset {its its':List Value}{n:Nat}{f:Array Value->Array Value}{t':Nat}(I:Inv X pins σ H s)(hH:H l=some (.lst xs))
  (e:s.heap.get? l=some { cls:=.type "list",data:=.seq its.toArray n }) (hf:f its.toArray=its'.toArray) (hv:aS ys its') (hz:ys.length<=Ge) :
  Inv X pins σ (upd H l (.lst ys)) { s with heap:=s.heap.update l (IB f),toks:=t' }:=by
 have q:=PySem.IsL.update e f
 rw[hf]at q
 refine I.write (x:=l) (e:=l) (by rw[hH];exact trivial) (.inl rfl) (λb' u hb hu=>(Iq s.heap (IB f) (GJ hb)).trans hu) ⟨_,q⟩ ?_
 exact⟨hz,its',_,hv,q⟩
theorem Inv.lnew {its:List Value}{t':Nat}(I:Inv X pins σ H s)(hv:aS ys its)(hz:ys.length<=Ge) :
  Inv X pins σ (upd H s.heap.objs.size (.lst ys)) { s with heap:=s.heap.push { cls:=.type "list",data:=.seq its.toArray },toks:=t' } :=
 I.laid (λ_ _ q=>Gn _ q) (nlr _) ⟨hz,its,0,hv,GF _ rfl⟩
theorem Inv.fresh (I:Inv X pins σ H s):H s.heap.objs.size=none:=I.hok.fresh (nlr _)
theorem Inv.lstM (I:Inv X pins σ H s)(hH:H l=some (.lst xs)):xs.length<=Ge/\∃(its:List Value) (n:Nat),aS xs its/\xs.length=its.length/\s.heap.get? l=some { cls:=.type "list",data:=.seq its.toArray n }:=by
 obtain⟨z,its,n,r,e⟩:=I.hok l _ hH
 exact⟨z,its,n,r,r.length,e⟩
theorem rN {n:Nat}(h:n<=Ge):Jk n=false:=by
 unfold Jk
 exact dqf (by lia)
end
section
variable  {X:Cx}
def zM:V->List V->Hp->VK->Prop:=λx vs H Q=>∃l xs y,x=.ref l/\vs=[y]/\H l=some (.lst xs)/\xs.length<Ge/\Q .non (upd H l (.lst (xs++[y])))
theorem gJ:MtM X "list.append" zM:=by
 intro pins s σ H x vs v us Q I rx rv h
 obtain⟨l,xs,y,rfl,rfl,hH,hz,q⟩:=h
 cases rx
 obtain⟨u,rfl,ru⟩:=rv.one
 obtain⟨z,its,n,r,hl,e⟩:=I.lstM hH
 refine call_meets F.slot_list_append ⟨_,e,rfl⟩ F.entry_list_append (F.args_list_append_2 _ _) (PySem.list_append l its.toArray n u (by rw[Gm];lia)) ⟨e,?_⟩
 refine⟨.non,_,I.lset (its':=its++[u]) hH e (by simp) (r.append (.cons ru .nil)) ?_,rfl,q⟩
 rw[Gd,List.length_singleton]
 lia
def zc:V->List V->Hp->VK->Prop:=λx vs H Q=>∃l b xs zs,x=.ref l/\vs=[.ref b]/\H l=some (.lst xs)/\H b=some (.lst zs)/\xs.length+zs.length<=Ge/\Q .non (upd H l (.lst (xs++zs)))
theorem Ct:MtM X "list.extend" zc:=by
 intro pins s σ H x vs v us Q I rx rv h
 obtain⟨l,b,xs,zs,rfl,rfl,hH,hB,hz,q⟩:=h
 cases rx
 obtain⟨u,rfl,ru⟩:=rv.one
 cases ru
 obtain⟨z,its,n,r,hl,e⟩:=I.lstM hH
 obtain⟨z2,its2,n2,r2,hl2,e2⟩:=I.lstM hB
 have hsz:its.toArray.size+its2.toArray.size<=Ge:=by rw[Gm,Gm];lia
 have hlong:¬(!its.toArray.isEmpty&&Jk (its.toArray.size+its2.toArray.size))=true:=by
  rw[rN hsz,J2]
  exact Go
 refine call_meets F.slot_list_extend ⟨_,e,rfl⟩ F.entry_list_extend (F.args_list_extend_2 _ _)
  (AutoSeq1.list_extend_list_list_0 l its.toArray n b its2.toArray n2 hlong (by rw[Gm];lia) (by lia)) ⟨e,e2,?_⟩
 refine⟨.non,_,I.lset (its':=its++its2) hH e (by simp) (r.append r2) ?_,rfl,q⟩
 rw[Gd]
 lia
def E8:V->List V->Hp->VK->Prop:=λx vs H Q=>∃l xs y,x=.ref l/\vs=[]/\H l=some (.lst xs)/\xs[xs.length-1]? = some y/\Q y (upd H l (.lst xs.dropLast))
theorem Bs:MtM X "list.pop" E8:=by
 intro pins s σ H x vs v us Q I rx rv h
 obtain⟨l,xs,y,rfl,rfl,hH,hy,q⟩:=h
 cases rx
 have hus:=rv.zero
 subst hus
 obtain⟨z,its,n,r,hl,e⟩:=I.lstM hH
 obtain⟨u,hu,ru⟩:=r.get hy
 have hy':its.toArray[its.toArray.size-1]? = some u:=by
  show its.toArray[its.length-1]? = some u
  rw[<-Array.getElem?_toList,<-hl]
  exact hu
 refine call_meets F.slot_list_pop ⟨_,e,rfl⟩ F.entry_list_pop (F.args_list_pop_1 _) (MeetsSeq.list_pop_last l its.toArray n u hy' (by rw[Gm];lia)) ⟨e,?_⟩
 refine⟨y,_,I.lset (its':=its.dropLast) hH e ?_ r.dropLast ?_,ru,q⟩
 ·show its.toArray.eraseIdxIfInBounds (its.toArray.size-1)=its.dropLast.toArray
  rw[Gm,List.eraseIdxIfInBounds_toArray,ug]
 ·rw[List.length_dropLast]
  lia
def FL:R2:=λx y H Q=>∃l b xs zs,x=.ref l/\y=.ref b/\H l=some (.lst xs)/\H b=some (.lst zs)/\xs.length+zs.length<=Ge/\∀p,H p=none->Q (.ref p) (upd H p (.lst (xs++zs)))
theorem xF:OpR X (binaryOp .Add) FL:=by
 intro pins s σ H x y v u Q I rx ry h
 obtain⟨l,b,xs,zs,rfl,rfl,hH,hB,hz,q⟩:=h
 cases rx
 cases ry
 obtain⟨z,its,n,r,hl,e⟩:=I.lstM hH
 obtain⟨z2,its2,n2,r2,hl2,e2⟩:=I.lstM hB
 refine PySem.P.add_list e e2 ?_ (by rw[Gm,Gm];lia)
 have ea:its.toArray++its2.toArray=(its++its2).toArray:=by simp
 rw[ea]
 exact⟨.ref _,_,I.lnew (t':=s.toks) (r.append r2) (by rw[Gd];lia),rfl,q _ I.fresh⟩
def FT:R2:=λx y H Q=>∃l k xs,x=.ref l/\y=.int k/\H l=some (.lst xs)/\-(2 ^ 63)<=k/\k<2 ^ 63/\xs.length*k.toNat<=Ge /\
 ∀p,H p=none->Q (.ref p) (upd H p (.lst (GS k.toNat xs).flatten))
theorem zZ {α:Type}(xs:List α)(k:Nat):(GS k xs).flatten.length=k*xs.length:=by
 induction k with
 |zero=>simp
 |succ k ih=>rw[Jt,List.flatten_cons,Gd,ih,Nat.succ_mul,Nat.add_comm]
theorem By:OpR X (binaryOp .Mult) FT:=by
 intro pins s σ H x y v u Q I rx ry h
 obtain⟨l,k,xs,rfl,rfl,hH,h1,h2,hz,q⟩:=h
 cases rx
 obtain⟨t,rfl⟩:=ry
 obtain⟨z,its,n,r,hl,e⟩:=I.lstM hH
 have hlen:its.toArray.size*k.toNat<=Ge:=by rw[Gm,<-hl];exact hz
 have hcap:¬its.toArray.size*k.toNat > (2 ^ 63-1) / 8:=by
  have:(Ge:Nat)<=(2 ^ 63-1) / 8:=by decide
  lia
 have hfit:¬(!Builtin.List.listFitsIndex k)=true:=by
  rw[fitsIndex_both h1 h2]
  exact Go
 have hlong:¬Jk (its.toArray.size*k.toNat)=true:=by
  rw[rN hlen]
  exact Go
 have hnew:List.foldl (λx1 x2=>x1++x2) #[] (GS (if its.toArray.isEmpty=true then 0 else k.toNat) its.toArray)=(GS k.toNat its).flatten.toArray:=by
  have f0:∀m:Nat,List.foldl (λx1 x2=>x1++x2) #[] (GS m its.toArray)=(GS m its).flatten.toArray:=λm=>by
   have:=pG its m []
   rw[HY]at this
   exact this
  rw[f0]
  cases its with
  |nil=>simp
  |cons a r'=>rw[Gf (by simp)]
 refine wpAny_binaryOp_repeat_ref (T:="list") (U:="int") (by decide) ⟨_,e,rfl⟩ (λs'=>typeIs_int s' k t) noFill_list_mul F.fills_int_mul F.slot_int_rmul repeat_list F.slot_int_index.lookup
  (call_meets F.slot_int_rmul (typeIs_int s k t) F.entry_int_rmul (F.args_int_rmul_2 _ _) (int___rmul___int_list k t l its.toArray n)
   ⟨e,rfl,⟨_,e,rfl⟩,call_meets F.slot_list_mul ⟨_,e,rfl⟩ F.entry_list_mul (F.args_list_mul_2 _ _) (AutoListH.list___mul___list_int_3 l its.toArray n k t hfit hcap hlong) ⟨e,?_⟩⟩)
 rw[hnew]
 exact⟨.ref _,_,I.lnew (t':=s.toks) (r.rep k.toNat) (by rw[zZ,Nat.mul_comm];exact hz),rfl,q _ I.fresh⟩
end
section
variable  {prog:GQ}{w:HJ}{A:Around}{E:Value->Ga->Prop}{s:Ga}
end
section
variable  {X:Cx}
end
end L2
namespace L2
open PySem PySem.Spec PyProof.Rows
theorem aS.bls:∀{bs:List Bool} {us:List Value},aS (bs.map V.bl) us->us=bs.map Value.bool
 |[],us,h=>by
  rw[JH]at h
  cases h
  rfl
 |b :: bs,us,h=>by
  rw[Gw]at h
  cases h with
  |cons r t =>
   cases r
   rw[aS.bls t,Gw]
section
variable  {prog:GQ}{w:HJ}{A:Around}{E:Value->Ga->Prop}{s:Ga}{l:Gb}{its:List Value}{ns:List Int}{Q:Value->Ga->Prop}
end
section
variable  {X:Cx}
end
section
variable  {X:Cx}
def BP (K:Hq):V->List V->Hp->VK->Prop:=λx xs H Q=>∃(a:Gb) (ys:List V) (y:V) (j:Nat) (z:V),x=V.ref a/\xs=[y]/\SqL K H a ys/\kn y=true/\ys.all kn=true/\ys[j]? = some z/\eqV z y=true /\
 (∀(m:Nat) (z':V),m<j->ys[m]? = some z'->eqV z' y=false)/\Q (.int (j:Nat)) H
theorem vf {ys:List V}(f:ys.all kn=true){j:Nat}{z:V}(h:ys[j]? = some z):kn z=true:=Hk.mp f z (GV h)
theorem yh:MtR X "list.index" (BP X.K):=by
 intro pins s σ H x xs v us Q I rx rxs h
 obtain⟨a,ys,y,j,z,rfl,rfl,hs,fy,fys,hz,hzj,hno,q⟩:=h
 cases rx
 cases rxs with
 |cons ry rt =>
  rename_i uy ut
  cases rt
  obtain⟨its,rv,⟨⟨cls,dd,data,sl⟩,n,ho,hc,hdn,hd⟩,hlen⟩:=I.list hs
  simp only at hc hd
  subst hc hd
  obtain⟨u,hu,ru⟩:=rv.get hz
  obtain⟨hjl,hje⟩:=gsi hu
  have hvl:=rv.length
  have hj:j<its.toArray.size:=by simpa using hjl
  have hsl:=sizeLine_eq
  refine call_meets PySem.F.slot_list_index ⟨_,ho,rfl⟩ PySem.F.entry_list_index (PySem.F.args_list_index_2 _ _)
   (SeqAt.list_indexAt a its.toArray n dd sl uy (eqU y) j hj (by lia) ?_ ?_) ⟨ho,λu' hu'=>rA ry fy rv fys u' (by simpa using hu'),?_⟩
  ·have e1:its.toArray[j]=u:=by simpa using hje
   rw[e1,tp ru (vf fys hz)]
   exact hzj
  ·intro m hm hmj
   have hml:m<its.length:=by simpa using hm
   have hmy:m<ys.length:=by lia
   have hy':ys[m]? = some ys[m]:=gge hmy
   obtain⟨u2,hu2,ru2⟩:=rv.get hy'
   obtain⟨_,hme⟩:=gsi hu2
   have e1:its.toArray[m]=u2:=by simpa using hme
   rw[e1,tp ru2 (vf fys hy')]
   exact hno m _ hmj hy'
  ·exact⟨.int (j:Nat),H,I.tok _,⟨_,rfl⟩,q⟩
end
section
variable  {X:Cx}
end
section
variable  {X:Cx}
end
mutual
inductive Dp (K:Hq)(H:Hp):V->PyData->Prop
 |non:Dp K H .non .none
 |bl (b:Bool):Dp K H (.bl b) (.bool b)
 |int (i:Int):Dp K H (.int i) (.int i)
 |str (x:Str):Dp K H (.str x) (.str x)
 |lst {a:Gb} {xs:List V} {ds:List PyData}:SqL K H a xs->lC K H xs ds->Dp K H (.ref a) (.list ds)
 |tup {a:Gb} {xs:List V} {ds:List PyData}:SqT K H a xs->lC K H xs ds->Dp K H (.ref a) (.tuple ds)
inductive lC (K:Hq)(H:Hp):List V->List PyData->Prop
 |nil:lC K H [] []
 |cons {v:V} {vs:List V} {d:PyData} {ds:List PyData}:Dp K H v d->lC K H vs ds->lC K H (v :: vs) (d :: ds)
end
section
variable  {X:Cx}{pins:List (Gb×Obj)}{σ:St}{H:Hp}{s:Ga}
mutual
theorem Dp.reads (I:Inv X pins σ H s):∀(d:PyData) (v:V) (u:Value),Dp X.K H v d->a5 v u->∃as,Reads s.heap u d as
 |.none,_,_,h,r=>by
  cases h
  cases r
  exact⟨_,Reads.none⟩
 |.bool b,_,_,h,r=>by
  cases h
  cases r
  exact⟨_,Reads.bool b⟩
 |.int i,_,_,h,r=>by
  cases h
  obtain⟨t,rfl⟩:=r
  exact⟨_,Reads.int i t⟩
 |.str x,_,_,h,r=>by
  cases h
  obtain⟨t,rfl⟩:=r
  exact⟨_,Reads.str x t⟩
 |.list ds,_,_,h,r=>by
  cases h with
  |lst hs ha =>
   cases r
   obtain⟨its,rv,⟨o,n,ho,hc,_,hd⟩,_⟩:=I.list hs
   obtain⟨as,hr⟩:=Dp.readsAll I ds _ its ha rv
   exact⟨_,Reads.list ho hc hd hr⟩
 |.tuple ds,_,_,h,r=>by
  cases h with
  |tup hs ha =>
   cases r
   obtain⟨its,rv,⟨o,ho,hc,n,hd⟩,_⟩:=I.tuple hs
   obtain⟨as,hr⟩:=Dp.readsAll I ds _ its ha rv
   exact⟨_,Reads.tuple ho hc hd hr⟩
 |.dict _,_,_,h,_=>by cases h
theorem Dp.readsAll (I:Inv X pins σ H s):∀(ds:List PyData) (vs:List V) (us:List Value),lC X.K H vs ds->aS vs us->∃as,ReadsAll s.heap us ds as
 |[],_,_,h,r=>by
  cases h
  cases r
  exact⟨_,ReadsAll.nil⟩
 |d :: ds,_,_,h,r=>by
  cases h with
  |cons h1 h2 =>
   cases r with
   |cons r1 r2 =>
    obtain⟨as,q1⟩:=Dp.reads I d _ _ h1 r1
    obtain⟨bs,q2⟩:=Dp.readsAll I ds _ _ h2 r2
    exact⟨_,ReadsAll.cons q1 q2⟩
end
end
section
variable  {X:Cx}
def FH (K:Hq):R2:=λx y H Q=>∃d e,Dp K H x d/\Dp K H y e/\SeqAt.shaped d=true/\SeqAt.shaped e=true/\Q (.bl (!PyData.eqv d e)) H
theorem BC (hu:X.A.units+64<cLine):OpR X (HI .NotEq) (FH X.K):=by
 intro pins s σ H x y v u Q I rx ry h
 obtain⟨d,e,hd,he,sd,se,q⟩:=h
 obtain⟨as,r1⟩:=Dp.reads I d x v hd rx
 obtain⟨bs,r2⟩:=Dp.reads I e y u he ry
 exact SeqAt.compareNe_shaped r1 r2 sd se hu ⟨.bl _,H,I,rfl,q⟩
end
end L2
namespace L2
open PySem PySem.Spec PyProof.Rows
abbrev xK (h:Heap)(c:Gb)(v:Option Value):Prop:=h.IsCell c v
def FA (scope sc:Scope):Scope :=
 { scope with names:=scope.names.map λ(n,k)=>if (k==.free&&sc.kind==.function&&sc.names.lookup n==some .cell) then (n,.cell) else (n,k) }
def bK (cells:List (Str×Gb)):List (Str×NameKind)->List (Str×Gb)->List (Str×Gb)
 |[],acc=>acc
 |(n,k) :: r,acc=>if k==.free then bK cells r ((n,(cells.lookup n).getD 0) :: acc) else bK cells r acc
theorem kK (env:Env)(f:Str×NameKind->List (Str×Gb)->Sem (ForInStep (List (Str×Gb))))
  (hf:∀n k c,f (n,k) c=if k==.free then (do let a <-cellOf env n;pure (.yield ((n,a) :: c))) else pure (.yield c)) :
  ∀(names:List (Str×NameKind)) (acc:List (Str×Gb)),(∀y∈names,y.2=.free->∃c,env.cells.lookup y.1=some c)->forIn names acc f=pure (bK env.cells names acc)
 |[],acc,_=>by rw[List.forIn_nil];rfl
 |(n,k) :: r,acc,h=>by
  rw[List.forIn_cons,hf]
  have ih:=λacc=>kK env f hf r acc λy hy=>h y (Gc _ hy)
  unfold bK
  by_cases hk:(k==NameKind.free)=true
  ·rw[Gk hk,Gk hk]
   obtain⟨c,hc⟩:=h (n,k) Gv (by simpa using hk)
   have e:cellOf env n=pure c:=by unfold cellOf;rw[hc]
   rw[e]
   have e2:(env.cells.lookup n).getD 0=c:=by rw[hc];rfl
   rw[e2]
   exact ih _
  ·rw[Gf hk,Gf hk]
   exact ih _
theorem tE {scope:Scope}{env:Env}(h:∀y∈scope.names,y.2=.free->∃c,env.cells.lookup y.1=some c):closureFor scope env=pure (bK env.cells scope.names []):=by
 simp only[closureFor]
 rw[kK env _ (λn k c=>rfl) scope.names [] h]
 rfl
theorem jT {α:Type}:∀{l:List (Str×α)} {n:Str} {c:α},(n,c)∈l->∃c',l.lookup n=some c'
 |(k,v) :: r,n,c,h=>by
  rw[IF]
  cases hb:n==k with
  |true=>exact⟨_,rfl⟩
  |false =>
   rcases Gh.mp h with e|h
   ·cases e;simp at hb
   ·exact jT h
theorem gf {cells:List (Str×Gb)}:∀{names:List (Str×NameKind)} {acc:List (Str×Gb)} {n:Str} {c:Gb},(n,c)∈bK cells names acc->(n,c)∈acc\/((n,.free)∈names/\c=(cells.lookup n).getD 0)
 |[],_,_,_,h=>.inl h
 |(m,k) :: r,acc,n,c,h=>by
  unfold bK at h
  split at h
  ·rename_i hk
   have hk:k=.free:=by simpa using hk
   rcases gf h with h|⟨h1,h2⟩
   ·rcases Gh.mp h with e|h
    ·cases e;exact .inr ⟨hk▸Gv,rfl⟩
    ·exact .inl h
   ·exact .inr ⟨Gc _ h1,h2⟩
  ·rcases gf h with h|⟨h1,h2⟩
   ·exact .inl h
   ·exact .inr ⟨Gc _ h1,h2⟩
theorem i8 {cells:List (Str×Gb)}:∀{names:List (Str×NameKind)} {acc:List (Str×Gb)} {p:Str×Gb},p∈acc->p∈bK cells names acc
 |[],_,_,h=>h
 |(m,k) :: r,acc,p,h=>by
  unfold bK
  split
  ·exact i8 (Gc _ h)
  ·exact i8 h
theorem iX {cells:List (Str×Gb)}:∀{names:List (Str×NameKind)} {acc:List (Str×Gb)} {n:Str},(n,.free)∈names->(n,(cells.lookup n).getD 0)∈bK cells names acc
 |(m,k) :: r,acc,n,h=>by
  unfold bK
  rcases Gh.mp h with e|h
  ·cases e
   exact i8 Gv
  ·split
   ·exact iX h
   ·exact iX h
theorem gN:∀{names:List (Str×NameKind)} {h:Heap} {acc:List (Str×Gb)} {x:Str} {c:Gb},(x,c)∈Ie h.objs.size names acc ->
  (x,c)∈acc\/((x,.cell)∈names/\h.objs.size<=c/\xK (pushCells h names) c none)
 |[],_,_,_,_,h=>.inl h
 |(n,k) :: r,h,acc,x,c,hm=>by
  unfold Ie at hm
  unfold pushCells
  split at hm
  ·rename_i hk
   rw[Gk hk]
   have hk:k=.cell:=by simpa using hk
   rw[<-HC h { cls:=.type "cell",data:=.cell none }]at hm
   rcases gN hm with hm|⟨h1,h2,h3⟩
   ·rcases Gh.mp hm with e|hm
    ·cases e
     exact .inr ⟨hk▸Gv,nlr _,_,pushCells_keeps r _ _ _ (GF _ rfl),rfl⟩
    ·exact .inl hm
   ·rw[HC]at h2
    exact .inr ⟨Gc _ h1,Nat.le_of_succ_le h2,h3⟩
  ·rename_i hk
   rw[Gf hk]
   rcases gN hm with hm|⟨h1,h2,h3⟩
   ·exact .inl hm
   ·exact .inr ⟨Gc _ h1,h2,h3⟩
theorem js:∀{names:List (Str×NameKind)} {n:Nat} {acc:List (Str×Gb)} {p:Str×Gb},p∈acc->p∈Ie n names acc
 |[],_,_,_,h=>h
 |(m,k) :: r,n,acc,p,h=>by
  unfold Ie
  split
  ·exact js (Gc _ h)
  ·exact js h
theorem kS:∀{names:List (Str×NameKind)} {n:Nat} {acc:List (Str×Gb)} {x:Str},(x,.cell)∈names->∃c,(x,c)∈Ie n names acc
 |(m,k) :: r,n,acc,x,h=>by
  unfold Ie
  rcases Gh.mp h with e|h
  ·cases e
   exact⟨n,js Gv⟩
  ·split
   ·exact kS h
   ·exact kS h
theorem ly:∀{names:List (Str×NameKind)} {h:Heap} {acc:List (Str×Gb)} {x y:Str} {c:Gb},(∀p∈acc,p.2<h.objs.size)->(∀x y c,(x,c)∈acc->(y,c)∈acc->x=y) ->
  (x,c)∈Ie h.objs.size names acc->(y,c)∈Ie h.objs.size names acc->x=y
 |[],_,_,_,_,_,_,hi,h1,h2=>hi _ _ _ h1 h2
 |(n,k) :: r,h,acc,x,y,c,hl,hi,h1,h2=>by
  unfold Ie at h1 h2
  split at h1
  ·rename_i hk
   rw[Gk hk]at h2
   rw[<-HC h { cls:=.type "cell",data:=.cell none }]at h1 h2
   refine ly (h:=h.push _) (λp hp=>?_) (λx y c a b=>?_) h1 h2
   ·rw[HC]
    rcases Gh.mp hp with rfl|hp
    ·exact Nat.lt_succ_self _
    ·exact JW (hl p hp)
   ·rcases Gh.mp a with e|a<;>rcases Gh.mp b with e'|b
    ·cases e;cases e';rfl
    ·cases e;exact absurd (hl _ b) (Ik _)
    ·cases e';exact absurd (hl _ a) (Ik _)
    ·exact hi _ _ _ a b
  ·rename_i hk
   rw[Gf hk]at h2
   exact ly hl hi h1 h2
theorem sS {M:Model}{A:Around}{E:Value->Ga->Prop}{s:Ga}{scope:Scope}{globals:Gb}{closure:List (Str×Gb)}{qual:Str}{func:Option Gb}{code:Value}{around:Env}{builtins:Gb}{Q:Env->Ga->Prop}
  (h:Q (newEnv scope s.heap.objs.size globals (Ie (s.heap.objs.size+1) scope.names closure) qual func code (some around) builtins)
   { s with heap:=pushCells (s.heap.push { cls:=.type "dict",data:=.dict #[] }) scope.names }) :
  GO M A (newFunctionEnv scope globals closure [] qual func code (some around) builtins) Q E s:=by
 simp only[newFunctionEnv,Option.isSome_some,if_true]
 refine FZ (wpAny_alloc ?_)
 refine FZ (wpAny_layCells _ (λn k c=>rfl) scope.names closure _ _ ?_)
 rw[show({ s with heap:=s.heap.push { cls:=.type "dict",data:=.dict #[] } }:Ga).heap.objs.size=s.heap.objs.size+1 from HC ..]
 rw[List.forIn_nil]
 exact FZ (Gz (Gz h))
theorem iS {sc:Scope}:∀{names:List (Str×NameKind)} {x:Str} {k:NameKind},
  (names.map λ(n,k)=>if (k==NameKind.free&&sc.kind==.function&&sc.names.lookup n==some .cell) then (n,NameKind.cell) else (n,k)).lookup x=some k ->
  ∃k',names.lookup x=some k'/\(k=k'\/(k'=.free/\k=.cell))
 |[],_,_,h=>by simp at h
 |(n,k₀) :: r,x,k,h=>by
  have ih:=@iS sc r x k
  have h':J7 x ((if (k₀==NameKind.free&&sc.kind==.function&&sc.names.lookup n==some .cell)=true then (n,NameKind.cell) else (n,k₀)) :: (r.map _))=some k:=h
  cases hx:x==n with
  |true =>
   simp only[IF,hx]
   by_cases hc:(k₀==NameKind.free&&sc.kind==.function&&sc.names.lookup n==some .cell)=true
   ·rw[Gk hc]at h'
    simp only[IF,hx]at h'
    cases h'
    simp only[Gi,Jz]at hc
    exact⟨k₀,rfl,.inr ⟨hc.1.1,rfl⟩⟩
   ·rw[Gf hc]at h'
    simp only[IF,hx]at h'
    cases h'
    exact⟨_,rfl,.inl rfl⟩
  |false =>
   simp only[IF,hx]
   by_cases hc:(k₀==NameKind.free&&sc.kind==.function&&sc.names.lookup n==some .cell)=true
   ·rw[Gk hc]at h'
    simp only[IF,hx]at h'
    exact ih h'
   ·rw[Gf hc]at h'
    simp only[IF,hx]at h'
    exact ih h'
structure r8 (N:List Str)(sc scope:Scope)(own:List (Str×Nat)):Prop where
 kind:scope.kind=.function
 uniq:∀y∈scope.names,scope.names.lookup y.1=some y.2
 ix:∀p∈own,N[p.2]? = some p.1
 free:∀y∈scope.names,y.2=.free->sc.names.lookup y.1=some .cell\/sc.names.lookup y.1=some .free
 own:∀y∈scope.names,y.2=.local\/y.2=.cell->y.1∈own.map (·.1)\/y.1∉N
def b6 (σ:St):List Nat->St
 |[]=>σ
 |v :: vs=>(b6 σ vs).set v none
theorem iT (σ:St):∀vs:List Nat,(b6 σ vs).length=σ.length
 |[]=>rfl
 |v :: vs=>by unfold b6;rw[List.length_set,iT σ vs]
theorem lj {σ:St}{i:Nat}{x:V}:∀{vs:List Nat},(b6 σ vs)[i]? = some (some x)->σ[i]? = some (some x)/\i∉vs
 |[],h=>⟨h,by simp⟩
 |v :: vs,h=>by
  unfold b6 at h
  by_cases hi:v=i
  ·subst hi
   by_cases hv:v<(b6 σ vs).length
   ·rw[JA hv]at h;cases h
   ·rw[List.getElem?_eq_none (by simpa using hv)]at h;cases h
  ·rw[IJ hi]at h
   obtain⟨h1,h2⟩:=lj h
   exact⟨h1,by simp only[Gh,not_or];exact⟨λe=>hi e.symm,h2⟩⟩
abbrev Cx.blk (X:Cx)(s:Ga)(H:Hp)(scope:Scope)(cenv:Env)(fp:List Gb):Cx:={ X with s_0:=s,H_0:=H,env:=cenv,outer:=X.stack,ex:=fp,fn:=λx=>scope.names.lookup x==some .cell,pn:=[],xe:=λ_ _=>False }
section
variable  {X:Cx}{pins:List (Gb×Obj)}{σ:St}{H:Hp}{s:Ga}
theorem rs {scope:Scope}{own:List (Str×Nat)}{fp:List Gb}(I:Inv X pins σ H s)(ok:r8 X.N X.env.scope scope own)(hN:X.N.Nodup)(hfp:∀b∈fp,l4 X pins H b/\b<s.heap.objs.size) :
  Inv (X.blk s H scope (J4 scope (Ie (s.heap.objs.size+1) scope.names (bK X.env.cells scope.names [])) s.heap.objs.size X.env) fp) [] (b6 σ (own.map (·.2))) H { s with heap:=pushCells (s.heap.push { cls:=.type "dict",data:=.dict #[] }) scope.names }:=by
 have hfree:∀y∈scope.names,y.2=.free->∃c,X.env.cells.lookup y.1=some c:=λy hy e=>by
  rcases ok.free y hy e with k|k
  ·exact I.ok.has _ (.inl k)
  ·exact I.ok.has _ (.inr k)
 generalize hcenv:J4 scope (Ie (s.heap.objs.size+1) scope.names (bK X.env.cells scope.names [])) s.heap.objs.size X.env=cenv
 have kp:∀b o,s.heap.get? b=some o->(pushCells (s.heap.push { cls:=.type "dict",data:=.dict #[] }) scope.names).get? b=some o:=λb o e=>pushCells_keeps _ _ _ _ (Gn _ e)
 have hL:cenv.locals=s.heap.objs.size:=by rw[<-hcenv];rfl
 have hcl:cenv.cells=Ie (s.heap.objs.size+1) scope.names (bK X.env.cells scope.names []):=by rw[<-hcenv];rfl
 have hsc:cenv.scope=FA scope X.env.scope:=by rw[<-hcenv];rfl
 rw[<-HC s.heap { cls:=.type "dict",data:=.dict #[] }]at hcl
 have cm:∀{y c},(y,c)∈bK X.env.cells scope.names []->X.env.cells.lookup y=some c/\c<s.heap.objs.size:=λ{y c} hm=>by
  rcases gf hm with hm|⟨h1,rfl⟩
  ·cases hm
  ·obtain⟨c,hc⟩:=hfree _ h1 rfl
   rw[hc]
   obtain⟨w,z⟩:=I.cell _ _ hc
   exact⟨rfl,z.lt⟩
 have mem:∀{y c},cenv.cells.lookup y=some c->(X.env.cells.lookup y=some c/\c<s.heap.objs.size)\/(s.heap.objs.size+1<=c/\xK (pushCells (s.heap.push { cls:=.type "dict",data:=.dict #[] }) scope.names) c none):=λ{y c} e=>by
  rw[hcl]at e
  rcases gN (G1 e) with hm|⟨_,h2,h3⟩
  ·exact .inl (cm hm)
  ·rw[HC]at h2;exact .inr ⟨h2,h3⟩
 have look:∀{y},scope.names.lookup y=some .free->∃c,cenv.cells.lookup y=some c/\X.env.cells.lookup y=some c:=λ{y} hl=>by
  have hy:(y,NameKind.free)∈scope.names:=G1 hl
  obtain⟨c',e'⟩:=jT (js (names:=scope.names) (n:=(s.heap.push { cls:=.type "dict",data:=.dict #[] }).objs.size) (iX (cells:=X.env.cells) (acc:=[]) hy))
  rw[<-hcl]at e'
  refine⟨c',e',?_⟩
  rw[hcl]at e'
  rcases gN (G1 e') with hm|⟨h1,_,_⟩
  ·exact(cm hm).1
  ·have:=ok.uniq _ h1
   rw[hl]at this;cases this
 have okB:(X.blk s H scope cenv fp).Ok:=by
  refine⟨I.ok.mod,by show cenv.scope.kind=_;rw[hsc];exact ok.kind,by show cenv.globals=_;rw[<-hcenv];exact I.ok.glob,by show cenv.builtins=_;rw[<-hcenv];exact I.ok.blt,by show s.heap.objs.size<=cenv.locals;rw[hL];exact nlr _,
   λy z c e1 e2=>?_,λy hy=>?_,λy c z e=>?_,I.ok.hd,I.ok.frames,.inl rfl,λb hb=>⟨?_,λy c e z=>?_⟩,I.bs,GU I.ok.bsz I.sz,λb o e hb=>?_,λb hb z=>?_,I.stack,I.stkFree⟩
  ·have e1:cenv.cells.lookup y=some c:=e1
   have e2:cenv.cells.lookup z=some c:=e2
   rw[hcl]at e1 e2
   refine ly (λp hp=>?_) (λy z c a b=>I.ok.inj y z c (cm a).1 (cm b).1) (G1 e1) (G1 e2)
   rw[HC]
   exact JW (cm (y:=p.1) (c:=p.2) hp).2
  ·show ∃c,cenv.cells.lookup y=some c
   have key:∀k,cenv.kindOf y=some k->(k=.cell\/k=.free)->∃c,cenv.cells.lookup y=some c:=λk hk hk'=>by
    unfold Env.kindOf at hk
    rw[hsc]at hk
    obtain⟨k',e,r⟩:=iS hk
    have:k'=.cell\/k'=.free:=by
     rcases r with rfl|⟨rfl,_⟩
     ·exact hk'
     ·exact .inr rfl
    rcases this with rfl|rfl
    ·obtain⟨c,hm⟩:=kS (n:=(s.heap.push { cls:=.type "dict",data:=.dict #[] }).objs.size) (acc:=bK X.env.cells scope.names []) (G1 e)
     obtain⟨c',e'⟩:=jT hm
     exact⟨c',by rw[hcl];exact e'⟩
    ·obtain⟨c,h1,_⟩:=look e
     exact⟨c,h1⟩
   rcases hy with hy|hy
   ·exact key _ hy (.inl rfl)
   ·exact key _ hy (.inr rfl)
  ·have z:(scope.names.lookup y==some NameKind.cell)=true:=z
   have z:scope.names.lookup y=some .cell:=by simpa using z
   have e:cenv.cells.lookup y=some c:=e
   rw[hcl]at e
   rcases gN (G1 e) with hm|⟨_,h2,_⟩
   ·rcases gf hm with hm|⟨h1,_⟩
    ·cases hm
    ·have q:=ok.uniq _ h1
     rw[z]at q;cases q
   ·rw[HC]at h2
    exact Nat.le_of_succ_le h2
  ·show b≠cenv.locals
   rw[hL];exact GW (hfp b hb).2
  ·have e:cenv.cells.lookup y=some c:=e
   rcases mem e with⟨h1,_⟩|⟨h1,_⟩
   ·exact(hfp b hb).1.2.2.2.2.1 y c h1 z
   ·have h2:s.heap.objs.size+1<=b:=by rw[<-z];exact h1
    exact absurd (GD (hfp b hb).2 (Nat.le_of_succ_le h2)) (Ik _)
  ·rcases(hfp b hb).1.2.2.2.1 with z|z
   ·exact I.ok.noex b o e z
   ·exact absurd (GD (Gq e) (GU I.ok.bsz z)) (Ik _)
  ·rcases Gh.mp (I.stkSub b z) with z|z
   ·exact(hfp b hb).1.2.1 z
   ·exact(hfp b hb).1.2.2.1 z
 refine⟨okB,rfl,I.bare,Un.kept kp,⟨λ_=>none,?_,λi y av e1 e2 e3=>?_⟩,λy c e=>?_,?_,λy c e=>?_,λp hp=>?_,I.hok.kept kp,by rw[iT];exact I.len⟩
 ·show Heap.Ns _ cenv.locals _
  rw[hL]
  exact Heap.Ns.keeps (Heap.Ns.new ..) λb o e=>pushCells_keeps _ _ _ _ e
 ·obtain⟨e2,hne⟩:=lj e2
  have hfr:scope.names.lookup y=some .free/\(cenv.kindOf y=some .cell\/cenv.kindOf y=some .free):=by
   have key:∀k,cenv.scope.names.lookup y=some k->k=.local\/k=.cell\/k=.free->scope.names.lookup y=some .free/\(cenv.kindOf y=some .cell\/cenv.kindOf y=some .free):=λk hk hk'=>by
    have hk0:=hk
    rw[hsc]at hk
    obtain⟨k',e,r⟩:=iS hk
    have no:¬(k'=.local\/k'=.cell):=λhh=>by
     rcases ok.own _ (G1 e) hh with e'|e'
     ·obtain⟨p,hp,hpy⟩:=GP.mp e'
      have e3:=ok.ix p hp
      have:p.1=y:=hpy
      rw[this]at e3
      exact hne (GP.mpr ⟨p,hp,nu hN e3 e1⟩)
     ·exact e' (GV e1)
    rcases r with rfl|⟨rfl,rfl⟩
    ·rcases hk' with rfl|rfl|rfl
     ·exact absurd (.inl rfl) no
     ·exact absurd (.inr rfl) no
     ·exact⟨e,.inr hk0⟩
    ·exact⟨e,.inl hk0⟩
   have e3:Vis cenv.scope y:=e3
   rcases e3 with e3|e3|e3
   ·exact key _ e3 (.inl rfl)
   ·exact key _ e3 (.inr (.inl rfl))
   ·exact key _ e3 (.inr (.inr rfl))
  obtain⟨m,hn,hl⟩:=I.loc
  have hvis:Vis X.env.scope y:=(ok.free _ (G1 hfr.1) rfl).elim (λk=>.inr (.inl k)) (λk=>.inr (.inr k))
  obtain⟨w,r,q⟩:=hl i y av e1 e2 hvis
  refine⟨w,r,.inr ⟨hfr.2,?_⟩⟩
  obtain⟨c,h1,h2⟩:=look hfr.1
  rcases q with⟨k,_⟩|⟨_,c',e',z⟩
  ·have k:X.env.scope.names.lookup y=some .local:=k
   rcases ok.free _ (G1 hfr.1) rfl with k'|k'<;>rw[show X.env.scope.names.lookup y=_ from k']at k<;>cases k
  ·rw[h2]at e';cases e'
   exact⟨c,h1,z.keeps kp⟩
 ·have e:cenv.cells.lookup y=some c:=e
  rcases mem e with⟨h1,_⟩|⟨_,z⟩
  ·obtain⟨w,z⟩:=I.cell y c h1
   exact⟨w,z.keeps kp⟩
  ·exact⟨_,z⟩
 ·show H cenv.locals=none
  rw[hL];exact I.hok.fresh (nlr _)
 ·have e:cenv.cells.lookup y=some c:=e
  rcases mem e with⟨h1,_⟩|⟨h1,_⟩
  ·exact I.freeC y c h1
  ·exact I.hok.fresh (Nat.le_of_succ_le h1)
 ·exact absurd (show p∈([]:List (Gb×Obj))++[] from hp) (by simp)
theorem Bv {E:Value->Ga->Prop}{D:Gb}{xs:List V}{y:V}{v:Value}{Q:Value->Ga->Prop}(I:Inv X pins σ H s)(hD:H D=some (.lst xs))(hz:xs.length<Ge)(r:a5 y v)
  (h:∀s',Inv X pins σ (upd H D (.lst (xs++[y]))) s'->Q .none s'):GO (G4 X.prog X.w) X.A (call (.builtin "list.append") [.ref D,v]) Q E s:=by
 obtain⟨hz',its,n,ri,e⟩:=I.hok D _ hD
 have hl:=ri.length
 refine append_at (hsz:=by rw[Gm];lia) e λh' sb ho'=>?_
 refine h { s with heap:=h' } (I.write (t':=s.toks) (by rw[hD];trivial) (.inl rfl) (λb u hb q=>(sb.2 b hb).trans q) ⟨_,ho'⟩ ⟨by rw[Gd];exact hz,its++[v],n+1,ri.append (.cons r .nil),?_⟩)
 rw[ho']
 simp
def PTs (X:Cx)(ifs:List Expr)(t:TT):Prop :=
 ∀(pins:List (Gb×Obj)) (s:Ga) (σ:St) (H:Hp) (Q:Bool->Hp->Prop),Inv X pins σ H s->t σ H Q ->
  GO (G4 X.prog X.w) X.A (forIn ifs true λc r=>if r=true then do let ok <-isTrue c X.env (JZ c X.env);pure (ForInStep.yield ok) else pure (ForInStep.yield r)) (TP X pins σ Q) X.xe s
def Do:TT:=λ_ H Q=>Q true H
theorem cY:PTs X [] Do:=λ_ _ _ H _ I h=>wpAny_tests_nil ⟨H,I,h⟩
theorem jy {c:Expr}{t:TT}(h:PT X c t):PTs X [c] t:=λpins s σ H Q I hw=>wpAny_tests_one (h pins s σ H Q I hw)
end
theorem wa {α:Type}{t:Sem α}{Q Q':α->Ga->Prop}{M:Model}{A:Around}{E:Value->Ga->Prop}{s:Ga}(h:GO M A t Q (λ_ _=>False) s)(hQ:∀a s,Q a s->Q' a s):GO M A t Q' E s:=JS h hQ λ_ _ z=>HV z
theorem pW {prog:GQ}{w:HJ}{A:Around}{R:Result->Ga->Prop}{s:Ga}{elt target aE:Expr}{ifs:List Expr}{scope:Scope}{pos:Pos}{it acc:Value}{env:Env}(I:Nat->Ga->Prop)
  (turn:∀n s,I n s->GO (G4 prog w) A (pyNext it) (λr s₁=>match r with
   |none=>R (.ok .next) s₁
   |some v=>GO (G4 prog w) A (letOwnedTupleGo target it v) (λ_ s₁'=>GO (G4 prog w) A (assign target env v) (λ_ s₂ =>
     GO (G4 prog w) A (forIn ifs true λc r=>if r=true then do let ok <-isTrue c env (JZ c env);pure (ForInStep.yield ok) else pure (ForInStep.yield r)) (λok s₃ =>
      if ok=true then GO (G4 prog w) A (JZ elt env) (λx s₄ =>
       GO (G4 prog w) A (call (.builtin "list.append") [acc,x]) (λ_ s₅=>∃m,m<n/\I m s₅) (notedBy (G4 prog w) A env λe s'=>R (.error e) s') s₄) (notedBy (G4 prog w) A env λe s'=>R (.error e) s') s₃
      else ∃m,m<n/\I m s₃) (notedBy (G4 prog w) A env λe s'=>R (.error e) s') s₂) (notedBy (G4 prog w) A env λe s'=>R (.error e) s') s₁') (notedBy (G4 prog w) A env λe s'=>R (.error e) s') s₁) (notedBy (G4 prog w) A env λe s'=>R (.error e) s') s)
  (n:Nat) (h:I n s) :
  codeAny (G4 prog w) A (.compLoop (.ListComp elt [⟨target,aE,ifs,0⟩] scope pos) 0 it acc env) R s:=by
 refine codeAny_loop rfl I (λn s hI=>?_) n h
 show GO _ A ((compTurn (.ListComp elt [⟨target,aE,ifs,0⟩] scope pos) 0 it acc env).onRaise (λx=>do noteFrame x env;theTreesLotGoes x)) _ _ s
 refine wpAny_noted ?_
 rw[compTurn_list]
 refine FZ (wpAny_standAt (FZ (JS (turn n s hI) (λr s₁ h₁=>?_) λ_ _ h'=>h')))
 cases r with
 |none=>exact Gz h₁
 |some v =>
  refine FZ (JS h₁ (λ_ s₁' h₁'=>?_) λ_ _ h'=>h')
  refine FZ (JS h₁' (λ_ s₂ h₂=>FZ (JS h₂ (λok s₃ h₃=>?_) λ_ _ h'=>h')) λ_ _ h'=>h')
  cases ok with
  |false=>exact Gz ⟨rfl,h₃⟩
  |true =>
   exact FZ (FZ (JS h₃ (λx s₄ h₄=>FZ (JS h₄ (λ_ s₅ h₅=>Gz (Gz ⟨rfl,h₅⟩)) λ_ _ h'=>h')) λ_ _ h'=>h'))
section
variable  {X:Cx}
def tLc (wi:TI)(g:TG)(tt:TT)(te:TE)(vs:List Nat):TE:=λσ H Q=>wi σ H λJ H1=>∀D,H1 D=none->∃W:Nat->Nat->Hp->Prop,(∃m,W 0 m (upd H1 D (.lst [])))/\∀i m H,W i m H ->
 (J.stop i H/\Q (.ref D) H)\/(J.go i H/\∃Nx:Hp->Prop,(∀H',Nx H'->∃m',m'<m/\W (i+1) m' H')/\∀x H',J.yld i H x H'->g x (b6 σ vs) H' λσ2 H2=>b6 σ2 vs=b6 σ vs/\tt σ2 H2 λb H3 =>
  if b=true then te σ2 H3 λy H4=>∃acc,H4 D=some (.lst acc)/\acc.length<Ge/\Nx (upd H4 D (.lst (acc++[y]))) else Nx H3)
theorem uZ {pins:List (Gb×Obj)}{s:Ga}{σ:St}{H:Hp}{Q:VK}{elt tg aE:Expr}{ifs:List Expr}{scope:Scope}{own:List (Str×Nat)}{pos pos':Pos}{wi:TI}{g:TG}{tt:TT}{te:TE}{use:Option (Value->Sem Unit)}{Qf:Value->Ga->Prop}
  (hc:X.calm=true) (hN:X.N.Nodup) (I:Inv X pins σ H s) (hi:PI X tg aE wi) (ok:r8 X.N X.env.scope scope own)
  (hg:∀(s:Ga) (H:Hp) (C:Gb) (cl:List (Str×Gb)) (fp:List Gb),PG (X.blk s H scope (J4 scope cl C X.env) fp) tg g) (ht:∀(s:Ga) (H:Hp) (C:Gb) (cl:List (Str×Gb)) (fp:List Gb),PTs (X.blk s H scope (J4 scope cl C X.env) fp) ifs tt)
  (he:∀(s:Ga) (H:Hp) (C:Gb) (cl:List (Str×Gb)) (fp:List Gb),PE (X.blk s H scope (J4 scope cl C X.env) fp) elt te) (hs:∀x,foldedSetIterable aE X.env x=pure x)
  (h:tLc wi g tt te (own.map (·.2)) σ H Q)
  (hRR:∀D C s' m H',Inv X pins σ H' s'->Q (.ref D) H'->s'.heap.Ns C m->l4 X pins H' C->compPost (G4 X.prog X.w) X.A X.xe use Qf (.ref D) C (.ok .next) s') :
  GO (G4 X.prog X.w) X.A (comprehension (.ListComp elt [⟨tg,aE,ifs,0⟩] scope pos) scope X.env pos' (newList []) false (JZ aE X.env) use) Qf X.xe s:=by
 have hfree:∀y∈scope.names,y.2=.free->∃c,X.env.cells.lookup y.1=some c:=λy hy e=>by
  rcases ok.free y hy e with k|k
  ·exact I.ok.has _ (.inl k)
  ·exact I.ok.has _ (.inr k)
 refine wpAny_comprehension_free (use:=use) rfl hs (tE hfree) ok.kind (λy hy e=>by rw[ok.uniq y hy,e])
  (thn (hi pins s σ H _ I h) λxv s1 hx=>thn hx λitv s2 h2=>?_)
 obtain⟨it,fp,tn,J,H2,e,I2,T,st2,f2,q⟩:=h2
 subst e
 refine wpAny_newObj_type (sS ?_) (by show 0<=Ge;decide)
 generalize hD:s2.heap.objs.size=D
 have hDn:H2 D=none:=I2.hok.fresh (Nat.le_of_eq hD)
 obtain⟨W,⟨m0,w0⟩,turn⟩:=q D hDn
 generalize hs3:({ s2 with heap:=s2.heap.push { cls:=.type "list",data:=.seq ([]:List Value).toArray } }:Ga)=s3
 have I3:Inv X pins σ (upd H2 D (.lst [])) s3:=by
  rw[<-hs3]
  refine I2.laid (t':=s2.toks) (λb o e=>Gn _ e) (Nat.le_of_eq hD) ⟨Hj _,[],0,.nil,?_⟩
  rw[<-hD]
  exact GF _ rfl
 have h3:s3.heap=s2.heap.push { cls:=.type "list",data:=.seq ([]:List Value).toArray }:=by rw[<-hs3]
 have sz:∀b∈fp,b<s2.heap.objs.size:=λb hb=>by
  obtain⟨o,e,_⟩:=T.obj _ _ st2 b hb
  exact Gq e
 have f3:∀b∈fp,l4 X pins (upd H2 D (.lst [])) b/\b<s3.heap.objs.size:=λb hb=>by
  have hlt:=sz b hb
  refine⟨⟨?_,(f2 b hb).2⟩,by rw[h3,HC];exact JW hlt⟩
  rw[ap (by rw[<-hD];exact GW hlt)]
  exact(f2 b hb).1
 have st3:tn 0 s3.heap:=T.keep _ _ _ st2 λb _ o e=>by rw[h3];exact Gn _ e
 have I4:=rs I3 ok hN f3
 have pg:=hg s3 (upd H2 D (.lst [])) s3.heap.objs.size (Ie (s3.heap.objs.size+1) scope.names (bK X.env.cells scope.names [])) fp
 have pt:=ht s3 (upd H2 D (.lst [])) s3.heap.objs.size (Ie (s3.heap.objs.size+1) scope.names (bK X.env.cells scope.names [])) fp
 have pe:=he s3 (upd H2 D (.lst [])) s3.heap.objs.size (Ie (s3.heap.objs.size+1) scope.names (bK X.env.cells scope.names [])) fp
 show codeAny _ _ (.compStart (.ListComp elt [⟨tg,aE,ifs,0⟩] scope pos) 0 (.ref it) (.ref D) (J4 scope (Ie (s3.heap.objs.size+1) scope.names (bK X.env.cells scope.names [])) s3.heap.objs.size X.env)) (compPost (G4 X.prog X.w) X.A X.xe use Qf (.ref D) s3.heap.objs.size) { s3 with heap:=pushCells (s3.heap.push { cls:=.type "dict",data:=.dict #[] }) scope.names }
 have nfp:∀b∈fp,(upd H2 D (.lst [])) b=none:=λb hb=>(f3 b hb).1.1
 generalize hce:J4 scope (Ie (s3.heap.objs.size+1) scope.names (bK X.env.cells scope.names [])) s3.heap.objs.size X.env=ce at I4 pg pt pe ⊢
 have cL:ce.locals=s3.heap.objs.size:=by subst hce;rfl
 generalize hH3:upd H2 D (.lst [])=H3 at I3 I4 pg pt pe w0 nfp f3
 generalize hs4:({ s3 with heap:=pushCells (s3.heap.push { cls:=.type "dict",data:=.dict #[] }) scope.names }:Ga)=s4 at I4 ⊢
 have st4:tn 0 s4.heap:=T.keep _ _ _ st3 λb _ o e=>by rw[<-hs4];exact pushCells_keeps _ _ _ _ (Gn _ e)
 have stat:∀{σ':St} {H':Hp} {s':Ga},Inv (X.blk s3 H3 scope ce fp) [] σ' H' s'->(∀b∈fp,H' b=none)->∀b∈fp,l4 (X.blk s3 H3 scope ce fp) [] H' b:=λ{σ' H' s'} I' hn b hb =>
  ⟨hn b hb,(I'.ok.exf b hb).1,I'.ok.exfs b hb,.inl hb,λx c e=>(I'.ok.exf b hb).2 x c e,λp hp=>absurd (show p∈([]:List (Gb×Obj))++[] from hp) (by simp)⟩
 have loop:codeAny (G4 X.prog X.w) X.A (.compLoop (.ListComp elt [⟨tg,aE,ifs,0⟩] scope pos) 0 (.ref it) (.ref D) ce) (compPost (G4 X.prog X.w) X.A X.xe use Qf (.ref D) s3.heap.objs.size) s4:=by
  refine pW (λn s'=>∃i H',Inv (X.blk s3 H3 scope ce fp) [] (b6 σ (own.map (·.2))) H' s'/\tn i s'.heap/\(∀b∈fp,H' b=none)/\W i n H') ?_ m0 ⟨0,H3,I4,st4,nfp,w0⟩
  rintro n s5 ⟨i,H5,I5,st5,n5,w5⟩
  rcases turn i n H5 w5 with⟨stop,qq⟩|⟨go,Nx,hNx,step⟩
  ·have td:=T.done (X.blk s3 H3 scope ce fp) rfl rfl rfl hc i [] s5 _ H5 (λ_ _=>False) I5 (stat I5 n5) st5 stop
   refine wa td λr s6 ⟨hr,I6⟩=>?_
   subst hr
   have I7:Inv X pins σ H5 s6:=I3.call' (ch:=fp) I6.os I6.base I6.hok I6.bare λb hb=>⟨(f3 b hb).1.2.2.2.1,(f3 b hb).1.2.1,(f3 b hb).1.2.2.2.2.1,(f3 b hb).1.2.2.2.2.2⟩
   have nC:H5 s3.heap.objs.size=none:=by
    have z:H5 ce.locals=none:=I6.free
    rw[cL]at z
    exact z
   obtain⟨m,hn,_⟩:=I6.loc
   have hn:s6.heap.Ns ce.locals m:=hn
   rw[cL]at hn
   exact hRR D s3.heap.objs.size s6 m H5 I7 qq hn (I3.fpOk (nlr _) nC)
  ·have ti:=T.item (X.blk s3 H3 scope ce fp) rfl rfl rfl hc i [] s5 _ H5 (λ_ _=>False) I5 (stat I5 n5) st5 go
   refine wa ti λr s6 ⟨u,hr,h6⟩=>?_
   subst hr
   refine wa h6 λ_ s7 ⟨x,H7,I7,r7,y7,st7,n7⟩=>?_
   have I7':=I7.pinned (stat I7 n7) (T.obj _ _ st7)
   refine wa (pg _ s7 _ H7 x u _ I7' r7 (step x H7 y7)) λ_ s8 ⟨σ8,H8,I8,hw8,q8⟩=>?_
   refine wa (pt _ s8 σ8 H8 _ I8 q8) λb s9 ⟨H9,I9,q9⟩=>?_
   have fin:∀{s':Ga} {H':Hp},Inv (X.blk s3 H3 scope ce fp) ([]++mP fp s7.heap) σ8 H' s'->Nx H'->∃m,m<n/\∃i H',Inv (X.blk s3 H3 scope ce fp) [] (b6 σ (own.map (·.2))) H' s'/\tn i s'.heap/\(∀b∈fp,H' b=none)/\W i m H':=λ{s' H'} I' nx=>by
    obtain⟨m',hm,w'⟩:=hNx H' nx
    have pin':∀b∈fp,∀o,s7.heap.get? b=some o->s'.heap.get? b=some o/\H' b=none:=λb hb o e =>
     let z:=I'.pin (b,o) (HL _ (HL _ (jZ hb e)))
     ⟨z.1,z.2.1⟩
    have hl:(b6 σ (own.map (·.2))).length=σ8.length:=by rw[<-hw8,iT]
    refine⟨m',hm,i+1,H',(I'.unpinned (pins:=[])).weak hl (λj v e=>?_),T.keep _ _ _ st7 λb hb o e=>(pin' b hb o e).1,λb hb=>?_,w'⟩
    ·rw[<-hw8]at e
     exact(lj e).1
    ·obtain⟨o,e,_⟩:=T.obj _ _ st7 b hb
     exact(pin' b hb o e).2
   cases b with
   |false =>
    simp only[Bool.false_eq_true,JV]at q9 ⊢
    exact fin I9 q9
   |true =>
    simp only[if_true]at q9 ⊢
    refine wa (pe _ s9 σ8 H9 _ I9 q9) λz s10 ⟨yv,H10,I10,r10,acc,hD10,hz10,nx⟩=>?_
    exact Bv (X:=X.blk s3 H3 scope ce fp) I10 hD10 hz10 r10 λs11 I11=>fin I11 nx
 exact codeAny_compStart_list loop (T.self X.A 0 _ _ _ st4 loop)
theorem vb {elt tg aE:Expr}{ifs:List Expr}{scope:Scope}{own:List (Str×Nat)}{pos:Pos}{wi:TI}{g:TG}{tt:TT}{te:TE}(hc:X.calm=true)(hN:X.N.Nodup)(hi:PI X tg aE wi)(ok:r8 X.N X.env.scope scope own)
  (hg:∀(s:Ga) (H:Hp) (C:Gb) (cl:List (Str×Gb)) (fp:List Gb),PG (X.blk s H scope (J4 scope cl C X.env) fp) tg g) (ht:∀(s:Ga) (H:Hp) (C:Gb) (cl:List (Str×Gb)) (fp:List Gb),PTs (X.blk s H scope (J4 scope cl C X.env) fp) ifs tt)
  (he:∀(s:Ga) (H:Hp) (C:Gb) (cl:List (Str×Gb)) (fp:List Gb),PE (X.blk s H scope (J4 scope cl C X.env) fp) elt te) (hs:∀x,foldedSetIterable aE X.env x=pure x:=by intro _;rfl) :
  PE X (.ListComp elt [⟨tg,aE,ifs,0⟩] scope pos) (tLc wi g tt te (own.map (·.2))):=by
 intro pins s σ H Q I h
 rw[eval_ListComp]
 refine uZ hc hN I hi ok hg ht he hs h λD C s' m H' I' q hn f=>⟨m,hn,λh'' sb=>?_⟩
 obtain⟨f0,f1,f2,f3,f4,f5⟩:=f
 exact⟨.ref D,H',I'.turned (t':=s'.toks) (λb o hb e=>(sb.2 b hb).trans e) f0 f1 f3 f4 f5,rfl,q⟩
theorem bQ {i:Nat}{y:Str}{py:Pos}{elt tg aE:Expr}{ifs:List Expr}{scope:Scope}{own:List (Str×Nat)}{pos spos:Pos}{wi:TI}{g:TG}{tt:TT}{te:TE}(hc:X.calm=true)(hN:X.N.Nodup)(hy:X.N[i]? = some y)(hyl:X.env.scope.names.lookup y=some .local)
  (hsw:swapsWith (.ListComp elt [⟨tg,aE,ifs,0⟩] scope pos) (some (.Name y py)) spos.line X.env=pure true) (hi:PI X tg aE wi) (ok:r8 X.N X.env.scope scope own)
  (hg:∀(s:Ga) (H:Hp) (C:Gb) (cl:List (Str×Gb)) (fp:List Gb),PG (X.blk s H scope (J4 scope cl C X.env) fp) tg g) (ht:∀(s:Ga) (H:Hp) (C:Gb) (cl:List (Str×Gb)) (fp:List Gb),PTs (X.blk s H scope (J4 scope cl C X.env) fp) ifs tt)
  (he:∀(s:Ga) (H:Hp) (C:Gb) (cl:List (Str×Gb)) (fp:List Gb),PE (X.blk s H scope (J4 scope cl C X.env) fp) elt te) (hs:∀x,foldedSetIterable aE X.env x=pure x:=by intro _;rfl) :
  PS X (.Assign [.Name y py] (.ListComp elt [⟨tg,aE,ifs,0⟩] scope pos) spos) (BQ (tLc wi g tt te (own.map (·.2))) (pO i)):=by
 intro pins s σ H D I h
 rw[exec_Assign_Name_used _ _ _ _ hsw]
 refine FZ (wpAny_standAt (FZ ?_))
 show GO _ X.A (do let _ <-comprehension (.ListComp elt [⟨tg,aE,ifs,0⟩] scope pos) scope X.env (firstIterPos [⟨tg,aE,ifs,0⟩] pos) (newList []) false (JZ aE X.env) (some (assign (.Name y py) X.env))) _ _ s
 have h:tLc wi g tt te (own.map (·.2)) σ H (λx H1=>pO i x σ H1 D.nx):=h
 refine FZ (thn (uZ (Qf:=λ_ s'=>SP X pins D .next s') hc hN I hi ok hg ht he hs h λL C s' m H' I' q hn f=>?_) λ_ s' hq=>Gz (Gz hq))
 show GO _ _ (assign (.Name y py) X.env (.ref L)) _ _ _
 refine wpAny_assign_Name (store_ok2 (v:=V.ref L) I' hN hy (.inl hyl) rfl (λs2 I2 ⟨a,sb,ha⟩=>?_) (.inr hyl))
 obtain⟨f0,f1,f2,f3,f4,f5⟩:=f
 have haC:C≠a:=by
  rcases ha with z|z
  ·rw[z];exact f1
  ·exact λe=>f4 y a z e.symm
 refine⟨m,hn.sameBut sb haC,λh3 sb3=>?_⟩
 exact⟨_,H',I2.turned (t':=s2.toks) (λb o hb e=>(sb3.2 b hb).trans e) f0 f1 f3 f4 f5,q⟩
theorem cw {elt:Expr}{gs:List Comprehension}{scope:Scope}{pos py:Pos}{y:Str}{l:Nat}{env:Env}(hk:env.scope.kind=.function)(hy:env.scope.names.lookup y=some .local)(hl:(py.line==pos.line)=true)
  (ha:(scope.names.any λ(n,k)=>n==y&&(k==.local||k==.cell))=false):swapsWith (.ListComp elt gs scope pos) (some (.Name y py)) l env=pure true:=by
 have ky:env.kindOf y=some .local:=hy
 have hb:env.blockKind=.function:=by unfold Env.blockKind;rw[hk];rfl
 unfold swapsWith
 simp only[hb,ky,ha,Expr.pos,hl]
 rfl
end
theorem eV {K:Hq}{a:Gb}{xs:List V}{g:TG}{tt:TT}{te:TE}{vs:List Nat}{σ:St}{H1:Hp}{D:Gb}{Qd:Hp->Prop}(Pv:Nat->Hp->Prop)(h0:Pv 0 (upd H1 D (.lst [])))(hl:∀i H,i<=xs.length->Pv i H->SqL K H a xs)
  (hs:∀i x H,xs[i]? = some x->Pv i H->g x (b6 σ vs) H λσ2 H2=>b6 σ2 vs=b6 σ vs/\tt σ2 H2 λb H3 =>
   if b=true then te σ2 H3 λy H4=>∃acc,H4 D=some (.lst acc)/\acc.length<Ge/\Pv (i+1) (upd H4 D (.lst (acc++[y]))) else Pv (i+1) H3) (hd:∀H,Pv xs.length H->Qd H) :
  ∃W:Nat->Nat->Hp->Prop,(∃m,W 0 m (upd H1 D (.lst [])))/\∀i m H,W i m H ->
   ((Itl K a).stop i H/\Qd H)\/((Itl K a).go i H/\∃Nx:Hp->Prop,(∀H',Nx H'->∃m',m'<m/\W (i+1) m' H')/\∀x H',(Itl K a).yld i H x H'->g x (b6 σ vs) H' λσ2 H2=>b6 σ2 vs=b6 σ vs/\tt σ2 H2 λb H3 =>
    if b=true then te σ2 H3 λy H4=>∃acc,H4 D=some (.lst acc)/\acc.length<Ge/\Nx (upd H4 D (.lst (acc++[y]))) else Nx H3):=by
 refine⟨λi m H=>m=xs.length-i/\i<=xs.length/\Pv i H,⟨xs.length,by simp,Hj _,h0⟩,?_⟩
 rintro i m H ⟨rfl,hi,p⟩
 have q:=hl i H hi p
 by_cases hlt:i<xs.length
 ·refine .inr ⟨⟨xs,xs[i],q,by simp[hlt]⟩,Pv (i+1),λH' p'=>⟨xs.length-(i+1),by lia,rfl,hlt,p'⟩,λx H' y=>?_⟩
  obtain⟨e,y⟩:=y
  subst e
  exact hs i x _ (y xs q) p
 ·have e:i=xs.length:=by lia
  subst e
  exact .inl ⟨⟨xs,q,nlr _⟩,hd H p⟩
def fY (N:List Str)(sc scope:Scope)(own:List (Str×Nat)):Bool :=
 (match scope.kind with|.function=>true|_=>false)&&(scope.names.all λy=>decide (scope.names.lookup y.1=some y.2))&&(own.all λp=>decide (N[p.2]? = some p.1)) &&
  (scope.names.all λy=>match y.2 with
   |.free=>(match sc.names.lookup y.1 with|some .cell=>true|some .free=>true|_=>false)
   |.local=>decide (y.1∈own.map (·.1))||decide (y.1∉N)
   |.cell=>decide (y.1∈own.map (·.1))||decide (y.1∉N)
   |_=>true)
theorem bf {N:List Str}{sc scope:Scope}{own:List (Str×Nat)}(h:fY N sc scope own=true):r8 N sc scope own:=by
 unfold fY at h
 simp only[Gi,Hk,Gj]at h
 obtain⟨⟨⟨h1,h2⟩,h3⟩,h4⟩:=h
 refine⟨?_,h2,h3,λy hy e=>?_,λy hy e=>?_⟩
 ·split at h1
  ·assumption
  ·cases h1
 ·have q:=h4 y hy
  simp only[e]at q
  split at q<;>first|exact .inl (by assumption)|exact .inr (by assumption)|cases q
 ·have q:=h4 y hy
  rcases e with e|e<;>(simp only[e,Iz,Gj]at q;exact q)
end L2
namespace L2
open PySem PySem.Spec PyProof.Rows
section
variable  {prog:GQ}{w:HJ}{A:Around}{R:Result->Ga->Prop}{s:Ga}{elt t0 i0 t1 i1:Expr}{ifs0 ifs1:List Expr}{scope:Scope}{pos:Pos}{it acc:Value}{env:Env}
end
section
variable  {X:Cx}
end
end L2
namespace L2
open PySem PySem.Spec PyProof.Rows
section
variable  {κ:Type}[DecidableEq κ]
def fV (kvs:List (κ×V))(k:κ):Option V:=(kvs.find? λkv=>decide (kv.1=k)).map (·.2)
def iZ (kvs:List (κ×V))(k:κ)(v:V):List (κ×V) :=
 if (kvs.any λkv=>decide (kv.1=k))=true then kvs.map (λkv=>if kv.1=k then (kv.1,v) else kv) else kvs++[(k,v)]
theorem dq {p:κ×V}{r:List (κ×V)}{k:κ}(e:p.1=k):fV (p :: r) k=some p.2:=by simp[fV,IR,e]
theorem dE {p:κ×V}{r:List (κ×V)}{k:κ}(e:¬p.1=k):fV (p :: r) k=fV r k:=by simp[fV,IR,e]
theorem gD (k:κ):∀kvs:List (κ×V),(kvs.any λkv=>decide (kv.1=k))=(fV kvs k).isSome
 |[]=>rfl
 |p :: r=>by
  rw[List.any_cons]
  by_cases e:p.1=k
  ·simp only[dq e,dqt e,Kb,Option.isSome_some]
  ·rw[dE e,dqf e,Bool.false_or];exact gD k r
theorem rL (k j:κ)(y:V):∀kvs:List (κ×V),fV (kvs.map λkv=>if kv.1=k then (kv.1,y) else kv) j=(fV kvs j).map λx=>if j=k then y else x
 |[]=>rfl
 |p :: r=>by
  have ih:=rL k j y r
  rw[Gw]
  by_cases h:p.1=k
  ·rw[Gk h]
   by_cases e:p.1=j
   ·rw[dq (p:=(p.1,y)) e,dq e,Option.map_some,Gk (e.symm.trans h)]
   ·rw[dE (p:=(p.1,y)) e,dE e,ih]
  ·rw[Gf h]
   by_cases e:p.1=j
   ·rw[dq (p:=p) e,dq e,Option.map_some,Gf (λz=>h (e.trans z))]
   ·rw[dE (p:=p) e,dE e,ih]
theorem pP (k j:κ)(y:V):∀kvs:List (κ×V),fV kvs k=none->fV (kvs++[(k,y)]) j=if j=k then some y else fV kvs j
 |[],_=>by
  by_cases e:k=j
  ·rw[Gk e.symm];exact dq (p:=(k,y)) e
  ·rw[Gf (λz=>e z.symm)];exact dE (p:=(k,y)) e
 |p :: r,hn=>by
  rw[J5]
  have hk:¬p.1=k:=λz=>by rw[dq z]at hn;cases hn
  rw[dE hk]at hn
  have ih:=pP k j y r hn
  by_cases e:p.1=j
  ·rw[dq e,dq e,Gf (λz=>hk (e.trans z))]
  ·rw[dE e,dE e,ih]
theorem yH (kvs:List (κ×V))(k j:κ)(y:V):fV (iZ kvs k y) j=if j=k then some y else fV kvs j:=by
 unfold iZ
 by_cases a:(kvs.any λkv=>decide (kv.1=k))=true
 ·rw[Gk a,rL]
  rw[gD]at a
  by_cases e:j=k
  ·obtain⟨x,hx⟩:=Option.isSome_iff_exists.mp a
   rw[Gk e,e,hx,Option.map_some,Gk rfl]
  ·rw[Gf e]
   cases fV kvs j with
   |none=>rfl
   |some x=>rw[Option.map_some,Gf e]
 ·rw[Gf a]
  refine pP k j y kvs ?_
  rw[gD]at a
  cases q:fV kvs k with
  |none=>rfl
  |some x=>rw[q]at a;exact(a rfl).elim
theorem gq (kvs:List (κ×V))(k:κ)(v:V):(iZ kvs k v).length<=kvs.length+1:=by
 unfold iZ
 split
 ·rw[lmp];lia
 ·rw[Gd,GL,Jl];lia
theorem kG.isSome_eq {o:Option V}{u:Option Value}(r:kG o u):o.isSome=u.isSome:=by
 cases o with
 |none=>cases u with
  |none=>rfl
  |some _=>exact(show False from r).elim
 |some _=>cases u with
  |none=>exact(show False from r).elim
  |some _=>rfl
theorem KV.val {kvs:List (κ×V)}{vs:List (κ×Value)}(r:KV kvs vs)(k:κ):kG (fV kvs k) (valueAt vs k):=by
 unfold KV at r
 induction r with
 |nil=>exact True.intro
 |@cons p q ps qs h t ih =>
  obtain⟨h1,h2⟩:=h
  by_cases e:p.1=k
  ·have e':q.1=k:=h1.symm.trans e
   have b:valueAt (q :: qs) k=some q.2:=by simp[valueAt,IR,e']
   rw[dq e,b];exact h2
  ·have e':¬q.1=k:=λz=>e (h1.trans z)
   have b:valueAt (q :: qs) k=valueAt qs k:=by simp[valueAt,IR,e']
   rw[dE e,b];exact ih
theorem KV.any {kvs:List (κ×V)}{vs:List (κ×Value)}(r:KV kvs vs)(k:κ):(kvs.any λkv=>decide (kv.1=k))=vs.any λkv=>decide (kv.1=k):=by
 unfold KV at r
 induction r with
 |nil=>rfl
 |cons h t ih=>rw[List.any_cons,List.any_cons,ih,h.1]
theorem KV.repl {kvs:List (κ×V)}{vs:List (κ×Value)}(r:KV kvs vs)(k:κ){y:V}{u:Value}(ry:a5 y u) :
  KV (kvs.map λkv=>if kv.1=k then (kv.1,y) else kv) (vs.map λkv=>if kv.1=k then (kv.1,u) else kv):=by
 unfold KV at r ⊢
 induction r with
 |nil=>exact .nil
 |@cons p q ps qs h t ih =>
  rw[Gw,Gw]
  refine .cons ?_ ih
  obtain⟨h1,h2⟩:=h
  by_cases e:p.1=k
  ·rw[Gk e,Gk (h1.symm.trans e)];exact⟨h1,ry⟩
  ·rw[Gf e,Gf (λz=>e (h1.trans z))];exact⟨h1,h2⟩
theorem KV.put {kvs:List (κ×V)}{vs:List (κ×Value)}(r:KV kvs vs)(k:κ){y:V}{u:Value}(ry:a5 y u):KV (iZ kvs k y) (stored vs k u):=by
 unfold iZ stored
 rw[r.any k]
 by_cases e:(vs.any λkv=>decide (kv.1=k))=true
 ·rw[Gk e,Gk e];exact r.repl k ry
 ·rw[Gf e,Gf e];exact Paired.snoc r ⟨rfl,ry⟩
theorem KV.length {kvs:List (κ×V)}{vs:List (κ×Value)}(r:KV kvs vs):kvs.length=vs.length:=Paired.length r
end
theorem uj {P:GQ}{w:HJ}{k:Key}{u:Value}(r:a5 (kV k) u):(df P w).is k u=true:=by
 cases k with
 |inl i=>obtain⟨t,e⟩:=(show ∃t,u=Value.int i t from r);subst e;exact sW P w i t
 |inr x=>obtain⟨t,e⟩:=(show ∃t,u=Value.str x t from r);subst e;exact rh P w x t
theorem pf {P:GQ}{w:HJ}:∀{ks:List Key} {us:List Value},aS (ks.map kV) us->ItemsAre (df P w) ks us
 |[],_,r=>by rw[JH]at r;cases r;exact .nil
 |k :: ks,_,r=>by
  rw[Gw]at r
  cases r with
  |cons h t=>exact .cons (uj h) (pf t)
abbrev KT (H:Hp):List (List Key×V)->List (List Key×Gb×Value)->Prop:=Paired λp q=>p.1=q.1/\H q.2.1=some (.tup (p.1.map kV))/\a5 p.2 q.2.2
theorem KT.val {H:Hp}{kvs:List (List Key×V)}{xs:List (List Key×Gb×Value)}(r:KT H kvs xs)(k:List Key):kG (fV kvs k) ((atKey xs k).map (·.2)):=by
 induction r with
 |nil=>exact True.intro
 |@cons p q ps qs h t ih =>
  obtain⟨h1,_,h2⟩:=h
  by_cases e:p.1=k
  ·have e':q.1=k:=h1.symm.trans e
   have b:atKey (q :: qs) k=some q.2:=by simp[atKey,IR,e']
   rw[dq e,b];exact h2
  ·have e':¬q.1=k:=λz=>e (h1.trans z)
   have b:atKey (q :: qs) k=atKey qs k:=by simp[atKey,IR,e']
   rw[dE e,b];exact ih
theorem KT.repl {H:Hp}{kvs:List (List Key×V)}{xs:List (List Key×Gb×Value)}(r:KT H kvs xs)(k:List Key){y:V}{u:Value}(ry:a5 y u) :
  KT H (kvs.map λkv=>if kv.1=k then (kv.1,y) else kv) (xs.map (putAt k u)):=by
 induction r with
 |nil=>exact .nil
 |@cons p q ps qs h t ih =>
  rw[Gw,Gw]
  refine .cons ?_ ih
  obtain⟨h1,h2,h3⟩:=h
  unfold putAt
  by_cases e:p.1=k
  ·rw[Gk e,Gk (h1.symm.trans e)];exact⟨h1,h2,ry⟩
  ·rw[Gf e,Gf (λz=>e (h1.trans z))];exact⟨h1,h2,h3⟩
theorem KT.put {H:Hp}{kvs:List (List Key×V)}{xs:List (List Key×Gb×Value)}(r:KT H kvs xs)(k:List Key){b:Gb}{y:V}{u:Value}(hb:H b=some (.tup (k.map kV)))(ry:a5 y u) :
  KT H (iZ kvs k y) (storedH xs k b u):=by
 have e:(kvs.any λkv=>decide (kv.1=k))=(atKey xs k).isSome:=by
  rw[gD,(r.val k).isSome_eq,Option.isSome_map]
 unfold iZ storedH
 rw[e]
 by_cases q:(atKey xs k).isSome=true
 ·rw[Gk q,Gk q];exact r.repl k ry
 ·rw[Gf q,Gf q];exact Paired.snoc r ⟨rfl,hb,ry⟩
theorem KT.keeps {H H':Hp}{kvs:List (List Key×V)}{xs:List (List Key×Gb×Value)}(r:KT H kvs xs)(ht:∀b ys,H b=some (.tup ys)->H' b=some (.tup ys)):KT H' kvs xs :=
 Paired.mapP r λ_ _ z=>⟨z.1,ht _ _ z.2.1,z.2.2⟩
section
variable  {P:GQ}{w:HJ}{H:Hp}{h:Heap}{a:Gb}
theorem AS {u:HO}(ok:HOk P w H h)(e:Rd H a u):b9 P w H h a u:=e.ok ok
theorem uQ {kvs:List (Key×V)}(ok:HOk P w H h)(e:Rd H a (.dK kvs)):kvs.length<=Ge/\(a==IZ)=false/\∃vs,KV kvs vs/\h.DictOf (df P w) a vs :=
 show b9 P w H h a (.dK kvs) from AS ok e
theorem El {kvs:List (Key×V)}(ok:HOk P w H h)(e:H a=some (.dK kvs)):kvs.length<=Ge/\(a==IZ)=false/\∃vs,KV kvs vs/\h.DictOf (df P w) a vs:=uQ ok (.inl e)
theorem qz {ks:List Key}(ok:HOk P w H h)(e:H a=some (.tup (ks.map kV))):(tupleKind (df P w)).is h ks a:=by
 obtain⟨_,its,r,o,h1,h2,n,h3⟩:=(show b9 P w H h a (.tup (ks.map kV)) from ok a _ e)
 exact⟨o,its.toArray,n,h1,h2,h3,by simpa using pf r⟩
theorem xJ {kvs:List (List Key×V)}(ok:HOk P w H h)(e:Rd H a (.dT kvs)):kvs.length<=Ge/\(a==IZ)=false /\
  ∃xs,KT H kvs xs/\h.DictOfH (tupleKind (df P w)) a xs:=by
 obtain⟨z,y,xs,r,o,es,ep,h1,h2,h3,h4,h5⟩:=(show b9 P w H h a (.dT kvs) from AS ok e)
 refine⟨z,y,xs,r,o,es,ep,h1,h2,h3,h4,λx hx=>?_,h5⟩
 have all:∀{l:List (List Key×V)} {m:List (List Key×Gb×Value)},KT H l m->∀x∈m,(tupleKind (df P w)).is h x.1 x.2.1:=by
  intro l m q
  induction q with
  |nil=>intro x hx;exact nomatch hx
  |@cons p q ps qs hq t ih =>
   intro x hx
   rcases Gh.mp hx with e|hx
   ·subst e
    exact qz ok (by rw[<-hq.1];exact hq.2.1)
   ·exact ih x hx
 exact all r x hx
theorem Eo {kvs:List (List Key×V)}(ok:HOk P w H h)(e:H a=some (.dT kvs)):kvs.length<=Ge/\(a==IZ)=false /\
  ∃xs,KT H kvs xs/\h.DictOfH (tupleKind (df P w)) a xs:=xJ ok (.inl e)
end
def mD (H:Hp)(a:Gb)(y:V)(r:Option V):Prop :=
 (∃kvs k,Rd H a (.dK kvs)/\y=kV k/\r=fV kvs k)\/∃kvs k b,Rd H a (.dT kvs)/\y=.ref b/\H b=some (.tup (k.map kV))/\r=fV kvs k
def qF (H:Hp)(a:Gb)(y v:V)(H':Hp):Prop :=
 (∃kvs k,H a=some (.dK kvs)/\y=kV k/\kvs.length<Ge/\H'=upd H a (.dK (iZ kvs k v))) \/
 ∃kvs k b,H a=some (.dT kvs)/\y=.ref b/\H b=some (.tup (k.map kV))/\kvs.length<Ge/\H'=upd H a (.dT (iZ kvs k v))
theorem mD.k {H:Hp}{a:Gb}{kvs:List (Key×V)}{k:Key}(e:H a=some (.dK kvs)):mD H a (kV k) (fV kvs k):=.inl ⟨kvs,k,.inl e,rfl,rfl⟩
theorem mD.t {H:Hp}{a b:Gb}{kvs:List (List Key×V)}{k:List Key}(e:H a=some (.dT kvs))(eb:H b=some (.tup (k.map kV))):mD H a (.ref b) (fV kvs k):=.inr ⟨kvs,k,b,.inl e,rfl,eb,rfl⟩
theorem qF.k {H:Hp}{a:Gb}{kvs:List (Key×V)}{k:Key}{v:V}(e:H a=some (.dK kvs))(hl:kvs.length<Ge):qF H a (kV k) v (upd H a (.dK (iZ kvs k v))):=.inl ⟨kvs,k,e,rfl,hl,rfl⟩
theorem qF.t {H:Hp}{a b:Gb}{kvs:List (List Key×V)}{k:List Key}{v:V}(e:H a=some (.dT kvs))(eb:H b=some (.tup (k.map kV)))(hl:kvs.length<Ge) :
  qF H a (.ref b) v (upd H a (.dT (iZ kvs k v))):=.inr ⟨kvs,k,b,e,rfl,eb,hl,rfl⟩
section
variable  {X:Cx}{pins:List (Gb×Obj)}{σ:St}{H:Hp}{s:Ga}{a:Gb}{y v:V}{u r:Value}{o:Option V}{A:Around}{E:Value->Ga->Prop}
theorem Inv.big (I:Inv X pins σ H s):IZ<s.heap.objs.size:=by
 have h:GX<s.heap.objs.size:=(I.mod.glob.keeps I.bk).lt
 exact Nat.lt_trans (by decide) h
theorem E9 {Q:Value->Ga->Prop}(hu:A.units+1<cLine)(I:Inv X pins σ H s)(g:mD H a y o)(ry:a5 y u)(h:∀s',Inv X pins σ H s'->Q (.bool o.isSome) s') :
  GO (G4 X.prog X.w) A (HI .In u (.ref a)) Q E s:=by
 rcases g with⟨kvs,k,e,ey,l⟩|⟨kvs,k,b,e,ey,eb,l⟩
 ·subst ey
  obtain⟨z,hd,vs,rel,dd⟩:=uQ I.hok e
  refine wpAny_in_of (uj ry) hd dd.mapOf ?_
  rw[<-(rel.val k).isSome_eq,<-l]
  exact h _ (I.tok _)
 ·subst ey
  cases (show u=GZ b from ry)
  obtain⟨z,hd,xs,rel,dd⟩:=xJ I.hok e
  refine wpAny_in_heap (tupleKind_room_in1 hu) (qz I.hok eb) hd dd ?_
  have q:=(rel.val k).isSome_eq
  rw[Option.isSome_map]at q
  rw[<-q,<-l]
  exact h _ (I.tok _)
theorem Ak {Q:Value->Ga->Prop}(hu:A.units+1<cLine)(I:Inv X pins σ H s)(g:mD H a y o)(ry:a5 y u)(h:∀s',Inv X pins σ H s'->Q (.bool (!o.isSome)) s') :
  GO (G4 X.prog X.w) A (HI .NotIn u (.ref a)) Q E s:=by
 rcases g with⟨kvs,k,e,ey,l⟩|⟨kvs,k,b,e,ey,eb,l⟩
 ·subst ey
  obtain⟨z,hd,vs,rel,dd⟩:=uQ I.hok e
  refine wpAny_notIn_of (uj ry) hd dd.mapOf ?_
  rw[<-(rel.val k).isSome_eq,<-l]
  exact h _ (I.tok _)
 ·subst ey
  cases (show u=GZ b from ry)
  obtain⟨z,hd,xs,rel,dd⟩:=xJ I.hok e
  refine wpAny_notIn_heap (tupleKind_room_in1 hu) (qz I.hok eb) hd dd ?_
  have q:=(rel.val k).isSome_eq
  rw[Option.isSome_map]at q
  rw[<-q,<-l]
  exact h _ (I.tok _)
theorem vp {h':Heap}{t':Nat}{ob:HO}(I:Inv X pins σ H s)(mu:Mut (H a))(hs:Heap.SameBut a s.heap h')(he:∃q,h'.get? a=some q)(new:b9 X.prog X.w (upd H a ob) h' a ob) :
  Inv X pins σ (upd H a ob) { s with heap:=h',toks:=t' } :=
 I.write (x:=a) (e:=a) mu (.inl rfl) (λb q hb z=>(hs.2 b hb).trans z) he new
theorem BU {P:GQ}{w:HJ}{H':Hp}{h':Heap}{kvs:List (Key×V)}{vs:List (Key×Value)}(z:kvs.length<=Ge)(hd:(a==IZ)=false)(rel:KV kvs vs)(dd:h'.DictOf (df P w) a vs) :
  b9 P w H' h' a (.dK kvs):=⟨z,hd,vs,rel,dd⟩
theorem vK {H':Hp}{Q:Unit->Ga->Prop}(hu:A.units+1<cLine)(I:Inv X pins σ H s)(g:qF H a y v H')(ry:a5 y u)(rv:a5 v r)(h:∀s',Inv X pins σ H' s'->Q () s') :
  GO (G4 X.prog X.w) A (setItem (.ref a) u r) Q E s:=by
 rcases g with⟨kvs,k,e,ey,l,eH⟩|⟨kvs,k,b,e,ey,eb,l,eH⟩
 ·subst ey eH
  obtain⟨z,hd,vs,rel,dd⟩:=El I.hok e
  have hz:vs.length<=Ge:=by rw[<-rel.length];exact z
  have hl:(iZ kvs k v).length<=Ge:=by have:=gq kvs k v;lia
  refine wpAny_setItem_pairs (hsz:=hz) (uj ry) dd λh' dd' hs=>h _ ?_
  have he:∃q,h'.get? a=some q:=let ⟨q,_,_,hq,_⟩:=dd';⟨q,hq⟩
  exact vp I (by rw[e];exact True.intro) hs he (BU hl hd (rel.put k rv) dd')
 ·subst ey eH
  cases (show u=GZ b from ry)
  obtain⟨z,hd,xs,rel,dd⟩:=Eo I.hok e
  have hz:xs.length<=Ge:=by rw[<-Paired.length rel];exact z
  have hl:(iZ kvs k v).length<=Ge:=by have:=gq kvs k v;lia
  refine wpAny_setItem_heap (hsz:=hz) (tupleKind_room_in1 hu) (qz I.hok eb) dd λh' dd' hs=>h _ ?_
  obtain⟨q,es,ep,hq,h2,h3,h4,_,h5⟩:=dd'
  refine vp I (by rw[e];exact True.intro) hs ⟨q,hq⟩ ⟨hl,hd,_,(rel.put k eb rv).keeps λc ys ec=>?_,q,es,ep,hq,h2,h3,h4,h5⟩
  rw[ap (Es ec e (λz=>nomatch z))]
  exact ec
end
section
variable  {X:Cx}{pins:List (Gb×Obj)}{σ:St}{H:Hp}{s:Ga}{a:Gb}{kvs:List (Key×V)}{k:Key}{u:Value}{A:Around}{E:Value->Ga->Prop}
theorem EC {Q:Value->Ga->Prop}(I:Inv X pins σ H s)(e:Rd H a (.dK kvs))(h:∀t s',Inv X pins σ H s'->Q (.int kvs.length t) s'):GO (G4 X.prog X.w) A (call (.builtin "len") [.ref a]) Q E s:=by
 obtain⟨z,hd,vs,rel,dd⟩:=uQ I.hok e
 refine call_len_dict hd dd (by rw[<-rel.length];rw[sizeLine_eq]at z;lia) ?_
 rw[<-rel.length]
 exact h _ _ (I.tok _)
end
def Fy (ty td:TE):TE:=λσ H Q=>ty σ H λy H1=>td σ H1 λx H2=>∃a o,x=.ref a/\mD H2 a y o/\Q (.bl o.isSome) H2
def Aw (ty td:TE):TE:=λσ H Q=>ty σ H λy H1=>td σ H1 λx H2=>∃a o,x=.ref a/\mD H2 a y o/\Q (.bl (!o.isSome)) H2
def Ee (td ty tv:TE):TS:=λD σ H=>tv σ H λv H1=>td σ H1 λx H2=>ty σ H2 λy H3=>∃a H4,x=.ref a/\qF H3 a y v H4/\D.nx σ H4
section
variable  {X:Cx}{o i e value:Expr}{pos pos' tpos:Pos}{td ty tv:TE}
theorem BK (hu:X.A.units+1<cLine)(hi:PE X i ty)(ho:PE X o td):PC X .In i o (Fy ty td):=by
 intro pins s σ H Q I h
 refine thn (hi pins s σ H _ I h) λiv s1 ⟨y,H1,I1,ry,q1⟩=>thn (ho pins s1 σ H1 _ I1 q1) λu s2 ⟨x,H2,I2,rx,a,ov,ex,g,q2⟩=>?_
 subst ex
 obtain rfl:u=GZ a:=rx
 exact E9 hu I2 g ry λs3 I3=>⟨.bl ov.isSome,H2,I3,rfl,q2⟩
theorem pA (hu:X.A.units+1<cLine)(hi:PE X i ty)(ho:PE X o td):PC X .NotIn i o (Aw ty td):=by
 intro pins s σ H Q I h
 refine thn (hi pins s σ H _ I h) λiv s1 ⟨y,H1,I1,ry,q1⟩=>thn (ho pins s1 σ H1 _ I1 q1) λu s2 ⟨x,H2,I2,rx,a,ov,ex,g,q2⟩=>?_
 subst ex
 obtain rfl:u=GZ a:=rx
 exact Ak hu I2 g ry λs3 I3=>⟨.bl (!ov.isSome),H2,I3,rfl,q2⟩
theorem qg (hu:X.A.units+1<cLine)(ho:PE X o td)(hi:PE X i ty)(hv:PE X value tv)(hs:swapsWith value (some (.Subscript o i pos')) pos.line X.env=pure false) :
  PS X (.Assign [.Subscript o i pos'] value pos) (Ee td ty tv):=by
 intro pins s σ H D I h
 refine wpAny_Assign_Subscript (thn (hv pins s σ H _ I h) λr s1 ⟨v,H1,I1,rv,q1⟩=>thn (ho pins s1 σ H1 _ I1 q1) λu s2 ⟨x,H2,I2,rx,q2⟩=>thn (hi pins s2 σ H2 _ I2 q2) λiv s3 ⟨y,H3,I3,ry,a,H4,ex,g,q3⟩=>?_) hs
 subst ex
 obtain rfl:u=GZ a:=rx
 exact vK hu I3 g ry rv λs4 I4=>⟨σ,H4,I4,q3⟩
end
theorem xG {P:GQ}{w:HJ}{H:Hp}(h:Heap)(hb:IZ<h.objs.size):b9 P w H (h.push { cls:=.type "dict",data:=.dict #[] }) h.objs.size (.dK []) :=
 ⟨Hj _,HK.mpr (GJ (GW hb)),[],.nil,Heap.DictOf.new h⟩
theorem yF {P:GQ}{w:HJ}{H:Hp}(h:Heap)(hb:IZ<h.objs.size):b9 P w H (h.push { cls:=.type "dict",data:=.dict #[] }) h.objs.size (.dT []) :=
 ⟨Hj _,HK.mpr (GJ (GW hb)),[],.nil,_,#[],0,GF _ rfl,⟨rfl,rfl,rfl⟩,rfl,rfl,List.nodup_nil⟩
def B6:TE:=λ_ H Q=>∀p,H p=none->Q (.ref p) (upd H p (.dK []))
def B9:TE:=λ_ H Q=>∀p,H p=none->Q (.ref p) (upd H p (.dT []))
section
variable  {X:Cx}{pos:Pos}
theorem yD:PE X (.Dict [] [] pos) B6:=λpins s σ H Q I h =>
 wpAny_Dict_empty ⟨.ref s.heap.objs.size,_,I.laid (a:=s.heap.objs.size) (o:=.dK []) (t':=s.toks) (λ_ _ q=>Gn _ q) (nlr _) (xG s.heap I.big),rfl,h _ (I.hok.fresh (nlr _))⟩
theorem sI:PE X (.Dict [] [] pos) B9:=λpins s σ H Q I h =>
 wpAny_Dict_empty ⟨.ref s.heap.objs.size,_,I.laid (a:=s.heap.objs.size) (o:=.dT []) (t':=s.toks) (λ_ _ q=>Gn _ q) (nlr _) (yF s.heap I.big),rfl,h _ (I.hok.fresh (nlr _))⟩
end
structure M1 (X:Cx)(o:Expr)(m:Str)(apos:Pos)(e:Expr)(cpos:Pos):Prop where
 base:attributeBase o m X.env (JZ o X.env)=JZ o X.env
 few:((JC cpos (GM [e] X.env)).all (λx=>!x.1)&&(backToKw cpos (JF [] X.env)).all (λx=>x.1.isSome)
  &&decide (([e]:List Expr).length+([]:List Keyword).length+(if ([]:List Keyword).isEmpty then 0 else 1)<30))=true
 line:(apos.endLine==cpos.line)=true
 trees:JC cpos (GM [e] X.env)=[(false,JZ e X.env)]
structure M2 (X:Cx)(o:Expr)(m:Str)(apos:Pos)(e f:Expr)(cpos:Pos):Prop where
 base:attributeBase o m X.env (JZ o X.env)=JZ o X.env
 few:((JC cpos (GM [e,f] X.env)).all (λx=>!x.1)&&(backToKw cpos (JF [] X.env)).all (λx=>x.1.isSome)
  &&decide (([e,f]:List Expr).length+([]:List Keyword).length+(if ([]:List Keyword).isEmpty then 0 else 1)<30))=true
 line:(apos.endLine==cpos.line)=true
 trees:JC cpos (GM [e,f] X.env)=[(false,JZ e X.env),(false,JZ f X.env)]
section
variable  {X:Cx}{pins:List (Gb×Obj)}{σ:St}{H:Hp}{s:Ga}{a:Gb}{y d:V}{u r:Value}{o:Option V}{A:Around}{E:Value->Ga->Prop}
end
section
variable  {X:Cx}{o e f:Expr}{apos cpos:Pos}{td ty tx:TE}
end
section
variable  {X:Cx}{pins:List (Gb×Obj)}{σ:St}{H:Hp}{s:Ga}{a:Gb}{kvs:List (Key×V)}{A:Around}{E:Value->Ga->Prop}
end
section
variable  {X:Cx}{pins:List (Gb×Obj)}{σ:St}{H:Hp}{s:Ga}{a:Gb}{y:V}{u:Value}{A:Around}{E:Value->Ga->Prop}
end
end L2
namespace L2
open PySem PySem.Spec PyProof.Rows
section
variable  {prog:GQ}{w:HJ}{A:Around}{E:Value->Ga->Prop}
end
section
variable  {X:Cx}
end
end L2
namespace L2
open PySem PySem.Spec PyProof.Rows
theorem nJ:IM "reversed"=some (.type "reversed"):=by decide +kernel
section
variable  {X:Cx}{pins:List (Gb×Obj)}{σ:St}{H:Hp}{s:Ga}{h':Heap}
theorem Inv.turnedL {t':Nat}{ch:List Gb}(I:Inv X pins σ H s)(k:∀b o,b∉ch->s.heap.get? b=some o->h'.get? b=some o)(hf:∀b∈ch,l4 X pins H b):Inv X pins σ H { s with heap:=h',toks:=t' }:=by
 have nit:∀b u,H b=some u->b∉ch:=λb u e z=>by
  have q:=(hf b z).1
  rw[q]at e;cases e
 refine I.step (g':=s.gens) (d':=s.drawn) (ch:=ch) (λb hb=>⟨(hf b hb).2.2.2.1,(hf b hb).2.1,(hf b hb).2.2.2.2.1,(hf b hb).2.2.2.2.2⟩) (λb o _ _ hc e _=>k b o hc e) (λb o _ _ hc e _=>⟨o.slots,k b o hc e⟩)
  (λ_ _ _ _ n=>n) (λb o hc e=>⟨o,k b o hc e⟩) (λ_ _ e=>e) (λ_ _ _ e=>e) (λb ps e=>⟨#[],by rw[e];simp⟩) (λm hm=>?_) (λb u e=>?_) I.bare
 ·obtain⟨o,es,ep,ho,r⟩:=hm
  exact⟨o,es,ep,k _ o (λz=>(hf _ z).2.1 rfl) ho,r⟩
 ·refine(I.hok b u e).stay (λc v hc q=>k c v ?_ q) (λ_ q=>q) λ_ _ q=>q
  rcases hc with z|z
  ·rw[z];exact nit b u e
  ·exact nit c _ z
theorem Inv.turnedNew {t':Nat}{ch:List Gb}{T:Gb}{ob:HO}(I:Inv X pins σ H s)(k:∀b o,b∉ch->s.heap.get? b=some o->h'.get? b=some o)(hf:∀b∈ch,l4 X pins H b)(hT:s.heap.objs.size<=T)
  (new:b9 X.prog X.w (upd H T ob) h' T ob):Inv X pins σ (upd H T ob) { s with heap:=h',toks:=t' }:=by
 have hn:H T=none:=I.hok.fresh hT
 have nit:∀b u,H b=some u->b∉ch:=λb u e z=>by
  have q:=(hf b z).1
  rw[q]at e;cases e
 refine I.step (g':=s.gens) (d':=s.drawn) (ch:=ch) (λb hb=>⟨(hf b hb).2.2.2.1,(hf b hb).2.1,(hf b hb).2.2.2.2.1,(hf b hb).2.2.2.2.2⟩) (λb o _ _ hc e _=>k b o hc e) (λb o _ _ hc e _=>⟨o.slots,k b o hc e⟩)
  (λb o _ e n=>?_) (λb o hc e=>⟨o,k b o hc e⟩) (λb xs e=>?_) (λb o u e=>?_) (λb ps e=>⟨#[],?_⟩) (λm hm=>?_) (λb u e=>?_) I.bare
 ·rw[ap (GW (GD (Gq e) hT))];exact n
 ·rw[ap (aO e hn)];exact e
 ·rw[ap (aO e hn)];exact e
 ·rw[ap (aO e hn),e];simp
 ·obtain⟨o,es,ep,ho,r⟩:=hm
  exact⟨o,es,ep,k _ o (λz=>(hf _ z).2.1 rfl) ho,r⟩
 ·by_cases hb:b=T
  ·subst hb
   rw[ae]at e
   cases e
   exact new
  ·rw[ap hb]at e
   refine(I.hok b u e).stay (λc v hc q=>k c v ?_ q) (λc q=>by rw[ap (aO q hn)];exact q) λc xs q=>by rw[ap (aO q hn)];exact q
   rcases hc with z|z
   ·rw[z];exact nit b u e
   ·exact nit c _ z
theorem Inv.lock {d:Gb}{u:HO}(I:Inv X pins σ H s)(h:H d=some u)(mu:Mut (some u)):∃od,Inv X pins σ (upd H d (.frz od u)) s:=by
 have x:=I.hok d u h
 have ex:∃od,s.heap.get? d=some od:=by
  cases u with
  |lst xs=>obtain⟨_,_,_,_,e⟩:=x;exact⟨_,e⟩
  |dK kvs=>obtain⟨_,_,_,_,o,_,_,e,_⟩:=x;exact⟨o,e⟩
  |dT kvs=>obtain⟨_,_,_,_,o,_,_,e,_⟩:=x;exact⟨o,e⟩
  |set S n=>obtain⟨o,_,_,_,e,_⟩:=x;exact⟨o,e⟩
  |ins C dx fs=>obtain⟨_,_,_,e,_⟩:=x;exact⟨_,e⟩
  |ext φ=>obtain⟨_,⟨_,e⟩,_⟩:=x;exact⟨_,e⟩
  |_=>exact HV mu
 obtain⟨od,e⟩:=ex
 have new:b9 X.prog X.w (upd H d (.frz od u)) s.heap d (.frz od u):=by
  refine⟨e,x.stay (λb v _ q=>q) (λb q=>?_) λb xs q=>?_⟩
  ·rw[ap (λz=>by rw[z,h]at q;cases q;exact mu)];exact q
  ·rw[ap (λz=>by rw[z,h]at q;cases q;exact mu)];exact q
 exact⟨od,I.write (x:=d) (e:=d) (t':=s.toks) (h':=s.heap) (by rw[h];exact mu) (.inl rfl) (λb v _ q=>q) ⟨od,e⟩ new⟩
theorem Inv.nofrz {d:Gb}{u:HO}(I:Inv X pins σ H s)(h:H d=some u)(mu:Mut (some u)):∀o' u',X.H_0 d≠some (.frz o' u'):=λo' u' e=>by
 have q:=I.base.frzs d o' u' e
 rw[h]at q
 cases q
 exact mu
theorem Inv.unlock {d:Gb}{od:Obj}{u:HO}(I:Inv X pins σ H s)(h:H d=some (.frz od u))(hn:∀o' u',X.H_0 d≠some (.frz o' u')):Inv X pins σ (upd H d u) s:=by
 have neH:∀b o,H b=some o->(∀o' u',o≠.frz o' u')->b≠d:=λb o e hne z=>by
  rw[z,h]at e
  cases e
  exact hne _ _ rfl
 have neN:∀b,H b=none->b≠d:=λb e z=>by rw[z,h]at e;cases e
 refine⟨I.ok,I.os,I.bare,⟨I.base.keep,I.base.slot,λb o e n hx=>?_,I.base.there,λb xs e=>?_,λb o x e=>?_,λb ps e=>?_⟩,I.loc,I.cell,?_,λx c e=>?_,λp hp=>?_,λb o e=>?_,I.len⟩
 ·rw[ap (neN b (I.base.free b o e n hx))];exact I.base.free b o e n hx
 ·have q:=I.base.tups b xs e
  rw[ap (neH b _ q (λ_ _ z=>nomatch z))];exact q
 ·have q:=I.base.frzs b o x e
  rw[ap (λz=>by rw[z]at e;exact hn _ _ e)];exact q
 ·obtain⟨m,q⟩:=I.base.tbls b ps e
  exact⟨m,by rw[ap (neH b _ q (λ_ _ z=>nomatch z))];exact q⟩
 ·rw[ap (neN _ I.free)];exact I.free
 ·rw[ap (neN c (I.freeC x c e))];exact I.freeC x c e
 ·obtain⟨e,n,r⟩:=I.pin p hp
  exact⟨e,by rw[ap (neN _ n)];exact n,r⟩
 ·by_cases hb:b=d
  ·rw[hb,ae]at e
   cases e
   rw[hb]
   obtain⟨_,x⟩:=I.hok d _ h
   exact x.stay (λc v _ q=>q) (λc q=>by rw[ap (neH c _ q (λ_ _ z=>nomatch z))];exact q) λc xs q=>by rw[ap (neH c _ q (λ_ _ z=>nomatch z))];exact q
  ·rw[ap hb]at e
   exact(I.hok b o e).stay (λc v _ q=>q) (λc q=>by rw[ap (neH c _ q (λ_ _ z=>nomatch z))];exact q) λc xs q=>by rw[ap (neH c _ q (λ_ _ z=>nomatch z))];exact q
end
def Ca (t:TE):TE:=λσ H Q=>∃d u,H d=some u/\Mut (some u)/\∀od,t σ (upd H d (.frz od u)) λv H'=>H' d=some (.frz od u)/\Q v (upd H' d u)
section
variable  {X:Cx}
theorem zU {e:Expr}{t:TE}(h:PE X e t):PE X e (Ca t):=by
 intro pins s σ H Q I hw
 obtain⟨d,u,hd,mu,hw⟩:=hw
 obtain⟨od,I1⟩:=I.lock hd mu
 refine thn (h pins s σ _ _ I1 (hw od)) λv s1 ⟨x,H1,I2,r,e2,q⟩=>?_
 exact⟨x,_,I2.unlock e2 (I.nofrz hd mu),r,q⟩
theorem qj {tg:Expr}{pins:List (Gb×Obj)}{σ:St}{H:Hp}{s:Ga}{R:It->Hp->Prop}{J:It}{tn:Nat->Heap->Prop}{tk:Nat}(I:Inv X pins σ H s)(o:Obj)
  (T:nk X.prog X.w X.K tg J [s.heap.objs.size] s.heap.objs.size tn) (st:tn 0 (s.heap.push o)) (q:R J H):PIE X pins σ tg R (.ref s.heap.objs.size) { s with heap:=s.heap.push o,toks:=tk }:=by
 refine⟨s.heap.objs.size,[s.heap.objs.size],tn,J,H,rfl,I.kept λb ob e=>Gn _ e,T,st,λb hb=>?_,q⟩
 have e:b=s.heap.objs.size:=by simpa using hb
 subst e
 exact I.fpOk (nlr _) (I.hok.fresh (nlr _))
end
def Itc (lo c:Int)(n:Nat):It:=⟨λi _=>i<n,λi H x H'=>H'=H/\x=.int (lo+(i:Nat)*c),λi _=>n<=i⟩
theorem rK {P:GQ}{w:HJ}{K:Hq}{tg:Expr}(it:Gb)(lo c:Int)(n:Nat):nk P w K tg (Itc lo c n) [it] it (λi h=>IsRangeIter h it (lo+(i:Nat)*c) ((n:Int)-(i:Nat)) c) where
 mem:=by simp
 obj:=λi h st b hb=>by
  have e:b=it:=by simpa using hb
  subst e
  exact⟨_,st,λv z=>nomatch z⟩
 keep:=λi h h' st k=>k it (by simp) _ st
 item:=by
  intro X hP hw hK hc i pins s σ H E I hf st hg
  subst hP hw hK
  obtain⟨f0,f1,f2,f3,f4,f5⟩:=hf it (by simp)
  have W:=Walks.range (prog:=X.prog) (w:=X.w) (I.ok.hd hc) it lo c n
  refine W.item i s _ _ hg st λv h' tk hv st' kk=>?_
  obtain⟨t,rfl⟩:=hv
  have I1:Inv X pins σ H { s with heap:=h',toks:=tk }:=I.turned (λb o hb e=>kk b o (by simpa using hb) e) f0 f1 f3 f4 f5
  exact⟨_,rfl,mO (s:={ s with heap:=h',toks:=tk }) (n:="range_iterator") st' rfl rfl (by decide) ⟨.int (lo+(i:Nat)*c),H,I1,⟨t,rfl⟩,⟨rfl,rfl⟩,st',λb hb=>(hf b hb).1⟩⟩
 done:=by
  intro X hP hw hK hc i pins s σ H E I hf st hg
  subst hP hw hK
  obtain⟨f0,f1,f2,f3,f4,f5⟩:=hf it (by simp)
  exact wpAny_pyNext_range_end (I.ok.hd hc) st (by have:n<=i:=hg;lia) λh' eb=>⟨rfl,I.turned (t':=s.toks) (λb o hb e=>eb b o hb e) f0 f1 f3 f4 f5⟩
 self:=λA i s Q E st h=>wpAny_pyIter_rangeiter st h
def RgC (i j c:Int)(n:Nat):Prop:=c≠0/\c.natAbs<1073741824/\Builtin.Range.small i j c=true/\IL i j c=n
def DT (ta:TA):TI:=λσ H R=>ta σ H λvs H1=>∃(i j c:Int) (n:Nat),vs=[.int i,.int j,.int c]/\RgC i j c n/\R (Itc i c n) H1
section
variable  {X:Cx}{tg:Expr}
theorem k9 {a b c:Expr}{ta:TA}{p pos:Pos} (hg:Gl X "range") (hm:X.mg "range"=none) (ha:PA X [a,b,c] ta)
  (hs:GM [a,b,c] X.env=(false,JZ a X.env) :: GM [b,c] X.env:=by rfl) (hpl:(JC pos (GM [b,c] X.env)).any (·.1)=false:=by rfl) :
  PI X tg (.Call (.Name "range" p) [a,b,c] [] pos) (DT ta):=by
 intro pins s σ H R I h
 refine Call_ (gy I hg hm boot_range (G7 (thn (ha pos pins s σ H _ I h) λus s1 ⟨vs,H1,I1,r1,q1⟩=>?_) hs hpl))
 obtain⟨i,j,k,n,e,⟨c0,c1,c2,c3⟩,q⟩:=q1
 subst e
 cases r1 with
 |cons r rr =>
  cases rr with
  |cons r' rr =>
   cases rr with
   |cons r'' rr =>
    cases rr
    obtain⟨t,rfl⟩:=r
    obtain⟨t',rfl⟩:=r'
    obtain⟨t'',rfl⟩:=r''
    refine call_range_3 c0 ?_ (.inl (PyProof.noPylong_small c1))
    refine wpAny_pyIter_range (IsRange.new ..) c2 ?_
    have I2:Inv X pins σ H1 { s1 with heap:=s1.heap.push { cls:=.type "range",data:=.fields #[.int i t,.int j t',.int k t''] } }:=I1.kept (t':=s1.toks) λb o e=>Gn _ e
    refine qj (tk:=s1.toks) I2 _ (rK _ i k n) ?_ q
    have e1:i+((0:Nat):Int)*k=i:=by simp
    have e2:(n:Int)-((0:Nat):Int)=IL i j k:=by rw[c3];simp
    show IsRangeIter _ _ (i+((0:Nat):Int)*k) ((n:Int)-((0:Nat):Int)) k
    rw[e1,e2]
    exact GF _ rfl
end
def Itv (K:Hq)(a:Gb)(n:Nat):It :=
 ⟨λi H=>i<n/\∃(xs:List V) (x:V),SqL K H a xs/\xs[n-1-i]? = some x,λi H x H'=>H'=H/\∀xs,SqL K H a xs->xs[n-1-i]? = some x,λi _=>n<=i⟩
theorem ya {P:GQ}{w:HJ}{K:Hq}{tg:Expr}(a it:Gb)(n:Nat):nk P w K tg (Itv K a n) [it] it (λi h=>i<=n/\h.IsRevIter it a ((n:Int)-1-(i:Nat))) where
 mem:=by simp
 obj:=λi h st b hb=>by
  have e:b=it:=by simpa using hb
  subst e
  obtain⟨_,o,e,c,d⟩:=st
  exact⟨o,e,λv z=>by rw[d]at z;cases z⟩
 keep:=λi h h' st k=>⟨st.1,st.2.at λo e=>k it (by simp) o e⟩
 item:=by
  intro X hP hw hK hc i pins s σ H E I hf st hg
  subst hP hw hK
  obtain⟨hin,xs,x,hq,hx⟩:=hg
  obtain⟨its,rv,p,hz⟩:=I.list hq
  obtain⟨u,hu,ru⟩:=rv.get hx
  obtain⟨f0,f1,f2,f3,f4,f5⟩:=hf it (by simp)
  obtain⟨_,hit⟩:=st
  have e1:(n:Int)-1-((i:Nat):Int)=((n-1-i:Nat):Int):=by lia
  rw[e1]at hit
  refine wpAny_pyNext_rev_item hit p.isList (x:=u) (by simpa using hu) λh' st' sb=>?_
  have e2:((n-1-i:Nat):Int)-1=(n:Int)-1-((i+1:Nat):Int):=by lia
  rw[e2]at st'
  have I1:Inv X pins σ H { s with heap:=h' }:=I.turned (t':=s.toks) (λb o hb e=>(sb.2 b hb).trans e) f0 f1 f3 f4 f5
  obtain⟨o,e,c,d⟩:=id st'
  exact⟨u,rfl,mO (s:={ s with heap:=h' }) e c d (by decide) ⟨x,H,I1,ru,⟨rfl,λys hy=>by rw[I.list_inj hy hq];exact hx⟩,⟨hin,st'⟩,λb hb=>(hf b hb).1⟩⟩
 done:=by
  intro X hP hw hK hc i pins s σ H E I hf st hg
  subst hP hw hK
  obtain⟨f0,f1,f2,f3,f4,f5⟩:=hf it (by simp)
  obtain⟨hin,hit⟩:=st
  have hge:n<=i:=hg
  have e1:(n:Int)-1-((i:Nat):Int)=-1:=by lia
  rw[e1]at hit
  exact wpAny_pyNext_rev_end (I.ok.hd hc) hit λh' eb=>⟨rfl,I.turned (t':=s.toks) (λb o hb e=>eb b o hb e) f0 f1 f3 f4 f5⟩
 self:=λA i s Q E st h=>wpAny_pyIter_revIter st.2 h
def Fv (K:Hq)(ta:TA):TI:=λσ H R=>ta σ H λvs H1=>∃(a:Gb) (xs:List V),vs=[.ref a]/\SqL K H1 a xs/\R (Itv K a xs.length) H1
section
variable  {X:Cx}{tg:Expr}
theorem rO {e:Expr}{ta:TA}{p pos:Pos} (hg:Gl X "reversed") (hm:X.mg "reversed"=none) (ha:PA X [e] ta) (hs:GM [e] X.env=[(false,JZ e X.env)]:=by rfl):PI X tg (.Call (.Name "reversed" p) [e] [] pos) (Fv X.K ta):=by
 intro pins s σ H R I h
 refine Call_ (gy I hg hm nJ (G7 (thn (ha pos pins s σ H _ I h) λus s1 ⟨vs,H1,I1,r1,q1⟩=>?_) hs rfl))
 obtain⟨a,xs,e,hq,q⟩:=q1
 subst e
 cases r1 with
 |cons r rr =>
  cases rr
  cases r
  obtain⟨its,rv,p',hz⟩:=I1.list hq
  have hl:=rv.length
  have e1:((its.toArray.size:Nat):Int)-1=(xs.length:Int)-1-((0:Nat):Int):=by simp only[Gm];lia
  refine call_reversed_list p'.isList (wpAny_pyIter_revIter (l:=a) (i:=((its.toArray.size:Nat):Int)-1) ⟨_,GF _ rfl,rfl,rfl⟩ ?_)
  refine qj (tk:=s1.toks) I1 _ (ya a _ xs.length) ⟨Hj _,?_⟩ q
  rw[<-e1]
  exact⟨_,GF _ rfl,rfl,rfl⟩
end
section
variable  {prog:GQ}{w:HJ}{A:Around}{E:Value->Ga->Prop}{s:Ga}
theorem pU {d:Gb}{o:Obj}{es:Array DictEntry}{ep:Nat}{Q:Value->Ga->Prop}(hd:(d==IZ)=false)(ho:s.heap.get? d=some o)(hc:o.ExactDict)(hdat:o.data=.dict es ep)
  (hQ:Q (.ref s.heap.objs.size) { s with heap:=s.heap.push { cls:=.type "dict_keyiterator",data:=.fields #[.ref d,.int 0 0,.int es.size 0,.int ep 0] } }) :
  GO (G4 prog w) A (pyIter (.ref d)) Q E s:=by
 have hT:s.TypeIs (.ref d) "dict":=⟨o,ho,hc.1⟩
 refine wpAny_pyIter_slot hT F.slot_dict_iter (Jw F.slot_dict_iter hT F.entry_dict_iter ?_ (F.args_dict_iter_1 _))
 unfold Builtin.«dict.__iter__»
 refine FZ ?_
 unfold Builtin.Dict.dictSlotNone
 refine FZ (wpAny_notOrdered_dict hT ?_)
 show GO _ _ (pure (GZ d)) _ _ s
 refine Gz ?_
 show GO _ _ (Builtin.Dict.showsAll d >>= _) _ _ s
 unfold Builtin.Dict.showsAll
 rw[Gf (by rw[hd];exact Go)]
 refine FZ (Gz ?_)
 refine FZ (wpAny_dictEntries ho hdat ?_)
 refine FZ (wpAny_dictEpoch ho hdat ?_)
 refine FZ (wpAny_newObj_type (Gz ⟨_,rfl,"dict_keyiterator",_,⟨_,GF _ rfl,rfl⟩,F.slot_dict_keyiterator_next.lookup,?_⟩))
 simpa [rawInt] using hQ
theorem oH {it d:Gb}{i n ep:Nat}{od:Obj}{es:Array DictEntry}{en:DictEntry}{Q:Option Value->Ga->Prop}(hit:s.heap.IsKeyIter it d i n ep)(hod:s.heap.get? d=some od)(hdd:od.data=.dict es ep)
  (hsz:es.size=n) (hx:es[i]? = some en) (hQ:∀h',h'.IsKeyIter it d (i+1) n ep->Heap.SameBut it s.heap h'->Q (some en.key) { s with heap:=h' }):GO (G4 prog w) A (pyNext (.ref it)) Q E s:=by
 obtain⟨o,ho,hc,hd⟩:=id hit
 unfold pyNext
 refine FZ (wpAny_attempt (Ju (name:=Str.ofString "__next__") hit.typeIs F.slot_dict_keyiterator_next
  (Jw F.slot_dict_keyiterator_next hit.typeIs F.entry_dict_keyiterator_next ?_ (F.args_dict_keyiterator_next_1 _))))
 refine FZ (Gz ?_)
 refine FZ ?_
 refine FZ ?_
 first|refine FZ (IG hit.typeIs (Gz ?_))|refine FZ (Jm hit.typeIs (Gz ?_))
 refine FZ (wpAny_fieldsOf ho hd ?_)
 have hown:Builtin.Dict_items.ownsTuple "dict_keyiterator"=false:=by decide
 simp only[hown,Bool.false_eq_true,JV]
 show GO _ _ (if (GZ d==JR)=true then _ else _) _ _ s
 rw[Gf (show ¬((GZ d==JR)=true) from Go)]
 refine FZ (Gz ?_)
 refine FZ (wpAny_dictEntries hod hdd ?_)
 rw[Gf (by rw[hsz];simp)]
 refine FZ (Gz ?_)
 refine FZ (wpAny_dictEpoch hod hdd ?_)
 rw[Gf (by simp)]
 refine Gz ?_
 obtain⟨hlt',hen⟩:=Array.getElem?_eq_some_iff.mp hx
 simp only[show ¬((i:Int)<0) from by lia,JV,HD,J3 hlt']
 refine FZ ?_
 first|refine FZ (IG hit.typeIs (Gz ?_))|refine FZ (Jm hit.typeIs (Gz ?_))
 refine FZ (wpAny_isOneOf_keyiter hit.typeIs ?_)
 show GO _ _ (setField (.ref it) 1 (rawInt ((i:Int)+1)) >>= _) _ _ s
 refine FZ (wpAny_setField ho hd (by simp) ?_)
 have hit':(s.heap.update it (Obj.mapFields (·.setIfInBounds 1 (rawInt ((i:Int)+1))))).IsKeyIter it d (i+1) n ep :=
  ⟨_,Iy _ ho (Obj.isFreed_of_fields (Obj.data_mapFields hd _)),(Obj.cls_mapFields ..).trans hc,by rw[Obj.data_mapFields hd];simp[rawInt]⟩
 refine FZ (wpAny_holding ?_)
 refine FZ (wpAny_isOneOf_keyiter (s:={ s with heap:=s.heap.update it (Obj.mapFields (·.setIfInBounds 1 (rawInt ((i:Int)+1)))) }) hit'.typeIs ?_)
 show GO _ _ (pure es[i].key) _ _ _
 rw[hen]
 exact Gz (Gz ⟨_,rfl,Gz (hQ _ hit' (Heap.SameBut.update ..))⟩)
theorem j6 {it d:Gb}{i n ep:Nat}{od:Obj}{es:Array DictEntry}{Q:Option Value->Ga->Prop}(hh:A.handled=none)(hit:s.heap.IsKeyIter it d i n ep)(hod:s.heap.get? d=some od)(hdd:od.data=.dict es ep)
  (hsz:es.size=n) (hge:n<=i) (hQ:∀h',Heap.ExtBut it s.heap h'->Q none { s with heap:=h' }):GO (G4 prog w) A (pyNext (.ref it)) Q E s:=by
 obtain⟨o,ho,hc,hd⟩:=id hit
 unfold pyNext
 refine FZ (wpAny_attempt (Ju (name:=Str.ofString "__next__") hit.typeIs F.slot_dict_keyiterator_next
  (Jw F.slot_dict_keyiterator_next hit.typeIs F.entry_dict_keyiterator_next ?_ (F.args_dict_keyiterator_next_1 _))))
 refine FZ (Gz ?_)
 refine FZ ?_
 refine FZ ?_
 first|refine FZ (IG hit.typeIs (Gz ?_))|refine FZ (Jm hit.typeIs (Gz ?_))
 refine FZ (wpAny_fieldsOf ho hd ?_)
 have hown:Builtin.Dict_items.ownsTuple "dict_keyiterator"=false:=by decide
 simp only[hown,Bool.false_eq_true,JV]
 show GO _ _ (if (GZ d==JR)=true then _ else _) _ _ s
 rw[Gf (show ¬((GZ d==JR)=true) from Go)]
 refine FZ (Gz ?_)
 refine FZ (wpAny_dictEntries hod hdd ?_)
 rw[Gf (by rw[hsz];simp)]
 refine FZ (Gz ?_)
 refine FZ (wpAny_dictEpoch hod hdd ?_)
 rw[Gf (by simp)]
 refine Gz ?_
 have hge':es.size<=i:=by rw[hsz];exact hge
 simp only[show ¬((i:Int)<0) from by lia,JV,HD,Array.getElem?_eq_none hge']
 refine FZ ?_
 first|refine FZ (IG hit.typeIs (Gz ?_))|refine FZ (Jm hit.typeIs (Gz ?_))
 show GO _ _ (setField (.ref it) 0 .none >>= _) _ _ s
 refine FZ (wpAny_setField ho hd (by simp) ?_)
 show GO _ _ (newExc (.type "StopIteration") [] >>= _) _ _ _
 refine FZ ?_
 simp only[newExc,newTuple]
 refine FZ (wpAny_newObj_type ?_ (by size_fits))
 refine FZ (m:=firstArgMember _ _) (wpAny_of_eq (a:=JR) (by first|rfl|(simp only[firstArgMember];rfl)) ?_)
 refine wpAny_newObj_type ?_ (by size_fits)
 simp only[raiseNew]
 refine FZ (wpAny_handled ?_)
 rw[show A.in1.handled=none from hh]
 refine FZ (Gz (wpAny_throw ?_))
 refine FZ (wpAny_isInstance (T:="StopIteration") (b:=true) ⟨_,GF _ rfl,rfl⟩ isSubtype_stop ?_)
 exact Gz (hQ _ (((Heap.SameBut.update ..).extBut.push _).push _))
end
theorem Bi {κ:Type}{kvs:List (κ×V)}{vs:List (κ×Value)}(h:KV kvs vs):∀{i:Nat} {k:κ} {v:V},kvs[i]? = some (k,v)->∃u,vs[i]? = some (k,u)/\a5 v u:=by
 unfold KV at h
 induction h with
 |nil=>intro i k v e;simp at e
 |@cons a b l₁ l₂ r t ih =>
  intro i k v e
  cases i with
  |zero =>
   simp only[List.getElem?_cons_zero,Option.some.injEq]at e
   subst e
   refine⟨b.2,?_,r.2⟩
   simp only[List.getElem?_cons_zero]
   exact Ia some (Prod.ext r.1.symm rfl)
  |succ j =>
   simp only[List.getElem?_cons_succ]at e ⊢
   exact ih e
theorem tQ {α β:Type}{G:α->β->Prop}{l₁:List α}{l₂:List β}(h:Paired G l₁ l₂):∀{i:Nat} {a:α},l₁[i]? = some a->∃b,l₂[i]? = some b/\G a b:=by
 induction h with
 |nil=>intro i a e;simp at e
 |@cons a b l₁ l₂ r t ih =>
  intro i a' e
  cases i with
  |zero =>
   simp only[List.getElem?_cons_zero,Option.some.injEq]at e
   subst e
   exact⟨b,rfl,r⟩
  |succ j =>
   simp only[List.getElem?_cons_succ]at e ⊢
   exact ih e
theorem xr {k:Key}{u:Value}(h:lL k u=true):a5 (kV k) u:=by
 rcases bU h with⟨i,t,rfl,rfl⟩|⟨x,t,rfl,rfl⟩
 ·exact⟨t,rfl⟩
 ·exact⟨t,rfl⟩
section
variable  {X:Cx}{pins:List (Gb×Obj)}{σ:St}{H:Hp}{s:Ga}{d:Gb}{o:Obj}
theorem Inv.frzK {kvs:List (Key×V)}(I:Inv X pins σ H s)(h:H d=some (.frz o (.dK kvs))) :
  (d==IZ)=false/\s.heap.get? d=some o/\o.ExactDict/\∃(es:Array DictEntry) (ep:Nat) (vs:List (Key×Value)),o.data=.dict es ep/\es.size=kvs.length/\KV kvs vs/\s.heap.DictAt (df X.prog X.w) d vs ep:=by
 obtain⟨hd,z,hs,vs,kv,o',es,ep,ho,hx,hdt,r⟩:=I.hok d _ h
 rw[hd]at ho
 cases ho
 refine⟨hs,hd,hx,es,ep,vs,hdt,?_,kv,o,es,hd,hx,hdt,r⟩
 have l1:=r.2.1.length
 have l2:kvs.length=vs.length:=Paired.length kv
 rw[Jr]at l1
 lia
theorem Inv.frzT {kvs:List (List Key×V)}(I:Inv X pins σ H s)(h:H d=some (.frz o (.dT kvs))) :
  (d==IZ)=false/\s.heap.get? d=some o/\o.ExactDict/\∃(es:Array DictEntry) (ep:Nat),o.data=.dict es ep/\es.size=kvs.length /\
   ∀(i:Nat) (k:List Key) (v:V),kvs[i]? = some (k,v)->∃(en:DictEntry) (q:Gb),es[i]? = some en/\en.key=.ref q/\H q=some (.tup (k.map kV)):=by
 obtain⟨hd,z,hs,xs,pr,o',es,ep,ho,hx,hdt,he,_⟩:=I.hok d _ h
 rw[hd]at ho
 cases ho
 refine⟨hs,hd,hx,es,ep,hdt,?_,λi k v e=>?_⟩
 ·have l1:es.size=xs.length:=size_of_entries he
  have l2:kvs.length=xs.length:=Paired.length pr
  lia
 ·obtain⟨b,hb,e1,e2,_⟩:=tQ pr e
  have q:=entry_at he i
  rw[hb]at q
  exact⟨_,b.2.1,q,rfl,e2⟩
end
def Itk (d:Gb)(o:Obj)(kvs:List (Key×V)):It :=
 ⟨λi H=>H d=some (.frz o (.dK kvs))/\i<kvs.length,λi H x H'=>H'=H/\∃k v,kvs[i]? = some (k,v)/\x=kV k,λi H=>H d=some (.frz o (.dK kvs))/\kvs.length<=i⟩
def Dh (d:Gb)(o:Obj)(kvs:List (List Key×V)):It :=
 ⟨λi H=>H d=some (.frz o (.dT kvs))/\i<kvs.length,λi H x H'=>H'=H/\∃(k:List Key) (v:V) (q:Gb),kvs[i]? = some (k,v)/\x=.ref q/\H q=some (.tup (k.map kV)),λi H=>H d=some (.frz o (.dT kvs))/\kvs.length<=i⟩
theorem mw {o:Obj}{es es':Array DictEntry}{ep ep':Nat}(h:o.data=.dict es ep)(h':o.data=.dict es' ep'):es'=es/\ep'=ep:=by
 rw[h]at h'
 cases h'
 exact⟨rfl,rfl⟩
section
variable  {P:GQ}{w:HJ}{K:Hq}{tg:Expr}{d:Gb}{o:Obj}{es:Array DictEntry}{ep:Nat}
theorem wH {kvs:List (Key×V)}(it:Gb)(hod:o.data=.dict es ep):nk P w K tg (Itk d o kvs) [it] it (λi h=>h.IsKeyIter it d i kvs.length ep) where
 mem:=by simp
 obj:=λi h st b hb=>by
  have e:b=it:=by simpa using hb
  subst e
  obtain⟨oi,e,c,dd⟩:=st
  exact⟨oi,e,λv z=>by rw[dd]at z;cases z⟩
 keep:=λi h h' st k=>st.at λoi e=>k it (by simp) oi e
 item:=by
  intro X hP hw hK hc i pins s σ H E I hf st hg
  subst hP hw hK
  obtain⟨hd,hi⟩:=hg
  obtain⟨f0,f1,f2,f3,f4,f5⟩:=hf it (by simp)
  obtain⟨hs,hgd,hx,es',ep',vs,hdt,hsz,kv,hm⟩:=I.frzK hd
  obtain⟨rfl,rfl⟩:=mw hod hdt
  obtain⟨⟨k,v⟩,hkv⟩:∃p,kvs[i]? = some p:=⟨kvs[i],gge hi⟩
  obtain⟨u,hu,ru⟩:=Bi kv hkv
  have hl:kvs.length=vs.length:=Paired.length kv
  rw[hl]at st
  refine wpAny_pyNext_dict_item st hm hu λkey h' hkey st' sb=>?_
  have I1:Inv X pins σ H { s with heap:=h' }:=I.turned (t':=s.toks) (λb ob hb e=>(sb.2 b hb).trans e) f0 f1 f3 f4 f5
  obtain⟨oi,e,c,dd⟩:=id st'
  refine⟨key,rfl,mO (s:={ s with heap:=h' }) e c dd (by decide) ⟨kV k,H,I1,xr (show lL k key=true from hkey),⟨rfl,k,v,hkv,rfl⟩,?_,λb hb=>(hf b hb).1⟩⟩
  show h'.IsKeyIter it d (i+1) kvs.length _
  rw[hl]
  exact st'
 done:=by
  intro X hP hw hK hc i pins s σ H E I hf st hg
  subst hP hw hK
  obtain⟨hd,hi⟩:=hg
  obtain⟨f0,f1,f2,f3,f4,f5⟩:=hf it (by simp)
  obtain⟨hs,hgd,hx,es',ep',vs,hdt,hsz,kv,hm⟩:=I.frzK hd
  obtain⟨rfl,rfl⟩:=mw hod hdt
  exact j6 (I.ok.hd hc) st hgd hdt hsz hi λh' eb=>⟨rfl,I.turned (t':=s.toks) (λb ob hb e=>eb b ob hb e) f0 f1 f3 f4 f5⟩
 self:=λA i s Q E st h=>wpAny_pyIter_keyiter st h
theorem tL {kvs:List (List Key×V)}(it:Gb)(hod:o.data=.dict es ep):nk P w K tg (Dh d o kvs) [it] it (λi h=>h.IsKeyIter it d i kvs.length ep) where
 mem:=by simp
 obj:=λi h st b hb=>by
  have e:b=it:=by simpa using hb
  subst e
  obtain⟨oi,e,c,dd⟩:=st
  exact⟨oi,e,λv z=>by rw[dd]at z;cases z⟩
 keep:=λi h h' st k=>st.at λoi e=>k it (by simp) oi e
 item:=by
  intro X hP hw hK hc i pins s σ H E I hf st hg
  subst hP hw hK
  obtain⟨hd,hi⟩:=hg
  obtain⟨f0,f1,f2,f3,f4,f5⟩:=hf it (by simp)
  obtain⟨hs,hgd,hx,es',ep',hdt,hsz,ent⟩:=I.frzT hd
  obtain⟨rfl,rfl⟩:=mw hod hdt
  obtain⟨⟨k,v⟩,hkv⟩:∃p,kvs[i]? = some p:=⟨kvs[i],gge hi⟩
  obtain⟨en,q,hen,hkey,hq⟩:=ent i k v hkv
  refine oH st hgd hdt hsz hen λh' st' sb=>?_
  have I1:Inv X pins σ H { s with heap:=h' }:=I.turned (t':=s.toks) (λb ob hb e=>(sb.2 b hb).trans e) f0 f1 f3 f4 f5
  obtain⟨oi,e,c,dd⟩:=id st'
  exact⟨en.key,rfl,mO (s:={ s with heap:=h' }) e c dd (by decide) ⟨.ref q,H,I1,hkey,⟨rfl,k,v,q,hkv,rfl,hq⟩,st',λb hb=>(hf b hb).1⟩⟩
 done:=by
  intro X hP hw hK hc i pins s σ H E I hf st hg
  subst hP hw hK
  obtain⟨hd,hi⟩:=hg
  obtain⟨f0,f1,f2,f3,f4,f5⟩:=hf it (by simp)
  obtain⟨hs,hgd,hx,es',ep',hdt,hsz,ent⟩:=I.frzT hd
  obtain⟨rfl,rfl⟩:=mw hod hdt
  exact j6 (I.ok.hd hc) st hgd hdt hsz hi λh' eb=>⟨rfl,I.turned (t':=s.toks) (λb ob hb e=>eb b ob hb e) f0 f1 f3 f4 f5⟩
 self:=λA i s Q E st h=>by
  refine wpAny_pyIter_slot st.typeIs F.slot_dict_keyiterator_iter (Jw F.slot_dict_keyiterator_iter st.typeIs F.entry_dict_keyiterator_iter ?_ (F.args_dict_keyiterator_iter_1 _))
  show GO _ _ (ret (.ref it)) _ _ s
  exact Gz ⟨_,rfl,"dict_keyiterator",_,st.typeIs,F.slot_dict_keyiterator_next.lookup,h⟩
end
def CB (td:TE):TI:=λσ H R=>td σ H λx H1=>∃d o,x=.ref d/\((∃kvs,H1 d=some (.frz o (.dK kvs))/\R (Itk d o kvs) H1)\/∃kvs,H1 d=some (.frz o (.dT kvs))/\R (Dh d o kvs) H1)
section
variable  {X:Cx}{tg e:Expr}{td:TE}{apos cpos:Pos}
theorem Aj (he:PE X e td):PI X tg e (CB td):=by
 intro pins s σ H R I h
 refine thn (he pins s σ H _ I h) λu s1 ⟨x,H1,I1,rx,d,o,ex,q⟩=>?_
 subst ex
 obtain rfl:u=GZ d:=rx
 rcases q with⟨kvs,hd,q⟩|⟨kvs,hd,q⟩
 ·obtain⟨hs,hgd,hx,es,ep,vs,hdt,hsz,kv,hm⟩:=I1.frzK hd
  refine pU hs hgd hx hdt (qj (tk:=s1.toks) I1 _ (wH _ hdt) ⟨_,GF _ rfl,rfl,?_⟩ q)
  rw[hsz]<;>rfl
 ·obtain⟨hs,hgd,hx,es,ep,hdt,hsz,ent⟩:=I1.frzT hd
  refine pU hs hgd hx hdt (qj (tk:=s1.toks) I1 _ (tL _ hdt) ⟨_,GF _ rfl,rfl,?_⟩ q)
  rw[hsz]<;>rfl
end
def Ite (K:Hq)(a:Gb):It :=
 ⟨λi H=>∃(xs:List V) (x:V),SqL K H a xs/\xs[i]? = some x,λi H v H'=>∃T x,v=.ref T/\H T=none/\H'=upd H T (.tup [.int (i:Nat),x])/\∀xs,SqL K H a xs->xs[i]? = some x,λi H=>∃xs:List V,SqL K H a xs/\xs.length<=i⟩
theorem vM {P:GQ}{w:HJ}{K:Hq}{elts:List Expr}{kk:Nat}{tpos:Pos}(a e it:Gb) :
  nk P w K (.Tuple elts kk tpos) (Ite K a) [e,it] e (λi h=>(∃old,IsEnum h e it ((i:Nat):Int) old)/\h.IsListIter it a i/\e≠it) where
 mem:=by simp
 obj:=λi h st b hb=>by
  obtain⟨⟨old,he⟩,⟨o,ho,hc,hd⟩,_⟩:=st
  have e':b=e\/b=it:=by simpa using hb
  rcases e' with z|z
  ·rw[z];exact⟨_,he,λv q=>nomatch q⟩
  ·rw[z];exact⟨o,ho,λv q=>by rw[hd]at q;cases q⟩
 keep:=λi h h' st k=>let ⟨⟨old,he⟩,hi,hne⟩:=st;⟨⟨old,k e (by simp) _ he⟩,hi.at λo q=>k it (by simp) o q,hne⟩
 item:=by
  intro X hP hw hK hc i pins s σ H E I hf st hg
  subst hP hw hK
  obtain⟨⟨old,he⟩,hit,hne⟩:=st
  obtain⟨xs,x,hq,hx⟩:=hg
  obtain⟨its,rv,p,hz⟩:=I.list hq
  obtain⟨u,hu,ru⟩:=rv.get hx
  have hel:e<s.heap.objs.size:=Gq he
  have hil:it<s.heap.objs.size:=by obtain⟨_,q,_⟩:=hit;exact Gq q
  refine wpAny_pyNext_enum_item he hit p.isList (x:=u) (by simpa using hu) hne λh' ho hit' hT hsz hk=>?_
  refine⟨_,rfl,wpAny_letOwnedTupleGo_enum (s:={ s with heap:=h',toks:=s.toks+1 }) ho λh'' he' sb=>?_⟩
  have hT2:h''.get? s.heap.objs.size=some { cls:=.type "tuple",data:=.seq #[.int i s.toks,u] }:=(sb.2 _ (Ix hel)).trans hT
  have new:b9 X.prog X.w (upd H s.heap.objs.size (.tup [.int (i:Nat),x])) h'' s.heap.objs.size (.tup [.int (i:Nat),x]) :=
   ⟨by show 2<=Ge;decide,[.int i s.toks,u],.cons ⟨_,rfl⟩ (.cons ru .nil),⟨_,hT2,rfl,_,rfl⟩⟩
  have I1:Inv X pins σ (upd H s.heap.objs.size (.tup [.int (i:Nat),x])) { s with heap:=h'',toks:=s.toks+1 } :=
   I.turnedNew (ch:=[e,it]) (λb ob hb q=>(sb.2 b (λz=>hb (by simp[z]))).trans (hk b ob (λz=>hb (by simp[z])) (λz=>hb (by simp[z])) q)) hf (nlr _) new
  refine⟨.ref s.heap.objs.size,_,I1,rfl,⟨_,x,rfl,I.hok.fresh (nlr _),rfl,λys hy=>by rw[I.list_inj hy hq];exact hx⟩,⟨⟨u,?_⟩,hit'.at λo q=>(sb.2 it (GJ hne)).trans q,hne⟩,λb hb=>?_⟩
  ·have e1:((i+1:Nat):Int)=(i:Int)+1:=by lia
   rw[e1];exact he'
  ·have hb':b<s.heap.objs.size:=by
    have e':b=e\/b=it:=by simpa using hb
    rcases e' with z|z
    ·rw[z];exact hel
    ·rw[z];exact hil
   rw[ap (GW hb')]
   exact(hf b hb).1
 done:=by
  intro X hP hw hK hc i pins s σ H E I hf st hg
  subst hP hw hK
  obtain⟨⟨old,he⟩,hit,hne⟩:=st
  obtain⟨xs,hq,hx⟩:=hg
  obtain⟨its,rv,p,hz⟩:=I.list hq
  obtain⟨f0,f1,f2,f3,f4,f5⟩:=hf it (by simp)
  have hl:=rv.length
  exact wpAny_pyNext_enum_end (I.ok.hd hc) he hit p.isList (by simp;lia) λh' eb=>⟨rfl,I.turned (t':=s.toks) (λb o hb q=>eb b o hb q) f0 f1 f3 f4 f5⟩
 self:=λA i s Q E st h=>let ⟨⟨_,he⟩,_⟩:=st;wpAny_pyIter_enum he h
def CL (K:Hq)(ta:TA):TI:=λσ H R=>ta σ H λvs H1=>∃a xs,vs=[.ref a]/\SqL K H1 a xs/\R (Ite K a) H1
theorem d5 {X:Cx}{e:Expr}{ta:TA}{p pos tpos:Pos}{elts:List Expr}{kk:Nat} (hg:Gl X "enumerate") (hm:X.mg "enumerate"=none) (ha:PA X [e] ta) (hs:GM [e] X.env=[(false,JZ e X.env)]:=by rfl) :
  PI X (.Tuple elts kk tpos) (.Call (.Name "enumerate" p) [e] [] pos) (CL X.K ta):=by
 intro pins s σ H R I h
 refine Call_ (gy I hg hm boot_enumerate (G7 (thn (ha pos pins s σ H _ I h) λus s1 ⟨vs,H1,I1,r1,q1⟩=>?_) hs rfl))
 obtain⟨a,xs,ex,hq,q⟩:=q1
 subst ex
 cases r1 with
 |cons r rr =>
  cases rr
  cases r
  obtain⟨its,rv,p',hz⟩:=I1.list hq
  refine call_enumerate_list p'.isList λh' he hit hsz hk=>wpAny_pyIter_enum he ?_
  have I2:Inv X pins σ H1 { s1 with heap:=h' }:=I1.kept (t':=s1.toks) hk
  refine⟨s1.heap.objs.size+1,[s1.heap.objs.size+1,s1.heap.objs.size],_,_,H1,rfl,I2,vM a (s1.heap.objs.size+1) s1.heap.objs.size,⟨⟨.none,he⟩,hit,Nat.succ_ne_self _⟩,λb hb=>?_,q⟩
  have e':b=s1.heap.objs.size+1\/b=s1.heap.objs.size:=by simpa using hb
  have hle:s1.heap.objs.size<=b:=by
   rcases e' with z|z
   ·rw[z];exact HS _ _
   ·rw[z];exact nlr _
  exact I1.fpOk hle (I1.hok.fresh hle)
theorem wK:IM "zip"=some (.type "zip"):=by decide +kernel
def Itz (K:Hq)(a b:Gb):It :=
 ⟨λi H=>∃(xs ys:List V) (x y:V),SqL K H a xs/\SqL K H b ys/\xs[i]? = some x/\ys[i]? = some y,
  λi H v H'=>∃T x y,v=.ref T/\H T=none/\H'=upd H T (.tup [x,y])/\(∀xs,SqL K H a xs->xs[i]? = some x)/\∀ys,SqL K H b ys->ys[i]? = some y,
  λi H=>∃xs ys:List V,SqL K H a xs/\SqL K H b ys/\(xs.length<=i\/ys.length<=i)⟩
theorem yi {P:GQ}{w:HJ}{K:Hq}{elts:List Expr}{kk:Nat}{tpos:Pos}{a b z TI TO i1 i2:Gb}(D:ZipApart z TI TO i1 i2 a b) :
  nk P w K (.Tuple elts kk tpos) (Itz K a b) [z,TI,TO,i1,i2] z (λi h=>IsZip h z TI TO .none/\IsPair h TI (.ref i1) (.ref i2)/\(∃x y,IsPair h TO x y)/\h.IsListIter i1 a i/\h.IsListIter i2 b i) where
 mem:=by simp
 obj:=λi h st c hc=>by
  obtain⟨hz,hTI,⟨x,y,hTO⟩,⟨o1,e1,_,d1⟩,⟨o2,e2,_,d2⟩⟩:=st
  have e':c=z\/c=TI\/c=TO\/c=i1\/c=i2:=by simpa using hc
  rcases e' with q|q|q|q|q
  ·rw[q];exact⟨_,hz,λv q=>nomatch q⟩
  ·rw[q];exact⟨_,hTI,λv q=>nomatch q⟩
  ·rw[q];exact⟨_,hTO,λv q=>nomatch q⟩
  ·rw[q];exact⟨o1,e1,λv q=>by rw[d1]at q;cases q⟩
  ·rw[q];exact⟨o2,e2,λv q=>by rw[d2]at q;cases q⟩
 keep:=λi h h' st k=>by
  obtain⟨hz,hTI,⟨x,y,hTO⟩,h1,h2⟩:=st
  exact⟨k z (by simp) _ hz,k TI (by simp) _ hTI,⟨x,y,k TO (by simp) _ hTO⟩,h1.at λo q=>k i1 (by simp) o q,h2.at λo q=>k i2 (by simp) o q⟩
 item:=by
  intro X hP hw hK hc i pins s σ H E I hf st hg
  subst hP hw hK
  obtain⟨hz,hTI,⟨x0,y0,hTO⟩,h1,h2⟩:=st
  obtain⟨xs,ys,x,y,hqx,hqy,hx,hy⟩:=hg
  obtain⟨its,rv,p,_⟩:=I.list hqx
  obtain⟨its2,rv2,p2,_⟩:=I.list hqy
  obtain⟨u,hu,ru⟩:=rv.get hx
  obtain⟨u2,hu2,ru2⟩:=rv2.get hy
  have hzl:z<s.heap.objs.size:=Gq hz
  refine wpAny_pyNext_zip_item D hz hTI hTO h1 h2 p.isList p2.isList (x:=u) (y:=u2) (by simpa using hu) (by simpa using hu2) λh' z' TO' h1' h2' hT hsz hk=>?_
  refine⟨_,rfl,wpAny_letOwnedTupleGo_zip (s:={ s with heap:=h' }) z' λh'' z'' sb=>?_⟩
  have hT2:h''.get? s.heap.objs.size=some { cls:=.type "tuple",data:=.seq #[u,u2] }:=(sb.2 _ (Ix hzl)).trans hT
  have new:b9 X.prog X.w (upd H s.heap.objs.size (.tup [x,y])) h'' s.heap.objs.size (.tup [x,y]) :=
   ⟨by show 2<=Ge;decide,[u,u2],.cons ru (.cons ru2 .nil),⟨_,hT2,rfl,_,rfl⟩⟩
  have I1:Inv X pins σ (upd H s.heap.objs.size (.tup [x,y])) { s with heap:=h'' } :=
   I.turnedNew (t':=s.toks) (ch:=[z,TI,TO,i1,i2]) (λc o hb q=>(sb.2 c (λq'=>hb (by simp[q']))).trans (hk c o (λq'=>hb (by simp[q'])) (λq'=>hb (by simp[q'])) (λq'=>hb (by simp[q'])) (λq'=>hb (by simp[q'])) q)) hf (nlr _) new
  refine⟨.ref s.heap.objs.size,_,I1,rfl,⟨_,x,y,rfl,I.hok.fresh (nlr _),rfl,λl hl=>by rw[I.list_inj hl hqx];exact hx,λl hl=>by rw[I.list_inj hl hqy];exact hy⟩,⟨z'',?_,⟨u,u2,?_⟩,?_,?_⟩,λc hcm=>?_⟩
  ·exact(sb.2 _ D.TIz).trans (hk _ _ D.TIz D.TITO D.TIi1 D.TIi2 hTI)
  ·exact(sb.2 _ D.TOz).trans TO'
  ·exact h1'.at λo q=>(sb.2 _ D.i1z).trans q
  ·exact h2'.at λo q=>(sb.2 _ D.i2z).trans q
  ·have hlt:c<s.heap.objs.size:=by
    have e':c=z\/c=TI\/c=TO\/c=i1\/c=i2:=by simpa using hcm
    rcases e' with q|q|q|q|q
    ·rw[q];exact hzl
    ·rw[q];exact Gq hTI
    ·rw[q];exact Gq hTO
    ·rw[q];obtain⟨_,e1,_⟩:=h1;exact Gq e1
    ·rw[q];obtain⟨_,e2,_⟩:=h2;exact Gq e2
   rw[ap (GW hlt)]
   exact(hf c hcm).1
 done:=by
  intro X hP hw hK hc i pins s σ H E I hf st hg
  subst hP hw hK
  obtain⟨hz,hTI,⟨x0,y0,hTO⟩,h1,h2⟩:=st
  obtain⟨xs,ys,hqx,hqy,hend⟩:=hg
  obtain⟨its,rv,p,_⟩:=I.list hqx
  obtain⟨its2,rv2,p2,_⟩:=I.list hqy
  have l1:=rv.length
  have l2:=rv2.length
  have he:its.toArray[i]? = none\/its2.toArray[i]? = none:=by
   rcases hend with q|q
   ·exact .inl (by simp;lia)
   ·exact .inr (by simp;lia)
  exact wpAny_pyNext_zip_end (I.ok.hd hc) D hz hTI hTO h1 h2 p.isList p2.isList he λh' hk=>⟨rfl,I.turnedL (t':=s.toks) (ch:=[z,TI,TO,i1,i2]) (λc o hb q =>
   hk c o (λq'=>hb (by simp[q'])) (λq'=>hb (by simp[q'])) (λq'=>hb (by simp[q'])) (λq'=>hb (by simp[q'])) q) hf⟩
 self:=λA i s Q E st h=>wpAny_pyIter_zip st.1 h
def FK (K:Hq)(ta:TA):TI:=λσ H R=>ta σ H λvs H1=>∃a b xs ys,vs=[.ref a,.ref b]/\SqL K H1 a xs/\SqL K H1 b ys/\R (Itz K a b) H1
theorem t9 {X:Cx}{e e2:Expr}{ta:TA}{p pos tpos:Pos}{elts:List Expr}{kk:Nat} (hg:Gl X "zip") (hm:X.mg "zip"=none) (ha:PA X [e,e2] ta)
  (hs:GM [e,e2] X.env=(false,JZ e X.env) :: GM [e2] X.env:=by rfl) (hpl:(JC pos (GM [e2] X.env)).any (·.1)=false:=by rfl) :
  PI X (.Tuple elts kk tpos) (.Call (.Name "zip" p) [e,e2] [] pos) (FK X.K ta):=by
 intro pins s σ H R I h
 refine Call_ (gy I hg hm wK (G7 (thn (ha pos pins s σ H _ I h) λus s1 ⟨vs,H1,I1,r1,q1⟩=>?_) hs hpl))
 obtain⟨a,b,xs,ys,ex,hqx,hqy,q⟩:=q1
 subst ex
 cases r1 with
 |cons r rr =>
  cases rr with
  |cons r' rr =>
   cases rr
   cases r
   cases r'
   obtain⟨its,rv,p1,_⟩:=I1.list hqx
   obtain⟨its2,rv2,p2,_⟩:=I1.list hqy
   have la:a<s1.heap.objs.size:=p1.lt
   have lb:b<s1.heap.objs.size:=p2.lt
   refine call_zip_2 p1.isList p2.isList λh' hz hTI hTO h1 h2 hsz hk=>wpAny_pyIter_zip hz ?_
   have I2:Inv X pins σ H1 { s1 with heap:=h' }:=I1.kept (t':=s1.toks) hk
   refine⟨s1.heap.objs.size+4,[s1.heap.objs.size+4,s1.heap.objs.size+2,s1.heap.objs.size+3,s1.heap.objs.size,s1.heap.objs.size+1],_,_,H1,rfl,I2,yi (PySem.W.ktu_apart s1.heap.objs.size a b la lb),⟨hz,hTI,⟨_,_,hTO⟩,h1,h2⟩,λc hcm=>?_,q⟩
   have e':c=s1.heap.objs.size+4\/c=s1.heap.objs.size+2\/c=s1.heap.objs.size+3\/c=s1.heap.objs.size\/c=s1.heap.objs.size+1:=by simpa using hcm
   have hle:s1.heap.objs.size<=c:=by
    rcases e' with z|z|z|z|z
    ·rw[z];exact HS _ _
    ·rw[z];exact HS _ _
    ·rw[z];exact HS _ _
    ·rw[z];exact nlr _
    ·rw[z];exact HS _ _
   exact I1.fpOk hle (I1.hok.fresh hle)
end L2
section
namespace Bits
open PySem PyProof.Rows
end Bits
end
section
namespace TL
open PySem PySem.Builtin PySem.Builtin.Str PySem.StrLaws
abbrev tl (x:Str):List Nat:=x.cps.toList
def pre (S l:List Nat):Bool:=l.take S.length==S
def par (S:List Nat):List Nat->List Nat->Option (List Nat×List Nat)
 |_,[]=>none
 |acc,c :: r=>if pre S (c :: r)=true then some (acc,(c :: r).drop S.length) else par S (acc++[c]) r
end TL
end
namespace L2
open PySem PySem.Spec PyProof.Rows
section
variable  {X:Cx}{pins:List (Gb×Obj)}{σ:St}{H:Hp}{s:Ga}{Q:VK}
end
section
variable  {X:Cx}
end
section
variable  {X:Cx}{o e:Expr}{to te:TE}
end
end L2
namespace L2
open PySem PySem.Spec PyProof.Rows
section
variable  {X:Cx}
end
end L2
namespace Att
open PySem PySem.W PySem.Calls PyProof.Rows
section
variable  {prog:GQ}{w:HJ}{A:Around}{E:Value->Ga->Prop}{s:Ga}{K:Hq}
end
end Att
namespace L2
open PySem PySem.Spec PyProof.Rows
theorem oJ:∀{vs:List Value} {ns:List Int},JB vs ns->aS (ns.map V.int) vs
 |_,_,.nil=>.nil
 |_,_,.cons n t h=>.cons ⟨t,rfl⟩ (oJ h)
def DU (H:Hp):Prop:=∀b,H b=none\/∃o xs,H b=some (.frz o (.lst xs))
theorem DJ {P:GQ}{w:HJ}{K:Hq}{mg mb:Str->Option Value}{CX:CXT}{k:Nat}{fa a:Gb}{fd:JU}{x:Str}{sp:Sp}{s₁:Ga}{vs:List Value}{ns:List Int}
  (KX:K.In s₁.heap) (hns:s₁.heap.Ns GX mg) (hb:s₁.heap.Ns builtinsNs mb) (hbb:∀x:Str,x≠"__name__"->mb x=IM x) (hlim:s₁.heap.NoLimit) (hg:s₁.gens=#[])
  (ha:s₁.heap.get? a=some { cls:=.type "list",data:=.seq vs.toArray }) (hi:JB vs ns) (hl:ns.length<=Ge) (hr:br k callerA)
  (F:∀base:Heap,K.In base->base.Ns GX mg->jh P w K mg base CX k fa fd [x] sp) (hbind:∀(s:Ga) (u:Value),BindsTo s fd ⟨[u],[]⟩ [(x,u)])
  (hsp:∀H:Hp,DU H->SqL K H a (ns.map V.int)->sp [.ref a] H (λv _=>v=.bl true) λ_ _ _=>False)
  (hCX:∀H e s',CX [] H s₁ (λ_ _ _=>False) e s'->False) :
  codeAny (G4 P w) callerA (.call (.ref fa) ⟨[.ref a],[]⟩) (λr s'=>r=.ok (.ret (.bool true))/\OldK s₁.heap s'.heap/\s'.os=s₁.os/\AllBare s'.gens) s₁:=by
 have rv:=oJ hi
 have lenV:=hi.length
 have wQ:∀H:Hp,DU H->SqL K H a (ns.map V.int)->HOk P w H s₁.heap->(∀b,H b≠none->b=a)->(H a≠none->K.lookup a=none) ->
   codeAny (G4 P w) callerA (.call (.ref fa) ⟨[.ref a],[]⟩) (λr s'=>r=.ok (.ret (.bool true))/\OldK s₁.heap s'.heap/\s'.os=s₁.os/\AllBare s'.gens) s₁:=by
  intro H hO hS hok hA hK
  have base_of:∀{b:Gb} {o:Obj},s₁.heap.get? b=some o->H b=none->(kE s₁.heap H).get? b=some o:=λe n=>sv e n
  have noA:∀{b:Gb} {o:Obj} {es:Array DictEntry} {ep:Nat},s₁.heap.get? b=some o->o.data=.dict es ep->H b=none:=λ{b o es ep} e d=>by
   cases q:H b with
   |none=>rfl
   |some u =>
    have e':b=a:=hA b (by rw[q];simp)
    subst e'
    rw[ha]at e;cases e
    have d':Data.seq vs.toArray _=Data.dict es ep:=d
    cases d'
  have nsK:∀{b:Gb} {m:Str->Option Value},s₁.heap.Ns b m->(kE s₁.heap H).Ns b m:=λ{b m} ⟨o,es,ep,e,d,r⟩=>⟨o,es,ep,base_of e (noA e d),d,r⟩
  have hKb:K.In (kE s₁.heap H):=λb o e=>base_of (KX b o e) (by
   cases q:H b with
   |none=>rfl
   |some u =>
    have e':b=a:=hA b (by rw[q];simp)
    subst e'
    rw[hK (by rw[q];simp)]at e;cases e)
  have hM:Mod K mg (kE s₁.heap H):=⟨hKb,nsK hns,⟨mb,nsK hb,hbb⟩,let ⟨mc,h1,h2⟩:=hlim;⟨mc,nsK h1,h2⟩⟩
  have e0:si P w K mg (kE s₁.heap H) callerA [] s₁ H:=⟨rfl,hM,λb o e=>uS e,Nat.le_of_eq (pk _ _),trivial,λb hb=>absurd (show b∈([]:List Gb) from hb) (by simp),hok,.of_eq hg⟩
  refine codeAny_mono ((F _ hKb (nsK hns)).run callerA [] s₁ H ⟨[.ref a],[]⟩ [.ref a] [.ref a] _ _ hr e0 (hbind s₁ (.ref a)) (.cons rfl .nil) (hsp H hO hS)) λr s' h=>?_
  cases r with
  |error e=>exact(hCX H e s' h).elim
  |ok fl =>
   cases fl with
   |next=>exact HV h
   |brk=>exact HV h
   |cont=>exact HV h
   |ret u =>
    obtain⟨v,H',os,bare,un,hok',r',q⟩:=h
    have q':v=.bl true:=q
    subst q'
    obtain rfl:u=Value.bool true:=r'
    refine⟨rfl,OldK.of_keep λb o e=>?_,os,bare⟩
    cases q:H b with
    |none=>exact un.keep b o e q (by intro z;exact absurd (show b∈([]:List Gb) from z) (by simp)) (by simp)
    |some u =>
     rcases hO b with z|⟨ob,xs,z⟩
     ·rw[q]at z;cases z
     ·have z2:=un.frzs b ob _ z
      obtain⟨e1,_⟩:=hok b _ z
      obtain⟨e2,_⟩:=hok' b _ z2
      rw[e]at e1;cases e1
      exact e2
 cases hk:K.lookup a with
 |some o =>
  have e:=KX a o hk
  rw[ha]at e
  cases e
  refine wQ (λ_=>none) (λ_=>.inl rfl) (.inr ⟨_,vs.toArray,_,hk,rfl,rfl,rfl,by rw[Gm,lenV];exact hl,by simpa using rv⟩) (λb u z=>by have z':(none:Option HO)=some u:=z;cases z') (λb z=>absurd rfl z) λz=>absurd rfl z
 |none =>
  refine wQ (λb=>if b=a then some (.frz { cls:=.type "list",data:=.seq vs.toArray } (.lst (ns.map V.int))) else none) (λb=>?_) (.inl (.inr ⟨{ cls:=.type "list",data:=.seq vs.toArray },Gk rfl⟩)) (λb u z=>?_) (λb z=>?_) λ_=>hk
  ·by_cases hb:b=a
   ·exact .inr ⟨_,_,Gk hb⟩
   ·exact .inl (Gf hb)
  ·by_cases hb:b=a
   ·have z':=(Gk hb).symm.trans z
    cases z'
    subst hb
    exact⟨ha,by rw[lmp];exact hl,vs,_,rv,ha⟩
   ·have z':=(Gf hb).symm.trans z
    cases z'
  ·by_cases hb:b=a
   ·exact hb
   ·exact absurd (Gf hb) z
end L2
namespace L2
open PySem PySem.Spec PyProof.Rows
end L2
namespace L2
open PySem PySem.Spec PyProof.Rows
open PySem.W (WData Codec OpenSpec Well WellAll ReadsW ReadsAllW)
mutual
inductive Dw (K:Hq)(H:Hp):V->WData->Prop
 |non:Dw K H .non .none
 |bl (b:Bool):Dw K H (.bl b) (.bool b)
 |int (i:Int):Dw K H (.int i) (.int i)
 |str (x:Str):Dw K H (.str x) (.str x)
 |byt (b:Array UInt8):Dw K H (.byt b) (.bytes b.toList)
 |lst {a:Gb} {xs:List V} {ds:List WData}:SqL K H a xs->gL K H xs ds->Dw K H (.ref a) (.list ds)
 |tup {a:Gb} {xs:List V} {ds:List WData}:SqT K H a xs->gL K H xs ds->Dw K H (.ref a) (.tuple ds)
inductive gL (K:Hq)(H:Hp):List V->List WData->Prop
 |nil:gL K H [] []
 |cons {v:V} {vs:List V} {d:WData} {ds:List WData}:Dw K H v d->gL K H vs ds->gL K H (v :: vs) (d :: ds)
end
theorem uq {K:Hq}{H:Hp}:∀ns:List Int,gL K H (ns.map V.int) (ns.map WData.int)
 |[]=>.nil
 |n :: r=>.cons (.int n) (uq r)
theorem kF {K:Hq}{H:Hp}:∀(ns:List Int) (xs:List V),gL K H xs (ns.map WData.int)->xs=ns.map V.int
 |[],xs,h=>by
  cases h
  rfl
 |n :: r,xs,h=>by
  cases h with
  |cons h1 h2 =>
   cases h1
   rw[kF r _ h2]<;>rfl
section
variable  {P:GQ}{w:HJ}{K:Hq}{H:Hp}{h:Heap}{R:PySem.W.WRecords}{cl:Str->Option Gb}
theorem Cc {a:Gb}{xs:List V}(hok:HOk P w H h)(KX:K.In h)(q:SqL K H a xs):∃(its:List Value) (o:Obj) (n:Nat),aS xs its/\h.get? a=some o/\o.cls=.type "list"/\o.data=.seq its.toArray n:=by
 rcases q with q|⟨o,its,n,e,hc,_,hd,_,hv⟩
 ·obtain⟨_,its,n,hv,e⟩:=(show b9 P w H h a (.lst xs) from q.ok hok)
  exact⟨its,_,n,hv,e,rfl,rfl⟩
 ·exact⟨its.toList,o,n,hv,KX _ _ e,hc,by simp[hd]⟩
theorem Cs {a:Gb}{xs:List V}(hok:HOk P w H h)(KX:K.In h)(q:SqT K H a xs):∃(its:List Value) (o:Obj) (n:Nat),aS xs its/\h.get? a=some o/\o.cls=.type "tuple"/\o.data=.seq its.toArray n:=by
 rcases q with q|⟨o,its,n,e,hc,hd,_,hv⟩
 ·obtain⟨_,its,hv,o,e,hc,n,hd⟩:=(show b9 P w H h a (.tup xs) from q.ok hok)
  exact⟨its,o,n,hv,e,hc,hd⟩
 ·exact⟨its.toList,o,n,hv,KX _ _ e,hc,by simp[hd]⟩
mutual
theorem Dw.reads (hok:HOk P w H h)(KX:K.In h):∀(d:WData) (v:V) (u:Value),Dw K H v d->a5 v u->∃as,ReadsW R cl h u d as
 |.none,_,_,x,r=>by
  cases x
  cases r
  exact⟨_,ReadsW.none⟩
 |.bool b,_,_,x,r=>by
  cases x
  cases r
  exact⟨_,ReadsW.bool b⟩
 |.int i,_,_,x,r=>by
  cases x
  obtain⟨t,rfl⟩:=r
  exact⟨_,ReadsW.int i t⟩
 |.str s,_,_,x,r=>by
  cases x
  obtain⟨t,rfl⟩:=r
  exact⟨_,ReadsW.str s t⟩
 |.bytes b,_,_,x,r=>by
  cases x
  obtain⟨t,rfl⟩:=r
  exact⟨_,ReadsW.bytes _ t⟩
 |.list ds,_,_,x,r=>by
  cases x with
  |lst hs ha =>
   cases r
   obtain⟨its,o,n,rv,ho,hc,hd⟩:=Cc hok KX hs
   obtain⟨as,hr⟩:=Dw.readsAll hok KX ds _ its ha rv
   exact⟨_,ReadsW.list ho hc hd hr⟩
 |.tuple ds,_,_,x,r=>by
  cases x with
  |tup hs ha =>
   cases r
   obtain⟨its,o,n,rv,ho,hc,hd⟩:=Cs hok KX hs
   obtain⟨as,hr⟩:=Dw.readsAll hok KX ds _ its ha rv
   exact⟨_,ReadsW.tuple ho hc hd hr⟩
 |.float _,_,_,x,_=>by cases x
 |.dict _,_,_,x,_=>by cases x
 |.bytearray _,_,_,x,_=>by cases x
 |.set _,_,_,x,_=>by cases x
 |.frozenset _,_,_,x,_=>by cases x
 |.obj _ _,_,_,x,_=>by cases x
theorem Dw.readsAll (hok:HOk P w H h)(KX:K.In h):∀(ds:List WData) (vs:List V) (us:List Value),gL K H vs ds->aS vs us->∃as,ReadsAllW R cl h us ds as
 |[],_,_,x,r=>by
  cases x
  cases r
  exact⟨_,ReadsAllW.nil⟩
 |d :: ds,_,_,x,r=>by
  cases x with
  |cons h1 h2 =>
   cases r with
   |cons r1 r2 =>
    obtain⟨as,q1⟩:=Dw.reads hok KX d _ _ h1 r1
    obtain⟨bs,q2⟩:=Dw.readsAll hok KX ds _ _ h2 r2
    exact⟨_,ReadsAllW.cons q1 q2⟩
end
end
mutual
def plW:WData->Bool
 |.none=>true
 |.bool _=>true
 |.int _=>true
 |.str _=>true
 |.bytes _=>true
 |.list xs=>lZ xs
 |.tuple xs=>lZ xs
 |_=>false
def lZ:List WData->Bool
 |[]=>true
 |x :: r=>plW x&&lZ r
end
theorem rW {α:Type}{f:α->WData}(h:∀a,plW (f a)=true):∀l:List α,lZ (l.map f)=true
 |[]=>rfl
 |x :: r=>by
  show(plW (f x)&&lZ (r.map f))=true
  rw[h x,rW h r]<;>rfl
theorem iK:∀(c:Codec) (a:c.denote),plW (c.enc a)=true
 |.unit,_=>rfl
 |.bool,_=>rfl
 |.int _ _,_=>rfl
 |.nat _ _,_=>rfl
 |.u8,_=>rfl
 |.bytes _ _,_=>rfl
 |.text _ _ _ _,_=>rfl
 |.list _ _ c,a=>rW (λx=>iK c x) a
 |.pair c d,a=>by
  show(plW (c.enc a.1)&&(plW (d.enc a.2)&&true))=true
  rw[iK c a.1,iK d a.2]<;>rfl
 |.triple c d e,a=>by
  show(plW (c.enc a.1)&&(plW (d.enc a.2.1)&&(plW (e.enc a.2.2)&&true)))=true
  rw[iK c a.1,iK d a.2.1,iK e a.2.2]<;>rfl
 |.option c,none=>rfl
 |.option c,some x=>iK c x
theorem oS:∀(cs:List Codec) (a:Codec.denoteAll cs),lZ (Kc cs a)=true
 |[],_=>rfl
 |c :: cs,a=>by
  show(plW (c.enc a.1)&&lZ (Kc cs a.2))=true
  rw[iK c a.1,oS cs a.2]<;>rfl
theorem jO:∀{xs:List WData} {d:WData},d∈xs->d.weight<=WData.weightAll xs
 |[],d,h=>absurd h (by simp)
 |x :: r,d,h=>by
  show d.weight<=x.weight+1+WData.weightAll r
  rcases Gh.mp h with e|m
  ·rw[e]
   lia
  ·have z:=jO m
   lia
def toV:Value->V
 |.none=>.non
 |.bool b=>.bl b
 |.int i _=>.int i
 |.str x _=>.str x
 |.bytes b _=>.byt b
 |.ref a=>.ref a
 |_=>.non
def OkU (A:List Gb):Value->Prop
 |.none=>True
 |.bool _=>True
 |.int _ _=>True
 |.str _ _=>True
 |.bytes _ _=>True
 |.ref a=>a∈A
 |_=>False
theorem OkU.mono {A B:List Gb}(h:∀a∈A,a∈B):∀{u:Value},OkU A u->OkU B u:=λ{u} x=>by
 cases u with
 |ref a=>exact h a x
 |none=>trivial
 |bool b=>trivial
 |int i t=>trivial
 |str s t=>trivial
 |bytes b t=>trivial
 |_=>exact HV x
theorem xP {A:List Gb}{u:Value}(x:OkU A u):a5 (toV u) u:=by
 cases u with
 |ref a=>rfl
 |none=>rfl
 |bool b=>rfl
 |int i t=>exact⟨t,rfl⟩
 |str s t=>exact⟨t,rfl⟩
 |bytes b t=>exact⟨t,rfl⟩
 |_=>exact HV x
theorem gG {A:List Gb}:∀{vs:List Value},(∀u∈vs,OkU A u)->aS (vs.map toV) vs
 |[],_=>.nil
 |u :: r,h=>.cons (xP (h u (Gv ..))) (gG λx hx=>h x (Gc _ hx))
def iI (h:Heap)(A:List Gb)(a:Gb):Prop:=∃vs:List Value,vs.length<=Ge/\(∀u∈vs,OkU A u) /\
 (h.get? a=some { cls:=.type "list",data:=.seq vs.toArray }\/h.get? a=some { cls:=.type "tuple",data:=.seq vs.toArray })
theorem iI.mono {h:Heap}{A B:List Gb}{a:Gb}(k:∀a∈A,a∈B)(x:iI h A a):iI h B a:=by
 obtain⟨vs,h1,h2,h3⟩:=x
 exact⟨vs,h1,λu hu=>(h2 u hu).mono k,h3⟩
theorem gh {P:Params}{h:Heap}:∀{vs:List Value} {ds:List WData},WellAll P h vs ds->vs.length=ds.length
 |_,_,.nil=>rfl
 |_,_,.cons _ b=>by
  show _+1=_+1
  rw[gh b]
theorem oO {P:Params}{h:Heap}{v:Value}{ds:List WData}(x:Well P h v (.list ds)):∃(a:Gb) (vs:List Value),v=.ref a/\h.get? a=some { cls:=.type "list",data:=.seq vs.toArray }/\WellAll P h vs ds:=by
 cases x with
 |list ho hall=>exact⟨_,_,rfl,ho,hall⟩
theorem mK {P:Params}{h:Heap}{v:Value}{ds:List WData}(x:Well P h v (.tuple ds)):∃(a:Gb) (vs:List Value),v=.ref a/\h.get? a=some { cls:=.type "tuple",data:=.seq vs.toArray }/\WellAll P h vs ds:=by
 cases x with
 |tuple ho hall=>exact⟨_,_,rfl,ho,hall⟩
theorem ph {P:Params}{h:Heap}{us:List Value}{d:WData}{ds:List WData}(x:WellAll P h us (d :: ds)):∃(v:Value) (vs:List Value),us=v :: vs/\Well P h v d/\WellAll P h vs ds:=by
 cases x with
 |cons a b=>exact⟨_,_,rfl,a,b⟩
theorem qE {n:Nat}(h:n<=1048576):n<=Ge:=GU h (by decide)
section
variable  {P:Params}{h:Heap}
mutual
theorem yA:∀(d:WData) (v:Value),Well P h v d->plW d=true->d.weight<=1048576->∃A:List Gb,OkU A v/\∀a∈A,iI h A a
 |.none,_,x,_,_=>by
  cases x
  exact⟨[],trivial,λa m=>absurd m (by simp)⟩
 |.bool b,_,x,_,_=>by
  cases x
  exact⟨[],trivial,λa m=>absurd m (by simp)⟩
 |.int i,_,x,_,_=>by
  cases x
  exact⟨[],trivial,λa m=>absurd m (by simp)⟩
 |.str s,_,x,_,_=>by
  cases x
  exact⟨[],trivial,λa m=>absurd m (by simp)⟩
 |.bytes b,_,x,_,_=>by
  cases x
  exact⟨[],trivial,λa m=>absurd m (by simp)⟩
 |.list ds,_,x,p,z=>by
  obtain⟨a,vs,rfl,ho,hall⟩:=oO x
  have z2:WData.weightAll ds<=1048576:=z
  obtain⟨A,h1,h2⟩:=j8 ds _ hall p λd hd=>GU (jO hd) z2
  have k:∀b∈A,b∈a :: A:=λb hb=>Gc _ hb
  refine⟨a :: A,Gv ..,λb hb=>?_⟩
  rcases Gh.mp hb with e|m
  ·rw[e]
   exact⟨vs,qE (by rw[gh hall];exact GU (PySem.W.length_le_weightAllW ds) z2),λu hu=>(h1 u hu).mono k,.inl ho⟩
  ·exact(h2 b m).mono k
 |.tuple ds,_,x,p,z=>by
  obtain⟨a,vs,rfl,ho,hall⟩:=mK x
  have z2:WData.weightAll ds<=1048576:=z
  obtain⟨A,h1,h2⟩:=j8 ds _ hall p λd hd=>GU (jO hd) z2
  have k:∀b∈A,b∈a :: A:=λb hb=>Gc _ hb
  refine⟨a :: A,Gv ..,λb hb=>?_⟩
  rcases Gh.mp hb with e|m
  ·rw[e]
   exact⟨vs,qE (by rw[gh hall];exact GU (PySem.W.length_le_weightAllW ds) z2),λu hu=>(h1 u hu).mono k,.inr ho⟩
  ·exact(h2 b m).mono k
 |.float _,_,_,p,_=>Hw (show false=true from p)
 |.dict _,_,_,p,_=>Hw (show false=true from p)
 |.bytearray _,_,_,p,_=>Hw (show false=true from p)
 |.set _,_,_,p,_=>Hw (show false=true from p)
 |.frozenset _,_,_,p,_=>Hw (show false=true from p)
 |.obj _ _,_,_,p,_=>Hw (show false=true from p)
theorem j8:∀(ds:List WData) (vs:List Value),WellAll P h vs ds->lZ ds=true->(∀d∈ds,d.weight<=1048576)->∃A:List Gb,(∀u∈vs,OkU A u)/\∀a∈A,iI h A a
 |[],_,x,_,_=>by
  cases x
  exact⟨[],λu m=>absurd m (by simp),λa m=>absurd m (by simp)⟩
 |d :: ds,_,x,p,z=>by
  obtain⟨v,vs,rfl,x1,x2⟩:=ph x
  have q:plW d=true/\lZ ds=true:=HX.mp p
  obtain⟨A,a1,a2⟩:=yA d v x1 q.1 (z d (Gv ..))
  obtain⟨B,b1,b2⟩:=j8 ds vs x2 q.2 λe he=>z e (Gc _ he)
  have kA:∀b∈A,b∈A++B:=λb hb=>GK.mpr (.inl hb)
  have kB:∀b∈B,b∈A++B:=λb hb=>GK.mpr (.inr hb)
  refine⟨A++B,λu hu=>?_,λb hb=>?_⟩
  ·rcases Gh.mp hu with e|m
   ·rw[e]
    exact a1.mono kA
   ·exact(b1 u m).mono kB
  ·rcases GK.mp hb with m|m
   ·exact(a2 b m).mono kA
   ·exact(b2 b m).mono kB
end
end
def zW (o:Obj):Option HO:=match o.data with
 |.seq vs _=>if (o.cls==Value.type "list")=true then some (.frz o (.lst (vs.toList.map toV))) else some (.frz o (.tup (vs.toList.map toV)))
 |_=>none
def ii (K:Hq)(h:Heap)(A:List Gb):Hp:=λb=>if b∈A then (if (K.lookup b).isNone=true then (h.get? b).bind zW else none) else none
def pK (H:Hp):Prop:=∀b,H b=none\/∃o u,H b=some (.frz o u)
theorem sE (vs:List Value):zW { cls:=.type "list",data:=.seq vs.toArray }=some (.frz { cls:=.type "list",data:=.seq vs.toArray } (.lst (vs.map toV))):=by
 show(if (Value.type "list"==Value.type "list")=true then some (HO.frz { cls:=.type "list",data:=.seq vs.toArray } (.lst (vs.toArray.toList.map toV))) else some (HO.frz { cls:=.type "list",data:=.seq vs.toArray } (.tup (vs.toArray.toList.map toV))))=_
 rw[Gk (beq_self_eq_true _)]
theorem sf (vs:List Value):zW { cls:=.type "tuple",data:=.seq vs.toArray }=some (.frz { cls:=.type "tuple",data:=.seq vs.toArray } (.tup (vs.map toV))):=by
 show(if (Value.type "tuple"==Value.type "list")=true then some (HO.frz { cls:=.type "tuple",data:=.seq vs.toArray } (.lst (vs.toArray.toList.map toV))) else some (HO.frz { cls:=.type "tuple",data:=.seq vs.toArray } (.tup (vs.toArray.toList.map toV))))=_
 rw[Gf (by decide)]
section
variable  {P:GQ}{w:HJ}{K:Hq}{h:Heap}{A:List Gb}
theorem mx {b:Gb}{o:Obj}(hb:b∈A)(hk:K.lookup b=none)(e:h.get? b=some o):ii K h A b=zW o:=by
 unfold ii
 rw[Gk hb,hk,Gk (show(none:Option Obj).isNone=true from rfl),e]<;>rfl
theorem zk {b:Gb}{u:HO}(q:ii K h A b=some u):b∈A/\K.lookup b=none:=by
 unfold ii at q
 by_cases hb:b∈A
 ·rw[Gk hb]at q
  cases hk:K.lookup b with
  |none=>exact⟨hb,rfl⟩
  |some o =>
   rw[hk,Gf (by simp)]at q
   cases q
 ·rw[Gf hb]at q
  cases q
theorem mq (ar:∀a∈A,iI h A a){b:Gb}{u:HO}(q:ii K h A b=some u):K.lookup b=none/\∃vs:List Value,vs.length<=Ge/\(∀u∈vs,OkU A u) /\
  ((h.get? b=some { cls:=.type "list",data:=.seq vs.toArray }/\u=.frz { cls:=.type "list",data:=.seq vs.toArray } (.lst (vs.map toV))) \/
   (h.get? b=some { cls:=.type "tuple",data:=.seq vs.toArray }/\u=.frz { cls:=.type "tuple",data:=.seq vs.toArray } (.tup (vs.map toV)))):=by
 obtain⟨hb,hk⟩:=zk q
 obtain⟨vs,h1,h2,h3⟩:=ar b hb
 refine⟨hk,vs,h1,h2,?_⟩
 rcases h3 with e|e
 ·rw[mx hb hk e,sE]at q
  exact .inl ⟨e,(osi q).symm⟩
 ·rw[mx hb hk e,sf]at q
  exact .inr ⟨e,(osi q).symm⟩
theorem wk (ar:∀a∈A,iI h A a):pK (ii K h A):=λb=>by
 cases q:ii K h A b with
 |none=>exact .inl rfl
 |some u =>
  obtain⟨_,vs,_,_,⟨_,e⟩|⟨_,e⟩⟩:=mq ar q
  ·exact .inr ⟨_,_,by rw[e]⟩
  ·exact .inr ⟨_,_,by rw[e]⟩
theorem zL (ar:∀a∈A,iI h A a):HOk P w (ii K h A) h:=λb u q=>by
 obtain⟨_,vs,h1,h2,⟨e,rfl⟩|⟨e,rfl⟩⟩:=mq ar q
 ·exact⟨e,by rw[lmp];exact h1,vs,_,gG h2,e⟩
 ·exact⟨e,by rw[lmp];exact h1,vs,gG h2,_,e,rfl,_,rfl⟩
theorem l9 {c c':Value}{vs us:List Value}(e:(some { cls:=c,data:=.seq vs.toArray }:Option Obj)=some { cls:=c',data:=.seq us.toArray }):c=c'/\vs=us:=by
 have e1:=osi e
 have e2:c=c':=Ia Obj.cls e1
 have e3:Data.seq vs.toArray=Data.seq us.toArray:=Ia Obj.data e1
 injection e3 with e4
 refine⟨e2,?_⟩
 have e5:=Ia Array.toList e4
 simpa using e5
theorem FX (KX:K.In h)(ar:∀a∈A,iI h A a){a:Gb}{vs:List Value}(ha:a∈A) (e:h.get? a=some { cls:=.type "list",data:=.seq vs.toArray }):(∀u∈vs,OkU A u)/\SqL K (ii K h A) a (vs.map toV):=by
 obtain⟨us,h1,h2,h3⟩:=ar a ha
 have hu:us=vs:=by
  rcases h3 with q|q
  ·rw[e]at q
   exact(l9 q).2.symm
  ·rw[e]at q
   exact absurd (Value.type.inj (l9 q).1) (by decide)
 subst hu
 refine⟨h2,?_⟩
 cases hk:K.lookup a with
 |none=>exact .inl (.inr ⟨_,by rw[mx ha hk e,sE]⟩)
 |some o =>
  have e2:=KX a o hk
  rw[e]at e2
  obtain rfl:=osi e2
  exact .inr ⟨_,us.toArray,_,hk,rfl,rfl,rfl,by rw[Gm];exact h1,by simpa using gG h2⟩
theorem Fk (KX:K.In h)(ar:∀a∈A,iI h A a){a:Gb}{vs:List Value}(ha:a∈A) (e:h.get? a=some { cls:=.type "tuple",data:=.seq vs.toArray }):(∀u∈vs,OkU A u)/\SqT K (ii K h A) a (vs.map toV):=by
 obtain⟨us,h1,h2,h3⟩:=ar a ha
 have hu:us=vs:=by
  rcases h3 with q|q
  ·rw[e]at q
   exact absurd (Value.type.inj (l9 q).1) (by decide)
  ·rw[e]at q
   exact(l9 q).2.symm
 subst hu
 refine⟨h2,?_⟩
 cases hk:K.lookup a with
 |none=>exact .inl (.inr ⟨_,by rw[mx ha hk e,sf]⟩)
 |some o =>
  have e2:=KX a o hk
  rw[e]at e2
  obtain rfl:=osi e2
  exact .inr ⟨_,us.toArray,_,hk,rfl,rfl,by rw[Gm];exact h1,by simpa using gG h2⟩
mutual
theorem A5 {Pm:Params}(KX:K.In h)(ar:∀a∈A,iI h A a):∀(d:WData) (v:Value),Well Pm h v d->plW d=true->OkU A v->Dw K (ii K h A) (toV v) d
 |.none,_,x,_,_=>by
  cases x
  exact .non
 |.bool b,_,x,_,_=>by
  cases x
  exact .bl b
 |.int i,_,x,_,_=>by
  cases x
  exact .int i
 |.str s,_,x,_,_=>by
  cases x
  exact .str s
 |.bytes b,_,x,_,_=>by
  cases x
  have z:=Dw.byt (K:=K) (H:=ii K h A) b.toArray
  exact z
 |.list ds,_,x,p,hu=>by
  obtain⟨a,vs,rfl,ho,hall⟩:=oO x
  obtain⟨h2,hs⟩:=FX KX ar hu ho
  exact .lst hs (qS KX ar ds _ hall p h2)
 |.tuple ds,_,x,p,hu=>by
  obtain⟨a,vs,rfl,ho,hall⟩:=mK x
  obtain⟨h2,hs⟩:=Fk KX ar hu ho
  exact .tup hs (qS KX ar ds _ hall p h2)
 |.float _,_,_,p,_=>Hw (show false=true from p)
 |.dict _,_,_,p,_=>Hw (show false=true from p)
 |.bytearray _,_,_,p,_=>Hw (show false=true from p)
 |.set _,_,_,p,_=>Hw (show false=true from p)
 |.frozenset _,_,_,p,_=>Hw (show false=true from p)
 |.obj _ _,_,_,p,_=>Hw (show false=true from p)
theorem qS {Pm:Params}(KX:K.In h)(ar:∀a∈A,iI h A a):∀(ds:List WData) (vs:List Value),WellAll Pm h vs ds->lZ ds=true->(∀u∈vs,OkU A u)->gL K (ii K h A) (vs.map toV) ds
 |[],_,x,_,_=>by
  cases x
  exact .nil
 |d :: ds,_,x,p,hu=>by
  obtain⟨v,vs,rfl,x1,x2⟩:=ph x
  have q:plW d=true/\lZ ds=true:=HX.mp p
  exact .cons (A5 KX ar d v x1 q.1 (hu _ (Gv ..))) (qS KX ar ds vs x2 q.2 λu m=>hu u (Gc _ m))
end
end
theorem vS {P:GQ}{w:HJ}{K:Hq}{mg mb:Str->Option Value}{CX:CXT}{k:Nat}{fa:Gb}{fd:JU}{ps:List Str}{sp:Sp}{s₁:Ga}{vals:List Value}{ds:List WData}{R:PySem.W.WRecords}{cl:Str->Option Gb}{d0:WData}
  (KX:K.In s₁.heap) (hns:s₁.heap.Ns GX mg) (hb:s₁.heap.Ns builtinsNs mb) (hbb:∀x:Str,x≠"__name__"->mb x=IM x) (hlim:s₁.heap.NoLimit) (hg:s₁.gens=#[])
  (hwl:WellAll w.params s₁.heap vals ds) (hpl:lZ ds=true) (hwt:∀d∈ds,d.weight<=1048576) (hr:br k callerA)
  (F:∀base:Heap,K.In base->base.Ns GX mg->jh P w K mg base CX k fa fd ps sp) (hbind:∀(s:Ga) (us:List Value),us.length=ps.length->BindsTo s fd ⟨us,[]⟩ (ps.zip us)) (hlen:ds.length=ps.length)
  (hsp:∀(H:Hp) (xs:List V),pK H->gL K H xs ds->sp xs H (λv H'=>Dw K H' v d0) λ_ _ _=>False)
  (hCX:∀H e s',CX [] H s₁ (λ_ _ _=>False) e s'->False) :
  codeAny (G4 P w) callerA (.call (.ref fa) ⟨vals,[]⟩) (λr s'=>∃u as,r=.ok (.ret u)/\ReadsW R cl s'.heap u d0 as/\OldK s₁.heap s'.heap/\s'.os=s₁.os/\AllBare s'.gens) s₁:=by
 obtain⟨A,ho,ar⟩:=j8 ds vals hwl hpl hwt
 have hO:pK (ii K s₁.heap A):=wk ar
 have hok:HOk P w (ii K s₁.heap A) s₁.heap:=zL ar
 have hS:=qS KX ar ds vals hwl hpl ho
 have hV:=gG ho
 have hK:∀b u,ii K s₁.heap A b=some u->K.lookup b=none:=λb u q=>(mq ar q).1
 have noA:∀{b:Gb} {o:Obj} {es:Array DictEntry} {ep:Nat},s₁.heap.get? b=some o->o.data=.dict es ep->ii K s₁.heap A b=none:=λ{b o es ep} e d=>by
  cases q:ii K s₁.heap A b with
  |none=>rfl
  |some u =>
   obtain⟨_,vs,_,_,⟨e2,_⟩|⟨e2,_⟩⟩:=mq ar q
   ·rw[e2]at e
    cases e
    have d':Data.seq vs.toArray _=Data.dict es ep:=d
    cases d'
   ·rw[e2]at e
    cases e
    have d':Data.seq vs.toArray _=Data.dict es ep:=d
    cases d'
 generalize ii K s₁.heap A=H at hO hok hS hK noA
 have base_of:∀{b:Gb} {o:Obj},s₁.heap.get? b=some o->H b=none->(kE s₁.heap H).get? b=some o:=λe n=>sv e n
 have nsK:∀{b:Gb} {m:Str->Option Value},s₁.heap.Ns b m->(kE s₁.heap H).Ns b m:=λ{b m} ⟨o,es,ep,e,d,r⟩=>⟨o,es,ep,base_of e (noA e d),d,r⟩
 have nK:∀b o,K.lookup b=some o->H b=none:=λb o e=>by
  cases q:H b with
  |none=>rfl
  |some u =>
   rw[hK b u q]at e
   cases e
 have hKb:K.In (kE s₁.heap H):=λb o e=>base_of (KX b o e) (nK b o e)
 have hM:Mod K mg (kE s₁.heap H):=⟨hKb,nsK hns,⟨mb,nsK hb,hbb⟩,let ⟨mc,h1,h2⟩:=hlim;⟨mc,nsK h1,h2⟩⟩
 have e0:si P w K mg (kE s₁.heap H) callerA [] s₁ H:=⟨rfl,hM,λb o e=>uS e,Nat.le_of_eq (pk _ _),trivial,λb hb=>absurd (show b∈([]:List Gb) from hb) (by simp),hok,.of_eq hg⟩
 have hl:vals.length=ps.length:=by rw[gh hwl];exact hlen
 refine codeAny_mono ((F _ hKb (nsK hns)).run callerA [] s₁ H ⟨vals,[]⟩ vals (vals.map toV) _ _ hr e0 (hbind s₁ vals hl) hV (hsp H _ hO hS)) λr s' x=>?_
 cases r with
 |error e=>exact(hCX H e s' x).elim
 |ok fl =>
  cases fl with
  |next=>exact HV x
  |brk=>exact HV x
  |cont=>exact HV x
  |ret u =>
   obtain⟨v,H',os,bare,un,hok',r',q⟩:=x
   have kept:∀b o,s₁.heap.get? b=some o->s'.heap.get? b=some o:=λb o e=>by
    cases q2:H b with
    |none=>exact un.keep b o e q2 (by intro z;exact absurd (show b∈([]:List Gb) from z) (by simp)) (by simp)
    |some u2 =>
     rcases hO b with z|⟨ob,u3,z⟩
     ·rw[q2]at z
      cases z
     ·have z2:=un.frzs b ob _ z
      obtain⟨e1,_⟩:=hok b _ z
      obtain⟨e2,_⟩:=hok' b _ z2
      rw[e]at e1
      cases e1
      exact e2
   have KX':K.In s'.heap:=λb o e=>kept b o (KX b o e)
   obtain⟨as,hrd⟩:=Dw.reads (R:=R) (cl:=cl) hok' KX' d0 v u q r'
   exact⟨u,as,rfl,hrd,OldK.of_keep kept,os,bare⟩
theorem nN {ds:List WData}(h:WData.layableAll ds=true):∀d∈ds,d.weight<=1048576:=λd hd =>
 (PySem.W.layableW_iff.mp (Hk.mp h d hd)).2.2
theorem ny:∀(cs:List Codec) (a:Codec.denoteAll cs),(Kc cs a).length=cs.length
 |[],_=>rfl
 |c :: cs,a=>by
  show(Kc cs a.2).length+1=cs.length+1
  rw[ny cs a.2]
theorem walk_spec {r:OpenSpec}{k:Nat}{q:GQ}{loose:List Str}{XP:(Str->Option Value)->Heap->Prop}{YP:HJ->Heap->Prop}{d:DefRec}{K:Params->Hq}{CX:HJ->CXT}{ps:List Str}{sp:HJ->Sp}
  (hwell:r.wellSaid=true) (hdf:d.params.defaults=[]) (hlen:r.args.length=ps.length) (hr:br k callerA)
  (hY:∀(w:HJ) (h:Heap),YP w h->(K w.params).In h)
  (F:∀(w:HJ) (mg:Str->Option Value) (fa:Gb) (h:Heap),YP w h->(K w.params).In h->h.Ns GX mg->mg d.name=some (.ref fa) ->
   ∃fd:JU,(∀(s:Ga) (us:List Value),us.length=ps.length->BindsTo s fd ⟨us,[]⟩ (ps.zip us)) /\
    ∀base:Heap,(K w.params).In base->base.Ns GX mg->jh r.prog w (K w.params) mg base (CX w) k fa fd ps (sp w))
  (hsp:∀(w:HJ) (H:Hp) (xs:List V) (a:Codec.denoteAll r.args),pK H->Codec.withinAll r.args a=true->Codec.app r.args r.asked a=true->gL (K w.params) H xs (Kc r.args a) ->
   sp w xs H (λv H'=>Dw (K w.params) H' v (r.ret.enc (Codec.app r.args r.f a))) λ_ _ _=>False)
  (hCX:∀(w:HJ) (H:Hp) (s:Ga) (e:Value) (s':Ga),CX w [] H s (λ_ _ _=>False) e s'->False) :
  PySem.W.WalkOS q loose XP YP r d [] (λf vs=>PySem.call f vs):=by
 intro w s_0 s₁ mg mb G Y fa o pm cd doc dV kV ho hd hcd hD hmg hg args vals as hpre hlay hrd hwl hlo
 obtain⟨a,e1,e2⟩:=PySem.W.os_pre_some hpre
 obtain⟨e3,hwi⟩:=Codec.encAll_of_decAll r.args args a e1
 subst e3
 have KX:=hY w _ Y
 obtain⟨fd,hb,hF⟩:=F w mg fa _ Y KX G.T.g hmg
 refine PySem.W.enter_call (codeAny_mono (vS (R:=[]) (cl:=classAt s_0.heap) (d0:=r.ret.enc (Codec.app r.args r.f a)) KX G.T.g G.T.b G.T.builtins G.T.nolimit hg hwl (oS _ _) (nN hlay) hr hF hb (by rw[ny];exact hlen)
  (λH xs hO hS=>hsp w H xs a hO hwi e2 hS) λH e s'=>hCX w H s₁ e s') λr' s' hq=>?_)
 obtain⟨u,as',rfl,h1,h2,h3,h4⟩:=hq
 exact⟨.inl ⟨u,_,as',rfl,λ_=>rfl,h1,(OpenSpec.post_iff hwell hwi _ _).mpr rfl,λz=>Hw (show false=true from z)⟩,h2,h3,h4⟩
theorem B5 {r:OpenSpec}{k:Nat}{q:GQ}{loose:List Str}{XP:(Str->Option Value)->Heap->Prop}{YP:HJ->Heap->Prop}{d:DefRec}{K:Params->Hq}{CX:CXT}{ps:List Str}{sp:Hq->Sp}
  (hwell:r.wellSaid=true) (hdf:d.params.defaults=[]) (hlen:r.args.length=ps.length) (hr:br k callerA)
  (hY:∀(w:HJ) (h:Heap),YP w h->(K w.params).In h)
  (F:∀(w:HJ) (mg:Str->Option Value) (fa:Gb) (h:Heap),YP w h->(K w.params).In h->h.Ns GX mg->mg d.name=some (.ref fa) ->
   ∃fd:JU,(∀(s:Ga) (us:List Value),us.length=ps.length->BindsTo s fd ⟨us,[]⟩ (ps.zip us)) /\
    ∀base:Heap,(K w.params).In base->base.Ns GX mg->jh r.prog w (K w.params) mg base CX k fa fd ps (sp (K w.params)))
  (hsp:∀(K:Hq) (H:Hp) (xs:List V) (a:Codec.denoteAll r.args),pK H->Codec.withinAll r.args a=true->Codec.app r.args r.asked a=true->gL K H xs (Kc r.args a) ->
   sp K xs H (λv H'=>Dw K H' v (r.ret.enc (Codec.app r.args r.f a))) λ_ _ _=>False)
  (hCX:∀(H:Hp) (s:Ga) (e:Value) (s':Ga),CX [] H s (λ_ _ _=>False) e s'->False) :
  PySem.W.WalkOS q loose XP YP r d [] (λf vs=>PySem.call f vs) :=
 walk_spec (K:=K) (CX:=λ_=>CX) (sp:=λw=>sp (K w.params)) hwell hdf hlen hr hY F (λw H xs a h1 h2 h3 h4=>hsp (K w.params) H xs a h1 h2 h3 h4) λ_ H s e s'=>hCX H s e s'
end L2
namespace L2
open PySem PySem.Spec PyProof.Rows
abbrev CX0:CXT:=λ_ _ _ _ _ _=>False
abbrev E0:XK:=λ_ _ _=>False
theorem uH {X:Cx}:jS CX0 X E0:=λ_ _ _ _ _ _ _ h=>h.elim
structure Fun (K:Hq)(x qual:Str)(st:Iw)(f:Gb)(fd:JU):Prop where
 ex:∃(oc:Value) (od:Option Gb) (kV doc pm:Value) (an:Option Gb) (cdv ct:Value) (osl:Array (Option Value)),
  fd=IN x qual (dh st) (bZ st) (ag st) .none kV doc pm an cdv ct/\K.lookup f=some ⟨oc,od,.func fd,osl⟩/\J1 K cdv qual=true
 kp:Ir K (.ref f)=true
section
variable  {P:GQ}{w:HJ}{K:Hq}{mg:Str->Option Value}{base:Heap}
theorem Fun.ok {x qual:Str}{st:Iw}{f:Gb}{fd:JU}{N ps:List Str}{k:Nat}{sp:Sp}(F:Fun K x qual st f fd)(S:aq N ps (ag st))(len:∀vs H Q E,sp vs H Q E->vs.length=ps.length)
  (hbody:∀(cdv:Value) (A:Around) (outer:List Env) (s:Ga) (H:Hp) (vs:List V) (Q:VK) (E:XK),br k (A.deeper (envOfC qual (ag st) s.heap.objs.size f cdv))->sp vs H Q E ->
   ∃t,PSs (qe CX0 P w K mg base N qual (ag st) f cdv A outer s H E).nox (bZ st) t/\t { nx:=λ_ H'=>Q .non H',rt:=Q } (start N vs) H):jh P w K mg base CX0 (k+1) f fd ps sp:=by
 obtain⟨oc,od,kV,doc,pm,an,cdv,ct,osl,rfl,lk,hcd⟩:=F.ex
 refine DQ lk hcd S len λA outer s H vs Q E hr hsp=>?_
 obtain⟨t,h,q⟩:=hbody cdv A outer s H vs Q E hr hsp
 exact⟨t,h.nox,q⟩
theorem tS {x qual:Str}{st:Iw}{f:Gb}{oc:Value}{od an:Option Gb}{osl:Array (Option Value)}{kV doc pm cdv ct:Value}(l:K.lookup f=some ⟨oc,od,.func (IN x qual (dh st) (bZ st) (ag st) .none kV doc pm an cdv ct),osl⟩)
  (c:J1 K cdv qual=true) (k:Ir K (.ref f)=true):Fun K x qual st f (IN x qual (dh st) (bZ st) (ag st) .none kV doc pm an cdv ct):=⟨⟨oc,od,kV,doc,pm,an,cdv,ct,osl,rfl,l,c⟩,k⟩
end
section
variable  {X:Cx}
theorem pv (i:Nat){x:Str}{pos:Pos}(hN:X.N[i]? = some x:=by rfl)(hv:Vis X.env.scope x:=by first|exact HZ rfl|exact Hr (.inl rfl)|exact Hr (.inr rfl)) (hd:(x==("__debug__" : Str))=false:=by decide)
  (hcd:(x==("__classdict__" : Str))=false:=by decide):PE X (.Name x pos) (aY i):=BX hN hv hd hcd
theorem wJ:mX X (.builtin "len") (λxs H Q=>∃a kvs,xs=[V.ref a]/\H a=some (.dK kvs)/\Q (.int kvs.length) H):=by
 intro pins s σ H xs us Q I r h
 obtain⟨a,kvs,rfl,ha,q⟩:=h
 obtain⟨u,rfl,ru⟩:=ye r
 cases ru
 exact EC I (.inl ha) λt s' I'=>⟨.int kvs.length,H,I',⟨t,rfl⟩,q⟩
end
theorem jN {A B:Prop}(h:B):if false=true then A else B:=by
 rw[Gf Go]
 exact h
theorem d7 {A B:Prop}(h:A):if true=true then A else B:=by
 rw[Gk rfl]
 exact h
theorem aU {c A B:Prop}[Decidable c](h1:c->A)(h2:¬c->B):if c then A else B:=by
 by_cases h:c
 ·rw[Gk h]
  exact h1 h
 ·rw[Gf h]
  exact h2 h
def ak (H H':Hp):Prop:=∀b o,H b=some o->H' b=some o
theorem ak.refl (H:Hp):ak H H:=λ_ _ h=>h
theorem ak.trans {H H1 H2:Hp}(a:ak H H1)(b:ak H1 H2):ak H H2:=λc o h=>b c o (a c o h)
theorem ak.free {H H':Hp}(e:ak H H'){l:Gb}(h:H' l=Option.none):H l=Option.none:=by
 cases q:H l with
 |none=>rfl
 |some o =>
  rw[e l o q]at h
  cases h
theorem ak.seq {K:Hq}{H H':Hp}{a:Gb}{xs:List V}(e:ak H H')(h:SqL K H a xs):SqL K H' a xs:=by
 rcases h with(h|⟨o,h⟩)|h
 ·exact .inl (.inl (e _ _ h))
 ·exact .inl (.inr ⟨o,e _ _ h⟩)
 ·exact .inr h
section
variable  {κ:Type}[DecidableEq κ]
end
theorem aC {xs:List V}{z:Int}{j:Nat}{v:V}(e:z=(j:Int))(h:xs[j]? = some v):atI xs z=some v:=by
 rw[e]
 exact pX h
theorem ak.made {H H1:Hp}{x dx C:Gb}(nx:H x=Option.none)(nd:H dx=Option.none)(k:∀b o,(upd (upd H dx (.own x)) x (.ins C dx [])) b=some o->b≠x->H1 b=some o):ak H H1:=λb o e =>
 k b o (by rw[ap (aO e nx),ap (aO e nd)];exact e) (aO e nx)
end L2
section
namespace LM
open Gla
def oK (ns:List Int):Bool:=ns.all λx=>decide (0<=x)&&decide (x<=65535)
def isL (ns:List Int):Bool:=decide (ns.length=32)&&oK ns
def cW (ns:List Int):Bool:=decide (ns.length % 32=0)&&oK ns
def cnt (ns:List Int):Nat:=ns.length / 32
def lat (ns:List Int)(k:Nat):List Int:=(ns.drop (32*k)).take 32
def apI (xs ys:List Int):Int:=((xs.zip ys).map λp=>(p.1-p.2)*(p.1-p.2)).sum
def thI (xs ys:List Int):List Int:=(xs.zip ys).map λp=>(p.1*p.2+32767) / 65535
def CF {α:Type}(f:α->Int):List α->Option α
 |[]=>none
 |x :: r=>match CF f r with
  |none=>some x
  |some y=>if f y<f x then some y else some x
theorem jE:∀{l:List Int},(∀x∈l,0<=x)->(l.map Ht).map (λn:Nat=>(n:Int))=l
 |[],_=>rfl
 |x :: r,h=>by
  have h1:=h x Gv
  show((x.toNat:Nat):Int) :: (r.map Ht).map (λn:Nat=>(n:Int))=x :: r
  rw[jE λy hy=>h y (Gc _ hy)]
  congr 1
  lia
theorem mE:∀{l:List Int},(∀x∈l,0<=x)->l.mapM LightNeutral.nat=some (l.map Ht)
 |[],_=>rfl
 |x :: r,h=>by
  have h1:=h x Gv
  rw[List.mapM_cons,mE λy hy=>h y (Gc _ hy)]
  have e:LightNeutral.nat x=some x.toNat:=by
   unfold LightNeutral.nat
   rw[Gf (by lia)]
  rw[e]
  rfl
def iU:Nat->List Nat->List (List Nat)
 |0,_=>[]
 |k+1,l=>if l.isEmpty=true then [] else l.take 32 :: iU k (l.drop 32)
theorem lq:∀(k:Nat) {l:List Int},(∀x∈l,0<=x)->LightNeutral.lights k l=some (iU k (l.map Ht))
 |0,_,_=>rfl
 |k+1,l,h=>by
  unfold LightNeutral.lights iU
  cases l with
  |nil=>rfl
  |cons a r =>
   rw[Gf (by simp),Gf (by simp)]
   rw[mE λx hx=>h x (HE hx),lq k λx hx=>h x (IK hx)]
   rw[Ja,JX]
   rfl
theorem oe:∀(n k:Nat) (l:List Nat),l.length=32*n->n<k->iU k l=(GE n).map λi=>(l.drop (32*i)).take 32
 |_,0,_,_,h=>absurd h (by lia)
 |0,k+1,l,e,_=>by
  have:l=[]:=Im.mp (by lia)
  subst this
  rfl
 |n+1,k+1,l,e,h=>by
  unfold iU
  have ne:l.isEmpty=false:=by
   cases l with
   |nil=>simp at e
   |cons a r=>rfl
  rw[ne,Gf (by decide),oe n k (l.drop 32) (by rw[GN];lia) (by lia),List.range_succ_eq_map,Gw,IP]
  congr 1
  apply HP
  intro i _
  simp only[Function.comp]
  rw[List.drop_drop,show 32+32*i=32*(i+1) by lia]
theorem oq:∀(k:Nat) (l:List Nat),l.length<k->¬l.length % 32=0->(iU k l).all lightOk=false
 |0,_,h,_=>absurd h (by lia)
 |k+1,l,h,hm=>by
  unfold iU
  have ne:l.isEmpty=false:=by
   cases l with
   |nil=>exact absurd rfl hm
   |cons a r=>rfl
  rw[ne,Gf (by decide),List.all_cons]
  by_cases c:l.length<32
  ·have:lightOk (l.take 32)=false:=by
    unfold lightOk
    have:((l.take 32).length==BANDS)=false:=by
     rw[GY]
     simp only[BANDS,HK,ne_eq]
     intro e
     have:l.length≠0:=by intro z;rw[z]at hm;exact hm rfl
     lia
    rw[this]
    rfl
   rw[this]
   rfl
  ·rw[oq k (l.drop 32) (by rw[GN];lia) (by rw[GN];lia),J2]
theorem gE {ns:List Int}:oK ns=true↔∀x∈ns,0<=x/\x<=65535:=by
 unfold oK
 rw[Hk]
 constructor
 ·intro h x hx
  have:=h x hx
  simp only[Gi,Gj]at this
  exact this
 ·intro h x hx
  simp only[Gi,Gj]
  exact h x hx
theorem jk {l:List Nat}:lightOk l=true↔l.length=32/\∀x∈l,x<=65535:=by
 unfold lightOk
 simp only[Gi,Jz,Hk,BANDS,FULL]
 exact and_congr Iff.rfl ⟨λh x hx=>FY (h x hx),λh x hx=>dqt (h x hx)⟩
theorem um {a b:Bool}(h:a=true↔b=true):a=b:=by
 cases a<;>cases b<;>simp_all
theorem ow {ws:List Int}(h:∀x∈ws,0<=x):lightOk (ws.map Ht)=isL ws:=by
 apply um
 rw[jk]
 unfold isL
 rw[Gi,gE,Gj,lmp]
 constructor
 ·rintro⟨h1,h2⟩
  refine⟨h1,λx hx=>⟨h x hx,?_⟩⟩
  have:=h2 x.toNat (List.mem_map_of_mem hx)
  have:=h x hx
  lia
 ·rintro⟨h1,h2⟩
  refine⟨h1,λy hy=>?_⟩
  obtain⟨x,hx,rfl⟩:=GP.mp hy
  have:=h2 x hx
  lia
def aK (gs:List Int):List (List Nat):=iU (gs.length+1) (gs.map Ht)
theorem ef {gs:List Int}(hm:gs.length % 32=0):aK gs=(GE (cnt gs)).map λi=>(lat gs i).map Ht:=by
 unfold aK
 rw[oe (cnt gs) _ _ (by rw[lmp];unfold cnt;lia) (by unfold cnt;lia)]
 apply HP
 intro i _
 unfold lat
 rw[Ja,JX]
theorem u7 {gs:List Int}(h:∀x∈gs,0<=x):(aK gs).all lightOk=cW gs:=by
 by_cases hm:gs.length % 32=0
 ·rw[ef hm]
  apply um
  unfold cW
  rw[Gi,gE,Gj,Hk]
  constructor
  ·intro q
   refine⟨hm,λx hx=>⟨h x hx,?_⟩⟩
   obtain⟨j,hj,e⟩:=J0.mp hx
   have q1:=q ((lat gs (j / 32)).map Ht) (List.mem_map_of_mem (Hz.mpr (by unfold cnt;lia)))
   have q2:=(jk.mp q1).2 x.toNat (List.mem_map_of_mem ?_)
   ·have:=h x hx
    lia
   ·unfold lat
    rw[Jb]
    refine⟨j % 32,?_⟩
    rw[List.getElem?_take,Gk (by lia),List.getElem?_drop,show 32*(j / 32)+j % 32=j by lia,gge hj,e]
  ·rintro⟨_,q⟩ l hl
   obtain⟨i,hi,rfl⟩:=GP.mp hl
   have hi:=Hz.mp hi
   rw[jk,lmp]
   refine⟨?_,λy hy=>?_⟩
   ·unfold lat
    rw[GY,GN]
    unfold cnt at hi
    lia
   ·obtain⟨x,hx,rfl⟩:=GP.mp hy
    have:=q x (IK (HE hx))
    lia
 ·unfold aK
  rw[oq _ _ (by rw[lmp];lia) (by rw[lmp];exact hm)]
  unfold cW
  rw[dqf hm]
  rfl
theorem zE (a b:Nat):((bandThrough a b:Nat):Int)=((a:Int)*b+32767) / 65535:=by
 unfold bandThrough FULL
 have e:((a:Int)*b)=((a*b:Nat):Int):=(Int.natCast_mul a b).symm
 rw[e,Nat.mul_assoc]
 generalize a*b=m
 lia
theorem m8:∀(a b:List Nat),(throughBoth a b).map (λn:Nat=>(n:Int))=thI (a.map λn:Nat=>(n:Int)) (b.map λn:Nat=>(n:Int))
 |[],_=>by unfold throughBoth thI;simp
 |_ :: _,[]=>by unfold throughBoth thI;simp
 |x :: r,y :: t=>by
  have ih:=m8 r t
  unfold throughBoth thI at ih ⊢
  simp only[List.zipWith_cons_cons,Gw,IC]
  rw[<-ih,zE]
theorem ot {xs ys:List Int}(hx:∀x∈xs,0<=x)(hy:∀y∈ys,0<=y):(throughBoth (xs.map Ht) (ys.map Ht)).map (λn:Nat=>(n:Int))=thI xs ys:=by
 rw[m8,jE hx,jE hy]
theorem oM {xs ys:List Int}(hx:∀x∈xs,0<=x)(hy:∀y∈ys,0<=y):(thI xs ys).map Ht=throughBoth (xs.map Ht) (ys.map Ht):=by
 rw[<-ot hx hy,IP]
 conv=>rhs;rw[<-List.map_id (throughBoth (xs.map Ht) (ys.map Ht))]
 apply HP
 intro n _
 simp
def uv (gs ws:List Int)(i:Nat):Int:=apI (lat gs i) ws
theorem rj {gs:List Int}(hm:gs.length % 32=0){i:Nat}(hi:i<cnt gs):(aK gs).getD i []=(lat gs i).map Ht:=by
 rw[ef hm,Gr,Gp,IS hi]
 rfl
theorem rT {gs:List Int}(h:cW gs=true):gs.length % 32=0:=by
 unfold cW at h
 rw[Gi,Gj]at h
 exact h.1
end LM
end
section
namespace WL
def tr6 (ax ay bx by' cx cy:Int):Int:=(bx-ax)*(cy-by')-(by'-ay)*(cx-bx)
theorem idA (ux uy wx wy px py qx qy:Int) :
 -(qy-py)*tr6 ux uy wx wy px py=(wy-uy)*tr6 px py qx qy ux uy+(tr6 px py qx qy wx wy-tr6 px py qx qy ux uy)*(py-uy):=by
 unfold tr6;grind
theorem idB (ux uy wx wy px py qx qy:Int) :
 -(qy-py)*tr6 ux uy wx wy qx qy=(wy-uy)*tr6 px py qx qy ux uy+(tr6 px py qx qy wx wy-tr6 px py qx qy ux uy)*(qy-uy):=by
 unfold tr6;grind
theorem sJ (a b A B C D K py qy uy wy:Int)(ha:a=wy-uy)(hb:b=qy-py)(hK:K=D-C)
 (h1:-b*A=a*C+K*(py-uy)) (h2:-b*B=a*C+K*(qy-uy)) (ha0:0<a) (hb0:0<b)
 (hp:py<=uy) (hq:uy<qy) (hw:qy<=wy) (hC:0<C) (hB:0<B):A<0/\D<0:=by
 have e1:0<a*C:=Gs ha0 hC
 have e2:0<b*B:=Gs hb0 hB
 have e3:K*(qy-uy)<0:=by grind
 have e4:K<0:=by
  apply bcn;intro h
  have:0<=K*(qy-uy):=Gg (by lia) (by lia)
  lia
 have e5:0<=K*(py-uy):=by
  have:0<=(-K)*(uy-py):=Gg (by lia) (by lia)
  grind
 have e6:0 < -b*A:=by lia
 constructor
 ·apply bcn;intro h
  have:0<=b*A:=Gg (by lia) (by lia)
  grind
 ·have e7:a*D=a*C+K*(qy-uy)+K*(wy-qy):=by grind
  have e8:K*(wy-qy)<=0:=by
   have:0<=(-K)*(wy-qy):=Gg (by lia) (by lia)
   grind
  have e9:a*D<0:=by grind
  apply bcn;intro h
  have:0<=a*D:=Gg (by lia) (by lia)
  lia
structure Dr where
 n:Nat
 X:Nat->Int
 Y:Nat->Int
 J:Nat->Nat->Prop
def Dr.tr (d:Dr)(i j k:Nat):Int:=tr6 (d.X i) (d.Y i) (d.X j) (d.Y j) (d.X k) (d.Y k)
def Dr.on (d:Dr)(i j k:Nat):Prop :=
 d.tr i j k=0/\min (d.X i) (d.X j)<=d.X k/\d.X k<=max (d.X i) (d.X j)/\min (d.Y i) (d.Y j)<=d.Y k/\d.Y k<=max (d.Y i) (d.Y j)
structure eQ (d:Dr):Prop where
 symm:∀{i j},d.J i j->d.J j i
 lt:∀{i j},d.J i j->i<d.n
 ne:∀{i j},d.J i j->i≠j
 ord:∀{i j},i<j->j<d.n->d.Y i<d.Y j\/(d.Y i=d.Y j/\d.X i<d.X j)
 nocross:∀{i j k l},d.J i j->d.J k l->¬(d.tr i j k*d.tr i j l<0/\d.tr k l i*d.tr k l j<0)
 nopt:∀{i j k},d.J i j->k<d.n->k≠i->k≠j->¬d.on i j k
theorem az (a b:Int)(ha:0<a)(hb:b<0):a*b<0:=Int.mul_neg_of_pos_of_neg ha hb
theorem cD (a b:Int)(ha:a<0)(hb:0<b):a*b<0:=Int.mul_neg_of_neg_of_pos ha hb
theorem cA (d:Dr){i j k}(h0:d.tr i j k=0)(h:d.Y i<d.Y j)(h1:d.Y i<=d.Y k)(h2:d.Y k<=d.Y j):d.on i j k:=by
 refine⟨h0,?_,?_,by lia,by lia⟩
 ·apply bcn;intro hc
  have c1:d.X k<d.X i:=by lia
  have c2:d.X k<d.X j:=by lia
  have e:(d.Y j-d.Y k)*(d.X k-d.X i)+(d.Y k-d.Y i)*(d.X k-d.X j)=0:=by
   unfold Dr.tr tr6 at h0;grind
  by_cases hz:d.Y k=d.Y i
  ·have:(d.Y j-d.Y k)*(d.X k-d.X i)<0:=az _ _ (by lia) (by lia)
   have:(d.Y k-d.Y i)*(d.X k-d.X j)=0:=by rw[hz];simp
   lia
  ·have t1:(d.Y k-d.Y i)*(d.X k-d.X j)<0:=az _ _ (by lia) (by lia)
   have t2:0<=(d.Y j-d.Y k)*(d.X i-d.X k):=Gg (by lia) (by lia)
   grind
 ·apply bcn;intro hc
  have c1:d.X k > d.X i:=by lia
  have c2:d.X k > d.X j:=by lia
  have e:(d.Y j-d.Y k)*(d.X k-d.X i)+(d.Y k-d.Y i)*(d.X k-d.X j)=0:=by
   unfold Dr.tr tr6 at h0;grind
  by_cases hz:d.Y k=d.Y i
  ·have:0<(d.Y j-d.Y k)*(d.X k-d.X i):=Gs (by lia) (by lia)
   have:(d.Y k-d.Y i)*(d.X k-d.X j)=0:=by rw[hz];simp
   lia
  ·have t1:0<(d.Y k-d.Y i)*(d.X k-d.X j):=Gs (by lia) (by lia)
   have t2:0<=(d.Y j-d.Y k)*(d.X k-d.X i):=Gg (by lia) (by lia)
   grind
theorem kr (d:Dr)(i j k:Nat):d.tr j i k=- d.tr i j k:=by unfold Dr.tr tr6;grind
theorem dw (d:Dr)(i j k:Nat):d.tr i k j=- d.tr i j k:=by unfold Dr.tr tr6;grind
theorem kQ (d:Dr)(i j k:Nat):d.tr j k i=d.tr i j k:=by unfold Dr.tr tr6;grind
theorem kg (d:Dr)(i j:Nat):d.tr i j i=0:=by unfold Dr.tr tr6;grind
theorem cR (d:Dr)(i j:Nat):d.tr i j j=0:=by unfold Dr.tr tr6;grind
theorem Aa (d:Dr){i j k}(h:d.on i j k):d.on j i k:=by
 obtain⟨h0,h1,h2,h3,h4⟩:=h
 refine⟨by rw[kr];lia,by lia,by lia,by lia,by lia⟩
variable  {d:Dr}
theorem L1 (g:eQ d){u w p q:Nat}(huw:d.J u w)(hpq:d.J p q)(h1:d.Y p<=d.Y u)(h2:d.Y u<d.Y q)(h3:d.Y q<=d.Y w)
  (hpu:p≠u) (hqw:q≠w):(d.tr u w q<0/\0<d.tr p q u)\/(0<d.tr u w q/\d.tr p q u<0):=by
 have hun:u<d.n:=g.lt huw
 have hqn:q<d.n:=g.lt (g.symm hpq)
 have nB:d.tr u w q≠0:=by
  intro h
  refine g.nopt huw hqn ?_ hqw (cA d h (by lia) (by lia) h3)
  intro e;subst e;lia
 have nC:d.tr p q u≠0:=by
  intro h
  refine g.nopt hpq hun (GJ hpu) ?_ (cA d h (by lia) (by lia) (by lia))
  intro e;subst e;lia
 have i1:=idA (d.X u) (d.Y u) (d.X w) (d.Y w) (d.X p) (d.Y p) (d.X q) (d.Y q)
 have i2:=idB (d.X u) (d.Y u) (d.X w) (d.Y w) (d.X p) (d.Y p) (d.X q) (d.Y q)
 have n1:=g.nocross huw hpq
 by_cases hB:0<d.tr u w q
 ·by_cases hC:0<d.tr p q u
  ·exfalso
   obtain⟨a1,a2⟩:=sJ (d.Y w-d.Y u) (d.Y q-d.Y p) (d.tr u w p) (d.tr u w q) (d.tr p q u) (d.tr p q w) _ (d.Y p) (d.Y q) (d.Y u) (d.Y w) rfl rfl rfl i1 i2 (by lia) (by lia) h1 h2 h3 hC hB
   exact n1 ⟨cD _ _ a1 hB,az _ _ hC a2⟩
  ·right;exact⟨hB,by lia⟩
 ·by_cases hC:0<d.tr p q u
  ·left;exact⟨by lia,hC⟩
  ·exfalso
   have j1:-(d.Y q-d.Y p)*(- d.tr u w p)=(d.Y w-d.Y u)*(- d.tr p q u)+((- d.tr p q w)-(- d.tr p q u))*(d.Y p-d.Y u):=by
    unfold Dr.tr;grind
   have j2:-(d.Y q-d.Y p)*(- d.tr u w q)=(d.Y w-d.Y u)*(- d.tr p q u)+((- d.tr p q w)-(- d.tr p q u))*(d.Y q-d.Y u):=by
    unfold Dr.tr;grind
   obtain⟨a1,a2⟩:=sJ (d.Y w-d.Y u) (d.Y q-d.Y p) (- d.tr u w p) (- d.tr u w q) (- d.tr p q u) (- d.tr p q w) _ (d.Y p) (d.Y q) (d.Y u) (d.Y w) rfl rfl rfl j1 j2 (by lia) (by lia) h1 h2 h3 (by lia) (by lia)
   exact n1 ⟨az _ _ (by lia) (by lia),cD _ _ (by lia) (by lia)⟩
theorem pI (a b A B C D K py qy uy wy:Int)(ha:a=wy-uy)(hb:b=qy-py)(hK:K=D-C)
 (h1:-b*A=a*C+K*(py-uy)) (h2:-b*B=a*C+K*(qy-uy)) (ha0:0<a) (hb0:0<b)
 (hp:py<=uy) (hw:wy<=qy) (hC:0<C) (hD:D<0):A<0/\0<B:=by
 have e1:0<a*C:=Gs ha0 hC
 have e4:K<0:=by lia
 have e5:0<=K*(py-uy):=by
  have:0<=(-K)*(uy-py):=Gg (by lia) (by lia)
  grind
 have e7:a*D<0:=az _ _ ha0 hD
 have e8:a*D=a*C+K*(wy-uy):=by grind
 have e9:K*(qy-wy)<=0:=by
  have:0<=(-K)*(qy-wy):=Gg (by lia) (by lia)
  grind
 have e10:-b*B<0:=by grind
 constructor
 ·apply bcn;intro h
  have:0<=b*A:=Gg (by lia) (by lia)
  grind
 ·apply bcn;intro h
  have:0<=b*(-B):=Gg (by lia) (by lia)
  grind
theorem L2 (g:eQ d){u w p q:Nat}(huw:d.J u w)(hpq:d.J p q)(h1:d.Y p<=d.Y u)(h2:d.Y u<d.Y w)(h3:d.Y w<=d.Y q)
  (hpu:p≠u) (hqw:q≠w):(d.tr p q u<0/\d.tr p q w<0)\/(0<d.tr p q u/\0<d.tr p q w):=by
 have hun:u<d.n:=g.lt huw
 have hwn:w<d.n:=g.lt (g.symm huw)
 have nC:d.tr p q u≠0:=by
  intro h
  refine g.nopt hpq hun (GJ hpu) ?_ (cA d h (by lia) (by lia) (by lia))
  intro e;subst e;lia
 have nD:d.tr p q w≠0:=by
  intro h
  refine g.nopt hpq hwn ?_ (GJ hqw) (cA d h (by lia) (by lia) (by lia))
  intro e;subst e;lia
 have i1:=idA (d.X u) (d.Y u) (d.X w) (d.Y w) (d.X p) (d.Y p) (d.X q) (d.Y q)
 have i2:=idB (d.X u) (d.Y u) (d.X w) (d.Y w) (d.X p) (d.Y p) (d.X q) (d.Y q)
 have n1:=g.nocross huw hpq
 by_cases hC:0<d.tr p q u
 ·by_cases hD:0<d.tr p q w
  ·right;exact⟨hC,hD⟩
  ·exfalso
   obtain⟨a1,a2⟩:=pI (d.Y w-d.Y u) (d.Y q-d.Y p) (d.tr u w p) (d.tr u w q) (d.tr p q u) (d.tr p q w) _ (d.Y p) (d.Y q) (d.Y u) (d.Y w) rfl rfl rfl i1 i2 (by lia) (by lia) h1 h3 hC (by lia)
   exact n1 ⟨cD _ _ a1 a2,az _ _ hC (by lia)⟩
 ·by_cases hD:0<d.tr p q w
  ·exfalso
   have j1:-(d.Y q-d.Y p)*(- d.tr u w p)=(d.Y w-d.Y u)*(- d.tr p q u)+((- d.tr p q w)-(- d.tr p q u))*(d.Y p-d.Y u):=by
    unfold Dr.tr;grind
   have j2:-(d.Y q-d.Y p)*(- d.tr u w q)=(d.Y w-d.Y u)*(- d.tr p q u)+((- d.tr p q w)-(- d.tr p q u))*(d.Y q-d.Y u):=by
    unfold Dr.tr;grind
   obtain⟨a1,a2⟩:=pI (d.Y w-d.Y u) (d.Y q-d.Y p) (- d.tr u w p) (- d.tr u w q) (- d.tr p q u) (- d.tr p q w) _ (d.Y p) (d.Y q) (d.Y u) (d.Y w) rfl rfl rfl j1 j2 (by lia) (by lia) h1 h3 (by lia) (by lia)
   exact n1 ⟨az _ _ (by lia) (by lia),cD _ _ (by lia) (by lia)⟩
  ·left;exact⟨by lia,by lia⟩
def Dr.base (d:Dr)(u p q:Nat):Bool:=decide (u≠p/\u≠q/\d.Y p<=d.Y u/\d.Y u<d.Y q/\0<d.tr p q u)
def Dr.pre (d:Dr)(u b w:Nat):Bool:=decide (b=w\/(u<b/\w<u)\/(((u<b/\u<w)\/(b<u/\w<u))/\0<d.tr u b w))
def Dr.Om (d:Dr)(u w p q:Nat):Bool :=
 (d.base u p q^^decide (p=u/\d.Y q=d.Y u))^^((decide (p=u)&&d.pre u q w)^^(decide (q=u)&&d.pre u p w))
def Dr.Psi (d:Dr)(u w v:Nat):Bool :=
 if d.Y u<d.Y w then decide (d.Y u<d.Y v/\d.Y v<=d.Y w/\d.tr u w v<0)^^decide (v=w) else false
variable  {d:Dr}
theorem kj (d:Dr)(i j k:Nat)(h:d.Y k=d.Y i):d.tr i j k=(d.Y j-d.Y i)*(d.X i-d.X k):=by
 unfold Dr.tr tr6;grind
theorem oX (d:Dr)(i j k:Nat)(h:d.Y k=d.Y j):d.tr i j k=(d.Y j-d.Y i)*(d.X j-d.X k):=by
 unfold Dr.tr tr6;grind
theorem eo (d:Dr)(i j k:Nat)(h:d.Y i=d.Y j):d.tr i j k=(d.X j-d.X i)*(d.Y k-d.Y j):=by
 unfold Dr.tr tr6;grind
theorem bb {a b:Int}(ha:0<a):(0<a*b↔0<b):=by
 constructor
 ·intro h;apply bcn;intro hb
  have:0<=a*(-b):=Gg (by lia) (by lia)
  grind
 ·intro h;exact Gs ha h
theorem er {a b:Int}(ha:0<a):(a*b<0↔b<0):=by
 constructor
 ·intro h;apply bcn;intro hb
  have:0<=a*b:=Gg (by lia) (by lia)
  lia
 ·intro h;exact az _ _ ha h
theorem nz (g:eQ d){u w v:Nat}(huw:d.J u w)(hv:v<d.n)(h:d.Y u<d.Y w)(h1:d.Y u<=d.Y v)(h2:d.Y v<=d.Y w)
  (hu:v≠u) (hw:v≠w):d.tr u w v≠0:=by
 intro h0
 exact g.nopt huw hv hu hw (cA d h0 h h1 h2)
theorem qL (g:eQ d){u w p q:Nat}(huw:d.J u w)(hpq:d.J p q)(h1:u<w)(h2:p<q)(hy:d.Y u<d.Y w)(hf:d.Y p=d.Y q) :
  ((d.Om u w p q^^d.Om w u p q)^^decide (p=u/\q=w))=(d.Psi u w p^^d.Psi u w q):=by
 have hpn:=g.lt hpq
 have hqn:=g.lt (g.symm hpq)
 have hwn:=g.lt (g.symm huw)
 have hun:=g.lt huw
 have hx:d.X p<d.X q:=by rcases g.ord h2 hqn with h|h<;>lia
 have sA:∀k,d.Y k=d.Y w->(d.tr u w k<0↔d.X w<d.X k):=by
  intro k hk;rw[oX d u w k hk,er (by lia)];lia
 have mv:d.tr u w q<d.tr u w p:=by
  have:d.tr u w p-d.tr u w q=(d.Y w-d.Y u)*(d.X q-d.X p):=by unfold Dr.tr tr6;grind
  have:0<(d.Y w-d.Y u)*(d.X q-d.X p):=Gs (by lia) (by lia)
  lia
 have c1:=dw d u q w
 have c2:=kQ d u w p
 have c3:=kQ d w p u
 have base1:d.base u p q=false:=by simp[Dr.base];intros;lia
 have base2:d.base w p q=false:=by simp[Dr.base];intros;lia
 simp only[Dr.Om,base1,base2,Dr.Psi,hy,if_true]
 by_cases hpu:p=u
 ·subst hpu
  have t1:0<d.tr p q w:=by
   rw[eo d p q w hf];exact Gs (by lia) (by lia)
  have n1:q≠w:=by intro e;subst e;lia
  have n2:p≠w:=by lia
  have n3:q≠p:=by lia
  simp[Dr.pre,n1,n2,n3,hf,t1,h1,h2]
 by_cases hqu:q=u
 ·subst hqu
  have n1:q≠w:=by lia
  have n2:p≠w:=by lia
  have n3:p≠q:=by lia
  have n4:¬q<p:=by lia
  have n5:¬w<q:=by lia
  have n6:¬q<q:=by lia
  simp[Dr.pre,n1,n2,n3,n4,n5,n6]
  lia
 by_cases hpw:p=w
 ·subst hpw
  have n1:q≠p:=by lia
  have:d.tr u p q<0:=(sA q (by lia)).2 hx
  have z:d.tr u p p=0:=cR d u p
  simp[Dr.pre,n1,hqu,hpu,hf,h2,h1,this,z,hy]
  rw[<-hf];simp[hy]
 by_cases hqw:q=w
 ·subst hqw
  have n1:p≠q:=by lia
  have z:d.tr u q q=0:=cR d u q
  have a1:¬d.tr u q p<0:=by rw[sA p hf];lia
  have a2:=nz g huw hpn hy (by lia) (by lia) hpu hpw
  have a3:0<d.tr q p u:=by
   have:=kQ d u q p;lia
  simp[Dr.pre,n1,hpu,hqu,hpw,a1,z,a3]
  lia
 ·
  have goal:(d.Y u<d.Y p/\d.Y p<=d.Y w/\d.tr u w p<0)↔(d.Y u<d.Y q/\d.Y q<=d.Y w/\d.tr u w q<0):=by
   rw[hf]
   by_cases hr:d.Y u<d.Y q/\d.Y q<=d.Y w
   ·obtain⟨r1,r2⟩:=hr
    simp only[r1,r2,true_and]
    constructor
    ·intro h;lia
    ·intro h
     apply bcn;intro hn
     have a2:=nz g huw hpn hy (by lia) (by lia) hpu hpw
     have a3:0<d.tr u w p:=by lia
     by_cases he:d.Y q=d.Y w
     ·have b1:=(sA q he).1 h
      have b2:¬d.X w<d.X p:=by rw[<-sA p (by lia)];lia
      refine g.nopt hpq hwn (GJ hpw) (GJ hqw) ⟨?_,by lia,by lia,by lia,by lia⟩
      rw[eo d p q w hf,he];simp
     ·refine g.nocross huw hpq ⟨az _ _ a3 h,?_⟩
      rw[eo d p q u hf,eo d p q w hf]
      have e1:(d.X q-d.X p)*(d.Y u-d.Y q)<0:=az _ _ (by lia) (by lia)
      have e2:0<(d.X q-d.X p)*(d.Y w-d.Y q):=Gs (by lia) (by lia)
      exact cD _ _ e1 e2
   ·constructor
    ·intro h;exact absurd ⟨h.1,h.2.1⟩ hr
    ·intro h;exact absurd ⟨h.1,h.2.1⟩ hr
  simp only[hpu,hqu,hpw,hqw,goal,false_and,JI,G5,HU,Jv]
theorem tV (g:eQ d){u w p q:Nat}(huw:d.J u w)(hpq:d.J p q)(h1:u<w)(h2:p<q)(hy:d.Y u<d.Y w)(hf:d.Y p<d.Y q) :
  ((d.Om u w p q^^d.Om w u p q)^^decide (p=u/\q=w))=(d.Psi u w p^^d.Psi u w q):=by
 have hpn:=g.lt hpq
 have hqn:=g.lt (g.symm hpq)
 have hwn:=g.lt (g.symm huw)
 have hun:=g.lt huw
 have o1:∀{i j},i<j->j<d.n->d.Y i<=d.Y j:=by
  intro i j h h';rcases g.ord h h' with h|h<;>lia
 simp only[Dr.Om,Dr.base,Dr.Psi,hy,if_true]
 by_cases hpu:p=u
 ·subst hpu
  have s1:=dw d p q w
  have n3:q≠p:=by lia
  have n4:p≠w:=by lia
  have hYq:d.Y q≠d.Y p:=by lia
  by_cases hqw:q=w
  ·subst hqw
   have z:d.tr p q q=0:=cR d p q
   simp[Dr.pre,n3,n4,z,hYq]
  ·have a2:d.Y q<=d.Y w->d.tr p w q≠0:=λhh=>nz g huw hqn hy (by lia) hh n3 hqw
   simp[Dr.pre,n3,n4,hqw,h1,h2,hYq,hf]
   by_cases hh:d.Y q<=d.Y w
   ·have b1:¬d.Y w<d.Y q:=by lia
    simp[hh,b1];grind
   ·have b1:d.Y w<d.Y q:=by lia
    have b2:d.Y p<=d.Y w:=by lia
    simp[hh,b1,b2,GJ n4,GJ hqw]
    lia
 by_cases hqu:q=u
 ·subst hqu
  have n1:q≠w:=by lia
  have n2:p≠w:=by lia
  have n3:p≠q:=by lia
  have n4:¬q<p:=by lia
  have n5:¬w<q:=by lia
  have n6:¬q<q:=by lia
  have n7:¬d.Y w<d.Y q:=by lia
  have n8:¬d.Y q<d.Y p:=by lia
  simp[Dr.pre,n1,n2,n3,n4,n5,n6,n7,n8]
 by_cases hpw:p=w
 ·subst hpw
  have n1:q≠p:=by lia
  have z:d.tr u p p=0:=cR d u p
  have n2:¬d.Y p<=d.Y u:=by lia
  have n3:¬d.Y q=d.Y p:=by lia
  have n4:¬d.Y q<=d.Y p:=by lia
  simp[Dr.pre,n1,hqu,hpu,h2,h1,z,n2,n3,n4]
 by_cases hqw:q=w
 ·subst hqw
  have n1:p≠q:=by lia
  have z:d.tr u q q=0:=cR d u q
  have s1:=kQ d u q p
  have s2:=kr d p q u
  have s3:=kQ d p u q
  have n2:¬q<p:=by lia
  simp[Dr.pre,n1,hpu,hqu,hpw,GJ hpu,GJ hqu,z,n2,h1,h2]
  by_cases hh:d.Y p<=d.Y u
  ·have b1:¬d.Y u<d.Y p:=by lia
   simp[hh,b1,hy];
   have t:d.tr p q u≠0:=nz g hpq hun hf hh (by lia) (GJ hpu) (GJ hqu)
   grind
  ·have b1:d.Y u<d.Y p:=by lia
   have t:d.tr u q p≠0:=nz g huw hpn hy (by lia) (by lia) hpu hpw
   have b2:d.Y p<=d.Y q:=by lia
   simp[hh,b1,b2]
   grind
 ·simp only[hpu,hqu,hpw,hqw,GJ hpu,GJ hqu,GJ hpw,GJ hqw,false_and,JI,G5,HU,ne_eq,not_false_eq_true,true_and]
  by_cases c1:d.Y q<=d.Y u
  ·have b1:¬d.Y u<d.Y q:=by lia
   have b2:¬d.Y w<d.Y q:=by lia
   have b3:¬d.Y u<d.Y p:=by lia
   simp[b1,b2,b3]
  by_cases c2:d.Y w<d.Y p
  ·have b1:¬d.Y p<=d.Y u:=by lia
   have b2:¬d.Y q<=d.Y w:=by lia
   have b3:¬d.Y p<=d.Y w:=by lia
   simp[b1,b2,b3]
  have c1':d.Y u<d.Y q:=by lia
  have c2':d.Y p<=d.Y w:=by lia
  by_cases c3:d.Y p<=d.Y u
  ·have c3':¬d.Y u<d.Y p:=by lia
   by_cases c4:d.Y q<=d.Y w
   ·have c4':¬d.Y w<d.Y q:=by lia
    have:=L1 g huw hpq c3 c1' c4 hpu hqw
    simp[c3,c3',c4,c4',c1',c2']
    grind
   ·have c4':d.Y w<d.Y q:=by lia
    have:=L2 g huw hpq c3 hy (by lia) hpu hqw
    simp[c3,c3',c4,c4',c1',c2']
    grind
  ·have c3':d.Y u<d.Y p:=by lia
   by_cases c4:d.Y q<=d.Y w
   ·have c4':¬d.Y w<d.Y q:=by lia
    have:=L2 g hpq huw (by lia) hf c4 (GJ hpu) (GJ hqw)
    simp[c3,c3',c4,c4',c1',c2']
    grind
   ·have c4':d.Y w<d.Y q:=by lia
    simp[c3,c3',c4,c4',c1',c2']
    by_cases c5:d.Y p=d.Y w
    ·have e1:=oX d u w p c5
     have e2:=kj d p q w c5.symm
     rw[e1,e2]
     have e3:=@er (d.Y w-d.Y u) (d.X w-d.X p) (by lia)
     have e4:=@bb (d.Y q-d.Y p) (d.X p-d.X w) (by lia)
     rw[e3,e4];lia
    ·have:=L1 g hpq huw (by lia) (by lia) (by lia) (GJ hpu) (GJ hqw)
     grind
theorem vz (g:eQ d){u w p q:Nat}(huw:d.J u w)(hpq:d.J p q)(h1:u<w)(h2:p<q)(hy:d.Y u=d.Y w) :
  ((d.Om u w p q^^d.Om w u p q)^^decide (p=u/\q=w))=(d.Psi u w p^^d.Psi u w q):=by
 have hpn:=g.lt hpq
 have hqn:=g.lt (g.symm hpq)
 have hwn:=g.lt (g.symm huw)
 have hun:=g.lt huw
 have hx:d.X u<d.X w:=by rcases g.ord h1 hwn with h|h<;>lia
 have hnn:¬d.Y u<d.Y w:=by lia
 have fl:=λk=>eo d u w k hy
 have onrow:∀k,k<d.n->d.Y k=d.Y u->d.X u<=d.X k->d.X k<=d.X w->k=u\/k=w:=by
  intro k hk e x1 x2
  apply bcn;intro hc
  refine g.nopt huw hk (by lia) (by lia) ⟨?_,by lia,by lia,by lia,by lia⟩
  rw[fl,e,hy];simp
 have ordX:∀{i j},i<j->j<d.n->d.Y i=d.Y j->d.X i<d.X j:=by
  intro i j h h' e;rcases g.ord h h' with h|h<;>lia
 have ordY:∀{i j},i<j->j<d.n->d.Y i<=d.Y j:=by
  intro i j h h';rcases g.ord h h' with h|h<;>lia
 simp only[Dr.Om,Dr.base,Dr.Psi,hnn,JV,HU]
 by_cases hpu:p=u
 ·subst hpu
  have n3:q≠p:=by lia
  have n4:p≠w:=by lia
  have preE:d.pre p q w=decide (q=w):=by
   unfold Dr.pre
   rw[Gu]
   constructor
   ·rintro(h|h|h)
    ·exact h
    ·lia
    ·exfalso
     by_cases e:d.Y q=d.Y p
     ·have:=onrow q hqn e (by have:=ordX h2 hqn e.symm;lia)
      have t:=h.2
      rw[dw d p w q,fl,e,hy]at t;simp at t
     ·have t:=h.2
      have:=ordY h2 hqn
      rw[dw d p w q,fl]at t
      have:0<(d.X w-d.X p)*(d.Y q-d.Y w):=Gs (by lia) (by lia)
      lia
   ·intro h;exact HZ h
  by_cases e:d.Y q=d.Y p
  ·have xq:=ordX h2 hqn e.symm
   have hqw:q=w:=by
    apply bcn;intro hc
    by_cases hl:d.X q<=d.X w
    ·rcases onrow q hqn e (by lia) hl with h|h<;>lia
    ·refine g.nopt hpq hwn (by lia) (GJ hc) ⟨?_,by lia,by lia,by lia,by lia⟩
     rw[eo d p q w e.symm,e,hy];simp
   subst hqw
   have nn:¬q<q:=by lia
   simp[n3,n4,preE,e]
   simp[Dr.pre]
  ·have hqw:q≠w:=by intro h;subst h;lia
   have:=ordY h2 hqn
   have hf:d.Y p<d.Y q:=by lia
   have t:¬0<d.tr p q w:=by
    rw[dw d p w q,fl]
    have:0<(d.X w-d.X p)*(d.Y q-d.Y w):=Gs (by lia) (by lia)
    lia
   simp[n3,n4,preE,e,hqw,t]
 by_cases hqu:q=u
 ·subst hqu
  have n1:q≠w:=by lia
  have n2:p≠w:=by lia
  have n3:p≠q:=by lia
  have n4:¬q<p:=by lia
  have n5:¬w<q:=by lia
  have n6:¬q<q:=by lia
  have n7:¬d.Y w<d.Y q:=by lia
  simp[Dr.pre,n1,n2,n3,n4,n5,n6,n7]
 by_cases hpw:p=w
 ·subst hpw
  have n1:q≠p:=by lia
  have oy:=ordY h2 hqn
  by_cases e:d.Y q=d.Y p
  ·have n3:¬d.Y u<d.Y q:=by lia
   simp[Dr.pre,n1,hqu,hpu,h2,h1,e]
   lia
  ·have n3:d.Y u<d.Y q:=by lia
   have n4:d.Y p<=d.Y u:=by lia
   have t:0<d.tr p q u:=by
    rw[kj d p q u hy];exact Gs (by lia) (by lia)
   simp[Dr.pre,n1,hqu,hpu,GJ hpu,GJ hqu,h2,h1,n3,n4,e,t]
 by_cases hqw:q=w
 ·subst hqw
  have n1:p≠q:=by lia
  have n2:¬q<p:=by lia
  have oy:=ordY h2 hqn
  have n5:¬d.Y u<d.Y q:=by lia
  have n6:¬q<q:=by lia
  have t:¬0<d.tr q p u:=by
   rw[kQ d u q p,fl]
   have:0<=(d.X q-d.X u)*(d.Y q-d.Y p):=Gg (by lia) (by lia)
   grind
  simp[Dr.pre,n1,hpu,hqu,n5,n2,t]
 ·simp only[hpu,hqu,hpw,hqw,GJ hpu,GJ hqu,GJ hpw,GJ hqw,false_and,JI,G5,HU,ne_eq,not_false_eq_true,true_and]
  by_cases c:d.Y p<=d.Y u/\d.Y u<d.Y q
  ·obtain⟨c1,c2⟩:=c
   have c3:d.Y p<=d.Y w:=by lia
   have c4:d.Y w<d.Y q:=by lia
   have mv:d.tr p q u-d.tr p q w=(d.Y q-d.Y p)*(d.X w-d.X u):=by unfold Dr.tr tr6;grind
   have mv2:0<(d.Y q-d.Y p)*(d.X w-d.X u):=Gs (by lia) (by lia)
   have nD:d.tr p q w≠0:=nz g hpq hwn (by lia) c3 (by lia) (GJ hpw) (GJ hqw)
   have key:0<d.tr p q u->0<d.tr p q w:=by
    intro h
    apply bcn;intro hn
    by_cases e:d.Y p=d.Y u
    ·have e1:=kj d p q u e.symm
     have e2:=kj d p q w (by lia)
     have f1:=(@bb (d.Y q-d.Y p) (d.X p-d.X u) (by lia)).1 (by lia)
     have f2:=(@er (d.Y q-d.Y p) (d.X p-d.X w) (by lia)).1 (by lia)
     rcases onrow p hpn e (by lia) (by lia) with h|h<;>lia
    ·refine g.nocross huw hpq ⟨?_,az _ _ h (by lia)⟩
     rw[fl,fl]
     exact cD _ _ (az _ _ (by lia) (by lia)) (Gs (by lia) (by lia))
   simp only[c1,c2,c3,c4,true_and]
   have:decide (0<d.tr p q u)=decide (0<d.tr p q w):=by
    rw[Gu]
    constructor
    ·exact key
    ·intro h;lia
   rw[this];simp
  ·have c':¬(d.Y p<=d.Y w/\d.Y w<d.Y q):=by lia
   have e1:¬(d.Y p<=d.Y u/\d.Y u<d.Y q/\0<d.tr p q u):=λh=>c ⟨h.1,h.2.1⟩
   have e2:¬(d.Y p<=d.Y w/\d.Y w<d.Y q/\0<d.tr p q w):=λh=>c' ⟨h.1,h.2.1⟩
   simp[e1,e2]
theorem wQ (g:eQ d){u w p q:Nat}(huw:d.J u w)(hpq:d.J p q)(h1:u<w)(h2:p<q) :
  ((d.Om u w p q^^d.Om w u p q)^^decide (p=u/\q=w))=(d.Psi u w p^^d.Psi u w q):=by
 have hqn:=g.lt (g.symm hpq)
 have hwn:=g.lt (g.symm huw)
 rcases g.ord h1 hwn with a|a
 ·rcases g.ord h2 hqn with b|b
  ·exact tV g huw hpq h1 h2 a b
  ·exact qL g huw hpq h1 h2 a b.1
 ·exact vz g huw hpq h1 h2 a.1
variable  {d:Dr}
abbrev au:=Nat×Nat
def xs (f:au->Bool):List au->Bool
 |[]=>false
 |e :: r=>f e^^xs f r
theorem ia (f g:au->Bool):∀E,xs (λe=>f e^^g e) E=(xs f E^^xs g E)
 |[]=>rfl
 |e :: r=>by simp only[xs,ia f g r];cases f e<;>cases g e<;>cases xs f r<;>cases xs g r<;>rfl
theorem bC {f g:au->Bool}:∀{E:List au},(∀e∈E,f e=g e)->xs f E=xs g E
 |[],_=>rfl
 |e :: r,h=>by
  simp only[xs,h e (by simp),bC (λx hx=>h x (Gc _ hx))]
def cX (E:List au):Prop:=∀Q:Nat->Bool,xs (λe=>Q e.1^^Q e.2) E=false
def Dr.om (d:Dr)(E:List au)(u w:Nat):Bool:=xs (λe=>d.Om u w (min e.1 e.2) (max e.1 e.2)) E
def ce (E:List au)(u w:Nat):Bool:=xs (λe=>decide ((e.1=u/\e.2=w)\/(e.1=w/\e.2=u))) E
theorem zd (E:List au)(u w:Nat):ce E u w=ce E w u:=by
 apply bC;intro e _;rw[Gu];exact Or.comm
theorem AC (g:eQ d){u w:Nat}(huw:d.J u w)(h1:u<w){E:List au}(hE:∀e∈E,d.J e.1 e.2)(hc:cX E) :
  (d.om E u w^^d.om E w u)=ce E u w:=by
 have h:xs (λe=>((d.Om u w (min e.1 e.2) (max e.1 e.2)^^d.Om w u (min e.1 e.2) (max e.1 e.2)) ^^
   decide ((e.1=u/\e.2=w)\/(e.1=w/\e.2=u)))) E=false:=by
  rw[<-hc (d.Psi u w)]
  apply bC
  intro e he
  have hj:=hE e he
  have hne:=g.ne hj
  rcases Hf hne with hl|hl
  ·have:=wQ g huw hj h1 hl
   rw[GH (by lia),Hg (by lia),<-this]
   congr 1
   rw[Gu];lia
  ·have:=wQ g huw (g.symm hj) h1 hl
   rw[GG (by lia),HQ (by lia),Jc (d.Psi u w e.1),<-this]
   congr 1
   rw[Gu];lia
 rw[ia,ia]at h
 unfold Dr.om ce
 revert h
 generalize xs _ E=a;generalize xs _ E=b;generalize xs _ E=c
 cases a<;>cases b<;>cases c<;>simp
theorem AQ (g:eQ d){u w:Nat}(huw:d.J u w){E:List au}(hE:∀e∈E,d.J e.1 e.2)(hc:cX E) :
  (d.om E u w^^d.om E w u)=ce E u w:=by
 rcases Hf (g.ne huw) with h|h
 ·exact AC g huw h hE hc
 ·rw[Jc,zd];exact AC g (g.symm huw) h hE hc
def bJ (l:List Nat)(x:Nat):Nat:=if l.idxOf x=0 then l.getLast?.getD 0 else l.getD (l.idxOf x-1) 0
theorem iW {l:List Nat}{x:Nat}(h:x∈l):∃l1 l2,l=l1++x :: l2/\x∉l1:=by
 induction l with
 |nil=>cases h
 |cons a r ih =>
  by_cases e:a=x
  ·exact⟨[],r,by simp[e],by simp⟩
  ·have:x∈r:=by
    rcases Gh.1 h with h|h
    ·exact absurd h.symm e
    ·exact h
   obtain⟨l1,l2,e1,e2⟩:=ih this
   exact⟨a :: l1,l2,by simp[e1],by simp[e2];lia⟩
theorem lY {l1 l2:List Nat}{x:Nat}(h:x∉l1):(l1++x :: l2).idxOf x=l1.length:=by
 induction l1 with
 |nil=>simp
 |cons a r ih =>
  have h1:a≠x:=by intro e;apply h;simp[e]
  have h2:x∉r:=by intro e;apply h;simp[e]
  have h3:(a==x)=false:=by simpa using h1
  rw[J5,List.idxOf_cons,ih h2,h3];rfl
theorem je (x:Nat)(l2:List Nat):bJ (x :: l2) x=(x :: l2).getLast (by simp):=by
 unfold bJ
 simp[List.getLast?_eq_some_getLast]
theorem i6 {l1 l2:List Nat}{x:Nat}(h:x∉l1)(hn:l1≠[]):bJ (l1++x :: l2) x=l1.getLast hn:=by
 unfold bJ
 rw[lY h]
 have:l1.length≠0:=by intro e;exact hn (Im.1 e)
 rw[Gf this,Gr,GB (by lia)]
 rw[List.getLast_eq_getElem]
 rw[gge (by lia)];rfl
structure l6 (d:Dr)(ring:Nat->List Nat):Prop where
 mem:∀{u w},w∈ring u↔d.J u w
 sorted:∀u,(ring u).Pairwise (λb w=>d.pre u b w=true/\d.pre u w b=false/\b≠w)
theorem j3 (d:Dr)(u b:Nat):d.pre u b b=true:=by simp[Dr.pre]
theorem kY {l:List Nat}{x:Nat}(h:x∈l):bJ l x∈l:=by
 obtain⟨l1,l2,e,hn⟩:=iW h
 subst e
 by_cases h1:l1=[]
 ·subst h1;rw[HY,je];exact IH _
 ·rw[i6 hn h1]
  exact List.mem_append_left _ (IH _)
theorem A7 (g:eQ d){ring:Nat->List Nat}(r:l6 d ring){u v:Nat}(huv:d.J u v){E:List au}(hE:∀e∈E,d.J e.1 e.2)(hc:cX E) :
  d.om E v (bJ (ring v) u)=(d.om E v u^^ce E u v):=by
 have hm:u∈ring v:=r.mem.2 (g.symm huv)
 obtain⟨l1,l2,e,hn⟩:=iW hm
 have hs:=r.sorted v
 rw[e]at hs
 rw[Hv]at hs
 obtain⟨s1,s2,s3⟩:=hs
 rw[Hh]at s2
 have key:∃Q:Nat->Bool,∀b,d.J v b->(d.pre v b (bJ (ring v) u)^^d.pre v b u)=(decide (b=u)^^Q v):=by
  by_cases h1:l1=[]
  ·subst h1
   refine⟨λ_=>true,λb hb=>?_⟩
   have hb':b∈ring v:=r.mem.2 hb
   rw[e,HY,je]
   rw[e,HY]at hb'
   have t1:d.pre v b ((u :: l2).getLast (by simp))=true:=by
    by_cases hbl:b=(u :: l2).getLast (by simp)
    ·rw[<-hbl];exact j3 _ _ _
    ·have hall:((u :: l2).dropLast++[(u :: l2).getLast (by simp)]).Pairwise (λb w=>d.pre v b w=true/\d.pre v w b=false/\b≠w):=by
      rw[G2];exact Hh.2 s2
     rw[Hv]at hall
     have:b∈(u :: l2).dropLast:=by
      have hx:b∈(u :: l2).dropLast++[(u :: l2).getLast (by simp)]:=by
       rw[G2];exact hb'
      rcases GK.1 hx with hx|hx
      ·exact hx
      ·simp at hx;exact absurd hx (by simpa using hbl)
     exact(hall.2.2 b this _ (by simp)).1
   rw[t1]
   rcases Gh.1 hb' with hb2|hb2
   ·subst hb2;simp[j3]
   ·have:=s2.1 b hb2
    rw[this.2.1]
    have:b≠u:=GJ this.2.2
    simp[this]
  ·refine⟨λ_=>false,λb hb=>?_⟩
   have hb':b∈ring v:=r.mem.2 hb
   rw[e,i6 hn h1]
   rw[e]at hb'
   rcases GK.1 hb' with hb2|hb2
   ·have a1:=(s3 b hb2 u (by simp))
    have a2:d.pre v b (l1.getLast h1)=true:=by
     by_cases hbl:b=l1.getLast h1
     ·rw[<-hbl];exact j3 _ _ _
     ·have hall:(l1.dropLast++[l1.getLast h1]).Pairwise (λb w=>d.pre v b w=true/\d.pre v w b=false/\b≠w):=by
       rw[G2];exact s1
      rw[Hv]at hall
      have:b∈l1.dropLast:=by
       have hx:b∈l1.dropLast++[l1.getLast h1]:=by
        rw[G2];exact hb2
       rcases GK.1 hx with hx|hx
       ·exact hx
       ·simp at hx;exact absurd hx hbl
      exact(hall.2.2 b this _ (by simp)).1
    rw[a2,a1.1];simp[a1.2.2]
   ·rcases Gh.1 hb2 with hb3|hb3
    ·subst hb3
     have a1:=s3 (l1.getLast h1) (IH _) b (by simp)
     rw[a1.2.1,j3];simp
    ·have a1:=s3 (l1.getLast h1) (IH _) b (Gc _ hb3)
     have a2:=s2.1 b hb3
     rw[a1.2.1,a2.2.1];simp[GJ a2.2.2]
 obtain⟨Q,hQ⟩:=key
 have hcl:=hc (λx=>decide (x=v)&&Q v)
 have h:xs (λe=>((d.Om v (bJ (ring v) u) (min e.1 e.2) (max e.1 e.2)^^d.Om v u (min e.1 e.2) (max e.1 e.2)) ^^
   decide ((e.1=u/\e.2=v)\/(e.1=v/\e.2=u)))) E=false:=by
  rw[<-hcl]
  apply bC
  intro e he
  have hj:=hE e he
  have hne:=g.ne hj
  have aux:∀p q,d.J p q->p<q->((d.Om v (bJ (ring v) u) p q^^d.Om v u p q)^^decide ((p=u/\q=v)\/(p=v/\q=u)))
    = ((decide (p=v)&&Q v)^^(decide (q=v)&&Q v)):=by
   intro p q hpq hl
   unfold Dr.Om
   generalize hB:(d.base v p q^^decide (p=v/\d.Y q=d.Y v))=B
   by_cases hp:p=v
   ·subst hp
    have hq:q≠p:=by lia
    have:=hQ q hpq
    have h3:decide ((p=u/\q=p)\/(p=p/\q=u))=decide (q=u):=by
     rw[Gu];constructor
     ·rintro(h|h)
      ·lia
      ·exact h.2
     ·intro h;exact Hr ⟨rfl,h⟩
    rw[h3]
    simp only[hq,decide_true,JI,HA,G5,HU]
    revert this
    generalize d.pre p q (bJ (ring p) u)=x1;generalize d.pre p q u=x2;generalize decide (q=u)=x3;generalize Q p=x4
    cases x1<;>cases x2<;>cases x3<;>cases x4<;>cases B<;>simp
   ·by_cases hq:q=v
    ·subst hq
     have:=hQ p (g.symm hpq)
     have h3:decide ((p=u/\q=q)\/(p=q/\q=u))=decide (p=u):=by
      rw[Gu];constructor
      ·rintro(h|h)
       ·exact h.1
       ·exact absurd h.1 hp
      ·intro h;exact HZ ⟨h,rfl⟩
     rw[h3]
     simp only[hp,decide_true,JI,HA,G5,Hs]
     revert this
     generalize d.pre q p (bJ (ring q) u)=x1;generalize d.pre q p u=x2;generalize decide (p=u)=x3;generalize Q q=x4
     cases x1<;>cases x2<;>cases x3<;>cases x4<;>cases B<;>simp
    ·have h3:¬((p=u/\q=v)\/(p=v/\q=u)):=by lia
     rw[dqf h3]
     simp only[hp,hq,JI,G5,HU,Jv]
  rcases Hf hne with hl|hl
  ·have:=aux e.1 e.2 hj hl
   rw[GH (by lia),Hg (by lia),<-this]
  ·have:=aux e.2 e.1 (g.symm hj) hl
   rw[GG (by lia),HQ (by lia),Jc (decide (e.1=v)&&Q v),<-this]
   congr 1
   rw[Gu];lia
 rw[ia,ia]at h
 unfold Dr.om ce
 revert h
 generalize xs _ E=a;generalize xs _ E=b;generalize xs _ E=c
 cases a<;>cases b<;>cases c<;>simp
theorem vi (g:eQ d){ring:Nat->List Nat}(r:l6 d ring){u v:Nat}(huv:d.J u v){E:List au}(hE:∀e∈E,d.J e.1 e.2)(hc:cX E) :
  d.om E v (bJ (ring v) u)=d.om E u v:=by
 rw[A7 g r huv hE hc,<-AQ g huv hE hc]
 cases d.om E v u<;>cases d.om E u v<;>rfl
variable  {d:Dr}
def nxt (ring:Nat->List Nat)(e:au):au:=(e.2,bJ (ring e.2) e.1)
def aE (ring:Nat->List Nat)(e:au):Nat->au
 |0=>e
 |k+1=>nxt ring (aE ring e k)
theorem fP (ring:Nat->List Nat)(e:au)(k:Nat):aE ring e (k+1)=nxt ring (aE ring e k):=rfl
theorem dX (ring:Nat->List Nat)(e:au)(k:Nat):(aE ring e (k+1)).1=(aE ring e k).2:=rfl
theorem l6.nodup {ring:Nat->List Nat}(r:l6 d ring)(u:Nat):(ring u).Nodup :=
 (r.sorted u).imp (λh=>h.2.2)
theorem gg {l:List Nat}(hl:l.Nodup){a b:Nat}(ha:a<l.length)(hb:b<l.length)(h:l[a]=l[b]):a=b:=by
 have hp:=GT.1 hl
 rcases Nat.lt_trichotomy a b with hlt|heq|hgt
 ·exact absurd h (hp a b ha hb hlt)
 ·exact heq
 ·exact absurd h.symm (hp b a hb ha hgt)
theorem vN {l:List Nat}(hl:l.Nodup){x y:Nat}(hx:x∈l)(hy:y∈l)(h:bJ l x=bJ l y):x=y:=by
 have key:∀z∈l,∃k,∃hk:k<l.length,l[k]=z/\bJ l z=(if k=0 then l[l.length-1]'(by lia) else l[k-1]'(by lia)):=by
  intro z hz
  refine⟨l.idxOf z,IT hz,List.getElem_idxOf _,?_⟩
  unfold bJ
  have hlt:=IT hz
  split
  ·rename_i h0
   rw[List.getLast?_eq_getElem?,gge (by lia)];rfl
  ·rename_i h0
   rw[Gr,gge (by lia)];rfl
 obtain⟨i,hi,ei,pi⟩:=key x hx
 obtain⟨j,hj,ej,pj⟩:=key y hy
 have inj:∀a b (ha:a<l.length) (hb:b<l.length),l[a]=l[b]->a=b:=by
  intro a b ha hb e
  exact gg hl ha hb e
 rw[pi,pj]at h
 have:i=j:=by
  by_cases h1:i=0<;>by_cases h2:j=0
  ·lia
  ·rw[Gk h1,Gf h2]at h
   have:=inj _ _ _ _ h;lia
  ·rw[Gf h1,Gk h2]at h
   have:=inj _ _ _ _ h;lia
  ·rw[Gf h1,Gf h2]at h
   have:=inj _ _ _ _ h;lia
 subst this
 rw[<-ei,<-ej]
theorem EV (g:eQ d){ring:Nat->List Nat}(r:l6 d ring){e:au}(h:d.J e.1 e.2):d.J (nxt ring e).1 (nxt ring e).2 :=
 r.mem.1 (kY (r.mem.2 (g.symm h)))
theorem mi (g:eQ d){ring:Nat->List Nat}(r:l6 d ring){a b:au}(ha:d.J a.1 a.2)(hb:d.J b.1 b.2)(h:nxt ring a=nxt ring b):a=b:=by
 unfold nxt at h
 have h1:a.2=b.2:=(Io h).1
 have h2:=(Io h).2
 rw[h1]at h2
 have:=vN (r.nodup b.2) (r.mem.2 (by rw[<-h1];exact g.symm ha)) (r.mem.2 (g.symm hb)) h2
 exact Prod.ext this h1
theorem eT (g:eQ d){ring:Nat->List Nat}(r:l6 d ring){e:au}(h:d.J e.1 e.2):∀k,d.J (aE ring e k).1 (aE ring e k).2
 |0=>h
 |k+1=>EV g r (eT g r h k)
theorem n0 {l:List Nat}(hl:l.Nodup){F:Nat->Bool}(h:∀x∈l,F (bJ l x)=F x):∀x∈l,∀y∈l,F x=F y:=by
 have key:∀k (hk:k<l.length),F l[k]=F (l[0]'(by lia)):=by
  intro k
  induction k with
  |zero=>intro _;rfl
  |succ k ih =>
   intro hk
   rw[<-ih (by lia)]
   have hm:l[k+1]∈l:=GC _
   rw[<-h _ hm]
   congr 1
   unfold bJ
   have:l.idxOf l[k+1]=k+1:=by
    have h1:=IT hm
    have h2:=List.getElem_idxOf h1
    exact gg hl _ _ h2
   rw[this,Gf (by lia),Gr]
   simp only[Nat.add_sub_cancel]
   rw[gge (by lia)];rfl
 intro x hx y hy
 obtain⟨i,hi,e1⟩:=GI hx
 obtain⟨j,hj,e2⟩:=GI hy
 rw[<-e1,<-e2,key i hi,key j hj]
def tK (d:Dr)(ok:Nat->Prop):Prop :=
 ∀m:Nat->Bool,(∀a b,d.J a b->ok a->ok b->m a=m b)->∀a b,a<d.n->b<d.n->ok a->ok b->m a=m b
theorem yC {E:List au}(hn:E.Nodup){u w:Nat}(huw:u≠w):ce E u w=(decide ((u,w)∈E)^^decide ((w,u)∈E)):=by
 induction E with
 |nil=>simp[ce,xs]
 |cons e r ih =>
  rw[HN]at hn
  have:=ih hn.2
  unfold ce at this ⊢
  rw[xs,this]
  obtain⟨a,b⟩:=e
  simp only[Gh,Prod.mk.injEq]
  by_cases h1:a=u/\b=w
  ·obtain⟨rfl,rfl⟩:=h1
   have h2:(a,b)∉r:=hn.1
   simp[h2,huw]
  ·by_cases h2:a=w/\b=u
   ·obtain⟨rfl,rfl⟩:=h2
    have h3:(a,b)∉r:=hn.1
    simp[h3,huw]
   ·have t1:¬((a=u/\b=w)\/(a=w/\b=u)):=by lia
    have t2:¬(u=a/\w=b):=by lia
    have t3:¬(w=a/\u=b):=by lia
    simp only[t1,t2,t3,JI,Hs,false_or]
theorem kI (g:eQ d){ring:Nat->List Nat}(r:l6 d ring){E:List au}(hE:∀e∈E,d.J e.1 e.2)(hc:cX E)(hn:E.Nodup)
  (ok:Nat->Prop) (hk:tK d ok) (hnx:∀a b,d.J a b->ok b->((a,b)∈E↔nxt ring (a,b)∈E)) :
  ∀a b a' b',d.J a b->d.J a' b'->ok a->ok a' ->
   (d.om E a b^^decide ((a,b)∈E))=(d.om E a' b'^^decide ((a',b')∈E)):=by
 have rev:∀a b,d.J a b->(d.om E a b^^decide ((a,b)∈E))=(d.om E b a^^decide ((b,a)∈E)):=by
  intro a b h
  have h1:=AQ g h hE hc
  rw[yC hn (g.ne h)]at h1
  revert h1
  generalize d.om E a b=x1;generalize d.om E b a=x2;generalize decide ((a,b)∈E)=x3;generalize decide ((b,a)∈E)=x4
  cases x1<;>cases x2<;>cases x3<;>cases x4<;>simp
 have rot:∀u,ok u->∀x∈ring u,∀y∈ring u,(d.om E u x^^decide ((u,x)∈E))=(d.om E u y^^decide ((u,y)∈E)):=by
  intro u hu
  refine n0 (F:=λx=>d.om E u x^^decide ((u,x)∈E)) (r.nodup u) ?_
  intro x hx
  have hj:d.J u x:=r.mem.1 hx
  show(d.om E u (bJ (ring u) x)^^decide ((u,bJ (ring u) x)∈E))=_
  rw[vi g r (g.symm hj) hE hc,rev u x hj]
  have:=hnx x u (g.symm hj) hu
  have e:decide ((u,bJ (ring u) x)∈E)=decide ((x,u)∈E):=by
   rw[Gu];exact this.symm
  rw[e]
 intro a b a' b' h h' ha ha'
 have hm:=hk (λu=>match ring u with|[]=>false|x :: _=>d.om E u x^^decide ((u,x)∈E))
 have val:∀u x,ok u->x∈ring u->(match ring u with|[]=>false|x :: _=>d.om E u x^^decide ((u,x)∈E))=(d.om E u x^^decide ((u,x)∈E)):=by
  intro u x hu hx
  have:=rot u hu
  cases hr:ring u with
  |nil=>rw[hr]at hx;cases hx
  |cons y l =>
   rw[hr]at this hx
   simp only
   exact this y (by simp) x hx
 have:=hm (by
  intro p q hpq hp hq
  rw[val p q hp (r.mem.2 hpq),val q p hq (r.mem.2 (g.symm hpq))]
  exact rev p q hpq) a a' (g.lt h) (g.lt h') ha ha'
 rw[val a b ha (r.mem.2 h),val a' b' ha' (r.mem.2 h')]at this
 exact this
def seg (ring:Nat->List Nat)(e:au)(i:Nat):Nat->List au
 |0=>[]
 |k+1=>aE ring e i :: seg ring e (i+1) k
theorem bR (ring:Nat->List Nat)(e x:au):∀k i,x∈seg ring e i k↔∃j,i<=j/\j<i+k/\x=aE ring e j
 |0,i=>by simp[seg];lia
 |k+1,i=>by
  rw[seg,Gh,bR ring e x k (i+1)]
  constructor
  ·rintro(h|⟨j,h1,h2,h3⟩)
   ·exact⟨i,by lia,by lia,h⟩
   ·exact⟨j,by lia,by lia,h3⟩
  ·rintro⟨j,h1,h2,h3⟩
   by_cases h:j=i
   ·subst h;exact HZ h3
   ·exact Hr ⟨j,by lia,by lia,h3⟩
theorem fO (ring:Nat->List Nat)(e:au):∀k i,(∀a b,i<=a->a<b->b<i+k->aE ring e a≠aE ring e b)->(seg ring e i k).Nodup
 |0,_,_=>by simp[seg]
 |k+1,i,h=>by
  rw[seg,HN]
  constructor
  ·rw[bR]
   rintro⟨j,h1,h2,h3⟩
   exact h i j (by lia) (by lia) (by lia) h3
  ·exact fO ring e k (i+1) (λa b h1 h2 h3=>h a b (by lia) h2 (by lia))
theorem sN (ring:Nat->List Nat)(e:au)(Q:Nat->Bool):∀k i,xs (λe=>Q e.1^^Q e.2) (seg ring e i k)=(Q (aE ring e i).1^^Q (aE ring e (i+k)).1)
 |0,i=>by simp[seg,xs]
 |k+1,i=>by
  rw[seg,xs,sN ring e Q k (i+1),dX]
  have:i+1+k=i+(k+1):=by lia
  rw[this]
  generalize Q (aE ring e i).1=a;generalize Q (aE ring e i).2=b;generalize Q (aE ring e (i+(k+1))).1=c
  cases a<;>cases b<;>cases c<;>rfl
theorem fU (ring:Nat->List Nat)(e:au){i k:Nat}(h:(aE ring e i).1=(aE ring e (i+k)).1):cX (seg ring e i k):=by
 intro Q
 rw[sN,h];simp
theorem md (g:eQ d){ring:Nat->List Nat}(r:l6 d ring){E:List au}(hE:∀e∈E,d.J e.1 e.2)(hc:cX E){e:au}(he:d.J e.1 e.2) :
  ∀k,d.om E (aE ring e k).1 (aE ring e k).2=d.om E e.1 e.2
 |0=>rfl
 |k+1=>by
  rw[<-md g r hE hc he k]
  exact vi g r (eT g r he k) hE hc
theorem re (g:eQ d){ring:Nat->List Nat}(r:l6 d ring){e:au}(he:d.J e.1 e.2){N:Nat}
  (hN:aE ring e N=e) (hd:∀a b,a<b->b<N->aE ring e a≠aE ring e b)
  (hk:∀v,v<d.n->tK d (λu=>u≠v)) {i j:Nat} (hij:i<j) (hj:j<N):(aE ring e i).1≠(aE ring e j).1:=by
 intro hv
 have hEJ:=eT g r he
 let E:=seg ring e i (j-i)
 have hE:∀x∈E,d.J x.1 x.2:=by
  intro x hx
  obtain⟨k,_,_,rfl⟩:=(bR ring e x _ _).1 hx
  exact hEJ k
 have hc:cX E:=fU ring e (by rw[hv];congr 2;lia)
 have hn:E.Nodup:=fO ring e _ _ (λa b _ h2 h3=>hd a b h2 (by lia))
 let v:=(aE ring e i).1
 have nx1:(aE ring e i).2≠v:=GJ (g.ne (hEJ i))
 have nx2:(aE ring e j).2≠v:=by
  show _≠(aE ring e i).1
  rw[hv];exact GJ (g.ne (hEJ j))
 have hlt:i+1<j:=by
  apply bcn;intro hc'
  have:j=i+1:=by lia
  subst this
  rw[dX]at hv
  exact g.ne (hEJ i) hv
 have sc:=kI g r hE hc hn (λu=>u≠v) (hk v (g.lt (hEJ i))) (by
  intro a b hab hb
  constructor
  ·intro h
   obtain⟨k,h1,h2,h3⟩:=(bR ring e _ _ _).1 h
   rw[h3]
   refine(bR ring e _ _ _).2 ⟨k+1,by lia,?_,rfl⟩
   apply bcn;intro hn'
   have:k+1=j:=by lia
   have hb2:(aE ring e (k+1)).1=b:=by rw[dX,<-h3]
   rw[this,<-hv]at hb2
   exact hb hb2.symm
  ·intro h
   obtain⟨k,h1,h2,h3⟩:=(bR ring e _ _ _).1 h
   have hki:k≠i:=by
    intro e';subst e'
    have:b=(aE ring e k).1:=by rw[<-h3];rfl
    exact hb this
   obtain⟨k',rfl⟩:∃k',k=k'+1:=⟨k-1,by lia⟩
   have:=mi g r hab (hEJ k') h3
   rw[this]
   exact(bR ring e _ _ _).2 ⟨k',by lia,by lia,rfl⟩)
 have f1:=sc _ _ _ _ (hEJ (i+1)) (hEJ (j+1)) (by rw[dX];exact nx1) (by rw[dX];exact nx2)
 have m1:((aE ring e (i+1)).1,(aE ring e (i+1)).2)∈E:=(bR ring e _ _ _).2 ⟨i+1,by lia,by lia,rfl⟩
 have m2:((aE ring e (j+1)).1,(aE ring e (j+1)).2)∉E:=by
  intro h
  obtain⟨k,h1,h2,h3⟩:=(bR ring e _ _ _).1 h
  have h3':aE ring e (j+1)=aE ring e k:=h3
  by_cases hjn:j+1<N
  ·exact hd k (j+1) (by lia) hjn h3'.symm
  ·have hjN:j+1=N:=by lia
   rw[hjN,hN]at h3'
   have:k=0:=by
    apply bcn;intro hk0
    exact hd 0 k (by lia) (by lia) h3'
   have hi0:i=0:=by lia
   have:(aE ring e (j+1)).1=v:=by
    show _=(aE ring e i).1
    rw[hjN,hN,hi0];rfl
   rw[dX]at this
   exact nx2 this
 rw[md g r hE hc he,md g r hE hc he,dqt m1,dqf m2]at f1
 revert f1
 cases d.om E e.1 e.2<;>simp
theorem pF (g:eQ d){ring:Nat->List Nat}(r:l6 d ring){e:au}(he:d.J e.1 e.2){N:Nat}(hN0:0<N)
  (hN:aE ring e N=e) (hd:∀a b,a<b->b<N->aE ring e a≠aE ring e b)
  (hk:tK d (λ_=>True)) {o:au} (ho:d.J o.1 o.2) (hoz:d.om (seg ring e 0 N) o.1 o.2=false) (hoN:o∉seg ring e 0 N)
  {x:au} (hx:d.J x.1 x.2):d.om (seg ring e 0 N) x.1 x.2=decide (x∈seg ring e 0 N):=by
 have hEJ:=eT g r he
 have hE:∀x∈seg ring e 0 N,d.J x.1 x.2:=by
  intro x hx
  obtain⟨k,_,_,rfl⟩:=(bR ring e x _ _).1 hx
  exact hEJ k
 have hc:cX (seg ring e 0 N):=fU ring e (by rw[Ih,hN];rfl)
 have hn:(seg ring e 0 N).Nodup:=fO ring e _ _ (λa b _ h2 h3=>hd a b h2 (by lia))
 have sc:=kI g r hE hc hn (λ_=>True) hk (by
  intro a b hab _
  constructor
  ·intro h
   obtain⟨k,h1,h2,h3⟩:=(bR ring e _ _ _).1 h
   rw[h3]
   by_cases hkN:k+1<N
   ·exact(bR ring e _ _ _).2 ⟨k+1,by lia,by lia,rfl⟩
   ·have:k+1=N:=by lia
    refine(bR ring e _ _ _).2 ⟨0,by lia,by lia,?_⟩
    rw[<-fP,this,hN];rfl
  ·intro h
   obtain⟨k,h1,h2,h3⟩:=(bR ring e _ _ _).1 h
   by_cases hk0:k=0
   ·have:nxt ring (a,b)=nxt ring (aE ring e (N-1)):=by
     rw[h3,hk0,<-fP]
     have:N-1+1=N:=by lia
     rw[this,hN];rfl
    rw[mi g r hab (hEJ _) this]
    exact(bR ring e _ _ _).2 ⟨N-1,by lia,by lia,rfl⟩
   ·obtain⟨k',rfl⟩:∃k',k=k'+1:=⟨k-1,by lia⟩
    rw[mi g r hab (hEJ k') h3]
    exact(bR ring e _ _ _).2 ⟨k',by lia,by lia,rfl⟩)
 have:=sc _ _ _ _ hx ho trivial trivial
 rw[hoz,dqf (show(o.1,o.2)∉_ from hoN)]at this
 revert this
 show(d.om (seg ring e 0 N) x.1 x.2^^decide (x∈seg ring e 0 N))=_->_
 generalize d.om (seg ring e 0 N) x.1 x.2=a;generalize decide (x∈seg ring e 0 N)=b
 cases a<;>cases b<;>simp
variable  {d:Dr}
def Dr.trz (d:Dr)(p q:Nat)(zx zy:Int):Int:=tr6 (d.X p) (d.Y p) (d.X q) (d.Y q) zx zy
def Dr.cz (d:Dr)(zx zy:Int)(p q:Nat):Bool:=decide (d.Y p<=zy/\zy<d.Y q/\0<d.trz p q zx zy)
def Dr.num (d:Dr)(zx zy:Int)(p q:Nat):Int:=2*d.trz p q zx zy+(d.X q-d.X p)
def Dr.den (d:Dr)(p q:Nat):Int:=d.Y q-d.Y p
theorem xB (g:eQ d){u w p q:Nat}(huw:d.J u w)(hpq:d.J p q)(h1:u<w)(h2:p<q)(hy:d.Y u<d.Y w) :
  d.Om u w p q=if p=u then decide (q=w\/(d.Y u<d.Y q/\d.tr u w q<0)) else decide (d.Y p<=d.Y u/\d.Y u<d.Y q/\0<d.tr p q u):=by
 have hqn:=g.lt (g.symm hpq)
 unfold Dr.Om Dr.base
 by_cases hpu:p=u
 ·subst hpu
  have n1:q≠p:=by lia
  have s1:=dw d p q w
  have hp2:d.pre p q w=decide (q=w\/0<d.tr p q w):=by
   unfold Dr.pre;rw[Gu];constructor
   ·rintro(h|h|h)
    ·exact HZ h
    ·lia
    ·exact Hr h.2
   ·rintro(h|h)
    ·exact HZ h
    ·exact Hr (Hr ⟨HZ ⟨h2,h1⟩,h⟩)
  rcases g.ord h2 hqn with hf|hf
  ·have e1:¬d.Y q=d.Y p:=by lia
   simp only[ne_eq,not_true_eq_false,false_and,JI,e1,and_false,HU,decide_true,HA,n1,G5,hp2,if_true,Hs,hf,true_and,Gu]
   lia
  ·have t1:0<d.tr p q w:=by
    rw[eo d p q w hf.1];exact Gs (by lia) (by lia)
   have e1:d.Y q=d.Y p:=by lia
   have e2:¬d.Y p<d.Y q:=by lia
   have e3:q≠w:=by intro e;subst e;lia
   simp[n1,hp2,t1,e1,e3]
 ·rw[Gf hpu]
  by_cases hqu:q=u
  ·subst hqu
   have e1:d.pre q p w=false:=by
    simp[Dr.pre];lia
   simp[e1,hpu]
  ·simp[hpu,hqu,GJ hpu,GJ hqu]
theorem Ff (ux uy wx wy px py qx qy zx zy:Int) :
 (wy-uy)*tr6 px py qx qy zx zy-(qy-py)*tr6 ux uy wx wy zx zy=(wy-uy)*tr6 px py qx qy ux uy+(tr6 px py qx qy wx wy-tr6 px py qx qy ux uy)*(zy-uy):=by
 unfold tr6;grind
theorem yT (ux uy wx wy px py qx qy zx zy:Int) :
 (wy-uy)*(2*tr6 px py qx qy zx zy+(qx-px))-(qy-py)*(2*tr6 ux uy wx wy zx zy+(wx-ux))
  = 2*((wy-uy)*tr6 px py qx qy ux uy)+(tr6 px py qx qy wx wy-tr6 px py qx qy ux uy)*(2*zy+1-2*uy):=by
 unfold tr6;grind
theorem DP (ux uy wx wy px py qx qy:Int) :
 (wy-uy)*tr6 px py qx qy wx wy=(wy-uy)*tr6 px py qx qy ux uy+(tr6 px py qx qy wx wy-tr6 px py qx qy ux uy)*(wy-uy):=by
 grind
theorem rD (c K s z m v0:Int)(hs:0<v0+K*(s-c))(hm:0<=v0+K*(m-c))(h1:s<=z)(h2:z<m):0<v0+K*(z-c):=by
 by_cases hK:0<=K
 ·have:0<=K*(z-s):=Gg hK (by lia)
  have e:v0+K*(z-c)=(v0+K*(s-c))+K*(z-s):=by grind
  lia
 ·have:0<(-K)*(m-z):=Gs (by lia) (by lia)
  have e:v0+K*(z-c)=(v0+K*(m-c))+(-K)*(m-z):=by grind
  lia
theorem lm (c K s z m v0:Int)(hs:0<v0+K*(s-c))(hm:0<=v0+K*(m-c))(h1:s<=z)(h2:z<m):0<2*v0+K*(2*z+1-2*c):=by
 by_cases hK:0<=K
 ·have:0<=K*(2*z+1-2*s):=Gg hK (by lia)
  have e:2*v0+K*(2*z+1-2*c)=2*(v0+K*(s-c))+K*(2*z+1-2*s):=by grind
  lia
 ·have:0<(-K)*(2*m-2*z-1):=Gs (by lia) (by lia)
  have e:2*v0+K*(2*z+1-2*c)=2*(v0+K*(m-c))+(-K)*(2*m-2*z-1):=by grind
  lia
theorem jn (c K s z m v0:Int)(hs:v0+K*(s-c)<0)(hm:v0+K*(m-c)<=0)(h1:s<=z)(h2:z<m):2*v0+K*(2*z+1-2*c)<0:=by
 have:=lm c (-K) s z m (-v0) (by grind) (by grind) h1 h2
 grind
theorem wX {a b zA zC v:Int}(ha:0<a)(hb:0<b)(hA:0<zA)(h:a*zC-b*zA=v)(hv:0<=v):0<zC:=by
 have h1:0<b*zA:=Gs hb hA
 exact(bb ha).1 (by lia)
theorem Am (g:eQ d){u w p q:Nat}{zx zy:Int}(huw:d.J u w)(hpq:d.J p q)(hu:d.Y u<=zy)(hw:zy<d.Y w)(hp:d.Y p<=zy)(hq:zy<d.Y q)
  (hA:0<d.trz u w zx zy) (hne:¬(p=u/\q=w))
  (hmin:0<d.trz p q zx zy->d.num zx zy u w*d.den p q<=d.num zx zy p q*d.den u w) :
  (0<d.trz p q zx zy↔if p=u then d.tr u w q<0 else if d.Y p<=d.Y u then 0<d.tr p q u else d.tr u w p<0):=by
 have hun:=g.lt huw
 have hwn:=g.lt (g.symm huw)
 have hpn:=g.lt hpq
 have hqn:=g.lt (g.symm hpq)
 have iA:=idA (d.X u) (d.Y u) (d.X w) (d.Y w) (d.X p) (d.Y p) (d.X q) (d.Y q)
 have iB:=idB (d.X u) (d.Y u) (d.X w) (d.Y w) (d.X p) (d.Y p) (d.X q) (d.Y q)
 have iD:=DP (d.X u) (d.Y u) (d.X w) (d.Y w) (d.X p) (d.Y p) (d.X q) (d.Y q)
 have iz:=Ff (d.X u) (d.Y u) (d.X w) (d.Y w) (d.X p) (d.Y p) (d.X q) (d.Y q) zx zy
 have iN:=yT (d.X u) (d.Y u) (d.X w) (d.Y w) (d.X p) (d.Y p) (d.X q) (d.Y q) zx zy
 change -(d.Y q-d.Y p)*d.tr u w p=(d.Y w-d.Y u)*d.tr p q u+(d.tr p q w-d.tr p q u)*(d.Y p-d.Y u) at iA
 change -(d.Y q-d.Y p)*d.tr u w q=(d.Y w-d.Y u)*d.tr p q u+(d.tr p q w-d.tr p q u)*(d.Y q-d.Y u) at iB
 change (d.Y w-d.Y u)*d.tr p q w=(d.Y w-d.Y u)*d.tr p q u+(d.tr p q w-d.tr p q u)*(d.Y w-d.Y u) at iD
 change (d.Y w-d.Y u)*d.trz p q zx zy-(d.Y q-d.Y p)*d.trz u w zx zy=(d.Y w-d.Y u)*d.tr p q u+(d.tr p q w-d.tr p q u)*(zy-d.Y u) at iz
 change (d.Y w-d.Y u)*d.num zx zy p q-(d.Y q-d.Y p)*d.num zx zy u w=2*((d.Y w-d.Y u)*d.tr p q u)+(d.tr p q w-d.tr p q u)*(2*zy+1-2*d.Y u) at iN
 have hmin':0<d.trz p q zx zy->0<=(d.Y w-d.Y u)*d.num zx zy p q-(d.Y q-d.Y p)*d.num zx zy u w:=by
  intro h
  have:=hmin h
  unfold Dr.den at this
  rw[Ii (d.Y w-d.Y u),Ii (d.Y q-d.Y p)]
  lia
 rw[iN]at hmin'
 have a0:0<d.Y w-d.Y u:=by lia
 have b0:0<d.Y q-d.Y p:=by lia
 have nb:∀x:Int,-(d.Y q-d.Y p)*x=(d.Y q-d.Y p)*(-x):=by intro x;grind
 rw[nb]at iA iB
 generalize hv0:(d.Y w-d.Y u)*d.tr p q u=v0 at *
 generalize hK:d.tr p q w-d.tr p q u=K at *
 by_cases hpu:p=u
 ·subst hpu
  rw[Gk rfl]
  have hqw:q≠w:=λe=>hne ⟨rfl,e⟩
  have hC:d.tr p q p=0:=kg d p q
  have v00:v0=0:=by rw[<-hv0,hC];simp
  have nB:d.tr p w q≠0:=by
   by_cases hh:d.Y q<=d.Y w
   ·exact nz g huw hqn (by lia) (by lia) hh (by intro e;subst e;lia) hqw
   ·have:=nz g hpq hwn (by lia) (by lia) (by lia) (by intro e;subst e;lia) (GJ hqw)
    have:=dw d p q w
    lia
  constructor
  ·intro h
   apply bcn;intro hn
   have hB:0<d.tr p w q:=by lia
   have e1:K*(d.Y q-d.Y p)<0:=by
    have:(d.Y q-d.Y p)*(- d.tr p w q)<0:=az _ _ b0 (by lia)
    lia
   have e2:K<0:=by
    rw[Ii]at e1;exact(er b0).1 e1
   have e3:=hmin' h
   have:0<(-K)*(2*zy+1-2*d.Y p):=Gs (by lia) (by lia)
   have e:(-K)*(2*zy+1-2*d.Y p)=- (K*(2*zy+1-2*d.Y p)):=by grind
   lia
  ·intro h
   have e1:0<K*(d.Y q-d.Y p):=by
    have:0<(d.Y q-d.Y p)*(- d.tr p w q):=Gs b0 (by lia)
    lia
   have e2:0<K:=by
    rw[Ii]at e1;exact(bb b0).1 e1
   have:0<=K*(zy-d.Y p):=Gg (by lia) (by lia)
   exact wX a0 b0 hA iz (by lia)
 ·rw[Gf hpu]
  by_cases hpy:d.Y p<=d.Y u
  ·rw[Gk hpy]
   have nC:d.tr p q u≠0:=nz g hpq hun (by lia) hpy (by lia) (GJ hpu) (by intro e;subst e;lia)
   have sC:0<d.tr p q u\/d.tr p q u<0:=by lia
   have up:(0<d.tr p q u->∃m,zy<m/\0<=v0+K*(m-d.Y u))/\(d.tr p q u<0->∃m,zy<m/\v0+K*(m-d.Y u)<=0):=by
    by_cases hqw:q=w
    ·subst hqw
     have hD:d.tr p q q=0:=cR d p q
     rw[hD]at iD
     simp at iD
     exact⟨λ_=>⟨_,hw,by lia⟩,λ_=>⟨_,hw,by lia⟩⟩
    ·by_cases hh:d.Y q<=d.Y w
     ·have l:=L1 g huw hpq hpy (by lia) hh hpu hqw
      constructor
      ·intro h;exact⟨d.Y q,hq,by rw[<-iB];exact Gg (by lia) (by lia)⟩
      ·intro h;exact⟨d.Y q,hq,by
        rw[<-iB]
        have:=az (d.Y q-d.Y p) (- d.tr u w q) b0 (by lia)
        lia⟩
     ·have l:=L2 g huw hpq hpy (by lia) (by lia) hpu hqw
      constructor
      ·intro h;exact⟨d.Y w,hw,by rw[<-iD];exact Gg (by lia) (by lia)⟩
      ·intro h;exact⟨d.Y w,hw,by
        rw[<-iD]
        have:=az (d.Y w-d.Y u) (d.tr p q w) a0 (by lia)
        lia⟩
   constructor
   ·intro h
    apply bcn;intro hn
    have hC:d.tr p q u<0:=sC.resolve_left hn
    obtain⟨m,m1,m2⟩:=up.2 hC
    have v0n:v0<0:=by rw[<-hv0];exact az _ _ a0 hC
    have t:=jn (d.Y u) K (d.Y u) zy m v0 (by simpa using v0n) m2 hu m1
    exact absurd (hmin' h) (Int.not_le.2 t)
   ·intro hC
    obtain⟨m,m1,m2⟩:=up.1 hC
    have v0p:0<v0:=by rw[<-hv0];exact Gs a0 hC
    have t:=rD (d.Y u) K (d.Y u) zy m v0 (by simpa using v0p) m2 hu m1
    exact wX a0 b0 hA iz (Jd t)
  ·rw[Gf hpy]
   have nA:d.tr u w p≠0:=nz g huw hpn (by lia) (by lia) (by lia) hpu (by intro e;subst e;lia)
   have sA:d.tr u w p<0\/0<d.tr u w p:=by lia
   have up:(d.tr u w p<0->∃m,zy<m/\0<=v0+K*(m-d.Y u))/\(0<d.tr u w p->∃m,zy<m/\v0+K*(m-d.Y u)<=0):=by
    by_cases hqw:q=w
    ·subst hqw
     have hD:d.tr p q q=0:=cR d p q
     rw[hD]at iD
     simp at iD
     exact⟨λ_=>⟨_,hw,by lia⟩,λ_=>⟨_,hw,by lia⟩⟩
    ·by_cases hh:d.Y q<=d.Y w
     ·have l:=L2 g hpq huw (by lia) (by lia) hh (GJ hpu) (GJ hqw)
      constructor
      ·intro h;exact⟨d.Y q,hq,by rw[<-iB];exact Gg (by lia) (by lia)⟩
      ·intro h;exact⟨d.Y q,hq,by
        rw[<-iB]
        have:=az (d.Y q-d.Y p) (- d.tr u w q) b0 (by lia)
        lia⟩
     ·have l:=L1 g hpq huw (by lia) (by lia) (by lia) (GJ hpu) (GJ hqw)
      constructor
      ·intro h;exact⟨d.Y w,hw,by rw[<-iD];exact Gg (by lia) (by lia)⟩
      ·intro h;exact⟨d.Y w,hw,by
        rw[<-iD]
        have:=az (d.Y w-d.Y u) (d.tr p q w) a0 (by lia)
        lia⟩
   constructor
   ·intro h
    apply bcn;intro hn
    have hA':0<d.tr u w p:=sA.resolve_left hn
    obtain⟨m,m1,m2⟩:=up.2 hA'
    have v0n:v0+K*(d.Y p-d.Y u)<0:=by rw[<-iA];exact az _ _ b0 (by lia)
    have t:=jn (d.Y u) K (d.Y p) zy m v0 v0n m2 hp m1
    exact absurd (hmin' h) (Int.not_le.2 t)
   ·intro hC
    obtain⟨m,m1,m2⟩:=up.1 hC
    have v0p:0<v0+K*(d.Y p-d.Y u):=by rw[<-iA];exact Gs b0 (by lia)
    have t:=rD (d.Y u) K (d.Y p) zy m v0 v0p m2 hp m1
    exact wX a0 b0 hA iz (Jd t)
def Dr.Pz (d:Dr)(zy:Int)(u w v:Nat):Bool:=decide (d.Y u<d.Y v/\d.Y v<=zy/\d.tr u w v<0)
theorem yw (g:eQ d){u w p q:Nat}{zx zy:Int}(huw:d.J u w)(hpq:d.J p q)(h1:u<w)(h2:p<q)
  (hz:d.cz zx zy u w=true) (hmin:d.cz zx zy p q=true->d.num zx zy u w*d.den p q<=d.num zx zy p q*d.den u w) :
  (d.cz zx zy p q^^d.Om u w p q)=(d.Pz zy u w p^^d.Pz zy u w q):=by
 have hpn:=g.lt hpq
 have hqn:=g.lt (g.symm hpq)
 have hwn:=g.lt (g.symm huw)
 have hun:=g.lt huw
 unfold Dr.cz at hz
 have hz:=FY hz
 obtain⟨hu,hw,hA⟩:=hz
 have hy:d.Y u<d.Y w:=by lia
 rw[xB g huw hpq h1 h2 hy]
 have hpqy:d.Y p<=d.Y q:=by rcases g.ord h2 hqn with h|h<;>lia
 by_cases he:p=u/\q=w
 ·obtain⟨rfl,rfl⟩:=he
  have e1:d.cz zx zy p q=true:=by unfold Dr.cz;exact dqt ⟨hu,hw,hA⟩
  have e2:d.Pz zy p q p=false:=by unfold Dr.Pz;exact dqf (by lia)
  have e3:d.Pz zy p q q=false:=by unfold Dr.Pz;exact dqf (by lia)
  rw[e1,e2,e3];simp
 have pz1:∀v,¬(d.Y u<d.Y v/\d.Y v<=zy)->d.Pz zy u w v=false:=by
  intro v h;unfold Dr.Pz;exact dqf (λx=>h ⟨x.1,x.2.1⟩)
 have pz2:∀v,d.Y u<d.Y v->d.Y v<=zy->d.Pz zy u w v=decide (d.tr u w v<0):=by
  intro v h h';unfold Dr.Pz;simp[h,h']
 by_cases hcz:d.Y p<=zy/\zy<d.Y q
 ·
  obtain⟨c1,c2⟩:=hcz
  have czE:d.cz zx zy p q=decide (0<d.trz p q zx zy):=by unfold Dr.cz;simp[c1,c2]
  have zo:=Am g huw hpq hu hw c1 c2 hA he (λh=>hmin (by rw[czE];exact dqt h))
  rw[pz1 q (by lia),HU,czE]
  by_cases hpu:p=u
  ·subst hpu
   rw[Gk rfl]at zo ⊢
   rw[pz1 p (by lia)]
   have hqw:q≠w:=λe=>he ⟨rfl,e⟩
   have:(q=w\/(d.Y p<d.Y q/\d.tr p w q<0))↔0<d.trz p q zx zy:=by
    rw[zo];constructor
    ·rintro(h|h)
     ·exact absurd h hqw
     ·exact h.2
    ·intro h;exact Hr ⟨by lia,h⟩
   simp only[this,Jv]
  ·rw[Gf hpu]at zo ⊢
   by_cases hpy:d.Y p<=d.Y u
   ·rw[Gk hpy]at zo
    rw[pz1 p (by lia)]
    have:(d.Y p<=d.Y u/\d.Y u<d.Y q/\0<d.tr p q u)↔0<d.trz p q zx zy:=by
     rw[zo];constructor
     ·exact λh=>h.2.2
     ·exact λh=>⟨hpy,by lia,h⟩
    simp only[this,Jv]
   ·rw[Gf hpy]at zo
    rw[pz2 p (by lia) c1]
    have:¬(d.Y p<=d.Y u/\d.Y u<d.Y q/\0<d.tr p q u):=λh=>hpy h.1
    rw[dqf this,HU,Gu.2 zo]
 ·have czE:d.cz zx zy p q=false:=by unfold Dr.cz;exact dqf (λh=>hcz ⟨h.1,h.2.1⟩)
  rw[czE,Hs]
  by_cases c1:zy<d.Y p
  ·rw[pz1 p (by lia),pz1 q (by lia)]
   by_cases hpu:p=u
   ·subst hpu;lia
   ·rw[Gf hpu]
    have:¬(d.Y p<=d.Y u/\d.Y u<d.Y q/\0<d.tr p q u):=by lia
    rw[dqf this];rfl
  ·have c2:d.Y q<=zy:=by lia
   by_cases hpu:p=u
   ·subst hpu
    rw[Gk rfl,pz1 p (by lia),Hs]
    have hqw:q≠w:=λe=>he ⟨rfl,e⟩
    unfold Dr.Pz
    rw[Gu]
    constructor
    ·rintro(h|h)
     ·exact absurd h hqw
     ·exact⟨h.1,c2,h.2⟩
    ·intro h;exact Hr ⟨h.1,h.2.2⟩
   ·rw[Gf hpu]
    have hqw:q≠w:=by intro e;subst e;lia
    have hpw:p≠w:=by intro e;subst e;lia
    by_cases c3:d.Y p<=d.Y u
    ·rw[pz1 p (by lia),Hs]
     unfold Dr.Pz
     rw[Gu]
     by_cases c4:d.Y u<d.Y q
     ·have l:=L1 g huw hpq c3 c4 (by lia) hpu hqw
      constructor
      ·intro h;exact⟨c4,c2,by lia⟩
      ·intro h;exact⟨c3,c4,by lia⟩
     ·constructor
      ·intro h;exact absurd h.2.1 c4
      ·intro h;exact absurd h.1 c4
    ·have:¬(d.Y p<=d.Y u/\d.Y u<d.Y q/\0<d.tr p q u):=λh=>c3 h.1
     rw[dqf this,pz2 p (by lia) (by lia),pz2 q (by lia) c2]
     have:d.tr u w p<0↔d.tr u w q<0:=by
      rcases g.ord h2 hqn with hf|hf
      ·have l:=L2 g hpq huw (by lia) hf (by lia) (GJ hpu) (GJ hqw)
       lia
      ·have mv:d.tr u w q<d.tr u w p:=by
        have:d.tr u w p-d.tr u w q=(d.Y w-d.Y u)*(d.X q-d.X p):=by
         have:=hf.1;unfold Dr.tr tr6;grind
        have:0<(d.Y w-d.Y u)*(d.X q-d.X p):=Gs (by lia) (by lia)
        lia
       constructor
       ·intro h;lia
       ·intro h
        apply bcn;intro hn
        have a2:=nz g huw hpn hy (by lia) (by lia) hpu hpw
        refine g.nocross huw hpq ⟨az _ _ (by lia) h,?_⟩
        rw[eo d p q u hf.1,eo d p q w hf.1]
        exact cD _ _ (az _ _ (by lia) (by lia)) (Gs (by lia) (by lia))
     simp only[this,Jv]
theorem jY {α:Type}(N D:α->Int):∀l:List α,l≠[]->(∀x∈l,0<D x)->∃x∈l,∀y∈l,N x*D y<=N y*D x
 |[],h,_=>absurd rfl h
 |[a],_,_=>⟨a,by simp,by simp⟩
 |a :: b :: r,_,hD=>by
  obtain⟨x,hx,hm⟩:=jY N D (b :: r) (by simp) (λy hy=>hD y (Gc _ hy))
  by_cases h:N a*D x<=N x*D a
  ·refine⟨a,by simp,λy hy=>?_⟩
   rcases Gh.1 hy with e|e
   ·subst e;lia
   ·have h1:=hm y e
    have dx:=hD x (Gc _ hx)
    have dy:=hD y (Gc _ e)
    have da:=hD a (by simp)
    have p1:N a*D x*D y<=N x*D a*D y:=Int.mul_le_mul_of_nonneg_right h (by lia)
    have p2:N x*D y*D a<=N y*D x*D a:=Int.mul_le_mul_of_nonneg_right h1 (by lia)
    have p3:(N a*D y)*D x<=(N y*D a)*D x:=by
     have e1:N a*D x*D y=(N a*D y)*D x:=by grind
     have e2:N x*D a*D y=N x*D y*D a:=by grind
     have e3:N y*D x*D a=(N y*D a)*D x:=by grind
     lia
    exact Int.le_of_mul_le_mul_right p3 dx
  ·refine⟨x,Gc _ hx,λy hy=>?_⟩
   rcases Gh.1 hy with e|e
   ·subst e;lia
   ·exact hm y e
def lh (f:Nat->Nat->Bool)(e:au):Bool:=f (min e.1 e.2) (max e.1 e.2)
theorem Ch (g:eQ d)(edges:List au)(hed:∀p q,d.J p q->p<q->(p,q)∈edges)(hed2:∀e∈edges,d.J e.1 e.2/\e.1<e.2)(zx zy:Int) :
  (∀E:List au,(∀e∈E,d.J e.1 e.2)->xs (lh (d.cz zx zy)) E=false) \/
  ∃u w,d.J u w/\∀E:List au,(∀e∈E,d.J e.1 e.2)->cX E->xs (lh (d.cz zx zy)) E=d.om E u w:=by
 have side:∀(F:Nat->Nat->Prop),(∀p q,d.J p q->p<q->F p q)->∀e:au,d.J e.1 e.2->F (min e.1 e.2) (max e.1 e.2):=by
  intro F hF e he
  rcases Hf (g.ne he) with h|h
  ·rw[GH (by lia),Hg (by lia)];exact hF _ _ he h
  ·rw[GG (by lia),HQ (by lia)];exact hF _ _ (g.symm he) h
 by_cases hall:(edges.filter (λe=>d.cz zx zy e.1 e.2))=[]
 ·left
  intro E hE
  have:xs (lh (d.cz zx zy)) E=xs (λ_=>false) E:=by
   apply bC
   intro e he
   refine side (λp q=>d.cz zx zy p q=false) ?_ e (hE e he)
   intro p q hpq hlt
   have hm:=hed p q hpq hlt
   cases h:d.cz zx zy p q with
   |false=>rfl
   |true =>
    have:(p,q)∈edges.filter (λe=>d.cz zx zy e.1 e.2):=GR.2 ⟨hm,h⟩
    rw[hall]at this;cases this
  rw[this]
  clear this hE
  induction E with
  |nil=>rfl
  |cons a r ih=>rw[xs,ih];rfl
 ·right
  obtain⟨⟨u,w⟩,hx,hm⟩:=jY (λe:au=>d.num zx zy e.1 e.2) (λe:au=>d.den e.1 e.2) _ hall (by
   intro x hx
   have:=FY (GR.1 hx).2
   unfold Dr.den;lia)
  obtain⟨hx1,hx2⟩:=GR.1 hx
  obtain⟨huw,hlt⟩:=hed2 _ hx1
  refine⟨u,w,huw,λE hE hc=>?_⟩
  have h:xs (λe=>lh (d.cz zx zy) e^^d.Om u w (min e.1 e.2) (max e.1 e.2)) E=false:=by
   rw[<-hc (d.Pz zy u w)]
   apply bC
   intro e he
   have ze:∀p q,d.J p q->p<q->(d.cz zx zy p q^^d.Om u w p q)=(d.Pz zy u w p^^d.Pz zy u w q):=by
    intro p q hpq hlt'
    exact yw g huw hpq hlt hlt' hx2 (λh=>hm (p,q) (GR.2 ⟨hed p q hpq hlt',h⟩))
   have hj:=hE e he
   unfold lh
   rcases Hf (g.ne hj) with h|h
   ·rw[GH (by lia),Hg (by lia)];exact ze _ _ hj h
   ·rw[GG (by lia),HQ (by lia),Jc (d.Pz zy u w e.1)];exact ze _ _ (g.symm hj) h
  rw[ia]at h
  unfold Dr.om
  revert h
  generalize xs (lh (d.cz zx zy)) E=a;generalize xs _ E=b
  cases a<;>cases b<;>simp
open Gla
theorem gX {α:Type}{p:α×Nat->Bool}:∀{l:List α} {k:Nat},(l.zipIdx k).find? p=none->∀i (h:i<l.length),p (l[i],k+i)=false
 |[],_,_,i,h=>absurd h (by simp)
 |a :: r,k,hf,i,h=>by
  rw[List.zipIdx_cons,IR]at hf
  cases hp:p (a,k) with
  |true=>rw[hp]at hf;simp at hf
  |false =>
   rw[hp]at hf
   cases i with
   |zero=>simpa using hp
   |succ i =>
    have:=gX (l:=r) (k:=k+1) hf i (by simpa using h)
    simp only[List.getElem_cons_succ]
    rw[<-this];congr 2;lia
theorem fD {α:Type}{p:Nat->α->Bool}{l:List α}(h:firstAt p l=none):∀i (hi:i<l.length),p i l[i]=false:=by
 intro i hi
 unfold firstAt at h
 rw[Option.map_eq_none_iff]at h
 have:=gX h i hi
 simpa using this
theorem cp {α:Type}{ok:α->Bool}{before:α->α->Bool}{l:List α}(h:firstBad ok before l=none) :
  (∀x∈l,ok x=true)/\∀i (hi:i+1<l.length),before l[i] l[i+1]=true:=by
 have h':=fD h
 constructor
 ·intro x hx
  obtain⟨i,hi,e⟩:=GI hx
  have:=h' i hi
  rw[e]at this
  cases hk:ok x with
  |true=>rfl
  |false=>rw[hk]at this;simp at this
 ·intro i hi
  have:=h' (i+1) hi
  rw[gge (show i+1-1<l.length by lia)]at this
  simp at this
  exact this.2
theorem eK (p q:Pt):p.below q=true↔p.y<q.y\/(p.y=q.y/\p.x<q.x):=by
 unfold Pt.below;simp
theorem lB {p q r:Pt}(h1:p.below q=true)(h2:q.below r=true):p.below r=true:=by
 rw[eK]at *;lia
theorem gA (p q:Nat×Nat):lineBelow p q=true↔p.1<q.1\/(p.1=q.1/\p.2<q.2):=by
 unfold lineBelow;simp
theorem l5 {p q r:Nat×Nat}(h1:lineBelow p q=true)(h2:lineBelow q r=true):lineBelow p r=true:=by
 rw[gA]at *;lia
theorem chain_lt {α:Type}{R:α->α->Bool}(ht:∀{a b c},R a b=true->R b c=true->R a c=true){l:List α}
  (h:∀i (hi:i+1<l.length),R l[i] l[i+1]=true):∀i j (hi:i<j) (hj:j<l.length),R (l[i]'(by lia)) l[j]=true:=by
 intro i j hi
 induction j with
 |zero=>lia
 |succ j ih =>
  intro hj
  by_cases e:i=j
  ·subst e;exact h i hj
  ·exact ht (ih (by lia) (by lia)) (h j hj)
structure Kept (S:Plan):Prop where
 r4:firstBad (λ(p:Pt)=>decide (p.x<=S.w)&&decide (p.y<=S.h)) Pt.below S.pts=none
 r5:firstBad (λ(l:Nat×Nat)=>decide (l.1<l.2)&&decide (l.2<S.pts.length)) lineBelow S.lines=none
 r7:firstAt (touches S) S.lines=none
def ab (S:Plan):Dr:=⟨S.pts.length,λi=>((S.pt i).x:Int),λi=>((S.pt i).y:Int),λi j=>(i,j)∈S.lines\/(j,i)∈S.lines⟩
theorem me (S:Plan)(i j k:Nat):turn (S.pt i) (S.pt j) (S.pt k)=(ab S).tr i j k:=by
 unfold turn Dr.tr tr6 dx dy ab;rfl
theorem bO (S:Plan){i:Nat}(h:i<S.pts.length):S.pt i=S.pts[i]:=by
 unfold Plan.pt;rw[Gr,gge h];rfl
theorem x6 (S:Plan)(i j k:Nat):isOn (S.pt i) (S.pt j) (S.pt k)=true↔(ab S).on i j k:=by
 unfold isOn Dr.on between
 rw[me]
 simp only[ab,Gi,Jz,Gj]
 lia
theorem Kept.ord {S:Plan}(k:Kept S){i j:Nat}(h:i<j)(hj:j<S.pts.length):(S.pt i).below (S.pt j)=true:=by
 have:=chain_lt (R:=Pt.below) (l:=S.pts) lB (cp k.r4).2 i j h hj
 rw[bO S (by lia),bO S hj];exact this
theorem Kept.line {S:Plan}(k:Kept S){l:Nat×Nat}(h:l∈S.lines):l.1<l.2/\l.2<S.pts.length:=by
 have:=(cp k.r5).1 l h
 simpa using this
theorem Kept.lines_lt {S:Plan}(k:Kept S):∀i j (_:i<j) (hj:j<S.lines.length),lineBelow (S.lines[i]'(by lia)) S.lines[j]=true :=
 chain_lt (R:=lineBelow) (l:=S.lines) l5 (cp k.r5).2
theorem qY (p q r s:Pt):crosses p q r s=crosses r s p q:=by unfold crosses;rw[Bool.and_comm]
theorem jx (d:Dr)(i j k l:Nat):d.tr j i k*d.tr j i l=d.tr i j k*d.tr i j l:=by
 rw[kr d i j k,kr d i j l];grind
theorem bp (S:Plan)(k:Kept S):eQ (ab S) where
 symm:=λh=>h.elim Hr HZ
 lt:=by
  intro i j h
  rcases h with h|h
  ·have:=k.line h;show i<S.pts.length;lia
  ·have:=k.line h;exact this.2
 ne:=by
  intro i j h
  rcases h with h|h<;>(have:=k.line h;lia)
 ord:=by
  intro i j h hj
  have:=k.ord h hj
  rw[eK]at this
  simp only[ab];lia
 nocross:=by
  have main:∀e f,e∈S.lines->f∈S.lines->¬((ab S).tr e.1 e.2 f.1*(ab S).tr e.1 e.2 f.2<0/\(ab S).tr f.1 f.2 e.1*(ab S).tr f.1 f.2 e.2<0):=by
   intro e f he hf hc
   obtain⟨a,ha,ea⟩:=GI he
   obtain⟨b,hb,eb⟩:=GI hf
   have hcr:crosses (S.pt e.1) (S.pt e.2) (S.pt f.1) (S.pt f.2)=true:=by
    unfold crosses;simp only[me,Gi,Gj];exact hc
   have one:∀a b (ha:a<S.lines.length) (hb:b<S.lines.length),b<a->crosses (S.pt S.lines[a].1) (S.pt S.lines[a].2) (S.pt S.lines[b].1) (S.pt S.lines[b].2)=false:=by
    intro a b ha hb hlt
    have:=fD k.r7 a ha
    unfold touches at this
    rw[Bool.or_eq_false_iff]at this
    have h2:=this.2
    rw[Jj]at h2
    have hm:S.lines[b]∈S.lines.take a:=by
     rw[Iu]
     exact⟨b,by lia,rfl⟩
    have:=h2 _ hm
    simpa using this
   rcases Nat.lt_trichotomy a b with h|h|h
   ·have:=one b a hb ha h
    rw[ea,eb,qY,hcr]at this;cases this
   ·subst h
    rw[ea]at eb;subst eb
    rw[kg]at hc;simp at hc
   ·have:=one a b ha hb h
    rw[ea,eb,hcr]at this;cases this
  intro i j p q hij hpq
  rcases hij with h1|h1<;>rcases hpq with h2|h2
  ·exact main (i,j) (p,q) h1 h2
  ·have:=main (i,j) (q,p) h1 h2
   simp only at this
   rw[jx (ab S) p q,Ii ((ab S).tr i j q)]at this;exact this
  ·have:=main (j,i) (p,q) h1 h2
   simp only at this
   rw[jx (ab S) i j,Ii ((ab S).tr p q j)]at this;exact this
  ·have:=main (j,i) (q,p) h1 h2
   simp only at this
   rw[jx (ab S) p q,jx (ab S) i j,Ii ((ab S).tr i j q),Ii ((ab S).tr p q j)]at this;exact this
 nopt:=by
  have main:∀e,e∈S.lines->∀c,c<S.pts.length->c≠e.1->c≠e.2->¬(ab S).on e.1 e.2 c:=by
   intro e he c hc h1 h2 hon
   obtain⟨a,ha,ea⟩:=GI he
   have:=fD k.r7 a ha
   unfold touches at this
   rw[Bool.or_eq_false_iff]at this
   have h3:=this.1
   rw[Jj]at h3
   have:=h3 c (by simpa using hc)
   rw[ea]at this
   apply this
   rw[(x6 S _ _ _).2 hon]
   simp[h1,h2]
  intro i j c hij hc h1 h2 hon
  rcases hij with h|h
  ·exact main (i,j) h c hc h1 h2 hon
  ·exact main (j,i) h c hc h2 h1 (Aa _ hon)
def cr (a b:Int×Int):Int:=a.1*b.2-a.2*b.1
def Hi (a:Int×Int):Prop:=0<a.2\/(a.2=0/\0<a.1)
def Lo (a:Int×Int):Prop:=a.2<0\/(a.2=0/\a.1<0)
theorem j4 (a b:Int×Int):cr b a=- cr a b:=by unfold cr;grind
theorem uD (a b c:Int×Int):a.2*cr b c-b.2*cr a c+c.2*cr a b=0:=by unfold cr;grind
theorem mJ {a b:Int×Int}(ha:Hi a)(hb:Hi b)(h:0<cr a b):0<b.2:=by
 rcases hb with h1|h1
 ·exact h1
 ·exfalso
  unfold cr at h
  rw[h1.1]at h
  have:0<=a.2*b.1:=Gg (by unfold Hi at ha;lia) (by lia)
  simp at h;lia
theorem nv {a b:Int×Int}(ha:Lo a)(hb:Lo b)(h:0<cr a b):b.2<0:=by
 rcases hb with h1|h1
 ·exact h1
 ·exfalso
  unfold cr at h
  rw[h1.1]at h
  have:0<=(-a.2)*(-b.1):=Gg (by unfold Lo at ha;lia) (by lia)
  have e:(-a.2)*(-b.1)=a.2*b.1:=by grind
  simp at h;lia
theorem mY {a b c:Int×Int}(ha:Hi a)(hb:Hi b)(hc:Hi c)(h1:0<cr a b)(h2:0<cr b c):0<cr a c:=by
 have yb:=mJ ha hb h1
 have yc:=mJ hb hc h2
 have p:=uD a b c
 have t1:0<c.2*cr a b:=Gs yc h1
 have t2:0<=a.2*cr b c:=Gg (by unfold Hi at ha;lia) (by lia)
 have t3:0<b.2*cr a c:=by lia
 exact(bb yb).1 t3
theorem mG {a b c:Int×Int}(ha:Lo a)(hb:Lo b)(hc:Lo c)(h1:0<cr a b)(h2:0<cr b c):0<cr a c:=by
 have yb:=nv ha hb h1
 have yc:=nv hb hc h2
 have p:=uD a b c
 have t1:0<(-c.2)*cr a b:=Gs (by lia) h1
 have t2:0<=(-a.2)*cr b c:=Gg (by unfold Lo at ha;lia) (by lia)
 have t3:0<(-b.2)*cr a c:=by grind
 exact(bb (show 0 < -b.2 by lia)).1 t3
theorem hhl {i j k:Int×Int}(hi:Hi i)(hj:Hi j)(hk:Lo k)(h:0<cr i j)(h2:0<=cr i k):0<cr j k:=by
 have yj:=mJ hi hj h
 have p:=uD i j k
 by_cases hk0:k.2=0
 ·have:k.1<0:=by unfold Lo at hk;lia
  unfold cr;rw[hk0]
  have:0<j.2*(-k.1):=Gs yj (by lia)
  grind
 ·have hk1:k.2<0:=by unfold Lo at hk;lia
  have t1:0<(-k.2)*cr i j:=Gs (by lia) h
  have t2:0<=j.2*cr i k:=Gg (by lia) h2
  by_cases hi0:i.2=0
  ·exfalso
   have:0<i.1:=by unfold Hi at hi;lia
   have:0<i.1*(-k.2):=Gs this (by lia)
   unfold cr at h2;rw[hi0]at h2
   grind
  ·have:0<i.2*cr j k:=by grind
   exact(bb (show 0<i.2 by unfold Hi at hi;lia)).1 this
theorem hll {i j k:Int×Int}(hi:Hi i)(hj:Lo j)(hk:Lo k)(h:0<cr j k)(h2:0<=cr i k):0<cr i j:=by
 have yk:=nv hj hk h
 have p:=uD i j k
 by_cases hi0:i.2=0
 ·exfalso
  have:0<i.1:=by unfold Hi at hi;lia
  have:0<i.1*(-k.2):=Gs this (by lia)
  unfold cr at h2;rw[hi0]at h2
  grind
 ·have t1:0<i.2*cr j k:=Gs (by unfold Hi at hi;lia) h
  have t2:0<=(-j.2)*cr i k:=Gg (by unfold Lo at hj;lia) h2
  have:0<(-k.2)*cr i j:=by grind
  exact(bb (show 0 < -k.2 by lia)).1 this
theorem sum_sq_neg {a b c e:Int}(h:a*e=b*c)(h1:0<b\/(b=0/\0<a))(h2:e<0\/(e=0/\c<0)):a*c+b*e<0:=by
 by_cases hb:b=0
 ·subst hb
  have ha:0<a:=by lia
  have he:e=0:=by
   have:a*e=0:=by simpa using h
   rcases IA.1 this with h|h<;>lia
  subst he
  have:a*c<0:=az _ _ ha (by lia)
  simpa using this
 ·have hb':0<b:=by lia
  have he:e<0:=by
   rcases h2 with h2|h2
   ·exact h2
   ·exfalso
    rw[h2.1]at h
    have:b*c<0:=az _ _ hb' h2.2
    simp at h;lia
  have t:b*e<0:=az _ _ hb' he
  have t2:b*(a*c)=a*a*e:=by grind
  have t3:a*a*e<=0:=by
   have:0<=a*a:=by
    rcases Int.le_total 0 a with h|h
    ·exact Gg h h
    ·have:=Gg (show 0<=-a by lia) (show 0<=-a by lia);grind
   have:0<=(a*a)*(-e):=Gg this (by lia)
   grind
  have t4:a*c<=0:=by
   apply bcn;intro hn
   have:0<b*(a*c):=Gs hb' (by lia)
   lia
  lia
theorem zg {a b:Int×Int}(ha:Hi a)(hb:Lo b)(h:cr a b=0):a.1*b.1+a.2*b.2<0 :=
 sum_sq_neg (by unfold cr at h;lia) ha hb
theorem dJ {r e:Int×Int}(h:0<cr e r):half r e=0:=by
 have:r.1*e.2-r.2*e.1<0:=by unfold cr at h;grind
 unfold half;simp[this]
theorem bM {r e:Int×Int}(h:0<cr r e):half r e=2:=by
 have h1:¬r.1*e.2-r.2*e.1<0:=by unfold cr at h;lia
 have h2:0<r.1*e.2-r.2*e.1:=h
 unfold half;simp only[h1,h2,if_true,JV]
theorem oa {r e:Int×Int}(h:cr r e=0)(hd:r.1*e.1+r.2*e.2<0):half r e=1:=by
 have h1:¬r.1*e.2-r.2*e.1<0:=by unfold cr at h;lia
 have h2:¬0<r.1*e.2-r.2*e.1:=by unfold cr at h;lia
 unfold half;simp only[h1,h2,hd,if_true,JV]
theorem jJ (r a b:Int×Int):sooner r a b=true↔half r a<half r b\/(half r a=half r b/\cr a b<0):=by
 unfold sooner cr;simp
theorem dM (r a b:Int×Int):sooner r a b=false↔¬(half r a<half r b\/(half r a=half r b/\cr a b<0)):=by
 rw[<-jJ];simp
def Bef (a b:Int×Int):Prop:=(Hi a/\Lo b)\/(Hi a/\Hi b/\0<cr a b)\/(Lo a/\Lo b/\0<cr a b)
def sY (r a b:Int×Int):Prop:=sooner r a b=true/\sooner r b a=false
theorem bP {r a b:Int×Int}(h:half r a<half r b):sY r a b :=
 ⟨(jJ r a b).2 (HZ h),(dM r b a).2 (by lia)⟩
theorem cq {r a b:Int×Int}(h:half r a<=half r b)(hc:cr a b<0):sY r a b:=by
 refine⟨(jJ r a b).2 ?_,(dM r b a).2 ?_⟩
 ·lia
 ·have:=j4 a b;lia
theorem gv {a b:Int×Int}(ha:Hi a)(hb:Lo b) :
  (0<cr a b/\half a b=2/\half b a=0)\/(cr a b=0/\half a b=1/\half b a=1)\/(cr a b<0/\half a b=0/\half b a=2):=by
 have s:=j4 a b
 rcases Int.lt_trichotomy (cr a b) 0 with h|h|h
 ·exact Hr (Hr ⟨h,dJ (by lia),bM (by lia)⟩)
 ·have dd:=zg ha hb h
  refine Hr (HZ ⟨h,oa h dd,oa (by lia) ?_⟩)
  rw[Ii b.1,Ii b.2];exact dd
 ·exact HZ ⟨h,bM h,dJ h⟩
theorem CS {i j k:Int×Int}(hij:Bef i j)(hjk:Bef j k)(hik:Bef i k)(nh:∀a,¬(Hi a/\Lo a)):sY k j i:=by
 have s1:=j4 i j
 rcases hij with⟨a,b⟩|⟨a,b,c⟩|⟨a,b,c⟩
 ·rcases hjk with⟨a',b'⟩|⟨a',b',c'⟩|⟨a',b',c'⟩
  ·exact absurd ⟨a',b⟩ (nh j)
  ·exact absurd ⟨a',b⟩ (nh j)
  ·
   have h1:half k j=0:=dJ c'
   rcases gv a b' with h|h|h
   ·have:=hll a b b' c' (by lia)
    exact cq (by lia) (by lia)
   ·exact bP (by lia)
   ·exact bP (by lia)
 ·rcases hjk with⟨a',b'⟩|⟨a',b',c'⟩|⟨a',b',c'⟩
  ·
   refine cq ?_ (by lia)
   rcases gv a b' with h|h|h
   ·have:=hhl a b b' c (by lia)
    rw[dJ this];lia
   ·have:=hhl a b b' c (by lia)
    rw[dJ this];lia
   ·rcases gv a' b' with h'|h'|h'<;>lia
  ·have:=mY a b b' c c'
   exact cq (by rw[dJ c',dJ this];lia) (by lia)
  ·exact absurd ⟨b,a'⟩ (nh j)
 ·rcases hjk with⟨a',b'⟩|⟨a',b',c'⟩|⟨a',b',c'⟩
  ·exact absurd ⟨a',b⟩ (nh j)
  ·exact absurd ⟨a',b⟩ (nh j)
  ·have:=mG a b b' c c'
   exact cq (by rw[dJ c',dJ this];lia) (by lia)
theorem EU {i j k:Int×Int}(hij:Bef i j)(hjk:Bef j k)(hik:Bef i k)(nh:∀a,¬(Hi a/\Lo a)):sY j i k:=by
 have s1:=j4 i j
 rcases hij with⟨a,b⟩|⟨a,b,c⟩|⟨a,b,c⟩
 ·rcases hjk with⟨a',b'⟩|⟨a',b',c'⟩|⟨a',b',c'⟩
  ·exact absurd ⟨a',b⟩ (nh j)
  ·exact absurd ⟨a',b⟩ (nh j)
  ·have h1:half j k=2:=bM c'
   rcases gv a b with h|h|h
   ·exact bP (by lia)
   ·exact bP (by lia)
   ·refine cq (by lia) ?_
    apply bcn;intro hn
    have:=hll a b b' c' (by lia)
    lia
 ·have h0:half j i=0:=dJ c
  rcases hjk with⟨a',b'⟩|⟨a',b',c'⟩|⟨a',b',c'⟩
  ·rcases gv a' b' with h|h|h
   ·exact bP (by lia)
   ·exact bP (by lia)
   ·refine cq (by lia) ?_
    apply bcn;intro hn
    have:=hhl a b b' c (by lia)
    lia
  ·exact bP (by rw[h0,bM c'];lia)
  ·exact absurd ⟨b,a'⟩ (nh j)
 ·rcases hjk with⟨a',b'⟩|⟨a',b',c'⟩|⟨a',b',c'⟩
  ·exact absurd ⟨a',b⟩ (nh j)
  ·exact absurd ⟨a',b⟩ (nh j)
  ·exact bP (by rw[dJ c,bM c'];lia)
theorem E3 {i j k:Int×Int}(hij:Bef i j)(hjk:Bef j k)(hik:Bef i k)(nh:∀a,¬(Hi a/\Lo a)):sY i k j:=by
 have s1:=j4 j k
 rcases hij with⟨a,b⟩|⟨a,b,c⟩|⟨a,b,c⟩
 ·rcases hjk with⟨a',b'⟩|⟨a',b',c'⟩|⟨a',b',c'⟩
  ·exact absurd ⟨a',b⟩ (nh j)
  ·exact absurd ⟨a',b⟩ (nh j)
  ·refine cq ?_ (by lia)
   rcases gv a b' with h|h|h
   ·have:=hll a b b' c' (by lia)
    rw[bM this];lia
   ·have:=hll a b b' c' (by lia)
    rw[bM this];lia
   ·lia
 ·rcases hjk with⟨a',b'⟩|⟨a',b',c'⟩|⟨a',b',c'⟩
  ·have h2:half i j=2:=bM c
   rcases gv a b' with h|h|h
   ·have:=hhl a b b' c (by lia)
    exact cq (by lia) (by lia)
   ·exact bP (by lia)
   ·exact bP (by lia)
  ·have:=mY a b b' c c'
   exact cq (by rw[bM c,bM this];lia) (by lia)
  ·exact absurd ⟨b,a'⟩ (nh j)
 ·rcases hjk with⟨a',b'⟩|⟨a',b',c'⟩|⟨a',b',c'⟩
  ·exact absurd ⟨a',b⟩ (nh j)
  ·exact absurd ⟨a',b⟩ (nh j)
  ·have:=mG a b b' c c'
   exact cq (by rw[bM c,bM this];lia) (by lia)
theorem nU (a:Int×Int):¬(Hi a/\Lo a):=by unfold Hi Lo;lia
theorem oR {r:Int×Int}(h:Hi r\/Lo r):half r r=3:=by
 have e:r.1*r.2-r.2*r.1=0:=by grind
 have sq:∀x:Int,0<=x*x:=by
  intro x
  rcases Int.le_total 0 x with h|h
  ·exact Gg h h
  ·have:=Gg (show 0<=-x by lia) (show 0<=-x by lia);grind
 have:¬r.1*r.1+r.2*r.2<0:=by have:=sq r.1;have:=sq r.2;lia
 unfold half;simp only[e,this];simp
theorem j9 {a b:Int×Int}(h:Bef a b):half a b<3/\half b a<3:=by
 rcases h with⟨x,y⟩|⟨x,y,c⟩|⟨x,y,c⟩
 ·rcases gv x y with h|h|h<;>lia
 ·rw[bM c,dJ c];lia
 ·rw[bM c,dJ c];lia
def bo (S:Plan)(m e:Nat):List Nat->List Nat
 |[]=>[e]
 |a :: r=>if 0<turn (S.pt m) (S.pt a) (S.pt e) then a :: bo S m e r else e :: a :: r
def sortTurn (S:Plan)(m:Nat)(ends:List Nat):List Nat:=ends.foldl (λring e=>bo S m e ring) []
def aj (S:Plan)(k:Nat):List Nat :=
 sortTurn S k ((S.near k).filter λe=>decide (k<e))++sortTurn S k ((S.near k).filter λe=>decide (e<k))
theorem fG (S:Plan)(m e:Nat):∀l,(bo S m e l).Perm (e :: l)
 |[]=>List.Perm.refl _
 |a :: r=>by
  rw[bo];split
  ·exact((fG S m e r).cons a).trans (List.Perm.swap e a r)
  ·exact List.Perm.refl _
theorem i5 (S:Plan)(m:Nat):∀(l acc:List Nat),(l.foldl (λring e=>bo S m e ring) acc).Perm (acc++l)
 |[],acc=>by simp
 |e :: r,acc=>by
  rw[Il]
  refine(i5 S m r _).trans ?_
  refine((fG S m e acc).append_right r).trans ?_
  exact(List.perm_middle (a:=e) (l₁:=acc) (l₂:=r)).symm
theorem cU (S:Plan)(m:Nat)(l:List Nat):(sortTurn S m l).Perm l:=by
 have:=i5 S m l []
 simpa [sortTurn] using this
theorem fQ {S:Plan}(k:Kept S){i j:Nat}:j∈S.near i↔(ab S).J i j:=by
 unfold Plan.near
 rw[JD]
 constructor
 ·rintro⟨l,hl,h⟩
  have:=k.line hl
  split at h
  ·rename_i e
   cases h
   left;rw[<-e];exact hl
  ·split at h
   ·rename_i e' e
    cases h
    right;rw[<-e];exact hl
   ·cases h
 ·rintro(h|h)
  ·exact⟨(i,j),h,by simp⟩
  ·have:=k.line h
   refine⟨(j,i),h,?_⟩
   simp only
   rw[Gf (by simp only at this;lia)];simp
theorem lines_nodup {S:Plan}(k:Kept S):S.lines.Nodup:=by
 rw[List.Nodup,GT]
 intro i j hi hj hlt e
 have:=k.lines_lt i j hlt hj
 rw[e,gA]at this;lia
theorem mS {S:Plan}(k:Kept S)(i:Nat):(S.near i).Nodup:=by
 unfold Plan.near
 rw[List.Nodup,List.pairwise_filterMap]
 refine Jn ?_ (lines_nodup k)
 intro a b ha hb hab x hx y hy e
 subst e
 have la:=k.line ha
 have lb:=k.line hb
 apply hab
 split at hx
 ·cases hx
  split at hy
  ·simp at hy;exact Prod.ext (by lia) (by lia)
  ·split at hy
   ·simp at hy;lia
   ·cases hy
 ·split at hx
  ·cases hx
   split at hy
   ·simp at hy;lia
   ·split at hy
    ·simp at hy;exact Prod.ext (by lia) (by lia)
    ·cases hy
  ·cases hx
theorem ba (S:Plan)(i j:Nat):dir S i j=((ab S).X j-(ab S).X i,(ab S).Y j-(ab S).Y i):=rfl
theorem vj (S:Plan)(m a b:Nat):(ab S).tr m a b=cr (dir S m a) (dir S m b):=by
 rw[ba,ba];unfold Dr.tr tr6 cr;grind
theorem oI {S:Plan}(k:Kept S){m a:Nat}(h:(ab S).J m a)(hlt:m<a):Hi (dir S m a):=by
 have g:=bp S k
 rcases g.ord hlt (g.lt (g.symm h)) with h|h
 ·left;rw[ba];simp only;lia
 ·right;rw[ba];simp only;lia
theorem pR {S:Plan}(k:Kept S){m a:Nat}(h:(ab S).J m a)(hlt:a<m):Lo (dir S m a):=by
 have g:=bp S k
 rcases g.ord hlt (g.lt h) with h|h
 ·left;rw[ba];simp only;lia
 ·right;rw[ba];simp only;lia
theorem pq {S:Plan}(k:Kept S){m a b:Nat}(ha:(ab S).J m a)(hb:(ab S).J m b)(hab:a≠b)(hs:(m<a/\m<b)\/(a<m/\b<m)) :
  (ab S).tr m a b≠0:=by
 have g:=bp S k
 have up:∀x y,(ab S).J m x->(ab S).J m y->m<x->x<y->(ab S).tr m y x=0->False:=by
  intro x y hx hy h1 h2 h0
  have hyn:=g.lt (g.symm hy)
  have hxn:=g.lt (g.symm hx)
  refine g.nopt hy hxn (by lia) (by lia) ?_
  rcases g.ord h1 hxn with o1|o1<;>rcases g.ord h2 hyn with o2|o2
  ·exact cA _ h0 (by lia) (by lia) (by lia)
  ·exact cA _ h0 (by lia) (by lia) (by lia)
  ·exact cA _ h0 (by lia) (by lia) (by lia)
  ·exact⟨h0,by lia,by lia,by lia,by lia⟩
 have dn:∀x y,(ab S).J m x->(ab S).J m y->x<m->y<x->(ab S).tr m y x=0->False:=by
  intro x y hx hy h1 h2 h0
  have hmn:=g.lt hx
  have hxn:=g.lt (g.symm hx)
  refine g.nopt (g.symm hy) hxn (by lia) (by lia) ?_
  have h0':(ab S).tr y m x=0:=by rw[kr];lia
  rcases g.ord h1 hmn with o1|o1<;>rcases g.ord h2 hxn with o2|o2
  ·exact cA _ h0' (by lia) (by lia) (by lia)
  ·exact cA _ h0' (by lia) (by lia) (by lia)
  ·exact cA _ h0' (by lia) (by lia) (by lia)
  ·exact⟨h0',by lia,by lia,by lia,by lia⟩
 intro h0
 have h0':(ab S).tr m b a=0:=by rw[dw];lia
 rcases hs with⟨h1,h2⟩|⟨h1,h2⟩
 ·rcases Hf hab with h|h
  ·exact up a b ha hb h1 h h0'
  ·exact up b a hb ha h2 h h0
 ·rcases Hf hab with h|h
  ·exact dn b a hb ha h2 h h0
  ·exact dn a b ha hb h1 h h0'
theorem ji {S:Plan}(k:Kept S){m:Nat}(up:Bool){e:Nat} :
  ∀(l:List Nat),(∀a∈e :: l,(ab S).J m a/\if up then m<a else a<m)->e∉l ->
  l.Pairwise (λa b=>0<(ab S).tr m a b)->(bo S m e l).Pairwise (λa b=>0<(ab S).tr m a b)
 |[],_,_,_=>by simp[bo]
 |a :: r,hm,hn,hp=>by
  rw[Hh]at hp
  have ha:=hm a (by simp)
  have he:=hm e (by simp)
  rw[bo]
  split
  ·rename_i ht
   rw[me]at ht
   rw[Hh]
   refine⟨?_,ji k up r (λx hx=>hm x ?_) (λh=>hn (Gc _ h)) hp.2⟩
   ·intro x hx
    rcases Gh.1 ((fG S m e r).mem_iff.1 hx) with h|h
    ·subst h;exact ht
    ·exact hp.1 x h
   ·rcases Gh.1 hx with h|h
    ·subst h;simp
    ·simp[h]
  ·rename_i ht
   rw[me]at ht
   have hne:a≠e:=λh=>hn (by simp[h])
   have hz:(ab S).tr m a e≠0:=pq k ha.1 he.1 hne (by cases up<;>simp at ha he<;>lia)
   have t1:0<(ab S).tr m e a:=by rw[dw];lia
   rw[Hh]
   refine⟨?_,Hh.2 hp⟩
   intro x hx
   rcases Gh.1 hx with h|h
   ·subst h;exact t1
   ·have t2:=hp.1 x h
    have hx':=hm x (by simp[h])
    rw[vj]at t1 t2 ⊢
    cases up with
    |true =>
     simp at ha he hx'
     exact mY (oI k he.1 he.2) (oI k ha.1 ha.2) (oI k hx'.1 hx'.2) t1 t2
    |false =>
     simp at ha he hx'
     exact mG (pR k he.1 he.2) (pR k ha.1 ha.2) (pR k hx'.1 hx'.2) t1 t2
theorem fh {S:Plan}(k:Kept S){m:Nat}(up:Bool):∀(l acc:List Nat),(∀a∈acc++l,(ab S).J m a/\if up then m<a else a<m)->(acc++l).Nodup ->
  acc.Pairwise (λa b=>0<(ab S).tr m a b)->(l.foldl (λring e=>bo S m e ring) acc).Pairwise (λa b=>0<(ab S).tr m a b)
 |[],acc,_,_,h=>h
 |e :: r,acc,hm,hn,hp=>by
  rw[Il]
  have pm:=fG S m e acc
  have hen:e∉acc:=by
   intro h
   rw[List.nodup_append]at hn
   exact hn.2.2 e h e (by simp) rfl
  have pm2:(bo S m e acc++r).Perm (acc++e :: r) :=
   (pm.append_right r).trans (List.perm_middle (a:=e) (l₁:=acc) (l₂:=r)).symm
  refine fh k up r _ ?_ ?_ ?_
  ·intro a ha
   exact hm a (pm2.mem_iff.1 ha)
  ·exact pm2.nodup_iff.2 hn
  ·refine ji k up acc ?_ hen hp
   intro a ha
   apply hm
   rcases Gh.1 ha with h|h
   ·simp[h]
   ·simp[h]
theorem lG {S:Plan}(k:Kept S)(m:Nat):(aj S m).Perm (S.near m):=by
 unfold aj
 refine((cU S m _).append (cU S m _)).trans ?_
 have h:(S.near m).filter (λe=>decide (e<m))=(S.near m).filter (λe=>!decide (m<e)):=by
  apply List.filter_congr
  intro x hx
  have:=(bp S k).ne ((fQ k).1 hx)
  by_cases h:m<x
  ·simp[h];lia
  ·simp[h];lia
 rw[h]
 exact List.filter_append_perm _ _
theorem lH {S:Plan}(k:Kept S)(m:Nat):(aj S m).Pairwise (λb w=>Bef (dir S m b) (dir S m w) /\
  ((m<b/\w<m)\/(((m<b/\m<w)\/(b<m/\w<m))/\0<(ab S).tr m b w))):=by
 unfold aj
 rw[Hv]
 have m1:∀x∈sortTurn S m ((S.near m).filter λe=>decide (m<e)),(ab S).J m x/\m<x:=by
  intro x hx
  have:=GR.1 ((cU S m _).mem_iff.1 hx)
  exact⟨(fQ k).1 this.1,by simpa using this.2⟩
 have m2:∀x∈sortTurn S m ((S.near m).filter λe=>decide (e<m)),(ab S).J m x/\x<m:=by
  intro x hx
  have:=GR.1 ((cU S m _).mem_iff.1 hx)
  exact⟨(fQ k).1 this.1,by simpa using this.2⟩
 refine⟨?_,?_,?_⟩
 ·have h:=fh k (m:=m) true ((S.near m).filter λe=>decide (m<e)) [] (by
   intro a ha
   simp only[HY]at ha
   have:=GR.1 ha
   exact⟨(fQ k).1 this.1,by simpa using this.2⟩) (by rw[HY];exact(mS k m).filter _) List.Pairwise.nil
  refine Jn ?_ h
  intro a b ha hb hab
  have h1:=m1 a ha
  have h2:=m1 b hb
  refine⟨Hr (HZ ⟨oI k h1.1 h1.2,oI k h2.1 h2.2,?_⟩),Hr ⟨HZ ⟨h1.2,h2.2⟩,hab⟩⟩
  rw[<-vj];exact hab
 ·have h:=fh k (m:=m) false ((S.near m).filter λe=>decide (e<m)) [] (by
   intro a ha
   simp only[HY]at ha
   have:=GR.1 ha
   exact⟨(fQ k).1 this.1,by simpa using this.2⟩) (by rw[HY];exact(mS k m).filter _) List.Pairwise.nil
  refine Jn ?_ h
  intro a b ha hb hab
  have h1:=m2 a ha
  have h2:=m2 b hb
  refine⟨Hr (Hr ⟨pR k h1.1 h1.2,pR k h2.1 h2.2,?_⟩),Hr ⟨Hr ⟨h1.2,h2.2⟩,hab⟩⟩
  rw[<-vj];exact hab
 ·intro a ha b hb
  have h1:=m1 a ha
  have h2:=m2 b hb
  exact⟨HZ ⟨oI k h1.1 h1.2,pR k h2.1 h2.2⟩,HZ ⟨h1.2,h2.2⟩⟩
theorem cF {S:Plan}(k:Kept S):l6 (ab S) (aj S) where
 mem:=by
  intro u w
  rw[(lG k u).mem_iff,fQ k]
 sorted:=by
  intro u
  refine(lH k u).imp ?_
  intro b w h
  have hne:b≠w:=by
   intro e;subst e
   rcases h.2 with h|h
   ·lia
   ·rw[cR]at h;lia
  refine⟨?_,?_,hne⟩
  ·unfold Dr.pre
   apply dqt
   exact Hr h.2
  ·unfold Dr.pre
   apply dqf
   have:=dw (ab S) u b w
   lia
theorem hU {f:Nat->Int×Int}{R:Int×Int}{y:Nat}:∀(l:List Nat) (a:Nat),(∀b∈a :: l,b≠y->sY R (f y) (f b))->y∈a :: l ->
  l.foldl (λ(a b:Nat)=>if sooner R (f b) (f a)=true then b else a) a=y
 |[],a,h,hy=>by
  simp at hy;simp[hy]
 |b :: r,a,h,hy=>by
  rw[Il]
  by_cases ha:a=y
  ·subst ha
   by_cases hb:b=a
   ·subst hb
    simp only[ite_self]
    exact hU r b (λc hc=>h c (by rcases Gh.1 hc with h|h<;>simp[h])) (by simp)
   ·have:=(h b (by simp) hb).2
    rw[Gf (by rw[this];simp)]
    exact hU r a (λc hc=>h c (by rcases Gh.1 hc with h|h<;>simp[h])) (by simp)
  ·by_cases hb:b=y
   ·subst hb
    have:=(h a (by simp) ha).1
    rw[Gk this]
    exact hU r b (λc hc=>h c (by rcases Gh.1 hc with h|h<;>simp[h])) (by simp)
   ·have hr:y∈r:=by
     rcases Gh.1 hy with h1|h1
     ·exact absurd h1.symm ha
     ·rcases Gh.1 h1 with h2|h2
      ·exact absurd h2.symm hb
      ·exact h2
    refine hU r _ ?_ (by simp[hr])
    intro c hc
    apply h
    rcases Gh.1 hc with h1|h1
    ·subst h1;split<;>simp
    ·simp[h1]
theorem n9 {S:Plan}(k:Kept S){u v:Nat}(hu:u∈aj S v):∀b∈aj S v,b≠bJ (aj S v) u->sY (dir S v u) (dir S v (bJ (aj S v) u)) (dir S v b):=by
 intro b hb hne
 obtain⟨l1,l2,e,hn⟩:=iW hu
 have hp:=(lH k v).imp (λh=>h.1)
 rw[e]at hp hb hne ⊢
 by_cases h1:l1=[]
 ·subst h1
  simp only[HY]at *
  rw[je]at hne ⊢
  by_cases h2:l2=[]
  ·subst h2;simp at *;exact absurd hb hne
  ·have hy:(u :: l2).getLast (by simp)=l2.getLast h2:=List.getLast_cons h2
   rw[hy]at hne ⊢
   rw[Hh]at hp
   rcases Gh.1 hb with h3|h3
   ·subst h3
    have:=hp.1 _ (IH h2)
    have h4:=j9 this
    refine bP ?_
    rw[oR]
    ·lia
    ·rcases this with x|x|x
     ·exact HZ x.1
     ·exact HZ x.1
     ·exact Hr x.1
   ·have hall:(l2.dropLast++[l2.getLast h2]).Pairwise (λb w=>Bef (dir S v b) (dir S v w)):=by
     rw[G2];exact hp.2
    rw[Hv]at hall
    have hb':b∈l2.dropLast:=by
     have hx:b∈l2.dropLast++[l2.getLast h2]:=by
      rw[G2];exact h3
     rcases GK.1 hx with hx|hx
     ·exact hx
     ·simp at hx;exact absurd hx hne
    exact E3 (hp.1 b h3) (hall.2.2 b hb' _ (by simp)) (hp.1 _ (IH h2)) nU
 ·rw[i6 hn h1]at hne ⊢
  rw[Hv,Hh]at hp
  obtain⟨p1,p2,p3⟩:=hp
  have hyu:=p3 _ (IH h1) u (by simp)
  rcases GK.1 hb with h3|h3
  ·have hall:(l1.dropLast++[l1.getLast h1]).Pairwise (λb w=>Bef (dir S v b) (dir S v w)):=by
    rw[G2];exact p1
   rw[Hv]at hall
   have hb':b∈l1.dropLast:=by
    have hx:b∈l1.dropLast++[l1.getLast h1]:=by
     rw[G2];exact h3
    rcases GK.1 hx with hx|hx
    ·exact hx
    ·simp at hx;exact absurd hx hne
   exact CS (hall.2.2 b hb' _ (by simp)) hyu (p3 b h3 u (by simp)) nU
  ·rcases Gh.1 h3 with h4|h4
   ·subst h4
    have h5:=j9 hyu
    refine bP ?_
    rw[oR (r:=dir S v b)]
    ·lia
    ·rcases hyu with x|x|x
     ·exact Hr x.2
     ·exact HZ x.2.1
     ·exact Hr x.2.1
   ·exact EU hyu (p2.1 b h4) (p3 _ (IH h1) b (by simp[h4])) nU
theorem zV {S:Plan}(k:Kept S){u v:Nat}(h:(ab S).J u v):S.next u v=bJ (aj S v) u:=by
 have g:=bp S k
 have r:=cF k
 have hu:u∈aj S v:=r.mem.2 (g.symm h)
 have hs:=n9 k hu
 have hm:=kY hu
 have pm:=lG k v
 unfold Plan.next
 cases hn:S.near v with
 |nil =>
  rw[hn]at pm
  have:=pm.mem_iff.1 hu;cases this
 |cons a l =>
  rw[hn]at pm
  exact hU (f:=λx=>dir S v x) l a (λb hb hne=>hs b (pm.mem_iff.2 hb) hne) (pm.mem_iff.1 hm)
theorem bI {α:Type}[DecidableEq α]:∀{l m:List α},l.Nodup->(∀x∈l,x∈m)->l.length<=m.length
 |[],_,_,_=>by simp
 |a :: r,m,hn,hs=>by
  rw[HN]at hn
  have ha:a∈m:=hs a (by simp)
  have:=bI (l:=r) (m:=m.erase a) hn.2 (by
   intro x hx
   have hne:x≠a:=by intro e;subst e;exact hn.1 hx
   exact(List.mem_erase_of_ne hne).2 (hs x (by simp[hx])))
  rw[List.length_erase_of_mem ha]at this
  have:0<m.length:=List.length_pos_of_mem ha
  simp;lia
theorem jb {S:Plan}{a b:Nat}:(a,b)∈ways S↔(ab S).J a b:=by
 unfold ways
 rw[J6]
 constructor
 ·rintro⟨l,hl,h⟩
  simp at h
  rcases h with h|h
  ·left;rw[h];exact hl
  ·right;rw[h.1,h.2];exact hl
 ·rintro(h|h)
  ·exact⟨_,h,by simp⟩
  ·exact⟨_,h,by simp⟩
theorem lM (S:Plan):(ways S).length=2*S.lines.length:=by
 unfold ways
 induction S.lines with
 |nil=>rfl
 |cons a r ih=>rw[List.flatMap_cons,Gd,ih];simp;lia
section
variable  {S:Plan}(k:Kept S)
include k
theorem lg {e:au}(he:(ab S).J e.1 e.2):∀i j,aE (aj S) e i=aE (aj S) e (i+j)->aE (aj S) e j=e
 |0,j,h=>by rw[Ih]at h;exact h.symm
 |i+1,j,h=>by
  have g:=bp S k
  have r:=cF k
  have e1:i+1+j=(i+j)+1:=by lia
  rw[e1,fP,fP]at h
  exact lg he i j (mi g r (eT g r he _) (eT g r he _) h)
theorem rB {e:au}(he:(ab S).J e.1 e.2):∃N,0<N/\N<=2*S.lines.length/\aE (aj S) e N=e:=by
 have g:=bp S k
 have r:=cF k
 apply bcn
 intro hno
 have hd:∀a b,0<=a->a<b->b<0+(2*S.lines.length+1)->aE (aj S) e a≠aE (aj S) e b:=by
  intro a b _ hab hb heq
  apply hno
  refine⟨b-a,by lia,by lia,lg k he a (b-a) ?_⟩
  have:a+(b-a)=b:=by lia
  rw[this];exact heq
 have nd:=fO (aj S) e (2*S.lines.length+1) 0 hd
 have hl:=bI nd (m:=ways S) (by
  intro x hx
  obtain⟨j,_,_,rfl⟩:=(bR _ _ _ _ _).1 hx
  exact jb.2 (eT g r he j))
 have seg_len:∀n i,(seg (aj S) e i n).length=n:=by
  intro n;induction n with
  |zero=>intro i;rfl
  |succ n ih=>intro i;rw[seg,GL,ih]
 rw[seg_len,lM]at hl
 lia
theorem qd {e:au}(he:(ab S).J e.1 e.2):∃N,0<N/\N<=2*S.lines.length/\aE (aj S) e N=e /\
  ∀m,0<m->m<N->aE (aj S) e m≠e:=by
 have step:∀n,(∃N,0<N/\N<=n/\aE (aj S) e N=e)->∃N,0<N/\N<=n/\aE (aj S) e N=e/\∀m,0<m->m<N->aE (aj S) e m≠e:=by
  intro n
  induction n with
  |zero=>rintro⟨N,h1,h2,_⟩;lia
  |succ n ih =>
   rintro⟨N,h1,h2,h3⟩
   by_cases hx:∃N,0<N/\N<=n/\aE (aj S) e N=e
   ·obtain⟨N,a,b,c,d⟩:=ih hx
    exact⟨N,a,by lia,c,d⟩
   ·refine⟨N,h1,h2,h3,λm m1 m2 m3=>hx ⟨m,m1,by lia,m3⟩⟩
 exact step _ (rB k he)
end
theorem cO (ring:Nat->List Nat)(e:au):∀n i,(seg ring e i n).length=n
 |0,_=>rfl
 |n+1,i=>by rw[seg,GL,cO ring e n]
theorem oW {S:Plan}(k:Kept S){e:au}(he:(ab S).J e.1 e.2){N:Nat}(h0:0<N)(hN:aE (aj S) e N=e)
  (hm:∀m,0<m->m<N->aE (aj S) e m≠e):∀n i,i<N->N<=i+n->S.round n e (aE (aj S) e i)=(seg (aj S) e i (N-i)).map (·.1)
 |0,i,h1,h2=>by lia
 |n+1,i,h1,h2=>by
  have g:=bp S k
  have r:=cF k
  have hj:=eT g r he i
  rw[Plan.round]
  have e1:((aE (aj S) e i).2,S.next (aE (aj S) e i).1 (aE (aj S) e i).2)=aE (aj S) e (i+1):=by
   rw[zV k hj];rfl
  simp only[e1]
  have e2:N-i=(N-(i+1))+1:=by lia
  rw[e2,seg,Gw]
  congr 1
  by_cases h:i+1=N
  ·rw[Gk (by rw[h,hN]),h];simp[seg]
  ·rw[Gf (hm (i+1) (by lia) (by lia))]
   exact oW k he h0 hN hm n (i+1) (by lia) (by lia)
def rnd (S:Plan)(e:au):List Nat:=S.round (2*S.lines.length+1) e e
def orb (S:Plan)(e:au):List au:=seg (aj S) e 0 (rnd S e).length
structure Per (S:Plan)(e:au)(N:Nat):Prop where
 pos:0<N
 back:aE (aj S) e N=e
 dist:∀a b,a<b->b<N->aE (aj S) e a≠aE (aj S) e b
 rnd:rnd S e=(seg (aj S) e 0 N).map (·.1)
 len:(WL.rnd S e).length=N
 orb:orb S e=seg (aj S) e 0 N
theorem dC {S:Plan}(k:Kept S){e:au}(he:(ab S).J e.1 e.2):Per S e (rnd S e).length:=by
 obtain⟨N,h0,hL,hN,hm⟩:=qd k he
 have hr:rnd S e=(seg (aj S) e 0 N).map (·.1):=by
  have:=oW k he h0 hN hm (2*S.lines.length+1) 0 h0 (by lia)
  simpa [rnd,aE] using this
 have hl:(rnd S e).length=N:=by rw[hr,lmp,cO]
 rw[hl]
 refine⟨h0,hN,?_,hr,hl,?_⟩
 ·intro a b hab hb heq
  have:=lg k he a (b-a) (by rw[heq];congr 1;lia)
  exact hm (b-a) (by lia) (by lia) this
 ·unfold orb;rw[hl]
theorem fT (ring:Nat->List Nat)(e:au)(i:Nat):∀j,aE ring e (i+j)=aE ring (aE ring e i) j
 |0=>rfl
 |j+1=>by rw[<-Nat.add_assoc,fP,fT ring e i j];rfl
theorem rC {ring:Nat->List Nat}{e:au}{N:Nat}(hN:aE ring e N=e):∀m,aE ring e (N*m)=e
 |0=>rfl
 |m+1=>by rw[Nat.mul_succ,fT,rC hN m,hN]
theorem p8 {ring:Nat->List Nat}{e:au}{N:Nat}(hN:aE ring e N=e)(h0:0<N)(j:Nat):aE ring e j=aE ring e (j % N):=by
 have:j=N*(j / N)+j % N:=(Nat.div_add_mod j N).symm
 conv=>lhs;rw[this]
 rw[fT,rC hN]
theorem d4 {S:Plan}(k:Kept S){e x:au}(he:(ab S).J e.1 e.2):x∈orb S e↔∃j,x=aE (aj S) e j:=by
 have p:=dC k he
 rw[p.orb,bR]
 constructor
 ·rintro⟨j,_,_,h⟩;exact⟨j,h⟩
 ·rintro⟨j,h⟩
  refine⟨j % (rnd S e).length,Hj _,?_,?_⟩
  ·rw[Ih];exact Nat.mod_lt _ p.pos
  ·rw[h];exact p8 p.back p.pos j
theorem gR {S:Plan}(k:Kept S){e:au}(he:(ab S).J e.1 e.2):e∈orb S e:=(d4 k he).2 ⟨0,rfl⟩
theorem fW {S:Plan}(k:Kept S){e x:au}(he:(ab S).J e.1 e.2)(h:x∈orb S e):(ab S).J x.1 x.2:=by
 obtain⟨j,rfl⟩:=(d4 k he).1 h
 exact eT (bp S k) (cF k) he j
theorem eB {S:Plan}(k:Kept S){e x:au}(he:(ab S).J e.1 e.2)(h:x∈orb S e):e∈orb S x:=by
 have hx:=fW k he h
 have p:=dC k he
 rw[p.orb,bR]at h
 obtain⟨j,_,h2,rfl⟩:=h
 refine(d4 k hx).2 ⟨(rnd S e).length-j,?_⟩
 rw[<-fT]
 have:j+((rnd S e).length-j)=(rnd S e).length:=by lia
 rw[this,p.back]
theorem fN {S:Plan}(k:Kept S){e x y:au}(he:(ab S).J e.1 e.2)(h:x∈orb S e)(h2:y∈orb S x):y∈orb S e:=by
 have hx:=fW k he h
 obtain⟨i,rfl⟩:=(d4 k he).1 h
 obtain⟨j,rfl⟩:=(d4 k hx).1 h2
 exact(d4 k he).2 ⟨i+j,by rw[fT]⟩
def prs (l:List Nat):List au:=l.zip (l.drop 1++l.take 1)
theorem rn (ring:Nat->List Nat)(e:au):∀n i,((seg ring e i (n+1)).map (·.1)).zip (((seg ring e i (n+1)).map (·.1)).drop 1++[(aE ring e (i+n+1)).1])=seg ring e i (n+1)
 |0,i=>by
  simp[seg]
  exact Prod.ext rfl (dX ring e i)
 |n+1,i=>by
  have ih:=rn ring e n (i+1)
  rw[seg,Gw,List.drop_one,List.tail_cons]
  have e0:(seg ring e (i+1) (n+1)).map (·.1)=(aE ring e (i+1)).1 :: ((seg ring e (i+1) (n+1)).map (·.1)).drop 1:=by
   rw[seg];rfl
  have e1:i+1+n+1=i+(n+1)+1:=by lia
  rw[e1]at ih
  conv=>lhs;rw[e0]
  rw[J5,IC,<-e0,ih]
  congr 1
theorem iw {S:Plan}(k:Kept S){e:au}(he:(ab S).J e.1 e.2):prs (rnd S e)=orb S e:=by
 have p:=dC k he
 obtain⟨n,hn⟩:∃n,(rnd S e).length=n+1:=⟨(rnd S e).length-1,by have:=p.pos;lia⟩
 have hr:=p.rnd
 have hb:=p.back
 rw[hn]at hr hb
 unfold prs
 have ht:(rnd S e).take 1=[(aE (aj S) e (0+n+1)).1]:=by
  rw[hr,Ih,hb,seg];rfl
 rw[ht,hr,rn,p.orb,hn]
theorem eR (ring:Nat->List Nat)(e:au):∀a b i,seg ring e i (a+b)=seg ring e i a++seg ring e (i+a) b
 |0,b,i=>by simp[seg]
 |a+1,b,i=>by
  have:a+1+b=(a+b)+1:=by lia
  rw[this,seg,seg,eR ring e a b (i+1),J5]
  congr 2;congr 1;lia
theorem kM (ring:Nat->List Nat)(e:au)(j:Nat):∀n i,seg ring (aE ring e j) i n=seg ring e (j+i) n
 |0,i=>rfl
 |n+1,i=>by
  rw[seg,seg,kM ring e j n (i+1),<-fT];rfl
theorem mR {ring:Nat->List Nat}{e:au}{N:Nat}(hN:aE ring e N=e):∀n i,seg ring e (N+i) n=seg ring e i n
 |0,i=>rfl
 |n+1,i=>by
  have:N+i+1=N+(i+1):=by lia
  rw[seg,seg,this,mR hN n (i+1),fT,hN]
theorem nQ {S:Plan}(k:Kept S){e x:au}(he:(ab S).J e.1 e.2)(h:x∈orb S e):(rnd S x).length=(rnd S e).length:=by
 have le:∀{a b:au},(ab S).J a.1 a.2->b∈orb S a->(orb S b).length<=(orb S a).length:=by
  intro a b ha hb
  have hbj:=fW k ha hb
  have pb:=dC k hbj
  apply bI
  ·rw[pb.orb];exact fO _ _ _ _ (λx y _ h1 h2=>pb.dist x y h1 (by lia))
  ·intro y hy;exact fN k ha hb hy
 have hx:=fW k he h
 have l1:=le he h
 have l2:=le hx (eB k he h)
 unfold orb at l1 l2
 rw[cO,cO]at l1 l2
 lia
theorem zq {S:Plan}(k:Kept S){e:au}(he:(ab S).J e.1 e.2){j:Nat}(hj:j<(rnd S e).length) :
  rnd S (aE (aj S) e j)=(rnd S e).drop j++(rnd S e).take j:=by
 have g:=bp S k
 have r:=cF k
 have p:=dC k he
 have hx:=eT g r he j
 have hm:aE (aj S) e j∈orb S e:=(d4 k he).2 ⟨j,rfl⟩
 have px:=dC k hx
 have hl:=nQ k he hm
 rw[px.rnd,hl,kM]
 obtain⟨m,hm'⟩:∃m,(rnd S e).length=j+m:=⟨(rnd S e).length-j,by lia⟩
 have e1:seg (aj S) e (j+0) (rnd S e).length=seg (aj S) e j m++seg (aj S) e 0 j:=by
  rw[hm']
  have:j+m=m+j:=by lia
  rw[this,Nat.add_zero,eR]
  congr 1
  have h2:=mR p.back j 0
  rw[Nat.add_zero,hm']at h2;exact h2
 have e2:rnd S e=(seg (aj S) e 0 j).map (·.1)++(seg (aj S) e j m).map (·.1):=by
  rw[p.rnd,hm',eR,GA,Ih]
 have hl1:((seg (aj S) e 0 j).map (·.1)).length=j:=by rw[lmp,cO]
 rw[e1,GA]
 conv=>rhs;rw[e2]
 rw[List.drop_left' hl1,List.take_left' hl1]
structure Bg (S:Plan)(ok:Nat->Prop)(m:Nat->Bool)(c:Bool)(todo:List Nat)(seen:Array Bool):Prop where
 t:∀x∈todo,ok x/\m x=c
 s:∀j,seen[j]? = some true->ok j->m j=c
 f:∀j,seen[j]? = some false->ok j
theorem tq {S:Plan}{i:Nat}{j:Nat}(h:j∈S.nears.getD i []):j∈S.near i:=by
 unfold Plan.nears at h
 rw[HR]at h
 simp only[List.getElem?_toArray,Gp]at h
 cases hr:(GE S.pts.length)[i]? with
 |none=>rw[hr]at h;simp at h
 |some x =>
  rw[hr]at h
  have:x=i:=by
   have:=List.getElem?_eq_some_iff.1 hr
   obtain⟨a,b⟩:=this
   rw[List.getElem_range]at b;exact b.symm
  subst this;simpa using h
theorem pN {S:Plan}{ok:Nat->Prop}{m:Nat->Bool}{c:Bool}(he:∀a b,(ab S).J a b->ok a->ok b->m a=m b){i:Nat}(hi:ok i/\m i=c) :
  ∀(l:List Nat),(∀j∈l,(ab S).J i j)->∀(z:List Nat×Array Bool),Bg S ok m c z.1 z.2 ->
  Bg S ok m c (l.foldl (λ(a:List Nat×Array Bool) (j:Nat)=>if a.2.getD j true=true then a else (j :: a.1,a.2.setIfInBounds j true)) z).1
   (l.foldl (λ(a:List Nat×Array Bool) (j:Nat)=>if a.2.getD j true=true then a else (j :: a.1,a.2.setIfInBounds j true)) z).2
 |[],_,z,h=>h
 |j :: r,hl,z,h=>by
  rw[Il]
  refine pN he hi r (λx hx=>hl x (by simp[hx])) _ ?_
  split
  ·exact h
  ·rename_i hs
   have hjf:z.2[j]? = some false:=by
    rw[HR]at hs
    cases hz:z.2[j]? with
    |none=>rw[hz]at hs;simp at hs
    |some b=>cases b with
     |true=>rw[hz]at hs;simp at hs
     |false=>rfl
   have hok:=h.f j hjf
   have hm:m j=c:=by rw[<-he i j (hl j (by simp)) hi.1 hok];exact hi.2
   constructor
   ·intro x hx
    rcases Gh.1 hx with e|e
    ·subst e;exact⟨hok,hm⟩
    ·exact h.t x e
   ·intro x hx hokx
    by_cases e:j=x
    ·subst e;exact hm
    ·rw[Hy e]at hx
     exact h.s x hx hokx
   ·intro x hx
    by_cases e:j=x
    ·subst e;exact hok
    ·rw[Hy e]at hx
     exact h.f x hx
theorem jd {S:Plan}(k:Kept S){ok:Nat->Prop}{m:Nat->Bool}{c:Bool}(he:∀a b,(ab S).J a b->ok a->ok b->m a=m b) :
  ∀(n:Nat) (todo:List Nat) (seen:Array Bool),Bg S ok m c todo seen->∀j,(spread S.nears n todo seen)[j]? = some true->ok j->m j=c
 |0,todo,seen,h=>by intro j;rw[spread];exact h.s j
 |n+1,todo,seen,h=>by
  cases todo with
  |nil=>exact h.s
  |cons x r =>
   have hx:=h.t x (by simp)
   refine jd k he n _ _ (pN he hx _ (λj hj=>(fQ k).1 (tq hj)) (r,seen) ⟨?_,h.s,h.f⟩)
   intro y hy;exact h.t y (by simp[hy])
theorem pp:∀(l:List Nat) (z:List Nat×Array Bool),
  (l.foldl (λ(a:List Nat×Array Bool) (j:Nat)=>if a.2.getD j true=true then a else (j :: a.1,a.2.setIfInBounds j true)) z).2.size=z.2.size
 |[],z=>rfl
 |j :: r,z=>by
  rw[Il,pp r];split
  ·rfl
  ·simp
theorem lS {near:Array (List Nat)}:∀(n:Nat) (todo:List Nat) (seen:Array Bool),(spread near n todo seen).size=seen.size
 |0,_,_=>rfl
 |n+1,todo,seen=>by
  cases todo with
  |nil=>rfl
  |cons x r=>exact(lS n _ _).trans (pp _ _)
theorem yN {S:Plan}(k:Kept S)(h0:0<S.pts.length)
  (h9:(GE S.pts.length).find? (λ(i:Nat)=>!((seenFrom S.nears S.pts.length 0 (noneSeen S.pts.length)).getD i false))=none):tK (ab S) (λ_=>True):=by
 intro m he
 have key:∀a,a<S.pts.length->m a=m 0:=by
  intro a ha
  have:=Je.1 h9 a (by simpa using ha)
  have hs:(seenFrom S.nears S.pts.length 0 (noneSeen S.pts.length))[a]? = some true:=by
   rw[HR]at this
   cases hz:(seenFrom S.nears S.pts.length 0 (noneSeen S.pts.length))[a]? with
   |none=>rw[hz]at this;simp at this
   |some b=>cases b with
    |true=>rfl
    |false=>rw[hz]at this;simp at this
  refine jd k (ok:=λ_=>True) (c:=m 0) he _ _ _ ⟨?_,?_,?_⟩ a hs trivial
  ·intro x hx;simp at hx;subst hx;exact⟨trivial,rfl⟩
  ·intro j hj _
   by_cases e:0=j
   ·subst e;rfl
   ·rw[Hy e]at hj
    unfold noneSeen at hj
    rw[Array.getElem?_replicate]at hj
    split at hj<;>simp at hj
  ·intro _ _;trivial
 intro a b ha hb _ _
 rw[key a ha,key b hb]
theorem yp {S:Plan}(k:Kept S)(h0:4<=S.pts.length){v:Nat}(hv:v<S.pts.length)
  (h10:cuts S.nears S.pts.length v=false):tK (ab S) (λu=>u≠v):=by
 intro m he
 let s:=if v=0 then 1 else 0
 have hsv:s≠v:=by show(if v=0 then 1 else 0)≠v;split<;>lia
 have key:∀a,a<S.pts.length->a≠v->m a=m s:=by
  intro a ha hav
  unfold cuts at h10
  have hsz:(seenFrom S.nears S.pts.length (if v=0 then 1 else 0) ((noneSeen S.pts.length).setIfInBounds v true)).size=S.pts.length:=by
   unfold seenFrom;rw[lS];simp[noneSeen]
  have hs:(seenFrom S.nears S.pts.length (if v=0 then 1 else 0) ((noneSeen S.pts.length).setIfInBounds v true))[a]? = some true:=by
   have hlt:a<(seenFrom S.nears S.pts.length (if v=0 then 1 else 0) ((noneSeen S.pts.length).setIfInBounds v true)).size:=by rw[hsz];exact ha
   rw[J3 hlt]
   cases hz:(seenFrom S.nears S.pts.length (if v=0 then 1 else 0) ((noneSeen S.pts.length).setIfInBounds v true))[a] with
   |true=>rfl
   |false =>
    exfalso
    have:(seenFrom S.nears S.pts.length (if v=0 then 1 else 0) ((noneSeen S.pts.length).setIfInBounds v true)).contains false=true:=by
     rw[Array.contains_iff_mem]
     rw[<-hz];exact Array.getElem_mem hlt
    rw[h10]at this;cases this
  refine jd k (ok:=λu=>u≠v) (c:=m s) he _ _ _ ⟨?_,?_,?_⟩ a hs hav
  ·intro x hx
   have hx:x=s:=by simpa using hx
   subst hx;exact⟨hsv,rfl⟩
  ·intro j hj hjv
   by_cases e:s=j
   ·subst e;rfl
   ·rw[Hy e,Hy (GJ hjv)]at hj
    unfold noneSeen at hj
    rw[Array.getElem?_replicate]at hj
    split at hj<;>simp at hj
  ·intro j hj e
   subst e
   rw[Hy hsv,Array.getElem?_setIfInBounds_self]at hj
   split at hj<;>simp at hj
 intro a b ha hb hav hbv
 rw[key a ha hav,key b hb hbv]
theorem ip:∀(r:List Nat) (a m:Nat),m∈a :: r->(∀x∈a :: r,m<=x)->r.foldl min a=m
 |[],a,m,h,_=>by simp at h;simp[h]
 |b :: r,a,m,h,hm=>by
  rw[Il]
  apply ip r
  ·have h1:=hm a (by simp)
   have h2:=hm b (by simp)
   rcases Gh.1 h with e|e
   ·subst e;simp;left;lia
   ·rcases Gh.1 e with e|e
    ·subst e;simp;left;lia
    ·simp[e]
  ·intro x hx
   rcases Gh.1 hx with e|e
   ·have h1:=hm a (by simp)
    have h2:=hm b (by simp)
    lia
   ·exact hm x (by simp[e])
theorem dW {m:Nat}{t:List Nat}(hm:∀x∈t,m<x){j:Nat}(hj:j<(m :: t).length) :
  fromLeast ((m :: t).drop j++(m :: t).take j)=m :: t:=by
 have hmem:∀x,x∈(m :: t).drop j++(m :: t).take j->x∈m :: t:=by
  intro x hx
  rcases GK.1 hx with h|h
  ·exact IK h
  ·exact HE h
 have hge:∀x,x∈(m :: t).drop j++(m :: t).take j->m<=x:=by
  intro x hx
  rcases Gh.1 (hmem x hx) with e|e
  ·lia
  ·exact Jp (hm x e)
 by_cases h0:j=0
 ·subst h0
  simp only[List.drop_zero,List.take_zero,HM]at *
  unfold fromLeast
  simp only
  rw[ip t m m (by simp) hge]
  simp
 ·obtain⟨i,rfl⟩:∃i,j=i+1:=⟨j-1,by lia⟩
  have hin:m∈(m :: t).drop (i+1)++(m :: t).take (i+1):=by simp
  have hno:m∉(m :: t).drop (i+1):=by
   intro h
   simp only[List.drop_succ_cons]at h
   have:=hm m (IK h);lia
  have hidx:((m :: t).drop (i+1)++(m :: t).take (i+1)).idxOf m=((m :: t).drop (i+1)).length:=by
   rw[List.take_succ_cons];exact lY hno
  generalize hL:(m :: t).drop (i+1)++(m :: t).take (i+1)=L at *
  unfold fromLeast
  cases L with
  |nil=>simp at hin
  |cons a r =>
   simp only
   rw[ip r a m hin hge,hidx,<-hL,List.drop_left,List.take_left,List.take_append_drop]
structure cB (S:Plan):Prop extends Kept S where
 pts4:4<=S.pts.length
 r6:frameOk S=true
 r9:(GE S.pts.length).find? (λ(i:Nat)=>!((seenFrom S.nears S.pts.length 0 (noneSeen S.pts.length)).getD i false))=none
 r10:(GE S.pts.length).find? (cuts S.nears S.pts.length)=none
theorem cB.conn {S:Plan}(k:cB S):tK (ab S) (λ_=>True):=yN k.toKept (by have:=k.pts4;lia) k.r9
theorem cB.but {S:Plan}(k:cB S):∀v,v<(ab S).n->tK (ab S) (λu=>u≠v):=by
 intro v hv
 have:=Je.1 k.r10 v (by simpa [ab] using hv)
 exact yp k.toKept k.pts4 hv (by simpa using this)
theorem kO {S:Plan}(k:cB S){e:au}(he:(ab S).J e.1 e.2):(rnd S e).Nodup:=by
 have p:=dC k.toKept he
 have g:=bp S k.toKept
 have r:=cF k.toKept
 rw[p.rnd,List.Nodup,List.pairwise_map,GT]
 have get:∀n i a (h:a<(seg (aj S) e i n).length),(seg (aj S) e i n)[a]=aE (aj S) e (i+a):=by
  intro n
  induction n with
  |zero=>intro i a h;simp[seg]at h
  |succ n ih =>
   intro i a h
   cases a with
   |zero=>rfl
   |succ a =>
    simp only[seg,List.getElem_cons_succ]
    rw[ih];congr 1;lia
 intro a b ha hb hab
 rw[get,get]
 rw[cO]at hb
 simpa using re g r he p.back p.dist k.but hab hb
theorem kT {S:Plan}{l:List Nat}(hc:chained S l=true){i:Nat}(hi:i+1<l.length):(ab S).J l[i] l[i+1]:=by
 unfold chained at hc
 rw[Hk]at hc
 have hm:(l[i],l[i+1])∈l.zip (l.drop 1):=by
  rw[J0]
  refine⟨i,by simp;lia,?_⟩
  rw[Jx,Jo]
  congr 2;lia
 have:=hc _ hm
 unfold Plan.joined at this
 rw[Jf]at this
 simp only at this
 rcases Nat.le_total l[i] l[i+1] with h|h
 ·rw[GH h,Hg h]at this;exact HZ this
 ·rw[GG h,HQ h]at this;exact Hr this
theorem a7 {S:Plan}{on:Pt->Bool}{b:Nat}:b∈edgePts S on↔b<S.pts.length/\on (S.pt b)=true:=by
 unfold edgePts;rw[GR];simp
theorem ij {S:Plan}{on:Pt->Bool}:(edgePts S on).Pairwise (· < ·):=by
 unfold edgePts;exact List.pairwise_lt_range.filter _
theorem nS {S:Plan}{on:Pt->Bool}(hc:chained S (edgePts S on)=true){b c:Nat}(hb:b∈edgePts S on)(hcm:c∈edgePts S on)(h:c<b) :
  ∃k,k∈edgePts S on/\k<b/\(ab S).J k b:=by
 obtain⟨i,hi,ei⟩:=GI hb
 obtain⟨j,hj,ej⟩:=GI hcm
 have hlt:=GT.1 (ij (S:=S) (on:=on))
 have hji:j<i:=by
  apply bcn;intro hn
  rcases Nat.lt_or_eq_of_le (Nat.le_of_not_lt hn) with h'|h'
  ·have:=hlt i j hi hj h';lia
  ·subst h';lia
 obtain⟨i',rfl⟩:∃i',i=i'+1:=⟨i-1,by lia⟩
 refine⟨(edgePts S on)[i'],GC _,?_,?_⟩
 ·have:=hlt i' (i'+1) (by lia) hi (by lia);lia
 ·have:=kT hc hi
  rw[ei]at this;exact this
theorem nZ {S:Plan}{on:Pt->Bool}(hc:chained S (edgePts S on)=true){b c:Nat}(hb:b∈edgePts S on)(hcm:c∈edgePts S on)(h:b<c) :
  ∃k,k∈edgePts S on/\b<k/\(ab S).J b k:=by
 obtain⟨i,hi,ei⟩:=GI hb
 obtain⟨j,hj,ej⟩:=GI hcm
 have hlt:=GT.1 (ij (S:=S) (on:=on))
 have hji:i<j:=by
  apply bcn;intro hn
  rcases Nat.lt_or_eq_of_le (Nat.le_of_not_lt hn) with h'|h'
  ·have:=hlt j i hj hi h';lia
  ·subst h';lia
 refine⟨(edgePts S on)[i+1],GC _,?_,?_⟩
 ·have:=hlt i (i+1) (by lia) (by lia) (by lia);lia
 ·have:=kT hc (i:=i) (by lia)
  rw[ei]at this;exact this
structure u5 (S:Plan):Prop where
 inw:∀{i},i<S.pts.length->(S.pt i).x<=S.w/\(S.pt i).y<=S.h
 bot:∀{b},b<S.pts.length->(S.pt b).y=0->(S.pt b).x≠0->∃k,(ab S).J b k/\(S.pt k).y=0/\(S.pt k).x<(S.pt b).x
 lef:∀{b},b<S.pts.length->(S.pt b).x=0->(S.pt b).y≠S.h->∃k,(ab S).J b k/\(S.pt k).x=0/\(S.pt b).y<(S.pt k).y
 top:∀{b},b<S.pts.length->(S.pt b).y=S.h->(S.pt b).x≠S.w->∃k,(ab S).J b k/\(S.pt k).y=S.h/\(S.pt b).x<(S.pt k).x
 rig:∀{b},b<S.pts.length->(S.pt b).x=S.w->(S.pt b).y≠0->∃k,(ab S).J b k/\(S.pt k).x=S.w/\(S.pt k).y<(S.pt b).y
 last:∃c,c+1=S.pts.length/\(S.pt c).x=S.w/\(S.pt c).y=S.h
theorem eh {S:Plan}{p:Pt}(h:S.pts.contains p=true):∃c,c<S.pts.length/\S.pt c=p:=by
 rw[Jf]at h
 obtain⟨i,hi,e⟩:=GI h
 exact⟨i,hi,by rw[bO S hi];exact e⟩
theorem iO {S:Plan}(k:Kept S)(h6:frameOk S=true):u5 S:=by
 have hin:∀{i},i<S.pts.length->(S.pt i).x<=S.w/\(S.pt i).y<=S.h:=by
  intro i hi
  have:=(cp k.r4).1 (S.pt i) (by rw[bO S hi];exact GC _)
  simpa using this
 unfold frameOk at h6
 simp only[Gi]at h6
 obtain⟨c00,cw0,c0h,cwh,e1,e2,e3,e4⟩:=h6
 obtain⟨a0,a1,a2⟩:=eh c00
 obtain⟨b0,b1,b2⟩:=eh cw0
 obtain⟨c0,c1,c2⟩:=eh c0h
 obtain⟨d0,d1,d2⟩:=eh cwh
 have lt_of:∀{i j},i<S.pts.length->j<S.pts.length->((S.pt i).y<(S.pt j).y\/((S.pt i).y=(S.pt j).y/\(S.pt i).x<(S.pt j).x))->i<j:=by
  intro i j hi hj h
  rcases Nat.lt_trichotomy i j with h'|h'|h'
  ·exact h'
  ·subst h';lia
  ·have:=k.ord h' hi
   rw[eK]at this;lia
 have lt_to:∀{i j},i<j->j<S.pts.length->((S.pt i).y<(S.pt j).y\/((S.pt i).y=(S.pt j).y/\(S.pt i).x<(S.pt j).x)):=by
  intro i j h hj
  have:=k.ord h hj
  rw[eK]at this;exact this
 have g:=bp S k
 refine⟨hin,?_,?_,?_,?_,?_⟩
 ·intro b hb hy hx
  obtain⟨j,h1,h2,h3⟩:=nS e1 (b:=b) (c:=a0) (a7.2 ⟨hb,by simpa using hy⟩) (a7.2 ⟨a1,by rw[a2];rfl⟩)
   (lt_of a1 hb (by rw[a2];simp only;lia))
  have h1':=(a7.1 h1).2
  have:=lt_to h2 hb
  exact⟨j,g.symm h3,by simpa using h1',by simp at h1';lia⟩
 ·intro b hb hx hy
  have:=hin hb
  obtain⟨j,h1,h2,h3⟩:=nZ e3 (b:=b) (c:=c0) (a7.2 ⟨hb,by simpa using hx⟩) (a7.2 ⟨c1,by rw[c2];rfl⟩)
   (lt_of hb c1 (by rw[c2];simp only;lia))
  have h1':=(a7.1 h1)
  have:=lt_to h2 h1'.1
  have h1'':=h1'.2
  exact⟨j,h3,by simpa using h1'',by simp at h1'';lia⟩
 ·intro b hb hy hx
  have:=hin hb
  obtain⟨j,h1,h2,h3⟩:=nZ e2 (b:=b) (c:=d0) (a7.2 ⟨hb,by simpa using hy⟩) (a7.2 ⟨d1,by rw[d2];simp⟩)
   (lt_of hb d1 (by rw[d2];simp only;lia))
  have h1':=(a7.1 h1)
  have:=lt_to h2 h1'.1
  have h1'':=h1'.2
  exact⟨j,h3,by simpa using h1'',by simp at h1'';lia⟩
 ·intro b hb hx hy
  have:=hin hb
  obtain⟨j,h1,h2,h3⟩:=nS e4 (b:=b) (c:=b0) (a7.2 ⟨hb,by simpa using hx⟩) (a7.2 ⟨b1,by rw[b2];simp⟩)
   (lt_of b1 hb (by rw[b2];simp only;lia))
  have h1':=(a7.1 h1).2
  have:=lt_to h2 hb
  exact⟨j,g.symm h3,by simpa using h1',by simp at h1';lia⟩
 ·refine⟨d0,?_,by rw[d2],by rw[d2]⟩
  apply bcn;intro hn
  have hl:d0+1<S.pts.length:=by lia
  have h1:=lt_to (show d0<d0+1 by lia) hl
  have h2:=hin hl
  rw[d2]at h1;simp only at h1;lia
theorem gc {R k c:Int×Int}(h1:cr R k=0)(h2:R.1*k.1+R.2*k.2<0)(h3:0<=cr R c)(h4:cr R c=0->cr c k=0):sooner R c k=false:=by
 rw[dM,oa h1 h2]
 by_cases h:cr R c=0
 ·have:=h4 h
  have:half R c≠0:=by
   have e:¬R.1*c.2-R.2*c.1<0:=by unfold cr at h;lia
   unfold half;simp only[e,JV];split
   ·lia
   ·split<;>lia
  lia
 ·rw[bM (by lia)];lia
theorem gj {R k c:Int×Int}(h1:0<cr R k)(h2:0<=cr R c)(h3:0<=cr c k)(h4:cr R c=0->0<=R.1*c.1+R.2*c.2):sooner R c k=false:=by
 rw[dM,bM h1]
 by_cases h:cr R c=0
 ·have h5:=h4 h
  have:half R c=3:=by
   have e:¬R.1*c.2-R.2*c.1<0:=by unfold cr at h;lia
   have e2:¬0<R.1*c.2-R.2*c.1:=by unfold cr at h;lia
   have e3:¬R.1*c.1+R.2*c.2<0:=by lia
   unfold half;simp only[e,e2,e3,JV]
  lia
 ·rw[bM (by lia)];lia
def Fc (S:Plan)(a b:Nat):Prop :=
 ((S.pt a).y=0/\(S.pt b).y=0/\(S.pt b).x<(S.pt a).x)\/((S.pt a).x=0/\(S.pt b).x=0/\(S.pt a).y<(S.pt b).y) \/
 ((S.pt a).y=S.h/\(S.pt b).y=S.h/\(S.pt a).x<(S.pt b).x)\/((S.pt a).x=S.w/\(S.pt b).x=S.w/\(S.pt b).y<(S.pt a).y)
theorem Au {S:Plan}(k:Kept S)(f:u5 S)(hw:0<S.w)(hh:0<S.h){a b:Nat}(hab:(ab S).J a b)(h:Fc S a b) :
  Fc S b (bJ (aj S b) a):=by
 have g:=bp S k
 have r:=cF k
 have hb:b<S.pts.length:=g.lt (g.symm hab)
 have ha:=r.mem.2 (g.symm hab)
 have soon:=n9 k ha
 have key:∀j,(ab S).J b j->sooner (dir S b a) (dir S b (bJ (aj S b) a)) (dir S b j)=false->Fc S b j->Fc S b (bJ (aj S b) a):=by
  intro j hj hs hf
  by_cases e:j=bJ (aj S b) a
  ·rw[<-e];exact hf
  ·have:=(soon j (r.mem.2 hj) e).1
   rw[hs]at this;cases this
 have hc:(ab S).J b (bJ (aj S b) a):=r.mem.1 (kY ha)
 have hcn:bJ (aj S b) a<S.pts.length:=g.lt (g.symm hc)
 have ic:=f.inw hcn
 have ib:=f.inw hb
 generalize bJ (aj S b) a=c at *
 have mn:∀{x y:Int},0<=x->0<=y->0<=x*y:=λh1 h2=>Gg h1 h2
 rcases h with⟨y1,y2,y3⟩|⟨y1,y2,y3⟩|⟨y1,y2,y3⟩|⟨y1,y2,y3⟩
 ·
  by_cases e:(S.pt b).x=0
  ·obtain⟨j,hj,j1,j2⟩:=f.lef hb e (by lia)
   refine key j hj ?_ (Hr (HZ ⟨e,j1,j2⟩))
   rw[ba,ba,ba]
   have r1:(0:Int)<(ab S).X a-(ab S).X b:=by simp only[ab];lia
   have r2:(ab S).Y a-(ab S).Y b=0:=by simp only[ab];lia
   have k1:(ab S).X j-(ab S).X b=0:=by simp only[ab];lia
   have k2:(0:Int)<(ab S).Y j-(ab S).Y b:=by simp only[ab];lia
   have c1:(0:Int)<=(ab S).X c-(ab S).X b:=by simp only[ab];lia
   have c2:(0:Int)<=(ab S).Y c-(ab S).Y b:=by simp only[ab];lia
   rw[r2,k1]
   generalize (ab S).X a-(ab S).X b=rx at *
   generalize (ab S).Y j-(ab S).Y b=ky at *
   generalize (ab S).X c-(ab S).X b=cx at *
   generalize (ab S).Y c-(ab S).Y b=cy at *
   apply gj
   ·have:=Gs r1 k2;simpa [cr] using this
   ·have:=mn (Jd r1) c2;simpa [cr] using this
   ·have:=mn c1 (Jd k2);simpa [cr] using this
   ·intro _;have:=mn (Jd r1) c1;simpa using this
  ·obtain⟨j,hj,j1,j2⟩:=f.bot hb y2 e
   refine key j hj ?_ (HZ ⟨y2,j1,j2⟩)
   rw[ba,ba,ba]
   have r1:(0:Int)<(ab S).X a-(ab S).X b:=by simp only[ab];lia
   have r2:(ab S).Y a-(ab S).Y b=0:=by simp only[ab];lia
   have k1:(ab S).X j-(ab S).X b<0:=by simp only[ab];lia
   have k2:(ab S).Y j-(ab S).Y b=0:=by simp only[ab];lia
   have c2:(0:Int)<=(ab S).Y c-(ab S).Y b:=by simp only[ab];lia
   rw[r2,k2]
   generalize (ab S).X a-(ab S).X b=rx at *
   generalize (ab S).X j-(ab S).X b=kx at *
   generalize (ab S).X c-(ab S).X b=cx at *
   generalize (ab S).Y c-(ab S).Y b=cy at *
   apply gc
   ·simp[cr]
   ·have:=az _ _ r1 k1;simpa using this
   ·have:=mn (Jd r1) c2;simpa [cr] using this
   ·intro h
    simp[cr]at h ⊢
    rcases IA.1 h with h|h
    ·lia
    ·rw[h];simp
 ·
  by_cases e:(S.pt b).y=S.h
  ·obtain⟨j,hj,j1,j2⟩:=f.top hb e (by lia)
   refine key j hj ?_ (Hr (Hr (HZ ⟨e,j1,j2⟩)))
   rw[ba,ba,ba]
   have r1:(ab S).X a-(ab S).X b=0:=by simp only[ab];lia
   have r2:(ab S).Y a-(ab S).Y b<0:=by simp only[ab];lia
   have k1:(0:Int)<(ab S).X j-(ab S).X b:=by simp only[ab];lia
   have k2:(ab S).Y j-(ab S).Y b=0:=by simp only[ab];lia
   have c1:(0:Int)<=(ab S).X c-(ab S).X b:=by simp only[ab];lia
   have c2:(ab S).Y c-(ab S).Y b<=0:=by simp only[ab];lia
   rw[r1,k2]
   generalize (ab S).Y a-(ab S).Y b=ry at *
   generalize (ab S).X j-(ab S).X b=kx at *
   generalize (ab S).X c-(ab S).X b=cx at *
   generalize (ab S).Y c-(ab S).Y b=cy at *
   apply gj
   ·have:=Gs (show 0 < -ry by lia) k1;simp[cr];grind
   ·have:=mn (show 0<=-ry by lia) c1;simp[cr];grind
   ·have:=mn (show 0<=-cy by lia) (Jd k1);simp[cr];grind
   ·intro _;have:=mn (show 0<=-ry by lia) (show 0<=-cy by lia);simp;grind
  ·obtain⟨j,hj,j1,j2⟩:=f.lef hb y2 e
   refine key j hj ?_ (Hr (HZ ⟨y2,j1,j2⟩))
   rw[ba,ba,ba]
   have r1:(ab S).X a-(ab S).X b=0:=by simp only[ab];lia
   have r2:(ab S).Y a-(ab S).Y b<0:=by simp only[ab];lia
   have k1:(ab S).X j-(ab S).X b=0:=by simp only[ab];lia
   have k2:(0:Int)<(ab S).Y j-(ab S).Y b:=by simp only[ab];lia
   have c1:(0:Int)<=(ab S).X c-(ab S).X b:=by simp only[ab];lia
   rw[r1,k1]
   generalize (ab S).Y a-(ab S).Y b=ry at *
   generalize (ab S).Y j-(ab S).Y b=ky at *
   generalize (ab S).X c-(ab S).X b=cx at *
   generalize (ab S).Y c-(ab S).Y b=cy at *
   apply gc
   ·simp[cr]
   ·have:=Gs (show 0 < -ry by lia) k2;simp;grind
   ·have:=mn (show 0<=-ry by lia) c1;simp[cr];grind
   ·intro h
    simp[cr]at h ⊢
    rcases IA.1 h with h|h
    ·lia
    ·rw[h];simp
 ·
  by_cases e:(S.pt b).x=S.w
  ·obtain⟨j,hj,j1,j2⟩:=f.rig hb e (by lia)
   refine key j hj ?_ (Hr (Hr (Hr ⟨e,j1,j2⟩)))
   rw[ba,ba,ba]
   have r1:(ab S).X a-(ab S).X b<0:=by simp only[ab];lia
   have r2:(ab S).Y a-(ab S).Y b=0:=by simp only[ab];lia
   have k1:(ab S).X j-(ab S).X b=0:=by simp only[ab];lia
   have k2:(ab S).Y j-(ab S).Y b<0:=by simp only[ab];lia
   have c1:(ab S).X c-(ab S).X b<=0:=by simp only[ab];lia
   have c2:(ab S).Y c-(ab S).Y b<=0:=by simp only[ab];lia
   rw[r2,k1]
   generalize (ab S).X a-(ab S).X b=rx at *
   generalize (ab S).Y j-(ab S).Y b=ky at *
   generalize (ab S).X c-(ab S).X b=cx at *
   generalize (ab S).Y c-(ab S).Y b=cy at *
   apply gj
   ·have:=Gs (show 0 < -rx by lia) (show 0 < -ky by lia);simp[cr];grind
   ·have:=mn (show 0<=-rx by lia) (show 0<=-cy by lia);simp[cr];grind
   ·have:=mn (show 0<=-cx by lia) (show 0<=-ky by lia);simp[cr];grind
   ·intro _;have:=mn (show 0<=-rx by lia) (show 0<=-cx by lia);simp;grind
  ·obtain⟨j,hj,j1,j2⟩:=f.top hb y2 e
   refine key j hj ?_ (Hr (Hr (HZ ⟨y2,j1,j2⟩)))
   rw[ba,ba,ba]
   have r1:(ab S).X a-(ab S).X b<0:=by simp only[ab];lia
   have r2:(ab S).Y a-(ab S).Y b=0:=by simp only[ab];lia
   have k1:(0:Int)<(ab S).X j-(ab S).X b:=by simp only[ab];lia
   have k2:(ab S).Y j-(ab S).Y b=0:=by simp only[ab];lia
   have c2:(ab S).Y c-(ab S).Y b<=0:=by simp only[ab];lia
   rw[r2,k2]
   generalize (ab S).X a-(ab S).X b=rx at *
   generalize (ab S).X j-(ab S).X b=kx at *
   generalize (ab S).X c-(ab S).X b=cx at *
   generalize (ab S).Y c-(ab S).Y b=cy at *
   apply gc
   ·simp[cr]
   ·have:=Gs (show 0 < -rx by lia) k1;simp;grind
   ·have:=mn (show 0<=-rx by lia) (show 0<=-cy by lia);simp[cr];grind
   ·intro h
    simp[cr]at h ⊢
    rcases IA.1 h with h|h
    ·lia
    ·rw[h];simp
 ·
  by_cases e:(S.pt b).y=0
  ·obtain⟨j,hj,j1,j2⟩:=f.bot hb e (by lia)
   refine key j hj ?_ (HZ ⟨e,j1,j2⟩)
   rw[ba,ba,ba]
   have r1:(ab S).X a-(ab S).X b=0:=by simp only[ab];lia
   have r2:(0:Int)<(ab S).Y a-(ab S).Y b:=by simp only[ab];lia
   have k1:(ab S).X j-(ab S).X b<0:=by simp only[ab];lia
   have k2:(ab S).Y j-(ab S).Y b=0:=by simp only[ab];lia
   have c1:(ab S).X c-(ab S).X b<=0:=by simp only[ab];lia
   have c2:(0:Int)<=(ab S).Y c-(ab S).Y b:=by simp only[ab];lia
   rw[r1,k2]
   generalize (ab S).Y a-(ab S).Y b=ry at *
   generalize (ab S).X j-(ab S).X b=kx at *
   generalize (ab S).X c-(ab S).X b=cx at *
   generalize (ab S).Y c-(ab S).Y b=cy at *
   apply gj
   ·have:=Gs r2 (show 0 < -kx by lia);simp[cr];grind
   ·have:=mn (Jd r2) (show 0<=-cx by lia);simp[cr];grind
   ·have:=mn c2 (show 0<=-kx by lia);simp[cr];grind
   ·intro _;have:=mn (Jd r2) c2;simpa using this
  ·obtain⟨j,hj,j1,j2⟩:=f.rig hb y2 e
   refine key j hj ?_ (Hr (Hr (Hr ⟨y2,j1,j2⟩)))
   rw[ba,ba,ba]
   have r1:(ab S).X a-(ab S).X b=0:=by simp only[ab];lia
   have r2:(0:Int)<(ab S).Y a-(ab S).Y b:=by simp only[ab];lia
   have k1:(ab S).X j-(ab S).X b=0:=by simp only[ab];lia
   have k2:(ab S).Y j-(ab S).Y b<0:=by simp only[ab];lia
   have c1:(ab S).X c-(ab S).X b<=0:=by simp only[ab];lia
   rw[r1,k1]
   generalize (ab S).Y a-(ab S).Y b=ry at *
   generalize (ab S).Y j-(ab S).Y b=ky at *
   generalize (ab S).X c-(ab S).X b=cx at *
   generalize (ab S).Y c-(ab S).Y b=cy at *
   apply gc
   ·simp[cr]
   ·have:=az _ _ r2 k2;simpa using this
   ·have:=mn (Jd r2) (show 0<=-cx by lia);simp[cr];grind
   ·intro h
    simp[cr]at h ⊢
    rcases IA.1 h with h|h
    ·lia
    ·rw[h];simp
theorem lU:∀(l:List Int),(∀x∈l,x<=0)->l.foldr (λ(a b:Int)=>a+b) 0<=0
 |[],_=>by simp
 |a :: r,h=>by
  rw[List.foldr_cons]
  have:=lU r (λx hx=>h x (by simp[hx]))
  have:=h a (by simp);lia
theorem outer {S:Plan}(k:Kept S)(f:u5 S)(hw:0<S.w)(hh:0<S.h):∃o:au,(ab S).J o.1 o.2 /\
  (∀E:List au,(∀e∈E,(ab S).J e.1 e.2)->cX E->(ab S).om E o.1 o.2=false)/\twiceArea S (rnd S o)<=0:=by
 have g:=bp S k
 have r:=cF k
 obtain⟨v,hv,vx,vy⟩:=f.last
 obtain⟨j,hj,j1,j2⟩:=f.rig (b:=v) (by lia) vx (by lia)
 have hjv:j<v:=by
  have h1:j<S.pts.length:=g.lt (g.symm hj)
  have h2:=g.ne hj
  lia
 refine⟨(v,j),hj,?_,?_⟩
 ·intro E hE hc
  rw[<-hc (λx=>decide (x=v))]
  unfold Dr.om
  apply bC
  intro e he
  have hje:=hE e he
  have aux:∀p q,(ab S).J p q->p<q->(ab S).Om v j p q=(decide (p=v)^^decide (q=v)):=by
   intro p q hpq hlt
   have hq:q<S.pts.length:=g.lt (g.symm hpq)
   have hpv:p≠v:=by lia
   have hb:(ab S).base v p q=false:=by
    unfold Dr.base
    apply dqf
    intro h
    have h1:=f.inw hq
    have h2:=h.2.2.2.1
    simp only[ab]at h2;lia
   unfold Dr.Om
   rw[hb]
   by_cases hqv:q=v
   ·subst hqv
    have hpre:(ab S).pre q p j=true:=by
     unfold Dr.pre
     apply dqt
     by_cases e:p=j
     ·exact HZ e
     ·refine Hr (Hr ⟨Hr ⟨hlt,hjv⟩,?_⟩)
      have hz:=pq k (g.symm hpq) hj e (Hr ⟨hlt,hjv⟩)
      have:0<=(ab S).tr q p j:=by
       rw[vj,ba,ba]
       have k1:(ab S).X j-(ab S).X q=0:=by simp only[ab];lia
       have k2:(ab S).Y j-(ab S).Y q<0:=by simp only[ab];lia
       have i1:=f.inw (show p<S.pts.length by lia)
       have c1:(ab S).X p-(ab S).X q<=0:=by simp only[ab];lia
       rw[k1]
       have:=Gg (show 0<=-((ab S).X p-(ab S).X q) by lia) (show 0<=-((ab S).Y j-(ab S).Y q) by lia)
       simp only[cr];grind
      lia
    simp[hpv,hpre]
   ·simp[hpv,hqv]
  rcases Hf (g.ne hje) with h|h
  ·rw[GH (by lia),Hg (by lia)];exact aux _ _ hje h
  ·rw[GG (by lia),HQ (by lia),Jc];exact aux _ _ (g.symm hje) h
 ·have hall:∀i,Fc S (aE (aj S) (v,j) i).1 (aE (aj S) (v,j) i).2:=by
   intro i
   induction i with
   |zero=>exact Hr (Hr (Hr ⟨vx,j1,j2⟩))
   |succ i ih=>exact Au k f hw hh (eT g r hj i) ih
  unfold twiceArea
  apply lU
  intro x hx
  rw[GP]at hx
  obtain⟨e,he,rfl⟩:=hx
  have he:e∈prs (rnd S (v,j)):=he
  rw[iw k hj,d4 k hj]at he
  obtain⟨i,rfl⟩:=he
  rcases hall i with⟨h1,h2,h3⟩|⟨h1,h2,h3⟩|⟨h1,h2,h3⟩|⟨h1,h2,h3⟩
  ·rw[h1,h2];simp
  ·rw[h1,h2];simp
  ·rw[h1,h2]
   have:=Gg (show(0:Int)<=((S.pt (aE (aj S) (v,j) i).2).x:Int)-((S.pt (aE (aj S) (v,j) i).1).x:Int) by lia) (show(0:Int)<=(S.h:Int) by lia)
   grind
  ·rw[h1,h2]
   have:=Gg (show(0:Int)<=((S.pt (aE (aj S) (v,j) i).1).y:Int)-((S.pt (aE (aj S) (v,j) i).2).y:Int) by lia) (show(0:Int)<=(S.w:Int) by lia)
   grind
theorem oU (f:au->Bool):∀E:List au,xs f E=decide ((E.filter f).length % 2=1)
 |[]=>by simp[xs]
 |e :: r=>by
  rw[xs,oU f r,List.filter_cons]
  cases f e with
  |false=>simp
  |true =>
   simp only[if_true,GL,Bool.true_xor]
   by_cases h:(r.filter f).length % 2=1
   ·have:¬((r.filter f).length+1) % 2=1:=by lia
    simp[h,this]
   ·have:((r.filter f).length+1) % 2=1:=by lia
    simp[h,this]
theorem k7 {S:Plan}(k:Kept S){e:au}(he:(ab S).J e.1 e.2)(z:Pt):insideOf S (rnd S e) z=xs (lh ((ab S).cz z.x z.y)) (orb S e):=by
 have g:=bp S k
 rw[oU]
 unfold insideOf
 have h1:(rnd S e).zip ((rnd S e).drop 1++(rnd S e).take 1)=orb S e:=iw k he
 rw[h1]
 have:∀x∈orb S e,(let p:=S.pt x.1
   let q:=S.pt x.2
   (decide (p.y<=z.y)&&(decide (z.y<q.y)&&decide (0<turn p q z)))||(decide (q.y<=z.y)&&(decide (z.y<p.y)&&decide (turn p q z<0))))=lh ((ab S).cz z.x z.y) x:=by
  intro x hx
  have hj:=fW k he hx
  have ord:∀{i j},(ab S).J i j->i<j->(S.pt i).y<=(S.pt j).y:=by
   intro i j h hlt
   rcases g.ord hlt (g.lt (g.symm h)) with h|h<;>(simp only[ab]at h;lia)
  have trz:∀p q,turn (S.pt p) (S.pt q) z=(ab S).trz p q z.x z.y:=by intro p q;rfl
  have trs:∀p q,(ab S).trz q p z.x z.y=- (ab S).trz p q z.x z.y:=by intro p q;unfold Dr.trz tr6;grind
  unfold lh
  rcases Hf (g.ne hj) with h|h
  ·rw[GH (by lia),Hg (by lia)]
   have o:=ord hj h
   simp only[trz]
   unfold Dr.cz
   rw[G0]
   simp only[Iz,Gi,Gj]
   simp only[ab]at *
   lia
  ·rw[GG (by lia),HQ (by lia)]
   have o:=ord (g.symm hj) h
   simp only[trz]
   rw[trs x.2 x.1]
   unfold Dr.cz
   rw[G0]
   simp only[Iz,Gi,Gj]
   simp only[ab]at *
   lia
 rw[List.filter_congr this]
theorem one_pane {S:Plan}(k:cB S)(hw:0<S.w)(hh:0<S.h){e e':au}(he:(ab S).J e.1 e.2)(he':(ab S).J e'.1 e'.2)
  (a:0<twiceArea S (rnd S e)) (a':0<twiceArea S (rnd S e')) {z:Pt} (i:insideOf S (rnd S e) z=true) (i':insideOf S (rnd S e') z=true)
  (hrot:∀{x y:au},(ab S).J x.1 x.2->y∈orb S x->twiceArea S (rnd S y)=twiceArea S (rnd S x)):e'∈orb S e:=by
 have kk:=k.toKept
 have g:=bp S kk
 have r:=cF kk
 obtain⟨o,ho,hoz,hoa⟩:=outer kk (iO kk k.r6) hw hh
 rw[k7 kk he]at i
 rw[k7 kk he']at i'
 have oE:∀{e:au},(ab S).J e.1 e.2->∀x∈orb S e,(ab S).J x.1 x.2:=λh x hx=>fW kk h hx
 have oC:∀{e:au},(ab S).J e.1 e.2->cX (orb S e):=by
  intro e h
  have p:=dC kk h
  rw[p.orb]
  exact fU _ _ (by rw[Ih,p.back];rfl)
 have sees:∀{e:au},(ab S).J e.1 e.2->0<twiceArea S (rnd S e)->∀{x:au},(ab S).J x.1 x.2->(ab S).om (orb S e) x.1 x.2=decide (x∈orb S e):=by
  intro e h ha x hx
  have p:=dC kk h
  have hno:o∉orb S e:=by
   intro hm
   have:=hrot h hm
   lia
  have hz:=hoz (orb S e) (oE h) (oC h)
  rw[p.orb]at hno hz ⊢
  exact pF g r h p.pos p.back p.dist k.conn ho hz hno hx
 rcases Ch g S.lines (by
   intro p q hpq hlt
   rcases hpq with h|h
   ·exact h
   ·have:=kk.line h;simp only at this;lia) (by
   intro l hl
   have:=kk.line hl
   exact⟨HZ hl,this.1⟩) z.x z.y with h|⟨u,w,huw,h⟩
 ·rw[h _ (oE he)]at i;cases i
 ·rw[h _ (oE he) (oC he)]at i
  rw[h _ (oE he') (oC he')]at i'
  have s1:=sees he a (x:=(u,w)) huw
  have s2:=sees he' a' (x:=(u,w)) huw
  simp only at s1 s2
  rw[i]at s1
  rw[i']at s2
  have m1:=FY s1.symm
  have m2:=FY s2.symm
  exact fN kk he m1 (eB kk he' m2)
def sm (l:List Int):Int:=l.foldr (λ(a b:Int)=>a+b) 0
theorem bY (a:Int)(l:List Int):sm (a :: l)=a+sm l:=rfl
theorem ju:∀l m:List Int,sm (l++m)=sm l+sm m
 |[],m=>by show sm m=0+sm m;lia
 |a :: l,m=>by
  show a+sm (l++m)=a+sm l+sm m
  rw[ju l m];lia
theorem uK {l m:List Int}(h:l.Perm m):sm l=sm m:=by
 induction h with
 |nil=>rfl
 |cons x _ ih=>rw[bY,bY,ih]
 |swap x y l=>rw[bY,bY,bY,bY];lia
 |trans _ _ h1 h2=>rw[h1,h2]
theorem iE {α:Type}(f g:α->Int):∀l:List α,sm (l.map λx=>f x+g x)=sm (l.map f)+sm (l.map g)
 |[]=>rfl
 |a :: l=>by
  simp only[Gw,bY]
  rw[iE f g l];lia
theorem eI {α:Type}(c:Int)(f:α->Int):∀l:List α,sm (l.map λx=>c*f x)=c*sm (l.map f)
 |[]=>by simp[sm]
 |a :: l=>by
  simp only[Gw,bY]
  rw[eI c f l,Int.mul_add]
theorem dD {α:Type}{f g:α->Int}{l:List α}(h:∀x∈l,f x=g x):sm (l.map f)=sm (l.map g):=by
 rw[HP h]
theorem qI {α:Type}:∀l:List α,sm (l.map λ_=>0)=0
 |[]=>rfl
 |a :: l=>by
  simp only[Gw,bY]
  rw[qI l];rfl
theorem qP {α β:Type}(f:α->β->Int)(m:List β):∀l:List α,sm (l.map λx=>sm (m.map λy=>f x y))=sm (m.map λy=>sm (l.map λx=>f x y))
 |[]=>by
  show(0:Int)=sm (m.map λ_=>0)
  rw[qI]
 |a :: l=>by
  simp only[Gw,bY]
  rw[qP f m l,<-iE]
theorem oV:∀{l:List Int},(∀x∈l,0<=x)->0<=sm l
 |[],_=>Int.le_refl 0
 |a :: l,h=>by
  have h1:=h a Gv
  have h2:=oV (l:=l) λx hx=>h x (Gc _ hx)
  rw[bY];lia
theorem Bt {l:List Int}(h:∀x∈l,0<=x){y:Int}(hy:y∈l)(hp:0<y):0<sm l:=by
 induction l with
 |nil=>cases hy
 |cons a l ih =>
  rw[bY]
  have h1:=h a Gv
  have h2:=oV (l:=l) λx hx=>h x (Gc _ hx)
  rcases Gh.1 hy with e|e
  ·subst e;lia
  ·have:=ih (λx hx=>h x (Gc _ hx)) e
   lia
def cr2 (S:Plan)(x:au):Int:=((S.pt x.1).x:Int)*((S.pt x.2).y:Int)-((S.pt x.2).x:Int)*((S.pt x.1).y:Int)
theorem mI {S:Plan}(k:Kept S){e:au}(he:(ab S).J e.1 e.2):twiceArea S (rnd S e)=sm ((orb S e).map (cr2 S)):=by
 unfold twiceArea
 rw[show(rnd S e).zip ((rnd S e).drop 1++(rnd S e).take 1)=prs (rnd S e) from rfl,iw k he]
 rfl
theorem An {S:Plan}(k:Kept S){e x:au}(he:(ab S).J e.1 e.2)(hx:x∈orb S e):∃a b,orb S e=a++b/\orb S x=b++a:=by
 have p:=dC k he
 obtain⟨j,hj⟩:=(d4 k he).1 hx
 rw[p8 p.back p.pos]at hj
 have hjl:j % (rnd S e).length<(rnd S e).length:=Nat.mod_lt _ p.pos
 generalize j % (rnd S e).length=i at hj hjl
 have hl:=nQ k he hx
 obtain⟨m,hm⟩:∃m,(rnd S e).length=i+m:=⟨(rnd S e).length-i,by lia⟩
 refine⟨seg (aj S) e 0 i,seg (aj S) e i m,?_,?_⟩
 ·rw[p.orb,hm,eR,Ih]
 ·unfold orb
  rw[hl,hj,kM,hm]
  have:i+m=m+i:=by lia
  rw[this,Nat.add_zero,eR]
  congr 1
  have h2:=mR p.back i 0
  rw[Nat.add_zero,hm]at h2;exact h2
theorem rJ {S:Plan}(k:Kept S){x y:au}(hx:(ab S).J x.1 x.2)(hy:y∈orb S x):twiceArea S (rnd S y)=twiceArea S (rnd S x):=by
 obtain⟨a,b,h1,h2⟩:=An k hx hy
 rw[mI k hx,mI k (fW k hx hy),h1,h2,GA,GA,ju,ju,Int.add_comm]
variable  {d:Dr}
def Dr.ahead (d:Dr)(c:Int)(u w p q:Nat):Int:=d.den u w*d.num 0 c p q-d.den p q*d.num 0 c u w
theorem ur (g:eQ d){u w p q:Nat}{c:Int}(huw:d.J u w)(hpq:d.J p q)(hu:d.Y u<=c)(hw:c<d.Y w)(hp:d.Y p<=c)(hq:c<d.Y q)(hne:¬(p=u/\q=w)) :
  (0<d.ahead c u w p q↔if p=u then d.tr u w q<0 else if d.Y p<=d.Y u then 0<d.tr p q u else d.tr u w p<0)/\d.ahead c u w p q≠0:=by
 have hun:=g.lt huw
 have hwn:=g.lt (g.symm huw)
 have hpn:=g.lt hpq
 have hqn:=g.lt (g.symm hpq)
 have iA:=idA (d.X u) (d.Y u) (d.X w) (d.Y w) (d.X p) (d.Y p) (d.X q) (d.Y q)
 have iB:=idB (d.X u) (d.Y u) (d.X w) (d.Y w) (d.X p) (d.Y p) (d.X q) (d.Y q)
 have iD:=DP (d.X u) (d.Y u) (d.X w) (d.Y w) (d.X p) (d.Y p) (d.X q) (d.Y q)
 have iN:=yT (d.X u) (d.Y u) (d.X w) (d.Y w) (d.X p) (d.Y p) (d.X q) (d.Y q) 0 c
 change -(d.Y q-d.Y p)*d.tr u w p=(d.Y w-d.Y u)*d.tr p q u+(d.tr p q w-d.tr p q u)*(d.Y p-d.Y u) at iA
 change -(d.Y q-d.Y p)*d.tr u w q=(d.Y w-d.Y u)*d.tr p q u+(d.tr p q w-d.tr p q u)*(d.Y q-d.Y u) at iB
 change (d.Y w-d.Y u)*d.tr p q w=(d.Y w-d.Y u)*d.tr p q u+(d.tr p q w-d.tr p q u)*(d.Y w-d.Y u) at iD
 change d.ahead c u w p q=2*((d.Y w-d.Y u)*d.tr p q u)+(d.tr p q w-d.tr p q u)*(2*c+1-2*d.Y u) at iN
 rw[iN]
 have a0:0<d.Y w-d.Y u:=by lia
 have b0:0<d.Y q-d.Y p:=by lia
 have nb:∀x:Int,-(d.Y q-d.Y p)*x=(d.Y q-d.Y p)*(-x):=by intro x;grind
 rw[nb]at iA iB
 generalize hv0:(d.Y w-d.Y u)*d.tr p q u=v0 at *
 generalize hK:d.tr p q w-d.tr p q u=K at *
 have fin:∀{P:Prop} {D:Int},(P->0<D)->(¬P->D<0)->((0<D↔P)/\D≠0):=by
  intro P D h1 h2
  by_cases hP:P
  ·have:=h1 hP
   exact⟨⟨λ_=>hP,λ_=>this⟩,by lia⟩
  ·have:=h2 hP
   exact⟨⟨λh=>by lia,λh=>absurd h hP⟩,by lia⟩
 apply fin
 ·intro hc
  by_cases hpu:p=u
  ·subst hpu
   rw[Gk rfl]at hc
   have hC:d.tr p q p=0:=kg d p q
   have v00:v0=0:=by rw[<-hv0,hC];simp
   have e1:0<K*(d.Y q-d.Y p):=by
    have:0<(d.Y q-d.Y p)*(- d.tr p w q):=Gs b0 (by lia)
    lia
   have e2:0<K:=by
    rw[Ii]at e1;exact(bb b0).1 e1
   have:0<K*(2*c+1-2*d.Y p):=Gs e2 (by lia)
   lia
  ·rw[Gf hpu]at hc
   by_cases hpy:d.Y p<=d.Y u
   ·rw[Gk hpy]at hc
    have up:∃m,c<m/\0<=v0+K*(m-d.Y u):=by
     by_cases hqw:q=w
     ·subst hqw
      have hD:d.tr p q q=0:=cR d p q
      rw[hD]at iD
      simp at iD
      exact⟨_,hw,by lia⟩
     ·by_cases hh:d.Y q<=d.Y w
      ·have l:=L1 g huw hpq hpy (by lia) hh hpu hqw
       exact⟨d.Y q,hq,by rw[<-iB];exact Gg (by lia) (by lia)⟩
      ·have l:=L2 g huw hpq hpy (by lia) (by lia) hpu hqw
       exact⟨d.Y w,hw,by rw[<-iD];exact Gg (by lia) (by lia)⟩
    obtain⟨m,m1,m2⟩:=up
    have v0p:0<v0:=by rw[<-hv0];exact Gs a0 hc
    exact lm (d.Y u) K (d.Y u) c m v0 (by simpa using v0p) m2 hu m1
   ·rw[Gf hpy]at hc
    have up:∃m,c<m/\0<=v0+K*(m-d.Y u):=by
     by_cases hqw:q=w
     ·subst hqw
      have hD:d.tr p q q=0:=cR d p q
      rw[hD]at iD
      simp at iD
      exact⟨_,hw,by lia⟩
     ·by_cases hh:d.Y q<=d.Y w
      ·have l:=L2 g hpq huw (by lia) (by lia) hh (GJ hpu) (GJ hqw)
       exact⟨d.Y q,hq,by rw[<-iB];exact Gg (by lia) (by lia)⟩
      ·have l:=L1 g hpq huw (by lia) (by lia) (by lia) (GJ hpu) (GJ hqw)
       exact⟨d.Y w,hw,by rw[<-iD];exact Gg (by lia) (by lia)⟩
    obtain⟨m,m1,m2⟩:=up
    have v0p:0<v0+K*(d.Y p-d.Y u):=by rw[<-iA];exact Gs b0 (by lia)
    exact lm (d.Y u) K (d.Y p) c m v0 v0p m2 hp m1
 ·intro hc
  by_cases hpu:p=u
  ·subst hpu
   rw[Gk rfl]at hc
   have hqw:q≠w:=λe=>hne ⟨rfl,e⟩
   have hC:d.tr p q p=0:=kg d p q
   have v00:v0=0:=by rw[<-hv0,hC];simp
   have nB:d.tr p w q≠0:=by
    by_cases hh:d.Y q<=d.Y w
    ·exact nz g huw hqn (by lia) (by lia) hh (by intro e;subst e;lia) hqw
    ·have:=nz g hpq hwn (by lia) (by lia) (by lia) (by intro e;subst e;lia) (GJ hqw)
     have:=dw d p q w
     lia
   have e1:K*(d.Y q-d.Y p)<0:=by
    have:(d.Y q-d.Y p)*(- d.tr p w q)<0:=az _ _ b0 (by lia)
    lia
   have e2:K<0:=by
    rw[Ii]at e1;exact(er b0).1 e1
   have:0<(-K)*(2*c+1-2*d.Y p):=Gs (by lia) (by lia)
   have e:(-K)*(2*c+1-2*d.Y p)=- (K*(2*c+1-2*d.Y p)):=by grind
   lia
  ·rw[Gf hpu]at hc
   by_cases hpy:d.Y p<=d.Y u
   ·rw[Gk hpy]at hc
    have nC:d.tr p q u≠0:=nz g hpq hun (by lia) hpy (by lia) (GJ hpu) (by intro e;subst e;lia)
    have hC:d.tr p q u<0:=by lia
    have up:∃m,c<m/\v0+K*(m-d.Y u)<=0:=by
     by_cases hqw:q=w
     ·subst hqw
      have hD:d.tr p q q=0:=cR d p q
      rw[hD]at iD
      simp at iD
      exact⟨_,hw,by lia⟩
     ·by_cases hh:d.Y q<=d.Y w
      ·have l:=L1 g huw hpq hpy (by lia) hh hpu hqw
       exact⟨d.Y q,hq,by
        rw[<-iB]
        have:=az (d.Y q-d.Y p) (- d.tr u w q) b0 (by lia)
        lia⟩
      ·have l:=L2 g huw hpq hpy (by lia) (by lia) hpu hqw
       exact⟨d.Y w,hw,by
        rw[<-iD]
        have:=az (d.Y w-d.Y u) (d.tr p q w) a0 (by lia)
        lia⟩
    obtain⟨m,m1,m2⟩:=up
    have v0n:v0<0:=by rw[<-hv0];exact az _ _ a0 hC
    exact jn (d.Y u) K (d.Y u) c m v0 (by simpa using v0n) m2 hu m1
   ·rw[Gf hpy]at hc
    have nA:d.tr u w p≠0:=nz g huw hpn (by lia) (by lia) (by lia) hpu (by intro e;subst e;lia)
    have hA':0<d.tr u w p:=by lia
    have up:∃m,c<m/\v0+K*(m-d.Y u)<=0:=by
     by_cases hqw:q=w
     ·subst hqw
      have hD:d.tr p q q=0:=cR d p q
      rw[hD]at iD
      simp at iD
      exact⟨_,hw,by lia⟩
     ·by_cases hh:d.Y q<=d.Y w
      ·have l:=L2 g hpq huw (by lia) (by lia) hh (GJ hpu) (GJ hqw)
       exact⟨d.Y q,hq,by
        rw[<-iB]
        have:=az (d.Y q-d.Y p) (- d.tr u w q) b0 (by lia)
        lia⟩
      ·have l:=L1 g hpq huw (by lia) (by lia) (by lia) (GJ hpu) (GJ hqw)
       exact⟨d.Y w,hw,by
        rw[<-iD]
        have:=az (d.Y w-d.Y u) (d.tr p q w) a0 (by lia)
        lia⟩
    obtain⟨m,m1,m2⟩:=up
    have v0n:v0+K*(d.Y p-d.Y u)<0:=by rw[<-iA];exact az _ _ b0 (by lia)
    exact jn (d.Y u) K (d.Y p) c m v0 v0n m2 hp m1
def Dr.sl (d:Dr)(c:Int)(u w p q:Nat):Bool:=decide (d.Y p<=c/\c<d.Y q/\((p=u/\q=w)\/0<d.ahead c u w p q))
theorem B8 (g:eQ d){u w p q:Nat}{c:Int}(huw:d.J u w)(hpq:d.J p q)(h1:u<w)(h2:p<q)(hu:d.Y u<=c)(hw:c<d.Y w) :
  (d.sl c u w p q^^d.Om u w p q)=(d.Pz c u w p^^d.Pz c u w q):=by
 have hpn:=g.lt hpq
 have hqn:=g.lt (g.symm hpq)
 have hwn:=g.lt (g.symm huw)
 have hun:=g.lt huw
 have hy:d.Y u<d.Y w:=by lia
 rw[xB g huw hpq h1 h2 hy]
 have hpqy:d.Y p<=d.Y q:=by rcases g.ord h2 hqn with h|h<;>lia
 by_cases he:p=u/\q=w
 ·obtain⟨rfl,rfl⟩:=he
  have e1:d.sl c p q p q=true:=by unfold Dr.sl;exact dqt ⟨hu,hw,HZ ⟨rfl,rfl⟩⟩
  have e2:d.Pz c p q p=false:=by unfold Dr.Pz;exact dqf (by lia)
  have e3:d.Pz c p q q=false:=by unfold Dr.Pz;exact dqf (by lia)
  rw[e1,e2,e3];simp
 have pz1:∀v,¬(d.Y u<d.Y v/\d.Y v<=c)->d.Pz c u w v=false:=by
  intro v h;unfold Dr.Pz;exact dqf (λx=>h ⟨x.1,x.2.1⟩)
 have pz2:∀v,d.Y u<d.Y v->d.Y v<=c->d.Pz c u w v=decide (d.tr u w v<0):=by
  intro v h h';unfold Dr.Pz;simp[h,h']
 by_cases hcz:d.Y p<=c/\c<d.Y q
 ·obtain⟨c1,c2⟩:=hcz
  have czE:d.sl c u w p q=decide (0<d.ahead c u w p q):=by unfold Dr.sl;simp[c1,c2,he]
  have zo:=(ur g huw hpq hu hw c1 c2 he).1
  rw[pz1 q (by lia),HU,czE]
  by_cases hpu:p=u
  ·subst hpu
   rw[Gk rfl]at zo ⊢
   rw[pz1 p (by lia)]
   have hqw:q≠w:=λe=>he ⟨rfl,e⟩
   have:(q=w\/(d.Y p<d.Y q/\d.tr p w q<0))↔0<d.ahead c p w p q:=by
    rw[zo];constructor
    ·rintro(h|h)
     ·exact absurd h hqw
     ·exact h.2
    ·intro h;exact Hr ⟨by lia,h⟩
   simp only[this,Jv]
  ·rw[Gf hpu]at zo ⊢
   by_cases hpy:d.Y p<=d.Y u
   ·rw[Gk hpy]at zo
    rw[pz1 p (by lia)]
    have:(d.Y p<=d.Y u/\d.Y u<d.Y q/\0<d.tr p q u)↔0<d.ahead c u w p q:=by
     rw[zo];constructor
     ·exact λh=>h.2.2
     ·exact λh=>⟨hpy,by lia,h⟩
    simp only[this,Jv]
   ·rw[Gf hpy]at zo
    rw[pz2 p (by lia) c1]
    have:¬(d.Y p<=d.Y u/\d.Y u<d.Y q/\0<d.tr p q u):=λh=>hpy h.1
    rw[dqf this,HU,Gu.2 zo]
 ·have czE:d.sl c u w p q=false:=by unfold Dr.sl;exact dqf (λh=>hcz ⟨h.1,h.2.1⟩)
  rw[czE,Hs]
  by_cases c1:c<d.Y p
  ·rw[pz1 p (by lia),pz1 q (by lia)]
   by_cases hpu:p=u
   ·subst hpu;lia
   ·rw[Gf hpu]
    have:¬(d.Y p<=d.Y u/\d.Y u<d.Y q/\0<d.tr p q u):=by lia
    rw[dqf this];rfl
  ·have c2:d.Y q<=c:=by lia
   by_cases hpu:p=u
   ·subst hpu
    rw[Gk rfl,pz1 p (by lia),Hs]
    have hqw:q≠w:=λe=>he ⟨rfl,e⟩
    unfold Dr.Pz
    rw[Gu]
    constructor
    ·rintro(h|h)
     ·exact absurd h hqw
     ·exact⟨h.1,c2,h.2⟩
    ·intro h;exact Hr ⟨h.1,h.2.2⟩
   ·rw[Gf hpu]
    have hqw:q≠w:=by intro e;subst e;lia
    have hpw:p≠w:=by intro e;subst e;lia
    by_cases c3:d.Y p<=d.Y u
    ·rw[pz1 p (by lia),Hs]
     unfold Dr.Pz
     rw[Gu]
     by_cases c4:d.Y u<d.Y q
     ·have l:=L1 g huw hpq c3 c4 (by lia) hpu hqw
      constructor
      ·intro h;exact⟨c4,c2,by lia⟩
      ·intro h;exact⟨c3,c4,by lia⟩
     ·constructor
      ·intro h;exact absurd h.2.1 c4
      ·intro h;exact absurd h.1 c4
    ·have:¬(d.Y p<=d.Y u/\d.Y u<d.Y q/\0<d.tr p q u):=λh=>c3 h.1
     rw[dqf this,pz2 p (by lia) (by lia),pz2 q (by lia) c2]
     have:d.tr u w p<0↔d.tr u w q<0:=by
      rcases g.ord h2 hqn with hf|hf
      ·have l:=L2 g hpq huw (by lia) hf (by lia) (GJ hpu) (GJ hqw)
       lia
      ·have mv:d.tr u w q<d.tr u w p:=by
        have:d.tr u w p-d.tr u w q=(d.Y w-d.Y u)*(d.X q-d.X p):=by
         have:=hf.1;unfold Dr.tr tr6;grind
        have:0<(d.Y w-d.Y u)*(d.X q-d.X p):=Gs (by lia) (by lia)
        lia
       constructor
       ·intro h;lia
       ·intro h
        apply bcn;intro hn
        have a2:=nz g huw hpn hy (by lia) (by lia) hpu hpw
        refine g.nocross huw hpq ⟨az _ _ (by lia) h,?_⟩
        rw[eo d p q u hf.1,eo d p q w hf.1]
        exact cD _ _ (az _ _ (by lia) (by lia)) (Gs (by lia) (by lia))
     simp only[this,Jv]
theorem Bn (g:eQ d){u w:Nat}{c:Int}(huw:d.J u w)(hlt:u<w)(hu:d.Y u<=c)(hw:c<d.Y w){E:List au}(hE:∀e∈E,d.J e.1 e.2)(hc:cX E) :
  xs (lh (d.sl c u w)) E=d.om E u w:=by
 have h:xs (λe=>lh (d.sl c u w) e^^d.Om u w (min e.1 e.2) (max e.1 e.2)) E=false:=by
  rw[<-hc (d.Pz c u w)]
  apply bC
  intro e he
  have ze:∀p q,d.J p q->p<q->(d.sl c u w p q^^d.Om u w p q)=(d.Pz c u w p^^d.Pz c u w q):=λp q hpq hlt'=>B8 g huw hpq hlt hlt' hu hw
  have hj:=hE e he
  unfold lh
  rcases Hf (g.ne hj) with h|h
  ·rw[GH (by lia),Hg (by lia)];exact ze _ _ hj h
  ·rw[GG (by lia),HQ (by lia),Jc (d.Pz c u w e.1)];exact ze _ _ (g.symm hj) h
 rw[ia]at h
 unfold Dr.om
 revert h
 generalize xs (lh (d.sl c u w)) E=a;generalize xs _ E=b
 cases a<;>cases b<;>simp
theorem hZ (L:List au):xs (λ_=>false) L=false:=by
 induction L with
 |nil=>rfl
 |cons a r ih=>rw[xs,ih];rfl
theorem el (f:au->Bool):∀l m:List au,xs f (l++m)=(xs f l^^xs f m)
 |[],m=>by simp[xs]
 |a :: l,m=>by
  rw[J5,xs,xs,el f l m,Bool.xor_assoc]
theorem uL {f:au->Bool}{l m:List au}(h:l.Perm m):xs f l=xs f m:=by
 induction h with
 |nil=>rfl
 |cons x _ ih=>rw[xs,xs,ih]
 |swap x y l =>
  rw[xs,xs,xs,xs]
  cases f x<;>cases f y<;>cases xs f l<;>rfl
 |trans _ _ h1 h2=>rw[h1,h2]
theorem uU (F:au->Bool)(G:au->au->Bool)(E:List au):∀L:List au,xs (λl=>F l&&xs (λe=>G l e) E) L=xs (λe=>xs (λl=>F l&&G l e) L) E
 |[]=>by
  show false=xs (λ_=>false) E
  rw[hZ]
 |a :: L=>by
  rw[xs,uU F G E L]
  have:xs (λe=>xs (λl=>F l&&G l e) (a :: L)) E=xs (λe=>(F a&&G a e)^^xs (λl=>F l&&G l e) L) E:=rfl
  rw[this,ia]
  congr 1
  cases F a with
  |true=>simp
  |false=>simp[hZ]
theorem pB (F:au->Bool)(a:au):∀{L:List au},L.Nodup->a∈L->xs (λl=>F l&&decide (l=a)) L=F a
 |[],_,h=>by cases h
 |b :: L,hn,h=>by
  rw[HN]at hn
  rw[xs]
  by_cases e:b=a
  ·subst e
   have:xs (λl=>F l&&decide (l=b)) L=xs (λ_=>false) L:=by
    apply bC
    intro l hl
    have:¬l=b:=λq=>hn.1 (q▸hl)
    simp[this]
   rw[this,hZ]
   simp
  ·have h2:a∈L:=(Gh.1 h).resolve_left (λq=>e q.symm)
   rw[pB F a hn.2 h2]
   simp[e]
structure Lns (L E:List au):Prop where
 nd:L.Nodup
 lt:∀l∈L,l.1<l.2
 has:∀e∈E,(min e.1 e.2,max e.1 e.2)∈L
 ne:∀e∈E,e.1≠e.2
theorem rS {L E:List au}(h:Lns L E)(F:Nat->Nat->Bool):xs (lh F) E=xs (λl=>F l.1 l.2&&ce E l.1 l.2) L:=by
 unfold ce
 rw[uU (λl=>F l.1 l.2) (λl e=>decide ((e.1=l.1/\e.2=l.2)\/(e.1=l.2/\e.2=l.1))) E L]
 apply bC
 intro e he
 have hh:=h.has e he
 have hn:=h.ne e he
 have:xs (λl=>F l.1 l.2&&decide ((e.1=l.1/\e.2=l.2)\/(e.1=l.2/\e.2=l.1))) L=xs (λl=>F l.1 l.2&&decide (l=(min e.1 e.2,max e.1 e.2))) L:=by
  apply bC
  intro l hl
  have:=h.lt l hl
  congr 1
  rw[Gu]
  obtain⟨a,b⟩:=l
  simp only[Prod.mk.injEq]at *
  lia
 rw[this,pB (λl=>F l.1 l.2) _ h.nd hh]
 rfl
def bi (b:Bool):Int:=if b=true then 1 else 0
theorem BE:bi true=1:=rfl
theorem xc:bi false=0:=rfl
theorem kN (F:au->Int)(a:au):∀{L:List au},L.Nodup->sm (L.map λl=>F l*bi (decide (l=a)))=if a∈L then F a else 0
 |[],_=>by simp[sm]
 |b :: L,hn=>by
  rw[HN]at hn
  rw[Gw,bY,kN F a hn.2]
  by_cases e:b=a
  ·subst e
   rw[Gf hn.1,Gk Gv,dqt rfl,BE]
   lia
  ·rw[dqf e,xc]
   by_cases h2:a∈L
   ·rw[Gk h2,Gk (Gc _ h2)];lia
   ·rw[Gf h2,Gf (λq=>h2 ((Gh.1 q).resolve_left (λz=>e z.symm)))];lia
theorem yP {L E:List au}(h:Lns L E)(hE:E.Nodup)(F:Nat->Nat->Int)(hF:∀a b,F b a=- F a b) :
  sm (E.map λe=>F e.1 e.2)=sm (L.map λl=>F l.1 l.2*(bi (decide (l∈E))-bi (decide ((l.2,l.1)∈E)))):=by
 have e1:sm (E.map λe=>F e.1 e.2)=sm (E.map λe=>sm (L.map λl=>F l.1 l.2*(bi (decide (e=l))-bi (decide (e=(l.2,l.1)))))):=by
  apply dD
  intro e he
  have hh:=h.has e he
  have hn:=h.ne e he
  have:sm (L.map λl=>F l.1 l.2*(bi (decide (e=l))-bi (decide (e=(l.2,l.1)))))=sm (L.map λl=>F e.1 e.2*bi (decide (l=(min e.1 e.2,max e.1 e.2)))):=by
   apply dD
   intro l hl
   have:=h.lt l hl
   obtain⟨a,b⟩:=l
   obtain⟨p,q⟩:=e
   simp only[Prod.mk.injEq]at *
   by_cases c1:p=a/\q=b
   ·obtain⟨rfl,rfl⟩:=c1
    have n1:¬(p=q/\q=p):=by lia
    have n2:p=min p q/\q=max p q:=by lia
    rw[dqt ⟨rfl,rfl⟩,dqf n1,dqt n2,BE,xc]
    lia
   ·by_cases c2:p=b/\q=a
    ·obtain⟨rfl,rfl⟩:=c2
     have n2:q=min p q/\p=max p q:=by lia
     rw[dqf c1,dqt ⟨rfl,rfl⟩,dqt n2,BE,xc,hF]
     lia
    ·have n2:¬(a=min p q/\b=max p q):=by lia
     rw[dqf c1,dqf c2,dqf n2,xc]
     simp
  rw[this,kN (λ_=>F e.1 e.2) _ h.nd,Gk hh]
 rw[e1,qP]
 apply dD
 intro l hl
 have e2:sm (E.map λe=>F l.1 l.2*(bi (decide (e=l))-bi (decide (e=(l.2,l.1)))))=F l.1 l.2*sm (E.map λe=>bi (decide (e=l))-bi (decide (e=(l.2,l.1)))):=eI _ _ _
 rw[e2]
 congr 1
 have cnt:∀a:au,sm (E.map λe=>bi (decide (e=a)))=bi (decide (a∈E)):=by
  intro a
  have:=kN (λ_=>1) a hE
  simp only[Int.one_mul]at this
  rw[this]
  by_cases q:a∈E
  ·rw[Gk q,dqt q];rfl
  ·rw[Gf q,dqf q];rfl
 have e3:sm (E.map λe=>bi (decide (e=l))-bi (decide (e=(l.2,l.1))))=sm (E.map λe=>bi (decide (e=l))+(-1)*bi (decide (e=(l.2,l.1)))):=by
  apply dD
  intro e _
  lia
 rw[e3,iE,eI,cnt,cnt]
 lia
theorem E2 {V:au->Int}{up mm:au->Bool}:∀(L:List au) (p:Bool),L.Pairwise (λa b=>V b<V a)->(∀a l b,L=a++l :: b->up l=(p^^(xs mm a^^mm l)))->(p^^xs mm L)=false ->
  ∀B,(∀l∈L,V l<=B)->- (B*bi p)<=sm (L.map λl=>V l*(bi (up l)-bi (up l^^mm l)))/\(p=false->(∃l∈L,up l=true)->0<sm (L.map λl=>V l*(bi (up l)-bi (up l^^mm l))))
 |[],p,_,_,hp,B,_=>by
  have:p=false:=by simpa [xs] using hp
  subst this
  refine⟨by simp[bi,sm],λ_ h=>?_⟩
  obtain⟨l,hl,_⟩:=h
  cases hl
 |l :: r,p,hw,hup,hp,B,hB=>by
  rw[Hh]at hw
  have u0:=hup [] l r rfl
  simp only[xs,Hs]at u0
  have ih:=E2 (V:=V) (up:=up) (mm:=mm) r (p^^mm l) hw.2 (λa x b e=>by
   have:=hup (l :: a) x b (by rw[e];rfl)
   rw[this,xs]
   cases p<;>cases mm l<;>cases xs mm a<;>cases mm x<;>rfl) (by
   rw[xs]at hp
   rw[<-hp]
   cases p<;>cases mm l<;>cases xs mm r<;>rfl) (V l-1) (λx hx=>by
   have:=hw.1 x hx
   lia)
  have hl:=hB l Gv
  rw[Gw,bY,u0]
  have e0:((p^^mm l)^^mm l)=p:=by cases p<;>cases mm l<;>rfl
  rw[e0]
  obtain⟨i1,i2⟩:=ih
  generalize sm (r.map λl=>V l*(bi (up l)-bi (up l^^mm l)))=s at *
  constructor
  ·clear i2 u0 e0 hup hp
   generalize mm l=m at *
   cases p<;>cases m<;>simp[bi]at i1 ⊢<;>lia
  ·intro hpf hex
   subst hpf
   cases hm:mm l with
   |true =>
    rw[hm]at i1
    simp[bi]at i1 ⊢
    lia
   |false =>
    rw[hm]at i1 i2 u0
    obtain⟨x,hx,hxu⟩:=hex
    rcases Gh.1 hx with e|e
    ·subst e
     rw[u0]at hxu
     simp at hxu
    ·have:=i2 rfl ⟨x,e,hxu⟩
     simp[bi]
     lia
theorem CJ (G:Nat->Int)(a b:Nat)(hab:a<=b):∀H:Nat,sm ((GE H).map λc=>if a<=c/\c<b then G (c+1)-G c else 0)=G (min H b)-G (min H a)
 |0=>by simp[sm]
 |H+1=>by
  rw[JJ,GA,ju,CJ G a b hab H]
  simp only[Gw,JH,bY]
  show _+(_+0)=_
  by_cases c:a<=H/\H<b
  ·rw[Gk c,GH (by lia:H<=b),GG (by lia:a<=H),GH (by lia:H+1<=b),GG (by lia:a<=H+1)]
   lia
  ·rw[Gf c]
   by_cases c2:H<a
   ·rw[GH (by lia:H<=b),GH (by lia:H<=a),GH (by lia:H+1<=b),GH (by lia:H+1<=a)]
    lia
   ·rw[GG (by lia:b<=H),GG (by lia:a<=H),GG (by lia:b<=H+1),GG (by lia:a<=H+1)]
    lia
theorem Kept.lines_nodup {S:Plan}(k:Kept S):S.lines.Nodup:=by
 rw[List.Nodup,GT]
 intro i j hi hj hij e
 have:=k.lines_lt i j hij hj
 rw[e,gA]at this
 lia
theorem yn {S:Plan}(k:Kept S){E:List au}(hE:∀e∈E,(ab S).J e.1 e.2):Lns S.lines E:=by
 have g:=bp S k
 refine⟨k.lines_nodup,λl hl=>(k.line hl).1,λe he=>?_,λe he=>g.ne (hE e he)⟩
 rcases hE e he with h|h
 ·have:=(k.line h).1
  simp only at this
  rw[GH (by lia),Hg (by lia)]
  exact h
 ·have:=(k.line h).1
  simp only at this
  rw[GG (by lia),HQ (by lia)]
  exact h
def gQ (d:Dr):List au->Int
 |[]=>1
 |l :: r=>(if d.Y l.1<d.Y l.2 then 2*d.den l.1 l.2 else 1)*gQ d r
theorem mM (d:Dr):∀L:List au,0<gQ d L
 |[]=>by show(0:Int)<1;decide
 |l :: r=>by
  unfold gQ
  refine Gs ?_ (mM d r)
  by_cases h:d.Y l.1<d.Y l.2
  ·rw[Gk h];unfold Dr.den;lia
  ·rw[Gf h];decide
theorem nt (d:Dr){l:au}(h:d.Y l.1<d.Y l.2):∀{L:List au},l∈L->(2*d.den l.1 l.2) ∣ gQ d L
 |[],hl=>by cases hl
 |a :: r,hl=>by
  unfold gQ
  rcases Gh.1 hl with e|e
  ·subst e
   rw[Gk h]
   exact⟨_,rfl⟩
  ·obtain⟨q,hq⟩:=nt d h e
   exact⟨(if d.Y a.1<d.Y a.2 then 2*d.den a.1 a.2 else 1)*q,by rw[hq];grind⟩
def Vs (d:Dr)(L:List au)(c:Int)(l:au):Int:=gQ d L / (2*d.den l.1 l.2)*d.num 0 c l.1 l.2
theorem xU (d:Dr){L:List au}{l:au}(hl:l∈L)(h:d.Y l.1<d.Y l.2)(c:Int):Vs d L c l*(2*d.den l.1 l.2)=gQ d L*d.num 0 c l.1 l.2:=by
 have q:=Int.ediv_mul_cancel (nt d h hl)
 unfold Vs
 generalize gQ d L / (2*d.den l.1 l.2)=m at q ⊢
 rw[<-q]
 grind
theorem uV (d:Dr){L:List au}{a b:au}(ha:a∈L)(hb:b∈L)(h1:d.Y a.1<d.Y a.2)(h2:d.Y b.1<d.Y b.2)(c:Int):0<d.ahead c a.1 a.2 b.1 b.2↔Vs d L c a<Vs d L c b:=by
 have e1:=xU d ha h1 c
 have e2:=xU d hb h2 c
 have dA:0<d.den a.1 a.2:=by unfold Dr.den;lia
 have dB:0<d.den b.1 b.2:=by unfold Dr.den;lia
 have hM:=mM d L
 have e3:(Vs d L c b-Vs d L c a)*(2*(d.den a.1 a.2*d.den b.1 b.2))=gQ d L*d.ahead c a.1 a.2 b.1 b.2:=by
  unfold Dr.ahead
  have:(Vs d L c b-Vs d L c a)*(2*(d.den a.1 a.2*d.den b.1 b.2))=(Vs d L c b*(2*d.den b.1 b.2))*d.den a.1 a.2-(Vs d L c a*(2*d.den a.1 a.2))*d.den b.1 b.2:=by grind
  rw[this,e1,e2]
  grind
 have dd:0<2*(d.den a.1 a.2*d.den b.1 b.2):=by
  have:=Gs dA dB
  lia
 constructor
 ·intro h
  have:0<(Vs d L c b-Vs d L c a)*(2*(d.den a.1 a.2*d.den b.1 b.2)):=by rw[e3];exact Gs hM h
  rw[Ii]at this
  have:=(bb dd).1 this
  lia
 ·intro h
  have:0<gQ d L*d.ahead c a.1 a.2 b.1 b.2:=by rw[<-e3];exact Gs (by lia) dd
  exact(bb hM).1 this
theorem jV (P g:au->Bool):∀L:List au,xs (λx=>P x&&g x) L=xs g (L.filter P)
 |[]=>rfl
 |a :: r=>by
  rw[xs,jV P g r,List.filter_cons]
  cases h:P a with
  |true=>rw[Gk rfl,xs,HA]
  |false=>rw[Gf (by decide),G5,Hs]
theorem oN (P:au->Bool)(f:au->Int):∀L:List au,sm (L.map λx=>if P x=true then f x else 0)=sm ((L.filter P).map f)
 |[]=>rfl
 |a :: r=>by
  rw[Gw,bY,oN P f r,List.filter_cons]
  cases h:P a with
  |true=>rw[Gk rfl,Gk rfl,Gw,bY]
  |false=>rw[Gf (by decide),Gf (by decide)];lia
section
variable  {S:Plan}
def eU (S:Plan)(c:Int)(l:au):Bool:=decide ((ab S).Y l.1<=c/\c<(ab S).Y l.2)
theorem Dl (k:Kept S){E:List au}(hE:∀e∈E,(ab S).J e.1 e.2)(hc:cX E)(hn:E.Nodup)(hs:∀x:au,(ab S).J x.1 x.2->(ab S).om E x.1 x.2=decide (x∈E))(c:Int) :
  0<=sm ((S.lines.filter (eU S c)).map λl=>Vs (ab S) S.lines c l*(bi (decide (l∈E))-bi (decide ((l.2,l.1)∈E)))) /\
  ((∃l∈S.lines.filter (eU S c),l∈E)->0<sm ((S.lines.filter (eU S c)).map λl=>Vs (ab S) S.lines c l*(bi (decide (l∈E))-bi (decide ((l.2,l.1)∈E))))):=by
 have g:=bp S k
 have hL:=yn k hE
 have hP:∀{l},l∈S.lines.filter (eU S c)->l∈S.lines/\(ab S).Y l.1<=c/\c<(ab S).Y l.2:=by
  intro l hl
  obtain⟨h1,h2⟩:=GR.1 hl
  exact⟨h1,FY h2⟩
 let le:au->au->Bool:=λa b=>decide (Vs (ab S) S.lines c b<=Vs (ab S) S.lines c a)
 have hperm:((S.lines.filter (eU S c)).mergeSort le).Perm (S.lines.filter (eU S c)):=List.mergeSort_perm _ _
 have hsort:((S.lines.filter (eU S c)).mergeSort le).Pairwise (λa b=>le a b=true):=by
  apply List.pairwise_mergeSort
  ·intro a b c h1 h2
   have h1:=FY h1
   have h2:=FY h2
   exact dqt (by lia)
  ·intro a b
   show(decide _||decide _)=true
   rw[Iz,Gj,Gj]
   lia
 have hnd:((S.lines.filter (eU S c)).mergeSort le).Nodup:=hperm.nodup_iff.2 (k.lines_nodup.filter _)
 have hstr:((S.lines.filter (eU S c)).mergeSort le).Pairwise (λa b=>Vs (ab S) S.lines c b<Vs (ab S) S.lines c a):=by
  refine Jn ?_ (hsort.and hnd)
  intro a b ha hb h
  obtain⟨h1,h2⟩:=h
  have h1:=FY h1
  obtain⟨a1,a2,a3⟩:=hP (hperm.mem_iff.1 ha)
  obtain⟨b1,b2,b3⟩:=hP (hperm.mem_iff.1 hb)
  have q:=(ur g (u:=a.1) (w:=a.2) (p:=b.1) (q:=b.2) (c:=c) (HZ a1) (HZ b1) a2 a3 b2 b3 (λz=>h2 (Prod.ext z.1.symm z.2.symm))).2
  have q1:=uV (ab S) a1 b1 (by lia) (by lia) c
  have q2:=uV (ab S) b1 a1 (by lia) (by lia) c
  have q3:(ab S).ahead c b.1 b.2 a.1 a.2=- (ab S).ahead c a.1 a.2 b.1 b.2:=by unfold Dr.ahead;lia
  lia
 have hsum:sm ((S.lines.filter (eU S c)).map λl=>Vs (ab S) S.lines c l*(bi (decide (l∈E))-bi (decide ((l.2,l.1)∈E)))) =
   sm (((S.lines.filter (eU S c)).mergeSort le).map λl=>Vs (ab S) S.lines c l*(bi (decide (l∈E))-bi (decide (l∈E)^^ce E l.1 l.2))):=by
  rw[<-uK (hperm.map _)]
  apply dD
  intro l hl
  obtain⟨l1,_,_⟩:=hP (hperm.mem_iff.1 hl)
  have hlt:=(k.line l1).1
  rw[yC hn (by lia:l.1≠l.2)]
  have:(l.1,l.2)=l:=rfl
  rw[this]
  congr 2
  cases decide (l∈E)<;>cases decide ((l.2,l.1)∈E)<;>rfl
 rw[hsum]
 generalize hM:(S.lines.filter (eU S c)).mergeSort le=M at *
 have key:=E2 (V:=Vs (ab S) S.lines c) (up:=λl=>decide (l∈E)) (mm:=λl=>ce E l.1 l.2) M false hstr ?_ ?_
 ·obtain⟨B,hB⟩:∃B,∀l∈M,Vs (ab S) S.lines c l<=B:=by
   clear key hperm hsort hnd hstr hsum hM
   induction M with
   |nil=>exact⟨0,λl hl=>by cases hl⟩
   |cons a r ih =>
    obtain⟨B,hB⟩:=ih
    refine⟨max B (Vs (ab S) S.lines c a),λl hl=>?_⟩
    rcases Gh.1 hl with e|e
    ·subst e;lia
    ·have:=hB l e;lia
  obtain⟨k1,k2⟩:=key B hB
  rw[xc,Int.mul_zero]at k1
  refine⟨by simpa using k1,λ⟨l,hl,hlE⟩=>k2 rfl ⟨l,hperm.mem_iff.2 hl,dqt hlE⟩⟩
 ·intro a l b e
  have hlM:l∈M:=by rw[e];simp
  obtain⟨l1,l2,l3⟩:=hP (hperm.mem_iff.1 hlM)
  have hlt:=(k.line l1).1
  have s1:=hs l (HZ l1)
  rw[<-Bn g (HZ l1) hlt l2 l3 hE hc,rS hL]at s1
  have s2:xs (λx=>(ab S).sl c l.1 l.2 x.1 x.2&&ce E x.1 x.2) S.lines=xs (λx=>eU S c x&&(decide (x=l\/0<(ab S).ahead c l.1 l.2 x.1 x.2)&&ce E x.1 x.2)) S.lines:=by
   apply bC
   intro x hx
   rw[<-Bool.and_assoc]
   congr 1
   unfold Dr.sl eU
   rw[<-Bool.decide_and,Gu]
   have:(x.1=l.1/\x.2=l.2)↔x=l:=by
    constructor
    ·intro h;exact Prod.ext h.1 h.2
    ·intro h;rw[h];exact⟨rfl,rfl⟩
   rw[this]
   exact and_assoc.symm
  rw[s2,jV,<-uL hperm,e,el,xs]at s1
  rw[e,Hv,Hh]at hstr
  rw[e,List.nodup_append,HN]at hnd
  have memM:∀x,x∈a\/x∈b->x∈S.lines/\(ab S).Y x.1<=c/\c<(ab S).Y x.2:=by
   intro x hx
   refine hP (hperm.mem_iff.1 ?_)
   rw[e]
   rcases hx with h|h
   ·simp[h]
   ·simp[h]
  have ta:xs (λx=>decide (x=l\/0<(ab S).ahead c l.1 l.2 x.1 x.2)&&ce E x.1 x.2) a=xs (λx=>ce E x.1 x.2) a:=by
   apply bC
   intro x hx
   obtain⟨x1,x2,x3⟩:=memM x (HZ hx)
   have:=hstr.2.2 x hx l (by simp)
   have:=(uV (ab S) l1 x1 (by lia) (by lia) c).2 this
   rw[dqt (Hr this),HA]
  have tb:xs (λx=>decide (x=l\/0<(ab S).ahead c l.1 l.2 x.1 x.2)&&ce E x.1 x.2) b=xs (λ_=>false) b:=by
   apply bC
   intro x hx
   obtain⟨x1,x2,x3⟩:=memM x (Hr hx)
   have h1:=hstr.2.1.1 x hx
   have h2:¬0<(ab S).ahead c l.1 l.2 x.1 x.2:=λq=>by
    have:=(uV (ab S) l1 x1 (by lia) (by lia) c).1 q
    lia
   have h3:¬x=l:=λq=>by subst q;lia
   rw[dqf (λq=>q.elim h3 h2),G5]
  rw[ta,tb,hZ]at s1
  show decide (l∈E)=_
  rw[<-s1]
  simp
 ·
  have h0:=hc (λv=>decide ((ab S).Y v<=c))
  have h1:xs (λe=>decide ((ab S).Y e.1<=c)^^decide ((ab S).Y e.2<=c)) E=xs (lh λp q=>decide ((ab S).Y p<=c/\c<(ab S).Y q)) E:=by
   apply bC
   intro e he
   have hj:=hE e he
   have hord:∀{i j},(ab S).J i j->i<j->(ab S).Y i<=(ab S).Y j:=by
    intro i j h hlt
    rcases g.ord hlt (g.lt (g.symm h)) with h|h<;>lia
   have fin:∀{i j:Int},i<=j->(decide (i<=c)^^decide (j<=c))=decide (i<=c/\c<j):=by
    intro i j hij
    by_cases a:i<=c
    ·by_cases b:j<=c
     ·rw[dqt a,dqt b,dqf (by lia)];rfl
     ·rw[dqt a,dqf b,dqt (by lia)];rfl
    ·rw[dqf a,dqf (by lia:¬j<=c),dqf (by lia)];rfl
   unfold lh
   rcases Hf (g.ne hj) with h|h
   ·rw[GH (by lia),Hg (by lia)]
    exact fin (hord hj h)
   ·rw[GG (by lia),HQ (by lia),Jc]
    exact fin (hord (g.symm hj) h)
  rw[h1,rS hL]at h0
  rw[Hs,uL hperm,<-jV]
  exact h0
theorem ka {c:Nat}{l:au}:eU S (c:Int) l=true↔(S.pt l.1).y<=c/\c<(S.pt l.2).y:=by
 unfold eU
 rw[Gj]
 show(((S.pt l.1).y:Int)<=(c:Int)/\(c:Int)<((S.pt l.2).y:Int))↔_
 lia
def Gt (m x1 x2 y2 n:Int)(c:Nat):Int:=(2*m)*((x2-x1)*((c:Int)*c-2*y2*c)+2*n*x2*c)
theorem wG (k:Kept S)(f:u5 S){l:au}(hl:l∈S.lines):gQ (ab S) S.lines*(((ab S).X l.1+(ab S).X l.2)*((ab S).Y l.2-(ab S).Y l.1)) =
  sm ((GE S.h).map λc:Nat=>if eU S (c:Int) l=true then 2*Vs (ab S) S.lines (c:Int) l else 0):=by
 have g:=bp S k
 obtain⟨hlt,hlp⟩:=k.line hl
 have hin:=(f.inw hlp).2
 have hyy:(S.pt l.1).y<=(S.pt l.2).y:=by
  rcases g.ord hlt hlp with h|h<;>(simp only[ab]at h;lia)
 by_cases hy:(S.pt l.1).y=(S.pt l.2).y
 ·have e1:∀c∈GE S.h,(if eU S (c:Int) l=true then 2*Vs (ab S) S.lines (c:Int) l else 0)=0:=by
   intro c _
   rw[Gf]
   rw[ka]
   lia
  rw[dD e1,qI]
  have:(ab S).Y l.2-(ab S).Y l.1=0:=by simp only[ab];lia
  rw[this];simp
 ·have hY:(ab S).Y l.1<(ab S).Y l.2:=by simp only[ab];lia
  have q:=Int.ediv_mul_cancel (nt (ab S) hY hl)
  have e2:sm ((GE S.h).map λc:Nat=>if eU S (c:Int) l=true then 2*Vs (ab S) S.lines (c:Int) l else 0) =
    sm ((GE S.h).map λc:Nat=>if (S.pt l.1).y<=c/\c<(S.pt l.2).y then
     Gt (gQ (ab S) S.lines / (2*(ab S).den l.1 l.2)) ((ab S).X l.1) ((ab S).X l.2) ((ab S).Y l.2) ((ab S).den l.1 l.2) (c+1) -
     Gt (gQ (ab S) S.lines / (2*(ab S).den l.1 l.2)) ((ab S).X l.1) ((ab S).X l.2) ((ab S).Y l.2) ((ab S).den l.1 l.2) c else 0):=by
   apply dD
   intro c _
   by_cases hc:(S.pt l.1).y<=c/\c<(S.pt l.2).y
   ·rw[Gk hc,Gk (ka.2 hc)]
    unfold Vs Dr.num Dr.trz tr6 Gt
    have:((c+1:Nat):Int)=(c:Int)+1:=by lia
    simp only[this]
    unfold Dr.den
    generalize gQ (ab S) S.lines / (2*((ab S).Y l.2-(ab S).Y l.1))=m
    generalize (ab S).X l.1=x1
    generalize (ab S).X l.2=x2
    generalize (ab S).Y l.1=y1
    generalize (ab S).Y l.2=y2
    generalize (c:Int)=z
    grind
   ·rw[Gf hc,Gf (λq=>hc (ka.1 q))]
  rw[e2,CJ _ _ _ hyy,GG hin,GG (by lia:(S.pt l.1).y<=S.h)]
  have q':gQ (ab S) S.lines=gQ (ab S) S.lines / (2*(ab S).den l.1 l.2)*(2*(ab S).den l.1 l.2):=q.symm
  generalize gQ (ab S) S.lines / (2*(ab S).den l.1 l.2)=m at q' ⊢
  rw[q']
  show _*(((ab S).X l.1+(ab S).X l.2)*((ab S).Y l.2-(ab S).Y l.1))=2*m*(((ab S).X l.2-(ab S).X l.1)*((ab S).Y l.2*(ab S).Y l.2-2*(ab S).Y l.2*(ab S).Y l.2)+2*(ab S).den l.1 l.2*(ab S).X l.2*(ab S).Y l.2) -
   2*m*(((ab S).X l.2-(ab S).X l.1)*((ab S).Y l.1*(ab S).Y l.1-2*(ab S).Y l.2*(ab S).Y l.1)+2*(ab S).den l.1 l.2*(ab S).X l.2*(ab S).Y l.1)
  unfold Dr.den
  generalize (ab S).X l.1=x1
  generalize (ab S).X l.2=x2
  generalize (ab S).Y l.1=y1
  generalize (ab S).Y l.2=y2
  grind
end
section
variable  {S:Plan}
theorem yZ (f:Nat->Int):∀{l m:List Nat},l.length=m.length->sm ((l.zip m).map λx=>f x.1-f x.2)=sm (l.map f)-sm (m.map f)
 |[],[],_=>rfl
 |[],_ :: _,h=>by simp at h
 |_ :: _,[],h=>by simp at h
 |a :: l,b :: m,h=>by
  simp only[IC,Gw,bY]
  rw[yZ f (by simpa using h)]
  lia
theorem wn (f:Nat->Int)(l:List Nat):sm ((prs l).map λx=>f x.1-f x.2)=0:=by
 have hp:(l.drop 1++l.take 1).Perm l:=List.perm_append_comm.trans (by rw[List.take_append_drop])
 unfold prs
 rw[yZ f (by rw[hp.length_eq]),uK (hp.map f)]
 lia
theorem xV (k:cB S){e:au}(he:(ab S).J e.1 e.2)(hs:∀x:au,(ab S).J x.1 x.2->(ab S).om (orb S e) x.1 x.2=decide (x∈orb S e))
  {l:au} (hl:l∈S.lines) (hy:(S.pt l.1).y<(S.pt l.2).y) (hm:l∈orb S e):0<twiceArea S (rnd S e):=by
 have kk:=k.toKept
 have g:=bp S kk
 have f:=iO kk k.r6
 have p:=dC kk he
 have hE:∀x∈orb S e,(ab S).J x.1 x.2:=λx hx=>fW kk he hx
 have hc:cX (orb S e):=by
  rw[p.orb]
  exact fU _ _ (by rw[Ih,p.back];rfl)
 have hn:(orb S e).Nodup:=by
  rw[p.orb]
  exact fO _ _ _ _ (λx y _ h1 h2=>p.dist x y h1 (by lia))
 have hL:=yn kk hE
 have e1:twiceArea S (rnd S e)=sm ((orb S e).map λx=>((ab S).X x.1+(ab S).X x.2)*((ab S).Y x.2-(ab S).Y x.1)):=by
  rw[mI kk he]
  have:sm ((orb S e).map (cr2 S))=sm ((orb S e).map λx=>((ab S).X x.1+(ab S).X x.2)*((ab S).Y x.2-(ab S).Y x.1)+((λi=>(ab S).X i*(ab S).Y i) x.1-(λi=>(ab S).X i*(ab S).Y i) x.2)):=by
   apply dD
   intro x _
   unfold cr2
   show(ab S).X x.1*(ab S).Y x.2-(ab S).X x.2*(ab S).Y x.1=_
   grind
  rw[this,iE (λx:au=>((ab S).X x.1+(ab S).X x.2)*((ab S).Y x.2-(ab S).Y x.1)) (λx:au=>(λi=>(ab S).X i*(ab S).Y i) x.1-(λi=>(ab S).X i*(ab S).Y i) x.2)]
  rw[<-iw kk he,wn (λi=>(ab S).X i*(ab S).Y i)]
  lia
 have hM:=mM (ab S) S.lines
 have e2:gQ (ab S) S.lines*twiceArea S (rnd S e)=sm ((GE S.h).map λc:Nat=>2*sm ((S.lines.filter (eU S (c:Int))).map λl=>Vs (ab S) S.lines (c:Int) l*(bi (decide (l∈orb S e))-bi (decide ((l.2,l.1)∈orb S e))))):=by
  rw[e1,yP hL hn (λa b=>((ab S).X a+(ab S).X b)*((ab S).Y b-(ab S).Y a)) (by intro a b;grind),<-eI]
  have e3:∀x∈S.lines,gQ (ab S) S.lines*(((ab S).X x.1+(ab S).X x.2)*((ab S).Y x.2-(ab S).Y x.1)*(bi (decide (x∈orb S e))-bi (decide ((x.2,x.1)∈orb S e)))) =
    sm ((GE S.h).map λc:Nat=>if eU S (c:Int) x=true then 2*(Vs (ab S) S.lines (c:Int) x*(bi (decide (x∈orb S e))-bi (decide ((x.2,x.1)∈orb S e)))) else 0):=by
   intro x hx
   have q:=wG kk f hx
   have:sm ((GE S.h).map λc:Nat=>if eU S (c:Int) x=true then 2*(Vs (ab S) S.lines (c:Int) x*(bi (decide (x∈orb S e))-bi (decide ((x.2,x.1)∈orb S e)))) else 0) =
     sm ((GE S.h).map λc:Nat=>(bi (decide (x∈orb S e))-bi (decide ((x.2,x.1)∈orb S e)))*(if eU S (c:Int) x=true then 2*Vs (ab S) S.lines (c:Int) x else 0)):=by
    apply dD
    intro c _
    by_cases hp:eU S (c:Int) x=true
    ·rw[Gk hp,Gk hp];grind
    ·rw[Gf hp,Gf hp];simp
   rw[this,eI,<-q]
   grind
  rw[dD e3,qP (λ(x:au) (c:Nat)=>if eU S (c:Int) x=true then 2*(Vs (ab S) S.lines (c:Int) x*(bi (decide (x∈orb S e))-bi (decide ((x.2,x.1)∈orb S e)))) else 0)]
  apply dD
  intro c _
  rw[oN (eU S (c:Int)) (λx=>2*(Vs (ab S) S.lines (c:Int) x*(bi (decide (x∈orb S e))-bi (decide ((x.2,x.1)∈orb S e))))),eI]
 have hpos:0<gQ (ab S) S.lines*twiceArea S (rnd S e):=by
  rw[e2]
  have hin:=(f.inw (kk.line hl).2).2
  refine Bt (y:=2*sm ((S.lines.filter (eU S (((S.pt l.1).y:Nat):Int))).map λx=>Vs (ab S) S.lines (((S.pt l.1).y:Nat):Int) x*(bi (decide (x∈orb S e))-bi (decide ((x.2,x.1)∈orb S e))))) ?_ (GP.2 ⟨(S.pt l.1).y,Hz.2 (by lia),rfl⟩) ?_
  ·intro x hx
   obtain⟨c,_,rfl⟩:=GP.1 hx
   have:=(Dl kk hE hc hn hs (c:Int)).1
   lia
  ·have:=(Dl kk hE hc hn hs (((S.pt l.1).y:Nat):Int)).2 ⟨l,GR.2 ⟨hl,ka.2 ⟨by lia,hy⟩⟩,hm⟩
   lia
 exact(bb hM).1 hpos
def fd (l:List Nat):List au:=l.zip (l.drop 1)
theorem qi (Q:Nat->Bool):∀{l:List Nat} {a z:Nat},l.head? = some a->l.getLast? = some z->xs (λe=>Q e.1^^Q e.2) (fd l)=(Q a^^Q z)
 |[],_,_,h,_=>by simp at h
 |[x],a,z,h1,h2=>by
  simp at h1 h2
  subst h1 h2
  simp[fd,xs]
 |x :: y :: r,a,z,h1,h2=>by
  have h1:x=a:=by simpa using h1
  subst h1
  have ih:=qi Q (l:=y :: r) (a:=y) (z:=z) rfl (by rw[List.getLast?_cons_cons]at h2;exact h2)
  show xs _ ((x,y) :: fd (y :: r))=_
  rw[xs,ih]
  cases Q x<;>cases Q y<;>cases Q z<;>rfl
theorem nX {l:List Nat}(h:l.Pairwise (· < ·)){a:Nat}(ha:a∈l)(hm:∀b∈l,a<=b):l.head? = some a:=by
 cases l with
 |nil=>cases ha
 |cons x r =>
  rw[Hh]at h
  rcases Gh.1 ha with e|e
  ·rw[e];rfl
  ·have:=h.1 a e
   have:=hm x Gv
   lia
theorem kR:∀{l:List Nat},l.Pairwise (· < ·)->∀{z:Nat},z∈l->(∀b∈l,b<=z)->l.getLast? = some z
 |[],_,_,h,_=>by cases h
 |[x],_,z,h,_=>by
  have:z=x:=by simpa using h
  rw[this];rfl
 |x :: y :: r,hp,z,h,hm=>by
  rw[List.getLast?_cons_cons]
  rw[Hh]at hp
  refine kR hp.2 ?_ (λb hb=>hm b (Gc _ hb))
  rcases Gh.1 h with e|e
  ·have h1:=hp.1 y Gv
   have h2:=hm y (Gc _ Gv)
   lia
  ·exact e
theorem yf {l:List Nat}{e:au}(h:e∈fd l):∃i,∃(hi:i+1<l.length),e=(l[i],l[i+1]):=by
 unfold fd at h
 obtain⟨i,hi,he⟩:=GI h
 rw[Jx]at he
 have hl:i<(l.zip (l.drop 1)).length:=hi
 rw[Hm,GN]at hl
 refine⟨i,by lia,?_⟩
 rw[<-he]
 congr 1
 rw[Jo]
 congr 1
 lia
def frm (S:Plan):List au:=fd (edgePts S λp=>p.y==0)++(fd (edgePts S λp=>p.x==S.w)++(fd (edgePts S λp=>p.y==S.h)++fd (edgePts S λp=>p.x==0)))
structure zz (S:Plan)(a b c d:Nat):Prop where
 ha:a<S.pts.length/\S.pt a=⟨0,0⟩
 hb:b<S.pts.length/\S.pt b=⟨S.w,0⟩
 hc:c<S.pts.length/\S.pt c=⟨0,S.h⟩
 hd:d<S.pts.length/\S.pt d=⟨S.w,S.h⟩
theorem mT (h6:frameOk S=true):∃a b c d,zz S a b c d:=by
 unfold frameOk at h6
 simp only[Gi]at h6
 obtain⟨a,ha⟩:=eh h6.1
 obtain⟨b,hb⟩:=eh h6.2.1
 obtain⟨c,hc⟩:=eh h6.2.2.1
 obtain⟨d,hd⟩:=eh h6.2.2.2.1
 exact⟨a,b,c,d,ha,hb,hc,hd⟩
theorem gC (k:Kept S){i j:Nat}(hi:i<S.pts.length)(hj:j<S.pts.length)(h:(S.pt i).y<(S.pt j).y\/((S.pt i).y=(S.pt j).y/\(S.pt i).x<=(S.pt j).x)):i<=j:=by
 apply bcn
 intro hn
 have:=(eK _ _).1 (k.ord (i:=j) (j:=i) (by lia) hi)
 lia
theorem vO (k:cB S):(∀e∈frm S,(ab S).J e.1 e.2)/\cX (frm S):=by
 have kk:=k.toKept
 have f:=iO kk k.r6
 have h6:=k.r6
 obtain⟨a,b,c,d,C⟩:=mT h6
 unfold frameOk at h6
 simp only[Gi]at h6
 obtain⟨_,_,_,_,c1,c2,c3,c4⟩:=h6
 have jj:∀{on:Pt->Bool},chained S (edgePts S on)=true->∀e∈fd (edgePts S on),(ab S).J e.1 e.2:=by
  intro on hc e he
  obtain⟨i,hi,rfl⟩:=yf he
  exact kT hc hi
 constructor
 ·intro e he
  unfold frm at he
  rcases GK.1 he with h|h
  ·exact jj c1 e h
  ·rcases GK.1 h with h|h
   ·exact jj c4 e h
   ·rcases GK.1 h with h|h
    ·exact jj c2 e h
    ·exact jj c3 e h
 ·intro Q
  have tel:∀{on:Pt->Bool} {u v:Nat},u<S.pts.length->v<S.pts.length->on (S.pt u)=true->on (S.pt v)=true->(∀i,i<S.pts.length->on (S.pt i)=true->u<=i/\i<=v) ->
    xs (λe=>Q e.1^^Q e.2) (fd (edgePts S on))=(Q u^^Q v):=by
   intro on u v hu hv ou ov hm
   refine qi Q (nX ij (a7.2 ⟨hu,ou⟩) λx hx=>?_) (kR ij (a7.2 ⟨hv,ov⟩) λx hx=>?_)
   ·obtain⟨h1,h2⟩:=a7.1 hx
    exact(hm x h1 h2).1
   ·obtain⟨h1,h2⟩:=a7.1 hx
    exact(hm x h1 h2).2
  obtain⟨ha,ea⟩:=C.ha
  obtain⟨hb,eb⟩:=C.hb
  obtain⟨hc,ec⟩:=C.hc
  obtain⟨hd,ed⟩:=C.hd
  unfold frm
  rw[el,el,el]
  rw[tel (u:=a) (v:=b) ha hb (by rw[ea];rfl) (by rw[eb];rfl) (λi hi h=>?_),tel (u:=b) (v:=d) hb hd (by rw[eb];simp) (by rw[ed];simp) (λi hi h=>?_),
   tel (u:=c) (v:=d) hc hd (by rw[ec];simp) (by rw[ed];simp) (λi hi h=>?_),tel (u:=a) (v:=c) ha hc (by rw[ea];rfl) (by rw[ec];rfl) (λi hi h=>?_)]
  ·cases Q a<;>cases Q b<;>cases Q c<;>cases Q d<;>rfl
  ·have h:(S.pt i).x=0:=by simpa using h
   have hi2:=f.inw hi
   constructor
   ·apply gC kk ha hi;rw[ea];simp only;lia
   ·apply gC kk hi hc;rw[ec];simp only;lia
  ·have h:(S.pt i).y=S.h:=by simpa using h
   have hi2:=f.inw hi
   constructor
   ·apply gC kk hc hi;rw[ec];simp only;lia
   ·apply gC kk hi hd;rw[ed];simp only;lia
  ·have h:(S.pt i).x=S.w:=by simpa using h
   have hi2:=f.inw hi
   constructor
   ·apply gC kk hb hi;rw[eb];simp only;lia
   ·apply gC kk hi hd;rw[ed];simp only;lia
  ·have h:(S.pt i).y=0:=by simpa using h
   have hi2:=f.inw hi
   constructor
   ·apply gC kk ha hi;rw[ea];simp only;lia
   ·apply gC kk hi hb;rw[eb];simp only;lia
theorem Cl (k:cB S){z:Pt}(hx0:0<z.x)(hxw:z.x<S.w)(hyh:z.y<S.h):xs (lh ((ab S).cz z.x z.y)) (frm S)=true:=by
 have kk:=k.toKept
 have f:=iO kk k.r6
 obtain⟨a,b,c,d,C⟩:=mT k.r6
 have edge:∀{on:Pt->Bool} {e:au},e∈fd (edgePts S on)->e.1<e.2/\e.1<S.pts.length/\e.2<S.pts.length/\on (S.pt e.1)=true/\on (S.pt e.2)=true:=by
  intro on e he
  obtain⟨i,hi,rfl⟩:=yf he
  have h1:=GT.1 (ij (S:=S) (on:=on)) i (i+1) (by lia) hi (by lia)
  obtain⟨m1,m2⟩:=a7.1 (GC (l:=edgePts S on) (n:=i) (by lia))
  obtain⟨m3,m4⟩:=a7.1 (GC (l:=edgePts S on) (n:=i+1) hi)
  exact⟨h1,m1,m3,m2,m4⟩
 have none:∀{on:Pt->Bool},(∀i j,i<j->i<S.pts.length->j<S.pts.length->on (S.pt i)=true->on (S.pt j)=true->(ab S).cz z.x z.y i j=false)->xs (lh ((ab S).cz z.x z.y)) (fd (edgePts S on))=false:=by
  intro on h
  have:xs (lh ((ab S).cz z.x z.y)) (fd (edgePts S on))=xs (λ_=>false) (fd (edgePts S on)):=by
   apply bC
   intro e he
   obtain⟨h1,h2,h3,h4,h5⟩:=edge he
   unfold lh
   rw[GH (by lia),Hg (by lia)]
   exact h _ _ h1 h2 h3 h4 h5
  rw[this,hZ]
 have ord:∀{i j},i<j->j<S.pts.length->(S.pt i).y<=(S.pt j).y:=by
  intro i j h hj
  have:=(eK _ _).1 (kk.ord h hj)
  lia
 unfold frm
 rw[el,el,el]
 rw[none (on:=λp=>p.y==0) (λi j _ _ _ h1 h2=>?_),none (on:=λp=>p.y==S.h) (λi j _ _ _ h1 h2=>?_),none (on:=λp=>p.x==0) (λi j hij hi hj h1 h2=>?_)]
 ·have hr:xs (lh ((ab S).cz z.x z.y)) (fd (edgePts S λp=>p.x==S.w))=xs (λe=>decide ((S.pt e.1).y<=z.y)^^decide ((S.pt e.2).y<=z.y)) (fd (edgePts S λp=>p.x==S.w)):=by
   apply bC
   intro e he
   obtain⟨h1,h2,h3,h4,h5⟩:=edge he
   have h4:(S.pt e.1).x=S.w:=by simpa using h4
   have h5:(S.pt e.2).x=S.w:=by simpa using h5
   have ho:=ord h1 h3
   unfold lh
   rw[GH (by lia),Hg (by lia)]
   unfold Dr.cz Dr.trz tr6
   show decide (((S.pt e.1).y:Int)<=(z.y:Int)/\(z.y:Int)<((S.pt e.2).y:Int)/\0<(((S.pt e.2).x:Int)-((S.pt e.1).x:Int))*((z.y:Int)-((S.pt e.2).y:Int))-(((S.pt e.2).y:Int)-((S.pt e.1).y:Int))*((z.x:Int)-((S.pt e.2).x:Int)))=_
   rw[h4,h5]
   by_cases c1:(S.pt e.1).y<=z.y
   ·by_cases c2:(S.pt e.2).y<=z.y
    ·rw[dqt c1,dqt c2,dqf (by lia)];rfl
    ·rw[dqt c1,dqf c2]
     have:0<(((S.pt e.2).y:Int)-((S.pt e.1).y:Int))*((S.w:Int)-(z.x:Int)):=Gs (by lia) (by lia)
     rw[dqt ⟨by lia,by lia,by grind⟩];rfl
   ·rw[dqf c1,dqf (by lia:¬(S.pt e.2).y<=z.y),dqf (by lia)];rfl
  obtain⟨hb,eb⟩:=C.hb
  obtain⟨hd,ed⟩:=C.hd
  have ht:=qi (λv=>decide ((S.pt v).y<=z.y)) (l:=edgePts S λp=>p.x==S.w) (a:=b) (z:=d)
   (nX ij (a7.2 ⟨hb,by rw[eb];simp⟩) λx hx=>by
    obtain⟨h1,h2⟩:=a7.1 hx
    have h2:(S.pt x).x=S.w:=by simpa using h2
    have:=f.inw h1
    apply gC kk hb h1;rw[eb];simp only;lia)
   (kR ij (a7.2 ⟨hd,by rw[ed];simp⟩) λx hx=>by
    obtain⟨h1,h2⟩:=a7.1 hx
    have h2:(S.pt x).x=S.w:=by simpa using h2
    have:=f.inw h1
    apply gC kk h1 hd;rw[ed];simp only;lia)
  rw[hr,ht,eb,ed,dqt (by simp only;lia:({ x:=S.w,y:=0 }:Pt).y<=z.y),dqf (by simp only;lia:¬({ x:=S.w,y:=S.h }:Pt).y<=z.y)]
  rfl
 ·have h1:(S.pt i).x=0:=by simpa using h1
  have h2:(S.pt j).x=0:=by simpa using h2
  have ho:=ord hij hj
  unfold Dr.cz Dr.trz tr6
  refine dqf ?_
  show ¬(((S.pt i).y:Int)<=(z.y:Int)/\(z.y:Int)<((S.pt j).y:Int)/\0<(((S.pt j).x:Int)-((S.pt i).x:Int))*((z.y:Int)-((S.pt j).y:Int))-(((S.pt j).y:Int)-((S.pt i).y:Int))*((z.x:Int)-((S.pt j).x:Int)))
  rw[h1,h2]
  rintro⟨q1,q2,q3⟩
  have:0<(((S.pt j).y:Int)-((S.pt i).y:Int))*(z.x:Int):=Gs (by lia) (by lia)
  grind
 ·have h1:(S.pt i).y=S.h:=by simpa using h1
  have h2:(S.pt j).y=S.h:=by simpa using h2
  unfold Dr.cz
  refine dqf ?_
  show ¬(((S.pt i).y:Int)<=(z.y:Int)/\(z.y:Int)<((S.pt j).y:Int)/\_)
  lia
 ·have h1:(S.pt i).y=0:=by simpa using h1
  have h2:(S.pt j).y=0:=by simpa using h2
  unfold Dr.cz
  refine dqf ?_
  show ¬(((S.pt i).y:Int)<=(z.y:Int)/\(z.y:Int)<((S.pt j).y:Int)/\_)
  lia
end
section
variable  {d:Dr}
theorem Av (g:eQ d)(edges:List au)(hed:∀p q,d.J p q->p<q->(p,q)∈edges)(hed2:∀e∈edges,d.J e.1 e.2/\e.1<e.2)(zx zy:Int) :
  (∀E:List au,(∀e∈E,d.J e.1 e.2)->xs (lh (d.cz zx zy)) E=false) \/
  ∃u w,d.J u w/\u<w/\d.Y u<d.Y w/\∀E:List au,(∀e∈E,d.J e.1 e.2)->cX E->xs (lh (d.cz zx zy)) E=d.om E u w:=by
 have side:∀(F:Nat->Nat->Prop),(∀p q,d.J p q->p<q->F p q)->∀e:au,d.J e.1 e.2->F (min e.1 e.2) (max e.1 e.2):=by
  intro F hF e he
  rcases Hf (g.ne he) with h|h
  ·rw[GH (by lia),Hg (by lia)];exact hF _ _ he h
  ·rw[GG (by lia),HQ (by lia)];exact hF _ _ (g.symm he) h
 by_cases hall:(edges.filter (λe=>d.cz zx zy e.1 e.2))=[]
 ·left
  intro E hE
  have:xs (lh (d.cz zx zy)) E=xs (λ_=>false) E:=by
   apply bC
   intro e he
   refine side (λp q=>d.cz zx zy p q=false) ?_ e (hE e he)
   intro p q hpq hlt
   have hm:=hed p q hpq hlt
   cases h:d.cz zx zy p q with
   |false=>rfl
   |true =>
    have:(p,q)∈edges.filter (λe=>d.cz zx zy e.1 e.2):=GR.2 ⟨hm,h⟩
    rw[hall]at this;cases this
  rw[this,hZ]
 ·right
  obtain⟨⟨u,w⟩,hx,hm⟩:=jY (λe:au=>d.num zx zy e.1 e.2) (λe:au=>d.den e.1 e.2) _ hall (by
   intro x hx
   have:=FY (GR.1 hx).2
   unfold Dr.den;lia)
  obtain⟨hx1,hx2⟩:=GR.1 hx
  obtain⟨huw,hlt⟩:=hed2 _ hx1
  have hcz:d.cz zx zy u w=true:=hx2
  refine⟨u,w,huw,hlt,?_,λE hE hc=>?_⟩
  ·have:=FY hcz
   lia
  have h:xs (λe=>lh (d.cz zx zy) e^^d.Om u w (min e.1 e.2) (max e.1 e.2)) E=false:=by
   rw[<-hc (d.Pz zy u w)]
   apply bC
   intro e he
   have ze:∀p q,d.J p q->p<q->(d.cz zx zy p q^^d.Om u w p q)=(d.Pz zy u w p^^d.Pz zy u w q):=by
    intro p q hpq hlt'
    exact yw g huw hpq hlt hlt' hx2 (λh=>hm (p,q) (GR.2 ⟨hed p q hpq hlt',h⟩))
   have hj:=hE e he
   unfold lh
   rcases Hf (g.ne hj) with h|h
   ·rw[GH (by lia),Hg (by lia)];exact ze _ _ hj h
   ·rw[GG (by lia),HQ (by lia),Jc (d.Pz zy u w e.1)];exact ze _ _ (g.symm hj) h
  rw[ia]at h
  unfold Dr.om
  revert h
  generalize xs (lh (d.cz zx zy)) E=a;generalize xs _ E=b
  cases a<;>cases b<;>simp
end
section
variable  {S:Plan}
theorem vP (k:cB S){z:Pt}(hx0:0<z.x)(hxw:z.x<S.w)(hyh:z.y<S.h):∃e:au,(ab S).J e.1 e.2/\0<twiceArea S (rnd S e)/\insideOf S (rnd S e) z=true:=by
 have kk:=k.toKept
 have g:=bp S kk
 have r:=cF kk
 have hw:0<S.w:=by lia
 have hh:0<S.h:=by lia
 obtain⟨o,ho,hoz,hoa⟩:=outer kk (iO kk k.r6) hw hh
 obtain⟨fE,fC⟩:=vO k
 have fin:=Cl k hx0 hxw hyh
 rcases Av g S.lines (by
   intro p q hpq hlt
   rcases hpq with h|h
   ·exact h
   ·have:=kk.line h;simp only at this;lia) (by
   intro l hl
   have:=kk.line hl
   exact⟨HZ hl,this.1⟩) z.x z.y with h|⟨u,w,huw,hlt,hyy,h⟩
 ·rw[h _ fE]at fin;cases fin
 ·rw[h _ fE fC]at fin
  have hl:(u,w)∈S.lines:=by
   rcases huw with q|q
   ·exact q
   ·have:=kk.line q;simp only at this;lia
  have oE:∀x∈orb S (u,w),(ab S).J x.1 x.2:=λx hx=>fW kk huw hx
  have p:=dC kk (e:=(u,w)) huw
  have oC:cX (orb S (u,w)):=by
   rw[p.orb]
   exact fU _ _ (by rw[Ih,p.back];rfl)
  have hno:o∉orb S (u,w):=by
   intro hm
   have hm2:=eB kk (e:=(u,w)) huw hm
   obtain⟨j,hj⟩:=(d4 kk ho).1 hm2
   have q:=md g r fE fC ho j
   rw[<-hj,hoz _ fE fC]at q
   simp only at q
   rw[q]at fin
   cases fin
  have sees:∀x:au,(ab S).J x.1 x.2->(ab S).om (orb S (u,w)) x.1 x.2=decide (x∈orb S (u,w)):=by
   intro x hx
   have hz:=hoz (orb S (u,w)) oE oC
   rw[p.orb]at hno hz ⊢
   exact pF g r huw p.pos p.back p.dist k.conn ho hz hno hx
  refine⟨(u,w),huw,xV k huw sees hl ?_ (gR kk huw),?_⟩
  ·simp only[ab]at hyy;simp only;lia
  ·rw[k7 kk (e:=(u,w)) huw,h _ oE oC,sees (u,w) huw]
   exact dqt (gR kk huw)
theorem vA (k:cB S){z:Pt}(hw:0<S.w)(hh:0<S.h){e e':au}(he:(ab S).J e.1 e.2)(he':(ab S).J e'.1 e'.2)
  (a:0<twiceArea S (rnd S e)) (a':0<twiceArea S (rnd S e')) (i:insideOf S (rnd S e) z=true) (i':insideOf S (rnd S e') z=true):e'∈orb S e :=
 one_pane k hw hh he he' a a' i i' (λhx hy=>rJ k.toKept hx hy)
end
section
variable  {S:Plan}
def bS (S:Plan):List au:=(GE S.pts.length).flatMap λi=>(aj S i).map λj=>(i,j)
theorem bF (k:Kept S){e:au}:e∈bS S↔(ab S).J e.1 e.2:=by
 have g:=bp S k
 have r:=cF k
 unfold bS
 rw[J6]
 constructor
 ·rintro⟨i,hi,h⟩
  obtain⟨j,hj,rfl⟩:=GP.1 h
  exact r.mem.1 hj
 ·intro h
  exact⟨e.1,Hz.2 (g.lt h),GP.2 ⟨e.2,r.mem.2 h,rfl⟩⟩
def kl (S:Plan)(st:List au×List (List Nat))(e:au):List au×List (List Nat) :=
 if e∈st.1 then st else (st.1++orb S e,if 0<twiceArea S (rnd S e) then st.2++[rnd S e] else st.2)
def bL (S:Plan)(D:List au):List au×List (List Nat):=D.foldl (kl S) ([],[])
def dm (S:Plan):List (List Nat):=(bL S (bS S)).2
theorem gw (S:Plan)(D:List au)(e:au):bL S (D++[e])=kl S (bL S D) e:=by
 unfold bL
 rw[List.foldl_append]
 rfl
def Fst (S:Plan)(D:List au)(e:au):Prop:=∃a b,D=a++e :: b/\∀x∈a,e∉orb S x
structure xh (S:Plan)(D:List au)(st:List au×List (List Nat)):Prop where
 walked:∀x,x∈st.1↔∃e∈D,x∈orb S e
 mem:∀l,l∈st.2↔∃e,Fst S D e/\0<twiceArea S (rnd S e)/\l=rnd S e
 nd:st.2.Nodup
theorem fX {D:List au}{e x:au}:Fst S (D++[e]) x↔Fst S D x\/(x=e/\∀y∈D,e∉orb S y):=by
 constructor
 ·rintro⟨a,b,h,hn⟩
  rcases Jg b with hb|⟨b',y,hb⟩
  ·subst hb
   have:=List.append_inj' h rfl
   obtain⟨h1,h2⟩:=this
   have h2:e=x:=by simpa using h2
   subst h2 h1
   exact Hr ⟨rfl,hn⟩
  ·left
   subst hb
   have h':D++[e]=(a++x :: b')++[y]:=by rw[h];simp
   have:=List.append_inj' h' rfl
   exact⟨a,b',this.1,hn⟩
 ·rintro(⟨a,b,h,hn⟩|⟨rfl,hn⟩)
  ·exact⟨a,b++[e],by rw[h];simp,hn⟩
  ·exact⟨D,[],rfl,hn⟩
theorem yd (k:Kept S){D:List au}{st:List au×List (List Nat)}(h:xh S D st)(hD:∀x∈D,(ab S).J x.1 x.2){e:au}(he:(ab S).J e.1 e.2):xh S (D++[e]) (kl S st e):=by
 unfold kl
 by_cases hw:e∈st.1
 ·rw[Gk hw]
  obtain⟨y,hy,hey⟩:=(h.walked e).1 hw
  refine⟨λx=>?_,λl=>?_,h.nd⟩
  ·rw[h.walked x]
   constructor
   ·rintro⟨z,hz,hx⟩;exact⟨z,by simp[hz],hx⟩
   ·rintro⟨z,hz,hx⟩
    rcases GK.1 hz with q|q
    ·exact⟨z,q,hx⟩
    ·have:z=e:=by simpa using q
     subst this
     exact⟨y,hy,fN k (hD y hy) hey hx⟩
  ·rw[h.mem l]
   constructor
   ·rintro⟨x,hx,q⟩;exact⟨x,fX.2 (HZ hx),q⟩
   ·rintro⟨x,hx,q⟩
    rcases fX.1 hx with q1|⟨rfl,q1⟩
    ·exact⟨x,q1,q⟩
    ·exact absurd hey (q1 y hy)
 ·rw[Gf hw]
  have hn:∀y∈D,e∉orb S y:=λy hy q=>hw ((h.walked e).2 ⟨y,hy,q⟩)
  refine⟨λx=>?_,λl=>?_,?_⟩
  ·rw[GK,h.walked x]
   constructor
   ·rintro(⟨z,hz,hx⟩|hx)
    ·exact⟨z,by simp[hz],hx⟩
    ·exact⟨e,by simp,hx⟩
   ·rintro⟨z,hz,hx⟩
    rcases GK.1 hz with q|q
    ·exact HZ ⟨z,q,hx⟩
    ·have:z=e:=by simpa using q
     subst this
     exact Hr hx
  ·by_cases ha:0<twiceArea S (rnd S e)
   ·rw[Gk ha,GK,h.mem l]
    constructor
    ·rintro(⟨x,hx,q⟩|q)
     ·exact⟨x,fX.2 (HZ hx),q⟩
     ·exact⟨e,fX.2 (Hr ⟨rfl,hn⟩),ha,by simpa using q⟩
    ·rintro⟨x,hx,q⟩
     rcases fX.1 hx with q1|⟨rfl,q1⟩
     ·exact HZ ⟨x,q1,q⟩
     ·exact Hr (by simpa using q.2)
   ·rw[Gf ha,h.mem l]
    constructor
    ·rintro⟨x,hx,q⟩;exact⟨x,fX.2 (HZ hx),q⟩
    ·rintro⟨x,hx,q⟩
     rcases fX.1 hx with q1|⟨rfl,q1⟩
     ·exact⟨x,q1,q⟩
     ·exact absurd q.1 ha
  ·by_cases ha:0<twiceArea S (rnd S e)
   ·rw[Gk ha,List.nodup_append]
    refine⟨h.nd,by simp,λl hl m hm q=>?_⟩
    have hm:m=rnd S e:=by simpa using hm
    subst hm q
    obtain⟨x,⟨a,b,hx,_⟩,_,e1⟩:=(h.mem _).1 hl
    have hxD:x∈D:=by rw[hx];simp
    have e2:orb S e=orb S x:=by rw[<-iw k he,<-iw k (hD x hxD),e1]
    exact hn x hxD (by rw[<-e2];exact gR k he)
   ·rw[Gf ha];exact h.nd
theorem jc (k:Kept S):∀{D:List au},(∀x∈D,(ab S).J x.1 x.2)->xh S D (bL S D):=by
 intro D
 generalize hn:D.length=n
 induction n generalizing D with
 |zero =>
  intro _
  have:D=[]:=Im.1 hn
  subst this
  refine⟨λx=>?_,λl=>?_,List.nodup_nil⟩
  ·constructor
   ·intro h;cases h
   ·rintro⟨e,he,_⟩;cases he
  ·constructor
   ·intro h;cases h
   ·rintro⟨e,⟨a,b,h,_⟩,_⟩
    simp at h
 |succ n ih =>
  intro hD
  rcases Jg D with h|⟨D',e,h⟩
  ·subst h;simp at hn
  ·rw[JK]at h
   subst h
   rw[gw]
   exact yd k (ih (by simpa using hn) λx hx=>hD x (by simp[hx])) (λx hx=>hD x (by simp[hx])) (hD e (by simp))
theorem iJ {α:Type}[BEq α][LawfulBEq α]:∀(n:Nat) (l:List α),l.length<=n->l.eraseDups.Nodup
 |0,l,h=>by
  have:l=[]:=Im.1 (by lia)
  subst this
  simp
 |n+1,[],_=>by simp
 |n+1,a :: l,h=>by
  rw[List.eraseDups_cons,HN]
  refine⟨λq=>?_,iJ n _ (by have:=Jh (λb=>!b==a) l;simp at h;lia)⟩
  rw[List.mem_eraseDups,GR]at q
  simp at q
theorem rG:(bS S).Pairwise (λx y=>x.1<=y.1):=by
 unfold bS
 generalize S.pts.length=n
 induction n with
 |zero=>exact List.Pairwise.nil
 |succ n ih =>
  rw[JJ,List.flatMap_append,Hv]
  refine⟨ih,?_,?_⟩
  ·rw[List.flatMap_cons,List.flatMap_nil,HM,List.pairwise_map]
   exact List.pairwise_of_forall (λ_ _=>nlr _)
  ·intro x hx y hy
   obtain⟨i,hi,h⟩:=J6.1 hx
   obtain⟨j,hj,rfl⟩:=GP.1 h
   obtain⟨i',hi',h'⟩:=J6.1 hy
   obtain⟨j',hj',rfl⟩:=GP.1 h'
   have:=Hz.1 hi
   have:i'=n:=by simpa using hi'
   simp only
   lia
theorem j7 (k:Kept S){e:au}(he:(ab S).J e.1 e.2):∃t,rnd S e=e.1 :: t:=by
 have p:=dC k he
 obtain⟨n,hn⟩:∃n,(rnd S e).length=n+1:=⟨(rnd S e).length-1,by have:=p.pos;lia⟩
 rw[p.rnd,hn]
 exact⟨_,rfl⟩
theorem u4 (k:Kept S){e:au}(he:(ab S).J e.1 e.2){v:Nat}(h:v∈rnd S e):∃x∈orb S e,x.1=v:=by
 have p:=dC k he
 rw[p.rnd,<-p.orb]at h
 obtain⟨x,hx,e⟩:=GP.1 h
 exact⟨x,hx,e⟩
theorem g9 (k:cB S){e:au}(h:Fst S (bS S) e):∃t,rnd S e=e.1 :: t/\∀x∈t,e.1<x:=by
 have kk:=k.toKept
 obtain⟨a,b,hD,hn⟩:=h
 have he:(ab S).J e.1 e.2:=(bF kk).1 (by rw[hD];simp)
 obtain⟨t,ht⟩:=j7 kk he
 refine⟨t,ht,λv hv=>?_⟩
 have nd:=kO k he
 rw[ht,HN]at nd
 have hne:v≠e.1:=λq=>nd.1 (q▸hv)
 obtain⟨x,hx,hxv⟩:=u4 kk he (v:=v) (by rw[ht];simp[hv])
 apply bcn
 intro hlt
 have hxD:x∈bS S:=(bF kk).2 (fW kk he hx)
 have ord:=rG (S:=S)
 rw[hD,Hv,Hh]at ord
 rw[hD]at hxD
 rcases GK.1 hxD with q|q
 ·exact hn x q (eB kk he hx)
 ·rcases Gh.1 q with q|q
  ·subst q;lia
  ·have:=ord.2.1.1 x q
   lia
theorem sX (k:Kept S){e x:au}(he:(ab S).J e.1 e.2)(hx:x∈orb S e):∃j,j<(rnd S e).length/\rnd S x=(rnd S e).drop j++(rnd S e).take j:=by
 have p:=dC k he
 obtain⟨j,hj⟩:=(d4 k he).1 hx
 rw[p8 p.back p.pos]at hj
 refine⟨j % (rnd S e).length,Nat.mod_lt _ p.pos,?_⟩
 rw[hj]
 exact zq k he (Nat.mod_lt _ p.pos)
theorem jf (k:cB S)(l:List Nat):l∈dm S↔l∈S.outlines:=by
 have kk:=k.toKept
 have ok:=jc kk (D:=bS S) (λx hx=>(bF kk).1 hx)
 unfold dm
 rw[ok.mem]
 unfold Plan.outlines
 rw[GR,List.mem_eraseDups,GP]
 constructor
 ·rintro⟨e,hf,ha,rfl⟩
  obtain⟨t,ht,hm⟩:=g9 k hf
  obtain⟨a,b,hD,_⟩:=hf
  have he:(ab S).J e.1 e.2:=(bF kk).1 (by rw[hD];simp)
  refine⟨⟨e,jb.2 he,?_⟩,dqt ha⟩
  show fromLeast (rnd S e)=rnd S e
  have:=dW hm (j:=0) (by simp)
  rw[ht]
  simpa using this
 ·rintro⟨⟨e',hw,rfl⟩,ha⟩
  have he':(ab S).J e'.1 e'.2:=jb.1 (by obtain⟨x,y⟩:=e';exact hw)
  have ha:0<twiceArea S (fromLeast (rnd S e')):=FY ha
  obtain⟨a,e,b,hD,he,hn⟩:∃a e b,bS S=a++e :: b/\e∈orb S e'/\∀x∈a,x∉orb S e':=by
   have h0:e'∈bS S:=(bF kk).2 he'
   have h1:=gR kk he'
   generalize bS S=D at h0
   induction D with
   |nil=>cases h0
   |cons y r ih =>
    by_cases hy:y∈orb S e'
    ·exact⟨[],y,r,rfl,hy,λx hx=>by cases hx⟩
    ·have:e'∈r:=(Gh.1 h0).resolve_left (λq=>hy (q▸h1))
     obtain⟨a,e,b,h2,h3,h4⟩:=ih this
     refine⟨y :: a,e,b,by rw[h2];rfl,h3,λx hx=>?_⟩
     rcases Gh.1 hx with q|q
     ·rw[q];exact hy
     ·exact h4 x q
  have hej:=fW kk he' he
  have hf:Fst S (bS S) e:=⟨a,b,hD,λx hx q=>by
   have hxj:(ab S).J x.1 x.2:=(bF kk).1 (by rw[hD];simp[hx])
   exact hn x hx (fN kk he' he (eB kk hxj q))⟩
  obtain⟨t,ht,hm⟩:=g9 k hf
  obtain⟨j,hj,hr⟩:=sX kk hej (eB kk he' he)
  have e1:fromLeast (rnd S e')=rnd S e:=by
   rw[hr,ht]
   exact dW hm (by rw[<-ht];exact hj)
  have e1':fromLeast (S.round (2*S.lines.length+1) e' e')=rnd S e:=e1
  exact⟨e,hf,by rw[<-e1];exact ha,e1'⟩
theorem io (k:Kept S):(dm S).Nodup:=(jc k (D:=bS S) (λx hx=>(bF k).1 hx)).nd
theorem nY (S:Plan):S.outlines.Nodup:=(iJ _ _ (nlr _)).filter _
theorem rR (k:cB S):(dm S).length=S.outlines.length:=by
 have h1:=bI (io k.toKept) (λx hx=>(jf k x).1 hx)
 have h2:=bI (nY S) (λx hx=>(jf k x).2 hx)
 lia
theorem i7 (k:cB S){l:List Nat}(h:l∈dm S):∃e:au,(ab S).J e.1 e.2/\0<twiceArea S (rnd S e)/\l=rnd S e:=by
 have kk:=k.toKept
 have ok:=jc kk (D:=bS S) (λx hx=>(bF kk).1 hx)
 obtain⟨e,⟨a,b,hD,_⟩,ha,hl⟩:=(ok.mem l).1 h
 exact⟨e,(bF kk).1 (by rw[hD];simp),ha,hl⟩
theorem xa (k:cB S){z:Pt}(hz:clear S z=true):∃h,∃(hh:h<(dm S).length),S.among S.outlines z=some (dm S)[h]/\insideOf S (dm S)[h] z=true /\
  ∀j (hj:j<(dm S).length),insideOf S (dm S)[j] z=true->j=h:=by
 have kk:=k.toKept
 have hz':=hz
 unfold clear at hz'
 simp only[Gi,Gj]at hz'
 obtain⟨z1,z2,z3,z4,_⟩:=hz'
 have hw:0<S.w:=by lia
 have hh:0<S.h:=by lia
 obtain⟨e,he,ha,hi⟩:=vP k z1 z2 z4
 have uniq:∀l∈dm S,∀m∈dm S,insideOf S l z=true->insideOf S m z=true->l=m:=by
  intro l hl m hm il im
  have ok:=jc kk (D:=bS S) (λx hx=>(bF kk).1 hx)
  obtain⟨x,hx,ax,rfl⟩:=(ok.mem l).1 hl
  obtain⟨y,hy,ay,rfl⟩:=(ok.mem m).1 hm
  obtain⟨t1,h1,m1⟩:=g9 k hx
  obtain⟨t2,h2,m2⟩:=g9 k hy
  obtain⟨a1,b1,d1,n1⟩:=hx
  obtain⟨a2,b2,d2,n2⟩:=hy
  have xj:(ab S).J x.1 x.2:=(bF kk).1 (by rw[d1];simp)
  have yj:(ab S).J y.1 y.2:=(bF kk).1 (by rw[d2];simp)
  have hm:=vA k hw hh xj yj ax ay il im
  obtain⟨j,hj,hr⟩:=sX kk xj hm
  have:fromLeast (rnd S y)=rnd S x:=by
   rw[hr,h1]
   exact dW m1 (by rw[<-h1];exact hj)
  have e2:=dW m2 (j:=0) (by simp)
  rw[h2]at this
  rw[<-this,h2]
  have e3:fromLeast (y.1 :: t2)=y.1 :: t2:=by simpa using e2
  exact e3
 have ex:∃l∈dm S,insideOf S l z=true:=by
  have hl:fromLeast (rnd S e)∈S.outlines:=by
   unfold Plan.outlines
   rw[GR,List.mem_eraseDups,GP]
   refine⟨⟨e,jb.2 he,rfl⟩,?_⟩
   have q:∃x∈orb S e,fromLeast (rnd S e)=rnd S x:=by
    obtain⟨a,x,b,hD,hx,hn⟩:∃a x b,bS S=a++x :: b/\x∈orb S e/\∀y∈a,y∉orb S e:=by
     have h0:e∈bS S:=(bF kk).2 he
     have h1:=gR kk he
     generalize bS S=D at h0
     induction D with
     |nil=>cases h0
     |cons y r ih =>
      by_cases hy:y∈orb S e
      ·exact⟨[],y,r,rfl,hy,λx hx=>by cases hx⟩
      ·have:e∈r:=(Gh.1 h0).resolve_left (λq=>hy (q▸h1))
       obtain⟨a,x,b,h2,h3,h4⟩:=ih this
       refine⟨y :: a,x,b,by rw[h2];rfl,h3,λv hv=>?_⟩
       rcases Gh.1 hv with q|q
       ·rw[q];exact hy
       ·exact h4 v q
    have hxj:=fW kk he hx
    have hf:Fst S (bS S) x:=⟨a,b,hD,λy hy q=>by
     have hyj:(ab S).J y.1 y.2:=(bF kk).1 (by rw[hD];simp[hy])
     exact hn y hy (fN kk he hx (eB kk hyj q))⟩
    obtain⟨t,ht,hm⟩:=g9 k hf
    obtain⟨j,hj,hr⟩:=sX kk hxj (eB kk he hx)
    refine⟨x,hx,?_⟩
    rw[hr,ht]
    exact dW hm (by rw[<-ht];exact hj)
   obtain⟨x,hx,hq⟩:=q
   rw[hq,rJ kk he hx]
   exact dqt ha
  have hlo:=(jf k _).2 hl
  refine⟨_,hlo,?_⟩
  obtain⟨x,xj,ax,hx⟩:=i7 k hlo
  have q:x∈orb S e\/True:=Hr trivial
  have hrot:∃a b,rnd S e=a++b/\fromLeast (rnd S e)=b++a:=by
   generalize rnd S e=r
   cases r with
   |nil=>exact⟨[],[],rfl,rfl⟩
   |cons a r =>
    refine⟨(a :: r).take ((a :: r).idxOf (r.foldl min a)),(a :: r).drop ((a :: r).idxOf (r.foldl min a)),(List.take_append_drop _ _).symm,rfl⟩
  obtain⟨a,b,h1,h2⟩:=hrot
  rw[h2]
  rw[h1]at hi
  have pr:∀(a b:List Nat),(prs (a++b)).Perm (prs (b++a)):=by
   intro a b
   unfold prs
   cases a with
   |nil=>rw[HY,HM]
   |cons x a =>
    cases b with
    |nil=>rw[HY,HM]
    |cons y b =>
     have c1:((x :: a)++(y :: b)).zip (((x :: a)++(y :: b)).drop 1++((x :: a)++(y :: b)).take 1)=(x :: a).zip (a++[y])++(y :: b).zip (b++[x]):=by
      have:((x :: a)++(y :: b)).drop 1++((x :: a)++(y :: b)).take 1=(a++[y])++(b++[x]):=by simp
      rw[this,List.zip_append (by simp)]
     have c2:((y :: b)++(x :: a)).zip (((y :: b)++(x :: a)).drop 1++((y :: b)++(x :: a)).take 1)=(y :: b).zip (b++[x])++(x :: a).zip (a++[y]):=by
      have:((y :: b)++(x :: a)).drop 1++((y :: b)++(x :: a)).take 1=(b++[x])++(a++[y]):=by simp
      rw[this,List.zip_append (by simp)]
     rw[c1,c2]
     exact List.perm_append_comm
  have ins:∀l m:List Nat,(prs l).Perm (prs m)->insideOf S l z=insideOf S m z:=by
   intro l m hp
   unfold insideOf
   have:(l.zip (l.drop 1++l.take 1)).Perm (m.zip (m.drop 1++m.take 1)):=hp
   rw[(this.filter _).length_eq]
  rw[ins _ _ (pr b a)]
  exact hi
 obtain⟨l,hl,hin⟩:=ex
 obtain⟨h,hh,hlh⟩:=GI hl
 refine⟨h,hh,?_,by rw[hlh];exact hin,λj hj q=>?_⟩
 ·unfold Plan.among
  rw[Gk hz,hlh]
  cases hf:S.outlines.find? λ(l:List Nat)=>insideOf S l z with
  |none =>
   have:=Je.1 hf l ((jf k l).1 hl)
   rw[hin]at this
   exact absurd rfl this
  |some m =>
   have h1:=List.find?_some hf
   have h2:=List.mem_of_find?_eq_some hf
   rw[uniq m ((jf k m).2 h2) l hl h1 hin]
 ·have e:=uniq _ (GC hj) _ hl q hin
  have nd:=io kk
  exact(List.getElem_inj nd).1 (e.trans hlh.symm)
end
theorem eA {α:Type}{p:Nat->α->Bool}{l:List α}{k:Nat}(hk:k<l.length)(h:p k l[k]=true)(hb:∀j (hj:j<k),p j (l[j]'(by lia))=false):firstAt p l=some k:=by
 unfold firstAt
 have:(l.zipIdx.find? λ(x:α×Nat)=>p x.2 x.1)=some (l[k],k):=by
  rw[Jq]
  refine⟨h,k,by rw[List.length_zipIdx];exact hk,by rw[List.getElem_zipIdx];simp,λj hj=>?_⟩
  rw[List.getElem_zipIdx]
  simp only[Ih]
  rw[hb j hj]
  rfl
 rw[this]
 rfl
theorem dZ {α:Type}{p:Nat->α->Bool}{l:List α}(hb:∀j (hj:j<l.length),p j l[j]=false):firstAt p l=none:=by
 unfold firstAt
 rw[Option.map_eq_none_iff,Je]
 intro x hx
 obtain⟨i,hi,rfl⟩:=GI hx
 rw[List.getElem_zipIdx]
 simp only[Ih]
 rw[List.length_zipIdx]at hi
 rw[hb i hi]
 simp
theorem jR {p:Nat->Bool}{n k:Nat}(hk:k<n)(h:p k=true)(hb:∀j,j<k->p j=false):(GE n).find? p=some k:=by
 rw[Jq]
 refine⟨h,k,by rw[Hl];exact hk,by rw[List.getElem_range],λj hj=>?_⟩
 rw[List.getElem_range,hb j hj]
 rfl
theorem iR {p:Nat->Bool}{n:Nat}(hb:∀j,j<n->p j=false):(GE n).find? p=none:=by
 rw[Je]
 intro x hx
 rw[hb x (Hz.1 hx)]
 simp
def cg {α:Type}(ok:α->Bool)(before:α->α->Bool)(l:List α)(i:Nat)(x:α):Bool:=!ok x||(decide (0<i)&&(match l[i-1]? with
 |some y=>!before y x
 |none=>false))
theorem ee {α:Type}(ok:α->Bool)(before:α->α->Bool)(l:List α):firstBad ok before l=firstAt (cg ok before l) l:=rfl
theorem jW {α:Type}{ok:α->Bool}{before:α->α->Bool}{l:List α}{x:α}:cg ok before l 0 x=!ok x:=by
 unfold cg
 simp
theorem j0 {α:Type}{ok:α->Bool}{before:α->α->Bool}{l:List α}{i:Nat}(hi:i<l.length){x:α}:cg ok before l (i+1) x=(!ok x||!before l[i] x):=by
 unfold cg
 rw[dqt (by lia),HA,show i+1-1=i by lia,gge hi]
section
variable  {S:Plan}
def R4 (S:Plan):Prop:=firstBad (λ(p:Pt)=>decide (p.x<=S.w)&&decide (p.y<=S.h)) Pt.below S.pts=none
def R5 (S:Plan):Prop:=firstBad (λ(l:Nat×Nat)=>decide (l.1<l.2)&&decide (l.2<S.pts.length)) lineBelow S.lines=none
theorem R4.ord (h:R4 S){i j:Nat}(hij:i<j)(hj:j<S.pts.length):(S.pt i).y<(S.pt j).y\/((S.pt i).y=(S.pt j).y/\(S.pt i).x<(S.pt j).x):=by
 have q:=chain_lt (R:=Pt.below) (λh1 h2=>lB h1 h2) (cp h).2 i j hij hj
 rw[bO S hj,bO S (by lia:i<S.pts.length)]
 exact(eK _ _).1 q
theorem R5.line (h:R5 S){l:Nat×Nat}(hl:l∈S.lines):l.1<l.2/\l.2<S.pts.length:=by
 have:=(cp h).1 l hl
 simpa using this
theorem tP (h4:R4 S){p q j:Nat}(hpq:p<q)(hq:q<S.pts.length)(hj:j<S.pts.length)(h1:j≠p)(h2:j≠q)(hon:isOn (S.pt p) (S.pt q) (S.pt j)=true):p<j/\j<q:=by
 unfold isOn between at hon
 simp only[Gi,Jz,Gj]at hon
 obtain⟨ht,⟨hx1,hx2⟩,hy1,hy2⟩:=hon
 have o:=h4.ord hpq hq
 unfold turn dx dy at ht
 constructor
 ·apply bcn
  intro hn
  have oj:=h4.ord (i:=j) (j:=p) (by lia) (by lia)
  have ey:(S.pt j).y=(S.pt p).y:=by lia
  have exl:(S.pt j).x<(S.pt p).x:=by lia
  rcases o with o|o
  ·rw[ey]at ht
   have:(((S.pt q).y:Int)-((S.pt p).y:Int))*(((S.pt p).x:Int)-((S.pt j).x:Int))=0:=by grind
   have:0<(((S.pt q).y:Int)-((S.pt p).y:Int))*(((S.pt p).x:Int)-((S.pt j).x:Int)):=Gs (by lia) (by lia)
   lia
  ·lia
 ·apply bcn
  intro hn
  have oj:=h4.ord (i:=q) (j:=j) (by lia) hj
  have ey:(S.pt j).y=(S.pt q).y:=by lia
  have exl:(S.pt q).x<(S.pt j).x:=by lia
  rcases o with o|o
  ·rw[ey]at ht
   have:(((S.pt q).y:Int)-((S.pt p).y:Int))*(((S.pt j).x:Int)-((S.pt q).x:Int))=0:=by grind
   have:0<(((S.pt q).y:Int)-((S.pt p).y:Int))*(((S.pt j).x:Int)-((S.pt q).x:Int)):=Gs (by lia) (by lia)
   lia
  ·lia
theorem vZ (h4:R4 S){p q r s:Nat}(hpq:p<q)(hq:q<S.pts.length)(hrs:r<s)(hs:s<S.pts.length)(hc:crosses (S.pt p) (S.pt q) (S.pt r) (S.pt s)=true):p<s:=by
 apply bcn
 intro hn
 have o1:=h4.ord hpq hq
 have o2:=h4.ord hrs hs
 have o3:(S.pt s).y<=(S.pt p).y:=by
  by_cases e:s=p
  ·rw[e];exact nlr _
  ·have:=h4.ord (i:=s) (j:=p) (by lia) (by lia)
   lia
 unfold crosses at hc
 simp only[Gi,Gj]at hc
 obtain⟨c1,c2⟩:=hc
 unfold turn dx dy at c1 c2
 have y1:(S.pt p).y<=(S.pt q).y:=by lia
 have y2:(S.pt r).y<=(S.pt s).y:=by lia
 generalize hpx:((S.pt p).x:Int)=px at *
 generalize hqx:((S.pt q).x:Int)=qx at *
 generalize hrx:((S.pt r).x:Int)=rx at *
 generalize hsx:((S.pt s).x:Int)=sx at *
 have y1':((S.pt p).y:Int)<=((S.pt q).y:Int):=by lia
 have y2':((S.pt r).y:Int)<=((S.pt s).y:Int):=by lia
 have y3':((S.pt s).y:Int)<=((S.pt p).y:Int):=by lia
 generalize ((S.pt p).y:Int)=py at *
 generalize ((S.pt q).y:Int)=qy at *
 generalize ((S.pt r).y:Int)=ry at *
 generalize ((S.pt s).y:Int)=sy at *
 have fin:∀(fr fs hp hq:Int),fr=(qx-px)*(ry-qy)-(qy-py)*(rx-qx)->fs=(qx-px)*(sy-qy)-(qy-py)*(sx-qx)->hp=(sx-rx)*(py-sy)-(sy-ry)*(px-sx)->hq=(sx-rx)*(qy-sy)-(sy-ry)*(qx-sx)->fr*fs<0->hp*hq<0->False:=by
  intro fr fs hp hq e1 e2 e3 e4 m1 m2
  have i1:fs*ry-fr*sy=hp*qy-hq*py:=by rw[e1,e2,e3,e4];grind
  have i2:fs-fr=hp-hq:=by rw[e1,e2,e3,e4];grind
  have i3:fs-fr=(qx-px)*(sy-ry)-(qy-py)*(sx-rx):=by rw[e1,e2];grind
  have sg:(0<fs/\fr<0/\0<hp/\hq<0)\/(fs<0/\0<fr/\hp<0/\0<hq):=by
   have s1:(0<fs/\fr<0)\/(fs<0/\0<fr):=by
    rcases Int.lt_trichotomy fs 0 with h|h|h
    ·right
     refine⟨h,?_⟩
     apply bcn;intro q
     have:0<=(-fr)*(-fs):=Gg (by lia) (by lia)
     grind
    ·rw[h]at m1;simp at m1
    ·left
     refine⟨h,?_⟩
     apply bcn;intro q
     have:0<=fr*fs:=Gg (by lia) (by lia)
     lia
   have s2:(0<hp/\hq<0)\/(hp<0/\0<hq):=by
    rcases Int.lt_trichotomy hp 0 with h|h|h
    ·right
     refine⟨h,?_⟩
     apply bcn;intro q
     have:0<=(-hp)*(-hq):=Gg (by lia) (by lia)
     grind
    ·rw[h]at m2;simp at m2
    ·left
     refine⟨h,?_⟩
     apply bcn;intro q
     have:0<=hp*hq:=Gg (by lia) (by lia)
     lia
   rcases s1 with s1|s1<;>rcases s2 with s2|s2
   ·exact HZ ⟨s1.1,s1.2,s2.1,s2.2⟩
   ·lia
   ·lia
   ·exact Hr ⟨s1.1,s1.2,s2.1,s2.2⟩
  have j1:fs*(sy-ry)+hp*(qy-py)+(fs-fr)*(py-sy)=0:=by grind
  rcases sg with⟨g1,g2,g3,g4⟩|⟨g1,g2,g3,g4⟩
  ·have a1:0<=fs*(sy-ry):=Gg (by lia) (by lia)
   have a2:0<=hp*(qy-py):=Gg (by lia) (by lia)
   have a3:0<=(fs-fr)*(py-sy):=Gg (by lia) (by lia)
   have z1:sy-ry=0:=by
    rcases IA.1 (by omega:fs*(sy-ry)=0) with h|h<;>omega
   have z2:qy-py=0:=by
    rcases IA.1 (by omega:hp*(qy-py)=0) with h|h<;>omega
   rw[z1,z2]at i3
   simp at i3
   lia
  ·have a1:0<=(-fs)*(sy-ry):=Gg (by lia) (by lia)
   have a2:0<=(-hp)*(qy-py):=Gg (by lia) (by lia)
   have a3:0<=(-(fs-fr))*(py-sy):=Gg (by lia) (by lia)
   have b1:(-fs)*(sy-ry)=- (fs*(sy-ry)):=by grind
   have b2:(-hp)*(qy-py)=- (hp*(qy-py)):=by grind
   have b3:(-(fs-fr))*(py-sy)=- ((fs-fr)*(py-sy)):=by grind
   have z1:sy-ry=0:=by
    rcases IA.1 (by omega:fs*(sy-ry)=0) with h|h<;>omega
   have z2:qy-py=0:=by
    rcases IA.1 (by omega:hp*(qy-py)=0) with h|h<;>omega
   rw[z1,z2]at i3
   simp at i3
   lia
 exact fin _ _ _ _ rfl rfl rfl rfl c1 c2
def mz (S:Plan)(l:Nat×Nat):Bool:=(GE S.pts.length).any λk=>decide (l.1<k)&&(decide (k<l.2)&&isOn (S.pt l.1) (S.pt l.2) (S.pt k))
def jM (S:Plan)(i:Nat)(l:Nat×Nat):Bool:=(S.lines.take i).any λm=>decide (l.1<m.2)&&crosses (S.pt l.1) (S.pt l.2) (S.pt m.1) (S.pt m.2)
theorem yK (h4:R4 S)(h5:R5 S)(i:Nat){l:Nat×Nat}(hl:l∈S.lines):touches S i l=(mz S l||jM S i l):=by
 obtain⟨l1,l2⟩:=h5.line hl
 unfold touches mz jM
 congr 1
 ·rw[G0,II,II]
  constructor
  ·rintro⟨k,hk,h⟩
   simp only[Gi,bne_iff_ne,ne_eq]at h
   obtain⟨a,b⟩:=tP h4 l1 l2 (Hz.1 hk) h.1 h.2.1 h.2.2
   exact⟨k,hk,by simp[a,b,h.2.2]⟩
  ·rintro⟨k,hk,h⟩
   simp only[Gi,Gj]at h
   exact⟨k,hk,by simp only[Gi,bne_iff_ne,ne_eq];exact⟨by lia,by lia,h.2.2⟩⟩
 ·rw[G0,II,II]
  constructor
  ·rintro⟨m,hm,h⟩
   obtain⟨m1,m2⟩:=h5.line (HE hm)
   exact⟨m,hm,by rw[Gi];exact⟨dqt (vZ h4 l1 l2 m1 m2 h),h⟩⟩
  ·rintro⟨m,hm,h⟩
   rw[Gi]at h
   exact⟨m,hm,h.2⟩
end
def fu (a:List Nat×Array Bool)(j:Nat):List Nat×Array Bool:=if a.2.getD j true=true then a else (j :: a.1,a.2.setIfInBounds j true)
theorem tU (near:Array (List Nat))(m:Nat)(seen:Array Bool):spread near m [] seen=seen:=by
 cases m<;>rfl
theorem rV (near:Array (List Nat))(m k:Nat)(r:List Nat)(seen:Array Bool):spread near (m+1) (k :: r) seen=spread near m ((near.getD k []).foldl fu (r,seen)).1 ((near.getD k []).foldl fu (r,seen)).2:=rfl
def fk (a:Array Bool):Nat:=a.toList.count false
theorem jp:∀{l:List Bool} {j:Nat},l[j]? = some false->(l.set j true).count false+1=l.count false
 |[],_,h=>by simp at h
 |a :: l,0,h=>by
  have:a=false:=by simpa using h
  subst this
  simp
 |a :: l,j+1,h=>by
  have ih:=jp (l:=l) (j:=j) (by simpa using h)
  rw[List.set_cons_succ,List.count_cons,List.count_cons]
  lia
theorem uh {a:Array Bool}{j:Nat}(h:¬a.getD j true=true):a.toList[j]? = some false/\j<a.size:=by
 unfold Array.getD at h
 by_cases c:j<a.size
 ·rw[dif_pos c]at h
  refine⟨?_,c⟩
  rw[gge (by simpa using c)]
  simp only[Array.getElem_toList]
  congr 1
  cases q:a[j] with
  |false=>rfl
  |true=>exact absurd q h
 ·rw[dif_neg c]at h
  exact absurd rfl h
theorem y4 (a:List Nat×Array Bool)(j:Nat):(fu a j).1.length+fk (fu a j).2=a.1.length+fk a.2:=by
 unfold fu
 by_cases h:a.2.getD j true=true
 ·rw[Gk h]
 ·rw[Gf h]
  obtain⟨h1,h2⟩:=uh h
  have:=jp h1
  unfold fk
  rw[IY]
  simp only[GL]
  lia
theorem kW:∀(l:List Nat) (a:List Nat×Array Bool),(l.foldl fu a).1.length+fk (l.foldl fu a).2=a.1.length+fk a.2
 |[],_=>rfl
 |j :: l,a=>by rw[Il,kW l,y4]
section
variable  {S:Plan}
theorem oo {all:List (List Nat)}:∀{l:List Mark} {i:Nat} {had:List (Option (List Nat))} {k:Nat} (hk:k<l.length),((((l.take k).map λm=>S.among all m.at_).reverse++had).contains (S.among all (l[k]).at_)=true) ->
  (∀j (hj:j<k),(((l.take j).map λm=>S.among all m.at_).reverse++had).contains (S.among all (l[j]'(by lia)).at_)=false)->twice S all i had l=some (i+k)
 |[],_,_,_,hk,_,_=>by simp at hk
 |m :: r,i,had,0,hk,h,_=>by
  unfold twice
  have h:had.contains (S.among all m.at_)=true:=by simpa using h
  simp only
  rw[Gk h]
  rfl
 |m :: r,i,had,k+1,hk,h,hb=>by
  have h0:had.contains (S.among all m.at_)=false:=by simpa using hb 0 (by lia)
  unfold twice
  simp only
  rw[Gf (by rw[h0];decide)]
  have:=oo (l:=r) (i:=i+1) (had:=S.among all m.at_ :: had) (k:=k) (by simpa using hk) (by simpa using h) (λj hj=>by
   have:=hb (j+1) (by lia)
   simpa using this)
  rw[this]
  congr 1
  lia
theorem lA {all:List (List Nat)}:∀{l:List Mark} {i:Nat} {had:List (Option (List Nat))},
  (∀j (hj:j<l.length),(((l.take j).map λm=>S.among all m.at_).reverse++had).contains (S.among all (l[j]).at_)=false)->twice S all i had l=none
 |[],_,_,_=>rfl
 |m :: r,i,had,hb=>by
  have h0:had.contains (S.among all m.at_)=false:=hb 0 (Nat.zero_lt_succ _)
  unfold twice
  simp only
  rw[Gf (by rw[h0];decide)]
  exact lA (l:=r) (λj hj=>by
   have:=hb (j+1) (by simpa using hj)
   simpa using this)
end
end WL
end
section
namespace CM
open Gla
def tf (l:List Int):Int:=l.foldr (λb n=>256*n+b) 0
def rd (ns:List Int)(p w:Nat):Int:=tf ((ns.drop p).take w)
def toB (ns:List Int):List UInt8:=ns.map λz=>UInt8.ofNat z.toNat
def Byt (ns:List Int):Prop:=∀z∈ns,0<=z/\z<=255
theorem uG {z:Int}(h:0<=z/\z<=255):(((UInt8.ofNat z.toNat).toNat:Nat):Int)=z:=by
 have:(UInt8.ofNat z.toNat).toNat=z.toNat:=by
  rw[UInt8.toNat_ofNat']
  lia
 rw[this]
 lia
theorem uo:∀{l:List Int},Byt l->tf l=((numLe (toB l):Nat):Int)
 |[],_=>rfl
 |z :: l,h=>by
  have ih:=uo (l:=l) λy hy=>h y (Gc _ hy)
  have hz:=uG (h z Gv)
  show 256*tf l+z=(((UInt8.ofNat z.toNat).toNat+256*numLe (toB l):Nat):Int)
  rw[ih,Int.natCast_add,hz,Int.natCast_mul]
  lia
theorem Byt.sub {ns:List Int}(h:Byt ns)(p w:Nat):Byt ((ns.drop p).take w):=λz hz=>h z (IK (HE hz))
theorem cV {ns:List Int}(h:Byt ns)(p w:Nat):rd ns p w=((num (toB ns) p w:Nat):Int):=by
 unfold rd num
 rw[uo (h.sub p w)]
 unfold toB
 rw[Ja,JX]
theorem sL:∀(l:List UInt8),numLe l<256 ^ l.length
 |[]=>by simp[numLe]
 |c :: r=>by
  have:=sL r
  have hc:=c.toNat_lt
  rw[numLe,GL,Nat.pow_succ]
  have:c.toNat+256*numLe r<256*(numLe r+1):=by lia
  have:256*(numLe r+1)<=256*256 ^ r.length:=Nat.mul_le_mul_left _ (by lia)
  lia
theorem qW (b:List UInt8)(p w:Nat):num b p w<256 ^ w:=by
 unfold num
 have h:=sL ((b.drop p).take w)
 have:((b.drop p).take w).length<=w:=by rw[GY];lia
 exact GD h (Nat.pow_le_pow_right (by lia) this)
theorem tT {ns:List Int}(h:Byt ns)(p:Nat):0<=rd ns p 2/\rd ns p 2<65536:=by
 have:=qW (toB ns) p 2
 rw[cV h]
 lia
def eF (ns:List Int)(r:List Int):Bool:=decide (r.getD 2 0<=rd ns (r.getD 0 0).toNat (r.getD 1 0).toNat)&&decide (rd ns (r.getD 0 0).toNat (r.getD 1 0).toNat<=r.getD 3 0)
def told (ns:List Int):Int:=20+8*rd ns 12 2+4*rd ns 14 2+12*rd ns 16 2
def dR (ns:List Int):Option (Int×Int):=if ns.length<20 then some (1,(ns.length:Int)) else if ns.take 4≠jL then some (1,0) else match eY.find? (λr=>!eF ns r) with
 |some r=>some (2,r.getD 0 0)
 |none=>if (ns.length:Int)≠told ns then some (3,20) else none
theorem vo {ns:List Int}(h:Byt ns):(toB ns).take 4=MAGIC↔ns.take 4=jL:=by
 have e:(toB ns).take 4=toB (ns.take 4):=by unfold toB;rw[Ja]
 have hb:Byt (ns.take 4):=λz hz=>h z (HE hz)
 rw[e]
 constructor
 ·intro q
  have:((toB (ns.take 4)).map λc:UInt8=>((c.toNat:Nat):Int))=jL:=by rw[q];rfl
  rw[<-this]
  unfold toB
  rw[IP]
  conv=>lhs;rw[<-List.map_id (ns.take 4)]
  apply HP
  intro z hz
  exact(uG (hb z hz)).symm
 ·intro q
  rw[q]
  rfl
def d9 (b:List UInt8):Option Fault :=
 if b.length<HEAD then some ⟨1,b.length⟩
 else if b.take 4≠MAGIC then some ⟨1,0⟩
 else if within SMALLEST LARGEST (num b 4 4)=false then some ⟨2,4⟩
 else if within SMALLEST LARGEST (num b 8 4)=false then some ⟨2,8⟩
 else if within 4 POINTS (num b 12 2)=false then some ⟨2,12⟩
 else if within 4 LINES (num b 14 2)=false then some ⟨2,14⟩
 else if within 1 MARKS (num b 16 2)=false then some ⟨2,16⟩
 else if num b 18 2≠0 then some ⟨2,18⟩
 else if b.length≠HEAD+8*num b 12 2+4*num b 14 2+12*num b 16 2 then some ⟨3,HEAD⟩ else none
theorem oh (b:List UInt8):judgePlan b=match d9 b with
  |some e=>.error e
  |none=>match (parts b).fault with
   |some e=>.error e
   |none=>.ok (parts b):=by
 unfold judgePlan d9
 repeat' split
 all_goals first|rfl|simp_all
theorem em {a c n:Nat}{z:Int}(hz:z=(n:Int)):within a c n=(decide ((a:Int)<=z)&&decide (z<=(c:Int))):=by
 unfold within
 subst hz
 congr 1
 ·rw[Gu];lia
 ·rw[Gu];lia
theorem jv {ns:List Int}(h:Byt ns):dR ns=(d9 (toB ns)).map λe=>((e.rule:Int),(e.place:Int)):=by
 have hl:(toB ns).length=ns.length:=by unfold toB;rw[lmp]
 unfold dR d9
 rw[hl]
 by_cases c1:ns.length<20
 ·rw[Gk c1,Gk (show ns.length<HEAD from c1)]
  rfl
 ·rw[Gf c1,Gf (show ¬ns.length<HEAD from c1)]
  by_cases c2:ns.take 4=jL
  ·rw[Gf (show ¬ns.take 4≠jL from λq=>q c2),Gf (show ¬(toB ns).take 4≠MAGIC from λq=>q ((vo h).2 c2))]
   have w1:=em (a:=SMALLEST) (c:=LARGEST) (cV h 4 4)
   have w2:=em (a:=SMALLEST) (c:=LARGEST) (cV h 8 4)
   have w3:=em (a:=4) (c:=POINTS) (cV h 12 2)
   have w4:=em (a:=4) (c:=LINES) (cV h 14 2)
   have w5:=em (a:=1) (c:=MARKS) (cV h 16 2)
   have o1:eF ns [4,4,16,1048575]=within SMALLEST LARGEST (num (toB ns) 4 4):=by rw[w1];rfl
   have o2:eF ns [8,4,16,1048575]=within SMALLEST LARGEST (num (toB ns) 8 4):=by rw[w2];rfl
   have o3:eF ns [12,2,4,4096]=within 4 POINTS (num (toB ns) 12 2):=by rw[w3];rfl
   have o4:eF ns [14,2,4,8192]=within 4 LINES (num (toB ns) 14 2):=by rw[w4];rfl
   have o5:eF ns [16,2,1,2048]=within 1 MARKS (num (toB ns) 16 2):=by rw[w5];rfl
   have o6:eF ns [18,2,0,0]=decide (num (toB ns) 18 2=0):=by
    show(decide ((0:Int)<=rd ns 18 2)&&decide (rd ns 18 2<=0))=_
    rw[cV h,<-Bool.decide_and,Gu]
    lia
   unfold eY
   simp only[IR,List.find?_nil,o1,o2,o3,o4,o5,o6]
   cases within SMALLEST LARGEST (num (toB ns) 4 4) with
   |false=>rfl
   |true =>
    cases within SMALLEST LARGEST (num (toB ns) 8 4) with
    |false=>rfl
    |true =>
     cases within 4 POINTS (num (toB ns) 12 2) with
     |false=>rfl
     |true =>
      cases within 4 LINES (num (toB ns) 14 2) with
      |false=>rfl
      |true =>
       cases within 1 MARKS (num (toB ns) 16 2) with
       |false=>rfl
       |true =>
        by_cases c6:num (toB ns) 18 2=0
        ·simp only[c6,decide_true,Bool.not_true,ne_eq,not_true_eq_false,JV,Bool.true_eq_false]
         have e:told ns=((HEAD+8*num (toB ns) 12 2+4*num (toB ns) 14 2+12*num (toB ns) 16 2:Nat):Int):=by
          unfold told HEAD
          rw[cV h,cV h,cV h]
          lia
         rw[e]
         by_cases c7:ns.length=HEAD+8*num (toB ns) 12 2+4*num (toB ns) 14 2+12*num (toB ns) 16 2
         ·rw[Gf (by lia),Gf (by lia)];rfl
         ·rw[Gk (by lia),Gk (by lia)];rfl
        ·simp[c6]
  ·rw[Gk (show ns.take 4≠jL from c2),Gk (show(toB ns).take 4≠MAGIC from λq=>c2 ((vo h).1 q))]
   rfl
def fS (p:Pt):List Int:=[(p.x:Int),(p.y:Int)]
def uM (l:Nat×Nat):List Int:=[(l.1:Int),(l.2:Int)]
def lN (m:Mark):List Int:=[(m.at_.x:Int),(m.at_.y:Int),(m.glass:Int),(m.painting:Int)]
def P_ (ns:List Int):Nat:=(rd ns 12 2).toNat
def L_ (ns:List Int):Nat:=(rd ns 14 2).toNat
def M_ (ns:List Int):Nat:=(rd ns 16 2).toNat
def kZ (ns:List Int):List (List Int):=(GE (P_ ns)).map λi=>[rd ns (20+8*i) 4,rd ns (20+8*i+4) 4]
def kU (ns:List Int):List (List Int):=(GE (L_ ns)).map λi=>[rd ns (20+8*P_ ns+4*i) 2,rd ns (20+8*P_ ns+4*i+2) 2]
def k8 (ns:List Int):List (List Int):=(GE (M_ ns)).map λi=>[rd ns (20+8*P_ ns+4*L_ ns+12*i) 4,rd ns (20+8*P_ ns+4*L_ ns+12*i+4) 4,rd ns (20+8*P_ ns+4*L_ ns+12*i+8) 2,rd ns (20+8*P_ ns+4*L_ ns+12*i+10) 2]
theorem Bz {ns:List Int}(h:Byt ns):P_ ns=num (toB ns) 12 2:=by unfold P_;rw[cV h];lia
theorem Df {ns:List Int}(h:Byt ns):L_ ns=num (toB ns) 14 2:=by unfold L_;rw[cV h];lia
theorem FO {ns:List Int}(h:Byt ns):M_ ns=num (toB ns) 16 2:=by unfold M_;rw[cV h];lia
theorem vH {ns:List Int}(h:Byt ns):kZ ns=(parts (toB ns)).pts.map fS:=by
 unfold kZ parts
 simp only[IP,Bz h]
 apply HP
 intro i _
 simp only[Function.comp,fS,HEAD,cV h]
theorem wM {ns:List Int}(h:Byt ns):kU ns=(parts (toB ns)).lines.map uM:=by
 unfold kU parts
 simp only[IP,Bz h,Df h]
 apply HP
 intro i _
 simp only[Function.comp,uM,HEAD,cV h]
theorem wq {ns:List Int}(h:Byt ns):k8 ns=(parts (toB ns)).marks.map lN:=by
 unfold k8 parts
 simp only[IP,Bz h,Df h,FO h]
 apply HP
 intro i _
 simp only[Function.comp,lN,HEAD,cV h]
end CM
end
section
namespace Wg
open PySem PySem.Spec PyProof.Rows L2
theorem aV {H0 H:Hp}{T:Gb}{o:HO}(s:ak H0 H)(h:H T=none):ak H0 (upd H T o):=λb u e=>by
 have e1:=s b u e
 rw[ap (aO e1 h)]
 exact e1
theorem aT {H0 H:Hp}{T:Gb}{o:HO}(s:ak H0 H)(h:H0 T=none):ak H0 (upd H T o):=λb u e=>by
 have e1:=s b u e
 rw[ap (aO e h)]
 exact e1
theorem aJ {H:Hp}{T:Gb}{o:HO}(h:H T=none):ak H (upd H T o):=aV (ak.refl H) h
theorem i4 {K:Hq}{H H':Hp}{a:Gb}{xs:List V}(e:ak H H')(h:SqT K H a xs):SqT K H' a xs:=by
 rcases h with(h|⟨o,h⟩)|h
 ·exact .inl (.inl (e _ _ h))
 ·exact .inl (.inr ⟨o,e _ _ h⟩)
 ·exact .inr h
section
variable  {K:Hq}{a b:Gb}{xs ys:List V}
theorem x8 {g:TG}{tt:TT}{te:TE}{vs:List Nat}{σ:L2.St}{H1:Hp}{D:Gb}{Qd:Hp->Prop}(Pv:Nat->Hp->Prop)(h0:Pv 0 (upd H1 D (.lst [])))
  (hl:∀i H,i<=min xs.length ys.length->Pv i H->SqL K H a xs/\SqL K H b ys)
  (hs:∀i x y T H,xs[i]? = some x->ys[i]? = some y->H T=none->Pv i H->g (.ref T) (b6 σ vs) (upd H T (.tup [x,y])) λσ2 H2=>b6 σ2 vs=b6 σ vs/\tt σ2 H2 λb H3 =>
   if b=true then te σ2 H3 λy H4=>∃acc,H4 D=some (.lst acc)/\acc.length<Ge/\Pv (i+1) (upd H4 D (.lst (acc++[y]))) else Pv (i+1) H3) (hd:∀H,Pv (min xs.length ys.length) H->Qd H) :
  ∃W:Nat->Nat->Hp->Prop,(∃m,W 0 m (upd H1 D (.lst [])))/\∀i m H,W i m H ->
   ((Itz K a b).stop i H/\Qd H)\/((Itz K a b).go i H/\∃Nx:Hp->Prop,(∀H',Nx H'->∃m',m'<m/\W (i+1) m' H')/\∀x H',(Itz K a b).yld i H x H'->g x (b6 σ vs) H' λσ2 H2=>b6 σ2 vs=b6 σ vs/\tt σ2 H2 λb H3 =>
    if b=true then te σ2 H3 λy H4=>∃acc,H4 D=some (.lst acc)/\acc.length<Ge/\Nx (upd H4 D (.lst (acc++[y]))) else Nx H3):=by
 refine⟨λi m H=>m=min xs.length ys.length-i/\i<=min xs.length ys.length/\Pv i H,⟨min xs.length ys.length,by simp,Hj _,h0⟩,?_⟩
 rintro i m H ⟨rfl,hi,p⟩
 obtain⟨q1,q2⟩:=hl i H hi p
 by_cases hlt:i<min xs.length ys.length
 ·have hx:i<xs.length:=by lia
  have hy:i<ys.length:=by lia
  refine .inr ⟨⟨xs,ys,xs[i],ys[i],q1,q2,by simp[hx],by simp[hy]⟩,Pv (i+1),λH' p'=>⟨min xs.length ys.length-(i+1),by lia,rfl,hlt,p'⟩,λx H' y=>?_⟩
  obtain⟨T,x1,y1,e1,e2,e3,e4,e5⟩:=y
  subst e1 e3
  exact hs i x1 y1 T H (e4 xs q1) (e5 ys q2) e2 p
 ·have e:i=min xs.length ys.length:=by lia
  subst e
  exact .inl ⟨⟨xs,ys,q1,q2,by lia⟩,hd H p⟩
theorem zB {g:TG}{tb:TS}{D:nE}{σ:L2.St}{H:Hp}(Pv:Nat->L2.St->Hp->Prop)(h0:Pv 0 σ H)(hl:∀i σ H,i<=min xs.length ys.length->Pv i σ H->SqL K H a xs/\SqL K H b ys)
  (hs:∀i x y T σ H,xs[i]? = some x->ys[i]? = some y->H T=none->Pv i σ H->g (.ref T) σ (upd H T (.tup [x,y])) λσ2 H2=>tb { D with nx:=Pv (i+1),ct:=Pv (i+1),bk:=D.nx } σ2 H2) (hd:∀σ H,Pv (min xs.length ys.length) σ H->D.nx σ H) :
  ∃W:Nat->Nat->L2.St->Hp->Prop,(∃m,W 0 m σ H)/\∀i m σ H,W i m σ H ->
   ((Itz K a b).stop i H/\D.nx σ H)\/((Itz K a b).go i H/\∃N:L2.St->Hp->Prop,(∀σ' H',N σ' H'->∃m',m'<m/\W (i+1) m' σ' H')/\∀x H',(Itz K a b).yld i H x H'->g x σ H' λσ2 H2=>tb { D with nx:=N,ct:=N,bk:=D.nx } σ2 H2):=by
 refine⟨λi m σ H=>m=min xs.length ys.length-i/\i<=min xs.length ys.length/\Pv i σ H,⟨min xs.length ys.length,by simp,Hj _,h0⟩,?_⟩
 rintro i m σ H ⟨rfl,hi,p⟩
 obtain⟨q1,q2⟩:=hl i σ H hi p
 by_cases hlt:i<min xs.length ys.length
 ·have hx:i<xs.length:=by lia
  have hy:i<ys.length:=by lia
  refine .inr ⟨⟨xs,ys,xs[i],ys[i],q1,q2,by simp[hx],by simp[hy]⟩,Pv (i+1),λσ' H' p'=>⟨min xs.length ys.length-(i+1),by lia,rfl,hlt,p'⟩,λx H' y=>?_⟩
  obtain⟨T,x1,y1,e1,e2,e3,e4,e5⟩:=y
  subst e1 e3
  exact hs i x1 y1 T σ H (e4 xs q1) (e5 ys q2) e2 p
 ·have e:i=min xs.length ys.length:=by lia
  subst e
  exact .inl ⟨⟨xs,ys,q1,q2,by lia⟩,hd σ H p⟩
theorem dr {g:TG}{tb:TS}{D:nE}{σ:L2.St}{H:Hp}(Pv:Nat->L2.St->Hp->Prop)(h0:Pv 0 σ H)(hl:∀i σ H,i<=xs.length->Pv i σ H->SqL K H a xs)
  (hs:∀i x T σ H,xs[i]? = some x->H T=none->Pv i σ H->g (.ref T) σ (upd H T (.tup [.int (i:Nat),x])) λσ2 H2=>tb { D with nx:=Pv (i+1),ct:=Pv (i+1),bk:=D.nx } σ2 H2) (hd:∀σ H,Pv xs.length σ H->D.nx σ H) :
  ∃W:Nat->Nat->L2.St->Hp->Prop,(∃m,W 0 m σ H)/\∀i m σ H,W i m σ H ->
   ((Ite K a).stop i H/\D.nx σ H)\/((Ite K a).go i H/\∃N:L2.St->Hp->Prop,(∀σ' H',N σ' H'->∃m',m'<m/\W (i+1) m' σ' H')/\∀x H',(Ite K a).yld i H x H'->g x σ H' λσ2 H2=>tb { D with nx:=N,ct:=N,bk:=D.nx } σ2 H2):=by
 refine⟨λi m σ H=>m=xs.length-i/\i<=xs.length/\Pv i σ H,⟨xs.length,by simp,Hj _,h0⟩,?_⟩
 rintro i m σ H ⟨rfl,hi,p⟩
 have q:=hl i σ H hi p
 by_cases hlt:i<xs.length
 ·refine .inr ⟨⟨xs,xs[i],q,by simp[hlt]⟩,Pv (i+1),λσ' H' p'=>⟨xs.length-(i+1),by lia,rfl,hlt,p'⟩,λx H' y=>?_⟩
  obtain⟨T,x1,e1,e2,e3,e4⟩:=y
  subst e1 e3
  exact hs i x1 T σ H (e4 xs q) e2 p
 ·have e:i=xs.length:=by lia
  subst e
  exact .inl ⟨⟨xs,q,nlr _⟩,hd σ H p⟩
theorem Ah {g:TG}{tt:TT}{te:TE}{vs:List Nat}{σ:L2.St}{H1:Hp}{D:Gb}{Qd:Hp->Prop}(Pv:Nat->Hp->Prop)(h0:Pv 0 (upd H1 D (.lst [])))
  (hl:∀i H,i<=xs.length->Pv i H->SqL K H a xs)
  (hs:∀i x T H,xs[i]? = some x->H T=none->Pv i H->g (.ref T) (b6 σ vs) (upd H T (.tup [.int (i:Nat),x])) λσ2 H2=>b6 σ2 vs=b6 σ vs/\tt σ2 H2 λb H3 =>
   if b=true then te σ2 H3 λy H4=>∃acc,H4 D=some (.lst acc)/\acc.length<Ge/\Pv (i+1) (upd H4 D (.lst (acc++[y]))) else Pv (i+1) H3) (hd:∀H,Pv xs.length H->Qd H) :
  ∃W:Nat->Nat->Hp->Prop,(∃m,W 0 m (upd H1 D (.lst [])))/\∀i m H,W i m H ->
   ((Ite K a).stop i H/\Qd H)\/((Ite K a).go i H/\∃Nx:Hp->Prop,(∀H',Nx H'->∃m',m'<m/\W (i+1) m' H')/\∀x H',(Ite K a).yld i H x H'->g x (b6 σ vs) H' λσ2 H2=>b6 σ2 vs=b6 σ vs/\tt σ2 H2 λb H3 =>
    if b=true then te σ2 H3 λy H4=>∃acc,H4 D=some (.lst acc)/\acc.length<Ge/\Nx (upd H4 D (.lst (acc++[y]))) else Nx H3):=by
 refine⟨λi m H=>m=xs.length-i/\i<=xs.length/\Pv i H,⟨xs.length,by simp,Hj _,h0⟩,?_⟩
 rintro i m H ⟨rfl,hi,p⟩
 have q:=hl i H hi p
 by_cases hlt:i<xs.length
 ·refine .inr ⟨⟨xs,xs[i],q,by simp[hlt]⟩,Pv (i+1),λH' p'=>⟨xs.length-(i+1),by lia,rfl,hlt,p'⟩,λx H' y=>?_⟩
  obtain⟨T,x1,e1,e2,e3,e4⟩:=y
  subst e1 e3
  exact hs i x1 T H (e4 xs q) e2 p
 ·have e:i=xs.length:=by lia
  subst e
  exact .inl ⟨⟨xs,q,nlr _⟩,hd H p⟩
end
def Has (K:Hq)(mg:Str->Option Value)(x:Str)(st:Iw)(ps:List Str):Prop:=∃f fd,Fun K x x st f fd/\(∀us:List Value,us.length=ps.length->bindArgs fd ⟨us,[]⟩=pure (ps.zip us))/\mg x=some (.ref f)
def Cb (P:GQ)(w:HJ)(K:Hq)(mg:Str->Option Value)(base:Heap)(k:Nat)(x:Str)(ps:List Str)(sp:Sp):Prop :=
 ∃f fd,jh P w K mg base CX0 k f fd ps sp/\iQ K fd ps []/\mg x=some (.ref f)/\Ir K (.ref f)=true/\∃o,K.lookup f=some o/\o.data=.func fd
section
variable  {P:GQ}{w:HJ}{K:Hq}{mg:Str->Option Value}{base:Heap}
theorem su {x:Str}{st:Iw}{f:Gb}{fd:JU}(F:Fun K x x st f fd):∃o,K.lookup f=some o/\o.data=.func fd:=by
 obtain⟨oc,od,kV,doc,pm,an,cdv,ct,osl,e,lk,_⟩:=F.ex
 exact⟨_,lk,by rw[e]⟩
theorem Has.cb {x:Str}{st:Iw}{N ps:List Str}{k:Nat}{sp:Sp}(F:Has K mg x st ps)(S:aq N ps (ag st))(len:∀vs H Q E,sp vs H Q E->vs.length=ps.length)
  (hbody:∀(f:Gb) (cdv:Value) (A:Around) (outer:List Env) (s:Ga) (H:Hp) (vs:List V) (Q:VK) (E:XK),br k (A.deeper (envOfC x (ag st) s.heap.objs.size f cdv))->sp vs H Q E ->
   ∃t,PSs (qe CX0 P w K mg base N x (ag st) f cdv A outer s H E).nox (bZ st) t/\t { nx:=λ_ H'=>Q .non H',rt:=Q } (start N vs) H):Cb P w K mg base (k+1) x ps sp:=by
 obtain⟨f,fd,h1,h2,h3⟩:=F
 exact⟨f,fd,h1.ok S len (hbody f),.all h2,h3,h1.kp,su h1⟩
theorem A9 {h:Heap}{x:Str}{st:Iw}{ps:List Str}{f:Gb}{oc:Value}{od an:Option Gb}{osl:Array (Option Value)}{kV doc pm cdv ct:Value}(X:K.In h)(G:h.Ns GX mg)
  (bind:∀(kV doc pm:Value) (an:Option Gb) (cdv ct:Value) (us:List Value),us.length=ps.length->bindArgs (IN x x (dh st) (bZ st) (ag st) .none kV doc pm an cdv ct) ⟨us,[]⟩=pure (ps.zip us))
  (a:PySem.W.nsIn K GX x=some (some (.ref f))) (l:K.lookup f=some ⟨oc,od,.func (IN x x (dh st) (bZ st) (ag st) .none kV doc pm an cdv ct),osl⟩)
  (c:J1 K cdv x=true) (kp:Ir K (.ref f)=true):Has K mg x st ps :=
 ⟨f,_,tS (st:=st) l c kp,bind kV doc pm an cdv ct,PySem.W.mg_of X G a⟩
theorem Has.top {x:Str}{st:Iw}{ps:List Str}{k:Nat}{sp:Sp}{fa:Gb}(F:Has K mg x st ps)(hfa:mg x=some (.ref fa))(C:∀base:Heap,K.In base->base.Ns GX mg->Cb P w K mg base k x ps sp) :
  ∃fd:JU,(∀(s:Ga) (us:List Value),us.length=ps.length->BindsTo s fd ⟨us,[]⟩ (ps.zip us))/\∀base:Heap,K.In base->base.Ns GX mg->jh P w K mg base CX0 k fa fd ps sp:=by
 obtain⟨f,fd,h1,h2,h3⟩:=F
 have e:fa=f:=by
  have q:=hfa.symm.trans h3
  injection q with q
  injection q
 subst e
 refine⟨fd,λs us hu=>.of_eq (h2 us hu),λbase kb nb=>?_⟩
 obtain⟨f',fd',g1,g2,g3,g4,o,g5,g6⟩:=C base kb nb
 have e':fa=f':=by
  have q:=h3.symm.trans g3
  injection q with q
  injection q
 subst e'
 obtain⟨o2,e5,e6⟩:=su h1
 rw[g5]at e5
 cases e5
 rw[g6]at e6
 injection e6 with e6
 rw[<-e6]
 exact g1
theorem Fd {h:Heap}{x:Str}{n:Int}{t:Tok}(X:K.In h)(G:h.Ns GX mg)(a:PySem.W.nsIn K GX x=some (some (.int n t))):∃t,mg x=some (.int n t):=⟨t,PySem.W.mg_of X G a⟩
end
theorem aB {X:Cx}{k:Nat}{x:Str}{ps:List Str}{sp:Sp}{p pos:Pos}{e:Expr}{es:List Expr}{t:TA}(C:Cb X.prog X.w X.K X.mg X.base k x ps sp)(hr:br k X.A)(ha:PA X (e :: es) t)(hg:Gl X x:=by rfl)
  (hdb:(x==("__debug__" : Str))=false:=by decide) (he:GM (e :: es) X.env=(false,JZ e X.env) :: GM es X.env:=by rfl) (hpl:(JC pos (GM es X.env)).any (·.1)=false:=by rfl) :
  PE X (.Call (.Name x p) (e :: es) [] pos) (iM sp [] E0 t):=by
 obtain⟨f,fd,h1,h2,h3,h4,_⟩:=C
 exact Aq h1 hr hg h3 h4 h2 .nil uH ha hdb he hpl
theorem bu {X:Cx}{x:Str}{n:Int}{pos:Pos}(hm:∃t,X.mg x=some (.int n t))(hg:Gl X x:=by rfl) (hd:(x==("__debug__" : Str))=false:=by decide):PE X (.Name x pos) (tC (.int n)):=by
 obtain⟨t,h⟩:=hm
 exact qO hg h ⟨t,rfl⟩ hd
theorem kD {σ:L2.St}{H:Hp}{Q:Bool->Hp->Prop}(h:Q true H):Do σ H Q:=h
abbrev g2 (K:Hq)(i j:Nat):TG:=EB K 2 (yg (pO i) (yg (pO j) D0))
abbrev iV (ns:List Int):List V:=ns.map V.int
def LI (K:Hq)(H:Hp)(a:Gb)(ns:List Int):Prop:=SqL K H a (iV ns)/\ns.length<=1000000
theorem LI.same {K:Hq}{H H':Hp}{a:Gb}{ns:List Int}(h:LI K H a ns)(s:ak H H'):LI K H' a ns:=⟨s.seq h.1,h.2⟩
theorem qE {n:Nat}(h:n<=1000000):n<=Ge:=GU h (by decide)
theorem a6 {n:Nat}(h:n<=1000000):n<Ge:=G8 h (by decide)
theorem ja {ns:List Int}{i:Nat}{v:V}(h:(iV ns)[i]? = some v):∃z,ns[i]? = some z/\v=.int z:=by
 rw[Gp]at h
 cases e:ns[i]? with
 |none=>rw[e]at h;cases h
 |some z=>rw[e]at h;exact⟨z,rfl,(osi h).symm⟩
theorem bE {α:Type}:∀{l:List α} {i:Nat} {x:α},l[i]? = some x->l.take (i+1)=l.take i++[x]
 |[],i,x,h=>by simp at h
 |a :: l,0,x,h=>by
  have e:a=x:=osi h
  subst e
  rfl
 |a :: l,i+1,x,h=>by
  have ih:=bE (l:=l) (i:=i) (x:=x) h
  show a :: l.take (i+1)=a :: l.take i++[x]
  rw[ih]
  rfl
theorem qB {α β:Type}{l:List α}{k:List β}{i:Nat}{x:α}{y:β}(h1:l[i]? = some x)(h2:k[i]? = some y):(l.zip k)[i]? = some (x,y):=by
 rw[List.getElem?_zip_eq_some]
 exact⟨h1,h2⟩
def LL (H:Hp)(p:Gb)(ls:List (List Int)):Prop:=∃as:List Gb,H p=some (.lst (as.map V.ref))/\as.length=ls.length/\∀(i:Nat) (a:Gb) (l:List Int),as[i]? = some a->ls[i]? = some l->H a=some (.lst (iV l))
end Wg
end
section
namespace Wx
open PySem PySem.Spec PyProof.Rows L2 Wg
def gI (a b:List Int):Bool:=HT.lexLt b a
def gO:List Int->List Int->Bool
 |[],[]=>true
 |[],_ :: _=>true
 |_ :: _,[]=>false
 |x :: xs,y :: ys=>if x=y then gO xs ys else decide (x<=y)
theorem jU (x y:Int)(xs ys:List Int):gI (x :: xs) (y :: ys)=if x=y then gI xs ys else decide (y<x):=by
 unfold gI
 rw[HT.lexLt_cons]
 by_cases h:x=y
 ·rw[Gk h,Gk h.symm]
 ·rw[Gf h,Gf (λq=>h q.symm)]
theorem jP (x y:Int)(xs ys:List Int):gO (x :: xs) (y :: ys)=if x=y then gO xs ys else decide (x<=y):=rfl
theorem xm (A:Around)(s:Ga)(a:Int)(t:Tok)(c:Int)(u:Tok)(prog:GQ)(w:HJ)(E:Value->Ga->Prop)(Q:Value->Ga->Prop)(h:Q (.bool (decide (c<a))) s) :
  GO (G4 prog w) A (richCompare .Gt (.int a t) (.int c u)) Q E s :=
 (PyProof.Rows.gt_int h:GO (G4 prog w) A (HI .Gt (.int a t) (.int c u)) Q E s)
theorem xZ (A:Around)(s:Ga)(a:Int)(t:Tok)(c:Int)(u:Tok)(prog:GQ)(w:HJ)(E:Value->Ga->Prop)(Q:Value->Ga->Prop)(h:Q (.bool (decide (a<=c))) s) :
  GO (G4 prog w) A (richCompare .LtE (.int a t) (.int c u)) Q E s :=
 (PyProof.Rows.le_int h:GO (G4 prog w) A (HI .LtE (.int a t) (.int c u)) Q E s)
section
open PySem.SeqAt
open PySem.AutoSeq1 (wpAny_loadPart')
open PySem.MeetsSeq PySem.MeetsSeq2 PySem.MeetsSeq3
theorem oz (l b:Gb)(items items2:Array Value)(n n2:Nat)(dd dd2:Option Gb)(sl sl2:Array (Option Value))(ns ms:List Int)(hi:JB items.toList ns)(hj:JB items2.toList ms) :
  Meets (Builtin.«tuple.__gt__» ⟨[.ref l,.ref b],[]⟩)
   (λ_ R s=>s.heap.get? l=some { cls:=.type "tuple",dict:=dd,data:=.seq items n,slots:=sl }/\s.heap.get? b=some { cls:=.type "tuple",dict:=dd2,data:=.seq items2 n2,slots:=sl2 } /\
    R (.ok (.ret (.bool (gI ns ms)))) s) :=
 .of_wp λprog w A R s h=>by
  obtain⟨hp,g,d,tk,os⟩:=s;obtain⟨hl,hb,h⟩:=h
  have f2:=AutoSeq1.sub_tuple_tuple
  have z1:items.size=ns.length:=by rw[<-hi.length];simp
  have z2:items2.size=ms.length:=by rw[<-hj.length];simp
  wp_walk using JG hl,JG hb,wpAny_forIn_list _ (λhG b s'=>b.1=none/\s'=⟨hp,g,d,tk,os⟩/\∃(vs ws:List Value) (ns' ms':List Int),hG=vs.zip ws /\
   JB vs ns'/\JB ws ms'/\ns'.length+items2.size=ms'.length+items.size/\R (.ok (.ret (.bool (gI ns' ms')))) ⟨hp,g,d,tk,os⟩) _
  case turn =>
   rintro⟨y,x⟩ hG b s' ⟨hb',rfl,vs,ws,ns',ms',hz,hvi,hwi,hlen,hR⟩
   cases hvi with
   |nil=>rw[List.zip_nil_left]at hz;cases hz
   |cons a t hvi' =>
    cases hwi with
    |nil=>rw[List.zip_nil_right]at hz;cases hz
    |cons c u hwi' =>
     rw[IC]at hz
     injection hz with hyx hrest
     injection hyx with hy hx
     subst hy hx
     rw[jU]at hR
     simp only[GL]at hlen
     obtain⟨e,he,hiff⟩:=HT.eqAt_int A.in1 ⟨hp,g,d,tk,os⟩ a t c u
     refine FZ (he prog w _ _ ?_)
     cases e with
     |true =>
      rw[Gk (hiff.mp rfl)]at hR
      wp_walk
      exact⟨rfl,rfl,_,_,_,_,hrest,hvi',hwi',by lia,hR⟩
     |false =>
      rw[Gf (λq=>absurd (hiff.mpr q) Go)]at hR
      have hri:=xm A.in1 ⟨hp,g,d,tk,os⟩ a t c u prog w
      wp_walk using hri
      exact⟨_,rfl,by simpa using hR⟩
  case fin =>
   rintro⟨b1,b2⟩ s' ⟨hb',rfl,vs,ws,ns',ms',hz,hvi,hwi,hlen,hR⟩
   simp only at hb'
   subst hb'
   have hv:gI ns' ms'=decide (items2.size<items.size):=by
    cases hvi with
    |nil =>
     cases hwi with
     |nil =>
      simp only[Jl]at hlen
      show HT.lexLt [] []=_
      rw[HT.lexLt_nil_nil]
      exact(dqf (by lia)).symm
     |cons c u hw =>
      simp only[Jl,GL]at hlen
      show HT.lexLt (_ :: _) []=_
      rw[HT.lexLt_cons_nil]
      exact(dqf (by lia)).symm
    |cons a t hv =>
     cases hwi with
     |nil =>
      simp only[Jl,GL]at hlen
      show HT.lexLt [] (_ :: _)=_
      rw[HT.lexLt_nil_cons]
      exact(dqt (by lia)).symm
     |cons c u hw =>
      rw[IC]at hz
      cases hz
   rw[hv]at hR
   wp_walk
   exact⟨_,rfl,by simpa [Builtin.Tuple.tupleCompareSizes] using hR⟩
  case h =>
   exact⟨rfl,rfl,items.toList,items2.toList,ns,ms,rfl,hi,hj,by lia,h⟩
theorem oA (l b:Gb)(items items2:Array Value)(n n2:Nat)(dd dd2:Option Gb)(sl sl2:Array (Option Value))(ns ms:List Int)(hi:JB items.toList ns)(hj:JB items2.toList ms) :
  Meets (Builtin.«tuple.__le__» ⟨[.ref l,.ref b],[]⟩)
   (λ_ R s=>s.heap.get? l=some { cls:=.type "tuple",dict:=dd,data:=.seq items n,slots:=sl }/\s.heap.get? b=some { cls:=.type "tuple",dict:=dd2,data:=.seq items2 n2,slots:=sl2 } /\
    R (.ok (.ret (.bool (gO ns ms)))) s) :=
 .of_wp λprog w A R s h=>by
  obtain⟨hp,g,d,tk,os⟩:=s;obtain⟨hl,hb,h⟩:=h
  have f2:=AutoSeq1.sub_tuple_tuple
  have z1:items.size=ns.length:=by rw[<-hi.length];simp
  have z2:items2.size=ms.length:=by rw[<-hj.length];simp
  wp_walk using JG hl,JG hb,wpAny_forIn_list _ (λhG b s'=>b.1=none/\s'=⟨hp,g,d,tk,os⟩/\∃(vs ws:List Value) (ns' ms':List Int),hG=vs.zip ws /\
   JB vs ns'/\JB ws ms'/\ns'.length+items2.size=ms'.length+items.size/\R (.ok (.ret (.bool (gO ns' ms')))) ⟨hp,g,d,tk,os⟩) _
  case turn =>
   rintro⟨y,x⟩ hG b s' ⟨hb',rfl,vs,ws,ns',ms',hz,hvi,hwi,hlen,hR⟩
   cases hvi with
   |nil=>rw[List.zip_nil_left]at hz;cases hz
   |cons a t hvi' =>
    cases hwi with
    |nil=>rw[List.zip_nil_right]at hz;cases hz
    |cons c u hwi' =>
     rw[IC]at hz
     injection hz with hyx hrest
     injection hyx with hy hx
     subst hy hx
     rw[jP]at hR
     simp only[GL]at hlen
     obtain⟨e,he,hiff⟩:=HT.eqAt_int A.in1 ⟨hp,g,d,tk,os⟩ a t c u
     refine FZ (he prog w _ _ ?_)
     cases e with
     |true =>
      rw[Gk (hiff.mp rfl)]at hR
      wp_walk
      exact⟨rfl,rfl,_,_,_,_,hrest,hvi',hwi',by lia,hR⟩
     |false =>
      rw[Gf (λq=>absurd (hiff.mpr q) Go)]at hR
      have hri:=xZ A.in1 ⟨hp,g,d,tk,os⟩ a t c u prog w
      wp_walk using hri
      exact⟨_,rfl,by simpa using hR⟩
  case fin =>
   rintro⟨b1,b2⟩ s' ⟨hb',rfl,vs,ws,ns',ms',hz,hvi,hwi,hlen,hR⟩
   simp only at hb'
   subst hb'
   have hv:gO ns' ms'=decide (items.size<=items2.size):=by
    cases hvi with
    |nil =>
     cases hwi with
     |nil =>
      simp only[Jl]at hlen
      exact(dqt (by lia)).symm
     |cons c u hw =>
      simp only[Jl,GL]at hlen
      exact(dqt (by lia)).symm
    |cons a t hv =>
     cases hwi with
     |nil =>
      simp only[Jl,GL]at hlen
      exact(dqf (by lia)).symm
     |cons c u hw =>
      rw[IC]at hz
      cases hz
   rw[hv]at hR
   wp_walk
   exact⟨_,rfl,by simpa [Builtin.Tuple.tupleCompareSizes] using hR⟩
  case h =>
   exact⟨rfl,rfl,items.toList,items2.toList,ns,ms,rfl,hi,hj,by lia,h⟩
end
section
variable  {prog:GQ}{w:HJ}{A:Around}{E:Value->Ga->Prop}{s:Ga}
theorem tD {l b:Gb}{items items2:Array Value}{ns ms:List Int}{Q:Value->Ga->Prop}(hl:IsTup s.heap l items)(hb:IsTup s.heap b items2)(hi:JB items.toList ns)(hj:JB items2.toList ms)
  (hu:A.units<cLine) (h:Q (.bool (gI ns ms)) s):GO (G4 prog w) A (HI .Gt (.ref l) (.ref b)) Q E s:=by
 obtain⟨⟨cls,dd,data,sl⟩,ho,hc,n,hd⟩:=id hl
 obtain⟨⟨cls2,dd2,data2,sl2⟩,ho2,hc2,n2,hd2⟩:=id hb
 simp only at hc hd hc2 hd2
 subst hc hd hc2 hd2
 exact richCompare_meets_room (op:=.Gt) ⟨_,ho,rfl⟩ ⟨_,ho2,rfl⟩ PySem.F.slot_tuple_gt PySem.F.entry_tuple_gt (PySem.F.args_tuple_gt_2 _ _) (oz l b items items2 n n2 dd dd2 sl sl2 ns ms hi hj)
  ⟨ho,ho2,show Value.bool (gI ns ms)≠Value.notImplemented/\Q (.bool (gI ns ms)) s from⟨(λx=>nomatch x),h⟩⟩ hu
theorem tM {l b:Gb}{items items2:Array Value}{ns ms:List Int}{Q:Value->Ga->Prop}(hl:IsTup s.heap l items)(hb:IsTup s.heap b items2)(hi:JB items.toList ns)(hj:JB items2.toList ms)
  (hu:A.units<cLine) (h:Q (.bool (gO ns ms)) s):GO (G4 prog w) A (HI .LtE (.ref l) (.ref b)) Q E s:=by
 obtain⟨⟨cls,dd,data,sl⟩,ho,hc,n,hd⟩:=id hl
 obtain⟨⟨cls2,dd2,data2,sl2⟩,ho2,hc2,n2,hd2⟩:=id hb
 simp only at hc hd hc2 hd2
 subst hc hd hc2 hd2
 exact richCompare_meets_room (op:=.LtE) ⟨_,ho,rfl⟩ ⟨_,ho2,rfl⟩ PySem.F.slot_tuple_le PySem.F.entry_tuple_le (PySem.F.args_tuple_le_2 _ _) (oA l b items items2 n n2 dd dd2 sl sl2 ns ms hi hj)
  ⟨ho,ho2,show Value.bool (gO ns ms)≠Value.notImplemented/\Q (.bool (gO ns ms)) s from⟨(λx=>nomatch x),h⟩⟩ hu
end
section
variable  {X:Cx}
def Fg (K:Hq):R2:=λx y H Q=>∃a b ns ms,x=.ref a/\y=.ref b/\SqT K H a (ns.map V.int)/\SqT K H b (ms.map V.int)/\Q (.bl (gI ns ms)) H
theorem BN (hu:X.A.units<cLine):OpR X (HI .Gt) (Fg X.K):=by
 intro pins s σ H x y v u Q I rx ry h
 obtain⟨a,b,ns,ms,rfl,rfl,ha,hb,q⟩:=h
 cases rx
 cases ry
 obtain⟨its,r1,p1,_⟩:=I.tuple ha
 obtain⟨its2,r2,p2,_⟩:=I.tuple hb
 have i1:JB its.toArray.toList ns:=iq r1
 have i2:JB its2.toArray.toList ms:=iq r2
 exact tD p1 p2 i1 i2 hu ⟨.bl (gI ns ms),H,I,rfl,q⟩
def DK (K:Hq):R2:=λx y H Q=>∃a b ns ms,x=.ref a/\y=.ref b/\SqT K H a (ns.map V.int)/\SqT K H b (ms.map V.int)/\Q (.bl (gO ns ms)) H
theorem BG (hu:X.A.units<cLine):OpR X (HI .LtE) (DK X.K):=by
 intro pins s σ H x y v u Q I rx ry h
 obtain⟨a,b,ns,ms,rfl,rfl,ha,hb,q⟩:=h
 cases rx
 cases ry
 obtain⟨its,r1,p1,_⟩:=I.tuple ha
 obtain⟨its2,r2,p2,_⟩:=I.tuple hb
 have i1:JB its.toArray.toList ns:=iq r1
 have i2:JB its2.toArray.toList ms:=iq r2
 exact tM p1 p2 i1 i2 hu ⟨.bl (gO ns ms),H,I,rfl,q⟩
theorem wT:OpR X (binaryOp .FloorDiv) (rI (λ_ j=>0<j/\j<2 ^ 64) λi j=>.int (i / j)):=opI λi j _ _ _ _ _ hc q=>by
 have h1:(0:Int)<j:=hc.1
 have h2:j<2 ^ 64:=hc.2
 refine floordiv_int (by lia) (by rw[Int.fdiv_eq_ediv_of_nonneg i (by lia)];exact q) (.inl (PyProof.noPylong_of_log2 ?_))
 have:j.natAbs<2 ^ 64:=by lia
 have h3:=(Nat.log2_lt (by lia:j.natAbs≠0)).2 this
 lia
def uI:V->List V->Hp->VK->Prop:=λx vs H Q=>∃(l:Gb) (xs:List V) (k:Int) (y:V),x=.ref l/\vs=[.int k,y]/\H l=some (.lst xs)/\0<=k/\k<=(xs.length:Int)/\xs.length<Ge/\Q .non (upd H l (.lst (xs.take k.toNat++y :: xs.drop k.toNat)))
theorem vw:MtM X "list.insert" uI:=by
 intro pins s σ H x vs v us Q I rx rv h
 obtain⟨l,xs,k,y,rfl,rfl,hH,k0,hk,hz,q⟩:=h
 cases rx
 obtain⟨u1,u2,rfl,ru1,ru2⟩:=rv.two
 obtain⟨t,rfl⟩:=ru1
 obtain⟨z,its,n,r,hl,e⟩:=I.lstM hH
 have hsl:=sizeLine_eq
 have hfit:¬(!Builtin.List.listFitsIndex k)=true:=by
  rw[hsl]at hz
  have k1:-(2 ^ 63)<=k:=by lia
  have k2:k<2 ^ 63:=by lia
  have:Builtin.List.listFitsIndex k=true:=fitsIndex_both k1 k2
  rw[this]
  decide
 have hs1:its.toArray.size<=Ge:=by rw[Gm];lia
 have M:=AutoSeq1.list_insert_list_int_val_1 l its.toArray n k t u2 hfit hs1
 refine call_meets F.slot_list_insert ⟨_,e,rfl⟩ F.entry_list_insert (F.args_list_insert_3 _ _ _) M ⟨e,?_⟩
 refine⟨.non,_,I.lset (its':=its.take k.toNat++u2 :: its.drop k.toNat) hH e ?_ ((r.take k.toNat).append (.cons ru2 (r.drop k.toNat))) ?_,rfl,q⟩
 ·have hk2:k.toNat<=its.length:=by lia
  dsimp only
  rw[Gf (by lia),Gm,GH hk2]
  apply Array.ext'
  simp
  rw[HH (by rw[GN];exact nlr _)]
 ·rw[Gd,GY,GL,GN]
  lia
def vg (K:Hq):V->List V->Hp->VK->Prop:=λx vs H Q=>∃(a:Gb) (bs:List Bool) (b:Bool),x=.ref a/\vs=[.bl b]/\SqL K H a (bs.map V.bl)/\Q (.int (bs.count b:Nat)) H
theorem jC (b:Bool):∀bs:List Bool,countIn (.bool b) (bs.map PyData.bool)=((bs.count b:Nat):Int)
 |[]=>rfl
 |c :: bs=>by
  rw[Gw,countIn,jC b bs,List.count_cons]
  cases b<;>cases c<;>simp[same]<;>lia
theorem lV {hp:Heap}:∀bs:List Bool,∃as,ReadsAll hp (bs.map Value.bool) (bs.map PyData.bool) as
 |[]=>⟨_,ReadsAll.nil⟩
 |b :: bs=>by
  obtain⟨as,h⟩:=lV (hp:=hp) bs
  exact⟨_,ReadsAll.cons (Reads.bool b) h⟩
theorem wN:MtR X "list.count" (vg X.K):=by
 intro pins s σ H x vs v us Q I rx rv h
 obtain⟨a,bs,b,rfl,rfl,hs,q⟩:=h
 cases rx
 obtain⟨u,rfl,ru⟩:=rv.one
 cases ru
 obtain⟨its,r,pl,_⟩:=I.list hs
 have e:its=bs.map Value.bool:=r.bls
 subst e
 obtain⟨as,ra⟩:=lV (hp:=s.heap) bs
 refine count_list_bools pl.isList ra (by simp[Shape.has]) ⟨.int _,H,I.tok _,⟨s.toks,?_⟩,q⟩
 rw[jC]
def At (K:Hq):R2:=λx y H Q=>∃(b p:Gb) (r:List Int) (as:List Gb) (rows:List (List Int)),x=.ref b/\y=.ref p/\SqT K H b (iV r)/\SqL K H p (as.map V.ref)/\as.length=rows.length/\(∀(i:Nat) (a:Gb) (q:List Int),as[i]? = some a->rows[i]? = some q->SqT K H a (iV q)) /\
 Q (.bl (!decide (r∈rows))) H
theorem fR {K:Hq}{H:Hp}:∀r:List Int,lC K H (iV r) (r.map G9)
 |[]=>.nil
 |i :: r=>.cons (.int i) (fR r)
theorem iY:∀(r q:List Int),PyData.eqvAll (r.map G9) (q.map G9)=decide (r=q)
 |[],[]=>by simp[PyData.eqvAll]
 |[],_ :: _=>by simp[PyData.eqvAll]
 |_ :: _,[]=>by simp[PyData.eqvAll]
 |a :: r,b :: q=>by
  rw[Gw,Gw,PyData.eqvAll,iY r q,PyData.eqv]
  rw[G0]
  simp
theorem gk:∀r:List Int,JY (r.map G9)=true
 |[]=>rfl
 |a :: r=>by
  show(PyData.canLay0 (.int a)&&JY (r.map G9))=true
  rw[gk r]
  rfl
theorem jI:∀r:List Int,PyData.depthAll (r.map G9)<=1
 |[]=>Hj _
 |a :: r=>by
  show max (PyData.depth (.int a)) (PyData.depthAll (r.map G9))<=1
  refine Nat.max_le.2 ⟨?_,jI r⟩
  first|exact Hj _|exact nlr _|simp[PyData.depth]
theorem sR (r:List Int):∀rows:List (List Int),((rows.map λq=>JL (q.map G9)).any λy=>PyData.eqv y (.tuple (r.map G9)))=decide (r∈rows)
 |[]=>by simp
 |q :: rows=>by
  rw[Gw,List.any_cons,sR r rows]
  show(PyData.eqvAll (q.map G9) (r.map G9)||_)=_
  rw[iY,G0]
  simp only[Iz,Gj,Gh]
  constructor
  ·rintro(h|h)
   ·exact HZ h.symm
   ·exact Hr h
  ·rintro(h|h)
   ·exact HZ h.symm
   ·exact Hr h
theorem so:∀rows:List (List Int),JY (rows.map λq=>JL (q.map G9))=true
 |[]=>rfl
 |q :: rows=>by
  show(JY (q.map G9)&&JY (rows.map λq=>JL (q.map G9)))=true
  rw[so rows,gk q]
  rfl
theorem vd {K:Hq}{H:Hp}:∀(as:List Gb) (rows:List (List Int)),as.length=rows.length->(∀(i:Nat) (a:Gb) (q:List Int),as[i]? = some a->rows[i]? = some q->SqT K H a (iV q))->lC K H (as.map V.ref) (rows.map λq=>JL (q.map G9))
 |[],[],_,_=>.nil
 |[],_ :: _,h,_=>by simp at h
 |_ :: _,[],h,_=>by simp at h
 |a :: as,q :: rows,h,hat=>.cons (.tup (hat 0 a q rfl rfl) (fR q)) (vd as rows (by simpa using h) λi b r e1 e2=>hat (i+1) b r (by simpa using e1) (by simpa using e2))
theorem vF (hu:X.A.units+64<cLine):OpR X (HI .NotIn) (At X.K):=by
 intro pins s σ H x y v u Q I rx ry h
 obtain⟨b,p,r,as,rows,rfl,rfl,hb,hp,hlen,hat,q⟩:=h
 obtain⟨bs,rb⟩:=Dp.reads I (.tuple (r.map G9)) (.ref b) v (.tup hb (fR r)) rx
 obtain⟨cs,rc⟩:=Dp.reads I (.list (rows.map λq=>JL (q.map G9))) (.ref p) u (.lst hp (vd as rows hlen hat)) ry
 refine SeqAt.notIn_list_reads rc rb (so rows) (gk r) ?_ ⟨.bl _,H,I,rfl,?_⟩
 ·have h1:(JL (r.map G9)).depth<=2:=by
   show PyData.depthAll (r.map G9)+1<=2
   have:=jI r
   lia
  have h2:=Nat.min_le_right (PyData.depthAll (rows.map λq=>JL (q.map G9))) (JL (r.map G9)).depth
  lia
 ·rw[sR]
  exact q
end
theorem ku {M:Model}{A:Around}{E:Value->Ga->Prop}{s:Ga}{a:Gb}{Q:Option Obj->Ga->Prop}(h:Q (s.heap.get? a) s):GO M A (loadIfAlive a) Q E s:=by
 intro Γ p hΓ
 show Sem.wp _ Γ (loadIfAlive a) _ _ p s
 unfold loadIfAlive
 rw[Sem.wp_loadIfAlive]
 first
  |exact h
  |(rw[Sem.wp_pure];exact h)
  |simpa using h
abbrev fF (h:Heap)(e it:Gb)(i:Int)(T:Gb)(b:Bool)(old:Value):Prop :=
 h.get? e=some { cls:=.type "enumerate",dict:=none,data:=.fields #[rawInt ((T:Nat):Int),.bool b,.ref it,rawInt i,.none,old],slots:=#[] }
section
variable  {prog:GQ}{w:HJ}{A:Around}{E:Value->Ga->Prop}{s:Ga}
theorem jA {e it l T:Gb}{b:Bool}{i:Nat}{items:Array Value}{x old:Value}{oT:Obj}{Q:Value->Ga->Prop}
  (he:fF s.heap e it i T b old) (hT:s.heap.get? T=some oT) (hTe:T≠e) (hTi:T≠it) (hit:s.heap.IsListIter it l i) (hl:s.heap.IsList l items) (hx:items[i]? = some x) (hne:e≠it)
  (hQ:∀h',fF h' e it ((i:Int)+1) T true old->h'.IsListIter it l (i+1) ->
   h'.get? s.heap.objs.size=some { cls:=.type "tuple",data:=.seq #[.int i s.toks,x] }->h'.objs.size=s.heap.objs.size+1 ->
   (∀b o,b≠e->b≠it->s.heap.get? b=some o->h'.get? b=some o)->Q (.ref s.heap.objs.size) { s with heap:=h',toks:=s.toks+1 }) :
  GO (G4 prog w) A (Builtin.«enumerate.__next__» ⟨[.ref e],[]⟩) (λfin s'=>∃v,fin=.done (.ret v)/\Q v s') E s:=by
 obtain⟨hp,g,d,tk,os⟩:=s
 show GO _ _ (field (.ref e) 2 >>= _) _ _ _
 refine FZ (wpAny_field he rfl (x:=.ref it) rfl ?_)
 refine FZ (wpAny_nextOf_list_item hit hl hx λh₁ hit₁ hs₁=>?_)
 replace hs₁:Heap.SameBut it hp h₁:=hs₁
 have he₁:fF h₁ e it i T b old:=(hs₁.2 e hne).trans he
 show GO _ _ (field (.ref e) 3 >>= _) _ _ ⟨h₁,g,d,tk,os⟩
 refine FZ (wpAny_field he₁ rfl (x:=rawInt i) rfl ?_)
 show GO _ _ (field (.ref e) 4 >>= _) _ _ ⟨h₁,g,d,tk,os⟩
 refine FZ (wpAny_field he₁ rfl (x:=.none) rfl ?_)
 show GO _ _ (mkInt i >>= _) _ _ ⟨h₁,g,d,tk,os⟩
 refine FZ (wpAny_mkInt ?_)
 show GO _ _ (setField (.ref e) 3 (rawInt ((i:Int)+1)) >>= _) _ _ ⟨h₁,g,d,tk+1,os⟩
 refine FZ (wpAny_setField_rec he₁ (by simp) λh₂ he₂ hs₂=>?_)
 replace hs₂:Heap.SameBut e h₁ h₂:=hs₂
 replace he₂:fF h₂ e it ((i:Int)+1) T b old:=he₂
 show GO _ _ (setField (.ref e) 4 .none >>= _) _ _ ⟨h₂,g,d,tk+1,os⟩
 refine FZ (wpAny_setField_rec he₂ (by simp) λh₃ he₃ hs₃=>?_)
 replace hs₃:Heap.SameBut e h₂ h₃:=hs₃
 replace he₃:fF h₃ e it ((i:Int)+1) T b old:=he₃
 show GO _ _ (newTuple [.int i tk,x] >>= _) _ _ ⟨h₃,g,d,tk+1,os⟩
 refine FZ (wpAny_newTuple ?_)
 have he₄:fF (h₃.push { cls:=.type "tuple",data:=.seq #[.int i tk,x] }) e it ((i:Int)+1) T b old:=Gn _ he₃
 generalize hh₄:h₃.push { cls:=.type "tuple",data:=.seq #[.int i tk,x] }=h₄ at he₄
 have hsz:h₃.objs.size=hp.objs.size:=by rw[hs₃.1,hs₂.1,hs₁.1]
 have hel:e<hp.objs.size:=Gq he
 have ht₄:h₄.get? hp.objs.size=some { cls:=.type "tuple",data:=.seq #[.int i tk,x] }:=by rw[<-hh₄,<-hsz];exact GF _ rfl
 have hz₄:h₄.objs.size=hp.objs.size+1:=by rw[<-hh₄,HC,hsz]
 have hk₄:∀b o,b≠e->b≠it->hp.get? b=some o->h₄.get? b=some o:=λb o hbe hbi hb=>by
  rw[<-hh₄];exact Gn _ (hs₃.extBut b o hbe (hs₂.extBut b o hbe (hs₁.extBut b o hbi hb)))
 have hT₄:h₄.get? T=some oT:=hk₄ T oT hTe hTi hT
 have hit₄:h₄.IsListIter it l (i+1):=by
  rw[<-hh₄];obtain⟨o,ho,r⟩:=(hit₁.extBut hs₂.extBut (GJ hne)).extBut hs₃.extBut (GJ hne);exact⟨o,Gn _ ho,r⟩
 show GO _ _ (J8 (.ref e) >>= _) _ _ ⟨h₄,g,d,tk+1,os⟩
 rw[hsz]
 clear hh₄ he₃ hs₃ he₂ hs₂ he₁ hs₁ hit₁ hsz h₃ h₂ h₁
 refine FZ ?_
 unfold J8
 refine FZ (wpAny_field he₄ rfl (x:=rawInt ((T:Nat):Int)) rfl ?_)
 show GO _ _ (loadIfAlive ((T:Nat):Int).toNat >>= _) _ _ ⟨h₄,g,d,tk+1,os⟩
 rw[HD]
 refine FZ (ku ?_)
 show GO _ _ (if (Option.isNone (h₄.get? T))=true then _ else _) _ _ ⟨h₄,g,d,tk+1,os⟩
 rw[hT₄,Gf (show ¬(Option.isNone (some oT))=true from Go)]
 have fin:∀h₅,fF h₅ e it ((i:Int)+1) T true old->(∀b o,b≠e->h₄.get? b=some o->h₅.get? b=some o)->h₅.objs.size=h₄.objs.size ->
   ∃v,Fin.done (Flow.ret (GZ hp.objs.size))=Fin.done (Flow.ret v)/\Q v ⟨h₅,g,d,tk+1,os⟩:=λh₅ he₅ k5 z5=>by
  refine⟨_,rfl,hQ h₅ he₅ ?_ (k5 _ _ (Ix hel) ht₄) (by rw[z5,hz₄]) λb o hbe hbi hb=>k5 b o hbe (hk₄ b o hbe hbi hb)⟩
  obtain⟨o,ho,r⟩:=hit₄
  exact⟨o,k5 it o (GJ hne) ho,r⟩
 refine FZ (wpAny_field he₄ rfl (x:=.bool b) rfl ?_)
 cases b with
 |true =>
  show GO _ _ (pure false) _ _ ⟨h₄,g,d,tk+1,os⟩
  refine Gz ?_
  show GO _ _ (pure (Fin.done (Flow.ret (GZ hp.objs.size)))) _ _ ⟨h₄,g,d,tk+1,os⟩
  exact Gz (fin h₄ he₄ (λ_ _ _ q=>q) rfl)
 |false =>
  show GO _ _ (setField (.ref e) 1 (.bool true) >>= λ_=>pure false) _ _ ⟨h₄,g,d,tk+1,os⟩
  refine FZ (wpAny_setField_rec he₄ (by simp) λh₅ he₅ hs₅=>?_)
  replace hs₅:Heap.SameBut e h₄ h₅:=hs₅
  replace he₅:fF h₅ e it ((i:Int)+1) T true old:=he₅
  refine Gz ?_
  show GO _ _ (pure (Fin.done (Flow.ret (GZ hp.objs.size)))) _ _ ⟨h₅,g,d,tk+1,os⟩
  exact Gz (fin h₅ he₅ (λb o hb q=>hs₅.extBut b o hb q) hs₅.1)
end
theorem sP:typeLookup (.type "enumerate") "__len__"=pure none:=by rw[typeLookup_type,builtinLookup_eq_fast];kernel_rfl
theorem qM:typeLookup (.type "enumerate") "__length_hint__"=pure none:=by rw[typeLookup_type,builtinLookup_eq_fast];kernel_rfl
theorem mL:IM "list"=some (.type "list"):=by decide +kernel
def zh (h:Heap)(e it S:Gb)(i:Nat):Prop:=(i=0/\∃old,IsEnum h e it 0 old)\/∃T b old,fF h e it i T b old/\(∃o,h.get? T=some o)/\T≠e/\T≠it/\T≠S
def Prs (h:Heap)(items:Array Value)(B e it S:Gb)(ts:List Gb):Prop:=∀(j:Nat) (t:Gb),ts[j]? = some t->B<=t/\t≠e/\t≠it/\t≠S/\∃tok x,items[j]? = some x/\h.get? t=some { cls:=.type "tuple",data:=.seq #[.int j tok,x] }
section
variable  {prog:GQ}{w:HJ}{A:Around}{E:Value->Ga->Prop}{s:Ga}
theorem vU {e it l S:Gb}{i:Nat}{items:Array Value}{x:Value}{Q:Option Value->Ga->Prop}
  (he:zh s.heap e it S i) (hit:s.heap.IsListIter it l i) (hl:s.heap.IsList l items) (hx:items[i]? = some x) (hne:e≠it) (hS:S<s.heap.objs.size)
  (hQ:∀h',zh h' e it S (i+1)->h'.IsListIter it l (i+1) ->
   h'.get? s.heap.objs.size=some { cls:=.type "tuple",data:=.seq #[.int i s.toks,x] }->h'.objs.size=s.heap.objs.size+1 ->
   (∀b o,b≠e->b≠it->s.heap.get? b=some o->h'.get? b=some o)->Q (some (.ref s.heap.objs.size)) { s with heap:=h',toks:=s.toks+1 }) :
  GO (G4 prog w) A (pyNext (.ref e)) Q E s:=by
 rcases he with⟨rfl,old,he⟩|⟨T,b,old,he,⟨o,hT⟩,hTe,hTi,hTS⟩
 ·have hel:e<s.heap.objs.size:=Gq he
  have hil:it<s.heap.objs.size:=by obtain⟨_,q,_⟩:=hit;exact Gq q
  refine wpAny_pyNext_enum_item he hit hl hx hne λh' ho hit' hT hsz hk=>hQ h' (Hr ⟨s.heap.objs.size,false,x,?_,⟨_,hT⟩,Ix hel,Ix hil,Ix hS⟩) hit' hT hsz hk
  exact ho
 ·have hT':s.TypeIs (.ref e) "enumerate":=⟨_,he,rfl⟩
  unfold pyNext
  refine FZ (wpAny_attempt (Ju (name:=Str.ofString "__next__") hT' JM
   (Jw JM hT' F.entry_enumerate_next
    (jA he hT hTe hTi hit hl hx hne λh' a b c d k=>Gz (hQ h' (Hr ⟨T,true,old,?_,⟨o,k T o hTe hTi hT⟩,hTe,hTi,hTS⟩) b c d k)) (F.args_enumerate_next_1 _))))
  have e1:((i+1:Nat):Int)=(i:Int)+1:=by lia
  rw[e1];exact a
theorem p7 {e it l S:Gb}{i:Nat}{items:Array Value}{Q:Option Value->Ga->Prop}(hh:A.handled=none)
  (he:zh s.heap e it S i) (hit:s.heap.IsListIter it l i) (hl:s.heap.IsList l items) (hx:items[i]? = none)
  (hQ:∀h',Heap.ExtBut it s.heap h'->Q none { s with heap:=h' }):GO (G4 prog w) A (pyNext (.ref e)) Q E s:=by
 have go:∀(f0 f1 fi fx:Value),s.heap.get? e=some { cls:=.type "enumerate",dict:=none,data:=.fields #[f0,f1,.ref it,fi,.none,fx],slots:=#[] }->GO (G4 prog w) A (pyNext (.ref e)) Q E s:=λf0 f1 fi fx he=>by
  have hT:s.TypeIs (.ref e) "enumerate":=⟨_,he,rfl⟩
  unfold pyNext
  refine FZ (wpAny_attempt (Ju (name:=Str.ofString "__next__") hT JM
   (Jw JM hT F.entry_enumerate_next ?_ (F.args_enumerate_next_1 _))))
  show GO _ _ (field (.ref e) 2 >>= _) _ _ _
  refine FZ (wpAny_field he rfl (x:=.ref it) rfl ?_)
  refine FZ (wpAny_nextOf_list_end hh hit hl hx λh' x he' hx'=>?_)
  obtain⟨o,ho,hc⟩:=hx'
  refine FZ (wpAny_isInstance (T:="StopIteration") (b:=true) ⟨o,ho,hc⟩ isSubtype_stop ?_)
  exact Gz (hQ _ he')
 rcases he with⟨_,old,he⟩|⟨T,b,old,he,_⟩
 ·exact go _ _ _ _ he
 ·exact go _ _ _ _ he
theorem vQ {e it l S B:Gb}{items:Array Value}{R:Result->Ga->Prop}(hh:A.handled=none)(hei:e≠it)(hle:l≠e)(hli:l≠it)(hlS:l≠S)(heS:e≠S)(hiS:it≠S)(hn:items.size<=Ge)(res:Value) :
  ∀(k i:Nat) (s:Ga) (ts:List Gb) (c:Nat),items.size-i=k->i<=items.size->B<=s.heap.objs.size->zh s.heap e it S i->s.heap.IsListIter it l i->s.heap.IsList l items ->
   s.heap.get? S=some { cls:=.type "list",dict:=none,data:=.seq (ts.map GZ).toArray c,slots:=#[] }->ts.length=i->Prs s.heap items B e it S ts ->
   (∀h' tk ts' c',(∀b o,b≠e->b≠it->b≠S->s.heap.get? b=some o->h'.get? b=some o)->h'.get? S=some { cls:=.type "list",dict:=none,data:=.seq (ts'.map GZ).toArray c',slots:=#[] } ->
    ts'.length=items.size->Prs h' items B e it S ts'->R (.ok (.ret res)) { s with heap:=h',toks:=tk }) ->
  codeAny (G4 prog w) A (.builtin "list.extend.loop" ⟨[.ref S,.ref e,res],[]⟩) R s:=by
 intro k
 induction k with
 |zero =>
  intro i s ts c hk hi hB hst hit hl hS hlen hprs hR
  have hin:i=items.size:=by lia
  subst hin
  refine codeAny_builtin F.entry_extend_loop ?_
  rw[Around.under_plainId J9 _]
  show GO _ A.in1 (pyNext (.ref e) >>= _) _ _ s
  refine FZ (p7 (A:=A.in1) hh hst hit hl (Array.getElem?_eq_none (nlr _)) λh' hx=>?_)
  refine Gz (hR h' s.toks ts c (λb o hbe hbi hbS q=>hx b o hbi q) (hx S _ (GJ hiS) hS) hlen λj t ht=>?_)
  obtain⟨p1,p2,p3,p4,tok,x,p5,p6⟩:=hprs j t ht
  exact⟨p1,p2,p3,p4,tok,x,p5,hx t _ p3 p6⟩
 |succ k ih =>
  intro i s ts c hk hi hB hst hit hl hS hlen hprs hR
  have hlt:i<items.size:=by lia
  refine codeAny_builtin F.entry_extend_loop ?_
  rw[Around.under_plainId J9 _]
  show GO _ A.in1 (pyNext (.ref e) >>= _) _ _ s
  have hSl:S<s.heap.objs.size:=Gq hS
  have hx:items[i]? = some items[i]:=J3 hlt
  refine FZ (vU hst hit hl hx hei hSl λh' hst' hit' hT hsz hkp=>?_)
  have hS':=hkp S _ (GJ heS) (GJ hiS) hS
  have hel:e<s.heap.objs.size:=by
   rcases hst with⟨_,_,q⟩|⟨_,_,_,q,_⟩
   ·exact Gq q
   ·exact Gq q
  have hil:it<s.heap.objs.size:=by obtain⟨_,q,_⟩:=hit;exact Gq q
  show GO _ A.in1 (updateSeq S (·.push (.ref s.heap.objs.size)) >>= _) _ _ _
  refine FZ ?_
  have upS:∀b o,b≠S->h'.get? b=some o->(h'.update S (IB (·.push (GZ s.heap.objs.size)))).get? b=some o:=λb o hb q=>(Iq _ _ (GJ hb)).trans q
  refine wpAny_updateSeq hS' rfl (Gz ⟨plainId_quiet J9 _,ih (i+1) _ (ts++[s.heap.objs.size]) (c+1) (by lia) hlt ?_ ?_ ?_ ?_ ?_ (by rw[Gd,hlen];rfl) ?_ ?_⟩) ?_ ?_
  ·show B<=(h'.update S _).objs.size
   rw[Heap.size_update,hsz];exact GU hB (Nat.le_succ _)
  ·rcases hst' with⟨q,_⟩|⟨T,b,old,h1,⟨o,h2⟩,h3,h4,h5⟩
   ·lia
   ·exact Hr ⟨T,b,old,upS e _ heS h1,⟨o,upS T o h5 h2⟩,h3,h4,h5⟩
  ·obtain⟨o,ho,r⟩:=hit'
   exact⟨o,upS it o hiS ho,r⟩
  ·obtain⟨o,ho,r⟩:=hl
   exact⟨o,upS l o hlS (hkp l o hle hli ho),r⟩
  ·have q:=Iy (IB (·.push (GZ s.heap.objs.size))) hS' rfl
   show(h'.update S _).get? S=_
   rw[q]
   simp[IB]
  ·intro j t ht
   by_cases hj:j<ts.length
   ·rw[GB hj]at ht
    obtain⟨p1,p2,p3,p4,tok,x,p5,p6⟩:=hprs j t ht
    exact⟨p1,p2,p3,p4,tok,x,p5,upS t _ p4 (hkp t _ p2 p3 p6)⟩
   ·have hjl:j=ts.length:=by
     have:=(gsi ht).1
     rw[Gd]at this
     simp at this
     lia
    subst hjl
    rw[Gx (nlr _),HG]at ht
    have ht:s.heap.objs.size=t:=osi ht
    subst ht
    refine⟨hB,Ix hel,Ix hil,Ix hSl,s.toks,items[i],by rw[hlen];exact hx,?_⟩
    rw[hlen]
    exact upS _ _ (Ix hSl) hT
  ·intro h'' tk ts' c' hk2 hS2 hl2 hp2
   refine hR h'' tk ts' c' (λb o hbe hbi hbS q=>hk2 b o hbe hbi hbS (upS b o hbS (hkp b o hbe hbi q))) hS2 hl2 hp2
  ·have:(ts.map GZ).toArray.size=i:=by simp[hlen]
   rw[this];lia
  ·show((ts.map GZ).toArray.push (GZ s.heap.objs.size)).size<=Ge+1
   rw[Array.size_push]
   have:(ts.map GZ).toArray.size=i:=by simp[hlen]
   rw[this];lia
theorem sM {e it l S:Gb}{items:Array Value}{R:Result->Ga->Prop}(hh:A.handled=none)(hei:e≠it)(hle:l≠e)(hli:l≠it)(hlS:l≠S)(heS:e≠S)(hiS:it≠S)(hn:items.size<=Ge)(res:Value)(c₀:Nat)
  {old:Value} (he:IsEnum s.heap e it 0 old) (hit:s.heap.IsListIter it l 0) (hl:s.heap.IsList l items) (hS:s.heap.get? S=some { cls:=.type "list",data:=.seq #[] c₀ })
  (hR:∀h' tk ts' c',(∀b o,b≠e->b≠it->b≠S->s.heap.get? b=some o->h'.get? b=some o)->h'.get? S=some { cls:=.type "list",dict:=none,data:=.seq (ts'.map GZ).toArray c',slots:=#[] } ->
    ts'.length=items.size->Prs h' items s.heap.objs.size e it S ts'->R (.ok (.ret res)) { s with heap:=h',toks:=tk }) :
  GO (G4 prog w) A.in1 (IU (.ref S) (.ref e) res)
   (λfin s'=>match fin with|.done f=>R (.ok f) s'|.again c'=>c'.quiet=true/\codeAny (G4 prog w) A c' R s') (λe s'=>R (.error e) s') s:=by
 have hT:s.TypeIs (.ref e) "enumerate":=⟨_,he,rfl⟩
 unfold IU
 refine FZ (wpAny_typeOf hT ?_)
 have h1:Builtin.List.listSameRef (.ref S) (.ref e)=false:=by simp[Builtin.List.listSameRef,GJ heS]
 have h2:(Value.type "enumerate"==Value.type "list")=false:=by decide
 have h3:(Value.type "enumerate"==Value.type "tuple")=false:=by decide
 simp only[h1,h2,h3,Bool.or_false,Bool.false_eq_true,JV]
 refine FZ (wpAny_pyIter_enum he ?_)
 refine FZ (wpAny_holding ?_)
 unfold Builtin.List.listLengthHint
 refine FZ (wpAny_specialOf hT sP ?_)
 show GO _ A.in1 (specialOf (GZ e) (Str.ofString "__length_hint__") >>= _) _ _ _
 refine FZ (wpAny_specialOf hT qM ?_)
 refine Gz ?_
 show GO _ A.in1 (rule "list.extend.makes-room" >>= λ_=>Builtin.List.listTouch (.ref S) >>= λ_ =>
  again (.builtin "list.extend.loop" ⟨[.ref S,.ref e,res],[]⟩)) _ _ _
 refine FZ (wpAny_rule ?_)
 refine FZ ?_
 show GO _ A.in1 (updateSeq S (·.push .none) >>= λ_=>updateSeq S (·.pop)) _ _ _
 refine FZ (wpAny_updateSeq hS rfl ?_)
 have hS₂:=Iy (IB (·.push JR)) hS rfl
 refine wpAny_updateSeq (hz:=by seq_fits) hS₂ rfl ?_
 have hS₃:=Iy (IB (·.pop)) hS₂ rfl
 have oth:∀b o,b≠S->s.heap.get? b=some o->((s.heap.update S (IB (·.push JR))).update S (IB (·.pop))).get? b=some o :=
  λb o hb e=>(Iq _ _ (GJ hb)).trans ((Iq _ _ (GJ hb)).trans e)
 refine Gz ⟨plainId_quiet J9 _,vQ (B:=s.heap.objs.size) hh hei hle hli hlS heS hiS hn res items.size 0 _ [] (c₀+1+1) (by lia) (Hj _) ?_ (HZ ⟨rfl,old,oth e _ heS he⟩) ?_ ?_ ?_ rfl ?_ ?_⟩
 ·show s.heap.objs.size<=((s.heap.update S _).update S _).objs.size
  rw[Heap.size_update,Heap.size_update]
  exact nlr _
 ·obtain⟨o,ho,r⟩:=hit
  exact⟨o,oth it o hiS ho,r⟩
 ·obtain⟨o,ho,r⟩:=hl
  exact⟨o,oth l o hlS ho,r⟩
 ·rw[hS₃]
  simp[IB]
 ·intro j t ht
  simp at ht
 ·intro h' tk ts' c' hk hS' hlen hprs
  exact hR h' tk ts' c' (λb o hbe hbi hbS q=>hk b o hbe hbi hbS (oth b o hbS q)) hS' hlen hprs
theorem nT {e it l:Gb}{items:Array Value}{old:Value}{Q:Value->Ga->Prop}(hh:A.handled=none)(hei:e≠it)(hle:l≠e)(hli:l≠it)(hn:items.size<=Ge)
  (he:IsEnum s.heap e it 0 old) (hit:s.heap.IsListIter it l 0) (hl:s.heap.IsList l items)
  (hQ:∀h' tk ts c',(∀b o,b≠e->b≠it->s.heap.get? b=some o->h'.get? b=some o)->h'.get? s.heap.objs.size=some { cls:=.type "list",dict:=none,data:=.seq (ts.map GZ).toArray c',slots:=#[] } ->
   ts.length=items.size->Prs h' items s.heap.objs.size e it s.heap.objs.size ts->Q (.ref s.heap.objs.size) { s with heap:=h',toks:=tk }) :
  GO (G4 prog w) A (call (.type "list") [.ref e]) Q E s:=by
 refine callType_codes (Q₁:=λobj s₁=>obj=.ref s.heap.objs.size/\s₁={ s with heap:=s.heap.push { cls:=.type "list",data:=.seq #[] } }) F.called_list (F.typeCall_list_1 _) F.entry_list_init
  (code_list_new _ ⟨rfl,rfl⟩) λobj s₁ h₁=>?_
 obtain⟨rfl,rfl⟩:=h₁
 have hS:(s.heap.push { cls:=.type "list",data:=.seq #[] }).get? s.heap.objs.size=some { cls:=.type "list",data:=.seq #[] }:=GF _ rfl
 refine⟨⟨_,hS,rfl⟩,F.args_list_init_2 _ _,?_⟩
 have hel:e<s.heap.objs.size:=Gq he
 have hil:it<s.heap.objs.size:=by obtain⟨_,q,_⟩:=hit;exact Gq q
 have hll:l<s.heap.objs.size:=by obtain⟨_,q,_⟩:=hl;exact Gq q
 show GO _ A.in1.in1 (do let old <-Builtin.List.listItems (.ref s.heap.objs.size);Builtin.List.listUpdate (.ref s.heap.objs.size) (λ_=>#[]);letGo old.toList.reverse;IU (.ref s.heap.objs.size) (.ref e) .none) _ _ _
 refine FZ ?_
 unfold Builtin.List.listItems
 refine FZ (wpAny_seqItems hS rfl (Gz ?_))
 show GO _ _ (updateSeq s.heap.objs.size (λ_=>#[]) >>= λ_=>letGo (#[]:Array Value).toList.reverse >>= λ_=>IU (.ref s.heap.objs.size) (.ref e) .none) _ _ _
 refine FZ (wpAny_updateSeq hS rfl ?_)
 have hS₂:=Iy (IB (λ_=>(#[]:Array Value))) hS rfl
 have oth:∀b o,s.heap.get? b=some o->((s.heap.push { cls:=.type "list",data:=.seq #[] }).update s.heap.objs.size (IB (λ_=>(#[]:Array Value)))).get? b=some o :=
  λb o q=>(Iq _ _ (Ix (Gq q))).trans (Gn _ q)
 refine FZ (wpAny_letGo ?_)
 refine sM (A:=A.in1) (old:=old) hh hei hle hli (GW hll) (GW hel) (GW hil) hn .none _ (oth e _ he) ?_ ?_ hS₂ λh' tk ts c' hk hS' hlen hprs=>?_
 ·obtain⟨o,ho,r⟩:=hit
  exact⟨o,oth it o ho,r⟩
 ·obtain⟨o,ho,r⟩:=hl
  exact⟨o,oth l o ho,r⟩
 ·refine⟨rfl,hQ h' tk ts c' (λb o hbe hbi q=>hk b o hbe hbi (GW (Gq q)) (oth b o q)) hS' hlen λj t ht=>?_⟩
  obtain⟨p1,p2,p3,p4,r⟩:=hprs j t ht
  refine⟨GU ?_ p1,p2,p3,p4,r⟩
  show s.heap.objs.size<=((s.heap.push _).update _ _).objs.size
  rw[Heap.size_update,HC]
  exact Nat.le_succ _
end
section
variable  {X:Cx}{pins:List (Gb×Obj)}{σ:L2.St}{H H':Hp}{s:Ga}{h':Heap}
theorem yL {t':Nat}(I:L2.Inv X pins σ H s)(k:∀b u,s.heap.get? b=some u->h'.get? b=some u)(sm:ak H H')(fr:∀b o,H' b=some o->H b=some o\/(s.heap.objs.size<=b/\b9 X.prog X.w H' h' b o)) :
  L2.Inv X pins σ H' { s with heap:=h',toks:=t' }:=by
 refine I.un ⟨λb o q _ _ _=>k b o q,λb o q _ _ _=>⟨o.slots,k b o q⟩,λb o q n _=>?_,λb o q _=>⟨o,k b o q⟩,λb xs q=>sm b _ q,λb o u q=>sm b _ q,λb ps q=>⟨#[],by rw[sm b _ q];simp⟩⟩ ?_
 ·cases e:H' b with
  |none=>rfl
  |some u =>
   rcases fr b u e with q1|⟨q1,_⟩
   ·rw[n]at q1;cases q1
   ·exact absurd (GD (Gq q) q1) (Ik _)
 ·intro b o e
  rcases fr b o e with q|⟨_,q⟩
  ·exact(I.hok b o q).stay (λc u _ r=>k c u r) (λc r=>sm c _ r) λc xs r=>sm c _ r
  ·exact q
def tLE (K:Hq)(ta:TA):TE:=λσ H Q=>ta σ H λvs H1=>∃(a:Gb) (xs:List V),vs=[.ref a]/\SqL K H1 a xs/\∀(H':Hp) (p:Gb) (ts:List Gb),ak H1 H'->H' p=some (.lst (ts.map V.ref))->ts.length=xs.length ->
 (∀(i:Nat) (t:Gb) (x:V),ts[i]? = some t->xs[i]? = some x->H' t=some (.tup [.int (i:Nat),x]))->Q (.ref p) H'
theorem k6:∀ts:List Gb,aS (ts.map V.ref) (ts.map GZ)
 |[]=>.nil
 |t :: ts=>.cons rfl (k6 ts)
theorem rZ {e:Expr}{ta:TA}{p p2 pos pos2:Pos}(hc:X.calm=true) (hg:Gl X "list") (hm:X.mg "list"=none) (hg2:Gl X "enumerate") (hm2:X.mg "enumerate"=none) (ha:PA X [e] ta)
  (hs:GM [e] X.env=[(false,JZ e X.env)]:=by rfl)
  (hs2:GM [.Call (.Name "enumerate" p2) [e] [] pos2] X.env=[(false,JZ (.Call (.Name "enumerate" p2) [e] [] pos2) X.env)]:=by rfl) :
  PE X (.Call (.Name "list" p) [.Call (.Name "enumerate" p2) [e] [] pos2] [] pos) (tLE X.K ta):=by
 intro pins s σ H Q I h
 refine JE (gy I hg hm mL ?_)
 refine G7 ?_ hs2 rfl
 rw[hs2]
 show GO _ _ (spliced ((false,JZ (.Call (.Name "enumerate" p2) [e] [] pos2) X.env) :: [])) _ _ s
 refine Calls.spliced_cons ?_
 refine Call_ (gy I hg2 hm2 boot_enumerate (G7 (thn (ha pos2 pins s σ H _ I h) λus s1 ⟨vs,H1,I1,r1,q1⟩=>?_) hs rfl))
 obtain⟨a,xs,ex,hq,q⟩:=q1
 subst ex
 cases r1 with
 |cons r rr =>
  cases rr
  cases r
  obtain⟨its,rv,p',hz⟩:=I1.list hq
  have hla:a<s1.heap.objs.size:=p'.lt
  refine call_enumerate_list p'.isList λh1 he hit hsz hk=>Calls.spliced_nil ?_
  have hlen:=rv.length
  refine nT (items:=its.toArray) (I.ok.hd hc) (Nat.succ_ne_self _) (GW (JW hla)) (GW hla) (by simp only[Gm];lia) he hit (p'.isList.at λo z=>hk a o z) λh2 tk ts c' hk2 hS hl2 hprs=>?_
  have hsz2:s1.heap.objs.size+2=h1.objs.size:=hsz.symm
  let S:=h1.objs.size
  have inj:∀(i j:Nat) (t:Gb),ts[i]? = some t->ts[j]? = some t->i=j:=λi j t e1 e2=>by
   obtain⟨_,_,_,_,tok1,x1,_,g1⟩:=hprs i t e1
   obtain⟨_,_,_,_,tok2,x2,_,g2⟩:=hprs j t e2
   rw[g1]at g2
   have:=Ia (λo:Option Obj=>o.map (·.data)) g2
   simp only[Option.map_some]at this
   injection this with this
   injection this with this
   have:=Ia (λa:Array Value=>a.toList.head?) this
   simp only[List.head?]at this
   injection this with this
   injection this with this
   lia
  have hidx:∀(i:Nat) (t:Gb),ts[i]? = some t->ts.idxOf t=i:=λi t e1=>by
   have hm:t∈ts:=GV e1
   exact inj _ _ t (by rw[gge (IT hm),List.getElem_idxOf]) e1
  let H2:Hp:=λb=>if b=h1.objs.size then some (.lst (ts.map V.ref)) else if b∈ts then some (.tup [.int ((ts.idxOf b:Nat):Int),xs.getD (ts.idxOf b) .non]) else H1 b
  have old:∀b o,s1.heap.get? b=some o->b≠s1.heap.objs.size+1/\b≠s1.heap.objs.size/\b≠h1.objs.size/\b∉ts:=λb o z=>by
   have hb:=Gq z
   refine⟨GW (JW hb),GW hb,GW (GD hb (by rw[<-hsz2];exact HS _ _)),λhm=>?_⟩
   obtain⟨i,hi⟩:=Jb.mp hm
   have:=(hprs i b hi).1
   rw[<-hsz2]at this
   exact absurd (GD hb (GU (HS _ 2) this)) (Ik _)
  have kk:∀b o,s1.heap.get? b=some o->h2.get? b=some o:=λb o z=>by
   obtain⟨n1,n2,_,_⟩:=old b o z
   exact hk2 b o n1 n2 (hk b o z)
  have sm:ak H1 H2:=λb o z=>by
   have hb:=I1.hok.lt z
   have n3:b≠h1.objs.size:=GW (GD hb (by rw[<-hsz2];exact HS _ _))
   have n4:b∉ts:=λhm=>by
    obtain⟨i,hi⟩:=Jb.mp hm
    have:=(hprs i b hi).1
    rw[<-hsz2]at this
    exact absurd (GD hb (GU (HS _ 2) this)) (Ik _)
   show(if b=h1.objs.size then _ else if b∈ts then _ else H1 b)=_
   rw[Gf n3,Gf n4]
   exact z
  have hts:ts.length=xs.length:=by
   rw[hl2,Gm,hlen]
  have I2:L2.Inv X pins σ H2 { s1 with heap:=h2,toks:=tk }:=by
   refine yL I1 kk sm λb o z=>?_
   by_cases c1:b=h1.objs.size
   ·right
    subst c1
    have z':some (HO.lst (ts.map V.ref))=some o:=by
     rw[<-z]
     show _=(if h1.objs.size=h1.objs.size then _ else _)
     rw[Gk rfl]
    have z':=osi z'
    subst z'
    refine⟨by rw[<-hsz2];exact HS _ _,?_⟩
    exact⟨by rw[lmp,hts];exact hz,_,c',k6 ts,hS⟩
   ·by_cases c2:b∈ts
    ·right
     obtain⟨i,hi⟩:=Jb.mp c2
     obtain⟨p1,p2,p3,p4,tok,x',p5,p6⟩:=hprs i b hi
     have z':some (HO.tup [.int ((ts.idxOf b:Nat):Int),xs.getD (ts.idxOf b) .non])=some o:=by
      rw[<-z]
      show _=(if b=h1.objs.size then _ else if b∈ts then _ else H1 b)
      rw[Gf c1,Gk c2]
     have z':=osi z'
     subst z'
     rw[hidx i b hi]
     have hil:i<xs.length:=by rw[<-hts];exact(gsi hi).1
     have hxi:xs[i]? = some xs[i]:=gge hil
     obtain⟨u,hu,ru⟩:=rv.get hxi
     have hux:u=x':=by
      have:its[i]? = some x':=by simpa using p5
      exact osi (hu.symm.trans this)
     subst hux
     refine⟨GU (by rw[<-hsz2];exact HS _ _) p1,by show 2<=Ge;decide,[.int i tok,u],.cons ⟨tok,rfl⟩ (.cons ?_ .nil),⟨_,p6,rfl,_,rfl⟩⟩
     rw[Gr,hxi]
     exact ru
    ·left
     rw[<-z]
     show _=(if b=h1.objs.size then _ else if b∈ts then _ else H1 b)
     rw[Gf c1,Gf c2]
  refine⟨.ref h1.objs.size,H2,I2,rfl,q H2 h1.objs.size ts sm ?_ hts λi t x e1 e2=>?_⟩
  ·show(if h1.objs.size=h1.objs.size then _ else _)=_
   rw[Gk rfl]
  ·obtain⟨p1,p2,p3,p4,_⟩:=hprs i t e1
   show(if t=h1.objs.size then _ else if t∈ts then _ else H1 t)=_
   rw[Gf p4,Gk (GV e1),hidx i t e1,Gr,e2]
   rfl
end
end Wx
end
section
namespace Wg
open PySem PySem.Spec PyProof.Rows L2
theorem zO {K:Hq}{a:Gb}{xs:List V}{g:TG}{tb:TS}{D:nE}{σ:L2.St}{H:Hp}(Pv:Nat->L2.St->Hp->Prop)(h0:Pv 0 σ H)(hl:∀i σ H,i<=xs.length->Pv i σ H->SqL K H a xs)
  (hs:∀i x σ H,i<xs.length->xs[xs.length-1-i]? = some x->Pv i σ H->g x σ H λσ2 H2=>tb { D with nx:=Pv (i+1),ct:=Pv (i+1),bk:=D.nx } σ2 H2) (hd:∀σ H,Pv xs.length σ H->D.nx σ H) :
  ∃W:Nat->Nat->L2.St->Hp->Prop,(∃m,W 0 m σ H)/\∀i m σ H,W i m σ H ->
   ((Itv K a xs.length).stop i H/\D.nx σ H)\/((Itv K a xs.length).go i H/\∃N:L2.St->Hp->Prop,(∀σ' H',N σ' H'->∃m',m'<m/\W (i+1) m' σ' H')/\∀x H',(Itv K a xs.length).yld i H x H'->g x σ H' λσ2 H2=>tb { D with nx:=N,ct:=N,bk:=D.nx } σ2 H2):=by
 refine⟨λi m σ H=>m=xs.length-i/\i<=xs.length/\Pv i σ H,⟨xs.length,by simp,Hj _,h0⟩,?_⟩
 rintro i m σ H ⟨rfl,hi,p⟩
 have q:=hl i σ H hi p
 by_cases hlt:i<xs.length
 ·refine .inr ⟨⟨hlt,xs,xs[xs.length-1-i],q,by simp⟩,Pv (i+1),λσ' H' p'=>⟨xs.length-(i+1),by lia,rfl,hlt,p'⟩,λx H' y=>?_⟩
  obtain⟨e,y⟩:=y
  subst e
  exact hs i x σ _ hlt (y xs q) p
 ·have e:i=xs.length:=by lia
  subst e
  exact .inl ⟨nlr _,hd σ H p⟩
theorem lr {lo c:Int}{n:Nat}{g:TG}{tt:TT}{te:TE}{vs:List Nat}{σ:L2.St}{H1:Hp}{D:Gb}{Qd:Hp->Prop}(Pv:Nat->Hp->Prop)(h0:Pv 0 (upd H1 D (.lst [])))
  (hs:∀i H,i<n->Pv i H->g (.int (lo+(i:Nat)*c)) (b6 σ vs) H λσ2 H2=>b6 σ2 vs=b6 σ vs/\tt σ2 H2 λb H3 =>
   if b=true then te σ2 H3 λy H4=>∃acc,H4 D=some (.lst acc)/\acc.length<Ge/\Pv (i+1) (upd H4 D (.lst (acc++[y]))) else Pv (i+1) H3) (hd:∀H,Pv n H->Qd H) :
  ∃W:Nat->Nat->Hp->Prop,(∃m,W 0 m (upd H1 D (.lst [])))/\∀i m H,W i m H ->
   ((Itc lo c n).stop i H/\Qd H)\/((Itc lo c n).go i H/\∃Nx:Hp->Prop,(∀H',Nx H'->∃m',m'<m/\W (i+1) m' H')/\∀x H',(Itc lo c n).yld i H x H'->g x (b6 σ vs) H' λσ2 H2=>b6 σ2 vs=b6 σ vs/\tt σ2 H2 λb H3 =>
    if b=true then te σ2 H3 λy H4=>∃acc,H4 D=some (.lst acc)/\acc.length<Ge/\Nx (upd H4 D (.lst (acc++[y]))) else Nx H3):=by
 refine⟨λi m H=>m=n-i/\i<=n/\Pv i H,⟨n,by simp,Hj _,h0⟩,?_⟩
 rintro i m H ⟨rfl,hi,p⟩
 by_cases hlt:i<n
 ·refine .inr ⟨hlt,Pv (i+1),λH' p'=>⟨n-(i+1),by lia,rfl,hlt,p'⟩,λx H' y=>?_⟩
  obtain⟨e,y⟩:=y
  subst e y
  exact hs i _ hlt p
 ·have e:i=n:=by lia
  subst e
  exact .inl ⟨nlr _,hd H p⟩
def TL (H:Hp)(p:Gb)(rows:List (List Int)):Prop:=∃as:List Gb,H p=some (.lst (as.map V.ref))/\as.length=rows.length/\∀(i:Nat) (a:Gb) (r:List Int),as[i]? = some a->rows[i]? = some r->H a=some (.tup (iV r))
theorem TL.same {H H':Hp}{p:Gb}{rows:List (List Int)}(h:TL H p rows)(s:ak H H'):TL H' p rows:=by
 obtain⟨as,h1,h2,h3⟩:=h
 exact⟨as,s _ _ h1,h2,λi a r e1 e2=>s _ _ (h3 i a r e1 e2)⟩
theorem bW {as:List Gb}{i:Nat}{v:V}(h:(as.map V.ref)[i]? = some v):∃a,as[i]? = some a/\v=.ref a:=by
 rw[Gp]at h
 cases e:as[i]? with
 |none=>rw[e]at h;cases h
 |some z=>rw[e]at h;exact⟨z,rfl,(osi h).symm⟩
theorem aP {as:List Gb}{i:Nat}{a:Gb}(h:as[i]? = some a):(as.map V.ref)[i]? = some (.ref a):=by
 rw[Gp,h];rfl
def PvR (H0:Hp)(D:Gb)(rows:List (List Int))(i:Nat)(H:Hp):Prop:=∃as:List Gb,ak H0 H/\H D=some (.lst (as.map V.ref))/\as.length=(rows.take i).length/\∀(j:Nat) (b:Gb) (x:List Int),as[j]? = some b->(rows.take i)[j]? = some x->b≠D/\H b=some (HO.tup (iV x))
theorem PvR.start {H0 H:Hp}{D:Gb}{rows:List (List Int)}(s:ak H0 H)(hD:H D=none):PvR H0 D rows 0 (upd H D (.lst [])):=⟨[],aV s hD,ae,rfl,λj b x e=>by simp at e⟩
theorem PvR.same {H0 H:Hp}{D:Gb}{rows:List (List Int)}{i:Nat}(h:PvR H0 D rows i H):ak H0 H:=by
 obtain⟨_,h1,_⟩:=h
 exact h1
theorem PvR.turn {H0 H H1:Hp}{D q:Gb}{rows:List (List Int)}{i:Nat}{r:List Int}(h:PvR H0 D rows i H)(hD0:H0 D=none)(hn:rows.length<=1000000)(hr:rows[i]? = some r)(s1:ak H H1)(hq:H1 q=some (HO.tup (iV r)))(nq:q≠D) :
  ∃acc,H1 D=some (.lst acc)/\acc.length<Ge/\PvR H0 D rows (i+1) (upd H1 D (.lst (acc++[.ref q]))):=by
 obtain⟨as,hS,hD,hl,hat⟩:=h
 have hD1:=s1 _ _ hD
 have hl':as.length=i:=by
  have:=(gsi hr).1
  rw[hl,GY]
  lia
 refine⟨as.map V.ref,hD1,?_,as++[q],aT (hS.trans s1) hD0,?_,?_,λj a x e1 e2=>?_⟩
 ·rw[lmp,hl,GY]
  exact a6 (by lia)
 ·rw[ae,GA]
  rfl
 ·rw[bE hr,Gd,Gd,hl]
  rfl
 ·rw[bE hr]at e2
  by_cases c:j<as.length
  ·rw[GB c]at e1
   rw[GB (by rw[<-hl];exact c)]at e2
   obtain⟨n1,n2⟩:=hat j a x e1 e2
   exact⟨n1,by rw[ap n1];exact s1 _ _ n2⟩
  ·have hi:=(gsi e1).1
   rw[Gd]at hi
   simp at hi
   have ei:j=as.length:=by lia
   subst ei
   rw[Gx (nlr _),HG]at e1
   rw[hl,Gx (nlr _),HG]at e2
   have e1:q=a:=osi e1
   have e2:r=x:=osi e2
   subst e1 e2
   exact⟨nq,by rw[ap nq];exact hq⟩
theorem PvR.done {H0 H:Hp}{D:Gb}{rows:List (List Int)}{n:Nat}(h:PvR H0 D rows n H)(hn:rows.length<=n):ak H0 H/\TL H D rows:=by
 obtain⟨as,hS,hD,hl,hat⟩:=h
 rw[HH hn]at hl hat
 exact⟨hS,as,hD,hl,λi a r e1 e2=>(hat i a r e1 e2).2⟩
theorem cZ {f:Str}{v:V}:∀{fs:List (Str×V)} {n:Nat},fs.length<=n->(eZ f v fs).length<=n+1
 |[],n,_=>Nat.succ_le_succ (Hj n)
 |(g,x) :: r,n,h=>by
  unfold eZ
  by_cases c:g=f
  ·rw[Gk c]
   exact GU h (Nat.le_succ _)
  ·rw[Gf c]
   cases n with
   |zero=>simp at h
   |succ n =>
    have:=cZ (f:=f) (v:=v) (fs:=r) (n:=n) (by simpa using h)
    simp only[GL]
    lia
def l8 (K:Hq)(C:Gb)(m qual:Str)(st:Iw)(ps:List Str):Prop:=∃f fd,Fun K m qual st f fd/\(∀us:List Value,us.length=ps.length->bindArgs fd ⟨us,[]⟩=pure (ps.zip us))/\vG K C m f
def Cm (P:GQ)(w:HJ)(K:Hq)(mg:Str->Option Value)(base:Heap)(k:Nat)(C:Gb)(m:Str)(ps:List Str)(sp:Sp):Prop :=
 ∃f fd,jh P w K mg base CX0 k f fd ps sp/\iQ K fd ps []/\vG K C m f
section
variable  {P:GQ}{w:HJ}{K:Hq}{mg:Str->Option Value}{base:Heap}
theorem l8.cm {C:Gb}{m qual:Str}{st:Iw}{N ps:List Str}{k:Nat}{sp:Sp}(F:l8 K C m qual st ps)(S:aq N ps (ag st))(len:∀vs H Q E,sp vs H Q E->vs.length=ps.length)
  (hbody:∀(f:Gb) (cdv:Value) (A:Around) (outer:List Env) (s:Ga) (H:Hp) (vs:List V) (Q:VK) (E:XK),br k (A.deeper (envOfC qual (ag st) s.heap.objs.size f cdv))->sp vs H Q E ->
   ∃t,PSs (qe CX0 P w K mg base N qual (ag st) f cdv A outer s H E).nox (bZ st) t/\t { nx:=λ_ H'=>Q .non H',rt:=Q } (start N vs) H):Cm P w K mg base (k+1) C m ps sp:=by
 obtain⟨f,fd,h1,h2,h3⟩:=F
 exact⟨f,fd,h1.ok S len (hbody f),.all h2,h3⟩
def qZ (K:Hq)(C:Gb)(qual:Str)(st:Iw)(ps:List Str):Prop:=∃f fd,Fun K "__init__" qual st f fd/\(∀us:List Value,us.length=ps.length->bindArgs fd ⟨us,[]⟩=pure (ps.zip us))/\Mk K C f
def Ci (P:GQ)(w:HJ)(K:Hq)(mg:Str->Option Value)(base:Heap)(k:Nat)(C:Gb)(ps:List Str)(sp:Sp):Prop :=
 ∃f fd,jh P w K mg base CX0 k f fd ps sp/\iQ K fd ps []/\Mk K C f
theorem qZ.ci {C:Gb}{qual:Str}{st:Iw}{N ps:List Str}{k:Nat}{sp:Sp}(F:qZ K C qual st ps)(S:aq N ps (ag st))(len:∀vs H Q E,sp vs H Q E->vs.length=ps.length)
  (hbody:∀(f:Gb) (cdv:Value) (A:Around) (outer:List Env) (s:Ga) (H:Hp) (vs:List V) (Q:VK) (E:XK),br k (A.deeper (envOfC qual (ag st) s.heap.objs.size f cdv))->sp vs H Q E ->
   ∃t,PSs (qe CX0 P w K mg base N qual (ag st) f cdv A outer s H E).nox (bZ st) t/\t { nx:=λ_ H'=>Q .non H',rt:=Q } (start N vs) H):Ci P w K mg base (k+1) C ps sp:=by
 obtain⟨f,fd,h1,h2,h3⟩:=F
 exact⟨f,fd,h1.ok S len (hbody f),.all h2,h3⟩
theorem Ac {C:Gb}{m qual:Str}{st:Iw}{ps:List Str}{f:Gb}{oc:Value}{od an:Option Gb}{osl:Array (Option Value)}{kV doc pm cdv ct:Value}
  (bind:∀(kV doc pm:Value) (an:Option Gb) (cdv ct:Value) (us:List Value),us.length=ps.length->bindArgs (IN m qual (dh st) (bZ st) (ag st) .none kV doc pm an cdv ct) ⟨us,[]⟩=pure (ps.zip us))
  (a:Ij K (.ref C) m=some (some (.ref f))) (i:PySem.W.isFn K (.ref f)=true) (l:K.lookup f=some ⟨oc,od,.func (IN m qual (dh st) (bZ st) (ag st) .none kV doc pm an cdv ct),osl⟩)
  (c:J1 K cdv qual=true) (kp:Ir K (.ref f)=true):l8 K C m qual st ps :=
 ⟨f,_,tS (st:=st) l c kp,bind kV doc pm an cdv ct,⟨a,i,kp⟩⟩
theorem Ay {C:Gb}{qual:Str}{st:Iw}{ps:List Str}{f:Gb}{oc:Value}{od an:Option Gb}{osl:Array (Option Value)}{kV doc pm cdv ct:Value}
  (bind:∀(kV doc pm:Value) (an:Option Gb) (cdv ct:Value) (us:List Value),us.length=ps.length->bindArgs (IN "__init__" qual (dh st) (bZ st) (ag st) .none kV doc pm an cdv ct) ⟨us,[]⟩=pure (ps.zip us))
  (mk:PySem.W.makesIn K C=true) (kc:Ir K (.ref C)=true)
  (a:Ij K (.ref C) "__init__"=some (some (.ref f))) (i:PySem.W.isFn K (.ref f)=true) (l:K.lookup f=some ⟨oc,od,.func (IN "__init__" qual (dh st) (bZ st) (ag st) .none kV doc pm an cdv ct),osl⟩)
  (c:J1 K cdv qual=true) (kp:Ir K (.ref f)=true):qZ K C qual st ps :=
 ⟨f,_,tS (st:=st) l c kp,bind kV doc pm an cdv ct,⟨mk,a,i,kc⟩⟩
end
theorem gU {X:Cx}{k:Nat}{C:Gb}{m:Str}{ps:List Str}{sp:Sp}{pos apos:Pos}{o e:Expr}{es:List Expr}{ta:TE}{t:TA}{pl:Sem Bool}(he:PE X o ta)(cl:Cls X.K C)(c:Cm X.prog X.w X.K X.mg X.base k C m ps sp)(hr:br k X.A)(ha:PA X (e :: es) t)
  (hst:GM (e :: es) X.env=(false,JZ e X.env) :: GM es X.env:=by rfl) (hpl:(JC pos (GM es X.env)).any (·.1)=false:=by rfl)
  (ht:JZ (.Call (.Attribute o m apos) (e :: es) [] pos) X.env=(do
   let ov <-JZ o X.env
   standAt apos.atName
   let (f,first) <-holding [ov] (getMethod ov m pl)
   callWith pos f first (JC pos (GM (e :: es) X.env)) (backToKw pos (JF [] X.env))):=by rfl) :
  PE X (.Call (.Attribute o m apos) (e :: es) [] pos) (kt C m sp [] E0 ta t):=by
 obtain⟨f,fd,h1,h2,h3⟩:=c
 exact y8 he cl h3 h1 hr h2 .nil uH ha hst hpl ht
theorem Cq {X:Cx}{k:Nat}{C:Gb}{m:Str}{ps:List Str}{sp:Sp}{pos apos:Pos}{o:Expr}{ta:TE}{pl:Sem Bool}(he:PE X o ta)(cl:Cls X.K C)(c:Cm X.prog X.w X.K X.mg X.base k C m ps sp)(hr:br k X.A)
  (ht:JZ (.Call (.Attribute o m apos) [] [] pos) X.env=(do
   let ov <-JZ o X.env
   standAt apos.atName
   let (f,first) <-holding [ov] (getMethod ov m pl)
   callWith pos f first (JC pos (GM [] X.env)) (backToKw pos (JF [] X.env))):=by rfl) :
  PE X (.Call (.Attribute o m apos) [] [] pos) (kt C m sp [] E0 ta fc):=by
 obtain⟨f,fd,h1,h2,h3⟩:=c
 exact yy he cl h3 h1 hr h2 .nil uH ht
theorem pL {X:Cx}{k:Nat}{C:Gb}{x:Str}{ps:List Str}{sp:Sp}{p pos:Pos}{e:Expr}{es:List Expr}{t:TA}(c:Ci X.prog X.w X.K X.mg X.base k C ps sp)(hr:br (k+1) X.A)(hm:X.mg x=some (.ref C))(ha:PA X (e :: es) t)(hg:Gl X x:=by rfl)
  (hdb:(x==("__debug__" : Str))=false:=by decide) (he:GM (e :: es) X.env=(false,JZ e X.env) :: GM es X.env:=by rfl) (hpl:(JC pos (GM es X.env)).any (·.1)=false:=by rfl) :
  PE X (.Call (.Name x p) (e :: es) [] pos) (AH C sp [] E0 t):=by
 obtain⟨f,fd,h1,h2,h3⟩:=c
 exact zS h3 h1 hr hg hm h2 .nil uH ha hdb he hpl
end Wg
end
section
namespace Hd
open PySem PySem.W PyProof.Rows L2 Wg
theorem wm (h:Heap):(m6 h).In h:=by
 intro b o e
 have hm:∀l:List (Gb×Obj),l.lookup b=some o->(b,o)∈l:=by
  intro l
  induction l with
  |nil=>intro h;cases h
  |cons x r ih =>
   intro h
   obtain⟨a,u⟩:=x
   rw[IF]at h
   cases c:b==a with
   |true =>
    rw[c]at h
    rw[eq_of_beq c,<-osi h]
    exact Gv ..
   |false =>
    rw[c]at h
    exact Gc _ (ih h)
 have h1:=hm _ e
 unfold m6 at h1
 obtain⟨a,_,q⟩:=JD.1 h1
 cases g:h.get? a with
 |none=>rw[g]at q;cases q
 |some u =>
  rw[g]at q
  have q:=osi q
  obtain⟨rfl,rfl⟩:=Io q
  exact g
theorem jF {K:Hq}{f:Gb}{n q:Str}{st:Iw}(h:na K f=some (sK n q st)):∃oc od osl kV doc pm an cdv ct,K.lookup f=some ⟨oc,od,.func (fnOf n q (dh st) (bZ st) (ag st) .none kV doc pm an cdv ct),osl⟩/\codeIn K cdv q=true/\keepIn K (.ref f)=true:=by
 unfold na at h
 split at h
 ·rename_i oc od fd osl e
  have h:=osi h
  unfold sK at h
  cases fd
  simp only[Prod.mk.injEq]at h
  obtain⟨rfl,rfl,rfl,rfl,rfl,rfl,rfl,rfl,rfl,hc⟩:=h
  refine⟨_,_,_,_,_,_,_,_,_,e,hc,?_⟩
  unfold keepIn
  dsimp only
  rw[e]
 ·cases h
theorem iy {K:Hq}{x:Str}{f:Gb}(h:jD K x=some f):nsIn K GX x=some (some (.ref f)):=by
 unfold jD at h
 split at h
 ·rename_i e
  rw[e,osi h]
 ·cases h
section
variable  {K:Hq}{mg:Str->Option Value}{h:Heap}
theorem bv {x:Str}{st:Iw}{ps:List Str}(X:K.In h)(G:h.Ns GX mg)(e:xA K x=some (sK x x st))
  (bind:∀(kV doc pm:Value) (an:Option Gb) (cdv ct:Value) (us:List Value),us.length=ps.length->bindArgs (fnOf x x (dh st) (bZ st) (ag st) .none kV doc pm an cdv ct) ⟨us,[]⟩=pure (ps.zip us):=by
   intro _ _ _ _ _ _ us hl
   rcases us with _|⟨a,_|⟨b,_|⟨c,_|⟨d,_|⟨e,_|⟨g,us⟩⟩⟩⟩⟩⟩<;>first|rfl|cases hl):Has K mg x st ps:=by
 unfold xA at e
 cases g:jD K x with
 |none=>rw[g]at e;cases e
 |some f =>
  rw[g]at e
  obtain⟨_,_,_,_,_,_,_,_,_,h1,h2,h3⟩:=jF e
  exact A9 X G bind (iy g) h1 h2 h3
theorem rk {x:Str}{n:Int}(X:K.In h)(G:h.Ns GX mg)(e:wR K x=some n):∃t,mg x=some (.int n t):=by
 unfold wR at e
 split at e
 ·rename_i i t q
  rw[<-osi e]
  exact⟨t,mg_of X G q⟩
 ·cases e
theorem DH {c:Str}{fields:List Str}{ms:List (Str×Str×Iw)}(X:K.In h)(G:h.Ns GX mg)(e:yV K c fields ms=some (Br fields ms)) :
  ∃C,mg c=some (.ref C)/\Cls K C/\makesIn K C=true/\keepIn K (.ref C)=true/\(∀f∈fields,d8 K C f)/\∀m∈ms,∃f,findIn K (.ref C) m.1=some (some (.ref f))/\isFn K (.ref f)=true/\na K f=some (sK m.1 m.2.1 m.2.2):=by
 unfold yV at e
 cases g:jD K c with
 |none=>rw[g]at e;cases e
 |some C =>
  rw[g]at e
  have e:=osi e
  unfold Br at e
  simp only[Prod.mk.injEq,List.cons.injEq,and_true]at e
  obtain⟨⟨h1,h2,h3,h4,h5⟩,⟨h6,h7⟩,h8⟩:=e
  refine⟨C,mg_of X G (iy g),⟨h1,h2,h3,h6⟩,h4,h5,λf hf=>List.map_inj_left.1 h7 f hf,λm hm=>?_⟩
  have q:=List.map_inj_left.1 h8 m hm
  unfold AX at q
  split at q
  ·rename_i f e1
   have q:=osi q
   obtain⟨q1,q2⟩:=Io q
   exact⟨f,e1,q1,q2⟩
  ·cases q
theorem zJ {C:Gb}{m qual:Str}{st:Iw}{ps:List Str}(e:∃f,findIn K (.ref C) m=some (some (.ref f))/\isFn K (.ref f)=true/\na K f=some (sK m qual st))
  (bind:∀(kV doc pm:Value) (an:Option Gb) (cdv ct:Value) (us:List Value),us.length=ps.length->bindArgs (fnOf m qual (dh st) (bZ st) (ag st) .none kV doc pm an cdv ct) ⟨us,[]⟩=pure (ps.zip us):=by
   intro _ _ _ _ _ _ us hl
   rcases us with _|⟨a,_|⟨b,_|⟨c,_|⟨d,_|⟨e,_|⟨g,us⟩⟩⟩⟩⟩⟩<;>first|rfl|cases hl):l8 K C m qual st ps:=by
 obtain⟨f,e1,e2,e3⟩:=e
 obtain⟨_,_,_,_,_,_,_,_,_,h1,h2,h3⟩:=jF e3
 exact Ac bind e1 e2 h1 h2 h3
theorem Ey {C:Gb}{qual:Str}{st:Iw}{ps:List Str}(mk:makesIn K C=true)(kc:keepIn K (.ref C)=true) (e:∃f,findIn K (.ref C) "__init__"=some (some (.ref f))/\isFn K (.ref f)=true/\na K f=some (sK "__init__" qual st))
  (bind:∀(kV doc pm:Value) (an:Option Gb) (cdv ct:Value) (us:List Value),us.length=ps.length->bindArgs (fnOf "__init__" qual (dh st) (bZ st) (ag st) .none kV doc pm an cdv ct) ⟨us,[]⟩=pure (ps.zip us):=by
   intro _ _ _ _ _ _ us hl
   rcases us with _|⟨a,_|⟨b,_|⟨c,_|⟨d,_|⟨e,_|⟨g,_|⟨i,us⟩⟩⟩⟩⟩⟩⟩<;>first|rfl|cases hl):qZ K C qual st ps:=by
 obtain⟨f,e1,e2,e3⟩:=e
 obtain⟨_,_,_,_,_,_,_,_,_,h1,h2,h3⟩:=jF e3
 exact Ay bind mk kc e1 e2 h1 h2 h3
theorem yz {p:Gb}{c:Value}{its:List Value}(e:iF K p=some (c,its)):∃od n osl ar,K.lookup p=some ⟨c,od,.seq ar n,osl⟩/\ar.toList=its:=by
 unfold iF at e
 split at e
 ·rename_i c' od ar n osl q
  have e:=osi e
  obtain⟨rfl,rfl⟩:=Io e
  exact⟨_,_,_,_,q,rfl⟩
 ·cases e
theorem sT:∀{its:List Value} {r:List Int},its.map Dj=r.map some->aS (iV r) its
 |[],[],_=>.nil
 |[],_ :: _,e=>by cases e
 |_ :: _,[],e=>by cases e
 |v :: its,i :: r,e=>by
  rw[Gw,Gw,List.cons.injEq]at e
  refine .cons ?_ (sT e.2)
  cases v with
  |int j t=>exact⟨t,by rw[osi e.1]⟩
  |_=>cases e.1
theorem DX {p:Gb}{r:List Int}(hr:r.length<=1000)(e:ni K p=some (qr r)):∀H:Hp,SqT K H p (iV r):=by
 unfold ni at e
 cases g:iF K p with
 |none=>rw[g]at e;cases e
 |some x =>
  rw[g]at e
  obtain⟨c,its⟩:=x
  have e:=osi e
  unfold qr at e
  obtain⟨rfl,e2⟩:=Io e
  obtain⟨od,n,osl,ar,q,rfl⟩:=yz g
  have hl:ar.toList.length=r.length:=by
   have:=Ia List.length e2
   rwa [lmp,lmp]at this
  exact λH=>.inr ⟨_,ar,n,q,rfl,rfl,by rw[<-Jr,hl];exact Jp (a6 (by lia)),sT e2⟩
theorem FD {x:Str}{r:List Int}(hr:r.length<=1000)(X:K.In h)(G:h.Ns GX mg)(e:x9 K x=some (qr r)):∃a,mg x=some (.ref a)/\∀H:Hp,SqT K H a (iV r):=by
 unfold x9 at e
 cases g:jD K x with
 |none=>rw[g]at e;cases e
 |some f =>
  rw[g]at e
  exact⟨f,mg_of X G (iy g),DX hr e⟩
theorem uE:∀{its:List Value} {rows:List (List Int)},its.map (BD K)=rows.map (λr=>some (qr r))->∃bs:List Gb,bs.length=rows.length/\its=bs.map GZ/\∀(i:Nat) (b:Gb) (r:List Int),bs[i]? = some b->rows[i]? = some r->ni K b=some (qr r)
 |[],[],_=>⟨[],rfl,rfl,λi b r e=>by simp at e⟩
 |[],_ :: _,e=>by cases e
 |_ :: _,[],e=>by cases e
 |v :: its,r :: rows,e=>by
  rw[Gw,Gw,List.cons.injEq]at e
  obtain⟨bs,h1,h2,h3⟩:=uE e.2
  cases v with
  |ref b =>
   refine⟨b :: bs,by rw[GL,GL,h1],by rw[h2];rfl,λi b' r' e1 e2=>?_⟩
   cases i with
   |zero =>
    cases osi e1
    cases osi e2
    exact e.1
   |succ i=>exact h3 i b' r' e1 e2
  |_=>cases e.1
theorem Cv {x:Str}{rows:List (List Int)}(hr:∀r∈rows,r.length<=1000)(hn:rows.length<=1000)(X:K.In h)(G:h.Ns GX mg) (e:t7 K x=some (.type "tuple",rows.map λr=>some (qr r))) :
  ∃(a:Gb) (bs:List Gb),mg x=some (.ref a)/\bs.length=rows.length/\(∀H:Hp,SqT K H a (bs.map V.ref))/\∀(H:Hp) (i:Nat) (b:Gb) (r:List Int),bs[i]? = some b->rows[i]? = some r->SqT K H b (iV r):=by
 unfold t7 at e
 cases g:jD K x with
 |none=>rw[g]at e;cases e
 |some f =>
  rw[g]at e
  have e:(iF K f).map (λy=>(y.1,y.2.map (BD K)))=some (.type "tuple",rows.map λr=>some (qr r)):=e
  cases g2:iF K f with
  |none=>rw[g2]at e;cases e
  |some y =>
   rw[g2]at e
   obtain⟨c,its⟩:=y
   have e:=osi e
   obtain⟨rfl,e2⟩:=Io e
   obtain⟨od,n,osl,ar,q,rfl⟩:=yz g2
   obtain⟨bs,h1,h2,h3⟩:=uE e2
   have h2:ar.toList=bs.map GZ:=h2
   refine⟨f,bs,mg_of X G (iy g),h1,λH=>.inr ⟨_,ar,n,q,rfl,rfl,?_,?_⟩,λH i b r e1 e2=>DX (hr r (GV e2)) (h3 i b r e1 e2) H⟩
   ·rw[<-Jr,h2,lmp]
    exact Jp (a6 (by lia))
   ·rw[h2]
    exact Wx.k6 bs
end
theorem nth {α β:Type}{f g:α->β}{l:List α}(h:l.map f=l.map g)(i:Nat){a:α}(e:l[i]? = some a):f a=g a:=List.map_inj_left.1 h a (GV e)
theorem zI {α β γ:Type}{o:Option α}{f:α->β}{g:α->γ}{b:β}{c:γ}(h1:o.map f=some b)(h2:o.map g=some c):∃a,o=some a/\f a=b/\g a=c:=by
 cases o with
 |none=>cases h1
 |some a=>exact⟨a,rfl,osi h1,osi h2⟩
theorem DB {p q:GQ}{α:Type}{Yf:Ga->α}{A:α}{N:Nat}(e:opening p=plainProg p.main.scope.names)(hN:Nat.ble 600 N=true)(f:∀s,fenceModules? p s=some s)
  (a:∀w:HJ,((boot_heap w.params).isNs GX&&(Array.mk ([]:List GenState)).size==0)=true)
  (b1:∀w os,(qH p N w os).map (λs=>(yR p w s,(lE p q s).1))=some (true,(openGood q []).1))
  (b0:∀w os,(qH p N w os).map (λs=>((lE p q s).2.1,(lE p q s).2.2.1))=some ((openGood q []).2.1,(openGood q []).2.2.1))
  (b2:∀w os,(qH p N w os).map (λs=>(lE p q s).2.2.2)=some (openGood q []).2.2.2)
  (b3:∀w os,(qH p N w os).map Yf=some A):LeftO p q [] (λs=>xlAt q [] s&&recOk [] s) Yf (λ_=>A) N:=λw=>by
 obtain⟨⟨h,gs,d,k,os⟩,h1,h2⟩:=Option.map_eq_some_iff.mp (boot_open (p:=p) (N:=N) e hN f w)
 simp only[Prod.mk.injEq]at h2
 obtain⟨rfl,rfl,rfl,rfl⟩:=h2
 obtain⟨s,r,c1,c2⟩:=zI (b1 w os) (b2 w os)
 have c0:=b0 w os
 have c3:=b3 w os
 rw[r]at c0 c3
 have c3:Yf s=A:=osi c3
 obtain⟨k1,k2⟩:=Io c1
 obtain⟨k3,k4⟩:=Io (osi c0)
 unfold qH at r
 rw[<-PySem.W.Fast.te14082659384304107361,<-PySem.W.Fast.te14364793385576792824]at r
 have k5:openSeen q [] (importedModules p.main.body) (λs=>xlAt q [] s&&recOk [] s) true s=openGood q []:=by
  rw[PySem.W.Fast.te4187177175401517315]
  exact Prod.ext k2 (Prod.ext k3 (Prod.ext k4 c2))
 have t:topFrom treeTable p w N ⟨boot_heap w.params,Array.mk [],boot_drawn,boot_toks,os⟩=some s:=by
  unfold topFrom
  dsimp only
  have a:=a w
  rw[a,r]
  show(match yR p w s with
   |true=>some s
   |false=>none)=some s
  rw[k1]
 unfold openEnds
 rw[h1]
 show(topFrom treeTable p w N _).map _=_
 rw[t]
 exact Ia some (Prod.ext k5 c3)
theorem DM {r:OpenSpec}{k:Nat}{q:GQ}{loose:List Str}{XP:(Str->Option Value)->Heap->Prop}{Fx:Hq->Prop}{d:DefRec}{ps:List Str}{sp:Hq->Sp}
  (hwell:r.wellSaid=true) (hdf:d.params.defaults=[]) (hlen:r.args.length=ps.length) (hr:br k callerA)
  (F:∀(w:HJ) (mg:Str->Option Value) (fa:Gb) (h:Heap) (K:Hq),Fx K->K.In h->h.Ns GX mg->mg d.name=some (.ref fa) ->
   ∃fd:JU,(∀(s:Ga) (us:List Value),us.length=ps.length->BindsTo s fd ⟨us,[]⟩ (ps.zip us))/\∀base:Heap,K.In base->base.Ns GX mg->jh r.prog w K mg base CX0 k fa fd ps (sp K))
  (hsp:∀(K:Hq) (H:Hp) (xs:List V) (a:Codec.denoteAll r.args),pK H->Codec.withinAll r.args a=true->Codec.app r.args r.asked a=true->gL K H xs (Kc r.args a) ->
   sp K xs H (λv H'=>Dw K H' v (r.ret.enc (Codec.app r.args r.f a))) λ_ _ _=>False) :
  WalkOS q loose XP (λ_ h=>∃K:Hq,K.In h/\Fx K) r d [] (λf vs=>PySem.call f vs):=by
 intro w s_0 s₁ mg mb G Y
 obtain⟨K,KX,hx⟩:=Y
 exact walk_spec (K:=λ_=>K) (YP:=λ_ h=>K.In h) (CX:=λ_=>CX0) (sp:=λ_=>sp K) hwell hdf hlen hr (λ_ _ y=>y) (λw mg fa h _ KX G hm=>F w mg fa h K hx KX G hm) (λ_ H xs a=>hsp K H xs a) (λ_ _ _ _ _ z=>z) w s_0 s₁ mg mb G KX
end Hd
end
section
namespace Wl
open PySem PySem.Spec PyProof.Rows L2 Wg
open PySem.W (Codec)
open CM
def fg (w h:Int)(p l m:Gb):List (Str×V):=eZ "marks" (.ref m) (eZ "lines" (.ref l) (eZ "points" (.ref p) (eZ "height" (.int h) (eZ "width" (.int w) []))))
section
variable  {w h:Int}{p l m:Gb}
theorem Al:(fg w h p l m).lookup ("width" : Str)=some (.int w):=by
 unfold fg
 rw[aF,Gf (by decide +kernel),aF,Gf (by decide +kernel),aF,Gf (by decide +kernel),aF,Gf (by decide +kernel),aF,Gk rfl]
theorem As:(fg w h p l m).lookup ("height" : Str)=some (.int h):=by
 unfold fg
 rw[aF,Gf (by decide +kernel),aF,Gf (by decide +kernel),aF,Gf (by decide +kernel),aF,Gk rfl]
theorem ie:(fg w h p l m).lookup ("points" : Str)=some (.ref p):=by
 unfold fg
 rw[aF,Gf (by decide +kernel),aF,Gf (by decide +kernel),aF,Gk rfl]
theorem qA:(fg w h p l m).lookup ("lines" : Str)=some (.ref l):=by
 unfold fg
 rw[aF,Gf (by decide +kernel),aF,Gk rfl]
theorem wL:(fg w h p l m).lookup ("marks" : Str)=some (.ref m):=by
 unfold fg
 rw[aF,Gk rfl]
theorem mF {f:Str} (h1:¬f="marks") (h2:¬f="lines") (h3:¬f="points") (h4:¬f="height") (h5:¬f="width"):(fg w h p l m).lookup f=none:=by
 unfold fg
 rw[aF,Gf h1,aF,Gf h2,aF,Gf h3,aF,Gf h4,aF,Gf h5]
 rfl
end
structure DCl (K:Hq)(mg:Str->Option Value)(C:Gb):Prop where
 cl:Cls K C
 nW:d8 K C "width"
 nH:d8 K C "height"
 nP:d8 K C "points"
 nL:d8 K C "lines"
 nM:d8 K C "marks"
 mgC:mg "Drawing"=some (.ref C)
def bA (C:Gb)(H:Hp)(a:Gb)(S:Gla.Plan):Prop:=∃dx p l m,H a=some (.ins C dx (fg S.w S.h p l m))/\TL H p (S.pts.map fS)/\TL H l (S.lines.map uM)/\TL H m (S.marks.map lN)
theorem bA.same {C:Gb}{H H':Hp}{a:Gb}{S:Gla.Plan}(h:bA C H a S)(s:ak H H'):bA C H' a S:=by
 obtain⟨dx,p,l,m,h1,h2,h3,h4⟩:=h
 exact⟨dx,p,l,m,s _ _ h1,h2.same s,h3.same s,h4.same s⟩
variable  {P:GQ}{w:HJ}{K:Hq}{mg:Str->Option Value}{base:Heap}{C CV:Gb}
def De (C:Gb):Sp:=λvs H Q _=>∃(x dx:Gb) (wi he:Int) (p l m:Gb),vs=[.ref x,.int wi,.int he,.ref p,.ref l,.ref m]/\H x=some (.ins C dx []) /\
 ∀H':Hp,H' x=some (.ins C dx (fg wi he p l m))->(∀b o,H b=some o->b≠x->H' b=some o)->Q .non H'
theorem FE:aq ["self","width","height","points","lines","marks"] ["self","width","height","points","lines","marks"] (ag ik):=fsk
theorem Ad (F:qZ K C "Drawing.__init__" ik ["self","width","height","points","lines","marks"]) (T:DCl K mg C):Ci P w K mg base 1 C ["self","width","height","points","lines","marks"] (De C):=by
 refine F.ci FE (λvs H Q E h=>?_) (λ_ _ A _ s H vs Q E hr h=>?_)
 ·obtain⟨x,dx,wi,he,p,l,m,rfl,_⟩:=h
  rfl
 ·obtain⟨x,dx,wi,he,p,l,m,rfl,hx,k⟩:=h
  refine⟨_,ad (i9 (pv 0) (pv 1) rfl) (ad (i9 (pv 0) (pv 2) rfl) (ad (i9 (pv 0) (pv 3) rfl) (ad (i9 (pv 0) (pv 4) rfl) (af (i9 (pv 0) (pv 5) rfl))))),?_⟩
  refine⟨_,rfl,_,rfl,x,C,dx,_,rfl,hx,T.cl,T.nW,(by show 0<1000;decide),?_⟩
  refine⟨_,rfl,_,rfl,x,C,dx,_,rfl,ae,T.cl,T.nH,(G8 (cZ (n:=0) (nlr 0)) (by decide)),?_⟩
  refine⟨_,rfl,_,rfl,x,C,dx,_,rfl,ae,T.cl,T.nP,(G8 (cZ (cZ (n:=0) (nlr 0))) (by decide)),?_⟩
  refine⟨_,rfl,_,rfl,x,C,dx,_,rfl,ae,T.cl,T.nL,(G8 (cZ (cZ (cZ (n:=0) (nlr 0)))) (by decide)),?_⟩
  refine⟨_,rfl,_,rfl,x,C,dx,_,rfl,ae,T.cl,T.nM,(G8 (cZ (cZ (cZ (cZ (n:=0) (nlr 0))))) (by decide)),?_⟩
  refine k _ ae λb o e hb=>?_
  rw[ap hb,ap hb,ap hb,ap hb,ap hb]
  exact e
def qG:Sp:=λvs H Q _=>∃(v:V) (k:Int),vs=[v,.int k]/\Q (.int (20+8*k)) H
theorem Fj:aq ["self","k"] ["self","k"] (ag km):=fsk
theorem DC (F:l8 K C "place_of_point" "Drawing.place_of_point" km ["self","k"]) (gHB:∃t,mg "HEAD_BYTES"=some (.int 20 t)) (gPB:∃t,mg "POINT_BYTES"=some (.int 8 t)):Cm P w K mg base 1 C "place_of_point" ["self","k"] qG:=by
 refine F.cm Fj (λvs H Q E h=>?_) (λ_ _ A _ s H vs Q E hr h=>?_)
 ·obtain⟨v,k,rfl,_⟩:=h
  rfl
 ·obtain⟨v,i,rfl,k⟩:=h
  refine⟨_,af (al (aR dt (bu gHB) (aR cJ (bu gPB) (pv 1)))),?_⟩
  exact⟨_,rfl,_,_,rfl,rfl,.inl ⟨by decide,by decide⟩,_,_,rfl,rfl,k⟩
def vE (C:Gb):Sp:=λvs H Q _=>∃(a:Gb) (S:Gla.Plan) (k:Int),vs=[.ref a,.int k]/\bA C H a S/\Q (.int (20+8*(S.pts.length:Int)+4*k)) H
theorem Fm:aq ["self","k"] ["self","k"] (ag kz):=fsk
theorem DN (F:l8 K C "place_of_line" "Drawing.place_of_line" kz ["self","k"]) (T:DCl K mg C) (gl:mg "len"=none) (gLB:∃t,mg "LINE_BYTES"=some (.int 4 t)) (C1:Cm P w K mg base 1 C "place_of_point" ["self","k"] qG) :
  Cm P w K mg base 2 C "place_of_line" ["self","k"] (vE C):=by
 refine F.cm Fm (λvs H Q E h=>?_) (λ_ _ A _ s H vs Q E hr h=>?_)
 ·obtain⟨a,S,k,rfl,_⟩:=h
  rfl
 ·obtain⟨a,S,i,rfl,hd,k⟩:=h
  obtain⟨dx,p,l,m,h1,⟨as,h2,h2l,_⟩,h3,h4⟩:=hd
  refine⟨_,af (al (aR dt (gU (pv 0) T.cl C1 hr (aa (aZ aN (by rfl) gl G6 (aa (aQ (pv 0) rfl) ac)) ac)) (aR cJ (bu gLB) (pv 1)))),?_⟩
  refine⟨_,rfl,a,dx,_,rfl,h1,mF (by decide +kernel) (by decide +kernel) (by decide +kernel) (by decide +kernel) (by decide +kernel),_,rfl,a,C,dx,_,_,rfl,h1,T.cl,T.nP,ie,p,_,rfl,.inl (SqL.of h2),?_⟩
  refine⟨_,_,rfl,_,rfl,_,_,rfl,rfl,.inl ⟨by decide,by decide⟩,_,_,rfl,rfl,?_⟩
  rw[lmp,h2l,lmp]
  exact k
def xi (C:Gb):Sp:=λvs H Q _=>∃(a:Gb) (S:Gla.Plan) (k:Int),vs=[.ref a,.int k]/\bA C H a S/\Q (.int (20+8*(S.pts.length:Int)+4*(S.lines.length:Int)+12*k)) H
theorem FP:aq ["self","k"] ["self","k"] (ag kC):=fsk
theorem Cz (F:l8 K C "place_of_mark" "Drawing.place_of_mark" kC ["self","k"]) (T:DCl K mg C) (gl:mg "len"=none) (gMB:∃t,mg "MARK_BYTES"=some (.int 12 t)) (C1:Cm P w K mg base 2 C "place_of_line" ["self","k"] (vE C)) :
  Cm P w K mg base 3 C "place_of_mark" ["self","k"] (xi C):=by
 refine F.cm FP (λvs H Q E h=>?_) (λ_ _ A _ s H vs Q E hr h=>?_)
 ·obtain⟨a,S,k,rfl,_⟩:=h
  rfl
 ·obtain⟨a,S,i,rfl,hd,k⟩:=h
  have hd0:=hd
  obtain⟨dx,p,l,m,h1,h2,⟨as,h3,h3l,_⟩,h4⟩:=hd
  refine⟨_,af (al (aR dt (gU (pv 0) T.cl C1 hr (aa (aZ aN (by rfl) gl G6 (aa (aQ (pv 0) rfl) ac)) ac)) (aR cJ (bu gMB) (pv 1)))),?_⟩
  refine⟨_,rfl,a,dx,_,rfl,h1,mF (by decide +kernel) (by decide +kernel) (by decide +kernel) (by decide +kernel) (by decide +kernel),_,rfl,a,C,dx,_,_,rfl,h1,T.cl,T.nL,qA,l,_,rfl,.inl (SqL.of h3),?_⟩
  refine⟨a,S,_,rfl,hd0,_,rfl,_,_,rfl,rfl,.inl ⟨by decide,by decide⟩,_,_,rfl,rfl,?_⟩
  rw[lmp,h3l,lmp]
  exact k
def Dm (C:Gb):Sp:=λvs H Q _=>∃(a:Gb) (S:Gla.Plan),vs=[.ref a]/\bA C H a S/\Q (.int (20+8*(S.pts.length:Int)+4*(S.lines.length:Int)+12*(S.marks.length:Int))) H
theorem Fu:aq ["self"] ["self"] (ag kJ):=fsk
theorem Ef (F:l8 K C "place_of_end" "Drawing.place_of_end" kJ ["self"]) (T:DCl K mg C) (gl:mg "len"=none) (C1:Cm P w K mg base 3 C "place_of_mark" ["self","k"] (xi C)) :
  Cm P w K mg base 4 C "place_of_end" ["self"] (Dm C):=by
 refine F.cm Fu (λvs H Q E h=>?_) (λ_ _ A _ s H vs Q E hr h=>?_)
 ·obtain⟨a,S,rfl,_⟩:=h
  rfl
 ·obtain⟨a,S,rfl,hd,k⟩:=h
  have hd0:=hd
  obtain⟨dx,p,l,m,h1,h2,h3,⟨as,h4,h4l,_⟩⟩:=hd
  refine⟨_,af (al (gU (pv 0) T.cl C1 hr (aa (aZ aN (by rfl) gl G6 (aa (aQ (pv 0) rfl) ac)) ac))),?_⟩
  refine⟨_,rfl,a,dx,_,rfl,h1,mF (by decide +kernel) (by decide +kernel) (by decide +kernel) (by decide +kernel) (by decide +kernel),_,rfl,a,C,dx,_,_,rfl,h1,T.cl,T.nM,wL,m,_,rfl,.inl (SqL.of h4),?_⟩
  refine⟨a,S,_,rfl,hd0,?_⟩
  rw[lmp,h4l,lmp]
  exact k
open PySem PySem.Spec PyProof.Rows L2 Wg Wx CM
open Gla (Pt)
theorem Ba (ns:List Int)(p z:Nat):oF (iV ns) (some (p:Int)) (some ((p:Int)+(z:Int)))=iV ((ns.drop p).take z):=by
 have e2:((p:Int)+(z:Int))=((p+z:Nat):Int):=by lia
 rw[e2]
 unfold oF
 rw[HT.sIx_nat,HT.sIx_nat,iV,<-JX,<-Ja,lmp]
 congr 1
 by_cases c:p<=ns.length
 ·rw[GH c]
  by_cases c2:p+z<=ns.length
  ·rw[GH c2]
   congr 1
   lia
  ·rw[GG (show ns.length<=p+z by lia)]
   rw[HH (by rw[GN];lia),HH (by rw[GN];lia)]
 ·rw[GG (show ns.length<=p by lia),IW (nlr _),IW (show ns.length<=p by lia)]
  simp
theorem wF {l:List Int}{i:Nat}{z:Int}(hi:i<l.length)(h:l[l.length-1-i]? = some z):tf (l.drop (l.length-(i+1)))=256*tf (l.drop (l.length-i))+z:=by
 have e:l.length-(i+1)=l.length-1-i:=by lia
 have e2:l.length-i=l.length-1-i+1:=by lia
 rw[e,e2]
 obtain⟨hk,hz⟩:=gsi h
 rw[Iv hk,hz]
 rfl
def oY (K:Hq):Sp:=λvs H Q _=>∃(a:Gb) (ns:List Int) (p z:Nat),vs=[.ref a,.int (p:Int),.int (z:Int)]/\LI K H a ns/\∀H':Hp,ak H H'->Q (.int (rd ns p z)) H'
theorem uT:aq ["cartoon","place","size","number","byte"] ["cartoon","place","size"] (ag gm):=fsk
theorem B1 (F:Has K mg "number_at" gm ["cartoon","place","size"]) (grv:mg "reversed"=none):Cb P w K mg base 1 "number_at" ["cartoon","place","size"] (oY K):=by
 refine F.cb uT (λvs H Q E h=>?_) (λ_ _ A _ s H vs Q E hr h=>?_)
 ·obtain⟨a,ns,p,z,rfl,_⟩:=h
  rfl
 ·obtain⟨a,ns,p,z,rfl,hl,k⟩:=h
  refine⟨_,ad (aA (i:=3) uT.nd rfl (.inl rfl) ah)
   (ad (bB Gy rfl (rO rfl grv (aa (ng qV (pv 0) (ki (pv 1)) (ki (aR dt (pv 1) (pv 2)))) ac)) (ao (i:=4) uT.nd rfl (.inl rfl))
    (af (aA (i:=3) uT.nd rfl (.inl rfl) (aR dt (aR cJ ah (pv 3)) (pv 4)))))
   (af (al (pv 3)))),?_⟩
  refine⟨_,rfl,_,rfl,_,rfl,_,rfl,_,rfl,_,_,rfl,rfl,_,rfl,a,_,rfl,hl.1,λq hq=>?_⟩
  rw[Ba ns p z]
  have s1:ak H (upd H q (.lst (iV ((ns.drop p).take z)))):=aJ hq
  refine⟨q,_,rfl,SqL.of ae,zO (K:=K) (a:=q) (xs:=iV ((ns.drop p).take z)) (λi σ H'=>H'=upd H q (.lst (iV ((ns.drop p).take z)))/\∃v,σ=[some (.ref a),some (.int (p:Int)),some (.int (z:Int)),some (.int (tf (((ns.drop p).take z).drop (((ns.drop p).take z).length-i)))),v])
   ⟨rfl,none,?_⟩ (λi σ H' _ h=>by rw[h.1];exact SqL.of ae) ?_ ?_⟩
  ·rw[Nat.sub_zero,List.drop_length]
   rfl
  ·rintro i y σ H' hi hy ⟨rfl,v,rfl⟩
   rw[lmp]at hi hy
   obtain⟨x,hx,rfl⟩:=ja hy
   refine⟨_,rfl,_,_,rfl,rfl,.inl ⟨by decide,by decide⟩,_,rfl,_,_,rfl,rfl,rfl,some (.int x),?_⟩
   rw[wF hi hx]
   rfl
  ·rintro σ H' ⟨rfl,v,rfl⟩
   refine⟨_,rfl,?_⟩
   have e:tf (((ns.drop p).take z).drop (((ns.drop p).take z).length-(iV ((ns.drop p).take z)).length))=rd ns p z:=by
    rw[lmp,HG,List.drop_zero]
    rfl
   rw[e]
   exact k _ s1
def ym (K:Hq):Sp:=λvs H Q _=>∃(a:Gb) (ns:List Int),vs=[.ref a]/\LI K H a ns/\∀H':Hp,ak H H'->Q (.int (told ns)) H'
theorem qu:aq ["cartoon","points","lines","marks"] ["cartoon"] (ag eX):=fsk
theorem zP (F:Has K mg "told_length" eX ["cartoon"]) (gHB:∃t,mg "HEAD_BYTES"=some (.int 20 t)) (gPB:∃t,mg "POINT_BYTES"=some (.int 8 t)) (gLB:∃t,mg "LINE_BYTES"=some (.int 4 t)) (gMB:∃t,mg "MARK_BYTES"=some (.int 12 t))
  (C1:Cb P w K mg base 1 "number_at" ["cartoon","place","size"] (oY K)):Cb P w K mg base 2 "told_length" ["cartoon"] (ym K):=by
 refine F.cb qu (λvs H Q E h=>?_) (λ_ _ A _ s H vs Q E hr h=>?_)
 ·obtain⟨a,ns,rfl,_⟩:=h
  rfl
 ·obtain⟨a,ns,rfl,hl,k⟩:=h
  refine⟨_,ad (aA (i:=1) qu.nd rfl (.inl rfl) (aB C1 hr (aa (pv 0) (aa ah (aa ah ac)))))
   (ad (aA (i:=2) qu.nd rfl (.inl rfl) (aB C1 hr (aa (pv 0) (aa ah (aa ah ac)))))
   (ad (aA (i:=3) qu.nd rfl (.inl rfl) (aB C1 hr (aa (pv 0) (aa ah (aa ah ac)))))
   (af (al (aR dt (aR dt (aR dt (bu gHB) (aR cJ (bu gPB) (pv 1))) (aR cJ (bu gLB) (pv 2))) (aR cJ (bu gMB) (pv 3))))))),?_⟩
  refine⟨_,rfl,a,ns,12,2,rfl,hl,λH1 s1=>?_⟩
  refine⟨_,rfl,a,ns,14,2,rfl,hl.same s1,λH2 s2=>?_⟩
  refine⟨_,rfl,a,ns,16,2,rfl,hl.same (s1.trans s2),λH3 s3=>?_⟩
  exact⟨_,rfl,_,_,rfl,rfl,.inl ⟨by decide,by decide⟩,_,_,rfl,rfl,_,rfl,_,_,rfl,rfl,.inl ⟨by decide,by decide⟩,_,_,rfl,rfl,_,rfl,_,_,rfl,rfl,.inl ⟨by decide,by decide⟩,_,_,rfl,rfl,k _ (s1.trans (s2.trans s3))⟩
def Ed (K:Hq)(mg:Str->Option Value)(x:Str)(r:List Int):Prop:=∃a,mg x=some (.ref a)/\∀H:Hp,SqT K H a (iV r)
def AR (K:Hq)(mg:Str->Option Value)(x:Str)(rows:List (List Int)):Prop:=∃(a:Gb) (bs:List Gb),mg x=some (.ref a)/\bs.length=rows.length/\(∀H:Hp,SqT K H a (bs.map V.ref))/\∀(H:Hp) (i:Nat) (b:Gb) (r:List Int),bs[i]? = some b->rows[i]? = some r->SqT K H b (iV r)
def dH (o:Option (Int×Int))(H:Hp)(Q:VK):Prop:=match o with
 |none=>∀H':Hp,ak H H'->Q .non H'
 |some (r,p)=>∀(H':Hp) (q:Gb),ak H H'->H' q=some (.tup [.int r,.int p])->Q (.ref q) H'
theorem dH.some' {H H1:Hp}{Q:VK}{r p:Int}(k:dH (some (r,p)) H Q)(s:ak H H1):∀q,H1 q=none->Q (.ref q) (upd H1 q (.tup [.int r,.int p])):=λq hq=>k _ q (aV s hq) ae
theorem vI (r q:List Int):PyData.eqv (.list (r.map G9)) (.list (q.map G9))=decide (r=q):=iY r q
def E5 (K:Hq):Sp:=λvs H Q _=>∃(a:Gb) (ns:List Int),vs=[.ref a]/\LI K H a ns/\dH (dR ns) H Q
theorem yU:aq ["cartoon","place","size","least","greatest"] ["cartoon"] (ag dF):=fsk
theorem DV (ns:List Int):oF (iV ns) none (some 4)=iV (ns.take 4):=by
 unfold oF
 have e:(4:Int)=((4:Nat):Int):=rfl
 rw[HT.sIx_none,e,HT.sIx_nat,List.drop_zero,iV,Nat.sub_zero,<-Ja,lmp]
 congr 1
 by_cases c:4<=ns.length
 ·rw[GH c]
 ·rw[GG (by lia),HH (by lia),HH (by lia)]
theorem Er (F:Has K mg "fault_of_bytes" dF ["cartoon"]) (gl:mg "len"=none) (gli:mg "list"=none) (gHB:∃t,mg "HEAD_BYTES"=some (.int 20 t)) (gS:Ed K mg "SIGN" jL) (gH:AR K mg "HEAD_NUMBERS" eY)
  (C1:Cb P w K mg base 1 "number_at" ["cartoon","place","size"] (oY K)) (C2:Cb P w K mg base 2 "told_length" ["cartoon"] (ym K)):Cb P w K mg base 3 "fault_of_bytes" ["cartoon"] (E5 K):=by
 refine F.cb yU (λvs H Q E h=>?_) (λ_ _ A _ s H vs Q E hr h=>?_)
 ·obtain⟨a,ns,rfl,_⟩:=h
  rfl
 ·obtain⟨a,ns,rfl,hl,k⟩:=h
  obtain⟨sa,gS1,gS2⟩:=gS
  obtain⟨ha,bs,gH1,gHl,gH2,gH3⟩:=gH
  have hr1:br 1 _:=hr.mono (by decide)
  have hu:=hr.units
  refine⟨_,ad (a4 (aM fZ (aZ aN (by rfl) gl G6 (aa (pv 0) ac)) (bu gHB) (aI _)) (af (al (bG (aa ah (aa (aZ aN (by rfl) gl G6 (aa (pv 0) ac)) ac))))) aL)
   (ad (a4 (aM (BC hu) (ng qV (pv 0) zi (ki ah)) (vB qC (by rfl) gli mL (aa (qO (v:=.ref sa) (by rfl) gS1 rfl) ac)) (aI _)) (af (al (bG (aa ah (aa ah ac))))) aL)
   (ad (bB Gy rfl (tu (qO (v:=.ref ha) (by rfl) gH1 rfl)) (cC (n:=4) rfl (aG (ao (i:=1) yU.nd rfl (.inl rfl)) (aG (ao (i:=2) yU.nd rfl (.inl rfl)) (aG (ao (i:=3) yU.nd rfl (.inl rfl)) (aG (ao (i:=4) yU.nd rfl (.inl rfl)) bN)))))
    (af (a4 (jg (mU lK lK (pv 3) (aB C1 hr1 (aa (pv 0) (aa (pv 1) (aa (pv 2) ac)))) (pv 4))) (af (al (bG (aa ah (aa (pv 1) ac))))) aL)))
   (ad (a4 (aM yr (aZ aN (by rfl) gl G6 (aa (pv 0) ac)) (aB C2 hr (aa (pv 0) ac)) (aI _)) (af (al (bG (aa ah (aa (bu gHB) ac))))) aL)
   (af (al bc))))),?_⟩
  refine⟨_,rfl,a,_,rfl,.inl hl.1,_,_,rfl,rfl,_,rfl,aU (λc=>?_) (λc=>?_)⟩
  ·have c1:(((iV ns).length:Nat):Int)<20:=FY c
   rw[lmp]at c1
   have e:dR ns=some (1,(ns.length:Int)):=by
    unfold dR
    rw[Gk (by lia)]
   rw[e]at k
   refine⟨_,rfl,a,_,rfl,.inl hl.1,(by show 2<=Ge;decide),λq hq=>?_⟩
   rw[lmp]
   exact k.some' (ak.refl H) q hq
  ·have c1:¬(((iV ns).length:Nat):Int)<20:=λq=>c (dqt q)
   rw[lmp]at c1
   refine⟨_,rfl,_,rfl,a,_,rfl,hl.1,λq hq=>?_⟩
   rw[DV ns]
   have s1:ak H (upd H q (.lst (iV (ns.take 4)))):=aJ hq
   refine⟨sa,_,rfl,.inr (gS2 _),λq2 hq2=>?_⟩
   have s2:ak H (upd (upd H q (.lst (iV (ns.take 4)))) q2 (.lst (iV jL))):=aV s1 hq2
   have nq:q≠q2:=λz=>by rw[<-z,ae]at hq2;cases hq2
   refine⟨.list ((ns.take 4).map G9),.list (jL.map G9),.lst (SqL.of (by rw[ap nq];exact ae)) (fR _),.lst (SqL.of ae) (fR _),?_,?_,?_⟩
   ·show(PyData.canLay0 (.list ((ns.take 4).map G9))&&decide ((PyData.list ((ns.take 4).map G9)).depth<=64))=true
    rw[show PyData.canLay0 (.list ((ns.take 4).map G9))=true from gk _,HA]
    refine dqt ?_
    show PyData.depthAll ((ns.take 4).map G9)+1<=64
    have:=jI (ns.take 4)
    lia
   ·decide +kernel
   rw[vI]
   refine⟨_,rfl,aU (λc2=>?_) (λc2=>?_)⟩
   ·have c3:ns.take 4≠jL:=λz=>by
     rw[dqt z]at c2
     exact absurd c2 (by decide)
    have e:dR ns=some (1,0):=by
     unfold dR
     rw[Gf (by lia),Gk c3]
    rw[e]at k
    exact⟨(by show 2<=Ge;decide),λq3 hq3=>k.some' s2 q3 hq3⟩
   ·have c3:ns.take 4=jL:=by
     by_cases z:ns.take 4=jL
     ·exact z
     ·rw[dqf z]at c2
      exact absurd rfl c2
    have e:dR ns=match eY.find? (λr=>!eF ns r) with
      |some r=>some (2,r.getD 0 0)
      |none=>if (ns.length:Int)≠told ns then some (3,20) else none:=by
     unfold dR
     rw[Gf (by lia),Gf (λz=>z c3)]<;>rfl
    generalize upd (upd H q (.lst (iV (ns.take 4)))) q2 (.lst (iV jL))=H2 at s2
    refine⟨ha,rfl,⟨_,gH2 _⟩,pZ (K:=K) (a:=ha) (xs:=bs.map V.ref) (λi σ H'=>ak H H'/\(∃v1 v2 v3 v4,σ=[some (.ref a),v1,v2,v3,v4])/\∀(j:Nat) (r:List Int),j<i->eY[j]? = some r->eF ns r=true)
     ⟨s2,⟨none,none,none,none,rfl⟩,λj r h=>absurd h (Hn _)⟩ (λi σ H' _ _=>gH2 H') ?_ ?_⟩
    ·rintro i y σ H' hi ⟨hS,⟨v1,v2,v3,v4,rfl⟩,hok⟩
     obtain⟨b,hb,rfl⟩:=bW hi
     have hib:i<eY.length:=by rw[<-gHl];exact(gsi hb).1
     have h0:eY[i]? = some eY[i]:=gge hib
     have hrow:=gH3 H' i b eY[i] hb h0
     obtain⟨p0,z0,lo,hi0,e4⟩:∃(p0 z0:Nat) (lo hi0:Int),eY[i]=[(p0:Int),(z0:Int),lo,hi0]:=by
      have:i=0\/i=1\/i=2\/i=3\/i=4\/i=5:=by
       have:eY.length=6:=rfl
       lia
      rcases this with rfl|rfl|rfl|rfl|rfl|rfl
      ·exact⟨4,4,16,1048575,rfl⟩
      ·exact⟨8,4,16,1048575,rfl⟩
      ·exact⟨12,2,4,4096,rfl⟩
      ·exact⟨14,2,4,8192,rfl⟩
      ·exact⟨16,2,1,2048,rfl⟩
      ·exact⟨18,2,0,0,rfl⟩
     rw[e4]at hrow h0
     have hoke:eF ns [(p0:Int),(z0:Int),lo,hi0]=(decide (lo<=rd ns p0 z0)&&decide (rd ns p0 z0<=hi0)):=by
      show(decide (lo<=rd ns ((p0:Int)).toNat ((z0:Int)).toNat)&&decide (rd ns ((p0:Int)).toNat ((z0:Int)).toNat<=hi0))=_
      rw[HD,HD]
     have bad:eF ns [(p0:Int),(z0:Int),lo,hi0]=false->dR ns=some (2,(p0:Int)):=λhb=>by
      have hf:eY.find? (λr=>!eF ns r)=some [(p0:Int),(z0:Int),lo,hi0]:=by
       rw[Jq]
       refine⟨by rw[hb];rfl,i,hib,e4,λj hj=>?_⟩
       have:=hok j eY[j] hj (gge (by lia))
       rw[this];rfl
      rw[e,hf]
      rfl
     refine⟨b,_,rfl,hrow,rfl,_,_,rfl,_,_,rfl,_,_,rfl,_,_,rfl,rfl,?_⟩
     refine⟨_,rfl,_,rfl,_,rfl,_,rfl,a,ns,p0,z0,rfl,hl.same hS,λH3 s3=>?_⟩
     have hS3:=hS.trans s3
     refine⟨_,_,rfl,rfl,_,rfl,aU (λd=>?_) (λd=>?_)⟩
     ·refine⟨_,rfl,_,_,rfl,rfl,_,rfl,aU (λd2=>?_) (λd2=>?_)⟩
      ·have:decide (rd ns p0 z0<=hi0)=false:=by
        cases q4:decide (rd ns p0 z0<=hi0) with
        |false=>rfl
        |true=>rw[q4]at d2;exact absurd d2 (by decide)
       have hb2:=bad (by rw[hoke,this,J2])
       rw[hb2]at k
       exact⟨_,rfl,(by show 2<=Ge;decide),λq3 hq3=>k.some' hS3 q3 hq3⟩
      ·have d2':decide (rd ns p0 z0<=hi0)=true:=by
        cases q4:decide (rd ns p0 z0<=hi0) with
        |true=>rfl
        |false=>rw[q4]at d2;exact absurd rfl d2
       refine⟨hS3,⟨_,_,_,_,rfl⟩,λj r hj hjr=>?_⟩
       by_cases cj:j<i
       ·exact hok j r cj hjr
       ·have:j=i:=by lia
        subst this
        rw[h0]at hjr
        have hjr:=osi hjr
        rw[<-hjr,hoke,d,d2']
        rfl
     ·refine⟨_,rfl,?_⟩
      have d':decide (lo<=rd ns p0 z0)=false:=by
       cases q4:decide (lo<=rd ns p0 z0) with
       |false=>rfl
       |true=>exact absurd q4 d
      have hb2:=bad (by rw[hoke,d',G5])
      rw[hb2]at k
      refine d7 ?_
      exact⟨_,rfl,(by show 2<=Ge;decide),λq3 hq3=>k.some' hS3 q3 hq3⟩
    ·rintro σ H' ⟨hS,⟨v1,v2,v3,v4,rfl⟩,hok⟩
     have hf:eY.find? (λr=>!eF ns r)=none:=by
      rw[Je]
      intro r hr2
      obtain⟨j,hj,rfl⟩:=GI hr2
      rw[hok j eY[j] (by rw[lmp,gHl];exact hj) (gge hj)]
      decide
     rw[hf]at e
     simp only at e
     refine⟨_,rfl,a,_,rfl,.inl (hS.seq hl.1),_,rfl,a,ns,rfl,hl.same hS,λH3 s3=>?_⟩
     have hS3:=hS.trans s3
     refine⟨rfl,_,rfl,aU (λd=>?_) (λd=>?_)⟩
     ·have d1:(ns.length:Int)≠told ns:=λz=>by
       have:(decide (V.int (((iV ns).length:Nat):Int)=V.int (told ns)))=true:=dqt (by rw[lmp,z])
       rw[this]at d
       exact absurd d (by decide)
      rw[e,Gk d1]at k
      exact⟨(by show 2<=Ge;decide),λq3 hq3=>k.some' hS3 q3 hq3⟩
     ·have d1:(ns.length:Int)=told ns:=by
       by_cases z:V.int (((iV ns).length:Nat):Int)=V.int (told ns)
       ·have:=V.int.inj z
        rw[lmp]at this
        exact this
       ·rw[dqf z]at d
        exact absurd rfl d
      rw[e,Gf (λz=>z d1)]at k
      exact k H3 hS3
def BV (r:List Int)(H:Hp)(Q:VK):Prop:=∀(H':Hp) (q:Gb),ak H H'->H' q=some (.tup (iV r))->Q (.ref q) H'
def A8 (K:Hq):Sp:=λvs H Q _=>∃(a:Gb) (ns:List Int) (p:Nat),vs=[.ref a,.int (p:Int)]/\LI K H a ns/\BV [rd ns p 4,rd ns (p+4) 4] H Q
theorem Fa:aq ["cartoon","place"] ["cartoon","place"] (ag fH):=fsk
theorem Di (F:Has K mg "read_point" fH ["cartoon","place"]) (C1:Cb P w K mg base 1 "number_at" ["cartoon","place","size"] (oY K)):Cb P w K mg base 2 "read_point" ["cartoon","place"] (A8 K):=by
 refine F.cb Fa (λvs H Q E h=>?_) (λ_ _ A _ s H vs Q E hr h=>?_)
 ·obtain⟨a,ns,p,rfl,_⟩:=h
  rfl
 ·obtain⟨a,ns,p,rfl,hl,k⟩:=h
  refine⟨_,af (al (bG (aa (aB C1 hr (aa (pv 0) (aa (pv 1) (aa ah ac)))) (aa (aB C1 hr (aa (pv 0) (aa (aR dt (pv 1) ah) (aa ah ac)))) ac)))),?_⟩
  refine⟨_,rfl,_,rfl,a,ns,p,4,rfl,hl,λH1 s1=>?_⟩
  refine⟨_,rfl,_,rfl,_,_,rfl,rfl,a,ns,p+4,4,?_,hl.same s1,λH2 s2=>?_⟩
  ·show [V.ref a,V.int ((p:Int)+4),V.int 4]=[V.ref a,V.int ((p+4:Nat):Int),V.int ((4:Nat):Int)]
   rw[Int.natCast_add]
   rfl
  exact⟨(by show 2<=Ge;decide),λq hq=>k _ q (aV (s1.trans s2) hq) ae⟩
def Cj (K:Hq):Sp:=λvs H Q _=>∃(a:Gb) (ns:List Int) (p:Nat),vs=[.ref a,.int (p:Int)]/\LI K H a ns/\BV [rd ns p 2,rd ns (p+2) 2] H Q
theorem FC:aq ["cartoon","place"] ["cartoon","place"] (ag gn):=fsk
theorem CZ (F:Has K mg "read_line" gn ["cartoon","place"]) (C1:Cb P w K mg base 1 "number_at" ["cartoon","place","size"] (oY K)):Cb P w K mg base 2 "read_line" ["cartoon","place"] (Cj K):=by
 refine F.cb FC (λvs H Q E h=>?_) (λ_ _ A _ s H vs Q E hr h=>?_)
 ·obtain⟨a,ns,p,rfl,_⟩:=h
  rfl
 ·obtain⟨a,ns,p,rfl,hl,k⟩:=h
  refine⟨_,af (al (bG (aa (aB C1 hr (aa (pv 0) (aa (pv 1) (aa ah ac)))) (aa (aB C1 hr (aa (pv 0) (aa (aR dt (pv 1) ah) (aa ah ac)))) ac)))),?_⟩
  refine⟨_,rfl,_,rfl,a,ns,p,2,rfl,hl,λH1 s1=>?_⟩
  refine⟨_,rfl,_,rfl,_,_,rfl,rfl,a,ns,p+2,2,?_,hl.same s1,λH2 s2=>?_⟩
  ·show [V.ref a,V.int ((p:Int)+2),V.int 2]=[V.ref a,V.int ((p+2:Nat):Int),V.int ((2:Nat):Int)]
   rw[Int.natCast_add]
   rfl
  exact⟨(by show 2<=Ge;decide),λq hq=>k _ q (aV (s1.trans s2) hq) ae⟩
def EK (K:Hq):Sp:=λvs H Q _=>∃(a:Gb) (ns:List Int) (p:Nat),vs=[.ref a,.int (p:Int)]/\LI K H a ns/\BV [rd ns p 4,rd ns (p+4) 4,rd ns (p+8) 2,rd ns (p+10) 2] H Q
theorem Fi:aq ["cartoon","place"] ["cartoon","place"] (ag gp):=fsk
theorem Dk (F:Has K mg "read_mark" gp ["cartoon","place"]) (C1:Cb P w K mg base 2 "read_point" ["cartoon","place"] (A8 K)) (C2:Cb P w K mg base 2 "read_line" ["cartoon","place"] (Cj K)):Cb P w K mg base 3 "read_mark" ["cartoon","place"] (EK K):=by
 refine F.cb Fi (λvs H Q E h=>?_) (λ_ _ A _ s H vs Q E hr h=>?_)
 ·obtain⟨a,ns,p,rfl,_⟩:=h
  rfl
 ·obtain⟨a,ns,p,rfl,hl,k⟩:=h
  refine⟨_,af (al (aR Ag (aB C1 hr (aa (pv 0) (aa (pv 1) ac))) (aB C2 hr (aa (pv 0) (aa (aR dt (pv 1) ah) ac))))),?_⟩
  refine⟨_,rfl,_,rfl,a,ns,p,rfl,hl,λH1 q1 s1 h1=>?_⟩
  refine⟨_,rfl,_,rfl,_,_,rfl,rfl,a,ns,p+8,?_,hl.same s1,λH2 q2 s2 h2=>?_⟩
  ·show [V.ref a,V.int ((p:Int)+8)]=[V.ref a,V.int ((p+8:Nat):Int)]
   rw[Int.natCast_add]
   rfl
  refine⟨q1,q2,_,_,rfl,rfl,SqT.of (s2 _ _ h1),SqT.of h2,(by intro z;cases z),(by show 4<=Ge;decide),λz=>absurd z (by intro z;cases z),λ_ q hq=>?_⟩
  exact k _ q (aV (s1.trans s2) hq) ae
theorem rgc {lo c:Int}{n:Nat}(hc:0<c)(hc2:c<=1000)(h0:0<=lo)(h1:lo<=1000000000)(hn:n<=1000000):RgC lo (lo+c*(n:Int)) c n:=by
 have hm:0<=c*(n:Int):=Gg (by lia) (by lia)
 have hm2:c*(n:Int)<=1000*1000000:=Int.mul_le_mul (by lia) (by lia) (by lia) (by lia)
 have hs:IL lo (lo+c*(n:Int)) c=n:=by
  unfold IL
  rw[Gk hc]
  by_cases hz:n=0
  ·subst hz
   rw[Gf (by simp)]
   rfl
  ·have hp:0<c*(n:Int):=Gs hc (by lia)
   rw[Gk (by lia)]
   have e:lo+c*(n:Int)-lo-1=(c-1)+c*((n:Int)-1):=by grind
   rw[e,Int.add_mul_ediv_left _ _ (by lia:c≠0),Int.ediv_eq_zero_of_lt (by lia) (by lia)]
   lia
 refine⟨by lia,by lia,?_,hs⟩
 unfold Builtin.Range.small
 rw[hs]
 have e2:c > 0:=hc
 simp only[Builtin.Range.rangeFitsLong,Gi,Iz,Gj,Jz,e2,if_true]
 generalize c*(n:Int)=m at *
 lia
def Ds (K:Hq)(C:Gb):Sp:=λvs H Q _=>∃(a:Gb) (ns:List Int),vs=[.ref a]/\LI K H a ns/\Byt ns/\(ns.length:Int)=told ns/\∀(H':Hp) (d:Gb),ak H H'->bA C H' d (Jy (toB ns))->Q (.ref d) H'
theorem pY:aq ["cartoon","first_line","first_mark","points","lines","marks","place"] ["cartoon"] (ag bV):=fsk
theorem Eu (F:Has K mg "read_drawing" bV ["cartoon"]) (T:DCl K mg C) (gl:mg "len"=none) (gr:mg "range"=none) (gHB:∃t,mg "HEAD_BYTES"=some (.int 20 t)) (gPB:∃t,mg "POINT_BYTES"=some (.int 8 t)) (gLB:∃t,mg "LINE_BYTES"=some (.int 4 t)) (gMB:∃t,mg "MARK_BYTES"=some (.int 12 t))
  (C1:Cb P w K mg base 1 "number_at" ["cartoon","place","size"] (oY K)) (C2:Cb P w K mg base 2 "read_point" ["cartoon","place"] (A8 K)) (C3:Cb P w K mg base 2 "read_line" ["cartoon","place"] (Cj K)) (C4:Cb P w K mg base 3 "read_mark" ["cartoon","place"] (EK K))
  (C5:Ci P w K mg base 1 C ["self","width","height","points","lines","marks"] (De C)):Cb P w K mg base 4 "read_drawing" ["cartoon"] (Ds K C):=by
 refine F.cb pY (λvs H Q E h=>?_) (λ_ _ A _ s H vs Q E hr h=>?_)
 ·obtain⟨a,ns,rfl,_⟩:=h
  rfl
 ·obtain⟨a,ns,rfl,hl,hb,hlen,k⟩:=h
  have hr1:br 1 _:=hr.mono (by decide)
  have hr2:br 2 _:=hr.mono (by decide)
  refine⟨_,ad (aA (i:=1) pY.nd rfl (.inl rfl) (aR dt (bu gHB) (aR cJ (bu gPB) (aB C1 hr1 (aa (pv 0) (aa ah (aa ah ac)))))))
   (ad (aA (i:=2) pY.nd rfl (.inl rfl) (aR dt (pv 1) (aR cJ (bu gLB) (aB C1 hr1 (aa (pv 0) (aa ah (aa ah ac)))))))
   (ad (bQ (i:=3) (own:=[("place",6)]) rfl pY.nd rfl rfl (cw rfl rfl rfl (by decide +kernel)) (k9 rfl gr (aa (bu gHB) (aa (pv 1) (aa (bu gPB) ac)))) (bf (by show fY ["cartoon","first_line","first_mark","points","lines","marks","place"] (ag bV) _ _=true;decide +kernel))
    (λ_ _ _ _ _=>ao (i:=6) pY.nd rfl (.inl rfl) (.inr rfl)) (λ_ _ _ _ _=>cY) (λ_ _ _ _ _=>aB C2 hr2 (aa (pv 0) (aa (pv 6) ac))))
   (ad (bQ (i:=4) (own:=[("place",6)]) rfl pY.nd rfl rfl (cw rfl rfl rfl (by decide +kernel)) (k9 rfl gr (aa (pv 1) (aa (pv 2) (aa (bu gLB) ac)))) (bf (by show fY ["cartoon","first_line","first_mark","points","lines","marks","place"] (ag bV) _ _=true;decide +kernel))
    (λ_ _ _ _ _=>ao (i:=6) pY.nd rfl (.inl rfl) (.inr rfl)) (λ_ _ _ _ _=>cY) (λ_ _ _ _ _=>aB C3 hr2 (aa (pv 0) (aa (pv 6) ac))))
   (ad (bQ (i:=5) (own:=[("place",6)]) rfl pY.nd rfl rfl (cw rfl rfl rfl (by decide +kernel)) (k9 rfl gr (aa (pv 2) (aa (aZ aN (by rfl) gl G6 (aa (pv 0) ac)) (aa (bu gMB) ac)))) (bf (by show fY ["cartoon","first_line","first_mark","points","lines","marks","place"] (ag bV) _ _=true;decide +kernel))
    (λ_ _ _ _ _=>ao (i:=6) pY.nd rfl (.inl rfl) (.inr rfl)) (λ_ _ _ _ _=>cY) (λ_ _ _ _ _=>aB C4 hr (aa (pv 0) (aa (pv 6) ac))))
   (af (al (pL C5 hr2 T.mgC (aa (aB C1 hr1 (aa (pv 0) (aa ah (aa ah ac)))) (aa (aB C1 hr1 (aa (pv 0) (aa ah (aa ah ac)))) (aa (pv 3) (aa (pv 4) (aa (pv 5) ac)))))))))))),?_⟩
  have b12:=tT hb 12
  have b14:=tT hb 14
  have b16:=tT hb 16
  have eP:rd ns 12 2=((P_ ns:Nat):Int):=by unfold P_;lia
  have eL:rd ns 14 2=((L_ ns:Nat):Int):=by unfold L_;lia
  have eM:rd ns 16 2=((M_ ns:Nat):Int):=by unfold M_;lia
  refine⟨_,rfl,a,ns,12,2,rfl,hl,λH1 s1=>⟨_,_,rfl,rfl,.inl ⟨by decide,by decide⟩,_,_,rfl,rfl,?_⟩⟩
  refine⟨_,rfl,_,rfl,a,ns,14,2,rfl,hl.same s1,λH2 s2=>⟨_,_,rfl,rfl,.inl ⟨by decide,by decide⟩,_,_,rfl,rfl,?_⟩⟩
  have sA:=s1.trans s2
  rw[eP,eL]
  have hP:(kZ ns).length=P_ ns:=by unfold kZ;rw[lmp,Hl]
  have hL:(kU ns).length=L_ ns:=by unfold kU;rw[lmp,Hl]
  have hM:(k8 ns).length=M_ ns:=by unfold k8;rw[lmp,Hl]
  refine⟨_,rfl,_,_,_,P_ ns,rfl,rgc (by decide) (by decide) (by decide) (by decide) (by lia),λD hD=>?_⟩
  have hD0:=sA.free hD
  refine lr (λi H'=>PvR H D (kZ ns) i H') (PvR.start sA hD) ?_ ?_
  ·intro i H' hi pv'
   refine⟨rfl,kD (d7 ?_)⟩
   refine⟨_,rfl,_,rfl,a,ns,20+8*i,?_,hl.same pv'.same,λH3 q s3 hq=>?_⟩
   ·show [V.ref a,V.int (20+(i:Nat)*8)]=[V.ref a,V.int ((20+8*i:Nat):Int)]
    rw[show(20:Int)+(i:Nat)*8=((20+8*i:Nat):Int) by lia]
   have hDq:∃acc,H3 D=some (.lst acc):=by
    obtain⟨as,_,h2,_⟩:=pv'
    exact⟨_,s3 _ _ h2⟩
   have nq:q≠D:=λz=>by
    obtain⟨acc,h2⟩:=hDq
    rw[z,h2]at hq
    cases hq
   exact pv'.turn hD0 (by rw[hP];lia) (by unfold kZ;rw[Gp,IS hi];rfl) s3 hq nq
  intro H3 pv3
  obtain⟨s3,t3⟩:=pv3.done (by rw[hP];exact nlr _)
  refine⟨_,rfl,_,rfl,_,_,_,L_ ns,rfl,rgc (by decide) (by decide) (by lia) (by lia) (by lia),λD2 hD2=>?_⟩
  have hD20:=s3.free hD2
  refine lr (λi H'=>PvR H3 D2 (kU ns) i H') (PvR.start (ak.refl H3) hD2) ?_ ?_
  ·intro i H' hi pv'
   refine⟨rfl,kD (d7 ?_)⟩
   refine⟨_,rfl,_,rfl,a,ns,20+8*P_ ns+4*i,?_,hl.same (s3.trans pv'.same),λH4 q s4 hq=>?_⟩
   ·show [V.ref a,V.int (20+8*((P_ ns:Nat):Int)+(i:Nat)*4)]=[V.ref a,V.int ((20+8*P_ ns+4*i:Nat):Int)]
    rw[show(20:Int)+8*((P_ ns:Nat):Int)+(i:Nat)*4=((20+8*P_ ns+4*i:Nat):Int) by lia]
   have nq:q≠D2:=λz=>by
    obtain⟨as,_,h2,_⟩:=pv'
    have h2:=s4 _ _ h2
    rw[z,h2]at hq
    cases hq
   exact pv'.turn hD2 (by rw[hL];lia) (by unfold kU;rw[Gp,IS hi];rfl) s4 hq nq
  intro H4 pv4
  obtain⟨s4,t4⟩:=pv4.done (by rw[hL];exact nlr _)
  have hlM:(ns.length:Int)=20+8*((P_ ns:Nat):Int)+4*((L_ ns:Nat):Int)+12*((M_ ns:Nat):Int):=by
   rw[hlen]
   unfold told
   rw[eP,eL,eM]
  refine⟨_,rfl,_,rfl,a,_,rfl,.inl ((s3.trans s4).seq hl.1),_,_,_,M_ ns,rfl,?_,λD5 hD5=>?_⟩
  ·rw[lmp,hlM]
   exact rgc (by decide) (by decide) (by lia) (by lia) (by lia)
  refine lr (λi H'=>PvR H4 D5 (k8 ns) i H') (PvR.start (ak.refl H4) hD5) ?_ ?_
  ·intro i H' hi pv'
   refine⟨rfl,kD (d7 ?_)⟩
   refine⟨_,rfl,_,rfl,a,ns,20+8*P_ ns+4*L_ ns+12*i,?_,hl.same (s3.trans (s4.trans pv'.same)),λH5 q s5 hq=>?_⟩
   ·show [V.ref a,V.int (20+8*((P_ ns:Nat):Int)+4*((L_ ns:Nat):Int)+(i:Nat)*12)]=[V.ref a,V.int ((20+8*P_ ns+4*L_ ns+12*i:Nat):Int)]
    rw[show(20:Int)+8*((P_ ns:Nat):Int)+4*((L_ ns:Nat):Int)+(i:Nat)*12=((20+8*P_ ns+4*L_ ns+12*i:Nat):Int) by lia]
   have nq:q≠D5:=λz=>by
    obtain⟨as,_,h2,_⟩:=pv'
    have h2:=s5 _ _ h2
    rw[z,h2]at hq
    cases hq
   exact pv'.turn hD5 (by rw[hM];lia) (by unfold k8;rw[Gp,IS hi];rfl) s5 hq nq
  intro H5 pv5
  obtain⟨s5,t5⟩:=pv5.done (by rw[hM];exact nlr _)
  have sB:ak H H5:=s3.trans (s4.trans s5)
  refine⟨_,rfl,a,ns,4,4,rfl,hl.same sB,λH6 s6=>?_⟩
  refine⟨_,rfl,a,ns,8,4,rfl,hl.same (sB.trans s6),λH7 s7=>?_⟩
  refine⟨_,rfl,_,rfl,_,rfl,λx dx nx ndx nex=>?_⟩
  refine⟨x,dx,_,_,D,D2,D5,rfl,ae,λH8 h8 kp=>⟨rfl,?_⟩⟩
  have s8:ak H7 H8:=ak.made nx ndx kp
  have sC:=s6.trans (s7.trans s8)
  refine k H8 x (sB.trans sC) ⟨dx,D,D2,D5,?_,?_,?_,?_⟩
  ·rw[h8]
   show some (HO.ins C dx (fg (rd ns 4 4) (rd ns 8 4) D D2 D5))=_
   rw[cV hb,cV hb]
   rfl
  ·rw[<-vH hb]
   exact t3.same (s4.trans (s5.trans sC))
  ·rw[<-wM hb]
   exact t4.same (s5.trans sC)
  ·rw[<-wq hb]
   exact t5.same sC
def cI (K:Hq)(H:Hp)(a:Gb)(p:Pt):Prop:=(∃hG:List Int,SqT K H a (iV ((p.x:Int) :: (p.y:Int) :: hG)))/\p.x<4294967296/\p.y<4294967296
theorem cI.same {K:Hq}{H H':Hp}{a:Gb}{p:Pt}(h:cI K H a p)(s:ak H H'):cI K H' a p:=by
 obtain⟨⟨r,h1⟩,h2⟩:=h
 exact⟨⟨r,i4 s h1⟩,h2⟩
theorem aH {p:Prop}[Decidable p](h:¬decide p=true):¬p:=λz=>h (dqt z)
theorem cE {b:Bool}(h:b=true->False):b=false:=by
 cases b with
 |false=>rfl
 |true=>exact(h rfl).elim
def lv (K:Hq):Sp:=λvs H Q _=>∃(a b c:Gb) (p q r:Pt),vs=[.ref a,.ref b,.ref c]/\cI K H a p/\cI K H b q/\cI K H c r/\Q (.int (HW p q r)) H
theorem Bb:aq ["p","q","r"] ["p","q","r"] (ag qb):=fsk
theorem Az (F:Has K mg "turn" qb ["p","q","r"]):Cb P w K mg base 1 "turn" ["p","q","r"] (lv K):=by
 refine F.cb Bb (λvs H Q E h=>?_) (λ_ _ A _ s H vs Q E hr h=>?_)
 ·obtain⟨a,b,c,p,q,r,rfl,_⟩:=h
  rfl
 ·obtain⟨a,b,c,p,q,r,rfl,⟨⟨rp,hp⟩,b1⟩,⟨⟨rq,hq⟩,b2⟩,⟨⟨rr,hr'⟩,b3⟩,k⟩:=h
  refine⟨_,af (al (aR eS (aR cJ (aR eS (aw aD (pv 1) ah (λ_ _=>rfl)) (aw aD (pv 0) ah (λ_ _=>rfl))) (aR eS (aw aD (pv 2) ah (λ_ _=>rfl)) (aw aD (pv 1) ah (λ_ _=>rfl)))) (aR cJ (aR eS (aw aD (pv 1) ah (λ_ _=>rfl)) (aw aD (pv 0) ah (λ_ _=>rfl))) (aR eS (aw aD (pv 2) ah (λ_ _=>rfl)) (aw aD (pv 1) ah (λ_ _=>rfl)))))),?_⟩
  exact⟨_,rfl,b,_,_,_,rfl,rfl,hq,aC (j:=0) rfl rfl,_,rfl,a,_,_,_,rfl,rfl,hp,aC (j:=0) rfl rfl,_,_,rfl,rfl,_,rfl,c,_,_,_,rfl,rfl,hr',aC (j:=1) rfl rfl,_,rfl,b,_,_,_,rfl,rfl,hq,aC (j:=1) rfl rfl,_,_,rfl,rfl,_,_,rfl,rfl,.inl ⟨by lia,by lia⟩,_,rfl,b,_,_,_,rfl,rfl,hq,aC (j:=1) rfl rfl,_,rfl,a,_,_,_,rfl,rfl,hp,aC (j:=1) rfl rfl,_,_,rfl,rfl,_,rfl,c,_,_,_,rfl,rfl,hr',aC (j:=0) rfl rfl,_,rfl,b,_,_,_,rfl,rfl,hq,aC (j:=0) rfl rfl,_,_,rfl,rfl,_,_,rfl,rfl,.inl ⟨by lia,by lia⟩,_,_,rfl,rfl,k⟩
def yx (K:Hq):Sp:=λvs H Q _=>∃(a b:Gb) (q p:Pt),vs=[.ref a,.ref b]/\cI K H a q/\cI K H b p/\∀H':Hp,ak H H'->Q (.bl (p.below q)) H'
theorem Fl:aq ["q","p"] ["q","p"] (ag eC):=fsk
theorem vD (p q:Pt):gI [(q.y:Int),(q.x:Int)] [(p.y:Int),(p.x:Int)]=p.below q:=by
 rw[jU,jU]
 unfold Pt.below
 have e0:gI [] []=false:=rfl
 rw[e0,G0]
 by_cases c:(q.y:Int)=(p.y:Int)
 ·rw[Gk c]
  by_cases d:(q.x:Int)=(p.x:Int)
  ·rw[Gk d]
   simp
   lia
  ·rw[Gf d]
   simp
   lia
 ·rw[Gf c]
  simp
  lia
theorem DG (F:Has K mg "comes_behind" eC ["q","p"]):Cb P w K mg base 1 "comes_behind" ["q","p"] (yx K):=by
 refine F.cb Fl (λvs H Q E h=>?_) (λ_ _ A _ s H vs Q E hr h=>?_)
 ·obtain⟨a,b,q,p,rfl,_⟩:=h
  rfl
 ·obtain⟨a,b,q,p,rfl,⟨⟨rq,hq⟩,_⟩,⟨⟨rp,hp⟩,_⟩,k⟩:=h
  refine⟨_,af (al (cu (BN hr.units0) (bG (aa (aw aD (pv 0) ah (λ_ _=>rfl)) (aa (aw aD (pv 0) ah (λ_ _=>rfl)) ac))) (bG (aa (aw aD (pv 1) ah (λ_ _=>rfl)) (aa (aw aD (pv 1) ah (λ_ _=>rfl)) ac))) (aI _))),?_⟩
  refine⟨_,rfl,a,_,_,_,rfl,rfl,hq,aC (j:=1) rfl rfl,_,rfl,a,_,_,_,rfl,rfl,hq,aC (j:=0) rfl rfl,(by show 2<=Ge;decide),λt ht=>?_⟩
  have s1:ak H (upd H t (.tup [.int (q.y:Int),.int (q.x:Int)])):=aJ ht
  refine⟨_,rfl,b,_,_,_,rfl,rfl,(i4 s1 hp),aC (j:=1) rfl rfl,_,rfl,b,_,_,_,rfl,rfl,(i4 s1 hp),aC (j:=0) rfl rfl,(by show 2<=Ge;decide),λu hu=>?_⟩
  have s2:=aV (o:=.tup [.int (p.y:Int),.int (p.x:Int)]) s1 hu
  have ntu:t≠u:=λz=>by rw[<-z,ae]at hu;cases hu
  refine⟨t,u,[(q.y:Int),(q.x:Int)],[(p.y:Int),(p.x:Int)],rfl,rfl,SqT.of (by rw[ap ntu];exact ae),SqT.of ae,?_⟩
  rw[vD]
  exact k _ s2
def wz (p q r:Pt):Bool:=Gla.between p.x q.x r.x&&Gla.between p.y q.y r.y
theorem vn {p q r:Pt}:wz p q r=true↔(min p.x q.x<=r.x/\r.x<=max p.x q.x)/\(min p.y q.y<=r.y/\r.y<=max p.y q.y):=by
 unfold wz Gla.between
 simp only[Gi,Gj]
def AY (K:Hq):Sp:=λvs H Q _=>∃(a b c:Gb) (p q r:Pt),vs=[.ref a,.ref b,.ref c]/\cI K H a p/\cI K H b q/\cI K H c r/\Q (.bl (wz p q r)) H
theorem EE:aq ["p","q","r"] ["p","q","r"] (ag gd):=fsk
theorem pT:IM "min"=some (.builtin "min"):=by decide +kernel
theorem oZ:IM "max"=some (.builtin "max"):=by decide +kernel
theorem qK (a b:Nat):(if (b:Int)<(a:Int) then (b:Int) else (a:Int))=((min a b:Nat):Int):=by
 split<;>lia
theorem tY (a b:Nat):(if (b:Int) > (a:Int) then (b:Int) else (a:Int))=((max a b:Nat):Int):=by
 split<;>lia
theorem Bm (F:Has K mg "is_in_box" gd ["p","q","r"]) (gmi:mg "min"=none) (gma:mg "max"=none):Cb P w K mg base 1 "is_in_box" ["p","q","r"] (AY K):=by
 refine F.cb EE (λvs H Q E h=>?_) (λ_ _ A _ s H vs Q E hr h=>?_)
 ·obtain⟨a,b,c,p,q,r,rfl,_⟩:=h
  rfl
 ·obtain⟨a,b,c,p,q,r,rfl,⟨⟨rp,hp⟩,b1⟩,⟨⟨rq,hq⟩,b2⟩,⟨⟨rr,hr'⟩,b3⟩,k⟩:=h
  refine⟨_,af (al (iP
   (ko lK lK (aZ (pJ rfl) (by rfl) gmi pT (aa (aw aD (pv 0) ah (λ_ _=>rfl)) (aa (aw aD (pv 1) ah (λ_ _=>rfl)) ac))) (aw aD (pv 2) ah (λ_ _=>rfl)) (aZ (pd rfl) (by rfl) gma oZ (aa (aw aD (pv 0) ah (λ_ _=>rfl)) (aa (aw aD (pv 1) ah (λ_ _=>rfl)) ac))))
   (eG (ko lK lK (aZ (pJ rfl) (by rfl) gmi pT (aa (aw aD (pv 0) ah (λ_ _=>rfl)) (aa (aw aD (pv 1) ah (λ_ _=>rfl)) ac))) (aw aD (pv 2) ah (λ_ _=>rfl)) (aZ (pd rfl) (by rfl) gma oZ (aa (aw aD (pv 0) ah (λ_ _=>rfl)) (aa (aw aD (pv 1) ah (λ_ _=>rfl)) ac))))))),?_⟩
  have no:¬((min p.x q.x<=r.x/\r.x<=max p.x q.x)/\(min p.y q.y<=r.y/\r.y<=max p.y q.y))->Q (.bl false) H:=λz=>by
   rw[cE λe=>z (vn.1 e)]at k
   exact k
  refine⟨_,rfl,a,_,_,_,rfl,rfl,hp,aC (j:=0) rfl rfl,_,rfl,b,_,_,_,rfl,rfl,hq,aC (j:=0) rfl rfl,_,_,rfl,_,rfl,c,_,_,_,rfl,rfl,hr',aC (j:=0) rfl rfl,_,_,rfl,rfl,_,rfl,aU (λc1=>?_) (λc1=>?_)⟩
  ·have c1:=FY c1
   rw[qK]at c1
   refine⟨_,rfl,a,_,_,_,rfl,rfl,hp,aC (j:=0) rfl rfl,_,rfl,b,_,_,_,rfl,rfl,hq,aC (j:=0) rfl rfl,_,_,rfl,_,_,rfl,rfl,_,rfl,aU (λc2=>?_) (λc2=>?_)⟩
   ·have c2:=FY c2
    rw[tY]at c2
    refine⟨_,rfl,a,_,_,_,rfl,rfl,hp,aC (j:=1) rfl rfl,_,rfl,b,_,_,_,rfl,rfl,hq,aC (j:=1) rfl rfl,_,_,rfl,_,rfl,c,_,_,_,rfl,rfl,hr',aC (j:=1) rfl rfl,_,_,rfl,rfl,_,rfl,aU (λc3=>?_) (λc3=>?_)⟩
    ·have c3:=FY c3
     rw[qK]at c3
     refine⟨_,rfl,a,_,_,_,rfl,rfl,hp,aC (j:=1) rfl rfl,_,rfl,b,_,_,_,rfl,rfl,hq,aC (j:=1) rfl rfl,_,_,rfl,_,_,rfl,rfl,?_⟩
     rw[tY]
     have e:wz p q r=decide ((r.y:Int)<=((max p.y q.y:Nat):Int)):=by
      rw[G0,vn,Gj]
      lia
     rw[e]at k
     exact k
    ·have c3:=aH c3
     rw[qK]at c3
     exact no (by lia)
   ·have c2:=aH c2
    rw[tY]at c2
    exact no (by lia)
  ·have c1:=aH c1
   rw[qK]at c1
   exact⟨_,rfl,jN (no (by lia))⟩
def Cp (K:Hq):Sp:=λvs H Q _=>∃(a b c:Gb) (p q r:Pt),vs=[.ref a,.ref b,.ref c]/\cI K H a p/\cI K H b q/\cI K H c r/\Q (.bl (Gla.isOn p q r)) H
theorem Fs:aq ["p","q","r"] ["p","q","r"] (ag mf):=fsk
theorem Dd (F:Has K mg "is_on" mf ["p","q","r"]) (C1:Cb P w K mg base 1 "turn" ["p","q","r"] (lv K)) (C2:Cb P w K mg base 1 "is_in_box" ["p","q","r"] (AY K)):Cb P w K mg base 2 "is_on" ["p","q","r"] (Cp K):=by
 refine F.cb Fs (λvs H Q E h=>?_) (λ_ _ A _ s H vs Q E hr h=>?_)
 ·obtain⟨a,b,c,p,q,r,rfl,_⟩:=h
  rfl
 ·obtain⟨a,b,c,p,q,r,rfl,hp,hq,hr',k⟩:=h
  refine⟨_,af (al (iP (cu j5 (aB C1 hr (aa (pv 0) (aa (pv 1) (aa (pv 2) ac)))) ah (aI _)) (eG (aB C2 hr (aa (pv 0) (aa (pv 1) (aa (pv 2) ac))))))),?_⟩
  refine⟨_,rfl,_,rfl,_,rfl,a,b,c,p,q,r,rfl,hp,hq,hr',rfl,_,rfl,aU (λc1=>?_) (λc1=>?_)⟩
  ·have c1:=V.int.inj (FY c1)
   refine⟨_,rfl,_,rfl,_,rfl,a,b,c,p,q,r,rfl,hp,hq,hr',?_⟩
   have e:Gla.isOn p q r=wz p q r:=by
    unfold Gla.isOn wz
    rw[c1]
    rfl
   rw[e]at k
   exact k
  ·have e:Gla.isOn p q r=false:=by
    unfold Gla.isOn
    have:(HW p q r==0)=false:=by
     rw[HK]
     intro z
     exact c1 (dqt (by rw[z]))
    rw[this]
    rfl
   rw[e]at k
   exact k
def sj (p q r s:Pt):Bool:=decide (HW p q r*HW p q s<0)
theorem ss (a b:Int):a*b<0↔(a<0/\0<b)\/(0<a/\b<0):=by
 constructor
 ·intro h
  rcases Int.lt_trichotomy a 0 with c|c|c
  ·left
   refine⟨c,?_⟩
   apply bcn
   intro d
   have:0<=(-a)*(-b):=Gg (by lia) (by lia)
   grind
  ·rw[c]at h
   simp at h
  ·right
   refine⟨c,?_⟩
   apply bcn
   intro d
   have:0<=a*b:=Gg (by lia) (by lia)
   lia
 ·rintro(⟨h1,h2⟩|⟨h1,h2⟩)
  ·exact Int.mul_neg_of_neg_of_pos h1 h2
  ·exact Int.mul_neg_of_pos_of_neg h1 h2
def xH (K:Hq):Sp:=λvs H Q _=>∃(a b c d:Gb) (p q r s:Pt),vs=[.ref a,.ref b,.ref c,.ref d]/\cI K H a p/\cI K H b q/\cI K H c r/\cI K H d s/\Q (.bl (sj p q r s)) H
theorem t6:aq ["p","q","r","s","one","other"] ["p","q","r","s"] (ag fA):=fsk
theorem Ao (F:Has K mg "are_parted" fA ["p","q","r","s"]) (C1:Cb P w K mg base 1 "turn" ["p","q","r"] (lv K)):Cb P w K mg base 2 "are_parted" ["p","q","r","s"] (xH K):=by
 refine F.cb t6 (λvs H Q E h=>?_) (λ_ _ A _ s H vs Q E hr h=>?_)
 ·obtain⟨a,b,c,d,p,q,r,s,rfl,_⟩:=h
  rfl
 ·obtain⟨a,b,c,d,p,q,r,s',rfl,hp,hq,hr',hs,k⟩:=h
  refine⟨_,ad (aA (i:=4) t6.nd rfl (.inl rfl) (aB C1 hr (aa (pv 0) (aa (pv 1) (aa (pv 2) ac)))))
   (ad (aA (i:=5) t6.nd rfl (.inl rfl) (aB C1 hr (aa (pv 0) (aa (pv 1) (aa (pv 3) ac)))))
   (af (al (sw (iP (cu fZ (pv 4) ah (aI _)) (eG (cu eg (pv 5) ah (aI _)))) (eG (iP (cu eg (pv 4) ah (aI _)) (eG (cu fZ (pv 5) ah (aI _))))))))),?_⟩
  refine⟨_,rfl,_,rfl,_,rfl,a,b,c,p,q,r,rfl,hp,hq,hr',?_⟩
  refine⟨_,rfl,_,rfl,_,rfl,a,b,d,p,q,s',rfl,hp,hq,hs,?_⟩
  have yes:(HW p q r<0/\0<HW p q s')\/(0<HW p q r/\HW p q s'<0)->Q (.bl true) H:=λz=>by
   have e:sj p q r s'=true:=dqt ((ss _ _).2 z)
   rw[e]at k
   exact k
  have no:¬((HW p q r<0/\0<HW p q s')\/(0<HW p q r/\HW p q s'<0))->Q (.bl false) H:=λz=>by
   have e:sj p q r s'=false:=dqf (λy=>z ((ss _ _).1 y))
   rw[e]at k
   exact k
  have second:¬(HW p q r<0/\0<HW p q s')->AM (tOp (rI0 λi j=>.bl (decide (j<i))) (aY 4) (tC (.int 0))) (tOp (rI0 λi j=>.bl (decide (i<j))) (aY 5) (tC (.int 0))) [some (.ref a),some (.ref b),some (.ref c),some (.ref d),some (.int (HW p q r)),some (.int (HW p q s'))] H Q:=λz=>by
   refine⟨_,rfl,_,_,rfl,rfl,_,rfl,aU (λc2=>?_) (λc2=>?_)⟩
   ·have c2:=FY c2
    refine⟨_,rfl,_,_,rfl,rfl,?_⟩
    show Q (.bl (decide (HW p q s'<0))) H
    by_cases d2:HW p q s'<0
    ·rw[dqt d2]
     exact yes (Hr ⟨c2,d2⟩)
    ·rw[dqf d2]
     exact no (by lia)
   ·have c2:=aH c2
    exact no (by lia)
  refine⟨_,rfl,_,_,rfl,rfl,_,rfl,aU (λc1=>?_) (λc1=>?_)⟩
  ·have c1:=FY c1
   refine⟨_,rfl,_,_,rfl,rfl,_,rfl,aU (λc2=>?_) (λc2=>?_)⟩
   ·have c2:=FY c2
    exact yes (HZ ⟨c1,c2⟩)
   ·have c2:=aH c2
    exact second (by lia)
  ·have c1:=aH c1
   exact⟨_,rfl,jN (second (by lia))⟩
def uw (K:Hq):Sp:=λvs H Q _=>∃(a b c d:Gb) (p q r s:Pt),vs=[.ref a,.ref b,.ref c,.ref d]/\cI K H a p/\cI K H b q/\cI K H c r/\cI K H d s/\Q (.bl (Gla.crosses p q r s)) H
theorem z9:aq ["p","q","r","s"] ["p","q","r","s"] (ag iC):=fsk
theorem xT (F:Has K mg "do_cross" iC ["p","q","r","s"]) (C1:Cb P w K mg base 2 "are_parted" ["p","q","r","s"] (xH K)):Cb P w K mg base 3 "do_cross" ["p","q","r","s"] (uw K):=by
 refine F.cb z9 (λvs H Q E h=>?_) (λ_ _ A _ s H vs Q E hr h=>?_)
 ·obtain⟨a,b,c,d,p,q,r,s,rfl,_⟩:=h
  rfl
 ·obtain⟨a,b,c,d,p,q,r,s',rfl,hp,hq,hr',hs,k⟩:=h
  refine⟨_,af (al (iP (aB C1 hr (aa (pv 0) (aa (pv 1) (aa (pv 2) (aa (pv 3) ac))))) (eG (aB C1 hr (aa (pv 2) (aa (pv 3) (aa (pv 0) (aa (pv 1) ac)))))))),?_⟩
  have e:Gla.crosses p q r s'=(sj p q r s'&&sj r s' p q):=rfl
  rw[e]at k
  refine⟨_,rfl,_,rfl,_,rfl,_,rfl,a,b,c,d,p,q,r,s',rfl,hp,hq,hr',hs,_,rfl,aU (λc1=>?_) (λc1=>?_)⟩
  ·refine⟨_,rfl,_,rfl,_,rfl,_,rfl,c,d,a,b,r,s',p,q,rfl,hr',hs,hp,hq,?_⟩
   rw[c1,HA]at k
   exact k
  ·have c1:=cE c1
   rw[c1,G5]at k
   exact k
def PL (K:Hq)(H:Hp)(a:Gb)(ps:List Pt):Prop:=∃as:List Gb,SqL K H a (as.map V.ref)/\as.length=ps.length/\∀(i:Nat) (b:Gb) (p:Pt),as[i]? = some b->ps[i]? = some p->cI K H b p
def crs (a b:Pt):Int:=(a.x:Int)*(b.y:Int)-(a.y:Int)*(b.x:Int)
def du:Pt->List Pt->Int
 |_,[]=>0
 |l,c :: r=>crs l c+du c r
def dk (p q r:Pt):Bool:=if p.y<=r.y/\r.y<q.y then decide (0<HW p q r) else if q.y<=r.y/\r.y<p.y then decide (0<HW q p r) else false
def fj (z:Pt):Pt->List Pt->Bool
 |_,[]=>false
 |l,c :: r=>dk l c z^^fj z c r
theorem ke {α:Type}{ps:List α}(h:ps≠[]):∃(init:List α) (l:α),ps=init++[l]:=by
 rcases Jg ps with e|⟨i,l,e⟩
 ·exact absurd e h
 ·exact⟨i,l,by rw[e,JK]⟩
theorem PL.last {H:Hp}{a:Gb}{ps init:List Pt}{l:Pt}(h:PL K H a ps)(e:ps=init++[l]):∃(as:List Gb) (la:Gb),SqL K H a (as.map V.ref)/\as.length=ps.length/\atI (as.map V.ref) (-1)=some (.ref la)/\cI K H la l /\
  ∀(i:Nat) (b:Gb) (p:Pt),as[i]? = some b->ps[i]? = some p->cI K H b p:=by
 obtain⟨as,h1,h2,h3⟩:=h
 have hne:as≠[]:=λz=>by
  rw[z,e,Gd]at h2
  simp at h2
 obtain⟨ai,la,ea⟩:=ke hne
 refine⟨as,la,h1,h2,?_,?_,h3⟩
 ·rw[ea,GA]
  exact nG _ _
 ·have hl:ai.length=init.length:=by
   rw[ea,e,Gd,Gd]at h2
   simpa using h2
  refine h3 ai.length la l ?_ ?_
  ·rw[ea,Gx (nlr _),HG]
   rfl
  ·rw[e,hl,Gx (nlr _),HG]
   rfl
def qU (K:Hq):Sp:=λvs H Q _=>∃(a:Gb) (ps init:List Pt) (l:Pt),vs=[.ref a]/\PL K H a ps/\ps=init++[l]/\Q (.int (du l ps)) H
theorem lx:aq ["corners","total","last","corner"] ["corners"] (ag fB):=fsk
theorem zK (F:Has K mg "twice_area" fB ["corners"]):Cb P w K mg base 1 "twice_area" ["corners"] (qU K):=by
 refine F.cb lx (λvs H Q E h=>?_) (λ_ _ A _ s H vs Q E hr h=>?_)
 ·obtain⟨a,ps,init,l,rfl,_⟩:=h
  rfl
 ·obtain⟨a,ps,init,l,rfl,hl,ei,k⟩:=h
  obtain⟨as,la,h1,h2,h3,h4,h5⟩:=hl.last ei
  refine⟨_,ad (aA (i:=1) lx.nd rfl (.inl rfl) ah)
   (ad (aA (i:=2) lx.nd rfl (.inl rfl) (aw aW (pv 0) (m5 jQ ah) (λ_ _=>rfl)))
   (ad (bB Gy rfl (bH (pv 0)) (ao (i:=3) lx.nd rfl (.inl rfl))
    (ad (xf (i:=1) lx.nd rfl (.inl rfl) (aR eS (aR cJ (aw aD (pv 2) ah (λ_ _=>rfl)) (aw aD (pv 3) ah (λ_ _=>rfl))) (aR cJ (aw aD (pv 2) ah (λ_ _=>rfl)) (aw aD (pv 3) ah (λ_ _=>rfl)))) xI) (af (aA (i:=2) lx.nd rfl (.inl rfl) (pv 3)))))
   (af (al (pv 1))))),?_⟩
  refine⟨_,rfl,_,rfl,a,_,_,_,rfl,rfl,h1,h3,?_⟩
  refine⟨_,rfl,a,rfl,⟨_,h1⟩,eq (K:=K) (a:=a) (xs:=as.map V.ref) (λi σ H'=>H'=H/\∃(t:Int) (lb:Gb) (lp:Pt) (v:Option V),σ=[some (.ref a),some (.int t),some (.ref lb),v]/\cI K H lb lp/\t+du lp (ps.drop i)=du l ps)
   ⟨rfl,0,la,l,none,rfl,h4,by rw[List.drop_zero,Int.zero_add]⟩ (λi σ H' _ h=>by rw[h.1];exact h1) ?_ ?_⟩
  ·rintro i y σ H' hi ⟨rfl,t,lb,lp,v,rfl,⟨⟨rl,hlb⟩,b1⟩,ht⟩
   obtain⟨c,hc,rfl⟩:=bW hi
   have hil:i<ps.length:=by rw[<-h2];exact(gsi hc).1
   have hp:ps[i]? = some ps[i]:=gge hil
   have hpt:=h5 i c ps[i] hc hp
   obtain⟨⟨rc,hcc⟩,b2⟩:=id hpt
   refine⟨_,rfl,_,rfl,lb,_,_,_,rfl,rfl,hlb,aC (j:=0) rfl rfl,_,rfl,c,_,_,_,rfl,rfl,hcc,aC (j:=1) rfl rfl,_,_,rfl,rfl,.inl ⟨by lia,by lia⟩,_,rfl,lb,_,_,_,rfl,rfl,hlb,aC (j:=1) rfl rfl,_,rfl,c,_,_,_,rfl,rfl,hcc,aC (j:=0) rfl rfl,_,_,rfl,rfl,.inl ⟨by lia,by lia⟩,_,_,rfl,rfl,_,_,rfl,rfl,_,rfl,?_⟩
   refine⟨rfl,_,c,ps[i],_,rfl,hpt,?_⟩
   rw[<-ht,Iv hil]
   show t+crs lp ps[i]+du ps[i] (ps.drop (i+1))=t+(crs lp ps[i]+du ps[i] (ps.drop (i+1)))
   lia
  ·rintro σ H' ⟨rfl,t,lb,lp,v,rfl,_,ht⟩
   refine⟨_,rfl,?_⟩
   rw[lmp,h2,List.drop_length]at ht
   have e:t=du l ps:=by
    rw[<-ht]
    show t=t+0
    lia
   rw[e]
   exact k
def AF (K:Hq):Sp:=λvs H Q _=>∃(a b c:Gb) (p q r:Pt),vs=[.ref a,.ref b,.ref c]/\cI K H a p/\cI K H b q/\cI K H c r/\Q (.bl (dk p q r)) H
theorem Ew:aq ["p","q","r"] ["p","q","r"] (ag dG):=fsk
theorem BW (F:Has K mg "is_left_beside" dG ["p","q","r"]) (C1:Cb P w K mg base 1 "turn" ["p","q","r"] (lv K)):Cb P w K mg base 2 "is_left_beside" ["p","q","r"] (AF K):=by
 refine F.cb Ew (λvs H Q E h=>?_) (λ_ _ A _ s H vs Q E hr h=>?_)
 ·obtain⟨a,b,c,p,q,r,rfl,_⟩:=h
  rfl
 ·obtain⟨a,b,c,p,q,r,rfl,hp0,hq0,hr0,k⟩:=h
  obtain⟨⟨rp,hp⟩,b1⟩:=id hp0
  obtain⟨⟨rq,hq⟩,b2⟩:=id hq0
  obtain⟨⟨rr,hr'⟩,b3⟩:=id hr0
  refine⟨_,ad (a4 (mU lK fZ (aw aD (pv 0) ah (λ_ _=>rfl)) (aw aD (pv 2) ah (λ_ _=>rfl)) (aw aD (pv 1) ah (λ_ _=>rfl))) (af (al (cu eg (aB C1 hr (aa (pv 0) (aa (pv 1) (aa (pv 2) ac)))) ah (aI _)))) aL)
   (ad (a4 (mU lK fZ (aw aD (pv 1) ah (λ_ _=>rfl)) (aw aD (pv 2) ah (λ_ _=>rfl)) (aw aD (pv 0) ah (λ_ _=>rfl))) (af (al (cu eg (aB C1 hr (aa (pv 1) (aa (pv 0) (aa (pv 2) ac)))) ah (aI _)))) aL)
   (af (al eD))),?_⟩
  have first:p.y<=r.y/\r.y<q.y->Q (.bl (decide (0<HW p q r))) H:=λz=>by
   unfold dk at k
   rw[Gk z]at k
   exact k
  have second:¬(p.y<=r.y/\r.y<q.y)->Bx (tF (fq (tI (rI0 λi j=>.bl (decide (i<=j))) (rI0 λi j=>.bl (decide (i<j))) (tOp (qX K) (aY 1) (tC (.int 1))) (tOp (qX K) (aY 2) (tC (.int 1))) (tOp (qX K) (aY 0) (tC (.int 1)))))
    (m9 (tOp (rI0 λi j=>.bl (decide (j<i))) (iM (lv K) [] E0 (a8 (aY 1) (a8 (aY 0) (a8 (aY 2) fc)))) (tC (.int 0)))) mB) (m9 (tC (.bl false))) { nx:=λ_ H'=>Q .non H',rt:=Q } [some (.ref a),some (.ref b),some (.ref c)] H:=λz=>by
   refine⟨_,rfl,b,_,_,_,rfl,rfl,hq,aC (j:=1) rfl rfl,_,rfl,c,_,_,_,rfl,rfl,hr',aC (j:=1) rfl rfl,_,_,rfl,rfl,_,rfl,aU (λc1=>?_) (λc1=>?_)⟩
   ·have c1:=FY c1
    refine⟨_,rfl,a,_,_,_,rfl,rfl,hp,aC (j:=1) rfl rfl,_,_,rfl,rfl,_,rfl,aU (λc2=>?_) (λc2=>?_)⟩
    ·have c2:=FY c2
     refine⟨_,rfl,_,rfl,_,rfl,b,a,c,q,p,r,rfl,hq0,hp0,hr0,_,_,rfl,rfl,?_⟩
     unfold dk at k
     rw[Gf z,Gk (by lia)]at k
     exact k
    ·have c2:=aH c2
     unfold dk at k
     rw[Gf z,Gf (by lia)]at k
     exact k
   ·have c1:=aH c1
    unfold dk at k
    rw[Gf z,Gf (by lia)]at k
    exact⟨_,rfl,jN k⟩
  refine⟨_,rfl,a,_,_,_,rfl,rfl,hp,aC (j:=1) rfl rfl,_,rfl,c,_,_,_,rfl,rfl,hr',aC (j:=1) rfl rfl,_,_,rfl,rfl,_,rfl,aU (λc1=>?_) (λc1=>?_)⟩
  ·have c1:=FY c1
   refine⟨_,rfl,b,_,_,_,rfl,rfl,hq,aC (j:=1) rfl rfl,_,_,rfl,rfl,_,rfl,aU (λc2=>?_) (λc2=>?_)⟩
   ·have c2:=FY c2
    exact⟨_,rfl,_,rfl,_,rfl,a,b,c,p,q,r,rfl,hp0,hq0,hr0,_,_,rfl,rfl,first (by lia)⟩
   ·have c2:=aH c2
    exact second (by lia)
  ·have c1:=aH c1
   exact⟨_,rfl,jN (second (by lia))⟩
def CG (K:Hq):Sp:=λvs H Q _=>∃(a c:Gb) (ps init:List Pt) (l z:Pt),vs=[.ref a,.ref c]/\PL K H a ps/\ps=init++[l]/\cI K H c z/\Q (.bl (fj z l ps)) H
theorem ww:aq ["corners","r","inside","last","corner"] ["corners","r"] (ag gt):=fsk
theorem Ej (F:Has K mg "is_inside" gt ["corners","r"]) (C1:Cb P w K mg base 2 "is_left_beside" ["p","q","r"] (AF K)):Cb P w K mg base 3 "is_inside" ["corners","r"] (CG K):=by
 refine F.cb ww (λvs H Q E h=>?_) (λ_ _ A _ s H vs Q E hr h=>?_)
 ·obtain⟨a,c,ps,init,l,z,rfl,_⟩:=h
  rfl
 ·obtain⟨a,c,ps,init,l,z,rfl,hl,ei,hz,k⟩:=h
  obtain⟨as,la,h1,h2,h3,h4,h5⟩:=hl.last ei
  refine⟨_,ad (aA (i:=2) ww.nd rfl (.inl rfl) eD)
   (ad (aA (i:=3) ww.nd rfl (.inl rfl) (aw aW (pv 0) (m5 jQ ah) (λ_ _=>rfl)))
   (ad (bB Gy rfl (bH (pv 0)) (ao (i:=4) ww.nd rfl (.inl rfl))
    (ad (a4 (cG (aB C1 hr (aa (pv 3) (aa (pv 4) (aa (pv 1) ac))))) (af (aA (i:=2) ww.nd rfl (.inl rfl) (xn (pv 2)))) aL) (af (aA (i:=3) ww.nd rfl (.inl rfl) (pv 4)))))
   (af (al (pv 2))))),?_⟩
  refine⟨_,rfl,_,rfl,a,_,_,_,rfl,rfl,h1,h3,?_⟩
  refine⟨_,rfl,a,rfl,⟨_,h1⟩,eq (K:=K) (a:=a) (xs:=as.map V.ref) (λi σ H'=>H'=H/\∃(t:Bool) (lb:Gb) (lp:Pt) (v:Option V),σ=[some (.ref a),some (.ref c),some (.bl t),some (.ref lb),v]/\cI K H lb lp/\(t^^fj z lp (ps.drop i))=fj z l ps)
   ⟨rfl,false,la,l,none,rfl,h4,by rw[List.drop_zero,Hs]⟩ (λi σ H' _ h=>by rw[h.1];exact h1) ?_ ?_⟩
  ·rintro i y σ H' hi ⟨rfl,t,lb,lp,v,rfl,hlb,ht⟩
   obtain⟨cc,hc,rfl⟩:=bW hi
   have hil:i<ps.length:=by rw[<-h2];exact(gsi hc).1
   have hp:ps[i]? = some ps[i]:=gge hil
   have hpt:=h5 i cc ps[i] hc hp
   rw[Iv hil]at ht
   have ht:(t^^(dk lp ps[i] z^^fj z ps[i] (ps.drop (i+1))))=fj z l ps:=ht
   refine⟨_,rfl,_,rfl,_,rfl,lb,cc,c,lp,ps[i],z,rfl,hlb,hpt,hz,_,rfl,aU (λc1=>?_) (λc1=>?_)⟩
   ·refine⟨_,rfl,_,rfl,_,rfl,?_⟩
    refine⟨rfl,!t,cc,ps[i],_,rfl,hpt,?_⟩
    rw[<-ht,c1]
    cases t<;>cases fj z ps[i] (ps.drop (i+1))<;>rfl
   ·refine⟨_,rfl,?_⟩
    refine⟨rfl,t,cc,ps[i],_,rfl,hpt,?_⟩
    rw[<-ht,cE c1,Hs]
  ·rintro σ H' ⟨rfl,t,lb,lp,v,rfl,_,ht⟩
   refine⟨_,rfl,?_⟩
   rw[lmp,h2,List.drop_length]at ht
   have e:t=fj z l ps:=by
    rw[<-ht]
    show t=(t^^false)
    rw[HU]
   rw[e]
   exact k
structure SB (S:Gla.Plan):Prop where
 pts:∀p∈S.pts,p.x<4294967296/\p.y<4294967296
 mks:∀m∈S.marks,m.at_.x<4294967296/\m.at_.y<4294967296
 np:S.pts.length<=100000
 nl:S.lines.length<=100000
 nm:S.marks.length<=100000
structure Op (K:Hq)(C:Gb)(H:Hp)(a dx p l m:Gb)(S:Gla.Plan)(ps ls ms:List Gb):Prop where
 at_:H a=some (.ins C dx (fg S.w S.h p l m))
 pl:H p=some (.lst (ps.map V.ref))
 ll:H l=some (.lst (ls.map V.ref))
 ml:H m=some (.lst (ms.map V.ref))
 pn:ps.length=S.pts.length
 ln:ls.length=S.lines.length
 mn:ms.length=S.marks.length
 pt:∀(i:Nat) (b:Gb),ps[i]? = some b->H b=some (.tup (iV (fS (S.pt i))))
 li:∀(i:Nat) (b:Gb) (x:Nat×Nat),ls[i]? = some b->S.lines[i]? = some x->H b=some (.tup (iV (uM x)))
 ma:∀(i:Nat) (b:Gb) (x:IX),ms[i]? = some b->S.marks[i]? = some x->H b=some (.tup (iV (lN x)))
theorem bA.op {K:Hq}{C:Gb}{H:Hp}{a:Gb}{S:Gla.Plan}(h:bA C H a S):∃dx p l m ps ls ms,Op K C H a dx p l m S ps ls ms:=by
 obtain⟨dx,p,l,m,h1,⟨ps,p1,p2,p3⟩,⟨ls,l1,l2,l3⟩,⟨ms,m1,m2,m3⟩⟩:=h
 rw[lmp]at p2 l2 m2
 refine⟨dx,p,l,m,ps,ls,ms,h1,p1,l1,m1,p2,l2,m2,λi b e=>?_,λi b x e1 e2=>?_,λi b x e1 e2=>?_⟩
 ·have hi:i<S.pts.length:=by rw[<-p2];exact(gsi e).1
  exact p3 i b _ e (by rw[Gp,gge hi,WL.bO S hi];rfl)
 ·exact l3 i b _ e1 (by rw[Gp,e2];rfl)
 ·exact m3 i b _ e1 (by rw[Gp,e2];rfl)
theorem Op.same {K:Hq}{C:Gb}{H H':Hp}{a dx p l m:Gb}{S:Gla.Plan}{ps ls ms:List Gb}(o:Op K C H a dx p l m S ps ls ms)(s:ak H H'):Op K C H' a dx p l m S ps ls ms :=
 ⟨s _ _ o.at_,s _ _ o.pl,s _ _ o.ll,s _ _ o.ml,o.pn,o.ln,o.mn,λi b e=>s _ _ (o.pt i b e),λi b x e1 e2=>s _ _ (o.li i b x e1 e2),λi b x e1 e2=>s _ _ (o.ma i b x e1 e2)⟩
theorem Op.draw {K:Hq}{C:Gb}{H:Hp}{a dx p l m:Gb}{S:Gla.Plan}{ps ls ms:List Gb}(o:Op K C H a dx p l m S ps ls ms):bA C H a S:=by
 refine⟨dx,p,l,m,o.at_,⟨ps,o.pl,by rw[lmp,o.pn],λi b r e1 e2=>?_⟩,⟨ls,o.ll,by rw[lmp,o.ln],λi b r e1 e2=>?_⟩,⟨ms,o.ml,by rw[lmp,o.mn],λi b r e1 e2=>?_⟩⟩
 ·have hi:i<S.pts.length:=by rw[<-o.pn];exact(gsi e1).1
  rw[Gp,gge hi]at e2
  have e2:=osi e2
  rw[<-e2,<-WL.bO S hi]
  exact o.pt i b e1
 ·rw[Gp]at e2
  cases e:S.lines[i]? with
  |none=>rw[e]at e2;cases e2
  |some x =>
   rw[e]at e2
   have e2:=osi e2
   rw[<-e2]
   exact o.li i b x e1 e
 ·rw[Gp]at e2
  cases e:S.marks[i]? with
  |none=>rw[e]at e2;cases e2
  |some x =>
   rw[e]at e2
   have e2:=osi e2
   rw[<-e2]
   exact o.ma i b x e1 e
theorem SB.pt {S:Gla.Plan}(h:SB S)(i:Nat):(S.pt i).x<4294967296/\(S.pt i).y<4294967296:=by
 by_cases hi:i<S.pts.length
 ·rw[WL.bO S hi]
  exact h.pts _ (GC hi)
 ·unfold Gla.Plan.pt
  rw[Gr,List.getElem?_eq_none (by lia)]
  decide
theorem Op.ptAt {K:Hq}{C:Gb}{H:Hp}{a dx p l m:Gb}{S:Gla.Plan}{ps ls ms:List Gb}(o:Op K C H a dx p l m S ps ls ms)(sb:SB S){i:Nat}{b:Gb}(e:ps[i]? = some b):cI K H b (S.pt i):=⟨⟨[],SqT.of (o.pt i b e)⟩,sb.pt i⟩
theorem Op.mkAt {K:Hq}{C:Gb}{H:Hp}{a dx p l m:Gb}{S:Gla.Plan}{ps ls ms:List Gb}(o:Op K C H a dx p l m S ps ls ms)(sb:SB S){i:Nat}{b:Gb}{x:IX}(e:ms[i]? = some b)(e2:S.marks[i]? = some x):cI K H b x.at_ :=
 ⟨⟨_,SqT.of (o.ma i b x e e2)⟩,sb.mks x (GV e2)⟩
theorem Op.hasP {K:Hq}{C:Gb}{H:Hp}{a dx p l m:Gb}{S:Gla.Plan}{ps ls ms:List Gb}(o:Op K C H a dx p l m S ps ls ms){i:Nat}(hi:i<S.pts.length):∃b,ps[i]? = some b:=⟨_,gge (by rw[o.pn];exact hi)⟩
theorem Op.hasL {K:Hq}{C:Gb}{H:Hp}{a dx p l m:Gb}{S:Gla.Plan}{ps ls ms:List Gb}(o:Op K C H a dx p l m S ps ls ms){i:Nat}(hi:i<S.lines.length):∃b,ls[i]? = some b:=⟨_,gge (by rw[o.ln];exact hi)⟩
theorem cf {wi he:Int}{p l m:Gb}{f:Str} (h:(f="place_of_point"\/f="place_of_line")\/f="place_of_mark"\/f="place_of_end"):(fg wi he p l m).lookup f=none:=by
 rcases h with(rfl|rfl)|rfl|rfl
 ·exact mF (by decide +kernel) (by decide +kernel) (by decide +kernel) (by decide +kernel) (by decide +kernel)
 ·exact mF (by decide +kernel) (by decide +kernel) (by decide +kernel) (by decide +kernel) (by decide +kernel)
 ·exact mF (by decide +kernel) (by decide +kernel) (by decide +kernel) (by decide +kernel) (by decide +kernel)
 ·exact mF (by decide +kernel) (by decide +kernel) (by decide +kernel) (by decide +kernel) (by decide +kernel)
def jB (r:Int)(pl:Nat->Int)(o:Option Nat):Option (Int×Int):=o.map λi=>(r,pl i)
def ok4 (S:Gla.Plan)(p:Pt):Bool:=decide (p.x<=S.w)&&decide (p.y<=S.h)
def DR (C:Gb):Sp:=λvs H Q _=>∃(a:Gb) (S:Gla.Plan),vs=[.ref a]/\bA C H a S/\SB S/\dH (jB 4 (λi=>20+8*(i:Int)) (Hu (ok4 S) Pt.below S.pts)) H Q
theorem y9:aq ["drawing","k","point","outside"] ["drawing"] (ag dj):=fsk
theorem Dg (F:Has K mg "fault_of_points" dj ["drawing"]) (T:DCl K mg C) (ge:mg "enumerate"=none) (C1:Cm P w K mg base 1 C "place_of_point" ["self","k"] qG) (C2:Cb P w K mg base 1 "comes_behind" ["q","p"] (yx K)) :
  Cb P w K mg base 2 "fault_of_points" ["drawing"] (DR C):=by
 refine F.cb y9 (λvs H Q E h=>?_) (λ_ _ A _ s H vs Q E hr h=>?_)
 ·obtain⟨a,S,rfl,_⟩:=h
  rfl
 ·obtain⟨a,S,rfl,hd,sb,k⟩:=h
  obtain⟨dx,p,l,m,ps,ls,ms,o⟩:=hd.op (K:=K)
  refine⟨_,ad (bB Gy rfl (d5 rfl ge (aa (aQ (pv 0) rfl) ac)) (cC (n:=2) rfl (aG (ao (i:=1) y9.nd rfl (.inl rfl)) (aG (ao (i:=2) y9.nd rfl (.inl rfl)) bN)))
    (ad (aA (i:=3) y9.nd rfl (.inl rfl) (sw (cu eg (aw aD (pv 2) ah (λ_ _=>rfl)) (aQ (pv 0) rfl) (aI _)) (eG (cu eg (aw aD (pv 2) ah (λ_ _=>rfl)) (aQ (pv 0) rfl) (aI _)))))
    (af (a4 (mZ (cG (pv 3)) (jG (jH (aM eg (pv 1) ah (aI _)) (iG (jg (cG (aB C2 hr (aa (pv 2) (aa (aw aW (aQ (pv 0) rfl) (aR eS (pv 1) ah) (λ_ _=>rfl)) ac))))))).pt)).pt
     (af (al (bG (aa ah (aa (gU (pv 0) T.cl C1 hr (aa (pv 1) ac)) ac))))) aL))))
   (af (al bc)),?_⟩
  refine⟨_,rfl,a,C,dx,_,_,rfl,o.at_,T.cl,T.nP,ie,p,_,rfl,SqL.of o.pl,dr (K:=K) (a:=p) (xs:=ps.map V.ref) (λi σ H'=>ak H H'/\(∃v1 v2 v3,σ=[some (.ref a),v1,v2,v3])/\∀j (hj:j<S.pts.length),j<i->WL.cg (ok4 S) Pt.below S.pts j S.pts[j]=false)
   ⟨ak.refl H,⟨none,none,none,rfl⟩,λj hj h=>absurd h (Hn _)⟩ (λi σ H' _ h=>SqL.of (h.1 _ _ o.pl)) ?_ ?_⟩
  ·rintro i y T' σ H' hi hT ⟨hS,⟨v1,v2,v3,rfl⟩,hok⟩
   obtain⟨b,hb,rfl⟩:=bW hi
   have hil:i<S.pts.length:=by rw[<-o.pn];exact(gsi hb).1
   have s2:ak H (upd H' T' (.tup [.int (i:Nat),.ref b])):=aV hS hT
   refine⟨T',_,rfl,SqT.of ae,rfl,_,_,rfl,_,_,rfl,rfl,?_⟩
   generalize upd H' T' (.tup [.int (i:Nat),.ref b])=H2 at s2
   have o2:=o.same s2
   have hpt:=o2.ptAt sb hb
   obtain⟨⟨rb,hbb⟩,_⟩:=id hpt
   have ep:S.pt i=S.pts[i]:=WL.bO S hil
   have bad:WL.cg (ok4 S) Pt.below S.pts i S.pts[i]=true->∀H3,ak H H3->∀q,H3 q=none->Q (.ref q) (upd H3 q (.tup [.int 4,.int (20+8*(i:Int))])):=λz H3 s3 q hq=>by
    have e:Hu (ok4 S) Pt.below S.pts=some i:=by
     rw[WL.ee]
     exact WL.eA hil z λj hj=>hok j (by lia) hj
    rw[e]at k
    exact dH.some' k s3 q hq
   have next:WL.cg (ok4 S) Pt.below S.pts i S.pts[i]=false->∀j (hj:j<S.pts.length),j<i+1->WL.cg (ok4 S) Pt.below S.pts j S.pts[j]=false:=λz j hj h=>by
    by_cases c:j<i
    ·exact hok j hj c
    ·have:j=i:=by lia
     subst this
     exact z
   have cont:∀(t:Bool),t=(!ok4 S S.pts[i])->tF (tOr (tB (aY 3)) (Af (fq (tOp (rI0 λi j=>.bl (decide (j<i))) (aY 1) (tC (.int 0)))) (Cf (tB (iM (yx K) [] E0 (a8 (aY 2) (a8 (tOp (wj K) (wo K (aY 0) "points") (tOp (rI0 λi j=>.int (i-j)) (aY 1) (tC (.int 1)))) fc)))))))
     (m9 (wI (a8 (tC (.int 4)) (a8 (kt C "place_of_point" qG [] E0 (aY 0) (a8 (aY 1) fc)) fc)))) mB
     { nx:=λσ H'=>ak H H'/\(∃v1 v2 v3,σ=[some (.ref a),v1,v2,v3])/\∀j (hj:j<S.pts.length),j<i+1->WL.cg (ok4 S) Pt.below S.pts j S.pts[j]=false,rt:=Q,bk:=λσ H'=>Q .non H',ct:=λσ H'=>ak H H'/\(∃v1 v2 v3,σ=[some (.ref a),v1,v2,v3])/\∀j (hj:j<S.pts.length),j<i+1->WL.cg (ok4 S) Pt.below S.pts j S.pts[j]=false }
     [some (.ref a),some (.int (i:Nat)),some (.ref b),some (.bl t)] H2:=λt et=>by
    refine⟨_,rfl,_,rfl,aU (λc1=>?_) (λc1=>?_)⟩
    ·refine d7 ?_
     refine⟨_,rfl,a,dx,_,rfl,o2.at_,cf (.inl (.inl rfl)),_,rfl,_,_,rfl,(by show 2<=Ge;decide),λq hq=>?_⟩
     refine bad ?_ H2 s2 q hq
     unfold WL.cg
     rw[<-et,c1,Kb]
    ·have okt:(!ok4 S S.pts[i])=false:=by rw[<-et];exact cE c1
     refine⟨_,rfl,_,_,rfl,rfl,_,rfl,aU (λc2=>?_) (λc2=>?_)⟩
     ·have c2:(0:Int)<((i:Nat):Int):=FY c2
      obtain⟨i',rfl⟩:∃i',i=i'+1:=⟨i-1,by lia⟩
      obtain⟨b',hb'⟩:=o2.hasP (i:=i') (by lia)
      have hpt':=o2.ptAt sb hb'
      have ep':S.pt i'=S.pts[i']:=WL.bO S (by lia)
      refine⟨_,rfl,_,rfl,a,C,dx,_,_,rfl,o2.at_,T.cl,T.nP,ie,_,rfl,_,_,rfl,rfl,p,_,_,_,rfl,rfl,SqL.of o2.pl,aC (j:=i') (by lia) (aP hb'),b,b',S.pt (i'+1),S.pt i',rfl,hpt,hpt',λH3 s3=>?_⟩
      have hbe:WL.cg (ok4 S) Pt.below S.pts (i'+1) S.pts[i'+1]=!((S.pt i').below (S.pt (i'+1))):=by
       rw[WL.j0 (by lia),okt,Bool.false_or,ep,ep']
      refine⟨_,rfl,?_⟩
      cases hc:(S.pt i').below (S.pt (i'+1)) with
      |true =>
       refine jN ?_
       exact⟨s2.trans s3,⟨_,_,_,rfl⟩,next (by rw[hbe,hc];rfl)⟩
      |false =>
       refine d7 ?_
       refine⟨_,rfl,a,dx,_,rfl,(o2.same s3).at_,cf (.inl (.inl rfl)),_,rfl,_,_,rfl,(by show 2<=Ge;decide),λq hq=>?_⟩
       exact bad (by rw[hbe,hc];rfl) H3 (s2.trans s3) q hq
     ·have c2:=aH c2
      have i0:i=0:=by lia
      subst i0
      exact⟨s2,⟨_,_,_,rfl⟩,next (by rw[WL.jW];exact okt)⟩
   refine⟨_,rfl,b,_,_,_,rfl,rfl,hbb,aC (j:=0) rfl rfl,_,rfl,a,C,dx,_,_,rfl,o2.at_,T.cl,T.nW,Al,_,_,rfl,rfl,_,rfl,aU (λc1=>?_) (λc1=>?_)⟩
   ·have c1:(S.w:Int)<((S.pt i).x:Int):=FY c1
    refine cont true ?_
    rw[<-ep]
    unfold ok4
    rw[dqf (by lia),G5]
    rfl
   ·have c1:¬(S.w:Int)<((S.pt i).x:Int):=aH c1
    refine⟨_,rfl,b,_,_,_,rfl,rfl,hbb,aC (j:=1) rfl rfl,_,rfl,a,C,dx,_,_,rfl,o2.at_,T.cl,T.nH,As,_,_,rfl,rfl,?_⟩
    refine cont _ ?_
    rw[<-ep]
    unfold ok4
    rw[dqt (by lia:(S.pt i).x<=S.w),HA,<-decide_not,Gu]
    lia
  ·rintro σ H' ⟨hS,⟨v1,v2,v3,rfl⟩,hok⟩
   have e:Hu (ok4 S) Pt.below S.pts=none:=by
    rw[WL.ee]
    refine WL.dZ λj hj=>hok j hj ?_
    rw[lmp,o.pn]
    exact hj
   rw[e]at k
   exact k H' hS
def ok5 (S:Gla.Plan)(l:Nat×Nat):Bool:=decide (l.1<l.2)&&decide (l.2<S.pts.length)
def qp (S:Gla.Plan)(i:Nat):Int:=20+8*(S.pts.length:Int)+4*(i:Int)
def CQ (C:Gb):Sp:=λvs H Q _=>∃(a:Gb) (S:Gla.Plan),vs=[.ref a]/\bA C H a S/\SB S/\dH (jB 5 (qp S) (Hu (ok5 S) HB S.lines)) H Q
theorem Ae:aq ["drawing","k","line","wrong_ends"] ["drawing"] (ag dL):=fsk
theorem xb (l m:Nat×Nat):gO [(l.1:Int),(l.2:Int)] [(m.1:Int),(m.2:Int)]=!Gla.lineBelow m l:=by
 rw[jP,jP]
 unfold HB
 have e0:gO [] []=true:=rfl
 rw[e0,G0]
 by_cases c:(l.1:Int)=(m.1:Int)
 ·rw[Gk c]
  by_cases d:(l.2:Int)=(m.2:Int)
  ·rw[Gk d]
   simp
   lia
  ·rw[Gf d]
   simp
   lia
 ·rw[Gf c]
  simp
  lia
theorem Cw (F:Has K mg "fault_of_lines" dL ["drawing"]) (T:DCl K mg C) (ge:mg "enumerate"=none) (gl:mg "len"=none) (C1:Cm P w K mg base 2 C "place_of_line" ["self","k"] (vE C)) :
  Cb P w K mg base 3 "fault_of_lines" ["drawing"] (CQ C):=by
 refine F.cb Ae (λvs H Q E h=>?_) (λ_ _ A _ s H vs Q E hr h=>?_)
 ·obtain⟨a,S,rfl,_⟩:=h
  rfl
 ·obtain⟨a,S,rfl,hd,sb,k⟩:=h
  obtain⟨dx,p,l,m,ps,ls,ms,o⟩:=hd.op (K:=K)
  refine⟨_,ad (bB Gy rfl (d5 rfl ge (aa (aQ (pv 0) rfl) ac)) (cC (n:=2) rfl (aG (ao (i:=1) Ae.nd rfl (.inl rfl)) (aG (ao (i:=2) Ae.nd rfl (.inl rfl)) bN)))
    (ad (aA (i:=3) Ae.nd rfl (.inl rfl) (sw (cu yu (aw aD (pv 2) ah (λ_ _=>rfl)) (aw aD (pv 2) ah (λ_ _=>rfl)) (aI _)) (eG (cu yu (aw aD (pv 2) ah (λ_ _=>rfl)) (aZ aN (by rfl) gl G6 (aa (aQ (pv 0) rfl) ac)) (aI _)))))
    (af (a4 (mZ (cG (pv 3)) (jG (jH (aM eg (pv 1) ah (aI _)) (iG (aM (BG hr.units0) (pv 2) (aw aW (aQ (pv 0) rfl) (aR eS (pv 1) ah) (λ_ _=>rfl)) (aI _)))).pt)).pt
     (af (al (bG (aa ah (aa (gU (pv 0) T.cl C1 hr (aa (pv 1) ac)) ac))))) aL))))
   (af (al bc)),?_⟩
  refine⟨_,rfl,a,C,dx,_,_,rfl,o.at_,T.cl,T.nL,qA,l,_,rfl,SqL.of o.ll,dr (K:=K) (a:=l) (xs:=ls.map V.ref) (λi σ H'=>ak H H'/\(∃v1 v2 v3,σ=[some (.ref a),v1,v2,v3])/\∀j (hj:j<S.lines.length),j<i->WL.cg (ok5 S) HB S.lines j S.lines[j]=false)
   ⟨ak.refl H,⟨none,none,none,rfl⟩,λj hj h=>absurd h (Hn _)⟩ (λi σ H' _ h=>SqL.of (h.1 _ _ o.ll)) ?_ ?_⟩
  ·rintro i y T' σ H' hi hT ⟨hS,⟨v1,v2,v3,rfl⟩,hok⟩
   obtain⟨b,hb,rfl⟩:=bW hi
   have hil:i<S.lines.length:=by rw[<-o.ln];exact(gsi hb).1
   have s2:ak H (upd H' T' (.tup [.int (i:Nat),.ref b])):=aV hS hT
   refine⟨T',_,rfl,SqT.of ae,rfl,_,_,rfl,_,_,rfl,rfl,?_⟩
   generalize upd H' T' (.tup [.int (i:Nat),.ref b])=H2 at s2
   have o2:=o.same s2
   have hbb:SqT K H2 b (iV [(S.lines[i].1:Int),(S.lines[i].2:Int)]):=SqT.of (o2.li i b _ hb (gge hil))
   have bad:WL.cg (ok5 S) HB S.lines i S.lines[i]=true->∀H3,ak H H3->∀q,H3 q=none->Q (.ref q) (upd H3 q (.tup [.int 5,.int (qp S i)])):=λz H3 s3 q hq=>by
    have e:Hu (ok5 S) HB S.lines=some i:=by
     rw[WL.ee]
     exact WL.eA hil z λj hj=>hok j (by lia) hj
    rw[e]at k
    exact dH.some' k s3 q hq
   have next:WL.cg (ok5 S) HB S.lines i S.lines[i]=false->∀j (hj:j<S.lines.length),j<i+1->WL.cg (ok5 S) HB S.lines j S.lines[j]=false:=λz j hj h=>by
    by_cases c:j<i
    ·exact hok j hj c
    ·have:j=i:=by lia
     subst this
     exact z
   have cont:∀(t:Bool),t=(!ok5 S S.lines[i])->tF (tOr (tB (aY 3)) (Af (fq (tOp (rI0 λi j=>.bl (decide (j<i))) (aY 1) (tC (.int 0)))) (fq (tOp (DK K) (aY 2) (tOp (wj K) (wo K (aY 0) "lines") (tOp (rI0 λi j=>.int (i-j)) (aY 1) (tC (.int 1))))))))
     (m9 (wI (a8 (tC (.int 5)) (a8 (kt C "place_of_line" (vE C) [] E0 (aY 0) (a8 (aY 1) fc)) fc)))) mB
     { nx:=λσ H'=>ak H H'/\(∃v1 v2 v3,σ=[some (.ref a),v1,v2,v3])/\∀j (hj:j<S.lines.length),j<i+1->WL.cg (ok5 S) HB S.lines j S.lines[j]=false,rt:=Q,bk:=λσ H'=>Q .non H',ct:=λσ H'=>ak H H'/\(∃v1 v2 v3,σ=[some (.ref a),v1,v2,v3])/\∀j (hj:j<S.lines.length),j<i+1->WL.cg (ok5 S) HB S.lines j S.lines[j]=false }
     [some (.ref a),some (.int (i:Nat)),some (.ref b),some (.bl t)] H2:=λt et=>by
    refine⟨_,rfl,_,rfl,aU (λc1=>?_) (λc1=>?_)⟩
    ·refine d7 ?_
     refine⟨_,rfl,a,dx,_,rfl,o2.at_,cf (.inl (.inr rfl)),_,rfl,a,S,_,rfl,o2.draw,(by show 2<=Ge;decide),λq hq=>?_⟩
     refine bad ?_ H2 s2 q hq
     unfold WL.cg
     rw[<-et,c1,Kb]
    ·have okt:(!ok5 S S.lines[i])=false:=by rw[<-et];exact cE c1
     refine⟨_,rfl,_,_,rfl,rfl,_,rfl,aU (λc2=>?_) (λc2=>?_)⟩
     ·have c2:(0:Int)<((i:Nat):Int):=FY c2
      obtain⟨i',rfl⟩:∃i',i=i'+1:=⟨i-1,by lia⟩
      obtain⟨b',hb'⟩:=o2.hasL (i:=i') (by lia)
      have hbb':SqT K H2 b' (iV [(S.lines[i'].1:Int),(S.lines[i'].2:Int)]):=SqT.of (o2.li i' b' _ hb' (gge (by lia)))
      refine⟨_,rfl,_,rfl,a,C,dx,_,_,rfl,o2.at_,T.cl,T.nL,qA,_,rfl,_,_,rfl,rfl,l,_,_,_,rfl,rfl,SqL.of o2.ll,aC (j:=i') (by lia) (aP hb'),b,b',_,_,rfl,rfl,hbb,hbb',?_⟩
      have hbe:WL.cg (ok5 S) HB S.lines (i'+1) S.lines[i'+1]=!(HB S.lines[i'] S.lines[i'+1]):=by
       rw[WL.j0 (by lia),okt,Bool.false_or]
      rw[xb]
      refine⟨_,rfl,aU (λc3=>?_) (λc3=>?_)⟩
      ·refine⟨_,rfl,a,dx,_,rfl,o2.at_,cf (.inl (.inr rfl)),_,rfl,a,S,_,rfl,o2.draw,(by show 2<=Ge;decide),λq hq=>?_⟩
       exact bad (by rw[hbe];exact c3) H2 s2 q hq
      ·exact⟨s2,⟨_,_,_,rfl⟩,next (by rw[hbe];exact cE c3)⟩
     ·have c2:=aH c2
      have i0:i=0:=by lia
      subst i0
      exact⟨s2,⟨_,_,_,rfl⟩,next (by rw[WL.jW];exact okt)⟩
   refine⟨_,rfl,b,_,_,_,rfl,rfl,hbb,aC (j:=0) rfl rfl,_,rfl,b,_,_,_,rfl,rfl,hbb,aC (j:=1) rfl rfl,_,_,rfl,rfl,_,rfl,aU (λc1=>?_) (λc1=>?_)⟩
   ·have c1:(S.lines[i].2:Int)<=(S.lines[i].1:Int):=FY c1
    refine cont true ?_
    unfold ok5
    rw[dqf (by lia),G5]
    rfl
   ·have c1:¬(S.lines[i].2:Int)<=(S.lines[i].1:Int):=aH c1
    refine⟨_,rfl,b,_,_,_,rfl,rfl,hbb,aC (j:=1) rfl rfl,_,rfl,a,C,dx,_,_,rfl,o2.at_,T.cl,T.nP,ie,p,_,rfl,.inl (SqL.of o2.pl),_,_,rfl,rfl,?_⟩
    refine cont _ ?_
    unfold ok5
    rw[dqt (by lia:S.lines[i].1<S.lines[i].2),HA,<-decide_not,Gu,lmp,o.pn]
    lia
  ·rintro σ H' ⟨hS,⟨v1,v2,v3,rfl⟩,hok⟩
   have e:Hu (ok5 S) HB S.lines=none:=by
    rw[WL.ee]
    refine WL.dZ λj hj=>hok j hj ?_
    rw[lmp,o.ln]
    exact hj
   rw[e]at k
   exact k H' hS
theorem vJ {S:Gla.Plan}{x:Nat×Nat}{j:Nat}(h0:j<S.pts.length)(h1:x.1<j)(h2:j<x.2)(h:Gla.isOn (S.pt x.1) (S.pt x.2) (S.pt j)=true):WL.mz S x=true:=by
 unfold WL.mz
 rw[II]
 exact⟨j,Hz.2 h0,by rw[dqt h1,dqt h2,h];rfl⟩
theorem xt {S:Gla.Plan}{x:Nat×Nat}(h:∀j,x.1<j->j<x.2->Gla.isOn (S.pt x.1) (S.pt x.2) (S.pt j)=false):WL.mz S x=false:=by
 unfold WL.mz
 rw[Jj]
 intro j _ z
 rw[Gi,Gi]at z
 rw[h j (FY z.1) (FY z.2.1)]at z
 exact absurd z.2.2 (by decide)
def ET (K:Hq)(H:Hp)(b:Gb)(x:Nat×Nat):Prop:=SqT K H b (iV [(x.1:Int),(x.2:Int)])
theorem Op.lnAt {H:Hp}{a dx p l m:Gb}{S:Gla.Plan}{ps ls ms:List Gb}(o:Op K C H a dx p l m S ps ls ms){i:Nat}{b:Gb}(hi:i<S.lines.length)(e:ls[i]? = some b):ET K H b S.lines[i]:=SqT.of (o.li i b _ e (gge hi))
def Ex (K:Hq)(C:Gb):Sp:=λvs H Q _=>∃(a b:Gb) (S:Gla.Plan) (x:Nat×Nat),vs=[.ref a,.ref b]/\bA C H a S/\SB S/\ET K H b x/\x.1<x.2/\x.2<S.pts.length/\Q (.bl (WL.mz S x)) H
theorem zY:aq ["drawing","line","p","q","k"] ["drawing","line"] (ag di):=fsk
theorem EW (F:Has K mg "has_point_on_it" di ["drawing","line"]) (T:DCl K mg C) (gr:mg "range"=none) (C1:Cb P w K mg base 2 "is_on" ["p","q","r"] (Cp K)) :
  Cb P w K mg base 3 "has_point_on_it" ["drawing","line"] (Ex K C):=by
 refine F.cb zY (λvs H Q E h=>?_) (λ_ _ A _ s H vs Q E hr h=>?_)
 ·obtain⟨a,b,S,x,rfl,_⟩:=h
  rfl
 ·obtain⟨a,b,S,x,rfl,hd,sb,hx,x1,x2,k⟩:=h
  obtain⟨dx,p,l,m,ps,ls,ms,o⟩:=hd.op (K:=K)
  have np:=sb.np
  have hx:SqT K H b (iV [(x.1:Int),(x.2:Int)]):=hx
  obtain⟨b1,hb1⟩:=o.hasP (i:=x.1) (by lia)
  obtain⟨b2,hb2⟩:=o.hasP (i:=x.2) (by lia)
  refine⟨_,ad (aA (i:=2) zY.nd rfl (.inl rfl) (aw aW (aQ (pv 0) rfl) (aw aD (pv 1) ah (λ_ _=>rfl)) (λ_ _=>rfl))) (ad (aA (i:=3) zY.nd rfl (.inl rfl) (aw aW (aQ (pv 0) rfl) (aw aD (pv 1) ah (λ_ _=>rfl)) (λ_ _=>rfl)))
   (ad (bB Gy rfl (pM rfl gr (aa (aR dt (aw aD (pv 1) ah (λ_ _=>rfl)) ah) (aa (aw aD (pv 1) ah (λ_ _=>rfl)) ac))) (ao (i:=4) zY.nd rfl (.inl rfl))
    (af (a4 (cG (aB C1 hr (aa (pv 2) (aa (pv 3) (aa (aw aW (aQ (pv 0) rfl) (pv 4) (λ_ _=>rfl)) ac))))) (af (al eD)) aL)))
   (af (al eD)))),?_⟩
  refine⟨_,rfl,a,C,dx,_,_,rfl,o.at_,T.cl,T.nP,ie,_,rfl,b,_,_,_,rfl,rfl,hx,aC (j:=0) rfl rfl,p,_,_,_,rfl,rfl,SqL.of o.pl,aC (j:=x.1) rfl (aP hb1),?_⟩
  refine⟨_,rfl,a,C,dx,_,_,rfl,o.at_,T.cl,T.nP,ie,_,rfl,b,_,_,_,rfl,rfl,hx,aC (j:=1) rfl rfl,p,_,_,_,rfl,rfl,SqL.of o.pl,aC (j:=x.2) rfl (aP hb2),?_⟩
  refine⟨_,rfl,b,_,_,_,rfl,rfl,hx,aC (j:=0) rfl rfl,_,_,rfl,rfl,_,rfl,b,_,_,_,rfl,rfl,hx,aC (j:=1) rfl rfl,_,_,rfl,⟨by lia,by lia,by lia,by lia⟩,jl (λt σ H'=>H'=H/\(∃v,σ=[some (.ref a),some (.ref b),some (.ref b1),some (.ref b2),v])/\∀j,x.1<j->j<x.1+1+t->Gla.isOn (S.pt x.1) (S.pt x.2) (S.pt j)=false)
   ⟨rfl,⟨none,rfl⟩,λj h1 h2=>by lia⟩ ?_ ?_⟩
  ·rintro t σ H' ht ⟨rfl,⟨v,rfl⟩,hno⟩
   have et:((x.1:Int)+1+(t:Int))=((x.1+1+t:Nat):Int):=by lia
   rw[et]
   obtain⟨b3,hb3⟩:=o.hasP (i:=x.1+1+t) (by lia)
   refine⟨_,rfl,_,rfl,_,rfl,a,C,dx,_,_,rfl,o.at_,T.cl,T.nP,ie,_,rfl,p,_,_,_,rfl,rfl,SqL.of o.pl,aC (j:=x.1+1+t) rfl (aP hb3),b1,b2,b3,_,_,_,rfl,o.ptAt sb hb1,o.ptAt sb hb2,o.ptAt sb hb3,_,rfl,aU (λc=>?_) (λc=>?_)⟩
   ·show Q (.bl true) H'
    rw[vJ (j:=x.1+1+t) (by lia) (by lia) (by lia) c]at k
    exact k
   ·refine⟨rfl,⟨_,rfl⟩,λj h1 h2=>?_⟩
    by_cases d:j<x.1+1+t
    ·exact hno j h1 d
    ·have:j=x.1+1+t:=by lia
     subst this
     exact cE c
  ·rintro σ H' ⟨rfl,⟨v,rfl⟩,hno⟩
   rw[xt λj h1 h2=>hno j h1 (by lia)]at k
   exact k
def gi (S:Gla.Plan):Prop:=∀l∈S.lines,l.1<l.2/\l.2<S.pts.length
def DD (C:Gb):Sp:=λvs H Q _=>∃(a:Gb) (S:Gla.Plan) (i:Nat) (hi:i<S.lines.length),vs=[.ref a,.int (i:Int)]/\bA C H a S/\SB S/\gi S/\Q (.bl (WL.jM S i S.lines[i])) H
theorem we:aq ["drawing","k","line","p","q","j","earlier"] ["drawing","k"] (ag b7):=fsk
theorem wl {S:Gla.Plan}{x:Nat×Nat}{i j:Nat}(hi:i<=S.lines.length)(hj:j<i)(h1:x.1<(S.lines[j]'(by lia)).2)(h:Gla.crosses (S.pt x.1) (S.pt x.2) (S.pt (S.lines[j]'(by lia)).1) (S.pt (S.lines[j]'(by lia)).2)=true):WL.jM S i x=true:=by
 unfold WL.jM
 rw[II]
 refine⟨S.lines[j]'(by lia),?_,by rw[dqt h1,h];rfl⟩
 rw[Iu]
 exact⟨j,by lia,rfl⟩
theorem yq {S:Gla.Plan}{x:Nat×Nat}{i:Nat}(h:∀j (hj:j<S.lines.length),j<i->(decide (x.1<(S.lines[j]).2)&&Gla.crosses (S.pt x.1) (S.pt x.2) (S.pt (S.lines[j]).1) (S.pt (S.lines[j]).2))=false):WL.jM S i x=false:=by
 unfold WL.jM
 rw[Jj]
 intro y hy z
 rw[Iu]at hy
 obtain⟨j,hj,rfl⟩:=hy
 rw[h j (by lia) (by lia)]at z
 exact absurd z (by decide)
theorem EI (F:Has K mg "crosses_one_before" b7 ["drawing","k"]) (T:DCl K mg C) (gr:mg "range"=none) (C1:Cb P w K mg base 3 "do_cross" ["p","q","r","s"] (uw K)) :
  Cb P w K mg base 4 "crosses_one_before" ["drawing","k"] (DD C):=by
 refine F.cb we (λvs H Q E h=>?_) (λ_ _ A _ s H vs Q E hr h=>?_)
 ·obtain⟨a,S,i,hi,rfl,_⟩:=h
  rfl
 ·obtain⟨a,S,i,hi,rfl,hd,sb,hlo,k⟩:=h
  obtain⟨dx,p,l,m,ps,ls,ms,o⟩:=hd.op (K:=K)
  have np:=sb.np
  have nl:=sb.nl
  obtain⟨x1,x2⟩:=hlo _ (GC hi)
  obtain⟨b,hb⟩:=o.hasL (i:=i) hi
  have hx:SqT K H b (iV [(S.lines[i].1:Int),(S.lines[i].2:Int)]):=o.lnAt hi hb
  obtain⟨b1,hb1⟩:=o.hasP (i:=S.lines[i].1) (by lia)
  obtain⟨b2,hb2⟩:=o.hasP (i:=S.lines[i].2) (by lia)
  refine⟨_,ad (aA (i:=2) we.nd rfl (.inl rfl) (aw aW (aQ (pv 0) rfl) (pv 1) (λ_ _=>rfl))) (ad (aA (i:=3) we.nd rfl (.inl rfl) (aw aW (aQ (pv 0) rfl) (aw aD (pv 2) ah (λ_ _=>rfl)) (λ_ _=>rfl))) (ad (aA (i:=4) we.nd rfl (.inl rfl) (aw aW (aQ (pv 0) rfl) (aw aD (pv 2) ah (λ_ _=>rfl)) (λ_ _=>rfl)))
   (ad (bB Gy rfl (oQ rfl gr (aa (pv 1) ac)) (ao (i:=5) we.nd rfl (.inl rfl))
    (ad (aA (i:=6) we.nd rfl (.inl rfl) (aw aW (aQ (pv 0) rfl) (pv 5) (λ_ _=>rfl)))
    (af (a4 (jH (aM eg (aw aD (pv 6) ah (λ_ _=>rfl)) (aw aD (pv 2) ah (λ_ _=>rfl)) (aI _)) (iG (cG (aB C1 hr (aa (pv 3) (aa (pv 4) (aa (aw aW (aQ (pv 0) rfl) (aw aD (pv 6) ah (λ_ _=>rfl)) (λ_ _=>rfl)) (aa (aw aW (aQ (pv 0) rfl) (aw aD (pv 6) ah (λ_ _=>rfl)) (λ_ _=>rfl)) ac)))))))).pt (af (al eD)) aL))))
   (af (al eD))))),?_⟩
  refine⟨_,rfl,a,C,dx,_,_,rfl,o.at_,T.cl,T.nL,qA,_,rfl,l,_,_,_,rfl,rfl,SqL.of o.ll,aC (j:=i) rfl (aP hb),?_⟩
  refine⟨_,rfl,a,C,dx,_,_,rfl,o.at_,T.cl,T.nP,ie,_,rfl,b,_,_,_,rfl,rfl,hx,aC (j:=0) rfl rfl,p,_,_,_,rfl,rfl,SqL.of o.pl,aC (j:=S.lines[i].1) rfl (aP hb1),?_⟩
  refine⟨_,rfl,a,C,dx,_,_,rfl,o.at_,T.cl,T.nP,ie,_,rfl,b,_,_,_,rfl,rfl,hx,aC (j:=1) rfl rfl,p,_,_,_,rfl,rfl,SqL.of o.pl,aC (j:=S.lines[i].2) rfl (aP hb2),?_⟩
  refine⟨_,rfl,_,rfl,by lia,by lia,jl (λt σ H'=>H'=H/\(∃v1 v2,σ=[some (.ref a),some (.int (i:Int)),some (.ref b),some (.ref b1),some (.ref b2),v1,v2])/\∀j (hj:j<S.lines.length),j<t->(decide (S.lines[i].1<(S.lines[j]).2)&&Gla.crosses (S.pt S.lines[i].1) (S.pt S.lines[i].2) (S.pt (S.lines[j]).1) (S.pt (S.lines[j]).2))=false)
   ⟨rfl,⟨none,none,rfl⟩,λj h1 h2=>by lia⟩ ?_ ?_⟩
  ·rintro t σ H' ht ⟨rfl,⟨v1,v2,rfl⟩,hno⟩
   rw[HD]at ht
   rw[Int.zero_add]
   have htl:t<S.lines.length:=by lia
   obtain⟨y1,y2⟩:=hlo _ (GC htl)
   obtain⟨c,hc⟩:=o.hasL (i:=t) htl
   have hy:SqT K H' c (iV [(S.lines[t].1:Int),(S.lines[t].2:Int)]):=o.lnAt htl hc
   obtain⟨b3,hb3⟩:=o.hasP (i:=S.lines[t].1) (by lia)
   obtain⟨b4,hb4⟩:=o.hasP (i:=S.lines[t].2) (by lia)
   have next:(decide (S.lines[i].1<(S.lines[t]).2)&&Gla.crosses (S.pt S.lines[i].1) (S.pt S.lines[i].2) (S.pt (S.lines[t]).1) (S.pt (S.lines[t]).2))=false->∀j (hj:j<S.lines.length),j<t+1->(decide (S.lines[i].1<(S.lines[j]).2)&&Gla.crosses (S.pt S.lines[i].1) (S.pt S.lines[i].2) (S.pt (S.lines[j]).1) (S.pt (S.lines[j]).2))=false:=λz j hj h=>by
    by_cases d:j<t
    ·exact hno j hj d
    ·have:j=t:=by lia
     subst this
     exact z
   refine⟨_,rfl,a,C,dx,_,_,rfl,o.at_,T.cl,T.nL,qA,_,rfl,l,_,_,_,rfl,rfl,SqL.of o.ll,aC (j:=t) rfl (aP hc),?_⟩
   refine⟨_,rfl,c,_,_,_,rfl,rfl,hy,aC (j:=1) rfl rfl,_,rfl,b,_,_,_,rfl,rfl,hx,aC (j:=0) rfl rfl,_,_,rfl,rfl,_,rfl,aU (λc1=>?_) (λc1=>?_)⟩
   ·have c1:(S.lines[i].1:Int)<(S.lines[t].2:Int):=FY c1
    refine⟨_,rfl,_,rfl,_,rfl,a,C,dx,_,_,rfl,o.at_,T.cl,T.nP,ie,_,rfl,c,_,_,_,rfl,rfl,hy,aC (j:=0) rfl rfl,p,_,_,_,rfl,rfl,SqL.of o.pl,aC (j:=S.lines[t].1) rfl (aP hb3),_,rfl,a,C,dx,_,_,rfl,o.at_,T.cl,T.nP,ie,_,rfl,c,_,_,_,rfl,rfl,hy,aC (j:=1) rfl rfl,p,_,_,_,rfl,rfl,SqL.of o.pl,aC (j:=S.lines[t].2) rfl (aP hb4),b1,b2,b3,b4,_,_,_,_,rfl,o.ptAt sb hb1,o.ptAt sb hb2,o.ptAt sb hb3,o.ptAt sb hb4,_,rfl,aU (λc2=>?_) (λc2=>?_)⟩
    ·show Q (.bl true) H'
     rw[wl (j:=t) (by lia) ht (by lia) c2]at k
     exact k
    ·exact⟨rfl,⟨_,_,rfl⟩,next (by rw[cE c2,J2])⟩
   ·have c1:¬(S.lines[i].1:Int)<(S.lines[t].2:Int):=aH c1
    exact⟨rfl,⟨_,_,rfl⟩,next (by rw[dqf (by lia),G5])⟩
  ·rintro σ H' ⟨rfl,⟨v1,v2,rfl⟩,hno⟩
   rw[HD]at hno
   rw[yq hno]at k
   exact k
def EJ (C:Gb):Sp:=λvs H Q _=>∃(a:Gb) (S:Gla.Plan),vs=[.ref a]/\bA C H a S/\SB S/\WL.R4 S/\WL.R5 S/\dH (jB 7 (qp S) (Gla.firstAt (JN S) S.lines)) H Q
theorem BS:aq ["drawing","k","line"] ["drawing"] (ag ck):=fsk
theorem Db (F:Has K mg "fault_of_crossings" ck ["drawing"]) (T:DCl K mg C) (ge:mg "enumerate"=none) (C1:Cb P w K mg base 3 "has_point_on_it" ["drawing","line"] (Ex K C)) (C2:Cb P w K mg base 4 "crosses_one_before" ["drawing","k"] (DD C)) (C3:Cm P w K mg base 2 C "place_of_line" ["self","k"] (vE C)) :
  Cb P w K mg base 5 "fault_of_crossings" ["drawing"] (EJ C):=by
 refine F.cb BS (λvs H Q E h=>?_) (λ_ _ A _ s H vs Q E hr h=>?_)
 ·obtain⟨a,S,rfl,_⟩:=h
  rfl
 ·obtain⟨a,S,rfl,hd,sb,h4,h5,k⟩:=h
  obtain⟨dx,p,l,m,ps,ls,ms,o⟩:=hd.op (K:=K)
  have hr3:br 3 _:=hr.mono (by decide)
  have hr2:br 2 _:=hr.mono (by decide)
  have hlo:gi S:=λl hl=>h5.line hl
  refine⟨_,ad (bB Gy rfl (d5 rfl ge (aa (aQ (pv 0) rfl) ac)) (cC (n:=2) rfl (aG (ao (i:=1) BS.nd rfl (.inl rfl)) (aG (ao (i:=2) BS.nd rfl (.inl rfl)) bN)))
    (af (a4 (mZ (cG (aB C1 hr3 (aa (pv 0) (aa (pv 2) ac)))) (jG (cG (aB C2 hr (aa (pv 0) (aa (pv 1) ac)))))).pt
     (af (al (bG (aa ah (aa (gU (pv 0) T.cl C3 hr2 (aa (pv 1) ac)) ac))))) aL)))
   (af (al bc)),?_⟩
  refine⟨_,rfl,a,C,dx,_,_,rfl,o.at_,T.cl,T.nL,qA,l,_,rfl,SqL.of o.ll,dr (K:=K) (a:=l) (xs:=ls.map V.ref) (λi σ H'=>ak H H'/\(∃v1 v2,σ=[some (.ref a),v1,v2])/\∀j (hj:j<S.lines.length),j<i->JN S j S.lines[j]=false)
   ⟨ak.refl H,⟨none,none,rfl⟩,λj hj h=>absurd h (Hn _)⟩ (λi σ H' _ h=>SqL.of (h.1 _ _ o.ll)) ?_ ?_⟩
  ·rintro i y T' σ H' hi hT ⟨hS,⟨v1,v2,rfl⟩,hok⟩
   obtain⟨b,hb,rfl⟩:=bW hi
   have hil:i<S.lines.length:=by rw[<-o.ln];exact(gsi hb).1
   have s2:ak H (upd H' T' (.tup [.int (i:Nat),.ref b])):=aV hS hT
   refine⟨T',_,rfl,SqT.of ae,rfl,_,_,rfl,_,_,rfl,rfl,?_⟩
   generalize upd H' T' (.tup [.int (i:Nat),.ref b])=H2 at s2
   have o2:=o.same s2
   have te:=WL.yK h4 h5 i (GC hil)
   have ret:JN S i S.lines[i]=true->m9 (wI (a8 (tC (.int 7)) (a8 (kt C "place_of_line" (vE C) [] E0 (aY 0) (a8 (aY 1) fc)) fc)))
     { nx:=λσ H'=>ak H H'/\(∃v1 v2,σ=[some (.ref a),v1,v2])/\∀j (hj:j<S.lines.length),j<i+1->JN S j S.lines[j]=false,rt:=Q,bk:=λσ H'=>Q .non H',ct:=λσ H'=>ak H H'/\(∃v1 v2,σ=[some (.ref a),v1,v2])/\∀j (hj:j<S.lines.length),j<i+1->JN S j S.lines[j]=false }
     [some (.ref a),some (.int (i:Nat)),some (.ref b)] H2:=λz=>by
    refine⟨_,rfl,a,dx,_,rfl,o2.at_,cf (.inl (.inr rfl)),_,rfl,a,S,_,rfl,o2.draw,(by show 2<=Ge;decide),λq hq=>?_⟩
    have e:Gla.firstAt (JN S) S.lines=some i:=WL.eA hil z λj hj=>hok j (by lia) hj
    rw[e]at k
    exact dH.some' k s2 q hq
   refine⟨_,rfl,_,rfl,a,b,S,S.lines[i],rfl,o2.draw,sb,o2.lnAt hil hb,(hlo _ (GC hil)).1,(hlo _ (GC hil)).2,_,rfl,aU (λc1=>?_) (λc1=>?_)⟩
   ·exact d7 (ret (by rw[te,c1];rfl))
   ·refine⟨_,rfl,_,rfl,a,S,i,hil,rfl,o2.draw,sb,hlo,_,rfl,aU (λc2=>?_) (λc2=>?_)⟩
    ·exact ret (by rw[te,c2,Bool.or_true])
    ·refine⟨s2,⟨_,_,rfl⟩,λj hj h=>?_⟩
     by_cases c:j<i
     ·exact hok j hj c
     ·have:j=i:=by lia
      subst this
      rw[te,cE c1,cE c2]
      rfl
  ·rintro σ H' ⟨hS,⟨v1,v2,rfl⟩,hok⟩
   have e:Gla.firstAt (JN S) S.lines=none:=by
    refine WL.dZ λj hj=>hok j hj ?_
    rw[lmp,o.ln]
    exact hj
   rw[e]at k
   exact k H' hS
def nI (l:List Nat):List Int:=l.map λ(x:Nat)=>(x:Int)
def uv (i:Nat)(l:Nat×Nat):Option Nat:=if l.1=i then some l.2 else if l.2=i then some l.1 else none
def eO (S:Gla.Plan)(t i:Nat):List Nat:=(S.lines.take t).filterMap (uv i)
theorem ue (S:Gla.Plan)(i:Nat):eO S S.lines.length i=S.near i:=by
 unfold eO
 rw[Hx]
 rfl
theorem my (S:Gla.Plan)(t i:Nat):(eO S t i).length<=t:=by
 refine GU (List.length_filterMap_le _ _) ?_
 rw[GY]
 lia
theorem rE {S:Gla.Plan}{t:Nat}(ht:t<S.lines.length)(i:Nat):eO S (t+1) i=eO S t i++(uv i S.lines[t]).toList:=by
 unfold eO
 rw[bE (gge ht),List.filterMap_append]
 congr 1
structure NbS (H0 H:Hp)(N:Gb)(as:List Gb)(f:Nat->List Nat):Prop where
 sm:ak H0 H
 fr:H0 N=none
 at_:H N=some (.lst (as.map V.ref))
 nd:∀(i j:Nat) (b:Gb),as[i]? = some b->as[j]? = some b->i=j
 row:∀(i:Nat) (b:Gb),as[i]? = some b->b≠N/\H0 b=none/\H b=some (.lst (iV (nI (f i))))
theorem NbS.push {H0 H:Hp}{N:Gb}{as:List Gb}{f g:Nat->List Nat}(h:NbS H0 H N as f){i:Nat}{b:Gb}{z:Nat}(e:as[i]? = some b)(hg:∀j,j<as.length->g j=if j=i then f i++[z] else f j) :
  NbS H0 (upd H b (.lst (iV (nI (f i))++[.int (z:Int)]))) N as g:=by
 obtain⟨r1,r2,r3⟩:=h.row i b e
 refine⟨aT h.sm r2,h.fr,by rw[ap r1.symm];exact h.at_,h.nd,λj c ec=>?_⟩
 obtain⟨q1,q2,q3⟩:=h.row j c ec
 refine⟨q1,q2,?_⟩
 have hj:=(gsi ec).1
 by_cases cj:j=i
 ·subst cj
  rw[e]at ec
  have ec:=osi ec
  subst ec
  rw[ae,hg j hj,Gk rfl]
  unfold nI iV
  rw[GA,GA]
  rfl
 ·rw[hg j hj,Gf cj]
  rw[ap (λz=>cj (h.nd j i b (by rw[<-z];exact ec) e))]
  exact q3
def BT (C:Gb):Sp:=λvs H Q _=>∃(a:Gb) (S:Gla.Plan),vs=[.ref a]/\bA C H a S/\SB S/\gi S/\∀(H':Hp) (N:Gb) (as:List Gb),NbS H H' N as S.near->as.length=S.pts.length->Q (.ref N) H'
theorem Ap:aq ["drawing","neighbours","line","point"] ["drawing"] (ag cP):=fsk
theorem Cy (F:Has K mg "neighbours_of" cP ["drawing"]) (T:DCl K mg C):Cb P w K mg base 1 "neighbours_of" ["drawing"] (BT C):=by
 refine F.cb Ap (λvs H Q E h=>?_) (λ_ _ A _ s H vs Q E hr h=>?_)
 ·obtain⟨a,S,rfl,_⟩:=h
  rfl
 ·obtain⟨a,S,rfl,hd,sb,hlo,k⟩:=h
  obtain⟨dx,p,l,m,ps,ls,ms,o⟩:=hd.op (K:=K)
  have np:=sb.np
  have nl:=sb.nl
  refine⟨_,ad (bQ (i:=1) (own:=[("point",3)]) rfl Ap.nd rfl rfl (cw rfl rfl rfl (by decide +kernel)) (bH (aQ (pv 0) rfl)) (bf (by show fY ["drawing","neighbours","line","point"] (ag cP) _ _=true;decide +kernel))
    (λ_ _ _ _ _=>ao (i:=3) Ap.nd rfl (.inl rfl) (.inr rfl)) (λ_ _ _ _ _=>cY) (λ_ _ _ _ _=>dQ ac))
   (ad (bB Gy rfl (bH (aQ (pv 0) rfl)) (ao (i:=2) Ap.nd rfl (.inl rfl))
    (ad (jo (lD Ho ID IE gJ (aw aW (pv 1) (aw aD (pv 2) ah (λ_ _=>rfl)) (λ_ _=>rfl)) (aa (aw aD (pv 2) ah (λ_ _=>rfl)) ac)))
    (af (jo (lD Ho ID IE gJ (aw aW (pv 1) (aw aD (pv 2) ah (λ_ _=>rfl)) (λ_ _=>rfl)) (aa (aw aD (pv 2) ah (λ_ _=>rfl)) ac))))))
   (af (al (pv 1)))),?_⟩
  refine⟨_,rfl,a,C,dx,_,_,rfl,o.at_,T.cl,T.nP,ie,p,rfl,⟨_,SqL.of o.pl⟩,λD hD=>?_⟩
  refine eV (K:=K) (a:=p) (xs:=ps.map V.ref) (λi H'=>∃as:List Gb,ak H H'/\H' D=some (.lst (as.map V.ref))/\as.length=i/\(∀(i j:Nat) (b:Gb),as[i]? = some b->as[j]? = some b->i=j)/\∀(j:Nat) (b:Gb),as[j]? = some b->b≠D/\H b=none/\H' b=some (.lst []))
   ⟨[],aJ hD,ae,rfl,λi j b e=>by simp at e,λj b e=>by simp at e⟩ (λi H' _ h=>by obtain⟨as,h1,_⟩:=h;exact SqL.of (h1 _ _ o.pl)) ?_ ?_
  ·rintro i y H' hi ⟨as,hS,hDl,hlen,hnd,hat⟩
   have hil:i<ps.length:=by
    have:=(gsi hi).1
    rw[lmp]at this
    exact this
   have pn:=o.pn
   refine⟨rfl,kD (d7 ?_)⟩
   refine⟨(by show 0<=Ge;decide),λq hq=>?_⟩
   have nqD:q≠D:=λz=>by rw[z,hDl]at hq;cases hq
   refine⟨as.map V.ref,by rw[ap nqD.symm];exact hDl,by rw[lmp];exact a6 (by lia),as++[q],aT (aV hS hq) hD,?_,by rw[Gd,hlen];rfl,?_,?_⟩
   ·rw[ae,GA]
    rfl
   ·have old:∀(j:Nat),as[j]? = some q->False:=λj e=>by
     have:=(hat j q e).2.2
     rw[hq]at this
     cases this
    intro j1 j2 b e1 e2
    by_cases c1:j1<as.length
    ·rw[GB c1]at e1
     by_cases c2:j2<as.length
     ·rw[GB c2]at e2
      exact hnd j1 j2 b e1 e2
     ·have h2:=(gsi e2).1
      rw[Gd]at h2
      have ej:j2=as.length:=by simp at h2;lia
      subst ej
      rw[Gx (nlr _),HG]at e2
      have e2:q=b:=osi e2
      subst e2
      exact(old j1 e1).elim
    ·have h1:=(gsi e1).1
     rw[Gd]at h1
     have ej1:j1=as.length:=by simp at h1;lia
     by_cases c2:j2<as.length
     ·rw[GB c2]at e2
      subst ej1
      rw[Gx (nlr _),HG]at e1
      have e1:q=b:=osi e1
      subst e1
      exact(old j2 e2).elim
     ·have h2:=(gsi e2).1
      rw[Gd]at h2
      have ej2:j2=as.length:=by simp at h2;lia
      lia
   ·intro j b e
    by_cases c:j<as.length
    ·rw[GB c]at e
     obtain⟨n1,n2,n3⟩:=hat j b e
     refine⟨n1,n2,?_⟩
     rw[ap n1,ap (aO n3 hq)]
     exact n3
    ·have h1:=(gsi e).1
     rw[Gd]at h1
     have ej:j=as.length:=by simp at h1;lia
     subst ej
     rw[Gx (nlr _),HG]at e
     have e:q=b:=osi e
     subst e
     refine⟨nqD,hS.free hq,?_⟩
     rw[ap nqD]
     exact ae
  rintro H1 ⟨as,hS,hDl,hlen,hnd,hat⟩
  rw[lmp,o.pn]at hlen
  have hb0:NbS H H1 D as (eO S 0):=⟨hS,hD,hDl,hnd,λi b e=>hat i b e⟩
  have o1:=o.same hS
  refine⟨_,rfl,a,C,dx,_,_,rfl,o1.at_,T.cl,T.nL,qA,l,rfl,⟨_,SqL.of o1.ll⟩,eq (K:=K) (a:=l) (xs:=ls.map V.ref) (λi σ H'=>(∃v,σ=[some (.ref a),some (.ref D),v,none])/\NbS H H' D as (eO S i))
   ⟨⟨none,rfl⟩,hb0⟩ (λi σ H' _ h=>SqL.of (h.2.sm _ _ o.ll)) ?_ ?_⟩
  ·rintro t y σ H' hi ⟨⟨v,rfl⟩,hb⟩
   obtain⟨b,hbl,rfl⟩:=bW hi
   have ht:t<S.lines.length:=by rw[<-o.ln];exact(gsi hbl).1
   obtain⟨x1,x2⟩:=hlo _ (GC ht)
   obtain⟨c1,hc1⟩:∃c,as[S.lines[t].1]? = some c:=⟨as[S.lines[t].1]'(by lia),gge _⟩
   obtain⟨c2,hc2⟩:∃c,as[S.lines[t].2]? = some c:=⟨as[S.lines[t].2]'(by lia),gge _⟩
   have hx:SqT K H' b (iV [(S.lines[t].1:Int),(S.lines[t].2:Int)]):=(o.same hb.sm).lnAt ht hbl
   have hr1:=(hb.row _ _ hc1).2.2
   refine⟨_,rfl,_,rfl,b,_,_,_,rfl,rfl,hx,aC (j:=0) rfl rfl,D,_,_,_,rfl,rfl,SqL.of hb.at_,aC (j:=S.lines[t].1) rfl (aP hc1),.inl ⟨rfl,_,SqL.of hr1⟩,_,rfl,b,_,_,_,rfl,rfl,hx,aC (j:=1) rfl rfl,c1,_,_,rfl,rfl,hr1,?_,?_⟩
   ·unfold iV nI
    rw[lmp,lmp]
    have:=my S t S.lines[t].1
    exact a6 (by lia)
   have hb2:=hb.push (g:=λj=>if j=S.lines[t].1 then eO S t S.lines[t].1++[S.lines[t].2] else eO S t j) hc1 (λj _=>rfl)
   generalize upd H' c1 (.lst (iV (nI (eO S t S.lines[t].1))++[.int (S.lines[t].2:Int)]))=H2 at hb2
   have hx2:SqT K H2 b (iV [(S.lines[t].1:Int),(S.lines[t].2:Int)]):=(o.same hb2.sm).lnAt ht hbl
   have hr2:=(hb2.row _ _ hc2).2.2
   rw[Gf (show ¬S.lines[t].2=S.lines[t].1 by lia)]at hr2
   refine⟨_,rfl,_,rfl,b,_,_,_,rfl,rfl,hx2,aC (j:=1) rfl rfl,D,_,_,_,rfl,rfl,SqL.of hb2.at_,aC (j:=S.lines[t].2) rfl (aP hc2),.inl ⟨rfl,_,SqL.of hr2⟩,_,rfl,b,_,_,_,rfl,rfl,hx2,aC (j:=0) rfl rfl,c2,_,_,rfl,rfl,hr2,?_,?_⟩
   ·unfold iV nI
    rw[lmp,lmp]
    have:=my S t S.lines[t].2
    exact a6 (by lia)
   refine⟨⟨_,rfl⟩,?_⟩
   have hb3:=hb2.push (g:=eO S (t+1)) hc2 (z:=S.lines[t].1) (λj _=>by
    rw[rE ht,Gf (show ¬S.lines[t].2=S.lines[t].1 by lia)]
    unfold uv
    by_cases e2:j=S.lines[t].2
    ·rw[Gk e2,Gf (by lia),Gk e2.symm,e2]
     rfl
    ·rw[Gf e2]
     by_cases e1:j=S.lines[t].1
     ·rw[Gk e1.symm,Gk e1,e1]
      rfl
     ·rw[Gf (λz=>e1 z.symm),Gf (λz=>e2 z.symm),Gf e1]
      exact HM _)
   rw[Gf (show ¬S.lines[t].2=S.lines[t].1 by lia)]at hb3
   exact hb3
  ·rintro σ H' ⟨⟨v,rfl⟩,hb⟩
   refine⟨_,rfl,k H' D as ?_ hlen⟩
   rw[lmp,o.ln]at hb
   have e:eO S S.lines.length=S.near:=funext λi=>ue S i
   rw[e]at hb
   exact hb
def loV:Option Nat->V
 |none=>.non
 |some k=>.int (k:Int)
def mkS (lo:Option Nat)(l:List Bool):List Bool:=match lo with
 |none=>l
 |some k=>l.set k true
def fJ (lo:Option Nat)(n:Nat):Array Bool:=match lo with
 |none=>Kd n
 |some k=>(Kd n).setIfInBounds k true
theorem wS {lo:Option Nat}{j:Nat}(h:lo≠some j)(l:List Bool):(mkS lo l)[j]? = l[j]?:=by
 cases lo with
 |none=>rfl
 |some k=>exact IJ (λz=>h (by rw[z]))
theorem DZ {j:Nat}{l:List Bool}(h:j<l.length):(mkS (some j) l)[j]? = some true:=JA h
theorem tZ {lo:Option Nat}{j:Nat}(h:lo≠some j)(l:List Bool):(mkS lo l).set j true=mkS lo (l.set j true):=by
 cases lo with
 |none=>rfl
 |some k=>exact List.set_comm _ _ (λz=>h (by rw[z]))
theorem Be (lo:Option Nat)(l:List Bool):(mkS lo l).length=l.length:=by
 cases lo with
 |none=>rfl
 |some k=>exact List.length_set
theorem qt {a:Array Bool}{j:Nat}{b:Bool}(h:a.toList[j]? = some b):a.getD j true=b:=by
 rw[HR,<-Array.getElem?_toList,h]
 rfl
theorem ir (lo:Option Nat)(n:Nat):(fJ lo n).toList=mkS lo (GS n false):=by
 cases lo with
 |none=>exact Array.toList_replicate
 |some k =>
  show((Kd n).setIfInBounds k true).toList=_
  rw[IY]
  unfold Kd
  rw[Array.toList_replicate]
  rfl
def RW (H:Hp)(N:Gb)(as:List Gb)(f:Nat->List Nat):Prop:=H N=some (.lst (as.map V.ref))/\∀(i:Nat) (b:Gb),as[i]? = some b->H b=some (.lst (iV (nI (f i))))
theorem RW.same {H H':Hp}{N:Gb}{as:List Gb}{f:Nat->List Nat}(h:RW H N as f)(s:ak H H'):RW H' N as f:=⟨s _ _ h.1,λi b e=>s _ _ (h.2 i b e)⟩
theorem NbS.rw {H0 H:Hp}{N:Gb}{as:List Gb}{f:Nat->List Nat}(h:NbS H0 H N as f):RW H N as f:=⟨h.at_,λi b e=>(h.row i b e).2.2⟩
def nrs (n:Nat)(f:Nat->List Nat):Array (List Nat):=((GE n).map f).toArray
theorem B2 {n:Nat}{f:Nat->List Nat}{k:Nat}(h:k<n):(nrs n f).getD k []=f k:=by
 unfold nrs
 rw[HR,List.getElem?_toArray,Gp,IS h]
 rfl
structure RfS (H H':Hp)(R Wa:Gb)(n:Nat)(lo:Option Nat)(todo:List Nat)(seen:Array Bool)(Rl:List Bool):Prop where
 sm:ak H H'
 r:H' R=some (.lst (Rl.map V.bl))
 w:H' Wa=some (.lst (iV (nI todo.reverse)))
 ln:Rl.length=n
 sk:seen.toList=mkS lo Rl
 lo:∀k,lo=some k->Rl[k]? = some false
 td:∀j∈todo,j<n
def zb:Sp:=λvs H Q _=>∃(st:Nat) (N:Gb) (as:List Gb) (f:Nat->List Nat) (lo:Option Nat) (n:Nat),vs=[.int (st:Int),.ref N,loV lo]/\RW H N as f/\as.length=n/\n<=100000/\st<n/\lo≠some st/\(∀k,lo=some k->k<n)/\(∀i,i<n->∀j∈f i,j<n) /\
 ∀(H':Hp) (R:Gb) (Rl:List Bool),ak H H'->H' R=some (.lst (Rl.map V.bl))->Rl.length=n->(∀k,lo=some k->Rl[k]? = some false)->mkS lo Rl=(JO (nrs n f) n st (fJ lo n)).toList->Q (.ref R) H'
theorem wv:aq ["start","neighbours","left_out","reached","waiting","here","there","row"] ["start","neighbours","left_out"] (ag dz):=fsk
theorem uA {n k:Nat}(h:k<n):ixN n (k:Int)=some k:=by
 unfold ixN
 rw[Gk (by lia),Gk (by lia),HD]
theorem Eg {l:List Bool}{j:Nat}{b:Bool}(h:l[j]? = some b):(l.map V.bl)[j]? = some (.bl b):=by
 rw[Gp,h]
 rfl
theorem lR {l:List Nat}{i:Nat}{v:V}(h:(iV (nI l))[i]? = some v):∃x,l[i]? = some x/\v=.int (x:Int):=by
 unfold iV nI at h
 rw[Gp,Gp]at h
 cases e:l[i]? with
 |none=>rw[e]at h;cases h
 |some x =>
  rw[e]at h
  exact⟨x,rfl,(osi h).symm⟩
theorem gu (l:List Nat)(k:Nat):iV (nI (l++[k]))=iV (nI l)++[.int (k:Int)]:=by
 unfold iV nI
 rw[GA,GA]
 rfl
theorem bX (l:List Nat):(iV (nI l)).length=l.length:=by
 unfold iV nI
 rw[lmp,lmp]
theorem zm (xs:List V)(v:V):(xs++[v])[(xs++[v]).length-1]? = some v:=by
 rw[Gd,List.length_singleton,Nat.add_sub_cancel,Gx (nlr _),HG]
 rfl
theorem D6 (F:Has K mg "reached_from" dz ["start","neighbours","left_out"]) (gl:mg "len"=none):Cb P w K mg base 1 "reached_from" ["start","neighbours","left_out"] zb:=by
 refine F.cb wv (λvs H Q E h=>?_) (λff cdv A outer s H vs Q E hr h=>?_)
 ·obtain⟨st,N,as,f,lo,n,rfl,_⟩:=h
  rfl
 ·obtain⟨st,N,as,f,lo,n,rfl,hrw,hlen,hn,hst,hlost,hlon,hfn,k⟩:=h
  refine⟨_,ad (bQ (i:=3) (own:=[("row",7)]) rfl wv.nd rfl rfl (cw rfl rfl rfl (by decide +kernel)) (bH (pv 1)) (bf (by show fY ["start","neighbours","left_out","reached","waiting","here","there","row"] (ag dz) _ _=true;decide +kernel))
    (λ_ _ _ _ _=>ao (i:=7) wv.nd rfl (.inl rfl) (.inr rfl)) (λ_ _ _ _ _=>cY) (λ_ _ _ _ _=>eD))
   (ad (yJ eD (yY (pv 3) (pv 0) rF))
   (ad (aA (i:=4) wv.nd rfl (.inl rfl) (dQ (aa (pv 0) ac)))
   (ad (nR Gy (aM eg (aZ aN (by rfl) gl G6 (aa (pv 4) ac)) ah (aI _))
    (ad (aA (i:=5) wv.nd rfl (.inl rfl) (BJ Ho PySem.F.slot_list_pop PySem.F.type_list_pop Bs (pv 4)))
    (af (bB Gy rfl (bH (aw aW (pv 1) (pv 5) (λ_ _=>rfl))) (ao (i:=6) wv.nd rfl (.inl rfl))
     (af (a4 (jH (aM yr (pv 6) (pv 2) (aI _)) (iG (jg (cG (aw aW (pv 3) (pv 6) (λ_ _=>rfl)))))).pt
      (ad (yJ eD (yY (pv 3) (pv 6) rF))
      (af (jo (lD Ho ID IE gJ (pv 4) (aa (pv 6) ac))))) aL))))))
   (af (al (pv 3)))))),?_⟩
  refine⟨_,rfl,N,rfl,⟨_,SqL.of hrw.1⟩,λD hD=>?_⟩
  refine eV (K:=K) (a:=N) (xs:=as.map V.ref) (λi H'=>H'=upd H D (.lst ((GS i false).map V.bl))) rfl (λi H' _ h=>by rw[h];exact SqL.of (by rw[ap (aO hrw.1 hD)];exact hrw.1)) ?_ ?_
  ·rintro i y H' hi rfl
   have hil:i<as.length:=by
    have:=(gsi hi).1
    rw[lmp]at this
    exact this
   refine⟨rfl,kD (d7 ?_)⟩
   refine⟨_,ae,by rw[lmp,Ig];exact a6 (by lia),?_⟩
   rw[uz,List.replicate_succ',GA]
   rfl
  rintro H1 rfl
  rw[lmp,hlen]
  refine⟨_,rfl,_,rfl,D,_,_,st,rfl,rfl,ae,uA (by rw[lmp,Ig];exact hst),?_⟩
  rw[uz]
  have eset:((GS n false).map V.bl).set st (.bl true)=((GS n false).set st true).map V.bl:=by rw[List.map_set]
  rw[eset]
  refine⟨_,rfl,(by show 1<=Ge;decide),λWa hWa=>?_⟩
  have nDW:D≠Wa:=λz=>by rw[z,ae]at hWa;cases hWa
  have hW0:H Wa=none:=by rw[ap nDW.symm]at hWa;exact hWa
  have s1:ak H (upd H D (.lst (((GS n false).set st true).map V.bl))):=aJ hD
  have s2:ak H (upd (upd H D (.lst (((GS n false).set st true).map V.bl))) Wa (.lst [.int (st:Int)])):=aT s1 hW0
  have z0:RfS H (upd (upd H D (.lst (((GS n false).set st true).map V.bl))) Wa (.lst [.int (st:Int)])) D Wa n lo [st] ((fJ lo n).setIfInBounds st true) ((GS n false).set st true):=by
   refine⟨s2,?_,ae,?_,?_,?_,?_⟩
   ·rw[ap nDW]
    exact ae
   ·rw[List.length_set,Ig]
   ·rw[IY,ir,tZ hlost]
   ·intro q hq
    rw[IJ (λz=>hlost (by rw[hq,z])),Js,Gk (hlon q hq)]
   ·intro j hj
    rw[List.mem_singleton.1 hj]
    exact hst
  refine⟨λmm σ H'=>mm<=n+1/\∃v5 v6 todo seen Rl,σ=[some (.int (st:Int)),some (.ref N),some (loV lo),some (.ref D),some (.ref Wa),v5,v6,none]/\RfS H H' D Wa n lo todo seen Rl/\todo.length+WL.fk seen<=mm/\Gla.spread (nrs n f) mm todo seen=JO (nrs n f) n st (fJ lo n),
   ⟨n+1,nlr _,none,none,[st],_,_,rfl,z0,?_,rfl⟩,?_⟩
  ·unfold WL.fk
   rw[z0.sk,<-tZ hlost,<-ir]
   have h1:(fJ lo n).toList[st]? = some false:=by
    rw[ir,wS hlost,Js,Gk hst]
   have h2:=WL.jp h1
   have h3:(fJ lo n).toList.count false<=n:=by
    refine GU List.count_le_length ?_
    rw[ir,Be,Ig]
    exact nlr _
   show 1+_<=n+1
   lia
  rintro mm σ H' ⟨hmm,v5,v6,todo,seen,Rl,rfl,z,hmu,hfin⟩
  refine⟨_,rfl,Wa,_,rfl,.inl (SqL.of z.w),_,_,rfl,rfl,_,rfl,aU (λc=>?_) (λc=>?_)⟩
  ·have c:=FY c
   rw[bX,List.length_reverse]at c
   obtain⟨k0,r,rfl⟩:∃k0 r,todo=k0 :: r:=by
    cases todo with
    |nil=>simp at c
    |cons k0 r=>exact⟨k0,r,rfl⟩
   obtain⟨m',rfl⟩:∃m',mm=m'+1:=⟨mm-1,by simp at hmu;lia⟩
   have hk0:k0<n:=z.td k0 (Gv)
   rw[WL.rV,B2 hk0]at hfin
   refine⟨λσ' H'=>m'<=n+1/\∃v5 v6 todo seen Rl,σ'=[some (.int (st:Int)),some (.ref N),some (loV lo),some (.ref D),some (.ref Wa),v5,v6,none]/\RfS H H' D Wa n lo todo seen Rl/\todo.length+WL.fk seen<=m'/\Gla.spread (nrs n f) m' todo seen=JO (nrs n f) n st (fJ lo n),λσ' H' h=>⟨m',by lia,h⟩,?_⟩
   have hw:=z.w
   rw[List.reverse_cons,gu]at hw
   refine⟨_,rfl,.inl ⟨rfl,_,SqL.of hw⟩,Wa,_,_,rfl,rfl,hw,zm _ _,?_⟩
   rw[List.dropLast_concat]
   have z2:RfS H (upd H' Wa (.lst (iV (nI r.reverse)))) D Wa n lo r seen Rl:=⟨aT z.sm hW0,by rw[ap nDW];exact z.r,ae,z.ln,z.sk,z.lo,λj hj=>z.td j (Gc _ hj)⟩
   generalize upd H' Wa (.lst (iV (nI r.reverse)))=H2 at z2
   obtain⟨b,hb⟩:∃b,as[k0]? = some b:=⟨as[k0]'(by lia),gge _⟩
   have hrw2:=hrw.same z2.sm
   refine⟨_,rfl,_,rfl,N,_,_,_,rfl,rfl,SqL.of hrw2.1,aC (j:=k0) rfl (aP hb),b,rfl,⟨_,SqL.of (hrw2.2 k0 b hb)⟩,?_⟩
   refine eq (K:=K) (a:=b) (xs:=iV (nI (f k0))) (λt σ H'=>∃v6 Rl,σ=[some (.int (st:Int)),some (.ref N),some (loV lo),some (.ref D),some (.ref Wa),some (.int (k0:Int)),v6,none]/\RfS H H' D Wa n lo (((f k0).take t).foldl WL.fu (r,seen)).1 (((f k0).take t).foldl WL.fu (r,seen)).2 Rl)
    ⟨v6,Rl,rfl,z2⟩ (λt σ H' _ h=>by obtain⟨_,_,_,h⟩:=h;exact SqL.of ((hrw.same h.sm).2 k0 b hb)) ?_ ?_
   ·rintro t y σ H3 ht ⟨w6,Rl2,rfl,z3⟩
    obtain⟨j,hj,rfl⟩:=lR ht
    have hjn:j<n:=hfn k0 hk0 j (GV hj)
    have mu:=WL.kW ((f k0).take t) (r,seen)
    rw[bE hj,List.foldl_append,Il,List.foldl_nil]
    generalize ((f k0).take t).foldl WL.fu (r,seen)=za at z3 mu
    obtain⟨za1,za2⟩:=za
    have hskip:za2.getD j true=true->WL.fu (za1,za2) j=(za1,za2):=λe=>by
     unfold WL.fu
     rw[Gk e]
    obtain⟨bj,hbj⟩:∃bj,Rl2[j]? = some bj:=⟨Rl2[j]'(by have:=z3.ln;lia),gge _⟩
    refine⟨_,rfl,_,rfl,(by cases lo<;>rfl),_,rfl,aU (λc1=>?_) (λc1=>?_)⟩
    ·have c1:lo≠some j:=λe=>by
      rw[e]at c1
      have:decide (V.int (j:Int)=loV (some j))=true:=dqt rfl
      rw[this]at c1
      exact absurd c1 (by decide)
     refine⟨_,rfl,_,rfl,D,_,_,_,rfl,rfl,SqL.of z3.r,aC (j:=j) rfl (Eg hbj),_,rfl,?_⟩
     have hgs:za2.toList[j]? = some bj:=by rw[z3.sk,wS c1,hbj]
     cases bj with
     |true =>
      refine jN ?_
      refine⟨_,Rl2,rfl,?_⟩
      rw[hskip (qt hgs)]
      exact z3
     |false =>
      refine d7 ?_
      refine⟨_,rfl,_,rfl,D,_,_,j,rfl,rfl,z3.r,uA (by rw[lmp,z3.ln];exact hjn),?_⟩
      have e3:(Rl2.map V.bl).set j (.bl true)=(Rl2.set j true).map V.bl:=by rw[List.map_set]
      rw[e3]
      have hw3:(upd H3 D (.lst ((Rl2.set j true).map V.bl))) Wa=some (.lst (iV (nI za1.reverse))):=by
       rw[ap nDW.symm]
       exact z3.w
      refine⟨_,rfl,.inl ⟨rfl,_,SqL.of hw3⟩,_,rfl,Wa,_,_,rfl,rfl,hw3,?_,?_⟩
      ·rw[bX,List.length_reverse]
       have e1:za1.length+WL.fk za2=r.length+WL.fk seen:=mu
       simp at hmu
       exact a6 (by lia)
      refine⟨_,Rl2.set j true,rfl,?_⟩
      have hv:WL.fu (za1,za2) j=(j :: za1,za2.setIfInBounds j true):=by
       unfold WL.fu
       rw[Gf (by rw[qt hgs];decide)]
      rw[hv]
      refine⟨aT (aT z3.sm hD) hW0,?_,?_,?_,?_,?_,?_⟩
      ·rw[ap nDW]
       exact ae
      ·rw[ae,List.reverse_cons,gu]
      ·rw[List.length_set]
       exact z3.ln
      ·rw[IY,z3.sk,tZ c1]
      ·intro q hq
       rw[IJ (λe=>c1 (by rw[hq,e]))]
       exact z3.lo q hq
      ·intro i hi
       rcases Gh.1 hi with rfl|hi
       ·exact hjn
       ·exact z3.td i hi
    ·have c1:lo=some j:=by
      cases lo with
      |none=>exact absurd rfl c1
      |some q =>
       by_cases e:q=j
       ·rw[e]
       ·exfalso
        refine c1 ?_
        have:decide (V.int (j:Int)=loV (some q))=false:=dqf (λy=>e (by have:=V.int.inj y;lia))
        rw[this]
        rfl
     refine jN ?_
     refine⟨_,Rl2,rfl,?_⟩
     rw[hskip (qt (by rw[z3.sk,c1];exact DZ (by rw[z3.ln];exact hjn)))]
     exact z3
   ·rintro σ H3 ⟨w6,Rl2,rfl,z3⟩
    rw[bX,Hx]at z3
    have mu:=WL.kW (f k0) (r,seen)
    refine⟨by lia,_,_,_,_,Rl2,rfl,z3,?_,hfin⟩
    have e1:((f k0).foldl WL.fu (r,seen)).1.length+WL.fk ((f k0).foldl WL.fu (r,seen)).2=r.length+WL.fk seen:=mu
    simp at hmu
    lia
  ·have c:=aH c
   rw[bX,List.length_reverse]at c
   have e0:todo=[]:=List.eq_nil_of_length_eq_zero (by lia)
   subst e0
   rw[WL.tU]at hfin
   refine⟨_,rfl,k H' D Rl z.sm z.r z.ln z.lo ?_⟩
   rw[<-hfin,z.sk]
def kP (i:Nat):Int:=20+8*(i:Int)
def CD (C:Gb):Sp:=λvs H Q _=>∃(a N:Gb) (as:List Gb) (S:Gla.Plan),vs=[.ref a,.ref N]/\bA C H a S/\RW H N as S.near/\as.length=S.pts.length/\dH (jB 8 kP ((GE S.pts.length).find? λi=>decide ((S.near i).length<2))) H Q
theorem BB:aq ["drawing","neighbours","k","row"] ["drawing","neighbours"] (ag d6):=fsk
theorem EY (F:Has K mg "fault_of_ends" d6 ["drawing","neighbours"]) (T:DCl K mg C) (ge:mg "enumerate"=none) (gl:mg "len"=none) (C1:Cm P w K mg base 1 C "place_of_point" ["self","k"] qG) :
  Cb P w K mg base 2 "fault_of_ends" ["drawing","neighbours"] (CD C):=by
 refine F.cb BB (λvs H Q E h=>?_) (λ_ _ A _ s H vs Q E hr h=>?_)
 ·obtain⟨a,N,as,S,rfl,_⟩:=h
  rfl
 ·obtain⟨a,N,as,S,rfl,hd,hrw,hlen,k⟩:=h
  obtain⟨dx,p,l,m,ps,ls,ms,o⟩:=hd.op (K:=K)
  refine⟨_,ad (bB Gy rfl (d5 rfl ge (aa (pv 1) ac)) (cC (n:=2) rfl (aG (ao (i:=2) BB.nd rfl (.inl rfl)) (aG (ao (i:=3) BB.nd rfl (.inl rfl)) bN)))
    (af (a4 (aM fZ (aZ aN (by rfl) gl G6 (aa (pv 3) ac)) ah (aI _))
     (af (al (bG (aa ah (aa (gU (pv 0) T.cl C1 hr (aa (pv 2) ac)) ac))))) aL)))
   (af (al bc)),?_⟩
  refine⟨_,rfl,N,_,rfl,SqL.of hrw.1,dr (K:=K) (a:=N) (xs:=as.map V.ref) (λi σ H'=>ak H H'/\(∃v1 v2,σ=[some (.ref a),some (.ref N),v1,v2])/\∀j,j<i->decide ((S.near j).length<2)=false)
   ⟨ak.refl H,⟨none,none,rfl⟩,λj h=>absurd h (Hn _)⟩ (λi σ H' _ h=>SqL.of (h.1 _ _ hrw.1)) ?_ ?_⟩
  ·rintro i y T' σ H' hi hT ⟨hS,⟨v1,v2,rfl⟩,hok⟩
   obtain⟨b,hb,rfl⟩:=bW hi
   have hil:i<S.pts.length:=by rw[<-hlen];exact(gsi hb).1
   have s2:ak H (upd H' T' (.tup [.int (i:Nat),.ref b])):=aV hS hT
   refine⟨T',_,rfl,SqT.of ae,rfl,_,_,rfl,_,_,rfl,rfl,?_⟩
   generalize upd H' T' (.tup [.int (i:Nat),.ref b])=H2 at s2
   have o2:=o.same s2
   refine⟨_,rfl,b,_,rfl,.inl (SqL.of ((hrw.same s2).2 i b hb)),_,_,rfl,rfl,_,rfl,?_⟩
   rw[bX]
   refine aU (λc=>?_) (λc=>?_)
   ·have c:=FY c
    refine⟨_,rfl,a,dx,_,rfl,o2.at_,cf (.inl (.inl rfl)),_,rfl,_,_,rfl,(by show 2<=Ge;decide),λq hq=>?_⟩
    have e:(GE S.pts.length).find? (λi=>decide ((S.near i).length<2))=some i:=WL.jR hil (dqt (by lia)) hok
    rw[e]at k
    exact dH.some' k s2 q hq
   ·have c:=aH c
    refine⟨s2,⟨_,_,rfl⟩,λj h=>?_⟩
    by_cases cc:j<i
    ·exact hok j cc
    ·have:j=i:=by lia
     subst this
     exact dqf (by lia)
  ·rintro σ H' ⟨hS,⟨v1,v2,rfl⟩,hok⟩
   have e:(GE S.pts.length).find? (λi=>decide ((S.near i).length<2))=none:=WL.iR λj hj=>hok j (by rw[lmp,hlen];exact hj)
   rw[e]at k
   exact k H' hS
def lO (S:Gla.Plan):Array Bool:=JO S.nears S.pts.length 0 (Kd S.pts.length)
def xw (S:Gla.Plan):Prop:=∀i,i<S.pts.length->∀j∈S.near i,j<S.pts.length
def Ez (C:Gb):Sp:=λvs H Q _=>∃(a N:Gb) (as:List Gb) (S:Gla.Plan),vs=[.ref a,.ref N]/\bA C H a S/\SB S/\4<=S.pts.length/\xw S/\RW H N as S.near/\as.length=S.pts.length/\dH (jB 9 kP ((GE S.pts.length).find? λi=>!((lO S).getD i false))) H Q
theorem B7:aq ["drawing","neighbours","k","reached"] ["drawing","neighbours"] (ag d3):=fsk
theorem xC {a:Array Bool}{j:Nat}{b:Bool}(h:a.toList[j]? = some b):a.getD j false=b:=by
 rw[HR,<-Array.getElem?_toList,h]
 rfl
theorem EX {l:List Bool}{i:Nat}{v:V}(h:(l.map V.bl)[i]? = some v):∃x,l[i]? = some x/\v=.bl x:=by
 rw[Gp]at h
 cases e:l[i]? with
 |none=>rw[e]at h;cases h
 |some x =>
  rw[e]at h
  exact⟨x,rfl,(osi h).symm⟩
theorem CY (F:Has K mg "fault_of_ways" d3 ["drawing","neighbours"]) (T:DCl K mg C) (ge:mg "enumerate"=none) (C1:Cm P w K mg base 1 C "place_of_point" ["self","k"] qG) (C2:Cb P w K mg base 1 "reached_from" ["start","neighbours","left_out"] zb) :
  Cb P w K mg base 2 "fault_of_ways" ["drawing","neighbours"] (Ez C):=by
 refine F.cb B7 (λvs H Q E h=>?_) (λ_ _ A _ s H vs Q E hr h=>?_)
 ·obtain⟨a,N,as,S,rfl,_⟩:=h
  rfl
 ·obtain⟨a,N,as,S,rfl,hd,sb,h4,hns,hrw,hlen,k⟩:=h
  obtain⟨dx,p,l,m,ps,ls,ms,o⟩:=hd.op (K:=K)
  have np:=sb.np
  refine⟨_,ad (bB Gy rfl (d5 rfl ge (aa (aB C2 hr (aa ah (aa (pv 1) (aa bc ac)))) ac)) (cC (n:=2) rfl (aG (ao (i:=2) B7.nd rfl (.inl rfl)) (aG (ao (i:=3) B7.nd rfl (.inl rfl)) bN)))
    (af (a4 (jg (cG (pv 3)))
     (af (al (bG (aa ah (aa (gU (pv 0) T.cl C1 hr (aa (pv 2) ac)) ac))))) aL)))
   (af (al bc)),?_⟩
  refine⟨_,rfl,0,N,as,S.near,none,S.pts.length,rfl,hrw,hlen,np,by lia,(λz=>by cases z),(λq z=>by cases z),hns,λH1 R Rl s1 hR hRl _ hmk=>?_⟩
  have hmk:Rl=(lO S).toList:=hmk
  have bit:∀j,Rl[j]? = some true->(!((lO S).getD j false))=false:=λj e=>by rw[xC (by rw[<-hmk];exact e)];rfl
  refine⟨R,_,rfl,SqL.of hR,dr (K:=K) (a:=R) (xs:=Rl.map V.bl) (λi σ H'=>ak H1 H'/\(∃v1 v2,σ=[some (.ref a),some (.ref N),v1,v2])/\∀j,j<i->(!((lO S).getD j false))=false)
   ⟨ak.refl H1,⟨none,none,rfl⟩,λj h=>absurd h (Hn _)⟩ (λi σ H' _ h=>SqL.of (h.1 _ _ hR)) ?_ ?_⟩
  ·rintro i y T' σ H' hi hT ⟨hS,⟨v1,v2,rfl⟩,hok⟩
   obtain⟨b,hb,rfl⟩:=EX hi
   have hil:i<S.pts.length:=by rw[<-hRl];exact(gsi hb).1
   have s2:ak H1 (upd H' T' (.tup [.int (i:Nat),.bl b])):=aV hS hT
   refine⟨T',_,rfl,SqT.of ae,rfl,_,_,rfl,_,_,rfl,rfl,?_⟩
   generalize upd H' T' (.tup [.int (i:Nat),.bl b])=H2 at s2
   have o2:=o.same (s1.trans s2)
   refine⟨_,rfl,_,rfl,?_⟩
   cases b with
   |true =>
    refine jN ?_
    refine⟨s2,⟨_,_,rfl⟩,λj h=>?_⟩
    by_cases cc:j<i
    ·exact hok j cc
    ·have:j=i:=by lia
     subst this
     exact bit j hb
   |false =>
    refine d7 ?_
    refine⟨_,rfl,a,dx,_,rfl,o2.at_,cf (.inl (.inl rfl)),_,rfl,_,_,rfl,(by show 2<=Ge;decide),λq hq=>?_⟩
    have e:(GE S.pts.length).find? (λi=>!((lO S).getD i false))=some i:=WL.jR hil (by rw[xC (by rw[<-hmk];exact hb)];rfl) hok
    rw[e]at k
    exact dH.some' k (s1.trans s2) q hq
  ·rintro σ H' ⟨hS,⟨v1,v2,rfl⟩,hok⟩
   have e:(GE S.pts.length).find? (λi=>!((lO S).getD i false))=none:=WL.iR λj hj=>hok j (by rw[lmp,hRl];exact hj)
   rw[e]at k
   exact k H' (s1.trans hS)
def AO (C:Gb):Sp:=λvs H Q _=>∃(a N:Gb) (as:List Gb) (S:Gla.Plan),vs=[.ref a,.ref N]/\bA C H a S/\SB S/\4<=S.pts.length/\xw S/\RW H N as S.near/\as.length=S.pts.length/\dH (jB 10 kP ((GE S.pts.length).find? (Gla.cuts S.nears S.pts.length))) H Q
theorem xu:aq ["drawing","neighbours","k","start"] ["drawing","neighbours"] (ag cK):=fsk
theorem wC {l:List Bool}:false∈l↔0<l.count false:=by rw[List.count_pos_iff]
theorem zG {S:Gla.Plan}{i:Nat}{Rl:List Bool}(h1:Rl[i]? = some false)(h2:mkS (some i) Rl=(JO S.nears S.pts.length (if i=0 then 1 else 0) (fJ (some i) S.pts.length)).toList):Gla.cuts S.nears S.pts.length i=decide (1<(Rl.count false:Nat)):=by
 have e:Gla.cuts S.nears S.pts.length i=(JO S.nears S.pts.length (if i=0 then 1 else 0) (fJ (some i) S.pts.length)).contains false:=rfl
 rw[e,G0,Array.contains_iff_mem,<-Array.mem_toList_iff,<-h2,wC,Gj]
 have h3:=WL.jp h1
 have h4:(mkS (some i) Rl).count false=(Rl.set i true).count false:=rfl
 lia
theorem BF (F:Has K mg "fault_of_narrows" cK ["drawing","neighbours"]) (T:DCl K mg C) (gr:mg "range"=none) (gl:mg "len"=none) (C1:Cm P w K mg base 1 C "place_of_point" ["self","k"] qG) (C2:Cb P w K mg base 1 "reached_from" ["start","neighbours","left_out"] zb) :
  Cb P w K mg base 2 "fault_of_narrows" ["drawing","neighbours"] (AO C):=by
 refine F.cb xu (λvs H Q E h=>?_) (λ_ _ A _ s H vs Q E hr h=>?_)
 ·obtain⟨a,N,as,S,rfl,_⟩:=h
  rfl
 ·obtain⟨a,N,as,S,rfl,hd,sb,h4,hns,hrw,hlen,k⟩:=h
  obtain⟨dx,p,l,m,ps,ls,ms,o⟩:=hd.op (K:=K)
  have np:=sb.np
  refine⟨_,ad (bB Gy rfl (oQ rfl gr (aa (aZ aN (by rfl) gl G6 (aa (pv 1) ac)) ac)) (ao (i:=2) xu.nd rfl (.inl rfl))
    (ad (aA (i:=3) xu.nd rfl (.inl rfl) (xz (aM j5 (pv 2) ah (aI _)) ah ah))
    (af (a4 (aM eg (lD Ho PySem.F.slot_list_count PySem.F.type_list_count wN (aB C2 hr (aa (pv 3) (aa (pv 1) (aa (pv 2) ac)))) (aa eD ac)) ah (aI _))
     (af (al (bG (aa ah (aa (gU (pv 0) T.cl C1 hr (aa (pv 2) ac)) ac))))) aL))))
   (af (al bc)),?_⟩
  refine⟨_,rfl,N,_,rfl,.inl (SqL.of hrw.1),_,rfl,by lia,by rw[lmp];lia,?_⟩
  rw[lmp,hlen,HD]
  refine jl (λi σ H'=>ak H H'/\(∃v1 v2,σ=[some (.ref a),some (.ref N),v1,v2])/\∀j,j<i->Gla.cuts S.nears S.pts.length j=false)
   ⟨ak.refl H,⟨none,none,rfl⟩,λj h=>absurd h (Hn _)⟩ ?_ ?_
  ·rintro i σ H' hil ⟨hS,⟨v1,v2,rfl⟩,hok⟩
   rw[Int.zero_add]
   have body:∀st:Nat,st=(if i=0 then 1 else 0)->tF (fq (tOp (rI0 λi j=>.bl (decide (j<i))) (tBM K "list" (vg K) (iM zb [] E0 (a8 (aY 3) (a8 (aY 1) (a8 (aY 2) fc)))) (a8 (tC (.bl false)) fc)) (tC (.int 1))))
     (m9 (wI (a8 (tC (.int 10)) (a8 (kt C "place_of_point" qG [] E0 (aY 0) (a8 (aY 2) fc)) fc)))) mB
     { nx:=λσ H'=>ak H H'/\(∃v1 v2,σ=[some (.ref a),some (.ref N),v1,v2])/\∀j,j<i+1->Gla.cuts S.nears S.pts.length j=false,rt:=Q,bk:=λσ H'=>Q .non H',ct:=λσ H'=>ak H H'/\(∃v1 v2,σ=[some (.ref a),some (.ref N),v1,v2])/\∀j,j<i+1->Gla.cuts S.nears S.pts.length j=false }
     [some (.ref a),some (.ref N),some (.int (i:Int)),some (.int (st:Int))] H':=λst est=>by
    refine⟨_,rfl,_,rfl,_,rfl,st,N,as,S.near,some i,S.pts.length,rfl,hrw.same hS,hlen,np,?_,?_,?_,hns,λH1 R Rl s1 hR hRl hlo hmk=>?_⟩
    ·rw[est];split<;>lia
    ·intro z
     have z:=osi z
     rw[est]at z
     split at z<;>lia
    ·intro q z
     have z:=osi z
     lia
    rw[est]at hmk
    have ec:=zG (hlo i rfl) hmk
    have s2:=hS.trans s1
    have o2:=o.same s2
    refine⟨.inl ⟨rfl,_,SqL.of hR⟩,R,Rl,false,rfl,rfl,SqL.of hR,_,_,rfl,rfl,_,rfl,aU (λc=>?_) (λc=>?_)⟩
    ·have c:=FY c
     refine⟨_,rfl,a,dx,_,rfl,o2.at_,cf (.inl (.inl rfl)),_,rfl,_,_,rfl,(by show 2<=Ge;decide),λq hq=>?_⟩
     have e:(GE S.pts.length).find? (Gla.cuts S.nears S.pts.length)=some i:=WL.jR hil (by rw[ec];exact dqt (by lia)) hok
     rw[e]at k
     exact dH.some' k s2 q hq
    ·have c:=aH c
     refine⟨s2,⟨_,_,rfl⟩,λj h=>?_⟩
     by_cases cc:j<i
     ·exact hok j cc
     ·have:j=i:=by lia
      subst this
      rw[ec]
      exact dqf (by lia)
   refine⟨_,rfl,rfl,_,rfl,aU (λc=>?_) (λc=>?_)⟩
   ·have c:=V.int.inj (FY c)
    refine body 1 ?_
    rw[Gk (by lia)]
   ·have c:¬i=0:=λz=>c (dqt (by rw[z];rfl))
    refine body 0 ?_
    rw[Gf c]
  ·rintro σ H' ⟨hS,⟨v1,v2,rfl⟩,hok⟩
   have e:(GE S.pts.length).find? (Gla.cuts S.nears S.pts.length)=none:=WL.iR λj hj=>hok j hj
   rw[e]at k
   exact k H' hS
def rY (S:Gla.Plan)(z:Pt):Bool:=(decide (0<z.x)&&decide (z.x<S.w))&&(decide (0<z.y)&&decide (z.y<S.h))
theorem yl (S:Gla.Plan)(z:Pt):Gla.clear S z=(rY S z&&!Gla.onLines S z):=by
 unfold Gla.clear rY
 rw[Bool.and_assoc,Bool.and_assoc,Bool.and_assoc]
def DY (K:Hq)(C:Gb):Sp:=λvs H Q _=>∃(a b:Gb) (S:Gla.Plan) (z:Pt),vs=[.ref a,.ref b]/\bA C H a S/\cI K H b z/\Q (.bl (rY S z)) H
theorem FU:aq ["drawing","mark"] ["drawing","mark"] (ag c8):=fsk
theorem CU (F:Has K mg "is_within_frame" c8 ["drawing","mark"]) (T:DCl K mg C):Cb P w K mg base 1 "is_within_frame" ["drawing","mark"] (DY K C):=by
 refine F.cb FU (λvs H Q E h=>?_) (λ_ _ A _ s H vs Q E hr h=>?_)
 ·obtain⟨a,b,S,z,rfl,_⟩:=h
  rfl
 ·obtain⟨a,b,S,z,rfl,hd,⟨⟨rz,hz⟩,_⟩,k⟩:=h
  obtain⟨dx,p,l,m,ps,ls,ms,o⟩:=hd.op (K:=K)
  refine⟨_,af (al (iP (ko fZ fZ ah (aw aD (pv 1) ah (λ_ _=>rfl)) (aQ (pv 0) rfl)) (eG (ko fZ fZ ah (aw aD (pv 1) ah (λ_ _=>rfl)) (aQ (pv 0) rfl))))),?_⟩
  have no:¬((0<z.x/\z.x<S.w)/\(0<z.y/\z.y<S.h))->Q (.bl false) H:=λq=>by
   have e:rY S z=false:=cE λy=>q (by unfold rY at y;simp only[Gi,Gj]at y;exact y)
   rw[e]at k
   exact k
  refine⟨_,rfl,b,_,_,_,rfl,rfl,hz,aC (j:=0) rfl rfl,_,_,rfl,rfl,_,rfl,aU (λc1=>?_) (λc1=>?_)⟩
  ·have c1:=FY c1
   refine⟨_,rfl,a,C,dx,_,_,rfl,o.at_,T.cl,T.nW,Al,_,_,rfl,rfl,_,rfl,aU (λc2=>?_) (λc2=>?_)⟩
   ·have c2:=FY c2
    refine⟨_,rfl,b,_,_,_,rfl,rfl,hz,aC (j:=1) rfl rfl,_,_,rfl,rfl,_,rfl,aU (λc3=>?_) (λc3=>?_)⟩
    ·have c3:=FY c3
     refine⟨_,rfl,a,C,dx,_,_,rfl,o.at_,T.cl,T.nH,As,_,_,rfl,rfl,?_⟩
     have e:rY S z=decide ((z.y:Int)<(S.h:Int)):=by
      unfold rY
      rw[dqt (by lia:0<z.x),dqt (by lia:z.x<S.w),dqt (by lia:0<z.y),HA,HA,HA,Gu]
      lia
     rw[e]at k
     exact k
    ·have c3:=aH c3
     exact no (by lia)
   ·have c2:=aH c2
    exact no (by lia)
  ·have c1:=aH c1
   exact⟨_,rfl,jN (no (by lia))⟩
def EG (K:Hq)(C:Gb):Sp:=λvs H Q _=>∃(a b:Gb) (S:Gla.Plan) (z:Pt),vs=[.ref a,.ref b]/\bA C H a S/\SB S/\gi S/\cI K H b z/\Q (.bl (Gla.onLines S z)) H
theorem CT:aq ["drawing","mark","line"] ["drawing","mark"] (ag db):=fsk
theorem DL (F:Has K mg "is_on_some_line" db ["drawing","mark"]) (T:DCl K mg C) (C1:Cb P w K mg base 2 "is_on" ["p","q","r"] (Cp K)):Cb P w K mg base 3 "is_on_some_line" ["drawing","mark"] (EG K C):=by
 refine F.cb CT (λvs H Q E h=>?_) (λ_ _ A _ s H vs Q E hr h=>?_)
 ·obtain⟨a,b,S,z,rfl,_⟩:=h
  rfl
 ·obtain⟨a,b,S,z,rfl,hd,sb,hlo,hz,k⟩:=h
  obtain⟨dx,p,l,m,ps,ls,ms,o⟩:=hd.op (K:=K)
  refine⟨_,ad (bB Gy rfl (bH (aQ (pv 0) rfl)) (ao (i:=2) CT.nd rfl (.inl rfl))
    (af (a4 (cG (aB C1 hr (aa (aw aW (aQ (pv 0) rfl) (aw aD (pv 2) ah (λ_ _=>rfl)) (λ_ _=>rfl)) (aa (aw aW (aQ (pv 0) rfl) (aw aD (pv 2) ah (λ_ _=>rfl)) (λ_ _=>rfl)) (aa (pv 1) ac))))) (af (al eD)) aL)))
   (af (al eD)),?_⟩
  refine⟨_,rfl,a,C,dx,_,_,rfl,o.at_,T.cl,T.nL,qA,l,rfl,⟨_,SqL.of o.ll⟩,eq (K:=K) (a:=l) (xs:=ls.map V.ref) (λi σ H'=>H'=H/\(∃v,σ=[some (.ref a),some (.ref b),v])/\∀j (hj:j<S.lines.length),j<i->Gla.isOn (S.pt S.lines[j].1) (S.pt S.lines[j].2) z=false)
   ⟨rfl,⟨none,rfl⟩,λj hj h=>absurd h (Hn _)⟩ (λi σ H' _ h=>by rw[h.1];exact SqL.of o.ll) ?_ ?_⟩
  ·rintro t y σ H' hi ⟨rfl,⟨v,rfl⟩,hno⟩
   obtain⟨c,hc,rfl⟩:=bW hi
   have ht:t<S.lines.length:=by rw[<-o.ln];exact(gsi hc).1
   obtain⟨x1,x2⟩:=hlo _ (GC ht)
   have hx:SqT K H' c (iV [(S.lines[t].1:Int),(S.lines[t].2:Int)]):=o.lnAt ht hc
   obtain⟨b1,hb1⟩:=o.hasP (i:=S.lines[t].1) (by lia)
   obtain⟨b2,hb2⟩:=o.hasP (i:=S.lines[t].2) (by lia)
   refine⟨_,rfl,a,C,dx,_,_,rfl,o.at_,T.cl,T.nP,ie,_,rfl,c,_,_,_,rfl,rfl,hx,aC (j:=0) rfl rfl,p,_,_,_,rfl,rfl,SqL.of o.pl,aC (j:=S.lines[t].1) rfl (aP hb1),_,rfl,a,C,dx,_,_,rfl,o.at_,T.cl,T.nP,ie,_,rfl,c,_,_,_,rfl,rfl,hx,aC (j:=1) rfl rfl,p,_,_,_,rfl,rfl,SqL.of o.pl,aC (j:=S.lines[t].2) rfl (aP hb2),_,rfl,b1,b2,b,_,_,_,rfl,o.ptAt sb hb1,o.ptAt sb hb2,hz,_,rfl,aU (λc1=>?_) (λc1=>?_)⟩
   ·show Q (.bl true) H'
    have e:Gla.onLines S z=true:=by
     unfold Gla.onLines
     rw[II]
     exact⟨_,GC ht,c1⟩
    rw[e]at k
    exact k
   ·refine⟨rfl,⟨_,rfl⟩,λj hj h=>?_⟩
    by_cases d:j<t
    ·exact hno j hj d
    ·have:j=t:=by lia
     subst this
     exact cE c1
  ·rintro σ H' ⟨rfl,⟨v,rfl⟩,hno⟩
   have e:Gla.onLines S z=false:=by
    unfold Gla.onLines
    rw[Jj]
    intro x hx q
    obtain⟨j,hj,rfl⟩:=GI hx
    rw[hno j hj (by rw[lmp,o.ln];exact hj)]at q
    exact absurd q (by decide)
   rw[e]at k
   exact k
def mN (S:Gla.Plan)(i:Nat):Int:=20+8*(S.pts.length:Int)+4*(S.lines.length:Int)+12*(i:Int)
def AL (C:Gb):Sp:=λvs H Q _=>∃(a:Gb) (S:Gla.Plan),vs=[.ref a]/\bA C H a S/\SB S/\gi S/\dH (jB 11 (mN S) (Hu (I0 S) Ip S.marks)) H Q
theorem uX:aq ["drawing","k","mark","misplaced"] ["drawing"] (ag dP):=fsk
theorem Op.hasM {H:Hp}{a dx p l m:Gb}{S:Gla.Plan}{ps ls ms:List Gb}(o:Op K C H a dx p l m S ps ls ms){i:Nat}(hi:i<S.marks.length):∃b,ms[i]? = some b:=⟨_,gge (by rw[o.mn];exact hi)⟩
theorem BH (F:Has K mg "fault_of_marks" dP ["drawing"]) (T:DCl K mg C) (ge:mg "enumerate"=none) (C1:Cm P w K mg base 3 C "place_of_mark" ["self","k"] (xi C)) (C2:Cb P w K mg base 1 "comes_behind" ["q","p"] (yx K)) (C3:Cb P w K mg base 1 "is_within_frame" ["drawing","mark"] (DY K C)) (C4:Cb P w K mg base 3 "is_on_some_line" ["drawing","mark"] (EG K C)) :
  Cb P w K mg base 4 "fault_of_marks" ["drawing"] (AL C):=by
 refine F.cb uX (λvs H Q E h=>?_) (λ_ _ A _ s H vs Q E hr h=>?_)
 ·obtain⟨a,S,rfl,_⟩:=h
  rfl
 ·obtain⟨a,S,rfl,hd,sb,hlo,k⟩:=h
  obtain⟨dx,p,l,m,ps,ls,ms,o⟩:=hd.op (K:=K)
  have hr1:br 1 _:=hr.mono (by decide)
  refine⟨_,ad (bB Gy rfl (d5 rfl ge (aa (aQ (pv 0) rfl) ac)) (cC (n:=2) rfl (aG (ao (i:=1) uX.nd rfl (.inl rfl)) (aG (ao (i:=2) uX.nd rfl (.inl rfl)) bN)))
    (ad (aA (i:=3) uX.nd rfl (.inl rfl) (sw (xn (aB C3 hr1 (aa (pv 0) (aa (pv 2) ac)))) (eG (aB C4 hr (aa (pv 0) (aa (pv 2) ac))))))
    (af (a4 (mZ (cG (pv 3)) (jG (jH (aM eg (pv 1) ah (aI _)) (iG (jg (cG (aB C2 hr1 (aa (pv 2) (aa (aw aW (aQ (pv 0) rfl) (aR eS (pv 1) ah) (λ_ _=>rfl)) ac))))))).pt)).pt
     (af (al (bG (aa ah (aa (gU (pv 0) T.cl C1 hr (aa (pv 1) ac)) ac))))) aL))))
   (af (al bc)),?_⟩
  refine⟨_,rfl,a,C,dx,_,_,rfl,o.at_,T.cl,T.nM,wL,m,_,rfl,SqL.of o.ml,dr (K:=K) (a:=m) (xs:=ms.map V.ref) (λi σ H'=>ak H H'/\(∃v1 v2 v3,σ=[some (.ref a),v1,v2,v3])/\∀j (hj:j<S.marks.length),j<i->WL.cg (I0 S) Ip S.marks j S.marks[j]=false)
   ⟨ak.refl H,⟨none,none,none,rfl⟩,λj hj h=>absurd h (Hn _)⟩ (λi σ H' _ h=>SqL.of (h.1 _ _ o.ml)) ?_ ?_⟩
  ·rintro i y T' σ H' hi hT ⟨hS,⟨v1,v2,v3,rfl⟩,hok⟩
   obtain⟨b,hb,rfl⟩:=bW hi
   have hil:i<S.marks.length:=by rw[<-o.mn];exact(gsi hb).1
   have s2:ak H (upd H' T' (.tup [.int (i:Nat),.ref b])):=aV hS hT
   refine⟨T',_,rfl,SqT.of ae,rfl,_,_,rfl,_,_,rfl,rfl,?_⟩
   generalize upd H' T' (.tup [.int (i:Nat),.ref b])=H2 at s2
   have o2:=o.same s2
   have hpt:cI K H2 b S.marks[i].at_:=o2.mkAt sb hb (gge hil)
   have bad:WL.cg (I0 S) Ip S.marks i S.marks[i]=true->∀H3,ak H H3->∀q,H3 q=none->Q (.ref q) (upd H3 q (.tup [.int 11,.int (mN S i)])):=λz H3 s3 q hq=>by
    have e:Hu (I0 S) Ip S.marks=some i:=by
     rw[WL.ee]
     exact WL.eA hil z λj hj=>hok j (by lia) hj
    rw[e]at k
    exact dH.some' k s3 q hq
   have next:WL.cg (I0 S) Ip S.marks i S.marks[i]=false->∀j (hj:j<S.marks.length),j<i+1->WL.cg (I0 S) Ip S.marks j S.marks[j]=false:=λz j hj h=>by
    by_cases c:j<i
    ·exact hok j hj c
    ·have:j=i:=by lia
     subst this
     exact z
   have cont:∀(t:Bool),t=(!Gla.markOk S S.marks[i])->tF (tOr (tB (aY 3)) (Af (fq (tOp (rI0 λi j=>.bl (decide (j<i))) (aY 1) (tC (.int 0)))) (Cf (tB (iM (yx K) [] E0 (a8 (aY 2) (a8 (tOp (wj K) (wo K (aY 0) "marks") (tOp (rI0 λi j=>.int (i-j)) (aY 1) (tC (.int 1)))) fc)))))))
     (m9 (wI (a8 (tC (.int 11)) (a8 (kt C "place_of_mark" (xi C) [] E0 (aY 0) (a8 (aY 1) fc)) fc)))) mB
     { nx:=λσ H'=>ak H H'/\(∃v1 v2 v3,σ=[some (.ref a),v1,v2,v3])/\∀j (hj:j<S.marks.length),j<i+1->WL.cg (I0 S) Ip S.marks j S.marks[j]=false,rt:=Q,bk:=λσ H'=>Q .non H',ct:=λσ H'=>ak H H'/\(∃v1 v2 v3,σ=[some (.ref a),v1,v2,v3])/\∀j (hj:j<S.marks.length),j<i+1->WL.cg (I0 S) Ip S.marks j S.marks[j]=false }
     [some (.ref a),some (.int (i:Nat)),some (.ref b),some (.bl t)] H2:=λt et=>by
    refine⟨_,rfl,_,rfl,aU (λc1=>?_) (λc1=>?_)⟩
    ·refine d7 ?_
     refine⟨_,rfl,a,dx,_,rfl,o2.at_,cf (.inr (.inl rfl)),_,rfl,a,S,_,rfl,o2.draw,(by show 2<=Ge;decide),λq hq=>?_⟩
     refine bad ?_ H2 s2 q hq
     unfold WL.cg
     rw[<-et,c1,Kb]
    ·have okt:(!Gla.markOk S S.marks[i])=false:=by rw[<-et];exact cE c1
     refine⟨_,rfl,_,_,rfl,rfl,_,rfl,aU (λc2=>?_) (λc2=>?_)⟩
     ·have c2:(0:Int)<((i:Nat):Int):=FY c2
      obtain⟨i',rfl⟩:∃i',i=i'+1:=⟨i-1,by lia⟩
      obtain⟨b',hb'⟩:=o2.hasM (i:=i') (by lia)
      have hpt':cI K H2 b' S.marks[i'].at_:=o2.mkAt sb hb' (gge (by lia))
      refine⟨_,rfl,_,rfl,a,C,dx,_,_,rfl,o2.at_,T.cl,T.nM,wL,_,rfl,_,_,rfl,rfl,m,_,_,_,rfl,rfl,SqL.of o2.ml,aC (j:=i') (by lia) (aP hb'),b,b',_,_,rfl,hpt,hpt',λH3 s3=>?_⟩
      have hbe:WL.cg (I0 S) Ip S.marks (i'+1) S.marks[i'+1]=!(S.marks[i'].at_.below S.marks[i'+1].at_):=by
       rw[WL.j0 (by lia),okt,Bool.false_or]
       rfl
      refine⟨_,rfl,?_⟩
      cases hc:S.marks[i'].at_.below S.marks[i'+1].at_ with
      |true =>
       refine jN ?_
       exact⟨s2.trans s3,⟨_,_,_,rfl⟩,next (by rw[hbe,hc];rfl)⟩
      |false =>
       refine d7 ?_
       refine⟨_,rfl,a,dx,_,rfl,(o2.same s3).at_,cf (.inr (.inl rfl)),_,rfl,a,S,_,rfl,(o2.same s3).draw,(by show 2<=Ge;decide),λq hq=>?_⟩
       exact bad (by rw[hbe,hc];rfl) H3 (s2.trans s3) q hq
     ·have c2:=aH c2
      have i0:i=0:=by lia
      subst i0
      exact⟨s2,⟨_,_,_,rfl⟩,next (by rw[WL.jW];exact okt)⟩
   have ec:(!Gla.markOk S S.marks[i])=(!rY S S.marks[i].at_||Gla.onLines S S.marks[i].at_):=by
    unfold I0
    rw[yl,Bool.not_and,Bool.not_not]
   refine⟨_,rfl,_,rfl,a,b,S,_,rfl,o2.draw,hpt,_,rfl,_,rfl,aU (λc1=>?_) (λc1=>?_)⟩
   ·refine cont true ?_
    rw[ec,c1,Kb]
   ·refine⟨_,rfl,_,rfl,a,b,S,_,rfl,o2.draw,sb,hlo,hpt,?_⟩
    refine cont _ ?_
    rw[ec,cE c1,Bool.false_or]
  ·rintro σ H' ⟨hS,⟨v1,v2,v3,rfl⟩,hok⟩
   have e:Hu (I0 S) Ip S.marks=none:=by
    rw[WL.ee]
    refine WL.dZ λj hj=>hok j hj ?_
    rw[lmp,o.mn]
    exact hj
   rw[e]at k
   exact k H' hS
def lk (x:Nat×Nat):List L2.Key:=[Sum.inl (x.1:Int),Sum.inl (x.2:Int)]
theorem Bp {x y:Nat×Nat}(h:lk x=lk y):x=y:=by
 have h1:=List.cons.inj h
 have h2:=List.cons.inj h1.2
 have e1:=Sum.inl.inj h1.1
 have e2:=Sum.inl.inj h2.1
 exact Prod.ext (by lia) (by lia)
def LD (kvs:List (List L2.Key×V))(L:List (Nat×Nat)):Prop:=∀x:Nat×Nat,(fV kvs (lk x)).isSome=decide (x∈L)
theorem LD.put {kvs:List (List L2.Key×V)}{L:List (Nat×Nat)}(h:LD kvs L)(x:Nat×Nat)(v:V):LD (iZ kvs (lk x) v) (L++[x]):=λy=>by
 rw[yH]
 by_cases e:lk y=lk x
 ·rw[Gk e,Bp e]
  exact(dqt (by simp)).symm
 ·rw[Gf e,h y,Gu,GK,List.mem_singleton]
  constructor
  ·exact .inl
  ·rintro(q|q)
   ·exact q
   ·exact absurd (by rw[q]) e
def eW (L:List (Nat×Nat))(es:List Nat):Bool:=(es.zip (es.drop 1)).all λx=>decide (x∈L)
theorem tm {L:List (Nat×Nat)}{es:List Nat}{t:Nat}(h:t+1<es.length)(hx:(es[t],es[t+1])∉L):eW L es=false:=by
 unfold eW
 rw[List.all_eq_false]
 refine⟨(es[t],es[t+1]),?_,by rw[dqf hx];decide⟩
 rw[J0]
 refine⟨t,by rw[Hm,GN];lia,?_⟩
 rw[Jx,Jo]
 congr 2
 lia
theorem rP {L:List (Nat×Nat)}{es:List Nat}(h:∀t (ht:t+1<es.length),(es[t],es[t+1])∈L):eW L es=true:=by
 unfold eW
 rw[Hk]
 intro x hx
 obtain⟨t,ht,rfl⟩:=GI hx
 rw[Hm,GN]at ht
 rw[Jx,Jo]
 have:=h t (by lia)
 refine dqt ?_
 have e:1+t=t+1:=by lia
 simp only[e]
 exact this
def D7:Sp:=λvs H Q _=>∃(n d:Gb) (es:List Nat) (kvs:List (List L2.Key×V)) (L:List (Nat×Nat)),vs=[.ref n,.ref d]/\H n=some (.lst (iV (nI es)))/\H d=some (.dT kvs)/\LD kvs L/\es.length<=100000/\∀H':Hp,ak H H'->Q (.bl (eW L es)) H'
theorem Ec:aq ["numbers","lines","k"] ["numbers","lines"] (ag b5):=fsk
theorem kX {l:List Nat}{i:Nat}(h:i<l.length):(iV (nI l))[i]? = some (.int (l[i]:Int)):=by
 unfold iV nI
 rw[Gp,Gp,gge h]
 rfl
theorem EH (F:Has K mg "are_joined_in_a_row" b5 ["numbers","lines"]) (gr:mg "range"=none) (gl:mg "len"=none):Cb P w K mg base 1 "are_joined_in_a_row" ["numbers","lines"] D7:=by
 refine F.cb Ec (λvs H Q E h=>?_) (λ_ _ A _ s H vs Q E hr h=>?_)
 ·obtain⟨n,d,es,kvs,L,rfl,_⟩:=h
  rfl
 ·obtain⟨n,d,es,kvs,L,rfl,hn,hd,hL,hlen,k⟩:=h
  have hu:=hr.units
  refine⟨_,ad (bB Gy rfl (pM rfl gr (aa ah (aa (aZ aN (by rfl) gl G6 (aa (pv 0) ac)) ac))) (ao (i:=2) Ec.nd rfl (.inl rfl))
    (af (a4 (tJ (pA (G8 (IV (by decide) _) hu) (bG (aa (aw aW (pv 0) (aR eS (pv 2) ah) (λ_ _=>rfl)) (aa (aw aW (pv 0) (pv 2) (λ_ _=>rfl)) ac))) (pv 1))) (af (al eD)) aL)))
   (af (al eD)),?_⟩
  refine⟨_,rfl,n,_,rfl,.inl (SqL.of hn),_,_,rfl,?_,?_⟩
  ·rw[bX]
   lia
  rw[bX]
  refine jl (λt σ H'=>ak H H'/\(∃v,σ=[some (.ref n),some (.ref d),v])/\∀j (hj:j+1<es.length),j<t->(es[j],es[j+1])∈L)
   ⟨ak.refl H,⟨none,rfl⟩,λj hj h=>absurd h (Hn _)⟩ ?_ ?_
  ·rintro t σ H' ht ⟨hS,⟨v,rfl⟩,hok⟩
   have et:((1:Int)+(t:Int))=((t+1:Nat):Int):=by lia
   rw[et]
   have htl:t+1<es.length:=by lia
   have hn':=hS _ _ hn
   refine⟨_,rfl,_,rfl,_,_,rfl,rfl,n,_,_,_,rfl,rfl,SqL.of hn',aC (j:=t) (by lia) (kX (by lia)),_,rfl,_,rfl,n,_,_,_,rfl,rfl,SqL.of hn',aC (j:=t+1) rfl (kX htl),(by show 2<=Ge;decide),λq hq=>?_⟩
   have s2:ak H (upd H' q (.tup [.int (es[t]:Int),.int (es[t+1]:Int)])):=aV hS hq
   refine⟨_,rfl,d,_,rfl,mD.t (k:=lk (es[t],es[t+1])) (s2 _ _ hd) ae,_,rfl,?_⟩
   rw[hL]
   refine aU (λc=>?_) (λc=>?_)
   ·have c:(es[t],es[t+1])∉L:=λz=>by
     rw[dqt z]at c
     exact absurd c (by decide)
    rw[tm htl c]at k
    exact k _ s2
   ·have c:(es[t],es[t+1])∈L:=bcn λz=>c (by rw[dqf z];rfl)
    refine⟨s2,⟨_,rfl⟩,λj hj h=>?_⟩
    by_cases e:j<t
    ·exact hok j hj e
    ·have:j=t:=by lia
     subst this
     exact c
  ·rintro σ H' ⟨hS,⟨v,rfl⟩,hok⟩
   rw[rP λt ht=>hok t ht (by lia)]at k
   exact k H' hS
def dU (S:Gla.Plan)(on:Pt->Bool)(t:Nat):List Nat:=(GE t).filter λi=>on (S.pt i)
theorem lI (S:Gla.Plan)(on:Pt->Bool)(t:Nat):dU S on (t+1)=if on (S.pt t)=true then dU S on t++[t] else dU S on t:=by
 unfold dU
 rw[JJ,List.filter_append]
 split
 ·rename_i h
  rw[List.filter_cons_of_pos (p:=λi=>on (S.pt i)) h]
  rfl
 ·rename_i h
  rw[List.filter_cons_of_neg (p:=λi=>on (S.pt i)) h]
  exact HM _
theorem nw (S:Gla.Plan)(on:Pt->Bool)(t:Nat):(dU S on t).length<=t:=by
 refine GU (Jh _ _) ?_
 rw[Hl]
 exact nlr _
theorem tw (S:Gla.Plan)(on:Pt->Bool):Gla.chained S (Gla.edgePts S on)=eW S.lines (dU S on S.pts.length):=by
 have e:Gla.edgePts S on=dU S on S.pts.length:=rfl
 rw[e]
 have pw:(dU S on S.pts.length).Pairwise (· < ·):=List.Pairwise.filter _ List.pairwise_lt_range
 generalize dU S on S.pts.length=es at pw
 have hlt:∀t (ht:t+1<es.length),es[t]<es[t+1]:=λt ht=>GT.1 pw t (t+1) (by lia) ht (by lia)
 unfold Gla.chained eW
 rw[G0,Hk,Hk]
 have key:∀x∈es.zip (es.drop 1),S.joined x.1 x.2=decide (x∈S.lines):=by
  intro x hx
  obtain⟨t,ht,rfl⟩:=GI hx
  rw[Hm,GN]at ht
  have h1:=hlt t (by lia)
  rw[Jx,Jo]
  have e:1+t=t+1:=by lia
  simp only[e]
  unfold Gla.Plan.joined
  simp only[GH (Jp h1),Hg (Jp h1)]
  rw[G0,Jf,Gj]
 constructor
 ·intro h x hx
  rw[<-key x hx]
  exact h x hx
 ·intro h x hx
  rw[key x hx]
  exact h x hx
structure xW (H:Hp)(n:Gb)(ts ps:List Gb):Prop where
 at_:H n=some (.lst (ts.map V.ref))
 ln:ts.length=ps.length
 row:∀(i:Nat) (t b:Gb),ts[i]? = some t->ps[i]? = some b->H t=some (.tup [.int (i:Nat),.ref b])
theorem xW.same {H H':Hp}{n:Gb}{ts ps:List Gb}(h:xW H n ts ps)(s:ak H H'):xW H' n ts ps:=⟨s _ _ h.at_,h.ln,λi t b e1 e2=>s _ _ (h.row i t b e1 e2)⟩
theorem mh {H:Hp}{n D a dx p l m:Gb}{S:Gla.Plan}{ts ps ls ms:List Gb}{s0 s1 s2 s3 s4 s5 s6 s7 s8 s9 s10 s11 s12 s13:Option V}{Qd:Hp->Prop}(c:Nat)(pick:Pt->Int)(hpick:∀q:Pt,(fS q)[c]? = some (pick q))(on:Pt->Bool)(z:Int)(hon:∀q,on q=decide (pick q=z))(tz:TE)
  (htz:∀(v12 v13:Option V) (H:Hp) (Q:VK),Q (.int z) H->tz [s0,s1,s2,s3,s4,s5,s6,s7,s8,s9,s10,s11,v12,v13] H Q)
  (o:Op K C H a dx p l m S ps ls ms) (nl:xW H n ts ps) (hn:S.pts.length<=100000) (hD:H D=none) (hQ:∀H',ak H H'->H' D=some (.lst (iV (nI (dU S on S.pts.length))))->Qd H') :
  ∃W:Nat->Nat->Hp->Prop,(∃m,W 0 m (upd H D (.lst [])))/\∀i m H,W i m H ->
   ((Itl K n).stop i H/\Qd H)\/((Itl K n).go i H/\∃Nx:Hp->Prop,(∀H',Nx H'->∃m',m'<m/\W (i+1) m' H')/\∀x H',(Itl K n).yld i H x H'->g2 K 12 13 x (b6 [s0,s1,s2,s3,s4,s5,s6,s7,s8,s9,s10,s11,s12,s13] [12,13]) H' λσ2 H2=>b6 σ2 [12,13]=b6 [s0,s1,s2,s3,s4,s5,s6,s7,s8,s9,s10,s11,s12,s13] [12,13]/\fq (tOp rEq (tOp (qX K) (aY 13) (tC (.int (c:Int)))) tz) σ2 H2 λb H3 =>
    if b=true then aY 12 σ2 H3 λy H4=>∃acc,H4 D=some (.lst acc)/\acc.length<Ge/\Nx (upd H4 D (.lst (acc++[y]))) else Nx H3):=by
 refine eV (K:=K) (a:=n) (xs:=ts.map V.ref) (λi H'=>ak H H'/\H' D=some (.lst (iV (nI (dU S on i))))) ⟨aJ hD,ae⟩ (λi H' _ h=>SqL.of (h.1 _ _ nl.at_)) ?_ ?_
 ·rintro i y H' hi ⟨hS,hDl⟩
  obtain⟨t,ht,rfl⟩:=bW hi
  have hil:i<ps.length:=by rw[<-nl.ln];exact(gsi ht).1
  have pn:=o.pn
  obtain⟨b,hb⟩:∃b,ps[i]? = some b:=⟨ps[i],gge _⟩
  have hrow:=(nl.same hS).row i t b ht hb
  have hpt:SqT K H' b (iV (fS (S.pt i))):=SqT.of ((o.same hS).pt i b hb)
  refine⟨t,_,rfl,SqT.of hrow,rfl,_,_,rfl,_,_,rfl,rfl,rfl,?_⟩
  refine⟨_,rfl,b,_,_,_,rfl,rfl,hpt,aC (j:=c) rfl (v:=.int (pick (S.pt i))) ?_,htz _ _ _ _ ⟨rfl,_,rfl,?_⟩⟩
  ·unfold iV
   rw[Gp,hpick]
   rfl
  have eon:decide (V.int (pick (S.pt i))=V.int z)=on (S.pt i):=by
   rw[hon,Gu]
   exact⟨V.int.inj,λq=>by rw[q]⟩
  rw[eon]
  refine aU (λcc=>?_) (λcc=>?_)
  ·refine⟨_,rfl,_,hDl,?_,aT hS hD,?_⟩
   ·rw[bX]
    have:=nw S on i
    exact a6 (by lia)
   ·rw[ae,lI,Gk cc,gu]
  ·refine⟨hS,?_⟩
   rw[lI,Gf cc]
   exact hDl
 ·rintro H' ⟨hS,hDl⟩
  rw[lmp,nl.ln,o.pn]at hDl
  exact hQ H' hS hDl
def eE (S:Gla.Plan):List Pt:=[⟨0,0⟩,⟨S.w,0⟩,⟨0,S.h⟩,⟨S.w,S.h⟩]
def ons (S:Gla.Plan):List (Pt->Bool):=[λp=>p.y==0,λp=>p.y==S.h,λp=>p.x==0,λp=>p.x==S.w]
theorem lc (S:Gla.Plan):Ka S=true↔(∀c∈eE S,c∈S.pts)/\∀on∈ons S,eW S.lines (dU S on S.pts.length)=true:=by
 unfold Ka eE ons
 simp only[Gi,Jf,tw,List.forall_mem_cons,List.not_mem_nil,false_imp_iff,implies_true,and_true,and_assoc]
def DF (C:Gb):Sp:=λvs H Q _=>∃(a:Gb) (S:Gla.Plan),vs=[.ref a]/\bA C H a S/\SB S/\dH (if Ka S=false then some (6,20) else none) H Q
theorem hX:aq ["drawing","width","height","corner","lines","line","numbered","bottom","top","left","right","edge","k","point"] ["drawing"] (ag bn):=fsk
theorem uY (S:Gla.Plan)(c:Pt):fS c∈S.pts.map fS↔c∈S.pts:=by
 rw[GP]
 constructor
 ·rintro⟨q,hq,e⟩
  have h1:=List.cons.inj e
  have h2:=List.cons.inj h1.2
  have:q=c:=by
   cases q
   cases c
   have e1:((_:Nat):Int)=_:=h1.1
   have e2:((_:Nat):Int)=_:=h2.1
   simp only[Gla.Pt.mk.injEq]
   exact⟨by exact_mod_cast e1,by exact_mod_cast e2⟩
  rw[<-this]
  exact hq
 ·exact λh=>⟨c,h,rfl⟩
theorem mj (a b:Nat):(a==b)=decide ((a:Int)=(b:Int)):=by
 rw[G0,Jz,Gj]
 lia
theorem E4 (F:Has K mg "fault_of_frame" bn ["drawing"]) (T:DCl K mg C) (ge:mg "enumerate"=none) (gli:mg "list"=none) (C1:Cm P w K mg base 1 C "place_of_point" ["self","k"] qG) (C2:Cb P w K mg base 1 "are_joined_in_a_row" ["numbers","lines"] D7) :
  Cb P w K mg base 2 "fault_of_frame" ["drawing"] (DF C):=by
 refine F.cb hX (λvs H Q E h=>?_) (λ_ _ A _ s H vs Q E hr h=>?_)
 ·obtain⟨a,S,rfl,_⟩:=h
  rfl
 ·obtain⟨a,S,rfl,hd,sb,k⟩:=h
  obtain⟨dx,p,l,m,ps,ls,ms,o⟩:=hd.op (K:=K)
  have hu:=hr.units
  have np:=sb.np
  have nl:=sb.nl
  refine⟨_,ad (aA (i:=1) hX.nd rfl (.inr rfl) (aQ (pv 0) rfl)) (ad (aA (i:=2) hX.nd rfl (.inr rfl) (aQ (pv 0) rfl))
   (ad (bB Gy rfl (tu (bG (aa (bG (aa ah (aa ah ac))) (aa (bG (aa (pv 1) (aa ah ac))) (aa (bG (aa ah (aa (pv 2) ac))) (aa (bG (aa (pv 1) (aa (pv 2) ac))) ac)))))) (ao (i:=3) hX.nd rfl (.inl rfl))
    (af (a4 (aM (vF hu) (pv 3) (aQ (pv 0) rfl) (by rfl)) (af (al (bG (aa ah (aa (gU (pv 0) T.cl C1 hr (aa ah ac)) ac))))) aL)))
   (ad (aA (i:=4) hX.nd rfl (.inl rfl) sI)
   (ad (bB Gy rfl (bH (aQ (pv 0) rfl)) (ao (i:=5) hX.nd rfl (.inl rfl))
    (af (qg (G8 (IV (by decide) _) hu) (pv 4) (pv 5) eD rfl)))
   (ad (aA (i:=6) hX.nd rfl (.inl rfl) (rZ rfl rfl gli rfl ge (aa (aQ (pv 0) rfl) ac)))
   (ad (bQ (i:=7) (own:=[("k",12),("point",13)]) (g:=g2 K 12 13) (tt:=fq (tOp rEq (tOp (qX K) (aY 13) (tC (.int 1))) (tC (.int 0)))) rfl hX.nd rfl rfl (cw rfl rfl rfl (by decide +kernel)) (bH (pv 6)) (bf (by show fY ["drawing","width","height","corner","lines","line","numbered","bottom","top","left","right","edge","k","point"] (ag bn) _ _=true;decide +kernel))
    (λ_ _ _ _ _=>cC (n:=2) rfl (aG (ao (i:=12) hX.nd rfl (.inl rfl) (.inr rfl)) (aG (ao (i:=13) hX.nd rfl (.inl rfl) (.inr rfl)) bN))) (λ_ _ _ _ _=>jy (aM j5 (aw aD (pv 13) ah (λ_ _=>rfl)) ah (aI _))) (λ_ _ _ _ _=>pv 12))
   (ad (bQ (i:=8) (own:=[("k",12),("point",13)]) (g:=g2 K 12 13) (tt:=fq (tOp rEq (tOp (qX K) (aY 13) (tC (.int 1))) (aY 2))) rfl hX.nd rfl rfl (cw rfl rfl rfl (by decide +kernel)) (bH (pv 6)) (bf (by show fY ["drawing","width","height","corner","lines","line","numbered","bottom","top","left","right","edge","k","point"] (ag bn) _ _=true;decide +kernel))
    (λ_ _ _ _ _=>cC (n:=2) rfl (aG (ao (i:=12) hX.nd rfl (.inl rfl) (.inr rfl)) (aG (ao (i:=13) hX.nd rfl (.inl rfl) (.inr rfl)) bN))) (λ_ _ _ _ _=>jy (aM j5 (aw aD (pv 13) ah (λ_ _=>rfl)) (pv 2) (aI _))) (λ_ _ _ _ _=>pv 12))
   (ad (bQ (i:=9) (own:=[("k",12),("point",13)]) (g:=g2 K 12 13) (tt:=fq (tOp rEq (tOp (qX K) (aY 13) (tC (.int 0))) (tC (.int 0)))) rfl hX.nd rfl rfl (cw rfl rfl rfl (by decide +kernel)) (bH (pv 6)) (bf (by show fY ["drawing","width","height","corner","lines","line","numbered","bottom","top","left","right","edge","k","point"] (ag bn) _ _=true;decide +kernel))
    (λ_ _ _ _ _=>cC (n:=2) rfl (aG (ao (i:=12) hX.nd rfl (.inl rfl) (.inr rfl)) (aG (ao (i:=13) hX.nd rfl (.inl rfl) (.inr rfl)) bN))) (λ_ _ _ _ _=>jy (aM j5 (aw aD (pv 13) ah (λ_ _=>rfl)) ah (aI _))) (λ_ _ _ _ _=>pv 12))
   (ad (bQ (i:=10) (own:=[("k",12),("point",13)]) (g:=g2 K 12 13) (tt:=fq (tOp rEq (tOp (qX K) (aY 13) (tC (.int 0))) (aY 1))) rfl hX.nd rfl rfl (cw rfl rfl rfl (by decide +kernel)) (bH (pv 6)) (bf (by show fY ["drawing","width","height","corner","lines","line","numbered","bottom","top","left","right","edge","k","point"] (ag bn) _ _=true;decide +kernel))
    (λ_ _ _ _ _=>cC (n:=2) rfl (aG (ao (i:=12) hX.nd rfl (.inl rfl) (.inr rfl)) (aG (ao (i:=13) hX.nd rfl (.inl rfl) (.inr rfl)) bN))) (λ_ _ _ _ _=>jy (aM j5 (aw aD (pv 13) ah (λ_ _=>rfl)) (pv 1) (aI _))) (λ_ _ _ _ _=>pv 12))
   (ad (bB Gy rfl (tu (bG (aa (pv 7) (aa (pv 8) (aa (pv 9) (aa (pv 10) ac)))))) (ao (i:=11) hX.nd rfl (.inl rfl))
    (af (a4 (jg (cG (aB C2 hr (aa (pv 11) (aa (pv 4) ac))))) (af (al (bG (aa ah (aa (gU (pv 0) T.cl C1 hr (aa ah ac)) ac))))) aL)))
   (af (al bc)))))))))))),?_⟩
  have bad:Ka S=false->∀H3,ak H H3->∀q,H3 q=none->Q (.ref q) (upd H3 q (.tup [.int 6,.int (20+8*0)])):=λz H3 s3 q hq=>by
   rw[Gk z]at k
   exact dH.some' k s3 q hq
  refine⟨_,rfl,a,C,dx,_,_,rfl,o.at_,T.cl,T.nW,Al,?_⟩
  refine⟨_,rfl,a,C,dx,_,_,rfl,o.at_,T.cl,T.nH,As,?_⟩
  refine⟨(by show 2<=Ge;decide),λt1 h1=>?_⟩
  have hs1:ak H (upd H t1 (.tup [.int 0,.int 0])):=aJ h1
  have g1:(upd H t1 (.tup [.int 0,.int 0])) t1=some (.tup (iV (fS ⟨0,0⟩))):=ae
  generalize upd H t1 (.tup [.int 0,.int 0])=Ha at hs1 g1
  refine⟨_,rfl,(by show 2<=Ge;decide),λt2 h2=>?_⟩
  have hs2:ak Ha (upd Ha t2 (.tup [.int (S.w:Int),.int 0])):=aJ h2
  have g2':(upd Ha t2 (.tup [.int (S.w:Int),.int 0])) t2=some (.tup (iV (fS ⟨S.w,0⟩))):=ae
  generalize upd Ha t2 (.tup [.int (S.w:Int),.int 0])=Hb at hs2 g2'
  refine⟨_,rfl,(by show 2<=Ge;decide),λt3 h3=>?_⟩
  have hs3:ak Hb (upd Hb t3 (.tup [.int 0,.int (S.h:Int)])):=aJ h3
  have g3:(upd Hb t3 (.tup [.int 0,.int (S.h:Int)])) t3=some (.tup (iV (fS ⟨0,S.h⟩))):=ae
  generalize upd Hb t3 (.tup [.int 0,.int (S.h:Int)])=Hc at hs3 g3
  refine⟨_,rfl,_,rfl,(by show 2<=Ge;decide),λt4 h4=>?_⟩
  have hs4:ak Hc (upd Hc t4 (.tup [.int (S.w:Int),.int (S.h:Int)])):=aJ h4
  have g4:(upd Hc t4 (.tup [.int (S.w:Int),.int (S.h:Int)])) t4=some (.tup (iV (fS ⟨S.w,S.h⟩))):=ae
  generalize upd Hc t4 (.tup [.int (S.w:Int),.int (S.h:Int)])=Hd at hs4 g4
  refine⟨(by show 4<=Ge;decide),λt5 h5=>?_⟩
  have hs5:ak Hd (upd Hd t5 (.tup [.ref t1,.ref t2,.ref t3,.ref t4])):=aJ h5
  have g5:(upd Hd t5 (.tup [.ref t1,.ref t2,.ref t3,.ref t4])) t5=some (.tup ([t1,t2,t3,t4].map V.ref)):=ae
  generalize upd Hd t5 (.tup [.ref t1,.ref t2,.ref t3,.ref t4])=He at hs5 g5
  have sHe:ak H He:=hs1.trans (hs2.trans (hs3.trans (hs4.trans hs5)))
  have rows:∀(i:Nat) (b:Gb) (c:Pt),[t1,t2,t3,t4][i]? = some b->(eE S)[i]? = some c->He b=some (.tup (iV (fS c))):=by
   intro i b c e1 e2
   have hi:i<4:=(gsi e1).1
   rcases(by lia:i=0\/i=1\/i=2\/i=3) with rfl|rfl|rfl|rfl
   ·cases osi e1;cases osi e2
    exact hs5 _ _ (hs4 _ _ (hs3 _ _ (hs2 _ _ g1)))
   ·cases osi e1;cases osi e2
    exact hs5 _ _ (hs4 _ _ (hs3 _ _ g2'))
   ·cases osi e1;cases osi e2
    exact hs5 _ _ (hs4 _ _ g3)
   ·cases osi e1;cases osi e2
    exact hs5 _ _ g4
  refine⟨t5,rfl,⟨_,SqT.of g5⟩,pZ (K:=K) (a:=t5) (xs:=[t1,t2,t3,t4].map V.ref) (λi σ H'=>ak He H'/\(∃v,σ=[some (.ref a),some (.int (S.w:Int)),some (.int (S.h:Int)),v,none,none,none,none,none,none,none,none,none,none])/\∀(j:Nat) (c:Pt),j<i->(eE S)[j]? = some c->c∈S.pts)
   ⟨ak.refl He,⟨none,rfl⟩,λj c h=>absurd h (Hn _)⟩ (λi σ H' _ h=>SqT.of (h.1 _ _ g5)) ?_ ?_⟩
  ·rintro i y σ H' hi ⟨hS,⟨v,rfl⟩,hok⟩
   obtain⟨b,hb,rfl⟩:=bW hi
   have hi4:i<(eE S).length:=(gsi hb).1
   have hc:(eE S)[i]? = some (eE S)[i]:=gge hi4
   have o2:=o.same (sHe.trans hS)
   refine⟨_,rfl,_,rfl,a,C,dx,_,_,rfl,o2.at_,T.cl,T.nP,ie,b,p,fS (eE S)[i],ps,S.pts.map fS,rfl,rfl,SqT.of (hS _ _ (rows i b _ hb hc)),SqL.of o2.pl,by rw[lmp,o.pn],?_,_,rfl,aU (λc=>?_) (λc=>?_)⟩
   ·intro j a' q e1 e2
    have hj:j<S.pts.length:=by rw[<-o.pn];exact(gsi e1).1
    rw[Gp,gge hj]at e2
    have e2:=osi e2
    rw[<-e2,<-WL.bO S hj]
    exact SqT.of (o2.pt j a' e1)
   ·have c:(eE S)[i]∉S.pts:=λz=>by
     rw[dqt ((uY S _).2 z)]at c
     exact absurd c (by decide)
    refine⟨_,rfl,a,dx,_,rfl,o2.at_,cf (.inl (.inl rfl)),_,_,rfl,(by show 2<=Ge;decide),λq hq=>?_⟩
    refine bad (cE λz=>c ?_) H' (sHe.trans hS) q hq
    exact((lc S).1 z).1 _ (GC hi4)
   ·have c:(eE S)[i]∈S.pts:=bcn λz=>c (by rw[dqf (λy=>z ((uY S _).1 y))];rfl)
    refine⟨hS,⟨_,rfl⟩,λj q h e=>?_⟩
    by_cases cc:j<i
    ·exact hok j q cc e
    ·have:j=i:=by lia
     subst this
     rw[hc]at e
     cases e
     exact c
  rintro σ H1 ⟨hS1,⟨v3,rfl⟩,hok1⟩
  have cor:∀c∈eE S,c∈S.pts:=λc hc=>by
   obtain⟨j,hj,rfl⟩:=GI hc
   exact hok1 j _ hj (gge hj)
  have s1:ak H H1:=sHe.trans hS1
  clear hok1 rows g5 g4 g3 g2' g1
  refine λd hd=>?_
  have hd0:H d=none:=s1.free hd
  have s2:ak H (upd H1 d (.dT [])):=aV s1 hd
  have o2:=o.same s2
  refine⟨_,rfl,a,C,dx,_,_,rfl,o2.at_,T.cl,T.nL,qA,l,rfl,⟨_,SqL.of o2.ll⟩,eq (K:=K) (a:=l) (xs:=ls.map V.ref) (λi σ H'=>ak H H'/\(∃v,σ=[some (.ref a),some (.int (S.w:Int)),some (.int (S.h:Int)),v3,some (.ref d),v,none,none,none,none,none,none,none,none])/\∃kvs,H' d=some (.dT kvs)/\LD kvs (S.lines.take i)/\kvs.length<=i)
   ⟨s2,⟨none,rfl⟩,[],ae,λx=>rfl,nlr _⟩ (λi σ H' _ h=>SqL.of (h.1 _ _ o.ll)) ?_ ?_⟩
  ·rintro t y σ H' hi ⟨hS,⟨v,rfl⟩,kvs,hk,hL,hkl⟩
   obtain⟨b,hb,rfl⟩:=bW hi
   have ht:t<S.lines.length:=by rw[<-o.ln];exact(gsi hb).1
   have hx:H' b=some (.tup ((lk S.lines[t]).map kV)):=(o.same hS).li t b _ hb (gge ht)
   refine⟨_,rfl,_,rfl,d,_,rfl,qF.t (k:=lk S.lines[t]) hk hx (a6 (by lia)),?_⟩
   refine⟨aT hS hd0,⟨_,rfl⟩,_,ae,?_,?_⟩
   ·rw[bE (gge ht)]
    exact hL.put _ _
   ·have:=gq kvs (lk S.lines[t]) (.bl true)
    lia
  rintro σ H2 ⟨hS2,⟨v5,rfl⟩,kvs,hk,hL,hkl⟩
  rw[lmp,o.ln,Hx]at hL
  have o3:=o.same hS2
  refine⟨_,rfl,a,C,dx,_,_,rfl,o3.at_,T.cl,T.nP,ie,p,_,rfl,SqL.of o3.pl,λH3 n ts s3 hn hnl hnr=>?_⟩
  rw[lmp]at hnl
  have nm:xW H3 n ts ps:=⟨hn,hnl,λi t b e1 e2=>hnr i t _ e1 (aP e2)⟩
  have sH3:ak H H3:=hS2.trans s3
  have hk3:=s3 _ _ hk
  clear hn hnr hnl
  refine⟨_,rfl,n,rfl,⟨_,SqL.of nm.at_⟩,λD1 hD1=>?_⟩
  refine mh 1 (λq=>(q.y:Int)) (λq=>rfl) (λp=>p.y==0) 0 (λq=>mj q.y 0) (tC (.int 0)) (λ_ _ _ _ h=>h) (o.same sH3) nm np hD1 λH4 s4 e4=>?_
  have sH4:=sH3.trans s4
  have nm4:=nm.same s4
  refine⟨_,rfl,n,rfl,⟨_,SqL.of nm4.at_⟩,λD2 hD2=>?_⟩
  refine mh 1 (λq=>(q.y:Int)) (λq=>rfl) (λp=>p.y==S.h) (S.h:Int) (λq=>mj q.y S.h) (aY 2) (λ_ _ _ _ h=>⟨_,rfl,h⟩) (o.same sH4) nm4 np hD2 λH5 s5 e5=>?_
  have sH5:=sH4.trans s5
  have nm5:=nm4.same s5
  refine⟨_,rfl,n,rfl,⟨_,SqL.of nm5.at_⟩,λD3 hD3=>?_⟩
  refine mh 0 (λq=>(q.x:Int)) (λq=>rfl) (λp=>p.x==0) 0 (λq=>mj q.x 0) (tC (.int 0)) (λ_ _ _ _ h=>h) (o.same sH5) nm5 np hD3 λH6 s6 e6=>?_
  have sH6:=sH5.trans s6
  have nm6:=nm5.same s6
  refine⟨_,rfl,n,rfl,⟨_,SqL.of nm6.at_⟩,λD4 hD4=>?_⟩
  refine mh 0 (λq=>(q.x:Int)) (λq=>rfl) (λp=>p.x==S.w) (S.w:Int) (λq=>mj q.x S.w) (aY 1) (λ_ _ _ _ h=>⟨_,rfl,h⟩) (o.same sH6) nm6 np hD4 λH7 s7 e7=>?_
  have sH7:=sH6.trans s7
  have s37:ak H3 H7:=s4.trans (s5.trans (s6.trans s7))
  refine⟨_,rfl,_,rfl,_,rfl,_,rfl,(by show 4<=Ge;decide),λt8 h8=>?_⟩
  have s8:ak H7 (upd H7 t8 (.tup [.ref D1,.ref D2,.ref D3,.ref D4])):=aJ h8
  have g8:(upd H7 t8 (.tup [.ref D1,.ref D2,.ref D3,.ref D4])) t8=some (.tup ([D1,D2,D3,D4].map V.ref)):=ae
  generalize upd H7 t8 (.tup [.ref D1,.ref D2,.ref D3,.ref D4])=H8 at s8 g8
  have sH8:=sH7.trans s8
  have hk8:=s8 _ _ (s37 _ _ hk3)
  have edges:∀(i:Nat) (b:Gb) (on:Pt->Bool),[D1,D2,D3,D4][i]? = some b->(ons S)[i]? = some on->H8 b=some (.lst (iV (nI (dU S on S.pts.length)))):=by
   intro i b on e1 e2
   have hi:i<4:=(gsi e1).1
   rcases(by lia:i=0\/i=1\/i=2\/i=3) with rfl|rfl|rfl|rfl
   ·cases osi e1;cases osi e2
    exact s8 _ _ (s7 _ _ (s6 _ _ (s5 _ _ e4)))
   ·cases osi e1;cases osi e2
    exact s8 _ _ (s7 _ _ (s6 _ _ e5))
   ·cases osi e1;cases osi e2
    exact s8 _ _ (s7 _ _ e6)
   ·cases osi e1;cases osi e2
    exact s8 _ _ e7
  refine⟨t8,rfl,⟨_,SqT.of g8⟩,pZ (K:=K) (a:=t8) (xs:=[D1,D2,D3,D4].map V.ref) (λi σ H'=>ak H8 H'/\(∃v,σ=[some (.ref a),some (.int (S.w:Int)),some (.int (S.h:Int)),v3,some (.ref d),v5,some (.ref n),some (.ref D1),some (.ref D2),some (.ref D3),some (.ref D4),v,none,none])/\∀(j:Nat) (on:Pt->Bool),j<i->(ons S)[j]? = some on->eW S.lines (dU S on S.pts.length)=true)
   ⟨ak.refl H8,⟨none,rfl⟩,λj c h=>absurd h (Hn _)⟩ (λi σ H' _ h=>SqT.of (h.1 _ _ g8)) ?_ ?_⟩
  ·rintro i y σ H' hi ⟨hS,⟨v,rfl⟩,hok⟩
   obtain⟨b,hb,rfl⟩:=bW hi
   have hi4:i<(ons S).length:=(gsi hb).1
   have hc:(ons S)[i]? = some (ons S)[i]:=gge hi4
   refine⟨_,rfl,_,rfl,b,d,dU S (ons S)[i] S.pts.length,kvs,S.lines,rfl,hS _ _ (edges i b _ hb hc),hS _ _ hk8,hL,?_,λH9 s9=>?_⟩
   ·have:=nw S (ons S)[i] S.pts.length
    lia
   refine⟨_,rfl,?_⟩
   have o9:=o.same (sH8.trans (hS.trans s9))
   cases hj:eW S.lines (dU S (ons S)[i] S.pts.length) with
   |true =>
    refine jN ?_
    refine⟨hS.trans s9,⟨_,rfl⟩,λj q h e=>?_⟩
    by_cases cc:j<i
    ·exact hok j q cc e
    ·have:j=i:=by lia
     subst this
     rw[hc]at e
     cases e
     exact hj
   |false =>
    refine d7 ?_
    refine⟨_,rfl,a,dx,_,rfl,o9.at_,cf (.inl (.inl rfl)),_,_,rfl,(by show 2<=Ge;decide),λq hq=>?_⟩
    refine bad (cE λz=>?_) H9 (sH8.trans (hS.trans s9)) q hq
    rw[((lc S).1 z).2 _ (GC hi4)]at hj
    cases hj
  ·rintro σ H' ⟨hS,⟨v,rfl⟩,hok⟩
   have z:Ka S=true:=(lc S).2 ⟨cor,λon hon=>by
    obtain⟨j,hj,rfl⟩:=GI hon
    exact hok j _ hj (gge hj)⟩
   rw[z,Gf (by decide)]at k
   exact k H' (sH8.trans hS)
def lu (o:Option (Int×Int))(v:V)(H:Hp):Prop:=match o with
 |none=>v=.non
 |some (r,p)=>∃q,v=.ref q/\H q=some (.tup [.int r,.int p])
theorem dH.of {o:Option (Int×Int)}{H:Hp}{Q:VK}(h:∀v H',ak H H'->lu o v H'->Q v H'):dH o H Q:=by
 cases o with
 |none=>exact λH' s=>h .non H' s rfl
 |some x=>exact λH' q s e=>h (.ref q) H' s ⟨q,rfl,e⟩
theorem dH.to {o:Option (Int×Int)}{H H':Hp}{Q:VK}{v:V}(k:dH o H Q)(s:ak H H')(f:lu o v H'):Q v H':=by
 cases o with
 |none=>rw[show v=.non from f];exact k H' s
 |some x =>
  obtain⟨q,rfl,e⟩:=f
  exact k H' q s e
def o4 (S:Gla.Plan):Option (Int×Int):=jB 4 kP (Hu (ok4 S) Pt.below S.pts)
def o5 (S:Gla.Plan):Option (Int×Int):=jB 5 (qp S) (Hu (ok5 S) HB S.lines)
def o6 (S:Gla.Plan):Option (Int×Int):=if Ka S=false then some (6,20) else none
def o7 (S:Gla.Plan):Option (Int×Int):=jB 7 (qp S) (Gla.firstAt (JN S) S.lines)
def o8 (S:Gla.Plan):Option (Int×Int):=jB 8 kP ((GE S.pts.length).find? λi=>decide ((S.near i).length<2))
def o9 (S:Gla.Plan):Option (Int×Int):=jB 9 kP ((GE S.pts.length).find? λi=>!((lO S).getD i false))
def o10 (S:Gla.Plan):Option (Int×Int):=jB 10 kP ((GE S.pts.length).find? (Gla.cuts S.nears S.pts.length))
def o11 (S:Gla.Plan):Option (Int×Int):=jB 11 (mN S) (Hu (I0 S) Ip S.marks)
def lf (a b:Option (Int×Int)):Option (Int×Int):=match a with
 |some x=>some x
 |none=>b
def bT (S:Gla.Plan):Option (Int×Int):=lf (o4 S) (lf (o5 S) (lf (o6 S) (lf (o7 S) (lf (o8 S) (lf (o9 S) (lf (o10 S) (o11 S)))))))
theorem ek {r:Int}{pl:Nat->Int}{o:Option Nat}(h:jB r pl o=none):o=none:=by
 cases o with
 |none=>rfl
 |some i=>cases h
theorem og {S:Gla.Plan}(h:gi S):xw S:=λi hi j hj=>by
 unfold Gla.Plan.near at hj
 rw[JD]at hj
 obtain⟨l,hl,e⟩:=hj
 obtain⟨l1,l2⟩:=h l hl
 split at e
 ·have e:=osi e
  lia
 ·split at e
  ·have e:=osi e
   lia
  ·cases e
theorem gT {b:V}{q:Gb}{A B:Prop}(h:B)(e:b=.ref q):if decide (b=V.non)=true then A else B:=aU (λc=>by rw[e]at c;exact absurd (FY c) (by intro z;cases z)) (λ_=>h)
theorem lP {A B:Prop}(h:A):if decide (V.non=V.non)=true then A else B:=aU (λ_=>h) (λc=>absurd (dqt rfl) c)
def Dz (C:Gb):Sp:=λvs H Q _=>∃(a:Gb) (S:Gla.Plan),vs=[.ref a]/\bA C H a S/\SB S/\4<=S.pts.length/\dH (bT S) H Q
theorem ox:aq ["drawing","fault","neighbours"] ["drawing"] (ag cM):=fsk
theorem EO (F:Has K mg "fault_of_drawing" cM ["drawing"]) (C4:Cb P w K mg base 2 "fault_of_points" ["drawing"] (DR C)) (C5:Cb P w K mg base 3 "fault_of_lines" ["drawing"] (CQ C)) (C6:Cb P w K mg base 2 "fault_of_frame" ["drawing"] (DF C)) (C7:Cb P w K mg base 5 "fault_of_crossings" ["drawing"] (EJ C))
  (CN:Cb P w K mg base 1 "neighbours_of" ["drawing"] (BT C)) (C8:Cb P w K mg base 2 "fault_of_ends" ["drawing","neighbours"] (CD C)) (C9:Cb P w K mg base 2 "fault_of_ways" ["drawing","neighbours"] (Ez C)) (C10:Cb P w K mg base 2 "fault_of_narrows" ["drawing","neighbours"] (AO C)) (C11:Cb P w K mg base 4 "fault_of_marks" ["drawing"] (AL C)) :
  Cb P w K mg base 6 "fault_of_drawing" ["drawing"] (Dz C):=by
 refine F.cb ox (λvs H Q E h=>?_) (λ_ _ A _ s H vs Q E hr h=>?_)
 ·obtain⟨a,S,rfl,_⟩:=h
  rfl
 ·obtain⟨a,S,rfl,hd,sb,h4,k⟩:=h
  have hr1:br 1 _:=hr.mono (by decide)
  have hr2:br 2 _:=hr.mono (by decide)
  have hr3:br 3 _:=hr.mono (by decide)
  have hr4:br 4 _:=hr.mono (by decide)
  refine⟨_,ad (aA (i:=1) ox.nd rfl (.inl rfl) (aB C4 hr2 (aa (pv 0) ac)))
   (ad (a4 (aM iL (pv 1) bc (aI _)) (af (aA (i:=1) ox.nd rfl (.inl rfl) (aB C5 hr3 (aa (pv 0) ac)))) aL)
   (ad (a4 (aM iL (pv 1) bc (aI _)) (af (aA (i:=1) ox.nd rfl (.inl rfl) (aB C6 hr2 (aa (pv 0) ac)))) aL)
   (ad (a4 (aM iL (pv 1) bc (aI _)) (af (aA (i:=1) ox.nd rfl (.inl rfl) (aB C7 hr (aa (pv 0) ac)))) aL)
   (ad (a4 (aM jq (pv 1) bc (aI _)) (af (al (pv 1))) aL)
   (ad (aA (i:=2) ox.nd rfl (.inl rfl) (aB CN hr1 (aa (pv 0) ac)))
   (ad (aA (i:=1) ox.nd rfl (.inl rfl) (aB C8 hr2 (aa (pv 0) (aa (pv 2) ac))))
   (ad (a4 (aM iL (pv 1) bc (aI _)) (af (aA (i:=1) ox.nd rfl (.inl rfl) (aB C9 hr2 (aa (pv 0) (aa (pv 2) ac))))) aL)
   (ad (a4 (aM iL (pv 1) bc (aI _)) (af (aA (i:=1) ox.nd rfl (.inl rfl) (aB C10 hr2 (aa (pv 0) (aa (pv 2) ac))))) aL)
   (ad (a4 (aM iL (pv 1) bc (aI _)) (af (aA (i:=1) ox.nd rfl (.inl rfl) (aB C11 hr4 (aa (pv 0) ac)))) aL)
   (af (al (pv 1)))))))))))),?_⟩
  refine⟨_,rfl,a,S,rfl,hd,sb,dH.of λv H1 s1 f4=>?_⟩
  have f4:lu (o4 S) v H1:=f4
  cases e4:o4 S with
  |some x =>
   rw[e4]at f4
   obtain⟨q,rfl,hq⟩:=id f4
   refine⟨_,rfl,rfl,_,rfl,gT ?_ rfl⟩
   refine⟨_,rfl,rfl,_,rfl,gT ?_ rfl⟩
   refine⟨_,rfl,rfl,_,rfl,gT ?_ rfl⟩
   refine⟨_,rfl,rfl,_,rfl,aU (λ_=>⟨_,rfl,?_⟩) (λc=>absurd (by rw[dqf (by intro z;cases z)];rfl) c)⟩
   have e:bT S=some x:=by unfold bT;rw[e4];rfl
   rw[e]at k
   exact k.to s1 f4
  |none =>
  rw[e4]at f4
  obtain rfl:v=.non:=f4
  have r4:WL.R4 S:=ek e4
  refine⟨_,rfl,rfl,_,rfl,lP ?_⟩
  refine⟨_,rfl,a,S,rfl,hd.same s1,sb,dH.of λv H2 s2 f5=>?_⟩
  have f5:lu (o5 S) v H2:=f5
  have s2:=s1.trans s2
  cases e5:o5 S with
  |some x =>
   rw[e5]at f5
   obtain⟨q,rfl,hq⟩:=id f5
   refine⟨_,rfl,rfl,_,rfl,gT ?_ rfl⟩
   refine⟨_,rfl,rfl,_,rfl,gT ?_ rfl⟩
   refine⟨_,rfl,rfl,_,rfl,aU (λ_=>⟨_,rfl,?_⟩) (λc=>absurd (by rw[dqf (by intro z;cases z)];rfl) c)⟩
   have e:bT S=some x:=by unfold bT;rw[e4,e5];rfl
   rw[e]at k
   exact k.to s2 f5
  |none =>
  rw[e5]at f5
  obtain rfl:v=.non:=f5
  have r5:WL.R5 S:=ek e5
  have hlo:gi S:=λl hl=>r5.line hl
  refine⟨_,rfl,rfl,_,rfl,lP ?_⟩
  refine⟨_,rfl,a,S,rfl,hd.same s2,sb,dH.of λv H3 s3 f6=>?_⟩
  have f6:lu (o6 S) v H3:=f6
  have s3:=s2.trans s3
  cases e6:o6 S with
  |some x =>
   rw[e6]at f6
   obtain⟨q,rfl,hq⟩:=id f6
   refine⟨_,rfl,rfl,_,rfl,gT ?_ rfl⟩
   refine⟨_,rfl,rfl,_,rfl,aU (λ_=>⟨_,rfl,?_⟩) (λc=>absurd (by rw[dqf (by intro z;cases z)];rfl) c)⟩
   have e:bT S=some x:=by unfold bT;rw[e4,e5,e6];rfl
   rw[e]at k
   exact k.to s3 f6
  |none =>
  rw[e6]at f6
  obtain rfl:v=.non:=f6
  refine⟨_,rfl,rfl,_,rfl,lP ?_⟩
  refine⟨_,rfl,a,S,rfl,hd.same s3,sb,r4,r5,dH.of λv H4 s4 f7=>?_⟩
  have f7:lu (o7 S) v H4:=f7
  have s4:=s3.trans s4
  cases e7:o7 S with
  |some x =>
   rw[e7]at f7
   obtain⟨q,rfl,hq⟩:=id f7
   refine⟨_,rfl,rfl,_,rfl,aU (λ_=>⟨_,rfl,?_⟩) (λc=>absurd (by rw[dqf (by intro z;cases z)];rfl) c)⟩
   have e:bT S=some x:=by unfold bT;rw[e4,e5,e6,e7];rfl
   rw[e]at k
   exact k.to s4 f7
  |none =>
  rw[e7]at f7
  obtain rfl:v=.non:=f7
  refine⟨_,rfl,rfl,_,rfl,aU (λc=>absurd c (by decide)) (λ_=>?_)⟩
  refine⟨_,rfl,a,S,rfl,hd.same s4,sb,hlo,λH5 N as hN hNl=>?_⟩
  have s5:=s4.trans hN.sm
  have rw5:=hN.rw
  refine⟨_,rfl,_,rfl,a,N,as,S,rfl,hd.same s5,rw5,hNl,dH.of λv H6 s6 f8=>?_⟩
  have f8:lu (o8 S) v H6:=f8
  have rw6:=rw5.same s6
  have s6:=s5.trans s6
  cases e8:o8 S with
  |some x =>
   rw[e8]at f8
   obtain⟨q,rfl,hq⟩:=id f8
   refine⟨_,rfl,rfl,_,rfl,gT ?_ rfl⟩
   refine⟨_,rfl,rfl,_,rfl,gT ?_ rfl⟩
   refine⟨_,rfl,rfl,_,rfl,gT ⟨_,rfl,?_⟩ rfl⟩
   have e:bT S=some x:=by unfold bT;rw[e4,e5,e6,e7,e8];rfl
   rw[e]at k
   exact k.to s6 f8
  |none =>
  rw[e8]at f8
  obtain rfl:v=.non:=f8
  refine⟨_,rfl,rfl,_,rfl,lP ?_⟩
  refine⟨_,rfl,_,rfl,a,N,as,S,rfl,hd.same s6,sb,h4,og hlo,rw6,hNl,dH.of λv H7 s7 f9=>?_⟩
  have f9:lu (o9 S) v H7:=f9
  have rw7:=rw6.same s7
  have s7:=s6.trans s7
  cases e9:o9 S with
  |some x =>
   rw[e9]at f9
   obtain⟨q,rfl,hq⟩:=id f9
   refine⟨_,rfl,rfl,_,rfl,gT ?_ rfl⟩
   refine⟨_,rfl,rfl,_,rfl,gT ⟨_,rfl,?_⟩ rfl⟩
   have e:bT S=some x:=by unfold bT;rw[e4,e5,e6,e7,e8,e9];rfl
   rw[e]at k
   exact k.to s7 f9
  |none =>
  rw[e9]at f9
  obtain rfl:v=.non:=f9
  refine⟨_,rfl,rfl,_,rfl,lP ?_⟩
  refine⟨_,rfl,_,rfl,a,N,as,S,rfl,hd.same s7,sb,h4,og hlo,rw7,hNl,dH.of λv H8 s8 f10=>?_⟩
  have f10:lu (o10 S) v H8:=f10
  have s8:=s7.trans s8
  cases e10:o10 S with
  |some x =>
   rw[e10]at f10
   obtain⟨q,rfl,hq⟩:=id f10
   refine⟨_,rfl,rfl,_,rfl,gT ⟨_,rfl,?_⟩ rfl⟩
   have e:bT S=some x:=by unfold bT;rw[e4,e5,e6,e7,e8,e9,e10];rfl
   rw[e]at k
   exact k.to s8 f10
  |none =>
  rw[e10]at f10
  obtain rfl:v=.non:=f10
  refine⟨_,rfl,rfl,_,rfl,lP ?_⟩
  refine⟨_,rfl,a,S,rfl,hd.same s8,sb,hlo,dH.of λv H9 s9 f11=>?_⟩
  refine⟨_,rfl,?_⟩
  have e:bT S=o11 S:=by unfold bT;rw[e4,e5,e6,e7,e8,e9,e10];rfl
  rw[e]at k
  exact k.to (s8.trans s9) f11
def m7 (K:Hq)(H:Hp)(p:Gb)(ps:List Gb)(S:Gla.Plan):Prop:=H p=some (.lst (ps.map V.ref))/\ps.length=S.pts.length/\∀(i:Nat) (b:Gb),ps[i]? = some b->cI K H b (S.pt i)
theorem m7.same {K:Hq}{H H':Hp}{p:Gb}{ps:List Gb}{S:Gla.Plan}(h:m7 K H p ps S)(s:ak H H'):m7 K H' p ps S:=⟨s _ _ h.1,h.2.1,λi b e=>(h.2.2 i b e).same s⟩
theorem m7.has {K:Hq}{H:Hp}{p:Gb}{ps:List Gb}{S:Gla.Plan}(h:m7 K H p ps S){i:Nat}(hi:i<S.pts.length):∃b,ps[i]? = some b:=⟨ps[i]'(by rw[h.2.1];exact hi),gge _⟩
theorem Op.ptsL {K:Hq}{C:Gb}{H:Hp}{a dx p l m:Gb}{S:Gla.Plan}{ps ls ms:List Gb}(o:Op K C H a dx p l m S ps ls ms)(sb:SB S):m7 K H p ps S:=⟨o.pl,o.pn,λi b e=>o.ptAt sb e⟩
theorem pV {S:Gla.Plan}{m e:Nat}{l:List Nat}{t:Nat}(h:l.length<=t):WL.bo S m e (l.drop t)=e :: l.drop t:=by
 rw[IW h]
 rfl
theorem yM {S:Gla.Plan}{m e:Nat}{l:List Nat}{t:Nat}(h:t<l.length)(ht:¬0<HW (S.pt m) (S.pt l[t]) (S.pt e)):WL.bo S m e (l.drop t)=e :: l.drop t:=by
 rw[Iv h]
 unfold WL.bo
 rw[Gf ht]
theorem Bh {S:Gla.Plan}{m e:Nat}{l:List Nat}{t:Nat}(h:t<l.length)(ht:0<HW (S.pt m) (S.pt l[t]) (S.pt e)):l.take t++WL.bo S m e (l.drop t)=l.take (t+1)++WL.bo S m e (l.drop (t+1)):=by
 rw[Iv h,bE (gge h),List.append_assoc]
 conv=>lhs;unfold WL.bo
 rw[Gk ht]
 rfl
theorem vL {S:Gla.Plan}{m:Nat}{l:List Nat}{i e:Nat}(h:l[i]? = some e):WL.sortTurn S m (l.take (i+1))=WL.bo S m e (WL.sortTurn S m (l.take i)):=by
 unfold WL.sortTurn
 rw[bE h,List.foldl_append]
 rfl
theorem mH (S:Gla.Plan)(m:Nat)(l:List Nat):(WL.sortTurn S m l).length=l.length:=(WL.cU S m l).length_eq
theorem xX {S:Gla.Plan}{m:Nat}{l:List Nat}{x:Nat}(h:x∈WL.sortTurn S m l):x∈l:=(WL.cU S m l).mem_iff.1 h
theorem zt (l:List Nat)(t:Nat):(iV (nI l)).take t=iV (nI (l.take t)):=by
 unfold iV nI
 rw[Ja,Ja]
theorem zT (l:List Nat)(t:Nat):(iV (nI l)).drop t=iV (nI (l.drop t)):=by
 unfold iV nI
 rw[JX,JX]
theorem yG (l r:List Nat):iV (nI (l++r))=iV (nI l)++iV (nI r):=by
 unfold iV nI
 rw[GA,GA]
def DI (K:Hq):Sp:=λvs H Q _=>∃(p ea:Gb) (ps:List Gb) (S:Gla.Plan) (m:Nat) (ends:List Nat),vs=[.ref p,.int (m:Int),.ref ea]/\m7 K H p ps S/\m<S.pts.length/\H ea=some (.lst (iV (nI ends)))/\(∀x∈ends,x<S.pts.length)/\ends.length<=100000 /\
 ∀(H':Hp) (r:Gb),ak H H'->H r=none->H' r=some (.lst (iV (nI (WL.sortTurn S m ends))))->Q (.ref r) H'
theorem wU:aq ["points","middle","ends","ring","end","place"] ["points","middle","ends"] (ag dN):=fsk
theorem EZ (F:Has K mg "sorted_by_turn" dN ["points","middle","ends"]) (gl:mg "len"=none) (C1:Cb P w K mg base 1 "turn" ["p","q","r"] (lv K)):Cb P w K mg base 2 "sorted_by_turn" ["points","middle","ends"] (DI K):=by
 refine F.cb wU (λvs H Q E h=>?_) (λ_ _ A _ s H vs Q E hr h=>?_)
 ·obtain⟨p,ea,ps,S,m,ends,rfl,_⟩:=h
  rfl
 ·obtain⟨p,ea,ps,S,m,ends,rfl,hp,hm,he,hen,hel,k⟩:=h
  refine⟨_,ad (aA (i:=3) wU.nd rfl (.inl rfl) (dQ ac))
   (ad (bB Gy rfl (bH (pv 2)) (ao (i:=4) wU.nd rfl (.inl rfl))
    (ad (aA (i:=5) wU.nd rfl (.inl rfl) ah)
    (ad (nR Gy (jH (aM fZ (pv 5) (aZ aN (by rfl) gl G6 (aa (pv 3) ac)) (aI _)) (iG (aM eg (aB C1 hr (aa (aw aW (pv 0) (pv 1) (λ_ _=>rfl)) (aa (aw aW (pv 0) (aw aW (pv 3) (pv 5) (λ_ _=>rfl)) (λ_ _=>rfl)) (aa (aw aW (pv 0) (pv 4) (λ_ _=>rfl)) ac)))) ah (aI _)))).pt
     (af (xf (i:=5) wU.nd rfl (.inl rfl) ah xI)))
    (af (jo (lD Ho PySem.F.slot_list_insert PySem.F.type_list_insert vw (pv 3) (aa (pv 5) (aa (pv 4) ac))))))))
   (af (al (pv 3)))),?_⟩
  refine⟨(by show 0<=Ge;decide),λr hr0=>?_⟩
  have ner:ea≠r:=aO he hr0
  refine⟨_,rfl,ea,rfl,⟨_,SqL.of (by rw[ap ner];exact he)⟩,eq (K:=K) (a:=ea) (xs:=iV (nI ends)) (λi σ H'=>ak H H'/\(∃v1 v2,σ=[some (.ref p),some (.int (m:Int)),some (.ref ea),some (.ref r),v1,v2])/\H' r=some (.lst (iV (nI (WL.sortTurn S m (ends.take i))))))
   ⟨aJ hr0,⟨none,none,rfl⟩,ae⟩ (λi σ H' _ h=>SqL.of (h.1 _ _ he)) ?_ ?_⟩
  ·rintro i y σ H' hi ⟨hS,⟨v1,v2,rfl⟩,hrr⟩
   obtain⟨e,hie,rfl⟩:=lR hi
   have hen':e<S.pts.length:=hen e (GV hie)
   have hp':=hp.same hS
   have hlt:(WL.sortTurn S m (ends.take i)).length<=i:=by
    rw[mH,GY]
    lia
   have hil:i<ends.length:=(gsi hie).1
   have hrn:∀x∈WL.sortTurn S m (ends.take i),x<S.pts.length:=λx hx=>hen x (HE (xX hx))
   rw[vL hie]
   generalize WL.sortTurn S m (ends.take i)=ring at hrr hlt hrn
   obtain⟨bm,hbm⟩:=hp'.has hm
   obtain⟨be,hbe⟩:=hp'.has hen'
   have fin:∀(t:Nat),t<=ring.length->ring.take t++WL.bo S m e (ring.drop t)=WL.bo S m e ring->WL.bo S m e (ring.drop t)=e :: ring.drop t ->
     AI (tBM K "list" uI (aY 3) (a8 (aY 5) (a8 (aY 4) fc))) { nx:=λσ H'=>ak H H'/\(∃v1 v2,σ=[some (.ref p),some (.int (m:Int)),some (.ref ea),some (.ref r),v1,v2])/\H' r=some (.lst (iV (nI (WL.bo S m e ring)))),rt:=Q,bk:=λσ H'=>m9 (aY 3) { nx:=λ_ H'=>Q .non H',rt:=Q } σ H',ct:=λσ H'=>ak H H'/\(∃v1 v2,σ=[some (.ref p),some (.int (m:Int)),some (.ref ea),some (.ref r),v1,v2])/\H' r=some (.lst (iV (nI (WL.bo S m e ring)))) }
      [some (.ref p),some (.int (m:Int)),some (.ref ea),some (.ref r),some (.int (e:Int)),some (.int (t:Int))] H':=λt ht h1 h2=>by
    refine⟨_,rfl,.inl ⟨rfl,_,SqL.of hrr⟩,_,rfl,_,rfl,r,_,_,_,rfl,rfl,hrr,by lia,by rw[bX];lia,by rw[bX];exact a6 (by lia),?_⟩
    refine⟨aT hS hr0,⟨_,_,rfl⟩,?_⟩
    rw[ae,HD,zt,zT,<-h1,h2,yG]
    rfl
   refine⟨λmm σ H2=>H2=H'/\∃t,mm=ring.length-t/\t<=ring.length/\σ=[some (.ref p),some (.int (m:Int)),some (.ref ea),some (.ref r),some (.int (e:Int)),some (.int (t:Int))]/\ring.take t++WL.bo S m e (ring.drop t)=WL.bo S m e ring,
    ⟨ring.length,rfl,0,rfl,Hj _,rfl,rfl⟩,?_⟩
   rintro mm σ H2 ⟨rfl,t,rfl,ht,rfl,hins⟩
   refine⟨_,rfl,_,rfl,r,_,rfl,.inl (SqL.of hrr),_,_,rfl,rfl,_,rfl,aU (λc=>?_) (λc=>jN ?_)⟩
   ·have c:=FY c
    rw[bX]at c
    have htl:t<ring.length:=by lia
    obtain⟨bt,hbt⟩:=hp'.has (hrn _ (GC htl))
    refine⟨_,rfl,_,rfl,p,_,_,_,rfl,rfl,SqL.of hp'.1,aC (j:=m) rfl (aP hbm),_,rfl,_,rfl,_,rfl,r,_,_,_,rfl,rfl,SqL.of hrr,aC (j:=t) rfl (kX htl),p,_,_,_,rfl,rfl,SqL.of hp'.1,aC (j:=ring[t]) rfl (aP hbt),
     _,rfl,_,rfl,p,_,_,_,rfl,rfl,SqL.of hp'.1,aC (j:=e) rfl (aP hbe),bm,bt,be,_,_,_,rfl,hp'.2.2 _ _ hbm,hp'.2.2 _ _ hbt,hp'.2.2 _ _ hbe,_,_,rfl,rfl,_,rfl,aU (λc2=>?_) (λc2=>?_)⟩
    ·have c2:=FY c2
     refine⟨λσ2 H3=>H3=H2/\σ2=[some (.ref p),some (.int (m:Int)),some (.ref ea),some (.ref r),some (.int (e:Int)),some (.int ((t+1:Nat):Int))],?_,?_⟩
     ·rintro σ2 H3 ⟨rfl,rfl⟩
      refine⟨ring.length-(t+1),by lia,rfl,t+1,rfl,htl,rfl,?_⟩
      rw[<-hins]
      exact(Bh htl c2).symm
     ·refine⟨_,rfl,_,_,rfl,rfl,rfl,?_⟩
      rfl
    ·have c2:=aH c2
     exact fin t ht hins (yM htl c2)
   ·have c:=aH c
    rw[bX]at c
    exact fin t ht hins (pV (by lia))
  ·rintro σ H' ⟨hS,⟨v1,v2,rfl⟩,hrr⟩
   rw[bX,Hx]at hrr
   exact⟨_,rfl,k H' r hS hr0 hrr⟩
theorem kh {l:List Nat}{i x:Nat}{q:Nat->Bool}(h:l[i]? = some x):(l.take (i+1)).filter q=if q x=true then (l.take i).filter q++[x] else (l.take i).filter q:=by
 rw[bE h,List.filter_append]
 split
 ·rename_i c
  rw[List.filter_cons_of_pos c]
  rfl
 ·rename_i c
  rw[List.filter_cons_of_neg c]
  exact HM _
theorem u6 (l:List Nat)(i:Nat)(q:Nat->Bool):((l.take i).filter q).length<=l.length:=GU (Jh _ _) (by rw[GY];lia)
def E6 (S:Gla.Plan)(m:Nat)(ends:List Nat):List Nat:=WL.sortTurn S m (ends.filter λe=>decide (m<e))++WL.sortTurn S m (ends.filter λe=>decide (e<m))
def Bc (K:Hq):Sp:=λvs H Q _=>∃(p ea:Gb) (ps:List Gb) (S:Gla.Plan) (m:Nat) (ends:List Nat),vs=[.ref p,.int (m:Int),.ref ea]/\m7 K H p ps S/\m<S.pts.length/\H ea=some (.lst (iV (nI ends)))/\(∀x∈ends,x<S.pts.length)/\ends.length<=100000 /\
 ∀(H':Hp) (r:Gb),ak H H'->H r=none->H' r=some (.lst (iV (nI (E6 S m ends))))->Q (.ref r) H'
theorem x5:aq ["points","middle","ends","higher","lower","end"] ["points","middle","ends"] (ag dI):=fsk
theorem Eh (F:Has K mg "ring_round" dI ["points","middle","ends"]) (C1:Cb P w K mg base 2 "sorted_by_turn" ["points","middle","ends"] (DI K)):Cb P w K mg base 3 "ring_round" ["points","middle","ends"] (Bc K):=by
 refine F.cb x5 (λvs H Q E h=>?_) (λ_ _ A _ s H vs Q E hr h=>?_)
 ·obtain⟨p,ea,ps,S,m,ends,rfl,_⟩:=h
  rfl
 ·obtain⟨p,ea,ps,S,m,ends,rfl,hp,hm,he,hen,hel,k⟩:=h
  refine⟨_,ad (bQ (i:=3) (own:=[("end",5)]) (tt:=fq (tOp (rI0 λi j=>.bl (decide (j<i))) (aY 5) (aY 1))) rfl x5.nd rfl rfl (cw rfl rfl rfl (by decide +kernel)) (bH (pv 2)) (bf (by show fY ["points","middle","ends","higher","lower","end"] (ag dI) _ _=true;decide +kernel))
    (λ_ _ _ _ _=>ao (i:=5) x5.nd rfl (.inl rfl) (.inr rfl)) (λ_ _ _ _ _=>jy (aM eg (pv 5) (pv 1) (aI _))) (λ_ _ _ _ _=>pv 5))
   (ad (bQ (i:=4) (own:=[("end",5)]) (tt:=fq (tOp (rI0 λi j=>.bl (decide (i<j))) (aY 5) (aY 1))) rfl x5.nd rfl rfl (cw rfl rfl rfl (by decide +kernel)) (bH (pv 2)) (bf (by show fY ["points","middle","ends","higher","lower","end"] (ag dI) _ _=true;decide +kernel))
    (λ_ _ _ _ _=>ao (i:=5) x5.nd rfl (.inl rfl) (.inr rfl)) (λ_ _ _ _ _=>jy (aM fZ (pv 5) (pv 1) (aI _))) (λ_ _ _ _ _=>pv 5))
   (af (al (aR xF (aB C1 hr (aa (pv 0) (aa (pv 1) (aa (pv 3) ac)))) (aB C1 hr (aa (pv 0) (aa (pv 1) (aa (pv 4) ac)))))))),?_⟩
  refine⟨_,rfl,ea,rfl,⟨_,SqL.of he⟩,λD hD=>?_⟩
  refine eV (K:=K) (a:=ea) (xs:=iV (nI ends)) (λi H'=>ak H H'/\H' D=some (.lst (iV (nI ((ends.take i).filter λe=>decide (m<e)))))) ⟨aJ hD,ae⟩ (λi H' _ h=>SqL.of (h.1 _ _ he)) ?_ ?_
  ·rintro i y H' hi ⟨hS,hDl⟩
   obtain⟨e,hie,rfl⟩:=lR hi
   refine⟨rfl,_,rfl,_,rfl,_,_,rfl,rfl,_,rfl,?_⟩
   have ec:decide ((m:Int)<(e:Int))=decide (m<e):=by rw[Gu];lia
   rw[ec]
   refine aU (λc=>?_) (λc=>?_)
   ·refine⟨_,rfl,_,hDl,?_,aT hS hD,?_⟩
    ·rw[bX]
     have:=u6 ends i (λe=>decide (m<e))
     exact a6 (by lia)
    ·rw[ae,kh hie,Gk c,gu]
   ·refine⟨hS,?_⟩
    rw[kh hie,Gf c]
    exact hDl
  rintro H1 ⟨s1,hD1⟩
  rw[bX,Hx]at hD1
  refine⟨_,rfl,ea,rfl,⟨_,SqL.of (s1 _ _ he)⟩,λD2 hD2=>?_⟩
  refine eV (K:=K) (a:=ea) (xs:=iV (nI ends)) (λi H'=>ak H1 H'/\H' D2=some (.lst (iV (nI ((ends.take i).filter λe=>decide (e<m)))))) ⟨aJ hD2,ae⟩ (λi H' _ h=>SqL.of (h.1 _ _ (s1 _ _ he))) ?_ ?_
  ·rintro i y H' hi ⟨hS,hDl⟩
   obtain⟨e,hie,rfl⟩:=lR hi
   refine⟨rfl,_,rfl,_,rfl,_,_,rfl,rfl,_,rfl,?_⟩
   have ec:decide ((e:Int)<(m:Int))=decide (e<m):=by rw[Gu];lia
   rw[ec]
   refine aU (λc=>?_) (λc=>?_)
   ·refine⟨_,rfl,_,hDl,?_,aT hS hD2,?_⟩
    ·rw[bX]
     have:=u6 ends i (λe=>decide (e<m))
     exact a6 (by lia)
    ·rw[ae,kh hie,Gk c,gu]
   ·refine⟨hS,?_⟩
    rw[kh hie,Gf c]
    exact hDl
  rintro H2 ⟨s2,hD22⟩
  rw[bX,Hx]at hD22
  have s12:=s1.trans s2
  have l1:(ends.filter λe=>decide (m<e)).length<=ends.length:=Jh _ _
  have l2:(ends.filter λe=>decide (e<m)).length<=ends.length:=Jh _ _
  refine⟨_,rfl,_,rfl,_,rfl,p,D,ps,S,m,_,rfl,hp.same s12,hm,s2 _ _ hD1,λx hx=>hen x ((GR.1 hx).1),by lia,λH3 r1 s3 _ hr1=>?_⟩
  refine⟨_,rfl,_,rfl,_,rfl,p,D2,ps,S,m,_,rfl,hp.same (s12.trans s3),hm,s3 _ _ hD22,λx hx=>hen x ((GR.1 hx).1),by lia,λH4 r2 s4 _ hr2=>?_⟩
  have s14:=s12.trans (s3.trans s4)
  refine⟨r1,r2,_,_,rfl,rfl,s4 _ _ hr1,hr2,?_,λq hq=>?_⟩
  ·rw[bX,bX,mH,mH]
   exact Jp (a6 (by lia))
  ·refine k _ q (aV s14 hq) (s14.free hq) ?_
   rw[ae,<-yG]
   rfl
theorem kH (ring:Nat->List Nat)(e:Nat×Nat):∀n i j,j<n->(WL.seg ring e i n)[j]? = some (WL.aE ring e (i+j))
 |0,_,_,h=>absurd h (Hn _)
 |n+1,i,0,_=>rfl
 |n+1,i,j+1,h=>by
  show(WL.seg ring e (i+1) n)[j]? = _
  rw[kH ring e n (i+1) j (by lia)]
  congr 2
  lia
theorem vV {l:List Nat}{x:Nat}(h:x∈l):atI (iV (nI l)) (((l.idxOf x:Nat):Int)-1)=some (.int (WL.bJ l x:Int)):=by
 unfold WL.bJ
 by_cases c:l.idxOf x=0
 ·rw[Gk c,c]
  obtain⟨init,z,e⟩:=ke (λq:l=[]=>by rw[q]at h;cases h)
  rw[e,gu,List.getLast?_concat]
  exact nG _ _
 ·rw[Gf c]
  have hlt:l.idxOf x-1<l.length:=by
   have:=List.idxOf_lt_length_iff.2 h
   lia
  have ez:((l.idxOf x:Nat):Int)-1=((l.idxOf x-1:Nat):Int):=by lia
  rw[ez]
  rw[Gr,gge hlt]
  exact pX (kX hlt)
def DO:Sp:=λvs H Q _=>∃(R:Gb) (as:List Gb) (S:Gla.Plan) (u v:Nat),vs=[.ref R,.int (u:Int),.int (v:Int)]/\RW H R as (WL.aj S)/\as.length=S.pts.length/\S.pts.length<=100000/\WL.cB S/\(WL.ab S).J u v /\
 ∀(H':Hp) (c:Gb),ak H H'->H c=none->H' c=some (.lst (iV (nI (WL.rnd S (u,v)))))->Q (.ref c) H'
theorem rM:aq ["rings","first","second","corners","last","here","ring","onward"] ["rings","first","second"] (ag fL):=fsk
theorem qQ {S:Gla.Plan}(k:WL.cB S){e:Nat×Nat}(he:(WL.ab S).J e.1 e.2):∀v∈WL.rnd S e,v<S.pts.length:=λv hv=>by
 obtain⟨x,hx,rfl⟩:=WL.u4 k.toKept he hv
 exact(WL.bp S k.toKept).lt (WL.fW k.toKept he hx)
theorem mr {S:Gla.Plan}(k:WL.cB S){e:Nat×Nat}(he:(WL.ab S).J e.1 e.2):(WL.rnd S e).length<=S.pts.length:=by
 have h:=WL.bI (m:=GE S.pts.length) (WL.kO k he) λx hx=>Hz.2 (qQ k he x hx)
 rw[Hl]at h
 exact h
theorem eT {S:Gla.Plan}(k:WL.Kept S){e:Nat×Nat}(he:(WL.ab S).J e.1 e.2):∀t,(WL.ab S).J (WL.aE (WL.aj S) e t).1 (WL.aE (WL.aj S) e t).2:=λt =>
 WL.fW k he ((WL.d4 k he).2 ⟨t,rfl⟩)
theorem EN (F:Has K mg "walk_round" fL ["rings","first","second"]):Cb P w K mg base 1 "walk_round" ["rings","first","second"] DO:=by
 refine F.cb rM (λvs H Q E h=>?_) (λ_ _ A _ s H vs Q E hr h=>?_)
 ·obtain⟨R,as,S,u,v,rfl,_⟩:=h
  rfl
 ·obtain⟨R,as,S,u,v,rfl,hrw,hlen,hn,kp,hJ,k⟩:=h
  refine⟨_,ad (aA (i:=3) rM.nd rfl (.inl rfl) (dQ (aa (pv 1) ac)))
   (ad (aA (i:=4) rM.nd rfl (.inl rfl) (pv 1)) (ad (aA (i:=5) rM.nd rfl (.inl rfl) (pv 2))
   (ad (nR Gy (aM yr (pv 5) (pv 1) (aI _))
    (ad (jo (lD Ho ID IE gJ (pv 3) (aa (pv 5) ac)))
    (ad (aA (i:=6) rM.nd rfl (.inl rfl) (aw aW (pv 0) (pv 5) (λ_ _=>rfl)))
    (ad (aA (i:=7) rM.nd rfl (.inl rfl) (aw aW (pv 6) (aR eS (lD Ho PySem.F.slot_list_index PySem.F.type_list_index yh (pv 6) (aa (pv 4) ac)) ah) (λ_ _=>rfl)))
    (ad (aA (i:=4) rM.nd rfl (.inl rfl) (pv 5)) (af (aA (i:=5) rM.nd rfl (.inl rfl) (pv 7))))))))
   (af (al (pv 3)))))),?_⟩
  have per:=WL.dC kp.toKept (e:=(u,v)) hJ
  have hNl:=mr kp (e:=(u,v)) hJ
  have hnd:=WL.kO kp (e:=(u,v)) hJ
  have hrnd:=per.rnd
  generalize hN:(WL.rnd S (u,v)).length=N at per hNl hrnd
  have g:=WL.bp S kp.toKept
  refine⟨_,rfl,(by show 1<=Ge;decide),λc hc=>?_⟩
  refine⟨_,rfl,_,rfl,?_⟩
  refine⟨λmm σ H'=>ak H H'/\∃t v6 v7,mm=N-t/\t<N/\σ=[some (.ref R),some (.int (u:Int)),some (.int (v:Int)),some (.ref c),some (.int ((WL.aE (WL.aj S) (u,v) t).1:Int)),some (.int ((WL.aE (WL.aj S) (u,v) t).2:Int)),v6,v7]/\H' c=some (.lst (iV (nI ((WL.seg (WL.aj S) (u,v) 0 (t+1)).map (·.1))))),
   ⟨N,aJ hc,0,none,none,rfl,per.pos,rfl,ae⟩,?_⟩
  rintro mm σ H' ⟨hS,t,v6,v7,rfl,ht,rfl,hcc⟩
  refine⟨_,rfl,_,rfl,rfl,_,rfl,aU (λc1=>?_) (λc1=>?_)⟩
  ·have c1:(WL.aE (WL.aj S) (u,v) t).2≠u:=λz=>by
    rw[z,dqt rfl]at c1
    exact absurd c1 (by decide)
   have ht2:t+1<N:=by
    refine bcn λz=>c1 ?_
    have e:t+1=N:=by lia
    have:=per.back
    rw[<-e]at this
    have h2:=WL.dX (WL.aj S) (u,v) t
    rw[this]at h2
    exact h2.symm
   have hJt:=eT kp.toKept (e:=(u,v)) hJ t
   generalize hxy:WL.aE (WL.aj S) (u,v) t=xy at c1 hJt
   obtain⟨x,y⟩:=xy
   have hy:y<S.pts.length:=(g.lt (g.symm hJt))
   obtain⟨b,hb⟩:∃b,as[y]? = some b:=⟨as[y]'(by lia),gge _⟩
   refine⟨λσ' H'=>ak H H'/\∃t' v6 v7,t+1=t'/\t'<N/\σ'=[some (.ref R),some (.int (u:Int)),some (.int (v:Int)),some (.ref c),some (.int ((WL.aE (WL.aj S) (u,v) t').1:Int)),some (.int ((WL.aE (WL.aj S) (u,v) t').2:Int)),v6,v7]/\H' c=some (.lst (iV (nI ((WL.seg (WL.aj S) (u,v) 0 (t'+1)).map (·.1))))),?_,?_⟩
   ·rintro σ' H2 ⟨hS2,t',w6,w7,rfl,h2,h3,h4⟩
    exact⟨N-(t+1),by lia,hS2,t+1,w6,w7,rfl,h2,h3,h4⟩
   refine⟨_,rfl,.inl ⟨rfl,_,SqL.of hcc⟩,_,rfl,c,_,_,rfl,rfl,hcc,?_,?_⟩
   ·rw[bX,lmp,WL.cO]
    exact a6 (by lia)
   have s2:ak H (upd H' c (.lst (iV (nI ((WL.seg (WL.aj S) (u,v) 0 (t+1)).map (·.1)))++[.int (y:Int)]))):=aT hS hc
   have hc2:(upd H' c (.lst (iV (nI ((WL.seg (WL.aj S) (u,v) 0 (t+1)).map (·.1)))++[.int (y:Int)]))) c=some (.lst (iV (nI ((WL.seg (WL.aj S) (u,v) 0 (t+1+1)).map (·.1))))):=by
    rw[ae,WL.eR _ _ (t+1) 1 0,GA]
    have e1:(WL.seg (WL.aj S) (u,v) (0+(t+1)) 1).map (·.1)=[y]:=by
     show [(WL.aE (WL.aj S) (u,v) (0+(t+1))).1]=[y]
     rw[Ih,WL.dX,hxy]
    rw[e1,gu]
   generalize upd H' c (.lst (iV (nI ((WL.seg (WL.aj S) (u,v) 0 (t+1)).map (·.1)))++[.int (y:Int)]))=H2 at s2 hc2
   have rw2:=hrw.same s2
   have hbr:=rw2.2 y b hb
   have hmem:x∈WL.aj S y:=(WL.cF kp.toKept).mem.2 (g.symm hJt)
   have hidx:=List.idxOf_lt_length_iff.2 hmem
   refine⟨_,rfl,_,rfl,R,_,_,_,rfl,rfl,SqL.of rw2.1,aC (j:=y) rfl (aP hb),?_⟩
   refine⟨_,rfl,_,rfl,.inl ⟨rfl,_,SqL.of hbr⟩,_,rfl,b,_,_,(WL.aj S y).idxOf x,_,rfl,rfl,SqL.of hbr,rfl,?_,kX hidx,?_,?_,_,_,rfl,rfl,b,_,_,_,rfl,rfl,SqL.of hbr,vV hmem,?_⟩
   ·rw[Hk]
    intro z hz
    unfold iV nI at hz
    rw[GP]at hz
    obtain⟨q,_,rfl⟩:=hz
    rfl
   ·show(((WL.aj S y)[(WL.aj S y).idxOf x]:Int)==(x:Int))=true
    rw[List.getElem_idxOf hidx]
    exact beq_self_eq_true _
   ·intro i z hi hz
    obtain⟨q,hq,rfl⟩:=lR hz
    show((q:Int)==(x:Int))=false
    rw[HK]
    intro hqx
    have hqx:q=x:=by lia
    subst hqx
    obtain⟨hil,hq⟩:=gsi hq
    have h9:=List.not_of_lt_findIdx (p:=λz=>z==q) (xs:=WL.aj S y) hi
    rw[hq]at h9
    simp at h9
   refine⟨_,rfl,_,rfl,s2,t+1,some (.ref b),some (.int (WL.bJ (WL.aj S y) x:Int)),rfl,ht2,?_,hc2⟩
   have e1:WL.aE (WL.aj S) (u,v) (t+1)=(y,WL.bJ (WL.aj S y) x):=by
    rw[WL.fP,hxy]
    rfl
   rw[e1]
   rfl
  ·have c1:(WL.aE (WL.aj S) (u,v) t).2=u:=bcn λz=>c1 (by
    rw[dqf (λy=>z (by have:=V.int.inj y;lia))]
    rfl)
   have e:t+1=N:=by
    refine bcn λz=>?_
    have h0:(WL.rnd S (u,v))[0]? = some u:=by
     rw[hrnd,Gp,kH _ _ N 0 0 per.pos]
     rfl
    have h1:(WL.rnd S (u,v))[t+1]? = some u:=by
     rw[hrnd,Gp,kH _ _ N 0 (t+1) (by lia),Ih]
     show some (WL.aE (WL.aj S) (u,v) (t+1)).1=_
     rw[WL.dX,c1]
    obtain⟨l0,g0⟩:=gsi h0
    obtain⟨l1,g1⟩:=gsi h1
    exact GT.1 hnd 0 (t+1) l0 l1 (by lia) (by rw[g0,g1])
   refine⟨_,rfl,k H' c hS hc ?_⟩
   rw[hcc,e,hrnd]
def lT (H:Hp)(r:Gb)(as ps:List Gb)(cs:List Nat):Prop:=H r=some (.lst (as.map V.ref))/\as.length=cs.length/\∀(i:Nat) (b:Gb) (x:Nat),as[i]? = some b->cs[i]? = some x->ps[x]? = some b
theorem lT.pl {H:Hp}{r p:Gb}{as ps:List Gb}{cs:List Nat}{S:Gla.Plan}(h:lT H r as ps cs)(hp:m7 K H p ps S):PL K H r (cs.map S.pt):=by
 obtain⟨h1,h2,h3⟩:=h
 refine⟨as,SqL.of h1,by rw[lmp,h2],λi b q e1 e2=>?_⟩
 have hil:i<cs.length:=by rw[<-h2];exact(gsi e1).1
 rw[Gp,gge hil]at e2
 have e2:=osi e2
 rw[<-e2]
 exact hp.2.2 _ b (h3 i b _ e1 (gge hil))
def wu (K:Hq):Sp:=λvs H Q _=>∃(p c:Gb) (ps:List Gb) (S:Gla.Plan) (cs:List Nat),vs=[.ref p,.ref c]/\m7 K H p ps S/\H c=some (.lst (iV (nI cs)))/\(∀x∈cs,x<S.pts.length)/\cs.length<=100000 /\
 ∀(H':Hp) (r:Gb) (as:List Gb),ak H H'->H r=none->lT H' r as ps cs->Q (.ref r) H'
theorem Bo:aq ["points","corners","corner"] ["points","corners"] (ag fe):=fsk
theorem Dn (F:Has K mg "points_at" fe ["points","corners"]):Cb P w K mg base 1 "points_at" ["points","corners"] (wu K):=by
 refine F.cb Bo (λvs H Q E h=>?_) (λ_ _ A _ s H vs Q E hr h=>?_)
 ·obtain⟨p,c,ps,S,cs,rfl,_⟩:=h
  rfl
 ·obtain⟨p,c,ps,S,cs,rfl,hp,hc,hcn,hcl,k⟩:=h
  refine⟨_,af (al (vb (own:=[("corner",2)]) (te:=tOp (wj K) (aY 0) (aY 2)) rfl Bo.nd (bH (pv 1)) (bf (by show fY ["points","corners","corner"] (ag fe) _ _=true;decide +kernel))
   (λ_ _ _ _ _=>ao (i:=2) Bo.nd rfl (.inl rfl)) (λ_ _ _ _ _=>cY) (λ_ _ _ _ _=>aw aW (pv 0) (pv 2) (λ_ _=>rfl)))),?_⟩
  refine⟨_,rfl,c,rfl,⟨_,SqL.of hc⟩,λD hD=>?_⟩
  refine eV (K:=K) (a:=c) (xs:=iV (nI cs)) (λi H'=>∃as:List Gb,ak H H'/\H' D=some (.lst (as.map V.ref))/\as.length=i/\∀(j:Nat) (b:Gb) (x:Nat),as[j]? = some b->cs[j]? = some x->ps[x]? = some b)
   ⟨[],aJ hD,ae,rfl,λj b x e=>by simp at e⟩ (λi H' _ h=>by obtain⟨as,h1,_⟩:=h;exact SqL.of (h1 _ _ hc)) ?_ ?_
  ·rintro i y H' hi ⟨as,hS,hDl,hal,hat⟩
   obtain⟨x,hix,rfl⟩:=lR hi
   have hil:i<cs.length:=(gsi hix).1
   obtain⟨b,hb⟩:=hp.has (hcn x (GV hix))
   refine⟨rfl,kD (d7 ?_)⟩
   refine⟨_,rfl,_,rfl,p,_,_,_,rfl,rfl,SqL.of (hp.same hS).1,aC (j:=x) rfl (aP hb),_,hDl,?_,as++[b],aT hS hD,?_,?_,?_⟩
   ·rw[lmp]
    exact a6 (by lia)
   ·rw[ae,GA]
    rfl
   ·rw[Gd,hal]
    rfl
   ·intro j q z e1 e2
    by_cases cj:j<as.length
    ·rw[GB cj]at e1
     exact hat j q z e1 e2
    ·have hj:=(gsi e1).1
     rw[Gd]at hj
     have ej:j=as.length:=by simp at hj;lia
     subst ej
     rw[Gx (nlr _),HG]at e1
     have e1:b=q:=osi e1
     rw[hal,hix]at e2
     have e2:=osi e2
     rw[<-e1,<-e2]
     exact hb
  rintro H' ⟨as,hS,hDl,hal,hat⟩
  rw[bX]at hal
  exact k H' D as hS hD ⟨hDl,hal,hat⟩
def prF (S:Gla.Plan)(x:Nat×Nat):Int:=((S.pt x.1).x:Int)*((S.pt x.2).y:Int)-((S.pt x.2).x:Int)*((S.pt x.1).y:Int)
theorem vc (S:Gla.Plan)(x:Nat×Nat):prF S x=crs (S.pt x.1) (S.pt x.2):=by
 unfold prF crs
 rw[Ii ((S.pt x.2).x:Int)]
theorem mQ (S:Gla.Plan)(c:Nat):∀(r:List Nat) (a:Nat),((((a :: r).zip (r++[c])).map (prF S)).foldr (λ(a b:Int)=>a+b) 0)=du (S.pt a) (r.map S.pt)+crs (S.pt ((a :: r).getLast (by simp))) (S.pt c)
 |[],a=>by
  show prF S (a,c)+0=0+crs (S.pt a) (S.pt c)
  rw[vc]
  show crs (S.pt a) (S.pt c)+0=_
  lia
 |b :: r,a=>by
  show prF S (a,b)+((((b :: r).zip (r++[c])).map (prF S)).foldr (λ(a b:Int)=>a+b) 0)=(crs (S.pt a) (S.pt b)+du (S.pt b) (r.map S.pt))+crs (S.pt ((a :: b :: r).getLast (by simp))) (S.pt c)
  have e:(a :: b :: r).getLast (by simp)=(b :: r).getLast (by simp):=List.getLast_cons (by simp)
  rw[mQ S c r b,vc,e]
  show crs (S.pt a) (S.pt b)+_=_
  lia
theorem sU {S:Gla.Plan}{a:Nat}{r:List Nat}{init:List Pt}{l:Pt}(h:(a :: r).map S.pt=init++[l]):l=S.pt ((a :: r).getLast (by simp)):=by
 have e1:((a :: r).map S.pt).getLast? = some l:=by rw[h,List.getLast?_concat]
 rw[List.getLast?_map,List.getLast?_eq_some_getLast (by simp)]at e1
 exact(osi e1).symm
theorem uC (S:Gla.Plan){cs:List Nat}{init:List Pt}{l:Pt}(h:cs.map S.pt=init++[l]):du l (cs.map S.pt)=Gla.twiceArea S cs:=by
 cases cs with
 |nil=>simp at h
 |cons a r =>
  have e:Gla.twiceArea S (a :: r)=((((a :: r).zip (r++[a])).map (prF S)).foldr (λ(a b:Int)=>a+b) 0):=rfl
  rw[e,mQ,sU h]
  show crs _ (S.pt a)+du (S.pt a) (r.map S.pt)=_
  lia
def prB (S:Gla.Plan)(z:Pt)(x:Nat×Nat):Bool :=
 let p:=S.pt x.1
 let q:=S.pt x.2
 (decide (p.y<=z.y)&&(decide (z.y<q.y)&&decide (0<HW p q z)))||(decide (q.y<=z.y)&&(decide (z.y<p.y)&&decide (HW p q z<0)))
theorem wE (p q z:Pt):HW q p z=- HW p q z:=by
 unfold HW Gla.dx Gla.dy
 grind
theorem uR (S:Gla.Plan)(z:Pt)(x:Nat×Nat):prB S z x=dk (S.pt x.1) (S.pt x.2) z:=by
 unfold prB dk
 have e:=wE (S.pt x.1) (S.pt x.2) z
 rw[e,G0]
 simp only[Iz,Gi,Gj]
 split
 ·rename_i h
  rw[Gj]
  constructor
  ·rintro(h1|h1)
   ·exact h1.2.2
   ·lia
  ·exact λh1=>.inl ⟨h.1,h.2,h1⟩
 ·rename_i h
  split
  ·rename_i h2
   rw[Gj]
   constructor
   ·rintro(h1|h1)
    ·lia
    ·have:=h1.2.2
     lia
   ·exact λh1=>.inr ⟨h2.1,h2.2,by lia⟩
  ·rename_i h2
   constructor
   ·rintro(h1|h1)
    ·lia
    ·lia
   ·intro h1
    cases h1
def qc (n:Nat):Bool:=decide (n % 2=1)
theorem xl (n:Nat):qc (n+1)=!qc n:=by
 unfold qc
 rw[<-decide_not,Gu]
 lia
theorem sr {α:Type}(q:α->Bool)(x:α)(l:List α):qc ((x :: l).filter q).length=(q x^^qc (l.filter q).length):=by
 by_cases c:q x=true
 ·rw[List.filter_cons_of_pos c,GL,xl,c,Bool.true_xor]
 ·rw[List.filter_cons_of_neg c,cE c,Hs]
theorem rQ (S:Gla.Plan)(z:Pt)(c:Nat):∀(r:List Nat) (a:Nat),qc (((a :: r).zip (r++[c])).filter (prB S z)).length=(fj z (S.pt a) (r.map S.pt)^^dk (S.pt ((a :: r).getLast (by simp))) (S.pt c) z)
 |[],a=>by
  show qc (((a,c) :: []).filter (prB S z)).length=(false^^dk (S.pt a) (S.pt c) z)
  rw[sr,uR]
  show(_^^false)=_
  rw[HU,Hs]
 |b :: r,a=>by
  show qc (((a,b) :: ((b :: r).zip (r++[c]))).filter (prB S z)).length=((dk (S.pt a) (S.pt b) z^^fj z (S.pt b) (r.map S.pt))^^dk (S.pt ((a :: b :: r).getLast (by simp))) (S.pt c) z)
  have e:(a :: b :: r).getLast (by simp)=(b :: r).getLast (by simp):=List.getLast_cons (by simp)
  rw[sr,rQ S z c r b,uR,e,Bool.xor_assoc]
theorem Dv (S:Gla.Plan)(z:Pt){cs:List Nat}{init:List Pt}{l:Pt}(h:cs.map S.pt=init++[l]):fj z l (cs.map S.pt)=JP S cs z:=by
 cases cs with
 |nil=>simp at h
 |cons a r =>
  have e:JP S (a :: r) z=qc (((a :: r).zip (r++[a])).filter (prB S z)).length:=rfl
  rw[e,rQ,sU h]
  show(dk _ (S.pt a) z^^fj z (S.pt a) (r.map S.pt))=_
  rw[Jc]
theorem vY {S:Gla.Plan}(k:WL.Kept S){e:Nat×Nat}(he:(WL.ab S).J e.1 e.2):(WL.orb S e).Nodup:=by
 have per:=WL.dC k he
 rw[per.orb]
 rw[List.Nodup,GT]
 intro i j hi hj hij
 rw[WL.cO]at hi hj
 have e1:=(gsi (kH (WL.aj S) e _ 0 i hi)).2
 have e2:=(gsi (kH (WL.aj S) e _ 0 j hj)).2
 rw[e1,e2]
 exact per.dist (0+i) (0+j) (by lia) (by lia)
theorem qk {S:Gla.Plan}(k:WL.Kept S):∀{D:List (Nat×Nat)},(∀x∈D,(WL.ab S).J x.1 x.2)->(WL.bL S D).1.Nodup:=by
 intro D
 generalize hn:D.length=n
 induction n generalizing D with
 |zero =>
  intro _
  have:D=[]:=Im.1 hn
  subst this
  exact List.nodup_nil
 |succ n ih =>
  intro hD
  rcases Jg D with h|⟨D',e,h⟩
  ·subst h;simp at hn
  ·rw[JK]at h
   subst h
   have hD':∀x∈D',(WL.ab S).J x.1 x.2:=λx hx=>hD x (by simp[hx])
   have he:=hD e (by simp)
   have ok:=WL.jc k hD'
   have nd:=ih (by simpa using hn) hD'
   rw[WL.gw]
   unfold WL.kl
   by_cases hw:e∈(WL.bL S D').1
   ·rw[Gk hw]
    exact nd
   ·rw[Gf hw]
    show((WL.bL S D').1++WL.orb S e).Nodup
    rw[List.nodup_append]
    refine⟨nd,vY k he,λx hx y hy hxy=>hw ?_⟩
    subst hxy
    obtain⟨e',he',hx'⟩:=(ok.walked x).1 hx
    exact(ok.walked e).2 ⟨e',he',WL.fN k (hD' e' he') hx' (WL.eB k he hy)⟩
theorem nV {S:Gla.Plan}(k:WL.Kept S){D:List (Nat×Nat)}(hD:∀x∈D,(WL.ab S).J x.1 x.2):(WL.bL S D).1.length<=2*S.lines.length:=by
 rw[<-WL.lM]
 refine WL.bI (qk k hD) λx hx=>?_
 obtain⟨e,he,hxe⟩:=((WL.jc k hD).walked x).1 hx
 exact WL.jb.2 (WL.fW k (hD e he) hxe)
def bef (cs:List Nat)(k:Nat):Nat:=if k=0 then cs.getLast?.getD 0 else cs.getD (k-1) 0
def uc (cs:List Nat)(k:Nat):List (Nat×Nat):=(GE k).map λi=>(bef cs i,cs.getD i 0)
theorem wB (cs:List Nat)(k:Nat):uc cs (k+1)=uc cs k++[(bef cs k,cs.getD k 0)]:=by
 unfold uc
 rw[JJ,GA]
 rfl
theorem ql {cs:List Nat}{j:Nat}(h:j<cs.length):(WL.prs cs)[j]? = some (cs.getD j 0,cs.getD (if j+1=cs.length then 0 else j+1) 0):=by
 unfold WL.prs
 have hl:(cs.drop 1++cs.take 1).length=cs.length:=by
  rw[Gd,GN,GY]
  lia
 rw[gge (by rw[Hm,hl];lia),Jx]
 congr 2
 ·rw[Gr,gge h]
  rfl
 ·split
  ·rename_i c
   rw[List.getElem_append_right (by rw[GN];lia)]
   rw[List.getElem_take,Gr,gge (by lia)]
   simp only[GN,Option.getD_some]
   congr 1
   lia
  ·rename_i c
   rw[List.getElem_append_left (by rw[GN];lia),Jo,Gr,gge (by lia)]
   simp only[Option.getD_some]
   congr 1
   lia
theorem tO (cs:List Nat):(WL.prs cs).length=cs.length:=by
 unfold WL.prs
 rw[Hm,Gd,GN,GY]
 lia
theorem pD {cs:List Nat}:cs.getLast?.getD 0=cs.getD (cs.length-1) 0:=by
 rw[List.getLast?_eq_getElem?,Gr]
theorem wP (cs:List Nat)(x:Nat×Nat):x∈uc cs cs.length↔x∈WL.prs cs:=by
 unfold uc
 rw[GP,Jb]
 constructor
 ·rintro⟨i,hi,rfl⟩
  have hi:=Hz.1 hi
  by_cases c:i=0
  ·subst c
   refine⟨cs.length-1,?_⟩
   rw[ql (by lia),Gk (by lia)]
   unfold bef
   rw[Gk rfl,pD]
  ·refine⟨i-1,?_⟩
   rw[ql (by lia),Gf (by lia),Nat.sub_add_cancel (by lia)]
   unfold bef
   rw[Gf c]
 ·rintro⟨j,hj⟩
  have hjl:=(gsi hj).1
  rw[tO]at hjl
  rw[ql hjl]at hj
  have hj:=osi hj
  by_cases c:j+1=cs.length
  ·refine⟨0,Hz.2 (by lia),?_⟩
   rw[<-hj,Gk c]
   unfold bef
   rw[Gk rfl,pD]
   congr 2
   lia
  ·refine⟨j+1,Hz.2 (by lia),?_⟩
   rw[<-hj,Gf c]
   unfold bef
   rw[Gf (by lia),Nat.add_sub_cancel]
theorem LD.same_mem {kvs:List (List L2.Key×V)}{L L':List (Nat×Nat)}(h:LD kvs L)(e:∀x,x∈L↔x∈L'):LD kvs L':=λx=>by
 rw[h x,Gu]
 exact e x
theorem zF {cs:List Nat}{k:Nat}(h:k<cs.length):atI (iV (nI cs)) ((k:Int)-1)=some (.int (bef cs k:Int)):=by
 unfold bef
 by_cases c:k=0
 ·subst c
  rw[Gk rfl]
  obtain⟨init,z,e⟩:=ke (λq:cs=[]=>by rw[q]at h;simp at h)
  rw[e,gu,List.getLast?_concat]
  exact nG _ _
 ·rw[Gf c]
  have ez:((k:Int)-1)=((k-1:Nat):Int):=by lia
  rw[ez,Gr,gge (by lia)]
  exact pX (kX (by lia))
def sZ (S:Gla.Plan)(i:Nat):List (Nat×Nat):=(GE i).flatMap λi=>(WL.aj S i).map λj=>(i,j)
def dTo (S:Gla.Plan)(i j:Nat):List (Nat×Nat):=sZ S i++((WL.aj S i).take j).map λj=>(i,j)
theorem yE (S:Gla.Plan)(i:Nat):dTo S i 0=sZ S i:=by
 unfold dTo
 rw[List.take_zero]
 exact HM _
theorem xL (S:Gla.Plan)(i:Nat):dTo S i (WL.aj S i).length=sZ S (i+1):=by
 unfold dTo sZ
 rw[Hx,JJ,List.flatMap_append]
 congr 1
 show _=_++[]
 rw[HM]
theorem xN {S:Gla.Plan}{i j x:Nat}(h:(WL.aj S i)[j]? = some x):dTo S i (j+1)=dTo S i j++[(i,x)]:=by
 unfold dTo
 rw[bE h,GA,List.append_assoc]
 rfl
theorem Ek {S:Gla.Plan}(k:WL.Kept S){i j:Nat}:∀x∈dTo S i j,(WL.ab S).J x.1 x.2:=by
 have r:=WL.cF k
 intro x hx
 unfold dTo sZ at hx
 rw[GK,J6,GP]at hx
 rcases hx with⟨q,_,hq⟩|⟨y,hy,rfl⟩
 ·rw[GP]at hq
  obtain⟨y,hy,rfl⟩:=hq
  exact r.mem.1 hy
 ·exact r.mem.1 (HE hy)
theorem vm {S:Gla.Plan}(k:WL.Kept S):∀{D:List (Nat×Nat)},(∀x∈D,(WL.ab S).J x.1 x.2)->(WL.bL S D).2.length<=(WL.bL S D).1.length:=by
 intro D
 generalize hn:D.length=n
 induction n generalizing D with
 |zero =>
  intro _
  have:D=[]:=Im.1 hn
  subst this
  exact nlr _
 |succ n ih =>
  intro hD
  rcases Jg D with h|⟨D',e,h⟩
  ·subst h;simp at hn
  ·rw[JK]at h
   subst h
   have hD':∀x∈D',(WL.ab S).J x.1 x.2:=λx hx=>hD x (by simp[hx])
   have he:=hD e (by simp)
   have le:=ih (by simpa using hn) hD'
   rw[WL.gw]
   unfold WL.kl
   split
   ·exact le
   ·have ho:0<(WL.orb S e).length:=List.length_pos_of_mem (WL.gR k he)
    show(if _ then _ else _:List (List Nat)).length<=((WL.bL S D').1++WL.orb S e).length
    rw[Gd]
    split
    ·rw[Gd,List.length_singleton]
     lia
    ·lia
def dS (H:Hp)(O:Gb)(os:List Gb)(L:List (List Nat)):Prop:=H O=some (.lst (os.map V.ref))/\os.length=L.length/\∀(j:Nat) (b:Gb) (l:List Nat),os[j]? = some b->L[j]? = some l->b≠O/\H b=some (.lst (iV (nI l)))
theorem dS.same {H H':Hp}{O:Gb}{os:List Gb}{L:List (List Nat)}(h:dS H O os L)(s:ak H H'):dS H' O os L:=⟨s _ _ h.1,h.2.1,λj b l e1 e2=>⟨(h.2.2 j b l e1 e2).1,s _ _ (h.2.2 j b l e1 e2).2⟩⟩
theorem dS.updW {H:Hp}{O W:Gb}{os:List Gb}{L:List (List Nat)}{q q':List (List L2.Key×V)}(h:dS H O os L)(hW:H W=some (.dT q)):dS (upd H W (.dT q')) O os L:=by
 refine⟨?_,h.2.1,λj b l e1 e2=>⟨(h.2.2 j b l e1 e2).1,?_⟩⟩
 ·rw[ap (λz=>by have:=h.1;rw[z,hW]at this;cases this)]
  exact h.1
 ·have hb:=(h.2.2 j b l e1 e2).2
  rw[ap (λz=>by rw[z,hW]at hb;cases hb)]
  exact hb
theorem dS.push {H:Hp}{O c:Gb}{os:List Gb}{L:List (List Nat)}{l:List Nat}(h:dS H O os L)(hc:H c=some (.lst (iV (nI l))))(nc:c≠O):dS (upd H O (.lst (os.map V.ref++[.ref c]))) O (os++[c]) (L++[l]):=by
 refine⟨by rw[ae,GA];rfl,by rw[Gd,Gd,h.2.1];rfl,λj b l' e1 e2=>?_⟩
 by_cases cj:j<os.length
 ·rw[GB cj]at e1
  rw[GB (by rw[<-h.2.1];exact cj)]at e2
  obtain⟨n1,n2⟩:=h.2.2 j b l' e1 e2
  exact⟨n1,by rw[ap n1];exact n2⟩
 ·have hj:=(gsi e1).1
  rw[Gd]at hj
  have ej:j=os.length:=by simp at hj;lia
  subst ej
  rw[Gx (nlr _),HG]at e1
  rw[h.2.1,Gx (nlr _),HG]at e2
  have e1:c=b:=osi e1
  have e2:l=l':=osi e2
  subst e1 e2
  exact⟨nc,by rw[ap nc];exact hc⟩
structure OSt (H H':Hp)(W O:Gb)(S:Gla.Plan)(D:List (Nat×Nat))(kvs:List (List L2.Key×V))(os:List Gb):Prop where
 sm:ak H H'
 w:H' W=some (.dT kvs)
 ld:LD kvs (WL.bL S D).1
 ln:kvs.length<=(WL.bL S D).1.length
 o:dS H' O os (WL.bL S D).2
theorem OSt.same {H H' H'':Hp}{W O:Gb}{S:Gla.Plan}{D:List (Nat×Nat)}{kvs:List (List L2.Key×V)}{os:List Gb}(h:OSt H H' W O S D kvs os)(s:ak H' H''):OSt H H'' W O S D kvs os:=⟨h.sm.trans s,s _ _ h.w,h.ld,h.ln,h.o.same s⟩
def AJ (C:Gb):Sp:=λvs H Q _=>∃(a:Gb) (S:Gla.Plan),vs=[.ref a]/\bA C H a S/\SB S/\WL.cB S/\∀(H':Hp) (O:Gb) (os:List Gb),ak H H'->dS H' O os (WL.dm S)->Q (.ref O) H'
theorem gP:aq ["drawing","points","rings","walked","outlines","first","ring","second","corners","k","corner","ends"] ["drawing"] (ag dY):=fsk
theorem BA (F:Has K mg "outlines_of" dY ["drawing"]) (T:DCl K mg C) (ge:mg "enumerate"=none) (CN:Cb P w K mg base 1 "neighbours_of" ["drawing"] (BT C)) (CR:Cb P w K mg base 3 "ring_round" ["points","middle","ends"] (Bc K)) (CW:Cb P w K mg base 1 "walk_round" ["rings","first","second"] DO) (CA:Cb P w K mg base 1 "twice_area" ["corners"] (qU K)) (CP:Cb P w K mg base 1 "points_at" ["points","corners"] (wu K)) :
  Cb P w K mg base 4 "outlines_of" ["drawing"] (AJ C):=by
 refine F.cb gP (λvs H Q E h=>?_) (λ_ _ A _ s H vs Q E hr h=>?_)
 ·obtain⟨a,S,rfl,_⟩:=h
  rfl
 ·obtain⟨a,S,rfl,hd,sb,kp,k⟩:=h
  obtain⟨dx,p,l,m,ps,ls,ms,o⟩:=hd.op (K:=K)
  have hr1:br 1 _:=hr.mono (by decide)
  have hu:=hr.units
  have np:=sb.np
  have nl:=sb.nl
  have kk:=kp.toKept
  have hlo:gi S:=λl hl=>kk.line hl
  refine⟨_,ad (aA (i:=1) gP.nd rfl (.inr rfl) (aQ (pv 0) rfl))
   (ad (bQ (i:=2) (own:=[("k",9),("ends",11)]) (g:=g2 K 9 11) (te:=iM (Bc K) [] E0 (a8 (aY 1) (a8 (aY 9) (a8 (aY 11) fc)))) rfl gP.nd rfl rfl (cw rfl rfl rfl (by decide +kernel)) (d5 rfl ge (aa (aB CN hr1 (aa (pv 0) ac)) ac)) (bf (by show fY ["drawing","points","rings","walked","outlines","first","ring","second","corners","k","corner","ends"] (ag dY) _ _=true;decide +kernel))
    (λ_ _ _ _ _=>cC (n:=2) rfl (aG (ao (i:=9) gP.nd rfl (.inl rfl) (.inr rfl)) (aG (ao (i:=11) gP.nd rfl (.inl rfl) (.inr rfl)) bN))) (λ_ _ _ _ _=>cY) (λ_ _ _ _ _=>aB CR hr (aa (pv 1) (aa (pv 9) (aa (pv 11) ac)))))
   (ad (aA (i:=3) gP.nd rfl (.inl rfl) sI)
   (ad (aA (i:=4) gP.nd rfl (.inl rfl) (dQ ac))
   (ad (bB Gy rfl (d5 rfl ge (aa (pv 2) ac)) (cC (n:=2) rfl (aG (ao (i:=5) gP.nd rfl (.inl rfl)) (aG (ao (i:=6) gP.nd rfl (.inl rfl)) bN)))
    (af (bB Gy rfl (bH (pv 6)) (ao (i:=7) gP.nd rfl (.inl rfl))
     (af (a4 (tJ (pA (G8 (IV (by decide) _) hu) (bG (aa (pv 5) (aa (pv 7) ac))) (pv 3)))
      (ad (aA (i:=8) gP.nd rfl (.inl rfl) (aB CW hr1 (aa (pv 2) (aa (pv 5) (aa (pv 7) ac)))))
      (ad (bB Gy rfl (d5 rfl ge (aa (pv 8) ac)) (cC (n:=2) rfl (aG (ao (i:=9) gP.nd rfl (.inl rfl)) (aG (ao (i:=10) gP.nd rfl (.inl rfl)) bN)))
       (af (qg (G8 (IV (by decide) _) hu) (pv 3) (bG (aa (aw aW (pv 8) (aR eS (pv 9) ah) (λ_ _=>rfl)) (aa (pv 10) ac))) eD rfl)))
      (af (a4 (aM eg (aB CA hr1 (aa (aB CP hr1 (aa (pv 1) (aa (pv 8) ac))) ac)) ah (aI _))
       (af (jo (lD Ho ID IE gJ (pv 4) (aa (pv 8) ac)))) aL))))
      aL)))))
   (af (al (pv 4))))))),?_⟩
  refine⟨_,rfl,a,C,dx,_,_,rfl,o.at_,T.cl,T.nP,ie,?_⟩
  refine⟨_,rfl,a,S,rfl,hd,sb,hlo,λH1 N nas hN hNl=>?_⟩
  have s1:=hN.sm
  have rw1:=hN.rw
  refine⟨N,_,rfl,SqL.of rw1.1,λD hD=>?_⟩
  refine Ah (K:=K) (a:=N) (xs:=nas.map V.ref) (λi H'=>∃as:List Gb,ak H1 H'/\H' D=some (.lst (as.map V.ref))/\as.length=i/\∀(j:Nat) (b:Gb),as[j]? = some b->b≠D/\H' b=some (.lst (iV (nI (WL.aj S j)))))
   ⟨[],aJ hD,ae,rfl,λj b e=>by simp at e⟩ (λi H' _ h=>by obtain⟨as,h1,_⟩:=h;exact SqL.of (h1 _ _ rw1.1)) ?_ ?_
  ·rintro i y T' H' hi hT ⟨as,hS,hDl,hal,hat⟩
   obtain⟨b,hb,rfl⟩:=bW hi
   have hil:i<S.pts.length:=by rw[<-hNl];exact(gsi hb).1
   have s2:ak H' (upd H' T' (.tup [.int (i:Nat),.ref b])):=aJ hT
   refine⟨T',_,rfl,SqT.of ae,rfl,_,_,rfl,_,_,rfl,rfl,rfl,kD (d7 ?_)⟩
   generalize upd H' T' (.tup [.int (i:Nat),.ref b])=H2 at s2
   have s12:=hS.trans s2
   refine⟨_,rfl,_,rfl,_,rfl,p,b,ps,S,i,S.near i,rfl,(o.same (s1.trans s12)).ptsL sb,hil,(rw1.same s12).2 i b hb,og hlo i hil,?_,λH3 r s3 hr0 hr3=>?_⟩
   ·have h9:(S.near i).length<=S.lines.length:=List.length_filterMap_le _ _
    lia
   have hD3:=s3 _ _ (s2 _ _ hDl)
   have nr:r≠D:=λz=>by rw[z,s2 _ _ hDl]at hr0;cases hr0
   refine⟨as.map V.ref,hD3,by rw[lmp];exact a6 (by lia),as++[r],aT (s12.trans s3) hD,?_,by rw[Gd,hal];rfl,λj c e=>?_⟩
   ·rw[ae,GA]
    rfl
   ·by_cases cj:j<as.length
    ·rw[GB cj]at e
     obtain⟨n1,n2⟩:=hat j c e
     exact⟨n1,by rw[ap n1];exact s3 _ _ (s2 _ _ n2)⟩
    ·have hj:=(gsi e).1
     rw[Gd]at hj
     have ej:j=as.length:=by simp at hj;lia
     subst ej
     rw[Gx (nlr _),HG]at e
     have e:r=c:=osi e
     subst e
     refine⟨nr,?_⟩
     rw[ap nr,hal]
     exact hr3
  rintro H2 ⟨as,hS2,hDl,hal,hat⟩
  rw[lmp,hNl]at hal
  have rwR:RW H2 D as (WL.aj S):=⟨hDl,λi b e=>(hat i b e).2⟩
  have sH2:=s1.trans hS2
  clear hat hDl hS2
  refine λW hW=>?_
  refine⟨(by show 0<=Ge;decide),λO hO=>?_⟩
  have nWO:W≠O:=λz=>by rw[z,ae]at hO;cases hO
  have hO2:H2 O=none:=by rw[ap nWO.symm]at hO;exact hO
  have z0:OSt H2 (upd (upd H2 W (.dT [])) O (.lst [])) W O S (sZ S 0) [] []:=⟨aT (aJ hW) hO2,by rw[ap nWO];exact ae,λx=>rfl,Hj _,ae,rfl,λj b l e=>by simp at e⟩
  generalize upd (upd H2 W (.dT [])) O (.lst [])=H3 at z0
  refine⟨_,rfl,D,_,rfl,SqL.of (rwR.same z0.sm).1,dr (K:=K) (a:=D) (xs:=as.map V.ref) (λi σ H'=>(∃v5 v6 v7 v8 v9 v10,σ=[some (.ref a),some (.ref p),some (.ref D),some (.ref W),some (.ref O),v5,v6,v7,v8,v9,v10,none])/\∃kvs os,OSt H2 H' W O S (sZ S i) kvs os)
   ⟨⟨none,none,none,none,none,none,rfl⟩,[],[],z0⟩ (λi σ H' _ h=>by obtain⟨_,kvs,os,h⟩:=h;exact SqL.of (rwR.same h.sm).1) ?_ ?_⟩
  ·rintro i y T' σ H' hi hT ⟨⟨v5,v6,v7,v8,v9,v10,rfl⟩,kvs0,os0,z⟩
   obtain⟨b,hb,rfl⟩:=bW hi
   have hil:i<S.pts.length:=by rw[<-hal];exact(gsi hb).1
   have s2:ak H' (upd H' T' (.tup [.int (i:Nat),.ref b])):=aJ hT
   refine⟨T',_,rfl,SqT.of ae,rfl,_,_,rfl,_,_,rfl,rfl,?_⟩
   have z1:=z.same s2
   generalize upd H' T' (.tup [.int (i:Nat),.ref b])=H4 at z1
   rw[<-yE]at z1
   refine⟨_,rfl,b,rfl,⟨_,SqL.of ((rwR.same z1.sm).2 i b hb)⟩,eq (K:=K) (a:=b) (xs:=iV (nI (WL.aj S i))) (λj σ H'=>(∃v7 v8 v9 v10,σ=[some (.ref a),some (.ref p),some (.ref D),some (.ref W),some (.ref O),some (.int (i:Int)),some (.ref b),v7,v8,v9,v10,none])/\∃kvs os,OSt H2 H' W O S (dTo S i j) kvs os)
    ⟨⟨_,_,_,_,rfl⟩,_,_,z1⟩ (λj σ H' _ h=>by obtain⟨_,kvs,os,h⟩:=h;exact SqL.of ((rwR.same h.sm).2 i b hb)) ?_ ?_⟩
   ·rintro j y σ H5 hj ⟨⟨w7,w8,w9,w10,rfl⟩,kvs,os,z5⟩
    obtain⟨x,hjx,rfl⟩:=lR hj
    have hJ:(WL.ab S).J i x:=(WL.cF kk).mem.1 (GV hjx)
    have hDJ:=Ek kk (i:=i) (j:=j)
    have hwl:=nV kk hDJ
    have hol:=vm kk hDJ
    have e1:WL.bL S (dTo S i (j+1))=WL.kl S (WL.bL S (dTo S i j)) (i,x):=by rw[xN hjx,WL.gw]
    refine⟨_,rfl,_,rfl,(by show 2<=Ge;decide),λq hq=>?_⟩
    have s6:ak H5 (upd H5 q (.tup [.int (i:Int),.int (x:Int)])):=aJ hq
    have z6:=z5.same s6
    refine⟨_,rfl,W,_,rfl,mD.t (k:=lk (i,x)) z6.w ae,_,rfl,?_⟩
    generalize upd H5 q (.tup [.int (i:Int),.int (x:Int)])=H6 at z6
    rw[z6.ld]
    refine aU (λc=>?_) (λc=>?_)
    ·have c:(i,x)∉(WL.bL S (dTo S i j)).1:=λz=>by
      rw[dqt z]at c
      exact absurd c (by decide)
     have e2:WL.bL S (dTo S i (j+1))=((WL.bL S (dTo S i j)).1++WL.orb S (i,x),if 0<Gla.twiceArea S (WL.rnd S (i,x)) then (WL.bL S (dTo S i j)).2++[WL.rnd S (i,x)] else (WL.bL S (dTo S i j)).2):=by
      rw[e1]
      unfold WL.kl
      rw[Gf c]
     refine⟨_,rfl,_,rfl,_,rfl,D,as,S,i,x,rfl,rwR.same z6.sm,hal,np,kp,hJ,λH7 c7 s7 hc6 hc7=>?_⟩
     have z7:=z6.same s7
     have ncO:c7≠O:=(aO z6.o.1 hc6).symm
     have ncW:c7≠W:=(aO z6.w hc6).symm
     have hlen:=mr kp (e:=(i,x)) hJ
     have hcn:=qQ kp (e:=(i,x)) hJ
     have hprs:=WL.iw kk (e:=(i,x)) hJ
     have hol2:(WL.orb S (i,x)).length=(WL.rnd S (i,x)).length:=WL.cO _ _ _ _
     obtain⟨tl,htl⟩:=WL.j7 kk (e:=(i,x)) hJ
     have hne:WL.rnd S (i,x)≠[]:=by rw[htl];simp
     clear htl
     generalize hcs:WL.rnd S (i,x)=cs at hc7 hlen hcn hprs hol2 hne e2
     have zsm:=z7.sm
     have zw:=z7.w
     have zld:=z7.ld
     have zln:=z7.ln
     have zo:=z7.o
     generalize WL.bL S (dTo S i j)=st at c e2 hwl hol zld zln zo
     obtain⟨st1,st2⟩:=st
     have hwl:st1.length<=2*S.lines.length:=hwl
     have hol:st2.length<=st1.length:=hol
     have zld:LD kvs st1:=zld
     have zln:kvs.length<=st1.length:=zln
     have zo:dS H7 O os st2:=zo
     refine⟨_,rfl,c7,_,rfl,SqL.of hc7,dr (K:=K) (a:=c7) (xs:=iV (nI cs)) (λt σ H'=>(∃v9 v10,σ=[some (.ref a),some (.ref p),some (.ref D),some (.ref W),some (.ref O),some (.int (i:Int)),some (.ref b),some (.int (x:Int)),some (.ref c7),v9,v10,none])/\ak H2 H'/\H' c7=some (.lst (iV (nI cs)))/\(∃kv,H' W=some (.dT kv)/\LD kv (st1++uc cs t)/\kv.length<=st1.length+t)/\dS H' O os st2)
      ⟨⟨_,_,rfl⟩,zsm,hc7,⟨kvs,zw,zld.same_mem (λy=>by rw[show st1++uc cs 0=st1 from HM _]),zln⟩,zo⟩ (λt σ H' _ h=>SqL.of h.2.2.1) ?_ ?_⟩
     ·rintro t y T2 σ H8 ht hT2 ⟨⟨u9,u10,rfl⟩,sm8,hc8,⟨kv,hw8,ld8,ln8⟩,o8⟩
      obtain⟨cx,htx,rfl⟩:=lR ht
      have htl:t<cs.length:=(gsi htx).1
      have ecx:cs.getD t 0=cx:=by rw[Gr,htx];rfl
      refine⟨T2,_,rfl,SqT.of ae,rfl,_,_,rfl,_,_,rfl,rfl,?_⟩
      have s9:ak H8 (upd H8 T2 (.tup [.int (t:Nat),.int (cx:Int)])):=aJ hT2
      generalize upd H8 T2 (.tup [.int (t:Nat),.int (cx:Int)])=H9 at s9
      refine⟨_,rfl,_,rfl,_,rfl,_,_,rfl,rfl,c7,_,_,_,rfl,rfl,SqL.of (s9 _ _ hc8),zF htl,_,rfl,(by show 2<=Ge;decide),λq2 hq2=>?_⟩
      have s10:ak H9 (upd H9 q2 (.tup [.int (bef cs t:Int),.int (cx:Int)])):=aJ hq2
      have s8:=s9.trans s10
      refine⟨W,_,rfl,qF.t (k:=lk (bef cs t,cx)) (s8 _ _ hw8) ae (a6 (by lia)),?_⟩
      generalize upd H9 q2 (.tup [.int (bef cs t:Int),.int (cx:Int)])=H10 at s10 s8
      refine⟨⟨_,_,rfl⟩,aT (sm8.trans s8) hW,by rw[ap ncW];exact s8 _ _ hc8,⟨_,ae,?_,?_⟩,(o8.same s8).updW (s8 _ _ hw8)⟩
      ·rw[wB,ecx,<-List.append_assoc]
       exact ld8.put _ _
      ·have:=gq kv (lk (bef cs t,cx)) (.bl true)
       lia
     ·rintro σ H8 ⟨⟨u9,u10,rfl⟩,sm8,hc8,⟨kv,hw8,ld8,ln8⟩,o8⟩
      rw[bX]at ld8 ln8
      have ld9:LD kv (st1++WL.orb S (i,x)):=ld8.same_mem λy=>by
       rw[GK,GK,wP,hprs]
      have hsm:ak H H8:=sH2.trans sm8
      obtain⟨init,lz,einit⟩:=ke (show cs.map S.pt≠[] by simpa using hne)
      refine⟨_,rfl,_,rfl,p,c7,ps,S,cs,rfl,(o.same hsm).ptsL sb,hc8,hcn,by lia,λH9 r as9 s9 _ hsh=>?_⟩
      refine⟨r,_,init,lz,rfl,hsh.pl ((o.same (hsm.trans s9)).ptsL sb),einit,?_⟩
      rw[uC S einit]
      refine⟨_,_,rfl,rfl,_,rfl,aU (λc9=>?_) (λc9=>?_)⟩
      ·have c9:=FY c9
       have o9:=o8.same s9
       refine⟨_,rfl,.inl ⟨rfl,_,SqL.of o9.1⟩,_,rfl,O,_,_,rfl,rfl,o9.1,?_,?_⟩
       ·rw[lmp,o9.2.1]
        exact a6 (by have:st2.length<=st1.length:=hol;have:st1.length<=2*S.lines.length:=hwl;lia)
       ·refine⟨⟨_,_,_,_,rfl⟩,kv,os++[c7],aT (sm8.trans s9) hO2,?_,?_,?_,?_⟩
        ·rw[ap nWO]
         exact s9 _ _ hw8
        ·rw[e2]
         exact ld9
        ·rw[e2]
         show kv.length<=(st1++WL.orb S (i,x)).length
         rw[Gd,hol2]
         exact ln8
        ·rw[e2]
         show dS _ O (os++[c7]) (if 0<Gla.twiceArea S cs then st2++[cs] else st2)
         rw[Gk c9]
         exact o9.push (s9 _ _ hc8) ncO
      ·have c9:=aH c9
       refine⟨⟨_,_,_,_,rfl⟩,kv,os,sm8.trans s9,s9 _ _ hw8,?_,?_,?_⟩
       ·rw[e2]
        exact ld9
       ·rw[e2]
        show kv.length<=(st1++WL.orb S (i,x)).length
        rw[Gd,hol2]
        exact ln8
       ·rw[e2]
        show dS _ O os (if 0<Gla.twiceArea S cs then st2++[cs] else st2)
        rw[Gf c9]
        exact o8.same s9
    ·have c:(i,x)∈(WL.bL S (dTo S i j)).1:=bcn λz=>c (by rw[dqf z];rfl)
     have e2:WL.bL S (dTo S i (j+1))=WL.bL S (dTo S i j):=by
      rw[e1]
      unfold WL.kl
      rw[Gk c]
     exact⟨⟨_,_,_,_,rfl⟩,kvs,os,z6.sm,z6.w,by rw[e2];exact z6.ld,by rw[e2];exact z6.ln,by rw[e2];exact z6.o⟩
   ·rintro σ H5 ⟨⟨w7,w8,w9,w10,rfl⟩,kvs,os,z5⟩
    rw[bX,xL]at z5
    exact⟨⟨_,_,_,_,_,_,rfl⟩,kvs,os,z5⟩
  ·rintro σ H' ⟨⟨v5,v6,v7,v8,v9,v10,rfl⟩,kvs,os,z⟩
   rw[lmp,hal]at z
   exact⟨_,rfl,k H' O os (sH2.trans z.sm) z.o⟩
def sQ (f d o:V):List (Str×V):=eZ "outlines" o (eZ "drawing" d (eZ "fault" f []))
theorem Co {f d o:V}:(sQ f d o).lookup ("fault" : Str)=some f:=by
 unfold sQ
 rw[aF,Gf (by decide +kernel),aF,Gf (by decide +kernel),aF,Gk rfl]
theorem EM {f d o:V}:(sQ f d o).lookup ("drawing" : Str)=some d:=by
 unfold sQ
 rw[aF,Gf (by decide +kernel),aF,Gk rfl]
theorem FV {f d o:V}:(sQ f d o).lookup ("outlines" : Str)=some o:=by
 unfold sQ
 rw[aF,Gk rfl]
structure VCl (K:Hq)(mg:Str->Option Value)(C:Gb):Prop where
 cl:Cls K C
 nF:d8 K C "fault"
 nD:d8 K C "drawing"
 nO:d8 K C "outlines"
 mgC:mg "Verdict"=some (.ref C)
def uW (CV:Gb)(H:Hp)(v:Gb)(fo:Option (Int×Int))(dv ov:V):Prop:=∃dx fv,H v=some (.ins CV dx (sQ fv dv ov))/\lu fo fv H
theorem lu.same {o:Option (Int×Int)}{v:V}{H H':Hp}(h:lu o v H)(s:ak H H'):lu o v H':=by
 cases o with
 |none=>exact h
 |some x =>
  obtain⟨q,e,h⟩:=h
  exact⟨q,e,s _ _ h⟩
theorem zn {d:Gb}{o:Obj}{kvs:List (L2.Key×V)}{g:TG}{tt:TT}{te:TE}{vs:List Nat}{σ:L2.St}{H1:Hp}{D:Gb}{Qd:Hp->Prop}(Pv:Nat->Hp->Prop)(h0:Pv 0 (upd H1 D (.lst [])))(hl:∀i H,i<=kvs.length->Pv i H->H d=some (.frz o (.dK kvs)))
  (hs:∀i k v H,kvs[i]? = some (k,v)->Pv i H->g (kV k) (b6 σ vs) H λσ2 H2=>b6 σ2 vs=b6 σ vs/\tt σ2 H2 λb H3 =>
   if b=true then te σ2 H3 λy H4=>∃acc,H4 D=some (.lst acc)/\acc.length<Ge/\Pv (i+1) (upd H4 D (.lst (acc++[y]))) else Pv (i+1) H3) (hd:∀H,Pv kvs.length H->Qd H) :
  ∃W:Nat->Nat->Hp->Prop,(∃m,W 0 m (upd H1 D (.lst [])))/\∀i m H,W i m H ->
   ((Itk d o kvs).stop i H/\Qd H)\/((Itk d o kvs).go i H/\∃Nx:Hp->Prop,(∀H',Nx H'->∃m',m'<m/\W (i+1) m' H')/\∀x H',(Itk d o kvs).yld i H x H'->g x (b6 σ vs) H' λσ2 H2=>b6 σ2 vs=b6 σ vs/\tt σ2 H2 λb H3 =>
    if b=true then te σ2 H3 λy H4=>∃acc,H4 D=some (.lst acc)/\acc.length<Ge/\Nx (upd H4 D (.lst (acc++[y]))) else Nx H3):=by
 refine⟨λi m H=>m=kvs.length-i/\i<=kvs.length/\Pv i H,⟨kvs.length,by simp,Hj _,h0⟩,?_⟩
 rintro i m H ⟨rfl,hi,p⟩
 have q:=hl i H hi p
 by_cases hlt:i<kvs.length
 ·refine .inr ⟨⟨q,hlt⟩,Pv (i+1),λH' p'=>⟨kvs.length-(i+1),by lia,rfl,hlt,p'⟩,λx H' y=>?_⟩
  obtain⟨e,k,v,y,rfl⟩:=y
  subst e
  exact hs i k v _ y p
 ·have e:i=kvs.length:=by lia
  subst e
  exact .inl ⟨⟨q,nlr _⟩,hd H p⟩
def kd (l:List Nat):List (L2.Key×V):=l.map λ(h:Nat)=>((Sum.inl (h:Int):L2.Key),V.bl true)
theorem AW (l:List Nat)(h:Nat):(fV (kd l) (Sum.inl (h:Int))).isSome=decide (h∈l):=by
 rw[<-gD,G0,Gj,II]
 constructor
 ·rintro⟨x,hx,e⟩
  unfold kd at hx
  rw[GP]at hx
  obtain⟨y,hy,rfl⟩:=hx
  have e:=Sum.inl.inj (FY e)
  have:y=h:=by lia
  rw[<-this]
  exact hy
 ·intro hh
  refine⟨(Sum.inl (h:Int),.bl true),?_,dqt rfl⟩
  unfold kd
  exact GP.2 ⟨h,hh,rfl⟩
theorem Bj {l:List Nat}{h:Nat}(hh:h∉l):iZ (kd l) (Sum.inl (h:Int)) (.bl true)=kd (l++[h]):=by
 unfold iZ
 rw[gD,AW,dqf hh,Gf (by decide)]
 unfold kd
 rw[GA]
 rfl
theorem qh (l:List Nat):(kd l).length=l.length:=by unfold kd;rw[lmp]
def B3 (C:Gb):Sp:=λvs H Q _=>∃(x dx:Gb) (f d o:V),vs=[.ref x,f,d,o]/\H x=some (.ins C dx []) /\
 ∀H':Hp,H' x=some (.ins C dx (sQ f d o))->(∀b u,H b=some u->b≠x->H' b=some u)->Q .non H'
theorem Fn:aq ["self","fault","drawing","outlines"] ["self","fault","drawing","outlines"] (ag jw):=fsk
theorem BZ (F:qZ K CV "Verdict.__init__" jw ["self","fault","drawing","outlines"]) (T:VCl K mg CV):Ci P w K mg base 1 CV ["self","fault","drawing","outlines"] (B3 CV):=by
 refine F.ci Fn (λvs H Q E h=>?_) (λ_ _ A _ s H vs Q E hr h=>?_)
 ·obtain⟨x,dx,f,d,o,rfl,_⟩:=h
  rfl
 ·obtain⟨x,dx,f,d,o,rfl,hx,k⟩:=h
  refine⟨_,ad (i9 (pv 0) (pv 1) rfl) (ad (i9 (pv 0) (pv 2) rfl) (af (i9 (pv 0) (pv 3) rfl))),?_⟩
  refine⟨_,rfl,_,rfl,x,CV,dx,_,rfl,hx,T.cl,T.nF,(by show 0<1000;decide),?_⟩
  refine⟨_,rfl,_,rfl,x,CV,dx,_,rfl,ae,T.cl,T.nD,(G8 (cZ (n:=0) (nlr 0)) (by decide)),?_⟩
  refine⟨_,rfl,_,rfl,x,CV,dx,_,rfl,ae,T.cl,T.nO,(G8 (cZ (cZ (n:=0) (nlr 0))) (by decide)),?_⟩
  refine k _ ae λb u e hb=>?_
  rw[ap hb,ap hb,ap hb]
  exact e
def mW (H:Hp)(D:Gb)(bs ps:List Gb)(L:List (List Nat)):Prop:=H D=some (.lst (bs.map V.ref))/\bs.length=L.length/\∀(j:Nat) (b:Gb) (l:List Nat),bs[j]? = some b->L[j]? = some l->b≠D/\∃as,lT H b as ps l
theorem lT.same {H H':Hp}{r:Gb}{as ps:List Gb}{cs:List Nat}(h:lT H r as ps cs)(s:ak H H'):lT H' r as ps cs:=⟨s _ _ h.1,h.2.1,h.2.2⟩
theorem mW.same {H H':Hp}{D:Gb}{bs ps:List Gb}{L:List (List Nat)}(h:mW H D bs ps L)(s:ak H H'):mW H' D bs ps L:=⟨s _ _ h.1,h.2.1,λj b l e1 e2=>⟨(h.2.2 j b l e1 e2).1,by obtain⟨as,q⟩:=(h.2.2 j b l e1 e2).2;exact⟨as,q.same s⟩⟩⟩
def ED (K:Hq):Sp:=λvs H Q _=>∃(ma s p:Gb) (bs ps:List Gb) (L:List (List Nat)) (S:Gla.Plan) (z:Pt) (h:Nat) (hh:h<L.length),vs=[.ref ma,.ref s]/\cI K H ma z/\m7 K H p ps S/\mW H s bs ps L/\(∀l∈L,l≠[])/\JP S L[h] z=true/\(∀j (hj:j<L.length),j<h->JP S L[j] z=false)/\∀H':Hp,ak H H'->Q (.int (h:Int)) H'
theorem Bq:aq ["mark","shapes","k","shape"] ["mark","shapes"] (ag gb):=fsk
theorem Ai (F:Has K mg "holder_of" gb ["mark","shapes"]) (ge:mg "enumerate"=none) (C1:Cb P w K mg base 3 "is_inside" ["corners","r"] (CG K)):Cb P w K mg base 4 "holder_of" ["mark","shapes"] (ED K):=by
 refine F.cb Bq (λvs H Q E h=>?_) (λ_ _ A _ s H vs Q E hr h=>?_)
 ·obtain⟨ma,s,p,bs,ps,L,S,z,h,hh,rfl,_⟩:=h
  rfl
 ·obtain⟨ma,sa,p,bs,ps,L,S,z,h,hh,rfl,hz,hp,hs,hne,hin,hno,k⟩:=h
  refine⟨_,ad (bB Gy rfl (d5 rfl ge (aa (pv 1) ac)) (cC (n:=2) rfl (aG (ao (i:=2) Bq.nd rfl (.inl rfl)) (aG (ao (i:=3) Bq.nd rfl (.inl rfl)) bN)))
    (af (a4 (cG (aB C1 hr (aa (pv 3) (aa (pv 0) ac)))) (af (al (pv 2))) aL)))
   (af (al bc)),?_⟩
  refine⟨_,rfl,sa,_,rfl,SqL.of hs.1,dr (K:=K) (a:=sa) (xs:=bs.map V.ref) (λi σ H'=>ak H H'/\i<=h/\∃v1 v2,σ=[some (.ref ma),some (.ref sa),v1,v2])
   ⟨ak.refl H,Hj _,none,none,rfl⟩ (λi σ H' _ q=>SqL.of (q.1 _ _ hs.1)) ?_ ?_⟩
  ·rintro i y T' σ H' hi hT ⟨hS,hih,v1,v2,rfl⟩
   obtain⟨b,hb,rfl⟩:=bW hi
   have hil:i<L.length:=by rw[<-hs.2.1];exact(gsi hb).1
   have s2:ak H (upd H' T' (.tup [.int (i:Nat),.ref b])):=aV hS hT
   refine⟨T',_,rfl,SqT.of ae,rfl,_,_,rfl,_,_,rfl,rfl,?_⟩
   generalize upd H' T' (.tup [.int (i:Nat),.ref b])=H2 at s2
   obtain⟨_,as,hsh⟩:=(hs.same s2).2.2 i b L[i] hb (gge hil)
   have hl0:=hne _ (GC hil)
   obtain⟨init,lz,einit⟩:=ke (show L[i].map S.pt≠[] by simpa using hl0)
   refine⟨_,rfl,_,rfl,b,ma,_,init,lz,z,rfl,hsh.pl (hp.same s2),einit,hz.same s2,?_⟩
   rw[Dv S z einit]
   refine⟨_,rfl,aU (λc=>?_) (λc=>?_)⟩
   ·have e:i=h:=by
     refine bcn λq=>?_
     rw[hno i hil (by lia)]at c
     exact absurd c (by decide)
    subst e
    exact⟨_,rfl,k H2 s2⟩
   ·refine⟨s2,?_,_,_,rfl⟩
    have e:i≠h:=λq=>by
     subst q
     exact c hin
    lia
  ·rintro σ H' ⟨hS,hih,_⟩
   rw[lmp,hs.2.1]at hih
   lia
def o12 (S:Gla.Plan):Option (Int×Int):=jB 12 (mN S) (Gla.twice S S.outlines 0 [] S.marks)
def o13 (S:Gla.Plan):Option (Int×Int):=if S.marks.length<S.outlines.length then some (13,mN S S.marks.length) else none
def eN (S:Gla.Plan):Option (Int×Int):=lf (o12 S) (o13 S)
def vh (H:Hp)(ov:V)(S:Gla.Plan):Prop:=∃(ol:Gb) (osl:List Gb),ov=.ref ol/\H ol=some (.lst (osl.map V.ref))/\osl.length=S.marks.length/\∀(i:Nat) (b:Gb) (m:IX),osl[i]? = some b->S.marks[i]? = some m->∃l,S.among S.outlines m.at_=some l/\H b=some (.lst (iV (nI l)))
structure HF (S:Gla.Plan)(hf:Nat->Nat):Prop where
 lt:∀i,i<S.marks.length->hf i<(WL.dm S).length
 am:∀i (hi:i<S.marks.length),S.among S.outlines S.marks[i].at_=(WL.dm S)[hf i]?
 ins:∀i (hi:i<S.marks.length) (hh:hf i<(WL.dm S).length),JP S (WL.dm S)[hf i] S.marks[i].at_=true
 no:∀i (hi:i<S.marks.length) (j:Nat) (hj:j<(WL.dm S).length),j<hf i->JP S (WL.dm S)[j] S.marks[i].at_=false
theorem Em {S:Gla.Plan}(k:WL.cB S)(hm:∀m∈S.marks,Gla.clear S m.at_=true):∃hf,HF S hf:=by
 have ex:∀i,∃h,∀(hi:i<S.marks.length),∃(hh:h<(WL.dm S).length),S.among S.outlines S.marks[i].at_=some (WL.dm S)[h]/\JP S (WL.dm S)[h] S.marks[i].at_=true/\∀j (hj:j<(WL.dm S).length),JP S (WL.dm S)[j] S.marks[i].at_=true->j=h:=λi=>by
  by_cases hi:i<S.marks.length
  ·obtain⟨h,hh,h1,h2,h3⟩:=WL.xa k (hm _ (GC hi))
   exact⟨h,λ_=>⟨hh,h1,h2,h3⟩⟩
  ·exact⟨0,λh=>absurd h hi⟩
 refine⟨λi=>Classical.choose (ex i),λi hi=>?_,λi hi=>?_,λi hi hh=>?_,λi hi j hj hlt=>?_⟩
 ·obtain⟨hh,_⟩:=JQ (ex i) hi
  exact hh
 ·obtain⟨hh,h1,_⟩:=JQ (ex i) hi
  rw[h1,gge hh]
 ·obtain⟨hh,_,h2,_⟩:=JQ (ex i) hi
  exact h2
 ·obtain⟨hh,_,_,h3⟩:=JQ (ex i) hi
  refine cE λz=>?_
  have:=h3 j hj z
  lia
theorem HF.eq_iff {S:Gla.Plan}{hf:Nat->Nat}(k:WL.Kept S)(h:HF S hf){i j:Nat}(hi:i<S.marks.length)(hj:j<S.marks.length):S.among S.outlines S.marks[i].at_=S.among S.outlines S.marks[j].at_↔hf i=hf j:=by
 rw[h.am i hi,h.am j hj]
 constructor
 ·intro e
  have l1:=h.lt i hi
  have l2:=h.lt j hj
  rw[gge l1,gge l2]at e
  have e:=osi e
  rcases Nat.lt_trichotomy (hf i) (hf j) with c|c|c
  ·exact absurd e (GT.1 (WL.io k) _ _ l1 l2 c)
  ·exact c
  ·exact absurd e.symm (GT.1 (WL.io k) _ _ l2 l1 c)
 ·intro e
  rw[e]
def gW (hf:Nat->Nat)(k:Nat):List Nat:=(GE k).map hf
theorem wd (hf:Nat->Nat)(k:Nat):gW hf (k+1)=gW hf k++[hf k]:=by
 unfold gW
 rw[JJ,GA]
 rfl
theorem kL (hf:Nat->Nat)(k:Nat):(gW hf k).length=k:=by
 unfold gW
 rw[lmp,Hl]
theorem uf {S:Gla.Plan}{hf:Nat->Nat}(k:WL.Kept S)(h:HF S hf){i:Nat}(hi:i<S.marks.length):((((S.marks.take i).map λ(m:IX)=>S.among S.outlines m.at_).reverse++[]).contains (S.among S.outlines S.marks[i].at_))=decide (hf i∈gW hf i):=by
 rw[HM,G0,Jf,Gj,List.mem_reverse,GP]
 unfold gW
 rw[GP]
 constructor
 ·rintro⟨m,hm,e⟩
  rw[Iu]at hm
  obtain⟨j,hj,rfl⟩:=hm
  exact⟨j,Hz.2 (by lia),(h.eq_iff k (by lia) hi).1 e⟩
 ·rintro⟨j,hj,e⟩
  have hj:=Hz.1 hj
  refine⟨S.marks[j]'(by lia),Iu.2 ⟨j,by lia,rfl⟩,(h.eq_iff k (by lia) hi).2 e⟩
def Dy (C CV:Gb):Sp:=λvs H Q _=>∃(a O:Gb) (os:List Gb) (S:Gla.Plan),vs=[.ref a,.ref O]/\bA C H a S/\SB S/\WL.cB S/\(∀m∈S.marks,Gla.clear S m.at_=true)/\dS H O os (WL.dm S)/\∀(H':Hp) (v:Gb) (ov:V),ak H H'->uW CV H' v (eN S) (.ref a) ov->(eN S=none->vh H' ov S)->Q (.ref v) H'
theorem qT:aq ["drawing","outlines","shapes","marked","k","mark","holder","outline"] ["drawing","outlines"] (ag cS):=fsk
theorem En (F:Has K mg "judge_marks" cS ["drawing","outlines"]) (T:DCl K mg C) (TV:VCl K mg CV) (ge:mg "enumerate"=none) (gl:mg "len"=none) (CI:Ci P w K mg base 1 CV ["self","fault","drawing","outlines"] (B3 CV)) (CP:Cb P w K mg base 1 "points_at" ["points","corners"] (wu K)) (CH:Cb P w K mg base 4 "holder_of" ["mark","shapes"] (ED K))
  (CM1:Cm P w K mg base 3 C "place_of_mark" ["self","k"] (xi C)) (CE:Cm P w K mg base 4 C "place_of_end" ["self"] (Dm C)):Cb P w K mg base 5 "judge_marks" ["drawing","outlines"] (Dy C CV):=by
 refine F.cb qT (λvs H Q E h=>?_) (λ_ _ A _ s H vs Q E hr h=>?_)
 ·obtain⟨a,O,os,S,rfl,_⟩:=h
  rfl
 ·obtain⟨a,O,os,S,rfl,hd,sb,kp,hclear,hO,k⟩:=h
  obtain⟨dx,p,l,m,ps,ls,ms,o⟩:=hd.op (K:=K)
  have hr1:br 1 _:=hr.mono (by decide)
  have hr2:br 2 _:=hr.mono (by decide)
  have hr3:br 3 _:=hr.mono (by decide)
  have hu:=hr.units
  have kk:=kp.toKept
  have np:=sb.np
  have nl:=sb.nl
  have nm:=sb.nm
  obtain⟨hf,hF⟩:=Em kp hclear
  have hol:(WL.dm S).length<=2*S.lines.length:=GU (vm kk λx hx=>(WL.bF kk).1 hx) (nV kk λx hx=>(WL.bF kk).1 hx)
  refine⟨_,ad (bQ (i:=2) (own:=[("outline",7)]) (te:=iM (wu K) [] E0 (a8 (wo K (aY 0) "points") (a8 (aY 7) fc))) rfl qT.nd rfl rfl (cw rfl rfl rfl (by decide +kernel)) (bH (pv 1)) (bf (by show fY ["drawing","outlines","shapes","marked","k","mark","holder","outline"] (ag cS) _ _=true;decide +kernel))
    (λ_ _ _ _ _=>ao (i:=7) qT.nd rfl (.inl rfl) (.inr rfl)) (λ_ _ _ _ _=>cY) (λ_ _ _ _ _=>aB CP hr1 (aa (aQ (pv 0) rfl) (aa (pv 7) ac))))
   (ad (aA (i:=3) qT.nd rfl (.inl rfl) yD)
   (ad (bB Gy rfl (d5 rfl ge (aa (aQ (pv 0) rfl) ac)) (cC (n:=2) rfl (aG (ao (i:=4) qT.nd rfl (.inl rfl)) (aG (ao (i:=5) qT.nd rfl (.inl rfl)) bN)))
    (ad (aA (i:=6) qT.nd rfl (.inl rfl) (aB CH hr (aa (pv 5) (aa (pv 2) ac))))
    (ad (a4 (tJ (BK (G8 (IV (by decide) _) hu) (pv 6) (pv 3))) (af (al (pL CI hr2 TV.mgC (aa (bG (aa ah (aa (gU (pv 0) T.cl CM1 hr3 (aa (pv 4) ac)) ac))) (aa (pv 0) (aa (dQ ac) ac)))))) aL)
    (af (qg (G8 (IV (by decide) _) hu) (pv 3) (pv 6) eD rfl)))))
   (ad (a4 (aM fZ (aZ wJ (by rfl) gl G6 (aa (pv 3) ac)) (aZ aN (by rfl) gl G6 (aa (pv 1) ac)) (aI _)) (af (al (pL CI hr2 TV.mgC (aa (bG (aa ah (aa (Cq (pv 0) T.cl CE hr) ac))) (aa (pv 0) (aa (dQ ac) ac)))))) aL)
   (af (al (pL CI hr2 TV.mgC (aa bc (aa (pv 0) (aa (zU (vb (own:=[("holder",6)]) (te:=tOp (wj K) (aY 1) (aY 6)) rfl qT.nd (Aj (pv 3)) (bf (by show fY ["drawing","outlines","shapes","marked","k","mark","holder","outline"] (ag cS) _ _=true;decide +kernel))
    (λ_ _ _ _ _=>ao (i:=6) qT.nd rfl (.inl rfl) (.inr rfl)) (λ_ _ _ _ _=>cY) (λ_ _ _ _ _=>aw aW (pv 1) (pv 6) (λ_ _=>rfl)))) ac))))))))),?_⟩
  refine⟨_,rfl,O,rfl,⟨_,SqL.of hO.1⟩,λD hD=>?_⟩
  refine eV (K:=K) (a:=O) (xs:=os.map V.ref) (λi H'=>∃bs,ak H H'/\H' D=some (.lst (bs.map V.ref))/\bs.length=i/\∀(j:Nat) (b:Gb) (l:List Nat),bs[j]? = some b->(WL.dm S)[j]? = some l->b≠D/\∃as,lT H' b as ps l)
   ⟨[],aJ hD,ae,rfl,λj b l e=>by simp at e⟩ (λi H' _ h=>by obtain⟨bs,h1,_⟩:=h;exact SqL.of (h1 _ _ hO.1)) ?_ ?_
  ·rintro i y H' hi ⟨bs,hS,hDl,hbl,hat⟩
   obtain⟨c,hc,rfl⟩:=bW hi
   have hil:i<(WL.dm S).length:=by rw[<-hO.2.1];exact(gsi hc).1
   obtain⟨e,hJ,_,hle⟩:=WL.i7 kp (GC hil)
   have o2:=o.same hS
   refine⟨rfl,kD (d7 ?_)⟩
   refine⟨_,rfl,a,C,dx,_,_,rfl,o2.at_,T.cl,T.nP,ie,_,rfl,p,c,ps,S,(WL.dm S)[i],rfl,o2.ptsL sb,hS _ _ (hO.2.2 i c _ hc (gge hil)).2,?_,?_,λH2 r as s2 hr0 hsh=>?_⟩
   ·rw[hle]
    exact qQ kp hJ
   ·rw[hle]
    have:=mr kp hJ
    lia
   have nr:r≠D:=λz=>by rw[z,hDl]at hr0;cases hr0
   refine⟨_,s2 _ _ hDl,by rw[lmp];exact a6 (by lia),bs++[r],aT (hS.trans s2) hD,by rw[ae,GA];rfl,by rw[Gd,hbl];rfl,λj b l' e1 e2=>?_⟩
   by_cases cj:j<bs.length
   ·rw[GB cj]at e1
    obtain⟨n1,as',q1,q2⟩:=hat j b l' e1 e2
    exact⟨n1,as',by rw[ap n1];exact s2 _ _ q1,q2⟩
   ·have hj:=(gsi e1).1
    rw[Gd]at hj
    have ej:j=bs.length:=by simp at hj;lia
    subst ej
    rw[Gx (nlr _),HG]at e1
    have e1:r=b:=osi e1
    subst e1
    rw[hbl,gge hil]at e2
    have e2:=osi e2
    subst e2
    exact⟨nr,as,by rw[ap nr];exact hsh.1,hsh.2⟩
  rintro H1 ⟨bs,s1,hDl,hbl,hat⟩
  rw[lmp,hO.2.1]at hbl
  have shp:mW H1 D bs ps (WL.dm S):=⟨hDl,hbl,hat⟩
  have hne:∀l∈WL.dm S,l≠[]:=λl hl=>by
   obtain⟨e,hJ,_,rfl⟩:=WL.i7 kp hl
   obtain⟨t,ht⟩:=WL.j7 kk hJ
   rw[ht]
   simp
  clear hat hDl hbl
  refine λW hW=>?_
  have s2:ak H1 (upd H1 W (.dK [])):=aJ hW
  have hW2:(upd H1 W (.dK (kd (gW hf 0)))) W=some (.dK (kd (gW hf 0))):=ae
  have o2:=o.same (s1.trans s2)
  refine⟨_,rfl,a,C,dx,_,_,rfl,o2.at_,T.cl,T.nM,wL,m,_,rfl,SqL.of o2.ml,dr (K:=K) (a:=m) (xs:=ms.map V.ref) (λi σ H'=>ak H1 H'/\(∃v4 v5 v6,σ=[some (.ref a),some (.ref O),some (.ref D),some (.ref W),v4,v5,v6,none])/\H' W=some (.dK (kd (gW hf i)))/\∀j,j<i->hf j∉gW hf j)
   ⟨s2,⟨none,none,none,rfl⟩,hW2,λj h=>absurd h (Hn _)⟩ (λi σ H' _ h=>SqL.of (h.1 _ _ (s1 _ _ o.ml))) ?_ ?_⟩
  ·rintro i y T' σ H' hi hT ⟨hS,⟨v4,v5,v6,rfl⟩,hWi,hok⟩
   obtain⟨b,hb,rfl⟩:=bW hi
   have hil:i<S.marks.length:=by rw[<-o.mn];exact(gsi hb).1
   have s3:ak H' (upd H' T' (.tup [.int (i:Nat),.ref b])):=aJ hT
   refine⟨T',_,rfl,SqT.of ae,rfl,_,_,rfl,_,_,rfl,rfl,?_⟩
   generalize upd H' T' (.tup [.int (i:Nat),.ref b])=H2 at s3
   have s13:=hS.trans s3
   have o3:=o.same (s1.trans s13)
   refine⟨_,rfl,_,rfl,b,D,p,bs,ps,WL.dm S,S,S.marks[i].at_,hf i,hF.lt i hil,rfl,o3.mkAt sb hb (gge hil),o3.ptsL sb,shp.same s13,hne,hF.ins i hil _,λj hj hlt=>hF.no i hil j hj hlt,λH3 s4=>?_⟩
   have hW3:=s4 _ _ (s3 _ _ hWi)
   have s14:=s13.trans s4
   have o4:=o.same (s1.trans s14)
   refine⟨_,rfl,_,rfl,W,_,rfl,mD.k (k:=Sum.inl (hf i:Int)) hW3,_,rfl,?_⟩
   rw[AW]
   refine aU (λc=>?_) (λc=>?_)
   ·have c:=FY c
    refine⟨_,rfl,a,dx,_,rfl,o4.at_,cf (.inr (.inl rfl)),_,rfl,a,S,_,rfl,o4.draw,(by show 2<=Ge;decide),λq hq=>?_⟩
    refine⟨_,rfl,(by show 0<=Ge;decide),λq2 hq2=>?_⟩
    refine λx xd nx ndx nex=>?_
    refine⟨x,xd,_,_,_,rfl,ae,λH8 h8 kp8=>⟨rfl,?_⟩⟩
    have s8:ak _ H8:=ak.made nx ndx kp8
    have e12:eN S=some (12,mN S i):=by
     unfold eN o12
     rw[WL.oo (k:=i) hil (by rw[uf kk hF hil];exact dqt c) (λj hj=>by rw[uf kk hF (by lia)];exact dqf (hok j hj)),Ih]
     rfl
    refine k H8 x (.ref q2) ((s1.trans s14).trans ((aJ hq).trans ((aJ hq2).trans s8))) ⟨xd,_,h8,?_⟩ (λz=>by rw[e12]at z;cases z)
    rw[e12]
    exact⟨q,rfl,s8 _ _ ((aJ hq2) _ _ ae)⟩
   ·have c:hf i∉gW hf i:=λz=>c (dqt z)
    refine⟨_,rfl,_,rfl,W,_,rfl,qF.k (k:=Sum.inl (hf i:Int)) hW3 (by rw[qh,kL];exact a6 (by lia)),?_⟩
    refine⟨aT s14 hW,⟨_,_,_,rfl⟩,by rw[ae,Bj c,wd],λj h=>?_⟩
    by_cases cc:j<i
    ·exact hok j cc
    ·have:j=i:=by lia
     subst this
     exact c
  rintro σ H2 ⟨hS,⟨v4,v5,v6,rfl⟩,hWn,hok⟩
  rw[lmp,o.mn]at hWn hok
  have sH:=s1.trans hS
  have o3:=o.same sH
  have hO2:=hO.same sH
  have e12:o12 S=none:=by
   unfold o12
   rw[WL.lA λj hj=>by rw[uf kk hF hj];exact dqf (hok j hj)]
   rfl
  have eM:eN S=o13 S:=by unfold eN;rw[e12];rfl
  refine⟨_,rfl,W,_,rfl,hWn,_,rfl,O,_,rfl,.inl (SqL.of hO2.1),_,_,rfl,rfl,_,rfl,?_⟩
  rw[qh,kL,lmp,hO.2.1,WL.rR kp]
  refine aU (λc=>?_) (λc=>?_)
  ·have c:=FY c
   refine⟨_,rfl,a,dx,_,rfl,o3.at_,cf (.inr (.inr rfl)),a,S,rfl,o3.draw,(by show 2<=Ge;decide),λq hq=>?_⟩
   refine⟨_,rfl,(by show 0<=Ge;decide),λq2 hq2=>?_⟩
   refine λx xd nx ndx nex=>?_
   refine⟨x,xd,_,_,_,rfl,ae,λH8 h8 kp8=>⟨rfl,?_⟩⟩
   have s8:ak _ H8:=ak.made nx ndx kp8
   have e13:eN S=some (13,mN S S.marks.length):=by
    rw[eM]
    unfold o13
    rw[Gk (by lia)]
   refine k H8 x (.ref q2) (sH.trans ((aJ hq).trans ((aJ hq2).trans s8))) ⟨xd,_,h8,?_⟩ (λz=>by rw[e13]at z;cases z)
   rw[e13]
   exact⟨q,rfl,s8 _ _ ((aJ hq2) _ _ ae)⟩
  ·have c:=aH c
   have e13:eN S=none:=by
    rw[eM]
    unfold o13
    rw[Gf (by lia)]
   refine⟨_,rfl,W,_,hWn,trivial,λod=>?_⟩
   have hWH:H W=none:=s1.free hW
   have sF:ak H (upd H2 W (.frz od (.dK (kd (gW hf S.marks.length))))):=aT sH hWH
   refine⟨_,rfl,W,od,rfl,.inl ⟨_,ae,λD2 hD2=>?_⟩⟩
   have hF0:(upd H2 W (.frz od (.dK (kd (gW hf S.marks.length))))) W=some (.frz od (.dK (kd (gW hf S.marks.length)))):=ae
   generalize upd H2 W (.frz od (.dK (kd (gW hf S.marks.length))))=H3 at sF hF0 hD2
   have nDW:D2≠W:=(aO hF0 hD2).symm
   refine zn (λi H'=>∃bs2,ak H3 H'/\H' D2=some (.lst (bs2.map V.ref))/\bs2.length=i/\∀(j:Nat) (b:Gb),bs2[j]? = some b->os[hf j]? = some b)
    ⟨[],aJ hD2,ae,rfl,λj b e=>by simp at e⟩ (λi H' _ h=>by obtain⟨bs2,h1,_⟩:=h;exact h1 _ _ hF0) ?_ ?_
   ·rintro i kx vx H' hi ⟨bs2,hS2,hDl2,hbl2,hat2⟩
    have hil:i<S.marks.length:=by
     have:=(gsi hi).1
     rw[qh,kL]at this
     exact this
    unfold kd gW at hi
    rw[Gp,Gp,IS hil]at hi
    have hi:=osi hi
    obtain⟨rfl,rfl⟩:=Io hi
    obtain⟨b,hb⟩:∃b,os[hf i]? = some b:=⟨os[hf i]'(by rw[hO.2.1];exact hF.lt i hil),gge _⟩
    refine⟨rfl,kD (d7 ?_)⟩
    refine⟨_,rfl,_,rfl,O,_,_,_,rfl,rfl,SqL.of (hS2 _ _ (sF _ _ hO.1)),aC (j:=hf i) rfl (aP hb),_,hDl2,by rw[lmp];exact a6 (by lia),bs2++[b],aT hS2 hD2,by rw[ae,GA];rfl,by rw[Gd,hbl2];rfl,λj q e=>?_⟩
    by_cases cj:j<bs2.length
    ·rw[GB cj]at e
     exact hat2 j q e
    ·have hj:=(gsi e).1
     rw[Gd]at hj
     have ej:j=bs2.length:=by simp at hj;lia
     subst ej
     rw[Gx (nlr _),HG]at e
     have e:b=q:=osi e
     rw[hbl2,<-e]
     exact hb
   ·rintro H4 ⟨bs2,hS2,hDl2,hbl2,hat2⟩
    rw[qh,kL]at hbl2
    refine⟨hS2 _ _ hF0,?_⟩
    have s5:ak H (upd H4 W (.dK (kd (gW hf S.marks.length)))):=aT (sF.trans hS2) hWH
    have hD5:(upd H4 W (.dK (kd (gW hf S.marks.length)))) D2=some (.lst (bs2.map V.ref)):=by rw[ap nDW];exact hDl2
    generalize upd H4 W (.dK (kd (gW hf S.marks.length)))=H5 at s5 hD5
    refine λx xd nx ndx nex=>?_
    refine⟨x,xd,_,_,_,rfl,ae,λH8 h8 kp8=>⟨rfl,?_⟩⟩
    have s8:ak H5 H8:=ak.made nx ndx kp8
    refine k H8 x (.ref D2) (s5.trans s8) ⟨xd,_,h8,by rw[e13];rfl⟩ λ_=>?_
    refine⟨D2,bs2,rfl,s8 _ _ hD5,hbl2,λi b mm e1 e2=>?_⟩
    have hil:i<S.marks.length:=(gsi e2).1
    rw[gge hil]at e2
    have e2:=osi e2
    subst e2
    have hlt:=hF.lt i hil
    refine⟨(WL.dm S)[hf i],by rw[hF.am i hil,gge hlt],?_⟩
    exact s8 _ _ (s5 _ _ (hO.2.2 (hf i) b _ (hat2 i b e1) (gge hlt)).2)
def aX (ns:List Int):Gla.Plan:=Jy (toB ns)
def cH (ns:List Int):Option (Int×Int):=lf (dR ns) (lf (bT (aX ns)) (eN (aX ns)))
theorem lJ {ns:List Int}(h:Byt ns)(e:dR ns=none):(ns.length:Int)=told ns/\d9 (toB ns)=none:=by
 refine⟨?_,?_⟩
 ·unfold dR at e
  split at e
  ·cases e
  ·split at e
   ·cases e
   ·split at e
    ·cases e
    ·split at e
     ·cases e
     ·rename_i h1
      exact bcn λz=>h1 z
 ·rw[jv h]at e
  cases q:d9 (toB ns) with
  |none=>rfl
  |some x=>rw[q]at e;cases e
theorem uN (ns:List Int):(aX ns).pts.length=Gla.num (toB ns) 12 2:=by
 unfold aX Jy
 simp only[lmp,Hl]
theorem wb (ns:List Int):(aX ns).lines.length=Gla.num (toB ns) 14 2:=by
 unfold aX Jy
 simp only[lmp,Hl]
theorem vC (ns:List Int):(aX ns).marks.length=Gla.num (toB ns) 16 2:=by
 unfold aX Jy
 simp only[lmp,Hl]
theorem AN (ns:List Int):SB (aX ns):=by
 have n4:∀p,Gla.num (toB ns) p 4<4294967296:=λp=>qW _ p 4
 have n2:∀p,Gla.num (toB ns) p 2<65536:=λp=>qW _ p 2
 refine⟨λp hp=>?_,λm hm=>?_,?_,?_,?_⟩
 ·unfold aX Jy at hp
  simp only[GP]at hp
  obtain⟨i,_,rfl⟩:=hp
  exact⟨n4 _,n4 _⟩
 ·unfold aX Jy at hm
  simp only[GP]at hm
  obtain⟨i,_,rfl⟩:=hm
  exact⟨n4 _,n4 _⟩
 ·rw[uN]
  have:=n2 12
  lia
 ·rw[wb]
  have:=n2 14
  lia
 ·rw[vC]
  have:=n2 16
  lia
theorem rH {ns:List Int}(e:d9 (toB ns)=none):4<=(aX ns).pts.length:=by
 rw[uN]
 refine bcn λz=>?_
 have hw:Gla.within 4 Gla.POINTS (Gla.num (toB ns) 12 2)=false:=by
  unfold Gla.within
  rw[dqf z,G5]
 unfold d9 at e
 rw[Gk hw]at e
 repeat' split at e
 all_goals cases e
theorem cT {a b:Option (Int×Int)}(h:lf a b=none):a=none/\b=none:=by
 cases a with
 |none=>exact⟨rfl,h⟩
 |some x=>cases h
theorem lQ {S:Gla.Plan}(h4:4<=S.pts.length)(h:bT S=none):WL.cB S/\∀m∈S.marks,Gla.clear S m.at_=true:=by
 unfold bT at h
 obtain⟨e4,h⟩:=cT h
 obtain⟨e5,h⟩:=cT h
 obtain⟨e6,h⟩:=cT h
 obtain⟨e7,h⟩:=cT h
 obtain⟨e8,h⟩:=cT h
 obtain⟨e9,h⟩:=cT h
 obtain⟨e10,e11⟩:=cT h
 refine⟨⟨⟨ek e4,ek e5,ek e7⟩,h4,?_,ek e9,ek e10⟩,λm hm=>?_⟩
 ·unfold o6 at e6
  split at e6
  ·cases e6
  ·rename_i c
   cases q:Ka S with
   |true=>rfl
   |false=>exact absurd q c
 ·exact(WL.cp (ek e11)).1 m hm
def spJ (K:Hq)(C CV:Gb):Sp:=λvs H Q _=>∃(a:Gb) (ns:List Int),vs=[.ref a]/\LI K H a ns/\Byt ns/\∀(H':Hp) (v:Gb) (dv ov:V),ak H H'->uW CV H' v (cH ns) dv ov->(cH ns=none->∃d,dv=.ref d/\bA C H' d (aX ns)/\vh H' ov (aX ns))->Q (.ref v) H'
theorem scJ:aq ["cartoon","fault","drawing"] ["cartoon"] (ag mo):=fsk
theorem Fz (F:Has K mg "judge" mo ["cartoon"]) (TV:VCl K mg CV) (CI:Ci P w K mg base 1 CV ["self","fault","drawing","outlines"] (B3 CV)) (C1:Cb P w K mg base 3 "fault_of_bytes" ["cartoon"] (E5 K)) (C2:Cb P w K mg base 4 "read_drawing" ["cartoon"] (Ds K C)) (C3:Cb P w K mg base 6 "fault_of_drawing" ["drawing"] (Dz C)) (C4:Cb P w K mg base 4 "outlines_of" ["drawing"] (AJ C)) (C5:Cb P w K mg base 5 "judge_marks" ["drawing","outlines"] (Dy C CV)) :
  Cb P w K mg base 7 "judge" ["cartoon"] (spJ K C CV):=by
 refine F.cb scJ (λvs H Q E h=>?_) (λ_ _ A _ s H vs Q E hr h=>?_)
 ·obtain⟨a,ns,rfl,_⟩:=h
  rfl
 ·obtain⟨a,ns,rfl,hl,hb,k⟩:=h
  have hr2:br 2 _:=hr.mono (by decide)
  have hr3:br 3 _:=hr.mono (by decide)
  have hr4:br 4 _:=hr.mono (by decide)
  have hr5:br 5 _:=hr.mono (by decide)
  refine⟨_,ad (aA (i:=1) scJ.nd rfl (.inl rfl) (aB C1 hr3 (aa (pv 0) ac)))
   (ad (a4 (aM jq (pv 1) bc (aI _)) (af (al (pL CI hr2 TV.mgC (aa (pv 1) (aa bc (aa (dQ ac) ac)))))) aL)
   (ad (aA (i:=2) scJ.nd rfl (.inl rfl) (aB C2 hr4 (aa (pv 0) ac)))
   (ad (aA (i:=1) scJ.nd rfl (.inl rfl) (aB C3 hr (aa (pv 2) ac)))
   (ad (a4 (aM jq (pv 1) bc (aI _)) (af (al (pL CI hr2 TV.mgC (aa (pv 1) (aa (pv 2) (aa (dQ ac) ac)))))) aL)
   (af (al (aB C5 hr5 (aa (pv 2) (aa (aB C4 hr4 (aa (pv 2) ac)) ac))))))))),?_⟩
  refine⟨_,rfl,a,ns,rfl,hl,dH.of λv H1 s1 f1=>?_⟩
  cases e1:dR ns with
  |some x =>
   rw[e1]at f1
   have eJ:cH ns=some x:=by unfold cH;rw[e1];rfl
   obtain⟨q,rfl,hq⟩:=id f1
   refine⟨_,rfl,rfl,_,rfl,aU (λ_=>?_) (λc=>absurd (by rw[dqf (by intro z;cases z)];rfl) c)⟩
   refine⟨_,rfl,(by show 0<=Ge;decide),λq2 hq2=>?_⟩
   refine λy xd nx ndx nex=>?_
   refine⟨y,xd,_,_,_,rfl,ae,λH8 h8 kp8=>⟨rfl,?_⟩⟩
   have s8:ak _ H8:=ak.made nx ndx kp8
   refine k H8 y .non (.ref q2) (s1.trans ((aJ hq2).trans s8)) ⟨xd,_,h8,?_⟩ (λz=>by rw[eJ]at z;cases z)
   rw[eJ]
   exact f1.same ((aJ hq2).trans s8)
  |none =>
  rw[e1]at f1
  obtain rfl:v=.non:=f1
  obtain⟨hlen,hjB⟩:=lJ hb e1
  refine⟨_,rfl,rfl,_,rfl,aU (λc=>absurd c (by decide)) (λ_=>?_)⟩
  refine⟨_,rfl,a,ns,rfl,hl.same s1,hb,hlen,λH2 d s2 hd=>?_⟩
  have hd:bA C H2 d (aX ns):=hd
  have sb:=AN ns
  have h4:=rH hjB
  have s2:=s1.trans s2
  generalize hS:aX ns=S at hd sb h4
  refine⟨_,rfl,d,S,rfl,hd,sb,h4,dH.of λv H3 s3 f2=>?_⟩
  have hd3:=hd.same s3
  have s3:=s2.trans s3
  cases e2:bT S with
  |some x =>
   rw[e2]at f2
   have eJ:cH ns=some x:=by unfold cH;rw[e1,hS,e2];rfl
   obtain⟨q,rfl,hq⟩:=id f2
   refine⟨_,rfl,rfl,_,rfl,aU (λ_=>?_) (λc=>absurd (by rw[dqf (by intro z;cases z)];rfl) c)⟩
   refine⟨_,rfl,_,rfl,(by show 0<=Ge;decide),λq2 hq2=>?_⟩
   refine λy xd nx ndx nex=>?_
   refine⟨y,xd,_,_,_,rfl,ae,λH8 h8 kp8=>⟨rfl,?_⟩⟩
   have s8:ak _ H8:=ak.made nx ndx kp8
   refine k H8 y (.ref d) (.ref q2) (s3.trans ((aJ hq2).trans s8)) ⟨xd,_,h8,?_⟩ (λz=>by rw[eJ]at z;cases z)
   rw[eJ]
   exact f2.same ((aJ hq2).trans s8)
  |none =>
  rw[e2]at f2
  obtain rfl:v=.non:=f2
  obtain⟨kp,hclear⟩:=lQ h4 e2
  refine⟨_,rfl,rfl,_,rfl,aU (λc=>absurd c (by decide)) (λ_=>?_)⟩
  refine⟨_,rfl,_,rfl,d,S,rfl,hd3,sb,kp,λH4 O os s4 hO=>?_⟩
  have eJ:cH ns=eN S:=by unfold cH;rw[e1,hS,e2];rfl
  refine⟨d,O,os,S,rfl,hd3.same s4,sb,kp,hclear,hO,λH5 v ov s5 hv hp=>?_⟩
  refine k H5 v (.ref d) ov (s3.trans (s4.trans s5)) (by rw[eJ];exact hv) λz=>?_
  rw[eJ]at z
  rw[hS]
  exact⟨d,rfl,hd3.same (s4.trans s5),hp z⟩
def lF (lo hi:Int)(ns:List Int):Bool:=ns.all λx=>decide (lo<=x)&&decide (x<=hi)
theorem pS {lo hi:Int}{ns:List Int}:lF lo hi ns=true↔∀x∈ns,lo<=x/\x<=hi:=by
 unfold lF
 rw[Hk]
 simp only[Gi,Gj]
theorem oG {lo hi:Int}{ns:List Int}{i:Nat}{z:Int}(h:lF lo hi (ns.take i)=true)(hz:ns[i]? = some z)(h0:¬z<lo)(h1:¬hi<z):lF lo hi (ns.take (i+1))=true:=by
 rw[pS]at h ⊢
 intro x hx
 rw[bE hz,GK]at hx
 rcases hx with hx|hx
 ·exact h x hx
 ·have e:x=z:=by simpa using hx
  subst e
  lia
theorem pC {lo hi:Int}{ns:List Int}{i:Nat}{z:Int}(hz:ns[i]? = some z)(h:z<lo\/hi<z):lF lo hi ns=false:=by
 cases e:lF lo hi ns with
 |false=>rfl
 |true =>
  have:=pS.mp e z (GV hz)
  lia
def xR (K:Hq):Sp:=λvs H Q _=>∃(a:Gb) (ns:List Int) (lo hi:Int),vs=[.ref a,.int lo,.int hi]/\LI K H a ns/\Q (.bl (lF lo hi ns)) H
theorem AK:aq ["row","least","greatest","number"] ["row","least","greatest"] (ag fz):=fsk
theorem Ce (F:Has K mg "are_within" fz ["row","least","greatest"]):Cb P w K mg base 1 "are_within" ["row","least","greatest"] (xR K):=by
 refine F.cb AK (λvs H Q E h=>?_) (λ_ _ A _ s H vs Q E hr h=>?_)
 ·obtain⟨a,ns,lo,hi,rfl,_⟩:=h
  rfl
 ·obtain⟨a,ns,lo,hi,rfl,hl,k⟩:=h
  refine⟨_,ad (bB Gy rfl (bH (pv 0)) (ao (i:=3) AK.nd rfl (.inl rfl))
   (af (a4 (mZ (aM fZ (pv 3) (pv 1) (aI _)) (jG (aM eg (pv 3) (pv 2) (aI _)))).pt (af (al eD)) aL)))
   (af (al eD)),?_⟩
  refine⟨_,rfl,a,rfl,⟨_,hl.1⟩,eq (K:=K) (a:=a) (xs:=iV ns) (λi σ H'=>H'=H/\(∃v,σ=[some (.ref a),some (.int lo),some (.int hi),v])/\lF lo hi (ns.take i)=true) ⟨rfl,⟨none,rfl⟩,rfl⟩ (λi σ H' _ h=>by rw[h.1];exact hl.1) ?_ ?_⟩
  ·rintro i y σ H' hi' ⟨rfl,⟨v,rfl⟩,hb⟩
   obtain⟨z,hz,rfl⟩:=ja hi'
   refine⟨_,rfl,_,rfl,_,_,rfl,rfl,_,rfl,aU (λc=>?_) (λc=>?_)⟩
   ·refine d7 ?_
    show Q (.bl false) H'
    rw[pC hz (.inl (FY c))]at k
    exact k
   ·refine⟨_,rfl,_,rfl,_,_,rfl,rfl,_,rfl,aU (λc2=>?_) (λc2=>?_)⟩
    ·show Q (.bl false) H'
     rw[pC hz (.inr (FY c2))]at k
     exact k
    ·exact⟨rfl,⟨_,rfl⟩,oG hb hz (λq=>c (dqt q)) (λq=>c2 (dqt q))⟩
  ·rintro σ H' ⟨rfl,⟨v,rfl⟩,hb⟩
   rw[lmp,Hx]at hb
   show Q (.bl true) H'
   rw[hb]at k
   exact k
def AB (K:Hq):Sp:=λvs H Q _=>∃(a:Gb) (ns:List Int),vs=[.ref a]/\LI K H a ns/\Q (.bl (LM.isL ns)) H
theorem Ei:aq ["row"] ["row"] (ag ig):=fsk
theorem A2 (F:Has K mg "is_light" ig ["row"]) (gB:∃t,mg "BANDS"=some (.int 32 t)) (gl:mg "len"=none) (gF:∃t,mg "FULL"=some (.int 65535 t)) (C:Cb P w K mg base 1 "are_within" ["row","least","greatest"] (xR K)):Cb P w K mg base 2 "is_light" ["row"] (AB K):=by
 refine F.cb Ei (λvs H Q E h=>?_) (λ_ _ A _ s H vs Q E hr h=>?_)
 ·obtain⟨a,ns,rfl,_⟩:=h
  rfl
 ·obtain⟨a,ns,rfl,hl,k⟩:=h
  refine⟨_,af (al (iP (cu j5 (aZ aN (by rfl) gl G6 (aa (pv 0) ac)) (bu gB) (aI _)) (eG (aB C hr (aa (pv 0) (aa ah (aa (bu gF) ac))))))),?_⟩
  refine⟨_,rfl,a,_,rfl,.inl hl.1,rfl,_,rfl,aU (λc=>?_) (λc=>?_)⟩
  ·refine⟨_,rfl,a,ns,0,65535,rfl,hl,?_⟩
   have e:LM.isL ns=LM.oK ns:=by
    unfold LM.isL
    rw[dqt (p:=ns.length=32) ?_,HA]
    have:=V.int.inj (FY c)
    rw[lmp]at this
    lia
   rw[e]at k
   exact k
  ·have e:LM.isL ns=false:=by
    unfold LM.isL
    rw[dqf (p:=ns.length=32) ?_,G5]
    intro q
    apply c
    apply dqt
    rw[lmp,q]
    rfl
   rw[e]at k
   exact k
def yt (K:Hq):Sp:=λvs H Q _=>∃(a:Gb) (ns:List Int),vs=[.ref a]/\LI K H a ns/\Q (.bl (LM.cW ns)) H
theorem Ck:aq ["row"] ["row"] (ag fK):=fsk
theorem zp (F:Has K mg "are_lights" fK ["row"]) (gB:∃t,mg "BANDS"=some (.int 32 t)) (gl:mg "len"=none) (gF:∃t,mg "FULL"=some (.int 65535 t)) (C:Cb P w K mg base 1 "are_within" ["row","least","greatest"] (xR K)):Cb P w K mg base 2 "are_lights" ["row"] (yt K):=by
 refine F.cb Ck (λvs H Q E h=>?_) (λ_ _ A _ s H vs Q E hr h=>?_)
 ·obtain⟨a,ns,rfl,_⟩:=h
  rfl
 ·obtain⟨a,ns,rfl,hl,k⟩:=h
  refine⟨_,af (al (iP (cu j5 (aR Cr (aZ aN (by rfl) gl G6 (aa (pv 0) ac)) (bu gB)) ah (aI _)) (eG (aB C hr (aa (pv 0) (aa ah (aa (bu gF) ac))))))),?_⟩
  refine⟨_,rfl,a,_,rfl,.inl hl.1,_,_,rfl,rfl,(by show(0:Int)<32;decide),rfl,_,rfl,aU (λc=>?_) (λc=>?_)⟩
  ·refine⟨_,rfl,a,ns,0,65535,rfl,hl,?_⟩
   have e:LM.cW ns=LM.oK ns:=by
    unfold LM.cW
    rw[dqt (p:=ns.length % 32=0) ?_,HA]
    have:=V.int.inj (FY c)
    rw[lmp]at this
    lia
   rw[e]at k
   exact k
  ·have e:LM.cW ns=false:=by
    unfold LM.cW
    rw[dqf (p:=ns.length % 32=0) ?_,G5]
    intro q
    apply c
    apply dqt
    rw[lmp]
    show V.int ((ns.length:Int) % 32)=V.int 0
    rw[show(ns.length:Int) % 32=0 by lia]
   rw[e]at k
   exact k
def xO (K:Hq):Sp:=λvs H Q _=>∃(a:Gb) (ns:List Int),vs=[.ref a]/\LI K H a ns/\Q (.int (LM.cnt ns)) H
theorem Dc:aq ["row"] ["row"] (ag dg):=fsk
theorem BM (F:Has K mg "how_many_lights" dg ["row"]) (gB:∃t,mg "BANDS"=some (.int 32 t)) (gl:mg "len"=none):Cb P w K mg base 1 "how_many_lights" ["row"] (xO K):=by
 refine F.cb Dc (λvs H Q E h=>?_) (λ_ _ A _ s H vs Q E hr h=>?_)
 ·obtain⟨a,ns,rfl,_⟩:=h
  rfl
 ·obtain⟨a,ns,rfl,hl,k⟩:=h
  refine⟨_,af (al (aR p9 (aZ aN (by rfl) gl G6 (aa (pv 0) ac)) (bu gB))),?_⟩
  refine⟨_,rfl,a,_,rfl,.inl hl.1,_,_,rfl,rfl,⟨by decide,by decide⟩,?_⟩
  have e:(((iV ns).length:Nat):Int) / 32=((LM.cnt ns:Nat):Int):=by
   rw[lmp]
   unfold LM.cnt
   lia
  show Q (.int ((((iV ns).length:Nat):Int) / 32)) H
  rw[e]
  exact k
theorem zR (ns:List Int)(k:Nat):oF (iV ns) (some (32*(k:Int))) (some (32*((k:Int)+1)))=iV (LM.lat ns k):=by
 have e1:(32*(k:Int))=((32*k:Nat):Int):=by lia
 have e2:(32*((k:Int)+1))=((32*k+32:Nat):Int):=by lia
 rw[e1,e2]
 unfold oF LM.lat
 rw[HT.sIx_nat,HT.sIx_nat,iV,<-JX,<-Ja,lmp]
 congr 1
 by_cases c:32*k<=ns.length
 ·rw[GH c]
  by_cases c2:32*k+32<=ns.length
  ·rw[GH c2]
   congr 1
   lia
  ·rw[GG (by lia)]
   rw[HH (by rw[GN];lia),HH (by rw[GN];lia)]
 ·rw[GG (show ns.length<=32*k by lia),IW (nlr _),IW (show ns.length<=32*k by lia)]
  simp
def AT (K:Hq):Sp:=λvs H Q _=>∃(a:Gb) (ns:List Int) (k:Nat),vs=[.ref a,.int k]/\LI K H a ns/\k<=1000000/\∀p,H p=none->Q (.ref p) (upd H p (.lst (iV (LM.lat ns k))))
theorem Eb:aq ["row","k"] ["row","k"] (ag iu):=fsk
theorem Bf (F:Has K mg "light_at" iu ["row","k"]) (gB:∃t,mg "BANDS"=some (.int 32 t)):Cb P w K mg base 1 "light_at" ["row","k"] (AT K):=by
 refine F.cb Eb (λvs H Q E h=>?_) (λ_ _ A _ s H vs Q E hr h=>?_)
 ·obtain⟨a,ns,k,rfl,_⟩:=h
  rfl
 ·obtain⟨a,ns,i,rfl,hl,hi,k⟩:=h
  refine⟨_,af (al (ng qV (pv 0) (ki (aR cJ (bu gB) (pv 1))) (ki (aR cJ (bu gB) (aR dt (pv 1) ah))))),?_⟩
  refine⟨_,rfl,_,rfl,_,_,rfl,rfl,.inl ⟨by decide,by decide⟩,_,rfl,_,rfl,_,_,rfl,rfl,_,_,rfl,rfl,.inl ⟨by decide,by decide⟩,_,rfl,a,_,rfl,hl.1,λp hp=>?_⟩
  rw[zR ns i]
  exact k p hp
def Sm (ns:List Int):Prop:=∀x∈ns,-8589934592<=x/\x<=8589934592
theorem Sm.at {ns:List Int}(h:Sm ns){i:Nat}{z:Int}(e:ns[i]? = some z):-8589934592<=z/\z<=8589934592:=h z (GV e)
theorem pc {H H':Hp}{r:Gb}(s:ak H H')(h:H' r=none):H r=none:=by
 cases e:H r with
 |none=>rfl
 |some o=>rw[s _ _ e]at h;cases h
def wZ (K:Hq):Sp:=λvs H Q _=>∃(a b:Gb) (xs ys:List Int),vs=[.ref a,.ref b]/\LI K H a xs/\LI K H b ys/\Sm xs/\Sm ys/\∀(H':Hp) (p:Gb),ak H H'->H p=none->H' p=some (.lst (iV (LM.thI xs ys)))->Q (.ref p) H'
theorem ul:aq ["one","other","a","b"] ["one","other"] (ag cQ):=fsk
theorem BY (F:Has K mg "light_through" cQ ["one","other"]) (gF:∃t,mg "FULL"=some (.int 65535 t)) (gz:mg "zip"=none):Cb P w K mg base 1 "light_through" ["one","other"] (wZ K):=by
 refine F.cb ul (λvs H Q E h=>?_) (λ_ _ A _ s H vs Q E hr h=>?_)
 ·obtain⟨a,b,xs,ys,rfl,_⟩:=h
  rfl
 ·obtain⟨a,b,xs,ys,rfl,hx,hy,sx,sy,k⟩:=h
  refine⟨_,af (al (vb (own:=[("a",2),("b",3)]) (g:=g2 K 2 3) rfl ul.nd (t9 rfl gz (aa (pv 0) (aa (pv 1) ac))) (bf (by show fY ["one","other","a","b"] (ag cQ) _ _=true;decide +kernel))
   (λ_ _ _ _ _=>cC (n:=2) rfl (aG (ao (i:=2) ul.nd rfl (.inl rfl) (.inr rfl)) (aG (ao (i:=3) ul.nd rfl (.inl rfl) (.inr rfl)) bN))) (λ_ _ _ _ _=>cY)
   (λ_ _ _ _ _=>aR p9 (aR dt (aR cJ (pv 2) (pv 3)) (aR p9 (bu gF) ah)) (bu gF)))),?_⟩
  refine⟨_,rfl,_,rfl,a,b,_,_,rfl,hx.1,hy.1,λD hD=>?_⟩
  refine x8 (xs:=iV xs) (ys:=iV ys) (λi H'=>ak H H'/\H' D=some (.lst (iV (((xs.zip ys).take i).map λp=>(p.1*p.2+32767) / 65535)))) ?_ ?_ ?_ ?_
  ·exact⟨aJ hD,ae⟩
  ·rintro i H' _ ⟨hS,_⟩
   exact⟨hS.seq hx.1,hS.seq hy.1⟩
  ·rintro i x' y' T H' ex' ey' hT ⟨hS,hDl⟩
   obtain⟨x,ex,rfl⟩:=ja ex'
   obtain⟨y,ey,rfl⟩:=ja ey'
   refine⟨T,_,rfl,SqT.of ae,rfl,_,_,rfl,_,_,rfl,rfl,rfl,kD (d7 ?_)⟩
   have nTD:D≠T:=aO hDl hT
   have b1:=sx.at ex
   refine⟨_,rfl,_,rfl,_,_,rfl,rfl,.inl ⟨by lia,by lia⟩,_,_,rfl,rfl,⟨by decide,by decide⟩,_,_,rfl,rfl,_,_,rfl,rfl,⟨by decide,by decide⟩,_,by rw[ap nTD];exact hDl,?_,aT (aV hS hT) hD,?_⟩
   ·rw[lmp,lmp,GY]
    have:=hx.2
    have:i<xs.length:=(gsi ex).1
    exact a6 (by lia)
   ·rw[ae,bE (qB ex ey)]
    simp only[iV,GA,Gw,JH]
    rfl
  ·rintro H' ⟨hS,hDl⟩
   have e:(xs.zip ys).take (min (iV xs).length (iV ys).length)=xs.zip ys:=by
    rw[lmp,lmp,<-Hm]
    exact Hx
   rw[e]at hDl
   exact k H' D hS hD hDl
def BL (o:Option (List Int))(v:V)(H:Hp):Prop:=match o with
 |none=>v=.non
 |some r=>∃q,v=.ref q/\H q=some (.lst (iV r))
def qf (o:Option (List Int))(H:Hp)(Q:VK):Prop:=∀v H',ak H H'->BL o v H'->Q v H'
def Bd (ns:List Int):Prop:=∀x∈ns,0<=x/\x<=65535
theorem Bd.sm {ns:List Int}(h:Bd ns):Sm ns:=λx hx=>by have:=h x hx;lia
theorem Bd.lat {ns:List Int}(h:Bd ns)(k:Nat):Bd (LM.lat ns k):=λx hx=>h x (IK (HE hx))
theorem Bd.th {xs ys:List Int}(hx:Bd xs)(hy:Bd ys):Bd (LM.thI xs ys):=λz hz=>by
 unfold LM.thI at hz
 rw[GP]at hz
 obtain⟨p,hp,rfl⟩:=hz
 have h1:=hx p.1 (List.of_mem_zip hp).1
 have h2:=hy p.2 (List.of_mem_zip hp).2
 have h3:0<=p.1*p.2:=Gg h1.1 h2.1
 have h4:p.1*p.2<=65535*65535:=Int.mul_le_mul h1.2 h2.2 h2.1 (by decide)
 constructor
 ·lia
 ·lia
theorem kq (ns:List Int)(k:Nat):(LM.lat ns k).length<=32:=by
 unfold LM.lat
 rw[GY]
 lia
theorem Cg (xs ys:List Int):(LM.thI xs ys).length<=xs.length:=by
 unfold LM.thI
 rw[lmp,Hm]
 lia
def cn (gs qs:List Int)(S:Gla.Plan):Option Nat:=Gla.firstAt (λ(_:Nat) (m:IX)=>!(decide (m.glass<LM.cnt gs)&&decide (m.painting<=LM.cnt qs))) S.marks
def plI (gs qs:List Int)(m:IX):List Int:=if m.painting=0 then LM.lat gs m.glass else LM.thI (LM.lat gs m.glass) (LM.lat qs (m.painting-1))
def gx (cs gs qs ds:List Int):Option (List Int):=if (LM.isL ds&&(LM.cW gs&&LM.cW qs))=false then some [-1] else if (decide (131072<cs.length)||(decide (256<LM.cnt gs)||decide (256<LM.cnt qs)))=true then some [-6] else none
def MkL (H:Hp)(m:Gb)(ms:List Gb)(S:Gla.Plan):Prop:=H m=some (.lst (ms.map V.ref))/\ms.length=S.marks.length/\∀(i:Nat) (b:Gb) (x:IX),ms[i]? = some b->S.marks[i]? = some x->H b=some (.tup (iV (lN x)))
def Fq (o:Option Nat):V:=match o with
 |none=>.non
 |some k=>.int (k:Int)
def D9 (K:Hq):Sp:=λvs H Q _=>∃(m ga qa:Gb) (ms:List Gb) (S:Gla.Plan) (gs qs:List Int),vs=[.ref m,.ref ga,.ref qa]/\MkL H m ms S/\LI K H ga gs/\LI K H qa qs/\∀H',ak H H'->Q (Fq (cn gs qs S)) H'
theorem A4:aq ["marks","glasses","paintings","k","mark"] ["marks","glasses","paintings"] (ag bD):=fsk
theorem ES (F:Has K mg "first_mark_without_light" bD ["marks","glasses","paintings"]) (ge:mg "enumerate"=none) (C1:Cb P w K mg base 1 "how_many_lights" ["row"] (xO K)):Cb P w K mg base 2 "first_mark_without_light" ["marks","glasses","paintings"] (D9 K):=by
 refine F.cb A4 (λvs H Q E h=>?_) (λ_ _ A _ s H vs Q E hr h=>?_)
 ·obtain⟨m,ga,qa,ms,S,gs,qs,rfl,_⟩:=h
  rfl
 ·obtain⟨m,ga,qa,ms,S,gs,qs,rfl,hm,hg,hq,k⟩:=h
  refine⟨_,ad (bB Gy rfl (d5 rfl ge (aa (pv 0) ac)) (cC (n:=2) rfl (aG (ao (i:=3) A4.nd rfl (.inl rfl)) (aG (ao (i:=4) A4.nd rfl (.inl rfl)) bN)))
    (af (a4 (mZ (aM yu (aw aD (pv 4) ah (λ_ _=>rfl)) (aB C1 hr (aa (pv 1) ac)) (aI _)) (jG (aM eg (aw aD (pv 4) ah (λ_ _=>rfl)) (aB C1 hr (aa (pv 2) ac)) (aI _)))).pt (af (al (pv 3))) aL)))
   (af (al bc)),?_⟩
  refine⟨_,rfl,m,_,rfl,SqL.of hm.1,dr (K:=K) (a:=m) (xs:=ms.map V.ref) (λi σ H'=>ak H H'/\(∃v1 v2,σ=[some (.ref m),some (.ref ga),some (.ref qa),v1,v2])/\∀j (hj:j<S.marks.length),j<i->(!(decide (S.marks[j].glass<LM.cnt gs)&&decide (S.marks[j].painting<=LM.cnt qs)))=false)
   ⟨ak.refl H,⟨none,none,rfl⟩,λj hj h=>absurd h (Hn _)⟩ (λi σ H' _ h=>SqL.of (h.1 _ _ hm.1)) ?_ ?_⟩
  ·rintro i y T' σ H' hi hT ⟨hS,⟨v1,v2,rfl⟩,hok⟩
   obtain⟨b,hb,rfl⟩:=bW hi
   have hil:i<S.marks.length:=by rw[<-hm.2.1];exact(gsi hb).1
   have s2:ak H (upd H' T' (.tup [.int (i:Nat),.ref b])):=aV hS hT
   refine⟨T',_,rfl,SqT.of ae,rfl,_,_,rfl,_,_,rfl,rfl,?_⟩
   generalize upd H' T' (.tup [.int (i:Nat),.ref b])=H2 at s2
   have hbb:SqT K H2 b (iV (lN S.marks[i])):=SqT.of (s2 _ _ (hm.2.2 i b _ hb (gge hil)))
   have bad:(!(decide (S.marks[i].glass<LM.cnt gs)&&decide (S.marks[i].painting<=LM.cnt qs)))=true->Q (.int (i:Int)) H2:=λz=>by
    have e:cn gs qs S=some i:=WL.eA hil z λj hj=>hok j (by lia) hj
    rw[e]at k
    exact k H2 s2
   refine⟨_,rfl,b,_,_,_,rfl,rfl,hbb,aC (j:=2) rfl rfl,_,rfl,ga,gs,rfl,hg.same s2,_,_,rfl,rfl,_,rfl,aU (λc1=>?_) (λc1=>?_)⟩
   ·have c1:=FY c1
    refine d7 ⟨_,rfl,bad ?_⟩
    rw[dqf (by lia),G5]
    rfl
   ·have c1:=aH c1
    refine⟨_,rfl,b,_,_,_,rfl,rfl,hbb,aC (j:=3) rfl rfl,_,rfl,qa,qs,rfl,hq.same s2,_,_,rfl,rfl,_,rfl,aU (λc2=>?_) (λc2=>?_)⟩
    ·have c2:=FY c2
     refine⟨_,rfl,bad ?_⟩
     rw[dqf (show ¬S.marks[i].painting<=LM.cnt qs by lia),J2]
     rfl
    ·have c2:=aH c2
     refine⟨s2,⟨_,_,rfl⟩,λj hj h=>?_⟩
     by_cases c:j<i
     ·exact hok j hj c
     ·have:j=i:=by lia
      subst this
      rw[dqt (by lia:S.marks[j].glass<LM.cnt gs),dqt (by lia:S.marks[j].painting<=LM.cnt qs)]
      rfl
  ·rintro σ H' ⟨hS,⟨v1,v2,rfl⟩,hok⟩
   have e:cn gs qs S=none:=WL.dZ λj hj=>hok j hj (by rw[lmp,hm.2.1];exact hj)
   rw[e]at k
   exact k H' hS
def Cu (K:Hq):Sp:=λvs H Q _=>∃(b ga qa:Gb) (x:IX) (gs qs:List Int),vs=[.ref b,.ref ga,.ref qa]/\SqT K H b (iV (lN x))/\LI K H ga gs/\LI K H qa qs/\Bd gs/\Bd qs/\x.glass<=1000000/\x.painting<=1000000/\∀(H':Hp) (p:Gb),ak H H'->H p=none->H' p=some (.lst (iV (plI gs qs x)))->Q (.ref p) H'
theorem Dq:aq ["mark","glasses","paintings","glass"] ["mark","glasses","paintings"] (ag fM):=fsk
theorem Ep (F:Has K mg "pane_light" fM ["mark","glasses","paintings"]) (C1:Cb P w K mg base 1 "light_at" ["row","k"] (AT K)) (C2:Cb P w K mg base 1 "light_through" ["one","other"] (wZ K)):Cb P w K mg base 2 "pane_light" ["mark","glasses","paintings"] (Cu K):=by
 refine F.cb Dq (λvs H Q E h=>?_) (λ_ _ A _ s H vs Q E hr h=>?_)
 ·obtain⟨b,ga,qa,x,gs,qs,rfl,_⟩:=h
  rfl
 ·obtain⟨b,ga,qa,x,gs,qs,rfl,hb,hg,hq,bg,bq,xg,xp,k⟩:=h
  refine⟨_,ad (aA (i:=3) Dq.nd rfl (.inl rfl) (aB C1 hr (aa (pv 1) (aa (aw aD (pv 0) ah (λ_ _=>rfl)) ac))))
   (ad (a4 (aM j5 (aw aD (pv 0) ah (λ_ _=>rfl)) ah (aI _)) (af (al (pv 3))) aL)
   (af (al (aB C2 hr (aa (pv 3) (aa (aB C1 hr (aa (pv 2) (aa (aR eS (aw aD (pv 0) ah (λ_ _=>rfl)) ah) ac))) ac)))))),?_⟩
  refine⟨_,rfl,_,rfl,b,_,_,_,rfl,rfl,hb,aC (j:=2) rfl rfl,ga,gs,x.glass,rfl,hg,xg,λp hp=>?_⟩
  have s1:ak H (upd H p (.lst (iV (LM.lat gs x.glass)))):=aJ hp
  have h1:(upd H p (.lst (iV (LM.lat gs x.glass)))) p=some (.lst (iV (LM.lat gs x.glass))):=ae
  generalize upd H p (.lst (iV (LM.lat gs x.glass)))=H1 at s1 h1
  refine⟨_,rfl,b,_,_,_,rfl,rfl,(i4 s1 hb),aC (j:=3) rfl rfl,rfl,_,rfl,aU (λc=>?_) (λc=>?_)⟩
  ·have c:=V.int.inj (FY c)
   refine⟨_,rfl,k H1 p s1 hp ?_⟩
   unfold plI
   rw[Gk (by lia)]
   exact h1
  ·have c:¬x.painting=0:=λz=>c (dqt (by rw[z];rfl))
   refine⟨_,rfl,_,rfl,_,rfl,b,_,_,_,rfl,rfl,(i4 s1 hb),aC (j:=3) rfl rfl,_,_,rfl,rfl,qa,qs,x.painting-1,?_,hq.same s1,by lia,λp2 hp2=>?_⟩
   ·show [V.ref qa,V.int ((x.painting:Int)-1)]=_
    rw[show((x.painting:Int)-1)=((x.painting-1:Nat):Int) by lia]
   have s2:ak H1 (upd H1 p2 (.lst (iV (LM.lat qs (x.painting-1))))):=aJ hp2
   have l1:=kq gs x.glass
   have l2:=kq qs (x.painting-1)
   refine⟨p,p2,_,_,rfl,⟨SqL.of (s2 _ _ h1),by lia⟩,⟨SqL.of ae,by lia⟩,(bg.lat _).sm,(bq.lat _).sm,λH3 r s3 hr0 hr3=>?_⟩
   refine k H3 r (s1.trans (s2.trans s3)) (pc (s1.trans s2) hr0) ?_
   unfold plI
   rw[Gf c]
   exact hr3
theorem uO {gs qs:List Int}(bg:Bd gs)(bq:Bd qs)(x:IX):Bd (plI gs qs x):=by
 unfold plI
 split
 ·exact bg.lat _
 ·exact(bg.lat _).th (bq.lat _)
theorem BI (gs qs:List Int)(x:IX):(plI gs qs x).length<=32:=by
 unfold plI
 split
 ·exact kq _ _
 ·exact GU (Cg _ _) (kq _ _)
def C0:Sp:=λvs H Q _=>∃(r:Gb) (ns:List Int),vs=[.ref r]/\H r=some (.lst (iV ns))/\ns.length<=1000000/\∀(H':Hp) (p:Gb),ak H H'->H' p=some (.lst (iV (0 :: (ns.length:Int) :: ns)))->Q (.ref p) H'
theorem FM:aq ["row"] ["row"] (ag fw):=fsk
theorem DW (F:Has K mg "row_answer" fw ["row"]) (gl:mg "len"=none):Cb P w K mg base 1 "row_answer" ["row"] C0:=by
 refine F.cb FM (λvs H Q E h=>?_) (λ_ _ A _ s H vs Q E hr h=>?_)
 ·obtain⟨r,ns,rfl,_⟩:=h
  rfl
 ·obtain⟨r,ns,rfl,hrr,hl,k⟩:=h
  refine⟨_,af (al (aR xF (dQ (aa ah (aa (aZ aN (by rfl) gl G6 (aa (pv 0) ac)) ac))) (pv 0))),?_⟩
  refine⟨_,rfl,r,_,rfl,.inl (SqL.of hrr),(by show 2<=Ge;decide),λp hp=>?_⟩
  have s1:ak H (upd H p (.lst [.int 0,.int (((iV ns).length:Nat):Int)])):=aJ hp
  refine⟨_,rfl,p,r,_,_,rfl,rfl,ae,s1 _ _ hrr,?_,λq hq=>?_⟩
  ·rw[iV,lmp]
   have:ns.length+2<Ge:=G8 (Nat.add_le_add_right hl 2) (by decide)
   show 2+ns.length<=Ge
   lia
  ·refine k _ q (aV s1 hq) ?_
   rw[ae]
   show some (HO.lst (.int 0 :: .int (((iV ns).length:Nat):Int) :: iV ns))=_
   rw[iV,lmp]
   rfl
def Bu (K:Hq):Sp:=λvs H Q _=>∃(b ga qa da:Gb) (x:IX) (gs qs ds:List Int),vs=[.ref b,.ref ga,.ref qa,.ref da]/\SqT K H b (iV (lN x))/\LI K H ga gs/\LI K H qa qs/\LI K H da ds/\Bd gs/\Bd qs/\Bd ds/\x.glass<=1000000/\x.painting<=1000000/\∀(H':Hp) (p:Gb),ak H H'->H p=none->H' p=some (.lst (iV (LM.thI ds (plI gs qs x))))->Q (.ref p) H'
theorem FQ:aq ["mark","glasses","paintings","daylight"] ["mark","glasses","paintings","daylight"] (ag fI):=fsk
theorem DE (F:Has K mg "seen_light" fI ["mark","glasses","paintings","daylight"]) (C1:Cb P w K mg base 2 "pane_light" ["mark","glasses","paintings"] (Cu K)) (C2:Cb P w K mg base 1 "light_through" ["one","other"] (wZ K)):Cb P w K mg base 3 "seen_light" ["mark","glasses","paintings","daylight"] (Bu K):=by
 refine F.cb FQ (λvs H Q E h=>?_) (λ_ _ A _ s H vs Q E hr h=>?_)
 ·obtain⟨b,ga,qa,da,x,gs,qs,ds,rfl,_⟩:=h
  rfl
 ·obtain⟨b,ga,qa,da,x,gs,qs,ds,rfl,hb,hg,hq,hd,bg,bq,bd,xg,xp,k⟩:=h
  have hr1:br 1 _:=hr.mono (by decide)
  refine⟨_,af (al (aB C2 hr1 (aa (pv 3) (aa (aB C1 hr (aa (pv 0) (aa (pv 1) (aa (pv 2) ac)))) ac)))),?_⟩
  refine⟨_,rfl,_,rfl,_,rfl,_,rfl,b,ga,qa,x,gs,qs,rfl,hb,hg,hq,bg,bq,xg,xp,λH1 p s1 _ hp=>?_⟩
  have l1:=BI gs qs x
  exact⟨da,p,ds,_,rfl,hd.same s1,⟨SqL.of hp,by lia⟩,bd.sm,(uO bg bq x).sm,λH2 r s2 hr0 hr2=>k H2 r (s1.trans s2) (pc s1 hr0) hr2⟩
theorem qf.none' {o:Option (List Int)}{H H':Hp}{Q:VK}(k:qf o H Q)(e:o=none)(s:ak H H'):Q .non H':=by
 subst e
 exact k .non H' s rfl
theorem qf.some' {o:Option (List Int)}{H H':Hp}{Q:VK}{r:List Int}(k:qf o H Q)(e:o=some r)(s:ak H H'):∀q,H' q=none->Q (.ref q) (upd H' q (.lst (iV r))):=λq hq=>by
 subst e
 exact k (.ref q) _ (aV s hq) ⟨q,rfl,ae⟩
def oP (cs gs qs:List Int):Option (List Int):=if (LM.cW gs&&LM.cW qs)=false then some [-1] else if (decide (131072<cs.length)||(decide (256<LM.cnt gs)||decide (256<LM.cnt qs)))=true then some [-6] else none
def xM (K:Hq):Sp:=λvs H Q _=>∃(ca ga qa:Gb) (cs gs qs:List Int),vs=[.ref ca,.ref ga,.ref qa]/\LI K H ca cs/\LI K H ga gs/\LI K H qa qs/\qf (oP cs gs qs) H Q
theorem yO:aq ["cartoon","glasses","paintings","too_many_lights"] ["cartoon","glasses","paintings"] (ag dc):=fsk
theorem AA (F:Has K mg "refusal_of_shop" dc ["cartoon","glasses","paintings"]) (gl:mg "len"=none) (gM:∃t,mg "MOST_LIGHTS"=some (.int 256 t)) (gY:∃t,mg "MOST_BYTES"=some (.int 131072 t)) (C2:Cb P w K mg base 2 "are_lights" ["row"] (yt K)) (C3:Cb P w K mg base 1 "how_many_lights" ["row"] (xO K)) :
  Cb P w K mg base 3 "refusal_of_shop" ["cartoon","glasses","paintings"] (xM K):=by
 refine F.cb yO (λvs H Q E h=>?_) (λ_ _ A _ s H vs Q E hr h=>?_)
 ·obtain⟨ca,ga,qa,cs,gs,qs,rfl,_⟩:=h
  rfl
 ·obtain⟨ca,ga,qa,cs,gs,qs,rfl,hc,hg,hq,k⟩:=h
  have hr1:br 1 _:=hr.mono (by decide)
  refine⟨_,ad (a4 (jg (jH (cG (aB C2 hr (aa (pv 1) ac))) (iG (cG (aB C2 hr (aa (pv 2) ac))))).pt) (af (al (dQ (aa (m5 jQ ah) ac)))) aL)
   (ad (aA (i:=3) yO.nd rfl (.inl rfl) (sw (cu eg (aB C3 hr1 (aa (pv 1) ac)) (bu gM) (aI _)) (eG (cu eg (aB C3 hr1 (aa (pv 2) ac)) (bu gM) (aI _)))))
   (ad (a4 (mZ (aM eg (aZ aN (by rfl) gl G6 (aa (pv 0) ac)) (bu gY) (aI _)) (jG (cG (pv 3)))).pt (af (al (dQ (aa (m5 jQ ah) ac)))) aL)
   (af (al bc)))),?_⟩
  have bad:(LM.cW gs&&LM.cW qs)=false->∀p,H p=none->Q (.ref p) (upd H p (.lst [.int (-1)])):=λe p hp=>k.some' (r:=[-1]) (by unfold oP;rw[Gk e]) (ak.refl H) p hp
  have six:(LM.cW gs&&LM.cW qs)=true->(decide (131072<cs.length)||(decide (256<LM.cnt gs)||decide (256<LM.cnt qs)))=true->∀p,H p=none->Q (.ref p) (upd H p (.lst [.int (-6)])):=λe e2 p hp=>k.some' (r:=[-6]) (by unfold oP;rw[e,Gf (by decide),Gk e2]) (ak.refl H) p hp
  have non:(LM.cW gs&&LM.cW qs)=true->¬(decide (131072<cs.length)||(decide (256<LM.cnt gs)||decide (256<LM.cnt qs)))=true->Q .non H:=λe e2=>k.none' (by unfold oP;rw[e,Gf (by decide),Gf e2]) (ak.refl H)
  refine⟨_,rfl,ga,gs,rfl,hg,_,rfl,?_⟩
  cases h2:LM.cW gs with
  |false =>
   refine jN (d7 ⟨_,rfl,(by show 1<=Ge;decide),λp hp=>bad (by rw[h2];rfl) p hp⟩)
  |true =>
  refine d7 ?_
  refine⟨_,rfl,qa,qs,rfl,hq,_,rfl,?_⟩
  cases h3:LM.cW qs with
  |false =>
   refine d7 ⟨_,rfl,(by show 1<=Ge;decide),λp hp=>bad (by rw[h2,h3];rfl) p hp⟩
  |true =>
  refine jN ?_
  have ok:(LM.cW gs&&LM.cW qs)=true:=by rw[h2,h3];rfl
  have cont:∀t:Bool,t=(decide (256<LM.cnt gs)||decide (256<LM.cnt qs))->Bx (tF (tOr (fq (tOp (rI0 λi j=>.bl (decide (j<i))) (tCB (λxs H Q=>∃p ys,xs=[.ref p]/\(SqL K H p ys\/SqT K H p ys)/\Q (.int ys.length) H) (a8 (aY 0) fc)) (tC (.int 131072)))) (tB (aY 3)))
    (m9 (DA (a8 (tUn (rU λi=>.int (-i)) (tC (.int 6))) fc))) mB) (m9 (tC .non)) { nx:=λ_ H'=>Q .non H',rt:=Q } [some (.ref ca),some (.ref ga),some (.ref qa),some (.bl t)] H:=λt et=>by
   refine⟨_,rfl,ca,_,rfl,.inl hc.1,_,_,rfl,rfl,_,rfl,?_⟩
   rw[iV,lmp]
   refine aU (λc=>?_) (λc=>?_)
   ·have c:=FY c
    refine d7 ⟨_,rfl,(by show 1<=Ge;decide),λp hp=>six ok ?_ p hp⟩
    rw[dqt (by omega:131072<cs.length),Kb]
   ·have c:=aH c
    refine⟨_,rfl,_,rfl,aU (λc2=>?_) (λc2=>?_)⟩
    ·refine⟨_,rfl,(by show 1<=Ge;decide),λp hp=>six ok ?_ p hp⟩
     rw[<-et,c2,Bool.or_true]
    ·refine non ok ?_
     rw[<-et,cE c2,dqf (by omega)]
     decide
  refine⟨_,rfl,ga,gs,rfl,hg,_,_,rfl,rfl,_,rfl,aU (λc=>?_) (λc=>?_)⟩
  ·have c:=FY c
   refine cont true ?_
   rw[dqt (by omega:256<LM.cnt gs),Kb]
  ·have c:=aH c
   refine⟨_,rfl,qa,qs,rfl,hq,_,_,rfl,rfl,?_⟩
   refine cont _ ?_
   rw[dqf (by omega:¬256<LM.cnt gs),Bool.false_or,Gu]
   omega
def AE (fo:Option (Int×Int)):Option (List Int):=fo.map λx=>[-5,x.1,x.2]
def E1 (CV:Gb):Sp:=λvs H Q _=>∃(v:Gb) (fo:Option (Int×Int)) (dv ov:V),vs=[.ref v]/\uW CV H v fo dv ov/\qf (AE fo) H Q
theorem E7:aq ["verdict"] ["verdict"] (ag b8):=fsk
theorem Dt (F:Has K mg "refusal_of_cartoon" b8 ["verdict"]) (TV:VCl K mg CV):Cb P w K mg base 1 "refusal_of_cartoon" ["verdict"] (E1 CV):=by
 refine F.cb E7 (λvs H Q E h=>?_) (λ_ _ A _ s H vs Q E hr h=>?_)
 ·obtain⟨v,fo,dv,ov,rfl,_⟩:=h
  rfl
 ·obtain⟨v,fo,dv,ov,rfl,⟨dx,fv,hv,hf⟩,k⟩:=h
  refine⟨_,ad (a4 (aM iL (aQ (pv 0) rfl) bc (aI _)) (af (al bc)) aL)
   (af (al (dQ (aa (m5 jQ ah) (aa (aw aD (aQ (pv 0) rfl) ah (λ_ _=>rfl)) (aa (aw aD (aQ (pv 0) rfl) ah (λ_ _=>rfl)) ac)))))),?_⟩
  refine⟨_,rfl,v,CV,dx,_,_,rfl,hv,TV.cl,TV.nF,Co,rfl,_,rfl,?_⟩
  cases fo with
  |none =>
   obtain rfl:fv=.non:=hf
   exact lP (k.none' rfl (ak.refl H))
  |some x =>
   obtain⟨q,rfl,hq⟩:=hf
   refine gT ?_ rfl
   refine⟨_,rfl,_,rfl,v,CV,dx,_,_,rfl,hv,TV.cl,TV.nF,Co,q,_,_,_,rfl,rfl,SqT.of hq,aC (j:=0) rfl rfl,_,rfl,v,CV,dx,_,_,rfl,hv,TV.cl,TV.nF,Co,q,_,_,_,rfl,rfl,SqT.of hq,aC (j:=1) rfl rfl,(by show 3<=Ge;decide),λp hp=>?_⟩
   exact k.some' (r:=[-5,x.1,x.2]) rfl (ak.refl H) p hp
def tj (o:Option Nat):Option (List Int):=o.map λk=>[-3,(k:Int)]
def AU (K:Hq):Sp:=λvs H Q _=>∃(m ga qa:Gb) (ms:List Gb) (S:Gla.Plan) (gs qs:List Int),vs=[.ref m,.ref ga,.ref qa]/\MkL H m ms S/\LI K H ga gs/\LI K H qa qs/\qf (tj (cn gs qs S)) H Q
theorem AD:aq ["marks","glasses","paintings","k"] ["marks","glasses","paintings"] (ag cN):=fsk
theorem BO (F:Has K mg "refusal_of_marks" cN ["marks","glasses","paintings"]) (C1:Cb P w K mg base 2 "first_mark_without_light" ["marks","glasses","paintings"] (D9 K)):Cb P w K mg base 3 "refusal_of_marks" ["marks","glasses","paintings"] (AU K):=by
 refine F.cb AD (λvs H Q E h=>?_) (λ_ _ A _ s H vs Q E hr h=>?_)
 ·obtain⟨m,ga,qa,ms,S,gs,qs,rfl,_⟩:=h
  rfl
 ·obtain⟨m,ga,qa,ms,S,gs,qs,rfl,hm,hg,hq,k⟩:=h
  refine⟨_,ad (aA (i:=3) AD.nd rfl (.inl rfl) (aB C1 hr (aa (pv 0) (aa (pv 1) (aa (pv 2) ac)))))
   (ad (a4 (aM iL (pv 3) bc (aI _)) (af (al bc)) aL)
   (af (al (dQ (aa (m5 jQ ah) (aa (pv 3) ac)))))),?_⟩
  refine⟨_,rfl,_,rfl,_,rfl,m,ga,qa,ms,S,gs,qs,rfl,hm,hg,hq,λH1 s1=>?_⟩
  cases e:cn gs qs S with
  |none =>
   exact⟨_,rfl,rfl,_,rfl,lP (k.none' (by rw[e];rfl) s1)⟩
  |some i =>
   refine⟨_,rfl,rfl,_,rfl,aU (λc=>absurd (FY c) (by intro z;cases z)) (λ_=>?_)⟩
   exact⟨_,rfl,_,rfl,(by show 2<=Ge;decide),λp hp=>k.some' (r:=[-3,(i:Int)]) (by rw[e];rfl) s1 p hp⟩
theorem BL.some {r:List Int}{v:V}{H:Hp}(h:BL (some r) v H):∃q,v=.ref q/\H q=some (.lst (iV r)):=h
theorem vk {cs gs qs ds:List Int}(h:gx cs gs qs ds=none):Bd gs/\Bd qs/\Bd ds:=by
 unfold gx at h
 split at h
 ·cases h
 ·rename_i c
  have c:(LM.isL ds&&(LM.cW gs&&LM.cW qs))=true:=by
   cases e:(LM.isL ds&&(LM.cW gs&&LM.cW qs)) with
   |true=>rfl
   |false=>exact absurd e c
  rw[Gi,Gi]at c
  unfold LM.isL LM.cW at c
  rw[Gi,Gi,Gi]at c
  exact⟨LM.gE.1 c.2.1.2,LM.gE.1 c.2.2.2,LM.gE.1 c.1.2⟩
theorem Ar {ns:List Int}{m:IX}(h:m∈(aX ns).marks):m.glass<=1000000/\m.painting<=1000000:=by
 have n2:∀p,Gla.num (toB ns) p 2<65536:=λp=>qW _ p 2
 unfold aX Jy at h
 simp only[GP]at h
 obtain⟨i,_,rfl⟩:=h
 exact⟨by have:=n2 (Gla.HEAD+8*Gla.num (toB ns) 12 2+4*Gla.num (toB ns) 14 2+12*i+8);show Gla.num _ _ _<=_;omega,by have:=n2 (Gla.HEAD+8*Gla.num (toB ns) 12 2+4*Gla.num (toB ns) 14 2+12*i+10);show Gla.num _ _ _<=_;omega⟩
def AZ (K:Hq):Sp:=λvs H Q _=>∃(ca ga qa da:Gb) (cs gs qs ds:List Int),vs=[.ref ca,.ref ga,.ref qa,.ref da]/\LI K H ca cs/\LI K H ga gs/\LI K H qa qs/\LI K H da ds/\qf (gx cs gs qs ds) H Q
theorem Dx:aq ["cartoon","glasses","paintings","daylight"] ["cartoon","glasses","paintings","daylight"] (ag de):=fsk
theorem Cd (F:Has K mg "refusal_of_rows" de ["cartoon","glasses","paintings","daylight"]) (C1:Cb P w K mg base 2 "is_light" ["row"] (AB K)) (C2:Cb P w K mg base 3 "refusal_of_shop" ["cartoon","glasses","paintings"] (xM K)) :
  Cb P w K mg base 4 "refusal_of_rows" ["cartoon","glasses","paintings","daylight"] (AZ K):=by
 refine F.cb Dx (λvs H Q E h=>?_) (λ_ _ A _ s H vs Q E hr h=>?_)
 ·obtain⟨ca,ga,qa,da,cs,gs,qs,ds,rfl,_⟩:=h
  rfl
 ·obtain⟨ca,ga,qa,da,cs,gs,qs,ds,rfl,hc,hg,hq,hd,k⟩:=h
  have hr2:br 2 _:=hr.mono (by decide)
  refine⟨_,ad (a4 (jg (cG (aB C1 hr2 (aa (pv 3) ac)))) (af (al (dQ (aa (m5 jQ ah) ac)))) aL)
   (af (al (aB C2 hr (aa (pv 0) (aa (pv 1) (aa (pv 2) ac)))))),?_⟩
  refine⟨_,rfl,da,ds,rfl,hd,_,rfl,?_⟩
  cases h1:LM.isL ds with
  |false =>
   exact d7 ⟨_,rfl,(by show 1<=Ge;decide),λp hp=>k.some' (r:=[-1]) (by unfold gx;rw[h1];rfl) (ak.refl H) p hp⟩
  |true =>
   have e:gx cs gs qs ds=oP cs gs qs:=by
    unfold gx oP
    rw[h1,HA]
   rw[e]at k
   refine jN ?_
   exact⟨_,rfl,_,rfl,_,rfl,ca,ga,qa,cs,gs,qs,rfl,hc,hg,hq,k⟩
def tN (fo:Option (Int×Int))(gs qs:List Int)(S:Gla.Plan):Option (List Int):=match AE fo with
 |some r=>some r
 |none=>tj (cn gs qs S)
def EL (K:Hq)(C CV:Gb):Sp:=λvs H Q _=>∃(v ga qa:Gb) (fo:Option (Int×Int)) (dv ov:V) (S:Gla.Plan) (gs qs:List Int),vs=[.ref v,.ref ga,.ref qa]/\uW CV H v fo dv ov/\(fo=none->∃d,dv=.ref d/\bA C H d S)/\LI K H ga gs/\LI K H qa qs/\qf (tN fo gs qs S) H Q
theorem EQ:aq ["verdict","glasses","paintings","refusal"] ["verdict","glasses","paintings"] (ag cv):=fsk
theorem DS (F:Has K mg "refusal_of_window" cv ["verdict","glasses","paintings"]) (T:DCl K mg C) (TV:VCl K mg CV) (C1:Cb P w K mg base 1 "refusal_of_cartoon" ["verdict"] (E1 CV)) (C2:Cb P w K mg base 3 "refusal_of_marks" ["marks","glasses","paintings"] (AU K)) :
  Cb P w K mg base 4 "refusal_of_window" ["verdict","glasses","paintings"] (EL K C CV):=by
 refine F.cb EQ (λvs H Q E h=>?_) (λ_ _ A _ s H vs Q E hr h=>?_)
 ·obtain⟨v,ga,qa,fo,dv,ov,S,gs,qs,rfl,_⟩:=h
  rfl
 ·obtain⟨v,ga,qa,fo,dv,ov,S,gs,qs,rfl,hv,hd,hg,hq,k⟩:=h
  have hr1:br 1 _:=hr.mono (by decide)
  refine⟨_,ad (aA (i:=3) EQ.nd rfl (.inl rfl) (aB C1 hr1 (aa (pv 0) ac)))
   (ad (a4 (aM jq (pv 3) bc (aI _)) (af (al (pv 3))) aL)
   (af (al (aB C2 hr (aa (aQ (aQ (pv 0) rfl) rfl) (aa (pv 1) (aa (pv 2) ac))))))),?_⟩
  refine⟨_,rfl,v,fo,dv,ov,rfl,hv,λx H1 s1 l1=>?_⟩
  unfold tN at k
  cases fo with
  |some e =>
   obtain⟨q,rfl,hq1⟩:=id l1
   exact⟨_,rfl,rfl,_,rfl,aU (λ_=>⟨_,rfl,k (.ref q) H1 s1 l1⟩) (λc=>absurd (by rw[dqf (by intro z;cases z)];rfl) c)⟩
  |none =>
   obtain rfl:x=.non:=l1
   refine⟨_,rfl,rfl,_,rfl,aU (λc=>absurd c (by decide)) (λ_=>?_)⟩
   obtain⟨d,rfl,hD⟩:=hd rfl
   obtain⟨vx,fv,hv',_⟩:=hv
   obtain⟨dx,p,l,m,ps,ls,ms,o⟩:=(hD.same s1).op (K:=K)
   have hmk:MkL H1 m ms S:=⟨o.ml,o.mn,λi b x e1 e2=>o.ma i b x e1 e2⟩
   exact⟨_,rfl,v,CV,vx,_,_,rfl,s1 _ _ hv',TV.cl,TV.nD,EM,d,C,dx,_,_,rfl,o.at_,T.cl,T.nM,wL,_,rfl,_,rfl,m,ga,qa,ms,S,gs,qs,rfl,hmk,hg.same s1,hq.same s1,λy H2 s2 l2=>k y H2 (s1.trans s2) l2⟩
section
variable  {S:Gla.Plan}
def fp (e:Gla.Fault):Int×Int:=((e.rule:Int),(e.place:Int))
theorem uk (r:Nat)(i:Nat):fp ⟨r,Gla.ptPlace i⟩=((r:Int),kP i):=by
 unfold fp Gla.ptPlace Gla.HEAD kP
 simp
theorem AG (S:Gla.Plan)(r:Nat)(i:Nat):fp ⟨r,Gla.linePlace S i⟩=((r:Int),qp S i):=by
 unfold fp Gla.linePlace Gla.HEAD qp
 simp
theorem yX (S:Gla.Plan)(r:Nat)(i:Nat):fp ⟨r,Gla.markPlace S i⟩=((r:Int),mN S i):=by
 unfold fp Gla.markPlace Gla.HEAD mN
 simp
theorem sD (S:Gla.Plan):S.fault.map fp=lf (bT S) (eN S):=by
 unfold Gla.Plan.fault bT
 cases h4:Hu (ok4 S) Pt.below S.pts with
 |some i =>
  have e:o4 S=some (4,kP i):=by unfold o4;rw[h4];rfl
  have h4':Hu (λ(p:Pt)=>decide (p.x<=S.w)&&decide (p.y<=S.h)) Pt.below S.pts=some i:=h4
  rw[h4',e]
  exact Ia some (uk 4 i)
 |none =>
 have e4:o4 S=none:=by unfold o4;rw[h4];rfl
 have h4':Hu (λ(p:Pt)=>decide (p.x<=S.w)&&decide (p.y<=S.h)) Pt.below S.pts=none:=h4
 rw[h4',e4]
 dsimp only
 cases h5:Hu (ok5 S) HB S.lines with
 |some i =>
  have e:o5 S=some (5,qp S i):=by unfold o5;rw[h5];rfl
  have h5':Hu (λ(l:Nat×Nat)=>decide (l.1<l.2)&&decide (l.2<S.pts.length)) HB S.lines=some i:=h5
  rw[h5',e]
  exact Ia some (AG S 5 i)
 |none =>
 have e5:o5 S=none:=by unfold o5;rw[h5];rfl
 have h5':Hu (λ(l:Nat×Nat)=>decide (l.1<l.2)&&decide (l.2<S.pts.length)) HB S.lines=none:=h5
 rw[h5',e5]
 dsimp only
 cases h6:Ka S with
 |false =>
  have e:o6 S=some (6,20):=by unfold o6;rw[h6];rfl
  rw[Gk rfl,e]
  rfl
 |true =>
 have e6:o6 S=none:=by unfold o6;rw[h6];rfl
 rw[Gf (by decide),e6]
 cases h7:Gla.firstAt (JN S) S.lines with
 |some i =>
  have e:o7 S=some (7,qp S i):=by unfold o7;rw[h7];rfl
  rw[e]
  exact Ia some (AG S 7 i)
 |none =>
 have e7:o7 S=none:=by unfold o7;rw[h7];rfl
 rw[e7]
 dsimp only
 cases h8:(GE S.pts.length).find? λ(i:Nat)=>decide ((S.near i).length<2) with
 |some i =>
  have e:o8 S=some (8,kP i):=by unfold o8;rw[h8];rfl
  rw[e]
  exact Ia some (uk 8 i)
 |none =>
 have e8:o8 S=none:=by unfold o8;rw[h8];rfl
 rw[e8]
 dsimp only
 cases h9:(GE S.pts.length).find? λ(i:Nat)=>!((lO S).getD i false) with
 |some i =>
  have e:o9 S=some (9,kP i):=by unfold o9;rw[h9];rfl
  have h9':((GE S.pts.length).find? λ(i:Nat)=>!((JO S.nears S.pts.length 0 (Kd S.pts.length)).getD i false))=some i:=h9
  rw[h9',e]
  exact Ia some (uk 9 i)
 |none =>
 have e9:o9 S=none:=by unfold o9;rw[h9];rfl
 have h9':((GE S.pts.length).find? λ(i:Nat)=>!((JO S.nears S.pts.length 0 (Kd S.pts.length)).getD i false))=none:=h9
 rw[h9',e9]
 dsimp only
 cases h10:(GE S.pts.length).find? (Gla.cuts S.nears S.pts.length) with
 |some i =>
  have e:o10 S=some (10,kP i):=by unfold o10;rw[h10];rfl
  rw[e]
  exact Ia some (uk 10 i)
 |none =>
 have e10:o10 S=none:=by unfold o10;rw[h10];rfl
 rw[e10]
 dsimp only
 cases h11:Hu (I0 S) Ip S.marks with
 |some i =>
  have e:o11 S=some (11,mN S i):=by unfold o11;rw[h11];rfl
  rw[e]
  exact Ia some (yX S 11 i)
 |none =>
 have e11:o11 S=none:=by unfold o11;rw[h11];rfl
 rw[e11]
 dsimp only
 unfold eN
 cases h12:Gla.twice S S.outlines 0 [] S.marks with
 |some i =>
  have e:o12 S=some (12,mN S i):=by unfold o12;rw[h12];rfl
  rw[e]
  exact Ia some (yX S 12 i)
 |none =>
 have e12:o12 S=none:=by unfold o12;rw[h12];rfl
 rw[e12]
 dsimp only
 show _=o13 S
 unfold o13
 by_cases c:S.marks.length<S.outlines.length
 ·rw[Gk c,Gk c]
  exact Ia some (yX S 13 S.marks.length)
 ·rw[Gf c,Gf c]
  rfl
end
theorem vX {cs:List Int}(hb:Byt cs):Gla.judgePlan (toB cs)=match cH cs with
  |none=>.ok (aX cs)
  |some _=>Gla.judgePlan (toB cs):=by
 cases e:cH cs with
 |some x=>rfl
 |none =>
  unfold cH at e
  obtain⟨e1,e2⟩:=cT e
  rw[<-sD]at e2
  rw[jv hb]at e1
  have h1:d9 (toB cs)=none:=by
   cases q:d9 (toB cs) with
   |none=>rfl
   |some x=>rw[q]at e1;cases e1
  have h2:(Jy (toB cs)).fault=none:=by
   cases q:(Jy (toB cs)).fault with
   |none=>rfl
   |some x =>
    have e2:(Jy (toB cs)).fault.map fp=none:=e2
    rw[q]at e2
    cases e2
  rw[oh,h1,h2]
  rfl
theorem wD {cs:List Int}(hb:Byt cs){x:Int×Int}(e:cH cs=some x):∃ft,Gla.judgePlan (toB cs)=.error ft/\fp ft=x:=by
 unfold cH at e
 cases h1:d9 (toB cs) with
 |some ft =>
  have e1:dR cs=some (fp ft):=by rw[jv hb,h1];rfl
  rw[e1]at e
  refine⟨ft,?_,osi e⟩
  rw[oh,h1]
 |none =>
  have e1:dR cs=none:=by rw[jv hb,h1];rfl
  rw[e1]at e
  have e:lf (bT (aX cs)) (eN (aX cs))=some x:=e
  rw[<-sD]at e
  have e:(Jy (toB cs)).fault.map fp=some x:=e
  cases h2:(Jy (toB cs)).fault with
  |none=>rw[h2]at e;cases e
  |some ft =>
   rw[h2]at e
   refine⟨ft,?_,osi e⟩
   rw[oh,h1,h2]
theorem wO {cs:List Int}(hb:Byt cs):LightNeutral.bytes cs=some (toB cs):=by
 unfold LightNeutral.bytes
 have e:NeutralIO.bytes cs=true:=by
  unfold NeutralIO.bytes
  rw[Hk]
  intro z hz
  have:=hb z hz
  simp only[Gi,Gj]
  omega
 rw[Gk e]
 rfl
theorem yB {gs qs:List Int}(hm:gs.length % 32=0)(hm2:qs.length % 32=0):GlaLits.many ⟨LM.aK gs,LM.aK qs⟩=(decide (256<LM.cnt gs)||decide (256<LM.cnt qs)):=by
 unfold GlaLits.many
 simp only[LM.ef hm,LM.ef hm2,lmp,Hl]
 rfl
theorem xx {gs qs:List Int}(bg:Bd gs)(bq:Bd qs)(hm:gs.length % 32=0)(hm2:qs.length % 32=0){m:IX}(h1:m.glass<LM.cnt gs)(h2:m.painting<=LM.cnt qs):Gla.lightOf ⟨LM.aK gs,LM.aK qs⟩ m=(plI gs qs m).map Ht:=by
 unfold Gla.lightOf plI
 dsimp only
 rw[LM.rj hm h1]
 by_cases c:m.painting=0
 ·rw[Gk c,Gk c]
 ·rw[Gf c,Gf c,LM.rj hm2 (by omega),LM.oM (λx hx=>((bg.lat _) x hx).1) (λx hx=>((bq.lat _) x hx).1)]
def l7 (t:List Int)(a:Int)(l:List Int):List Int:=(t.zip l).map λp=>p.1+a*p.2
def jX (zs:List (Int×List Int)):List Int:=zs.foldl (λt x=>l7 t x.1 x.2) (GS 32 0)
def sV (as:List Int)(Ls:List (List Int))(w:Int):List Int:=(jX (as.zip Ls)).map λt=>t / w
theorem vq (zs:List (Int×List Int))(x:Int×List Int):jX (zs++[x])=l7 (jX zs) x.1 x.2:=by
 unfold jX
 rw[List.foldl_append]
 rfl
theorem yQ (t:List Int)(a:Int)(l:List Int):(l7 t a l).length<=t.length:=by
 unfold l7
 rw[lmp,Hm]
 lia
theorem qw (zs:List (Int×List Int)):(jX zs).length<=32:=by
 have h:∀(zs:List (Int×List Int)) (t:List Int),t.length<=32->(zs.foldl (λt x=>l7 t x.1 x.2) t).length<=32:=by
  intro zs
  induction zs with
  |nil=>exact λt h=>h
  |cons x r ih=>exact λt h=>ih _ (GU (yQ _ _ _) h)
 exact h zs _ (by rw[Ig];exact nlr _)
def Ev (K:Hq):Sp:=λvs H Q _=>∃(a L:Gb) (as:List Int) (Ls:List (List Int)) (wh:Int),vs=[.ref a,.ref L,.int wh]/\H a=some (.lst (iV as))/\LL H L Ls/\(∀l∈Ls,Bd l)/\0<wh/\wh<2 ^ 64/\∀(H':Hp) (p:Gb),ak H H'->H' p=some (.lst (iV (sV as Ls wh)))->Q (.ref p) H'
theorem qN:aq ["areas","lights","whole","totals","area","light","total","band"] ["areas","lights","whole"] (ag dO):=fsk
theorem Du (F:Has K mg "mean_light" dO ["areas","lights","whole"]) (gz:mg "zip"=none) (gB:∃t,mg "BANDS"=some (.int 32 t)):Cb P w K mg base 1 "mean_light" ["areas","lights","whole"] (Ev K):=by
 refine F.cb qN (λvs H Q E h=>?_) (λ_ _ A _ s H vs Q E hr h=>?_)
 ·obtain⟨a,L,as,Ls,wh,rfl,_⟩:=h
  rfl
 ·obtain⟨a,L,as,Ls,wh,rfl,ha,⟨bs,hL,hbl,hat⟩,hbd,hw0,hw1,k⟩:=h
  refine⟨_,ad (aA (i:=3) qN.nd rfl (.inl rfl) (aR By (dQ (aa ah ac)) (bu gB)))
   (ad (bB Gy rfl (t9 rfl gz (aa (pv 0) (aa (pv 1) ac))) (cC (n:=2) rfl (aG (ao (i:=4) qN.nd rfl (.inr rfl)) (aG (ao (i:=5) qN.nd rfl (.inl rfl)) bN)))
    (af (bQ (i:=3) (own:=[("total",6),("band",7)]) (g:=g2 K 6 7) (te:=tOp (rI0 λi j=>.int (i+j)) (aY 6) (tOp (rI Ab λi j=>.int (i*j)) (aY 4) (aY 7))) rfl qN.nd rfl rfl (cw rfl rfl rfl (by decide +kernel)) (t9 rfl gz (aa (pv 3) (aa (pv 5) ac))) (bf (by show fY ["areas","lights","whole","totals","area","light","total","band"] (ag dO) _ _=true;decide +kernel))
     (λ_ _ _ _ _=>cC (n:=2) rfl (aG (ao (i:=6) qN.nd rfl (.inl rfl) (.inr rfl)) (aG (ao (i:=7) qN.nd rfl (.inl rfl) (.inr rfl)) bN))) (λ_ _ _ _ _=>cY)
     (λ_ _ _ _ _=>aR dt (pv 6) (aR cJ (pv 4) (pv 7))))))
   (af (al (vb (own:=[("total",6)]) (te:=tOp (rI (λ_ j=>0<j/\j<2 ^ 64) λi j=>.int (i / j)) (aY 6) (aY 2)) rfl qN.nd (bH (pv 3)) (bf (by show fY ["areas","lights","whole","totals","area","light","total","band"] (ag dO) _ _=true;decide +kernel))
     (λ_ _ _ _ _=>ao (i:=6) qN.nd rfl (.inl rfl) (.inr rfl)) (λ_ _ _ _ _=>cY) (λ_ _ _ _ _=>aR wT (pv 6) (pv 2)))))),?_⟩
  refine⟨(by show 1<=Ge;decide),λl0 hl0=>?_⟩
  refine⟨l0,32,_,rfl,rfl,ae,by decide,by decide,(by show 1*32<=Ge;decide),λt0 ht0=>?_⟩
  have s0:ak H (upd (upd H l0 (.lst [.int 0])) t0 (.lst (iV (jX [])))):=aV (aJ hl0) ht0
  have ht1:(upd (upd H l0 (.lst [.int 0])) t0 (.lst (iV (jX [])))) t0=some (.lst (iV (jX []))):=ae
  refine⟨_,rfl,_,rfl,a,L,_,_,rfl,SqL.of (s0 _ _ ha),SqL.of (s0 _ _ hL),zB (K:=K) (a:=a) (b:=L) (xs:=iV as) (ys:=bs.map V.ref) (λi σ H'=>ak H H'/\∃(t:Gb) (v1 v2:Option V),σ=[some (.ref a),some (.ref L),some (.int wh),some (.ref t),v1,v2,none,none]/\H' t=some (.lst (iV (jX ((as.zip Ls).take i)))))
   ⟨s0,t0,none,none,rfl,by rw[List.take_zero];exact ht1⟩ (λi σ H' _ h=>⟨SqL.of (h.1 _ _ ha),SqL.of (h.1 _ _ hL)⟩) ?_ ?_⟩
  ·rintro i x' y' T σ H' ex' ey' hT ⟨hS,t,v1,v2,rfl,ht⟩
   obtain⟨x,ex,rfl⟩:=ja ex'
   obtain⟨b,hb,rfl⟩:=bW ey'
   have hil:i<Ls.length:=by rw[<-hbl];exact(gsi hb).1
   have hlb:=hat i b _ hb (gge hil)
   have hbdl:=hbd _ (GC hil)
   have s2:ak H (upd H' T (.tup [.int x,.ref b])):=aV hS hT
   have ht2:(upd H' T (.tup [.int x,.ref b])) t=some (.lst (iV (jX ((as.zip Ls).take i)))):=by
    rw[ap (aO ht hT)]
    exact ht
   refine⟨T,_,rfl,SqT.of ae,rfl,_,_,rfl,_,_,rfl,rfl,?_⟩
   generalize upd H' T (.tup [.int x,.ref b])=H2 at s2 ht2
   generalize hz:jX ((as.zip Ls).take i)=ts at ht2
   generalize hl:Ls[i]=ls at hlb hbdl
   have hts:ts.length<=32:=by rw[<-hz];exact qw _
   refine⟨_,rfl,_,rfl,t,b,_,_,rfl,SqL.of ht2,SqL.of (s2 _ _ hlb),λD hD=>?_⟩
   refine x8 (xs:=iV ts) (ys:=iV ls) (λj H'=>ak H2 H'/\H' D=some (.lst (iV (((ts.zip ls).take j).map λp=>p.1+x*p.2)))) ?_ ?_ ?_ ?_
   ·exact⟨aJ hD,ae⟩
   ·rintro j H' _ ⟨hS',_⟩
    exact⟨SqL.of (hS' _ _ ht2),SqL.of (hS' _ _ (s2 _ _ hlb))⟩
   ·rintro j x' y' T2 H3 ex3 ey3 hT2 ⟨hS3,hDl⟩
    obtain⟨u,eu,rfl⟩:=ja ex3
    obtain⟨z,ez,rfl⟩:=ja ey3
    refine⟨T2,_,rfl,SqT.of ae,rfl,_,_,rfl,_,_,rfl,rfl,rfl,kD (d7 ?_)⟩
    have nTD:D≠T2:=aO hDl hT2
    have bz:=hbdl z (GV ez)
    refine⟨_,rfl,_,rfl,_,rfl,_,_,rfl,rfl,.inr ⟨by lia,by lia⟩,_,_,rfl,rfl,_,by rw[ap nTD];exact hDl,?_,aT (aV hS3 hT2) hD,?_⟩
    ·rw[lmp,lmp,GY,Hm]
     exact a6 (by lia)
    ·rw[ae,bE (qB eu ez)]
     simp only[iV,GA,Gw,JH]
   ·rintro H3 ⟨hS3,hDl⟩
    have e:(ts.zip ls).take (min (iV ts).length (iV ls).length)=ts.zip ls:=by
     rw[lmp,lmp,<-Hm]
     exact Hx
    rw[e]at hDl
    refine⟨s2.trans hS3,D,_,_,rfl,?_⟩
    have hzz:(as.zip Ls)[i]? = some (x,ls):=by
     rw[<-hl]
     exact qB ex (gge hil)
    rw[bE hzz,vq,hz]
    exact hDl
  ·rintro σ H1 ⟨s1,t,v1,v2,rfl,ht⟩
   have e:(as.zip Ls).take (min (iV as).length (bs.map V.ref).length)=as.zip Ls:=by
    rw[lmp,lmp,hbl,<-Hm]
    exact Hx
   rw[e]at ht
   unfold sV at k
   have hts:=qw (as.zip Ls)
   generalize jX (as.zip Ls)=ts at ht k hts
   refine⟨_,rfl,t,rfl,⟨_,SqL.of ht⟩,λD hD=>?_⟩
   refine eV (K:=K) (a:=t) (xs:=iV ts) (λi H'=>ak H1 H'/\H' D=some (.lst (iV ((ts.take i).map λt=>t / wh)))) ⟨aJ hD,ae⟩ (λi H' _ h=>SqL.of (h.1 _ _ ht)) ?_ ?_
   ·rintro i y H' hi ⟨hS,hDl⟩
    obtain⟨z,hz,rfl⟩:=ja hi
    refine⟨rfl,kD (d7 ?_)⟩
    refine⟨_,rfl,_,rfl,_,_,rfl,rfl,⟨hw0,hw1⟩,_,hDl,?_,aT hS hD,?_⟩
    ·rw[lmp,lmp,GY]
     exact a6 (by lia)
    ·rw[ae,bE hz]
     simp only[iV,GA,Gw,JH]
   ·rintro H' ⟨hS,hDl⟩
    rw[lmp,Hx]at hDl
    exact k H' D (s1.trans hS) hDl
theorem xS {cs:List Int}(hb:Byt cs)(e:cH cs=none):d9 (toB cs)=none/\WL.cB (aX cs)/\∀m∈(aX cs).marks,Gla.clear (aX cs) m.at_=true:=by
 unfold cH at e
 obtain⟨e1,e2⟩:=cT e
 obtain⟨e2,_⟩:=cT e2
 obtain⟨_,hjB⟩:=lJ hb e1
 exact⟨hjB,lQ (rH hjB) e2⟩
theorem zQ {ns:List Int}(e:d9 (toB ns)=none):(16<=(aX ns).w/\(aX ns).w<=1048575)/\(16<=(aX ns).h/\(aX ns).h<=1048575):=by
 have key:∀n,¬(16<=n/\n<=1048575)->Gla.within Gla.SMALLEST Gla.LARGEST n=false:=λn z=>by
  unfold Gla.within Gla.SMALLEST Gla.LARGEST
  by_cases c:16<=n
  ·rw[dqf (p:=n<=1048575) (by lia),J2]
  ·rw[dqf c,G5]
 constructor
 ·refine bcn λz=>?_
  have hw:Gla.within Gla.SMALLEST Gla.LARGEST (Gla.num (toB ns) 4 4)=false:=key _ z
  unfold d9 at e
  rw[Gk hw]at e
  repeat' split at e
  all_goals cases e
 ·refine bcn λz=>?_
  have hw:Gla.within Gla.SMALLEST Gla.LARGEST (Gla.num (toB ns) 8 4)=false:=key _ z
  unfold d9 at e
  rw[Gk hw]at e
  repeat' split at e
  all_goals cases e
theorem uB {S:Gla.Plan}(k:WL.cB S){m:IX}(hm:Gla.clear S m.at_=true):∃l,S.among S.outlines m.at_=some l/\l∈WL.dm S:=by
 obtain⟨h,hh,h1,_⟩:=WL.xa k hm
 exact⟨_,h1,GC hh⟩
theorem jc {S:Gla.Plan}(k:WL.cB S){l:List Nat}(h:l∈WL.dm S):(∀x∈l,x<S.pts.length)/\l.length<=S.pts.length/\l≠[]:=by
 obtain⟨e,hJ,_,rfl⟩:=WL.i7 k h
 obtain⟨t,ht⟩:=WL.j7 k.toKept hJ
 refine⟨qQ k hJ,mr k hJ,?_⟩
 rw[ht]
 simp
def iH (S:Gla.Plan)(m:IX):Int:=match S.among S.outlines m.at_ with
 |some l=>Gla.twiceArea S l
 |none=>0
def qR (S:Gla.Plan)(gs qs ds:List Int):List Int:=sV (S.marks.map (iH S)) (S.marks.map λm=>LM.thI ds (plI gs qs m)) (2*(S.w:Int)*(S.h:Int))
def zr (cs gs qs ds:List Int):List Int:=match gx cs gs qs ds with
 |some r=>r
 |none=>match tN (cH cs) gs qs (aX cs) with
  |some r=>r
  |none=>0 :: ((qR (aX cs) gs qs ds).length:Int) :: qR (aX cs) gs qs ds
def yI (K:Hq):Sp:=λvs H Q _=>∃(ca ga qa da:Gb) (cs gs qs ds:List Int),vs=[.ref ca,.ref ga,.ref qa,.ref da]/\LI K H ca cs/\LI K H ga gs/\LI K H qa qs/\LI K H da ds/\Byt cs/\∀(H':Hp) (p:Gb),H' p=some (.lst (iV (zr cs gs qs ds)))->Q (.ref p) H'
theorem kf:aq ["cartoon","glasses","paintings","daylight","refusal","verdict","drawing","areas","lights","outline","mark"] ["cartoon","glasses","paintings","daylight"] (ag gZ):=fsk
theorem yS {fo:Option (Int×Int)}{gs qs:List Int}{S:Gla.Plan}(h:tN fo gs qs S=none):fo=none/\cn gs qs S=none:=by
 unfold tN at h
 cases fo with
 |some x=>cases h
 |none =>
  refine⟨rfl,?_⟩
  cases e:cn gs qs S with
  |none=>rfl
  |some x=>rw[e]at h;cases h
theorem B0 (F:Has K mg "all_of" gZ ["cartoon","glasses","paintings","daylight"]) (T:DCl K mg C) (TV:VCl K mg CV) (C1:Cb P w K mg base 4 "refusal_of_rows" ["cartoon","glasses","paintings","daylight"] (AZ K)) (C2:Cb P w K mg base 7 "judge" ["cartoon"] (spJ K C CV)) (C3:Cb P w K mg base 4 "refusal_of_window" ["verdict","glasses","paintings"] (EL K C CV)) (C4:Cb P w K mg base 1 "points_at" ["points","corners"] (wu K)) (C5:Cb P w K mg base 1 "twice_area" ["corners"] (qU K)) (C6:Cb P w K mg base 3 "seen_light" ["mark","glasses","paintings","daylight"] (Bu K)) (C7:Cb P w K mg base 1 "mean_light" ["areas","lights","whole"] (Ev K)) (C8:Cb P w K mg base 1 "row_answer" ["row"] C0) :
  Cb P w K mg base 8 "all_of" ["cartoon","glasses","paintings","daylight"] (yI K):=by
 refine F.cb kf (λvs H Q E h=>?_) (λ_ _ A _ s H vs Q E hr h=>?_)
 ·obtain⟨ca,ga,qa,da,cs,gs,qs,ds,rfl,_⟩:=h
  rfl
 ·obtain⟨ca,ga,qa,da,cs,gs,qs,ds,rfl,hc,hg,hq,hd,hb,k⟩:=h
  have hr1:br 1 _:=hr.mono (by decide)
  have hr3:br 3 _:=hr.mono (by decide)
  have hr4:br 4 _:=hr.mono (by decide)
  refine⟨_,ad (aA (i:=4) kf.nd rfl (.inl rfl) (aB C1 hr4 (aa (pv 0) (aa (pv 1) (aa (pv 2) (aa (pv 3) ac))))))
   (ad (a4 (aM jq (pv 4) bc (aI _)) (af (al (pv 4))) aL)
   (ad (aA (i:=5) kf.nd rfl (.inl rfl) (aB C2 hr (aa (pv 0) ac)))
   (ad (aA (i:=4) kf.nd rfl (.inl rfl) (aB C3 hr4 (aa (pv 5) (aa (pv 1) (aa (pv 2) ac)))))
   (ad (a4 (aM jq (pv 4) bc (aI _)) (af (al (pv 4))) aL)
   (ad (aA (i:=6) kf.nd rfl (.inr rfl) (aQ (pv 5) rfl))
   (ad (bQ (i:=7) (own:=[("outline",9)]) (te:=iM (qU K) [] E0 (a8 (iM (wu K) [] E0 (a8 (wo K (aY 6) "points") (a8 (aY 9) fc))) fc)) rfl kf.nd rfl rfl (cw rfl rfl rfl (by decide +kernel)) (bH (aQ (pv 5) rfl)) (bf (by show fY ["cartoon","glasses","paintings","daylight","refusal","verdict","drawing","areas","lights","outline","mark"] (ag gZ) _ _=true;decide +kernel))
    (λ_ _ _ _ _=>ao (i:=9) kf.nd rfl (.inl rfl) (.inr rfl)) (λ_ _ _ _ _=>cY) (λ_ _ _ _ _=>aB C5 hr1 (aa (aB C4 hr1 (aa (aQ (pv 6) rfl) (aa (pv 9) ac))) ac)))
   (ad (bQ (i:=8) (own:=[("mark",10)]) (te:=iM (Bu K) [] E0 (a8 (aY 10) (a8 (aY 1) (a8 (aY 2) (a8 (aY 3) fc))))) rfl kf.nd rfl rfl (cw rfl rfl rfl (by decide +kernel)) (bH (aQ (pv 6) rfl)) (bf (by show fY ["cartoon","glasses","paintings","daylight","refusal","verdict","drawing","areas","lights","outline","mark"] (ag gZ) _ _=true;decide +kernel))
    (λ_ _ _ _ _=>ao (i:=10) kf.nd rfl (.inl rfl) (.inr rfl)) (λ_ _ _ _ _=>cY) (λ_ _ _ _ _=>aB C6 hr3 (aa (pv 10) (aa (pv 1) (aa (pv 2) (aa (pv 3) ac))))))
   (af (al (aB C8 hr1 (aa (aB C7 hr1 (aa (pv 7) (aa (pv 8) (aa (aR cJ (aR cJ ah (aQ (pv 6) rfl)) (aQ (pv 6) rfl)) ac)))) ac))))))))))),?_⟩
  refine⟨_,rfl,_,rfl,_,rfl,_,rfl,ca,ga,qa,da,cs,gs,qs,ds,rfl,hc,hg,hq,hd,λv H1 s1 l1=>?_⟩
  unfold zr at k
  cases e1:gx cs gs qs ds with
  |some r =>
   rw[e1]at l1 k
   obtain⟨q,rfl,hq1⟩:=l1.some
   exact⟨_,rfl,rfl,_,rfl,aU (λ_=>⟨_,rfl,k H1 q hq1⟩) (λc=>absurd (by rw[dqf (by intro z;cases z)];rfl) c)⟩
  |none =>
  rw[e1]at l1 k
  obtain rfl:v=.non:=l1
  obtain⟨bg,bq,bd⟩:=vk e1
  refine⟨_,rfl,rfl,_,rfl,aU (λc=>absurd c (by decide)) (λ_=>?_)⟩
  refine⟨_,rfl,ca,cs,rfl,hc.same s1,hb,λH2 ve dv ov s2 hve hdr=>?_⟩
  have s2:=s1.trans s2
  refine⟨_,rfl,_,rfl,_,rfl,ve,ga,qa,cH cs,dv,ov,aX cs,gs,qs,rfl,hve,λz=>?_,hg.same s2,hq.same s2,λv H3 s3 l3=>?_⟩
  ·obtain⟨d,e,hD,_⟩:=hdr z
   exact⟨d,e,hD⟩
  dsimp only at k
  cases e2:tN (cH cs) gs qs (aX cs) with
  |some r =>
   rw[e2]at l3 k
   obtain⟨q,rfl,hq1⟩:=l3.some
   exact⟨_,rfl,rfl,_,rfl,aU (λ_=>⟨_,rfl,k H3 q hq1⟩) (λc=>absurd (by rw[dqf (by intro z;cases z)];rfl) c)⟩
  |none =>
  rw[e2]at l3 k
  obtain rfl:v=.non:=l3
  refine⟨_,rfl,rfl,_,rfl,aU (λc=>absurd c (by decide)) (λ_=>?_)⟩
  obtain⟨ej,est⟩:=yS e2
  obtain⟨d,rfl,hD,ol,osl,rfl,hol,hll,hoat⟩:=hdr ej
  obtain⟨hjB,kp,hclear⟩:=xS hb ej
  obtain⟨bw,bh⟩:=zQ hjB
  have sb:=AN cs
  have mb:=@Ar cs
  have hD:=hD.same s3
  obtain⟨vx,fv,hv,_⟩:=hve
  have hv:=s3 _ _ hv
  have hol:=s3 _ _ hol
  have hoat:∀(i:Nat) (b:Gb) (m:IX),osl[i]? = some b->(aX cs).marks[i]? = some m->∃l,(aX cs).among (aX cs).outlines m.at_=some l/\H3 b=some (.lst (iV (nI l))):=λi b m e1 e2=>by
   obtain⟨l,q1,q2⟩:=hoat i b m e1 e2
   exact⟨l,q1,s3 _ _ q2⟩
  have s3:=s2.trans s3
  dsimp only at k
  generalize aX cs=S at hD mb k kp hclear bw bh sb hll hoat
  obtain⟨dx,p,l,m,ps,ls,ms,o⟩:=hD.op (K:=K)
  have nm:=sb.nm
  have np:=sb.np
  refine⟨_,rfl,ve,CV,vx,_,_,rfl,hv,TV.cl,TV.nD,EM,?_⟩
  refine⟨_,rfl,ve,CV,vx,_,_,rfl,hv,TV.cl,TV.nO,FV,ol,rfl,⟨_,SqL.of hol⟩,λD hD0=>?_⟩
  refine eV (K:=K) (a:=ol) (xs:=osl.map V.ref) (λi H'=>ak H3 H'/\H' D=some (.lst (iV ((S.marks.take i).map (iH S))))) ⟨aJ hD0,ae⟩ (λi H' _ h=>SqL.of (h.1 _ _ hol)) ?_ ?_
  ·rintro i y H' hi ⟨hS,hDl⟩
   obtain⟨c,hc,rfl⟩:=bW hi
   have hil:i<S.marks.length:=by rw[<-hll];exact(gsi hc).1
   have hmi:S.marks[i]? = some S.marks[i]:=gge hil
   obtain⟨lo,ham,hlo⟩:=hoat i c _ hc hmi
   obtain⟨lo',ham',hmem⟩:=uB kp (hclear _ (GC hil))
   rw[ham]at ham'
   obtain rfl:=osi ham'
   obtain⟨q1,q2,q3⟩:=jc kp hmem
   have o2:=o.same hS
   refine⟨rfl,kD (d7 ?_)⟩
   refine⟨_,rfl,d,C,dx,_,_,rfl,o2.at_,T.cl,T.nP,ie,_,rfl,p,c,ps,S,lo,rfl,o2.ptsL sb,hS _ _ hlo,q1,by lia,λH4 r as s4 hr0 hsh=>?_⟩
   obtain⟨init,la,einit⟩:∃init la,lo.map S.pt=init++[la]:=⟨_,_,(G2 (l:=lo.map S.pt) (by simpa using q3)).symm⟩
   refine⟨r,_,init,la,rfl,hsh.pl ((o2.same s4).ptsL sb),einit,?_⟩
   rw[uC S einit]
   refine⟨_,s4 _ _ hDl,?_,aT (hS.trans s4) hD0,?_⟩
   ·rw[lmp,lmp,GY]
    exact a6 (by lia)
   ·rw[ae,bE hmi]
    simp only[iV,GA,Gw,JH]
    unfold iH
    rw[ham]
  rintro H4 ⟨s4,hDl⟩
  rw[lmp,hll,Hx]at hDl
  have o4:=o.same s4
  have hg4:=hg.same (s3.trans s4)
  have hq4:=hq.same (s3.trans s4)
  have hd4:=hd.same (s3.trans s4)
  have dl:=hd.2
  refine⟨_,rfl,d,C,dx,_,_,rfl,o4.at_,T.cl,T.nM,wL,m,rfl,⟨_,SqL.of o4.ml⟩,λD2 hD2=>?_⟩
  refine eV (K:=K) (a:=m) (xs:=ms.map V.ref) (λi H'=>∃bs:List Gb,ak H4 H'/\H' D2=some (.lst (bs.map V.ref))/\bs.length=i/\∀(j:Nat) (b:Gb) (x:IX),bs[j]? = some b->S.marks[j]? = some x->b≠D2/\H' b=some (.lst (iV (LM.thI ds (plI gs qs x)))))
   ⟨[],aJ hD2,ae,rfl,λj b l e=>by simp at e⟩ (λi H' _ h=>by obtain⟨bs,h1,_⟩:=h;exact SqL.of (h1 _ _ o4.ml)) ?_ ?_
  ·rintro i y H' hi ⟨bs,hS,hDl2,hbl,hat⟩
   obtain⟨c,hc,rfl⟩:=bW hi
   have hil:i<S.marks.length:=by rw[<-o.mn];exact(gsi hc).1
   have hmi:S.marks[i]? = some S.marks[i]:=gge hil
   obtain⟨mb1,mb2⟩:=mb (GC hil)
   refine⟨rfl,kD (d7 ?_)⟩
   refine⟨_,rfl,_,rfl,_,rfl,_,rfl,c,ga,qa,da,S.marks[i],gs,qs,ds,rfl,SqT.of (hS _ _ (o4.ma i c _ hc hmi)),hg4.same hS,hq4.same hS,hd4.same hS,bg,bq,bd,mb1,mb2,λH5 r s5 hr0 hr5=>?_⟩
   have nr:r≠D2:=λz=>by rw[z,hDl2]at hr0;cases hr0
   refine⟨_,s5 _ _ hDl2,by rw[lmp];exact a6 (by lia),bs++[r],aT (hS.trans s5) hD2,by rw[ae,GA];rfl,by rw[Gd,hbl];rfl,λj b x e1 e2=>?_⟩
   by_cases cj:j<bs.length
   ·rw[GB cj]at e1
    obtain⟨n1,q1⟩:=hat j b x e1 e2
    exact⟨n1,by rw[ap n1];exact s5 _ _ q1⟩
   ·have hj:=(gsi e1).1
    rw[Gd]at hj
    have ej:j=bs.length:=by simp at hj;lia
    subst ej
    rw[Gx (nlr _),HG]at e1
    have e1:r=b:=osi e1
    subst e1
    rw[hbl,hmi]at e2
    have e2:=osi e2
    subst e2
    exact⟨nr,by rw[ap nr];exact hr5⟩
  rintro H5 ⟨bs,s5,hDl2,hbl,hat⟩
  rw[lmp,o.mn]at hbl
  have o5:=o4.same s5
  have hLL:LL H5 D2 (S.marks.map λm=>LM.thI ds (plI gs qs m)):=by
   refine⟨bs,hDl2,by rw[lmp,hbl],λj b l e1 e2=>?_⟩
   rw[Gp]at e2
   have hj:j<S.marks.length:=by rw[<-hbl];exact(gsi e1).1
   rw[gge hj]at e2
   have e2:LM.thI ds (plI gs qs S.marks[j])=l:=osi e2
   rw[<-e2]
   exact(hat j b _ e1 (gge hj)).2
  have hsz:(16:Int)*16<=(S.w:Int)*(S.h:Int)/\(S.w:Int)*(S.h:Int)<=1048575*1048575:=⟨Int.mul_le_mul (by lia) (by lia) (by decide) (by lia),Int.mul_le_mul (by lia) (by lia) (by lia) (by decide)⟩
  have hwh:2*(S.w:Int)*(S.h:Int)=2*((S.w:Int)*(S.h:Int)):=Int.mul_assoc _ _ _
  refine⟨_,rfl,_,rfl,_,rfl,d,C,dx,_,_,rfl,o5.at_,T.cl,T.nW,Al,_,_,rfl,rfl,.inl ⟨by decide,by decide⟩,_,rfl,d,C,dx,_,_,rfl,o5.at_,T.cl,T.nH,As,_,_,rfl,rfl,.inr ⟨by lia,by lia⟩,D,D2,S.marks.map (iH S),_,_,rfl,s5 _ _ hDl,hLL,λl hl=>?_,by lia,by lia,λH6 r s6 hr6=>?_⟩
  ·rw[GP]at hl
   obtain⟨x,_,rfl⟩:=hl
   exact bd.th (uO bg bq x)
  have tl:(qR S gs qs ds).length<=32:=by
   unfold qR sV
   rw[lmp]
   exact qw _
  exact⟨r,qR S gs qs ds,rfl,hr6,by lia,λH7 q s7 hq7=>k H7 q hq7⟩
theorem Ax {l:List Int}{f:Nat->Int}(h:l.length=32)(e:∀k,k<32->l.getD k 0=f k):l=(GE 32).map f:=by
 refine List.ext_getElem (by rw[lmp,Hl,h]) λk h1 h2=>?_
 rw[List.getElem_map,List.getElem_range,<-e k (by lia),Gr,gge h1]
 rfl
theorem zX {t l:List Int}{a:Int}(h1:t.length=32)(h2:l.length=32):(l7 t a l).length=32:=by
 unfold l7
 rw[lmp,Hm,h1,h2]
 rfl
theorem zl {t l:List Int}{a:Int}(h1:t.length=32)(h2:l.length=32){k:Nat}(hk:k<32):(l7 t a l).getD k 0=t.getD k 0+a*l.getD k 0:=by
 unfold l7
 simp only[Gr]
 rw[Gp,qB (gge (by lia:k<t.length)) (gge (by lia:k<l.length)),gge (by lia:k<t.length),gge (by lia:k<l.length)]
 rfl
theorem xk:∀(zs:List (Int×List Int)) (t:List Int),t.length=32->(∀x∈zs,x.2.length=32)->∀k,k<32->(zs.foldl (λt x=>l7 t x.1 x.2) t).length=32/\(zs.foldl (λt x=>l7 t x.1 x.2) t).getD k 0=t.getD k 0+(zs.map λx=>x.1*x.2.getD k 0).foldr (λa b=>a+b) 0
 |[],t,ht,_,k,_=>⟨ht,(Int.add_zero _).symm⟩
 |x :: r,t,ht,h,k,hk=>by
  have hx:=h x (Gv ..)
  obtain⟨h1,h2⟩:=xk r (l7 t x.1 x.2) (zX ht hx) (λy hy=>h y (Gc _ hy)) k hk
  refine⟨h1,?_⟩
  rw[Il,h2,zl ht hx hk,Gw,List.foldr_cons,Int.add_assoc]
theorem rX {α:Type}(f:α->Nat)(g:α->Int):∀l:List α,(∀x∈l,g x=(f x:Int))->(l.map g).foldr (λa b=>a+b) 0=(((l.map f).foldr (λa b=>a+b) 0:Nat):Int)
 |[],_=>rfl
 |x :: r,h=>by
  rw[Gw,Gw,List.foldr_cons,List.foldr_cons,rX f g r λy hy=>h y (Gc _ hy),h x (Gv ..),Int.natCast_add]
theorem wY {gs qs:List Int}(hm:gs.length % 32=0)(hm2:qs.length % 32=0){m:IX}(h1:m.glass<LM.cnt gs)(h2:m.painting<=LM.cnt qs):(plI gs qs m).length=32:=by
 have hl:∀{ns:List Int} {k:Nat},k<LM.cnt ns->(LM.lat ns k).length=32:=λ{ns k} h=>by
  unfold LM.cnt at h
  unfold LM.lat
  rw[GY,GN]
  lia
 unfold plI
 split
 ·exact hl h1
 ·rename_i c
  unfold LM.thI
  rw[lmp,Hm,hl h1,hl (by lia:m.painting-1<LM.cnt qs)]
  rfl
theorem lX {gs qs:List Int}{S:Gla.Plan}(h:cn gs qs S=none){m:IX}(hm:m∈S.marks):m.glass<LM.cnt gs/\m.painting<=LM.cnt qs:=by
 obtain⟨i,hi,rfl⟩:=J0.1 hm
 have hno:=WL.fD h i hi
 have hno:(decide (S.marks[i].glass<LM.cnt gs)&&decide (S.marks[i].painting<=LM.cnt qs))=true:=by
  cases q:(decide (S.marks[i].glass<LM.cnt gs)&&decide (S.marks[i].painting<=LM.cnt qs)) with
  |true=>rfl
  |false=>rw[q]at hno;cases hno
 rw[Gi,Gj,Gj]at hno
 exact hno
theorem wV {l:List Int}(h:∀x∈l,0<=x)(k:Nat):l.getD k 0=(((l.map Ht).getD k 0:Nat):Int):=by
 simp only[Gr]
 rw[Gp]
 by_cases c:k<l.length
 ·rw[gge c]
  have:=h _ (GC c)
  show l[k]=((l[k].toNat:Nat):Int)
  lia
 ·rw[List.getElem?_eq_none (by lia)]
  rfl
theorem vR {S:Gla.Plan}{gs qs ds:List Int}(kp:WL.cB S)(hcl:∀m∈S.marks,Gla.clear S m.at_=true)(hst:cn gs qs S=none)(bg:Bd gs)(bq:Bd qs)(bd:Bd ds)(hd:ds.length=32)(m1:gs.length % 32=0)(m2:qs.length % 32=0) :
  qR S gs qs ds=LightNeutral.ints (Gla.windowLight ⟨LM.aK gs,LM.aK qs⟩ S (ds.map Ht)):=by
 unfold qR sV Gla.windowLight LightNeutral.ints
 have ez:(S.marks.map (iH S)).zip (S.marks.map λm=>LM.thI ds (plI gs qs m))=S.marks.map λm=>(iH S m,LM.thI ds (plI gs qs m)):=List.zip_map' ..
 have en:(S.panes.map (Gla.paneArea S)).zip (S.marks.map (Gla.seenOf ⟨LM.aK gs,LM.aK qs⟩ (ds.map Ht)))=S.marks.map λm=>(Gla.paneArea S (S.among S.outlines m.at_),Gla.seenOf ⟨LM.aK gs,LM.aK qs⟩ (ds.map Ht) m):=by
  unfold Gla.Plan.panes
  dsimp only
  rw[IP]
  exact List.zip_map' ..
 rw[ez]
 dsimp only
 rw[en]
 have hl:∀x∈S.marks.map (λm=>(iH S m,LM.thI ds (plI gs qs m))),x.2.length=32:=λx hx=>by
  obtain⟨m,hm,rfl⟩:=GP.1 hx
  obtain⟨g1,g2⟩:=lX hst hm
  show(LM.thI ds (plI gs qs m)).length=32
  unfold LM.thI
  rw[lmp,Hm,hd,wY m1 m2 g1 g2]
  rfl
 have hT:∀k,k<32->(jX (S.marks.map λm=>(iH S m,LM.thI ds (plI gs qs m)))).length=32/\(jX (S.marks.map λm=>(iH S m,LM.thI ds (plI gs qs m)))).getD k 0=(((S.marks.map λm=>Gla.paneArea S (S.among S.outlines m.at_)*(Gla.seenOf ⟨LM.aK gs,LM.aK qs⟩ (ds.map Ht) m).getD k 0).foldr (λa b=>a+b) 0:Nat):Int):=λk hk=>by
  obtain⟨q1,q2⟩:=xk _ (GS 32 0) (Ig ..) hl k hk
  refine⟨q1,?_⟩
  unfold jX
  rw[q2,IP]
  have e0:(GS 32 (0:Int)).getD k 0=0:=by
   rw[Gr,Js]
   split<;>rfl
  rw[e0,Int.zero_add]
  refine rX _ _ _ λm hm=>?_
  obtain⟨g1,g2⟩:=lX hst hm
  show iH S m*(LM.thI ds (plI gs qs m)).getD k 0=_
  have e1:iH S m=((Gla.paneArea S (S.among S.outlines m.at_):Nat):Int):=by
   obtain⟨l,hl1,hl2⟩:=uB kp (hcl m hm)
   obtain⟨e,_,hpos,rfl⟩:=WL.i7 kp hl2
   unfold iH Gla.paneArea
   rw[hl1]
   dsimp only
   lia
  have e2:Gla.seenOf ⟨LM.aK gs,LM.aK qs⟩ (ds.map Ht) m=(LM.thI ds (plI gs qs m)).map Ht:=by
   unfold Gla.seenOf
   rw[xx bg bq m1 m2 g1 g2,<-LM.oM (λx hx=>(bd x hx).1) (λx hx=>((uO bg bq m) x hx).1)]
  rw[e1,e2,wV (λx hx=>((bd.th (uO bg bq m)) x hx).1) k,Int.natCast_mul]
 have hR:=Ax (hT 0 (by decide)).1 λk hk=>(hT k hk).2
 rw[hR,IP,IP]
 refine HP λk hk=>?_
 show((((S.marks.map λm=>Gla.paneArea S (S.among S.outlines m.at_)*(Gla.seenOf ⟨LM.aK gs,LM.aK qs⟩ (ds.map Ht) m).getD k 0).foldr (λa b=>a+b) 0:Nat):Int)) / (2*(S.w:Int)*(S.h:Int))=(((_ / (2*S.w*S.h):Nat)):Int)
 rw[Int.natCast_ediv,Int.natCast_mul,Int.natCast_mul,IP]
 rfl
theorem xE {cs gs qs ds:List Int}(hb:Byt cs)(hg:∀x∈gs,0<=x)(hq:∀x∈qs,0<=x)(hd:∀x∈ds,0<=x):PyYqglfa.all_of cs gs qs ds=LightNeutral.told (GlaLits.answer (.all (toB cs) ⟨LM.aK gs,LM.aK qs⟩ (ds.map Ht))):=by
 have e:LightNeutral.callOf [[2],cs,gs,qs,ds]=some (.all (toB cs) ⟨LM.aK gs,LM.aK qs⟩ (ds.map Ht)):=by
  show(do some (GlaLits.Call.all (<-LightNeutral.bytes cs) (<-LightNeutral.shop gs qs) (<-ds.mapM LightNeutral.nat)))=_
  unfold LightNeutral.shop
  rw[wO hb,LM.lq _ hg,LM.lq _ hq,LM.mE hd]
  rfl
 unfold PyYqglfa.all_of LightNeutral.f
 rw[e]
theorem Cn {cs gs qs ds:List Int}(hb:Byt cs)(hg:∀x∈gs,0<=x)(hq:∀x∈qs,0<=x)(hd:∀x∈ds,0<=x):zr cs gs qs ds=PyYqglfa.all_of cs gs qs ds:=by
 rw[xE hb hg hq hd]
 have bv:GlaLits.asked (.all (toB cs) ⟨LM.aK gs,LM.aK qs⟩ (ds.map Ht))=((LM.cW gs&&LM.cW qs)&&LM.isL ds):=by
  show(GlaLits.shopOk _&&Gla.lightOk _)=_
  unfold GlaLits.shopOk
  rw[LM.u7 hg,LM.u7 hq,LM.ow hd]
 have hl:(toB cs).length=cs.length:=by unfold toB;rw[lmp]
 unfold GlaLits.answer
 rw[bv]
 unfold zr
 by_cases c:(LM.isL ds&&(LM.cW gs&&LM.cW qs))=false
 ·have e1:gx cs gs qs ds=some [-1]:=by unfold gx;rw[Gk c]
  rw[e1,Gk (by rw[Bool.and_comm];exact c)]
  rfl
 ·rw[Gf (by rw[Bool.and_comm];exact c)]
  have ct:(LM.isL ds&&(LM.cW gs&&LM.cW qs))=true:=by
   cases q:(LM.isL ds&&(LM.cW gs&&LM.cW qs)) with
   |true=>rfl
   |false=>exact absurd q c
  rw[Gi,Gi]at ct
  have m1:=LM.rT ct.2.1
  have m2:=LM.rT ct.2.2
  show _=LightNeutral.told (GlaLits.ofPlan _ _ _)
  unfold GlaLits.ofPlan
  rw[yB m1 m2,hl]
  by_cases c2:(decide (131072<cs.length)||(decide (256<LM.cnt gs)||decide (256<LM.cnt qs)))=true
  ·have e1:gx cs gs qs ds=some [-6]:=by unfold gx;rw[Gf c,Gk c2]
   rw[e1,Gk (by rw[Iz,Gj]at c2;exact c2)]
   rfl
  ·have e1:gx cs gs qs ds=none:=by unfold gx;rw[Gf c,Gf c2]
   obtain⟨bg,bq,bd⟩:=vk e1
   rw[e1,Gf (by rw[Iz,Gj]at c2;exact c2)]
   dsimp only
   unfold tN
   cases e2:cH cs with
   |some x =>
    obtain⟨ft,hj,hx⟩:=wD hb e2
    rw[hj,<-hx]
    rfl
   |none =>
    have hj:=vX hb
    rw[e2]at hj
    have hj:Gla.judgePlan (toB cs)=.ok (aX cs):=hj
    rw[hj]
    obtain⟨_,kp,hcl⟩:=xS hb e2
    generalize aX cs=S at kp hcl
    have hst:Gla.strange ⟨LM.aK gs,LM.aK qs⟩ S=cn gs qs S:=by
     unfold Gla.strange cn Gla.goesWith
     simp only[LM.ef m1,LM.ef m2,lmp,Hl]
    show(match tj (cn gs qs S) with
     |some r=>r
     |none=>0 :: ((qR S gs qs ds).length:Int) :: qR S gs qs ds)=LightNeutral.told (GlaLits.withShop ⟨LM.aK gs,LM.aK qs⟩ S (.row (Gla.windowLight ⟨LM.aK gs,LM.aK qs⟩ S (ds.map Ht))))
    unfold GlaLits.withShop
    rw[hst]
    cases hs:cn gs qs S with
    |some kx=>rfl
    |none =>
     have hd32:ds.length=32:=by
      have:=ct.1
      unfold LM.isL at this
      rw[Gi]at this
      exact FY this.1
     show _=0 :: LightNeutral.rowN (LightNeutral.ints _)
     rw[<-vR kp hcl hs bg bq bd hd32 m1 m2]
     rfl
end Wl
open PySem PySem.W PyProof.Rows
theorem Wl.jz {lo hi:Int}{n m:Nat}{l:List Int}(h:(Codec.inLen n m l&&l.all (Codec.inInt lo hi))=true):l.length<=m/\∀x∈l,lo<=x/\x<=hi:=by
 rw[Gi]at h
 refine⟨(Codec.inNat_iff.mp h.1).2,λx hx=>?_⟩
 have q:=Hk.mp h.2 x hx
 unfold Codec.inInt at q
 rw[Gi,Gj,Gj]at q
 exact q
theorem Wl.zN {P:GQ}{w:HJ}{K:Hq}{mg:Str->Option Value}{base:Heap}{C CV:Gb}(T:Wl.DCl K mg C)(TV:Wl.VCl K mg CV)
  (g0:∃t,mg "HEAD_BYTES"=some (.int 20 t)) (g1:∃t,mg "POINT_BYTES"=some (.int 8 t)) (g2:∃t,mg "LINE_BYTES"=some (.int 4 t)) (g3:∃t,mg "MARK_BYTES"=some (.int 12 t)) (g4:∃t,mg "MOST_LIGHTS"=some (.int 256 t)) (g5:∃t,mg "MOST_BYTES"=some (.int 131072 t)) (g6:∃t,mg "BANDS"=some (.int 32 t)) (g7:∃t,mg "FULL"=some (.int 65535 t))
  (o0:mg "len"=none) (o1:mg "range"=none) (o2:mg "enumerate"=none) (o3:mg "list"=none) (o4:mg "reversed"=none) (o5:mg "min"=none) (o6:mg "max"=none) (o7:mg "zip"=none)
  (gS:Wl.Ed K mg "SIGN" CM.jL) (gH:Wl.AR K mg "HEAD_NUMBERS" CM.eY)
  (I1:Wg.qZ K C "Drawing.__init__" Wl.ik ["self","width","height","points","lines","marks"]) (I2:Wg.qZ K CV "Verdict.__init__" Wl.jw ["self","fault","drawing","outlines"])
  (M1:Wg.l8 K C "place_of_point" "Drawing.place_of_point" Wl.km ["self","k"]) (M2:Wg.l8 K C "place_of_line" "Drawing.place_of_line" Wl.kz ["self","k"]) (M3:Wg.l8 K C "place_of_mark" "Drawing.place_of_mark" Wl.kC ["self","k"]) (M4:Wg.l8 K C "place_of_end" "Drawing.place_of_end" Wl.kJ ["self"])
  (F0:Wg.Has K mg "number_at" Wl.gm ["cartoon","place","size"])
  (F1:Wg.Has K mg "told_length" Wl.eX ["cartoon"])
  (F2:Wg.Has K mg "fault_of_bytes" Wl.dF ["cartoon"])
  (F3:Wg.Has K mg "read_point" Wl.fH ["cartoon","place"])
  (F4:Wg.Has K mg "read_line" Wl.gn ["cartoon","place"])
  (F5:Wg.Has K mg "read_mark" Wl.gp ["cartoon","place"])
  (F6:Wg.Has K mg "read_drawing" Wl.bV ["cartoon"])
  (F7:Wg.Has K mg "turn" Wl.qb ["p","q","r"])
  (F8:Wg.Has K mg "comes_behind" Wl.eC ["q","p"])
  (F9:Wg.Has K mg "is_in_box" Wl.gd ["p","q","r"])
  (F10:Wg.Has K mg "is_on" Wl.mf ["p","q","r"])
  (F11:Wg.Has K mg "are_parted" Wl.fA ["p","q","r","s"])
  (F12:Wg.Has K mg "do_cross" Wl.iC ["p","q","r","s"])
  (F13:Wg.Has K mg "twice_area" Wl.fB ["corners"])
  (F14:Wg.Has K mg "is_left_beside" Wl.dG ["p","q","r"])
  (F15:Wg.Has K mg "is_inside" Wl.gt ["corners","r"])
  (F16:Wg.Has K mg "fault_of_points" Wl.dj ["drawing"])
  (F17:Wg.Has K mg "fault_of_lines" Wl.dL ["drawing"])
  (F18:Wg.Has K mg "are_joined_in_a_row" Wl.b5 ["numbers","lines"])
  (F19:Wg.Has K mg "fault_of_frame" Wl.bn ["drawing"])
  (F20:Wg.Has K mg "has_point_on_it" Wl.di ["drawing","line"])
  (F21:Wg.Has K mg "crosses_one_before" Wl.b7 ["drawing","k"])
  (F22:Wg.Has K mg "fault_of_crossings" Wl.ck ["drawing"])
  (F23:Wg.Has K mg "neighbours_of" Wl.cP ["drawing"])
  (F24:Wg.Has K mg "reached_from" Wl.dz ["start","neighbours","left_out"])
  (F25:Wg.Has K mg "fault_of_ends" Wl.d6 ["drawing","neighbours"])
  (F26:Wg.Has K mg "fault_of_ways" Wl.d3 ["drawing","neighbours"])
  (F27:Wg.Has K mg "fault_of_narrows" Wl.cK ["drawing","neighbours"])
  (F28:Wg.Has K mg "is_within_frame" Wl.c8 ["drawing","mark"])
  (F29:Wg.Has K mg "is_on_some_line" Wl.db ["drawing","mark"])
  (F30:Wg.Has K mg "fault_of_marks" Wl.dP ["drawing"])
  (F31:Wg.Has K mg "fault_of_drawing" Wl.cM ["drawing"])
  (F32:Wg.Has K mg "sorted_by_turn" Wl.dN ["points","middle","ends"])
  (F33:Wg.Has K mg "ring_round" Wl.dI ["points","middle","ends"])
  (F34:Wg.Has K mg "walk_round" Wl.fL ["rings","first","second"])
  (F35:Wg.Has K mg "points_at" Wl.fe ["points","corners"])
  (F36:Wg.Has K mg "outlines_of" Wl.dY ["drawing"])
  (F37:Wg.Has K mg "holder_of" Wl.gb ["mark","shapes"])
  (F38:Wg.Has K mg "judge_marks" Wl.cS ["drawing","outlines"])
  (F39:Wg.Has K mg "judge" Wl.mo ["cartoon"])
  (F40:Wg.Has K mg "are_within" Wl.fz ["row","least","greatest"])
  (F41:Wg.Has K mg "is_light" Wl.ig ["row"])
  (F42:Wg.Has K mg "are_lights" Wl.fK ["row"])
  (F43:Wg.Has K mg "how_many_lights" Wl.dg ["row"])
  (F44:Wg.Has K mg "light_at" Wl.iu ["row","k"])
  (F45:Wg.Has K mg "light_through" Wl.cQ ["one","other"])
  (F46:Wg.Has K mg "first_mark_without_light" Wl.bD ["marks","glasses","paintings"])
  (F47:Wg.Has K mg "pane_light" Wl.fM ["mark","glasses","paintings"])
  (F48:Wg.Has K mg "seen_light" Wl.fI ["mark","glasses","paintings","daylight"])
  (F49:Wg.Has K mg "mean_light" Wl.dO ["areas","lights","whole"])
  (F50:Wg.Has K mg "refusal_of_shop" Wl.dc ["cartoon","glasses","paintings"])
  (F51:Wg.Has K mg "refusal_of_rows" Wl.de ["cartoon","glasses","paintings","daylight"])
  (F52:Wg.Has K mg "refusal_of_cartoon" Wl.b8 ["verdict"])
  (F53:Wg.Has K mg "refusal_of_marks" Wl.cN ["marks","glasses","paintings"])
  (F54:Wg.Has K mg "refusal_of_window" Wl.cv ["verdict","glasses","paintings"])
  (F55:Wg.Has K mg "row_answer" Wl.fw ["row"])
  (F56:Wg.Has K mg "all_of" Wl.gZ ["cartoon","glasses","paintings","daylight"]) :
  Wg.Cb P w K mg base 8 "all_of" ["cartoon","glasses","paintings","daylight"] (Wl.yI K):=by
 have m1:=Wl.DC (P:=P) (w:=w) (base:=base) M1 g0 g1
 have m2:=Wl.DN M2 T o0 g2 m1
 have m3:=Wl.Cz M3 T o0 g3 m2
 have m4:=Wl.Ef M4 T o0 m3
 have i1:=Wl.Ad (P:=P) (w:=w) (base:=base) I1 T
 have i2:=Wl.BZ (P:=P) (w:=w) (base:=base) I2 TV
 have num:=Wl.B1 (P:=P) (w:=w) (base:=base) F0 o4
 have told:=Wl.zP F1 g0 g1 g2 g3 num
 have fb:=Wl.Er F2 o0 o3 g0 gS gH num told
 have rp:=Wl.Di F3 num
 have rl:=Wl.CZ F4 num
 have rm:=Wl.Dk F5 rp rl
 have rd:=Wl.Eu F6 T o0 o1 g0 g1 g2 g3 num rp rl rm i1
 have turn:=Wl.Az (P:=P) (w:=w) (base:=base) F7
 have beh:=Wl.DG (P:=P) (w:=w) (base:=base) F8
 have box:=Wl.Bm (P:=P) (w:=w) (base:=base) F9 o5 o6
 have on_:=Wl.Dd F10 turn box
 have part:=Wl.Ao F11 turn
 have cross:=Wl.xT F12 part
 have area:=Wl.zK (P:=P) (w:=w) (base:=base) F13
 have bes:=Wl.BW F14 turn
 have ins:=Wl.Ej F15 bes
 have f4:=Wl.Dg F16 T o2 m1 beh
 have f5:=Wl.Cw F17 T o2 o0 m2
 have jr:=Wl.EH (P:=P) (w:=w) (base:=base) F18 o1 o0
 have f6:=Wl.E4 F19 T o2 o3 m1 jr
 have ho:=Wl.EW F20 T o1 on_
 have xo:=Wl.EI F21 T o1 cross
 have f7:=Wl.Db F22 T o2 ho xo m2
 have nb:=Wl.Cy (P:=P) (w:=w) (base:=base) F23 T
 have rf:=Wl.D6 (P:=P) (w:=w) (base:=base) F24 o0
 have f8:=Wl.EY F25 T o2 o0 m1
 have f9:=Wl.CY F26 T o2 m1 rf
 have f10:=Wl.BF F27 T o1 o0 m1 rf
 have wf:=Wl.CU (P:=P) (w:=w) (base:=base) F28 T
 have ol:=Wl.DL F29 T on_
 have f11:=Wl.BH F30 T o2 m3 beh wf ol
 have fd:=Wl.EO F31 f4 f5 f6 f7 nb f8 f9 f10 f11
 have st:=Wl.EZ F32 o0 turn
 have rr:=Wl.Eh F33 st
 have wr:=Wl.EN (P:=P) (w:=w) (base:=base) F34
 have pa:=Wl.Dn (P:=P) (w:=w) (base:=base) F35
 have out:=Wl.BA F36 T o2 nb rr wr area pa
 have hold:=Wl.Ai F37 o2 ins
 have jm:=Wl.En F38 T TV o2 o0 i2 pa hold m3 m4
 have j:=Wl.Fz F39 TV i2 fb rd fd out jm
 have wit:=Wl.Ce (P:=P) (w:=w) (base:=base) F40
 have isl:=Wl.A2 F41 g6 o0 g7 wit
 have arel:=Wl.zp F42 g6 o0 g7 wit
 have cnt:=Wl.BM (P:=P) (w:=w) (base:=base) F43 g6 o0
 have lat:=Wl.Bf (P:=P) (w:=w) (base:=base) F44 g6
 have thr:=Wl.BY (P:=P) (w:=w) (base:=base) F45 g7 o7
 have fm:=Wl.ES F46 o2 cnt
 have pn:=Wl.Ep F47 lat thr
 have sn:=Wl.DE F48 pn thr
 have ra:=Wl.DW (P:=P) (w:=w) (base:=base) F55 o0
 have sh:=Wl.AA F50 o0 g4 g5 arel cnt
 have r1:=Wl.Cd F51 isl sh
 have rc:=Wl.Dt (P:=P) (w:=w) (base:=base) F52 TV
 have rm1:=Wl.BO F53 fm
 have rw_:=Wl.DS F54 T TV rc rm1
 have ml:=Wl.Du (P:=P) (w:=w) (base:=base) F49 o7 g6
 exact Wl.B0 F56 T TV r1 j rw_ pa area sn ml ra
open PySem PySem.W L2 Wg Hd
theorem Wl.left:LeftO PySem.Challenge.pw_windowlight_s02_all_of Wl.qv [] (λs=>xlAt Wl.qv [] s&&recOk [] s) (λs=>Wl.fx (m6 s.heap)) (λ_=>Wl.ax) 5176:=DB (by kernel_rfl) (by decide +kernel) (λs=>by kernel_rfl) (λw=>by kernel_rfl) Wl.k1 Wl.k0 Wl.k2 Wl.k3
end
section
open PySem PySem.W PyProof.Rows L2 Wg Hd
set_option maxRecDepth 100000 in
set_option maxHeartbeats 0 in
theorem PySem.Challenge.cw_windowlight_s02_all_of_holds : PySem.Challenge.rw_windowlight_s02_all_of.Holds := by
 refine holds_os (q:=Wl.qv) (loose:=[]) (Xt:=λs=>xlAt Wl.qv [] s&&recOk [] s) (XP:=XL Wl.qv []) (Yf:=λs=>Wl.fx (m6 s.heap)) (Ya:=λ_=>Wl.ax) (YP:=λ_ h=>∃K:Hq,K.In h/\Wl.fx K=Wl.ax) (N:=5176) Wl.left
  (λw s e=>⟨_,wm _,e⟩) (λw h h' y k=>by obtain⟨K,a,b⟩:=y;exact⟨K,λx o e=>k x o (a x o e),b⟩) (λs e=>xl_of s (HX.mp e).1) XL.keeps (by rfl) (by rfl) (by rfl) (λs e=>recFacts_of (HX.mp e).2) os_shapes
  (by decide +kernel) (by decide +kernel) ⟨rfl,rfl,rfl,rfl,rfl,by decide +kernel⟩ ⟨[.list [],.list [],.list [],.list []],by decide +kernel,by decide +kernel⟩ ?_
 refine Hd.DM (k:=8) (ps:=["cartoon","glasses","paintings","daylight"]) (sp:=Wl.yI) (by decide +kernel) rfl rfl ⟨rfl,by decide,by decide⟩ ?F ?S
 case F =>
  intro w mg fa h K hx KX G hmg
  obtain⟨h1,hx⟩:=Io hx
  obtain⟨h2,hx⟩:=Io hx
  obtain⟨h3,hx⟩:=Io hx
  obtain⟨h4,hx⟩:=Io hx
  obtain⟨h5,h6⟩:=Io hx
  have F0:=bv (ps:=["cartoon","place","size"]) KX G (nth h1 0 rfl)
  have F1:=bv (ps:=["cartoon"]) KX G (nth h1 1 rfl)
  have F2:=bv (ps:=["cartoon"]) KX G (nth h1 2 rfl)
  have F3:=bv (ps:=["cartoon","place"]) KX G (nth h1 3 rfl)
  have F4:=bv (ps:=["cartoon","place"]) KX G (nth h1 4 rfl)
  have F5:=bv (ps:=["cartoon","place"]) KX G (nth h1 5 rfl)
  have F6:=bv (ps:=["cartoon"]) KX G (nth h1 6 rfl)
  have F7:=bv (ps:=["p","q","r"]) KX G (nth h1 7 rfl)
  have F8:=bv (ps:=["q","p"]) KX G (nth h1 8 rfl)
  have F9:=bv (ps:=["p","q","r"]) KX G (nth h1 9 rfl)
  have F10:=bv (ps:=["p","q","r"]) KX G (nth h1 10 rfl)
  have F11:=bv (ps:=["p","q","r","s"]) KX G (nth h1 11 rfl)
  have F12:=bv (ps:=["p","q","r","s"]) KX G (nth h1 12 rfl)
  have F13:=bv (ps:=["corners"]) KX G (nth h1 13 rfl)
  have F14:=bv (ps:=["p","q","r"]) KX G (nth h1 14 rfl)
  have F15:=bv (ps:=["corners","r"]) KX G (nth h1 15 rfl)
  have F16:=bv (ps:=["drawing"]) KX G (nth h1 16 rfl)
  have F17:=bv (ps:=["drawing"]) KX G (nth h1 17 rfl)
  have F18:=bv (ps:=["numbers","lines"]) KX G (nth h1 18 rfl)
  have F19:=bv (ps:=["drawing"]) KX G (nth h1 19 rfl)
  have F20:=bv (ps:=["drawing","line"]) KX G (nth h1 20 rfl)
  have F21:=bv (ps:=["drawing","k"]) KX G (nth h1 21 rfl)
  have F22:=bv (ps:=["drawing"]) KX G (nth h1 22 rfl)
  have F23:=bv (ps:=["drawing"]) KX G (nth h1 23 rfl)
  have F24:=bv (ps:=["start","neighbours","left_out"]) KX G (nth h1 24 rfl)
  have F25:=bv (ps:=["drawing","neighbours"]) KX G (nth h1 25 rfl)
  have F26:=bv (ps:=["drawing","neighbours"]) KX G (nth h1 26 rfl)
  have F27:=bv (ps:=["drawing","neighbours"]) KX G (nth h1 27 rfl)
  have F28:=bv (ps:=["drawing","mark"]) KX G (nth h1 28 rfl)
  have F29:=bv (ps:=["drawing","mark"]) KX G (nth h1 29 rfl)
  have F30:=bv (ps:=["drawing"]) KX G (nth h1 30 rfl)
  have F31:=bv (ps:=["drawing"]) KX G (nth h1 31 rfl)
  have F32:=bv (ps:=["points","middle","ends"]) KX G (nth h1 32 rfl)
  have F33:=bv (ps:=["points","middle","ends"]) KX G (nth h1 33 rfl)
  have F34:=bv (ps:=["rings","first","second"]) KX G (nth h1 34 rfl)
  have F35:=bv (ps:=["points","corners"]) KX G (nth h1 35 rfl)
  have F36:=bv (ps:=["drawing"]) KX G (nth h1 36 rfl)
  have F37:=bv (ps:=["mark","shapes"]) KX G (nth h1 37 rfl)
  have F38:=bv (ps:=["drawing","outlines"]) KX G (nth h1 38 rfl)
  have F39:=bv (ps:=["cartoon"]) KX G (nth h1 39 rfl)
  have F40:=bv (ps:=["row","least","greatest"]) KX G (nth h1 40 rfl)
  have F41:=bv (ps:=["row"]) KX G (nth h1 41 rfl)
  have F42:=bv (ps:=["row"]) KX G (nth h1 42 rfl)
  have F43:=bv (ps:=["row"]) KX G (nth h1 43 rfl)
  have F44:=bv (ps:=["row","k"]) KX G (nth h1 44 rfl)
  have F45:=bv (ps:=["one","other"]) KX G (nth h1 45 rfl)
  have F46:=bv (ps:=["marks","glasses","paintings"]) KX G (nth h1 46 rfl)
  have F47:=bv (ps:=["mark","glasses","paintings"]) KX G (nth h1 47 rfl)
  have F48:=bv (ps:=["mark","glasses","paintings","daylight"]) KX G (nth h1 48 rfl)
  have F49:=bv (ps:=["areas","lights","whole"]) KX G (nth h1 49 rfl)
  have F50:=bv (ps:=["cartoon","glasses","paintings"]) KX G (nth h1 50 rfl)
  have F51:=bv (ps:=["cartoon","glasses","paintings","daylight"]) KX G (nth h1 51 rfl)
  have F52:=bv (ps:=["verdict"]) KX G (nth h1 52 rfl)
  have F53:=bv (ps:=["marks","glasses","paintings"]) KX G (nth h1 53 rfl)
  have F54:=bv (ps:=["verdict","glasses","paintings"]) KX G (nth h1 54 rfl)
  have F55:=bv (ps:=["row"]) KX G (nth h1 55 rfl)
  have F56:=bv (ps:=["cartoon","glasses","paintings","daylight"]) KX G (nth h1 56 rfl)
  obtain⟨C,mC,cl,mk,kc,nf,mt⟩:=DH KX G (nth h4 0 rfl)
  obtain⟨CV,mV,clV,mkV,kcV,nfV,mtV⟩:=DH KX G (nth h4 1 rfl)
  have T:Wl.DCl K mg C:=⟨cl,nf _ (.head _),nf _ (.tail _ (.head _)),nf _ (.tail _ (.tail _ (.head _))),nf _ (.tail _ (.tail _ (.tail _ (.head _)))),nf _ (.tail _ (.tail _ (.tail _ (.tail _ (.head _))))),mC⟩
  have TV:Wl.VCl K mg CV:=⟨clV,nfV _ (.head _),nfV _ (.tail _ (.head _)),nfV _ (.tail _ (.tail _ (.head _))),mV⟩
  have I1:=Ey (ps:=["self","width","height","points","lines","marks"]) mk kc (mt _ (.head _))
  have I2:=Ey (ps:=["self","fault","drawing","outlines"]) mkV kcV (mtV _ (.head _))
  have M1:=zJ (ps:=["self","k"]) (mt _ (.tail _ (.head _)))
  have M2:=zJ (ps:=["self","k"]) (mt _ (.tail _ (.tail _ (.head _))))
  have M3:=zJ (ps:=["self","k"]) (mt _ (.tail _ (.tail _ (.tail _ (.head _)))))
  have M4:=zJ (ps:=["self"]) (mt _ (.tail _ (.tail _ (.tail _ (.tail _ (.head _))))))
  exact F56.top hmg λbase _ _=>Wl.zN T TV (rk KX G (nth h2 0 rfl)) (rk KX G (nth h2 1 rfl)) (rk KX G (nth h2 2 rfl)) (rk KX G (nth h2 3 rfl)) (rk KX G (nth h2 4 rfl)) (rk KX G (nth h2 5 rfl)) (rk KX G (nth h2 6 rfl)) (rk KX G (nth h2 7 rfl)) (mg_none_of KX G (nth h3 0 rfl)) (mg_none_of KX G (nth h3 1 rfl)) (mg_none_of KX G (nth h3 2 rfl)) (mg_none_of KX G (nth h3 3 rfl)) (mg_none_of KX G (nth h3 4 rfl)) (mg_none_of KX G (nth h3 5 rfl)) (mg_none_of KX G (nth h3 6 rfl)) (mg_none_of KX G (nth h3 7 rfl)) (FD (by decide) KX G h5) (Cv (by decide) (by decide) KX G h6) I1 I2 M1 M2 M3 M4 F0 F1 F2 F3 F4 F5 F6 F7 F8 F9 F10 F11 F12 F13 F14 F15 F16 F17 F18 F19 F20 F21 F22 F23 F24 F25 F26 F27 F28 F29 F30 F31 F32 F33 F34 F35 F36 F37 F38 F39 F40 F41 F42 F43 F44 F45 F46 F47 F48 F49 F50 F51 F52 F53 F54 F55 F56
 case S =>
  intro K H xs a hO hwi bv hx
  cases hx with
  |cons h0 r0 =>
  cases r0 with
  |cons h1 r1 =>
  cases r1 with
  |cons h2 r2 =>
  cases r2 with
  |cons h3 r3 =>
  cases r3
  cases h0 with
  |lst hs0 ha0 =>
  cases h1 with
  |lst hs1 ha1 =>
  cases h2 with
  |lst hs2 ha2 =>
  cases h3 with
  |lst hs3 ha3 =>
  have e0:=L2.kF a.1 _ ha0
  subst e0
  have e1:=L2.kF a.2.1 _ ha1
  subst e1
  have e2:=L2.kF a.2.2.1 _ ha2
  subst e2
  have e3:=L2.kF a.2.2.2.1 _ ha3
  subst e3
  have q:((Codec.inLen 0 100000 a.1&&a.1.all (Codec.inInt 0 255))&&((Codec.inLen 0 9000 a.2.1&&a.2.1.all (Codec.inInt 0 4294967295))&&((Codec.inLen 0 9000 a.2.2.1&&a.2.2.1.all (Codec.inInt 0 4294967295))&&((Codec.inLen 0 100 a.2.2.2.1&&a.2.2.2.1.all (Codec.inInt 0 4294967295))&&true))))=true:=hwi
  obtain⟨q0,q⟩:=HX.mp q
  obtain⟨q1,q⟩:=HX.mp q
  obtain⟨q2,q⟩:=HX.mp q
  obtain⟨q3,q⟩:=HX.mp q
  obtain⟨l0,b0⟩:=Wl.jz q0
  obtain⟨l1,b1⟩:=Wl.jz q1
  obtain⟨l2,b2⟩:=Wl.jz q2
  obtain⟨l3,b3⟩:=Wl.jz q3
  refine⟨_,_,_,_,a.1,a.2.1,a.2.2.1,a.2.2.2.1,rfl,⟨hs0,by omega⟩,⟨hs1,by omega⟩,⟨hs2,by omega⟩,⟨hs3,by omega⟩,b0,λH' p hp=>?_⟩
  rw[Wl.Cn b0 (λx hx=>(b1 x hx).1) (λx hx=>(b2 x hx).1) (λx hx=>(b3 x hx).1)]at hp
  exact .lst (L2.SqL.of hp) (L2.uq _)
end
