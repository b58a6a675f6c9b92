import PyProof.Rows.All
import Wide.All
import OpenK.AllK
import Wide.FinOn
import PyProof.EqAt
import PyProof.EqKinds
import PyProof.TupleCall
import KE.BitLaws
import Open.SpecLaws
import KE.OsHead
import KE.OsGo
import KE.KDictSum
import KE.KSortTupG
import PySem.Challenge.RW_windowlight_s05_alike
set_option Elab.async false
set_option linter.all false
set_option maxRecDepth 100000
set_option maxHeartbeats 4000000
open PySem.W (Frag)
theorem bcn {p : Prop} (h : ¬p → False) : p := Classical.byContradiction h
theorem osi {α : Type} {a b : α} (h : some a = some b) : a = b := Option.some.inj h
theorem dqf {p : Prop} [Decidable p] (h : ¬p) : decide p = false := decide_eq_false h
theorem dqt {p : Prop} [Decidable p] (h : p) : decide p = true := decide_eq_true h
theorem nlr (n : Nat) : n ≤ n := Nat.le_refl n
theorem gsi {α : Type} {l : List α} {i : Nat} {a : α} (h : l[i]? = some a) : ∃ h : i < l.length, l[i] = a := List.getElem?_eq_some_iff.mp h
theorem gge {α : Type} {l : List α} {i : Nat} (h : i < l.length) : l[i]? = some l[i] := List.getElem?_eq_getElem h
theorem lmp {α β : Type} {l : List α} (f : α → β) : (l.map f).length = l.length := List.length_map f
open PySem renaming wpAny_bind→Hj,Shared→Hl,Addr→Hm,sizeLine→Hr,wpAny_pure→HL,wpAny→Ig,Program→Ih,starEach→Ii,mainGlobals→Im,model→Io,mem_of_lookup→Ir,Spec→Iw,boot_len→IB,World→I0,compareOp→Je,wpAny_truthy_bool→Jv,cellsFrom→Jx,Stmt→JO,sysModules→JV,wpAny_call_entry→J2,wpAny_typeNameOfWhole_keyiter→J3,bootBuiltins→J9,wpAny_mono→Km,wpAny_passesOwn→KA,wpAny_typeNameOf_keyiter→KE,wpAny_callSpecial?_slot→KH,backTo→KQ,wpAny_Call_Name_kw→KS,tupleKind_room_in1→KU,eval→KW,keywordEach→KY,wpAny_loadPart'→KZ,behindInMarks→Ld,FuncData→Le,compEnvC→Lu
open List renaming length_append→Hn,mem_cons_of_mem→Ho,mem_cons→Hq,getElem?_map→Hw,getD_eq_getElem?_getD→Hx,size_toArray→HA,getElem?_append_right→HC,mem_cons_self→HD,getElem?_append_left→HE,map_append→HI,mem_map→HM,map_cons→HN,getElem_mem→HP,pairwise_iff_getElem→HQ,range→HS,mem_append→HU,length_cons→HW,mem_filter→HZ,getElem_of_mem→Ib,mem_of_getElem?→Ic,length_drop→Il,append_nil→Iq,length_take→Iv,mem_range→Ix,pairwise_cons→Iy,dropLast_concat_getLast→ID,map_congr_left→II,pairwise_append→IK,all_eq_true→IL,take_of_length_le→IR,take_length→IU,length_range→IX,nodup_cons→Ja,mem_of_mem_take→Jd,mem_append_right→Jg,any_eq_true→Jt,length_filter_le→JA,find?_cons→JC,length_eq_zero_iff→JD,zip_cons_cons→JE,nil_append→JF,map_map→JH,nodup_append→JK,mem_take_iff_getElem→JM,drop_eq_getElem_cons→JN,contains_iff_mem→JT,length_zip→JU,lookup_cons→J1,getLast_mem→J4,mem_flatMap→J5,getElem?_set_ne→J6,mem_of_mem_drop→J7,replicate→Kb,append_assoc→Kd,getElem?_range→Kf,idxOf_lt_length_of_mem→Kg,foldl_cons→Kh,range_succ→Ki,drop_eq_nil_of_le→Kk,length_replicate→Ko,map_take→Kq,mem_iff_getElem?→Kr,find?_eq_none→Kv,eq_nil_or_concat→Kw,mem_singleton→Kx,mem_iff_getElem→Ky,any_eq_false→KB,length_nil→KD,getElem_drop→KF,find?_eq_some_iff_getElem→KG,flatMap_append→KJ,filter_cons_of_pos→KL,filter_cons_of_neg→KM,getElem_zip→KN,getElem?_set_self→KP,mem_filterMap→KR,length_singleton→K0,getElem?_eq_none→K1,concat_eq_append→K4,map_drop→Lh,pairwise_map→Lk,cons_append→Lv,lookup→Lx,map_nil→LB
open Int renaming mul_nonneg→Ht,mul_pos→HH,toNat_natCast→IV,mul_comm→Jz,toNat→JR,mul_eq_zero→JS,le_of_lt→Ku
open Bool renaming and_eq_true→Hu,false_ne_true→HG,eq_iff_iff→Ip,false_and→IF,false_xor→IQ,noConfusion→IT,xor_false→Jl,true_and→Jn,and_eq_true_iff→Jp,or_eq_true→Jq,xor_comm→Ks,xor_self→KI,and_false→Lq,true_or→LF
open PySem.Heap renaming get?_push_of_some→Hy,lt_size→HB,get?_push_size→HR,size_push→Jc,get?_update_other→JI,get?_update_self→JQ
open PySem.PassesOwn renaming never→HJ
open Nat renaming lt_of_lt_of_le→HV,min_eq_right→HX,min_eq_left→Ia,ne_of_lt→Ij,le_trans→Ik,lt_of_le_of_lt→Iu,lt_or_gt_of_ne→IA,max_eq_right→IG,zero_le→IH,sub_self→IJ,not_lt_zero→IM,max_eq_left→Jh,le_add_right→Jk,lt_irrefl→Js,add_le_add_left→Ju,zero_add→Jy,ne_of_gt→JP,le_of_lt→Ka,lt_succ_of_lt→KC,lt_trichotomy→Li
open PySem.Value renaming ref→HY,none→Lb
open Ne renaming symm→Ie
open PyProof.Rows renaming callWith_type1→Iz
open PySem.PyData renaming int→IC,tuple→K5,canLayAll0→Ll
open PySem.F renaming plainAttrs_list→IE,slot_list_append→JZ,type_list_append→J0,slot_enumerate_next→K6,plain_extend_loop→Lz
open PySem.W renaming Frag→IN,emptyDict→Jw,findIn→JB,keepIn→JL,fnOf→Kc,instObj→Ke,mg_none_of→Lm,codeIn→Lp
open Or renaming inr→IP,inl→Jr
open Gla renaming firstBad→IS,lineBelow→IZ,turn→Jo,markBelow→JG,alikeIn→Kj,markOk→Kn,Mark→Kz,parts→KO,touches→K7,seenFrom→K8,insideOf→K9,frameOk→LA,noneSeen→LH
open Array renaming getElem?_setIfInBounds_ne→IW,getD_eq_getD_getElem?→Ji,length_toList→JJ,toList_setIfInBounds→Kl,getElem?_toList→Kp,perm_iff_toList_perm→Ln,getElem?_eq_getElem→Lr
open Prod.mk renaming inj→IY,injEq→Kt
open PySem.Builtin.List renaming listExtendWith→Jj,listTooLong→LC
open False renaming elim→Jm
open PySem.Obj renaming mapSeq→JX
open List.Pairwise renaming imp_of_mem→JY,nil→Lj
open PySem.Builtin.Range renaming rangeSize→J8
open Option renaming map_some→K2
open Classical renaming choose_spec→La
open PySem.Paired renaming length→Lc
open Prod renaming ext→Lg
open LightNeutral renaming nat→Lw
open PySem.Builtin.SmallTypes renaming ownedTupleIsFree→Ly
open PySem.W.Codec renaming encAll→LG
def Hk:=@of_decide_eq_true
def Hs:=@if_neg
def Hv:=@decide_eq_true_eq
def Hz:=@if_pos
def HK:=@decide_eq_decide
def Jb:=@congrArg
def Jf:=@beq_eq_false_iff_ne
def JW:=@beq_iff_eq
def K3:=@decide_false
def Lf:=@if_false
namespace L2
open PySem PySem.Spec PyProof.Rows
def jH (s:JO)(j:Nat):JO:=match s with
 |.ClassDef _ _ _ body _ _ _ _ _ _ _=>body.getD j (.Pass ⟨0,0,0,0⟩)
 |_=>.Pass ⟨0,0,0,0⟩
def df (s:JO):Arguments:=match s with
 |.FunctionDef _ a _ _ _ _ _ _ _ _=>a
 |_=>{ posonlyargs:=[],args:=[],vararg:=none,kwonlyargs:=[],kw_defaults:=[],kwarg:=none,defaults:=[] }
def bZ (s:JO):List JO:=match s with
 |.FunctionDef _ _ b _ _ _ _ _ _ _=>b
 |_=>[]
def ag (s:JO):Scope:=match s with
 |.FunctionDef _ _ _ _ _ _ sc _ _ _=>sc
 |_=>{ kind:=.function,names:=[],isGenerator:=false,isCoroutine:=false }
end L2
namespace CM
open PySem PySem.Spec
def j5:List Int:=[71,76,65,49]
def fA:List (List Int):=[[4,4,16,1048575],[8,4,16,1048575],[12,2,4,4096],[14,2,4,8192],[16,2,1,2048],[18,2,0,0]]
end CM
namespace Hd
open PySem PySem.W PyProof.Rows L2
def m6 (h:Heap):IN:=(HS h.objs.size).filterMap λa=>(h.get? a).map λo=>(a,o)
abbrev FI:=Arguments×FuncBody×Scope×Str×Str×Hm×List (Str×Hm)×Value×Hm×Bool
def oO (K:IN)(f:Hm):Option FI:=match K.lookup f with
 |some ⟨_,_,.func fd,_⟩=>some (fd.params,fd.body,fd.scope,fd.name,fd.qualname,fd.globals,fd.closure,fd.defaults,fd.builtins,codeIn K fd.code fd.qualname)
 |_=>none
def t6 (n q:Str)(st:JO):FI:=(df st,.stmts (bZ st),ag st,n,q,Im,[],.none,builtinsNs,true)
def jP (K:IN)(x:Str):Option Hm:=match nsIn K Im x with
 |some (some (.ref f))=>some f
 |_=>none
def yO (K:IN)(x:Str):Option FI:=(jP K x).bind (oO K)
def zj (K:IN)(x:Str):Option Int:=match nsIn K Im x with
 |some (some (.int i _))=>some i
 |_=>none
def Bu (K:IN)(C:Hm)(m:Str):Option (Bool×Option FI):=match findIn K (.ref C) m with
 |some (some (.ref f))=>some (isFn K (.ref f),oO K f)
 |_=>none
abbrev CI:=List Bool×List (Option (Option Value))×List (Option (Bool×Option FI))
def yL (K:IN)(c:Str)(fields:List Str)(ms:List (Str×Str×JO)):Option CI:=(jP K c).map λC =>
 ([plainGet K C Str.empty,hasDictIn K C,plainOver K C,makesIn K C,keepIn K (.ref C)],findIn K (.ref C) "__setattr__" :: fields.map (findIn K (.ref C)),ms.map λm=>Bu K C m.1)
def CC (fields:List Str)(ms:List (Str×Str×JO)):CI:=([true,true,true,true,true],some (some (.builtin "object.__setattr__")) :: fields.map (λ_=>some none),ms.map λm=>some (true,some (t6 m.1 m.2.1 m.2.2)))
def i4 (K:IN)(p:Hm):Option (Value×List Value):=match K.lookup p with
 |some ⟨c,_,.seq its _,_⟩=>some (c,its.toList)
 |_=>none
def Ge:Value->Option Int
 |.int i _=>some i
 |_=>none
def nv (K:IN)(p:Hm):Option (Value×List (Option Int)):=(i4 K p).map λx=>(x.1,x.2.map Ge)
def yU (K:IN)(x:Str):Option (Value×List (Option Int)):=(jP K x).bind (nv K)
def DP (K:IN):Value->Option (Value×List (Option Int))
 |.ref b=>nv K b
 |_=>none
def uO (K:IN)(x:Str):Option (Value×List (Option (Value×List (Option Int)))):=(jP K x).bind λp=>(i4 K p).map λy=>(y.1,y.2.map (DP K))
def qP (r:List Int):Value×List (Option Int):=(.type "tuple",r.map some)
noncomputable def rE (p:Ih) (N:Nat) (w:I0) (os:OsState):Option Hl:=PySem.W.Fast.tw14082659384304107361 PySem.W.Fast.tw14364793385576792824 p w (boot_heap w.params).objs.size ((boot_heap w.params).nsMap Im "__annotations__") N ⟨boot_heap w.params,Array.mk [],boot_drawn,boot_toks,os⟩ (topStub p)
noncomputable def yw (p:Ih) (w:I0) (s:Hl):Bool:=staticsOk (importedModules p.main.body) (boot_heap w.params) s.heap&&namesBound p s.heap&&gensDone s&&laidKept (boot_heap w.params) s.heap
noncomputable def l5 (p q:Ih) (s:Hl):=PySem.W.Fast.tw4187177175401517315 q [] (importedModules p.main.body) (λs=>xlAt q [] s&&recOk [] s) true s
end Hd
namespace Wl
open PySem PySem.W PyProof.Rows L2 Hd
def top (i:Nat):JO:=PySem.Challenge.pw_windowlight_s05_alike.main.body.getD i (.Pass ⟨0,0,0,0⟩)
abbrev gZ:JO:=top 7
abbrev gu:JO:=top 8
abbrev fj:JO:=top 9
abbrev dO:JO:=top 10
abbrev fW:JO:=top 11
abbrev gv:JO:=top 12
abbrev gI:JO:=top 13
abbrev bX:JO:=top 14
abbrev rK:JO:=top 16
abbrev eN:JO:=top 17
abbrev gx:JO:=top 18
abbrev mQ:JO:=top 19
abbrev fV:JO:=top 20
abbrev iM:JO:=top 21
abbrev fS:JO:=top 22
abbrev dM:JO:=top 23
abbrev gA:JO:=top 24
abbrev de:JO:=top 26
abbrev dR:JO:=top 27
abbrev b6:JO:=top 28
abbrev bp:JO:=top 29
abbrev dk:JO:=top 30
abbrev ck:JO:=top 31
abbrev cg:JO:=top 32
abbrev cX:JO:=top 33
abbrev dD:JO:=top 34
abbrev d6:JO:=top 35
abbrev d8:JO:=top 36
abbrev cS:JO:=top 37
abbrev dl:JO:=top 38
abbrev dq:JO:=top 39
abbrev dQ:JO:=top 40
abbrev cK:JO:=top 41
abbrev dI:JO:=top 43
abbrev dJ:JO:=top 44
abbrev fQ:JO:=top 45
abbrev fw:JO:=top 46
abbrev d5:JO:=top 47
abbrev d7:JO:=top 48
abbrev eO:JO:=top 49
abbrev wR:JO:=top 51
abbrev gt:JO:=top 52
abbrev cZ:JO:=top 53
abbrev mP:JO:=top 54
abbrev gb:JO:=top 58
abbrev fT:JO:=top 59
abbrev dh:JO:=top 60
abbrev iK:JO:=top 61
abbrev cW:JO:=top 62
abbrev cT:JO:=top 63
abbrev bD:JO:=top 65
abbrev fR:JO:=top 66
abbrev d3:JO:=top 67
abbrev di:JO:=top 71
abbrev cu:JO:=top 72
abbrev cQ:JO:=top 73
abbrev cE:JO:=top 74
abbrev fY:JO:=top 75
abbrev kj:JO:=top 76
abbrev iI:JO:=jH gZ 0
abbrev kT:JO:=jH gZ 1
abbrev k9:JO:=jH gZ 2
abbrev kW:JO:=jH gZ 3
abbrev kl:JO:=jH gZ 4
abbrev jA:JO:=jH wR 0
def qv:Ih:={ PySem.Challenge.pw_windowlight_s05_alike with main:={ PySem.Challenge.pw_windowlight_s05_alike.main with body:=([1,2,3,4,5,6,7,8,9,10,11,12,13,14,16,17,18,19,20,21,22,23,24,26,27,28,29,30,31,32,33,34,35,36,37,38,39,40,41,43,44,45,46,47,48,49,51,52,53,54,56,57,58,59,60,61,62,63,65,66,67,69,70,71,72,73,74,75,76]:List Nat).map top } }
def Gp:List (Str×JO):=[("number_at",gu),("told_length",fj),("fault_of_bytes",dO),("read_point",fW),("read_line",gv),("read_mark",gI),("read_drawing",bX),("turn",rK),("comes_behind",eN),("is_in_box",gx),("is_on",mQ),("are_parted",fV),("do_cross",iM),("twice_area",fS),("is_left_beside",dM),("is_inside",gA),("fault_of_points",de),("fault_of_lines",dR),("are_joined_in_a_row",b6),("fault_of_frame",bp),("has_point_on_it",dk),("crosses_one_before",ck),("fault_of_crossings",cg),("neighbours_of",cX)]
def GI:List (Str×JO):=[("reached_from",dD),("fault_of_ends",d6),("fault_of_ways",d8),("fault_of_narrows",cS),("is_within_frame",dl),("is_on_some_line",dq),("fault_of_marks",dQ),("fault_of_drawing",cK),("sorted_by_turn",dI),("ring_round",dJ),("walk_round",fQ),("points_at",fw),("outlines_of",d5),("panes_by_ways",d7),("pairs_beside",eO),("holder_of",gt),("judge_marks",cZ),("judge",mP),("are_within",gb),("are_lights",fT),("how_many_lights",dh),("light_at",iK),("light_through",cW),("how_far_apart",cT)]
def Gu:List (Str×JO):=[("first_mark_without_light",bD),("pane_light",fR),("pairs_alike",d3),("refusal_of_shop",di),("refusal_of_cartoon",cu),("refusal_of_marks",cQ),("refusal_of_window",cE),("row_answer",fY),("alike",kj)]
def dfs:List (Str×JO):=Gp++GI++Gu
def nms:List (Str×Int):=[("HEAD_BYTES",20),("POINT_BYTES",8),("LINE_BYTES",4),("MARK_BYTES",12),("MOST_LIGHTS",256),("MOST_BYTES",131072),("BANDS",32),("FULL",65535)]
def nns:List Str:=["len","range","enumerate","list","reversed","min","max","zip","sum","sorted"]
def cls:List (Str×List Str×List (Str×Str×JO)):=[("Drawing",["width","height","points","lines","marks"],[("__init__","Drawing.__init__",iI),("place_of_point","Drawing.place_of_point",kT),("place_of_line","Drawing.place_of_line",k9),("place_of_mark","Drawing.place_of_mark",kW),("place_of_end","Drawing.place_of_end",kl)]),("Verdict",["fault","drawing","outlines"],[("__init__","Verdict.__init__",jA)])]
def fx (K:IN):=(dfs.map (λd=>yO K d.1),nms.map (λd=>zj K d.1),nns.map (nsIn K Im),cls.map (λc=>yL K c.1 c.2.1 c.2.2),yU K "SIGN",uO K "HEAD_NUMBERS")
def ax:=(dfs.map (λd=>some (t6 d.1 d.1 d.2)),nms.map (λd=>some d.2),nns.map (λ_=>(some none:Option (Option Value))),cls.map (λc=>some (CC c.2.1 c.2.2)),some (qP CM.j5),some ((.type "tuple" : Value),CM.fA.map λr=>some (qP r)))
theorem k1:∀w os,(rE PySem.Challenge.pw_windowlight_s05_alike 5180 w os).map (λs=>(yw PySem.Challenge.pw_windowlight_s05_alike w s,(l5 PySem.Challenge.pw_windowlight_s05_alike qv s).1))=some (true,(openGood qv []).1):=λw os=>by kernel_rfl
theorem k0:∀w os,(rE PySem.Challenge.pw_windowlight_s05_alike 5180 w os).map (λs=>((l5 PySem.Challenge.pw_windowlight_s05_alike qv s).2.1,(l5 PySem.Challenge.pw_windowlight_s05_alike qv s).2.2.1))=some ((openGood qv []).2.1,(openGood qv []).2.2.1):=λw os=>by kernel_rfl
theorem k2:∀w os,(rE PySem.Challenge.pw_windowlight_s05_alike 5180 w os).map (λs=>(l5 PySem.Challenge.pw_windowlight_s05_alike qv s).2.2.2)=some (openGood qv []).2.2.2:=λw os=>by kernel_rfl
theorem k3:∀w os,(rE PySem.Challenge.pw_windowlight_s05_alike 5180 w os).map (λs=>fx (m6 s.heap))=some ax:=λw os=>by kernel_rfl
end Wl
namespace L2
open PySem PySem.Spec PyProof.Rows
abbrev Key:=Sum Int Str
def lZ:Key->Value->Bool
 |.inl k,v=>Value.isInt k v
 |.inr x,v=>Value.isStrOf x v
def GU (w:I0):Key->Int
 |.inl k=>hashInt k
 |.inr x=>hashStr w x
theorem bV:∀{k:Key} {v:Value},lZ k v=true->(∃i t,k=Sum.inl i/\v=Value.int i t)\/(∃x t,k=Sum.inr x/\v=Value.str x t)
 |.inl i,v,h=>by
  obtain⟨t,e⟩:=Value.isInt_shape (k:=i) (v:=v) h
  exact .inl ⟨i,t,rfl,e⟩
 |.inr x,v,h=>by
  obtain⟨t,e⟩:=Value.isStrOf_shape (x:=x) (v:=v) h
  exact .inr ⟨x,t,rfl,e⟩
theorem wP (i:Int)(t:Tok):lZ (.inl i) (.int i t)=true:=by simp[lZ,Value.isInt]
theorem xz (x:Str)(t:Tok):lZ (.inr x) (.str x t)=true:=by simp[lZ,Value.isStrOf]
theorem Dt (a b:Int):decide ((Sum.inl a:Key)=Sum.inl b)=(a==b):=by
 by_cases e:a=b
 ·subst e;simp
 ·have h:¬(Sum.inl a:Key)=Sum.inl b:=λq=>e (Sum.inl.inj q)
  rw[dqf h]
  exact(Jf.mpr e).symm
theorem BV (a b:Str):decide ((Sum.inr a:Key)=Sum.inr b)=decide (a=b):=by
 by_cases e:a=b
 ·subst e;simp
 ·have h:¬(Sum.inr a:Key)=Sum.inr b:=λq=>e (Sum.inr.inj q)
  rw[dqf h,dqf e]
theorem DE (a:Int)(b:Str):decide ((Sum.inl a:Key)=Sum.inr b)=false:=dqf (λq=>nomatch q)
theorem Dy (a:Str)(b:Int):decide ((Sum.inr a:Key)=Sum.inl b)=false:=dqf (λq=>nomatch q)
def cD (prog:Ih)(w:I0):PySem.KeyKind prog w Key where
 is:=lZ
 hash:=GU w
 inj:=λv a b ha hb=>by
  rcases bV ha with⟨i,t,rfl,rfl⟩|⟨x,t,rfl,rfl⟩
  ·rcases bV hb with⟨j,u,rfl,e⟩|⟨y,u,rfl,e⟩
   ·injection e with e1 _;rw[e1]
   ·exact nomatch e
  ·rcases bV hb with⟨j,u,rfl,e⟩|⟨y,u,rfl,e⟩
   ·exact nomatch e
   ·injection e with e1 _;rw[e1]
 byValue:=λk v h=>by
  rcases bV h with⟨i,t,rfl,rfl⟩|⟨x,t,rfl,rfl⟩<;>rfl
 pyHash:=λhv h=>by
  rcases bV hv with⟨i,t,rfl,rfl⟩|⟨x,t,rfl,rfl⟩
  ·exact wpAny_pyHash_int h
  ·exact wpAny_pyHash_str h
 eqBool:=λhu hv h=>by
  rcases bV hu with⟨i,t,rfl,rfl⟩|⟨x,t,rfl,rfl⟩
  ·rcases bV hv with⟨j,u,rfl,rfl⟩|⟨y,u,rfl,rfl⟩
   ·rw[Dt]at h;exact wpAny_eqBool_int h
   ·rw[DE]at h;exact SeqAt.EqAt.int_str i t y u _ _ _ _ h
  ·rcases bV hv with⟨j,u,rfl,rfl⟩|⟨y,u,rfl,rfl⟩
   ·rw[Dy]at h;exact SeqAt.EqAt.str_int x t j u _ _ _ _ h
   ·rw[BV]at h;exact wpAny_eqBool_str h
 «strs»:=λk x t v h=>by
  rcases bV h with⟨i,u,rfl,e⟩|⟨y,u,rfl,e⟩
  ·exact nomatch e
  ·injection e with e1 _
   subst e1
   cases v<;>rfl
theorem sn (prog:Ih)(w:I0)(i:Int)(t:Tok):(cD prog w).is (.inl i) (.int i t)=true:=wP i t
theorem tQ (prog:Ih)(w:I0)(x:Str)(t:Tok):(cD prog w).is (.inr x) (.str x t)=true:=xz x t
end L2
namespace L2
open PySem PySem.Spec PyProof.Rows
inductive V where
 |non|bl (b:Bool)|int (i:Int)|str (x:Str)|byt (b:Array UInt8)|flt (b:UInt64)|ref (a:Hm)|ty (n:String)
 deriving DecidableEq
def a5:V->Value->Prop
 |.non,u=>u=Lb
 |.bl b,u=>u=Value.bool b
 |.int i,u=>∃t,u=Value.int i t
 |.str x,u=>∃t,u=Value.str x t
 |.byt b,u=>∃t,u=Value.bytes b t
 |.flt b,u=>∃t,u=Value.float b t
 |.ref a,u=>u=HY a
 |.ty n,u=>u=Value.type n
abbrev aT:List V->List Value->Prop:=Paired a5
theorem aT.length {xs:List V}{us:List Value}(r:aT xs us):xs.length=us.length:=Lc r
theorem aT.get:∀{xs:List V} {us:List Value} {i:Nat} {x:V},aT xs us->xs[i]? = some x->∃u,us[i]? = some u/\a5 x u
 |_,_,_,_,.nil,e=>by simp at e
 |_,_,0,_,.cons r _,e=>by simp at e;subst e;exact⟨_,rfl,r⟩
 |_,_,i+1,x,.cons _ t,e=>by
  obtain⟨u,h1,h2⟩:=aT.get (i:=i) (x:=x) t (by simpa using e)
  exact⟨u,by simpa using h1,h2⟩
theorem aT.set {x:V}{u:Value}(r:a5 x u):∀{xs:List V} {us:List Value} (i:Nat),aT xs us->aT (xs.set i x) (us.set i u)
 |_,_,_,.nil=>.nil
 |_,_,0,.cons _ t=>.cons r t
 |_,_,i+1,.cons q t=>.cons q (aT.set r i t)
theorem aT.append:∀{xs ys:List V} {us ws:List Value},aT xs us->aT ys ws->aT (xs++ys) (us++ws)
 |_,_,_,_,.nil,s=>s
 |_,_,_,_,.cons r t,s=>.cons r (aT.append t s)
theorem aT.take:∀{xs:List V} {us:List Value} (n:Nat),aT xs us->aT (xs.take n) (us.take n)
 |_,_,0,_=>.nil
 |_,_,_+1,.nil=>.nil
 |_,_,n+1,.cons r t=>.cons r (aT.take n t)
theorem aT.drop:∀{xs:List V} {us:List Value} (n:Nat),aT xs us->aT (xs.drop n) (us.drop n)
 |_,_,0,r=>r
 |_,_,_+1,.nil=>.nil
 |_,_,n+1,.cons _ t=>aT.drop n t
def i8:Option V->Option Value->Prop
 |some v,some u=>a5 v u
 |none,none=>True
 |_,_=>False
def KV {κ:Type}:List (κ×V)->List (κ×Value)->Prop:=Paired λ(p:κ×V) (q:κ×Value)=>p.1=q.1/\a5 p.2 q.2
def kV:Key->V
 |.inl i=>.int i
 |.inr x=>.str x
inductive HO where
 |lst (xs:List V)
 |tup (xs:List V)
 |dK (kvs:List (Key×V))|dT (kvs:List (List Key×V))
 |set (S:Int->Bool) (n:Nat)
 |ins (C dx:Hm) (fs:List (Str×V))
 |own (x:Hm)
 |xd (fs:List (Str×V))
 |met (f x:Hm)
 |rng (lo hi:Int)
 |frz (o:Obj) (u:HO)
 |tbl (ps:Array Value)
 |ext (φ:Heap->Prop)
abbrev Hp:=Hm->Option HO
def upd (H:Hp)(a:Hm)(o:HO):Hp:=λb=>if b=a then some o else H b
theorem ae {H:Hp}{a:Hm}{o:HO}:upd H a o a=some o:=by unfold upd;rw[Hz rfl]
theorem ao {H:Hp}{a b:Hm}{o:HO}(h:b≠a):upd H a o b=H b:=by unfold upd;rw[Hs h]
theorem vC {H:Hp}{a:Hm}{o u:HO}:upd (upd H a o) a u=upd H a u:=by
 funext b;unfold upd;split<;>rfl
theorem vB {H:Hp}{a b:Hm}{o u:HO}(h:H a=some o)(h':H b=some u)(d:o≠u):a≠b:=by
 intro e;subst e;rw[h]at h';exact d (osi h')
theorem aP {H:Hp}{a b:Hm}{o:HO}(h:H a=some o)(h':H b=none):a≠b:=by
 intro e;subst e;rw[h]at h';cases h'
section
variable  (P:Ih)(w:I0)
def bY (H:Hp)(h:Heap)(a:Hm):HO->Prop
 |.lst xs=>xs.length<=Hr/\∃(its:List Value) (n:Nat),aT xs its/\h.get? a=some { cls:=.type "list",data:=.seq its.toArray n }
 |.tup xs=>xs.length<=Hr/\∃its:List Value,aT xs its/\IsTup h a its.toArray
 |.dK kvs=>kvs.length<=Hr/\(a==JV)=false/\∃vs,KV kvs vs/\h.DictOf (cD P w) a vs
 |.dT kvs=>kvs.length<=Hr/\(a==JV)=false/\∃xs:List (List Key×Hm×Value),
   Paired (λ(p:List Key×V) (q:List Key×Hm×Value)=>p.1=q.1/\H q.2.1=some (.tup (p.1.map kV))/\a5 p.2 q.2.2) kvs xs /\
   ∃o es ep,h.get? a=some o/\o.ExactDict/\o.data=.dict es ep/\es.toList=xs.map (entryOfKey (tupleKind (cD P w)))/\(xs.map (·.1)).Nodup
 |.set S n=>h.SetOf (intKind P w) a S n
 |.ins C dx fs=>H dx=some (.own a)/\fs.length<=1000/\dx≠a/\h.get? a=some (Ke C dx) /\
   ∃mA,h.Ns1 dx mA/\(∀f,i8 (fs.lookup f) (mA f))/\PySem.Within mA (fs.map (·.1))
 |.own _=>∃o,h.get? a=some o
 |.xd fs=>∃mA,h.Ns1 a mA/\∀f,i8 (fs.lookup f) (mA f)
 |.rng lo hi=>∃t u v,h.get? a=some { cls:=.type "range",data:=.fields #[.int lo t,.int hi u,.int 1 v] }
 |.frz o u=>h.get? a=some o/\bY H h a u
 |.tbl ps=>h.get? a=some { cls:=.none,data:=.fields ps }
 |.met f x=>h.get? a=some (PySem.W.methodObj (.ref f) (.ref x))
 |.ext φ=>φ h/\(∃o,h.get? a=some o)/\∀h1 h2:Heap,φ h1->(∀o,h1.get? a=some o->h2.get? a=some o)->φ h2
def HOk (H:Hp)(h:Heap):Prop:=∀a o,H a=some o->bY P w H h a o
end
section
variable  {P:Ih}{w:I0}{H H':Hp}{h h':Heap}{a:Hm}{o:HO}
theorem bY.lt (x:bY P w H h a o):a<h.objs.size:=by
 cases o with
 |lst xs=>obtain⟨_,_,_,_,e⟩:=x;exact HB e
 |tup xs=>obtain⟨_,_,_,p⟩:=x;exact p.lt
 |dK kvs=>obtain⟨_,_,_,_,o,_,_,e,_⟩:=x;exact HB e
 |dT kvs=>obtain⟨_,_,_,_,o,_,_,e,_⟩:=x;exact HB e
 |set S n=>obtain⟨o,_,_,_,e,_⟩:=x;exact HB e
 |ins C dx fs=>obtain⟨_,_,_,e,_⟩:=x;exact HB e
 |own y=>obtain⟨_,e⟩:=x;exact HB e
 |xd fs=>obtain⟨_,⟨_,_,_,e,_⟩,_⟩:=x;exact HB e
 |rng lo hi=>obtain⟨_,_,_,e⟩:=x;exact HB e
 |frz ob u=>obtain⟨e,_⟩:=x;exact HB e
 |tbl ps=>exact HB (show h.get? a=some _ from x)
 |met f y=>exact HB (show h.get? a=some _ from x)
 |ext φ=>obtain⟨_,⟨_,e⟩,_⟩:=x;exact HB e
theorem Paired.mapP {α β:Type}{F G:α->β->Prop}:∀{l₁:List α} {l₂:List β},Paired F l₁ l₂->(∀a b,F a b->G a b)->Paired G l₁ l₂
 |_,_,.nil,_=>.nil
 |_,_,.cons r t,f=>.cons (f _ _ r) (Paired.mapP t f)
theorem bY.stay (x:bY P w H h a o)(k:∀b u,(b=a\/H b=some (.own a))->h.get? b=some u->h'.get? b=some u)
  (ho:∀b,H b=some (.own a)->H' b=some (.own a)) (ht:∀b xs,H b=some (.tup xs)->H' b=some (.tup xs)):bY P w H' h' a o:=by
 induction o with
 |lst xs=>obtain⟨z,its,n,r,e⟩:=x;exact⟨z,its,n,r,k _ _ (.inl rfl) e⟩
 |tup xs=>obtain⟨z,its,r,ob,e,c⟩:=x;exact⟨z,its,r,ob,k _ _ (.inl rfl) e,c⟩
 |dK kvs=>obtain⟨z,y,vs,r,ob,es,ep,e,c⟩:=x;exact⟨z,y,vs,r,ob,es,ep,k _ _ (.inl rfl) e,c⟩
 |dT kvs =>
  obtain⟨z,y,xs,r,ob,es,ep,e,c⟩:=x
  exact⟨z,y,xs,Paired.mapP r λp q z=>⟨z.1,ht _ _ z.2.1,z.2.2⟩,ob,es,ep,k _ _ (.inl rfl) e,c⟩
 |set S n=>obtain⟨ob,es,ep,t,e,c⟩:=x;exact⟨ob,es,ep,t,k _ _ (.inl rfl) e,c⟩
 |ins C dx fs =>
  obtain⟨d,z,ne,e,mA,⟨od,es,ep,e2,c⟩,r⟩:=x
  exact⟨ho _ d,z,ne,k _ _ (.inl rfl) e,mA,⟨od,es,ep,k _ _ (.inr d) e2,c⟩,r⟩
 |own y=>obtain⟨ob,e⟩:=x;exact⟨ob,k _ _ (.inl rfl) e⟩
 |xd fs=>obtain⟨mA,⟨od,es,ep,e,c⟩,r⟩:=x;exact⟨mA,⟨od,es,ep,k _ _ (.inl rfl) e,c⟩,r⟩
 |rng lo hi=>obtain⟨t,u,v,e⟩:=x;exact⟨t,u,v,k _ _ (.inl rfl) e⟩
 |frz ob u ih=>obtain⟨e,q⟩:=x;exact⟨k _ _ (.inl rfl) e,ih q⟩
 |tbl ps =>
  have e:h.get? a=some { cls:=.none,data:=.fields ps }:=x
  show h'.get? a=some { cls:=.none,data:=.fields ps }
  exact k a _ (.inl rfl) e
 |met f y =>
  have e:h.get? a=some (PySem.W.methodObj (.ref f) (.ref y)):=x
  show h'.get? a=some (PySem.W.methodObj (.ref f) (.ref y))
  exact k a _ (.inl rfl) e
 |ext φ=>obtain⟨p,⟨o,e⟩,st⟩:=x;exact⟨st _ _ p λo q=>k _ _ (.inl rfl) q,⟨o,k _ _ (.inl rfl) e⟩,st⟩
theorem HOk.lt (x:HOk P w H h)(e:H a=some o):a<h.objs.size:=(x a o e).lt
theorem HOk.fresh (x:HOk P w H h)(e:h.objs.size<=a):H a=none:=by
 cases q:H a with
 |none=>rfl
 |some u=>exact absurd (HV (x.lt q) e) (Js _)
theorem HOk.kept (x:HOk P w H h)(k:∀b u,h.get? b=some u->h'.get? b=some u):HOk P w H h':=λa o e =>
 (x a o e).stay (λb u _ q=>k b u q) (λ_ q=>q) λ_ _ q=>q
theorem HOk.laid (x:HOk P w H h)(k:∀b u,h.get? b=some u->h'.get? b=some u)(hp:h.objs.size<=a)(new:bY P w (upd H a o) h' a o):HOk P w (upd H a o) h':=λb u e=>by
 have hn:=x.fresh hp
 by_cases hb:b=a
 ·subst hb;rw[ae]at e;cases e;exact new
 ·rw[ao hb]at e
  exact(x b u e).stay (λc v _ q=>k c v q) (λc q=>by rw[ao (aP q hn)];exact q) λc xs q=>by rw[ao (aP q hn)];exact q
end
def Rd (H:Hp)(a:Hm)(u:HO):Prop:=H a=some u\/∃o,H a=some (.frz o u)
theorem Rd.ok {P:Ih}{w:I0}{H:Hp}{h:Heap}{a:Hm}{u:HO}(r:Rd H a u)(x:HOk P w H h):bY P w H h a u:=by
 rcases r with r|⟨o,r⟩
 ·exact x a u r
 ·obtain⟨_,q⟩:=x a _ r
  exact q
def Mut:Option HO->Prop
 |some (.lst _)=>True
 |some (.dK _)=>True
 |some (.dT _)=>True
 |some (.set _ _)=>True
 |some (.ins _ _ _)=>True
 |some (.ext _)=>True
 |_=>False
section
variable  {P:Ih}{w:I0}{H:Hp}{h h':Heap}{x e:Hm}{o':HO}
theorem HOk.write (ok:HOk P w H h)(mu:Mut (H x))(he:e=x\/H e=some (.own x))(k:∀b u,b≠e->h.get? b=some u->h'.get? b=some u)(heo:∃u,h'.get? e=some u)
  (new:bY P w (upd H x o') h' x o'):HOk P w (upd H x o') h':=λb u q=>by
 have nown:∀c y,H c=some (.own y)->c≠x:=λc y r z=>by subst z;rw[r]at mu;exact mu
 have ntup:∀c xs,H c=some (.tup xs)->c≠x:=λc xs r z=>by subst z;rw[r]at mu;exact mu
 by_cases hb:b=x
 ·subst hb;rw[ae]at q;cases q;exact new
 ·rw[ao hb]at q
  by_cases hbe:b=e
  ·have q':H b=some (.own x):=by
    rcases he with z|z
    ·exact absurd (hbe.trans z) hb
    ·rw[hbe];exact z
   rw[q]at q';cases q'
   obtain⟨v,hv⟩:=heo
   exact⟨v,by rw[hbe];exact hv⟩
  ·refine(ok b u q).stay (λc v hc r=>k c v ?_ r) (λc r=>by rw[ao (nown c b r)];exact r) λc xs r=>by rw[ao (ntup c xs r)];exact r
   rcases hc with rfl|hc
   ·exact hbe
   ·rintro rfl
    rcases he with z|z
    ·exact nown c b hc z
    ·rw[hc]at z;cases z;exact hb rfl
end
structure Un (fs ex:List Hm)(H H':Hp)(h h':Heap):Prop where
 keep:∀b o,h.get? b=some o->H b=none->b∉fs->b∉ex->h'.get? b=some o
 slot:∀b o,h.get? b=some o->H b=none->b∈fs->b∉ex->∃sl,h'.get? b=some { o with slots:=sl }
 free:∀b o,h.get? b=some o->H b=none->b∉ex->H' b=none
 there:∀b o,h.get? b=some o->b∉ex->∃o',h'.get? b=some o'
 tups:∀b xs,H b=some (.tup xs)->H' b=some (.tup xs)
 frzs:∀b o u,H b=some (.frz o u)->H' b=some (.frz o u)
 tbls:∀b ps,H b=some (.tbl ps)->∃more,H' b=some (.tbl (ps++more))
section
variable  {fs fs' ex ex':List Hm}{H H1 H2:Hp}{h h1 h2 h':Heap}{a x e:Hm}{o:HO}
theorem Un.any (u:Un fs ex H H1 h h1){b:Hm}{ob:Obj}(q:h.get? b=some ob)(n:H b=none)(hx:b∉ex):∃sl,h1.get? b=some { ob with slots:=sl }:=by
 by_cases hb:b∈fs
 ·exact u.slot b ob q n hb hx
 ·exact⟨ob.slots,u.keep b ob q n hb hx⟩
theorem Un.kept (k:∀b u,h.get? b=some u->h'.get? b=some u):Un fs ex H H h h' :=
 ⟨λb ob q _ _ _=>k b ob q,λb ob q _ _ _=>⟨ob.slots,k b ob q⟩,λ_ _ _ n _=>n,λb ob q _=>⟨ob,k b ob q⟩,λ_ _ q=>q,λ_ _ _ q=>q,λ_ ps q=>⟨#[],by rw[q];simp⟩⟩
theorem Un.refl:Un fs ex H H h h:=Un.kept λ_ _ q=>q
theorem Un.laid (k:∀b u,h.get? b=some u->h'.get? b=some u)(hp:h.objs.size<=a)(hn:H a=none):Un fs ex H (upd H a o) h h' where
 keep:=λb u q _ _ _=>k b u q
 slot:=λb u q _ _ _=>⟨u.slots,k b u q⟩
 free:=λb u q n _=>by rw[ao (Ij (HV (HB q) hp))];exact n
 there:=λb u q _=>⟨u,k b u q⟩
 tups:=λb xs q=>by rw[ao (aP q hn)];exact q
 frzs:=λb u xs q=>by rw[ao (aP q hn)];exact q
 tbls:=λb ps q=>⟨#[],by rw[ao (aP q hn),q];simp⟩
theorem Un.write (mu:Mut (H x))(he:e=x\/H e=some (.own x))(k:∀b u,b≠e->h.get? b=some u->h'.get? b=some u)(heo:∃u,h'.get? e=some u):Un fs ex H (upd H x o) h h':=by
 have hx:∀b,H b=none->b≠x:=λb n z=>by subst z;rw[n]at mu;exact mu
 have hb:∀b,H b=none->b≠e:=λb n z=>by
  subst z
  rcases he with r|r
  ·exact hx b n r
  ·rw[n]at r;cases r
 have hm:∀b u,H b=some u->¬Mut (some u)->b≠x:=λb u q nm z=>by subst z;rw[q]at mu;exact nm mu
 refine⟨λb u q n _ _=>k b u (hb b n) q,λb u q n _ _=>⟨u.slots,k b u (hb b n) q⟩,λb u q n _=>by rw[ao (hx b n)];exact n,λb u q _=>?_,
  λb xs q=>by rw[ao (hm b _ q λz=>z)];exact q,λb u xs q=>by rw[ao (hm b _ q λz=>z)];exact q,λb ps q=>⟨#[],by rw[ao (hm b _ q λz=>z),q];simp⟩⟩
 by_cases hbe:b=e
 ·subst hbe;exact heo
 ·exact⟨u,k b u hbe q⟩
end
def trk (h:Heap)(H:Hp):List Hm:=(HS h.objs.size).filter λa=>(H a).isSome
def kH (h:Heap)(H:Hp):Heap:=PySem.W.hideAll h (trk h H)
theorem pN (h:Heap)(H:Hp):(kH h H).objs.size=h.objs.size:=PySem.W.hideAll_size _ _
theorem sX {h:Heap}{H:Hp}{b:Hm}{o:Obj}(e:h.get? b=some o)(n:H b=none):(kH h H).get? b=some o :=
 PySem.W.hideAll_get _ e λhm=>by
  have q:(H b).isSome=true:=(HZ.mp hm).2
  rw[n]at q;simp at q
theorem vd {h:Heap}{H:Hp}{b:Hm}{o:Obj}(e:(kH h H).get? b=some o):h.get? b=some o/\H b=none:=by
 have e':h.get? b=some o:=PySem.W.of_hideAll (trk h H) e
 refine⟨e',?_⟩
 cases q:H b with
 |none=>rfl
 |some x =>
  have hm:b∈trk h H:=HZ.mpr ⟨Ix.mpr (HB e'),by simp[q]⟩
  have z:(kH h H).get? b=none:=PySem.W.hideAll_none (trk h H) hm
  rw[z]at e;cases e
def AY (g h:Heap)(L:Hm):List (Hm×Obj):=(HS h.objs.size).filterMap λa=>if a=L\/(g.get? a).isSome=true then none else (h.get? a).map λo=>(a,o)
def hX (g h:Heap)(L d:Hm):List (Hm×Obj):=(AY g h L).filter λp=>decide (p.1≠d)
end L2
namespace L2
open PySem PySem.Spec PyProof.Rows
structure Mod (K:IN)(mg:Str->Option Value)(base:Heap):Prop where
 kin:K.In base
 glob:base.Ns Im mg
 blt:∃mb,base.Ns builtinsNs mb/\∀x:Str,x≠"__name__"->mb x=J9 x
 nolimit:base.NoLimit
structure Cx where
 prog:Ih
 w:I0
 K:IN
 mg:Str->Option Value
 base:Heap
 A:Around
 N:List Str
 s_0:Hl
 H_0:Hp
 env:Env
 outer:List Env
 stack:List Env
 ex:List Hm
 fn:Str->Bool
 calm:Bool
 pn:List (Hm×Obj)
 xe:Value->Hl->Prop
def frs (l:List Env):List Hm:=l.filterMap (·.frame)
abbrev Cx.fs (X:Cx):List Hm:=frs X.outer
def Vis (sc:Scope)(x:Str):Prop:=sc.names.lookup x=some .local\/sc.names.lookup x=some .cell\/sc.names.lookup x=some .free
def Loc (sc:Scope)(x:Str):Prop:=sc.names.lookup x=some .local\/sc.names.lookup x=some .cell
def GH (env:Env)(h:Heap)(m:Str->Option Value)(x:Str)(u:Value):Prop :=
 (env.kindOf x=some .local/\m x=some u)\/((env.kindOf x=some .cell\/env.kindOf x=some .free)/\∃c,env.cells.lookup x=some c/\h.IsCell c (some u))
structure Cx.Ok (X:Cx):Prop where
 mod:Mod X.K X.mg X.base
 kind:X.env.scope.kind=.function
 glob:X.env.globals=Im
 blt:X.env.builtins=builtinsNs
 above:X.s_0.heap.objs.size<=X.env.locals
 inj:∀x y c,X.env.cells.lookup x=some c->X.env.cells.lookup y=some c->x=y
 has:∀x,(X.env.kindOf x=some .cell\/X.env.kindOf x=some .free)->∃c,X.env.cells.lookup x=some c
 cab:∀x c,X.fn x=true->X.env.cells.lookup x=some c->X.s_0.heap.objs.size<=c
 hd:X.calm=true->X.A.handled=none
 frames:X.A.frames=some X.stack
 stk:X.stack=X.outer\/(X.stack=X.env :: X.outer/\X.env.frame=some X.env.locals)
 exf:∀b∈X.ex,b≠X.env.locals/\∀x c,X.env.cells.lookup x=some c->c≠b
 bs:∀b o,X.base.get? b=some o->X.s_0.heap.get? b=some o/\X.H_0 b=none
 bsz:X.base.objs.size<=X.s_0.heap.objs.size
 noex:∀b o,X.base.get? b=some o->b∉X.ex
 exfs:∀b∈X.ex,b∉X.fs
 funs:X.s_0.heap.FunFrames X.base X.outer
 frf:∀b∈X.fs,X.H_0 b=none
structure Inv (X:Cx)(pins:List (Hm×Obj))(σ:List (Option V))(H:Hp)(s:Hl):Prop where
 ok:X.Ok
 os:s.os=X.s_0.os
 bare:AllBare s.gens
 base:Un X.fs X.ex X.H_0 H X.s_0.heap s.heap
 loc:∃m,s.heap.Ns X.env.locals m/\∀(i:Nat) (x:Str) (v:V),X.N[i]? = some x->σ[i]? = some (some v)->Vis X.env.scope x->∃u,a5 v u/\GH X.env s.heap m x u
 cell:∀x c,X.env.cells.lookup x=some c->∃v,s.heap.IsCell c v
 free:H X.env.locals=none
 freeC:∀x c,X.env.cells.lookup x=some c->H c=none
 pin:∀p∈X.pn++pins,s.heap.get? p.1=some p.2/\H p.1=none/\p.1≠X.env.locals/\p.1∉X.fs/\∀v,p.2.data≠.cell v
 hok:HOk X.prog X.w H s.heap
 len:σ.length=X.N.length
section
variable  {X:Cx}{pins:List (Hm×Obj)}{σ:List (Option V)}{H H':Hp}{s:Hl}{h':Heap}
theorem Cx.Ok.nofr (ok:X.Ok){b:Hm}{o:Obj}(e:X.base.get? b=some o):b∉X.fs:=λhb=>by
 have:=(ok.funs.mem hb).1
 rw[e]at this;cases this
theorem Inv.bs (I:Inv X pins σ H s):∀b o,X.base.get? b=some o->s.heap.get? b=some o/\H b=none:=λb o e =>
 ⟨I.base.keep b o (I.ok.bs b o e).1 (I.ok.bs b o e).2 (I.ok.nofr e) (I.ok.noex b o e),I.base.free b o (I.ok.bs b o e).1 (I.ok.bs b o e).2 (I.ok.noex b o e)⟩
theorem Inv.bk (I:Inv X pins σ H s):∀b o,X.base.get? b=some o->s.heap.get? b=some o:=λb o e=>(I.bs b o e).1
theorem Inv.mod (I:Inv X pins σ H s):Mod X.K X.mg X.base:=I.ok.mod
theorem Inv.kIn (I:Inv X pins σ H s):X.K.In s.heap:=I.ok.mod.kin.keeps I.bk
theorem Inv.fr (I:Inv X pins σ H s):∃m,Fr X.base X.env.locals s.heap m :=
 let ⟨m,hn,_⟩:=I.loc
 ⟨m,hn,I.bk,Ik I.ok.bsz I.ok.above⟩
theorem Inv.lt (I:Inv X pins σ H s):X.env.locals<s.heap.objs.size:=let ⟨_,hn,_⟩:=I.loc;hn.lt
theorem Inv.sz (I:Inv X pins σ H s):X.s_0.heap.objs.size<=s.heap.objs.size:=Ik I.ok.above (Ka I.lt)
theorem Inv.nofs (I:Inv X pins σ H s){a:Hm}(h:s.heap.objs.size<=a):a∉X.fs:=λhb=>by
 obtain⟨_,o,ho,_⟩:=I.ok.funs.mem hb
 exact absurd (HV (HB ho) (Ik I.sz h)) (Js _)
theorem Inv.cne (I:Inv X pins σ H s):∀x c,X.env.cells.lookup x=some c->c≠X.env.locals:=λx c e z=>by
 obtain⟨v,o,ho,hd⟩:=I.cell x c e
 obtain⟨m,⟨o',es,ep,ho',hd',_⟩,_⟩:=I.loc
 rw[z,ho']at ho;cases ho;rw[hd']at hd;cases hd
theorem Inv.funs (I:Inv X pins σ H s):s.heap.FunFrames X.base X.outer:=by
 have all:∀(l:List Env),(∀b∈frs l,b∈X.fs)->X.s_0.heap.FunFrames X.base l->s.heap.FunFrames X.base l:=by
  intro l
  induction l with
  |nil=>intro _ _;trivial
  |cons env r ih =>
   intro hs hl
   obtain⟨hk,⟨L,o,hf,hn,ho,hd⟩,hr⟩:=hl
   have hL:L∈X.fs:=hs L (by unfold frs;rw[List.filterMap_cons,hf];exact HD)
   obtain⟨sl,e⟩:=I.base.slot L o ho (I.ok.frf L hL) hL λz=>I.ok.exfs L z hL
   exact⟨hk,⟨L,_,hf,hn,e,hd⟩,ih (λb hb=>hs b (by unfold frs;rw[List.filterMap_cons,hf];exact Ho _ hb)) hr⟩
 exact all X.outer (λ_ hb=>hb) I.ok.funs
theorem Inv.stack (I:Inv X pins σ H s):s.heap.FunFrames X.base X.stack:=by
 rcases I.ok.stk with e|⟨e,hf⟩
 ·rw[e];exact I.funs
 ·rw[e]
  obtain⟨m,hn,_⟩:=I.loc
  refine .cons (by rw[I.ok.kind];decide) hf hn ?_ I.funs
  exact Heap.get?_none_of_le (Ik I.ok.bsz I.ok.above)
theorem Inv.stkSub (I:Inv X pins σ H s):∀b∈frs X.stack,b∈X.env.locals :: X.fs:=λb hb=>by
 rcases I.ok.stk with e|⟨e,hf⟩
 ·rw[e]at hb;exact Ho _ hb
 ·rw[e]at hb
  unfold frs at hb
  rw[List.filterMap_cons,hf]at hb
  exact hb
theorem Inv.stkFree (I:Inv X pins σ H s):∀b∈frs X.stack,H b=none:=λb hb=>by
 rcases Hq.mp (I.stkSub b hb) with e|hb
 ·rw[e];exact I.free
 ·obtain⟨_,o,ho,_⟩:=I.ok.funs.mem hb
  exact I.base.free b o ho (I.ok.frf b hb) λz=>I.ok.exfs b z hb
theorem Inv.step {g':Array GenState}{t':Nat}{d':Drawn}{ch:List Hm}(I:Inv X pins σ H s)
  (hch:∀b∈ch,(b∈X.ex\/X.s_0.heap.objs.size<=b)/\b≠X.env.locals/\(∀x c,X.env.cells.lookup x=some c->c≠b)/\∀p∈X.pn++pins,p.1≠b)
  (keep:∀b o,b≠X.env.locals->b∉X.fs->b∉ch->s.heap.get? b=some o->H b=none->h'.get? b=some o)
  (slot:∀b o,b≠X.env.locals->b∈X.fs->b∉ch->s.heap.get? b=some o->H b=none->∃sl,h'.get? b=some { o with slots:=sl }) (free:∀b o,b∉ch->s.heap.get? b=some o->H b=none->H' b=none)
  (there:∀b o,b∉ch->s.heap.get? b=some o->∃o',h'.get? b=some o')
  (tups:∀b xs,H b=some (.tup xs)->H' b=some (.tup xs)) (frzs:∀b o u,H b=some (.frz o u)->H' b=some (.frz o u)) (tbls:∀b ps,H b=some (.tbl ps)->∃more,H' b=some (.tbl (ps++more)))
  (ns:∀m,s.heap.Ns X.env.locals m->h'.Ns X.env.locals m) (hok:HOk X.prog X.w H' h') (hg:AllBare g') :
  Inv X pins σ H' { s with heap:=h',gens:=g',drawn:=d',toks:=t' }:=by
 have neL:∀b o,X.s_0.heap.get? b=some o->b≠X.env.locals:=λb o e=>Ij (HV (HB e) I.ok.above)
 have neC:∀b o,X.s_0.heap.get? b=some o->b∉X.ex->b∉ch:=λb o e hx hb=>by
  rcases(hch b hb).1 with z|z
  ·exact hx z
  ·exact absurd (HV (HB e) z) (Js _)
 have cellK:∀x c,X.env.cells.lookup x=some c->∀v,s.heap.IsCell c v->h'.IsCell c v:=λx c e v ⟨o,ho,hd⟩=>by
  have nch:c∉ch:=λz=>(hch c z).2.2.1 x c e rfl
  by_cases hc:c∈X.fs
  ·obtain⟨sl,q⟩:=slot c o (I.cne x c e) hc nch ho (I.freeC x c e)
   exact⟨_,q,hd⟩
  ·exact⟨o,keep c o (I.cne x c e) hc nch ho (I.freeC x c e),hd⟩
 refine⟨I.ok,I.os,hg,⟨λb o e n hb hx=>?_,λb o e n hb hx=>?_,λb o e n hx=>?_,λb o e hx=>?_,λb xs e=>tups b xs (I.base.tups b xs e),λb o xs e=>frzs b o xs (I.base.frzs b o xs e),λb ps e=>?_⟩,?_,λx c e=>?_,?_,λx c e=>?_,λp hp=>?_,hok,I.len⟩
 ·exact keep b o (neL b o e) hb (neC b o e hx) (I.base.keep b o e n hb hx) (I.base.free b o e n hx)
 ·obtain⟨sl,e1⟩:=I.base.slot b o e n hb hx
  obtain⟨sl',e2⟩:=slot b _ (neL b o e) hb (neC b o e hx) e1 (I.base.free b o e n hx)
  exact⟨sl',e2⟩
 ·obtain⟨o',e1⟩:=I.base.there b o e hx
  exact free b o' (neC b o e hx) e1 (I.base.free b o e n hx)
 ·obtain⟨o',e1⟩:=I.base.there b o e hx
  exact there b o' (neC b o e hx) e1
 ·obtain⟨m1,e1⟩:=I.base.tbls b ps e
  obtain⟨m2,e2⟩:=tbls b _ e1
  exact⟨m1++m2,by rw[e2,Array.append_assoc]⟩
 ·obtain⟨m,hn,hl⟩:=I.loc
  refine⟨m,ns m hn,λi x v e1 e2 e3=>?_⟩
  obtain⟨u,r,l⟩:=hl i x v e1 e2 e3
  refine⟨u,r,?_⟩
  rcases l with l|⟨k,c,e,z⟩
  ·exact .inl l
  ·exact .inr ⟨k,c,e,cellK x c e _ z⟩
 ·obtain⟨v,z⟩:=I.cell x c e
  exact⟨v,cellK x c e v z⟩
 ·obtain⟨m,⟨o,_,_,ho,_⟩,_⟩:=I.loc
  exact free _ o (λz=>(hch _ z).2.1 rfl) ho I.free
 ·obtain⟨v,o,ho,hd⟩:=I.cell x c e
  exact free c o (λz=>(hch c z).2.2.1 x c e rfl) ho (I.freeC x c e)
 ·obtain⟨e,n,ne,nf,d⟩:=I.pin p hp
  have nch:p.1∉ch:=λz=>(hch p.1 z).2.2.2 p hp rfl
  exact⟨keep p.1 p.2 ne nf nch e n,free p.1 p.2 nch e n,ne,nf,d⟩
theorem Inv.un {t':Nat}(I:Inv X pins σ H s)(u:Un X.fs [] H H' s.heap h')(hok:HOk X.prog X.w H' h'):Inv X pins σ H' { s with heap:=h',toks:=t' }:=by
 obtain⟨m,⟨o,es,ep,ho,r⟩,_⟩:=id I.loc
 obtain⟨sl,hL⟩:=u.any ho I.free (by simp)
 exact I.step (g':=s.gens) (d':=s.drawn) (ch:=[]) (λ_ z=>nomatch z) (λb o _ hb _ e n=>u.keep b o e n hb (by simp)) (λb o _ hb _ e n=>u.slot b o e n hb (by simp)) (λb o _ e n=>u.free b o e n (by simp)) (λb o _ e=>u.there b o e (by simp)) u.tups u.frzs u.tbls (λm' hm=>by
  obtain⟨o',es',ep',ho',r'⟩:=hm
  rw[ho]at ho';cases ho'
  exact⟨_,es',ep',hL,r'⟩) hok I.bare
theorem Inv.call {g':Array GenState}{t':Nat}{d':Drawn}{ch:List Hm}(I:Inv X pins σ H s)(u:Un (frs X.stack) ch H H' s.heap h')(hok:HOk X.prog X.w H' h')(hg:AllBare g')
  (hch:∀b∈ch,(b∈X.ex\/X.s_0.heap.objs.size<=b)/\b≠X.env.locals/\(∀x c,X.env.cells.lookup x=some c->c≠b)/\∀p∈X.pn++pins,p.1≠b) :
  Inv X pins σ H' { s with heap:=h',gens:=g',drawn:=d',toks:=t' }:=by
 obtain⟨m,⟨o,es,ep,ho,r⟩,_⟩:=id I.loc
 obtain⟨sl,hL⟩:=u.any ho I.free λz=>(hch _ z).2.1 rfl
 exact I.step (ch:=ch) hch (λb o hL hb hc e n=>u.keep b o e n (λz=>(Hq.mp (I.stkSub b z)).elim hL hb) hc) (λb o _ _ hc e n=>u.any e n hc) (λb o hc e n=>u.free b o e n hc) (λb o hc e=>u.there b o e hc) u.tups u.frzs u.tbls (λm' hm=>by
  obtain⟨o',es',ep',ho',r'⟩:=hm
  rw[ho]at ho';cases ho'
  exact⟨_,es',ep',hL,r'⟩) hok hg
theorem Inv.turned {t':Nat}{it:Hm}(I:Inv X pins σ H s)(k:∀b o,b≠it->s.heap.get? b=some o->h'.get? b=some o)(hn:H it=none)(hL:it≠X.env.locals)
  (h1:it∈X.ex\/X.s_0.heap.objs.size<=it) (h2:∀x c,X.env.cells.lookup x=some c->c≠it) (h3:∀p∈X.pn++pins,p.1≠it):Inv X pins σ H { s with heap:=h',toks:=t' }:=by
 have nit:∀b u,H b=some u->b≠it:=λb u e z=>by rw[z,hn]at e;cases e
 refine I.step (g':=s.gens) (d':=s.drawn) (ch:=[it]) (λb hb=>?_) (λb o _ _ hc e _=>k b o (λz=>hc (by simp[z])) e) (λb o _ _ hc e _=>⟨o.slots,k b o (λz=>hc (by simp[z])) e⟩) (λ_ _ _ _ n=>n)
  (λb o hc e=>⟨o,k b o (λz=>hc (by simp[z])) e⟩) (λ_ _ e=>e) (λ_ _ _ e=>e) (λb ps e=>⟨#[],by rw[e];simp⟩) (λm hm=>?_) (λb u e=>?_) I.bare
 ·have e:b=it:=by simpa using hb
  subst e
  exact⟨h1,hL,h2,h3⟩
 ·obtain⟨o,es,ep,ho,r⟩:=hm
  exact⟨o,es,ep,k _ o (Ie hL) ho,r⟩
 ·refine(I.hok b u e).stay (λc v hc q=>k c v ?_ q) (λ_ q=>q) λ_ _ q=>q
  rcases hc with z|z
  ·rw[z];exact nit b u e
  ·exact nit c _ z
theorem Inv.tok (I:Inv X pins σ H s)(t:Nat):Inv X pins σ H { s with toks:=t }:=I.un (h':=s.heap) (t':=t) Un.refl I.hok
theorem Inv.kept {t':Nat}(I:Inv X pins σ H s)(k:∀b u,s.heap.get? b=some u->h'.get? b=some u):Inv X pins σ H { s with heap:=h',toks:=t' }:=I.un (Un.kept k) (I.hok.kept k)
theorem Inv.laid {a:Hm}{o:HO}{t':Nat}(I:Inv X pins σ H s)(k:∀b u,s.heap.get? b=some u->h'.get? b=some u)(hp:s.heap.objs.size<=a)(new:bY X.prog X.w (upd H a o) h' a o) :
  Inv X pins σ (upd H a o) { s with heap:=h',toks:=t' }:=I.un (Un.laid k hp (I.hok.fresh hp)) (I.hok.laid k hp new)
theorem Inv.write {x e:Hm}{o:HO}{t':Nat}(I:Inv X pins σ H s)(mu:Mut (H x))(he:e=x\/H e=some (.own x))(k:∀b u,b≠e->s.heap.get? b=some u->h'.get? b=some u)(heo:∃u,h'.get? e=some u)
  (new:bY X.prog X.w (upd H x o) h' x o):Inv X pins σ (upd H x o) { s with heap:=h',toks:=t' }:=I.un (Un.write mu he k heo) (I.hok.write mu he k heo new)
theorem Inv.weak {σ':List (Option V)}(I:Inv X pins σ H s)(hl:σ'.length=σ.length)(w:∀(i:Nat) v,σ'[i]? = some (some v)->σ[i]? = some (some v)):Inv X pins σ' H s :=
 ⟨I.ok,I.os,I.bare,I.base,let ⟨m,hn,hl'⟩:=I.loc;⟨m,hn,λi x v e1 e2 e3=>hl' i x v e1 (w i v e2) e3⟩,I.cell,I.free,I.freeC,I.pin,I.hok,hl.trans I.len⟩
theorem Inv.pins_of {pins':List (Hm×Obj)}(I:Inv X pins σ H s)(h:∀p∈pins',s.heap.get? p.1=some p.2/\H p.1=none/\p.1≠X.env.locals/\p.1∉X.fs/\∀v,p.2.data≠.cell v):Inv X pins' σ H s :=
 ⟨I.ok,I.os,I.bare,I.base,I.loc,I.cell,I.free,I.freeC,λp hp=>(HU.mp hp).elim (λz=>I.pin p (List.mem_append_left _ z)) (h p),I.hok,I.len⟩
theorem nQ {N:List Str}(hN:N.Nodup){i j:Nat}{x:Str}(a:N[i]? = some x)(b:N[j]? = some x):i=j:=by
 obtain⟨h1,e1⟩:=gsi a
 obtain⟨h2,e2⟩:=gsi b
 exact(List.getElem_inj hN).mp (e1.trans e2.symm)
theorem store_ok2 {M:Model}{A:Around}{E:Value->Hl->Prop}{i:Nat}{x:Str}{v:V}{u:Value}{Q:Unit->Hl->Prop}(I:Inv X pins σ H s)(hN:X.N.Nodup)(hi:X.N[i]? = some x)(hx:Loc X.env.scope x)(r:a5 v u)
  (h:∀s',Inv X pins (σ.set i (some v)) H s'->(∃a,Heap.SameBut a s.heap s'.heap/\(a=X.env.locals\/X.env.cells.lookup x=some a))->Q () s') (hf:X.fn x=true\/X.env.scope.names.lookup x=some .local:=by first|exact .inl rfl|exact .inr rfl|assumption):Ig M A (storeName X.env x u) Q E s:=by
 obtain⟨m,hn,hl⟩:=id I.loc
 have hcls:(X.env.scope.kind==.class||(X.env.scope.kind==.module&&X.env.locals != X.env.globals))=false:=by rw[I.ok.kind];rfl
 have hiσ:i<σ.length:=by rw[I.len];exact(gsi hi).1
 have cne:=I.cne
 have tracked:∀{a:Hm} {h':Heap},(∃o,s.heap.get? a=some o/\H a=none)->Heap.SameBut a s.heap h'->HOk X.prog X.w H h':=λ{a h'} ha hs b ob e=>by
  obtain⟨_,_,hfree⟩:=ha
  refine(I.hok b ob e).stay (λc w' hc q=>(hs.2 c ?_).trans q) (λ_ q=>q) λ_ _ q=>q
  rintro rfl
  rcases hc with rfl|hc
  ·rw[hfree]at e;cases e
  ·rw[hfree]at hc;cases hc
 rcases hx with hk|hk
 ·refine wpAny_storeName_local hk hn (λh' hn' hs=>?_) hcls
  obtain⟨oL,_,_,hoL,_⟩:=id hn
  refine h _ ⟨I.ok,I.os,I.bare,⟨λb o e n hb hx=>?_,λb o e n hb hx=>?_,I.base.free,λb o e hx=>?_,I.base.tups,I.base.frzs,I.base.tbls⟩,⟨_,hn',λj y v' e1 e2 e3=>?_⟩,λy c e=>?_,I.free,I.freeC,λp hp=>?_,tracked ⟨oL,hoL,I.free⟩ hs,by simpa using I.len⟩ ⟨_,hs,.inl rfl⟩
  ·exact(hs.2 b (Ij (HV (HB e) I.ok.above))).trans (I.base.keep b o e n hb hx)
  ·obtain⟨sl,e1⟩:=I.base.slot b o e n hb hx
   exact⟨sl,(hs.2 b (Ij (HV (HB e) I.ok.above))).trans e1⟩
  ·obtain⟨o',e1⟩:=I.base.there b o e hx
   exact⟨o',(hs.2 b (Ij (HV (HB e) I.ok.above))).trans e1⟩
  ·by_cases hj:j=i
   ·subst hj
    rw[hi]at e1;cases e1
    rw[KP hiσ]at e2
    cases e2
    exact⟨u,r,.inl ⟨hk,by simp⟩⟩
   ·rw[J6 (Ie hj)]at e2
    obtain⟨u',r',q⟩:=hl j y v' e1 e2 e3
    refine⟨u',r',?_⟩
    rcases q with⟨k,e⟩|⟨k,c,e,z⟩
    ·refine .inl ⟨k,?_⟩
     have:y≠x:=λe=>hj (nQ hN e1 (e▸hi))
     simp[this,e]
    ·exact .inr ⟨k,c,e,z.sameBut hs (cne y c e)⟩
  ·obtain⟨w',z⟩:=I.cell y c e
   exact⟨w',z.sameBut hs (cne y c e)⟩
  ·obtain⟨e,n,ne,nf,d⟩:=I.pin p hp
   exact⟨(hs.2 p.1 ne).trans e,n,ne,nf,d⟩
 ·have hfn:X.fn x=true:=by
   rcases hf with z|z
   ·exact z
   ·rw[z]at hk;cases hk
  obtain⟨c,hc⟩:=I.ok.has x (.inl hk)
  obtain⟨w',z⟩:=I.cell x c hc
  refine wpAny_storeName_cell I.ok.kind hk hc z (λh' hc' hs=>?_)
  obtain⟨oc,hoc,hocd⟩:=id z
  refine h { s with heap:=h' } ⟨I.ok,I.os,I.bare,⟨λb o e n hb hx=>?_,λb o e n hb hx=>?_,I.base.free,λb o e hx=>?_,I.base.tups,I.base.frzs,I.base.tbls⟩,⟨m,hn.sameBut hs (Ie (cne x c hc)),λj y v' e1 e2 e3=>?_⟩,λy c' e=>?_,I.free,I.freeC,λp hp=>?_,tracked ⟨oc,hoc,I.freeC x c hc⟩ hs,by simpa using I.len⟩ ⟨c,hs,.inr hc⟩
  ·exact(hs.2 b (Ij (HV (HB e) (I.ok.cab x c hfn hc)))).trans (I.base.keep b o e n hb hx)
  ·obtain⟨sl,e1⟩:=I.base.slot b o e n hb hx
   exact⟨sl,(hs.2 b (Ij (HV (HB e) (I.ok.cab x c hfn hc)))).trans e1⟩
  ·obtain⟨o',e1⟩:=I.base.there b o e hx
   exact⟨o',(hs.2 b (Ij (HV (HB e) (I.ok.cab x c hfn hc)))).trans e1⟩
  ·by_cases hj:j=i
   ·subst hj
    rw[hi]at e1;cases e1
    rw[KP hiσ]at e2
    cases e2
    exact⟨u,r,.inr ⟨.inl hk,c,hc,hc'⟩⟩
   ·rw[J6 (Ie hj)]at e2
    obtain⟨u',r',q⟩:=hl j y v' e1 e2 e3
    refine⟨u',r',?_⟩
    rcases q with q|⟨k,c',e,z'⟩
    ·exact .inl q
    ·refine .inr ⟨k,c',e,z'.sameBut hs ?_⟩
     rintro rfl
     exact hj (nQ hN e1 (I.ok.inj _ _ _ e hc▸hi))
  ·by_cases hcc:c'=c
   ·subst hcc;exact⟨_,hc'⟩
   ·obtain⟨w2,z2⟩:=I.cell y c' e
    exact⟨w2,z2.sameBut hs hcc⟩
  ·obtain⟨e,n,ne,nf,d⟩:=I.pin p hp
   refine⟨(hs.2 p.1 ?_).trans e,n,ne,nf,d⟩
   intro q
   rw[q,hoc]at e
   have q':oc=p.2:=osi e
   exact d w' (by rw[<-q'];exact hocd)
theorem ny {M:Model}{A:Around}{E:Value->Hl->Prop}{i:Nat}{x:Str}{v:V}{u:Value}{Q:Unit->Hl->Prop}(I:Inv X pins σ H s)(hN:X.N.Nodup)(hi:X.N[i]? = some x)(hx:Loc X.env.scope x)(r:a5 v u)
  (h:∀s',Inv X pins (σ.set i (some v)) H s'->Q () s') (hf:X.fn x=true\/X.env.scope.names.lookup x=some .local:=by first|exact .inl rfl|exact .inr rfl|assumption):Ig M A (storeName X.env x u) Q E s :=
 store_ok2 I hN hi hx r (λs' I' _=>h s' I') hf
theorem Inv.call' {s':Hl}{ch:List Hm}(I:Inv X pins σ H s)(ho:s'.os=s.os)(u:Un (frs X.stack) ch H H' s.heap s'.heap)(hok:HOk X.prog X.w H' s'.heap)(hg:AllBare s'.gens)
  (hch:∀b∈ch,(b∈X.ex\/X.s_0.heap.objs.size<=b)/\b≠X.env.locals/\(∀x c,X.env.cells.lookup x=some c->c≠b)/\∀p∈X.pn++pins,p.1≠b):Inv X pins σ H' s':=by
 obtain⟨h',g',d',t',o'⟩:=s'
 have e:o'=s.os:=ho
 subst e
 exact I.call (g':=g') (t':=t') (d':=d') u hok hg hch
end
abbrev XK:=Value->Option Hm->Hp->Prop
abbrev St:=List (Option V)
abbrev VK:=V->Hp->Prop
abbrev TE:=St->Hp->VK->Prop
abbrev TT:=St->Hp->(Bool->Hp->Prop)->Prop
abbrev TA:=St->Hp->(List V->Hp->Prop)->Prop
structure oF where
 nx:St->Hp->Prop
 rt:VK
 bk:St->Hp->Prop:=λ_ _=>False
 ct:St->Hp->Prop:=λ_ _=>False
abbrev TS:=oF->St->Hp->Prop
def EP (X:Cx)(pins:List (Hm×Obj))(σ:St)(Q:VK)(u:Value)(s':Hl):Prop:=∃v H',Inv X pins σ H' s'/\a5 v u/\Q v H'
def TP (X:Cx)(pins:List (Hm×Obj))(σ:St)(Q:Bool->Hp->Prop)(b:Bool)(s':Hl):Prop:=∃H',Inv X pins σ H' s'/\Q b H'
def AP (X:Cx)(pins:List (Hm×Obj))(σ:St)(Q:List V->Hp->Prop)(us:List Value)(s':Hl):Prop:=∃vs H',Inv X pins σ H' s'/\aT vs us/\Q vs H'
def SP (X:Cx)(pins:List (Hm×Obj))(D:oF)(f:Flow)(s':Hl):Prop :=
 match f with
 |.next=>∃σ' H',Inv X pins σ' H' s'/\D.nx σ' H'
 |.brk=>∃σ' H',Inv X pins σ' H' s'/\D.bk σ' H'
 |.cont=>∃σ' H',Inv X pins σ' H' s'/\D.ct σ' H'
 |.ret u=>∃v σ' H',Inv X pins σ' H' s'/\a5 v u/\D.rt v H'
def PE (X:Cx)(e:Expr)(t:TE):Prop :=
 ∀(pins:List (Hm×Obj)) (s:Hl) (σ:St) (H:Hp) (Q:VK),Inv X pins σ H s->t σ H Q->Ig (Io X.prog X.w) X.A (KW e X.env) (EP X pins σ Q) X.xe s
def PT (X:Cx)(e:Expr)(t:TT):Prop :=
 ∀(pins:List (Hm×Obj)) (s:Hl) (σ:St) (H:Hp) (Q:Bool->Hp->Prop),Inv X pins σ H s->t σ H Q->Ig (Io X.prog X.w) X.A (isTrue e X.env (KW e X.env)) (TP X pins σ Q) X.xe s
def PW (X:Cx)(e:Expr)(t:TT):Prop :=
 ∀(whole:Sem Value) (pins:List (Hm×Obj)) (s:Hl) (σ:St) (H:Hp) (Q:Bool->Hp->Prop),Inv X pins σ H s->t σ H Q->Ig (Io X.prog X.w) X.A (isTrue e X.env whole) (TP X pins σ Q) X.xe s
theorem PW.pt {X:Cx}{e:Expr}{t:TT}(h:PW X e t):PT X e t:=h _
def PA (X:Cx)(es:List Expr)(t:TA):Prop :=
 ∀(pos:Pos) (pins:List (Hm×Obj)) (s:Hl) (σ:St) (H:Hp) (Q:List V->Hp->Prop),Inv X pins σ H s->t σ H Q->Ig (Io X.prog X.w) X.A (spliced (KQ pos (Ii es X.env))) (AP X pins σ Q) X.xe s
def PS (X:Cx)(st:JO)(t:TS):Prop :=
 ∀(pins:List (Hm×Obj)) (s:Hl) (σ:St) (H:Hp) (D:oF),Inv X pins σ H s->t D σ H->Ig (Io X.prog X.w) X.A (exec st X.env) (SP X pins D) X.xe s
def PSs (X:Cx)(st:List JO)(t:TS):Prop :=
 ∀(pins:List (Hm×Obj)) (s:Hl) (σ:St) (H:Hp) (D:oF),Inv X pins σ H s->t D σ H->Ig (Io X.prog X.w) X.A (execs st X.env) (SP X pins D) X.xe s
theorem thn {α:Type}{t:Sem α}{Q Q':α->Hl->Prop}{M:Model}{A:Around}{E:Value->Hl->Prop}{s:Hl}(h:Ig M A t Q E s)(hQ:∀a s,Q a s->Q' a s):Ig M A t Q' E s:=Km h hQ λ_ _ x=>x
end L2
namespace L2
open PySem PySem.Spec PyProof.Rows
section
variable  {X:Cx}
theorem bin {a b:Expr}{ta tb:TE}(ha:PE X a ta)(hb:PE X b tb){pins:List (Hm×Obj)}{s:Hl}{σ:St}{H:Hp}{R:V->V->Hp->Prop}(I:Inv X pins σ H s)(h:ta σ H λx H1=>tb σ H1 λy H2=>R x y H2)
  {α:Type} {Q:α->Hl->Prop} {f:Value->Value->Sem α}
  (hf:∀v u s2 x y H2,Inv X pins σ H2 s2->a5 x v->a5 y u->R x y H2->Ig (Io X.prog X.w) X.A (f v u) Q X.xe s2) :
  Ig (Io X.prog X.w) X.A (KW a X.env) (λv s₁=>Ig (Io X.prog X.w) X.A (KW b X.env) (λu s₂=>Ig (Io X.prog X.w) X.A (f v u) Q X.xe s₂) X.xe s₁) X.xe s:=by
 refine thn (ha pins s σ H _ I h) λv s1 ⟨x,H1,I1,r1,q1⟩=>?_
 refine thn (hb pins s1 σ H1 _ I1 q1) λu s2 ⟨y,H2,I2,r2,q2⟩=>?_
 exact hf v u s2 x y H2 I2 r1 r2 q2
def a4 (i:Nat):TE:=λσ H Q=>∃v,σ[i]? = some (some v)/\Q v H
def tC (v:V):TE:=λ_ H Q=>Q v H
theorem CD {i:Nat}{x:Str}{pos:Pos}(hN:X.N[i]? = some x)(hv:Vis X.env.scope x) (hd:(x==("__debug__" : Str))=false:=by decide) (hcd:(x==("__classdict__" : Str))=false:=by decide):PE X (.Name x pos) (a4 i):=by
 intro pins s σ H Q I h
 obtain⟨v,e,h⟩:=h
 obtain⟨m,hn,hl⟩:=I.loc
 obtain⟨u,r,l⟩:=hl i x v hN e hv
 have fin:EP X pins σ Q u s:=⟨v,H,I,r,h⟩
 rcases l with⟨hk,hm⟩|⟨hk,c,hc,hcell⟩
 ·exact wpAny_Name (wpAny_loadName_local I.ok.kind hk hn hm fin) hd
 ·rcases hk with hk|hk
  ·exact wpAny_Name (wpAny_loadName_cell I.ok.kind hk hc hcell fin) hd
  ·exact wpAny_Name (wpAny_loadName_free I.ok.kind hk hc hcell fin hcd) hd
theorem ah {i j pos}:PE X (.Constant (.int i) j pos) (tC (.int i)):=λ_ _ _ H _ I h=>wpAny_Constant_int ⟨.int i,H,I.tok _,⟨_,rfl⟩,h⟩
theorem eC {b j pos}:PE X (.Constant (.bool b) j pos) (tC (.bl b)):=λ_ _ _ H _ I h=>Constant_bool ⟨.bl b,H,I,rfl,h⟩
theorem bb {j pos}:PE X (.Constant .none j pos) (tC .non):=λ_ _ _ H _ I h=>Constant_none ⟨.non,H,I,rfl,h⟩
def Gl (X:Cx)(x:Str):Prop:=X.env.kindOf x=some .globalImplicit
theorem re {E:Value->Hl->Prop}{pins:List (Hm×Obj)}{s:Hl}{σ:St}{H:Hp}{x:Str}{u:Value}{pos:Pos}{Q:Value->Hl->Prop}(I:Inv X pins σ H s)(hg:Gl X x)(hm:X.mg x=some u)(h:Q u s)
  (hd:(x==("__debug__" : Str))=false:=by decide):Ig (Io X.prog X.w) X.A (KW (.Name x pos) X.env) Q E s :=
 Calls.Name_function_global I.ok.kind hg (Calls.loadGlobal_global (by rw[I.ok.glob];exact I.mod.glob.keeps I.bk) hm h) hd
theorem gU {E:Value->Hl->Prop}{pins:List (Hm×Obj)}{s:Hl}{σ:St}{H:Hp}{x:Str}{u:Value}{pos:Pos}{Q:Value->Hl->Prop}(I:Inv X pins σ H s)(hg:Gl X x)(hm:X.mg x=none)(hv:J9 x=some u)(h:Q u s)
  (hn:x≠"__name__":=by decide) (hd:(x==("__debug__" : Str))=false:=by decide):Ig (Io X.prog X.w) X.A (KW (.Name x pos) X.env) Q E s:=by
 obtain⟨mb,h1,h2⟩:=I.mod.blt
 exact Calls.Name_function_global I.ok.kind hg (Calls.loadGlobal_builtin (by rw[I.ok.glob];exact I.mod.glob.keeps I.bk) hm (by rw[I.ok.blt];exact h1.keeps I.bk) ((h2 x hn).trans hv) h) hd
theorem qX {x:Str}{v:V}{u:Value}{pos:Pos}(hg:Gl X x)(hm:X.mg x=some u)(r:a5 v u) (hd:(x==("__debug__" : Str))=false:=by decide):PE X (.Name x pos) (tC v) :=
 λ_ _ _ H _ I h=>re I hg hm ⟨v,H,I,r,h⟩ hd
variable  {a b:Expr}{ta tb:TE}{pos:Pos}
def PC (X:Cx)(op:CmpOp)(a b:Expr)(t:TE):Prop :=
 ∀(pins:List (Hm×Obj)) (s:Hl) (σ:St) (H:Hp) (Q:VK),Inv X pins σ H s->t σ H Q ->
  Ig (Io X.prog X.w) X.A (KW a X.env) (λv s₁=>Ig (Io X.prog X.w) X.A (KW b X.env) (λu s₂=>Ig (Io X.prog X.w) X.A (Je op v u) (EP X pins σ Q) X.xe s₂) X.xe s₁) X.xe s
theorem y6 (b:Expr){op:CmpOp}(h:op≠.In)(h2:op≠.NotIn):Ld op b=false:=by
 have e1:(op==CmpOp.In)=false:=by cases op<;>first|rfl|exact absurd rfl h
 have e2:(op==CmpOp.NotIn)=false:=by cases op<;>first|rfl|exact absurd rfl h2
 cases b<;>simp[Ld,e1,e2]
def tB (t:TE):TT:=λσ H Q=>t σ H λx H1=>∃c,x=.bl c/\Q c H1
theorem ua {op:CmpOp}{t:TE}(h:PC X op a b t)(h1:Ld op b=false:=by first|exact y6 _ (by decide) (by decide)|rfl):PT X (.Compare a [op] [b] pos) (tB t):=by
 intro pins s σ H Q I hw
 refine wpAny_isTrue_Compare1 (thn (h pins s σ H _ I hw) λv s1 h1=>thn h1 λu s2 h2=>thn h2 λc s3 ⟨x,H1,I1,r1,q1⟩=>?_) h1
 obtain⟨d,rfl,q⟩:=q1
 cases r1
 exact Jv ⟨H1,I1,q⟩
theorem dc {e:Expr}{t:TE}(h:PE X e t)(he:∀whole,isTrue e X.env whole=(do let v <-whole;standAt e.pos;holding [v] (truthy v)):=by intro _;rfl):PT X e (tB t):=by
 intro pins s σ H Q I hw
 refine isTrue_plain (thn (h pins s σ H _ I hw) λv s1 ⟨x,H1,I1,r1,q1⟩=>?_) (he _)
 obtain⟨d,rfl,q⟩:=q1
 cases r1
 exact Jv ⟨H1,I1,q⟩
variable  {tA tB':TT}{hX:List Expr}
def As (t u:TT):TT:=λσ H Q=>t σ H λc H1=>if c=true then u σ H1 Q else Q false H1
def tOr (t u:TT):TT:=λσ H Q=>t σ H λc H1=>if c=true then Q true H1 else u σ H1 Q
def Ds (t:TT):TT:=λσ H Q=>t σ H λc H1=>Q (!c) H1
theorem gy (ha:PT X a tA):PW X (.BoolOp .And [a] pos) tA:=by
 intro wh pins s σ H Q I h
 refine isTrue_and (thn (ha pins s σ H Q I h) λc s1 e=>?_)
 cases c with
 |true=>exact isTrue_and_nil e
 |false=>exact e
theorem ka (ha:PT X a tA):PW X (.BoolOp .Or [a] pos) tA:=by
 intro wh pins s σ H Q I h
 refine isTrue_or (thn (ha pins s σ H Q I h) λc s1 e=>?_)
 cases c with
 |false=>exact isTrue_or_nil e
 |true=>exact e
theorem jq (ha:PT X a tA)(hb:PW X (.BoolOp .And (b :: hX) pos) tB'):PW X (.BoolOp .And (a :: b :: hX) pos) (As tA tB'):=by
 intro wh pins s σ H Q I h
 refine isTrue_and (thn (ha pins s σ H _ I h) λc s1 ⟨H1,I1,q1⟩=>?_)
 cases c with
 |true=>exact hb wh pins s1 σ H1 Q I1 q1
 |false=>exact⟨H1,I1,q1⟩
theorem oz (ha:PT X a tA)(hb:PW X (.BoolOp .Or (b :: hX) pos) tB'):PW X (.BoolOp .Or (a :: b :: hX) pos) (tOr tA tB'):=by
 intro wh pins s σ H Q I h
 refine isTrue_or (thn (ha pins s σ H _ I h) λc s1 ⟨H1,I1,q1⟩=>?_)
 cases c with
 |true=>exact⟨H1,I1,q1⟩
 |false=>exact hb wh pins s1 σ H1 Q I1 q1
theorem jZ (ha:PT X a tA):PT X (.UnaryOp .Not a pos) (Ds tA):=by
 intro pins s σ H Q I h
 exact isTrue_not (ha pins s σ H (λc H1=>Q (!c) H1) I h)
def Bw (ta tb:TE):TE:=λσ H Q=>ta σ H λx H1=>∃c,x=.bl c/\if c=true then tb σ H1 Q else Q (.bl false) H1
def GK (ta tb:TE):TE:=λσ H Q=>ta σ H λx H1=>∃c,x=.bl c/\if c=true then Q (.bl true) H1 else tb σ H1 Q
def FG (ta:TE):TE:=λσ H Q=>ta σ H λx H1=>∃c,x=.bl c/\Q (.bl (!c)) H1
theorem fF {op}{t:TE}(h:PE X a t):PE X (.BoolOp op [a] pos) t:=λpins s σ H Q I hw=>BoolOp_one (h pins s σ H Q I hw)
theorem jV (ha:PE X a ta)(hb:PE X (.BoolOp .And (b :: hX) pos) tb):PE X (.BoolOp .And (a :: b :: hX) pos) (Bw ta tb):=by
 intro pins s σ H Q I h
 refine BoolOp_and (thn (ha pins s σ H _ I h) λv s1 ⟨x,H1,I1,r1,q1⟩=>?_)
 obtain⟨c,rfl,q1⟩:=q1
 cases r1
 refine Jv ?_
 cases c with
 |true=>exact hb pins s1 σ H1 Q I1 q1
 |false=>exact⟨.bl false,H1,I1,rfl,q1⟩
theorem tR (ha:PE X a ta)(hb:PE X (.BoolOp .Or (b :: hX) pos) tb):PE X (.BoolOp .Or (a :: b :: hX) pos) (GK ta tb):=by
 intro pins s σ H Q I h
 refine BoolOp_or (thn (ha pins s σ H _ I h) λv s1 ⟨x,H1,I1,r1,q1⟩=>?_)
 obtain⟨c,rfl,q1⟩:=q1
 cases r1
 refine Jv ?_
 cases c with
 |false=>exact hb pins s1 σ H1 Q I1 q1
 |true=>exact⟨.bl true,H1,I1,rfl,q1⟩
theorem zF (ha:PE X a ta):PE X (.UnaryOp .Not a pos) (FG ta):=by
 intro pins s σ H Q I h
 refine UnaryOp_ (thn (ha pins s σ H _ I h) λv s1 ⟨x,H1,I1,r1,q1⟩=>?_)
 obtain⟨c,rfl,q1⟩:=q1
 cases r1
 exact not_of (Jv ⟨.bl (!c),H1,I1,rfl,q1⟩)
def tIf (t:TT)(ta tb:TE):TE:=λσ H Q=>t σ H λc H1=>if c=true then ta σ H1 Q else tb σ H1 Q
theorem yn {c:Expr}(hc:PT X c tA)(ha:PE X a ta)(hb:PE X b tb):PE X (.IfExp c a b pos) (tIf tA ta tb):=by
 intro pins s σ H Q I h
 refine wpAny_IfExp (thn (hc pins s σ H _ I h) λd s1 ⟨H1,I1,q1⟩=>?_)
 cases d with
 |true=>exact ha pins s1 σ H1 Q I1 q1
 |false=>exact hb pins s1 σ H1 Q I1 q1
end
end L2
namespace L2
open PySem PySem.Spec PyProof.Rows
def SqL (K:IN)(H:Hp)(a:Hm)(xs:List V):Prop :=
 Rd H a (.lst xs) \/
  ∃(o:Obj) (its:Array Value) (n:Nat),K.lookup a=some o/\o.cls=.type "list"/\o.dict=none/\o.data=.seq its n/\its.size<=Hr/\aT xs its.toList
def SqT (K:IN)(H:Hp)(a:Hm)(xs:List V):Prop :=
 Rd H a (.tup xs) \/
  ∃(o:Obj) (its:Array Value) (n:Nat),K.lookup a=some o/\o.cls=.type "tuple"/\o.data=.seq its n/\its.size<=Hr/\aT xs its.toList
def Gw:Value->Option V
 |.none=>some .non
 |.bool b=>some (.bl b)
 |.int i _=>some (.int i)
 |.str x _=>some (.str x)
 |.bytes b _=>some (.byt b)
 |.float b _=>some (.flt b)
 |.ref a=>some (.ref a)
 |.type n=>some (.ty n)
 |_=>none
theorem a5.abs {x:V}{u:Value}(r:a5 x u):Gw u=some x:=by
 cases x with
 |non=>cases r;rfl
 |bl _=>cases r;rfl
 |int _=>obtain⟨t,rfl⟩:=r;rfl
 |str _=>obtain⟨t,rfl⟩:=r;rfl
 |byt _=>obtain⟨t,rfl⟩:=r;rfl
 |flt _=>obtain⟨t,rfl⟩:=r;rfl
 |ref _=>cases r;rfl
 |ty _=>cases r;rfl
theorem a5.inj {x y:V}{u:Value}(r:a5 x u)(q:a5 y u):x=y:=osi (r.abs.symm.trans q.abs)
theorem aT.inj:∀{xs ys:List V} {us:List Value},aT xs us->aT ys us->xs=ys
 |_,_,_,.nil,.nil=>rfl
 |_,_,_,.cons r t,.cons r' t'=>by rw[r.inj r',aT.inj t t']
section
variable  {X:Cx}{pins:List (Hm×Obj)}{σ:St}{H:Hp}{s:Hl}{a:Hm}{xs ys:List V}
theorem SqL.of {K:IN}(h:H a=some (.lst xs)):SqL K H a xs:=.inl (.inl h)
theorem SqT.of {K:IN}(h:H a=some (.tup xs)):SqT K H a xs:=.inl (.inl h)
theorem Inv.list (I:Inv X pins σ H s)(h:SqL X.K H a xs):∃its:List Value,aT xs its/\PlainL s.heap a its.toArray/\xs.length<=Hr:=by
 rcases h with h|⟨o,its,n,hk,hc,hd,hs,hz,r⟩
 ·obtain⟨z,its,n,r,e⟩:=h.ok I.hok
  exact⟨its,r,⟨_,n,e,rfl,rfl,rfl⟩,z⟩
 ·refine⟨its.toList,r,⟨o,n,I.kIn a o hk,hc,hd,by simpa using hs⟩,?_⟩
  have e:=r.length
  simp only[JJ]at e
  lia
theorem Inv.tuple (I:Inv X pins σ H s)(h:SqT X.K H a xs):∃its:List Value,aT xs its/\IsTup s.heap a its.toArray/\xs.length<=Hr:=by
 rcases h with h|⟨o,its,n,hk,hc,hs,hz,r⟩
 ·obtain⟨z,its,r,p⟩:=h.ok I.hok
  exact⟨its,r,p,z⟩
 ·refine⟨its.toList,r,⟨o,I.kIn a o hk,hc,n,by simpa using hs⟩,?_⟩
  have e:=r.length
  simp only[JJ]at e
  lia
theorem Inv.list_inj (I:Inv X pins σ H s)(h:SqL X.K H a xs)(h':SqL X.K H a ys):xs=ys:=by
 obtain⟨its,r,⟨o,n,e,_,_,d⟩,_⟩:=I.list h
 obtain⟨its',r',⟨o',n',e',_,_,d'⟩,_⟩:=I.list h'
 rw[e]at e';cases e'
 rw[d]at d'
 injection d' with d1 _
 have:its=its':=by simpa using Jb Array.toList d1
 subst this
 exact r.inj r'
theorem Inv.tuple_inj (I:Inv X pins σ H s)(h:SqT X.K H a xs)(h':SqT X.K H a ys):xs=ys:=by
 obtain⟨its,r,⟨o,e,_,n,d⟩,_⟩:=I.tuple h
 obtain⟨its',r',⟨o',e',_,n',d'⟩,_⟩:=I.tuple h'
 rw[e]at e';cases e'
 rw[d]at d'
 injection d' with d1 _
 have:its=its':=by simpa using Jb Array.toList d1
 subst this
 exact r.inj r'
end
abbrev Cx.wish (X:Cx)(E:Value->Hl->Prop):Cx:={ X with xe:=E }
abbrev Cx.nox (X:Cx):Cx:=X.wish λ_ _=>False
theorem Cx.Ok.wish {X:Cx}(ok:X.Ok)(E:Value->Hl->Prop):(X.wish E).Ok :=
 ⟨ok.mod,ok.kind,ok.glob,ok.blt,ok.above,ok.inj,ok.has,ok.cab,ok.hd,ok.frames,ok.stk,ok.exf,ok.bs,ok.bsz,ok.noex,ok.exfs,ok.funs,ok.frf⟩
theorem Cx.Ok.unwish {X:Cx}{E:Value->Hl->Prop}(ok:(X.wish E).Ok):X.Ok :=
 ⟨ok.mod,ok.kind,ok.glob,ok.blt,ok.above,ok.inj,ok.has,ok.cab,ok.hd,ok.frames,ok.stk,ok.exf,ok.bs,ok.bsz,ok.noex,ok.exfs,ok.funs,ok.frf⟩
section
variable  {X:Cx}{pins:List (Hm×Obj)}{σ:St}{H:Hp}{s:Hl}{E:Value->Hl->Prop}
theorem Inv.wish (I:Inv X pins σ H s)(E:Value->Hl->Prop):Inv (X.wish E) pins σ H s:=⟨I.ok.wish E,I.os,I.bare,I.base,I.loc,I.cell,I.free,I.freeC,I.pin,I.hok,I.len⟩
theorem Inv.unwish (I:Inv (X.wish E) pins σ H s):Inv X pins σ H s:=⟨I.ok.unwish,I.os,I.bare,I.base,I.loc,I.cell,I.free,I.freeC,I.pin,I.hok,I.len⟩
theorem SP.unwish {D:oF}{f:Flow}{s':Hl}(h:SP (X.wish E) pins D f s'):SP X pins D f s':=by
 cases f with
 |next=>obtain⟨σ',H',I,q⟩:=h;exact⟨σ',H',I.unwish,q⟩
 |brk=>obtain⟨σ',H',I,q⟩:=h;exact⟨σ',H',I.unwish,q⟩
 |cont=>obtain⟨σ',H',I,q⟩:=h;exact⟨σ',H',I.unwish,q⟩
 |ret u=>obtain⟨v,σ',H',I,r,q⟩:=h;exact⟨v,σ',H',I.unwish,r,q⟩
theorem PSs.nox {st:List JO}{t:TS}(h:PSs X.nox st t):PSs X st t:=λpins s σ H D I hw =>
 Km (h pins s σ H D (I.wish _) hw) (λ_ _ q=>q.unwish) λ_ _ z=>Jm z
end
section
variable  {X:Cx}{st:JO}{hX:List JO}{t u:TS}{e:Expr}{te:TE}{pos:Pos}
def oG:TS:=λD σ H=>D.nx σ H
def BY (t u:TS):TS:=λD σ H=>t { D with nx:=u D } σ H
theorem aN:PSs X [] oG:=λ_ _ σ H _ I h=>wpAny_execs_nil ⟨σ,H,I,h⟩
theorem ac (h1:PS X st t)(h2:PSs X hX u):PSs X (st :: hX) (BY t u):=by
 intro pins s σ H D I h
 refine wpAny_execs_cons (thn (h1 pins s σ H { D with nx:=u D } I h) λf s1 q=>?_)
 cases f with
 |next =>
  obtain⟨σ',H',I',q⟩:=q
  exact h2 pins s1 σ' H' D I' q
 |ret v=>exact q
 |brk=>exact q
 |cont=>exact q
theorem af (h1:PS X st t):PSs X [st] t:=by
 intro pins s σ H D I h
 refine wpAny_execs_cons (thn (h1 pins s σ H D I h) λf s1 q=>?_)
 cases f with
 |next=>exact wpAny_execs_nil q
 |ret v=>exact q
 |brk=>exact q
 |cont=>exact q
theorem Inv.quiet {pins:List (Hm×Obj)}{σ:St}{H:Hp}{s:Hl}(I:Inv X pins σ H s):interactive X.env=false:=by simp[interactive,I.ok.kind]
def BO (te:TE):TS:=λD σ H=>te σ H λ_ H1=>D.nx σ H1
theorem iS (he:PE X e te)(hs:swapsWith e none pos.line X.env=pure false:=by rfl):PS X (.Expr e pos) (BO te):=by
 intro pins s σ H D I h
 exact wpAny_Expr_any (thn (he pins s σ H _ I h) λv s1 ⟨x,H1,I1,r1,q1⟩=>⟨σ,H1,I1,q1⟩) I.quiet hs
def m5 (te:TE):TS:=λD σ H=>te σ H D.rt
theorem aq (he:PE X e te):PS X (.Return (some e) pos) (m5 te):=by
 intro pins s σ H D I h
 exact wpAny_Return_some (thn (he pins s σ H _ I h) λv s1 ⟨x,H1,I1,r1,q1⟩=>⟨x,σ,H1,I1,r1,q1⟩)
def ud (c:TT)(t u:TS):TS:=λD σ H=>c σ H λb H1=>if b=true then t D σ H1 else u D σ H1
theorem a8 {c:Expr}{a b:List JO}{tc:TT}(hc:PT X c tc)(ha:PSs X a t)(hb:PSs X b u):PS X (.If c a b pos) (ud tc t u):=by
 intro pins s σ H D I h
 refine wpAny_If (thn (hc pins s σ H _ I h) λd s1 ⟨H1,I1,q1⟩=>?_)
 cases d with
 |true=>exact ha pins s1 σ H1 D I1 q1
 |false=>exact hb pins s1 σ H1 D I1 q1
end
abbrev TG:=V->St->Hp->(St->Hp->Prop)->Prop
abbrev TGs:=List V->St->Hp->(St->Hp->Prop)->Prop
def PG (X:Cx)(target:Expr)(t:TG):Prop :=
 ∀(pins:List (Hm×Obj)) (s:Hl) (σ:St) (H:Hp) (v:V) (u:Value) (Q:St->Hp->Prop),Inv X pins σ H s->a5 v u->t v σ H Q ->
  Ig (Io X.prog X.w) X.A (assign target X.env u) (λ_ s'=>∃σ' H',Inv X pins σ' H' s'/\Q σ' H') X.xe s
def PGs (X:Cx)(ts:List Expr)(t:TGs):Prop :=
 ∀(pins:List (Hm×Obj)) (s:Hl) (σ:St) (H:Hp) (vs:List V) (us:List Value) (Q:St->Hp->Prop),Inv X pins σ H s->aT vs us->t vs σ H Q ->
  Ig (Io X.prog X.w) X.A (assignInOrder ((assignEach ts X.env).map (·.2)) us) (λ_ s'=>∃σ' H',Inv X pins σ' H' s'/\Q σ' H') X.xe s
abbrev Ck:=V->V->V->Hp->(Hp->Prop)->Prop
def Gb (X:Cx)(t:Ck):Prop :=
 ∀(pins:List (Hm×Obj)) (s:Hl) (σ:St) (H:Hp) (o i v:V) (ov iv u:Value) (Q:Hp->Prop),Inv X pins σ H s->a5 o ov->a5 i iv->a5 v u->t o i v H Q ->
  Ig (Io X.prog X.w) X.A (setItem ov iv u) (λ_ s'=>∃H',Inv X pins σ H' s'/\Q H') X.xe s
abbrev TIp:=V->V->Hp->VK->Prop
def PIp (X:Cx)(op:Operator)(t:TIp):Prop :=
 ∀(pins:List (Hm×Obj)) (s:Hl) (σ:St) (H:Hp) (x y:V) (v u:Value) (Q:VK),Inv X pins σ H s->a5 x v->a5 y u->t x y H Q ->
  Ig (Io X.prog X.w) X.A (inplaceOp op v u) (EP X pins σ Q) X.xe s
section
variable  {X:Cx}{pos:Pos}
def pY (i:Nat):TG:=λv σ H Q=>Q (σ.set i (some v)) H
theorem au {i:Nat}{x:Str}(hN:X.N.Nodup)(hi:X.N[i]? = some x)(hx:Loc X.env.scope x)(hf:X.fn x=true\/X.env.scope.names.lookup x=some .local:=by first|exact .inl rfl|exact .inr rfl|assumption):PG X (.Name x pos) (pY i):=by
 intro pins s σ H v u Q I r h
 exact wpAny_assign_Name (ny I hN hi hx r (λs' I'=>⟨_,H,I',h⟩) hf)
def E4:TGs:=λvs σ H Q=>vs=[]/\Q σ H
def xN (t:TG)(u:TGs):TGs:=λvs σ H Q=>∃v r,vs=v :: r/\t v σ H λσ' H'=>u r σ' H' Q
theorem bL:PGs X [] E4:=by
 intro pins s σ H vs us Q I r h
 obtain⟨e,h⟩:=h
 subst e
 cases r
 exact assignInOrder_nil ⟨σ,H,I,h⟩
theorem aH {e:Expr}{es:List Expr}{t:TG}{u:TGs}(h1:PG X e t)(h2:PGs X es u)
  (hs:(assignEach (e :: es) X.env).map (·.2)=assign e X.env :: (assignEach es X.env).map (·.2):=by rfl):PGs X (e :: es) (xN t u):=by
 intro pins s σ H vs us Q I r h
 obtain⟨v,vr,e1,h⟩:=h
 subst e1
 cases r with
 |cons r rr =>
  rw[hs]
  refine assignInOrder_cons (thn (h1 pins s σ H _ _ _ I r h) λ_ s1 ⟨σ1,H1,I1,q1⟩=>?_)
  exact h2 pins s1 σ1 H1 _ _ Q I1 rr q1
def Fe (K:IN)(n:Nat)(t:TGs):TG:=λv σ H Q=>∃a xs,v=.ref a/\SqT K H a xs/\xs.length=n/\t xs σ H Q
theorem cC {es:List Expr}{k:Nat}{t:TGs}{n:Nat}(hc:X.calm=true)(h:PGs X es t)
  (hn:(assignEach es X.env).length=n:=by rfl) (hst:(assignEach es X.env).findIdx? (·.1)=none:=by rfl):PG X (.Tuple es k pos) (Fe X.K n t):=by
 intro pins s σ H v u Q I r hw
 obtain⟨a,xs,e1,hq,hl,hw⟩:=hw
 subst e1
 cases r
 obtain⟨its,rv,ht,hz⟩:=I.tuple hq
 refine assign_Tuple_tuple (I.ok.hd hc) ht (by simp[hn,<-hl,rv.length]) hst λh' hx=>?_
 have I1:Inv X pins σ H { s with heap:=h' }:=I.kept (t':=s.toks) λb o e=>hx b o (Ij (HB e)) e
 exact h pins _ σ H xs _ Q I1 (by simpa using rv) hw
def G4 (to ti:TE)(t:Ck):TG:=λv σ H Q=>to σ H λo H1=>ti σ H1 λi H2=>t o i v H2 λH3=>Q σ H3
theorem yi {o i:Expr}{to ti:TE}{t:Ck}(ho:PE X o to)(hi:PE X i ti)(hs:Gb X t)
  (ha:∀v,assign (.Subscript o i pos) X.env v=(do
   let ov <-holding [v] (KW o X.env)
   let iv <-holding [v,ov] (KW i X.env)
   standAt pos
   holding [v,ov,iv] (setItem ov iv v)
   release [v,ov,iv] []):=by intro _;rfl):PG X (.Subscript o i pos) (G4 to ti t):=by
 intro pins s σ H v u Q I r h
 rw[ha]
 refine Hj (wpAny_holding (thn (ho pins s σ H _ I h) λov s1 ⟨x,H1,I1,r1,q1⟩=>?_))
 refine Hj (wpAny_holding (thn (hi pins s1 σ H1 _ I1 q1) λiv s2 ⟨y,H2,I2,r2,q2⟩=>?_))
 refine Hj (wpAny_standAt (Hj (wpAny_holding (thn (hs pins s2 σ H2 x y v ov iv u _ I2 r1 r2 r q2) λ_ s3 ⟨H3,I3,q3⟩=>?_))))
 exact wpAny_release ⟨σ,H3,I3,q3⟩
def Dj (te:TE)(g:TG):TS:=λD σ H=>te σ H λx H1=>g x σ H1 D.nx
theorem zS {tg e:Expr}{te:TE}{g:TG}(he:PE X e te)(hg:PG X tg g)(hs:swapsWithSole [tg] e pos.line X.env=pure false:=by rfl)(hw:swappedStores [tg] e X.env=pure none:=by rfl)
  (h1:(assignEach [tg] X.env).map (·.2)=[assign tg X.env]:=by rfl):PS X (.Assign [tg] e pos) (Dj te g):=by
 intro pins s σ H D I h
 refine wpAny_Assign_stores (thn (he pins s σ H _ I h) λv s1 ⟨x,H1,I1,r1,q1⟩=>?_) hs hw
 rw[h1]
 exact thn (hg pins s1 σ H1 x v _ I1 r1 q1) λ_ s2 q=>q
theorem aC {i:Nat}{x:Str}{e:Expr}{te:TE}{pos':Pos}(hN:X.N.Nodup)(hi:X.N[i]? = some x)(hx:Loc X.env.scope x)(he:PE X e te)(hs:swapsWith e (some (.Name x pos')) pos.line X.env=pure false:=by rfl)(hf:X.fn x=true\/X.env.scope.names.lookup x=some .local:=by first|exact .inl rfl|exact .inr rfl|assumption) :
  PS X (.Assign [.Name x pos'] e pos) (Dj te (pY i)):=by
 intro pins s σ H D I h
 refine wpAny_Assign_Name (thn (he pins s σ H _ I h) λv s1 ⟨y,H1,I1,r1,q1⟩=>?_) hs
 exact ny I1 hN hi hx r1 (λs2 I2=>⟨_,H1,I2,q1⟩) hf
def GZ (i:Nat)(te:TE)(ti:TIp):TS:=λD σ H=>∃x,σ[i]? = some (some x)/\te σ H λy H1=>ti x y H1 λz H2=>D.nx (σ.set i (some z)) H2
theorem yq {i:Nat}{x:Str}{e:Expr}{te:TE}{op:Operator}{ti:TIp}{pos':Pos}(hN:X.N.Nodup)(hi:X.N[i]? = some x)(hx:Loc X.env.scope x)(he:PE X e te)(ho:PIp X op ti)(hf:X.fn x=true\/X.env.scope.names.lookup x=some .local:=by first|exact .inl rfl|exact .inr rfl|assumption) :
  PS X (.AugAssign (.Name x pos') op e pos) (GZ i te ti):=by
 intro pins s σ H D I h
 obtain⟨v,e1,h⟩:=h
 obtain⟨m,hn,hl⟩:=I.loc
 have vis:Vis X.env.scope x:=by rcases hx with k|k;exact .inl k;exact .inr (.inl k)
 obtain⟨u,r,l⟩:=hl i x v hi e1 vis
 refine wpAny_AugAssign_Name ?_
 have go:Ig (Io X.prog X.w) X.A (KW e X.env) (λw s₂=>Ig (Io X.prog X.w) X.A (inplaceOp op u w) (λr s₃=>Ig (Io X.prog X.w) X.A (storeName X.env x r) (λ_=>SP X pins D .next) X.xe s₃) X.xe s₂) X.xe s:=by
  refine thn (he pins s σ H _ I h) λw s1 ⟨y,H1,I1,r1,q1⟩=>?_
  refine thn (ho pins s1 σ H1 v y u w _ I1 r r1 q1) λz s2 ⟨zv,H2,I2,r2,q2⟩=>?_
  exact ny I2 hN hi hx r2 (λs3 I3=>⟨_,H2,I3,q2⟩) hf
 rcases l with⟨hk,hm⟩|⟨hk,c,hc,hcell⟩
 ·exact wpAny_loadName_local I.ok.kind hk hn hm go
 ·rcases hk with hk|hk
  ·exact wpAny_loadName_cell I.ok.kind hk hc hcell go
  ·rcases hx with k|k
   ·have:X.env.scope.names.lookup x=some .free:=hk
    rw[k]at this;cases this
   ·have:X.env.scope.names.lookup x=some .free:=hk
    rw[k]at this;cases this
def ipI (f:Int->Int->Int):TIp:=λx y H Q=>∃i j,x=.int i/\y=.int j/\Q (.int (f i j)) H
theorem yC:PIp X .Add (ipI λi j=>i+j):=by
 intro pins s σ H x y v u Q I r1 r2 h
 obtain⟨i,j,e1,e2,q⟩:=h
 subst e1;subst e2
 obtain⟨t,rfl⟩:=r1
 obtain⟨t',rfl⟩:=r2
 exact iadd_int ⟨.int _,H,I.tok _,⟨_,rfl⟩,q⟩
end
section
variable  {X:Cx}{pos:Pos}
def Cg (c:TT)(tb:TS):TS:=λD σ H=>∃W:Nat->St->Hp->Prop,(∃m,W m σ H)/\∀m σ H,W m σ H ->
 c σ H λb H1=>if b=true then ∃N:St->Hp->Prop,(∀σ' H',N σ' H'->∃m',m'<m/\W m' σ' H')/\tb { D with nx:=N,ct:=N,bk:=D.nx } σ H1 else D.nx σ H1
theorem nY {c:Expr}{body:List JO}{tc:TT}{tb:TS}(hp:PassesOwn (Io X.prog X.w) X.A X.env X.xe)(hc:PT X c tc)(hb:PSs X body tb):PS X (.While c body [] pos) (Cg tc tb):=by
 intro pins s σ H D I h
 obtain⟨W,⟨m0,w0⟩,turn⟩:=h
 refine wpAny_While (codeAny_whileLoop (λn s'=>∃σ' H',Inv X pins σ' H' s'/\W n σ' H') ?_ m0 ⟨σ,H,I,w0⟩)
 rintro n s1 ⟨σ1,H1,I1,w1⟩
 refine KA hp (thn (hc pins s1 σ1 H1 _ I1 (turn n σ1 H1 w1)) λb s2 ⟨H2,I2,q2⟩=>?_)
 cases b with
 |true =>
  obtain⟨N,hN,q2⟩:=q2
  rw[Hz rfl]
  refine KA hp (thn (hb pins s2 σ1 H2 _ I2 q2) λf s3 q3=>?_)
  cases f with
  |next =>
   obtain⟨σ3,H3,I3,n3⟩:=q3
   obtain⟨m',hm,w3⟩:=hN σ3 H3 n3
   exact⟨m',hm,σ3,H3,I3,w3⟩
  |cont =>
   obtain⟨σ3,H3,I3,n3⟩:=q3
   obtain⟨m',hm,w3⟩:=hN σ3 H3 n3
   exact⟨m',hm,σ3,H3,I3,w3⟩
  |brk=>exact q3
  |ret v=>exact q3
 |false =>
  rw[Hs HG]
  exact wpAny_execs_nil ⟨σ1,H2,I2,q2⟩
end
structure It where
 go:Nat->Hp->Prop
 yld:Nat->Hp->V->Hp->Prop
 stop:Nat->Hp->Prop
def mI (X:Cx)(pins:List (Hm×Obj))(H:Hp)(b:Hm):Prop :=
 H b=none/\b≠X.env.locals/\b∉X.fs/\(b∈X.ex\/X.s_0.heap.objs.size<=b)/\(∀x c,X.env.cells.lookup x=some c->c≠b)/\∀p∈X.pn++pins,p.1≠b
theorem Inv.fpOk {X:Cx}{pins:List (Hm×Obj)}{σ:St}{H H':Hp}{s:Hl}{b:Hm}(I:Inv X pins σ H s)(hb:s.heap.objs.size<=b)(hn:H' b=none):mI X pins H' b:=by
 refine⟨hn,JP (HV I.lt hb),I.nofs hb,.inr (Ik I.sz hb),λx c e z=>?_,λp hp z=>?_⟩
 ·obtain⟨v,q⟩:=I.cell x c e
  exact absurd (HV q.lt (by rw[z];exact hb)) (Js _)
 ·exact absurd (HV (HB (I.pin p hp).1) (by rw[z];exact hb)) (Js _)
structure oh (P:Ih)(w:I0)(K:IN)(tg:Expr)(J:It)(fp:List Hm)(it:Hm)(tn:Nat->Heap->Prop):Prop where
 mem:it∈fp
 obj:∀i h,tn i h->∀b∈fp,∃o,h.get? b=some o/\∀v,o.data≠.cell v
 keep:∀i h h',tn i h->(∀b∈fp,∀o,h.get? b=some o->h'.get? b=some o)->tn i h'
 item:∀(X:Cx),X.prog=P->X.w=w->X.K=K->X.calm=true->∀(i:Nat) (pins:List (Hm×Obj)) (s:Hl) (σ:St) (H:Hp) (E:Value->Hl->Prop),Inv X pins σ H s->(∀b∈fp,mI X pins H b)->tn i s.heap->J.go i H ->
  Ig (Io P w) X.A (pyNext (.ref it)) (λr s1=>∃u,r=some u /\
   Ig (Io P w) X.A (letOwnedTupleGo tg (.ref it) u) (λ_ s2=>∃x H',Inv X pins σ H' s2/\a5 x u/\J.yld i H x H'/\tn (i+1) s2.heap/\∀b∈fp,H' b=none) E s1) E s
 done:∀(X:Cx),X.prog=P->X.w=w->X.K=K->X.calm=true->∀(i:Nat) (pins:List (Hm×Obj)) (s:Hl) (σ:St) (H:Hp) (E:Value->Hl->Prop),Inv X pins σ H s->(∀b∈fp,mI X pins H b)->tn i s.heap->J.stop i H ->
  Ig (Io P w) X.A (pyNext (.ref it)) (λr s1=>r=none/\Inv X pins σ H s1) E s
 self:∀(A:Around) (i:Nat) (s:Hl) (Q:Value->Hl->Prop) (E:Value->Hl->Prop),tn i s.heap->Q (.ref it) s->Ig (Io P w) A (pyIter (.ref it)) Q E s
abbrev TI:=St->Hp->(It->Hp->Prop)->Prop
def PIE (X:Cx)(pins:List (Hm×Obj))(σ:St)(tg:Expr)(R:It->Hp->Prop)(itv:Value)(s2:Hl):Prop :=
 ∃(it:Hm) (fp:List Hm) (tn:Nat->Heap->Prop) (J:It) (H':Hp),itv=.ref it/\Inv X pins σ H' s2/\oh X.prog X.w X.K tg J fp it tn/\tn 0 s2.heap/\(∀b∈fp,mI X pins H' b)/\R J H'
def PI (X:Cx)(tg iter:Expr)(wi:TI):Prop :=
 ∀(pins:List (Hm×Obj)) (s:Hl) (σ:St) (H:Hp) (R:It->Hp->Prop),Inv X pins σ H s->wi σ H R ->
  Ig (Io X.prog X.w) X.A (KW iter X.env) (λv s1=>Ig (Io X.prog X.w) X.A (pyIter v) (PIE X pins σ tg R) X.xe s1) X.xe s
theorem oo {M:Model}{A:Around}{E:Value->Hl->Prop}{s:Hl}{tg:Expr}{it:Hm}{u:Value}{o:Obj}{n:String}{vs:Array Value}{Q:Unit->Hl->Prop}(ho:s.heap.get? it=some o)(hc:o.cls=.type n)(hd:o.data=.fields vs)
  (hn:["enumerate","zip","dict_itemiterator","dict_reverseitemiterator","odict_iterator","itertools.zip_longest","itertools.pairwise"].contains n=false) (hQ:Q () s):Ig M A (letOwnedTupleGo tg (.ref it) u) Q E s:=by
 unfold letOwnedTupleGo
 cases tg<;>first
  |exact HL hQ
  |(cases u<;>first
    |exact HL hQ
    |(refine Hj (wpAny_load ho ?_)
      rw[hc,hd]
      show Ig M A (if (["enumerate","zip","dict_itemiterator","dict_reverseitemiterator","odict_iterator","itertools.zip_longest","itertools.pairwise"].contains n&&vs[0]?==some (rawInt _))=true then _ else _) Q E s
      rw[Hs (by intro h;rw[hn,IF]at h;cases h)]
      exact HL hQ))
def Itl (K:IN)(a:Hm):It :=
 ⟨λi H=>∃xs x,SqL K H a xs/\xs[i]? = some x,λi H x H'=>H'=H/\∀xs,SqL K H a xs->xs[i]? = some x,λi H=>∃xs,SqL K H a xs/\xs.length<=i⟩
def Itt (K:IN)(a:Hm):It :=
 ⟨λi H=>∃xs x,SqT K H a xs/\xs[i]? = some x,λi H x H'=>H'=H/\∀xs,SqT K H a xs->xs[i]? = some x,λi H=>∃xs,SqT K H a xs/\xs.length<=i⟩
def Itr (lo:Int)(n:Nat):It:=⟨λi _=>i<n,λi H x H'=>H'=H/\x=.int (lo+i),λi _=>n<=i⟩
theorem wF {P:Ih}{w:I0}{K:IN}{tg:Expr}(a it:Hm):oh P w K tg (Itl K a) [it] it (λi h=>h.IsListIter it a i) where
 mem:=by simp
 obj:=λi h st b hb=>by
  have e:b=it:=by simpa using hb
  subst e
  obtain⟨o,e,c,d⟩:=st
  exact⟨o,e,λv z=>by rw[d]at z;cases z⟩
 keep:=λi h h' st k=>st.at λo e=>k it (by simp) o e
 item:=by
  intro X hP hw hK hc i pins s σ H E I hf st hg
  subst hP hw hK
  obtain⟨xs,x,hq,hx⟩:=hg
  obtain⟨its,rv,p,hz⟩:=I.list hq
  obtain⟨u,hu,ru⟩:=rv.get hx
  obtain⟨f0,f1,f2,f3,f4,f5⟩:=hf it (by simp)
  refine wpAny_pyNext_list_item st p.isList (x:=u) (by simpa using hu) λh' st' sb=>?_
  have I1:Inv X pins σ H { s with heap:=h' }:=I.turned (t':=s.toks) (λb o hb e=>(sb.2 b hb).trans e) f0 f1 f3 f4 f5
  obtain⟨o,e,c,d⟩:=id st'
  exact⟨u,rfl,oo (s:={ s with heap:=h' }) e c d (by decide) ⟨x,H,I1,ru,⟨rfl,λys hy=>by rw[I.list_inj hy hq];exact hx⟩,st',λb hb=>(hf b hb).1⟩⟩
 done:=by
  intro X hP hw hK hc i pins s σ H E I hf st hg
  subst hP hw hK
  obtain⟨xs,hq,hx⟩:=hg
  obtain⟨its,rv,p,hz⟩:=I.list hq
  obtain⟨f0,f1,f2,f3,f4,f5⟩:=hf it (by simp)
  have hl:=rv.length
  exact wpAny_pyNext_list_end (I.ok.hd hc) st p.isList (by simp;lia) λh' eb=>⟨rfl,I.turned (t':=s.toks) (λb o hb e=>eb b o hb e) f0 f1 f3 f4 f5⟩
 self:=λ_ _ _ _ _ st h=>wpAny_pyIter_listiter st h
theorem uw {P:Ih}{w:I0}{K:IN}{tg:Expr}(a it:Hm):oh P w K tg (Itt K a) [it] it (λi h=>h.IsTupleIter it a i) where
 mem:=by simp
 obj:=λi h st b hb=>by
  have e:b=it:=by simpa using hb
  subst e
  obtain⟨o,e,c,d⟩:=st
  exact⟨o,e,λv z=>by rw[d]at z;cases z⟩
 keep:=λi h h' st k=>st.at λo e=>k it (by simp) o e
 item:=by
  intro X hP hw hK hc i pins s σ H E I hf st hg
  subst hP hw hK
  obtain⟨xs,x,hq,hx⟩:=hg
  obtain⟨its,rv,p,hz⟩:=I.tuple hq
  obtain⟨u,hu,ru⟩:=rv.get hx
  obtain⟨f0,f1,f2,f3,f4,f5⟩:=hf it (by simp)
  refine wpAny_pyNext_tuple_item st (show s.heap.IsTuple a its.toArray from p) (x:=u) (by simpa using hu) λh' st' sb=>?_
  have I1:Inv X pins σ H { s with heap:=h' }:=I.turned (t':=s.toks) (λb o hb e=>(sb.2 b hb).trans e) f0 f1 f3 f4 f5
  obtain⟨o,e,c,d⟩:=id st'
  exact⟨u,rfl,oo (s:={ s with heap:=h' }) e c d (by decide) ⟨x,H,I1,ru,⟨rfl,λys hy=>by rw[I.tuple_inj hy hq];exact hx⟩,st',λb hb=>(hf b hb).1⟩⟩
 done:=by
  intro X hP hw hK hc i pins s σ H E I hf st hg
  subst hP hw hK
  obtain⟨xs,hq,hx⟩:=hg
  obtain⟨its,rv,p,hz⟩:=I.tuple hq
  obtain⟨f0,f1,f2,f3,f4,f5⟩:=hf it (by simp)
  have hl:=rv.length
  exact wpAny_pyNext_tuple_end (I.ok.hd hc) st (show s.heap.IsTuple a its.toArray from p) (by simp;lia) λh' eb=>⟨rfl,I.turned (t':=s.toks) (λb o hb e=>eb b o hb e) f0 f1 f3 f4 f5⟩
 self:=λ_ _ _ _ _ st h=>wpAny_pyIter_tupleiter st h
theorem uU {P:Ih}{w:I0}{K:IN}{tg:Expr}(it:Hm)(lo:Int)(n:Nat):oh P w K tg (Itr lo n) [it] it (λi h=>IsRangeIter h it (lo+(i:Nat)*1) ((n:Int)-(i:Nat)) 1) where
 mem:=by simp
 obj:=λi h st b hb=>by
  have e:b=it:=by simpa using hb
  subst e
  exact⟨_,st,λv z=>by
   have z':Data.fields _=Data.cell v:=z
   cases z'⟩
 keep:=λi h h' st k=>k it (by simp) _ st
 item:=by
  intro X hP hw hK hc i pins s σ H E I hf st hg
  subst hP hw hK
  obtain⟨f0,f1,f2,f3,f4,f5⟩:=hf it (by simp)
  have W:=Walks.range (prog:=X.prog) (w:=X.w) (I.ok.hd hc) it lo 1 n
  refine W.item i s _ _ hg st λv h' tk hv st' kk=>?_
  obtain⟨t,rfl⟩:=hv
  have I1:Inv X pins σ H { s with heap:=h',toks:=tk }:=I.turned (λb o hb e=>kk b o (by simpa using hb) e) f0 f1 f3 f4 f5
  refine⟨_,rfl,oo (s:={ s with heap:=h',toks:=tk }) (n:="range_iterator") st' rfl rfl (by decide) ⟨.int (lo+i),H,I1,⟨t,?_⟩,⟨rfl,rfl⟩,st',λb hb=>(hf b hb).1⟩⟩
  rw[Int.mul_one]
 done:=by
  intro X hP hw hK hc i pins s σ H E I hf st hg
  subst hP hw hK
  obtain⟨f0,f1,f2,f3,f4,f5⟩:=hf it (by simp)
  exact wpAny_pyNext_range_end (I.ok.hd hc) st (by have:n<=i:=hg;lia) λh' eb=>⟨rfl,I.turned (t':=s.toks) (λb o hb e=>eb b o hb e) f0 f1 f3 f4 f5⟩
 self:=λ_ _ _ _ _ st h=>wpAny_pyIter_rangeiter st h
end L2
namespace L2
open PySem PySem.Spec PyProof.Rows
section
variable  {X:Cx}{tg:Expr}
def FO (K:IN)(tl:TE):TI:=λσ H R=>tl σ H λx H1=>∃a,x=.ref a/\(∃xs,SqL K H1 a xs)/\R (Itl K a) H1
def G2 (K:IN)(tl:TE):TI:=λσ H R=>tl σ H λx H1=>∃a,x=.ref a/\(∃xs,SqT K H1 a xs)/\R (Itt K a) H1
theorem bF {l:Expr}{tl:TE}(hl:PE X l tl):PI X tg l (FO X.K tl):=by
 intro pins s σ H R I h
 refine thn (hl pins s σ H _ I h) λv s1 ⟨x,H1,I1,r1,q1⟩=>?_
 obtain⟨a,e,⟨xs,hq⟩,q⟩:=q1
 subst e
 cases r1
 obtain⟨its,rv,p,hz⟩:=I1.list hq
 refine wpAny_pyIter_list p.isList ?_
 refine⟨s1.heap.objs.size,[s1.heap.objs.size],_,_,H1,rfl,I1.kept (t':=s1.toks) λb o e=>Hy _ e,wF a _,⟨_,HR _ rfl,rfl,rfl⟩,λb hb=>?_,q⟩
 have e:b=s1.heap.objs.size:=by simpa using hb
 subst e
 exact I1.fpOk (nlr _) (I1.hok.fresh (nlr _))
theorem uS {l:Expr}{tl:TE}(hl:PE X l tl):PI X tg l (G2 X.K tl):=by
 intro pins s σ H R I h
 refine thn (hl pins s σ H _ I h) λv s1 ⟨x,H1,I1,r1,q1⟩=>?_
 obtain⟨a,e,⟨xs,hq⟩,q⟩:=q1
 subst e
 cases r1
 obtain⟨its,rv,p,hz⟩:=I1.tuple hq
 refine wpAny_pyIter_tuple (show s1.heap.IsTuple a its.toArray from p) ?_
 refine⟨s1.heap.objs.size,[s1.heap.objs.size],_,_,H1,rfl,I1.kept (t':=s1.toks) λb o e=>Hy _ e,uw a _,⟨_,HR _ rfl,rfl,rfl⟩,λb hb=>?_,q⟩
 have e:b=s1.heap.objs.size:=by simpa using hb
 subst e
 exact I1.fpOk (nlr _) (I1.hok.fresh (nlr _))
theorem sr {pins:List (Hm×Obj)}{σ:St}{H:Hp}{s:Hl}{R:It->Hp->Prop}{E:Value->Hl->Prop}{lo hi:Int}{t u v:Tok}{tk:Nat}(I:Inv X pins σ H s)(h1:-(2 ^ 62)<=lo)(h2:lo<2 ^ 62)(h3:-(2 ^ 62)<=hi)(h4:hi<2 ^ 62)
  (q:R (Itr lo (hi-lo).toNat) H):Ig (Io X.prog X.w) X.A (pyIter (.ref s.heap.objs.size)) (PIE X pins σ tg R) E { s with heap:=s.heap.push { cls:=.type "range",data:=.fields #[.int lo t,.int hi u,.int 1 v] },toks:=tk }:=by
 refine wpAny_pyIter_range (IsRange.new ..) (small_one h1 h2 h3 h4) ?_
 have I1:Inv X pins σ H { s with heap:=s.heap.push { cls:=.type "range",data:=.fields #[.int lo t,.int hi u,.int 1 v] },toks:=tk }:=I.kept λb o e=>Hy _ e
 refine⟨(s.heap.push { cls:=.type "range",data:=.fields #[.int lo t,.int hi u,.int 1 v] }).objs.size,[(s.heap.push { cls:=.type "range",data:=.fields #[.int lo t,.int hi u,.int 1 v] }).objs.size],_,_,H,rfl,
  I1.kept (t':=tk) λb o e=>Hy _ e,uU _ lo (hi-lo).toNat,?_,λb hb=>?_,q⟩
 ·have e1:lo+((0:Nat):Int)*1=lo:=by simp
  have e2:(((hi-lo).toNat:Nat):Int)-((0:Nat):Int)=J8 lo hi 1:=by rw[rangeSize_one];split<;>lia
  show IsRangeIter _ _ (lo+((0:Nat):Int)*1) ((((hi-lo).toNat:Nat):Int)-((0:Nat):Int)) 1
  rw[e1,e2]
  exact HR _ rfl
 ·have e:b=(s.heap.push { cls:=.type "range",data:=.fields #[.int lo t,.int hi u,.int 1 v] }).objs.size:=by simpa using hb
  subst e
  exact I1.fpOk (nlr _) (I1.hok.fresh (nlr _))
def FJ (ta:TA):TI:=λσ H R=>ta σ H λvs H1=>∃j:Int,vs=[.int j]/\-(2 ^ 62)<=j/\j<2 ^ 62/\R (Itr 0 j.toNat) H1
def Er (ta:TA):TI:=λσ H R=>ta σ H λvs H1=>∃i j:Int,vs=[.int i,.int j]/\(-(2 ^ 62)<=i/\i<2 ^ 62/\-(2 ^ 62)<=j/\j<2 ^ 62)/\R (Itr i (j-i).toNat) H1
theorem qj {a:Expr}{ta:TA}{p pos:Pos} (hg:Gl X "range") (hm:X.mg "range"=none) (ha:PA X [a] ta) (hs:Ii [a] X.env=[(false,KW a X.env)]:=by rfl):PI X tg (.Call (.Name "range" p) [a] [] pos) (FJ ta):=by
 intro pins s σ H R I h
 refine Call_ (gU I hg hm boot_range (Iz (thn (ha pos pins s σ H _ I h) λus s1 ⟨vs,H1,I1,r1,q1⟩=>?_) hs rfl))
 obtain⟨j,e,q1,q2,q⟩:=q1
 subst e
 cases r1 with
 |cons r rr =>
  cases rr
  obtain⟨t,rfl⟩:=r
  exact call_range_1 (sr I1 (by lia) (by lia) q1 q2 (by simpa using q))
theorem qp {a b:Expr}{ta:TA}{p pos:Pos} (hg:Gl X "range") (hm:X.mg "range"=none) (ha:PA X [a,b] ta) (hs:Ii [a,b] X.env=[(false,KW a X.env),(false,KW b X.env)]:=by rfl) (hs2:Ii [b] X.env=[(false,KW b X.env)]:=by rfl) :
  PI X tg (.Call (.Name "range" p) [a,b] [] pos) (Er ta):=by
 intro pins s σ H R I h
 refine Call_ (gU I hg hm boot_range (Iz (thn (ha pos pins s σ H _ I h) λus s1 ⟨vs,H1,I1,r1,q1⟩=>?_) (by rw[hs,hs2]) (by rw[hs2];rfl)))
 obtain⟨i,j,e,⟨q1,q2,q3,q4⟩,q⟩:=q1
 subst e
 cases r1 with
 |cons r rr =>
  cases rr with
  |cons r' rr =>
   cases rr
   obtain⟨t,rfl⟩:=r
   obtain⟨t',rfl⟩:=r'
   exact call_range_2 (sr I1 q1 q2 q3 q4 q)
def GF (wi:TI)(g:TG)(tb:TS):TS:=λD σ H=>wi σ H λJ H1=>∃W:Nat->Nat->St->Hp->Prop,(∃m,W 0 m σ H1)/\∀i m σ H,W i m σ H ->
 (J.stop i H/\D.nx σ H)\/(J.go i H/\∃N:St->Hp->Prop,(∀σ' H',N σ' H'->∃m',m'<m/\W (i+1) m' σ' H')/\∀x H',J.yld i H x H'->g x σ H' λσ2 H2=>tb { D with nx:=N,ct:=N,bk:=D.nx } σ2 H2)
def pd (fp:List Hm)(h:Heap):List (Hm×Obj):=fp.filterMap λb=>(h.get? b).map λo=>(b,o)
theorem ke {fp:List Hm}{h:Heap}{b:Hm}{o:Obj}(hb:b∈fp)(e:h.get? b=some o):(b,o)∈pd fp h:=KR.mpr ⟨b,hb,by rw[e];rfl⟩
theorem xE {fp:List Hm}{h:Heap}{p:Hm×Obj}(hp:p∈pd fp h):p.1∈fp/\h.get? p.1=some p.2:=by
 obtain⟨b,hb,e⟩:=KR.mp hp
 cases q:h.get? b with
 |none=>rw[q]at e;cases e
 |some o =>
  rw[q]at e
  have e':(b,o)=p:=osi e
  subst e'
  exact⟨hb,q⟩
theorem Inv.pinned {pins:List (Hm×Obj)}{σ:St}{H:Hp}{s:Hl}{fp:List Hm}(I:Inv X pins σ H s)(hf:∀b∈fp,mI X pins H b)(ho:∀b∈fp,∃o,s.heap.get? b=some o/\∀v,o.data≠.cell v):Inv X (pins++pd fp s.heap) σ H s :=
 I.pins_of λp hp=>(HU.mp hp).elim (λz=>I.pin p (Jg _ z)) λz=>by
  obtain⟨hb,e⟩:=xE z
  obtain⟨f0,f1,f2,_⟩:=hf p.1 hb
  obtain⟨o,e',d⟩:=ho p.1 hb
  rw[e]at e';cases e'
  exact⟨e,f0,f1,f2,d⟩
theorem Inv.unpinned {pins pl:List (Hm×Obj)}{σ:St}{H:Hp}{s:Hl}(I:Inv X (pins++pl) σ H s):Inv X pins σ H s:=I.pins_of λp hp=>I.pin p (Jg _ (List.mem_append_left _ hp))
theorem bf {iter:Expr}{body:List JO}{wi:TI}{g:TG}{tb:TS}{pos:Pos}(hp:PassesOwn (Io X.prog X.w) X.A X.env X.xe)(hc:X.calm=true)(hi:PI X tg iter wi)(hg:PG X tg g)(hb:PSs X body tb)
  (hs:∀x,foldedSetIterable iter X.env x=pure x:=by intro _;rfl):PS X (.For tg iter body [] pos) (GF wi g tb):=by
 intro pins s σ H D I h
 refine wpAny_For (thn (hi pins s σ H _ I h) λv s1 h1=>thn h1 λitv s2 h2=>?_) hs
 obtain⟨it,fp,tn,J,H2,e,I2,T,st2,f2,W,⟨m0,w0⟩,turn⟩:=h2
 subst e
 have stat:∀{H':Hp},(∀b∈fp,H' b=none)->∀b∈fp,mI X pins H' b:=λhn b hb=>⟨hn b hb,(f2 b hb).2⟩
 refine codeAny_forLoop_any (λn s'=>∃i σ' H',Inv X pins σ' H' s'/\tn i s'.heap/\(∀b∈fp,H' b=none)/\W i n σ' H') ?_ m0 ⟨0,σ,H2,I2,st2,λb hb=>(f2 b hb).1,w0⟩
 rintro n s3 ⟨i,σ3,H3,I3,st3,fr3,w3⟩
 rcases turn i n σ3 H3 w3 with⟨stop,qn⟩|⟨go,N,hN,step⟩
 ·refine KA hp (thn (T.done X rfl rfl rfl hc i pins s3 σ3 H3 X.xe I3 (stat fr3) st3 stop) λr s4 ⟨hr,I4⟩=>?_)
  subst hr
  exact wpAny_execs_nil ⟨σ3,H3,I4,qn⟩
 ·refine KA hp (thn (T.item X rfl rfl rfl hc i pins s3 σ3 H3 X.xe I3 (stat fr3) st3 go) λr s4 ⟨u,hr,h4⟩=>?_)
  subst hr
  refine KA hp (thn h4 λ_ s5 ⟨x,H5,I5,r5,y5,st5,fr5⟩=>?_)
  have I5':=I5.pinned (stat fr5) (T.obj _ _ st5)
  refine KA hp (thn (hg _ s5 σ3 H5 x u _ I5' r5 (step x H5 y5)) λ_ s6 ⟨σ6,H6,I6,q6⟩=>?_)
  refine KA hp (thn (hb _ s6 σ6 H6 _ I6 q6) λf s7 q7=>?_)
  have again:∀{σ7:St} {H7:Hp},Inv X (pins++pd fp s5.heap) σ7 H7 s7->N σ7 H7->∃m,m<n/\∃i σ' H',Inv X pins σ' H' s7/\tn i s7.heap/\(∀b∈fp,H' b=none)/\W i m σ' H':=λ{σ7 H7} I7 n7=>by
   obtain⟨m',hm,w7⟩:=hN σ7 H7 n7
   refine⟨m',hm,i+1,σ7,H7,I7.unpinned,T.keep _ _ _ st5 λb hb o e=>(I7.pin (b,o) (Jg _ (Jg _ (ke hb e)))).1,λb hb=>?_,w7⟩
   obtain⟨o,e,d⟩:=T.obj _ _ st5 b hb
   exact(I7.pin (b,o) (Jg _ (Jg _ (ke hb e)))).2.1
  cases f with
  |next=>obtain⟨σ7,H7,I7,n7⟩:=q7;exact again I7 n7
  |cont=>obtain⟨σ7,H7,I7,n7⟩:=q7;exact again I7 n7
  |brk=>obtain⟨σ7,H7,I7,q7⟩:=q7;exact⟨σ7,H7,I7.unpinned,q7⟩
  |ret v=>obtain⟨x7,σ7,H7,I7,r7,q7⟩:=q7;exact⟨x7,σ7,H7,I7.unpinned,r7,q7⟩
end
theorem dr {K:IN}{a:Hm}{xs:List V}{g:TG}{tb:TS}{D:oF}{σ:St}{H:Hp}(Pv:Nat->St->Hp->Prop)(h0:Pv 0 σ H)(hl:∀i σ H,i<=xs.length->Pv i σ H->SqL K H a xs)
  (hs:∀i x σ H,xs[i]? = some x->Pv i σ H->g x σ H λσ2 H2=>tb { D with nx:=Pv (i+1),ct:=Pv (i+1),bk:=D.nx } σ2 H2) (hd:∀σ H,Pv xs.length σ H->D.nx σ H) :
  ∃W:Nat->Nat->St->Hp->Prop,(∃m,W 0 m σ H)/\∀i m σ H,W i m σ H ->
   ((Itl K a).stop i H/\D.nx σ H)\/((Itl K a).go i H/\∃N:St->Hp->Prop,(∀σ' H',N σ' H'->∃m',m'<m/\W (i+1) m' σ' H')/\∀x H',(Itl K a).yld i H x H'->g x σ H' λσ2 H2=>tb { D with nx:=N,ct:=N,bk:=D.nx } σ2 H2):=by
 refine⟨λi m σ H=>m=xs.length-i/\i<=xs.length/\Pv i σ H,⟨xs.length,by simp,IH _,h0⟩,?_⟩
 rintro i m σ H ⟨rfl,hi,p⟩
 have q:=hl i σ H hi p
 by_cases hlt:i<xs.length
 ·refine .inr ⟨⟨xs,xs[i],q,by simp[hlt]⟩,Pv (i+1),λσ' H' p'=>⟨xs.length-(i+1),by lia,rfl,hlt,p'⟩,λx H' y=>?_⟩
  obtain⟨e,y⟩:=y
  subst e
  exact hs i x σ _ (y xs q) p
 ·have e:i=xs.length:=by lia
  subst e
  exact .inl ⟨⟨xs,q,nlr _⟩,hd σ H p⟩
theorem rO {K:IN}{a:Hm}{xs:List V}{g:TG}{tb:TS}{D:oF}{σ:St}{H:Hp}(Pv:Nat->St->Hp->Prop)(h0:Pv 0 σ H)(hl:∀i σ H,i<=xs.length->Pv i σ H->SqT K H a xs)
  (hs:∀i x σ H,xs[i]? = some x->Pv i σ H->g x σ H λσ2 H2=>tb { D with nx:=Pv (i+1),ct:=Pv (i+1),bk:=D.nx } σ2 H2) (hd:∀σ H,Pv xs.length σ H->D.nx σ H) :
  ∃W:Nat->Nat->St->Hp->Prop,(∃m,W 0 m σ H)/\∀i m σ H,W i m σ H ->
   ((Itt K a).stop i H/\D.nx σ H)\/((Itt K a).go i H/\∃N:St->Hp->Prop,(∀σ' H',N σ' H'->∃m',m'<m/\W (i+1) m' σ' H')/\∀x H',(Itt K a).yld i H x H'->g x σ H' λσ2 H2=>tb { D with nx:=N,ct:=N,bk:=D.nx } σ2 H2):=by
 refine⟨λi m σ H=>m=xs.length-i/\i<=xs.length/\Pv i σ H,⟨xs.length,by simp,IH _,h0⟩,?_⟩
 rintro i m σ H ⟨rfl,hi,p⟩
 have q:=hl i σ H hi p
 by_cases hlt:i<xs.length
 ·refine .inr ⟨⟨xs,xs[i],q,by simp[hlt]⟩,Pv (i+1),λσ' H' p'=>⟨xs.length-(i+1),by lia,rfl,hlt,p'⟩,λx H' y=>?_⟩
  obtain⟨e,y⟩:=y
  subst e
  exact hs i x σ _ (y xs q) p
 ·have e:i=xs.length:=by lia
  subst e
  exact .inl ⟨⟨xs,q,nlr _⟩,hd σ H p⟩
theorem jK {lo:Int}{n:Nat}{g:TG}{tb:TS}{D:oF}{σ:St}{H:Hp}(Pv:Nat->St->Hp->Prop)(h0:Pv 0 σ H)
  (hs:∀i σ H,i<n->Pv i σ H->g (.int (lo+i)) σ H λσ2 H2=>tb { D with nx:=Pv (i+1),ct:=Pv (i+1),bk:=D.nx } σ2 H2) (hd:∀σ H,Pv n σ H->D.nx σ H) :
  ∃W:Nat->Nat->St->Hp->Prop,(∃m,W 0 m σ H)/\∀i m σ H,W i m σ H ->
   ((Itr lo n).stop i H/\D.nx σ H)\/((Itr lo n).go i H/\∃N:St->Hp->Prop,(∀σ' H',N σ' H'->∃m',m'<m/\W (i+1) m' σ' H')/\∀x H',(Itr lo n).yld i H x H'->g x σ H' λσ2 H2=>tb { D with nx:=N,ct:=N,bk:=D.nx } σ2 H2):=by
 refine⟨λi m σ H=>m=n-i/\i<=n/\Pv i σ H,⟨n,by simp,IH _,h0⟩,?_⟩
 rintro i m σ H ⟨rfl,hi,p⟩
 by_cases hlt:i<n
 ·refine .inr ⟨hlt,Pv (i+1),λσ' H' p'=>⟨n-(i+1),by lia,rfl,hlt,p'⟩,λx H' y=>?_⟩
  obtain⟨e,y⟩:=y
  subst e y
  exact hs i σ _ hlt p
 ·have e:i=n:=by lia
  subst e
  exact .inl ⟨nlr _,hd σ H p⟩
end L2
namespace L2
open PySem PySem.Spec PyProof.Rows
abbrev R2:=V->V->Hp->VK->Prop
def OpR (X:Cx)(f:Value->Value->Sem Value)(r:R2):Prop :=
 ∀(pins:List (Hm×Obj)) (s:Hl) (σ:St) (H:Hp) (x y:V) (v u:Value) (Q:VK),Inv X pins σ H s->a5 x v->a5 y u->r x y H Q ->
  Ig (Io X.prog X.w) X.A (f v u) (EP X pins σ Q) X.xe s
def UnR (X:Cx)(f:Value->Sem Value)(r:V->Hp->VK->Prop):Prop :=
 ∀(pins:List (Hm×Obj)) (s:Hl) (σ:St) (H:Hp) (x:V) (v:Value) (Q:VK),Inv X pins σ H s->a5 x v->r x H Q ->
  Ig (Io X.prog X.w) X.A (f v) (EP X pins σ Q) X.xe s
def kK (X:Cx)(f:Value)(r:List V->Hp->VK->Prop):Prop :=
 ∀(pins:List (Hm×Obj)) (s:Hl) (σ:St) (H:Hp) (xs:List V) (us:List Value) (Q:VK),Inv X pins σ H s->aT xs us->r xs H Q ->
  Ig (Io X.prog X.w) X.A (call f us) (EP X pins σ Q) X.xe s
def tOp (r:R2)(ta tb:TE):TE:=λσ H Q=>ta σ H λx H1=>tb σ H1 λy H2=>r x y H2 Q
def tUn (r:V->Hp->VK->Prop)(ta:TE):TE:=λσ H Q=>ta σ H λx H1=>r x H1 Q
def rI (C:Int->Int->Prop)(g:Int->Int->V):R2:=λx y H Q=>∃i j,x=.int i/\y=.int j/\C i j/\Q (g i j) H
def rI0 (g:Int->Int->V):R2:=λx y H Q=>∃i j,x=.int i/\y=.int j/\Q (g i j) H
def rU (g:Int->V):V->Hp->VK->Prop:=λx H Q=>∃i,x=.int i/\Q (g i) H
section
variable  {X:Cx}{a b c:Expr}{ta tb tc:TE}{pos:Pos}
theorem BZ (ha:PE X a ta)(hb:PE X b tb){pins:List (Hm×Obj)}{s:Hl}{σ:St}{H:Hp}{R:V->V->Hp->Prop}(I:Inv X pins σ H s)
  (h:ta σ H λx H1=>tb σ H1 λy H2=>R x y H2) {Q:Value->Hl->Prop} {f:Value->Value->Sem Value}
  (hf:∀v u s2 x y H2,Inv X pins σ H2 s2->a5 x v->a5 y u->R x y H2->Ig (Io X.prog X.w) X.A (f v u) Q X.xe s2) :
  Ig (Io X.prog X.w) X.A (KW a X.env) (λv s₁=>Ig (Io X.prog X.w) X.A (KW b X.env) (λu s₂=>Ig (Io X.prog X.w) X.A (f v u) Q X.xe s₂) X.xe s₁) X.xe s:=by
 refine thn (ha pins s σ H _ I h) λv s1 ⟨x,H1,I1,r1,q1⟩=>?_
 refine thn (hb pins s1 σ H1 _ I1 q1) λu s2 ⟨y,H2,I2,r2,q2⟩=>?_
 exact hf v u s2 x y H2 I2 r1 r2 q2
theorem aW {op:Operator}{r:R2}(ho:OpR X (binaryOp op) r)(ha:PE X a ta)(hb:PE X b tb):PE X (.BinOp a op b pos) (tOp r ta tb):=by
 intro pins s σ H Q I h
 exact wpAny_BinOp (BZ ha hb I h λv u s2 x y H2 I2 rx ry q=>ho pins s2 σ H2 x y v u Q I2 rx ry q)
theorem nT {op:UnaryOp}{r:V->Hp->VK->Prop}(ho:UnR X (unaryOp op) r)(ha:PE X a ta):PE X (.UnaryOp op a pos) (tUn r ta):=by
 intro pins s σ H Q I h
 exact UnaryOp_ (thn (ha pins s σ H _ I h) λv s1 ⟨x,H1,I1,r1,q1⟩=>ho pins s1 σ H1 x v Q I1 r1 q1)
theorem opI {f:Value->Value->Sem Value}{C:Int->Int->Prop}{g:Int->Int->Int}
  (rule:∀(i j:Int) (t u:Tok) (s:Hl) (Q:Value->Hl->Prop) (E:Value->Hl->Prop),C i j->Q (.int (g i j) s.toks) { s with toks:=s.toks+1 }->Ig (Io X.prog X.w) X.A (f (.int i t) (.int j u)) Q E s) :
  OpR X f (rI C λi j=>.int (g i j)):=by
 intro pins s σ H x y v u Q I rx ry h
 obtain⟨i,j,rfl,rfl,hc,q⟩:=h
 obtain⟨t,rfl⟩:=rx
 obtain⟨t',rfl⟩:=ry
 exact rule i j t t' s _ _ hc ⟨.int (g i j),H,I.tok _,⟨_,rfl⟩,q⟩
theorem Fh {f:Value->Value->Sem Value}{g:Int->Int->Int}
  (rule:∀(i j:Int) (t u:Tok) (s:Hl) (Q:Value->Hl->Prop) (E:Value->Hl->Prop),Q (.int (g i j) s.toks) { s with toks:=s.toks+1 }->Ig (Io X.prog X.w) X.A (f (.int i t) (.int j u)) Q E s) :
  OpR X f (rI0 λi j=>.int (g i j)):=by
 intro pins s σ H x y v u Q I rx ry h
 obtain⟨i,j,rfl,rfl,q⟩:=h
 obtain⟨t,rfl⟩:=rx
 obtain⟨t',rfl⟩:=ry
 exact rule i j t t' s _ _ ⟨.int (g i j),H,I.tok _,⟨_,rfl⟩,q⟩
theorem Ar {f:Value->Value->Sem Value}{g:Int->Int->Bool}
  (rule:∀(i j:Int) (t u:Tok) (s:Hl) (Q:Value->Hl->Prop) (E:Value->Hl->Prop),Q (.bool (g i j)) s->Ig (Io X.prog X.w) X.A (f (.int i t) (.int j u)) Q E s) :
  OpR X f (rI0 λi j=>.bl (g i j)):=by
 intro pins s σ H x y v u Q I rx ry h
 obtain⟨i,j,rfl,rfl,q⟩:=h
 obtain⟨t,rfl⟩:=rx
 obtain⟨t',rfl⟩:=ry
 exact rule i j t t' s _ _ ⟨.bl (g i j),H,I,rfl,q⟩
def GW (i j:Int):Prop:=0<j/\j<1073741824
def Dv (i j:Int):Prop:=(-(2 ^ 64)<i/\i<2 ^ 64)\/(-(2 ^ 64)<j/\j<2 ^ 64)
theorem Dv.ok {i j:Int}(h:Dv i j):IntMulOk i j:=by
 rcases h with⟨h1,h2⟩|⟨h1,h2⟩
 ·exact .of_left (intBits_le_64 h1 h2)
 ·exact .of_right (intBits_le_64 h1 h2)
theorem dX:OpR X (binaryOp .Add) (rI0 λi j=>.int (i+j)):=Fh λ_ _ _ _ _ _ _ q=>add_int q
theorem eh:OpR X (binaryOp .Sub) (rI0 λi j=>.int (i-j)):=Fh λ_ _ _ _ _ _ _ q=>sub_int q
theorem dE:OpR X (binaryOp .Mult) (rI Dv λi j=>.int (i*j)):=opI λ_ _ _ _ _ _ _ hc q=>mul_int q hc.ok
theorem rF:OpR X (binaryOp .FloorDiv) (rI GW λi j=>.int (i / j)):=opI λi j _ _ _ _ _ hc q=>by
 have h1:(0:Int)<j:=hc.1
 have h2:j<1073741824:=hc.2
 exact floordiv_int (by lia) (by rw[Int.fdiv_eq_ediv_of_nonneg i (by lia)];exact q) (.inl (PyProof.noPylong_small (by lia)))
theorem DF:OpR X (binaryOp .Mod) (rI (λ_ j=>0<j) λi j=>.int (i % j)):=opI λi j _ _ _ _ _ hc q=>by
 have h1:(0:Int)<j:=hc
 exact mod_int' (by lia) (by rw[Int.fmod_eq_emod_of_nonneg i (by lia)];exact q)
theorem unI {f:Value->Sem Value}{g:Int->Int}
  (rule:∀(i:Int) (t:Tok) (s:Hl) (Q:Value->Hl->Prop) (E:Value->Hl->Prop),Q (.int (g i) s.toks) { s with toks:=s.toks+1 }->Ig (Io X.prog X.w) X.A (f (.int i t)) Q E s) :
  UnR X f (rU λi=>.int (g i)):=by
 intro pins s σ H x v Q I rx h
 obtain⟨i,rfl,q⟩:=h
 obtain⟨t,rfl⟩:=rx
 exact rule i t s _ _ ⟨.int (g i),H,I.tok _,⟨_,rfl⟩,q⟩
theorem j6:UnR X (unaryOp .USub) (rU λi=>.int (-i)):=unI λ_ _ _ _ _ q=>neg_int q
end
def DZ:V->V->Bool
 |.non,.non=>true|.non,.int _=>true|.int _,.non=>true|.non,.bl _=>true|.bl _,.non=>true|.non,.str _=>true|.str _,.non=>true
 |.int _,.int _=>true|.bl _,.bl _=>true|.str _,.str _=>true|.byt _,.byt _=>true
 |.int _,.str _=>true|.str _,.int _=>true|.bl _,.str _=>true|.str _,.bl _=>true
 |_,_=>false
def rEq:R2:=λx y H Q=>DZ x y=true/\Q (.bl (decide (x=y))) H
def rNe:R2:=λx y H Q=>DZ x y=true/\Q (.bl (!decide (x=y))) H
theorem vT {i j:Int}:decide (V.int i=V.int j)=(i==j):=by
 rw[Ip]
 simp
theorem yr {i j:Bool}:decide (V.bl i=V.bl j)=(i==j):=by
 rw[Ip]
 simp
theorem vA {i j:Str}:decide (V.str i=V.str j)=(i==j):=by
 rw[Ip]
 simp
theorem vY {i j:Array UInt8}:decide (V.byt i=V.byt j)=(i.toList==j.toList):=by
 rw[Ip]
 cases i
 cases j
 simp
section
variable  {X:Cx}{a b c:Expr}{ta tb tc:TE}{pos:Pos}
theorem bh {pins:List (Hm×Obj)}{σ:St}{H:Hp}{s:Hl}{Q:VK}{k k':Bool}(I:Inv X pins σ H s)(q:Q (.bl k) H)(e:k=k'):EP X pins σ Q (.bool k') s:=by
 subst e
 exact⟨.bl k,H,I,rfl,q⟩
theorem l6:OpR X (Je .Eq) rEq:=by
 intro pins s σ H x y v u Q I rx ry h
 obtain⟨hs,q⟩:=h
 cases x with
 |non =>
  cases rx
  cases y with
  |non=>cases ry;exact PySem.EqNone.eq_none_none (bh I q (by simp))
  |bl j=>cases ry;exact PySem.EqNone.eq_none_bool (bh I q (by simp))
  |int j=>obtain⟨t',rfl⟩:=ry;exact PySem.EqNone.eq_none_int (bh I q (by simp))
  |str j=>obtain⟨t',rfl⟩:=ry;exact PySem.EqNone.eq_none_str (bh I q (by simp))
  |_=>exact absurd (show false=true from hs) HG
 |bl i =>
  cases rx
  cases y with
  |non=>cases ry;exact PySem.EqNone.eq_bool_none (bh I q (by simp))
  |bl j=>cases ry;exact eq_bool (bh I q yr)
  |str j=>obtain⟨t',rfl⟩:=ry;exact PySem.EqMixed.eq_bool_str (bh I q (by simp))
  |_=>exact absurd (show false=true from hs) HG
 |int i =>
  obtain⟨t,rfl⟩:=rx
  cases y with
  |non=>cases ry;exact PySem.EqNone.eq_int_none (bh I q (by simp))
  |int j=>obtain⟨t',rfl⟩:=ry;exact eq_int (bh I q vT)
  |str j=>obtain⟨t',rfl⟩:=ry;exact PySem.EqMixed.eq_int_str (bh I q (by simp))
  |_=>exact absurd (show false=true from hs) HG
 |str i =>
  obtain⟨t,rfl⟩:=rx
  cases y with
  |non=>cases ry;exact PySem.EqNone.eq_str_none (bh I q (by simp))
  |bl j=>cases ry;exact PySem.EqMixed.eq_str_bool (bh I q (by simp))
  |int j=>obtain⟨t',rfl⟩:=ry;exact PySem.EqMixed.eq_str_int (bh I q (by simp))
  |str j=>obtain⟨t',rfl⟩:=ry;exact eq_str (bh I q vA)
  |_=>exact absurd (show false=true from hs) HG
 |byt i =>
  obtain⟨t,rfl⟩:=rx
  cases y with
  |byt j=>obtain⟨t',rfl⟩:=ry;exact PySem.W.eq_bytes (bh I q vY)
  |_=>exact absurd (show false=true from hs) HG
 |_=>cases y<;>exact absurd (show false=true from hs) HG
theorem zg:OpR X (Je .NotEq) rNe:=by
 intro pins s σ H x y v u Q I rx ry h
 obtain⟨hs,q⟩:=h
 cases x with
 |non =>
  cases rx
  cases y with
  |non=>cases ry;exact PySem.EqNone.ne_none_none (bh I q (by simp))
  |bl j=>cases ry;exact PySem.EqNone.ne_none_bool (bh I q (by simp))
  |int j=>obtain⟨t',rfl⟩:=ry;exact PySem.EqNone.ne_none_int (bh I q (by simp))
  |str j=>obtain⟨t',rfl⟩:=ry;exact PySem.EqNone.ne_none_str (bh I q (by simp))
  |_=>exact absurd (show false=true from hs) HG
 |bl i =>
  cases rx
  cases y with
  |non=>cases ry;exact PySem.EqNone.ne_bool_none (bh I q (by simp))
  |bl j=>cases ry;exact ne_bool (bh I q (Jb not yr))
  |str j=>obtain⟨t',rfl⟩:=ry;exact PySem.EqMixed.ne_bool_str (bh I q (by simp))
  |_=>exact absurd (show false=true from hs) HG
 |int i =>
  obtain⟨t,rfl⟩:=rx
  cases y with
  |non=>cases ry;exact PySem.EqNone.ne_int_none (bh I q (by simp))
  |int j=>obtain⟨t',rfl⟩:=ry;exact ne_int (bh I q (Jb not vT))
  |str j=>obtain⟨t',rfl⟩:=ry;exact PySem.EqMixed.ne_int_str (bh I q (by simp))
  |_=>exact absurd (show false=true from hs) HG
 |str i =>
  obtain⟨t,rfl⟩:=rx
  cases y with
  |non=>cases ry;exact PySem.EqNone.ne_str_none (bh I q (by simp))
  |bl j=>cases ry;exact PySem.EqMixed.ne_str_bool (bh I q (by simp))
  |int j=>obtain⟨t',rfl⟩:=ry;exact PySem.EqMixed.ne_str_int (bh I q (by simp))
  |str j=>obtain⟨t',rfl⟩:=ry;exact ne_str (bh I q (Jb not vA))
  |_=>exact absurd (show false=true from hs) HG
 |byt i =>
  obtain⟨t,rfl⟩:=rx
  cases y with
  |byt j=>obtain⟨t',rfl⟩:=ry;exact PySem.W.ne_bytes (bh I q (Jb not vY))
  |_=>exact absurd (show false=true from hs) HG
 |_=>cases y<;>exact absurd (show false=true from hs) HG
theorem fM:OpR X (Je .Lt) (rI0 λi j=>.bl (decide (i<j))):=Ar λ_ _ _ _ _ _ _ q=>lt_int q
theorem my:OpR X (Je .LtE) (rI0 λi j=>.bl (decide (i<=j))):=Ar λ_ _ _ _ _ _ _ q=>le_int q
theorem eD:OpR X (Je .Gt) (rI0 λi j=>.bl (decide (j<i))):=Ar λ_ _ _ _ _ _ _ q=>gt_int q
theorem zb:OpR X (Je .GtE) (rI0 λi j=>.bl (decide (j<=i))):=Ar λ_ _ _ _ _ _ _ q=>ge_int q
theorem jo:OpR X (Je .Is) (λx y H Q=>y=.non/\Q (.bl (decide (x=.non))) H):=by
 intro pins s σ H x y v u Q I rx ry h
 obtain⟨rfl,q⟩:=h
 cases ry
 refine is_none_gen (bh I q ?_)
 cases x<;>first
  |(cases rx;rfl)
  |(obtain⟨t,rfl⟩:=rx;rfl)
theorem iO:OpR X (Je .IsNot) (λx y H Q=>y=.non/\Q (.bl (!decide (x=.non))) H):=by
 intro pins s σ H x y v u Q I rx ry h
 obtain⟨rfl,q⟩:=h
 cases ry
 refine isnot_none_gen (bh I q ?_)
 cases x<;>first
  |(cases rx;rfl)
  |(obtain⟨t,rfl⟩:=rx;rfl)
theorem aL (b:Expr){op:CmpOp}(h:op≠.In:=by decide)(h2:op≠.NotIn:=by decide):Ld op b=false:=by
 have e1:(op==CmpOp.In)=false:=by cases op<;>first|rfl|exact absurd rfl h
 have e2:(op==CmpOp.NotIn)=false:=by cases op<;>first|rfl|exact absurd rfl h2
 cases b<;>simp[Ld,e1,e2]
theorem cO {op:CmpOp}{r:R2}(ho:OpR X (Je op) r)(ha:PE X a ta)(hb:PE X b tb)(hm:Ld op b=false):PE X (.Compare a [op] [b] pos) (tOp r ta tb):=by
 intro pins s σ H Q I h
 exact wpAny_Compare1 (BZ ha hb I h λv u s2 x y H2 I2 rx ry q=>ho pins s2 σ H2 x y v u Q I2 rx ry q) hm
def fB (t:TE):TT:=λσ H Q=>t σ H λx H'=>∃k,x=.bl k/\Q k H'
theorem aM {op:CmpOp}{r:R2}(ho:OpR X (Je op) r)(ha:PE X a ta)(hb:PE X b tb)(hm:Ld op b=false):PT X (.Compare a [op] [b] pos) (fB (tOp r ta tb)):=by
 intro pins s σ H Q I h
 refine wpAny_isTrue_Compare1 (thn (ha pins s σ H _ I h) λv s1 ⟨x,H1,I1,r1,q1⟩=>thn (hb pins s1 σ H1 _ I1 q1) λu s2 ⟨y,H2,I2,r2,q2⟩ =>
  thn (ho pins s2 σ H2 x y v u _ I2 r1 r2 q2) λc s3 ⟨z,H3,I3,r3,k,e,q3⟩=>?_) hm
 subst e
 cases r3
 exact Jv ⟨H3,I3,q3⟩
def uY (r r':R2)(ta tb tc:TE):TE:=λσ H Q=>ta σ H λx H1=>tb σ H1 λy H2=>r x y H2 λz H3=>∃k,z=.bl k /\
 (if k=true then tc σ H3 λw' H4=>r' y w' H4 Q else Q (.bl false) H3)
theorem kX {op op':CmpOp}{r r':R2}(ho:OpR X (Je op) r)(ho':OpR X (Je op') r')(ha:PE X a ta)(hb:PE X b tb)(hc:PE X c tc)
  (hm:lastMarks [op,op'] [b,c]=false:=by with_unfolding_all rfl):PE X (.Compare a [op,op'] [b,c] pos) (uY r r' ta tb tc):=by
 intro pins s σ H Q I h
 refine Compare_chain (thn (ha pins s σ H _ I h) λv s1 ⟨x,H1,I1,r1,q1⟩=>chain_link (thn (hb pins s1 σ H1 _ I1 q1) λu s2 ⟨y,H2,I2,r2,q2⟩ =>
  thn (ho pins s2 σ H2 x y v u _ I2 r1 r2 q2) λd s3 ⟨z,H3,I3,r3,k,e,q3⟩=>?_)) hm
 subst e
 cases r3
 refine Jv ?_
 cases k with
 |false=>exact ite_ff ⟨.bl false,H3,I3,rfl,q3⟩
 |true=>exact ite_tt (chain_last (thn (hc pins s3 σ H3 _ I3 q3) λw' s4 ⟨z',H4,I4,r4,q4⟩=>ho' pins s4 σ H4 y z' u w' Q I4 r2 r4 q4))
theorem pc {op op':CmpOp}{r r':R2}(ho:OpR X (Je op) r)(ho':OpR X (Je op') r')(ha:PE X a ta)(hb:PE X b tb)(hc:PE X c tc)
  (hm:lastMarks [op,op'] [b,c]=false:=by with_unfolding_all rfl):PT X (.Compare a [op,op'] [b,c] pos) (fB (uY r r' ta tb tc)):=by
 intro pins s σ H Q I h
 refine isTrue_chain (thn (ha pins s σ H _ I h) λv s1 ⟨x,H1,I1,r1,q1⟩=>test_link (thn (hb pins s1 σ H1 _ I1 q1) λu s2 ⟨y,H2,I2,r2,q2⟩ =>
  thn (ho pins s2 σ H2 x y v u _ I2 r1 r2 q2) λd s3 ⟨z,H3,I3,r3,k,e,q3⟩=>?_)) hm
 subst e
 cases r3
 refine Jv ?_
 cases k with
 |false =>
  obtain⟨k',e',q'⟩:=q3
  cases e'
  exact ite_ff ⟨H3,I3,q'⟩
 |true =>
  refine ite_tt (test_last (thn (hc pins s3 σ H3 _ I3 q3) λw' s4 ⟨z',H4,I4,r4,q4⟩=>thn (ho' pins s4 σ H4 y z' u w' _ I4 r2 r4 q4) λd' s5 ⟨z2,H5,I5,r5,k2,e2,q5⟩=>?_))
  subst e2
  cases r5
  exact Jv ⟨H5,I5,q5⟩
theorem qS:(Hr:Nat)<2 ^ 63:=by rw[sizeLine_eq];decide
theorem yE {x:V}{us:List Value}(r:aT [x] us):∃u,us=[u]/\a5 x u:=by
 cases r with
 |cons r1 r2=>cases r2;exact⟨_,rfl,r1⟩
theorem By {x y:V}{us:List Value}(r:aT [x,y] us):∃u w',us=[u,w']/\a5 x u/\a5 y w':=by
 cases r with
 |cons r1 r2 =>
  cases r2 with
  |cons r3 r4=>cases r4;exact⟨_,_,rfl,r1,r3⟩
theorem qm (hc:X.calm=true):kK X (.builtin "max") (λxs H Q=>∃i j,xs=[.int i,.int j]/\Q (.int (if j > i then j else i)) H):=by
 intro pins s σ H xs us Q I r h
 obtain⟨i,j,rfl,q⟩:=h
 obtain⟨u,w',rfl,⟨t,rfl⟩,⟨t',rfl⟩⟩:=By r
 refine max_two_ints (I.ok.hd hc) λh' tk k=>⟨_,H,I.kept k,?_,q⟩
 by_cases hj:j > i
 ·rw[Hz hj,Hz hj];exact⟨_,rfl⟩
 ·rw[Hs hj,Hs hj];exact⟨_,rfl⟩
theorem qA (hc:X.calm=true):kK X (.builtin "min") (λxs H Q=>∃i j,xs=[.int i,.int j]/\Q (.int (if j<i then j else i)) H):=by
 intro pins s σ H xs us Q I r h
 obtain⟨i,j,rfl,q⟩:=h
 obtain⟨u,w',rfl,⟨t,rfl⟩,⟨t',rfl⟩⟩:=By r
 refine min_two_ints (I.ok.hd hc) λh' tk k=>⟨_,H,I.kept k,?_,q⟩
 by_cases hj:j<i
 ·rw[Hz hj,Hz hj];exact⟨_,rfl⟩
 ·rw[Hs hj,Hs hj];exact⟨_,rfl⟩
end
end L2
namespace L2
open PySem PySem.Spec PyProof.Rows
structure uk (h:Heap)(x dx C:Hm)(mA:Str->Option Value):Prop where
 obj:h.get? x=some (Ke C dx)
 ns:h.Ns1 dx mA
 ne:dx≠x
theorem wu {h:Heap}{dx:Hm}{mA:Str->Option Value}(n:h.Ns1 dx mA):∃od,h.get? dx=some od/\∀name,PySem.W.lookIn name od=some (mA name):=by
 obtain⟨o,es,ep,ho,hd,hk,_,hm⟩:=n
 refine⟨o,ho,λname=>?_⟩
 have e:=hm name
 unfold nsFind findBy at e
 rw[<-Array.find?_toList]at e
 unfold PySem.W.lookIn
 rw[hd]
 dsimp only
 split
 ·rename_i y q
  rw[q]at e
  exact Jb some e
 ·rename_i q
  rw[q]at e
  have a:es.toList.any (·.refKey)=false:=by
   rw[KB]
   intro y hy
   obtain⟨z,t,hkey⟩:=hk y (Array.mem_toList_iff.mp hy)
   simp[DictEntry.refKey,hkey]
  have a':¬es.toList.any (·.refKey)=true:=by rw[a];exact HG
  rw[Hs a']
  exact Jb some e
theorem uk.look {h:Heap}{x dx C:Hm}{mA:Str->Option Value}(I:uk h x dx C mA):∃od,PySem.W.InstAt h x (Ke C dx) C (some od)/\∀name,PySem.W.lookIn name od=some (mA name) :=
 let ⟨od,ho,hl⟩:=wu I.ns
 ⟨od,⟨I.obj,rfl,rfl,ho⟩,hl⟩
section
variable  {prog:Ih}{w:I0}{A:Around}{E:Value->Hl->Prop}{s:Hl}{K:IN}{x dx C f:Hm}{mA:Str->Option Value}{name:Str}{v:Value}
theorem Bn {expr:Bool}{Q:Value->Hl->Prop}(X:K.In s.heap)(I:uk s.heap x dx C mA)(hg:PySem.W.plainGet K C name=true)(hh:PySem.W.hasDictIn K C=true)
  (ha:JB K (.ref C) name=some none) (hv:mA name=some v) (hv':PySem.W.handedIn v=true) (h:Q v { s with toks:=s.toks+1 }) :
  Ig (Io prog w) A (getAttr (.ref x) name expr) Q E s:=by
 obtain⟨od,J,hl⟩:=I.look
 exact PySem.W.get_value X J (PySem.W.plainGet_of hg).1 (PySem.W.findObj_own hh ha rfl (by rw[hl,hv])) hv' h
theorem xP {pl:Sem Bool}{Q:Value×List Value->Hl->Prop}(X:K.In s.heap)(I:uk s.heap x dx C mA)(hg:PySem.W.plainGet K C name=true)
  (hf:JB K (.ref C) name=some (some (.ref f))) (ht:PySem.W.isFn K (.ref f)=true) (hv:mA name=none) (h:Q (.ref f,[.ref x]) s) :
  Ig (Io prog w) A (getMethod (.ref x) name pl) Q E s:=by
 obtain⟨od,J,hl⟩:=I.look
 exact PySem.W.method_fn X J (PySem.W.plainGet_of hg).1 (PySem.W.plainGet_of hg).2 hf (JW.mp ht) (by show(PySem.W.lookIn name od).map (·.isSome)=some false;rw[hl,hv];rfl) h
theorem z9 {ns:List Str}{Q:Unit->Hl->Prop}(X:K.In s.heap)(I:uk s.heap x dx C mA)
  (hs:JB K (.ref C) "__setattr__"=some (some (.builtin "object.__setattr__"))) (hp:PySem.W.plainOver K C=true) (ht:PySem.W.takerIn K C name=some none) (hh:PySem.W.hasDictIn K C=true)
  (hw:PySem.Within mA ns) (hsz:ns.length<=Hr)
  (h:∀h',uk h' x dx C (λy=>if y=name then some v else mA y)->Heap.SameBut dx s.heap h'->Q () { s with heap:=h',toks:=s.toks+2 }) :
  Ig (Io prog w) A (setAttr (.ref x) name v) Q E s:=by
 obtain⟨od,J,hl⟩:=I.look
 refine PySem.W.set_plain X J hs (PySem.W.osa_open (s:={ s with toks:=s.toks+1 }) (r:=none) X J hp ht λb=>?_)
 obtain⟨cd,hc,hd'⟩:=PySem.W.any_some hh
 have hx:s.heap.get? x=some ⟨.ref C,some dx,.plain,#[]⟩:=I.obj
 refine Hj (HL (Hj (Hj (wpAny_loadPart hx (Hj (PySem.W.Looks.here (s:={ s with toks:=s.toks+1 }) (PySem.W.looks_clsIn X hc) ?_))))))
 rw[hd']
 refine HL (a:=some dx) (Hj (HL (Hj ?_)))
 refine wpAny_nsSet1 (s:={ s with toks:=s.toks+1 }) I.ns λh' hn2 hs2=>?_
 obtain⟨oD,esD,epD,hoD,hdD,hcD⟩:=hn2.count (PySem.Within.cons name v hw)
 refine Hj (wpAny_lookBehind hoD (by rw[hdD];exact pastItsLine_dict (Ik hcD (by rw[HW];lia))) ?_)
 exact HL (h _ ⟨(hs2.2 _ (Ie I.ne)).trans I.obj,hn2,I.ne⟩ hs2)
theorem yl {R:Result->Hl->Prop}{vs:List Value}{kw:List (Str×Value)}(X:K.In s.heap)(hm:PySem.W.makesIn K C=true)
  (hi:JB K (.ref C) "__init__"=some (some (.ref f))) (hf:PySem.W.typeIn K (.ref f)=some (.type "function"))
  (h:codeAny (Io prog w) (A.under (.builtin "type.__call__" ⟨.ref C :: vs,kw⟩)) (.call (.ref f) ⟨.ref (s.heap.objs.size+1) :: vs,kw⟩) (PySem.W.InitBack (s.heap.objs.size+1) R)
   { s with heap:=(s.heap.push Jw).push (Ke C s.heap.objs.size) }) :
  codeAny (Io prog w) A (.call (.ref C) ⟨vs,kw⟩) R s:=by
 obtain⟨hh,g,d,t,os⟩:=s
 exact PySem.W.make_core (PySem.W.makes_of X hm) (PySem.W.looks_findIn X hi) (λself=>PySem.W.bind_fn X self hf) (.inl rfl) h
end
def fq (f:Str)(v:V):List (Str×V)->List (Str×V)
 |[]=>[(f,v)]
 |(g,x) :: r=>if g=f then (g,v) :: r else (g,x) :: fq f v r
theorem aI (f g:Str)(v:V):∀fs:List (Str×V),(fq f v fs).lookup g=if g=f then some v else fs.lookup g
 |[]=>by
  show Lx g [(f,v)]=_
  by_cases h:g=f
  ·have hb:(g==f)=true:=JW.mpr h
   simp only[Lx,hb,Hz h]
  ·have hb:(g==f)=false:=Jf.mpr h
   simp only[Lx,hb,Hs h]
 |(k,x) :: r=>by
  have ih:=aI f g v r
  rw[show fq f v ((k,x) :: r)=(if k=f then (k,v) :: r else (k,x) :: fq f v r) from rfl]
  by_cases hk:k=f
  ·rw[Hz hk]
   by_cases h:g=k
   ·have hb:(g==k)=true:=JW.mpr h
    simp only[Lx,hb,Hz (h.trans hk)]
   ·have hb:(g==k)=false:=Jf.mpr h
    simp only[Lx,hb,Hs (λe:g=f=>h (e.trans hk.symm))]
  ·rw[Hs hk]
   by_cases h:g=k
   ·have hb:(g==k)=true:=JW.mpr h
    simp only[Lx,hb,Hs (λe:g=f=>hk (h.symm.trans e))]
   ·have hb:(g==k)=false:=Jf.mpr h
    simp only[Lx,hb]
    exact ih
theorem lK (f:Str)(v:V):∀fs:List (Str×V),f∈(fq f v fs).map (·.1)/\∀g,g∈fs.map (·.1)->g∈(fq f v fs).map (·.1)
 |[]=>⟨by simp[fq],λg h=>by simp at h⟩
 |(k,x) :: r=>by
  obtain⟨i1,i2⟩:=lK f v r
  rw[show fq f v ((k,x) :: r)=(if k=f then (k,v) :: r else (k,x) :: fq f v r) from rfl]
  by_cases hk:k=f
  ·rw[Hz hk]
   subst hk
   exact⟨by simp,λg h=>by simpa using h⟩
  ·rw[Hs hk]
   refine⟨?_,λg h=>?_⟩
   ·rw[HN]
    exact Ho _ i1
   ·rw[HN]at h ⊢
    rcases Hq.mp h with e|e
    ·exact Hq.mpr (.inl e)
    ·exact Ho _ (i2 g e)
theorem l7 (f:Str)(v:V):∀fs:List (Str×V),(fq f v fs).length<=fs.length+1
 |[]=>by simp[fq]
 |(k,x) :: r=>by
  have ih:=l7 f v r
  rw[show fq f v ((k,x) :: r)=(if k=f then (k,v) :: r else (k,x) :: fq f v r) from rfl]
  by_cases hk:k=f
  ·rw[Hz hk,HW,HW];lia
  ·rw[Hs hk,HW,HW];lia
theorem i8.some_of {v:V}{o:Option Value}(r:i8 (some v) o):∃u,o=some u/\a5 v u:=by
 cases o with
 |none=>exact(show False from r).elim
 |some u=>exact⟨u,rfl,r⟩
theorem i8.none_of {o:Option Value}(r:i8 none o):o=none:=by
 cases o with
 |none=>rfl
 |some u=>exact(show False from r).elim
theorem wV {v:V}{u:Value}(r:a5 v u):PySem.W.handedIn u=true:=by
 cases v with
 |non=>cases (show u=Lb from r);rfl
 |bl b=>cases (show u=Value.bool b from r);rfl
 |int i=>obtain⟨t,e⟩:=(show ∃t,u=Value.int i t from r);cases e;rfl
 |str x=>obtain⟨t,e⟩:=(show ∃t,u=Value.str x t from r);cases e;rfl
 |byt b=>obtain⟨t,e⟩:=(show ∃t,u=Value.bytes b t from r);cases e;rfl
 |flt b=>obtain⟨t,e⟩:=(show ∃t,u=Value.float b t from r);cases e;rfl
 |ref a=>cases (show u=HY a from r);rfl
 |ty n=>cases (show u=Value.type n from r);rfl
section
variable  {P:Ih}{w:I0}{H H':Hp}{h h':Heap}{a C dx:Hm}{fs fs':List (Str×V)}
theorem qU (hok:HOk P w H h)(e:H a=some (.ins C dx fs)):∃mA,uk h a dx C mA/\(∀f,i8 (fs.lookup f) (mA f))/\PySem.Within mA (fs.map (·.1))/\fs.length<=1000/\H dx=some (.own a):=by
 obtain⟨d,z,ne,ob,mA,n,r,q⟩:=(show bY P w H h a (.ins C dx fs) from hok a _ e)
 exact⟨mA,⟨ob,n,ne⟩,r,q,z,d⟩
end
structure Cls (K:IN)(C:Hm):Prop where
 pg:PySem.W.plainGet K C Str.empty=true
 hd:PySem.W.hasDictIn K C=true
 po:PySem.W.plainOver K C=true
 sa:JB K (.ref C) "__setattr__"=some (some (.builtin "object.__setattr__"))
theorem Cls.get {K:IN}{C:Hm}(c:Cls K C)(f:Str):PySem.W.plainGet K C f=true:=c.pg
def eq (K:IN)(C:Hm)(f:Str):Prop:=JB K (.ref C) f=some none
theorem eq.taker {K:IN}{C:Hm}{f:Str}(n:eq K C f):PySem.W.takerIn K C f=some none:=by
 unfold PySem.W.takerIn
 rw[show JB K (.ref C) f=some none from n]
 rfl
structure xt (K:IN)(C:Hm)(m:Str)(f:Hm):Prop where
 at_:JB K (.ref C) m=some (some (.ref f))
 fn:PySem.W.isFn K (.ref f)=true
 kp:JL K (.ref f)=true
section
variable  {X:Cx}{pins:List (Hm×Obj)}{σ:St}{H:Hp}{s:Hl}{a C dx:Hm}{fs:List (Str×V)}{f:Str}{v:V}{A:Around}{E:Value->Hl->Prop}
theorem uv {b:Bool}{Q:Value->Hl->Prop}(I:Inv X pins σ H s)(e:H a=some (.ins C dx fs))(c:Cls X.K C)(n:eq X.K C f)(l:fs.lookup f=some v)
  (h:∀u s',Inv X pins σ H s'->a5 v u->Q u s'):Ig (Io X.prog X.w) A (getAttr (.ref a) f b) Q E s:=by
 obtain⟨mA,O,r,_,_,_⟩:=qU I.hok e
 obtain⟨u,hu,ru⟩:=i8.some_of (v:=v) (o:=mA f) (by rw[<-l];exact r f)
 exact Bn I.kIn O (c.get f) c.hd n hu (wV ru) (h u _ (I.tok _) ru)
theorem j3 {m:Str}{g:Hm}{pl:Sem Bool}{Q:Value×List Value->Hl->Prop}(I:Inv X pins σ H s)(e:H a=some (.ins C dx fs))(c:Cls X.K C)(k:xt X.K C m g)(l:fs.lookup m=none)
  (h:Q (.ref g,[.ref a]) s):Ig (Io X.prog X.w) A (getMethod (.ref a) m pl) Q E s:=by
 obtain⟨mA,O,r,_,_,_⟩:=qU I.hok e
 have hn:mA m=none:=i8.none_of (by rw[<-l];exact r m)
 exact xP I.kIn O (c.get m) k.at_ k.fn hn h
theorem uK {y:V}{u:Value}{Q:Unit->Hl->Prop}(I:Inv X pins σ H s)(e:H a=some (.ins C dx fs))(c:Cls X.K C)(n:eq X.K C f)(hl:fs.length<1000)(ry:a5 y u)
  (h:∀s',Inv X pins σ (upd H a (.ins C dx (fq f y fs))) s'->Q () s'):Ig (Io X.prog X.w) A (setAttr (.ref a) f u) Q E s:=by
 obtain⟨mA,O,r,wi,_,ho⟩:=qU I.hok e
 have hz:(fs.map (·.1)).length<=Hr:=by rw[lmp,sizeLine_eq];lia
 refine z9 I.kIn O c.sa c.po n.taker c.hd wi hz λh' O' sb=>h _ ?_
 have hd:∃o,h'.get? dx=some o:=let ⟨o,_,_,e',_⟩:=O'.ns;⟨o,e'⟩
 refine I.write (x:=a) (e:=dx) (by rw[e];exact True.intro) (.inr ho) (λb q hb z=>(sb.2 b hb).trans z) hd ?_
 refine⟨by rw[ao O.ne];exact ho,?_,O.ne,O'.obj,_,O'.ns,λg=>?_,λg hg=>?_⟩
 ·have:=l7 f y fs;lia
 ·show i8 ((fq f y fs).lookup g) (if g=f then some u else mA g)
  rw[aI]
  by_cases q:g=f
  ·rw[Hz q,Hz q];exact ry
  ·rw[Hs q,Hs q];exact r g
 ·by_cases q:g=f
  ·rw[q];exact(lK f y fs).1
  ·refine(lK f y fs).2 g (wi g λz=>hg ?_)
   show(if g=f then some u else mA g)=none
   rw[Hs q];exact z
theorem Inv.made (I:Inv X pins σ H s):Inv X pins σ (upd (upd H s.heap.objs.size (.own (s.heap.objs.size+1))) (s.heap.objs.size+1) (.ins C s.heap.objs.size []))
  { s with heap:=(s.heap.push Jw).push (Ke C s.heap.objs.size) }:=by
 have e1:(s.heap.push Jw).get? s.heap.objs.size=some Jw:=HR s.heap rfl
 have e2:((s.heap.push Jw).push (Ke C s.heap.objs.size)).get? (s.heap.objs.size+1)=some (Ke C s.heap.objs.size):=by
  have:=HR (s.heap.push Jw) (o:=Ke C s.heap.objs.size) rfl
  rwa [Jc]at this
 have e3:(s.heap.push Jw).Ns s.heap.objs.size (λ_=>none):=⟨Jw,#[],_,e1,rfl,(λe he=>absurd he (by simp)),λ_=>rfl⟩
 have I1:=I.laid (a:=s.heap.objs.size) (o:=.own (s.heap.objs.size+1)) (h':=s.heap.push Jw) (t':=s.toks) (λb u q=>Hy _ q) (nlr _) ⟨_,e1⟩
 refine I1.laid (a:=s.heap.objs.size+1) (o:=.ins C s.heap.objs.size []) (t':=s.toks) (λb u q=>Hy _ q) (Nat.le_of_eq (Jc _ _)) ?_
 have ne:s.heap.objs.size≠s.heap.objs.size+1:=Ij (Nat.lt_succ_self _)
 refine⟨by rw[ao ne,ae],IH _,ne,e2,λ_=>none,(Heap.Ns1.of_empty e3).at λo q=>Hy _ q,λ_=>True.intro,λy hy=>absurd rfl hy⟩
theorem Bq {prog:Ih}{w:I0}{env:Env}{e:Expr}{f:Str}{pos:Pos}{s:Hl}{Q:Value->Hl->Prop}(hb:attributeBase e f env (KW e env)=KW e env)
  (h:Ig (Io prog w) A (KW e env) (λo s₁=>Ig (Io prog w) A (getAttr o f true) Q E s₁) E s):Ig (Io prog w) A (KW (.Attribute e f pos) env) Q E s :=
 Attribute_any_ h (by rw[arm_eval_Attribute,hb])
end
def zM (K:IN)(ta:TE)(f:Str):TE:=λσ H Q=>ta σ H λx H1=>∃a C dx fs v,x=.ref a/\H1 a=some (.ins C dx fs)/\Cls K C/\eq K C f/\fs.lookup f=some v/\Q v H1
def GD (K:IN)(ta tv:TE)(f:Str):TS:=λD σ H=>tv σ H λy H1=>ta σ H1 λx H2=>∃a C dx fs,x=.ref a/\H2 a=some (.ins C dx fs)/\Cls K C/\eq K C f/\fs.length<1000 /\
 D.nx σ (upd H2 a (.ins C dx (fq f y fs)))
section
variable  {X:Cx}{o e value:Expr}{f:Str}{pos pos' tpos:Pos}{ta tv:TE}
theorem aS (he:PE X e ta)(hb:attributeBase e f X.env (KW e X.env)=KW e X.env):PE X (.Attribute e f pos) (zM X.K ta f):=by
 intro pins s σ H Q I h
 refine Bq hb (thn (he pins s σ H _ I h) λu s1 ⟨x,H1,I1,rx,a,C,dx,fs,v,ex,ea,c,n,l,q⟩=>?_)
 subst ex
 obtain rfl:u=HY a:=rx
 exact uv I1 ea c n l λu' s2 I2 ru=>⟨v,H1,I2,ru,q⟩
theorem ji (ha:PE X o ta)(hv:PE X value tv)(hs:swapsWith value (some (.Attribute o f pos')) pos.line X.env=pure false):PS X (.Assign [.Attribute o f pos'] value pos) (GD X.K ta tv f):=by
 intro pins s σ H D I h
 refine plainObj_wpAny_Assign_Attribute (thn (hv pins s σ H _ I h) λu s1 ⟨y,H1,I1,ry,q⟩=>thn (ha pins s1 σ H1 _ I1 q) λov s2 ⟨x,H2,I2,rx,a,C,dx,fs,ex,ea,c,n,l,q2⟩=>?_) hs
 subst ex
 obtain rfl:ov=HY a:=rx
 exact uK I2 ea c n l ry λs3 I3=>⟨σ,_,I3,q2⟩
theorem Bv {pl:Sem Bool}{m:Str}{apos:Pos}{args:List Expr}{pins:List (Hm×Obj)}{s:Hl}{σ:St}{H:Hp}{Q:Value->Hl->Prop}{te:TE}(he:PE X e te)(I:Inv X pins σ H s)
  (h:te σ H λx H1=>∃a C dx fs g,x=.ref a/\H1 a=some (.ins C dx fs)/\Cls X.K C/\xt X.K C m g/\fs.lookup m=none /\
   ∀s1,Inv X pins σ H1 s1->Ig (Io X.prog X.w) X.A (callWith pos (.ref g) [.ref a] (KQ pos (Ii args X.env)) (backToKw pos (KY [] X.env))) Q X.xe s1)
  (ht:KW (.Call (.Attribute e m apos) args [] pos) X.env=(do
   let ov <-KW e X.env
   standAt apos.atName
   let (f,first) <-holding [ov] (getMethod ov m pl)
   callWith pos f first (KQ pos (Ii args X.env)) (backToKw pos (KY [] X.env)))) :
  Ig (Io X.prog X.w) X.A (KW (.Call (.Attribute e m apos) args [] pos) X.env) Q X.xe s:=by
 refine PySem.W.methodCall_KW (pl:=pl) (thn (he pins s σ H _ I h) λu s1 ⟨x,H1,I1,rx,a,C,dx,fs,g,ex,ea,c,k,l,q⟩=>?_) ht
 subst ex
 obtain rfl:u=HY a:=rx
 exact j3 I1 ea c k l (q s1 I1)
end
section
variable  {X:Cx}{pins:List (Hm×Obj)}{σ:St}{H:Hp}{s:Hl}{A:Around}{E:Value->Hl->Prop}{Q:Value->Hl->Prop}{c:Value}{b:Bool}
end
end L2
namespace L2
open PySem PySem.Spec PyProof.Rows
structure bA (k:Nat)(A:Around):Prop where
 hd:A.handled=none
 dp:A.depth+3*k+5<recursionLimit
 un:A.units+16*k+200<cLine
theorem bA.mono {j k:Nat}{A:Around}(r:bA k A)(h:j<=k):bA j A:=⟨r.hd,by have:=r.dp;lia,by have:=r.un;lia⟩
theorem bA.deeper {k:Nat}{A:Around}(r:bA (k+1) A)(env:Env):bA k (A.deeper env) :=
 ⟨r.hd,by have:=r.dp;show A.depth+1+3*k+5<_;lia,by have:=r.un;show A.units+3+16*k+200<_;lia⟩
theorem u4 {A:Around}{C:Hm}{us:List Value}{kw:List (Str×Value)}:(A.under (.builtin "type.__call__" ⟨.ref C :: us,kw⟩)).depth=A.depth+1:=by
 first|rfl|simp[Around.under,Code.weight,Code.isCreation,Code.isGuard,Code.isCaller,Code.frames,Code.isFrame,guardIds]
theorem uD {A:Around}{C:Hm}{us:List Value}{kw:List (Str×Value)}:(A.under (.builtin "type.__call__" ⟨.ref C :: us,kw⟩)).units=A.units+1:=by
 first|rfl|simp[Around.under,Code.cUnits,Code.frames,Code.isFrame]
theorem bA.make {k:Nat}{A:Around}(r:bA (k+1) A)(C:Hm)(us:List Value)(kw:List (Str×Value)):bA k (A.under (.builtin "type.__call__" ⟨.ref C :: us,kw⟩)) :=
 ⟨r.hd,by have:=r.dp;rw[u4];lia,by have:=r.un;rw[uD];lia⟩
theorem bA.depth {k:Nat}{A:Around}(r:bA k A):A.depth<recursionLimit:=by have:=r.dp;lia
theorem bA.units {k:Nat}{A:Around}(r:bA k A):A.units+64<cLine:=by have:=r.un;lia
theorem bA.units0 {k:Nat}{A:Around}(r:bA k A):A.units<cLine:=by have:=r.un;lia
def fI:TA:=λ_ H Q=>Q [] H
def br (ta:TE)(tr:TA):TA:=λσ H Q=>ta σ H λx H1=>tr σ H1 λxs H2=>Q (x :: xs) H2
section
variable  {X:Cx}{e:Expr}{es:List Expr}{te:TE}{t:TA}{pos:Pos}
theorem ad:PA X [] fI:=λ_ _ _ _ H Q I h=>Calls.spliced_nil ⟨[],H,I,.nil,h⟩
theorem aa (ha:PE X e te)(hr:PA X es t)(hs:Ii (e :: es) X.env=(false,KW e X.env) :: Ii es X.env:=by rfl):PA X (e :: es) (br te t):=by
 intro pos pins s σ H Q I h
 rw[hs]
 show Ig _ _ (spliced ((false,KW e X.env) :: KQ pos (Ii es X.env))) _ _ s
 refine Calls.spliced_cons (thn (ha pins s σ H _ I h) λu s1 ⟨x,H1,I1,r1,q1⟩=>?_)
 exact thn (hr pos pins s1 σ H1 _ I1 q1) λus s2 ⟨xs,H2,I2,r2,q2⟩=>⟨x :: xs,H2,I2,.cons r1 r2,q2⟩
def wO (t:TA):TE:=λσ H Q=>t σ H λxs H1=>xs.length<=Hr/\∀p,H1 p=none->Q (.ref p) (upd H1 p (.tup xs))
def Ev (t:TA):TE:=λσ H Q=>t σ H λxs H1=>xs.length<=Hr/\∀p,H1 p=none->Q (.ref p) (upd H1 p (.lst xs))
theorem bn {x1}(h:PA X es t):PE X (.Tuple es x1 pos) (wO t):=by
 intro pins s σ H Q I hq
 refine wpAny_Tuple_spliced (thn (h pos pins s σ H _ I hq) λus s1 ⟨xs,H1,I1,r,z,q⟩=>⟨by rw[<-r.length];exact z,?_⟩)
 have hf:H1 s1.heap.objs.size=none:=I1.hok.fresh (nlr _)
 refine⟨.ref s1.heap.objs.size,upd H1 s1.heap.objs.size (.tup xs),I1.laid (t':=s1.toks) (λb u e=>Hy _ e) (nlr _) ?_,rfl,q _ hf⟩
 exact⟨z,us,r,⟨_,HR _ rfl,rfl,_,rfl⟩⟩
theorem eo (h:PA X es t):PE X (.List es pos) (Ev t):=by
 intro pins s σ H Q I hq
 refine wpAny_List_spliced (thn (h pos pins s σ H _ I hq) λus s1 ⟨xs,H1,I1,r,z,q⟩=>⟨by rw[<-r.length];exact z,?_⟩)
 have hf:H1 s1.heap.objs.size=none:=I1.hok.fresh (nlr _)
 refine⟨.ref s1.heap.objs.size,upd H1 s1.heap.objs.size (.lst xs),I1.laid (t':=s1.toks) (λb u e=>Hy _ e) (nlr _) ?_,rfl,q _ hf⟩
 exact⟨z,us,0,r,HR _ rfl⟩
end
abbrev Sp:=List V->Hp->VK->XK->Prop
abbrev CXT:=List Env->Hp->Hl->XK->Value->Hl->Prop
structure tm (P:Ih)(w:I0)(K:IN)(mg:Str->Option Value)(base:Heap)(A:Around)(outer:List Env)(s:Hl)(H:Hp):Prop where
 frames:A.frames=some outer
 mod:Mod K mg base
 bs:∀b o,base.get? b=some o->s.heap.get? b=some o/\H b=none
 bsz:base.objs.size<=s.heap.objs.size
 funs:s.heap.FunFrames base outer
 frf:∀b∈frs outer,H b=none
 hok:HOk P w H s.heap
 bare:AllBare s.gens
def CE (outer:List Env)(P:Ih)(w:I0)(H:Hp)(s:Hl)(Q:VK)(u:Value)(s':Hl):Prop :=
 ∃v H',s'.os=s.os/\AllBare s'.gens/\Un (frs outer) [] H H' s.heap s'.heap/\HOk P w H' s'.heap/\a5 v u/\Q v H'
def CR (CX:CXT)(outer:List Env)(P:Ih)(w:I0)(H:Hp)(s:Hl)(Q:VK)(E:XK)(r:Result)(s':Hl):Prop :=
 match r with
 |.ok (.ret u)=>CE outer P w H s Q u s'
 |.ok _=>False
 |.error e=>CX outer H s E e s'
structure js (P:Ih)(w:I0)(K:IN)(mg:Str->Option Value)(base:Heap)(CX:CXT)(k:Nat)(f:Hm)(fd:Le)(ps:List Str)(sp:Sp):Prop where
 len:∀vs H Q E,sp vs H Q E->vs.length=ps.length
 run:∀(A:Around) (outer:List Env) (s:Hl) (H:Hp) (args:Args) (us:List Value) (vs:List V) (Q:VK) (E:XK),bA k A->tm P w K mg base A outer s H->BindsTo s fd args (ps.zip us)->aT vs us->sp vs H Q E ->
  codeAny (Io P w) A (.call (.ref f) args) (CR CX outer P w H s Q E) s
theorem tm.make {P:Ih}{w:I0}{K:IN}{mg:Str->Option Value}{base:Heap}{A:Around}{outer:List Env}{s:Hl}{H:Hp}(e:tm P w K mg base A outer s H)(C:Hm)(us:List Value)(kw:List (Str×Value)) :
  tm P w K mg base (A.under (.builtin "type.__call__" ⟨.ref C :: us,kw⟩)) outer s H:=⟨by first|exact e.frames|(simpa [Around.under,Code.envs,Code.isFrame,pushEnvs] using e.frames),e.mod,e.bs,e.bsz,e.funs,e.frf,e.hok,e.bare⟩
section
variable  {X:Cx}{pins:List (Hm×Obj)}{σ:St}{H:Hp}{s s':Hl}
theorem Inv.env0 (I:Inv X pins σ H s):tm X.prog X.w X.K X.mg X.base X.A X.stack s H :=
 ⟨I.ok.frames,I.ok.mod,I.bs,Ik I.ok.bsz I.sz,I.stack,I.stkFree,I.hok,I.bare⟩
theorem Inv.after {Q:VK}{u:Value}(I:Inv X pins σ H s)(h:CE X.stack X.prog X.w H s Q u s'):EP X pins σ Q u s':=by
 obtain⟨v,H',os,bare,un,hok,r,q⟩:=h
 obtain⟨hh,g,d,t,os'⟩:=s'
 obtain rfl:os'=s.os:=os
 exact⟨v,H',I.call (h':=hh) (g':=g) (d':=d) (t':=t) (ch:=[]) un hok bare (λb z=>absurd z (by simp)),r,q⟩
end
def jR (sp:Sp)(dvs:List V)(E:XK)(t:TA):TE:=λσ H Q=>t σ H λvs H1=>sp (vs++dvs) H1 Q E
def kS (C:Hm)(m:Str)(sp:Sp)(dvs:List V)(E:XK)(ta:TE)(t:TA):TE:=λσ H Q=>ta σ H λx H1=>∃a dx fs,x=.ref a/\H1 a=some (.ins C dx fs)/\fs.lookup m=none /\
 t σ H1 λvs H2=>sp (x :: (vs++dvs)) H2 Q E
def BB (C:Hm)(sp:Sp)(dvs:List V)(E:XK)(t:TA):TE:=λσ H Q=>t σ H λvs H1=>∀x dx,H1 x=none->H1 dx=none->dx≠x ->
 sp (.ref x :: (vs++dvs)) (upd (upd H1 dx (.own x)) x (.ins C dx [])) (λv H2=>v=.non/\Q (.ref x) H2) E
def jh (K:IN)(fd:Le)(ps:List Str)(ds:List Value):Prop :=
 ∀(s:Hl) (us:List Value),K.In s.heap->(us++ds).length=ps.length->BindsTo s fd ⟨us,[]⟩ (ps.zip (us++ds))
theorem jh.all {K:IN}{fd:Le}{ps:List Str}(h:∀us:List Value,us.length=ps.length->bindArgs fd ⟨us,[]⟩=pure (ps.zip us)):jh K fd ps []:=λs us _ hl=>by
 rw[Iq]at hl ⊢
 exact .of_eq (h us hl)
def j7 (CX:CXT)(X:Cx)(E:XK):Prop:=∀(pins:List (Hm×Obj)) (σ:St) (H:Hp) (s:Hl) (e:Value) (s':Hl),Inv X pins σ H s->CX X.stack H s E e s'->X.xe e s'
section
variable  {X:Cx}{CX:CXT}{k:Nat}{f C:Hm}{fd:Le}{ps:List Str}{sp:Sp}{dvs:List V}{ds:List Value}{E:XK}{x m:Str}{p pos apos:Pos}{e o:Expr}{es:List Expr}{ta:TE}{t:TA}
theorem ub {pins:List (Hm×Obj)}{σ:St}{H:Hp}{s:Hl}{Q:VK}{us:List Value}{vs:List V}(F:js X.prog X.w X.K X.mg X.base CX k f fd ps sp)(hr:bA k X.A)(hb:jh X.K fd ps ds)(hd:aT dvs ds)(hx:j7 CX X E)
  (I:Inv X pins σ H s) (r:aT vs us) (h:sp (vs++dvs) H Q E):Ig (Io X.prog X.w) X.A (call (.ref f) us) (EP X pins σ Q) X.xe s:=by
 have r2:aT (vs++dvs) (us++ds):=r.append hd
 have hl:(us++ds).length=ps.length:=by rw[<-r2.length];exact F.len _ _ _ _ h
 refine wpAny_call (codeAny_mono (F.run X.A X.stack s H ⟨us,[]⟩ (us++ds) (vs++dvs) Q E hr I.env0 (hb s us I.kIn hl) r2 h) λr s' hq=>?_)
 cases r with
 |error e=>exact hx pins σ H s e s' I hq
 |ok fl =>
  cases fl with
  |ret u=>exact I.after hq
  |next=>exact Jm hq
  |brk=>exact Jm hq
  |cont=>exact Jm hq
theorem A6 (F:js X.prog X.w X.K X.mg X.base CX k f fd ps sp)(hr:bA k X.A)(hg:Gl X x)(hm:X.mg x=some (.ref f))(hk:JL X.K (.ref f)=true)(hb:jh X.K fd ps ds)(hd:aT dvs ds)(hx:j7 CX X E)
  (ha:PA X (e :: es) t) (hdb:(x==("__debug__" : Str))=false:=by decide) (he:Ii (e :: es) X.env=(false,KW e X.env) :: Ii es X.env:=by rfl) (hpl:(KQ pos (Ii es X.env)).any (·.1)=false:=by rfl) :
  PE X (.Call (.Name x p) (e :: es) [] pos) (jR sp dvs E t):=by
 intro pins s σ H Q I h
 refine KS (re I hg hm ?_ hdb)
 refine PySem.W.callWith_K (h₀:=X.base) I.ok.mod.kin hk (thn (ha pos pins s σ H _ I h) λus s1 ⟨vs,H1,I1,r,q⟩=>⟨I1.kIn,?_⟩) he hpl
 exact ub F hr hb hd hx I1 r q
theorem AB {pl:Sem Bool}(he:PE X o ta)(c:Cls X.K C)(hm:xt X.K C m f)(F:js X.prog X.w X.K X.mg X.base CX k f fd ps sp)(hr:bA k X.A)(hb:jh X.K fd ps ds)(hd:aT dvs ds)(hx:j7 CX X E)(ha:PA X (e :: es) t)
  (hst:Ii (e :: es) X.env=(false,KW e X.env) :: Ii es X.env:=by rfl) (hpl:(KQ pos (Ii es X.env)).any (·.1)=false:=by rfl)
  (ht:KW (.Call (.Attribute o m apos) (e :: es) [] pos) X.env=(do
   let ov <-KW o X.env
   standAt apos.atName
   let (f,first) <-holding [ov] (getMethod ov m pl)
   callWith pos f first (KQ pos (Ii (e :: es) X.env)) (backToKw pos (KY [] X.env))):=by rfl) :
  PE X (.Call (.Attribute o m apos) (e :: es) [] pos) (kS C m sp dvs E ta t):=by
 intro pins s σ H Q I h
 refine PySem.W.methodCall_KW (pl:=pl) (thn (he pins s σ H _ I h) λu s1 ⟨x,H1,I1,rx,a,dx,fs,ex,ea,l,q⟩=>?_) ht
 subst ex
 obtain rfl:u=HY a:=rx
 refine j3 I1 ea c hm l ?_
 refine PySem.W.callWith_K (first:=[.ref a]) (h₀:=X.base) I.ok.mod.kin hm.kp (thn (ha pos pins s1 σ H1 _ I1 q) λus s2 ⟨vs,H2,I2,r,q2⟩=>⟨I2.kIn,?_⟩) hst hpl
 exact ub (us:=.ref a :: us) (vs:=.ref a :: vs) F hr hb hd hx I2 (.cons rfl r) q2
theorem yM {pl:Sem Bool}(he:PE X o ta)(c:Cls X.K C)(hm:xt X.K C m f)(F:js X.prog X.w X.K X.mg X.base CX k f fd ps sp)(hr:bA k X.A)(hb:jh X.K fd ps ds)(hd:aT dvs ds)(hx:j7 CX X E)
  (ht:KW (.Call (.Attribute o m apos) [] [] pos) X.env=(do
   let ov <-KW o X.env
   standAt apos.atName
   let (f,first) <-holding [ov] (getMethod ov m pl)
   callWith pos f first (KQ pos (Ii [] X.env)) (backToKw pos (KY [] X.env))):=by rfl) :
  PE X (.Call (.Attribute o m apos) [] [] pos) (kS C m sp dvs E ta fI):=by
 intro pins s σ H Q I h
 refine PySem.W.methodCall_KW (pl:=pl) (thn (he pins s σ H _ I h) λu s1 ⟨x,H1,I1,rx,a,dx,fs,ex,ea,l,q⟩=>?_) ht
 subst ex
 obtain rfl:u=HY a:=rx
 refine j3 I1 ea c hm l ?_
 exact PySem.W.callWith_K0 (first:=[.ref a]) I1.kIn hm.kp (ub (us:=[.ref a]) (vs:=[.ref a]) F hr hb hd hx I1 (.cons rfl .nil) q)
structure Mk (K:IN)(C f:Hm):Prop where
 makes:PySem.W.makesIn K C=true
 init:JB K (.ref C) "__init__"=some (some (.ref f))
 fn:PySem.W.isFn K (.ref f)=true
 kp:JL K (.ref C)=true
theorem zX {pins:List (Hm×Obj)}{σ:St}{H:Hp}{s:Hl}{Q:VK}{us:List Value}{vs:List V}(M:Mk X.K C f)(F:js X.prog X.w X.K X.mg X.base CX k f fd ps sp)(hr:bA (k+1) X.A)(hb:jh X.K fd ps ds)(hd:aT dvs ds)
  (hx:j7 CX X E) (I:Inv X pins σ H s) (r:aT vs us)
  (h:∀x dx,H x=none->H dx=none->dx≠x->sp (.ref x :: (vs++dvs)) (upd (upd H dx (.own x)) x (.ins C dx [])) (λv H2=>v=.non/\Q (.ref x) H2) E) :
  Ig (Io X.prog X.w) X.A (call (.ref C) us) (EP X pins σ Q) X.xe s:=by
 have hq:=h (s.heap.objs.size+1) s.heap.objs.size (I.hok.fresh (Nat.le_succ _)) (I.hok.fresh (nlr _)) (Ij (Nat.lt_succ_self _))
 have I2:=Inv.made (C:=C) I
 have r2:aT (V.ref (s.heap.objs.size+1) :: (vs++dvs)) (HY (s.heap.objs.size+1) :: (us++ds)):=.cons rfl (r.append hd)
 have hl:(HY (s.heap.objs.size+1) :: us++ds).length=ps.length:=by
  have e:=r2.length
  rw[F.len _ _ _ _ hq]at e
  exact e.symm
 refine wpAny_call (yl (f:=f) I.kIn M.makes M.init (JW.mp M.fn) (codeAny_mono (F.run _ X.stack _ _ ⟨HY (s.heap.objs.size+1) :: us,[]⟩ (HY (s.heap.objs.size+1) :: (us++ds)) _ _ E (hr.make C us [])
  (I2.env0.make C us []) (hb _ (HY (s.heap.objs.size+1) :: us) I2.kIn hl) r2 hq) λr s' hq'=>?_))
 cases r with
 |error e=>exact hx pins σ _ _ e s' I2 hq'
 |ok fl =>
  cases fl with
  |ret u =>
   obtain⟨v,H',I3,rv,ev,q3⟩:=I2.after hq'
   subst ev
   exact⟨rv,⟨V.ref (s.heap.objs.size+1),H',I3,rfl,q3⟩⟩
  |next=>exact Jm hq'
  |brk=>exact Jm hq'
  |cont=>exact Jm hq'
theorem AT (M:Mk X.K C f)(F:js X.prog X.w X.K X.mg X.base CX k f fd ps sp)(hr:bA (k+1) X.A)(hg:Gl X x)(hm:X.mg x=some (.ref C))(hb:jh X.K fd ps ds)(hd:aT dvs ds)(hx:j7 CX X E)
  (ha:PA X (e :: es) t) (hdb:(x==("__debug__" : Str))=false:=by decide) (he:Ii (e :: es) X.env=(false,KW e X.env) :: Ii es X.env:=by rfl) (hpl:(KQ pos (Ii es X.env)).any (·.1)=false:=by rfl) :
  PE X (.Call (.Name x p) (e :: es) [] pos) (BB C sp dvs E t):=by
 intro pins s σ H Q I h
 refine KS (re I hg hm ?_ hdb)
 refine PySem.W.callWith_K (h₀:=X.base) I.ok.mod.kin M.kp (thn (ha pos pins s σ H _ I h) λus s1 ⟨vs,H1,I1,r,q⟩=>⟨I1.kIn,?_⟩) he hpl
 exact zX M F hr hb hd hx I1 r q
end
section
variable  {X:Cx}{CX:CXT}{k:Nat}{f C:Hm}{fd:Le}{ps ks:List Str}{sp:Sp}{E:XK}{x m:Str}{p pos apos kpos:Pos}{e o:Expr}{es:List Expr}{kws:List Keyword}{te ta:TE}{t tk:TA}{nm:Option Str}
variable  {g:List Value->List Value->List Value}{gV:List V->List V->List V}
end
structure aw (N P:List Str)(sc:Scope):Prop where
 kind:sc.kind=.function
 co:sc.isCoroutine=false
 gen:sc.isGenerator=false
 nd:N.Nodup
 pre:N.take P.length=P
 par:∀x∈P,sc.names.lookup x=some .local\/sc.names.lookup x=some .cell
 nofree:∀y∈sc.names,y.2≠.free
theorem fsk {N P:List Str}{sc:Scope}(a:sc.kind=.function:=by rfl)(b:sc.isCoroutine=false:=by rfl)(c:sc.isGenerator=false:=by rfl)(d:N.Nodup:=by decide +kernel)(e:N.take P.length=P:=by rfl)(f:∀x∈P,sc.names.lookup x=some .local\/sc.names.lookup x=some .cell:=by decide +kernel)(g:∀y∈sc.names,y.2≠.free:=by decide +kernel):aw N P sc:=⟨a,b,c,d,e,f,g⟩
theorem p7 {kindOf:Str->Option NameKind}{x:Str}:∀{binds:List (Str×Value)} {m:Str->Option Value},(∀v,(x,v)∉binds)->bindL kindOf binds m x=m x
 |[],_,_=>rfl
 |(n,v) :: r,m,h=>by
  unfold bindL
  rw[p7 λw hw=>h w (Ho _ hw)]
  split
  ·have:x≠n:=by rintro rfl;exact h v HD
   simp[this]
  ·rfl
theorem pV {kindOf:Str->Option NameKind}{x:Str}:∀{binds:List (Str×Value)} {m:Str->Option Value},(∀v,(x,v)∉binds)->bindC kindOf binds m x=m x
 |[],_,_=>rfl
 |(n,v) :: r,m,h=>by
  unfold bindC
  rw[pV λw hw=>h w (Ho _ hw)]
  split
  ·rfl
  ·have:x≠n:=by rintro rfl;exact h v HD
   simp[this]
theorem qe {kindOf:Str->Option NameKind}{x:Str}{v:Value}:∀{P:List Str} {vs:List Value} {i:Nat} {m:Str->Option Value},P.Nodup->P[i]? = some x->vs[i]? = some v->kindOf x=some .local ->
  bindL kindOf (P.zip vs) m x=some v
 |[],_,_,_,_,h,_,_=>by simp at h
 |_ :: _,[],_,_,_,_,h,_=>by simp at h
 |p :: P,w :: vs,0,m,nd,h1,h2,hk=>by
  simp at h1 h2;subst h1;subst h2
  show bindL kindOf ((p,w) :: P.zip vs) m p=_
  unfold bindL
  rw[p7 λv hv=>(Ja.mp nd).1 (List.of_mem_zip hv).1,Hz hk]
  simp
 |p :: P,w :: vs,i+1,m,nd,h1,h2,hk=>by
  show bindL kindOf ((p,w) :: P.zip vs) m x=_
  unfold bindL
  exact qe (i:=i) (Ja.mp nd).2 (by simpa using h1) (by simpa using h2) hk
theorem ql {kindOf:Str->Option NameKind}{x:Str}{v:Value}:∀{P:List Str} {vs:List Value} {i:Nat} {m:Str->Option Value},P.Nodup->P[i]? = some x->vs[i]? = some v->kindOf x≠some .local ->
  bindC kindOf (P.zip vs) m x=some v
 |[],_,_,_,_,h,_,_=>by simp at h
 |_ :: _,[],_,_,_,_,h,_=>by simp at h
 |p :: P,w :: vs,0,m,nd,h1,h2,hk=>by
  simp at h1 h2;subst h1;subst h2
  show bindC kindOf ((p,w) :: P.zip vs) m p=_
  unfold bindC
  rw[pV λv hv=>(Ja.mp nd).1 (List.of_mem_zip hv).1,Hs hk]
  simp
 |p :: P,w :: vs,i+1,m,nd,h1,h2,hk=>by
  show bindC kindOf ((p,w) :: P.zip vs) m x=_
  unfold bindC
  exact ql (i:=i) (Ja.mp nd).2 (by simpa using h1) (by simpa using h2) hk
def start (N:List Str)(vs:List V):St:=vs.map some++Kb (N.length-vs.length) none
def qT (CX:CXT)(P:Ih)(w:I0)(K:IN)(mg:Str->Option Value)(base:Heap)(N:List Str)(qual:Str)(scope:Scope)(f:Hm)(cd:Value)(A:Around)(outer:List Env)(s:Hl)(H:Hp)(E:XK):Cx where
 prog:=P
 w:=w
 K:=K
 mg:=mg
 base:=base
 A:=A.deeper (envOfC qual scope s.heap.objs.size f cd)
 N:=N
 s_0:=s
 H_0:=H
 env:=envOfC qual scope s.heap.objs.size f cd
 outer:=outer
 stack:=envOfC qual scope s.heap.objs.size f cd :: outer
 ex:=[]
 calm:=true
 fn:=λ_=>true
 pn:=[]
 xe:=λe s'=>Ig (Io P w) (A.deeper (envOfC qual scope s.heap.objs.size f cd)) (leaving (envOfC qual scope s.heap.objs.size f cd) e) (λ_ s''=>CX outer H s E e s'') (λe' s''=>CX outer H s E e' s'') s'
theorem tP {sc:Scope}{n:Nat}{x:Str}(h:sc.names.lookup x=some .cell):∃c,(Jx n sc.names []).lookup x=some c:=by
 have q:=PySem.W.cellsFrom_some sc.names n [] (.inl h)
 exact Option.isSome_iff_exists.mp q
theorem xH {CX:CXT}{P:Ih}{w:I0}{K:IN}{mg:Str->Option Value}{base:Heap}{N ps:List Str}{qual:Str}{scope:Scope}{f:Hm}{cd:Value}{A:Around}{outer:List Env}{s s1:Hl}{H:Hp}{E:XK}{us:List Value}{vs:List V}
  (S:aw N ps scope) (hd:A.handled=none) (e0:tm P w K mg base A outer s H) (hl:vs.length=ps.length) (r:aT vs us)
  (x:InCallC s s.heap.objs.size (bindL (envOfC qual scope s.heap.objs.size f cd).kindOf (ps.zip us) λ_=>none) (Jx (s.heap.objs.size+1) scope.names []) (bindC (envOfC qual scope s.heap.objs.size f cd).kindOf (ps.zip us) λ_=>none) s1) :
  Inv (qT CX P w K mg base N qual scope f cd A outer s H E) [] (start N vs) H s1:=by
 have hpl:ps.length<=N.length:=by have:=Jb List.length S.pre;rw[Iv]at this;lia
 obtain⟨h1,tk,rfl,hk⟩:=x.done
 have noA:∀b:Hm,b∉(qT CX P w K mg base N qual scope f cd A outer s H E).ex:=λb z=>absurd (show b∈([]:List Hm) from z) (by simp)
 refine⟨⟨e0.mod,S.kind,rfl,rfl,nlr _,λy z c h1 h2=>?_,λy hy=>?_,λy c _ h=>?_,λ_=>hd,Around.frames_deeper e0.frames,.inr ⟨rfl,rfl⟩,λb z=>absurd z (noA b),e0.bs,e0.bsz,λb _ _=>noA b,λb z=>absurd z (noA b),e0.funs,e0.frf⟩,
  rfl,e0.bare,Un.kept hk,⟨_,x.toInCall.ns,λi y v h1 h2 h3=>?_⟩,λy c h=>⟨_,x.cell y c h⟩,e0.hok.fresh (nlr _),λy c h=>?_,λp hp=>absurd (show p∈([]:List (Hm×Obj)) from hp) (by simp),e0.hok.kept hk,?_⟩
 ·exact name_of_addr x.apart (Ir h1) (Ir h2)
 ·have hy:scope.names.lookup y=some .cell\/scope.names.lookup y=some .free:=hy
  rcases hy with hy|hy
  ·exact tP hy
  ·exact absurd rfl (S.nofree _ (Ir hy))
 ·exact Ka (x.above y c (Ir h))
 ·have hi:i<vs.length:=by
   unfold start at h2
   by_cases hi:i<vs.length
   ·exact hi
   ·rw[HC (by simpa using hi)]at h2
    rw[List.getElem?_replicate]at h2
    split at h2<;>cases h2
  have ha:vs[i]? = some v:=by
   unfold start at h2
   rw[HE (by simpa using hi),Hw]at h2
   cases e:vs[i]? with
   |none=>rw[e]at h2;cases h2
   |some a=>rw[e]at h2;cases h2;rfl
  obtain⟨u,hu,rv⟩:=r.get ha
  have hp:ps[i]? = some y:=by
   rw[<-S.pre,List.getElem?_take_of_lt (by lia)];exact h1
  have ndP:ps.Nodup:=by rw[<-S.pre];exact S.nd.sublist (List.take_sublist _ _)
  refine⟨u,rv,?_⟩
  rcases S.par y (Ic hp) with k|k
  ·exact .inl ⟨k,qe ndP hp hu k⟩
  ·obtain⟨c,e⟩:=tP (n:=s.heap.objs.size+1) k
   refine .inr ⟨.inl k,c,e,?_⟩
   have q:=x.cell y c e
   rw[ql ndP hp hu (by show scope.names.lookup y≠_;rw[k];decide)]at q
   exact q
 ·exact e0.hok.fresh (Ka (x.above y c (Ir h)))
 ·unfold start
  show _=N.length
  rw[Hn,lmp,Ko]
  lia
theorem Ea {CX:CXT}{P:Ih}{w:I0}{K:IN}{mg:Str->Option Value}{base:Heap}{k:Nat}{f:Hm}{name qual:Str}{params:Arguments}{body:List JO}{scope:Scope}{dV kV doc pm cdv ct oc:Value}{an od:Option Hm}
  {osl:Array (Option Value)} {N ps:List Str} {sp:Sp} (lk:K.lookup f=some ⟨oc,od,.func (Kc name qual params body scope dV kV doc pm an cdv ct),osl⟩) (hcd:Lp K cdv qual=true) (S:aw N ps scope)
  (len:∀vs H Q E,sp vs H Q E->vs.length=ps.length)
  (hbody:∀(A:Around) (outer:List Env) (s:Hl) (H:Hp) (vs:List V) (Q:VK) (E:XK),bA k (A.deeper (envOfC qual scope s.heap.objs.size f cdv))->sp vs H Q E ->
   ∃t,PSs (qT CX P w K mg base N qual scope f cdv A outer s H E) body t/\t { nx:=λ_ H'=>Q .non H',rt:=Q } (start N vs) H) :
  js P w K mg base CX (k+1) f (Kc name qual params body scope dV kV doc pm an cdv ct) ps sp:=by
 refine⟨len,λA outer s H args us vs Q E hr e0 hb r hsp=>?_⟩
 have hl:=len _ _ _ _ hsp
 have KX:K.In s.heap:=e0.mod.kin.keeps λb o e=>(e0.bs b o e).1
 have lim:s.heap.NoLimit:=e0.mod.nolimit.keeps λb o e=>(e0.bs b o e).1
 have hkind:∀y∈ps.zip us,scope.names.lookup y.1=some .local\/(scope.names.lookup y.1=some .cell/\((Jx (s.heap.objs.size+1) scope.names []).lookup y.1).isSome=true):=λ⟨n,v⟩ hy=>by
  rcases S.par n (List.of_mem_zip hy).1 with q|q
  ·exact .inl q
  ·exact .inr ⟨q,PySem.W.cellsFrom_some _ _ _ (.inl q)⟩
 refine codeAny_call_function hr.depth (KX _ _ lk) rfl S.co S.gen rfl (PySem.W.codeRec_of KX hcd) (hb _ _ _ _ ?_)
 refine wpAny_newFunctionEnv_cells S.kind hkind λenv he s1 x=>?_
 subst he
 refine⟨lim.keeps x.toInCall.keep,codeAny_func ?_⟩
 obtain⟨t,ht,hq⟩:=hbody A outer s H vs Q E (hr.deeper _) hsp
 have I:Inv (qT CX P w K mg base N qual scope f cdv A outer s H E) [] (start N vs) H s1:=xH S hr.hd e0 hl r x
 refine Km (ht [] s1 (start N vs) H _ I hq) (λfl s' hs=>?_) λe s' hs=>hs
 have fin:∀{σ':St} {H':Hp} {v:V} {u:Value},Inv (qT CX P w K mg base N qual scope f cdv A outer s H E) [] σ' H' s'->a5 v u->Q v H'->CE outer P w H s Q u s' :=
  λ{σ' H' v u} J rv q=>⟨v,H',J.os,J.bare,J.base,J.hok,rv,q⟩
 cases fl with
 |ret u =>
  obtain⟨v,σ',H',J,rv,q⟩:=hs
  exact fin J rv q
 |next =>
  obtain⟨σ',H',J,q⟩:=hs
  exact fin (v:=V.non) (u:=Lb) J rfl q
 |brk =>
  obtain⟨_,_,_,q⟩:=hs
  exact Jm q
 |cont =>
  obtain⟨_,_,_,q⟩:=hs
  exact Jm q
end L2
namespace L2
open PySem PySem.Spec PyProof.Rows
section
variable  {X:Cx}{x:Str}{p pos:Pos}{e:Expr}{es:List Expr}{t:TA}{id T:String}{r:List V->Hp->VK->Prop}
def tCB (r:List V->Hp->VK->Prop)(t:TA):TE:=λσ H Q=>t σ H λvs H1=>r vs H1 Q
theorem aY (hc:kK X (.builtin id) r)(hg:Gl X x)(hm:X.mg x=none)(hv:J9 x=some (.builtin id))(ha:PA X (e :: es) t) (hn:x≠"__name__":=by decide) (hdb:(x==("__debug__" : Str))=false:=by decide)
  (he:Ii (e :: es) X.env=(false,KW e X.env) :: Ii es X.env:=by rfl) (hpl:(KQ pos (Ii es X.env)).any (·.1)=false:=by rfl):PE X (.Call (.Name x p) (e :: es) [] pos) (tCB r t):=by
 intro pins s σ H Q I h
 refine KS (gU I hg hm hv ?_ hn hdb)
 exact PyProof.Rows.callWith_builtin1 (thn (ha pos pins s σ H _ I h) λus s1 ⟨vs,H1,I1,r1,q1⟩=>hc pins s1 σ H1 vs us Q I1 r1 q1) he hpl
theorem wX (hc:kK X (.type T) r)(hg:Gl X x)(hm:X.mg x=none)(hv:J9 x=some (.type T))(ha:PA X (e :: es) t) (hn:x≠"__name__":=by decide) (hdb:(x==("__debug__" : Str))=false:=by decide)
  (he:Ii (e :: es) X.env=(false,KW e X.env) :: Ii es X.env:=by rfl) (hpl:(KQ pos (Ii es X.env)).any (·.1)=false:=by rfl):PE X (.Call (.Name x p) (e :: es) [] pos) (tCB r t):=by
 intro pins s σ H Q I h
 refine KS (gU I hg hm hv ?_ hn hdb)
 exact Iz (thn (ha pos pins s σ H _ I h) λus s1 ⟨vs,H1,I1,r1,q1⟩=>hc pins s1 σ H1 vs us Q I1 r1 q1) he hpl
end
end L2
namespace HT
open PySem PyProof.Rows
def lexLt:List Int->List Int->Bool
 |[],[]=>false
 |[],_ :: _=>true
 |_ :: _,[]=>false
 |x :: xs,y :: ys=>if x=y then lexLt xs ys else decide (x<y)
theorem lexLt_cons (x y:Int)(xs ys:List Int):lexLt (x :: xs) (y :: ys)=if x=y then lexLt xs ys else decide (x<y):=rfl
theorem lexLt_nil_nil:lexLt [] []=false:=rfl
theorem lexLt_nil_cons (y:Int)(ys:List Int):lexLt [] (y :: ys)=true:=rfl
theorem lexLt_cons_nil (x:Int)(xs:List Int):lexLt (x :: xs) []=false:=rfl
theorem eqAt_int (A:Around)(s:Hl)(a:Int)(t:Tok)(c:Int)(u:Tok):∃e,SeqAt.EqAt A s (.int a t) (.int c u) e/\(e=true↔a=c) :=
 ⟨(a==c),SeqAt.EqAt.int_int a t c u,by simp⟩
section
open PySem.SeqAt
open PySem.AutoSeq1 (wpAny_loadPart')
open PySem.MeetsSeq PySem.MeetsSeq2 PySem.MeetsSeq3
end
section
variable  {prog:Ih}{w:I0}{A:Around}{E:Value->Hl->Prop}{s:Hl}
theorem cat_tup {t b:Hm}{vs ws:List Value}{Q:Value->Hl->Prop}(ht:IsTup s.heap t vs.toArray)(hb:IsTup s.heap b ws.toArray)(hv:vs≠[])
  (h1:ws=[]->Q (.ref t) s) (h2:ws≠[]->Q (.ref s.heap.objs.size) { s with heap:=s.heap.push { cls:=.type "tuple",data:=.seq (vs++ws).toArray } })
  (hsz:vs.length+ws.length<=Hr):Ig (Io prog w) A (binaryOp .Add (.ref t) (.ref b)) Q E s:=by
 obtain⟨⟨cls,dd,data,sl⟩,ho,hc,n,hd⟩:=id ht
 obtain⟨⟨cls2,dd2,data2,sl2⟩,ho2,hc2,n2,hd2⟩:=id hb
 simp only at hc hd hc2 hd2
 subst hc hd hc2 hd2
 have e:vs.toArray++ws.toArray=(vs++ws).toArray:=by simp
 by_cases hw:ws=[]
 ·exact concat_meets ⟨_,ho,rfl⟩ ⟨_,ho2,rfl⟩ noFill_tuple_add seq_tuple_add PySem.F.slot_tuple_add PySem.F.entry_tuple_add (PySem.F.args_tuple_add_2 _ _)
   (tuple_addW1 t b vs.toArray ws.toArray n n2 dd dd2 sl sl2 (by simpa using hv) (by simp[hw])) ⟨ho,ho2,h1 hw⟩
 ·refine concat_meets ⟨_,ho,rfl⟩ ⟨_,ho2,rfl⟩ noFill_tuple_add seq_tuple_add PySem.F.slot_tuple_add PySem.F.entry_tuple_add (PySem.F.args_tuple_add_2 _ _)
   (tuple_addW2 t b vs.toArray ws.toArray n n2 dd dd2 sl sl2 (by simpa using hv) (by simpa using hw) (by rw[HA,HA];exact hsz)) ⟨ho,ho2,?_⟩
  rw[e]
  exact h2 hw
def sIx (n d:Nat):Option Int->Nat
 |none=>d
 |some v=>if v<0 then (v+(n:Int)).toNat else min v.toNat n
theorem sIx_none (n d:Nat):sIx n d none=d:=rfl
theorem sIx_nat (n d k:Nat):sIx n d (some (k:Int))=min k n:=by
 show(if (k:Int)<0 then ((k:Int)+(n:Int)).toNat else min (k:Int).toNat n)=min k n
 rw[Hs (by lia),IV]
end
end HT
namespace L2
open PySem PySem.Spec PyProof.Rows
abbrev TO:=St->Hp->(Option Int->Hp->Prop)->Prop
def PO (X:Cx)(e:Option Expr)(t:TO):Prop :=
 ∀(pins:List (Hm×Obj)) (s:Hl) (σ:St) (H:Hp) (Q:Option Int->Hp->Prop),Inv X pins σ H s->t σ H Q ->
  Ig (Io X.prog X.w) X.A (evalPart e X.env) (λu s'=>∃o H',Inv X pins σ H' s'/\IsPart u o/\Q o H') X.xe s
def Bm:TO:=λ_ H Q=>Q none H
def Eu (t:TE):TO:=λσ H Q=>t σ H λx H1=>∃i,x=.int i/\Q (some i) H1
theorem iY {ns:List Int}:∀{us:List Value},aT (ns.map V.int) us->IntsAre us ns:=by
 induction ns with
 |nil=>intro us r;rw[LB]at r;cases r;exact .nil
 |cons n ns ih =>
  intro us r
  rw[HN]at r
  cases r with
  |cons r1 r2 =>
   obtain⟨t,e⟩:=r1
   subst e
   exact .cons n t (ih r2)
section
variable  {X:Cx}{e:Expr}{te:TE}{lo hi:Option Expr}{tl th:TO}{pos p2:Pos}
theorem Aa:PO X none Bm:=by
 intro pins s σ H Q I h
 rw[evalPart_none]
 exact HL ⟨none,H,I,.none,h⟩
theorem kJ (h:PE X e te):PO X (some e) (Eu te):=by
 intro pins s σ H Q I hw
 rw[evalPart_some]
 refine thn (h pins s σ H _ I hw) λu s1 ⟨x,H1,I1,r1,q1⟩=>?_
 obtain⟨i,rfl,q⟩:=q1
 obtain⟨t,rfl⟩:=r1
 exact⟨some i,H1,I1,.int i t,q⟩
def SlR (X:Cx)(r:V->Option Int->Option Int->Hp->VK->Prop):Prop :=
 ∀(pins:List (Hm×Obj)) (s:Hl) (σ:St) (H:Hp) (x:V) (v vl vu:Value) (lo hi:Option Int) (sl:Hm) (Q:VK),Inv X pins σ H s->a5 x v->s.heap.IsSliceOf sl vl vu .none->IsPart vl lo->IsPart vu hi->r x lo hi H Q ->
  ∃T id,typeLookup (.type T) "__getitem__"=pure (some (.builtin id))/\s.TypeIs v T/\Ig (Io X.prog X.w) X.A (getItem v (.ref sl)) (EP X pins σ Q) X.xe s
def tSl (r:V->Option Int->Option Int->Hp->VK->Prop)(te:TE)(tl th:TO):TE:=λσ H Q=>te σ H λx H1=>tl σ H1 λl H2=>th σ H2 λu H3=>r x l u H3 Q
theorem oA {r:V->Option Int->Option Int->Hp->VK->Prop}(hr:SlR X r)(he:PE X e te)(hl:PO X lo tl)(hu:PO X hi th):PE X (.Subscript e (.Slice lo hi none p2) pos) (tSl r te tl th):=by
 intro pins s σ H Q I h
 refine Subscript_ (thn (he pins s σ H _ I h) λv s1 ⟨x,H1,I1,r1,q1⟩=>?_)
 refine wpAny_Slice (thn (hl pins s1 σ H1 _ I1 q1) λvl s2 ⟨l,H2,I2,pl,q2⟩=>thn (hu pins s2 σ H2 _ I2 q2) λvu s3 ⟨u,H3,I3,pu,q3⟩=>?_)
 rw[evalPart_none]
 refine HL ?_
 have I4:Inv X pins σ H3 { s3 with heap:=s3.heap.push { cls:=.type "slice",data:=.fields #[vl,vu,.none] } }:=I3.kept (t':=s3.toks) λb ob q=>Hy _ q
 obtain⟨T,id,hT,ht,hg⟩:=hr pins { s3 with heap:=s3.heap.push { cls:=.type "slice",data:=.fields #[vl,vu,.none] } } σ H3 x v vl vu l u s3.heap.objs.size Q I4 r1 (Heap.IsSliceOf.new ..) pl pu q3
 show Ig (Io X.prog X.w) X.A (subscriptTail e (.Slice lo hi none p2) v (.ref s3.heap.objs.size)) (EP X pins σ Q) X.xe { s3 with heap:=s3.heap.push { cls:=.type "slice",data:=.fields #[vl,vu,.none] } }
 exact tail_any (ops:=[.ref s3.heap.objs.size,v]) ht hT hg (by with_unfolding_all rfl)
def pF (xs:List V)(lo hi:Option Int):List V:=(xs.drop (HT.sIx xs.length 0 lo)).take (HT.sIx xs.length xs.length hi-HT.sIx xs.length 0 lo)
theorem sN (xs:List V)(lo hi:Option Int):(pF xs lo hi).length<=xs.length:=by
 unfold pF
 rw[Iv,Il]
 lia
def FW (K:IN):R2:=λx y H Q=>∃a b xs ys,x=.ref a/\y=.ref b/\SqT K H a xs/\SqT K H b ys/\xs≠[]/\xs.length+ys.length<=Hr /\
 (ys=[]->Q (.ref a) H)/\(ys≠[]->∀p,H p=none->Q (.ref p) (upd H p (.tup (xs++ys))))
theorem aT.nil_iff {xs:List V}{us:List Value}(r:aT xs us):us=[]↔xs=[]:=by
 cases r with
 |nil=>simp
 |cons _ _=>simp
theorem AL:OpR X (binaryOp .Add) (FW X.K):=by
 intro pins s σ H x y v u Q I rx ry h
 obtain⟨a,b,xs,ys,rfl,rfl,ha,hb,hx,hz,q1,q2⟩:=h
 cases rx
 cases ry
 obtain⟨its,r1,p1,_⟩:=I.tuple ha
 obtain⟨its2,r2,p2,_⟩:=I.tuple hb
 refine HT.cat_tup p1 p2 (λz=>hx (r1.nil_iff.mp z)) (λz=>⟨.ref a,H,I,rfl,q1 (r2.nil_iff.mp z)⟩) (λz=>?_) (by rw[<-r1.length,<-r2.length];exact hz)
 refine⟨.ref s.heap.objs.size,_,I.laid (t':=s.toks) (o:=.tup (xs++ys)) (λb ob q=>Hy _ q) (nlr _) ?_,rfl,q2 (λw=>z (r2.nil_iff.mpr w)) _ (I.hok.fresh (nlr _))⟩
 exact⟨by rw[Hn];exact hz,_,r1.append r2,IsTup.new _ _⟩
end
end L2
namespace L2
open PySem PySem.Spec PyProof.Rows
def ixN (n:Nat)(i:Int):Option Nat:=if 0<=i then (if i<n then some i.toNat else none) else if -(n:Int)<=i then some (i+n).toNat else none
def atI {α:Type}(xs:List α)(i:Int):Option α:=(ixN xs.length i).bind λj=>xs[j]?
theorem wd {n:Nat}{i:Int}{j:Nat}(h:ixN n i=some j):seqIndex? i n=some j/\j<n/\-(n:Int)<=i/\i<n:=by
 unfold ixN at h
 by_cases h0:0<=i
 ·rw[Hz h0]at h
  by_cases h1:i<n
  ·rw[Hz h1]at h
   have e:i.toNat=j:=osi h
   exact⟨by rw[seqIndex_of h0 h1,e],by lia,by lia,h1⟩
  ·rw[Hs h1]at h;cases h
 ·rw[Hs h0]at h
  by_cases h1:-(n:Int)<=i
  ·rw[Hz h1]at h
   have e:(i+n).toNat=j:=osi h
   exact⟨by rw[seqIndex_neg (by lia) h1,e],by lia,h1,by lia⟩
  ·rw[Hs h1]at h;cases h
theorem vQ {α:Type}{xs:List α}{i:Int}{v:α}(h:atI xs i=some v):∃j,seqIndex? i xs.length=some j/\xs[j]? = some v/\j<xs.length/\-(xs.length:Int)<=i/\i<xs.length:=by
 unfold atI at h
 cases e:ixN xs.length i with
 |none=>rw[e]at h;cases h
 |some j =>
  rw[e]at h
  obtain⟨h1,h2,h3,h4⟩:=wd e
  exact⟨j,h1,h,h2,h3,h4⟩
theorem qC {α:Type}{xs:List α}{j:Nat}{v:α}(h:xs[j]? = some v):atI xs (j:Int)=some v:=by
 have hj:j<xs.length:=(gsi h).1
 have e:ixN xs.length (j:Int)=some j:=by
  unfold ixN
  rw[Hz (by lia),Hz (by lia)];simp
 unfold atI;rw[e];exact h
theorem oR {α:Type}(xs:List α)(v:α):atI (xs++[v]) (-1)=some v:=by
 have hl:(xs++[v]).length=xs.length+1:=by simp
 have e:ixN (xs++[v]).length (-1)=some xs.length:=by
  unfold ixN
  rw[hl,Hs (by decide),Hz (by lia)]
  congr 1
  lia
 unfold atI
 rw[e]
 show(xs++[v])[xs.length]? = some v
 simp
def AF (b:Expr):Prop:=∀o i,subscripted b false o i=operate [o,i] (getItem o i)
def IxR (X:Cx)(r:R2):Prop :=
 ∀(value slice:Expr) (pins:List (Hm×Obj)) (s:Hl) (σ:St) (H:Hp) (x y:V) (v u:Value) (Q:VK),Inv X pins σ H s->a5 x v->a5 y u->r x y H Q ->
  subscripted slice false v u=operate [v,u] (getItem v u)->Ig (Io X.prog X.w) X.A (subscriptTail value slice v u) (EP X pins σ Q) X.xe s
def MtR (X:Cx)(id:String)(r:V->List V->Hp->VK->Prop):Prop :=
 ∀(pins:List (Hm×Obj)) (s:Hl) (σ:St) (H:Hp) (x:V) (xs:List V) (v:Value) (us:List Value) (Q:VK),Inv X pins σ H s->a5 x v->aT xs us->r x xs H Q ->
  Ig (Io X.prog X.w) X.A (call (.builtin id) (v :: us)) (EP X pins σ Q) X.xe s
section
variable  {X:Cx}{a b:Expr}{ta tb:TE}{pos:Pos}
theorem aB {r:R2}(hr:IxR X r)(ha:PE X a ta)(hb:PE X b tb)(hs:AF b):PE X (.Subscript a b pos) (tOp r ta tb):=by
 intro pins s σ H Q I h
 exact Subscript_ (BZ ha hb I h λv u s2 x y H2 I2 rx ry q=>hr a b pins s2 σ H2 x y v u Q I2 rx ry q (hs _ _))
def sT (K:IN):R2:=λx y H Q=>∃p xs i v,x=.ref p/\y=.int i/\SqL K H p xs/\atI xs i=some v/\Q v H
def nS (K:IN):R2:=λx y H Q=>∃p xs i v,x=.ref p/\y=.int i/\SqT K H p xs/\atI xs i=some v/\Q v H
theorem aU:IxR X (sT X.K):=by
 intro value slice pins s σ H x y v u Q I rx ry h hs
 obtain⟨p,xs,i,z,rfl,rfl,hq,he,q⟩:=h
 cases rx
 obtain⟨t,rfl⟩:=ry
 obtain⟨its,r,pl,hz⟩:=I.list hq
 obtain⟨j,h1,h2,h3,h4,h5⟩:=vQ he
 obtain⟨w,ew,rw'⟩:=r.get h2
 have hl:=r.length
 have hn:=qS
 have fin:EP X pins σ Q w s:=⟨z,H,I,rw',q⟩
 by_cases h0:0<=i
 ·have hj:i.toNat=j:=by
   rw[seqIndex_of h0 h5]at h1
   exact osi h1
  exact item_listR pl.isList h0 (by lia) (by rw[hj];simpa using ew) fin hs
 ·have hj:(i+(its.toArray.size:Int)).toNat=j:=by
   rw[seqIndex_neg (by lia) h4]at h1
   rw[HA,<-hl]
   exact osi h1
  exact subscriptTail_builtinR (x:=w) pl.isList.typeIs slot_list_getitem.lookup
   (wpAny_getItem_list_neg (Q:=λr s'=>r=w/\EP X pins σ Q r s') pl.isList (by lia) (by rw[HA]<;>lia) (by lia) (by rw[hj];simpa using ew) ⟨rfl,fin⟩) hs
theorem aF:IxR X (nS X.K):=by
 intro value slice pins s σ H x y v u Q I rx ry h hs
 obtain⟨p,xs,i,z,rfl,rfl,hq,he,q⟩:=h
 cases rx
 obtain⟨t,rfl⟩:=ry
 obtain⟨its,r,pl,hz⟩:=I.tuple hq
 obtain⟨j,h1,h2,h3,h4,h5⟩:=vQ he
 obtain⟨w,ew,rw'⟩:=r.get h2
 have hl:=r.length
 have hn:=qS
 have fin:EP X pins σ Q w s:=⟨z,H,I,rw',q⟩
 exact subscriptTail_builtinR (x:=w) pl.typeIs slot_tuple_getitem.lookup
  (getItem_tuple (j:=j) (Q:=λr s'=>r=w/\EP X pins σ Q r s') pl (by lia) (by lia) (by rw[HA,<-hl];exact h1) (by simpa using ew) ⟨rfl,fin⟩) hs
theorem ug (its:List Value)(n j:Nat)(u:Value):JX (·.setIfInBounds j u) { cls:=.type "list",data:=.seq its.toArray n }={ cls:=.type "list",data:=.seq (its.set j u).toArray n }:=by
 simp[JX]
theorem Inv.lst {pins:List (Hm×Obj)}{σ:St}{H:Hp}{s:Hl}{p:Hm}{xs:List V}(I:Inv X pins σ H s)(h:H p=some (.lst xs)) :
  ∃(its:List Value) (n:Nat),aT xs its/\s.heap.get? p=some { cls:=.type "list",data:=.seq its.toArray n }/\xs.length<=Hr:=by
 obtain⟨z,its,n,r,e⟩:=I.hok p _ h
 exact⟨its,n,r,e,z⟩
theorem Inv.lstUpd {pins:List (Hm×Obj)}{σ:St}{H:Hp}{s:Hl}{p:Hm}{xs ys:List V}{its its':List Value}{n n':Nat}{f:Obj->Obj}(I:Inv X pins σ H s)(h:H p=some (.lst xs))
  (ho:s.heap.get? p=some { cls:=.type "list",data:=.seq its.toArray n }) (hf:f { cls:=.type "list",data:=.seq its.toArray n }={ cls:=.type "list",data:=.seq its'.toArray n' }) (r:aT ys its') (hz:ys.length<=Hr) (t:Nat) :
  Inv X pins σ (upd H p (.lst ys)) { s with heap:=s.heap.update p f,toks:=t }:=by
 have e:(s.heap.update p f).get? p=some { cls:=.type "list",data:=.seq its'.toArray n' }:=by
  rw[JQ f ho (by rw[hf]<;>rfl),hf]
 refine I.write (x:=p) (e:=p) (by rw[h];trivial) (.inl rfl) (λb u hb q=>(JI _ _ (Ie hb)).trans q) ⟨_,e⟩ ?_
 exact⟨hz,its',n',r,e⟩
def Gj:V->V->V->Hp->(Hp->Prop)->Prop:=λo i v H Q=>∃p xs k j,o=.ref p/\i=.int k/\H p=some (.lst xs)/\ixN xs.length k=some j/\Q (upd H p (.lst (xs.set j v)))
theorem rZ:Gb X Gj:=by
 intro pins s σ H o i v ov iv u Q I ro ri rv h
 obtain⟨p,xs,k,j,rfl,rfl,hp,hj,q⟩:=h
 cases ro
 obtain⟨t,rfl⟩:=ri
 obtain⟨its,n,r,ho,hz⟩:=I.lst hp
 obtain⟨h1,h2,h3,h4⟩:=wd hj
 have hl:=r.length
 have hn:=qS
 have I':Inv X pins σ (upd H p (.lst (xs.set j v))) { s with heap:=s.heap.update p (JX (·.setIfInBounds j u)) } :=
  I.lstUpd hp ho (ug its n j u) (r.set rv j) (by rw[List.length_set];exact hz) s.toks
 by_cases h0:0<=k
 ·have hk:k.toNat=j:=by
   rw[seqIndex_of h0 h4]at h1
   exact osi h1
  exact PySem.W.ki_setAt ho h0 (by lia) (by rw[HA,<-hl];exact h4) (by rw[hk];exact⟨_,I',q⟩)
 ·have hk:(k+(its.toArray.size:Int)).toNat=j:=by
   rw[seqIndex_neg (by lia) h3]at h1
   rw[HA,<-hl]
   exact osi h1
  exact PySem.W.ki_setBack ho (by lia) (by rw[HA,<-hl];exact h3) (by lia) (by rw[hk];exact⟨_,I',q⟩)
theorem rk (lo hi:Option Int)(n:Nat):(sliceBounds lo hi none n).1=((HT.sIx n 0 lo:Nat):Int)/\(sliceBounds lo hi none n).2.1=((HT.sIx n n hi:Nat):Int)/\(sliceBounds lo hi none n).2.2=1:=by
 refine⟨?_,?_,rfl⟩
 ·cases lo with
  |none=>simp[sliceBounds,HT.sIx]
  |some i =>
   simp only[sliceBounds,HT.sIx,Option.getD_none,show(1:Int) > 0 by decide,if_true]
   by_cases h:i<0
   ·simp only[h,if_true]<;>lia
   ·simp only[h,Lf]<;>lia
 ·cases hi with
  |none=>simp[sliceBounds,HT.sIx]
  |some i =>
   simp only[sliceBounds,HT.sIx,Option.getD_none,show(1:Int) > 0 by decide,if_true]
   by_cases h:i<0
   ·simp only[h,if_true]<;>lia
   ·simp only[h,Lf]<;>lia
theorem pA (its:List Value)(lo hi:Option Int):slicePick its.toArray lo hi none=((its.drop (HT.sIx its.length 0 lo)).take (HT.sIx its.length its.length hi-HT.sIx its.length 0 lo)).toArray:=by
 obtain⟨h1,h2,h3⟩:=rk lo hi its.toArray.size
 unfold slicePick
 rw[h1,h2,h3]
 simp only[sliceRange_one,pick_run,HA]<;>rfl
def GP (K:IN):V->Option Int->Option Int->Hp->VK->Prop:=λx lo hi H Q=>∃a xs,x=.ref a/\SqL K H a xs/\∀p,H p=none->Q (.ref p) (upd H p (.lst (pF xs lo hi)))
theorem rj:SlR X (GP X.K):=by
 intro pins s σ H x v vl vu lo hi sl Q I rx hs pl pu h
 obtain⟨a,xs,rfl,hx,q⟩:=h
 cases rx
 obtain⟨its,r,ht,hz⟩:=I.list hx
 have hlen:=r.length
 refine⟨"list",_,slot_list_getitem.lookup,ht.isList.typeIs,?_⟩
 refine wpAny_getItem_list_slice ht.isList hs pl pu .none (by simp) ?_ (by rw[HA]<;>lia)
 rw[pA,<-hlen]
 refine⟨.ref s.heap.objs.size,_,I.laid (t':=s.toks) (o:=.lst (pF xs lo hi)) (λb ob q=>Hy _ q) (nlr _) ?_,rfl,q _ (I.hok.fresh (nlr _))⟩
 exact⟨Ik (sN xs lo hi) hz,_,0,(r.drop (HT.sIx xs.length 0 lo)).take (HT.sIx xs.length xs.length hi-HT.sIx xs.length 0 lo),HR _ rfl⟩
def kC:V->Bool
 |.non=>true
 |.bl _=>true
 |.int _=>true
 |.str _=>true
 |_=>false
def eqV:V->V->Bool
 |.non,.non=>true
 |.bl a,.bl b=>a==b
 |.bl a,.int b=>(if a then 1 else 0)==b
 |.int a,.bl b=>a==(if b then 1 else 0)
 |.int a,.int b=>a==b
 |.str a,.str b=>a==b
 |_,_=>false
theorem CB {A:Around}{s:Hl}{y x:V}{u v:Value}(ry:a5 y u)(rx:a5 x v)(fy:kC y=true)(fx:kC x=true):SeqAt.EqAt A s u v (eqV y x):=by
 cases y with
 |non =>
  cases ry
  cases x with
  |non=>cases rx;exact SeqAt.EqAt.same _
  |bl b=>cases rx;exact SeqAt.EqAt.none_bool b
  |int b=>obtain⟨t,rfl⟩:=rx;exact SeqAt.EqAt.none_int b t
  |str b=>obtain⟨t,rfl⟩:=rx;exact SeqAt.EqAt.none_str b t
  |_=>exact absurd (show false=true from fx) HG
 |bl a =>
  cases ry
  cases x with
  |non=>cases rx;exact SeqAt.EqAt.bool_none a
  |bl b=>cases rx;exact SeqAt.EqAt.bool_bool a b
  |int b=>obtain⟨t,rfl⟩:=rx;exact SeqAt.EqAt.bool_int a b t
  |str b=>obtain⟨t,rfl⟩:=rx;exact SeqAt.EqAt.bool_str a b t
  |_=>exact absurd (show false=true from fx) HG
 |int a =>
  obtain⟨t',rfl⟩:=ry
  cases x with
  |non=>cases rx;exact SeqAt.EqAt.int_none a t'
  |bl b=>cases rx;exact SeqAt.EqAt.int_bool a t' b
  |int b=>obtain⟨t,rfl⟩:=rx;exact SeqAt.EqAt.int_int a t' b t
  |str b=>obtain⟨t,rfl⟩:=rx;exact SeqAt.EqAt.int_str a t' b t
  |_=>exact absurd (show false=true from fx) HG
 |str a =>
  obtain⟨t',rfl⟩:=ry
  cases x with
  |non=>cases rx;exact SeqAt.EqAt.str_none a t'
  |bl b=>cases rx;exact SeqAt.EqAt.str_bool a t' b
  |int b=>obtain⟨t,rfl⟩:=rx;exact SeqAt.EqAt.str_int a t' b t
  |str b=>obtain⟨t,rfl⟩:=rx;exact SeqAt.EqAt.str_str a t' b t
  |_=>exact absurd (show false=true from fx) HG
 |_=>exact absurd (show false=true from fy) HG
def eqU (x:V)(u:Value):Bool:=match u with
 |.none=>eqV .non x
 |.bool b=>eqV (.bl b) x
 |.int i _=>eqV (.int i) x
 |.str z _=>eqV (.str z) x
 |_=>false
theorem uN {x y:V}{u:Value}(r:a5 y u)(f:kC y=true):eqU x u=eqV y x:=by
 cases y with
 |non=>cases r;rfl
 |bl b=>cases r;rfl
 |int i=>obtain⟨t,rfl⟩:=r;rfl
 |str z=>obtain⟨t,rfl⟩:=r;rfl
 |_=>exact absurd (show false=true from f) HG
theorem sj {A:Around}{s:Hl}{x:V}{v:Value}(rx:a5 x v)(fx:kC x=true):∀{xs:List V} {us:List Value},aT xs us->xs.all kC=true->∀u∈us,SeqAt.EqAt A s u v (eqU x u)
 |_,_,.nil,_=>λu hu=>by cases hu
 |y :: xs,u :: us,.cons r t,f=>λu' hu=>by
  rw[List.all_cons,Hu]at f
  rcases Hq.mp hu with rfl|hu
  ·rw[uN r f.1];exact CB r rx f.1 fx
  ·exact sj rx fx t f.2 u' hu
theorem aR:kK X (.builtin "len") (λxs H Q=>∃p ys,xs=[.ref p]/\(SqL X.K H p ys\/SqT X.K H p ys)/\Q (.int ys.length) H):=by
 intro pins s σ H xs us Q I r h
 obtain⟨p,ys,rfl,hq,q⟩:=h
 obtain⟨u,rfl,rx⟩:=yE r
 cases rx
 have hn:=qS
 rcases hq with hq|hq
 ·obtain⟨its,r',pl,hz⟩:=I.list hq
  have hlen:=r'.length
  exact Calls.call_len_list pl.isList (by simp only[HA]<;>lia) ⟨.int ys.length,H,I.tok _,⟨s.toks+1,by rw[HA,hlen]⟩,q⟩
 ·obtain⟨its,r',pl,hz⟩:=I.tuple hq
  have hlen:=r'.length
  exact len_tuple pl (by simp only[HA]<;>lia) ⟨.int ys.length,H,I.tok _,⟨s.toks+1,by rw[HA,hlen]⟩,q⟩
theorem rn:kK X (.type "list") (λxs H Q=>∃p ys,xs=[.ref p]/\(SqL X.K H p ys\/SqT X.K H p ys)/\∀l,H l=none->Q (.ref l) (upd H l (.lst ys))):=by
 intro pins s σ H xs us Q I r h
 obtain⟨p,ys,rfl,hq,q⟩:=h
 obtain⟨u,rfl,rx⟩:=yE r
 cases rx
 have fin:∀(its:List Value),aT ys its->ys.length<=Hr->∀(h':Heap) (c':Nat),(∀b o',s.heap.get? b=some o'->h'.get? b=some o') ->
   h'.get? s.heap.objs.size=some { cls:=.type "list",dict:=none,data:=.seq its.toArray c',slots:=#[] }->EP X pins σ Q (.ref s.heap.objs.size) { s with heap:=h' }:=λits r' hz h' c' kp e =>
  ⟨.ref s.heap.objs.size,_,I.laid (t':=s.toks) kp (nlr _) (show bY X.prog X.w _ h' _ (.lst ys) from⟨hz,its,c',r',e⟩),rfl,q _ (I.hok.fresh (nlr _))⟩
 rcases hq with hq|hq
 ·obtain⟨its,r',pl,hz⟩:=I.list hq
  have hlen:=r'.length
  obtain⟨o,ho,hc,n,hd⟩:=pl.isList
  exact call_list_seq p (.inl rfl) ho hc hd (λh' c' kp e=>fin its r' hz h' c' kp e) (by simp only[HA]<;>lia)
 ·obtain⟨its,r',pl,hz⟩:=I.tuple hq
  have hlen:=r'.length
  obtain⟨o,ho,hc,n,hd⟩:=pl
  exact call_list_seq p (.inr rfl) ho hc hd (λh' c' kp e=>fin its r' hz h' c' kp e) (by simp only[HA]<;>lia)
def tyV (K:IN)(T:String)(x:V)(H:Hp):Prop:=match x with
 |.str _=>T="str"
 |.int _=>T="int"
 |.ref p=>(T="list"/\∃xs,SqL K H p xs)\/(T="tuple"/\∃o,K.lookup p=some o/\o.cls=.type "tuple"/\o.dict=none) \/
   (T="dict"/\((∃kvs,H p=some (.dK kvs))\/∃kvs,H p=some (.dT kvs)))\/(T="set"/\∃S n,H p=some (.set S n))
 |_=>False
theorem zG {pins:List (Hm×Obj)}{σ:St}{H:Hp}{s:Hl}{T:String}{x:V}{v:Value}(I:Inv X pins σ H s)(r:a5 x v)(ty:tyV X.K T x H) :
  s.TypeIs v T/\∀a,v=.ref a->∃ob,s.heap.get? a=some ob/\ob.dict=none:=by
 cases x with
 |str z =>
  obtain⟨t,rfl⟩:=r
  cases (show T="str" from ty)
  exact⟨typeIs_str s z t,λ_ e=>nomatch e⟩
 |int i =>
  obtain⟨t,rfl⟩:=r
  cases (show T="int" from ty)
  exact⟨typeIs_int s i t,λ_ e=>nomatch e⟩
 |ref p =>
  cases r
  rcases ty with⟨rfl,xs,hq⟩|⟨rfl,o,hk,hc,hd⟩|⟨rfl,hk⟩|⟨rfl,S,n,hk⟩
  ·obtain⟨its,_,pl,_⟩:=I.list hq
   refine⟨pl.isList.typeIs,λa e=>?_⟩
   cases e
   obtain⟨o,n,e,c,hd,_⟩:=pl
   exact⟨o,e,hd⟩
  ·refine⟨⟨o,I.kIn p o hk,hc⟩,λa e=>?_⟩
   cases e
   exact⟨o,I.kIn _ o hk,hd⟩
  ·have z:∃o,s.heap.get? p=some o/\o.ExactDict:=by
    rcases hk with⟨kvs,hk⟩|⟨kvs,hk⟩
    ·obtain⟨_,_,_,_,o,_,_,e,ex,_⟩:=I.hok p _ hk
     exact⟨o,e,ex⟩
    ·obtain⟨_,_,_,_,o,_,_,e,ex,_⟩:=I.hok p _ hk
     exact⟨o,e,ex⟩
   obtain⟨o,e,ex⟩:=z
   refine⟨⟨o,e,ex.1⟩,λa e2=>?_⟩
   cases e2
   exact⟨o,e,ex.2.1⟩
  ·obtain⟨o,_,_,_,e,ex,_⟩:=I.hok p _ hk
   refine⟨⟨o,e,ex.1⟩,λa e2=>?_⟩
   cases e2
   exact⟨o,e,ex.2.1⟩
 |_=>exact Jm ty
def G1 (K:IN)(T:String)(r:V->List V->Hp->VK->Prop)(to:TE):TE:=λσ H Q=>to σ H λx H1=>tyV K T x H1/\r x [] H1 Q
def tBM (K:IN)(T:String)(r:V->List V->Hp->VK->Prop)(to:TE)(t:TA):TE:=λσ H Q=>to σ H λx H1=>tyV K T x H1/\t σ H1 λxs H2=>r x xs H2 Q
variable  {o e:Expr}{es:List Expr}{to:TE}{t:TA}{name:Str}{apos cpos:Pos}{T id:String}{r:V->List V->Hp->VK->Prop}
theorem Cz (pa:PlainAttrs T)(slot:Slot T name id) (hty:typeOf (.builtin id)=pure (.type "method_descriptor")) (hm:MtR X id r) (ho:PE X o to)
  (hbase:attributeBase o name X.env (KW o X.env)=KW o X.env:=by rfl) (hline:(apos.endLine==cpos.line)=true:=by rfl):PE X (.Call (.Attribute o name apos) [] [] cpos) (G1 X.K T r to):=by
 intro pins s σ H Q I h
 refine wpAny_Call_method0_late hbase hline (thn (ho pins s σ H _ I h) λv s1 ⟨x,H1,I1,r1,ty,q1⟩=>?_)
 obtain⟨h1,h2⟩:=zG I1 r1 ty
 exact⟨T,id,pa,slot,hty,h1,h2,Calls.callWith_builtin rfl (PySem.evalArgs_none (hm pins s1 σ H1 x [] v [] Q I1 r1 .nil q1))⟩
theorem kP (pa:PlainAttrs T)(slot:Slot T name id) (hty:typeOf (.builtin id)=pure (.type "method_descriptor")) (hm:MtR X id r) (ho:PE X o to) (ha:PA X (e :: es) t)
  (hbase:attributeBase o name X.env (KW o X.env)=KW o X.env:=by rfl)
  (hfew:((KQ cpos (Ii (e :: es) X.env)).all (λx=>!x.1)&&(backToKw cpos (KY [] X.env)).all (λx=>x.1.isSome)
   &&decide ((e :: es).length+([]:List Keyword).length+(if ([]:List Keyword).isEmpty then 0 else 1)<30))=true:=by rfl)
  (hline:(apos.endLine==cpos.line)=true:=by rfl) (hs:Ii (e :: es) X.env=(false,KW e X.env) :: Ii es X.env:=by rfl) (hplain:(KQ cpos (Ii es X.env)).any (·.1)=false:=by rfl) :
  PE X (.Call (.Attribute o name apos) (e :: es) [] cpos) (tBM X.K T r to t):=by
 intro pins s σ H Q I h
 refine wpAny_Call_method_late hbase hfew hline rfl (thn (ho pins s σ H _ I h) λv s1 ⟨x,H1,I1,r1,ty,q1⟩=>?_)
 obtain⟨h1,h2⟩:=zG I1 r1 ty
 refine⟨T,id,pa,slot,hty,h1,h2,?_⟩
 have hA:=ha cpos pins s1 σ H1 _ I1 q1
 rw[hs]at hA ⊢
 refine Calls.callWith_builtin (by show(false||(KQ cpos (Ii es X.env)).any (·.1))=false;rw[hplain]<;>rfl) (Calls.evalArgs_plain ?_)
 exact thn hA λus s2 ⟨vs,H2,I2,r2,q2⟩=>hm pins s2 σ H2 x vs v us Q I2 r1 r2 q2
end
end L2
namespace L2
open PySem PySem.Spec PyProof.Rows
def MtM (X:Cx)(id:String)(r:V->List V->Hp->VK->Prop):Prop :=
 ∀(pins:List (Hm×Obj)) (s:Hl) (σ:St) (H:Hp) (x:V) (xs:List V) (v:Value) (us:List Value) (Q:VK),Inv X pins σ H s->a5 x v->aT xs us->r x xs H Q ->
  Ig (Io X.prog X.w) X.A (call (.builtin id) (v :: us)) (EP X pins σ Q) X.xe s
theorem aT.one:∀{x:V} {us:List Value},aT [x] us->∃u,us=[u]/\a5 x u
 |_,_,.cons r .nil=>⟨_,rfl,r⟩
theorem aT.two:∀{x y:V} {us:List Value},aT [x,y] us->∃u v,us=[u,v]/\a5 x u/\a5 y v
 |_,_,_,.cons r (.cons q .nil)=>⟨_,_,rfl,r,q⟩
theorem aT.zero:∀{us:List Value},aT [] us->us=[]
 |_,.nil=>rfl
theorem aT.dropLast {xs:List V}{us:List Value}(h:aT xs us):aT xs.dropLast us.dropLast:=by
 induction h with
 |nil=>exact .nil
 |cons r t ih =>
  cases t with
  |nil=>exact .nil
  |cons q t'=>exact .cons r ih
theorem uJ {α:Type}(l:List α):l.eraseIdx (l.length-1)=l.dropLast:=by
 induction l with
 |nil=>rfl
 |cons a r ih =>
  cases r with
  |nil=>rfl
  |cons b r =>
   have e:(a :: b :: r).length-1=((b :: r).length-1)+1:=by
    have h1:(a :: b :: r).length=r.length+2:=rfl
    have h2:(b :: r).length=r.length+1:=rfl
    lia
   rw[e,List.eraseIdx_cons_succ,ih]
   all_goals rfl
section
variable  {X:Cx}{pins:List (Hm×Obj)}{σ:St}{H:Hp}{s:Hl}{l b:Hm}{xs ys zs:List V}
theorem Inv.lset {its its':List Value}{n:Nat}{f:Array Value->Array Value}{t':Nat}(I:Inv X pins σ H s)(hH:H l=some (.lst xs))
  (e:s.heap.get? l=some { cls:=.type "list",data:=.seq its.toArray n }) (hf:f its.toArray=its'.toArray) (hv:aT ys its') (hz:ys.length<=Hr) :
  Inv X pins σ (upd H l (.lst ys)) { s with heap:=s.heap.update l (JX f),toks:=t' }:=by
 have q:=PySem.IsL.update e f
 rw[hf]at q
 refine I.write (x:=l) (e:=l) (by rw[hH];exact trivial) (.inl rfl) (λb' u hb hu=>(JI s.heap (JX f) (Ie hb)).trans hu) ⟨_,q⟩ ?_
 exact⟨hz,its',_,hv,q⟩
theorem Inv.lnew {its:List Value}{t':Nat}(I:Inv X pins σ H s)(hv:aT ys its)(hz:ys.length<=Hr) :
  Inv X pins σ (upd H s.heap.objs.size (.lst ys)) { s with heap:=s.heap.push { cls:=.type "list",data:=.seq its.toArray },toks:=t' } :=
 I.laid (λ_ _ q=>Hy _ q) (nlr _) ⟨hz,its,0,hv,HR _ rfl⟩
theorem Inv.fresh (I:Inv X pins σ H s):H s.heap.objs.size=none:=I.hok.fresh (nlr _)
theorem Inv.lstM (I:Inv X pins σ H s)(hH:H l=some (.lst xs)):xs.length<=Hr/\∃(its:List Value) (n:Nat),aT xs its/\xs.length=its.length/\s.heap.get? l=some { cls:=.type "list",data:=.seq its.toArray n }:=by
 obtain⟨z,its,n,r,e⟩:=I.hok l _ hH
 exact⟨z,its,n,r,r.length,e⟩
theorem sL {n:Nat}(h:n<=Hr):LC n=false:=by
 unfold LC
 exact dqf (by lia)
end
section
variable  {X:Cx}
def A9:V->List V->Hp->VK->Prop:=λx vs H Q=>∃l xs y,x=.ref l/\vs=[y]/\H l=some (.lst xs)/\xs.length<Hr/\Q .non (upd H l (.lst (xs++[y])))
theorem hU:MtM X "list.append" A9:=by
 intro pins s σ H x vs v us Q I rx rv h
 obtain⟨l,xs,y,rfl,rfl,hH,hz,q⟩:=h
 cases rx
 obtain⟨u,rfl,ru⟩:=rv.one
 obtain⟨z,its,n,r,hl,e⟩:=I.lstM hH
 refine call_meets F.slot_list_append ⟨_,e,rfl⟩ F.entry_list_append (F.args_list_append_2 _ _) (PySem.list_append l its.toArray n u (by rw[HA];lia)) ⟨e,?_⟩
 refine⟨.non,_,I.lset (its':=its++[u]) hH e (by simp) (r.append (.cons ru .nil)) ?_,rfl,q⟩
 rw[Hn,K0]
 lia
def AN:V->List V->Hp->VK->Prop:=λx vs H Q=>∃l b xs zs,x=.ref l/\vs=[.ref b]/\H l=some (.lst xs)/\H b=some (.lst zs)/\xs.length+zs.length<=Hr/\Q .non (upd H l (.lst (xs++zs)))
theorem DR:MtM X "list.extend" AN:=by
 intro pins s σ H x vs v us Q I rx rv h
 obtain⟨l,b,xs,zs,rfl,rfl,hH,hB,hz,q⟩:=h
 cases rx
 obtain⟨u,rfl,ru⟩:=rv.one
 cases ru
 obtain⟨z,its,n,r,hl,e⟩:=I.lstM hH
 obtain⟨z2,its2,n2,r2,hl2,e2⟩:=I.lstM hB
 have hsz:its.toArray.size+its2.toArray.size<=Hr:=by rw[HA,HA];lia
 have hlong:¬(!its.toArray.isEmpty&&LC (its.toArray.size+its2.toArray.size))=true:=by
  rw[sL hsz,Lq]
  exact HG
 refine call_meets F.slot_list_extend ⟨_,e,rfl⟩ F.entry_list_extend (F.args_list_extend_2 _ _)
  (AutoSeq1.list_extend_list_list_0 l its.toArray n b its2.toArray n2 hlong (by rw[HA];lia) (by lia)) ⟨e,e2,?_⟩
 refine⟨.non,_,I.lset (its':=its++its2) hH e (by simp) (r.append r2) ?_,rfl,q⟩
 rw[Hn]
 lia
def G6:V->List V->Hp->VK->Prop:=λx vs H Q=>∃l xs y,x=.ref l/\vs=[]/\H l=some (.lst xs)/\xs[xs.length-1]? = some y/\Q y (upd H l (.lst xs.dropLast))
theorem DC:MtM X "list.pop" G6:=by
 intro pins s σ H x vs v us Q I rx rv h
 obtain⟨l,xs,y,rfl,rfl,hH,hy,q⟩:=h
 cases rx
 have hus:=rv.zero
 subst hus
 obtain⟨z,its,n,r,hl,e⟩:=I.lstM hH
 obtain⟨u,hu,ru⟩:=r.get hy
 have hy':its.toArray[its.toArray.size-1]? = some u:=by
  show its.toArray[its.length-1]? = some u
  rw[<-Kp,<-hl]
  exact hu
 refine call_meets F.slot_list_pop ⟨_,e,rfl⟩ F.entry_list_pop (F.args_list_pop_1 _) (MeetsSeq.list_pop_last l its.toArray n u hy' (by rw[HA];lia)) ⟨e,?_⟩
 refine⟨y,_,I.lset (its':=its.dropLast) hH e ?_ r.dropLast ?_,ru,q⟩
 ·show its.toArray.eraseIdxIfInBounds (its.toArray.size-1)=its.dropLast.toArray
  rw[HA,List.eraseIdxIfInBounds_toArray,uJ]
 ·rw[List.length_dropLast]
  lia
def GV:R2:=λx y H Q=>∃l b xs zs,x=.ref l/\y=.ref b/\H l=some (.lst xs)/\H b=some (.lst zs)/\xs.length+zs.length<=Hr/\∀p,H p=none->Q (.ref p) (upd H p (.lst (xs++zs)))
theorem ya:OpR X (binaryOp .Add) GV:=by
 intro pins s σ H x y v u Q I rx ry h
 obtain⟨l,b,xs,zs,rfl,rfl,hH,hB,hz,q⟩:=h
 cases rx
 cases ry
 obtain⟨z,its,n,r,hl,e⟩:=I.lstM hH
 obtain⟨z2,its2,n2,r2,hl2,e2⟩:=I.lstM hB
 refine PySem.P.add_list e e2 ?_ (by rw[HA,HA];lia)
 have ea:its.toArray++its2.toArray=(its++its2).toArray:=by simp
 rw[ea]
 exact⟨.ref _,_,I.lnew (t':=s.toks) (r.append r2) (by rw[Hn];lia),rfl,q _ I.fresh⟩
end
section
variable  {prog:Ih}{w:I0}{A:Around}{E:Value->Hl->Prop}{s:Hl}
end
section
variable  {X:Cx}
end
end L2
namespace L2
open PySem PySem.Spec PyProof.Rows
theorem aT.ints:∀{ns:List Int} {us:List Value},aT (ns.map V.int) us->IntsAre us ns
 |[],us,h=>by
  rw[LB]at h
  cases h
  exact IntsAre.nil
 |n :: ns,us,h=>by
  rw[HN]at h
  cases h with
  |cons r t =>
   obtain⟨k,rfl⟩:=r
   exact IntsAre.cons n k (aT.ints t)
theorem aT.bls:∀{bs:List Bool} {us:List Value},aT (bs.map V.bl) us->us=bs.map Value.bool
 |[],us,h=>by
  rw[LB]at h
  cases h
  rfl
 |b :: bs,us,h=>by
  rw[HN]at h
  cases h with
  |cons r t =>
   cases r
   rw[aT.bls t,HN]
theorem aT.ref1 {a:Hm}{us:List Value}(r:aT [V.ref a] us):us=[HY a]:=by
 cases r with
 |cons r t =>
  cases t
  cases r
  rfl
section
variable  {prog:Ih}{w:I0}{A:Around}{E:Value->Hl->Prop}{s:Hl}{l:Hm}{its:List Value}{ns:List Int}{Q:Value->Hl->Prop}
theorem A5 (hh:A.handled=none)(hl:s.heap.IsList l its.toArray)(hi:IntsAre its ns)
  (h:∀h' tk t',(∀b o,s.heap.get? b=some o->h'.get? b=some o)->Q (.int ns.sum t') { s with heap:=h',toks:=tk }):Ig (Io prog w) A (call (.builtin "sum") [.ref l]) Q E s:=by
 obtain⟨xs,e⟩:=hi.allInts.items
 have hn:numsOf (intItems xs).toList=ns:=by rw[<-e];exact hi.numsOf
 rw[nums_intItems]at hn
 rw[e]at hl
 refine PySem.sum_intListG hh hl λh' tk t' hk=>?_
 have:=h h' tk t' hk
 rw[preSum_eq,IR (by simp),hn];exact this
end
section
variable  {X:Cx}
def Gr (K:IN):List V->Hp->VK->Prop:=λvs H Q=>∃(a:Hm) (ns:List Int),vs=[V.ref a]/\SqL K H a (ns.map V.int)/\Q (.int ns.sum) H
theorem Dq (hc:X.calm=true):kK X (.builtin "sum") (Gr X.K):=by
 intro pins s σ H vs us Q I r h
 obtain⟨a,ns,rfl,hs,q⟩:=h
 obtain⟨its,rv,hl,_⟩:=I.list hs
 rw[aT.ref1 r]
 exact A5 (I.ok.hd hc) hl.isList rv.ints λh' tk t' hk=>⟨.int _,H,I.kept hk,⟨_,rfl⟩,q⟩
end
section
variable  {X:Cx}
def CJ (K:IN):V->List V->Hp->VK->Prop:=λx xs H Q=>∃(a:Hm) (ys:List V) (y:V) (j:Nat) (z:V),x=V.ref a/\xs=[y]/\SqL K H a ys/\kC y=true/\ys.all kC=true/\ys[j]? = some z/\eqV z y=true /\
 (∀(m:Nat) (z':V),m<j->ys[m]? = some z'->eqV z' y=false)/\Q (.int (j:Nat)) H
theorem wb {ys:List V}(f:ys.all kC=true){j:Nat}{z:V}(h:ys[j]? = some z):kC z=true:=IL.mp f z (Ic h)
theorem yD:MtR X "list.index" (CJ X.K):=by
 intro pins s σ H x xs v us Q I rx rxs h
 obtain⟨a,ys,y,j,z,rfl,rfl,hs,fy,fys,hz,hzj,hno,q⟩:=h
 cases rx
 cases rxs with
 |cons ry rt =>
  rename_i uy ut
  cases rt
  obtain⟨its,rv,⟨⟨cls,dd,data,sl⟩,n,ho,hc,hdn,hd⟩,hlen⟩:=I.list hs
  simp only at hc hd
  subst hc hd
  obtain⟨u,hu,ru⟩:=rv.get hz
  obtain⟨hjl,hje⟩:=gsi hu
  have hvl:=rv.length
  have hj:j<its.toArray.size:=by simpa using hjl
  have hsl:=sizeLine_eq
  refine call_meets PySem.F.slot_list_index ⟨_,ho,rfl⟩ PySem.F.entry_list_index (PySem.F.args_list_index_2 _ _)
   (SeqAt.list_indexAt a its.toArray n dd sl uy (eqU y) j hj (by lia) ?_ ?_) ⟨ho,λu' hu'=>sj ry fy rv fys u' (by simpa using hu'),?_⟩
  ·have e1:its.toArray[j]=u:=by simpa using hje
   rw[e1,uN ru (wb fys hz)]
   exact hzj
  ·intro m hm hmj
   have hml:m<its.length:=by simpa using hm
   have hmy:m<ys.length:=by lia
   have hy':ys[m]? = some ys[m]:=gge hmy
   obtain⟨u2,hu2,ru2⟩:=rv.get hy'
   obtain⟨_,hme⟩:=gsi hu2
   have e1:its.toArray[m]=u2:=by simpa using hme
   rw[e1,uN ru2 (wb fys hy')]
   exact hno m _ hmj hy'
  ·exact⟨.int (j:Nat),H,I.tok _,⟨_,rfl⟩,q⟩
end
section
variable  {X:Cx}
end
section
variable  {X:Cx}
end
mutual
inductive Dp (K:IN)(H:Hp):V->PyData->Prop
 |non:Dp K H .non .none
 |bl (b:Bool):Dp K H (.bl b) (.bool b)
 |int (i:Int):Dp K H (.int i) (.int i)
 |str (x:Str):Dp K H (.str x) (.str x)
 |lst {a:Hm} {xs:List V} {ds:List PyData}:SqL K H a xs->mq K H xs ds->Dp K H (.ref a) (.list ds)
 |tup {a:Hm} {xs:List V} {ds:List PyData}:SqT K H a xs->mq K H xs ds->Dp K H (.ref a) (.tuple ds)
inductive mq (K:IN)(H:Hp):List V->List PyData->Prop
 |nil:mq K H [] []
 |cons {v:V} {vs:List V} {d:PyData} {ds:List PyData}:Dp K H v d->mq K H vs ds->mq K H (v :: vs) (d :: ds)
end
section
variable  {X:Cx}{pins:List (Hm×Obj)}{σ:St}{H:Hp}{s:Hl}
mutual
theorem Dp.reads (I:Inv X pins σ H s):∀(d:PyData) (v:V) (u:Value),Dp X.K H v d->a5 v u->∃as,Reads s.heap u d as
 |.none,_,_,h,r=>by
  cases h
  cases r
  exact⟨_,Reads.none⟩
 |.bool b,_,_,h,r=>by
  cases h
  cases r
  exact⟨_,Reads.bool b⟩
 |.int i,_,_,h,r=>by
  cases h
  obtain⟨t,rfl⟩:=r
  exact⟨_,Reads.int i t⟩
 |.str x,_,_,h,r=>by
  cases h
  obtain⟨t,rfl⟩:=r
  exact⟨_,Reads.str x t⟩
 |.list ds,_,_,h,r=>by
  cases h with
  |lst hs ha =>
   cases r
   obtain⟨its,rv,⟨o,n,ho,hc,_,hd⟩,_⟩:=I.list hs
   obtain⟨as,hr⟩:=Dp.readsAll I ds _ its ha rv
   exact⟨_,Reads.list ho hc hd hr⟩
 |.tuple ds,_,_,h,r=>by
  cases h with
  |tup hs ha =>
   cases r
   obtain⟨its,rv,⟨o,ho,hc,n,hd⟩,_⟩:=I.tuple hs
   obtain⟨as,hr⟩:=Dp.readsAll I ds _ its ha rv
   exact⟨_,Reads.tuple ho hc hd hr⟩
 |.dict _,_,_,h,_=>by cases h
theorem Dp.readsAll (I:Inv X pins σ H s):∀(ds:List PyData) (vs:List V) (us:List Value),mq X.K H vs ds->aT vs us->∃as,ReadsAll s.heap us ds as
 |[],_,_,h,r=>by
  cases h
  cases r
  exact⟨_,ReadsAll.nil⟩
 |d :: ds,_,_,h,r=>by
  cases h with
  |cons h1 h2 =>
   cases r with
   |cons r1 r2 =>
    obtain⟨as,q1⟩:=Dp.reads I d _ _ h1 r1
    obtain⟨bs,q2⟩:=Dp.readsAll I ds _ _ h2 r2
    exact⟨_,ReadsAll.cons q1 q2⟩
end
end
section
variable  {X:Cx}
def G9 (K:IN):R2:=λx y H Q=>∃d e,Dp K H x d/\Dp K H y e/\SeqAt.shaped d=true/\SeqAt.shaped e=true/\Q (.bl (!PyData.eqv d e)) H
theorem DB (hu:X.A.units+64<cLine):OpR X (Je .NotEq) (G9 X.K):=by
 intro pins s σ H x y v u Q I rx ry h
 obtain⟨d,e,hd,he,sd,se,q⟩:=h
 obtain⟨as,r1⟩:=Dp.reads I d x v hd rx
 obtain⟨bs,r2⟩:=Dp.reads I e y u he ry
 exact SeqAt.compareNe_shaped r1 r2 sd se hu ⟨.bl _,H,I,rfl,q⟩
end
end L2
namespace L2
open PySem PySem.Spec PyProof.Rows
abbrev xM (h:Heap)(c:Hm)(v:Option Value):Prop:=h.IsCell c v
def Hf (scope sc:Scope):Scope :=
 { scope with names:=scope.names.map λ(n,k)=>if (k==.free&&sc.kind==.function&&sc.names.lookup n==some .cell) then (n,.cell) else (n,k) }
def bK (cells:List (Str×Hm)):List (Str×NameKind)->List (Str×Hm)->List (Str×Hm)
 |[],acc=>acc
 |(n,k) :: r,acc=>if k==.free then bK cells r ((n,(cells.lookup n).getD 0) :: acc) else bK cells r acc
theorem k7 (env:Env)(f:Str×NameKind->List (Str×Hm)->Sem (ForInStep (List (Str×Hm))))
  (hf:∀n k c,f (n,k) c=if k==.free then (do let a <-cellOf env n;pure (.yield ((n,a) :: c))) else pure (.yield c)) :
  ∀(names:List (Str×NameKind)) (acc:List (Str×Hm)),(∀y∈names,y.2=.free->∃c,env.cells.lookup y.1=some c)->forIn names acc f=pure (bK env.cells names acc)
 |[],acc,_=>by rw[List.forIn_nil];rfl
 |(n,k) :: r,acc,h=>by
  rw[List.forIn_cons,hf]
  have ih:=λacc=>k7 env f hf r acc λy hy=>h y (Ho _ hy)
  unfold bK
  by_cases hk:(k==NameKind.free)=true
  ·rw[Hz hk,Hz hk]
   obtain⟨c,hc⟩:=h (n,k) HD (by simpa using hk)
   have e:cellOf env n=pure c:=by unfold cellOf;rw[hc]
   rw[e]
   have e2:(env.cells.lookup n).getD 0=c:=by rw[hc];rfl
   rw[e2]
   exact ih _
  ·rw[Hs hk,Hs hk]
   exact ih _
theorem uA {scope:Scope}{env:Env}(h:∀y∈scope.names,y.2=.free->∃c,env.cells.lookup y.1=some c):closureFor scope env=pure (bK env.cells scope.names []):=by
 simp only[closureFor]
 rw[k7 env _ (λn k c=>rfl) scope.names [] h]
 rfl
theorem jS {α:Type}:∀{l:List (Str×α)} {n:Str} {c:α},(n,c)∈l->∃c',l.lookup n=some c'
 |(k,v) :: r,n,c,h=>by
  rw[J1]
  cases hb:n==k with
  |true=>exact⟨_,rfl⟩
  |false =>
   rcases Hq.mp h with e|h
   ·cases e;simp at hb
   ·exact jS h
theorem gN {cells:List (Str×Hm)}:∀{names:List (Str×NameKind)} {acc:List (Str×Hm)} {n:Str} {c:Hm},(n,c)∈bK cells names acc->(n,c)∈acc\/((n,.free)∈names/\c=(cells.lookup n).getD 0)
 |[],_,_,_,h=>.inl h
 |(m,k) :: r,acc,n,c,h=>by
  unfold bK at h
  split at h
  ·rename_i hk
   have hk:k=.free:=by simpa using hk
   rcases gN h with h|⟨h1,h2⟩
   ·rcases Hq.mp h with e|h
    ·cases e;exact .inr ⟨hk▸HD,rfl⟩
    ·exact .inl h
   ·exact .inr ⟨Ho _ h1,h2⟩
  ·rcases gN h with h|⟨h1,h2⟩
   ·exact .inl h
   ·exact .inr ⟨Ho _ h1,h2⟩
theorem jw {cells:List (Str×Hm)}:∀{names:List (Str×NameKind)} {acc:List (Str×Hm)} {p:Str×Hm},p∈acc->p∈bK cells names acc
 |[],_,_,h=>h
 |(m,k) :: r,acc,p,h=>by
  unfold bK
  split
  ·exact jw (Ho _ h)
  ·exact jw h
theorem i9 {cells:List (Str×Hm)}:∀{names:List (Str×NameKind)} {acc:List (Str×Hm)} {n:Str},(n,.free)∈names->(n,(cells.lookup n).getD 0)∈bK cells names acc
 |(m,k) :: r,acc,n,h=>by
  unfold bK
  rcases Hq.mp h with e|h
  ·cases e
   exact jw HD
  ·split
   ·exact i9 h
   ·exact i9 h
theorem iu:∀{names:List (Str×NameKind)} {h:Heap} {acc:List (Str×Hm)} {x:Str} {c:Hm},(x,c)∈Jx h.objs.size names acc ->
  (x,c)∈acc\/((x,.cell)∈names/\h.objs.size<=c/\xM (pushCells h names) c none)
 |[],_,_,_,_,h=>.inl h
 |(n,k) :: r,h,acc,x,c,hm=>by
  unfold Jx at hm
  unfold pushCells
  split at hm
  ·rename_i hk
   rw[Hz hk]
   have hk:k=.cell:=by simpa using hk
   rw[<-Jc h { cls:=.type "cell",data:=.cell none }]at hm
   rcases iu hm with hm|⟨h1,h2,h3⟩
   ·rcases Hq.mp hm with e|hm
    ·cases e
     exact .inr ⟨hk▸HD,nlr _,_,pushCells_keeps r _ _ _ (HR _ rfl),rfl⟩
    ·exact .inl hm
   ·rw[Jc]at h2
    exact .inr ⟨Ho _ h1,Nat.le_of_succ_le h2,h3⟩
  ·rename_i hk
   rw[Hs hk]
   rcases iu hm with hm|⟨h1,h2,h3⟩
   ·exact .inl hm
   ·exact .inr ⟨Ho _ h1,h2,h3⟩
theorem jB:∀{names:List (Str×NameKind)} {n:Nat} {acc:List (Str×Hm)} {p:Str×Hm},p∈acc->p∈Jx n names acc
 |[],_,_,_,h=>h
 |(m,k) :: r,n,acc,p,h=>by
  unfold Jx
  split
  ·exact jB (Ho _ h)
  ·exact jB h
theorem lJ:∀{names:List (Str×NameKind)} {n:Nat} {acc:List (Str×Hm)} {x:Str},(x,.cell)∈names->∃c,(x,c)∈Jx n names acc
 |(m,k) :: r,n,acc,x,h=>by
  unfold Jx
  rcases Hq.mp h with e|h
  ·cases e
   exact⟨n,jB HD⟩
  ·split
   ·exact lJ h
   ·exact lJ h
theorem lE:∀{names:List (Str×NameKind)} {h:Heap} {acc:List (Str×Hm)} {x y:Str} {c:Hm},(∀p∈acc,p.2<h.objs.size)->(∀x y c,(x,c)∈acc->(y,c)∈acc->x=y) ->
  (x,c)∈Jx h.objs.size names acc->(y,c)∈Jx h.objs.size names acc->x=y
 |[],_,_,_,_,_,_,hi,h1,h2=>hi _ _ _ h1 h2
 |(n,k) :: r,h,acc,x,y,c,hl,hi,h1,h2=>by
  unfold Jx at h1 h2
  split at h1
  ·rename_i hk
   rw[Hz hk]at h2
   rw[<-Jc h { cls:=.type "cell",data:=.cell none }]at h1 h2
   refine lE (h:=h.push _) (λp hp=>?_) (λx y c a b=>?_) h1 h2
   ·rw[Jc]
    rcases Hq.mp hp with rfl|hp
    ·exact Nat.lt_succ_self _
    ·exact KC (hl p hp)
   ·rcases Hq.mp a with e|a<;>rcases Hq.mp b with e'|b
    ·cases e;cases e';rfl
    ·cases e;exact absurd (hl _ b) (Js _)
    ·cases e';exact absurd (hl _ a) (Js _)
    ·exact hi _ _ _ a b
  ·rename_i hk
   rw[Hs hk]at h2
   exact lE hl hi h1 h2
theorem sG {M:Model}{A:Around}{E:Value->Hl->Prop}{s:Hl}{scope:Scope}{globals:Hm}{closure:List (Str×Hm)}{qual:Str}{func:Option Hm}{code:Value}{around:Env}{builtins:Hm}{Q:Env->Hl->Prop}
  (h:Q (newEnv scope s.heap.objs.size globals (Jx (s.heap.objs.size+1) scope.names closure) qual func code (some around) builtins)
   { s with heap:=pushCells (s.heap.push { cls:=.type "dict",data:=.dict #[] }) scope.names }) :
  Ig M A (newFunctionEnv scope globals closure [] qual func code (some around) builtins) Q E s:=by
 simp only[newFunctionEnv,Option.isSome_some,if_true]
 refine Hj (wpAny_alloc ?_)
 refine Hj (wpAny_layCells _ (λn k c=>rfl) scope.names closure _ _ ?_)
 rw[show({ s with heap:=s.heap.push { cls:=.type "dict",data:=.dict #[] } }:Hl).heap.objs.size=s.heap.objs.size+1 from Jc ..]
 rw[List.forIn_nil]
 exact Hj (HL (HL h))
theorem jg {sc:Scope}:∀{names:List (Str×NameKind)} {x:Str} {k:NameKind},
  (names.map λ(n,k)=>if (k==NameKind.free&&sc.kind==.function&&sc.names.lookup n==some .cell) then (n,NameKind.cell) else (n,k)).lookup x=some k ->
  ∃k',names.lookup x=some k'/\(k=k'\/(k'=.free/\k=.cell))
 |[],_,_,h=>by simp at h
 |(n,k₀) :: r,x,k,h=>by
  have ih:=@jg sc r x k
  have h':Lx x ((if (k₀==NameKind.free&&sc.kind==.function&&sc.names.lookup n==some .cell)=true then (n,NameKind.cell) else (n,k₀)) :: (r.map _))=some k:=h
  cases hx:x==n with
  |true =>
   simp only[J1,hx]
   by_cases hc:(k₀==NameKind.free&&sc.kind==.function&&sc.names.lookup n==some .cell)=true
   ·rw[Hz hc]at h'
    simp only[J1,hx]at h'
    cases h'
    simp only[Hu,JW]at hc
    exact⟨k₀,rfl,.inr ⟨hc.1.1,rfl⟩⟩
   ·rw[Hs hc]at h'
    simp only[J1,hx]at h'
    cases h'
    exact⟨_,rfl,.inl rfl⟩
  |false =>
   simp only[J1,hx]
   by_cases hc:(k₀==NameKind.free&&sc.kind==.function&&sc.names.lookup n==some .cell)=true
   ·rw[Hz hc]at h'
    simp only[J1,hx]at h'
    exact ih h'
   ·rw[Hs hc]at h'
    simp only[J1,hx]at h'
    exact ih h'
structure si (N:List Str)(sc scope:Scope)(own:List (Str×Nat)):Prop where
 kind:scope.kind=.function
 uniq:∀y∈scope.names,scope.names.lookup y.1=some y.2
 ix:∀p∈own,N[p.2]? = some p.1
 free:∀y∈scope.names,y.2=.free->sc.names.lookup y.1=some .cell\/sc.names.lookup y.1=some .free
 own:∀y∈scope.names,y.2=.local\/y.2=.cell->y.1∈own.map (·.1)\/y.1∉N
def b7 (σ:St):List Nat->St
 |[]=>σ
 |v :: vs=>(b7 σ vs).set v none
theorem jb (σ:St):∀vs:List Nat,(b7 σ vs).length=σ.length
 |[]=>rfl
 |v :: vs=>by unfold b7;rw[List.length_set,jb σ vs]
theorem lN {σ:St}{i:Nat}{x:V}:∀{vs:List Nat},(b7 σ vs)[i]? = some (some x)->σ[i]? = some (some x)/\i∉vs
 |[],h=>⟨h,by simp⟩
 |v :: vs,h=>by
  unfold b7 at h
  by_cases hi:v=i
  ·subst hi
   by_cases hv:v<(b7 σ vs).length
   ·rw[KP hv]at h;cases h
   ·rw[K1 (by simpa using hv)]at h;cases h
  ·rw[J6 hi]at h
   obtain⟨h1,h2⟩:=lN h
   exact⟨h1,by simp only[Hq,not_or];exact⟨λe=>hi e.symm,h2⟩⟩
abbrev Cx.blk (X:Cx)(s:Hl)(H:Hp)(scope:Scope)(cenv:Env)(fp:List Hm):Cx:={ X with s_0:=s,H_0:=H,env:=cenv,outer:=X.stack,ex:=fp,fn:=λx=>scope.names.lookup x==some .cell,pn:=[],xe:=λ_ _=>False }
section
variable  {X:Cx}{pins:List (Hm×Obj)}{σ:St}{H:Hp}{s:Hl}
theorem sP {scope:Scope}{own:List (Str×Nat)}{fp:List Hm}(I:Inv X pins σ H s)(ok:si X.N X.env.scope scope own)(hN:X.N.Nodup)(hfp:∀b∈fp,mI X pins H b/\b<s.heap.objs.size) :
  Inv (X.blk s H scope (Lu scope (Jx (s.heap.objs.size+1) scope.names (bK X.env.cells scope.names [])) s.heap.objs.size X.env) fp) [] (b7 σ (own.map (·.2))) H { s with heap:=pushCells (s.heap.push { cls:=.type "dict",data:=.dict #[] }) scope.names }:=by
 have hfree:∀y∈scope.names,y.2=.free->∃c,X.env.cells.lookup y.1=some c:=λy hy e=>by
  rcases ok.free y hy e with k|k
  ·exact I.ok.has _ (.inl k)
  ·exact I.ok.has _ (.inr k)
 generalize hcenv:Lu scope (Jx (s.heap.objs.size+1) scope.names (bK X.env.cells scope.names [])) s.heap.objs.size X.env=cenv
 have kp:∀b o,s.heap.get? b=some o->(pushCells (s.heap.push { cls:=.type "dict",data:=.dict #[] }) scope.names).get? b=some o:=λb o e=>pushCells_keeps _ _ _ _ (Hy _ e)
 have hL:cenv.locals=s.heap.objs.size:=by rw[<-hcenv];rfl
 have hcl:cenv.cells=Jx (s.heap.objs.size+1) scope.names (bK X.env.cells scope.names []):=by rw[<-hcenv];rfl
 have hsc:cenv.scope=Hf scope X.env.scope:=by rw[<-hcenv];rfl
 rw[<-Jc s.heap { cls:=.type "dict",data:=.dict #[] }]at hcl
 have cm:∀{y c},(y,c)∈bK X.env.cells scope.names []->X.env.cells.lookup y=some c/\c<s.heap.objs.size:=λ{y c} hm=>by
  rcases gN hm with hm|⟨h1,rfl⟩
  ·cases hm
  ·obtain⟨c,hc⟩:=hfree _ h1 rfl
   rw[hc]
   obtain⟨w,z⟩:=I.cell _ _ hc
   exact⟨rfl,z.lt⟩
 have mem:∀{y c},cenv.cells.lookup y=some c->(X.env.cells.lookup y=some c/\c<s.heap.objs.size)\/(s.heap.objs.size+1<=c/\xM (pushCells (s.heap.push { cls:=.type "dict",data:=.dict #[] }) scope.names) c none):=λ{y c} e=>by
  rw[hcl]at e
  rcases iu (Ir e) with hm|⟨_,h2,h3⟩
  ·exact .inl (cm hm)
  ·rw[Jc]at h2;exact .inr ⟨h2,h3⟩
 have look:∀{y},scope.names.lookup y=some .free->∃c,cenv.cells.lookup y=some c/\X.env.cells.lookup y=some c:=λ{y} hl=>by
  have hy:(y,NameKind.free)∈scope.names:=Ir hl
  obtain⟨c',e'⟩:=jS (jB (names:=scope.names) (n:=(s.heap.push { cls:=.type "dict",data:=.dict #[] }).objs.size) (i9 (cells:=X.env.cells) (acc:=[]) hy))
  rw[<-hcl]at e'
  refine⟨c',e',?_⟩
  rw[hcl]at e'
  rcases iu (Ir e') with hm|⟨h1,_,_⟩
  ·exact(cm hm).1
  ·have:=ok.uniq _ h1
   rw[hl]at this;cases this
 have okB:(X.blk s H scope cenv fp).Ok:=by
  refine⟨I.ok.mod,by show cenv.scope.kind=_;rw[hsc];exact ok.kind,by show cenv.globals=_;rw[<-hcenv];exact I.ok.glob,by show cenv.builtins=_;rw[<-hcenv];exact I.ok.blt,by show s.heap.objs.size<=cenv.locals;rw[hL];exact nlr _,
   λy z c e1 e2=>?_,λy hy=>?_,λy c z e=>?_,I.ok.hd,I.ok.frames,.inl rfl,λb hb=>⟨?_,λy c e z=>?_⟩,I.bs,Ik I.ok.bsz I.sz,λb o e hb=>?_,λb hb z=>?_,I.stack,I.stkFree⟩
  ·have e1:cenv.cells.lookup y=some c:=e1
   have e2:cenv.cells.lookup z=some c:=e2
   rw[hcl]at e1 e2
   refine lE (λp hp=>?_) (λy z c a b=>I.ok.inj y z c (cm a).1 (cm b).1) (Ir e1) (Ir e2)
   rw[Jc]
   exact KC (cm (y:=p.1) (c:=p.2) hp).2
  ·show ∃c,cenv.cells.lookup y=some c
   have key:∀k,cenv.kindOf y=some k->(k=.cell\/k=.free)->∃c,cenv.cells.lookup y=some c:=λk hk hk'=>by
    unfold Env.kindOf at hk
    rw[hsc]at hk
    obtain⟨k',e,r⟩:=jg hk
    have:k'=.cell\/k'=.free:=by
     rcases r with rfl|⟨rfl,_⟩
     ·exact hk'
     ·exact .inr rfl
    rcases this with rfl|rfl
    ·obtain⟨c,hm⟩:=lJ (n:=(s.heap.push { cls:=.type "dict",data:=.dict #[] }).objs.size) (acc:=bK X.env.cells scope.names []) (Ir e)
     obtain⟨c',e'⟩:=jS hm
     exact⟨c',by rw[hcl];exact e'⟩
    ·obtain⟨c,h1,_⟩:=look e
     exact⟨c,h1⟩
   rcases hy with hy|hy
   ·exact key _ hy (.inl rfl)
   ·exact key _ hy (.inr rfl)
  ·have z:(scope.names.lookup y==some NameKind.cell)=true:=z
   have z:scope.names.lookup y=some .cell:=by simpa using z
   have e:cenv.cells.lookup y=some c:=e
   rw[hcl]at e
   rcases iu (Ir e) with hm|⟨_,h2,_⟩
   ·rcases gN hm with hm|⟨h1,_⟩
    ·cases hm
    ·have q:=ok.uniq _ h1
     rw[z]at q;cases q
   ·rw[Jc]at h2
    exact Nat.le_of_succ_le h2
  ·show b≠cenv.locals
   rw[hL];exact Ij (hfp b hb).2
  ·have e:cenv.cells.lookup y=some c:=e
   rcases mem e with⟨h1,_⟩|⟨h1,_⟩
   ·exact(hfp b hb).1.2.2.2.2.1 y c h1 z
   ·have h2:s.heap.objs.size+1<=b:=by rw[<-z];exact h1
    exact absurd (HV (hfp b hb).2 (Nat.le_of_succ_le h2)) (Js _)
  ·rcases(hfp b hb).1.2.2.2.1 with z|z
   ·exact I.ok.noex b o e z
   ·exact absurd (HV (HB e) (Ik I.ok.bsz z)) (Js _)
  ·rcases Hq.mp (I.stkSub b z) with z|z
   ·exact(hfp b hb).1.2.1 z
   ·exact(hfp b hb).1.2.2.1 z
 refine⟨okB,rfl,I.bare,Un.kept kp,⟨λ_=>none,?_,λi y av e1 e2 e3=>?_⟩,λy c e=>?_,?_,λy c e=>?_,λp hp=>?_,I.hok.kept kp,by rw[jb];exact I.len⟩
 ·show Heap.Ns _ cenv.locals _
  rw[hL]
  exact Heap.Ns.keeps (Heap.Ns.new ..) λb o e=>pushCells_keeps _ _ _ _ e
 ·obtain⟨e2,hne⟩:=lN e2
  have hfr:scope.names.lookup y=some .free/\(cenv.kindOf y=some .cell\/cenv.kindOf y=some .free):=by
   have key:∀k,cenv.scope.names.lookup y=some k->k=.local\/k=.cell\/k=.free->scope.names.lookup y=some .free/\(cenv.kindOf y=some .cell\/cenv.kindOf y=some .free):=λk hk hk'=>by
    have hk0:=hk
    rw[hsc]at hk
    obtain⟨k',e,r⟩:=jg hk
    have no:¬(k'=.local\/k'=.cell):=λhh=>by
     rcases ok.own _ (Ir e) hh with e'|e'
     ·obtain⟨p,hp,hpy⟩:=HM.mp e'
      have e3:=ok.ix p hp
      have:p.1=y:=hpy
      rw[this]at e3
      exact hne (HM.mpr ⟨p,hp,nQ hN e3 e1⟩)
     ·exact e' (Ic e1)
    rcases r with rfl|⟨rfl,rfl⟩
    ·rcases hk' with rfl|rfl|rfl
     ·exact absurd (.inl rfl) no
     ·exact absurd (.inr rfl) no
     ·exact⟨e,.inr hk0⟩
    ·exact⟨e,.inl hk0⟩
   have e3:Vis cenv.scope y:=e3
   rcases e3 with e3|e3|e3
   ·exact key _ e3 (.inl rfl)
   ·exact key _ e3 (.inr (.inl rfl))
   ·exact key _ e3 (.inr (.inr rfl))
  obtain⟨m,hn,hl⟩:=I.loc
  have hvis:Vis X.env.scope y:=(ok.free _ (Ir hfr.1) rfl).elim (λk=>.inr (.inl k)) (λk=>.inr (.inr k))
  obtain⟨w,r,q⟩:=hl i y av e1 e2 hvis
  refine⟨w,r,.inr ⟨hfr.2,?_⟩⟩
  obtain⟨c,h1,h2⟩:=look hfr.1
  rcases q with⟨k,_⟩|⟨_,c',e',z⟩
  ·have k:X.env.scope.names.lookup y=some .local:=k
   rcases ok.free _ (Ir hfr.1) rfl with k'|k'<;>rw[show X.env.scope.names.lookup y=_ from k']at k<;>cases k
  ·rw[h2]at e';cases e'
   exact⟨c,h1,z.keeps kp⟩
 ·have e:cenv.cells.lookup y=some c:=e
  rcases mem e with⟨h1,_⟩|⟨_,z⟩
  ·obtain⟨w,z⟩:=I.cell y c h1
   exact⟨w,z.keeps kp⟩
  ·exact⟨_,z⟩
 ·show H cenv.locals=none
  rw[hL];exact I.hok.fresh (nlr _)
 ·have e:cenv.cells.lookup y=some c:=e
  rcases mem e with⟨h1,_⟩|⟨h1,_⟩
  ·exact I.freeC y c h1
  ·exact I.hok.fresh (Nat.le_of_succ_le h1)
 ·exact absurd (show p∈([]:List (Hm×Obj))++[] from hp) (by simp)
theorem DI {E:Value->Hl->Prop}{D:Hm}{xs:List V}{y:V}{v:Value}{Q:Value->Hl->Prop}(I:Inv X pins σ H s)(hD:H D=some (.lst xs))(hz:xs.length<Hr)(r:a5 y v)
  (h:∀s',Inv X pins σ (upd H D (.lst (xs++[y]))) s'->Q .none s'):Ig (Io X.prog X.w) X.A (call (.builtin "list.append") [.ref D,v]) Q E s:=by
 obtain⟨hz',its,n,ri,e⟩:=I.hok D _ hD
 have hl:=ri.length
 refine append_at (hsz:=by rw[HA];lia) e λh' sb ho'=>?_
 refine h { s with heap:=h' } (I.write (t':=s.toks) (by rw[hD];trivial) (.inl rfl) (λb u hb q=>(sb.2 b hb).trans q) ⟨_,ho'⟩ ⟨by rw[Hn];exact hz,its++[v],n+1,ri.append (.cons r .nil),?_⟩)
 rw[ho']
 simp
def PTs (X:Cx)(ifs:List Expr)(t:TT):Prop :=
 ∀(pins:List (Hm×Obj)) (s:Hl) (σ:St) (H:Hp) (Q:Bool->Hp->Prop),Inv X pins σ H s->t σ H Q ->
  Ig (Io X.prog X.w) X.A (forIn ifs true λc r=>if r=true then do let ok <-isTrue c X.env (KW c X.env);pure (ForInStep.yield ok) else pure (ForInStep.yield r)) (TP X pins σ Q) X.xe s
def E5:TT:=λ_ H Q=>Q true H
theorem ee:PTs X [] E5:=λ_ _ _ H _ I h=>wpAny_tests_nil ⟨H,I,h⟩
theorem iZ {c:Expr}{t:TT}(h:PT X c t):PTs X [c] t:=λpins s σ H Q I hw=>wpAny_tests_one (h pins s σ H Q I hw)
end
theorem xr {α:Type}{t:Sem α}{Q Q':α->Hl->Prop}{M:Model}{A:Around}{E:Value->Hl->Prop}{s:Hl}(h:Ig M A t Q (λ_ _=>False) s)(hQ:∀a s,Q a s->Q' a s):Ig M A t Q' E s:=Km h hQ λ_ _ z=>Jm z
theorem qY {prog:Ih}{w:I0}{A:Around}{R:Result->Hl->Prop}{s:Hl}{elt target iter:Expr}{ifs:List Expr}{scope:Scope}{pos:Pos}{it acc:Value}{env:Env}(I:Nat->Hl->Prop)
  (turn:∀n s,I n s->Ig (Io prog w) A (pyNext it) (λr s₁=>match r with
   |none=>R (.ok .next) s₁
   |some v=>Ig (Io prog w) A (letOwnedTupleGo target it v) (λ_ s₁'=>Ig (Io prog w) A (assign target env v) (λ_ s₂ =>
     Ig (Io prog w) A (forIn ifs true λc r=>if r=true then do let ok <-isTrue c env (KW c env);pure (ForInStep.yield ok) else pure (ForInStep.yield r)) (λok s₃ =>
      if ok=true then Ig (Io prog w) A (KW elt env) (λx s₄ =>
       Ig (Io prog w) A (call (.builtin "list.append") [acc,x]) (λ_ s₅=>∃m,m<n/\I m s₅) (notedBy (Io prog w) A env λe s'=>R (.error e) s') s₄) (notedBy (Io prog w) A env λe s'=>R (.error e) s') s₃
      else ∃m,m<n/\I m s₃) (notedBy (Io prog w) A env λe s'=>R (.error e) s') s₂) (notedBy (Io prog w) A env λe s'=>R (.error e) s') s₁') (notedBy (Io prog w) A env λe s'=>R (.error e) s') s₁) (notedBy (Io prog w) A env λe s'=>R (.error e) s') s)
  (n:Nat) (h:I n s) :
  codeAny (Io prog w) A (.compLoop (.ListComp elt [⟨target,iter,ifs,0⟩] scope pos) 0 it acc env) R s:=by
 refine codeAny_loop rfl I (λn s hI=>?_) n h
 show Ig _ A ((compTurn (.ListComp elt [⟨target,iter,ifs,0⟩] scope pos) 0 it acc env).onRaise (λx=>do noteFrame x env;theTreesLotGoes x)) _ _ s
 refine wpAny_noted ?_
 rw[compTurn_list]
 refine Hj (wpAny_standAt (Hj (Km (turn n s hI) (λr s₁ h₁=>?_) λ_ _ h'=>h')))
 cases r with
 |none=>exact HL h₁
 |some v =>
  refine Hj (Km h₁ (λ_ s₁' h₁'=>?_) λ_ _ h'=>h')
  refine Hj (Km h₁' (λ_ s₂ h₂=>Hj (Km h₂ (λok s₃ h₃=>?_) λ_ _ h'=>h')) λ_ _ h'=>h')
  cases ok with
  |false=>exact HL ⟨rfl,h₃⟩
  |true =>
   exact Hj (Hj (Km h₃ (λx s₄ h₄=>Hj (Km h₄ (λ_ s₅ h₅=>HL (HL ⟨rfl,h₅⟩)) λ_ _ h'=>h')) λ_ _ h'=>h'))
section
variable  {X:Cx}
def tLc (wi:TI)(g:TG)(tt:TT)(te:TE)(vs:List Nat):TE:=λσ H Q=>wi σ H λJ H1=>∀D,H1 D=none->∃W:Nat->Nat->Hp->Prop,(∃m,W 0 m (upd H1 D (.lst [])))/\∀i m H,W i m H ->
 (J.stop i H/\Q (.ref D) H)\/(J.go i H/\∃Nx:Hp->Prop,(∀H',Nx H'->∃m',m'<m/\W (i+1) m' H')/\∀x H',J.yld i H x H'->g x (b7 σ vs) H' λσ2 H2=>b7 σ2 vs=b7 σ vs/\tt σ2 H2 λb H3 =>
  if b=true then te σ2 H3 λy H4=>∃acc,H4 D=some (.lst acc)/\acc.length<Hr/\Nx (upd H4 D (.lst (acc++[y]))) else Nx H3)
theorem vS {pins:List (Hm×Obj)}{s:Hl}{σ:St}{H:Hp}{Q:VK}{elt tg iter:Expr}{ifs:List Expr}{scope:Scope}{own:List (Str×Nat)}{pos pos':Pos}{wi:TI}{g:TG}{tt:TT}{te:TE}{use:Option (Value->Sem Unit)}{Qf:Value->Hl->Prop}
  (hc:X.calm=true) (hN:X.N.Nodup) (I:Inv X pins σ H s) (hi:PI X tg iter wi) (ok:si X.N X.env.scope scope own)
  (hg:∀(s:Hl) (H:Hp) (C:Hm) (cl:List (Str×Hm)) (fp:List Hm),PG (X.blk s H scope (Lu scope cl C X.env) fp) tg g) (ht:∀(s:Hl) (H:Hp) (C:Hm) (cl:List (Str×Hm)) (fp:List Hm),PTs (X.blk s H scope (Lu scope cl C X.env) fp) ifs tt)
  (he:∀(s:Hl) (H:Hp) (C:Hm) (cl:List (Str×Hm)) (fp:List Hm),PE (X.blk s H scope (Lu scope cl C X.env) fp) elt te) (hs:∀x,foldedSetIterable iter X.env x=pure x)
  (h:tLc wi g tt te (own.map (·.2)) σ H Q)
  (hRR:∀D C s' m H',Inv X pins σ H' s'->Q (.ref D) H'->s'.heap.Ns C m->mI X pins H' C->compPost (Io X.prog X.w) X.A X.xe use Qf (.ref D) C (.ok .next) s') :
  Ig (Io X.prog X.w) X.A (comprehension (.ListComp elt [⟨tg,iter,ifs,0⟩] scope pos) scope X.env pos' (newList []) false (KW iter X.env) use) Qf X.xe s:=by
 have hfree:∀y∈scope.names,y.2=.free->∃c,X.env.cells.lookup y.1=some c:=λy hy e=>by
  rcases ok.free y hy e with k|k
  ·exact I.ok.has _ (.inl k)
  ·exact I.ok.has _ (.inr k)
 refine wpAny_comprehension_free (use:=use) rfl hs (uA hfree) ok.kind (λy hy e=>by rw[ok.uniq y hy,e])
  (thn (hi pins s σ H _ I h) λxv s1 hx=>thn hx λitv s2 h2=>?_)
 obtain⟨it,fp,tn,J,H2,e,I2,T,st2,f2,q⟩:=h2
 subst e
 refine wpAny_newObj_type (sG ?_) (by show 0<=Hr;decide)
 generalize hD:s2.heap.objs.size=D
 have hDn:H2 D=none:=I2.hok.fresh (Nat.le_of_eq hD)
 obtain⟨W,⟨m0,w0⟩,turn⟩:=q D hDn
 generalize hs3:({ s2 with heap:=s2.heap.push { cls:=.type "list",data:=.seq ([]:List Value).toArray } }:Hl)=s3
 have I3:Inv X pins σ (upd H2 D (.lst [])) s3:=by
  rw[<-hs3]
  refine I2.laid (t':=s2.toks) (λb o e=>Hy _ e) (Nat.le_of_eq hD) ⟨IH _,[],0,.nil,?_⟩
  rw[<-hD]
  exact HR _ rfl
 have h3:s3.heap=s2.heap.push { cls:=.type "list",data:=.seq ([]:List Value).toArray }:=by rw[<-hs3]
 have sz:∀b∈fp,b<s2.heap.objs.size:=λb hb=>by
  obtain⟨o,e,_⟩:=T.obj _ _ st2 b hb
  exact HB e
 have f3:∀b∈fp,mI X pins (upd H2 D (.lst [])) b/\b<s3.heap.objs.size:=λb hb=>by
  have hlt:=sz b hb
  refine⟨⟨?_,(f2 b hb).2⟩,by rw[h3,Jc];exact KC hlt⟩
  rw[ao (by rw[<-hD];exact Ij hlt)]
  exact(f2 b hb).1
 have st3:tn 0 s3.heap:=T.keep _ _ _ st2 λb _ o e=>by rw[h3];exact Hy _ e
 have I4:=sP I3 ok hN f3
 have pg:=hg s3 (upd H2 D (.lst [])) s3.heap.objs.size (Jx (s3.heap.objs.size+1) scope.names (bK X.env.cells scope.names [])) fp
 have pt:=ht s3 (upd H2 D (.lst [])) s3.heap.objs.size (Jx (s3.heap.objs.size+1) scope.names (bK X.env.cells scope.names [])) fp
 have pe:=he s3 (upd H2 D (.lst [])) s3.heap.objs.size (Jx (s3.heap.objs.size+1) scope.names (bK X.env.cells scope.names [])) fp
 show codeAny _ _ (.compStart (.ListComp elt [⟨tg,iter,ifs,0⟩] scope pos) 0 (.ref it) (.ref D) (Lu scope (Jx (s3.heap.objs.size+1) scope.names (bK X.env.cells scope.names [])) s3.heap.objs.size X.env)) (compPost (Io X.prog X.w) X.A X.xe use Qf (.ref D) s3.heap.objs.size) { s3 with heap:=pushCells (s3.heap.push { cls:=.type "dict",data:=.dict #[] }) scope.names }
 have nfp:∀b∈fp,(upd H2 D (.lst [])) b=none:=λb hb=>(f3 b hb).1.1
 generalize hce:Lu scope (Jx (s3.heap.objs.size+1) scope.names (bK X.env.cells scope.names [])) s3.heap.objs.size X.env=ce at I4 pg pt pe ⊢
 have cL:ce.locals=s3.heap.objs.size:=by subst hce;rfl
 generalize hH3:upd H2 D (.lst [])=H3 at I3 I4 pg pt pe w0 nfp f3
 generalize hs4:({ s3 with heap:=pushCells (s3.heap.push { cls:=.type "dict",data:=.dict #[] }) scope.names }:Hl)=s4 at I4 ⊢
 have st4:tn 0 s4.heap:=T.keep _ _ _ st3 λb _ o e=>by rw[<-hs4];exact pushCells_keeps _ _ _ _ (Hy _ e)
 have stat:∀{σ':St} {H':Hp} {s':Hl},Inv (X.blk s3 H3 scope ce fp) [] σ' H' s'->(∀b∈fp,H' b=none)->∀b∈fp,mI (X.blk s3 H3 scope ce fp) [] H' b:=λ{σ' H' s'} I' hn b hb =>
  ⟨hn b hb,(I'.ok.exf b hb).1,I'.ok.exfs b hb,.inl hb,λx c e=>(I'.ok.exf b hb).2 x c e,λp hp=>absurd (show p∈([]:List (Hm×Obj))++[] from hp) (by simp)⟩
 have loop:codeAny (Io X.prog X.w) X.A (.compLoop (.ListComp elt [⟨tg,iter,ifs,0⟩] scope pos) 0 (.ref it) (.ref D) ce) (compPost (Io X.prog X.w) X.A X.xe use Qf (.ref D) s3.heap.objs.size) s4:=by
  refine qY (λn s'=>∃i H',Inv (X.blk s3 H3 scope ce fp) [] (b7 σ (own.map (·.2))) H' s'/\tn i s'.heap/\(∀b∈fp,H' b=none)/\W i n H') ?_ m0 ⟨0,H3,I4,st4,nfp,w0⟩
  rintro n s5 ⟨i,H5,I5,st5,n5,w5⟩
  rcases turn i n H5 w5 with⟨stop,qq⟩|⟨go,Nx,hNx,step⟩
  ·have td:=T.done (X.blk s3 H3 scope ce fp) rfl rfl rfl hc i [] s5 _ H5 (λ_ _=>False) I5 (stat I5 n5) st5 stop
   refine xr td λr s6 ⟨hr,I6⟩=>?_
   subst hr
   have I7:Inv X pins σ H5 s6:=I3.call' (ch:=fp) I6.os I6.base I6.hok I6.bare λb hb=>⟨(f3 b hb).1.2.2.2.1,(f3 b hb).1.2.1,(f3 b hb).1.2.2.2.2.1,(f3 b hb).1.2.2.2.2.2⟩
   have nC:H5 s3.heap.objs.size=none:=by
    have z:H5 ce.locals=none:=I6.free
    rw[cL]at z
    exact z
   obtain⟨m,hn,_⟩:=I6.loc
   have hn:s6.heap.Ns ce.locals m:=hn
   rw[cL]at hn
   exact hRR D s3.heap.objs.size s6 m H5 I7 qq hn (I3.fpOk (nlr _) nC)
  ·have ti:=T.item (X.blk s3 H3 scope ce fp) rfl rfl rfl hc i [] s5 _ H5 (λ_ _=>False) I5 (stat I5 n5) st5 go
   refine xr ti λr s6 ⟨u,hr,h6⟩=>?_
   subst hr
   refine xr h6 λ_ s7 ⟨x,H7,I7,r7,y7,st7,n7⟩=>?_
   have I7':=I7.pinned (stat I7 n7) (T.obj _ _ st7)
   refine xr (pg _ s7 _ H7 x u _ I7' r7 (step x H7 y7)) λ_ s8 ⟨σ8,H8,I8,hw8,q8⟩=>?_
   refine xr (pt _ s8 σ8 H8 _ I8 q8) λb s9 ⟨H9,I9,q9⟩=>?_
   have fin:∀{s':Hl} {H':Hp},Inv (X.blk s3 H3 scope ce fp) ([]++pd fp s7.heap) σ8 H' s'->Nx H'->∃m,m<n/\∃i H',Inv (X.blk s3 H3 scope ce fp) [] (b7 σ (own.map (·.2))) H' s'/\tn i s'.heap/\(∀b∈fp,H' b=none)/\W i m H':=λ{s' H'} I' nx=>by
    obtain⟨m',hm,w'⟩:=hNx H' nx
    have pin':∀b∈fp,∀o,s7.heap.get? b=some o->s'.heap.get? b=some o/\H' b=none:=λb hb o e =>
     let z:=I'.pin (b,o) (Jg _ (Jg _ (ke hb e)))
     ⟨z.1,z.2.1⟩
    have hl:(b7 σ (own.map (·.2))).length=σ8.length:=by rw[<-hw8,jb]
    refine⟨m',hm,i+1,H',(I'.unpinned (pins:=[])).weak hl (λj v e=>?_),T.keep _ _ _ st7 λb hb o e=>(pin' b hb o e).1,λb hb=>?_,w'⟩
    ·rw[<-hw8]at e
     exact(lN e).1
    ·obtain⟨o,e,_⟩:=T.obj _ _ st7 b hb
     exact(pin' b hb o e).2
   cases b with
   |false =>
    simp only[Bool.false_eq_true,Lf]at q9 ⊢
    exact fin I9 q9
   |true =>
    simp only[if_true]at q9 ⊢
    refine xr (pe _ s9 σ8 H9 _ I9 q9) λz s10 ⟨yv,H10,I10,r10,acc,hD10,hz10,nx⟩=>?_
    exact DI (X:=X.blk s3 H3 scope ce fp) I10 hD10 hz10 r10 λs11 I11=>fin I11 nx
 exact codeAny_compStart_list loop (T.self X.A 0 _ _ _ st4 loop)
theorem tX {elt tg iter:Expr}{ifs:List Expr}{scope:Scope}{own:List (Str×Nat)}{pos:Pos}{wi:TI}{g:TG}{tt:TT}{te:TE}(hc:X.calm=true)(hN:X.N.Nodup)(hi:PI X tg iter wi)(ok:si X.N X.env.scope scope own)
  (hg:∀(s:Hl) (H:Hp) (C:Hm) (cl:List (Str×Hm)) (fp:List Hm),PG (X.blk s H scope (Lu scope cl C X.env) fp) tg g) (ht:∀(s:Hl) (H:Hp) (C:Hm) (cl:List (Str×Hm)) (fp:List Hm),PTs (X.blk s H scope (Lu scope cl C X.env) fp) ifs tt)
  (he:∀(s:Hl) (H:Hp) (C:Hm) (cl:List (Str×Hm)) (fp:List Hm),PE (X.blk s H scope (Lu scope cl C X.env) fp) elt te) (hs:∀x,foldedSetIterable iter X.env x=pure x:=by intro _;rfl) :
  PE X (.ListComp elt [⟨tg,iter,ifs,0⟩] scope pos) (tLc wi g tt te (own.map (·.2))):=by
 intro pins s σ H Q I h
 rw[eval_ListComp]
 refine vS hc hN I hi ok hg ht he hs h λD C s' m H' I' q hn f=>⟨m,hn,λh'' sb=>?_⟩
 obtain⟨f0,f1,f2,f3,f4,f5⟩:=f
 exact⟨.ref D,H',I'.turned (t':=s'.toks) (λb o hb e=>(sb.2 b hb).trans e) f0 f1 f3 f4 f5,rfl,q⟩
theorem b9 {i:Nat}{y:Str}{py:Pos}{elt tg iter:Expr}{ifs:List Expr}{scope:Scope}{own:List (Str×Nat)}{pos spos:Pos}{wi:TI}{g:TG}{tt:TT}{te:TE}(hc:X.calm=true)(hN:X.N.Nodup)(hy:X.N[i]? = some y)(hyl:X.env.scope.names.lookup y=some .local)
  (hsw:swapsWith (.ListComp elt [⟨tg,iter,ifs,0⟩] scope pos) (some (.Name y py)) spos.line X.env=pure true) (hi:PI X tg iter wi) (ok:si X.N X.env.scope scope own)
  (hg:∀(s:Hl) (H:Hp) (C:Hm) (cl:List (Str×Hm)) (fp:List Hm),PG (X.blk s H scope (Lu scope cl C X.env) fp) tg g) (ht:∀(s:Hl) (H:Hp) (C:Hm) (cl:List (Str×Hm)) (fp:List Hm),PTs (X.blk s H scope (Lu scope cl C X.env) fp) ifs tt)
  (he:∀(s:Hl) (H:Hp) (C:Hm) (cl:List (Str×Hm)) (fp:List Hm),PE (X.blk s H scope (Lu scope cl C X.env) fp) elt te) (hs:∀x,foldedSetIterable iter X.env x=pure x:=by intro _;rfl) :
  PS X (.Assign [.Name y py] (.ListComp elt [⟨tg,iter,ifs,0⟩] scope pos) spos) (Dj (tLc wi g tt te (own.map (·.2))) (pY i)):=by
 intro pins s σ H D I h
 rw[exec_Assign_Name_used _ _ _ _ hsw]
 refine Hj (wpAny_standAt (Hj ?_))
 show Ig _ X.A (do let _ <-comprehension (.ListComp elt [⟨tg,iter,ifs,0⟩] scope pos) scope X.env (firstIterPos [⟨tg,iter,ifs,0⟩] pos) (newList []) false (KW iter X.env) (some (assign (.Name y py) X.env))) _ _ s
 have h:tLc wi g tt te (own.map (·.2)) σ H (λx H1=>pY i x σ H1 D.nx):=h
 refine Hj (thn (vS (Qf:=λ_ s'=>SP X pins D .next s') hc hN I hi ok hg ht he hs h λL C s' m H' I' q hn f=>?_) λ_ s' hq=>HL (HL hq))
 show Ig _ _ (assign (.Name y py) X.env (.ref L)) _ _ _
 refine wpAny_assign_Name (store_ok2 (v:=V.ref L) I' hN hy (.inl hyl) rfl (λs2 I2 ⟨a,sb,ha⟩=>?_) (.inr hyl))
 obtain⟨f0,f1,f2,f3,f4,f5⟩:=f
 have haC:C≠a:=by
  rcases ha with z|z
  ·rw[z];exact f1
  ·exact λe=>f4 y a z e.symm
 refine⟨m,hn.sameBut sb haC,λh3 sb3=>?_⟩
 exact⟨_,H',I2.turned (t':=s2.toks) (λb o hb e=>(sb3.2 b hb).trans e) f0 f1 f3 f4 f5,q⟩
theorem dm {elt:Expr}{gs:List Comprehension}{scope:Scope}{pos py:Pos}{y:Str}{l:Nat}{env:Env}(hk:env.scope.kind=.function)(hy:env.scope.names.lookup y=some .local)(hl:(py.line==pos.line)=true)
  (ha:(scope.names.any λ(n,k)=>n==y&&(k==.local||k==.cell))=false):swapsWith (.ListComp elt gs scope pos) (some (.Name y py)) l env=pure true:=by
 have ky:env.kindOf y=some .local:=hy
 have hb:env.blockKind=.function:=by unfold Env.blockKind;rw[hk];rfl
 unfold swapsWith
 simp only[hb,ky,ha,Expr.pos,hl]
 rfl
end
theorem fU {K:IN}{a:Hm}{xs:List V}{g:TG}{tt:TT}{te:TE}{vs:List Nat}{σ:St}{H1:Hp}{D:Hm}{Qd:Hp->Prop}(Pv:Nat->Hp->Prop)(h0:Pv 0 (upd H1 D (.lst [])))(hl:∀i H,i<=xs.length->Pv i H->SqL K H a xs)
  (hs:∀i x H,xs[i]? = some x->Pv i H->g x (b7 σ vs) H λσ2 H2=>b7 σ2 vs=b7 σ vs/\tt σ2 H2 λb H3 =>
   if b=true then te σ2 H3 λy H4=>∃acc,H4 D=some (.lst acc)/\acc.length<Hr/\Pv (i+1) (upd H4 D (.lst (acc++[y]))) else Pv (i+1) H3) (hd:∀H,Pv xs.length H->Qd H) :
  ∃W:Nat->Nat->Hp->Prop,(∃m,W 0 m (upd H1 D (.lst [])))/\∀i m H,W i m H ->
   ((Itl K a).stop i H/\Qd H)\/((Itl K a).go i H/\∃Nx:Hp->Prop,(∀H',Nx H'->∃m',m'<m/\W (i+1) m' H')/\∀x H',(Itl K a).yld i H x H'->g x (b7 σ vs) H' λσ2 H2=>b7 σ2 vs=b7 σ vs/\tt σ2 H2 λb H3 =>
    if b=true then te σ2 H3 λy H4=>∃acc,H4 D=some (.lst acc)/\acc.length<Hr/\Nx (upd H4 D (.lst (acc++[y]))) else Nx H3):=by
 refine⟨λi m H=>m=xs.length-i/\i<=xs.length/\Pv i H,⟨xs.length,by simp,IH _,h0⟩,?_⟩
 rintro i m H ⟨rfl,hi,p⟩
 have q:=hl i H hi p
 by_cases hlt:i<xs.length
 ·refine .inr ⟨⟨xs,xs[i],q,by simp[hlt]⟩,Pv (i+1),λH' p'=>⟨xs.length-(i+1),by lia,rfl,hlt,p'⟩,λx H' y=>?_⟩
  obtain⟨e,y⟩:=y
  subst e
  exact hs i x _ (y xs q) p
 ·have e:i=xs.length:=by lia
  subst e
  exact .inl ⟨⟨xs,q,nlr _⟩,hd H p⟩
def gR (N:List Str)(sc scope:Scope)(own:List (Str×Nat)):Bool :=
 (match scope.kind with|.function=>true|_=>false)&&(scope.names.all λy=>decide (scope.names.lookup y.1=some y.2))&&(own.all λp=>decide (N[p.2]? = some p.1)) &&
  (scope.names.all λy=>match y.2 with
   |.free=>(match sc.names.lookup y.1 with|some .cell=>true|some .free=>true|_=>false)
   |.local=>decide (y.1∈own.map (·.1))||decide (y.1∉N)
   |.cell=>decide (y.1∈own.map (·.1))||decide (y.1∉N)
   |_=>true)
theorem bG {N:List Str}{sc scope:Scope}{own:List (Str×Nat)}(h:gR N sc scope own=true):si N sc scope own:=by
 unfold gR at h
 simp only[Hu,IL,Hv]at h
 obtain⟨⟨⟨h1,h2⟩,h3⟩,h4⟩:=h
 refine⟨?_,h2,h3,λy hy e=>?_,λy hy e=>?_⟩
 ·split at h1
  ·assumption
  ·cases h1
 ·have q:=h4 y hy
  simp only[e]at q
  split at q<;>first|exact .inl (by assumption)|exact .inr (by assumption)|cases q
 ·have q:=h4 y hy
  rcases e with e|e<;>(simp only[e,Jq,Hv]at q;exact q)
end L2
namespace L2
open PySem PySem.Spec PyProof.Rows
section
variable  {prog:Ih}{w:I0}{A:Around}{R:Result->Hl->Prop}{s:Hl}{elt t0 i0 t1 i1:Expr}{ifs0 ifs1:List Expr}{scope:Scope}{pos:Pos}{it acc:Value}{env:Env}
end
section
variable  {X:Cx}
end
end L2
namespace L2
open PySem PySem.Spec PyProof.Rows
section
variable  {κ:Type}[DecidableEq κ]
def dL (kvs:List (κ×V))(k:κ):Option V:=(kvs.find? λkv=>decide (kv.1=k)).map (·.2)
def gq (kvs:List (κ×V))(k:κ)(v:V):List (κ×V) :=
 if (kvs.any λkv=>decide (kv.1=k))=true then kvs.map (λkv=>if kv.1=k then (kv.1,v) else kv) else kvs++[(k,v)]
theorem cf {p:κ×V}{r:List (κ×V)}{k:κ}(e:p.1=k):dL (p :: r) k=some p.2:=by simp[dL,JC,e]
theorem bQ {p:κ×V}{r:List (κ×V)}{k:κ}(e:¬p.1=k):dL (p :: r) k=dL r k:=by simp[dL,JC,e]
theorem fk (k:κ):∀kvs:List (κ×V),(kvs.any λkv=>decide (kv.1=k))=(dL kvs k).isSome
 |[]=>rfl
 |p :: r=>by
  rw[List.any_cons]
  by_cases e:p.1=k
  ·simp only[cf e,dqt e,LF,Option.isSome_some]
  ·rw[bQ e,dqf e,Bool.false_or];exact fk k r
theorem sw (k j:κ)(y:V):∀kvs:List (κ×V),dL (kvs.map λkv=>if kv.1=k then (kv.1,y) else kv) j=(dL kvs j).map λx=>if j=k then y else x
 |[]=>rfl
 |p :: r=>by
  have ih:=sw k j y r
  rw[HN]
  by_cases h:p.1=k
  ·rw[Hz h]
   by_cases e:p.1=j
   ·rw[cf (p:=(p.1,y)) e,cf e,K2,Hz (e.symm.trans h)]
   ·rw[bQ (p:=(p.1,y)) e,bQ e,ih]
  ·rw[Hs h]
   by_cases e:p.1=j
   ·rw[cf (p:=p) e,cf e,K2,Hs (λz=>h (e.trans z))]
   ·rw[bQ (p:=p) e,bQ e,ih]
theorem pW (k j:κ)(y:V):∀kvs:List (κ×V),dL kvs k=none->dL (kvs++[(k,y)]) j=if j=k then some y else dL kvs j
 |[],_=>by
  by_cases e:k=j
  ·rw[Hz e.symm];exact cf (p:=(k,y)) e
  ·rw[Hs (λz=>e z.symm)];exact bQ (p:=(k,y)) e
 |p :: r,hn=>by
  rw[Lv]
  have hk:¬p.1=k:=λz=>by rw[cf z]at hn;cases hn
  rw[bQ hk]at hn
  have ih:=pW k j y r hn
  by_cases e:p.1=j
  ·rw[cf e,cf e,Hs (λz=>hk (e.trans z))]
  ·rw[bQ e,bQ e,ih]
theorem zH (kvs:List (κ×V))(k j:κ)(y:V):dL (gq kvs k y) j=if j=k then some y else dL kvs j:=by
 unfold gq
 by_cases a:(kvs.any λkv=>decide (kv.1=k))=true
 ·rw[Hz a,sw]
  rw[fk]at a
  by_cases e:j=k
  ·obtain⟨x,hx⟩:=Option.isSome_iff_exists.mp a
   rw[Hz e,e,hx,K2,Hz rfl]
  ·rw[Hs e]
   cases dL kvs j with
   |none=>rfl
   |some x=>rw[K2,Hs e]
 ·rw[Hs a]
  refine pW k j y kvs ?_
  rw[fk]at a
  cases q:dL kvs k with
  |none=>rfl
  |some x=>rw[q]at a;exact(a rfl).elim
theorem gE (kvs:List (κ×V))(k:κ)(v:V):(gq kvs k v).length<=kvs.length+1:=by
 unfold gq
 split
 ·rw[lmp];lia
 ·rw[Hn,HW,KD];lia
theorem tf {kvs:List (κ×V)}{k:κ}(v:V)(h:dL kvs k=none):gq kvs k v=kvs++[(k,v)]:=by
 unfold gq
 rw[fk,h]
 exact Hs (by decide)
theorem i8.isSome_eq {o:Option V}{u:Option Value}(r:i8 o u):o.isSome=u.isSome:=by
 cases o with
 |none=>cases u with
  |none=>rfl
  |some _=>exact(show False from r).elim
 |some _=>cases u with
  |none=>exact(show False from r).elim
  |some _=>rfl
theorem i8.getD {o:Option V}{u:Option Value}{d:V}{d':Value}(r:i8 o u)(rd:a5 d d'):a5 (o.getD d) (u.getD d'):=by
 cases o with
 |none=>cases u with
  |none=>exact rd
  |some _=>exact(show False from r).elim
 |some _=>cases u with
  |none=>exact(show False from r).elim
  |some _=>exact r
theorem KV.val {kvs:List (κ×V)}{vs:List (κ×Value)}(r:KV kvs vs)(k:κ):i8 (dL kvs k) (valueAt vs k):=by
 unfold KV at r
 induction r with
 |nil=>exact True.intro
 |@cons p q ps qs h t ih =>
  obtain⟨h1,h2⟩:=h
  by_cases e:p.1=k
  ·have e':q.1=k:=h1.symm.trans e
   have b:valueAt (q :: qs) k=some q.2:=by simp[valueAt,JC,e']
   rw[cf e,b];exact h2
  ·have e':¬q.1=k:=λz=>e (h1.trans z)
   have b:valueAt (q :: qs) k=valueAt qs k:=by simp[valueAt,JC,e']
   rw[bQ e,b];exact ih
theorem KV.any {kvs:List (κ×V)}{vs:List (κ×Value)}(r:KV kvs vs)(k:κ):(kvs.any λkv=>decide (kv.1=k))=vs.any λkv=>decide (kv.1=k):=by
 unfold KV at r
 induction r with
 |nil=>rfl
 |cons h t ih=>rw[List.any_cons,List.any_cons,ih,h.1]
theorem KV.repl {kvs:List (κ×V)}{vs:List (κ×Value)}(r:KV kvs vs)(k:κ){y:V}{u:Value}(ry:a5 y u) :
  KV (kvs.map λkv=>if kv.1=k then (kv.1,y) else kv) (vs.map λkv=>if kv.1=k then (kv.1,u) else kv):=by
 unfold KV at r ⊢
 induction r with
 |nil=>exact .nil
 |@cons p q ps qs h t ih =>
  rw[HN,HN]
  refine .cons ?_ ih
  obtain⟨h1,h2⟩:=h
  by_cases e:p.1=k
  ·rw[Hz e,Hz (h1.symm.trans e)];exact⟨h1,ry⟩
  ·rw[Hs e,Hs (λz=>e (h1.trans z))];exact⟨h1,h2⟩
theorem KV.put {kvs:List (κ×V)}{vs:List (κ×Value)}(r:KV kvs vs)(k:κ){y:V}{u:Value}(ry:a5 y u):KV (gq kvs k y) (stored vs k u):=by
 unfold gq stored
 rw[r.any k]
 by_cases e:(vs.any λkv=>decide (kv.1=k))=true
 ·rw[Hz e,Hz e];exact r.repl k ry
 ·rw[Hs e,Hs e];exact Paired.snoc r ⟨rfl,ry⟩
theorem KV.length {kvs:List (κ×V)}{vs:List (κ×Value)}(r:KV kvs vs):kvs.length=vs.length:=Lc r
end
theorem qt {P:Ih}{w:I0}{k:Key}{u:Value}(r:a5 (kV k) u):(cD P w).is k u=true:=by
 cases k with
 |inl i=>obtain⟨t,e⟩:=(show ∃t,u=Value.int i t from r);subst e;exact sn P w i t
 |inr x=>obtain⟨t,e⟩:=(show ∃t,u=Value.str x t from r);subst e;exact tQ P w x t
theorem pM {P:Ih}{w:I0}:∀{ks:List Key} {us:List Value},aT (ks.map kV) us->ItemsAre (cD P w) ks us
 |[],_,r=>by rw[LB]at r;cases r;exact .nil
 |k :: ks,_,r=>by
  rw[HN]at r
  cases r with
  |cons h t=>exact .cons (qt h) (pM t)
abbrev KT (H:Hp):List (List Key×V)->List (List Key×Hm×Value)->Prop:=Paired λp q=>p.1=q.1/\H q.2.1=some (.tup (p.1.map kV))/\a5 p.2 q.2.2
theorem KT.val {H:Hp}{kvs:List (List Key×V)}{xs:List (List Key×Hm×Value)}(r:KT H kvs xs)(k:List Key):i8 (dL kvs k) ((atKey xs k).map (·.2)):=by
 induction r with
 |nil=>exact True.intro
 |@cons p q ps qs h t ih =>
  obtain⟨h1,_,h2⟩:=h
  by_cases e:p.1=k
  ·have e':q.1=k:=h1.symm.trans e
   have b:atKey (q :: qs) k=some q.2:=by simp[atKey,JC,e']
   rw[cf e,b];exact h2
  ·have e':¬q.1=k:=λz=>e (h1.trans z)
   have b:atKey (q :: qs) k=atKey qs k:=by simp[atKey,JC,e']
   rw[bQ e,b];exact ih
theorem KT.repl {H:Hp}{kvs:List (List Key×V)}{xs:List (List Key×Hm×Value)}(r:KT H kvs xs)(k:List Key){y:V}{u:Value}(ry:a5 y u) :
  KT H (kvs.map λkv=>if kv.1=k then (kv.1,y) else kv) (xs.map (putAt k u)):=by
 induction r with
 |nil=>exact .nil
 |@cons p q ps qs h t ih =>
  rw[HN,HN]
  refine .cons ?_ ih
  obtain⟨h1,h2,h3⟩:=h
  unfold putAt
  by_cases e:p.1=k
  ·rw[Hz e,Hz (h1.symm.trans e)];exact⟨h1,h2,ry⟩
  ·rw[Hs e,Hs (λz=>e (h1.trans z))];exact⟨h1,h2,h3⟩
theorem KT.put {H:Hp}{kvs:List (List Key×V)}{xs:List (List Key×Hm×Value)}(r:KT H kvs xs)(k:List Key){b:Hm}{y:V}{u:Value}(hb:H b=some (.tup (k.map kV)))(ry:a5 y u) :
  KT H (gq kvs k y) (storedH xs k b u):=by
 have e:(kvs.any λkv=>decide (kv.1=k))=(atKey xs k).isSome:=by
  rw[fk,(r.val k).isSome_eq,Option.isSome_map]
 unfold gq storedH
 rw[e]
 by_cases q:(atKey xs k).isSome=true
 ·rw[Hz q,Hz q];exact r.repl k ry
 ·rw[Hs q,Hs q];exact Paired.snoc r ⟨rfl,hb,ry⟩
theorem KT.keeps {H H':Hp}{kvs:List (List Key×V)}{xs:List (List Key×Hm×Value)}(r:KT H kvs xs)(ht:∀b ys,H b=some (.tup ys)->H' b=some (.tup ys)):KT H' kvs xs :=
 Paired.mapP r λ_ _ z=>⟨z.1,ht _ _ z.2.1,z.2.2⟩
section
variable  {P:Ih}{w:I0}{H:Hp}{h:Heap}{a:Hm}
theorem BE {u:HO}(ok:HOk P w H h)(e:Rd H a u):bY P w H h a u:=e.ok ok
theorem mw {kvs:List (Key×V)}(ok:HOk P w H h)(e:Rd H a (.dK kvs)):kvs.length<=Hr/\(a==JV)=false/\∃vs,KV kvs vs/\h.DictOf (cD P w) a vs :=
 show bY P w H h a (.dK kvs) from BE ok e
theorem EC {kvs:List (Key×V)}(ok:HOk P w H h)(e:H a=some (.dK kvs)):kvs.length<=Hr/\(a==JV)=false/\∃vs,KV kvs vs/\h.DictOf (cD P w) a vs:=mw ok (.inl e)
theorem lm {ks:List Key}(ok:HOk P w H h)(e:H a=some (.tup (ks.map kV))):(tupleKind (cD P w)).is h ks a:=by
 obtain⟨_,its,r,o,h1,h2,n,h3⟩:=(show bY P w H h a (.tup (ks.map kV)) from ok a _ e)
 exact⟨o,its.toArray,n,h1,h2,h3,by simpa using pM r⟩
theorem ph {kvs:List (List Key×V)}(ok:HOk P w H h)(e:Rd H a (.dT kvs)):kvs.length<=Hr/\(a==JV)=false /\
  ∃xs,KT H kvs xs/\h.DictOfH (tupleKind (cD P w)) a xs:=by
 obtain⟨z,y,xs,r,o,es,ep,h1,h2,h3,h4,h5⟩:=(show bY P w H h a (.dT kvs) from BE ok e)
 refine⟨z,y,xs,r,o,es,ep,h1,h2,h3,h4,λx hx=>?_,h5⟩
 have all:∀{l:List (List Key×V)} {m:List (List Key×Hm×Value)},KT H l m->∀x∈m,(tupleKind (cD P w)).is h x.1 x.2.1:=by
  intro l m q
  induction q with
  |nil=>intro x hx;exact nomatch hx
  |@cons p q ps qs hq t ih =>
   intro x hx
   rcases Hq.mp hx with e|hx
   ·subst e
    exact lm ok (by rw[<-hq.1];exact hq.2.1)
   ·exact ih x hx
 exact all r x hx
theorem Fw {kvs:List (List Key×V)}(ok:HOk P w H h)(e:H a=some (.dT kvs)):kvs.length<=Hr/\(a==JV)=false /\
  ∃xs,KT H kvs xs/\h.DictOfH (tupleKind (cD P w)) a xs:=ph ok (.inl e)
end
def jM (H:Hp)(a:Hm)(y:V)(r:Option V):Prop :=
 (∃kvs k,Rd H a (.dK kvs)/\y=kV k/\r=dL kvs k)\/∃kvs k b,Rd H a (.dT kvs)/\y=.ref b/\H b=some (.tup (k.map kV))/\r=dL kvs k
def oV (H:Hp)(a:Hm)(y v:V)(H':Hp):Prop :=
 (∃kvs k,H a=some (.dK kvs)/\y=kV k/\kvs.length<Hr/\H'=upd H a (.dK (gq kvs k v))) \/
 ∃kvs k b,H a=some (.dT kvs)/\y=.ref b/\H b=some (.tup (k.map kV))/\kvs.length<Hr/\H'=upd H a (.dT (gq kvs k v))
theorem jM.k {H:Hp}{a:Hm}{kvs:List (Key×V)}{k:Key}(e:H a=some (.dK kvs)):jM H a (kV k) (dL kvs k):=.inl ⟨kvs,k,.inl e,rfl,rfl⟩
theorem jM.t {H:Hp}{a b:Hm}{kvs:List (List Key×V)}{k:List Key}(e:H a=some (.dT kvs))(eb:H b=some (.tup (k.map kV))):jM H a (.ref b) (dL kvs k):=.inr ⟨kvs,k,b,.inl e,rfl,eb,rfl⟩
theorem oV.k {H:Hp}{a:Hm}{kvs:List (Key×V)}{k:Key}{v:V}(e:H a=some (.dK kvs))(hl:kvs.length<Hr):oV H a (kV k) v (upd H a (.dK (gq kvs k v))):=.inl ⟨kvs,k,e,rfl,hl,rfl⟩
theorem oV.t {H:Hp}{a b:Hm}{kvs:List (List Key×V)}{k:List Key}{v:V}(e:H a=some (.dT kvs))(eb:H b=some (.tup (k.map kV)))(hl:kvs.length<Hr) :
  oV H a (.ref b) v (upd H a (.dT (gq kvs k v))):=.inr ⟨kvs,k,b,e,rfl,eb,hl,rfl⟩
section
variable  {X:Cx}{pins:List (Hm×Obj)}{σ:St}{H:Hp}{s:Hl}{a:Hm}{y v:V}{u r:Value}{o:Option V}{A:Around}{E:Value->Hl->Prop}
theorem Inv.big (I:Inv X pins σ H s):JV<s.heap.objs.size:=by
 have h:Im<s.heap.objs.size:=(I.mod.glob.keeps I.bk).lt
 exact Nat.lt_trans (by decide) h
theorem wQ {Q:Value->Hl->Prop}(hu:A.units+1<cLine)(I:Inv X pins σ H s)(g:jM H a y (some v))(ry:a5 y u)(h:∀w' s',Inv X pins σ H s'->a5 v w'->Q w' s') :
  Ig (Io X.prog X.w) A (getItem (.ref a) u) Q E s:=by
 rcases g with⟨kvs,k,e,ey,l⟩|⟨kvs,k,b,e,ey,eb,l⟩
 ·subst ey
  obtain⟨z,hd,vs,rel,dd⟩:=mw I.hok e
  obtain⟨w',hw,rw'⟩:=i8.some_of (v:=v) (o:=valueAt vs k) (by rw[l];exact rel.val k)
  exact wpAny_getItem_of (qt ry) dd.mapOf hw (h w' _ (I.tok _) rw')
 ·subst ey
  cases (show u=HY b from ry)
  obtain⟨z,hd,xs,rel,dd⟩:=ph I.hok e
  obtain⟨w',hw,rw'⟩:=i8.some_of (v:=v) (o:=(atKey xs k).map (·.2)) (by rw[l];exact rel.val k)
  obtain⟨p,hp,hp2⟩:=Option.map_eq_some_iff.mp hw
  refine wpAny_getItem_heap (KU hu) (lm I.hok eb) dd hp ?_
  rw[hp2]
  exact h w' _ (I.tok _) rw'
theorem GJ {Q:Value->Hl->Prop}(hu:A.units+1<cLine)(I:Inv X pins σ H s)(g:jM H a y o)(ry:a5 y u)(h:∀s',Inv X pins σ H s'->Q (.bool o.isSome) s') :
  Ig (Io X.prog X.w) A (Je .In u (.ref a)) Q E s:=by
 rcases g with⟨kvs,k,e,ey,l⟩|⟨kvs,k,b,e,ey,eb,l⟩
 ·subst ey
  obtain⟨z,hd,vs,rel,dd⟩:=mw I.hok e
  refine wpAny_in_of (qt ry) hd dd.mapOf ?_
  rw[<-(rel.val k).isSome_eq,<-l]
  exact h _ (I.tok _)
 ·subst ey
  cases (show u=HY b from ry)
  obtain⟨z,hd,xs,rel,dd⟩:=ph I.hok e
  refine wpAny_in_heap (KU hu) (lm I.hok eb) hd dd ?_
  have q:=(rel.val k).isSome_eq
  rw[Option.isSome_map]at q
  rw[<-q,<-l]
  exact h _ (I.tok _)
theorem Be {Q:Value->Hl->Prop}(hu:A.units+1<cLine)(I:Inv X pins σ H s)(g:jM H a y o)(ry:a5 y u)(h:∀s',Inv X pins σ H s'->Q (.bool (!o.isSome)) s') :
  Ig (Io X.prog X.w) A (Je .NotIn u (.ref a)) Q E s:=by
 rcases g with⟨kvs,k,e,ey,l⟩|⟨kvs,k,b,e,ey,eb,l⟩
 ·subst ey
  obtain⟨z,hd,vs,rel,dd⟩:=mw I.hok e
  refine wpAny_notIn_of (qt ry) hd dd.mapOf ?_
  rw[<-(rel.val k).isSome_eq,<-l]
  exact h _ (I.tok _)
 ·subst ey
  cases (show u=HY b from ry)
  obtain⟨z,hd,xs,rel,dd⟩:=ph I.hok e
  refine wpAny_notIn_heap (KU hu) (lm I.hok eb) hd dd ?_
  have q:=(rel.val k).isSome_eq
  rw[Option.isSome_map]at q
  rw[<-q,<-l]
  exact h _ (I.tok _)
theorem vZ {h':Heap}{t':Nat}{ob:HO}(I:Inv X pins σ H s)(mu:Mut (H a))(hs:Heap.SameBut a s.heap h')(he:∃q,h'.get? a=some q)(new:bY X.prog X.w (upd H a ob) h' a ob) :
  Inv X pins σ (upd H a ob) { s with heap:=h',toks:=t' } :=
 I.write (x:=a) (e:=a) mu (.inl rfl) (λb q hb z=>(hs.2 b hb).trans z) he new
theorem Co {P:Ih}{w:I0}{H':Hp}{h':Heap}{kvs:List (Key×V)}{vs:List (Key×Value)}(z:kvs.length<=Hr)(hd:(a==JV)=false)(rel:KV kvs vs)(dd:h'.DictOf (cD P w) a vs) :
  bY P w H' h' a (.dK kvs):=⟨z,hd,vs,rel,dd⟩
theorem xD {H':Hp}{Q:Unit->Hl->Prop}(hu:A.units+1<cLine)(I:Inv X pins σ H s)(g:oV H a y v H')(ry:a5 y u)(rv:a5 v r)(h:∀s',Inv X pins σ H' s'->Q () s') :
  Ig (Io X.prog X.w) A (setItem (.ref a) u r) Q E s:=by
 rcases g with⟨kvs,k,e,ey,l,eH⟩|⟨kvs,k,b,e,ey,eb,l,eH⟩
 ·subst ey eH
  obtain⟨z,hd,vs,rel,dd⟩:=EC I.hok e
  have hz:vs.length<=Hr:=by rw[<-rel.length];exact z
  have hl:(gq kvs k v).length<=Hr:=by have:=gE kvs k v;lia
  refine wpAny_setItem_pairs (hsz:=hz) (qt ry) dd λh' dd' hs=>h _ ?_
  have he:∃q,h'.get? a=some q:=let ⟨q,_,_,hq,_⟩:=dd';⟨q,hq⟩
  exact vZ I (by rw[e];exact True.intro) hs he (Co hl hd (rel.put k rv) dd')
 ·subst ey eH
  cases (show u=HY b from ry)
  obtain⟨z,hd,xs,rel,dd⟩:=Fw I.hok e
  have hz:xs.length<=Hr:=by rw[<-Lc rel];exact z
  have hl:(gq kvs k v).length<=Hr:=by have:=gE kvs k v;lia
  refine wpAny_setItem_heap (hsz:=hz) (KU hu) (lm I.hok eb) dd λh' dd' hs=>h _ ?_
  obtain⟨q,es,ep,hq,h2,h3,h4,_,h5⟩:=dd'
  refine vZ I (by rw[e];exact True.intro) hs ⟨q,hq⟩ ⟨hl,hd,_,(rel.put k eb rv).keeps λc ys ec=>?_,q,es,ep,hq,h2,h3,h4,h5⟩
  rw[ao (vB ec e (λz=>nomatch z))]
  exact ec
end
section
variable  {X:Cx}{pins:List (Hm×Obj)}{σ:St}{H:Hp}{s:Hl}{a:Hm}{kvs:List (Key×V)}{k:Key}{u:Value}{A:Around}{E:Value->Hl->Prop}
theorem EN {Q:Value->Hl->Prop}(I:Inv X pins σ H s)(e:Rd H a (.dK kvs))(h:∀t s',Inv X pins σ H s'->Q (.int kvs.length t) s'):Ig (Io X.prog X.w) A (call (.builtin "len") [.ref a]) Q E s:=by
 obtain⟨z,hd,vs,rel,dd⟩:=mw I.hok e
 refine call_len_dict hd dd (by rw[<-rel.length];rw[sizeLine_eq]at z;lia) ?_
 rw[<-rel.length]
 exact h _ _ (I.tok _)
end
def EM (i:Expr):Prop:=∀ov iv,subscripted i false ov iv=operate [ov,iv] (getItem ov iv)
theorem Ad {prog:Ih}{w:I0}{A:Around}{E:Value->Hl->Prop}{s:Hl}{env:Env}{value slice:Expr}{pos:Pos}{T id:String}{Q:Value->Hl->Prop}
  (hl:typeLookup (.type T) "__getitem__"=pure (some (.builtin id))) (hs:EM slice)
  (h:Ig (Io prog w) A (KW value env) (λo s₁=>Ig (Io prog w) A (KW slice env) (λi s₂=>s₂.TypeIs o T/\Ig (Io prog w) A (getItem o i) Q E s₂) E s₁) E s) :
  Ig (Io prog w) A (KW (.Subscript value slice pos) env) Q E s:=by
 refine Subscript_ (Km h (λo s₁ h₁=>Km h₁ (λi s₂ h₂=>?_) λ_ _ x=>x) λ_ _ x=>x)
 obtain⟨hT,h₂⟩:=h₂
 unfold subscriptTail
 refine Hj ?_
 rw[getitemInPython_of_ne hT.not_modules]
 refine Hj (wpAny_specialOf hT hl ?_)
 have fin:Ig (Io prog w) A (subscripted slice false o i) (λr s₃=>Ig (Io prog w) A (letTemporaryGo value o r >>= λ_=>pure r) Q E s₃) E s₂:=by
  rw[hs o i]
  exact wpAny_operating (Km h₂ (λr s₃ h₃=>Hj (wpAny_letTemporaryGo (HL h₃))) λ_ _ x=>x)
 first
  |exact HL (Hj fin)
  |exact Hj (HL (Hj fin))
  |exact Hj fin
theorem rV {X:Cx}{pins:List (Hm×Obj)}{σ:St}{H:Hp}{s:Hl}{a:Hm}{y:V}{o:Option V}(I:Inv X pins σ H s)(g:jM H a y o):s.TypeIs (.ref a) "dict":=by
 rcases g with⟨kvs,k,e,_,_⟩|⟨kvs,k,b,e,_,_,_⟩
 ·obtain⟨_,_,vs,_,dd⟩:=mw I.hok e
  exact dd.typeIs
 ·obtain⟨_,_,xs,_,dd⟩:=ph I.hok e
  exact dd.typeIs
def EY (td ty:TE):TE:=λσ H Q=>td σ H λx H1=>ty σ H1 λy H2=>∃a v,x=.ref a/\jM H2 a y (some v)/\Q v H2
def Gs (ty td:TE):TE:=λσ H Q=>ty σ H λy H1=>td σ H1 λx H2=>∃a o,x=.ref a/\jM H2 a y o/\Q (.bl o.isSome) H2
def AR (ty td:TE):TE:=λσ H Q=>ty σ H λy H1=>td σ H1 λx H2=>∃a o,x=.ref a/\jM H2 a y o/\Q (.bl (!o.isSome)) H2
def Fy (td ty tv:TE):TS:=λD σ H=>tv σ H λv H1=>td σ H1 λx H2=>ty σ H2 λy H3=>∃a H4,x=.ref a/\oV H3 a y v H4/\D.nx σ H4
section
variable  {X:Cx}{o i e value:Expr}{pos pos' tpos:Pos}{td ty tv:TE}
theorem Bp (hu:X.A.units+1<cLine)(ho:PE X o td)(hi:PE X i ty)(hs:EM i):PE X (.Subscript o i pos) (EY td ty):=by
 intro pins s σ H Q I h
 refine Ad PySem.F.slot_dict_getitem.lookup hs (thn (ho pins s σ H _ I h) λu s1 ⟨x,H1,I1,rx,q1⟩=>thn (hi pins s1 σ H1 _ I1 q1) λiv s2 ⟨y,H2,I2,ry,a,v,ex,g,q2⟩=>?_)
 subst ex
 obtain rfl:u=HY a:=rx
 exact⟨rV I2 g,wQ hu I2 g ry λw' s3 I3 rw'=>⟨v,H2,I3,rw',q2⟩⟩
theorem Dn (hu:X.A.units+1<cLine)(hi:PE X i ty)(ho:PE X o td):PC X .In i o (Gs ty td):=by
 intro pins s σ H Q I h
 refine thn (hi pins s σ H _ I h) λiv s1 ⟨y,H1,I1,ry,q1⟩=>thn (ho pins s1 σ H1 _ I1 q1) λu s2 ⟨x,H2,I2,rx,a,ov,ex,g,q2⟩=>?_
 subst ex
 obtain rfl:u=HY a:=rx
 exact GJ hu I2 g ry λs3 I3=>⟨.bl ov.isSome,H2,I3,rfl,q2⟩
theorem qr (hu:X.A.units+1<cLine)(hi:PE X i ty)(ho:PE X o td):PC X .NotIn i o (AR ty td):=by
 intro pins s σ H Q I h
 refine thn (hi pins s σ H _ I h) λiv s1 ⟨y,H1,I1,ry,q1⟩=>thn (ho pins s1 σ H1 _ I1 q1) λu s2 ⟨x,H2,I2,rx,a,ov,ex,g,q2⟩=>?_
 subst ex
 obtain rfl:u=HY a:=rx
 exact Be hu I2 g ry λs3 I3=>⟨.bl (!ov.isSome),H2,I3,rfl,q2⟩
theorem kG (hu:X.A.units+1<cLine)(ho:PE X o td)(hi:PE X i ty)(hv:PE X value tv)(hs:swapsWith value (some (.Subscript o i pos')) pos.line X.env=pure false) :
  PS X (.Assign [.Subscript o i pos'] value pos) (Fy td ty tv):=by
 intro pins s σ H D I h
 refine wpAny_Assign_Subscript (thn (hv pins s σ H _ I h) λr s1 ⟨v,H1,I1,rv,q1⟩=>thn (ho pins s1 σ H1 _ I1 q1) λu s2 ⟨x,H2,I2,rx,q2⟩=>thn (hi pins s2 σ H2 _ I2 q2) λiv s3 ⟨y,H3,I3,ry,a,H4,ex,g,q3⟩=>?_) hs
 subst ex
 obtain rfl:u=HY a:=rx
 exact xD hu I3 g ry rv λs4 I4=>⟨σ,H4,I4,q3⟩
end
theorem zm {P:Ih}{w:I0}{H:Hp}(h:Heap)(hb:JV<h.objs.size):bY P w H (h.push { cls:=.type "dict",data:=.dict #[] }) h.objs.size (.dK []) :=
 ⟨IH _,Jf.mpr (Ie (Ij hb)),[],.nil,Heap.DictOf.new h⟩
theorem yK {P:Ih}{w:I0}{H:Hp}(h:Heap)(hb:JV<h.objs.size):bY P w H (h.push { cls:=.type "dict",data:=.dict #[] }) h.objs.size (.dT []) :=
 ⟨IH _,Jf.mpr (Ie (Ij hb)),[],.nil,_,#[],0,HR _ rfl,⟨rfl,rfl,rfl⟩,rfl,rfl,List.nodup_nil⟩
def Ch:TE:=λ_ H Q=>∀p,H p=none->Q (.ref p) (upd H p (.dK []))
def DD:TE:=λ_ H Q=>∀p,H p=none->Q (.ref p) (upd H p (.dT []))
section
variable  {X:Cx}{pos:Pos}
theorem y8:PE X (.Dict [] [] pos) Ch:=λpins s σ H Q I h =>
 wpAny_Dict_empty ⟨.ref s.heap.objs.size,_,I.laid (a:=s.heap.objs.size) (o:=.dK []) (t':=s.toks) (λ_ _ q=>Hy _ q) (nlr _) (zm s.heap I.big),rfl,h _ (I.hok.fresh (nlr _))⟩
theorem kU:PE X (.Dict [] [] pos) DD:=λpins s σ H Q I h =>
 wpAny_Dict_empty ⟨.ref s.heap.objs.size,_,I.laid (a:=s.heap.objs.size) (o:=.dT []) (t':=s.toks) (λ_ _ q=>Hy _ q) (nlr _) (yK s.heap I.big),rfl,h _ (I.hok.fresh (nlr _))⟩
end
structure M1 (X:Cx)(o:Expr)(m:Str)(apos:Pos)(e:Expr)(cpos:Pos):Prop where
 base:attributeBase o m X.env (KW o X.env)=KW o X.env
 few:((KQ cpos (Ii [e] X.env)).all (λx=>!x.1)&&(backToKw cpos (KY [] X.env)).all (λx=>x.1.isSome)
  &&decide (([e]:List Expr).length+([]:List Keyword).length+(if ([]:List Keyword).isEmpty then 0 else 1)<30))=true
 line:(apos.endLine==cpos.line)=true
 trees:KQ cpos (Ii [e] X.env)=[(false,KW e X.env)]
structure M2 (X:Cx)(o:Expr)(m:Str)(apos:Pos)(e f:Expr)(cpos:Pos):Prop where
 base:attributeBase o m X.env (KW o X.env)=KW o X.env
 few:((KQ cpos (Ii [e,f] X.env)).all (λx=>!x.1)&&(backToKw cpos (KY [] X.env)).all (λx=>x.1.isSome)
  &&decide (([e,f]:List Expr).length+([]:List Keyword).length+(if ([]:List Keyword).isEmpty then 0 else 1)<30))=true
 line:(apos.endLine==cpos.line)=true
 trees:KQ cpos (Ii [e,f] X.env)=[(false,KW e X.env),(false,KW f X.env)]
def IsD (H:Hp)(a:Hm):Prop:=(∃kvs,Rd H a (.dK kvs))\/∃kvs,Rd H a (.dT kvs)
theorem BX {X:Cx}{pins:List (Hm×Obj)}{σ:St}{H:Hp}{s:Hl}{a:Hm}(I:Inv X pins σ H s)(d:IsD H a) :
  s.TypeIs (.ref a) "dict"/\(∀b,HY a=.ref b->∃ob,s.heap.get? b=some ob/\ob.dict=none)/\(a==JV)=false:=by
 rcases d with⟨kvs,e⟩|⟨kvs,e⟩
 ·obtain⟨_,hd,vs,_,dd⟩:=mw I.hok e
  refine⟨dd.typeIs,λb q=>?_,hd⟩
  cases q
  obtain⟨ob,_,_,h1,h2,_⟩:=dd
  exact⟨ob,h1,h2.2.1⟩
 ·obtain⟨_,hd,xs,_,dd⟩:=ph I.hok e
  refine⟨dd.typeIs,λb q=>?_,hd⟩
  cases q
  obtain⟨ob,_,_,h1,h2,_⟩:=dd
  exact⟨ob,h1,h2.2.1⟩
section
variable  {X:Cx}{pins:List (Hm×Obj)}{σ:St}{H:Hp}{s:Hl}{a:Hm}{y d:V}{u r:Value}{o:Option V}{A:Around}{E:Value->Hl->Prop}
theorem Du {Q:Value->Hl->Prop}(hu:A.units+1<cLine)(I:Inv X pins σ H s)(g:jM H a y o)(ry:a5 y u)(h:∀w' s',Inv X pins σ H s'->a5 (o.getD .non) w'->Q w' s') :
  Ig (Io X.prog X.w) A (call (.builtin "dict.get") [.ref a,u]) Q E s:=by
 rcases g with⟨kvs,k,e,ey,l⟩|⟨kvs,k,b,e,ey,eb,l⟩
 ·subst ey
  obtain⟨z,hd,vs,rel,dd⟩:=mw I.hok e
  refine call_meetsIn PySem.F.slot_dict_get dd.typeIs PySem.F.entry_dict_get (PySem.F.args_dict_get_2 _ _) (meets_dict_get (cD X.prog X.w) a (qt ry) hd) ⟨_,dd.mapOf,h _ _ (I.tok _) ?_⟩
  rw[l]
  exact(rel.val k).getD rfl
 ·subst ey
  cases (show u=HY b from ry)
  obtain⟨z,hd,xs,rel,dd⟩:=ph I.hok e
  refine call_meetsIn PySem.F.slot_dict_get dd.typeIs PySem.F.entry_dict_get (PySem.F.args_dict_get_2 _ _) (meetsH_dict_get (tupleKind (cD X.prog X.w)) a b hd) ⟨KU hu,k,xs,lm I.hok eb,dd,h _ _ (I.tok _) ?_⟩
  rw[l]
  exact(rel.val k).getD rfl
end
def B5 (td ty:TE):TE:=λσ H Q=>td σ H λx H1=>∃a,x=.ref a/\IsD H1 a/\ty σ H1 λy H2=>∃o,jM H2 a y o/\Q (o.getD .non) H2
section
variable  {X:Cx}{o e f:Expr}{apos cpos:Pos}{td ty tx:TE}
theorem y9 (hu:X.A.units+1<cLine)(ho:PE X o td)(he:PE X e ty) (m:M1 X o "get" apos e cpos):PE X (.Call (.Attribute o "get" apos) [e] [] cpos) (B5 td ty):=by
 intro pins s σ H Q I h
 refine wpAny_Call_method m.base m.few m.line PySem.F.plainAttrs_dict PySem.F.slot_dict_get PySem.F.type_dict_get (thn (ho pins s σ H _ I h) λu s1 ⟨x,H1,I1,rx,a,ex,d,q1⟩=>?_)
 subst ex
 obtain rfl:u=HY a:=rx
 obtain⟨t1,t2,_⟩:=BX I1 d
 refine⟨t1,t2,?_⟩
 rw[m.trees]
 refine Calls.callWith_builtin rfl (Calls.evalArgs_plain (Calls.spliced_cons (thn (he pins s1 σ H1 _ I1 q1) λiv s2 ⟨y,H2,I2,ry,ov,g,q2⟩=>Calls.spliced_nil ?_)))
 exact Du hu I2 g ry λw' s3 I3 rw'=>⟨_,H2,I3,rw',q2⟩
end
section
variable  {X:Cx}{pins:List (Hm×Obj)}{σ:St}{H:Hp}{s:Hl}{a:Hm}{kvs:List (Key×V)}{A:Around}{E:Value->Hl->Prop}
end
section
variable  {X:Cx}{pins:List (Hm×Obj)}{σ:St}{H:Hp}{s:Hl}{a:Hm}{y:V}{u:Value}{A:Around}{E:Value->Hl->Prop}
end
end L2
namespace L2
open PySem PySem.Spec PyProof.Rows
section
variable  {prog:Ih}{w:I0}{A:Around}{E:Value->Hl->Prop}
end
section
variable  {X:Cx}
end
end L2
namespace L2
open PySem PySem.Spec PyProof.Rows
theorem nZ:J9 "reversed"=some (.type "reversed"):=by decide +kernel
section
variable  {X:Cx}{pins:List (Hm×Obj)}{σ:St}{H:Hp}{s:Hl}{h':Heap}
theorem Inv.turnedL {t':Nat}{ch:List Hm}(I:Inv X pins σ H s)(k:∀b o,b∉ch->s.heap.get? b=some o->h'.get? b=some o)(hf:∀b∈ch,mI X pins H b):Inv X pins σ H { s with heap:=h',toks:=t' }:=by
 have nit:∀b u,H b=some u->b∉ch:=λb u e z=>by
  have q:=(hf b z).1
  rw[q]at e;cases e
 refine I.step (g':=s.gens) (d':=s.drawn) (ch:=ch) (λb hb=>⟨(hf b hb).2.2.2.1,(hf b hb).2.1,(hf b hb).2.2.2.2.1,(hf b hb).2.2.2.2.2⟩) (λb o _ _ hc e _=>k b o hc e) (λb o _ _ hc e _=>⟨o.slots,k b o hc e⟩)
  (λ_ _ _ _ n=>n) (λb o hc e=>⟨o,k b o hc e⟩) (λ_ _ e=>e) (λ_ _ _ e=>e) (λb ps e=>⟨#[],by rw[e];simp⟩) (λm hm=>?_) (λb u e=>?_) I.bare
 ·obtain⟨o,es,ep,ho,r⟩:=hm
  exact⟨o,es,ep,k _ o (λz=>(hf _ z).2.1 rfl) ho,r⟩
 ·refine(I.hok b u e).stay (λc v hc q=>k c v ?_ q) (λ_ q=>q) λ_ _ q=>q
  rcases hc with z|z
  ·rw[z];exact nit b u e
  ·exact nit c _ z
theorem Inv.turnedNew {t':Nat}{ch:List Hm}{T:Hm}{ob:HO}(I:Inv X pins σ H s)(k:∀b o,b∉ch->s.heap.get? b=some o->h'.get? b=some o)(hf:∀b∈ch,mI X pins H b)(hT:s.heap.objs.size<=T)
  (new:bY X.prog X.w (upd H T ob) h' T ob):Inv X pins σ (upd H T ob) { s with heap:=h',toks:=t' }:=by
 have hn:H T=none:=I.hok.fresh hT
 have nit:∀b u,H b=some u->b∉ch:=λb u e z=>by
  have q:=(hf b z).1
  rw[q]at e;cases e
 refine I.step (g':=s.gens) (d':=s.drawn) (ch:=ch) (λb hb=>⟨(hf b hb).2.2.2.1,(hf b hb).2.1,(hf b hb).2.2.2.2.1,(hf b hb).2.2.2.2.2⟩) (λb o _ _ hc e _=>k b o hc e) (λb o _ _ hc e _=>⟨o.slots,k b o hc e⟩)
  (λb o _ e n=>?_) (λb o hc e=>⟨o,k b o hc e⟩) (λb xs e=>?_) (λb o u e=>?_) (λb ps e=>⟨#[],?_⟩) (λm hm=>?_) (λb u e=>?_) I.bare
 ·rw[ao (Ij (HV (HB e) hT))];exact n
 ·rw[ao (aP e hn)];exact e
 ·rw[ao (aP e hn)];exact e
 ·rw[ao (aP e hn),e];simp
 ·obtain⟨o,es,ep,ho,r⟩:=hm
  exact⟨o,es,ep,k _ o (λz=>(hf _ z).2.1 rfl) ho,r⟩
 ·by_cases hb:b=T
  ·subst hb
   rw[ae]at e
   cases e
   exact new
  ·rw[ao hb]at e
   refine(I.hok b u e).stay (λc v hc q=>k c v ?_ q) (λc q=>by rw[ao (aP q hn)];exact q) λc xs q=>by rw[ao (aP q hn)];exact q
   rcases hc with z|z
   ·rw[z];exact nit b u e
   ·exact nit c _ z
theorem Inv.lock {d:Hm}{u:HO}(I:Inv X pins σ H s)(h:H d=some u)(mu:Mut (some u)):∃od,Inv X pins σ (upd H d (.frz od u)) s:=by
 have x:=I.hok d u h
 have ex:∃od,s.heap.get? d=some od:=by
  cases u with
  |lst xs=>obtain⟨_,_,_,_,e⟩:=x;exact⟨_,e⟩
  |dK kvs=>obtain⟨_,_,_,_,o,_,_,e,_⟩:=x;exact⟨o,e⟩
  |dT kvs=>obtain⟨_,_,_,_,o,_,_,e,_⟩:=x;exact⟨o,e⟩
  |set S n=>obtain⟨o,_,_,_,e,_⟩:=x;exact⟨o,e⟩
  |ins C dx fs=>obtain⟨_,_,_,e,_⟩:=x;exact⟨_,e⟩
  |ext φ=>obtain⟨_,⟨_,e⟩,_⟩:=x;exact⟨_,e⟩
  |_=>exact Jm mu
 obtain⟨od,e⟩:=ex
 have new:bY X.prog X.w (upd H d (.frz od u)) s.heap d (.frz od u):=by
  refine⟨e,x.stay (λb v _ q=>q) (λb q=>?_) λb xs q=>?_⟩
  ·rw[ao (λz=>by rw[z,h]at q;cases q;exact mu)];exact q
  ·rw[ao (λz=>by rw[z,h]at q;cases q;exact mu)];exact q
 exact⟨od,I.write (x:=d) (e:=d) (t':=s.toks) (h':=s.heap) (by rw[h];exact mu) (.inl rfl) (λb v _ q=>q) ⟨od,e⟩ new⟩
theorem Inv.nofrz {d:Hm}{u:HO}(I:Inv X pins σ H s)(h:H d=some u)(mu:Mut (some u)):∀o' u',X.H_0 d≠some (.frz o' u'):=λo' u' e=>by
 have q:=I.base.frzs d o' u' e
 rw[h]at q
 cases q
 exact mu
theorem Inv.unlock {d:Hm}{od:Obj}{u:HO}(I:Inv X pins σ H s)(h:H d=some (.frz od u))(hn:∀o' u',X.H_0 d≠some (.frz o' u')):Inv X pins σ (upd H d u) s:=by
 have neH:∀b o,H b=some o->(∀o' u',o≠.frz o' u')->b≠d:=λb o e hne z=>by
  rw[z,h]at e
  cases e
  exact hne _ _ rfl
 have neN:∀b,H b=none->b≠d:=λb e z=>by rw[z,h]at e;cases e
 refine⟨I.ok,I.os,I.bare,⟨I.base.keep,I.base.slot,λb o e n hx=>?_,I.base.there,λb xs e=>?_,λb o x e=>?_,λb ps e=>?_⟩,I.loc,I.cell,?_,λx c e=>?_,λp hp=>?_,λb o e=>?_,I.len⟩
 ·rw[ao (neN b (I.base.free b o e n hx))];exact I.base.free b o e n hx
 ·have q:=I.base.tups b xs e
  rw[ao (neH b _ q (λ_ _ z=>nomatch z))];exact q
 ·have q:=I.base.frzs b o x e
  rw[ao (λz=>by rw[z]at e;exact hn _ _ e)];exact q
 ·obtain⟨m,q⟩:=I.base.tbls b ps e
  exact⟨m,by rw[ao (neH b _ q (λ_ _ z=>nomatch z))];exact q⟩
 ·rw[ao (neN _ I.free)];exact I.free
 ·rw[ao (neN c (I.freeC x c e))];exact I.freeC x c e
 ·obtain⟨e,n,r⟩:=I.pin p hp
  exact⟨e,by rw[ao (neN _ n)];exact n,r⟩
 ·by_cases hb:b=d
  ·rw[hb,ae]at e
   cases e
   rw[hb]
   obtain⟨_,x⟩:=I.hok d _ h
   exact x.stay (λc v _ q=>q) (λc q=>by rw[ao (neH c _ q (λ_ _ z=>nomatch z))];exact q) λc xs q=>by rw[ao (neH c _ q (λ_ _ z=>nomatch z))];exact q
  ·rw[ao hb]at e
   exact(I.hok b o e).stay (λc v _ q=>q) (λc q=>by rw[ao (neH c _ q (λ_ _ z=>nomatch z))];exact q) λc xs q=>by rw[ao (neH c _ q (λ_ _ z=>nomatch z))];exact q
end
def Fz (t:TS):TS:=λD σ H=>∃d u,H d=some u/\Mut (some u)/\∀od,t ⟨λσ' H'=>H' d=some (.frz od u)/\D.nx σ' (upd H' d u),λv H'=>H' d=some (.frz od u)/\D.rt v (upd H' d u),λσ' H'=>H' d=some (.frz od u)/\D.bk σ' (upd H' d u),λσ' H'=>H' d=some (.frz od u)/\D.ct σ' (upd H' d u)⟩ σ (upd H d (.frz od u))
def Ca (t:TE):TE:=λσ H Q=>∃d u,H d=some u/\Mut (some u)/\∀od,t σ (upd H d (.frz od u)) λv H'=>H' d=some (.frz od u)/\Q v (upd H' d u)
section
variable  {X:Cx}
theorem Al {st:JO}{t:TS}(h:PS X st t):PS X st (Fz t):=by
 intro pins s σ H D I hw
 obtain⟨d,u,hd,mu,hw⟩:=hw
 obtain⟨od,I1⟩:=I.lock hd mu
 refine thn (h pins s σ _ _ I1 (hw od)) λf s1 q=>?_
 cases f with
 |next=>obtain⟨σ',H',I2,e,q⟩:=q;exact⟨σ',_,I2.unlock e (I.nofrz hd mu),q⟩
 |brk=>obtain⟨σ',H',I2,e,q⟩:=q;exact⟨σ',_,I2.unlock e (I.nofrz hd mu),q⟩
 |cont=>obtain⟨σ',H',I2,e,q⟩:=q;exact⟨σ',_,I2.unlock e (I.nofrz hd mu),q⟩
 |ret v=>obtain⟨x,σ',H',I2,r,e,q⟩:=q;exact⟨x,σ',_,I2.unlock e (I.nofrz hd mu),r,q⟩
theorem A3 {e:Expr}{t:TE}(h:PE X e t):PE X e (Ca t):=by
 intro pins s σ H Q I hw
 obtain⟨d,u,hd,mu,hw⟩:=hw
 obtain⟨od,I1⟩:=I.lock hd mu
 refine thn (h pins s σ _ _ I1 (hw od)) λv s1 ⟨x,H1,I2,r,e2,q⟩=>?_
 exact⟨x,_,I2.unlock e2 (I.nofrz hd mu),r,q⟩
theorem qJ {tg:Expr}{pins:List (Hm×Obj)}{σ:St}{H:Hp}{s:Hl}{R:It->Hp->Prop}{J:It}{tn:Nat->Heap->Prop}{tk:Nat}(I:Inv X pins σ H s)(o:Obj)
  (T:oh X.prog X.w X.K tg J [s.heap.objs.size] s.heap.objs.size tn) (st:tn 0 (s.heap.push o)) (q:R J H):PIE X pins σ tg R (.ref s.heap.objs.size) { s with heap:=s.heap.push o,toks:=tk }:=by
 refine⟨s.heap.objs.size,[s.heap.objs.size],tn,J,H,rfl,I.kept λb ob e=>Hy _ e,T,st,λb hb=>?_,q⟩
 have e:b=s.heap.objs.size:=by simpa using hb
 subst e
 exact I.fpOk (nlr _) (I.hok.fresh (nlr _))
end
def Itc (lo c:Int)(n:Nat):It:=⟨λi _=>i<n,λi H x H'=>H'=H/\x=.int (lo+(i:Nat)*c),λi _=>n<=i⟩
theorem tU {P:Ih}{w:I0}{K:IN}{tg:Expr}(it:Hm)(lo c:Int)(n:Nat):oh P w K tg (Itc lo c n) [it] it (λi h=>IsRangeIter h it (lo+(i:Nat)*c) ((n:Int)-(i:Nat)) c) where
 mem:=by simp
 obj:=λi h st b hb=>by
  have e:b=it:=by simpa using hb
  subst e
  exact⟨_,st,λv z=>nomatch z⟩
 keep:=λi h h' st k=>k it (by simp) _ st
 item:=by
  intro X hP hw hK hc i pins s σ H E I hf st hg
  subst hP hw hK
  obtain⟨f0,f1,f2,f3,f4,f5⟩:=hf it (by simp)
  have W:=Walks.range (prog:=X.prog) (w:=X.w) (I.ok.hd hc) it lo c n
  refine W.item i s _ _ hg st λv h' tk hv st' kk=>?_
  obtain⟨t,rfl⟩:=hv
  have I1:Inv X pins σ H { s with heap:=h',toks:=tk }:=I.turned (λb o hb e=>kk b o (by simpa using hb) e) f0 f1 f3 f4 f5
  exact⟨_,rfl,oo (s:={ s with heap:=h',toks:=tk }) (n:="range_iterator") st' rfl rfl (by decide) ⟨.int (lo+(i:Nat)*c),H,I1,⟨t,rfl⟩,⟨rfl,rfl⟩,st',λb hb=>(hf b hb).1⟩⟩
 done:=by
  intro X hP hw hK hc i pins s σ H E I hf st hg
  subst hP hw hK
  obtain⟨f0,f1,f2,f3,f4,f5⟩:=hf it (by simp)
  exact wpAny_pyNext_range_end (I.ok.hd hc) st (by have:n<=i:=hg;lia) λh' eb=>⟨rfl,I.turned (t':=s.toks) (λb o hb e=>eb b o hb e) f0 f1 f3 f4 f5⟩
 self:=λA i s Q E st h=>wpAny_pyIter_rangeiter st h
def RgC (i j c:Int)(n:Nat):Prop:=c≠0/\c.natAbs<1073741824/\Builtin.Range.small i j c=true/\J8 i j c=n
def Fd (ta:TA):TI:=λσ H R=>ta σ H λvs H1=>∃(i j c:Int) (n:Nat),vs=[.int i,.int j,.int c]/\RgC i j c n/\R (Itc i c n) H1
section
variable  {X:Cx}{tg:Expr}
theorem lA {a b c:Expr}{ta:TA}{p pos:Pos} (hg:Gl X "range") (hm:X.mg "range"=none) (ha:PA X [a,b,c] ta)
  (hs:Ii [a,b,c] X.env=(false,KW a X.env) :: Ii [b,c] X.env:=by rfl) (hpl:(KQ pos (Ii [b,c] X.env)).any (·.1)=false:=by rfl) :
  PI X tg (.Call (.Name "range" p) [a,b,c] [] pos) (Fd ta):=by
 intro pins s σ H R I h
 refine Call_ (gU I hg hm boot_range (Iz (thn (ha pos pins s σ H _ I h) λus s1 ⟨vs,H1,I1,r1,q1⟩=>?_) hs hpl))
 obtain⟨i,j,k,n,e,⟨c0,c1,c2,c3⟩,q⟩:=q1
 subst e
 cases r1 with
 |cons r rr =>
  cases rr with
  |cons r' rr =>
   cases rr with
   |cons r'' rr =>
    cases rr
    obtain⟨t,rfl⟩:=r
    obtain⟨t',rfl⟩:=r'
    obtain⟨t'',rfl⟩:=r''
    refine call_range_3 c0 ?_ (.inl (PyProof.noPylong_small c1))
    refine wpAny_pyIter_range (IsRange.new ..) c2 ?_
    have I2:Inv X pins σ H1 { s1 with heap:=s1.heap.push { cls:=.type "range",data:=.fields #[.int i t,.int j t',.int k t''] } }:=I1.kept (t':=s1.toks) λb o e=>Hy _ e
    refine qJ (tk:=s1.toks) I2 _ (tU _ i k n) ?_ q
    have e1:i+((0:Nat):Int)*k=i:=by simp
    have e2:(n:Int)-((0:Nat):Int)=J8 i j k:=by rw[c3];simp
    show IsRangeIter _ _ (i+((0:Nat):Int)*k) ((n:Int)-((0:Nat):Int)) k
    rw[e1,e2]
    exact HR _ rfl
end
def Itv (K:IN)(a:Hm)(n:Nat):It :=
 ⟨λi H=>i<n/\∃(xs:List V) (x:V),SqL K H a xs/\xs[n-1-i]? = some x,λi H x H'=>H'=H/\∀xs,SqL K H a xs->xs[n-1-i]? = some x,λi _=>n<=i⟩
theorem xW {P:Ih}{w:I0}{K:IN}{tg:Expr}(a it:Hm)(n:Nat):oh P w K tg (Itv K a n) [it] it (λi h=>i<=n/\h.IsRevIter it a ((n:Int)-1-(i:Nat))) where
 mem:=by simp
 obj:=λi h st b hb=>by
  have e:b=it:=by simpa using hb
  subst e
  obtain⟨_,o,e,c,d⟩:=st
  exact⟨o,e,λv z=>by rw[d]at z;cases z⟩
 keep:=λi h h' st k=>⟨st.1,st.2.at λo e=>k it (by simp) o e⟩
 item:=by
  intro X hP hw hK hc i pins s σ H E I hf st hg
  subst hP hw hK
  obtain⟨hin,xs,x,hq,hx⟩:=hg
  obtain⟨its,rv,p,hz⟩:=I.list hq
  obtain⟨u,hu,ru⟩:=rv.get hx
  obtain⟨f0,f1,f2,f3,f4,f5⟩:=hf it (by simp)
  obtain⟨_,hit⟩:=st
  have e1:(n:Int)-1-((i:Nat):Int)=((n-1-i:Nat):Int):=by lia
  rw[e1]at hit
  refine wpAny_pyNext_rev_item hit p.isList (x:=u) (by simpa using hu) λh' st' sb=>?_
  have e2:((n-1-i:Nat):Int)-1=(n:Int)-1-((i+1:Nat):Int):=by lia
  rw[e2]at st'
  have I1:Inv X pins σ H { s with heap:=h' }:=I.turned (t':=s.toks) (λb o hb e=>(sb.2 b hb).trans e) f0 f1 f3 f4 f5
  obtain⟨o,e,c,d⟩:=id st'
  exact⟨u,rfl,oo (s:={ s with heap:=h' }) e c d (by decide) ⟨x,H,I1,ru,⟨rfl,λys hy=>by rw[I.list_inj hy hq];exact hx⟩,⟨hin,st'⟩,λb hb=>(hf b hb).1⟩⟩
 done:=by
  intro X hP hw hK hc i pins s σ H E I hf st hg
  subst hP hw hK
  obtain⟨f0,f1,f2,f3,f4,f5⟩:=hf it (by simp)
  obtain⟨hin,hit⟩:=st
  have hge:n<=i:=hg
  have e1:(n:Int)-1-((i:Nat):Int)=-1:=by lia
  rw[e1]at hit
  exact wpAny_pyNext_rev_end (I.ok.hd hc) hit λh' eb=>⟨rfl,I.turned (t':=s.toks) (λb o hb e=>eb b o hb e) f0 f1 f3 f4 f5⟩
 self:=λA i s Q E st h=>wpAny_pyIter_revIter st.2 h
def Gz (K:IN)(ta:TA):TI:=λσ H R=>ta σ H λvs H1=>∃(a:Hm) (xs:List V),vs=[.ref a]/\SqL K H1 a xs/\R (Itv K a xs.length) H1
section
variable  {X:Cx}{tg:Expr}
theorem tw {e:Expr}{ta:TA}{p pos:Pos} (hg:Gl X "reversed") (hm:X.mg "reversed"=none) (ha:PA X [e] ta) (hs:Ii [e] X.env=[(false,KW e X.env)]:=by rfl):PI X tg (.Call (.Name "reversed" p) [e] [] pos) (Gz X.K ta):=by
 intro pins s σ H R I h
 refine Call_ (gU I hg hm nZ (Iz (thn (ha pos pins s σ H _ I h) λus s1 ⟨vs,H1,I1,r1,q1⟩=>?_) hs rfl))
 obtain⟨a,xs,e,hq,q⟩:=q1
 subst e
 cases r1 with
 |cons r rr =>
  cases rr
  cases r
  obtain⟨its,rv,p',hz⟩:=I1.list hq
  have hl:=rv.length
  have e1:((its.toArray.size:Nat):Int)-1=(xs.length:Int)-1-((0:Nat):Int):=by simp only[HA];lia
  refine call_reversed_list p'.isList (wpAny_pyIter_revIter (l:=a) (i:=((its.toArray.size:Nat):Int)-1) ⟨_,HR _ rfl,rfl,rfl⟩ ?_)
  refine qJ (tk:=s1.toks) I1 _ (xW a _ xs.length) ⟨IH _,?_⟩ q
  rw[<-e1]
  exact⟨_,HR _ rfl,rfl,rfl⟩
end
section
variable  {prog:Ih}{w:I0}{A:Around}{E:Value->Hl->Prop}{s:Hl}
theorem lP {d:Hm}{o:Obj}{es:Array DictEntry}{ep:Nat}{Q:Value->Hl->Prop}(hd:(d==JV)=false)(ho:s.heap.get? d=some o)(hc:o.ExactDict)(hdat:o.data=.dict es ep)
  (hQ:Q (.ref s.heap.objs.size) { s with heap:=s.heap.push { cls:=.type "dict_keyiterator",data:=.fields #[.ref d,.int 0 0,.int es.size 0,.int ep 0] } }) :
  Ig (Io prog w) A (pyIter (.ref d)) Q E s:=by
 have hT:s.TypeIs (.ref d) "dict":=⟨o,ho,hc.1⟩
 refine wpAny_pyIter_slot hT F.slot_dict_iter (J2 F.slot_dict_iter hT F.entry_dict_iter ?_ (F.args_dict_iter_1 _))
 unfold Builtin.«dict.__iter__»
 refine Hj ?_
 unfold Builtin.Dict.dictSlotNone
 refine Hj (wpAny_notOrdered_dict hT ?_)
 show Ig _ _ (pure (HY d)) _ _ s
 refine HL ?_
 show Ig _ _ (Builtin.Dict.showsAll d >>= _) _ _ s
 unfold Builtin.Dict.showsAll
 rw[Hs (by rw[hd];exact HG)]
 refine Hj (HL ?_)
 refine Hj (wpAny_dictEntries ho hdat ?_)
 refine Hj (wpAny_dictEpoch ho hdat ?_)
 refine Hj (wpAny_newObj_type (HL ⟨_,rfl,"dict_keyiterator",_,⟨_,HR _ rfl,rfl⟩,F.slot_dict_keyiterator_next.lookup,?_⟩))
 simpa [rawInt] using hQ
theorem jO {it d:Hm}{i n ep:Nat}{od:Obj}{es:Array DictEntry}{en:DictEntry}{Q:Option Value->Hl->Prop}(hit:s.heap.IsKeyIter it d i n ep)(hod:s.heap.get? d=some od)(hdd:od.data=.dict es ep)
  (hsz:es.size=n) (hx:es[i]? = some en) (hQ:∀h',h'.IsKeyIter it d (i+1) n ep->Heap.SameBut it s.heap h'->Q (some en.key) { s with heap:=h' }):Ig (Io prog w) A (pyNext (.ref it)) Q E s:=by
 obtain⟨o,ho,hc,hd⟩:=id hit
 unfold pyNext
 refine Hj (wpAny_attempt (KH (name:=Str.ofString "__next__") hit.typeIs F.slot_dict_keyiterator_next
  (J2 F.slot_dict_keyiterator_next hit.typeIs F.entry_dict_keyiterator_next ?_ (F.args_dict_keyiterator_next_1 _))))
 refine Hj (HL ?_)
 refine Hj ?_
 refine Hj ?_
 first|refine Hj (J3 hit.typeIs (HL ?_))|refine Hj (KE hit.typeIs (HL ?_))
 refine Hj (wpAny_fieldsOf ho hd ?_)
 have hown:Builtin.Dict_items.ownsTuple "dict_keyiterator"=false:=by decide
 simp only[hown,Bool.false_eq_true,Lf]
 show Ig _ _ (if (HY d==Lb)=true then _ else _) _ _ s
 rw[Hs (show ¬((HY d==Lb)=true) from HG)]
 refine Hj (HL ?_)
 refine Hj (wpAny_dictEntries hod hdd ?_)
 rw[Hs (by rw[hsz];simp)]
 refine Hj (HL ?_)
 refine Hj (wpAny_dictEpoch hod hdd ?_)
 rw[Hs (by simp)]
 refine HL ?_
 obtain⟨hlt',hen⟩:=Array.getElem?_eq_some_iff.mp hx
 simp only[show ¬((i:Int)<0) from by lia,Lf,IV,Lr hlt']
 refine Hj ?_
 first|refine Hj (J3 hit.typeIs (HL ?_))|refine Hj (KE hit.typeIs (HL ?_))
 refine Hj (wpAny_isOneOf_keyiter hit.typeIs ?_)
 show Ig _ _ (setField (.ref it) 1 (rawInt ((i:Int)+1)) >>= _) _ _ s
 refine Hj (wpAny_setField ho hd (by simp) ?_)
 have hit':(s.heap.update it (Obj.mapFields (·.setIfInBounds 1 (rawInt ((i:Int)+1))))).IsKeyIter it d (i+1) n ep :=
  ⟨_,JQ _ ho (Obj.isFreed_of_fields (Obj.data_mapFields hd _)),(Obj.cls_mapFields ..).trans hc,by rw[Obj.data_mapFields hd];simp[rawInt]⟩
 refine Hj (wpAny_holding ?_)
 refine Hj (wpAny_isOneOf_keyiter (s:={ s with heap:=s.heap.update it (Obj.mapFields (·.setIfInBounds 1 (rawInt ((i:Int)+1)))) }) hit'.typeIs ?_)
 show Ig _ _ (pure es[i].key) _ _ _
 rw[hen]
 exact HL (HL ⟨_,rfl,HL (hQ _ hit' (Heap.SameBut.update ..))⟩)
theorem iT {it d:Hm}{i n ep:Nat}{od:Obj}{es:Array DictEntry}{Q:Option Value->Hl->Prop}(hh:A.handled=none)(hit:s.heap.IsKeyIter it d i n ep)(hod:s.heap.get? d=some od)(hdd:od.data=.dict es ep)
  (hsz:es.size=n) (hge:n<=i) (hQ:∀h',Heap.ExtBut it s.heap h'->Q none { s with heap:=h' }):Ig (Io prog w) A (pyNext (.ref it)) Q E s:=by
 obtain⟨o,ho,hc,hd⟩:=id hit
 unfold pyNext
 refine Hj (wpAny_attempt (KH (name:=Str.ofString "__next__") hit.typeIs F.slot_dict_keyiterator_next
  (J2 F.slot_dict_keyiterator_next hit.typeIs F.entry_dict_keyiterator_next ?_ (F.args_dict_keyiterator_next_1 _))))
 refine Hj (HL ?_)
 refine Hj ?_
 refine Hj ?_
 first|refine Hj (J3 hit.typeIs (HL ?_))|refine Hj (KE hit.typeIs (HL ?_))
 refine Hj (wpAny_fieldsOf ho hd ?_)
 have hown:Builtin.Dict_items.ownsTuple "dict_keyiterator"=false:=by decide
 simp only[hown,Bool.false_eq_true,Lf]
 show Ig _ _ (if (HY d==Lb)=true then _ else _) _ _ s
 rw[Hs (show ¬((HY d==Lb)=true) from HG)]
 refine Hj (HL ?_)
 refine Hj (wpAny_dictEntries hod hdd ?_)
 rw[Hs (by rw[hsz];simp)]
 refine Hj (HL ?_)
 refine Hj (wpAny_dictEpoch hod hdd ?_)
 rw[Hs (by simp)]
 refine HL ?_
 have hge':es.size<=i:=by rw[hsz];exact hge
 simp only[show ¬((i:Int)<0) from by lia,Lf,IV,Array.getElem?_eq_none hge']
 refine Hj ?_
 first|refine Hj (J3 hit.typeIs (HL ?_))|refine Hj (KE hit.typeIs (HL ?_))
 show Ig _ _ (setField (.ref it) 0 .none >>= _) _ _ s
 refine Hj (wpAny_setField ho hd (by simp) ?_)
 show Ig _ _ (newExc (.type "StopIteration") [] >>= _) _ _ _
 refine Hj ?_
 simp only[newExc,newTuple]
 refine Hj (wpAny_newObj_type ?_ (by size_fits))
 refine Hj (m:=firstArgMember _ _) (wpAny_of_eq (a:=Lb) (by first|rfl|(simp only[firstArgMember];rfl)) ?_)
 refine wpAny_newObj_type ?_ (by size_fits)
 simp only[raiseNew]
 refine Hj (wpAny_handled ?_)
 rw[show A.in1.handled=none from hh]
 refine Hj (HL (wpAny_throw ?_))
 refine Hj (wpAny_isInstance (T:="StopIteration") (b:=true) ⟨_,HR _ rfl,rfl⟩ isSubtype_stop ?_)
 exact HL (hQ _ (((Heap.SameBut.update ..).extBut.push _).push _))
end
theorem Cs {κ:Type}{kvs:List (κ×V)}{vs:List (κ×Value)}(h:KV kvs vs):∀{i:Nat} {k:κ} {v:V},kvs[i]? = some (k,v)->∃u,vs[i]? = some (k,u)/\a5 v u:=by
 unfold KV at h
 induction h with
 |nil=>intro i k v e;simp at e
 |@cons a b l₁ l₂ r t ih =>
  intro i k v e
  cases i with
  |zero =>
   simp only[List.getElem?_cons_zero,Option.some.injEq]at e
   subst e
   refine⟨b.2,?_,r.2⟩
   simp only[List.getElem?_cons_zero]
   exact Jb some (Lg r.1.symm rfl)
  |succ j =>
   simp only[List.getElem?_cons_succ]at e ⊢
   exact ih e
theorem nj {α β:Type}{G:α->β->Prop}{l₁:List α}{l₂:List β}(h:Paired G l₁ l₂):∀{i:Nat} {a:α},l₁[i]? = some a->∃b,l₂[i]? = some b/\G a b:=by
 induction h with
 |nil=>intro i a e;simp at e
 |@cons a b l₁ l₂ r t ih =>
  intro i a' e
  cases i with
  |zero =>
   simp only[List.getElem?_cons_zero,Option.some.injEq]at e
   subst e
   exact⟨b,rfl,r⟩
  |succ j =>
   simp only[List.getElem?_cons_succ]at e ⊢
   exact ih e
theorem yI {k:Key}{u:Value}(h:lZ k u=true):a5 (kV k) u:=by
 rcases bV h with⟨i,t,rfl,rfl⟩|⟨x,t,rfl,rfl⟩
 ·exact⟨t,rfl⟩
 ·exact⟨t,rfl⟩
section
variable  {X:Cx}{pins:List (Hm×Obj)}{σ:St}{H:Hp}{s:Hl}{d:Hm}{o:Obj}
theorem Inv.frzK {kvs:List (Key×V)}(I:Inv X pins σ H s)(h:H d=some (.frz o (.dK kvs))) :
  (d==JV)=false/\s.heap.get? d=some o/\o.ExactDict/\∃(es:Array DictEntry) (ep:Nat) (vs:List (Key×Value)),o.data=.dict es ep/\es.size=kvs.length/\KV kvs vs/\s.heap.DictAt (cD X.prog X.w) d vs ep:=by
 obtain⟨hd,z,hs,vs,kv,o',es,ep,ho,hx,hdt,r⟩:=I.hok d _ h
 rw[hd]at ho
 cases ho
 refine⟨hs,hd,hx,es,ep,vs,hdt,?_,kv,o,es,hd,hx,hdt,r⟩
 have l1:=r.2.1.length
 have l2:kvs.length=vs.length:=Lc kv
 rw[JJ]at l1
 lia
theorem Inv.frzT {kvs:List (List Key×V)}(I:Inv X pins σ H s)(h:H d=some (.frz o (.dT kvs))) :
  (d==JV)=false/\s.heap.get? d=some o/\o.ExactDict/\∃(es:Array DictEntry) (ep:Nat),o.data=.dict es ep/\es.size=kvs.length /\
   ∀(i:Nat) (k:List Key) (v:V),kvs[i]? = some (k,v)->∃(en:DictEntry) (q:Hm),es[i]? = some en/\en.key=.ref q/\H q=some (.tup (k.map kV)):=by
 obtain⟨hd,z,hs,xs,pr,o',es,ep,ho,hx,hdt,he,_⟩:=I.hok d _ h
 rw[hd]at ho
 cases ho
 refine⟨hs,hd,hx,es,ep,hdt,?_,λi k v e=>?_⟩
 ·have l1:es.size=xs.length:=size_of_entries he
  have l2:kvs.length=xs.length:=Lc pr
  lia
 ·obtain⟨b,hb,e1,e2,_⟩:=nj pr e
  have q:=entry_at he i
  rw[hb]at q
  exact⟨_,b.2.1,q,rfl,e2⟩
end
def Itk (d:Hm)(o:Obj)(kvs:List (Key×V)):It :=
 ⟨λi H=>H d=some (.frz o (.dK kvs))/\i<kvs.length,λi H x H'=>H'=H/\∃k v,kvs[i]? = some (k,v)/\x=kV k,λi H=>H d=some (.frz o (.dK kvs))/\kvs.length<=i⟩
def zL (d:Hm)(o:Obj)(kvs:List (List Key×V)):It :=
 ⟨λi H=>H d=some (.frz o (.dT kvs))/\i<kvs.length,λi H x H'=>H'=H/\∃(k:List Key) (v:V) (q:Hm),kvs[i]? = some (k,v)/\x=.ref q/\H q=some (.tup (k.map kV)),λi H=>H d=some (.frz o (.dT kvs))/\kvs.length<=i⟩
theorem mX {o:Obj}{es es':Array DictEntry}{ep ep':Nat}(h:o.data=.dict es ep)(h':o.data=.dict es' ep'):es'=es/\ep'=ep:=by
 rw[h]at h'
 cases h'
 exact⟨rfl,rfl⟩
section
variable  {P:Ih}{w:I0}{K:IN}{tg:Expr}{d:Hm}{o:Obj}{es:Array DictEntry}{ep:Nat}
theorem wS {kvs:List (Key×V)}(it:Hm)(hod:o.data=.dict es ep):oh P w K tg (Itk d o kvs) [it] it (λi h=>h.IsKeyIter it d i kvs.length ep) where
 mem:=by simp
 obj:=λi h st b hb=>by
  have e:b=it:=by simpa using hb
  subst e
  obtain⟨oi,e,c,dd⟩:=st
  exact⟨oi,e,λv z=>by rw[dd]at z;cases z⟩
 keep:=λi h h' st k=>st.at λoi e=>k it (by simp) oi e
 item:=by
  intro X hP hw hK hc i pins s σ H E I hf st hg
  subst hP hw hK
  obtain⟨hd,hi⟩:=hg
  obtain⟨f0,f1,f2,f3,f4,f5⟩:=hf it (by simp)
  obtain⟨hs,hgd,hx,es',ep',vs,hdt,hsz,kv,hm⟩:=I.frzK hd
  obtain⟨rfl,rfl⟩:=mX hod hdt
  obtain⟨⟨k,v⟩,hkv⟩:∃p,kvs[i]? = some p:=⟨kvs[i],gge hi⟩
  obtain⟨u,hu,ru⟩:=Cs kv hkv
  have hl:kvs.length=vs.length:=Lc kv
  rw[hl]at st
  refine wpAny_pyNext_dict_item st hm hu λkey h' hkey st' sb=>?_
  have I1:Inv X pins σ H { s with heap:=h' }:=I.turned (t':=s.toks) (λb ob hb e=>(sb.2 b hb).trans e) f0 f1 f3 f4 f5
  obtain⟨oi,e,c,dd⟩:=id st'
  refine⟨key,rfl,oo (s:={ s with heap:=h' }) e c dd (by decide) ⟨kV k,H,I1,yI (show lZ k key=true from hkey),⟨rfl,k,v,hkv,rfl⟩,?_,λb hb=>(hf b hb).1⟩⟩
  show h'.IsKeyIter it d (i+1) kvs.length _
  rw[hl]
  exact st'
 done:=by
  intro X hP hw hK hc i pins s σ H E I hf st hg
  subst hP hw hK
  obtain⟨hd,hi⟩:=hg
  obtain⟨f0,f1,f2,f3,f4,f5⟩:=hf it (by simp)
  obtain⟨hs,hgd,hx,es',ep',vs,hdt,hsz,kv,hm⟩:=I.frzK hd
  obtain⟨rfl,rfl⟩:=mX hod hdt
  exact iT (I.ok.hd hc) st hgd hdt hsz hi λh' eb=>⟨rfl,I.turned (t':=s.toks) (λb ob hb e=>eb b ob hb e) f0 f1 f3 f4 f5⟩
 self:=λA i s Q E st h=>wpAny_pyIter_keyiter st h
theorem uI {kvs:List (List Key×V)}(it:Hm)(hod:o.data=.dict es ep):oh P w K tg (zL d o kvs) [it] it (λi h=>h.IsKeyIter it d i kvs.length ep) where
 mem:=by simp
 obj:=λi h st b hb=>by
  have e:b=it:=by simpa using hb
  subst e
  obtain⟨oi,e,c,dd⟩:=st
  exact⟨oi,e,λv z=>by rw[dd]at z;cases z⟩
 keep:=λi h h' st k=>st.at λoi e=>k it (by simp) oi e
 item:=by
  intro X hP hw hK hc i pins s σ H E I hf st hg
  subst hP hw hK
  obtain⟨hd,hi⟩:=hg
  obtain⟨f0,f1,f2,f3,f4,f5⟩:=hf it (by simp)
  obtain⟨hs,hgd,hx,es',ep',hdt,hsz,ent⟩:=I.frzT hd
  obtain⟨rfl,rfl⟩:=mX hod hdt
  obtain⟨⟨k,v⟩,hkv⟩:∃p,kvs[i]? = some p:=⟨kvs[i],gge hi⟩
  obtain⟨en,q,hen,hkey,hq⟩:=ent i k v hkv
  refine jO st hgd hdt hsz hen λh' st' sb=>?_
  have I1:Inv X pins σ H { s with heap:=h' }:=I.turned (t':=s.toks) (λb ob hb e=>(sb.2 b hb).trans e) f0 f1 f3 f4 f5
  obtain⟨oi,e,c,dd⟩:=id st'
  exact⟨en.key,rfl,oo (s:={ s with heap:=h' }) e c dd (by decide) ⟨.ref q,H,I1,hkey,⟨rfl,k,v,q,hkv,rfl,hq⟩,st',λb hb=>(hf b hb).1⟩⟩
 done:=by
  intro X hP hw hK hc i pins s σ H E I hf st hg
  subst hP hw hK
  obtain⟨hd,hi⟩:=hg
  obtain⟨f0,f1,f2,f3,f4,f5⟩:=hf it (by simp)
  obtain⟨hs,hgd,hx,es',ep',hdt,hsz,ent⟩:=I.frzT hd
  obtain⟨rfl,rfl⟩:=mX hod hdt
  exact iT (I.ok.hd hc) st hgd hdt hsz hi λh' eb=>⟨rfl,I.turned (t':=s.toks) (λb ob hb e=>eb b ob hb e) f0 f1 f3 f4 f5⟩
 self:=λA i s Q E st h=>by
  refine wpAny_pyIter_slot st.typeIs F.slot_dict_keyiterator_iter (J2 F.slot_dict_keyiterator_iter st.typeIs F.entry_dict_keyiterator_iter ?_ (F.args_dict_keyiterator_iter_1 _))
  show Ig _ _ (ret (.ref it)) _ _ s
  exact HL ⟨_,rfl,"dict_keyiterator",_,st.typeIs,F.slot_dict_keyiterator_next.lookup,h⟩
end
def Gf (td:TE):TI:=λσ H R=>td σ H λx H1=>∃d o,x=.ref d/\((∃kvs,H1 d=some (.frz o (.dK kvs))/\R (Itk d o kvs) H1)\/∃kvs,H1 d=some (.frz o (.dT kvs))/\R (zL d o kvs) H1)
section
variable  {X:Cx}{tg e:Expr}{td:TE}{apos cpos:Pos}
theorem vq (he:PE X e td):PI X tg e (Gf td):=by
 intro pins s σ H R I h
 refine thn (he pins s σ H _ I h) λu s1 ⟨x,H1,I1,rx,d,o,ex,q⟩=>?_
 subst ex
 obtain rfl:u=HY d:=rx
 rcases q with⟨kvs,hd,q⟩|⟨kvs,hd,q⟩
 ·obtain⟨hs,hgd,hx,es,ep,vs,hdt,hsz,kv,hm⟩:=I1.frzK hd
  refine lP hs hgd hx hdt (qJ (tk:=s1.toks) I1 _ (wS _ hdt) ⟨_,HR _ rfl,rfl,?_⟩ q)
  rw[hsz]<;>rfl
 ·obtain⟨hs,hgd,hx,es,ep,hdt,hsz,ent⟩:=I1.frzT hd
  refine lP hs hgd hx hdt (qJ (tk:=s1.toks) I1 _ (uI _ hdt) ⟨_,HR _ rfl,rfl,?_⟩ q)
  rw[hsz]<;>rfl
end
def Ite (K:IN)(a:Hm):It :=
 ⟨λi H=>∃(xs:List V) (x:V),SqL K H a xs/\xs[i]? = some x,λi H v H'=>∃T x,v=.ref T/\H T=none/\H'=upd H T (.tup [.int (i:Nat),x])/\∀xs,SqL K H a xs->xs[i]? = some x,λi H=>∃xs:List V,SqL K H a xs/\xs.length<=i⟩
theorem wJ {P:Ih}{w:I0}{K:IN}{elts:List Expr}{kk:Nat}{tpos:Pos}(a e it:Hm) :
  oh P w K (.Tuple elts kk tpos) (Ite K a) [e,it] e (λi h=>(∃old,IsEnum h e it ((i:Nat):Int) old)/\h.IsListIter it a i/\e≠it) where
 mem:=by simp
 obj:=λi h st b hb=>by
  obtain⟨⟨old,he⟩,⟨o,ho,hc,hd⟩,_⟩:=st
  have e':b=e\/b=it:=by simpa using hb
  rcases e' with z|z
  ·rw[z];exact⟨_,he,λv q=>nomatch q⟩
  ·rw[z];exact⟨o,ho,λv q=>by rw[hd]at q;cases q⟩
 keep:=λi h h' st k=>let ⟨⟨old,he⟩,hi,hne⟩:=st;⟨⟨old,k e (by simp) _ he⟩,hi.at λo q=>k it (by simp) o q,hne⟩
 item:=by
  intro X hP hw hK hc i pins s σ H E I hf st hg
  subst hP hw hK
  obtain⟨⟨old,he⟩,hit,hne⟩:=st
  obtain⟨xs,x,hq,hx⟩:=hg
  obtain⟨its,rv,p,hz⟩:=I.list hq
  obtain⟨u,hu,ru⟩:=rv.get hx
  have hel:e<s.heap.objs.size:=HB he
  have hil:it<s.heap.objs.size:=by obtain⟨_,q,_⟩:=hit;exact HB q
  refine wpAny_pyNext_enum_item he hit p.isList (x:=u) (by simpa using hu) hne λh' ho hit' hT hsz hk=>?_
  refine⟨_,rfl,wpAny_letOwnedTupleGo_enum (s:={ s with heap:=h',toks:=s.toks+1 }) ho λh'' he' sb=>?_⟩
  have hT2:h''.get? s.heap.objs.size=some { cls:=.type "tuple",data:=.seq #[.int i s.toks,u] }:=(sb.2 _ (JP hel)).trans hT
  have new:bY X.prog X.w (upd H s.heap.objs.size (.tup [.int (i:Nat),x])) h'' s.heap.objs.size (.tup [.int (i:Nat),x]) :=
   ⟨by show 2<=Hr;decide,[.int i s.toks,u],.cons ⟨_,rfl⟩ (.cons ru .nil),⟨_,hT2,rfl,_,rfl⟩⟩
  have I1:Inv X pins σ (upd H s.heap.objs.size (.tup [.int (i:Nat),x])) { s with heap:=h'',toks:=s.toks+1 } :=
   I.turnedNew (ch:=[e,it]) (λb ob hb q=>(sb.2 b (λz=>hb (by simp[z]))).trans (hk b ob (λz=>hb (by simp[z])) (λz=>hb (by simp[z])) q)) hf (nlr _) new
  refine⟨.ref s.heap.objs.size,_,I1,rfl,⟨_,x,rfl,I.hok.fresh (nlr _),rfl,λys hy=>by rw[I.list_inj hy hq];exact hx⟩,⟨⟨u,?_⟩,hit'.at λo q=>(sb.2 it (Ie hne)).trans q,hne⟩,λb hb=>?_⟩
  ·have e1:((i+1:Nat):Int)=(i:Int)+1:=by lia
   rw[e1];exact he'
  ·have hb':b<s.heap.objs.size:=by
    have e':b=e\/b=it:=by simpa using hb
    rcases e' with z|z
    ·rw[z];exact hel
    ·rw[z];exact hil
   rw[ao (Ij hb')]
   exact(hf b hb).1
 done:=by
  intro X hP hw hK hc i pins s σ H E I hf st hg
  subst hP hw hK
  obtain⟨⟨old,he⟩,hit,hne⟩:=st
  obtain⟨xs,hq,hx⟩:=hg
  obtain⟨its,rv,p,hz⟩:=I.list hq
  obtain⟨f0,f1,f2,f3,f4,f5⟩:=hf it (by simp)
  have hl:=rv.length
  exact wpAny_pyNext_enum_end (I.ok.hd hc) he hit p.isList (by simp;lia) λh' eb=>⟨rfl,I.turned (t':=s.toks) (λb o hb q=>eb b o hb q) f0 f1 f3 f4 f5⟩
 self:=λA i s Q E st h=>let ⟨⟨_,he⟩,_⟩:=st;wpAny_pyIter_enum he h
def D9 (K:IN)(ta:TA):TI:=λσ H R=>ta σ H λvs H1=>∃a xs,vs=[.ref a]/\SqL K H1 a xs/\R (Ite K a) H1
theorem dG {X:Cx}{e:Expr}{ta:TA}{p pos tpos:Pos}{elts:List Expr}{kk:Nat} (hg:Gl X "enumerate") (hm:X.mg "enumerate"=none) (ha:PA X [e] ta) (hs:Ii [e] X.env=[(false,KW e X.env)]:=by rfl) :
  PI X (.Tuple elts kk tpos) (.Call (.Name "enumerate" p) [e] [] pos) (D9 X.K ta):=by
 intro pins s σ H R I h
 refine Call_ (gU I hg hm boot_enumerate (Iz (thn (ha pos pins s σ H _ I h) λus s1 ⟨vs,H1,I1,r1,q1⟩=>?_) hs rfl))
 obtain⟨a,xs,ex,hq,q⟩:=q1
 subst ex
 cases r1 with
 |cons r rr =>
  cases rr
  cases r
  obtain⟨its,rv,p',hz⟩:=I1.list hq
  refine call_enumerate_list p'.isList λh' he hit hsz hk=>wpAny_pyIter_enum he ?_
  have I2:Inv X pins σ H1 { s1 with heap:=h' }:=I1.kept (t':=s1.toks) hk
  refine⟨s1.heap.objs.size+1,[s1.heap.objs.size+1,s1.heap.objs.size],_,_,H1,rfl,I2,wJ a (s1.heap.objs.size+1) s1.heap.objs.size,⟨⟨.none,he⟩,hit,Nat.succ_ne_self _⟩,λb hb=>?_,q⟩
  have e':b=s1.heap.objs.size+1\/b=s1.heap.objs.size:=by simpa using hb
  have hle:s1.heap.objs.size<=b:=by
   rcases e' with z|z
   ·rw[z];exact Jk _ _
   ·rw[z];exact nlr _
  exact I1.fpOk hle (I1.hok.fresh hle)
theorem wK:J9 "zip"=some (.type "zip"):=by decide +kernel
def Itz (K:IN)(a b:Hm):It :=
 ⟨λi H=>∃(xs ys:List V) (x y:V),SqL K H a xs/\SqL K H b ys/\xs[i]? = some x/\ys[i]? = some y,
  λi H v H'=>∃T x y,v=.ref T/\H T=none/\H'=upd H T (.tup [x,y])/\(∀xs,SqL K H a xs->xs[i]? = some x)/\∀ys,SqL K H b ys->ys[i]? = some y,
  λi H=>∃xs ys:List V,SqL K H a xs/\SqL K H b ys/\(xs.length<=i\/ys.length<=i)⟩
theorem yB {P:Ih}{w:I0}{K:IN}{elts:List Expr}{kk:Nat}{tpos:Pos}{a b z TI TO i1 i2:Hm}(D:ZipApart z TI TO i1 i2 a b) :
  oh P w K (.Tuple elts kk tpos) (Itz K a b) [z,TI,TO,i1,i2] z (λi h=>IsZip h z TI TO .none/\IsPair h TI (.ref i1) (.ref i2)/\(∃x y,IsPair h TO x y)/\h.IsListIter i1 a i/\h.IsListIter i2 b i) where
 mem:=by simp
 obj:=λi h st c hc=>by
  obtain⟨hz,hTI,⟨x,y,hTO⟩,⟨o1,e1,_,d1⟩,⟨o2,e2,_,d2⟩⟩:=st
  have e':c=z\/c=TI\/c=TO\/c=i1\/c=i2:=by simpa using hc
  rcases e' with q|q|q|q|q
  ·rw[q];exact⟨_,hz,λv q=>nomatch q⟩
  ·rw[q];exact⟨_,hTI,λv q=>nomatch q⟩
  ·rw[q];exact⟨_,hTO,λv q=>nomatch q⟩
  ·rw[q];exact⟨o1,e1,λv q=>by rw[d1]at q;cases q⟩
  ·rw[q];exact⟨o2,e2,λv q=>by rw[d2]at q;cases q⟩
 keep:=λi h h' st k=>by
  obtain⟨hz,hTI,⟨x,y,hTO⟩,h1,h2⟩:=st
  exact⟨k z (by simp) _ hz,k TI (by simp) _ hTI,⟨x,y,k TO (by simp) _ hTO⟩,h1.at λo q=>k i1 (by simp) o q,h2.at λo q=>k i2 (by simp) o q⟩
 item:=by
  intro X hP hw hK hc i pins s σ H E I hf st hg
  subst hP hw hK
  obtain⟨hz,hTI,⟨x0,y0,hTO⟩,h1,h2⟩:=st
  obtain⟨xs,ys,x,y,hqx,hqy,hx,hy⟩:=hg
  obtain⟨its,rv,p,_⟩:=I.list hqx
  obtain⟨its2,rv2,p2,_⟩:=I.list hqy
  obtain⟨u,hu,ru⟩:=rv.get hx
  obtain⟨u2,hu2,ru2⟩:=rv2.get hy
  have hzl:z<s.heap.objs.size:=HB hz
  refine wpAny_pyNext_zip_item D hz hTI hTO h1 h2 p.isList p2.isList (x:=u) (y:=u2) (by simpa using hu) (by simpa using hu2) λh' z' TO' h1' h2' hT hsz hk=>?_
  refine⟨_,rfl,wpAny_letOwnedTupleGo_zip (s:={ s with heap:=h' }) z' λh'' z'' sb=>?_⟩
  have hT2:h''.get? s.heap.objs.size=some { cls:=.type "tuple",data:=.seq #[u,u2] }:=(sb.2 _ (JP hzl)).trans hT
  have new:bY X.prog X.w (upd H s.heap.objs.size (.tup [x,y])) h'' s.heap.objs.size (.tup [x,y]) :=
   ⟨by show 2<=Hr;decide,[u,u2],.cons ru (.cons ru2 .nil),⟨_,hT2,rfl,_,rfl⟩⟩
  have I1:Inv X pins σ (upd H s.heap.objs.size (.tup [x,y])) { s with heap:=h'' } :=
   I.turnedNew (t':=s.toks) (ch:=[z,TI,TO,i1,i2]) (λc o hb q=>(sb.2 c (λq'=>hb (by simp[q']))).trans (hk c o (λq'=>hb (by simp[q'])) (λq'=>hb (by simp[q'])) (λq'=>hb (by simp[q'])) (λq'=>hb (by simp[q'])) q)) hf (nlr _) new
  refine⟨.ref s.heap.objs.size,_,I1,rfl,⟨_,x,y,rfl,I.hok.fresh (nlr _),rfl,λl hl=>by rw[I.list_inj hl hqx];exact hx,λl hl=>by rw[I.list_inj hl hqy];exact hy⟩,⟨z'',?_,⟨u,u2,?_⟩,?_,?_⟩,λc hcm=>?_⟩
  ·exact(sb.2 _ D.TIz).trans (hk _ _ D.TIz D.TITO D.TIi1 D.TIi2 hTI)
  ·exact(sb.2 _ D.TOz).trans TO'
  ·exact h1'.at λo q=>(sb.2 _ D.i1z).trans q
  ·exact h2'.at λo q=>(sb.2 _ D.i2z).trans q
  ·have hlt:c<s.heap.objs.size:=by
    have e':c=z\/c=TI\/c=TO\/c=i1\/c=i2:=by simpa using hcm
    rcases e' with q|q|q|q|q
    ·rw[q];exact hzl
    ·rw[q];exact HB hTI
    ·rw[q];exact HB hTO
    ·rw[q];obtain⟨_,e1,_⟩:=h1;exact HB e1
    ·rw[q];obtain⟨_,e2,_⟩:=h2;exact HB e2
   rw[ao (Ij hlt)]
   exact(hf c hcm).1
 done:=by
  intro X hP hw hK hc i pins s σ H E I hf st hg
  subst hP hw hK
  obtain⟨hz,hTI,⟨x0,y0,hTO⟩,h1,h2⟩:=st
  obtain⟨xs,ys,hqx,hqy,hend⟩:=hg
  obtain⟨its,rv,p,_⟩:=I.list hqx
  obtain⟨its2,rv2,p2,_⟩:=I.list hqy
  have l1:=rv.length
  have l2:=rv2.length
  have he:its.toArray[i]? = none\/its2.toArray[i]? = none:=by
   rcases hend with q|q
   ·exact .inl (by simp;lia)
   ·exact .inr (by simp;lia)
  exact wpAny_pyNext_zip_end (I.ok.hd hc) D hz hTI hTO h1 h2 p.isList p2.isList he λh' hk=>⟨rfl,I.turnedL (t':=s.toks) (ch:=[z,TI,TO,i1,i2]) (λc o hb q =>
   hk c o (λq'=>hb (by simp[q'])) (λq'=>hb (by simp[q'])) (λq'=>hb (by simp[q'])) (λq'=>hb (by simp[q'])) q) hf⟩
 self:=λA i s Q E st h=>wpAny_pyIter_zip st.1 h
def Gy (K:IN)(ta:TA):TI:=λσ H R=>ta σ H λvs H1=>∃a b xs ys,vs=[.ref a,.ref b]/\SqL K H1 a xs/\SqL K H1 b ys/\R (Itz K a b) H1
theorem yV {X:Cx}{e e2:Expr}{ta:TA}{p pos tpos:Pos}{elts:List Expr}{kk:Nat} (hg:Gl X "zip") (hm:X.mg "zip"=none) (ha:PA X [e,e2] ta)
  (hs:Ii [e,e2] X.env=(false,KW e X.env) :: Ii [e2] X.env:=by rfl) (hpl:(KQ pos (Ii [e2] X.env)).any (·.1)=false:=by rfl) :
  PI X (.Tuple elts kk tpos) (.Call (.Name "zip" p) [e,e2] [] pos) (Gy X.K ta):=by
 intro pins s σ H R I h
 refine Call_ (gU I hg hm wK (Iz (thn (ha pos pins s σ H _ I h) λus s1 ⟨vs,H1,I1,r1,q1⟩=>?_) hs hpl))
 obtain⟨a,b,xs,ys,ex,hqx,hqy,q⟩:=q1
 subst ex
 cases r1 with
 |cons r rr =>
  cases rr with
  |cons r' rr =>
   cases rr
   cases r
   cases r'
   obtain⟨its,rv,p1,_⟩:=I1.list hqx
   obtain⟨its2,rv2,p2,_⟩:=I1.list hqy
   have la:a<s1.heap.objs.size:=p1.lt
   have lb:b<s1.heap.objs.size:=p2.lt
   refine call_zip_2 p1.isList p2.isList λh' hz hTI hTO h1 h2 hsz hk=>wpAny_pyIter_zip hz ?_
   have I2:Inv X pins σ H1 { s1 with heap:=h' }:=I1.kept (t':=s1.toks) hk
   refine⟨s1.heap.objs.size+4,[s1.heap.objs.size+4,s1.heap.objs.size+2,s1.heap.objs.size+3,s1.heap.objs.size,s1.heap.objs.size+1],_,_,H1,rfl,I2,yB (PySem.W.ktu_apart s1.heap.objs.size a b la lb),⟨hz,hTI,⟨_,_,hTO⟩,h1,h2⟩,λc hcm=>?_,q⟩
   have e':c=s1.heap.objs.size+4\/c=s1.heap.objs.size+2\/c=s1.heap.objs.size+3\/c=s1.heap.objs.size\/c=s1.heap.objs.size+1:=by simpa using hcm
   have hle:s1.heap.objs.size<=c:=by
    rcases e' with z|z|z|z|z
    ·rw[z];exact Jk _ _
    ·rw[z];exact Jk _ _
    ·rw[z];exact Jk _ _
    ·rw[z];exact nlr _
    ·rw[z];exact Jk _ _
   exact I1.fpOk hle (I1.hok.fresh hle)
end L2
section
namespace Bits
open PySem PyProof.Rows
end Bits
end
section
namespace TL
open PySem PySem.Builtin PySem.Builtin.Str PySem.StrLaws
abbrev tl (x:Str):List Nat:=x.cps.toList
def pre (S l:List Nat):Bool:=l.take S.length==S
def par (S:List Nat):List Nat->List Nat->Option (List Nat×List Nat)
 |_,[]=>none
 |acc,c :: r=>if pre S (c :: r)=true then some (acc,(c :: r).drop S.length) else par S (acc++[c]) r
end TL
end
namespace L2
open PySem PySem.Spec PyProof.Rows
section
variable  {X:Cx}{pins:List (Hm×Obj)}{σ:St}{H:Hp}{s:Hl}{Q:VK}
end
section
variable  {X:Cx}
end
section
variable  {X:Cx}{o e:Expr}{to te:TE}
end
end L2
namespace L2
open PySem PySem.Spec PyProof.Rows
section
variable  {X:Cx}
end
end L2
namespace Att
open PySem PySem.W PySem.Calls PyProof.Rows
section
variable  {prog:Ih}{w:I0}{A:Around}{E:Value->Hl->Prop}{s:Hl}{K:IN}
end
end Att
namespace L2
open PySem PySem.Spec PyProof.Rows
theorem qf:∀{vs:List Value} {ns:List Int},IntsAre vs ns->aT (ns.map V.int) vs
 |_,_,.nil=>.nil
 |_,_,.cons n t h=>.cons ⟨t,rfl⟩ (qf h)
def D8 (H:Hp):Prop:=∀b,H b=none\/∃o xs,H b=some (.frz o (.lst xs))
theorem Gc {P:Ih}{w:I0}{K:IN}{mg mb:Str->Option Value}{CX:CXT}{k:Nat}{fa a:Hm}{fd:Le}{x:Str}{sp:Sp}{s₁:Hl}{vs:List Value}{ns:List Int}
  (KX:K.In s₁.heap) (hns:s₁.heap.Ns Im mg) (hb:s₁.heap.Ns builtinsNs mb) (hbb:∀x:Str,x≠"__name__"->mb x=J9 x) (hlim:s₁.heap.NoLimit) (hg:s₁.gens=#[])
  (ha:s₁.heap.get? a=some { cls:=.type "list",data:=.seq vs.toArray }) (hi:IntsAre vs ns) (hl:ns.length<=Hr) (hr:bA k callerA)
  (F:∀base:Heap,K.In base->base.Ns Im mg->js P w K mg base CX k fa fd [x] sp) (hbind:∀(s:Hl) (u:Value),BindsTo s fd ⟨[u],[]⟩ [(x,u)])
  (hsp:∀H:Hp,D8 H->SqL K H a (ns.map V.int)->sp [.ref a] H (λv _=>v=.bl true) λ_ _ _=>False)
  (hCX:∀H e s',CX [] H s₁ (λ_ _ _=>False) e s'->False) :
  codeAny (Io P w) callerA (.call (.ref fa) ⟨[.ref a],[]⟩) (λr s'=>r=.ok (.ret (.bool true))/\OldK s₁.heap s'.heap/\s'.os=s₁.os/\AllBare s'.gens) s₁:=by
 have rv:=qf hi
 have lenV:=hi.length
 have zt:∀H:Hp,D8 H->SqL K H a (ns.map V.int)->HOk P w H s₁.heap->(∀b,H b≠none->b=a)->(H a≠none->K.lookup a=none) ->
   codeAny (Io P w) callerA (.call (.ref fa) ⟨[.ref a],[]⟩) (λr s'=>r=.ok (.ret (.bool true))/\OldK s₁.heap s'.heap/\s'.os=s₁.os/\AllBare s'.gens) s₁:=by
  intro H hO hS hok hA hK
  have base_of:∀{b:Hm} {o:Obj},s₁.heap.get? b=some o->H b=none->(kH s₁.heap H).get? b=some o:=λe n=>sX e n
  have noA:∀{b:Hm} {o:Obj} {es:Array DictEntry} {ep:Nat},s₁.heap.get? b=some o->o.data=.dict es ep->H b=none:=λ{b o es ep} e d=>by
   cases q:H b with
   |none=>rfl
   |some u =>
    have e':b=a:=hA b (by rw[q];simp)
    subst e'
    rw[ha]at e;cases e
    have d':Data.seq vs.toArray _=Data.dict es ep:=d
    cases d'
  have nsK:∀{b:Hm} {m:Str->Option Value},s₁.heap.Ns b m->(kH s₁.heap H).Ns b m:=λ{b m} ⟨o,es,ep,e,d,r⟩=>⟨o,es,ep,base_of e (noA e d),d,r⟩
  have hKb:K.In (kH s₁.heap H):=λb o e=>base_of (KX b o e) (by
   cases q:H b with
   |none=>rfl
   |some u =>
    have e':b=a:=hA b (by rw[q];simp)
    subst e'
    rw[hK (by rw[q];simp)]at e;cases e)
  have hM:Mod K mg (kH s₁.heap H):=⟨hKb,nsK hns,⟨mb,nsK hb,hbb⟩,let ⟨mc,h1,h2⟩:=hlim;⟨mc,nsK h1,h2⟩⟩
  have e0:tm P w K mg (kH s₁.heap H) callerA [] s₁ H:=⟨rfl,hM,λb o e=>vd e,Nat.le_of_eq (pN _ _),trivial,λb hb=>absurd (show b∈([]:List Hm) from hb) (by simp),hok,.of_eq hg⟩
  refine codeAny_mono ((F _ hKb (nsK hns)).run callerA [] s₁ H ⟨[.ref a],[]⟩ [.ref a] [.ref a] _ _ hr e0 (hbind s₁ (.ref a)) (.cons rfl .nil) (hsp H hO hS)) λr s' h=>?_
  cases r with
  |error e=>exact(hCX H e s' h).elim
  |ok fl =>
   cases fl with
   |next=>exact Jm h
   |brk=>exact Jm h
   |cont=>exact Jm h
   |ret u =>
    obtain⟨v,H',os,bare,un,hok',r',q⟩:=h
    have q':v=.bl true:=q
    subst q'
    obtain rfl:u=Value.bool true:=r'
    refine⟨rfl,OldK.of_keep λb o e=>?_,os,bare⟩
    cases q:H b with
    |none=>exact un.keep b o e q (by intro z;exact absurd (show b∈([]:List Hm) from z) (by simp)) (by simp)
    |some u =>
     rcases hO b with z|⟨ob,xs,z⟩
     ·rw[q]at z;cases z
     ·have z2:=un.frzs b ob _ z
      obtain⟨e1,_⟩:=hok b _ z
      obtain⟨e2,_⟩:=hok' b _ z2
      rw[e]at e1;cases e1
      exact e2
 cases hk:K.lookup a with
 |some o =>
  have e:=KX a o hk
  rw[ha]at e
  cases e
  refine zt (λ_=>none) (λ_=>.inl rfl) (.inr ⟨_,vs.toArray,_,hk,rfl,rfl,rfl,by rw[HA,lenV];exact hl,by simpa using rv⟩) (λb u z=>by have z':(none:Option HO)=some u:=z;cases z') (λb z=>absurd rfl z) λz=>absurd rfl z
 |none =>
  refine zt (λb=>if b=a then some (.frz { cls:=.type "list",data:=.seq vs.toArray } (.lst (ns.map V.int))) else none) (λb=>?_) (.inl (.inr ⟨{ cls:=.type "list",data:=.seq vs.toArray },Hz rfl⟩)) (λb u z=>?_) (λb z=>?_) λ_=>hk
  ·by_cases hb:b=a
   ·exact .inr ⟨_,_,Hz hb⟩
   ·exact .inl (Hs hb)
  ·by_cases hb:b=a
   ·have z':=(Hz hb).symm.trans z
    cases z'
    subst hb
    exact⟨ha,by rw[lmp];exact hl,vs,_,rv,ha⟩
   ·have z':=(Hs hb).symm.trans z
    cases z'
  ·by_cases hb:b=a
   ·exact hb
   ·exact absurd (Hs hb) z
end L2
namespace L2
open PySem PySem.Spec PyProof.Rows
end L2
namespace L2
open PySem PySem.Spec PyProof.Rows
open PySem.W (WData Codec OpenSpec Well WellAll ReadsW ReadsAllW)
mutual
inductive Dw (K:IN)(H:Hp):V->WData->Prop
 |non:Dw K H .non .none
 |bl (b:Bool):Dw K H (.bl b) (.bool b)
 |int (i:Int):Dw K H (.int i) (.int i)
 |str (x:Str):Dw K H (.str x) (.str x)
 |byt (b:Array UInt8):Dw K H (.byt b) (.bytes b.toList)
 |lst {a:Hm} {xs:List V} {ds:List WData}:SqL K H a xs->ig K H xs ds->Dw K H (.ref a) (.list ds)
 |tup {a:Hm} {xs:List V} {ds:List WData}:SqT K H a xs->ig K H xs ds->Dw K H (.ref a) (.tuple ds)
inductive ig (K:IN)(H:Hp):List V->List WData->Prop
 |nil:ig K H [] []
 |cons {v:V} {vs:List V} {d:WData} {ds:List WData}:Dw K H v d->ig K H vs ds->ig K H (v :: vs) (d :: ds)
end
theorem wg {K:IN}{H:Hp}:∀ns:List Int,ig K H (ns.map V.int) (ns.map WData.int)
 |[]=>.nil
 |n :: r=>.cons (.int n) (wg r)
theorem mO {K:IN}{H:Hp}:∀(ns:List Int) (xs:List V),ig K H xs (ns.map WData.int)->xs=ns.map V.int
 |[],xs,h=>by
  cases h
  rfl
 |n :: r,xs,h=>by
  cases h with
  |cons h1 h2 =>
   cases h1
   rw[mO r _ h2]<;>rfl
section
variable  {P:Ih}{w:I0}{K:IN}{H:Hp}{h:Heap}{R:PySem.W.WRecords}{cl:Str->Option Hm}
theorem De {a:Hm}{xs:List V}(hok:HOk P w H h)(KX:K.In h)(q:SqL K H a xs):∃(its:List Value) (o:Obj) (n:Nat),aT xs its/\h.get? a=some o/\o.cls=.type "list"/\o.data=.seq its.toArray n:=by
 rcases q with q|⟨o,its,n,e,hc,_,hd,_,hv⟩
 ·obtain⟨_,its,n,hv,e⟩:=(show bY P w H h a (.lst xs) from q.ok hok)
  exact⟨its,_,n,hv,e,rfl,rfl⟩
 ·exact⟨its.toList,o,n,hv,KX _ _ e,hc,by simp[hd]⟩
theorem Cr {a:Hm}{xs:List V}(hok:HOk P w H h)(KX:K.In h)(q:SqT K H a xs):∃(its:List Value) (o:Obj) (n:Nat),aT xs its/\h.get? a=some o/\o.cls=.type "tuple"/\o.data=.seq its.toArray n:=by
 rcases q with q|⟨o,its,n,e,hc,hd,_,hv⟩
 ·obtain⟨_,its,hv,o,e,hc,n,hd⟩:=(show bY P w H h a (.tup xs) from q.ok hok)
  exact⟨its,o,n,hv,e,hc,hd⟩
 ·exact⟨its.toList,o,n,hv,KX _ _ e,hc,by simp[hd]⟩
mutual
theorem Dw.reads (hok:HOk P w H h)(KX:K.In h):∀(d:WData) (v:V) (u:Value),Dw K H v d->a5 v u->∃as,ReadsW R cl h u d as
 |.none,_,_,x,r=>by
  cases x
  cases r
  exact⟨_,ReadsW.none⟩
 |.bool b,_,_,x,r=>by
  cases x
  cases r
  exact⟨_,ReadsW.bool b⟩
 |.int i,_,_,x,r=>by
  cases x
  obtain⟨t,rfl⟩:=r
  exact⟨_,ReadsW.int i t⟩
 |.str s,_,_,x,r=>by
  cases x
  obtain⟨t,rfl⟩:=r
  exact⟨_,ReadsW.str s t⟩
 |.bytes b,_,_,x,r=>by
  cases x
  obtain⟨t,rfl⟩:=r
  exact⟨_,ReadsW.bytes _ t⟩
 |.list ds,_,_,x,r=>by
  cases x with
  |lst hs ha =>
   cases r
   obtain⟨its,o,n,rv,ho,hc,hd⟩:=De hok KX hs
   obtain⟨as,hr⟩:=Dw.readsAll hok KX ds _ its ha rv
   exact⟨_,ReadsW.list ho hc hd hr⟩
 |.tuple ds,_,_,x,r=>by
  cases x with
  |tup hs ha =>
   cases r
   obtain⟨its,o,n,rv,ho,hc,hd⟩:=Cr hok KX hs
   obtain⟨as,hr⟩:=Dw.readsAll hok KX ds _ its ha rv
   exact⟨_,ReadsW.tuple ho hc hd hr⟩
 |.float _,_,_,x,_=>by cases x
 |.dict _,_,_,x,_=>by cases x
 |.bytearray _,_,_,x,_=>by cases x
 |.set _,_,_,x,_=>by cases x
 |.frozenset _,_,_,x,_=>by cases x
 |.obj _ _,_,_,x,_=>by cases x
theorem Dw.readsAll (hok:HOk P w H h)(KX:K.In h):∀(ds:List WData) (vs:List V) (us:List Value),ig K H vs ds->aT vs us->∃as,ReadsAllW R cl h us ds as
 |[],_,_,x,r=>by
  cases x
  cases r
  exact⟨_,ReadsAllW.nil⟩
 |d :: ds,_,_,x,r=>by
  cases x with
  |cons h1 h2 =>
   cases r with
   |cons r1 r2 =>
    obtain⟨as,q1⟩:=Dw.reads hok KX d _ _ h1 r1
    obtain⟨bs,q2⟩:=Dw.readsAll hok KX ds _ _ h2 r2
    exact⟨_,ReadsAllW.cons q1 q2⟩
end
end
mutual
def plW:WData->Bool
 |.none=>true
 |.bool _=>true
 |.int _=>true
 |.str _=>true
 |.bytes _=>true
 |.list xs=>mH xs
 |.tuple xs=>mH xs
 |_=>false
def mH:List WData->Bool
 |[]=>true
 |x :: r=>plW x&&mH r
end
theorem rW {α:Type}{f:α->WData}(h:∀a,plW (f a)=true):∀l:List α,mH (l.map f)=true
 |[]=>rfl
 |x :: r=>by
  show(plW (f x)&&mH (r.map f))=true
  rw[h x,rW h r]<;>rfl
theorem je:∀(c:Codec) (a:c.denote),plW (c.enc a)=true
 |.unit,_=>rfl
 |.bool,_=>rfl
 |.int _ _,_=>rfl
 |.nat _ _,_=>rfl
 |.u8,_=>rfl
 |.bytes _ _,_=>rfl
 |.text _ _ _ _,_=>rfl
 |.list _ _ c,a=>rW (λx=>je c x) a
 |.pair c d,a=>by
  show(plW (c.enc a.1)&&(plW (d.enc a.2)&&true))=true
  rw[je c a.1,je d a.2]<;>rfl
 |.triple c d e,a=>by
  show(plW (c.enc a.1)&&(plW (d.enc a.2.1)&&(plW (e.enc a.2.2)&&true)))=true
  rw[je c a.1,je d a.2.1,je e a.2.2]<;>rfl
 |.option c,none=>rfl
 |.option c,some x=>je c x
theorem pP:∀(cs:List Codec) (a:Codec.denoteAll cs),mH (LG cs a)=true
 |[],_=>rfl
 |c :: cs,a=>by
  show(plW (c.enc a.1)&&mH (LG cs a.2))=true
  rw[je c a.1,pP cs a.2]<;>rfl
theorem jW:∀{xs:List WData} {d:WData},d∈xs->d.weight<=WData.weightAll xs
 |[],d,h=>absurd h (by simp)
 |x :: r,d,h=>by
  show d.weight<=x.weight+1+WData.weightAll r
  rcases Hq.mp h with e|m
  ·rw[e]
   lia
  ·have z:=jW m
   lia
def toV:Value->V
 |.none=>.non
 |.bool b=>.bl b
 |.int i _=>.int i
 |.str x _=>.str x
 |.bytes b _=>.byt b
 |.ref a=>.ref a
 |_=>.non
def OkU (A:List Hm):Value->Prop
 |.none=>True
 |.bool _=>True
 |.int _ _=>True
 |.str _ _=>True
 |.bytes _ _=>True
 |.ref a=>a∈A
 |_=>False
theorem OkU.mono {A B:List Hm}(h:∀a∈A,a∈B):∀{u:Value},OkU A u->OkU B u:=λ{u} x=>by
 cases u with
 |ref a=>exact h a x
 |none=>trivial
 |bool b=>trivial
 |int i t=>trivial
 |str s t=>trivial
 |bytes b t=>trivial
 |_=>exact Jm x
theorem zO {A:List Hm}{u:Value}(x:OkU A u):a5 (toV u) u:=by
 cases u with
 |ref a=>rfl
 |none=>rfl
 |bool b=>rfl
 |int i t=>exact⟨t,rfl⟩
 |str s t=>exact⟨t,rfl⟩
 |bytes b t=>exact⟨t,rfl⟩
 |_=>exact Jm x
theorem gX {A:List Hm}:∀{vs:List Value},(∀u∈vs,OkU A u)->aT (vs.map toV) vs
 |[],_=>.nil
 |u :: r,h=>.cons (zO (h u (HD ..))) (gX λx hx=>h x (Ho _ hx))
def i6 (h:Heap)(A:List Hm)(a:Hm):Prop:=∃vs:List Value,vs.length<=Hr/\(∀u∈vs,OkU A u) /\
 (h.get? a=some { cls:=.type "list",data:=.seq vs.toArray }\/h.get? a=some { cls:=.type "tuple",data:=.seq vs.toArray })
theorem i6.mono {h:Heap}{A B:List Hm}{a:Hm}(k:∀a∈A,a∈B)(x:i6 h A a):i6 h B a:=by
 obtain⟨vs,h1,h2,h3⟩:=x
 exact⟨vs,h1,λu hu=>(h2 u hu).mono k,h3⟩
theorem gD {P:Params}{h:Heap}:∀{vs:List Value} {ds:List WData},WellAll P h vs ds->vs.length=ds.length
 |_,_,.nil=>rfl
 |_,_,.cons _ b=>by
  show _+1=_+1
  rw[gD b]
theorem pK {P:Params}{h:Heap}{v:Value}{ds:List WData}(x:Well P h v (.list ds)):∃(a:Hm) (vs:List Value),v=.ref a/\h.get? a=some { cls:=.type "list",data:=.seq vs.toArray }/\WellAll P h vs ds:=by
 cases x with
 |list ho hall=>exact⟨_,_,rfl,ho,hall⟩
theorem oN {P:Params}{h:Heap}{v:Value}{ds:List WData}(x:Well P h v (.tuple ds)):∃(a:Hm) (vs:List Value),v=.ref a/\h.get? a=some { cls:=.type "tuple",data:=.seq vs.toArray }/\WellAll P h vs ds:=by
 cases x with
 |tuple ho hall=>exact⟨_,_,rfl,ho,hall⟩
theorem pI {P:Params}{h:Heap}{us:List Value}{d:WData}{ds:List WData}(x:WellAll P h us (d :: ds)):∃(v:Value) (vs:List Value),us=v :: vs/\Well P h v d/\WellAll P h vs ds:=by
 cases x with
 |cons a b=>exact⟨_,_,rfl,a,b⟩
theorem rH {n:Nat}(h:n<=1048576):n<=Hr:=Ik h (by decide)
section
variable  {P:Params}{h:Heap}
mutual
theorem zi:∀(d:WData) (v:Value),Well P h v d->plW d=true->d.weight<=1048576->∃A:List Hm,OkU A v/\∀a∈A,i6 h A a
 |.none,_,x,_,_=>by
  cases x
  exact⟨[],trivial,λa m=>absurd m (by simp)⟩
 |.bool b,_,x,_,_=>by
  cases x
  exact⟨[],trivial,λa m=>absurd m (by simp)⟩
 |.int i,_,x,_,_=>by
  cases x
  exact⟨[],trivial,λa m=>absurd m (by simp)⟩
 |.str s,_,x,_,_=>by
  cases x
  exact⟨[],trivial,λa m=>absurd m (by simp)⟩
 |.bytes b,_,x,_,_=>by
  cases x
  exact⟨[],trivial,λa m=>absurd m (by simp)⟩
 |.list ds,_,x,p,z=>by
  obtain⟨a,vs,rfl,ho,hall⟩:=pK x
  have z2:WData.weightAll ds<=1048576:=z
  obtain⟨A,h1,h2⟩:=kz ds _ hall p λd hd=>Ik (jW hd) z2
  have k:∀b∈A,b∈a :: A:=λb hb=>Ho _ hb
  refine⟨a :: A,HD ..,λb hb=>?_⟩
  rcases Hq.mp hb with e|m
  ·rw[e]
   exact⟨vs,rH (by rw[gD hall];exact Ik (PySem.W.length_le_weightAllW ds) z2),λu hu=>(h1 u hu).mono k,.inl ho⟩
  ·exact(h2 b m).mono k
 |.tuple ds,_,x,p,z=>by
  obtain⟨a,vs,rfl,ho,hall⟩:=oN x
  have z2:WData.weightAll ds<=1048576:=z
  obtain⟨A,h1,h2⟩:=kz ds _ hall p λd hd=>Ik (jW hd) z2
  have k:∀b∈A,b∈a :: A:=λb hb=>Ho _ hb
  refine⟨a :: A,HD ..,λb hb=>?_⟩
  rcases Hq.mp hb with e|m
  ·rw[e]
   exact⟨vs,rH (by rw[gD hall];exact Ik (PySem.W.length_le_weightAllW ds) z2),λu hu=>(h1 u hu).mono k,.inr ho⟩
  ·exact(h2 b m).mono k
 |.float _,_,_,p,_=>IT (show false=true from p)
 |.dict _,_,_,p,_=>IT (show false=true from p)
 |.bytearray _,_,_,p,_=>IT (show false=true from p)
 |.set _,_,_,p,_=>IT (show false=true from p)
 |.frozenset _,_,_,p,_=>IT (show false=true from p)
 |.obj _ _,_,_,p,_=>IT (show false=true from p)
theorem kz:∀(ds:List WData) (vs:List Value),WellAll P h vs ds->mH ds=true->(∀d∈ds,d.weight<=1048576)->∃A:List Hm,(∀u∈vs,OkU A u)/\∀a∈A,i6 h A a
 |[],_,x,_,_=>by
  cases x
  exact⟨[],λu m=>absurd m (by simp),λa m=>absurd m (by simp)⟩
 |d :: ds,_,x,p,z=>by
  obtain⟨v,vs,rfl,x1,x2⟩:=pI x
  have q:plW d=true/\mH ds=true:=Jp.mp p
  obtain⟨A,a1,a2⟩:=zi d v x1 q.1 (z d (HD ..))
  obtain⟨B,b1,b2⟩:=kz ds vs x2 q.2 λe he=>z e (Ho _ he)
  have kA:∀b∈A,b∈A++B:=λb hb=>HU.mpr (.inl hb)
  have kB:∀b∈B,b∈A++B:=λb hb=>HU.mpr (.inr hb)
  refine⟨A++B,λu hu=>?_,λb hb=>?_⟩
  ·rcases Hq.mp hu with e|m
   ·rw[e]
    exact a1.mono kA
   ·exact(b1 u m).mono kB
  ·rcases HU.mp hb with m|m
   ·exact(a2 b m).mono kA
   ·exact(b2 b m).mono kB
end
end
def Ae (o:Obj):Option HO:=match o.data with
 |.seq vs _=>if (o.cls==Value.type "list")=true then some (.frz o (.lst (vs.toList.map toV))) else some (.frz o (.tup (vs.toList.map toV)))
 |_=>none
def iL (K:IN)(h:Heap)(A:List Hm):Hp:=λb=>if b∈A then (if (K.lookup b).isNone=true then (h.get? b).bind Ae else none) else none
def pR (H:Hp):Prop:=∀b,H b=none\/∃o u,H b=some (.frz o u)
theorem sf (vs:List Value):Ae { cls:=.type "list",data:=.seq vs.toArray }=some (.frz { cls:=.type "list",data:=.seq vs.toArray } (.lst (vs.map toV))):=by
 show(if (Value.type "list"==Value.type "list")=true then some (HO.frz { cls:=.type "list",data:=.seq vs.toArray } (.lst (vs.toArray.toList.map toV))) else some (HO.frz { cls:=.type "list",data:=.seq vs.toArray } (.tup (vs.toArray.toList.map toV))))=_
 rw[Hz (beq_self_eq_true _)]
theorem tH (vs:List Value):Ae { cls:=.type "tuple",data:=.seq vs.toArray }=some (.frz { cls:=.type "tuple",data:=.seq vs.toArray } (.tup (vs.map toV))):=by
 show(if (Value.type "tuple"==Value.type "list")=true then some (HO.frz { cls:=.type "tuple",data:=.seq vs.toArray } (.lst (vs.toArray.toList.map toV))) else some (HO.frz { cls:=.type "tuple",data:=.seq vs.toArray } (.tup (vs.toArray.toList.map toV))))=_
 rw[Hs (by decide)]
section
variable  {P:Ih}{w:I0}{K:IN}{h:Heap}{A:List Hm}
theorem mW {b:Hm}{o:Obj}(hb:b∈A)(hk:K.lookup b=none)(e:h.get? b=some o):iL K h A b=Ae o:=by
 unfold iL
 rw[Hz hb,hk,Hz (show(none:Option Obj).isNone=true from rfl),e]<;>rfl
theorem Aj {b:Hm}{u:HO}(q:iL K h A b=some u):b∈A/\K.lookup b=none:=by
 unfold iL at q
 by_cases hb:b∈A
 ·rw[Hz hb]at q
  cases hk:K.lookup b with
  |none=>exact⟨hb,rfl⟩
  |some o =>
   rw[hk,Hs (by simp)]at q
   cases q
 ·rw[Hs hb]at q
  cases q
theorem mL (ar:∀a∈A,i6 h A a){b:Hm}{u:HO}(q:iL K h A b=some u):K.lookup b=none/\∃vs:List Value,vs.length<=Hr/\(∀u∈vs,OkU A u) /\
  ((h.get? b=some { cls:=.type "list",data:=.seq vs.toArray }/\u=.frz { cls:=.type "list",data:=.seq vs.toArray } (.lst (vs.map toV))) \/
   (h.get? b=some { cls:=.type "tuple",data:=.seq vs.toArray }/\u=.frz { cls:=.type "tuple",data:=.seq vs.toArray } (.tup (vs.map toV)))):=by
 obtain⟨hb,hk⟩:=Aj q
 obtain⟨vs,h1,h2,h3⟩:=ar b hb
 refine⟨hk,vs,h1,h2,?_⟩
 rcases h3 with e|e
 ·rw[mW hb hk e,sf]at q
  exact .inl ⟨e,(osi q).symm⟩
 ·rw[mW hb hk e,tH]at q
  exact .inr ⟨e,(osi q).symm⟩
theorem xJ (ar:∀a∈A,i6 h A a):pR (iL K h A):=λb=>by
 cases q:iL K h A b with
 |none=>exact .inl rfl
 |some u =>
  obtain⟨_,vs,_,_,⟨_,e⟩|⟨_,e⟩⟩:=mL ar q
  ·exact .inr ⟨_,_,by rw[e]⟩
  ·exact .inr ⟨_,_,by rw[e]⟩
theorem A7 (ar:∀a∈A,i6 h A a):HOk P w (iL K h A) h:=λb u q=>by
 obtain⟨_,vs,h1,h2,⟨e,rfl⟩|⟨e,rfl⟩⟩:=mL ar q
 ·exact⟨e,by rw[lmp];exact h1,vs,_,gX h2,e⟩
 ·exact⟨e,by rw[lmp];exact h1,vs,gX h2,_,e,rfl,_,rfl⟩
theorem mJ {c c':Value}{vs us:List Value}(e:(some { cls:=c,data:=.seq vs.toArray }:Option Obj)=some { cls:=c',data:=.seq us.toArray }):c=c'/\vs=us:=by
 have e1:=osi e
 have e2:c=c':=Jb Obj.cls e1
 have e3:Data.seq vs.toArray=Data.seq us.toArray:=Jb Obj.data e1
 injection e3 with e4
 refine⟨e2,?_⟩
 have e5:=Jb Array.toList e4
 simpa using e5
theorem G8 (KX:K.In h)(ar:∀a∈A,i6 h A a){a:Hm}{vs:List Value}(ha:a∈A) (e:h.get? a=some { cls:=.type "list",data:=.seq vs.toArray }):(∀u∈vs,OkU A u)/\SqL K (iL K h A) a (vs.map toV):=by
 obtain⟨us,h1,h2,h3⟩:=ar a ha
 have hu:us=vs:=by
  rcases h3 with q|q
  ·rw[e]at q
   exact(mJ q).2.symm
  ·rw[e]at q
   exact absurd (Value.type.inj (mJ q).1) (by decide)
 subst hu
 refine⟨h2,?_⟩
 cases hk:K.lookup a with
 |none=>exact .inl (.inr ⟨_,by rw[mW ha hk e,sf]⟩)
 |some o =>
  have e2:=KX a o hk
  rw[e]at e2
  obtain rfl:=osi e2
  exact .inr ⟨_,us.toArray,_,hk,rfl,rfl,rfl,by rw[HA];exact h1,by simpa using gX h2⟩
theorem Gx (KX:K.In h)(ar:∀a∈A,i6 h A a){a:Hm}{vs:List Value}(ha:a∈A) (e:h.get? a=some { cls:=.type "tuple",data:=.seq vs.toArray }):(∀u∈vs,OkU A u)/\SqT K (iL K h A) a (vs.map toV):=by
 obtain⟨us,h1,h2,h3⟩:=ar a ha
 have hu:us=vs:=by
  rcases h3 with q|q
  ·rw[e]at q
   exact absurd (Value.type.inj (mJ q).1) (by decide)
  ·rw[e]at q
   exact(mJ q).2.symm
 subst hu
 refine⟨h2,?_⟩
 cases hk:K.lookup a with
 |none=>exact .inl (.inr ⟨_,by rw[mW ha hk e,tH]⟩)
 |some o =>
  have e2:=KX a o hk
  rw[e]at e2
  obtain rfl:=osi e2
  exact .inr ⟨_,us.toArray,_,hk,rfl,rfl,by rw[HA];exact h1,by simpa using gX h2⟩
mutual
theorem Cp {Pm:Params}(KX:K.In h)(ar:∀a∈A,i6 h A a):∀(d:WData) (v:Value),Well Pm h v d->plW d=true->OkU A v->Dw K (iL K h A) (toV v) d
 |.none,_,x,_,_=>by
  cases x
  exact .non
 |.bool b,_,x,_,_=>by
  cases x
  exact .bl b
 |.int i,_,x,_,_=>by
  cases x
  exact .int i
 |.str s,_,x,_,_=>by
  cases x
  exact .str s
 |.bytes b,_,x,_,_=>by
  cases x
  have z:=Dw.byt (K:=K) (H:=iL K h A) b.toArray
  exact z
 |.list ds,_,x,p,hu=>by
  obtain⟨a,vs,rfl,ho,hall⟩:=pK x
  obtain⟨h2,hs⟩:=G8 KX ar hu ho
  exact .lst hs (qH KX ar ds _ hall p h2)
 |.tuple ds,_,x,p,hu=>by
  obtain⟨a,vs,rfl,ho,hall⟩:=oN x
  obtain⟨h2,hs⟩:=Gx KX ar hu ho
  exact .tup hs (qH KX ar ds _ hall p h2)
 |.float _,_,_,p,_=>IT (show false=true from p)
 |.dict _,_,_,p,_=>IT (show false=true from p)
 |.bytearray _,_,_,p,_=>IT (show false=true from p)
 |.set _,_,_,p,_=>IT (show false=true from p)
 |.frozenset _,_,_,p,_=>IT (show false=true from p)
 |.obj _ _,_,_,p,_=>IT (show false=true from p)
theorem qH {Pm:Params}(KX:K.In h)(ar:∀a∈A,i6 h A a):∀(ds:List WData) (vs:List Value),WellAll Pm h vs ds->mH ds=true->(∀u∈vs,OkU A u)->ig K (iL K h A) (vs.map toV) ds
 |[],_,x,_,_=>by
  cases x
  exact .nil
 |d :: ds,_,x,p,hu=>by
  obtain⟨v,vs,rfl,x1,x2⟩:=pI x
  have q:plW d=true/\mH ds=true:=Jp.mp p
  exact .cons (Cp KX ar d v x1 q.1 (hu _ (HD ..))) (qH KX ar ds vs x2 q.2 λu m=>hu u (Ho _ m))
end
end
theorem xF {P:Ih}{w:I0}{K:IN}{mg mb:Str->Option Value}{CX:CXT}{k:Nat}{fa:Hm}{fd:Le}{ps:List Str}{sp:Sp}{s₁:Hl}{vals:List Value}{ds:List WData}{R:PySem.W.WRecords}{cl:Str->Option Hm}{d0:WData}
  (KX:K.In s₁.heap) (hns:s₁.heap.Ns Im mg) (hb:s₁.heap.Ns builtinsNs mb) (hbb:∀x:Str,x≠"__name__"->mb x=J9 x) (hlim:s₁.heap.NoLimit) (hg:s₁.gens=#[])
  (hwl:WellAll w.params s₁.heap vals ds) (hpl:mH ds=true) (hwt:∀d∈ds,d.weight<=1048576) (hr:bA k callerA)
  (F:∀base:Heap,K.In base->base.Ns Im mg->js P w K mg base CX k fa fd ps sp) (hbind:∀(s:Hl) (us:List Value),us.length=ps.length->BindsTo s fd ⟨us,[]⟩ (ps.zip us)) (hlen:ds.length=ps.length)
  (hsp:∀(H:Hp) (xs:List V),pR H->ig K H xs ds->sp xs H (λv H'=>Dw K H' v d0) λ_ _ _=>False)
  (hCX:∀H e s',CX [] H s₁ (λ_ _ _=>False) e s'->False) :
  codeAny (Io P w) callerA (.call (.ref fa) ⟨vals,[]⟩) (λr s'=>∃u as,r=.ok (.ret u)/\ReadsW R cl s'.heap u d0 as/\OldK s₁.heap s'.heap/\s'.os=s₁.os/\AllBare s'.gens) s₁:=by
 obtain⟨A,ho,ar⟩:=kz ds vals hwl hpl hwt
 have hO:pR (iL K s₁.heap A):=xJ ar
 have hok:HOk P w (iL K s₁.heap A) s₁.heap:=A7 ar
 have hS:=qH KX ar ds vals hwl hpl ho
 have hV:=gX ho
 have hK:∀b u,iL K s₁.heap A b=some u->K.lookup b=none:=λb u q=>(mL ar q).1
 have noA:∀{b:Hm} {o:Obj} {es:Array DictEntry} {ep:Nat},s₁.heap.get? b=some o->o.data=.dict es ep->iL K s₁.heap A b=none:=λ{b o es ep} e d=>by
  cases q:iL K s₁.heap A b with
  |none=>rfl
  |some u =>
   obtain⟨_,vs,_,_,⟨e2,_⟩|⟨e2,_⟩⟩:=mL ar q
   ·rw[e2]at e
    cases e
    have d':Data.seq vs.toArray _=Data.dict es ep:=d
    cases d'
   ·rw[e2]at e
    cases e
    have d':Data.seq vs.toArray _=Data.dict es ep:=d
    cases d'
 generalize iL K s₁.heap A=H at hO hok hS hK noA
 have base_of:∀{b:Hm} {o:Obj},s₁.heap.get? b=some o->H b=none->(kH s₁.heap H).get? b=some o:=λe n=>sX e n
 have nsK:∀{b:Hm} {m:Str->Option Value},s₁.heap.Ns b m->(kH s₁.heap H).Ns b m:=λ{b m} ⟨o,es,ep,e,d,r⟩=>⟨o,es,ep,base_of e (noA e d),d,r⟩
 have nK:∀b o,K.lookup b=some o->H b=none:=λb o e=>by
  cases q:H b with
  |none=>rfl
  |some u =>
   rw[hK b u q]at e
   cases e
 have hKb:K.In (kH s₁.heap H):=λb o e=>base_of (KX b o e) (nK b o e)
 have hM:Mod K mg (kH s₁.heap H):=⟨hKb,nsK hns,⟨mb,nsK hb,hbb⟩,let ⟨mc,h1,h2⟩:=hlim;⟨mc,nsK h1,h2⟩⟩
 have e0:tm P w K mg (kH s₁.heap H) callerA [] s₁ H:=⟨rfl,hM,λb o e=>vd e,Nat.le_of_eq (pN _ _),trivial,λb hb=>absurd (show b∈([]:List Hm) from hb) (by simp),hok,.of_eq hg⟩
 have hl:vals.length=ps.length:=by rw[gD hwl];exact hlen
 refine codeAny_mono ((F _ hKb (nsK hns)).run callerA [] s₁ H ⟨vals,[]⟩ vals (vals.map toV) _ _ hr e0 (hbind s₁ vals hl) hV (hsp H _ hO hS)) λr s' x=>?_
 cases r with
 |error e=>exact(hCX H e s' x).elim
 |ok fl =>
  cases fl with
  |next=>exact Jm x
  |brk=>exact Jm x
  |cont=>exact Jm x
  |ret u =>
   obtain⟨v,H',os,bare,un,hok',r',q⟩:=x
   have kept:∀b o,s₁.heap.get? b=some o->s'.heap.get? b=some o:=λb o e=>by
    cases q2:H b with
    |none=>exact un.keep b o e q2 (by intro z;exact absurd (show b∈([]:List Hm) from z) (by simp)) (by simp)
    |some u2 =>
     rcases hO b with z|⟨ob,u3,z⟩
     ·rw[q2]at z
      cases z
     ·have z2:=un.frzs b ob _ z
      obtain⟨e1,_⟩:=hok b _ z
      obtain⟨e2,_⟩:=hok' b _ z2
      rw[e]at e1
      cases e1
      exact e2
   have KX':K.In s'.heap:=λb o e=>kept b o (KX b o e)
   obtain⟨as,hrd⟩:=Dw.reads (R:=R) (cl:=cl) hok' KX' d0 v u q r'
   exact⟨u,as,rfl,hrd,OldK.of_keep kept,os,bare⟩
theorem nJ {ds:List WData}(h:WData.layableAll ds=true):∀d∈ds,d.weight<=1048576:=λd hd =>
 (PySem.W.layableW_iff.mp (IL.mp h d hd)).2.2
theorem oW:∀(cs:List Codec) (a:Codec.denoteAll cs),(LG cs a).length=cs.length
 |[],_=>rfl
 |c :: cs,a=>by
  show(LG cs a.2).length+1=cs.length+1
  rw[oW cs a.2]
theorem walk_spec {r:OpenSpec}{k:Nat}{q:Ih}{loose:List Str}{XP:(Str->Option Value)->Heap->Prop}{YP:I0->Heap->Prop}{d:DefRec}{K:Params->IN}{CX:I0->CXT}{ps:List Str}{sp:I0->Sp}
  (hwell:r.wellSaid=true) (hdf:d.params.defaults=[]) (hlen:r.args.length=ps.length) (hr:bA k callerA)
  (hY:∀(w:I0) (h:Heap),YP w h->(K w.params).In h)
  (F:∀(w:I0) (mg:Str->Option Value) (fa:Hm) (h:Heap),YP w h->(K w.params).In h->h.Ns Im mg->mg d.name=some (.ref fa) ->
   ∃fd:Le,(∀(s:Hl) (us:List Value),us.length=ps.length->BindsTo s fd ⟨us,[]⟩ (ps.zip us)) /\
    ∀base:Heap,(K w.params).In base->base.Ns Im mg->js r.prog w (K w.params) mg base (CX w) k fa fd ps (sp w))
  (hsp:∀(w:I0) (H:Hp) (xs:List V) (a:Codec.denoteAll r.args),pR H->Codec.withinAll r.args a=true->Codec.app r.args r.asked a=true->ig (K w.params) H xs (LG r.args a) ->
   sp w xs H (λv H'=>Dw (K w.params) H' v (r.ret.enc (Codec.app r.args r.f a))) λ_ _ _=>False)
  (hCX:∀(w:I0) (H:Hp) (s:Hl) (e:Value) (s':Hl),CX w [] H s (λ_ _ _=>False) e s'->False) :
  PySem.W.WalkOS q loose XP YP r d [] (λf vs=>PySem.call f vs):=by
 intro w s_0 s₁ mg mb G Y fa o pm cd doc dV kV ho hd hcd hD hmg hg args vals as hpre hlay hrd hwl hlo
 obtain⟨a,e1,e2⟩:=PySem.W.os_pre_some hpre
 obtain⟨e3,hwi⟩:=Codec.encAll_of_decAll r.args args a e1
 subst e3
 have KX:=hY w _ Y
 obtain⟨fd,hb,hF⟩:=F w mg fa _ Y KX G.T.g hmg
 refine PySem.W.enter_call (codeAny_mono (xF (R:=[]) (cl:=classAt s_0.heap) (d0:=r.ret.enc (Codec.app r.args r.f a)) KX G.T.g G.T.b G.T.builtins G.T.nolimit hg hwl (pP _ _) (nJ hlay) hr hF hb (by rw[oW];exact hlen)
  (λH xs hO hS=>hsp w H xs a hO hwi e2 hS) λH e s'=>hCX w H s₁ e s') λr' s' hq=>?_)
 obtain⟨u,as',rfl,h1,h2,h3,h4⟩:=hq
 exact⟨.inl ⟨u,_,as',rfl,λ_=>rfl,h1,(OpenSpec.post_iff hwell hwi _ _).mpr rfl,λz=>IT (show false=true from z)⟩,h2,h3,h4⟩
theorem Dd {r:OpenSpec}{k:Nat}{q:Ih}{loose:List Str}{XP:(Str->Option Value)->Heap->Prop}{YP:I0->Heap->Prop}{d:DefRec}{K:Params->IN}{CX:CXT}{ps:List Str}{sp:IN->Sp}
  (hwell:r.wellSaid=true) (hdf:d.params.defaults=[]) (hlen:r.args.length=ps.length) (hr:bA k callerA)
  (hY:∀(w:I0) (h:Heap),YP w h->(K w.params).In h)
  (F:∀(w:I0) (mg:Str->Option Value) (fa:Hm) (h:Heap),YP w h->(K w.params).In h->h.Ns Im mg->mg d.name=some (.ref fa) ->
   ∃fd:Le,(∀(s:Hl) (us:List Value),us.length=ps.length->BindsTo s fd ⟨us,[]⟩ (ps.zip us)) /\
    ∀base:Heap,(K w.params).In base->base.Ns Im mg->js r.prog w (K w.params) mg base CX k fa fd ps (sp (K w.params)))
  (hsp:∀(K:IN) (H:Hp) (xs:List V) (a:Codec.denoteAll r.args),pR H->Codec.withinAll r.args a=true->Codec.app r.args r.asked a=true->ig K H xs (LG r.args a) ->
   sp K xs H (λv H'=>Dw K H' v (r.ret.enc (Codec.app r.args r.f a))) λ_ _ _=>False)
  (hCX:∀(H:Hp) (s:Hl) (e:Value) (s':Hl),CX [] H s (λ_ _ _=>False) e s'->False) :
  PySem.W.WalkOS q loose XP YP r d [] (λf vs=>PySem.call f vs) :=
 walk_spec (K:=K) (CX:=λ_=>CX) (sp:=λw=>sp (K w.params)) hwell hdf hlen hr hY F (λw H xs a h1 h2 h3 h4=>hsp (K w.params) H xs a h1 h2 h3 h4) λ_ H s e s'=>hCX H s e s'
end L2
namespace L2
open PySem PySem.Spec PyProof.Rows
abbrev CX0:CXT:=λ_ _ _ _ _ _=>False
abbrev E0:XK:=λ_ _ _=>False
theorem u6 {X:Cx}:j7 CX0 X E0:=λ_ _ _ _ _ _ _ h=>h.elim
structure Fun (K:IN)(x qual:Str)(st:JO)(f:Hm)(fd:Le):Prop where
 ex:∃(oc:Value) (od:Option Hm) (kV doc pm:Value) (an:Option Hm) (cdv ct:Value) (osl:Array (Option Value)),
  fd=Kc x qual (df st) (bZ st) (ag st) .none kV doc pm an cdv ct/\K.lookup f=some ⟨oc,od,.func fd,osl⟩/\Lp K cdv qual=true
 kp:JL K (.ref f)=true
section
variable  {P:Ih}{w:I0}{K:IN}{mg:Str->Option Value}{base:Heap}
theorem Fun.ok {x qual:Str}{st:JO}{f:Hm}{fd:Le}{N ps:List Str}{k:Nat}{sp:Sp}(F:Fun K x qual st f fd)(S:aw N ps (ag st))(len:∀vs H Q E,sp vs H Q E->vs.length=ps.length)
  (hbody:∀(cdv:Value) (A:Around) (outer:List Env) (s:Hl) (H:Hp) (vs:List V) (Q:VK) (E:XK),bA k (A.deeper (envOfC qual (ag st) s.heap.objs.size f cdv))->sp vs H Q E ->
   ∃t,PSs (qT CX0 P w K mg base N qual (ag st) f cdv A outer s H E).nox (bZ st) t/\t { nx:=λ_ H'=>Q .non H',rt:=Q } (start N vs) H):js P w K mg base CX0 (k+1) f fd ps sp:=by
 obtain⟨oc,od,kV,doc,pm,an,cdv,ct,osl,rfl,lk,hcd⟩:=F.ex
 refine Ea lk hcd S len λA outer s H vs Q E hr hsp=>?_
 obtain⟨t,h,q⟩:=hbody cdv A outer s H vs Q E hr hsp
 exact⟨t,h.nox,q⟩
theorem uF {x qual:Str}{st:JO}{f:Hm}{oc:Value}{od an:Option Hm}{osl:Array (Option Value)}{kV doc pm cdv ct:Value}(l:K.lookup f=some ⟨oc,od,.func (Kc x qual (df st) (bZ st) (ag st) .none kV doc pm an cdv ct),osl⟩)
  (c:Lp K cdv qual=true) (k:JL K (.ref f)=true):Fun K x qual st f (Kc x qual (df st) (bZ st) (ag st) .none kV doc pm an cdv ct):=⟨⟨oc,od,kV,doc,pm,an,cdv,ct,osl,rfl,l,c⟩,k⟩
end
section
variable  {X:Cx}
theorem pv (i:Nat){x:Str}{pos:Pos}(hN:X.N[i]? = some x:=by rfl)(hv:Vis X.env.scope x:=by first|exact Jr rfl|exact IP (.inl rfl)|exact IP (.inr rfl)) (hd:(x==("__debug__" : Str))=false:=by decide)
  (hcd:(x==("__classdict__" : Str))=false:=by decide):PE X (.Name x pos) (a4 i):=CD hN hv hd hcd
theorem xx:kK X (.builtin "len") (λxs H Q=>∃a kvs,xs=[V.ref a]/\H a=some (.dK kvs)/\Q (.int kvs.length) H):=by
 intro pins s σ H xs us Q I r h
 obtain⟨a,kvs,rfl,ha,q⟩:=h
 obtain⟨u,rfl,ru⟩:=yE r
 cases ru
 exact EN I (.inl ha) λt s' I'=>⟨.int kvs.length,H,I',⟨t,rfl⟩,q⟩
end
theorem j8 {A B:Prop}(h:B):if false=true then A else B:=by
 rw[Hs HG]
 exact h
theorem eT {A B:Prop}(h:A):if true=true then A else B:=by
 rw[Hz rfl]
 exact h
theorem aV {c A B:Prop}[Decidable c](h1:c->A)(h2:¬c->B):if c then A else B:=by
 by_cases h:c
 ·rw[Hz h]
  exact h1 h
 ·rw[Hs h]
  exact h2 h
def ak (H H':Hp):Prop:=∀b o,H b=some o->H' b=some o
theorem ak.refl (H:Hp):ak H H:=λ_ _ h=>h
theorem ak.trans {H H1 H2:Hp}(a:ak H H1)(b:ak H1 H2):ak H H2:=λc o h=>b c o (a c o h)
theorem ak.free {H H':Hp}(e:ak H H'){l:Hm}(h:H' l=Option.none):H l=Option.none:=by
 cases q:H l with
 |none=>rfl
 |some o =>
  rw[e l o q]at h
  cases h
theorem ak.seq {K:IN}{H H':Hp}{a:Hm}{xs:List V}(e:ak H H')(h:SqL K H a xs):SqL K H' a xs:=by
 rcases h with(h|⟨o,h⟩)|h
 ·exact .inl (.inl (e _ _ h))
 ·exact .inl (.inr ⟨o,e _ _ h⟩)
 ·exact .inr h
section
variable  {κ:Type}[DecidableEq κ]
end
theorem aE {xs:List V}{z:Int}{j:Nat}{v:V}(e:z=(j:Int))(h:xs[j]? = some v):atI xs z=some v:=by
 rw[e]
 exact qC h
theorem ak.made {H H1:Hp}{x dx C:Hm}(nx:H x=Option.none)(nd:H dx=Option.none)(k:∀b o,(upd (upd H dx (.own x)) x (.ins C dx [])) b=some o->b≠x->H1 b=some o):ak H H1:=λb o e =>
 k b o (by rw[ao (aP e nx),ao (aP e nd)];exact e) (aP e nx)
end L2
section
namespace LM
open Gla
def vM (ns:List Int):Bool:=ns.all λx=>decide (0<=x)&&decide (x<=65535)
def cM (ns:List Int):Bool:=decide (ns.length % 32=0)&&vM ns
def cnt (ns:List Int):Nat:=ns.length / 32
def lat (ns:List Int)(k:Nat):List Int:=(ns.drop (32*k)).take 32
def apI (xs ys:List Int):Int:=((xs.zip ys).map λp=>(p.1-p.2)*(p.1-p.2)).sum
def thI (xs ys:List Int):List Int:=(xs.zip ys).map λp=>(p.1*p.2+32767) / 65535
def Ep {α:Type}(f:α->Int):List α->Option α
 |[]=>none
 |x :: r=>match Ep f r with
  |none=>some x
  |some y=>if f y<f x then some y else some x
theorem gj:∀{l:List Int},(∀x∈l,0<=x)->(l.map JR).map (λn:Nat=>(n:Int))=l
 |[],_=>rfl
 |x :: r,h=>by
  have h1:=h x HD
  show((x.toNat:Nat):Int) :: (r.map JR).map (λn:Nat=>(n:Int))=x :: r
  rw[gj λy hy=>h y (Ho _ hy)]
  congr 1
  lia
theorem tN:∀{l:List Int},(∀x∈l,0<=x)->l.mapM Lw=some (l.map JR)
 |[],_=>rfl
 |x :: r,h=>by
  have h1:=h x HD
  rw[List.mapM_cons,tN λy hy=>h y (Ho _ hy)]
  have e:Lw x=some x.toNat:=by
   unfold Lw
   rw[Hs (by lia)]
  rw[e]
  rfl
def jc:Nat->List Nat->List (List Nat)
 |0,_=>[]
 |k+1,l=>if l.isEmpty=true then [] else l.take 32 :: jc k (l.drop 32)
theorem lC:∀(k:Nat) {l:List Int},(∀x∈l,0<=x)->LightNeutral.lights k l=some (jc k (l.map JR))
 |0,_,_=>rfl
 |k+1,l,h=>by
  unfold LightNeutral.lights jc
  cases l with
  |nil=>rfl
  |cons a r =>
   rw[Hs (by simp),Hs (by simp)]
   rw[tN λx hx=>h x (Jd hx),lC k λx hx=>h x (J7 hx)]
   rw[Kq,Lh]
   rfl
theorem m7:∀(n k:Nat) (l:List Nat),l.length=32*n->n<k->jc k l=(HS n).map λi=>(l.drop (32*i)).take 32
 |_,0,_,_,h=>absurd h (by lia)
 |0,k+1,l,e,_=>by
  have:l=[]:=JD.mp (by lia)
  subst this
  rfl
 |n+1,k+1,l,e,h=>by
  unfold jc
  have ne:l.isEmpty=false:=by
   cases l with
   |nil=>simp at e
   |cons a r=>rfl
  rw[ne,Hs (by decide),m7 n k (l.drop 32) (by rw[Il];lia) (by lia),List.range_succ_eq_map,HN,JH]
  congr 1
  apply II
  intro i _
  simp only[Function.comp]
  rw[List.drop_drop,show 32+32*i=32*(i+1) by lia]
theorem nt:∀(k:Nat) (l:List Nat),l.length<k->¬l.length % 32=0->(jc k l).all lightOk=false
 |0,_,h,_=>absurd h (by lia)
 |k+1,l,h,hm=>by
  unfold jc
  have ne:l.isEmpty=false:=by
   cases l with
   |nil=>exact absurd rfl hm
   |cons a r=>rfl
  rw[ne,Hs (by decide),List.all_cons]
  by_cases c:l.length<32
  ·have:lightOk (l.take 32)=false:=by
    unfold lightOk
    have:((l.take 32).length==BANDS)=false:=by
     rw[Iv]
     simp only[BANDS,Jf,ne_eq]
     intro e
     have:l.length≠0:=by intro z;rw[z]at hm;exact hm rfl
     lia
    rw[this]
    rfl
   rw[this]
   rfl
  ·rw[nt k (l.drop 32) (by rw[Il];lia) (by rw[Il];lia),Lq]
theorem lf {ns:List Int}:vM ns=true↔∀x∈ns,0<=x/\x<=65535:=by
 unfold vM
 rw[IL]
 constructor
 ·intro h x hx
  have:=h x hx
  simp only[Hu,Hv]at this
  exact this
 ·intro h x hx
  simp only[Hu,Hv]
  exact h x hx
theorem l4 {l:List Nat}:lightOk l=true↔l.length=32/\∀x∈l,x<=65535:=by
 unfold lightOk
 simp only[Hu,JW,IL,BANDS,FULL]
 exact and_congr Iff.rfl ⟨λh x hx=>Hk (h x hx),λh x hx=>dqt (h x hx)⟩
theorem AW {a b:Bool}(h:a=true↔b=true):a=b:=by
 cases a<;>cases b<;>simp_all
def aA (gs:List Int):List (List Nat):=jc (gs.length+1) (gs.map JR)
theorem eA {gs:List Int}(hm:gs.length % 32=0):aA gs=(HS (cnt gs)).map λi=>(lat gs i).map JR:=by
 unfold aA
 rw[m7 (cnt gs) _ _ (by rw[lmp];unfold cnt;lia) (by unfold cnt;lia)]
 apply II
 intro i _
 unfold lat
 rw[Kq,Lh]
theorem vK {gs:List Int}(h:∀x∈gs,0<=x):(aA gs).all lightOk=cM gs:=by
 by_cases hm:gs.length % 32=0
 ·rw[eA hm]
  apply AW
  unfold cM
  rw[Hu,lf,Hv,IL]
  constructor
  ·intro q
   refine⟨hm,λx hx=>⟨h x hx,?_⟩⟩
   obtain⟨j,hj,e⟩:=Ky.mp hx
   have q1:=q ((lat gs (j / 32)).map JR) (List.mem_map_of_mem (Ix.mpr (by unfold cnt;lia)))
   have q2:=(l4.mp q1).2 x.toNat (List.mem_map_of_mem ?_)
   ·have:=h x hx
    lia
   ·unfold lat
    rw[Kr]
    refine⟨j % 32,?_⟩
    rw[List.getElem?_take,Hz (by lia),List.getElem?_drop,show 32*(j / 32)+j % 32=j by lia,gge hj,e]
  ·rintro⟨_,q⟩ l hl
   obtain⟨i,hi,rfl⟩:=HM.mp hl
   have hi:=Ix.mp hi
   rw[l4,lmp]
   refine⟨?_,λy hy=>?_⟩
   ·unfold lat
    rw[Iv,Il]
    unfold cnt at hi
    lia
   ·obtain⟨x,hx,rfl⟩:=HM.mp hy
    have:=q x (J7 (Jd hx))
    lia
 ·unfold aA
  rw[nt _ _ (by rw[lmp];lia) (by rw[lmp];exact hm)]
  unfold cM
  rw[dqf hm]
  rfl
theorem A1 (a b:Nat):((diff a b*diff a b:Nat):Int)=((a:Int)-b)*((a:Int)-b):=by
 unfold diff
 by_cases c:a<=b
 ·rw[Hz c,Int.natCast_mul,Int.ofNat_sub c]
  rw[<-Int.neg_sub (a:Int) (b:Int),Int.neg_mul_neg]
 ·rw[Hs c,Int.natCast_mul,Int.ofNat_sub (by lia)]
theorem sI:∀(a b:List Nat),((apart a b:Nat):Int)=apI (a.map λn:Nat=>(n:Int)) (b.map λn:Nat=>(n:Int))
 |[],_=>by unfold apart apI;simp
 |_ :: _,[]=>by unfold apart apI;simp
 |x :: r,y :: t=>by
  have ih:=sI r t
  unfold apart apI at ih ⊢
  simp only[List.zipWith_cons_cons,List.foldr_cons,HN,JE,List.sum_cons]
  rw[<-ih,Int.natCast_add,A1]
theorem tT {xs ys:List Int}(hx:∀x∈xs,0<=x)(hy:∀y∈ys,0<=y):((apart (xs.map JR) (ys.map JR):Nat):Int)=apI xs ys:=by
 rw[sI,gj hx,gj hy]
theorem AA (a b:Nat):((bandThrough a b:Nat):Int)=((a:Int)*b+32767) / 65535:=by
 unfold bandThrough FULL
 have e:((a:Int)*b)=((a*b:Nat):Int):=(Int.natCast_mul a b).symm
 rw[e,Nat.mul_assoc]
 generalize a*b=m
 lia
theorem oM:∀(a b:List Nat),(throughBoth a b).map (λn:Nat=>(n:Int))=thI (a.map λn:Nat=>(n:Int)) (b.map λn:Nat=>(n:Int))
 |[],_=>by unfold throughBoth thI;simp
 |_ :: _,[]=>by unfold throughBoth thI;simp
 |x :: r,y :: t=>by
  have ih:=oM r t
  unfold throughBoth thI at ih ⊢
  simp only[List.zipWith_cons_cons,HN,JE]
  rw[<-ih,AA]
theorem pE {xs ys:List Int}(hx:∀x∈xs,0<=x)(hy:∀y∈ys,0<=y):(throughBoth (xs.map JR) (ys.map JR)).map (λn:Nat=>(n:Int))=thI xs ys:=by
 rw[oM,gj hx,gj hy]
theorem xm {xs ys:List Int}(hx:∀x∈xs,0<=x)(hy:∀y∈ys,0<=y):(thI xs ys).map JR=throughBoth (xs.map JR) (ys.map JR):=by
 rw[<-pE hx hy,JH]
 conv=>rhs;rw[<-List.map_id (throughBoth (xs.map JR) (ys.map JR))]
 apply II
 intro n _
 simp
def vE (gs ws:List Int)(i:Nat):Int:=apI (lat gs i) ws
theorem tZ {gs:List Int}(hm:gs.length % 32=0){i:Nat}(hi:i<cnt gs):(aA gs).getD i []=(lat gs i).map JR:=by
 rw[eA hm,Hx,Hw,Kf hi]
 rfl
theorem kN {gs:List Int}(h:cM gs=true):gs.length % 32=0:=by
 unfold cM at h
 rw[Hu,Hv]at h
 exact h.1
def Hh (n i:Nat):List (Nat×Nat):=(HS (n-i)).map λt=>(i,i+t)
end LM
end
section
namespace WL
def tr6 (ax ay bx by' cx cy:Int):Int:=(bx-ax)*(cy-by')-(by'-ay)*(cx-bx)
theorem idA (ux uy wx wy px py qx qy:Int) :
 -(qy-py)*tr6 ux uy wx wy px py=(wy-uy)*tr6 px py qx qy ux uy+(tr6 px py qx qy wx wy-tr6 px py qx qy ux uy)*(py-uy):=by
 unfold tr6;grind
theorem idB (ux uy wx wy px py qx qy:Int) :
 -(qy-py)*tr6 ux uy wx wy qx qy=(wy-uy)*tr6 px py qx qy ux uy+(tr6 px py qx qy wx wy-tr6 px py qx qy ux uy)*(qy-uy):=by
 unfold tr6;grind
theorem sQ (a b A B C D K py qy uy wy:Int)(ha:a=wy-uy)(hb:b=qy-py)(hK:K=D-C)
 (h1:-b*A=a*C+K*(py-uy)) (h2:-b*B=a*C+K*(qy-uy)) (ha0:0<a) (hb0:0<b)
 (hp:py<=uy) (hq:uy<qy) (hw:qy<=wy) (hC:0<C) (hB:0<B):A<0/\D<0:=by
 have e1:0<a*C:=HH ha0 hC
 have e2:0<b*B:=HH hb0 hB
 have e3:K*(qy-uy)<0:=by grind
 have e4:K<0:=by
  apply bcn;intro h
  have:0<=K*(qy-uy):=Ht (by lia) (by lia)
  lia
 have e5:0<=K*(py-uy):=by
  have:0<=(-K)*(uy-py):=Ht (by lia) (by lia)
  grind
 have e6:0 < -b*A:=by lia
 constructor
 ·apply bcn;intro h
  have:0<=b*A:=Ht (by lia) (by lia)
  grind
 ·have e7:a*D=a*C+K*(qy-uy)+K*(wy-qy):=by grind
  have e8:K*(wy-qy)<=0:=by
   have:0<=(-K)*(wy-qy):=Ht (by lia) (by lia)
   grind
  have e9:a*D<0:=by grind
  apply bcn;intro h
  have:0<=a*D:=Ht (by lia) (by lia)
  lia
structure Dr where
 n:Nat
 X:Nat->Int
 Y:Nat->Int
 J:Nat->Nat->Prop
def Dr.tr (d:Dr)(i j k:Nat):Int:=tr6 (d.X i) (d.Y i) (d.X j) (d.Y j) (d.X k) (d.Y k)
def Dr.on (d:Dr)(i j k:Nat):Prop :=
 d.tr i j k=0/\min (d.X i) (d.X j)<=d.X k/\d.X k<=max (d.X i) (d.X j)/\min (d.Y i) (d.Y j)<=d.Y k/\d.Y k<=max (d.Y i) (d.Y j)
structure eZ (d:Dr):Prop where
 symm:∀{i j},d.J i j->d.J j i
 lt:∀{i j},d.J i j->i<d.n
 ne:∀{i j},d.J i j->i≠j
 ord:∀{i j},i<j->j<d.n->d.Y i<d.Y j\/(d.Y i=d.Y j/\d.X i<d.X j)
 nocross:∀{i j k l},d.J i j->d.J k l->¬(d.tr i j k*d.tr i j l<0/\d.tr k l i*d.tr k l j<0)
 nopt:∀{i j k},d.J i j->k<d.n->k≠i->k≠j->¬d.on i j k
theorem aD (a b:Int)(ha:0<a)(hb:b<0):a*b<0:=Int.mul_neg_of_pos_of_neg ha hb
theorem cH (a b:Int)(ha:a<0)(hb:0<b):a*b<0:=Int.mul_neg_of_neg_of_pos ha hb
theorem cF (d:Dr){i j k}(h0:d.tr i j k=0)(h:d.Y i<d.Y j)(h1:d.Y i<=d.Y k)(h2:d.Y k<=d.Y j):d.on i j k:=by
 refine⟨h0,?_,?_,by lia,by lia⟩
 ·apply bcn;intro hc
  have c1:d.X k<d.X i:=by lia
  have c2:d.X k<d.X j:=by lia
  have e:(d.Y j-d.Y k)*(d.X k-d.X i)+(d.Y k-d.Y i)*(d.X k-d.X j)=0:=by
   unfold Dr.tr tr6 at h0;grind
  by_cases hz:d.Y k=d.Y i
  ·have:(d.Y j-d.Y k)*(d.X k-d.X i)<0:=aD _ _ (by lia) (by lia)
   have:(d.Y k-d.Y i)*(d.X k-d.X j)=0:=by rw[hz];simp
   lia
  ·have t1:(d.Y k-d.Y i)*(d.X k-d.X j)<0:=aD _ _ (by lia) (by lia)
   have t2:0<=(d.Y j-d.Y k)*(d.X i-d.X k):=Ht (by lia) (by lia)
   grind
 ·apply bcn;intro hc
  have c1:d.X k > d.X i:=by lia
  have c2:d.X k > d.X j:=by lia
  have e:(d.Y j-d.Y k)*(d.X k-d.X i)+(d.Y k-d.Y i)*(d.X k-d.X j)=0:=by
   unfold Dr.tr tr6 at h0;grind
  by_cases hz:d.Y k=d.Y i
  ·have:0<(d.Y j-d.Y k)*(d.X k-d.X i):=HH (by lia) (by lia)
   have:(d.Y k-d.Y i)*(d.X k-d.X j)=0:=by rw[hz];simp
   lia
  ·have t1:0<(d.Y k-d.Y i)*(d.X k-d.X j):=HH (by lia) (by lia)
   have t2:0<=(d.Y j-d.Y k)*(d.X k-d.X i):=Ht (by lia) (by lia)
   grind
theorem kE (d:Dr)(i j k:Nat):d.tr j i k=- d.tr i j k:=by unfold Dr.tr tr6;grind
theorem dw (d:Dr)(i j k:Nat):d.tr i k j=- d.tr i j k:=by unfold Dr.tr tr6;grind
theorem lc (d:Dr)(i j k:Nat):d.tr j k i=d.tr i j k:=by unfold Dr.tr tr6;grind
theorem kD (d:Dr)(i j:Nat):d.tr i j i=0:=by unfold Dr.tr tr6;grind
theorem cV (d:Dr)(i j:Nat):d.tr i j j=0:=by unfold Dr.tr tr6;grind
theorem Br (d:Dr){i j k}(h:d.on i j k):d.on j i k:=by
 obtain⟨h0,h1,h2,h3,h4⟩:=h
 refine⟨by rw[kE];lia,by lia,by lia,by lia,by lia⟩
variable  {d:Dr}
theorem L1 (g:eZ d){u w p q:Nat}(huw:d.J u w)(hpq:d.J p q)(h1:d.Y p<=d.Y u)(h2:d.Y u<d.Y q)(h3:d.Y q<=d.Y w)
  (hpu:p≠u) (hqw:q≠w):(d.tr u w q<0/\0<d.tr p q u)\/(0<d.tr u w q/\d.tr p q u<0):=by
 have hun:u<d.n:=g.lt huw
 have hqn:q<d.n:=g.lt (g.symm hpq)
 have nB:d.tr u w q≠0:=by
  intro h
  refine g.nopt huw hqn ?_ hqw (cF d h (by lia) (by lia) h3)
  intro e;subst e;lia
 have nC:d.tr p q u≠0:=by
  intro h
  refine g.nopt hpq hun (Ie hpu) ?_ (cF d h (by lia) (by lia) (by lia))
  intro e;subst e;lia
 have i1:=idA (d.X u) (d.Y u) (d.X w) (d.Y w) (d.X p) (d.Y p) (d.X q) (d.Y q)
 have i2:=idB (d.X u) (d.Y u) (d.X w) (d.Y w) (d.X p) (d.Y p) (d.X q) (d.Y q)
 have n1:=g.nocross huw hpq
 by_cases hB:0<d.tr u w q
 ·by_cases hC:0<d.tr p q u
  ·exfalso
   obtain⟨a1,a2⟩:=sQ (d.Y w-d.Y u) (d.Y q-d.Y p) (d.tr u w p) (d.tr u w q) (d.tr p q u) (d.tr p q w) _ (d.Y p) (d.Y q) (d.Y u) (d.Y w) rfl rfl rfl i1 i2 (by lia) (by lia) h1 h2 h3 hC hB
   exact n1 ⟨cH _ _ a1 hB,aD _ _ hC a2⟩
  ·right;exact⟨hB,by lia⟩
 ·by_cases hC:0<d.tr p q u
  ·left;exact⟨by lia,hC⟩
  ·exfalso
   have j1:-(d.Y q-d.Y p)*(- d.tr u w p)=(d.Y w-d.Y u)*(- d.tr p q u)+((- d.tr p q w)-(- d.tr p q u))*(d.Y p-d.Y u):=by
    unfold Dr.tr;grind
   have j2:-(d.Y q-d.Y p)*(- d.tr u w q)=(d.Y w-d.Y u)*(- d.tr p q u)+((- d.tr p q w)-(- d.tr p q u))*(d.Y q-d.Y u):=by
    unfold Dr.tr;grind
   obtain⟨a1,a2⟩:=sQ (d.Y w-d.Y u) (d.Y q-d.Y p) (- d.tr u w p) (- d.tr u w q) (- d.tr p q u) (- d.tr p q w) _ (d.Y p) (d.Y q) (d.Y u) (d.Y w) rfl rfl rfl j1 j2 (by lia) (by lia) h1 h2 h3 (by lia) (by lia)
   exact n1 ⟨aD _ _ (by lia) (by lia),cH _ _ (by lia) (by lia)⟩
theorem qu (a b A B C D K py qy uy wy:Int)(ha:a=wy-uy)(hb:b=qy-py)(hK:K=D-C)
 (h1:-b*A=a*C+K*(py-uy)) (h2:-b*B=a*C+K*(qy-uy)) (ha0:0<a) (hb0:0<b)
 (hp:py<=uy) (hw:wy<=qy) (hC:0<C) (hD:D<0):A<0/\0<B:=by
 have e1:0<a*C:=HH ha0 hC
 have e4:K<0:=by lia
 have e5:0<=K*(py-uy):=by
  have:0<=(-K)*(uy-py):=Ht (by lia) (by lia)
  grind
 have e7:a*D<0:=aD _ _ ha0 hD
 have e8:a*D=a*C+K*(wy-uy):=by grind
 have e9:K*(qy-wy)<=0:=by
  have:0<=(-K)*(qy-wy):=Ht (by lia) (by lia)
  grind
 have e10:-b*B<0:=by grind
 constructor
 ·apply bcn;intro h
  have:0<=b*A:=Ht (by lia) (by lia)
  grind
 ·apply bcn;intro h
  have:0<=b*(-B):=Ht (by lia) (by lia)
  grind
theorem L2 (g:eZ d){u w p q:Nat}(huw:d.J u w)(hpq:d.J p q)(h1:d.Y p<=d.Y u)(h2:d.Y u<d.Y w)(h3:d.Y w<=d.Y q)
  (hpu:p≠u) (hqw:q≠w):(d.tr p q u<0/\d.tr p q w<0)\/(0<d.tr p q u/\0<d.tr p q w):=by
 have hun:u<d.n:=g.lt huw
 have hwn:w<d.n:=g.lt (g.symm huw)
 have nC:d.tr p q u≠0:=by
  intro h
  refine g.nopt hpq hun (Ie hpu) ?_ (cF d h (by lia) (by lia) (by lia))
  intro e;subst e;lia
 have nD:d.tr p q w≠0:=by
  intro h
  refine g.nopt hpq hwn ?_ (Ie hqw) (cF d h (by lia) (by lia) (by lia))
  intro e;subst e;lia
 have i1:=idA (d.X u) (d.Y u) (d.X w) (d.Y w) (d.X p) (d.Y p) (d.X q) (d.Y q)
 have i2:=idB (d.X u) (d.Y u) (d.X w) (d.Y w) (d.X p) (d.Y p) (d.X q) (d.Y q)
 have n1:=g.nocross huw hpq
 by_cases hC:0<d.tr p q u
 ·by_cases hD:0<d.tr p q w
  ·right;exact⟨hC,hD⟩
  ·exfalso
   obtain⟨a1,a2⟩:=qu (d.Y w-d.Y u) (d.Y q-d.Y p) (d.tr u w p) (d.tr u w q) (d.tr p q u) (d.tr p q w) _ (d.Y p) (d.Y q) (d.Y u) (d.Y w) rfl rfl rfl i1 i2 (by lia) (by lia) h1 h3 hC (by lia)
   exact n1 ⟨cH _ _ a1 a2,aD _ _ hC (by lia)⟩
 ·by_cases hD:0<d.tr p q w
  ·exfalso
   have j1:-(d.Y q-d.Y p)*(- d.tr u w p)=(d.Y w-d.Y u)*(- d.tr p q u)+((- d.tr p q w)-(- d.tr p q u))*(d.Y p-d.Y u):=by
    unfold Dr.tr;grind
   have j2:-(d.Y q-d.Y p)*(- d.tr u w q)=(d.Y w-d.Y u)*(- d.tr p q u)+((- d.tr p q w)-(- d.tr p q u))*(d.Y q-d.Y u):=by
    unfold Dr.tr;grind
   obtain⟨a1,a2⟩:=qu (d.Y w-d.Y u) (d.Y q-d.Y p) (- d.tr u w p) (- d.tr u w q) (- d.tr p q u) (- d.tr p q w) _ (d.Y p) (d.Y q) (d.Y u) (d.Y w) rfl rfl rfl j1 j2 (by lia) (by lia) h1 h3 (by lia) (by lia)
   exact n1 ⟨aD _ _ (by lia) (by lia),cH _ _ (by lia) (by lia)⟩
  ·left;exact⟨by lia,by lia⟩
def Dr.base (d:Dr)(u p q:Nat):Bool:=decide (u≠p/\u≠q/\d.Y p<=d.Y u/\d.Y u<d.Y q/\0<d.tr p q u)
def Dr.pre (d:Dr)(u b w:Nat):Bool:=decide (b=w\/(u<b/\w<u)\/(((u<b/\u<w)\/(b<u/\w<u))/\0<d.tr u b w))
def Dr.Om (d:Dr)(u w p q:Nat):Bool :=
 (d.base u p q^^decide (p=u/\d.Y q=d.Y u))^^((decide (p=u)&&d.pre u q w)^^(decide (q=u)&&d.pre u p w))
def Dr.Psi (d:Dr)(u w v:Nat):Bool :=
 if d.Y u<d.Y w then decide (d.Y u<d.Y v/\d.Y v<=d.Y w/\d.tr u w v<0)^^decide (v=w) else false
variable  {d:Dr}
theorem kr (d:Dr)(i j k:Nat)(h:d.Y k=d.Y i):d.tr i j k=(d.Y j-d.Y i)*(d.X i-d.X k):=by
 unfold Dr.tr tr6;grind
theorem pS (d:Dr)(i j k:Nat)(h:d.Y k=d.Y j):d.tr i j k=(d.Y j-d.Y i)*(d.X j-d.X k):=by
 unfold Dr.tr tr6;grind
theorem eG (d:Dr)(i j k:Nat)(h:d.Y i=d.Y j):d.tr i j k=(d.X j-d.X i)*(d.Y k-d.Y j):=by
 unfold Dr.tr tr6;grind
theorem bo {a b:Int}(ha:0<a):(0<a*b↔0<b):=by
 constructor
 ·intro h;apply bcn;intro hb
  have:0<=a*(-b):=Ht (by lia) (by lia)
  grind
 ·intro h;exact HH ha h
theorem eF {a b:Int}(ha:0<a):(a*b<0↔b<0):=by
 constructor
 ·intro h;apply bcn;intro hb
  have:0<=a*b:=Ht (by lia) (by lia)
  lia
 ·intro h;exact aD _ _ ha h
theorem nz (g:eZ d){u w v:Nat}(huw:d.J u w)(hv:v<d.n)(h:d.Y u<d.Y w)(h1:d.Y u<=d.Y v)(h2:d.Y v<=d.Y w)
  (hu:v≠u) (hw:v≠w):d.tr u w v≠0:=by
 intro h0
 exact g.nopt huw hv hu hw (cF d h0 h h1 h2)
theorem rC (g:eZ d){u w p q:Nat}(huw:d.J u w)(hpq:d.J p q)(h1:u<w)(h2:p<q)(hy:d.Y u<d.Y w)(hf:d.Y p=d.Y q) :
  ((d.Om u w p q^^d.Om w u p q)^^decide (p=u/\q=w))=(d.Psi u w p^^d.Psi u w q):=by
 have hpn:=g.lt hpq
 have hqn:=g.lt (g.symm hpq)
 have hwn:=g.lt (g.symm huw)
 have hun:=g.lt huw
 have hx:d.X p<d.X q:=by rcases g.ord h2 hqn with h|h<;>lia
 have sA:∀k,d.Y k=d.Y w->(d.tr u w k<0↔d.X w<d.X k):=by
  intro k hk;rw[pS d u w k hk,eF (by lia)];lia
 have mv:d.tr u w q<d.tr u w p:=by
  have:d.tr u w p-d.tr u w q=(d.Y w-d.Y u)*(d.X q-d.X p):=by unfold Dr.tr tr6;grind
  have:0<(d.Y w-d.Y u)*(d.X q-d.X p):=HH (by lia) (by lia)
  lia
 have c1:=dw d u q w
 have c2:=lc d u w p
 have c3:=lc d w p u
 have base1:d.base u p q=false:=by simp[Dr.base];intros;lia
 have base2:d.base w p q=false:=by simp[Dr.base];intros;lia
 simp only[Dr.Om,base1,base2,Dr.Psi,hy,if_true]
 by_cases hpu:p=u
 ·subst hpu
  have t1:0<d.tr p q w:=by
   rw[eG d p q w hf];exact HH (by lia) (by lia)
  have n1:q≠w:=by intro e;subst e;lia
  have n2:p≠w:=by lia
  have n3:q≠p:=by lia
  simp[Dr.pre,n1,n2,n3,hf,t1,h1,h2]
 by_cases hqu:q=u
 ·subst hqu
  have n1:q≠w:=by lia
  have n2:p≠w:=by lia
  have n3:p≠q:=by lia
  have n4:¬q<p:=by lia
  have n5:¬w<q:=by lia
  have n6:¬q<q:=by lia
  simp[Dr.pre,n1,n2,n3,n4,n5,n6]
  lia
 by_cases hpw:p=w
 ·subst hpw
  have n1:q≠p:=by lia
  have:d.tr u p q<0:=(sA q (by lia)).2 hx
  have z:d.tr u p p=0:=cV d u p
  simp[Dr.pre,n1,hqu,hpu,hf,h2,h1,this,z,hy]
  rw[<-hf];simp[hy]
 by_cases hqw:q=w
 ·subst hqw
  have n1:p≠q:=by lia
  have z:d.tr u q q=0:=cV d u q
  have a1:¬d.tr u q p<0:=by rw[sA p hf];lia
  have a2:=nz g huw hpn hy (by lia) (by lia) hpu hpw
  have a3:0<d.tr q p u:=by
   have:=lc d u q p;lia
  simp[Dr.pre,n1,hpu,hqu,hpw,a1,z,a3]
  lia
 ·
  have goal:(d.Y u<d.Y p/\d.Y p<=d.Y w/\d.tr u w p<0)↔(d.Y u<d.Y q/\d.Y q<=d.Y w/\d.tr u w q<0):=by
   rw[hf]
   by_cases hr:d.Y u<d.Y q/\d.Y q<=d.Y w
   ·obtain⟨r1,r2⟩:=hr
    simp only[r1,r2,true_and]
    constructor
    ·intro h;lia
    ·intro h
     apply bcn;intro hn
     have a2:=nz g huw hpn hy (by lia) (by lia) hpu hpw
     have a3:0<d.tr u w p:=by lia
     by_cases he:d.Y q=d.Y w
     ·have b1:=(sA q he).1 h
      have b2:¬d.X w<d.X p:=by rw[<-sA p (by lia)];lia
      refine g.nopt hpq hwn (Ie hpw) (Ie hqw) ⟨?_,by lia,by lia,by lia,by lia⟩
      rw[eG d p q w hf,he];simp
     ·refine g.nocross huw hpq ⟨aD _ _ a3 h,?_⟩
      rw[eG d p q u hf,eG d p q w hf]
      have e1:(d.X q-d.X p)*(d.Y u-d.Y q)<0:=aD _ _ (by lia) (by lia)
      have e2:0<(d.X q-d.X p)*(d.Y w-d.Y q):=HH (by lia) (by lia)
      exact cH _ _ e1 e2
   ·constructor
    ·intro h;exact absurd ⟨h.1,h.2.1⟩ hr
    ·intro h;exact absurd ⟨h.1,h.2.1⟩ hr
  simp only[hpu,hqu,hpw,hqw,goal,false_and,K3,IF,Jl,KI]
theorem uc (g:eZ d){u w p q:Nat}(huw:d.J u w)(hpq:d.J p q)(h1:u<w)(h2:p<q)(hy:d.Y u<d.Y w)(hf:d.Y p<d.Y q) :
  ((d.Om u w p q^^d.Om w u p q)^^decide (p=u/\q=w))=(d.Psi u w p^^d.Psi u w q):=by
 have hpn:=g.lt hpq
 have hqn:=g.lt (g.symm hpq)
 have hwn:=g.lt (g.symm huw)
 have hun:=g.lt huw
 have o1:∀{i j},i<j->j<d.n->d.Y i<=d.Y j:=by
  intro i j h h';rcases g.ord h h' with h|h<;>lia
 simp only[Dr.Om,Dr.base,Dr.Psi,hy,if_true]
 by_cases hpu:p=u
 ·subst hpu
  have s1:=dw d p q w
  have n3:q≠p:=by lia
  have n4:p≠w:=by lia
  have hYq:d.Y q≠d.Y p:=by lia
  by_cases hqw:q=w
  ·subst hqw
   have z:d.tr p q q=0:=cV d p q
   simp[Dr.pre,n3,n4,z,hYq]
  ·have a2:d.Y q<=d.Y w->d.tr p w q≠0:=λhh=>nz g huw hqn hy (by lia) hh n3 hqw
   simp[Dr.pre,n3,n4,hqw,h1,h2,hYq,hf]
   by_cases hh:d.Y q<=d.Y w
   ·have b1:¬d.Y w<d.Y q:=by lia
    simp[hh,b1];grind
   ·have b1:d.Y w<d.Y q:=by lia
    have b2:d.Y p<=d.Y w:=by lia
    simp[hh,b1,b2,Ie n4,Ie hqw]
    lia
 by_cases hqu:q=u
 ·subst hqu
  have n1:q≠w:=by lia
  have n2:p≠w:=by lia
  have n3:p≠q:=by lia
  have n4:¬q<p:=by lia
  have n5:¬w<q:=by lia
  have n6:¬q<q:=by lia
  have n7:¬d.Y w<d.Y q:=by lia
  have n8:¬d.Y q<d.Y p:=by lia
  simp[Dr.pre,n1,n2,n3,n4,n5,n6,n7,n8]
 by_cases hpw:p=w
 ·subst hpw
  have n1:q≠p:=by lia
  have z:d.tr u p p=0:=cV d u p
  have n2:¬d.Y p<=d.Y u:=by lia
  have n3:¬d.Y q=d.Y p:=by lia
  have n4:¬d.Y q<=d.Y p:=by lia
  simp[Dr.pre,n1,hqu,hpu,h2,h1,z,n2,n3,n4]
 by_cases hqw:q=w
 ·subst hqw
  have n1:p≠q:=by lia
  have z:d.tr u q q=0:=cV d u q
  have s1:=lc d u q p
  have s2:=kE d p q u
  have s3:=lc d p u q
  have n2:¬q<p:=by lia
  simp[Dr.pre,n1,hpu,hqu,hpw,Ie hpu,Ie hqu,z,n2,h1,h2]
  by_cases hh:d.Y p<=d.Y u
  ·have b1:¬d.Y u<d.Y p:=by lia
   simp[hh,b1,hy];
   have t:d.tr p q u≠0:=nz g hpq hun hf hh (by lia) (Ie hpu) (Ie hqu)
   grind
  ·have b1:d.Y u<d.Y p:=by lia
   have t:d.tr u q p≠0:=nz g huw hpn hy (by lia) (by lia) hpu hpw
   have b2:d.Y p<=d.Y q:=by lia
   simp[hh,b1,b2]
   grind
 ·simp only[hpu,hqu,hpw,hqw,Ie hpu,Ie hqu,Ie hpw,Ie hqw,false_and,K3,IF,Jl,ne_eq,not_false_eq_true,true_and]
  by_cases c1:d.Y q<=d.Y u
  ·have b1:¬d.Y u<d.Y q:=by lia
   have b2:¬d.Y w<d.Y q:=by lia
   have b3:¬d.Y u<d.Y p:=by lia
   simp[b1,b2,b3]
  by_cases c2:d.Y w<d.Y p
  ·have b1:¬d.Y p<=d.Y u:=by lia
   have b2:¬d.Y q<=d.Y w:=by lia
   have b3:¬d.Y p<=d.Y w:=by lia
   simp[b1,b2,b3]
  have c1':d.Y u<d.Y q:=by lia
  have c2':d.Y p<=d.Y w:=by lia
  by_cases c3:d.Y p<=d.Y u
  ·have c3':¬d.Y u<d.Y p:=by lia
   by_cases c4:d.Y q<=d.Y w
   ·have c4':¬d.Y w<d.Y q:=by lia
    have:=L1 g huw hpq c3 c1' c4 hpu hqw
    simp[c3,c3',c4,c4',c1',c2']
    grind
   ·have c4':d.Y w<d.Y q:=by lia
    have:=L2 g huw hpq c3 hy (by lia) hpu hqw
    simp[c3,c3',c4,c4',c1',c2']
    grind
  ·have c3':d.Y u<d.Y p:=by lia
   by_cases c4:d.Y q<=d.Y w
   ·have c4':¬d.Y w<d.Y q:=by lia
    have:=L2 g hpq huw (by lia) hf c4 (Ie hpu) (Ie hqw)
    simp[c3,c3',c4,c4',c1',c2']
    grind
   ·have c4':d.Y w<d.Y q:=by lia
    simp[c3,c3',c4,c4',c1',c2']
    by_cases c5:d.Y p=d.Y w
    ·have e1:=pS d u w p c5
     have e2:=kr d p q w c5.symm
     rw[e1,e2]
     have e3:=@eF (d.Y w-d.Y u) (d.X w-d.X p) (by lia)
     have e4:=@bo (d.Y q-d.Y p) (d.X p-d.X w) (by lia)
     rw[e3,e4];lia
    ·have:=L1 g hpq huw (by lia) (by lia) (by lia) (Ie hpu) (Ie hqw)
     grind
theorem wU (g:eZ d){u w p q:Nat}(huw:d.J u w)(hpq:d.J p q)(h1:u<w)(h2:p<q)(hy:d.Y u=d.Y w) :
  ((d.Om u w p q^^d.Om w u p q)^^decide (p=u/\q=w))=(d.Psi u w p^^d.Psi u w q):=by
 have hpn:=g.lt hpq
 have hqn:=g.lt (g.symm hpq)
 have hwn:=g.lt (g.symm huw)
 have hun:=g.lt huw
 have hx:d.X u<d.X w:=by rcases g.ord h1 hwn with h|h<;>lia
 have hnn:¬d.Y u<d.Y w:=by lia
 have fl:=λk=>eG d u w k hy
 have onrow:∀k,k<d.n->d.Y k=d.Y u->d.X u<=d.X k->d.X k<=d.X w->k=u\/k=w:=by
  intro k hk e x1 x2
  apply bcn;intro hc
  refine g.nopt huw hk (by lia) (by lia) ⟨?_,by lia,by lia,by lia,by lia⟩
  rw[fl,e,hy];simp
 have ordX:∀{i j},i<j->j<d.n->d.Y i=d.Y j->d.X i<d.X j:=by
  intro i j h h' e;rcases g.ord h h' with h|h<;>lia
 have ordY:∀{i j},i<j->j<d.n->d.Y i<=d.Y j:=by
  intro i j h h';rcases g.ord h h' with h|h<;>lia
 simp only[Dr.Om,Dr.base,Dr.Psi,hnn,Lf,Jl]
 by_cases hpu:p=u
 ·subst hpu
  have n3:q≠p:=by lia
  have n4:p≠w:=by lia
  have preE:d.pre p q w=decide (q=w):=by
   unfold Dr.pre
   rw[HK]
   constructor
   ·rintro(h|h|h)
    ·exact h
    ·lia
    ·exfalso
     by_cases e:d.Y q=d.Y p
     ·have:=onrow q hqn e (by have:=ordX h2 hqn e.symm;lia)
      have t:=h.2
      rw[dw d p w q,fl,e,hy]at t;simp at t
     ·have t:=h.2
      have:=ordY h2 hqn
      rw[dw d p w q,fl]at t
      have:0<(d.X w-d.X p)*(d.Y q-d.Y w):=HH (by lia) (by lia)
      lia
   ·intro h;exact Jr h
  by_cases e:d.Y q=d.Y p
  ·have xq:=ordX h2 hqn e.symm
   have hqw:q=w:=by
    apply bcn;intro hc
    by_cases hl:d.X q<=d.X w
    ·rcases onrow q hqn e (by lia) hl with h|h<;>lia
    ·refine g.nopt hpq hwn (by lia) (Ie hc) ⟨?_,by lia,by lia,by lia,by lia⟩
     rw[eG d p q w e.symm,e,hy];simp
   subst hqw
   have nn:¬q<q:=by lia
   simp[n3,n4,preE,e]
   simp[Dr.pre]
  ·have hqw:q≠w:=by intro h;subst h;lia
   have:=ordY h2 hqn
   have hf:d.Y p<d.Y q:=by lia
   have t:¬0<d.tr p q w:=by
    rw[dw d p w q,fl]
    have:0<(d.X w-d.X p)*(d.Y q-d.Y w):=HH (by lia) (by lia)
    lia
   simp[n3,n4,preE,e,hqw,t]
 by_cases hqu:q=u
 ·subst hqu
  have n1:q≠w:=by lia
  have n2:p≠w:=by lia
  have n3:p≠q:=by lia
  have n4:¬q<p:=by lia
  have n5:¬w<q:=by lia
  have n6:¬q<q:=by lia
  have n7:¬d.Y w<d.Y q:=by lia
  simp[Dr.pre,n1,n2,n3,n4,n5,n6,n7]
 by_cases hpw:p=w
 ·subst hpw
  have n1:q≠p:=by lia
  have oy:=ordY h2 hqn
  by_cases e:d.Y q=d.Y p
  ·have n3:¬d.Y u<d.Y q:=by lia
   simp[Dr.pre,n1,hqu,hpu,h2,h1,e]
   lia
  ·have n3:d.Y u<d.Y q:=by lia
   have n4:d.Y p<=d.Y u:=by lia
   have t:0<d.tr p q u:=by
    rw[kr d p q u hy];exact HH (by lia) (by lia)
   simp[Dr.pre,n1,hqu,hpu,Ie hpu,Ie hqu,h2,h1,n3,n4,e,t]
 by_cases hqw:q=w
 ·subst hqw
  have n1:p≠q:=by lia
  have n2:¬q<p:=by lia
  have oy:=ordY h2 hqn
  have n5:¬d.Y u<d.Y q:=by lia
  have n6:¬q<q:=by lia
  have t:¬0<d.tr q p u:=by
   rw[lc d u q p,fl]
   have:0<=(d.X q-d.X u)*(d.Y q-d.Y p):=Ht (by lia) (by lia)
   grind
  simp[Dr.pre,n1,hpu,hqu,n5,n2,t]
 ·simp only[hpu,hqu,hpw,hqw,Ie hpu,Ie hqu,Ie hpw,Ie hqw,false_and,K3,IF,Jl,ne_eq,not_false_eq_true,true_and]
  by_cases c:d.Y p<=d.Y u/\d.Y u<d.Y q
  ·obtain⟨c1,c2⟩:=c
   have c3:d.Y p<=d.Y w:=by lia
   have c4:d.Y w<d.Y q:=by lia
   have mv:d.tr p q u-d.tr p q w=(d.Y q-d.Y p)*(d.X w-d.X u):=by unfold Dr.tr tr6;grind
   have mv2:0<(d.Y q-d.Y p)*(d.X w-d.X u):=HH (by lia) (by lia)
   have nD:d.tr p q w≠0:=nz g hpq hwn (by lia) c3 (by lia) (Ie hpw) (Ie hqw)
   have key:0<d.tr p q u->0<d.tr p q w:=by
    intro h
    apply bcn;intro hn
    by_cases e:d.Y p=d.Y u
    ·have e1:=kr d p q u e.symm
     have e2:=kr d p q w (by lia)
     have f1:=(@bo (d.Y q-d.Y p) (d.X p-d.X u) (by lia)).1 (by lia)
     have f2:=(@eF (d.Y q-d.Y p) (d.X p-d.X w) (by lia)).1 (by lia)
     rcases onrow p hpn e (by lia) (by lia) with h|h<;>lia
    ·refine g.nocross huw hpq ⟨?_,aD _ _ h (by lia)⟩
     rw[fl,fl]
     exact cH _ _ (aD _ _ (by lia) (by lia)) (HH (by lia) (by lia))
   simp only[c1,c2,c3,c4,true_and]
   have:decide (0<d.tr p q u)=decide (0<d.tr p q w):=by
    rw[HK]
    constructor
    ·exact key
    ·intro h;lia
   rw[this];simp
  ·have c':¬(d.Y p<=d.Y w/\d.Y w<d.Y q):=by lia
   have e1:¬(d.Y p<=d.Y u/\d.Y u<d.Y q/\0<d.tr p q u):=λh=>c ⟨h.1,h.2.1⟩
   have e2:¬(d.Y p<=d.Y w/\d.Y w<d.Y q/\0<d.tr p q w):=λh=>c' ⟨h.1,h.2.1⟩
   simp[e1,e2]
theorem zt (g:eZ d){u w p q:Nat}(huw:d.J u w)(hpq:d.J p q)(h1:u<w)(h2:p<q) :
  ((d.Om u w p q^^d.Om w u p q)^^decide (p=u/\q=w))=(d.Psi u w p^^d.Psi u w q):=by
 have hqn:=g.lt (g.symm hpq)
 have hwn:=g.lt (g.symm huw)
 rcases g.ord h1 hwn with a|a
 ·rcases g.ord h2 hqn with b|b
  ·exact uc g huw hpq h1 h2 a b
  ·exact rC g huw hpq h1 h2 a b.1
 ·exact wU g huw hpq h1 h2 a.1
variable  {d:Dr}
abbrev az:=Nat×Nat
def xs (f:az->Bool):List az->Bool
 |[]=>false
 |e :: r=>f e^^xs f r
theorem iU (f g:az->Bool):∀E,xs (λe=>f e^^g e) E=(xs f E^^xs g E)
 |[]=>rfl
 |e :: r=>by simp only[xs,iU f g r];cases f e<;>cases g e<;>cases xs f r<;>cases xs g r<;>rfl
theorem bE {f g:az->Bool}:∀{E:List az},(∀e∈E,f e=g e)->xs f E=xs g E
 |[],_=>rfl
 |e :: r,h=>by
  simp only[xs,h e (by simp),bE (λx hx=>h x (Ho _ hx))]
def c8 (E:List az):Prop:=∀Q:Nat->Bool,xs (λe=>Q e.1^^Q e.2) E=false
def Dr.om (d:Dr)(E:List az)(u w:Nat):Bool:=xs (λe=>d.Om u w (min e.1 e.2) (max e.1 e.2)) E
def ce (E:List az)(u w:Nat):Bool:=xs (λe=>decide ((e.1=u/\e.2=w)\/(e.1=w/\e.2=u))) E
theorem Bl (E:List az)(u w:Nat):ce E u w=ce E w u:=by
 apply bE;intro e _;rw[HK];exact Or.comm
theorem BS (g:eZ d){u w:Nat}(huw:d.J u w)(h1:u<w){E:List az}(hE:∀e∈E,d.J e.1 e.2)(hc:c8 E) :
  (d.om E u w^^d.om E w u)=ce E u w:=by
 have h:xs (λe=>((d.Om u w (min e.1 e.2) (max e.1 e.2)^^d.Om w u (min e.1 e.2) (max e.1 e.2)) ^^
   decide ((e.1=u/\e.2=w)\/(e.1=w/\e.2=u)))) E=false:=by
  rw[<-hc (d.Psi u w)]
  apply bE
  intro e he
  have hj:=hE e he
  have hne:=g.ne hj
  rcases IA hne with hl|hl
  ·have:=zt g huw hj h1 hl
   rw[Ia (by lia),IG (by lia),<-this]
   congr 1
   rw[HK];lia
  ·have:=zt g huw (g.symm hj) h1 hl
   rw[HX (by lia),Jh (by lia),Ks (d.Psi u w e.1),<-this]
   congr 1
   rw[HK];lia
 rw[iU,iU]at h
 unfold Dr.om ce
 revert h
 generalize xs _ E=a;generalize xs _ E=b;generalize xs _ E=c
 cases a<;>cases b<;>cases c<;>simp
theorem BC (g:eZ d){u w:Nat}(huw:d.J u w){E:List az}(hE:∀e∈E,d.J e.1 e.2)(hc:c8 E) :
  (d.om E u w^^d.om E w u)=ce E u w:=by
 rcases IA (g.ne huw) with h|h
 ·exact BS g huw h hE hc
 ·rw[Ks,Bl];exact BS g (g.symm huw) h hE hc
def bJ (l:List Nat)(x:Nat):Nat:=if l.idxOf x=0 then l.getLast?.getD 0 else l.getD (l.idxOf x-1) 0
theorem ja {l:List Nat}{x:Nat}(h:x∈l):∃l1 l2,l=l1++x :: l2/\x∉l1:=by
 induction l with
 |nil=>cases h
 |cons a r ih =>
  by_cases e:a=x
  ·exact⟨[],r,by simp[e],by simp⟩
  ·have:x∈r:=by
    rcases Hq.1 h with h|h
    ·exact absurd h.symm e
    ·exact h
   obtain⟨l1,l2,e1,e2⟩:=ih this
   exact⟨a :: l1,l2,by simp[e1],by simp[e2];lia⟩
theorem l8 {l1 l2:List Nat}{x:Nat}(h:x∉l1):(l1++x :: l2).idxOf x=l1.length:=by
 induction l1 with
 |nil=>simp
 |cons a r ih =>
  have h1:a≠x:=by intro e;apply h;simp[e]
  have h2:x∉r:=by intro e;apply h;simp[e]
  have h3:(a==x)=false:=by simpa using h1
  rw[Lv,List.idxOf_cons,ih h2,h3];rfl
theorem jx (x:Nat)(l2:List Nat):bJ (x :: l2) x=(x :: l2).getLast (by simp):=by
 unfold bJ
 simp[List.getLast?_eq_some_getLast]
theorem jf {l1 l2:List Nat}{x:Nat}(h:x∉l1)(hn:l1≠[]):bJ (l1++x :: l2) x=l1.getLast hn:=by
 unfold bJ
 rw[l8 h]
 have:l1.length≠0:=by intro e;exact hn (JD.1 e)
 rw[Hs this,Hx,HE (by lia)]
 rw[List.getLast_eq_getElem]
 rw[gge (by lia)];rfl
structure mE (d:Dr)(ring:Nat->List Nat):Prop where
 mem:∀{u w},w∈ring u↔d.J u w
 sorted:∀u,(ring u).Pairwise (λb w=>d.pre u b w=true/\d.pre u w b=false/\b≠w)
theorem kO (d:Dr)(u b:Nat):d.pre u b b=true:=by simp[Dr.pre]
theorem lQ {l:List Nat}{x:Nat}(h:x∈l):bJ l x∈l:=by
 obtain⟨l1,l2,e,hn⟩:=ja h
 subst e
 by_cases h1:l1=[]
 ·subst h1;rw[JF,jx];exact J4 _
 ·rw[jf hn h1]
  exact List.mem_append_left _ (J4 _)
theorem DO (g:eZ d){ring:Nat->List Nat}(r:mE d ring){u v:Nat}(huv:d.J u v){E:List az}(hE:∀e∈E,d.J e.1 e.2)(hc:c8 E) :
  d.om E v (bJ (ring v) u)=(d.om E v u^^ce E u v):=by
 have hm:u∈ring v:=r.mem.2 (g.symm huv)
 obtain⟨l1,l2,e,hn⟩:=ja hm
 have hs:=r.sorted v
 rw[e]at hs
 rw[IK]at hs
 obtain⟨s1,s2,s3⟩:=hs
 rw[Iy]at s2
 have key:∃Q:Nat->Bool,∀b,d.J v b->(d.pre v b (bJ (ring v) u)^^d.pre v b u)=(decide (b=u)^^Q v):=by
  by_cases h1:l1=[]
  ·subst h1
   refine⟨λ_=>true,λb hb=>?_⟩
   have hb':b∈ring v:=r.mem.2 hb
   rw[e,JF,jx]
   rw[e,JF]at hb'
   have t1:d.pre v b ((u :: l2).getLast (by simp))=true:=by
    by_cases hbl:b=(u :: l2).getLast (by simp)
    ·rw[<-hbl];exact kO _ _ _
    ·have hall:((u :: l2).dropLast++[(u :: l2).getLast (by simp)]).Pairwise (λb w=>d.pre v b w=true/\d.pre v w b=false/\b≠w):=by
      rw[ID];exact Iy.2 s2
     rw[IK]at hall
     have:b∈(u :: l2).dropLast:=by
      have hx:b∈(u :: l2).dropLast++[(u :: l2).getLast (by simp)]:=by
       rw[ID];exact hb'
      rcases HU.1 hx with hx|hx
      ·exact hx
      ·simp at hx;exact absurd hx (by simpa using hbl)
     exact(hall.2.2 b this _ (by simp)).1
   rw[t1]
   rcases Hq.1 hb' with hb2|hb2
   ·subst hb2;simp[kO]
   ·have:=s2.1 b hb2
    rw[this.2.1]
    have:b≠u:=Ie this.2.2
    simp[this]
  ·refine⟨λ_=>false,λb hb=>?_⟩
   have hb':b∈ring v:=r.mem.2 hb
   rw[e,jf hn h1]
   rw[e]at hb'
   rcases HU.1 hb' with hb2|hb2
   ·have a1:=(s3 b hb2 u (by simp))
    have a2:d.pre v b (l1.getLast h1)=true:=by
     by_cases hbl:b=l1.getLast h1
     ·rw[<-hbl];exact kO _ _ _
     ·have hall:(l1.dropLast++[l1.getLast h1]).Pairwise (λb w=>d.pre v b w=true/\d.pre v w b=false/\b≠w):=by
       rw[ID];exact s1
      rw[IK]at hall
      have:b∈l1.dropLast:=by
       have hx:b∈l1.dropLast++[l1.getLast h1]:=by
        rw[ID];exact hb2
       rcases HU.1 hx with hx|hx
       ·exact hx
       ·simp at hx;exact absurd hx hbl
      exact(hall.2.2 b this _ (by simp)).1
    rw[a2,a1.1];simp[a1.2.2]
   ·rcases Hq.1 hb2 with hb3|hb3
    ·subst hb3
     have a1:=s3 (l1.getLast h1) (J4 _) b (by simp)
     rw[a1.2.1,kO];simp
    ·have a1:=s3 (l1.getLast h1) (J4 _) b (Ho _ hb3)
     have a2:=s2.1 b hb3
     rw[a1.2.1,a2.2.1];simp[Ie a2.2.2]
 obtain⟨Q,hQ⟩:=key
 have hcl:=hc (λx=>decide (x=v)&&Q v)
 have h:xs (λe=>((d.Om v (bJ (ring v) u) (min e.1 e.2) (max e.1 e.2)^^d.Om v u (min e.1 e.2) (max e.1 e.2)) ^^
   decide ((e.1=u/\e.2=v)\/(e.1=v/\e.2=u)))) E=false:=by
  rw[<-hcl]
  apply bE
  intro e he
  have hj:=hE e he
  have hne:=g.ne hj
  have aux:∀p q,d.J p q->p<q->((d.Om v (bJ (ring v) u) p q^^d.Om v u p q)^^decide ((p=u/\q=v)\/(p=v/\q=u)))
    = ((decide (p=v)&&Q v)^^(decide (q=v)&&Q v)):=by
   intro p q hpq hl
   unfold Dr.Om
   generalize hB:(d.base v p q^^decide (p=v/\d.Y q=d.Y v))=B
   by_cases hp:p=v
   ·subst hp
    have hq:q≠p:=by lia
    have:=hQ q hpq
    have h3:decide ((p=u/\q=p)\/(p=p/\q=u))=decide (q=u):=by
     rw[HK];constructor
     ·rintro(h|h)
      ·lia
      ·exact h.2
     ·intro h;exact IP ⟨rfl,h⟩
    rw[h3]
    simp only[hq,decide_true,K3,Jn,IF,Jl]
    revert this
    generalize d.pre p q (bJ (ring p) u)=x1;generalize d.pre p q u=x2;generalize decide (q=u)=x3;generalize Q p=x4
    cases x1<;>cases x2<;>cases x3<;>cases x4<;>cases B<;>simp
   ·by_cases hq:q=v
    ·subst hq
     have:=hQ p (g.symm hpq)
     have h3:decide ((p=u/\q=q)\/(p=q/\q=u))=decide (p=u):=by
      rw[HK];constructor
      ·rintro(h|h)
       ·exact h.1
       ·exact absurd h.1 hp
      ·intro h;exact Jr ⟨h,rfl⟩
     rw[h3]
     simp only[hp,decide_true,K3,Jn,IF,IQ]
     revert this
     generalize d.pre q p (bJ (ring q) u)=x1;generalize d.pre q p u=x2;generalize decide (p=u)=x3;generalize Q q=x4
     cases x1<;>cases x2<;>cases x3<;>cases x4<;>cases B<;>simp
    ·have h3:¬((p=u/\q=v)\/(p=v/\q=u)):=by lia
     rw[dqf h3]
     simp only[hp,hq,K3,IF,Jl,KI]
  rcases IA hne with hl|hl
  ·have:=aux e.1 e.2 hj hl
   rw[Ia (by lia),IG (by lia),<-this]
  ·have:=aux e.2 e.1 (g.symm hj) hl
   rw[HX (by lia),Jh (by lia),Ks (decide (e.1=v)&&Q v),<-this]
   congr 1
   rw[HK];lia
 rw[iU,iU]at h
 unfold Dr.om ce
 revert h
 generalize xs _ E=a;generalize xs _ E=b;generalize xs _ E=c
 cases a<;>cases b<;>cases c<;>simp
theorem vD (g:eZ d){ring:Nat->List Nat}(r:mE d ring){u v:Nat}(huv:d.J u v){E:List az}(hE:∀e∈E,d.J e.1 e.2)(hc:c8 E) :
  d.om E v (bJ (ring v) u)=d.om E u v:=by
 rw[DO g r huv hE hc,<-BC g huv hE hc]
 cases d.om E v u<;>cases d.om E u v<;>rfl
variable  {d:Dr}
def nxt (ring:Nat->List Nat)(e:az):az:=(e.2,bJ (ring e.2) e.1)
def iter (ring:Nat->List Nat)(e:az):Nat->az
 |0=>e
 |k+1=>nxt ring (iter ring e k)
theorem gd (ring:Nat->List Nat)(e:az)(k:Nat):iter ring e (k+1)=nxt ring (iter ring e k):=rfl
theorem dY (ring:Nat->List Nat)(e:az)(k:Nat):(iter ring e (k+1)).1=(iter ring e k).2:=rfl
theorem mE.nodup {ring:Nat->List Nat}(r:mE d ring)(u:Nat):(ring u).Nodup :=
 (r.sorted u).imp (λh=>h.2.2)
theorem gL {l:List Nat}(hl:l.Nodup){a b:Nat}(ha:a<l.length)(hb:b<l.length)(h:l[a]=l[b]):a=b:=by
 have hp:=HQ.1 hl
 rcases Li a b with hlt|heq|hgt
 ·exact absurd h (hp a b ha hb hlt)
 ·exact heq
 ·exact absurd h.symm (hp b a hb ha hgt)
theorem wI {l:List Nat}(hl:l.Nodup){x y:Nat}(hx:x∈l)(hy:y∈l)(h:bJ l x=bJ l y):x=y:=by
 have key:∀z∈l,∃k,∃hk:k<l.length,l[k]=z/\bJ l z=(if k=0 then l[l.length-1]'(by lia) else l[k-1]'(by lia)):=by
  intro z hz
  refine⟨l.idxOf z,Kg hz,List.getElem_idxOf _,?_⟩
  unfold bJ
  have hlt:=Kg hz
  split
  ·rename_i h0
   rw[List.getLast?_eq_getElem?,gge (by lia)];rfl
  ·rename_i h0
   rw[Hx,gge (by lia)];rfl
 obtain⟨i,hi,ei,pi⟩:=key x hx
 obtain⟨j,hj,ej,pj⟩:=key y hy
 have inj:∀a b (ha:a<l.length) (hb:b<l.length),l[a]=l[b]->a=b:=by
  intro a b ha hb e
  exact gL hl ha hb e
 rw[pi,pj]at h
 have:i=j:=by
  by_cases h1:i=0<;>by_cases h2:j=0
  ·lia
  ·rw[Hz h1,Hs h2]at h
   have:=inj _ _ _ _ h;lia
  ·rw[Hs h1,Hz h2]at h
   have:=inj _ _ _ _ h;lia
  ·rw[Hs h1,Hs h2]at h
   have:=inj _ _ _ _ h;lia
 subst this
 rw[<-ei,<-ej]
theorem Fm (g:eZ d){ring:Nat->List Nat}(r:mE d ring){e:az}(h:d.J e.1 e.2):d.J (nxt ring e).1 (nxt ring e).2 :=
 r.mem.1 (lQ (r.mem.2 (g.symm h)))
theorem mS (g:eZ d){ring:Nat->List Nat}(r:mE d ring){a b:az}(ha:d.J a.1 a.2)(hb:d.J b.1 b.2)(h:nxt ring a=nxt ring b):a=b:=by
 unfold nxt at h
 have h1:a.2=b.2:=(IY h).1
 have h2:=(IY h).2
 rw[h1]at h2
 have:=wI (r.nodup b.2) (r.mem.2 (by rw[<-h1];exact g.symm ha)) (r.mem.2 (g.symm hb)) h2
 exact Lg this h1
theorem fg (g:eZ d){ring:Nat->List Nat}(r:mE d ring){e:az}(h:d.J e.1 e.2):∀k,d.J (iter ring e k).1 (iter ring e k).2
 |0=>h
 |k+1=>Fm g r (fg g r h k)
theorem ni {l:List Nat}(hl:l.Nodup){F:Nat->Bool}(h:∀x∈l,F (bJ l x)=F x):∀x∈l,∀y∈l,F x=F y:=by
 have key:∀k (hk:k<l.length),F l[k]=F (l[0]'(by lia)):=by
  intro k
  induction k with
  |zero=>intro _;rfl
  |succ k ih =>
   intro hk
   rw[<-ih (by lia)]
   have hm:l[k+1]∈l:=HP _
   rw[<-h _ hm]
   congr 1
   unfold bJ
   have:l.idxOf l[k+1]=k+1:=by
    have h1:=Kg hm
    have h2:=List.getElem_idxOf h1
    exact gL hl _ _ h2
   rw[this,Hs (by lia),Hx]
   simp only[Nat.add_sub_cancel]
   rw[gge (by lia)];rfl
 intro x hx y hy
 obtain⟨i,hi,e1⟩:=Ib hx
 obtain⟨j,hj,e2⟩:=Ib hy
 rw[<-e1,<-e2,key i hi,key j hj]
def uV (d:Dr)(ok:Nat->Prop):Prop :=
 ∀m:Nat->Bool,(∀a b,d.J a b->ok a->ok b->m a=m b)->∀a b,a<d.n->b<d.n->ok a->ok b->m a=m b
theorem yX {E:List az}(hn:E.Nodup){u w:Nat}(huw:u≠w):ce E u w=(decide ((u,w)∈E)^^decide ((w,u)∈E)):=by
 induction E with
 |nil=>simp[ce,xs]
 |cons e r ih =>
  rw[Ja]at hn
  have:=ih hn.2
  unfold ce at this ⊢
  rw[xs,this]
  obtain⟨a,b⟩:=e
  simp only[Hq,Kt]
  by_cases h1:a=u/\b=w
  ·obtain⟨rfl,rfl⟩:=h1
   have h2:(a,b)∉r:=hn.1
   simp[h2,huw]
  ·by_cases h2:a=w/\b=u
   ·obtain⟨rfl,rfl⟩:=h2
    have h3:(a,b)∉r:=hn.1
    simp[h3,huw]
   ·have t1:¬((a=u/\b=w)\/(a=w/\b=u)):=by lia
    have t2:¬(u=a/\w=b):=by lia
    have t3:¬(w=a/\u=b):=by lia
    simp only[t1,t2,t3,K3,IQ,false_or]
theorem kq (g:eZ d){ring:Nat->List Nat}(r:mE d ring){E:List az}(hE:∀e∈E,d.J e.1 e.2)(hc:c8 E)(hn:E.Nodup)
  (ok:Nat->Prop) (hk:uV d ok) (hnx:∀a b,d.J a b->ok b->((a,b)∈E↔nxt ring (a,b)∈E)) :
  ∀a b a' b',d.J a b->d.J a' b'->ok a->ok a' ->
   (d.om E a b^^decide ((a,b)∈E))=(d.om E a' b'^^decide ((a',b')∈E)):=by
 have rev:∀a b,d.J a b->(d.om E a b^^decide ((a,b)∈E))=(d.om E b a^^decide ((b,a)∈E)):=by
  intro a b h
  have h1:=BC g h hE hc
  rw[yX hn (g.ne h)]at h1
  revert h1
  generalize d.om E a b=x1;generalize d.om E b a=x2;generalize decide ((a,b)∈E)=x3;generalize decide ((b,a)∈E)=x4
  cases x1<;>cases x2<;>cases x3<;>cases x4<;>simp
 have rot:∀u,ok u->∀x∈ring u,∀y∈ring u,(d.om E u x^^decide ((u,x)∈E))=(d.om E u y^^decide ((u,y)∈E)):=by
  intro u hu
  refine ni (F:=λx=>d.om E u x^^decide ((u,x)∈E)) (r.nodup u) ?_
  intro x hx
  have hj:d.J u x:=r.mem.1 hx
  show(d.om E u (bJ (ring u) x)^^decide ((u,bJ (ring u) x)∈E))=_
  rw[vD g r (g.symm hj) hE hc,rev u x hj]
  have:=hnx x u (g.symm hj) hu
  have e:decide ((u,bJ (ring u) x)∈E)=decide ((x,u)∈E):=by
   rw[HK];exact this.symm
  rw[e]
 intro a b a' b' h h' ha ha'
 have hm:=hk (λu=>match ring u with|[]=>false|x :: _=>d.om E u x^^decide ((u,x)∈E))
 have val:∀u x,ok u->x∈ring u->(match ring u with|[]=>false|x :: _=>d.om E u x^^decide ((u,x)∈E))=(d.om E u x^^decide ((u,x)∈E)):=by
  intro u x hu hx
  have:=rot u hu
  cases hr:ring u with
  |nil=>rw[hr]at hx;cases hx
  |cons y l =>
   rw[hr]at this hx
   simp only
   exact this y (by simp) x hx
 have:=hm (by
  intro p q hpq hp hq
  rw[val p q hp (r.mem.2 hpq),val q p hq (r.mem.2 (g.symm hpq))]
  exact rev p q hpq) a a' (g.lt h) (g.lt h') ha ha'
 rw[val a b ha (r.mem.2 h),val a' b' ha' (r.mem.2 h')]at this
 exact this
def seg (ring:Nat->List Nat)(e:az)(i:Nat):Nat->List az
 |0=>[]
 |k+1=>iter ring e i :: seg ring e (i+1) k
theorem bU (ring:Nat->List Nat)(e x:az):∀k i,x∈seg ring e i k↔∃j,i<=j/\j<i+k/\x=iter ring e j
 |0,i=>by simp[seg];lia
 |k+1,i=>by
  rw[seg,Hq,bU ring e x k (i+1)]
  constructor
  ·rintro(h|⟨j,h1,h2,h3⟩)
   ·exact⟨i,by lia,by lia,h⟩
   ·exact⟨j,by lia,by lia,h3⟩
  ·rintro⟨j,h1,h2,h3⟩
   by_cases h:j=i
   ·subst h;exact Jr h3
   ·exact IP ⟨j,by lia,by lia,h3⟩
theorem gc (ring:Nat->List Nat)(e:az):∀k i,(∀a b,i<=a->a<b->b<i+k->iter ring e a≠iter ring e b)->(seg ring e i k).Nodup
 |0,_,_=>by simp[seg]
 |k+1,i,h=>by
  rw[seg,Ja]
  constructor
  ·rw[bU]
   rintro⟨j,h1,h2,h3⟩
   exact h i j (by lia) (by lia) (by lia) h3
  ·exact gc ring e k (i+1) (λa b h1 h2 h3=>h a b (by lia) h2 (by lia))
theorem tJ (ring:Nat->List Nat)(e:az)(Q:Nat->Bool):∀k i,xs (λe=>Q e.1^^Q e.2) (seg ring e i k)=(Q (iter ring e i).1^^Q (iter ring e (i+k)).1)
 |0,i=>by simp[seg,xs]
 |k+1,i=>by
  rw[seg,xs,tJ ring e Q k (i+1),dY]
  have:i+1+k=i+(k+1):=by lia
  rw[this]
  generalize Q (iter ring e i).1=a;generalize Q (iter ring e i).2=b;generalize Q (iter ring e (i+(k+1))).1=c
  cases a<;>cases b<;>cases c<;>rfl
theorem gg (ring:Nat->List Nat)(e:az){i k:Nat}(h:(iter ring e i).1=(iter ring e (i+k)).1):c8 (seg ring e i k):=by
 intro Q
 rw[tJ,h];simp
theorem mU (g:eZ d){ring:Nat->List Nat}(r:mE d ring){E:List az}(hE:∀e∈E,d.J e.1 e.2)(hc:c8 E){e:az}(he:d.J e.1 e.2) :
  ∀k,d.om E (iter ring e k).1 (iter ring e k).2=d.om E e.1 e.2
 |0=>rfl
 |k+1=>by
  rw[<-mU g r hE hc he k]
  exact vD g r (fg g r he k) hE hc
theorem sE (g:eZ d){ring:Nat->List Nat}(r:mE d ring){e:az}(he:d.J e.1 e.2){N:Nat}
  (hN:iter ring e N=e) (hd:∀a b,a<b->b<N->iter ring e a≠iter ring e b)
  (hk:∀v,v<d.n->uV d (λu=>u≠v)) {i j:Nat} (hij:i<j) (hj:j<N):(iter ring e i).1≠(iter ring e j).1:=by
 intro hv
 have hEJ:=fg g r he
 let E:=seg ring e i (j-i)
 have hE:∀x∈E,d.J x.1 x.2:=by
  intro x hx
  obtain⟨k,_,_,rfl⟩:=(bU ring e x _ _).1 hx
  exact hEJ k
 have hc:c8 E:=gg ring e (by rw[hv];congr 2;lia)
 have hn:E.Nodup:=gc ring e _ _ (λa b _ h2 h3=>hd a b h2 (by lia))
 let v:=(iter ring e i).1
 have nx1:(iter ring e i).2≠v:=Ie (g.ne (hEJ i))
 have nx2:(iter ring e j).2≠v:=by
  show _≠(iter ring e i).1
  rw[hv];exact Ie (g.ne (hEJ j))
 have hlt:i+1<j:=by
  apply bcn;intro hc'
  have:j=i+1:=by lia
  subst this
  rw[dY]at hv
  exact g.ne (hEJ i) hv
 have sc:=kq g r hE hc hn (λu=>u≠v) (hk v (g.lt (hEJ i))) (by
  intro a b hab hb
  constructor
  ·intro h
   obtain⟨k,h1,h2,h3⟩:=(bU ring e _ _ _).1 h
   rw[h3]
   refine(bU ring e _ _ _).2 ⟨k+1,by lia,?_,rfl⟩
   apply bcn;intro hn'
   have:k+1=j:=by lia
   have hb2:(iter ring e (k+1)).1=b:=by rw[dY,<-h3]
   rw[this,<-hv]at hb2
   exact hb hb2.symm
  ·intro h
   obtain⟨k,h1,h2,h3⟩:=(bU ring e _ _ _).1 h
   have hki:k≠i:=by
    intro e';subst e'
    have:b=(iter ring e k).1:=by rw[<-h3];rfl
    exact hb this
   obtain⟨k',rfl⟩:∃k',k=k'+1:=⟨k-1,by lia⟩
   have:=mS g r hab (hEJ k') h3
   rw[this]
   exact(bU ring e _ _ _).2 ⟨k',by lia,by lia,rfl⟩)
 have f1:=sc _ _ _ _ (hEJ (i+1)) (hEJ (j+1)) (by rw[dY];exact nx1) (by rw[dY];exact nx2)
 have m1:((iter ring e (i+1)).1,(iter ring e (i+1)).2)∈E:=(bU ring e _ _ _).2 ⟨i+1,by lia,by lia,rfl⟩
 have m2:((iter ring e (j+1)).1,(iter ring e (j+1)).2)∉E:=by
  intro h
  obtain⟨k,h1,h2,h3⟩:=(bU ring e _ _ _).1 h
  have h3':iter ring e (j+1)=iter ring e k:=h3
  by_cases hjn:j+1<N
  ·exact hd k (j+1) (by lia) hjn h3'.symm
  ·have hjN:j+1=N:=by lia
   rw[hjN,hN]at h3'
   have:k=0:=by
    apply bcn;intro hk0
    exact hd 0 k (by lia) (by lia) h3'
   have hi0:i=0:=by lia
   have:(iter ring e (j+1)).1=v:=by
    show _=(iter ring e i).1
    rw[hjN,hN,hi0];rfl
   rw[dY]at this
   exact nx2 this
 rw[mU g r hE hc he,mU g r hE hc he,dqt m1,dqf m2]at f1
 revert f1
 cases d.om E e.1 e.2<;>simp
theorem p9 (g:eZ d){ring:Nat->List Nat}(r:mE d ring){e:az}(he:d.J e.1 e.2){N:Nat}(hN0:0<N)
  (hN:iter ring e N=e) (hd:∀a b,a<b->b<N->iter ring e a≠iter ring e b)
  (hk:uV d (λ_=>True)) {o:az} (ho:d.J o.1 o.2) (hoz:d.om (seg ring e 0 N) o.1 o.2=false) (hoN:o∉seg ring e 0 N)
  {x:az} (hx:d.J x.1 x.2):d.om (seg ring e 0 N) x.1 x.2=decide (x∈seg ring e 0 N):=by
 have hEJ:=fg g r he
 have hE:∀x∈seg ring e 0 N,d.J x.1 x.2:=by
  intro x hx
  obtain⟨k,_,_,rfl⟩:=(bU ring e x _ _).1 hx
  exact hEJ k
 have hc:c8 (seg ring e 0 N):=gg ring e (by rw[Jy,hN];rfl)
 have hn:(seg ring e 0 N).Nodup:=gc ring e _ _ (λa b _ h2 h3=>hd a b h2 (by lia))
 have sc:=kq g r hE hc hn (λ_=>True) hk (by
  intro a b hab _
  constructor
  ·intro h
   obtain⟨k,h1,h2,h3⟩:=(bU ring e _ _ _).1 h
   rw[h3]
   by_cases hkN:k+1<N
   ·exact(bU ring e _ _ _).2 ⟨k+1,by lia,by lia,rfl⟩
   ·have:k+1=N:=by lia
    refine(bU ring e _ _ _).2 ⟨0,by lia,by lia,?_⟩
    rw[<-gd,this,hN];rfl
  ·intro h
   obtain⟨k,h1,h2,h3⟩:=(bU ring e _ _ _).1 h
   by_cases hk0:k=0
   ·have:nxt ring (a,b)=nxt ring (iter ring e (N-1)):=by
     rw[h3,hk0,<-gd]
     have:N-1+1=N:=by lia
     rw[this,hN];rfl
    rw[mS g r hab (hEJ _) this]
    exact(bU ring e _ _ _).2 ⟨N-1,by lia,by lia,rfl⟩
   ·obtain⟨k',rfl⟩:∃k',k=k'+1:=⟨k-1,by lia⟩
    rw[mS g r hab (hEJ k') h3]
    exact(bU ring e _ _ _).2 ⟨k',by lia,by lia,rfl⟩)
 have:=sc _ _ _ _ hx ho trivial trivial
 rw[hoz,dqf (show(o.1,o.2)∉_ from hoN)]at this
 revert this
 show(d.om (seg ring e 0 N) x.1 x.2^^decide (x∈seg ring e 0 N))=_->_
 generalize d.om (seg ring e 0 N) x.1 x.2=a;generalize decide (x∈seg ring e 0 N)=b
 cases a<;>cases b<;>simp
variable  {d:Dr}
def Dr.trz (d:Dr)(p q:Nat)(zx zy:Int):Int:=tr6 (d.X p) (d.Y p) (d.X q) (d.Y q) zx zy
def Dr.cz (d:Dr)(zx zy:Int)(p q:Nat):Bool:=decide (d.Y p<=zy/\zy<d.Y q/\0<d.trz p q zx zy)
def Dr.num (d:Dr)(zx zy:Int)(p q:Nat):Int:=2*d.trz p q zx zy+(d.X q-d.X p)
def Dr.den (d:Dr)(p q:Nat):Int:=d.Y q-d.Y p
theorem xT (g:eZ d){u w p q:Nat}(huw:d.J u w)(hpq:d.J p q)(h1:u<w)(h2:p<q)(hy:d.Y u<d.Y w) :
  d.Om u w p q=if p=u then decide (q=w\/(d.Y u<d.Y q/\d.tr u w q<0)) else decide (d.Y p<=d.Y u/\d.Y u<d.Y q/\0<d.tr p q u):=by
 have hqn:=g.lt (g.symm hpq)
 unfold Dr.Om Dr.base
 by_cases hpu:p=u
 ·subst hpu
  have n1:q≠p:=by lia
  have s1:=dw d p q w
  have hp2:d.pre p q w=decide (q=w\/0<d.tr p q w):=by
   unfold Dr.pre;rw[HK];constructor
   ·rintro(h|h|h)
    ·exact Jr h
    ·lia
    ·exact IP h.2
   ·rintro(h|h)
    ·exact Jr h
    ·exact IP (IP ⟨Jr ⟨h2,h1⟩,h⟩)
  rcases g.ord h2 hqn with hf|hf
  ·have e1:¬d.Y q=d.Y p:=by lia
   simp only[ne_eq,not_true_eq_false,false_and,K3,e1,and_false,Jl,decide_true,Jn,n1,IF,hp2,if_true,IQ,hf,true_and,HK]
   lia
  ·have t1:0<d.tr p q w:=by
    rw[eG d p q w hf.1];exact HH (by lia) (by lia)
   have e1:d.Y q=d.Y p:=by lia
   have e2:¬d.Y p<d.Y q:=by lia
   have e3:q≠w:=by intro e;subst e;lia
   simp[n1,hp2,t1,e1,e3]
 ·rw[Hs hpu]
  by_cases hqu:q=u
  ·subst hqu
   have e1:d.pre q p w=false:=by
    simp[Dr.pre];lia
   simp[e1,hpu]
  ·simp[hpu,hqu,Ie hpu,Ie hqu]
theorem G5 (ux uy wx wy px py qx qy zx zy:Int) :
 (wy-uy)*tr6 px py qx qy zx zy-(qy-py)*tr6 ux uy wx wy zx zy=(wy-uy)*tr6 px py qx qy ux uy+(tr6 px py qx qy wx wy-tr6 px py qx qy ux uy)*(zy-uy):=by
 unfold tr6;grind
theorem zN (ux uy wx wy px py qx qy zx zy:Int) :
 (wy-uy)*(2*tr6 px py qx qy zx zy+(qx-px))-(qy-py)*(2*tr6 ux uy wx wy zx zy+(wx-ux))
  = 2*((wy-uy)*tr6 px py qx qy ux uy)+(tr6 px py qx qy wx wy-tr6 px py qx qy ux uy)*(2*zy+1-2*uy):=by
 unfold tr6;grind
theorem Gd (ux uy wx wy px py qx qy:Int) :
 (wy-uy)*tr6 px py qx qy wx wy=(wy-uy)*tr6 px py qx qy ux uy+(tr6 px py qx qy wx wy-tr6 px py qx qy ux uy)*(wy-uy):=by
 grind
theorem r8 (c K s z m v0:Int)(hs:0<v0+K*(s-c))(hm:0<=v0+K*(m-c))(h1:s<=z)(h2:z<m):0<v0+K*(z-c):=by
 by_cases hK:0<=K
 ·have:0<=K*(z-s):=Ht hK (by lia)
  have e:v0+K*(z-c)=(v0+K*(s-c))+K*(z-s):=by grind
  lia
 ·have:0<(-K)*(m-z):=HH (by lia) (by lia)
  have e:v0+K*(z-c)=(v0+K*(m-c))+(-K)*(m-z):=by grind
  lia
theorem lM (c K s z m v0:Int)(hs:0<v0+K*(s-c))(hm:0<=v0+K*(m-c))(h1:s<=z)(h2:z<m):0<2*v0+K*(2*z+1-2*c):=by
 by_cases hK:0<=K
 ·have:0<=K*(2*z+1-2*s):=Ht hK (by lia)
  have e:2*v0+K*(2*z+1-2*c)=2*(v0+K*(s-c))+K*(2*z+1-2*s):=by grind
  lia
 ·have:0<(-K)*(2*m-2*z-1):=HH (by lia) (by lia)
  have e:2*v0+K*(2*z+1-2*c)=2*(v0+K*(m-c))+(-K)*(2*m-2*z-1):=by grind
  lia
theorem jF (c K s z m v0:Int)(hs:v0+K*(s-c)<0)(hm:v0+K*(m-c)<=0)(h1:s<=z)(h2:z<m):2*v0+K*(2*z+1-2*c)<0:=by
 have:=lM c (-K) s z m (-v0) (by grind) (by grind) h1 h2
 grind
theorem yW {a b zA zC v:Int}(ha:0<a)(hb:0<b)(hA:0<zA)(h:a*zC-b*zA=v)(hv:0<=v):0<zC:=by
 have h1:0<b*zA:=HH hb hA
 exact(bo ha).1 (by lia)
theorem AX (g:eZ d){u w p q:Nat}{zx zy:Int}(huw:d.J u w)(hpq:d.J p q)(hu:d.Y u<=zy)(hw:zy<d.Y w)(hp:d.Y p<=zy)(hq:zy<d.Y q)
  (hA:0<d.trz u w zx zy) (hne:¬(p=u/\q=w))
  (hmin:0<d.trz p q zx zy->d.num zx zy u w*d.den p q<=d.num zx zy p q*d.den u w) :
  (0<d.trz p q zx zy↔if p=u then d.tr u w q<0 else if d.Y p<=d.Y u then 0<d.tr p q u else d.tr u w p<0):=by
 have hun:=g.lt huw
 have hwn:=g.lt (g.symm huw)
 have hpn:=g.lt hpq
 have hqn:=g.lt (g.symm hpq)
 have iA:=idA (d.X u) (d.Y u) (d.X w) (d.Y w) (d.X p) (d.Y p) (d.X q) (d.Y q)
 have iB:=idB (d.X u) (d.Y u) (d.X w) (d.Y w) (d.X p) (d.Y p) (d.X q) (d.Y q)
 have iD:=Gd (d.X u) (d.Y u) (d.X w) (d.Y w) (d.X p) (d.Y p) (d.X q) (d.Y q)
 have iz:=G5 (d.X u) (d.Y u) (d.X w) (d.Y w) (d.X p) (d.Y p) (d.X q) (d.Y q) zx zy
 have iN:=zN (d.X u) (d.Y u) (d.X w) (d.Y w) (d.X p) (d.Y p) (d.X q) (d.Y q) zx zy
 change -(d.Y q-d.Y p)*d.tr u w p=(d.Y w-d.Y u)*d.tr p q u+(d.tr p q w-d.tr p q u)*(d.Y p-d.Y u) at iA
 change -(d.Y q-d.Y p)*d.tr u w q=(d.Y w-d.Y u)*d.tr p q u+(d.tr p q w-d.tr p q u)*(d.Y q-d.Y u) at iB
 change (d.Y w-d.Y u)*d.tr p q w=(d.Y w-d.Y u)*d.tr p q u+(d.tr p q w-d.tr p q u)*(d.Y w-d.Y u) at iD
 change (d.Y w-d.Y u)*d.trz p q zx zy-(d.Y q-d.Y p)*d.trz u w zx zy=(d.Y w-d.Y u)*d.tr p q u+(d.tr p q w-d.tr p q u)*(zy-d.Y u) at iz
 change (d.Y w-d.Y u)*d.num zx zy p q-(d.Y q-d.Y p)*d.num zx zy u w=2*((d.Y w-d.Y u)*d.tr p q u)+(d.tr p q w-d.tr p q u)*(2*zy+1-2*d.Y u) at iN
 have hmin':0<d.trz p q zx zy->0<=(d.Y w-d.Y u)*d.num zx zy p q-(d.Y q-d.Y p)*d.num zx zy u w:=by
  intro h
  have:=hmin h
  unfold Dr.den at this
  rw[Jz (d.Y w-d.Y u),Jz (d.Y q-d.Y p)]
  lia
 rw[iN]at hmin'
 have a0:0<d.Y w-d.Y u:=by lia
 have b0:0<d.Y q-d.Y p:=by lia
 have nb:∀x:Int,-(d.Y q-d.Y p)*x=(d.Y q-d.Y p)*(-x):=by intro x;grind
 rw[nb]at iA iB
 generalize hv0:(d.Y w-d.Y u)*d.tr p q u=v0 at *
 generalize hK:d.tr p q w-d.tr p q u=K at *
 by_cases hpu:p=u
 ·subst hpu
  rw[Hz rfl]
  have hqw:q≠w:=λe=>hne ⟨rfl,e⟩
  have hC:d.tr p q p=0:=kD d p q
  have v00:v0=0:=by rw[<-hv0,hC];simp
  have nB:d.tr p w q≠0:=by
   by_cases hh:d.Y q<=d.Y w
   ·exact nz g huw hqn (by lia) (by lia) hh (by intro e;subst e;lia) hqw
   ·have:=nz g hpq hwn (by lia) (by lia) (by lia) (by intro e;subst e;lia) (Ie hqw)
    have:=dw d p q w
    lia
  constructor
  ·intro h
   apply bcn;intro hn
   have hB:0<d.tr p w q:=by lia
   have e1:K*(d.Y q-d.Y p)<0:=by
    have:(d.Y q-d.Y p)*(- d.tr p w q)<0:=aD _ _ b0 (by lia)
    lia
   have e2:K<0:=by
    rw[Jz]at e1;exact(eF b0).1 e1
   have e3:=hmin' h
   have:0<(-K)*(2*zy+1-2*d.Y p):=HH (by lia) (by lia)
   have e:(-K)*(2*zy+1-2*d.Y p)=- (K*(2*zy+1-2*d.Y p)):=by grind
   lia
  ·intro h
   have e1:0<K*(d.Y q-d.Y p):=by
    have:0<(d.Y q-d.Y p)*(- d.tr p w q):=HH b0 (by lia)
    lia
   have e2:0<K:=by
    rw[Jz]at e1;exact(bo b0).1 e1
   have:0<=K*(zy-d.Y p):=Ht (by lia) (by lia)
   exact yW a0 b0 hA iz (by lia)
 ·rw[Hs hpu]
  by_cases hpy:d.Y p<=d.Y u
  ·rw[Hz hpy]
   have nC:d.tr p q u≠0:=nz g hpq hun (by lia) hpy (by lia) (Ie hpu) (by intro e;subst e;lia)
   have sC:0<d.tr p q u\/d.tr p q u<0:=by lia
   have up:(0<d.tr p q u->∃m,zy<m/\0<=v0+K*(m-d.Y u))/\(d.tr p q u<0->∃m,zy<m/\v0+K*(m-d.Y u)<=0):=by
    by_cases hqw:q=w
    ·subst hqw
     have hD:d.tr p q q=0:=cV d p q
     rw[hD]at iD
     simp at iD
     exact⟨λ_=>⟨_,hw,by lia⟩,λ_=>⟨_,hw,by lia⟩⟩
    ·by_cases hh:d.Y q<=d.Y w
     ·have l:=L1 g huw hpq hpy (by lia) hh hpu hqw
      constructor
      ·intro h;exact⟨d.Y q,hq,by rw[<-iB];exact Ht (by lia) (by lia)⟩
      ·intro h;exact⟨d.Y q,hq,by
        rw[<-iB]
        have:=aD (d.Y q-d.Y p) (- d.tr u w q) b0 (by lia)
        lia⟩
     ·have l:=L2 g huw hpq hpy (by lia) (by lia) hpu hqw
      constructor
      ·intro h;exact⟨d.Y w,hw,by rw[<-iD];exact Ht (by lia) (by lia)⟩
      ·intro h;exact⟨d.Y w,hw,by
        rw[<-iD]
        have:=aD (d.Y w-d.Y u) (d.tr p q w) a0 (by lia)
        lia⟩
   constructor
   ·intro h
    apply bcn;intro hn
    have hC:d.tr p q u<0:=sC.resolve_left hn
    obtain⟨m,m1,m2⟩:=up.2 hC
    have v0n:v0<0:=by rw[<-hv0];exact aD _ _ a0 hC
    have t:=jF (d.Y u) K (d.Y u) zy m v0 (by simpa using v0n) m2 hu m1
    exact absurd (hmin' h) (Int.not_le.2 t)
   ·intro hC
    obtain⟨m,m1,m2⟩:=up.1 hC
    have v0p:0<v0:=by rw[<-hv0];exact HH a0 hC
    have t:=r8 (d.Y u) K (d.Y u) zy m v0 (by simpa using v0p) m2 hu m1
    exact yW a0 b0 hA iz (Ku t)
  ·rw[Hs hpy]
   have nA:d.tr u w p≠0:=nz g huw hpn (by lia) (by lia) (by lia) hpu (by intro e;subst e;lia)
   have sA:d.tr u w p<0\/0<d.tr u w p:=by lia
   have up:(d.tr u w p<0->∃m,zy<m/\0<=v0+K*(m-d.Y u))/\(0<d.tr u w p->∃m,zy<m/\v0+K*(m-d.Y u)<=0):=by
    by_cases hqw:q=w
    ·subst hqw
     have hD:d.tr p q q=0:=cV d p q
     rw[hD]at iD
     simp at iD
     exact⟨λ_=>⟨_,hw,by lia⟩,λ_=>⟨_,hw,by lia⟩⟩
    ·by_cases hh:d.Y q<=d.Y w
     ·have l:=L2 g hpq huw (by lia) (by lia) hh (Ie hpu) (Ie hqw)
      constructor
      ·intro h;exact⟨d.Y q,hq,by rw[<-iB];exact Ht (by lia) (by lia)⟩
      ·intro h;exact⟨d.Y q,hq,by
        rw[<-iB]
        have:=aD (d.Y q-d.Y p) (- d.tr u w q) b0 (by lia)
        lia⟩
     ·have l:=L1 g hpq huw (by lia) (by lia) (by lia) (Ie hpu) (Ie hqw)
      constructor
      ·intro h;exact⟨d.Y w,hw,by rw[<-iD];exact Ht (by lia) (by lia)⟩
      ·intro h;exact⟨d.Y w,hw,by
        rw[<-iD]
        have:=aD (d.Y w-d.Y u) (d.tr p q w) a0 (by lia)
        lia⟩
   constructor
   ·intro h
    apply bcn;intro hn
    have hA':0<d.tr u w p:=sA.resolve_left hn
    obtain⟨m,m1,m2⟩:=up.2 hA'
    have v0n:v0+K*(d.Y p-d.Y u)<0:=by rw[<-iA];exact aD _ _ b0 (by lia)
    have t:=jF (d.Y u) K (d.Y p) zy m v0 v0n m2 hp m1
    exact absurd (hmin' h) (Int.not_le.2 t)
   ·intro hC
    obtain⟨m,m1,m2⟩:=up.1 hC
    have v0p:0<v0+K*(d.Y p-d.Y u):=by rw[<-iA];exact HH b0 (by lia)
    have t:=r8 (d.Y u) K (d.Y p) zy m v0 v0p m2 hp m1
    exact yW a0 b0 hA iz (Ku t)
def Dr.Pz (d:Dr)(zy:Int)(u w v:Nat):Bool:=decide (d.Y u<d.Y v/\d.Y v<=zy/\d.tr u w v<0)
theorem zh (g:eZ d){u w p q:Nat}{zx zy:Int}(huw:d.J u w)(hpq:d.J p q)(h1:u<w)(h2:p<q)
  (hz:d.cz zx zy u w=true) (hmin:d.cz zx zy p q=true->d.num zx zy u w*d.den p q<=d.num zx zy p q*d.den u w) :
  (d.cz zx zy p q^^d.Om u w p q)=(d.Pz zy u w p^^d.Pz zy u w q):=by
 have hpn:=g.lt hpq
 have hqn:=g.lt (g.symm hpq)
 have hwn:=g.lt (g.symm huw)
 have hun:=g.lt huw
 unfold Dr.cz at hz
 have hz:=Hk hz
 obtain⟨hu,hw,hA⟩:=hz
 have hy:d.Y u<d.Y w:=by lia
 rw[xT g huw hpq h1 h2 hy]
 have hpqy:d.Y p<=d.Y q:=by rcases g.ord h2 hqn with h|h<;>lia
 by_cases he:p=u/\q=w
 ·obtain⟨rfl,rfl⟩:=he
  have e1:d.cz zx zy p q=true:=by unfold Dr.cz;exact dqt ⟨hu,hw,hA⟩
  have e2:d.Pz zy p q p=false:=by unfold Dr.Pz;exact dqf (by lia)
  have e3:d.Pz zy p q q=false:=by unfold Dr.Pz;exact dqf (by lia)
  rw[e1,e2,e3];simp
 have pz1:∀v,¬(d.Y u<d.Y v/\d.Y v<=zy)->d.Pz zy u w v=false:=by
  intro v h;unfold Dr.Pz;exact dqf (λx=>h ⟨x.1,x.2.1⟩)
 have pz2:∀v,d.Y u<d.Y v->d.Y v<=zy->d.Pz zy u w v=decide (d.tr u w v<0):=by
  intro v h h';unfold Dr.Pz;simp[h,h']
 by_cases hcz:d.Y p<=zy/\zy<d.Y q
 ·
  obtain⟨c1,c2⟩:=hcz
  have czE:d.cz zx zy p q=decide (0<d.trz p q zx zy):=by unfold Dr.cz;simp[c1,c2]
  have zo:=AX g huw hpq hu hw c1 c2 hA he (λh=>hmin (by rw[czE];exact dqt h))
  rw[pz1 q (by lia),Jl,czE]
  by_cases hpu:p=u
  ·subst hpu
   rw[Hz rfl]at zo ⊢
   rw[pz1 p (by lia)]
   have hqw:q≠w:=λe=>he ⟨rfl,e⟩
   have:(q=w\/(d.Y p<d.Y q/\d.tr p w q<0))↔0<d.trz p q zx zy:=by
    rw[zo];constructor
    ·rintro(h|h)
     ·exact absurd h hqw
     ·exact h.2
    ·intro h;exact IP ⟨by lia,h⟩
   simp only[this,KI]
  ·rw[Hs hpu]at zo ⊢
   by_cases hpy:d.Y p<=d.Y u
   ·rw[Hz hpy]at zo
    rw[pz1 p (by lia)]
    have:(d.Y p<=d.Y u/\d.Y u<d.Y q/\0<d.tr p q u)↔0<d.trz p q zx zy:=by
     rw[zo];constructor
     ·exact λh=>h.2.2
     ·exact λh=>⟨hpy,by lia,h⟩
    simp only[this,KI]
   ·rw[Hs hpy]at zo
    rw[pz2 p (by lia) c1]
    have:¬(d.Y p<=d.Y u/\d.Y u<d.Y q/\0<d.tr p q u):=λh=>hpy h.1
    rw[dqf this,Jl,HK.2 zo]
 ·have czE:d.cz zx zy p q=false:=by unfold Dr.cz;exact dqf (λh=>hcz ⟨h.1,h.2.1⟩)
  rw[czE,IQ]
  by_cases c1:zy<d.Y p
  ·rw[pz1 p (by lia),pz1 q (by lia)]
   by_cases hpu:p=u
   ·subst hpu;lia
   ·rw[Hs hpu]
    have:¬(d.Y p<=d.Y u/\d.Y u<d.Y q/\0<d.tr p q u):=by lia
    rw[dqf this];rfl
  ·have c2:d.Y q<=zy:=by lia
   by_cases hpu:p=u
   ·subst hpu
    rw[Hz rfl,pz1 p (by lia),IQ]
    have hqw:q≠w:=λe=>he ⟨rfl,e⟩
    unfold Dr.Pz
    rw[HK]
    constructor
    ·rintro(h|h)
     ·exact absurd h hqw
     ·exact⟨h.1,c2,h.2⟩
    ·intro h;exact IP ⟨h.1,h.2.2⟩
   ·rw[Hs hpu]
    have hqw:q≠w:=by intro e;subst e;lia
    have hpw:p≠w:=by intro e;subst e;lia
    by_cases c3:d.Y p<=d.Y u
    ·rw[pz1 p (by lia),IQ]
     unfold Dr.Pz
     rw[HK]
     by_cases c4:d.Y u<d.Y q
     ·have l:=L1 g huw hpq c3 c4 (by lia) hpu hqw
      constructor
      ·intro h;exact⟨c4,c2,by lia⟩
      ·intro h;exact⟨c3,c4,by lia⟩
     ·constructor
      ·intro h;exact absurd h.2.1 c4
      ·intro h;exact absurd h.1 c4
    ·have:¬(d.Y p<=d.Y u/\d.Y u<d.Y q/\0<d.tr p q u):=λh=>c3 h.1
     rw[dqf this,pz2 p (by lia) (by lia),pz2 q (by lia) c2]
     have:d.tr u w p<0↔d.tr u w q<0:=by
      rcases g.ord h2 hqn with hf|hf
      ·have l:=L2 g hpq huw (by lia) hf (by lia) (Ie hpu) (Ie hqw)
       lia
      ·have mv:d.tr u w q<d.tr u w p:=by
        have:d.tr u w p-d.tr u w q=(d.Y w-d.Y u)*(d.X q-d.X p):=by
         have:=hf.1;unfold Dr.tr tr6;grind
        have:0<(d.Y w-d.Y u)*(d.X q-d.X p):=HH (by lia) (by lia)
        lia
       constructor
       ·intro h;lia
       ·intro h
        apply bcn;intro hn
        have a2:=nz g huw hpn hy (by lia) (by lia) hpu hpw
        refine g.nocross huw hpq ⟨aD _ _ (by lia) h,?_⟩
        rw[eG d p q u hf.1,eG d p q w hf.1]
        exact cH _ _ (aD _ _ (by lia) (by lia)) (HH (by lia) (by lia))
     simp only[this,KI]
theorem kg {α:Type}(N D:α->Int):∀l:List α,l≠[]->(∀x∈l,0<D x)->∃x∈l,∀y∈l,N x*D y<=N y*D x
 |[],h,_=>absurd rfl h
 |[a],_,_=>⟨a,by simp,by simp⟩
 |a :: b :: r,_,hD=>by
  obtain⟨x,hx,hm⟩:=kg N D (b :: r) (by simp) (λy hy=>hD y (Ho _ hy))
  by_cases h:N a*D x<=N x*D a
  ·refine⟨a,by simp,λy hy=>?_⟩
   rcases Hq.1 hy with e|e
   ·subst e;lia
   ·have h1:=hm y e
    have dx:=hD x (Ho _ hx)
    have dy:=hD y (Ho _ e)
    have da:=hD a (by simp)
    have p1:N a*D x*D y<=N x*D a*D y:=Int.mul_le_mul_of_nonneg_right h (by lia)
    have p2:N x*D y*D a<=N y*D x*D a:=Int.mul_le_mul_of_nonneg_right h1 (by lia)
    have p3:(N a*D y)*D x<=(N y*D a)*D x:=by
     have e1:N a*D x*D y=(N a*D y)*D x:=by grind
     have e2:N x*D a*D y=N x*D y*D a:=by grind
     have e3:N y*D x*D a=(N y*D a)*D x:=by grind
     lia
    exact Int.le_of_mul_le_mul_right p3 dx
  ·refine⟨x,Ho _ hx,λy hy=>?_⟩
   rcases Hq.1 hy with e|e
   ·subst e;lia
   ·exact hm y e
def lh (f:Nat->Nat->Bool)(e:az):Bool:=f (min e.1 e.2) (max e.1 e.2)
theorem B4 (g:eZ d)(edges:List az)(hed:∀p q,d.J p q->p<q->(p,q)∈edges)(hed2:∀e∈edges,d.J e.1 e.2/\e.1<e.2)(zx zy:Int) :
  (∀E:List az,(∀e∈E,d.J e.1 e.2)->xs (lh (d.cz zx zy)) E=false) \/
  ∃u w,d.J u w/\∀E:List az,(∀e∈E,d.J e.1 e.2)->c8 E->xs (lh (d.cz zx zy)) E=d.om E u w:=by
 have side:∀(F:Nat->Nat->Prop),(∀p q,d.J p q->p<q->F p q)->∀e:az,d.J e.1 e.2->F (min e.1 e.2) (max e.1 e.2):=by
  intro F hF e he
  rcases IA (g.ne he) with h|h
  ·rw[Ia (by lia),IG (by lia)];exact hF _ _ he h
  ·rw[HX (by lia),Jh (by lia)];exact hF _ _ (g.symm he) h
 by_cases hall:(edges.filter (λe=>d.cz zx zy e.1 e.2))=[]
 ·left
  intro E hE
  have:xs (lh (d.cz zx zy)) E=xs (λ_=>false) E:=by
   apply bE
   intro e he
   refine side (λp q=>d.cz zx zy p q=false) ?_ e (hE e he)
   intro p q hpq hlt
   have hm:=hed p q hpq hlt
   cases h:d.cz zx zy p q with
   |false=>rfl
   |true =>
    have:(p,q)∈edges.filter (λe=>d.cz zx zy e.1 e.2):=HZ.2 ⟨hm,h⟩
    rw[hall]at this;cases this
  rw[this]
  clear this hE
  induction E with
  |nil=>rfl
  |cons a r ih=>rw[xs,ih];rfl
 ·right
  obtain⟨⟨u,w⟩,hx,hm⟩:=kg (λe:az=>d.num zx zy e.1 e.2) (λe:az=>d.den e.1 e.2) _ hall (by
   intro x hx
   have:=Hk (HZ.1 hx).2
   unfold Dr.den;lia)
  obtain⟨hx1,hx2⟩:=HZ.1 hx
  obtain⟨huw,hlt⟩:=hed2 _ hx1
  refine⟨u,w,huw,λE hE hc=>?_⟩
  have h:xs (λe=>lh (d.cz zx zy) e^^d.Om u w (min e.1 e.2) (max e.1 e.2)) E=false:=by
   rw[<-hc (d.Pz zy u w)]
   apply bE
   intro e he
   have ze:∀p q,d.J p q->p<q->(d.cz zx zy p q^^d.Om u w p q)=(d.Pz zy u w p^^d.Pz zy u w q):=by
    intro p q hpq hlt'
    exact zh g huw hpq hlt hlt' hx2 (λh=>hm (p,q) (HZ.2 ⟨hed p q hpq hlt',h⟩))
   have hj:=hE e he
   unfold lh
   rcases IA (g.ne hj) with h|h
   ·rw[Ia (by lia),IG (by lia)];exact ze _ _ hj h
   ·rw[HX (by lia),Jh (by lia),Ks (d.Pz zy u w e.1)];exact ze _ _ (g.symm hj) h
  rw[iU]at h
  unfold Dr.om
  revert h
  generalize xs (lh (d.cz zx zy)) E=a;generalize xs _ E=b
  cases a<;>cases b<;>simp
open Gla
theorem ip {α:Type}{p:α×Nat->Bool}:∀{l:List α} {k:Nat},(l.zipIdx k).find? p=none->∀i (h:i<l.length),p (l[i],k+i)=false
 |[],_,_,i,h=>absurd h (by simp)
 |a :: r,k,hf,i,h=>by
  rw[List.zipIdx_cons,JC]at hf
  cases hp:p (a,k) with
  |true=>rw[hp]at hf;simp at hf
  |false =>
   rw[hp]at hf
   cases i with
   |zero=>simpa using hp
   |succ i =>
    have:=ip (l:=r) (k:=k+1) hf i (by simpa using h)
    simp only[List.getElem_cons_succ]
    rw[<-this];congr 2;lia
theorem fP {α:Type}{p:Nat->α->Bool}{l:List α}(h:firstAt p l=none):∀i (hi:i<l.length),p i l[i]=false:=by
 intro i hi
 unfold firstAt at h
 rw[Option.map_eq_none_iff]at h
 have:=ip h i hi
 simpa using this
theorem cw {α:Type}{ok:α->Bool}{before:α->α->Bool}{l:List α}(h:firstBad ok before l=none) :
  (∀x∈l,ok x=true)/\∀i (hi:i+1<l.length),before l[i] l[i+1]=true:=by
 have h':=fP h
 constructor
 ·intro x hx
  obtain⟨i,hi,e⟩:=Ib hx
  have:=h' i hi
  rw[e]at this
  cases hk:ok x with
  |true=>rfl
  |false=>rw[hk]at this;simp at this
 ·intro i hi
  have:=h' (i+1) hi
  rw[gge (show i+1-1<l.length by lia)]at this
  simp at this
  exact this.2
theorem fe (p q:Pt):p.below q=true↔p.y<q.y\/(p.y=q.y/\p.x<q.x):=by
 unfold Pt.below;simp
theorem mo {p q r:Pt}(h1:p.below q=true)(h2:q.below r=true):p.below r=true:=by
 rw[fe]at *;lia
theorem gT (p q:Nat×Nat):lineBelow p q=true↔p.1<q.1\/(p.1=q.1/\p.2<q.2):=by
 unfold lineBelow;simp
theorem mF {p q r:Nat×Nat}(h1:lineBelow p q=true)(h2:lineBelow q r=true):lineBelow p r=true:=by
 rw[gT]at *;lia
theorem chain_lt {α:Type}{R:α->α->Bool}(ht:∀{a b c},R a b=true->R b c=true->R a c=true){l:List α}
  (h:∀i (hi:i+1<l.length),R l[i] l[i+1]=true):∀i j (hi:i<j) (hj:j<l.length),R (l[i]'(by lia)) l[j]=true:=by
 intro i j hi
 induction j with
 |zero=>lia
 |succ j ih =>
  intro hj
  by_cases e:i=j
  ·subst e;exact h i hj
  ·exact ht (ih (by lia) (by lia)) (h j hj)
structure Kept (S:Plan):Prop where
 r4:firstBad (λ(p:Pt)=>decide (p.x<=S.w)&&decide (p.y<=S.h)) Pt.below S.pts=none
 r5:firstBad (λ(l:Nat×Nat)=>decide (l.1<l.2)&&decide (l.2<S.pts.length)) lineBelow S.lines=none
 r7:firstAt (touches S) S.lines=none
def ab (S:Plan):Dr:=⟨S.pts.length,λi=>((S.pt i).x:Int),λi=>((S.pt i).y:Int),λi j=>(i,j)∈S.lines\/(j,i)∈S.lines⟩
theorem mK (S:Plan)(i j k:Nat):turn (S.pt i) (S.pt j) (S.pt k)=(ab S).tr i j k:=by
 unfold turn Dr.tr tr6 dx dy ab;rfl
theorem bO (S:Plan){i:Nat}(h:i<S.pts.length):S.pt i=S.pts[i]:=by
 unfold Plan.pt;rw[Hx,gge h];rfl
theorem ye (S:Plan)(i j k:Nat):isOn (S.pt i) (S.pt j) (S.pt k)=true↔(ab S).on i j k:=by
 unfold isOn Dr.on between
 rw[mK]
 simp only[ab,Hu,JW,Hv]
 lia
theorem Kept.ord {S:Plan}(k:Kept S){i j:Nat}(h:i<j)(hj:j<S.pts.length):(S.pt i).below (S.pt j)=true:=by
 have:=chain_lt (R:=Pt.below) (l:=S.pts) mo (cw k.r4).2 i j h hj
 rw[bO S (by lia),bO S hj];exact this
theorem Kept.line {S:Plan}(k:Kept S){l:Nat×Nat}(h:l∈S.lines):l.1<l.2/\l.2<S.pts.length:=by
 have:=(cw k.r5).1 l h
 simpa using this
theorem Kept.lines_lt {S:Plan}(k:Kept S):∀i j (_:i<j) (hj:j<S.lines.length),lineBelow (S.lines[i]'(by lia)) S.lines[j]=true :=
 chain_lt (R:=lineBelow) (l:=S.lines) mF (cw k.r5).2
theorem rD (p q r s:Pt):crosses p q r s=crosses r s p q:=by unfold crosses;rw[Bool.and_comm]
theorem jD (d:Dr)(i j k l:Nat):d.tr j i k*d.tr j i l=d.tr i j k*d.tr i j l:=by
 rw[kE d i j k,kE d i j l];grind
theorem bw (S:Plan)(k:Kept S):eZ (ab S) where
 symm:=λh=>h.elim IP Jr
 lt:=by
  intro i j h
  rcases h with h|h
  ·have:=k.line h;show i<S.pts.length;lia
  ·have:=k.line h;exact this.2
 ne:=by
  intro i j h
  rcases h with h|h<;>(have:=k.line h;lia)
 ord:=by
  intro i j h hj
  have:=k.ord h hj
  rw[fe]at this
  simp only[ab];lia
 nocross:=by
  have main:∀e f,e∈S.lines->f∈S.lines->¬((ab S).tr e.1 e.2 f.1*(ab S).tr e.1 e.2 f.2<0/\(ab S).tr f.1 f.2 e.1*(ab S).tr f.1 f.2 e.2<0):=by
   intro e f he hf hc
   obtain⟨a,ha,ea⟩:=Ib he
   obtain⟨b,hb,eb⟩:=Ib hf
   have hcr:crosses (S.pt e.1) (S.pt e.2) (S.pt f.1) (S.pt f.2)=true:=by
    unfold crosses;simp only[mK,Hu,Hv];exact hc
   have one:∀a b (ha:a<S.lines.length) (hb:b<S.lines.length),b<a->crosses (S.pt S.lines[a].1) (S.pt S.lines[a].2) (S.pt S.lines[b].1) (S.pt S.lines[b].2)=false:=by
    intro a b ha hb hlt
    have:=fP k.r7 a ha
    unfold touches at this
    rw[Bool.or_eq_false_iff]at this
    have h2:=this.2
    rw[KB]at h2
    have hm:S.lines[b]∈S.lines.take a:=by
     rw[JM]
     exact⟨b,by lia,rfl⟩
    have:=h2 _ hm
    simpa using this
   rcases Li a b with h|h|h
   ·have:=one b a hb ha h
    rw[ea,eb,rD,hcr]at this;cases this
   ·subst h
    rw[ea]at eb;subst eb
    rw[kD]at hc;simp at hc
   ·have:=one a b ha hb h
    rw[ea,eb,hcr]at this;cases this
  intro i j p q hij hpq
  rcases hij with h1|h1<;>rcases hpq with h2|h2
  ·exact main (i,j) (p,q) h1 h2
  ·have:=main (i,j) (q,p) h1 h2
   simp only at this
   rw[jD (ab S) p q,Jz ((ab S).tr i j q)]at this;exact this
  ·have:=main (j,i) (p,q) h1 h2
   simp only at this
   rw[jD (ab S) i j,Jz ((ab S).tr p q j)]at this;exact this
  ·have:=main (j,i) (q,p) h1 h2
   simp only at this
   rw[jD (ab S) p q,jD (ab S) i j,Jz ((ab S).tr i j q),Jz ((ab S).tr p q j)]at this;exact this
 nopt:=by
  have main:∀e,e∈S.lines->∀c,c<S.pts.length->c≠e.1->c≠e.2->¬(ab S).on e.1 e.2 c:=by
   intro e he c hc h1 h2 hon
   obtain⟨a,ha,ea⟩:=Ib he
   have:=fP k.r7 a ha
   unfold touches at this
   rw[Bool.or_eq_false_iff]at this
   have h3:=this.1
   rw[KB]at h3
   have:=h3 c (by simpa using hc)
   rw[ea]at this
   apply this
   rw[(ye S _ _ _).2 hon]
   simp[h1,h2]
  intro i j c hij hc h1 h2 hon
  rcases hij with h|h
  ·exact main (i,j) h c hc h1 h2 hon
  ·exact main (j,i) h c hc h2 h1 (Br _ hon)
def cr (a b:Int×Int):Int:=a.1*b.2-a.2*b.1
def Hi (a:Int×Int):Prop:=0<a.2\/(a.2=0/\0<a.1)
def Lo (a:Int×Int):Prop:=a.2<0\/(a.2=0/\a.1<0)
theorem kL (a b:Int×Int):cr b a=- cr a b:=by unfold cr;grind
theorem wc (a b c:Int×Int):a.2*cr b c-b.2*cr a c+c.2*cr a b=0:=by unfold cr;grind
theorem nw {a b:Int×Int}(ha:Hi a)(hb:Hi b)(h:0<cr a b):0<b.2:=by
 rcases hb with h1|h1
 ·exact h1
 ·exfalso
  unfold cr at h
  rw[h1.1]at h
  have:0<=a.2*b.1:=Ht (by unfold Hi at ha;lia) (by lia)
  simp at h;lia
theorem oQ {a b:Int×Int}(ha:Lo a)(hb:Lo b)(h:0<cr a b):b.2<0:=by
 rcases hb with h1|h1
 ·exact h1
 ·exfalso
  unfold cr at h
  rw[h1.1]at h
  have:0<=(-a.2)*(-b.1):=Ht (by unfold Lo at ha;lia) (by lia)
  have e:(-a.2)*(-b.1)=a.2*b.1:=by grind
  simp at h;lia
theorem oK {a b c:Int×Int}(ha:Hi a)(hb:Hi b)(hc:Hi c)(h1:0<cr a b)(h2:0<cr b c):0<cr a c:=by
 have yb:=nw ha hb h1
 have yc:=nw hb hc h2
 have p:=wc a b c
 have t1:0<c.2*cr a b:=HH yc h1
 have t2:0<=a.2*cr b c:=Ht (by unfold Hi at ha;lia) (by lia)
 have t3:0<b.2*cr a c:=by lia
 exact(bo yb).1 t3
theorem nk {a b c:Int×Int}(ha:Lo a)(hb:Lo b)(hc:Lo c)(h1:0<cr a b)(h2:0<cr b c):0<cr a c:=by
 have yb:=oQ ha hb h1
 have yc:=oQ hb hc h2
 have p:=wc a b c
 have t1:0<(-c.2)*cr a b:=HH (by lia) h1
 have t2:0<=(-a.2)*cr b c:=Ht (by unfold Lo at ha;lia) (by lia)
 have t3:0<(-b.2)*cr a c:=by grind
 exact(bo (show 0 < -b.2 by lia)).1 t3
theorem hhl {i j k:Int×Int}(hi:Hi i)(hj:Hi j)(hk:Lo k)(h:0<cr i j)(h2:0<=cr i k):0<cr j k:=by
 have yj:=nw hi hj h
 have p:=wc i j k
 by_cases hk0:k.2=0
 ·have:k.1<0:=by unfold Lo at hk;lia
  unfold cr;rw[hk0]
  have:0<j.2*(-k.1):=HH yj (by lia)
  grind
 ·have hk1:k.2<0:=by unfold Lo at hk;lia
  have t1:0<(-k.2)*cr i j:=HH (by lia) h
  have t2:0<=j.2*cr i k:=Ht (by lia) h2
  by_cases hi0:i.2=0
  ·exfalso
   have:0<i.1:=by unfold Hi at hi;lia
   have:0<i.1*(-k.2):=HH this (by lia)
   unfold cr at h2;rw[hi0]at h2
   grind
  ·have:0<i.2*cr j k:=by grind
   exact(bo (show 0<i.2 by unfold Hi at hi;lia)).1 this
theorem hll {i j k:Int×Int}(hi:Hi i)(hj:Lo j)(hk:Lo k)(h:0<cr j k)(h2:0<=cr i k):0<cr i j:=by
 have yk:=oQ hj hk h
 have p:=wc i j k
 by_cases hi0:i.2=0
 ·exfalso
  have:0<i.1:=by unfold Hi at hi;lia
  have:0<i.1*(-k.2):=HH this (by lia)
  unfold cr at h2;rw[hi0]at h2
  grind
 ·have t1:0<i.2*cr j k:=HH (by unfold Hi at hi;lia) h
  have t2:0<=(-j.2)*cr i k:=Ht (by unfold Lo at hj;lia) h2
  have:0<(-k.2)*cr i j:=by grind
  exact(bo (show 0 < -k.2 by lia)).1 this
theorem sum_sq_neg {a b c e:Int}(h:a*e=b*c)(h1:0<b\/(b=0/\0<a))(h2:e<0\/(e=0/\c<0)):a*c+b*e<0:=by
 by_cases hb:b=0
 ·subst hb
  have ha:0<a:=by lia
  have he:e=0:=by
   have:a*e=0:=by simpa using h
   rcases JS.1 this with h|h<;>lia
  subst he
  have:a*c<0:=aD _ _ ha (by lia)
  simpa using this
 ·have hb':0<b:=by lia
  have he:e<0:=by
   rcases h2 with h2|h2
   ·exact h2
   ·exfalso
    rw[h2.1]at h
    have:b*c<0:=aD _ _ hb' h2.2
    simp at h;lia
  have t:b*e<0:=aD _ _ hb' he
  have t2:b*(a*c)=a*a*e:=by grind
  have t3:a*a*e<=0:=by
   have:0<=a*a:=by
    rcases Int.le_total 0 a with h|h
    ·exact Ht h h
    ·have:=Ht (show 0<=-a by lia) (show 0<=-a by lia);grind
   have:0<=(a*a)*(-e):=Ht this (by lia)
   grind
  have t4:a*c<=0:=by
   apply bcn;intro hn
   have:0<b*(a*c):=HH hb' (by lia)
   lia
  lia
theorem A0 {a b:Int×Int}(ha:Hi a)(hb:Lo b)(h:cr a b=0):a.1*b.1+a.2*b.2<0 :=
 sum_sq_neg (by unfold cr at h;lia) ha hb
theorem dF {r e:Int×Int}(h:0<cr e r):half r e=0:=by
 have:r.1*e.2-r.2*e.1<0:=by unfold cr at h;grind
 unfold half;simp[this]
theorem bM {r e:Int×Int}(h:0<cr r e):half r e=2:=by
 have h1:¬r.1*e.2-r.2*e.1<0:=by unfold cr at h;lia
 have h2:0<r.1*e.2-r.2*e.1:=h
 unfold half;simp only[h1,h2,if_true,Lf]
theorem nU {r e:Int×Int}(h:cr r e=0)(hd:r.1*e.1+r.2*e.2<0):half r e=1:=by
 have h1:¬r.1*e.2-r.2*e.1<0:=by unfold cr at h;lia
 have h2:¬0<r.1*e.2-r.2*e.1:=by unfold cr at h;lia
 unfold half;simp only[h1,h2,hd,if_true,Lf]
theorem j4 (r a b:Int×Int):sooner r a b=true↔half r a<half r b\/(half r a=half r b/\cr a b<0):=by
 unfold sooner cr;simp
theorem dH (r a b:Int×Int):sooner r a b=false↔¬(half r a<half r b\/(half r a=half r b/\cr a b<0)):=by
 rw[<-j4];simp
def Bef (a b:Int×Int):Prop:=(Hi a/\Lo b)\/(Hi a/\Hi b/\0<cr a b)\/(Lo a/\Lo b/\0<cr a b)
def uQ (r a b:Int×Int):Prop:=sooner r a b=true/\sooner r b a=false
theorem bP {r a b:Int×Int}(h:half r a<half r b):uQ r a b :=
 ⟨(j4 r a b).2 (Jr h),(dH r b a).2 (by lia)⟩
theorem cA {r a b:Int×Int}(h:half r a<=half r b)(hc:cr a b<0):uQ r a b:=by
 refine⟨(j4 r a b).2 ?_,(dH r b a).2 ?_⟩
 ·lia
 ·have:=kL a b;lia
theorem gC {a b:Int×Int}(ha:Hi a)(hb:Lo b) :
  (0<cr a b/\half a b=2/\half b a=0)\/(cr a b=0/\half a b=1/\half b a=1)\/(cr a b<0/\half a b=0/\half b a=2):=by
 have s:=kL a b
 rcases Int.lt_trichotomy (cr a b) 0 with h|h|h
 ·exact IP (IP ⟨h,dF (by lia),bM (by lia)⟩)
 ·have dd:=A0 ha hb h
  refine IP (Jr ⟨h,nU h dd,nU (by lia) ?_⟩)
  rw[Jz b.1,Jz b.2];exact dd
 ·exact Jr ⟨h,bM h,dF h⟩
theorem D6 {i j k:Int×Int}(hij:Bef i j)(hjk:Bef j k)(hik:Bef i k)(nh:∀a,¬(Hi a/\Lo a)):uQ k j i:=by
 have s1:=kL i j
 rcases hij with⟨a,b⟩|⟨a,b,c⟩|⟨a,b,c⟩
 ·rcases hjk with⟨a',b'⟩|⟨a',b',c'⟩|⟨a',b',c'⟩
  ·exact absurd ⟨a',b⟩ (nh j)
  ·exact absurd ⟨a',b⟩ (nh j)
  ·
   have h1:half k j=0:=dF c'
   rcases gC a b' with h|h|h
   ·have:=hll a b b' c' (by lia)
    exact cA (by lia) (by lia)
   ·exact bP (by lia)
   ·exact bP (by lia)
 ·rcases hjk with⟨a',b'⟩|⟨a',b',c'⟩|⟨a',b',c'⟩
  ·
   refine cA ?_ (by lia)
   rcases gC a b' with h|h|h
   ·have:=hhl a b b' c (by lia)
    rw[dF this];lia
   ·have:=hhl a b b' c (by lia)
    rw[dF this];lia
   ·rcases gC a' b' with h'|h'|h'<;>lia
  ·have:=oK a b b' c c'
   exact cA (by rw[dF c',dF this];lia) (by lia)
  ·exact absurd ⟨b,a'⟩ (nh j)
 ·rcases hjk with⟨a',b'⟩|⟨a',b',c'⟩|⟨a',b',c'⟩
  ·exact absurd ⟨a',b⟩ (nh j)
  ·exact absurd ⟨a',b⟩ (nh j)
  ·have:=nk a b b' c c'
   exact cA (by rw[dF c',dF this];lia) (by lia)
theorem DT {i j k:Int×Int}(hij:Bef i j)(hjk:Bef j k)(hik:Bef i k)(nh:∀a,¬(Hi a/\Lo a)):uQ j i k:=by
 have s1:=kL i j
 rcases hij with⟨a,b⟩|⟨a,b,c⟩|⟨a,b,c⟩
 ·rcases hjk with⟨a',b'⟩|⟨a',b',c'⟩|⟨a',b',c'⟩
  ·exact absurd ⟨a',b⟩ (nh j)
  ·exact absurd ⟨a',b⟩ (nh j)
  ·have h1:half j k=2:=bM c'
   rcases gC a b with h|h|h
   ·exact bP (by lia)
   ·exact bP (by lia)
   ·refine cA (by lia) ?_
    apply bcn;intro hn
    have:=hll a b b' c' (by lia)
    lia
 ·have h0:half j i=0:=dF c
  rcases hjk with⟨a',b'⟩|⟨a',b',c'⟩|⟨a',b',c'⟩
  ·rcases gC a' b' with h|h|h
   ·exact bP (by lia)
   ·exact bP (by lia)
   ·refine cA (by lia) ?_
    apply bcn;intro hn
    have:=hhl a b b' c (by lia)
    lia
  ·exact bP (by rw[h0,bM c'];lia)
  ·exact absurd ⟨b,a'⟩ (nh j)
 ·rcases hjk with⟨a',b'⟩|⟨a',b',c'⟩|⟨a',b',c'⟩
  ·exact absurd ⟨a',b⟩ (nh j)
  ·exact absurd ⟨a',b⟩ (nh j)
  ·exact bP (by rw[dF c,bM c'];lia)
theorem Fa {i j k:Int×Int}(hij:Bef i j)(hjk:Bef j k)(hik:Bef i k)(nh:∀a,¬(Hi a/\Lo a)):uQ i k j:=by
 have s1:=kL j k
 rcases hij with⟨a,b⟩|⟨a,b,c⟩|⟨a,b,c⟩
 ·rcases hjk with⟨a',b'⟩|⟨a',b',c'⟩|⟨a',b',c'⟩
  ·exact absurd ⟨a',b⟩ (nh j)
  ·exact absurd ⟨a',b⟩ (nh j)
  ·refine cA ?_ (by lia)
   rcases gC a b' with h|h|h
   ·have:=hll a b b' c' (by lia)
    rw[bM this];lia
   ·have:=hll a b b' c' (by lia)
    rw[bM this];lia
   ·lia
 ·rcases hjk with⟨a',b'⟩|⟨a',b',c'⟩|⟨a',b',c'⟩
  ·have h2:half i j=2:=bM c
   rcases gC a b' with h|h|h
   ·have:=hhl a b b' c (by lia)
    exact cA (by lia) (by lia)
   ·exact bP (by lia)
   ·exact bP (by lia)
  ·have:=oK a b b' c c'
   exact cA (by rw[bM c,bM this];lia) (by lia)
  ·exact absurd ⟨b,a'⟩ (nh j)
 ·rcases hjk with⟨a',b'⟩|⟨a',b',c'⟩|⟨a',b',c'⟩
  ·exact absurd ⟨a',b⟩ (nh j)
  ·exact absurd ⟨a',b⟩ (nh j)
  ·have:=nk a b b' c c'
   exact cA (by rw[bM c,bM this];lia) (by lia)
theorem oP (a:Int×Int):¬(Hi a/\Lo a):=by unfold Hi Lo;lia
theorem pH {r:Int×Int}(h:Hi r\/Lo r):half r r=3:=by
 have e:r.1*r.2-r.2*r.1=0:=by grind
 have sq:∀x:Int,0<=x*x:=by
  intro x
  rcases Int.le_total 0 x with h|h
  ·exact Ht h h
  ·have:=Ht (show 0<=-x by lia) (show 0<=-x by lia);grind
 have:¬r.1*r.1+r.2*r.2<0:=by have:=sq r.1;have:=sq r.2;lia
 unfold half;simp only[e,this];simp
theorem kZ {a b:Int×Int}(h:Bef a b):half a b<3/\half b a<3:=by
 rcases h with⟨x,y⟩|⟨x,y,c⟩|⟨x,y,c⟩
 ·rcases gC x y with h|h|h<;>lia
 ·rw[bM c,dF c];lia
 ·rw[bM c,dF c];lia
def bz (S:Plan)(m e:Nat):List Nat->List Nat
 |[]=>[e]
 |a :: r=>if 0<turn (S.pt m) (S.pt a) (S.pt e) then a :: bz S m e r else e :: a :: r
def sortTurn (S:Plan)(m:Nat)(ends:List Nat):List Nat:=ends.foldl (λring e=>bz S m e ring) []
def aj (S:Plan)(k:Nat):List Nat :=
 sortTurn S k ((S.near k).filter λe=>decide (k<e))++sortTurn S k ((S.near k).filter λe=>decide (e<k))
theorem fO (S:Plan)(m e:Nat):∀l,(bz S m e l).Perm (e :: l)
 |[]=>List.Perm.refl _
 |a :: r=>by
  rw[bz];split
  ·exact((fO S m e r).cons a).trans (List.Perm.swap e a r)
  ·exact List.Perm.refl _
theorem jd (S:Plan)(m:Nat):∀(l acc:List Nat),(l.foldl (λring e=>bz S m e ring) acc).Perm (acc++l)
 |[],acc=>by simp
 |e :: r,acc=>by
  rw[Kh]
  refine(jd S m r _).trans ?_
  refine((fO S m e acc).append_right r).trans ?_
  exact(List.perm_middle (a:=e) (l₁:=acc) (l₂:=r)).symm
theorem cY (S:Plan)(m:Nat)(l:List Nat):(sortTurn S m l).Perm l:=by
 have:=jd S m l []
 simpa [sortTurn] using this
theorem gn {S:Plan}(k:Kept S){i j:Nat}:j∈S.near i↔(ab S).J i j:=by
 unfold Plan.near
 rw[KR]
 constructor
 ·rintro⟨l,hl,h⟩
  have:=k.line hl
  split at h
  ·rename_i e
   cases h
   left;rw[<-e];exact hl
  ·split at h
   ·rename_i e' e
    cases h
    right;rw[<-e];exact hl
   ·cases h
 ·rintro(h|h)
  ·exact⟨(i,j),h,by simp⟩
  ·have:=k.line h
   refine⟨(j,i),h,?_⟩
   simp only
   rw[Hs (by simp only at this;lia)];simp
theorem lines_nodup {S:Plan}(k:Kept S):S.lines.Nodup:=by
 rw[List.Nodup,HQ]
 intro i j hi hj hlt e
 have:=k.lines_lt i j hlt hj
 rw[e,gT]at this;lia
theorem oJ {S:Plan}(k:Kept S)(i:Nat):(S.near i).Nodup:=by
 unfold Plan.near
 rw[List.Nodup,List.pairwise_filterMap]
 refine JY ?_ (lines_nodup k)
 intro a b ha hb hab x hx y hy e
 subst e
 have la:=k.line ha
 have lb:=k.line hb
 apply hab
 split at hx
 ·cases hx
  split at hy
  ·simp at hy;exact Lg (by lia) (by lia)
  ·split at hy
   ·simp at hy;lia
   ·cases hy
 ·split at hx
  ·cases hx
   split at hy
   ·simp at hy;lia
   ·split at hy
    ·simp at hy;exact Lg (by lia) (by lia)
    ·cases hy
  ·cases hx
theorem bc (S:Plan)(i j:Nat):dir S i j=((ab S).X j-(ab S).X i,(ab S).Y j-(ab S).Y i):=rfl
theorem vt (S:Plan)(m a b:Nat):(ab S).tr m a b=cr (dir S m a) (dir S m b):=by
 rw[bc,bc];unfold Dr.tr tr6 cr;grind
theorem pG {S:Plan}(k:Kept S){m a:Nat}(h:(ab S).J m a)(hlt:m<a):Hi (dir S m a):=by
 have g:=bw S k
 rcases g.ord hlt (g.lt (g.symm h)) with h|h
 ·left;rw[bc];simp only;lia
 ·right;rw[bc];simp only;lia
theorem qi {S:Plan}(k:Kept S){m a:Nat}(h:(ab S).J m a)(hlt:a<m):Lo (dir S m a):=by
 have g:=bw S k
 rcases g.ord hlt (g.lt h) with h|h
 ·left;rw[bc];simp only;lia
 ·right;rw[bc];simp only;lia
theorem pX {S:Plan}(k:Kept S){m a b:Nat}(ha:(ab S).J m a)(hb:(ab S).J m b)(hab:a≠b)(hs:(m<a/\m<b)\/(a<m/\b<m)) :
  (ab S).tr m a b≠0:=by
 have g:=bw S k
 have up:∀x y,(ab S).J m x->(ab S).J m y->m<x->x<y->(ab S).tr m y x=0->False:=by
  intro x y hx hy h1 h2 h0
  have hyn:=g.lt (g.symm hy)
  have hxn:=g.lt (g.symm hx)
  refine g.nopt hy hxn (by lia) (by lia) ?_
  rcases g.ord h1 hxn with o1|o1<;>rcases g.ord h2 hyn with o2|o2
  ·exact cF _ h0 (by lia) (by lia) (by lia)
  ·exact cF _ h0 (by lia) (by lia) (by lia)
  ·exact cF _ h0 (by lia) (by lia) (by lia)
  ·exact⟨h0,by lia,by lia,by lia,by lia⟩
 have dn:∀x y,(ab S).J m x->(ab S).J m y->x<m->y<x->(ab S).tr m y x=0->False:=by
  intro x y hx hy h1 h2 h0
  have hmn:=g.lt hx
  have hxn:=g.lt (g.symm hx)
  refine g.nopt (g.symm hy) hxn (by lia) (by lia) ?_
  have h0':(ab S).tr y m x=0:=by rw[kE];lia
  rcases g.ord h1 hmn with o1|o1<;>rcases g.ord h2 hxn with o2|o2
  ·exact cF _ h0' (by lia) (by lia) (by lia)
  ·exact cF _ h0' (by lia) (by lia) (by lia)
  ·exact cF _ h0' (by lia) (by lia) (by lia)
  ·exact⟨h0',by lia,by lia,by lia,by lia⟩
 intro h0
 have h0':(ab S).tr m b a=0:=by rw[dw];lia
 rcases hs with⟨h1,h2⟩|⟨h1,h2⟩
 ·rcases IA hab with h|h
  ·exact up a b ha hb h1 h h0'
  ·exact up b a hb ha h2 h h0
 ·rcases IA hab with h|h
  ·exact dn b a hb ha h2 h h0
  ·exact dn a b ha hb h1 h h0'
theorem jp {S:Plan}(k:Kept S){m:Nat}(up:Bool){e:Nat} :
  ∀(l:List Nat),(∀a∈e :: l,(ab S).J m a/\if up then m<a else a<m)->e∉l ->
  l.Pairwise (λa b=>0<(ab S).tr m a b)->(bz S m e l).Pairwise (λa b=>0<(ab S).tr m a b)
 |[],_,_,_=>by simp[bz]
 |a :: r,hm,hn,hp=>by
  rw[Iy]at hp
  have ha:=hm a (by simp)
  have he:=hm e (by simp)
  rw[bz]
  split
  ·rename_i ht
   rw[mK]at ht
   rw[Iy]
   refine⟨?_,jp k up r (λx hx=>hm x ?_) (λh=>hn (Ho _ h)) hp.2⟩
   ·intro x hx
    rcases Hq.1 ((fO S m e r).mem_iff.1 hx) with h|h
    ·subst h;exact ht
    ·exact hp.1 x h
   ·rcases Hq.1 hx with h|h
    ·subst h;simp
    ·simp[h]
  ·rename_i ht
   rw[mK]at ht
   have hne:a≠e:=λh=>hn (by simp[h])
   have hz:(ab S).tr m a e≠0:=pX k ha.1 he.1 hne (by cases up<;>simp at ha he<;>lia)
   have t1:0<(ab S).tr m e a:=by rw[dw];lia
   rw[Iy]
   refine⟨?_,Iy.2 hp⟩
   intro x hx
   rcases Hq.1 hx with h|h
   ·subst h;exact t1
   ·have t2:=hp.1 x h
    have hx':=hm x (by simp[h])
    rw[vt]at t1 t2 ⊢
    cases up with
    |true =>
     simp at ha he hx'
     exact oK (pG k he.1 he.2) (pG k ha.1 ha.2) (pG k hx'.1 hx'.2) t1 t2
    |false =>
     simp at ha he hx'
     exact nk (qi k he.1 he.2) (qi k ha.1 ha.2) (qi k hx'.1 hx'.2) t1 t2
theorem fD {S:Plan}(k:Kept S){m:Nat}(up:Bool):∀(l acc:List Nat),(∀a∈acc++l,(ab S).J m a/\if up then m<a else a<m)->(acc++l).Nodup ->
  acc.Pairwise (λa b=>0<(ab S).tr m a b)->(l.foldl (λring e=>bz S m e ring) acc).Pairwise (λa b=>0<(ab S).tr m a b)
 |[],acc,_,_,h=>h
 |e :: r,acc,hm,hn,hp=>by
  rw[Kh]
  have pm:=fO S m e acc
  have hen:e∉acc:=by
   intro h
   rw[JK]at hn
   exact hn.2.2 e h e (by simp) rfl
  have pm2:(bz S m e acc++r).Perm (acc++e :: r) :=
   (pm.append_right r).trans (List.perm_middle (a:=e) (l₁:=acc) (l₂:=r)).symm
  refine fD k up r _ ?_ ?_ ?_
  ·intro a ha
   exact hm a (pm2.mem_iff.1 ha)
  ·exact pm2.nodup_iff.2 hn
  ·refine jp k up acc ?_ hen hp
   intro a ha
   apply hm
   rcases Hq.1 ha with h|h
   ·simp[h]
   ·simp[h]
theorem lX {S:Plan}(k:Kept S)(m:Nat):(aj S m).Perm (S.near m):=by
 unfold aj
 refine((cY S m _).append (cY S m _)).trans ?_
 have h:(S.near m).filter (λe=>decide (e<m))=(S.near m).filter (λe=>!decide (m<e)):=by
  apply List.filter_congr
  intro x hx
  have:=(bw S k).ne ((gn k).1 hx)
  by_cases h:m<x
  ·simp[h];lia
  ·simp[h];lia
 rw[h]
 exact List.filter_append_perm _ _
theorem me {S:Plan}(k:Kept S)(m:Nat):(aj S m).Pairwise (λb w=>Bef (dir S m b) (dir S m w) /\
  ((m<b/\w<m)\/(((m<b/\m<w)\/(b<m/\w<m))/\0<(ab S).tr m b w))):=by
 unfold aj
 rw[IK]
 have m1:∀x∈sortTurn S m ((S.near m).filter λe=>decide (m<e)),(ab S).J m x/\m<x:=by
  intro x hx
  have:=HZ.1 ((cY S m _).mem_iff.1 hx)
  exact⟨(gn k).1 this.1,by simpa using this.2⟩
 have m2:∀x∈sortTurn S m ((S.near m).filter λe=>decide (e<m)),(ab S).J m x/\x<m:=by
  intro x hx
  have:=HZ.1 ((cY S m _).mem_iff.1 hx)
  exact⟨(gn k).1 this.1,by simpa using this.2⟩
 refine⟨?_,?_,?_⟩
 ·have h:=fD k (m:=m) true ((S.near m).filter λe=>decide (m<e)) [] (by
   intro a ha
   simp only[JF]at ha
   have:=HZ.1 ha
   exact⟨(gn k).1 this.1,by simpa using this.2⟩) (by rw[JF];exact(oJ k m).filter _) Lj
  refine JY ?_ h
  intro a b ha hb hab
  have h1:=m1 a ha
  have h2:=m1 b hb
  refine⟨IP (Jr ⟨pG k h1.1 h1.2,pG k h2.1 h2.2,?_⟩),IP ⟨Jr ⟨h1.2,h2.2⟩,hab⟩⟩
  rw[<-vt];exact hab
 ·have h:=fD k (m:=m) false ((S.near m).filter λe=>decide (e<m)) [] (by
   intro a ha
   simp only[JF]at ha
   have:=HZ.1 ha
   exact⟨(gn k).1 this.1,by simpa using this.2⟩) (by rw[JF];exact(oJ k m).filter _) Lj
  refine JY ?_ h
  intro a b ha hb hab
  have h1:=m2 a ha
  have h2:=m2 b hb
  refine⟨IP (IP ⟨qi k h1.1 h1.2,qi k h2.1 h2.2,?_⟩),IP ⟨IP ⟨h1.2,h2.2⟩,hab⟩⟩
  rw[<-vt];exact hab
 ·intro a ha b hb
  have h1:=m1 a ha
  have h2:=m2 b hb
  exact⟨Jr ⟨pG k h1.1 h1.2,qi k h2.1 h2.2⟩,Jr ⟨h1.2,h2.2⟩⟩
theorem cI {S:Plan}(k:Kept S):mE (ab S) (aj S) where
 mem:=by
  intro u w
  rw[(lX k u).mem_iff,gn k]
 sorted:=by
  intro u
  refine(me k u).imp ?_
  intro b w h
  have hne:b≠w:=by
   intro e;subst e
   rcases h.2 with h|h
   ·lia
   ·rw[cV]at h;lia
  refine⟨?_,?_,hne⟩
  ·unfold Dr.pre
   apply dqt
   exact IP h.2
  ·unfold Dr.pre
   apply dqf
   have:=dw (ab S) u b w
   lia
theorem iw {f:Nat->Int×Int}{R:Int×Int}{y:Nat}:∀(l:List Nat) (a:Nat),(∀b∈a :: l,b≠y->uQ R (f y) (f b))->y∈a :: l ->
  l.foldl (λ(a b:Nat)=>if sooner R (f b) (f a)=true then b else a) a=y
 |[],a,h,hy=>by
  simp at hy;simp[hy]
 |b :: r,a,h,hy=>by
  rw[Kh]
  by_cases ha:a=y
  ·subst ha
   by_cases hb:b=a
   ·subst hb
    simp only[ite_self]
    exact iw r b (λc hc=>h c (by rcases Hq.1 hc with h|h<;>simp[h])) (by simp)
   ·have:=(h b (by simp) hb).2
    rw[Hs (by rw[this];simp)]
    exact iw r a (λc hc=>h c (by rcases Hq.1 hc with h|h<;>simp[h])) (by simp)
  ·by_cases hb:b=y
   ·subst hb
    have:=(h a (by simp) ha).1
    rw[Hz this]
    exact iw r b (λc hc=>h c (by rcases Hq.1 hc with h|h<;>simp[h])) (by simp)
   ·have hr:y∈r:=by
     rcases Hq.1 hy with h1|h1
     ·exact absurd h1.symm ha
     ·rcases Hq.1 h1 with h2|h2
      ·exact absurd h2.symm hb
      ·exact h2
    refine iw r _ ?_ (by simp[hr])
    intro c hc
    apply h
    rcases Hq.1 hc with h1|h1
    ·subst h1;split<;>simp
    ·simp[h1]
theorem nu {S:Plan}(k:Kept S){u v:Nat}(hu:u∈aj S v):∀b∈aj S v,b≠bJ (aj S v) u->uQ (dir S v u) (dir S v (bJ (aj S v) u)) (dir S v b):=by
 intro b hb hne
 obtain⟨l1,l2,e,hn⟩:=ja hu
 have hp:=(me k v).imp (λh=>h.1)
 rw[e]at hp hb hne ⊢
 by_cases h1:l1=[]
 ·subst h1
  simp only[JF]at *
  rw[jx]at hne ⊢
  by_cases h2:l2=[]
  ·subst h2;simp at *;exact absurd hb hne
  ·have hy:(u :: l2).getLast (by simp)=l2.getLast h2:=List.getLast_cons h2
   rw[hy]at hne ⊢
   rw[Iy]at hp
   rcases Hq.1 hb with h3|h3
   ·subst h3
    have:=hp.1 _ (J4 h2)
    have h4:=kZ this
    refine bP ?_
    rw[pH]
    ·lia
    ·rcases this with x|x|x
     ·exact Jr x.1
     ·exact Jr x.1
     ·exact IP x.1
   ·have hall:(l2.dropLast++[l2.getLast h2]).Pairwise (λb w=>Bef (dir S v b) (dir S v w)):=by
     rw[ID];exact hp.2
    rw[IK]at hall
    have hb':b∈l2.dropLast:=by
     have hx:b∈l2.dropLast++[l2.getLast h2]:=by
      rw[ID];exact h3
     rcases HU.1 hx with hx|hx
     ·exact hx
     ·simp at hx;exact absurd hx hne
    exact Fa (hp.1 b h3) (hall.2.2 b hb' _ (by simp)) (hp.1 _ (J4 h2)) oP
 ·rw[jf hn h1]at hne ⊢
  rw[IK,Iy]at hp
  obtain⟨p1,p2,p3⟩:=hp
  have hyu:=p3 _ (J4 h1) u (by simp)
  rcases HU.1 hb with h3|h3
  ·have hall:(l1.dropLast++[l1.getLast h1]).Pairwise (λb w=>Bef (dir S v b) (dir S v w)):=by
    rw[ID];exact p1
   rw[IK]at hall
   have hb':b∈l1.dropLast:=by
    have hx:b∈l1.dropLast++[l1.getLast h1]:=by
     rw[ID];exact h3
    rcases HU.1 hx with hx|hx
    ·exact hx
    ·simp at hx;exact absurd hx hne
   exact D6 (hall.2.2 b hb' _ (by simp)) hyu (p3 b h3 u (by simp)) oP
  ·rcases Hq.1 h3 with h4|h4
   ·subst h4
    have h5:=kZ hyu
    refine bP ?_
    rw[pH (r:=dir S v b)]
    ·lia
    ·rcases hyu with x|x|x
     ·exact IP x.2
     ·exact Jr x.2.1
     ·exact IP x.2.1
   ·exact DT hyu (p2.1 b h4) (p3 _ (J4 h1) b (by simp[h4])) oP
theorem Bc {S:Plan}(k:Kept S){u v:Nat}(h:(ab S).J u v):S.next u v=bJ (aj S v) u:=by
 have g:=bw S k
 have r:=cI k
 have hu:u∈aj S v:=r.mem.2 (g.symm h)
 have hs:=nu k hu
 have hm:=lQ hu
 have pm:=lX k v
 unfold Plan.next
 cases hn:S.near v with
 |nil =>
  rw[hn]at pm
  have:=pm.mem_iff.1 hu;cases this
 |cons a l =>
  rw[hn]at pm
  exact iw (f:=λx=>dir S v x) l a (λb hb hne=>hs b (pm.mem_iff.2 hb) hne) (pm.mem_iff.1 hm)
theorem bv {α:Type}[DecidableEq α]:∀{l m:List α},l.Nodup->(∀x∈l,x∈m)->l.length<=m.length
 |[],_,_,_=>by simp
 |a :: r,m,hn,hs=>by
  rw[Ja]at hn
  have ha:a∈m:=hs a (by simp)
  have:=bv (l:=r) (m:=m.erase a) hn.2 (by
   intro x hx
   have hne:x≠a:=by intro e;subst e;exact hn.1 hx
   exact(List.mem_erase_of_ne hne).2 (hs x (by simp[hx])))
  rw[List.length_erase_of_mem ha]at this
  have:0<m.length:=List.length_pos_of_mem ha
  simp;lia
theorem g9 {S:Plan}{a b:Nat}:(a,b)∈ways S↔(ab S).J a b:=by
 unfold ways
 rw[J5]
 constructor
 ·rintro⟨l,hl,h⟩
  simp at h
  rcases h with h|h
  ·left;rw[h];exact hl
  ·right;rw[h.1,h.2];exact hl
 ·rintro(h|h)
  ·exact⟨_,h,by simp⟩
  ·exact⟨_,h,by simp⟩
theorem jl (S:Plan):(ways S).length=2*S.lines.length:=by
 unfold ways
 induction S.lines with
 |nil=>rfl
 |cons a r ih=>rw[List.flatMap_cons,Hn,ih];simp;lia
section
variable  {S:Plan}(k:Kept S)
include k
theorem lF {e:az}(he:(ab S).J e.1 e.2):∀i j,iter (aj S) e i=iter (aj S) e (i+j)->iter (aj S) e j=e
 |0,j,h=>by rw[Jy]at h;exact h.symm
 |i+1,j,h=>by
  have g:=bw S k
  have r:=cI k
  have e1:i+1+j=(i+j)+1:=by lia
  rw[e1,gd,gd]at h
  exact lF he i j (mS g r (fg g r he _) (fg g r he _) h)
theorem sM {e:az}(he:(ab S).J e.1 e.2):∃N,0<N/\N<=2*S.lines.length/\iter (aj S) e N=e:=by
 have g:=bw S k
 have r:=cI k
 apply bcn
 intro hno
 have hd:∀a b,0<=a->a<b->b<0+(2*S.lines.length+1)->iter (aj S) e a≠iter (aj S) e b:=by
  intro a b _ hab hb heq
  apply hno
  refine⟨b-a,by lia,by lia,lF k he a (b-a) ?_⟩
  have:a+(b-a)=b:=by lia
  rw[this];exact heq
 have nd:=gc (aj S) e (2*S.lines.length+1) 0 hd
 have hl:=bv nd (m:=ways S) (by
  intro x hx
  obtain⟨j,_,_,rfl⟩:=(bU _ _ _ _ _).1 hx
  exact g9.2 (fg g r he j))
 have seg_len:∀n i,(seg (aj S) e i n).length=n:=by
  intro n;induction n with
  |zero=>intro i;rfl
  |succ n ih=>intro i;rw[seg,HW,ih]
 rw[seg_len,jl]at hl
 lia
theorem qW {e:az}(he:(ab S).J e.1 e.2):∃N,0<N/\N<=2*S.lines.length/\iter (aj S) e N=e /\
  ∀m,0<m->m<N->iter (aj S) e m≠e:=by
 have step:∀n,(∃N,0<N/\N<=n/\iter (aj S) e N=e)->∃N,0<N/\N<=n/\iter (aj S) e N=e/\∀m,0<m->m<N->iter (aj S) e m≠e:=by
  intro n
  induction n with
  |zero=>rintro⟨N,h1,h2,_⟩;lia
  |succ n ih =>
   rintro⟨N,h1,h2,h3⟩
   by_cases hx:∃N,0<N/\N<=n/\iter (aj S) e N=e
   ·obtain⟨N,a,b,c,d⟩:=ih hx
    exact⟨N,a,by lia,c,d⟩
   ·refine⟨N,h1,h2,h3,λm m1 m2 m3=>hx ⟨m,m1,by lia,m3⟩⟩
 exact step _ (sM k he)
end
theorem cJ (ring:Nat->List Nat)(e:az):∀n i,(seg ring e i n).length=n
 |0,_=>rfl
 |n+1,i=>by rw[seg,HW,cJ ring e n]
theorem qc {S:Plan}(k:Kept S){e:az}(he:(ab S).J e.1 e.2){N:Nat}(h0:0<N)(hN:iter (aj S) e N=e)
  (hm:∀m,0<m->m<N->iter (aj S) e m≠e):∀n i,i<N->N<=i+n->S.round n e (iter (aj S) e i)=(seg (aj S) e i (N-i)).map (·.1)
 |0,i,h1,h2=>by lia
 |n+1,i,h1,h2=>by
  have g:=bw S k
  have r:=cI k
  have hj:=fg g r he i
  rw[Plan.round]
  have e1:((iter (aj S) e i).2,S.next (iter (aj S) e i).1 (iter (aj S) e i).2)=iter (aj S) e (i+1):=by
   rw[Bc k hj];rfl
  simp only[e1]
  have e2:N-i=(N-(i+1))+1:=by lia
  rw[e2,seg,HN]
  congr 1
  by_cases h:i+1=N
  ·rw[Hz (by rw[h,hN]),h];simp[seg]
  ·rw[Hs (hm (i+1) (by lia) (by lia))]
   exact qc k he h0 hN hm n (i+1) (by lia) (by lia)
def rnd (S:Plan)(e:az):List Nat:=S.round (2*S.lines.length+1) e e
def orb (S:Plan)(e:az):List az:=seg (aj S) e 0 (rnd S e).length
structure Per (S:Plan)(e:az)(N:Nat):Prop where
 pos:0<N
 back:iter (aj S) e N=e
 dist:∀a b,a<b->b<N->iter (aj S) e a≠iter (aj S) e b
 rnd:rnd S e=(seg (aj S) e 0 N).map (·.1)
 len:(WL.rnd S e).length=N
 orb:orb S e=seg (aj S) e 0 N
theorem dt {S:Plan}(k:Kept S){e:az}(he:(ab S).J e.1 e.2):Per S e (rnd S e).length:=by
 obtain⟨N,h0,hL,hN,hm⟩:=qW k he
 have hr:rnd S e=(seg (aj S) e 0 N).map (·.1):=by
  have:=qc k he h0 hN hm (2*S.lines.length+1) 0 h0 (by lia)
  simpa [rnd,iter] using this
 have hl:(rnd S e).length=N:=by rw[hr,lmp,cJ]
 rw[hl]
 refine⟨h0,hN,?_,hr,hl,?_⟩
 ·intro a b hab hb heq
  have:=lF k he a (b-a) (by rw[heq];congr 1;lia)
  exact hm (b-a) (by lia) (by lia) this
 ·unfold orb;rw[hl]
theorem gk (ring:Nat->List Nat)(e:az)(i:Nat):∀j,iter ring e (i+j)=iter ring (iter ring e i) j
 |0=>rfl
 |j+1=>by rw[<-Nat.add_assoc,gd,gk ring e i j];rfl
theorem tW {ring:Nat->List Nat}{e:az}{N:Nat}(hN:iter ring e N=e):∀m,iter ring e (N*m)=e
 |0=>rfl
 |m+1=>by rw[Nat.mul_succ,gk,tW hN m,hN]
theorem rh {ring:Nat->List Nat}{e:az}{N:Nat}(hN:iter ring e N=e)(h0:0<N)(j:Nat):iter ring e j=iter ring e (j % N):=by
 have:j=N*(j / N)+j % N:=(Nat.div_add_mod j N).symm
 conv=>lhs;rw[this]
 rw[gk,tW hN]
theorem eg {S:Plan}(k:Kept S){e x:az}(he:(ab S).J e.1 e.2):x∈orb S e↔∃j,x=iter (aj S) e j:=by
 have p:=dt k he
 rw[p.orb,bU]
 constructor
 ·rintro⟨j,_,_,h⟩;exact⟨j,h⟩
 ·rintro⟨j,h⟩
  refine⟨j % (rnd S e).length,IH _,?_,?_⟩
  ·rw[Jy];exact Nat.mod_lt _ p.pos
  ·rw[h];exact rh p.back p.pos j
theorem ii {S:Plan}(k:Kept S){e:az}(he:(ab S).J e.1 e.2):e∈orb S e:=(eg k he).2 ⟨0,rfl⟩
theorem fu {S:Plan}(k:Kept S){e x:az}(he:(ab S).J e.1 e.2)(h:x∈orb S e):(ab S).J x.1 x.2:=by
 obtain⟨j,rfl⟩:=(eg k he).1 h
 exact fg (bw S k) (cI k) he j
theorem dz {S:Plan}(k:Kept S){e x:az}(he:(ab S).J e.1 e.2)(h:x∈orb S e):e∈orb S x:=by
 have hx:=fu k he h
 have p:=dt k he
 rw[p.orb,bU]at h
 obtain⟨j,_,h2,rfl⟩:=h
 refine(eg k hx).2 ⟨(rnd S e).length-j,?_⟩
 rw[<-gk]
 have:j+((rnd S e).length-j)=(rnd S e).length:=by lia
 rw[this,p.back]
theorem eV {S:Plan}(k:Kept S){e x y:az}(he:(ab S).J e.1 e.2)(h:x∈orb S e)(h2:y∈orb S x):y∈orb S e:=by
 have hx:=fu k he h
 obtain⟨i,rfl⟩:=(eg k he).1 h
 obtain⟨j,rfl⟩:=(eg k hx).1 h2
 exact(eg k he).2 ⟨i+j,by rw[gk]⟩
def prs (l:List Nat):List az:=l.zip (l.drop 1++l.take 1)
theorem ss (ring:Nat->List Nat)(e:az):∀n i,((seg ring e i (n+1)).map (·.1)).zip (((seg ring e i (n+1)).map (·.1)).drop 1++[(iter ring e (i+n+1)).1])=seg ring e i (n+1)
 |0,i=>by
  simp[seg]
  exact Lg rfl (dY ring e i)
 |n+1,i=>by
  have ih:=ss ring e n (i+1)
  rw[seg,HN,List.drop_one,List.tail_cons]
  have e0:(seg ring e (i+1) (n+1)).map (·.1)=(iter ring e (i+1)).1 :: ((seg ring e (i+1) (n+1)).map (·.1)).drop 1:=by
   rw[seg];rfl
  have e1:i+1+n+1=i+(n+1)+1:=by lia
  rw[e1]at ih
  conv=>lhs;rw[e0]
  rw[Lv,JE,<-e0,ih]
  congr 1
theorem eK {S:Plan}(k:Kept S){e:az}(he:(ab S).J e.1 e.2):prs (rnd S e)=orb S e:=by
 have p:=dt k he
 obtain⟨n,hn⟩:∃n,(rnd S e).length=n+1:=⟨(rnd S e).length-1,by have:=p.pos;lia⟩
 have hr:=p.rnd
 have hb:=p.back
 rw[hn]at hr hb
 unfold prs
 have ht:(rnd S e).take 1=[(iter (aj S) e (0+n+1)).1]:=by
  rw[hr,Jy,hb,seg];rfl
 rw[ht,hr,ss,p.orb,hn]
theorem eX (ring:Nat->List Nat)(e:az):∀a b i,seg ring e i (a+b)=seg ring e i a++seg ring e (i+a) b
 |0,b,i=>by simp[seg]
 |a+1,b,i=>by
  have:a+1+b=(a+b)+1:=by lia
  rw[this,seg,seg,eX ring e a b (i+1),Lv]
  congr 2;congr 1;lia
theorem lr (ring:Nat->List Nat)(e:az)(j:Nat):∀n i,seg ring (iter ring e j) i n=seg ring e (j+i) n
 |0,i=>rfl
 |n+1,i=>by
  rw[seg,seg,lr ring e j n (i+1),<-gk];rfl
theorem n9 {ring:Nat->List Nat}{e:az}{N:Nat}(hN:iter ring e N=e):∀n i,seg ring e (N+i) n=seg ring e i n
 |0,i=>rfl
 |n+1,i=>by
  have:N+i+1=N+(i+1):=by lia
  rw[seg,seg,this,n9 hN n (i+1),gk,hN]
theorem oa {S:Plan}(k:Kept S){e x:az}(he:(ab S).J e.1 e.2)(h:x∈orb S e):(rnd S x).length=(rnd S e).length:=by
 have le:∀{a b:az},(ab S).J a.1 a.2->b∈orb S a->(orb S b).length<=(orb S a).length:=by
  intro a b ha hb
  have hbj:=fu k ha hb
  have pb:=dt k hbj
  apply bv
  ·rw[pb.orb];exact gc _ _ _ _ (λx y _ h1 h2=>pb.dist x y h1 (by lia))
  ·intro y hy;exact eV k ha hb hy
 have hx:=fu k he h
 have l1:=le he h
 have l2:=le hx (dz k he h)
 unfold orb at l1 l2
 rw[cJ,cJ]at l1 l2
 lia
theorem AK {S:Plan}(k:Kept S){e:az}(he:(ab S).J e.1 e.2){j:Nat}(hj:j<(rnd S e).length) :
  rnd S (iter (aj S) e j)=(rnd S e).drop j++(rnd S e).take j:=by
 have g:=bw S k
 have r:=cI k
 have p:=dt k he
 have hx:=fg g r he j
 have hm:iter (aj S) e j∈orb S e:=(eg k he).2 ⟨j,rfl⟩
 have px:=dt k hx
 have hl:=oa k he hm
 rw[px.rnd,hl,lr]
 obtain⟨m,hm'⟩:∃m,(rnd S e).length=j+m:=⟨(rnd S e).length-j,by lia⟩
 have e1:seg (aj S) e (j+0) (rnd S e).length=seg (aj S) e j m++seg (aj S) e 0 j:=by
  rw[hm']
  have:j+m=m+j:=by lia
  rw[this,Nat.add_zero,eX]
  congr 1
  have h2:=n9 p.back j 0
  rw[Nat.add_zero,hm']at h2;exact h2
 have e2:rnd S e=(seg (aj S) e 0 j).map (·.1)++(seg (aj S) e j m).map (·.1):=by
  rw[p.rnd,hm',eX,HI,Jy]
 have hl1:((seg (aj S) e 0 j).map (·.1)).length=j:=by rw[lmp,cJ]
 rw[e1,HI]
 conv=>rhs;rw[e2]
 rw[List.drop_left' hl1,List.take_left' hl1]
structure B2 (S:Plan)(ok:Nat->Prop)(m:Nat->Bool)(c:Bool)(todo:List Nat)(seen:Array Bool):Prop where
 t:∀x∈todo,ok x/\m x=c
 s:∀j,seen[j]? = some true->ok j->m j=c
 f:∀j,seen[j]? = some false->ok j
theorem ul {S:Plan}{i:Nat}{j:Nat}(h:j∈S.nears.getD i []):j∈S.near i:=by
 unfold Plan.nears at h
 rw[Ji]at h
 simp only[List.getElem?_toArray,Hw]at h
 cases hr:(HS S.pts.length)[i]? with
 |none=>rw[hr]at h;simp at h
 |some x =>
  rw[hr]at h
  have:x=i:=by
   have:=List.getElem?_eq_some_iff.1 hr
   obtain⟨a,b⟩:=this
   rw[List.getElem_range]at b;exact b.symm
  subst this;simpa using h
theorem qB {S:Plan}{ok:Nat->Prop}{m:Nat->Bool}{c:Bool}(he:∀a b,(ab S).J a b->ok a->ok b->m a=m b){i:Nat}(hi:ok i/\m i=c) :
  ∀(l:List Nat),(∀j∈l,(ab S).J i j)->∀(z:List Nat×Array Bool),B2 S ok m c z.1 z.2 ->
  B2 S ok m c (l.foldl (λ(a:List Nat×Array Bool) (j:Nat)=>if a.2.getD j true=true then a else (j :: a.1,a.2.setIfInBounds j true)) z).1
   (l.foldl (λ(a:List Nat×Array Bool) (j:Nat)=>if a.2.getD j true=true then a else (j :: a.1,a.2.setIfInBounds j true)) z).2
 |[],_,z,h=>h
 |j :: r,hl,z,h=>by
  rw[Kh]
  refine qB he hi r (λx hx=>hl x (by simp[hx])) _ ?_
  split
  ·exact h
  ·rename_i hs
   have hjf:z.2[j]? = some false:=by
    rw[Ji]at hs
    cases hz:z.2[j]? with
    |none=>rw[hz]at hs;simp at hs
    |some b=>cases b with
     |true=>rw[hz]at hs;simp at hs
     |false=>rfl
   have hok:=h.f j hjf
   have hm:m j=c:=by rw[<-he i j (hl j (by simp)) hi.1 hok];exact hi.2
   constructor
   ·intro x hx
    rcases Hq.1 hx with e|e
    ·subst e;exact⟨hok,hm⟩
    ·exact h.t x e
   ·intro x hx hokx
    by_cases e:j=x
    ·subst e;exact hm
    ·rw[IW e]at hx
     exact h.s x hx hokx
   ·intro x hx
    by_cases e:j=x
    ·subst e;exact hok
    ·rw[IW e]at hx
     exact h.f x hx
theorem ju {S:Plan}(k:Kept S){ok:Nat->Prop}{m:Nat->Bool}{c:Bool}(he:∀a b,(ab S).J a b->ok a->ok b->m a=m b) :
  ∀(n:Nat) (todo:List Nat) (seen:Array Bool),B2 S ok m c todo seen->∀j,(spread S.nears n todo seen)[j]? = some true->ok j->m j=c
 |0,todo,seen,h=>by intro j;rw[spread];exact h.s j
 |n+1,todo,seen,h=>by
  cases todo with
  |nil=>exact h.s
  |cons x r =>
   have hx:=h.t x (by simp)
   refine ju k he n _ _ (qB he hx _ (λj hj=>(gn k).1 (ul hj)) (r,seen) ⟨?_,h.s,h.f⟩)
   intro y hy;exact h.t y (by simp[hy])
theorem qk:∀(l:List Nat) (z:List Nat×Array Bool),
  (l.foldl (λ(a:List Nat×Array Bool) (j:Nat)=>if a.2.getD j true=true then a else (j :: a.1,a.2.setIfInBounds j true)) z).2.size=z.2.size
 |[],z=>rfl
 |j :: r,z=>by
  rw[Kh,qk r];split
  ·rfl
  ·simp
theorem mx {near:Array (List Nat)}:∀(n:Nat) (todo:List Nat) (seen:Array Bool),(spread near n todo seen).size=seen.size
 |0,_,_=>rfl
 |n+1,todo,seen=>by
  cases todo with
  |nil=>rfl
  |cons x r=>exact(mx n _ _).trans (qk _ _)
theorem yZ {S:Plan}(k:Kept S)(h0:0<S.pts.length)
  (h9:(HS S.pts.length).find? (λ(i:Nat)=>!((seenFrom S.nears S.pts.length 0 (noneSeen S.pts.length)).getD i false))=none):uV (ab S) (λ_=>True):=by
 intro m he
 have key:∀a,a<S.pts.length->m a=m 0:=by
  intro a ha
  have:=Kv.1 h9 a (by simpa using ha)
  have hs:(seenFrom S.nears S.pts.length 0 (noneSeen S.pts.length))[a]? = some true:=by
   rw[Ji]at this
   cases hz:(seenFrom S.nears S.pts.length 0 (noneSeen S.pts.length))[a]? with
   |none=>rw[hz]at this;simp at this
   |some b=>cases b with
    |true=>rfl
    |false=>rw[hz]at this;simp at this
  refine ju k (ok:=λ_=>True) (c:=m 0) he _ _ _ ⟨?_,?_,?_⟩ a hs trivial
  ·intro x hx;simp at hx;subst hx;exact⟨trivial,rfl⟩
  ·intro j hj _
   by_cases e:0=j
   ·subst e;rfl
   ·rw[IW e]at hj
    unfold noneSeen at hj
    rw[Array.getElem?_replicate]at hj
    split at hj<;>simp at hj
  ·intro _ _;trivial
 intro a b ha hb _ _
 rw[key a ha,key b hb]
theorem zr {S:Plan}(k:Kept S)(h0:4<=S.pts.length){v:Nat}(hv:v<S.pts.length)
  (h10:cuts S.nears S.pts.length v=false):uV (ab S) (λu=>u≠v):=by
 intro m he
 let s:=if v=0 then 1 else 0
 have hsv:s≠v:=by show(if v=0 then 1 else 0)≠v;split<;>lia
 have key:∀a,a<S.pts.length->a≠v->m a=m s:=by
  intro a ha hav
  unfold cuts at h10
  have hsz:(seenFrom S.nears S.pts.length (if v=0 then 1 else 0) ((noneSeen S.pts.length).setIfInBounds v true)).size=S.pts.length:=by
   unfold seenFrom;rw[mx];simp[noneSeen]
  have hs:(seenFrom S.nears S.pts.length (if v=0 then 1 else 0) ((noneSeen S.pts.length).setIfInBounds v true))[a]? = some true:=by
   have hlt:a<(seenFrom S.nears S.pts.length (if v=0 then 1 else 0) ((noneSeen S.pts.length).setIfInBounds v true)).size:=by rw[hsz];exact ha
   rw[Lr hlt]
   cases hz:(seenFrom S.nears S.pts.length (if v=0 then 1 else 0) ((noneSeen S.pts.length).setIfInBounds v true))[a] with
   |true=>rfl
   |false =>
    exfalso
    have:(seenFrom S.nears S.pts.length (if v=0 then 1 else 0) ((noneSeen S.pts.length).setIfInBounds v true)).contains false=true:=by
     rw[Array.contains_iff_mem]
     rw[<-hz];exact Array.getElem_mem hlt
    rw[h10]at this;cases this
  refine ju k (ok:=λu=>u≠v) (c:=m s) he _ _ _ ⟨?_,?_,?_⟩ a hs hav
  ·intro x hx
   have hx:x=s:=by simpa using hx
   subst hx;exact⟨hsv,rfl⟩
  ·intro j hj hjv
   by_cases e:s=j
   ·subst e;rfl
   ·rw[IW e,IW (Ie hjv)]at hj
    unfold noneSeen at hj
    rw[Array.getElem?_replicate]at hj
    split at hj<;>simp at hj
  ·intro j hj e
   subst e
   rw[IW hsv,Array.getElem?_setIfInBounds_self]at hj
   split at hj<;>simp at hj
 intro a b ha hb hav hbv
 rw[key a ha hav,key b hb hbv]
theorem iQ:∀(r:List Nat) (a m:Nat),m∈a :: r->(∀x∈a :: r,m<=x)->r.foldl min a=m
 |[],a,m,h,_=>by simp at h;simp[h]
 |b :: r,a,m,h,hm=>by
  rw[Kh]
  apply iQ r
  ·have h1:=hm a (by simp)
   have h2:=hm b (by simp)
   rcases Hq.1 h with e|e
   ·subst e;simp;left;lia
   ·rcases Hq.1 e with e|e
    ·subst e;simp;left;lia
    ·simp[e]
  ·intro x hx
   rcases Hq.1 hx with e|e
   ·have h1:=hm a (by simp)
    have h2:=hm b (by simp)
    lia
   ·exact hm x (by simp[e])
theorem dZ {m:Nat}{t:List Nat}(hm:∀x∈t,m<x){j:Nat}(hj:j<(m :: t).length) :
  fromLeast ((m :: t).drop j++(m :: t).take j)=m :: t:=by
 have hmem:∀x,x∈(m :: t).drop j++(m :: t).take j->x∈m :: t:=by
  intro x hx
  rcases HU.1 hx with h|h
  ·exact J7 h
  ·exact Jd h
 have hge:∀x,x∈(m :: t).drop j++(m :: t).take j->m<=x:=by
  intro x hx
  rcases Hq.1 (hmem x hx) with e|e
  ·lia
  ·exact Ka (hm x e)
 by_cases h0:j=0
 ·subst h0
  simp only[List.drop_zero,List.take_zero,Iq]at *
  unfold fromLeast
  simp only
  rw[iQ t m m (by simp) hge]
  simp
 ·obtain⟨i,rfl⟩:∃i,j=i+1:=⟨j-1,by lia⟩
  have hin:m∈(m :: t).drop (i+1)++(m :: t).take (i+1):=by simp
  have hno:m∉(m :: t).drop (i+1):=by
   intro h
   simp only[List.drop_succ_cons]at h
   have:=hm m (J7 h);lia
  have hidx:((m :: t).drop (i+1)++(m :: t).take (i+1)).idxOf m=((m :: t).drop (i+1)).length:=by
   rw[List.take_succ_cons];exact l8 hno
  generalize hL:(m :: t).drop (i+1)++(m :: t).take (i+1)=L at *
  unfold fromLeast
  cases L with
  |nil=>simp at hin
  |cons a r =>
   simp only
   rw[iQ r a m hin hge,hidx,<-hL,List.drop_left,List.take_left,List.take_append_drop]
structure cp (S:Plan):Prop extends Kept S where
 pts4:4<=S.pts.length
 r6:frameOk S=true
 r9:(HS S.pts.length).find? (λ(i:Nat)=>!((seenFrom S.nears S.pts.length 0 (noneSeen S.pts.length)).getD i false))=none
 r10:(HS S.pts.length).find? (cuts S.nears S.pts.length)=none
theorem cp.conn {S:Plan}(k:cp S):uV (ab S) (λ_=>True):=yZ k.toKept (by have:=k.pts4;lia) k.r9
theorem cp.but {S:Plan}(k:cp S):∀v,v<(ab S).n->uV (ab S) (λu=>u≠v):=by
 intro v hv
 have:=Kv.1 k.r10 v (by simpa [ab] using hv)
 exact zr k.toKept k.pts4 hv (by simpa using this)
theorem jG {S:Plan}(k:cp S){e:az}(he:(ab S).J e.1 e.2):(rnd S e).Nodup:=by
 have p:=dt k.toKept he
 have g:=bw S k.toKept
 have r:=cI k.toKept
 rw[p.rnd,List.Nodup,Lk,HQ]
 have get:∀n i a (h:a<(seg (aj S) e i n).length),(seg (aj S) e i n)[a]=iter (aj S) e (i+a):=by
  intro n
  induction n with
  |zero=>intro i a h;simp[seg]at h
  |succ n ih =>
   intro i a h
   cases a with
   |zero=>rfl
   |succ a =>
    simp only[seg,List.getElem_cons_succ]
    rw[ih];congr 1;lia
 intro a b ha hb hab
 rw[get,get]
 rw[cJ]at hb
 simpa using sE g r he p.back p.dist k.but hab hb
theorem lw {S:Plan}{l:List Nat}(hc:chained S l=true){i:Nat}(hi:i+1<l.length):(ab S).J l[i] l[i+1]:=by
 unfold chained at hc
 rw[IL]at hc
 have hm:(l[i],l[i+1])∈l.zip (l.drop 1):=by
  rw[Ky]
  refine⟨i,by simp;lia,?_⟩
  rw[KN,KF]
  congr 2;lia
 have:=hc _ hm
 unfold Plan.joined at this
 rw[JT]at this
 simp only at this
 rcases Nat.le_total l[i] l[i+1] with h|h
 ·rw[Ia h,IG h]at this;exact Jr this
 ·rw[HX h,Jh h]at this;exact IP this
theorem ba {S:Plan}{on:Pt->Bool}{b:Nat}:b∈edgePts S on↔b<S.pts.length/\on (S.pt b)=true:=by
 unfold edgePts;rw[HZ];simp
theorem iH {S:Plan}{on:Pt->Bool}:(edgePts S on).Pairwise (· < ·):=by
 unfold edgePts;exact List.pairwise_lt_range.filter _
theorem ng {S:Plan}{on:Pt->Bool}(hc:chained S (edgePts S on)=true){b c:Nat}(hb:b∈edgePts S on)(hcm:c∈edgePts S on)(h:c<b) :
  ∃k,k∈edgePts S on/\k<b/\(ab S).J k b:=by
 obtain⟨i,hi,ei⟩:=Ib hb
 obtain⟨j,hj,ej⟩:=Ib hcm
 have hlt:=HQ.1 (iH (S:=S) (on:=on))
 have hji:j<i:=by
  apply bcn;intro hn
  rcases Nat.lt_or_eq_of_le (Nat.le_of_not_lt hn) with h'|h'
  ·have:=hlt i j hi hj h';lia
  ·subst h';lia
 obtain⟨i',rfl⟩:∃i',i=i'+1:=⟨i-1,by lia⟩
 refine⟨(edgePts S on)[i'],HP _,?_,?_⟩
 ·have:=hlt i' (i'+1) (by lia) hi (by lia);lia
 ·have:=lw hc hi
  rw[ei]at this;exact this
theorem ot {S:Plan}{on:Pt->Bool}(hc:chained S (edgePts S on)=true){b c:Nat}(hb:b∈edgePts S on)(hcm:c∈edgePts S on)(h:b<c) :
  ∃k,k∈edgePts S on/\b<k/\(ab S).J b k:=by
 obtain⟨i,hi,ei⟩:=Ib hb
 obtain⟨j,hj,ej⟩:=Ib hcm
 have hlt:=HQ.1 (iH (S:=S) (on:=on))
 have hji:i<j:=by
  apply bcn;intro hn
  rcases Nat.lt_or_eq_of_le (Nat.le_of_not_lt hn) with h'|h'
  ·have:=hlt j i hj hi h';lia
  ·subst h';lia
 refine⟨(edgePts S on)[i+1],HP _,?_,?_⟩
 ·have:=hlt i (i+1) (by lia) (by lia) (by lia);lia
 ·have:=lw hc (i:=i) (by lia)
  rw[ei]at this;exact this
structure vN (S:Plan):Prop where
 inw:∀{i},i<S.pts.length->(S.pt i).x<=S.w/\(S.pt i).y<=S.h
 bot:∀{b},b<S.pts.length->(S.pt b).y=0->(S.pt b).x≠0->∃k,(ab S).J b k/\(S.pt k).y=0/\(S.pt k).x<(S.pt b).x
 lef:∀{b},b<S.pts.length->(S.pt b).x=0->(S.pt b).y≠S.h->∃k,(ab S).J b k/\(S.pt k).x=0/\(S.pt b).y<(S.pt k).y
 top:∀{b},b<S.pts.length->(S.pt b).y=S.h->(S.pt b).x≠S.w->∃k,(ab S).J b k/\(S.pt k).y=S.h/\(S.pt b).x<(S.pt k).x
 rig:∀{b},b<S.pts.length->(S.pt b).x=S.w->(S.pt b).y≠0->∃k,(ab S).J b k/\(S.pt k).x=S.w/\(S.pt k).y<(S.pt b).y
 last:∃c,c+1=S.pts.length/\(S.pt c).x=S.w/\(S.pt c).y=S.h
theorem eE {S:Plan}{p:Pt}(h:S.pts.contains p=true):∃c,c<S.pts.length/\S.pt c=p:=by
 rw[JT]at h
 obtain⟨i,hi,e⟩:=Ib h
 exact⟨i,hi,by rw[bO S hi];exact e⟩
theorem jv {S:Plan}(k:Kept S)(h6:frameOk S=true):vN S:=by
 have hin:∀{i},i<S.pts.length->(S.pt i).x<=S.w/\(S.pt i).y<=S.h:=by
  intro i hi
  have:=(cw k.r4).1 (S.pt i) (by rw[bO S hi];exact HP _)
  simpa using this
 unfold frameOk at h6
 simp only[Hu]at h6
 obtain⟨c00,cw0,c0h,cwh,e1,e2,e3,e4⟩:=h6
 obtain⟨a0,a1,a2⟩:=eE c00
 obtain⟨b0,b1,b2⟩:=eE cw0
 obtain⟨c0,c1,c2⟩:=eE c0h
 obtain⟨d0,d1,d2⟩:=eE cwh
 have lt_of:∀{i j},i<S.pts.length->j<S.pts.length->((S.pt i).y<(S.pt j).y\/((S.pt i).y=(S.pt j).y/\(S.pt i).x<(S.pt j).x))->i<j:=by
  intro i j hi hj h
  rcases Li i j with h'|h'|h'
  ·exact h'
  ·subst h';lia
  ·have:=k.ord h' hi
   rw[fe]at this;lia
 have lt_to:∀{i j},i<j->j<S.pts.length->((S.pt i).y<(S.pt j).y\/((S.pt i).y=(S.pt j).y/\(S.pt i).x<(S.pt j).x)):=by
  intro i j h hj
  have:=k.ord h hj
  rw[fe]at this;exact this
 have g:=bw S k
 refine⟨hin,?_,?_,?_,?_,?_⟩
 ·intro b hb hy hx
  obtain⟨j,h1,h2,h3⟩:=ng e1 (b:=b) (c:=a0) (ba.2 ⟨hb,by simpa using hy⟩) (ba.2 ⟨a1,by rw[a2];rfl⟩)
   (lt_of a1 hb (by rw[a2];simp only;lia))
  have h1':=(ba.1 h1).2
  have:=lt_to h2 hb
  exact⟨j,g.symm h3,by simpa using h1',by simp at h1';lia⟩
 ·intro b hb hx hy
  have:=hin hb
  obtain⟨j,h1,h2,h3⟩:=ot e3 (b:=b) (c:=c0) (ba.2 ⟨hb,by simpa using hx⟩) (ba.2 ⟨c1,by rw[c2];rfl⟩)
   (lt_of hb c1 (by rw[c2];simp only;lia))
  have h1':=(ba.1 h1)
  have:=lt_to h2 h1'.1
  have h1'':=h1'.2
  exact⟨j,h3,by simpa using h1'',by simp at h1'';lia⟩
 ·intro b hb hy hx
  have:=hin hb
  obtain⟨j,h1,h2,h3⟩:=ot e2 (b:=b) (c:=d0) (ba.2 ⟨hb,by simpa using hy⟩) (ba.2 ⟨d1,by rw[d2];simp⟩)
   (lt_of hb d1 (by rw[d2];simp only;lia))
  have h1':=(ba.1 h1)
  have:=lt_to h2 h1'.1
  have h1'':=h1'.2
  exact⟨j,h3,by simpa using h1'',by simp at h1'';lia⟩
 ·intro b hb hx hy
  have:=hin hb
  obtain⟨j,h1,h2,h3⟩:=ng e4 (b:=b) (c:=b0) (ba.2 ⟨hb,by simpa using hx⟩) (ba.2 ⟨b1,by rw[b2];simp⟩)
   (lt_of b1 hb (by rw[b2];simp only;lia))
  have h1':=(ba.1 h1).2
  have:=lt_to h2 hb
  exact⟨j,g.symm h3,by simpa using h1',by simp at h1';lia⟩
 ·refine⟨d0,?_,by rw[d2],by rw[d2]⟩
  apply bcn;intro hn
  have hl:d0+1<S.pts.length:=by lia
  have h1:=lt_to (show d0<d0+1 by lia) hl
  have h2:=hin hl
  rw[d2]at h1;simp only at h1;lia
theorem gK {R k c:Int×Int}(h1:cr R k=0)(h2:R.1*k.1+R.2*k.2<0)(h3:0<=cr R c)(h4:cr R c=0->cr c k=0):sooner R c k=false:=by
 rw[dH,nU h1 h2]
 by_cases h:cr R c=0
 ·have:=h4 h
  have:half R c≠0:=by
   have e:¬R.1*c.2-R.2*c.1<0:=by unfold cr at h;lia
   unfold half;simp only[e,Lf];split
   ·lia
   ·split<;>lia
  lia
 ·rw[bM (by lia)];lia
theorem gJ {R k c:Int×Int}(h1:0<cr R k)(h2:0<=cr R c)(h3:0<=cr c k)(h4:cr R c=0->0<=R.1*c.1+R.2*c.2):sooner R c k=false:=by
 rw[dH,bM h1]
 by_cases h:cr R c=0
 ·have h5:=h4 h
  have:half R c=3:=by
   have e:¬R.1*c.2-R.2*c.1<0:=by unfold cr at h;lia
   have e2:¬0<R.1*c.2-R.2*c.1:=by unfold cr at h;lia
   have e3:¬R.1*c.1+R.2*c.2<0:=by lia
   unfold half;simp only[e,e2,e3,Lf]
  lia
 ·rw[bM (by lia)];lia
def Fc (S:Plan)(a b:Nat):Prop :=
 ((S.pt a).y=0/\(S.pt b).y=0/\(S.pt b).x<(S.pt a).x)\/((S.pt a).x=0/\(S.pt b).x=0/\(S.pt a).y<(S.pt b).y) \/
 ((S.pt a).y=S.h/\(S.pt b).y=S.h/\(S.pt a).x<(S.pt b).x)\/((S.pt a).x=S.w/\(S.pt b).x=S.w/\(S.pt b).y<(S.pt a).y)
theorem Bt {S:Plan}(k:Kept S)(f:vN S)(hw:0<S.w)(hh:0<S.h){a b:Nat}(hab:(ab S).J a b)(h:Fc S a b) :
  Fc S b (bJ (aj S b) a):=by
 have g:=bw S k
 have r:=cI k
 have hb:b<S.pts.length:=g.lt (g.symm hab)
 have ha:=r.mem.2 (g.symm hab)
 have soon:=nu k ha
 have key:∀j,(ab S).J b j->sooner (dir S b a) (dir S b (bJ (aj S b) a)) (dir S b j)=false->Fc S b j->Fc S b (bJ (aj S b) a):=by
  intro j hj hs hf
  by_cases e:j=bJ (aj S b) a
  ·rw[<-e];exact hf
  ·have:=(soon j (r.mem.2 hj) e).1
   rw[hs]at this;cases this
 have hc:(ab S).J b (bJ (aj S b) a):=r.mem.1 (lQ ha)
 have hcn:bJ (aj S b) a<S.pts.length:=g.lt (g.symm hc)
 have ic:=f.inw hcn
 have ib:=f.inw hb
 generalize bJ (aj S b) a=c at *
 have mn:∀{x y:Int},0<=x->0<=y->0<=x*y:=λh1 h2=>Ht h1 h2
 rcases h with⟨y1,y2,y3⟩|⟨y1,y2,y3⟩|⟨y1,y2,y3⟩|⟨y1,y2,y3⟩
 ·
  by_cases e:(S.pt b).x=0
  ·obtain⟨j,hj,j1,j2⟩:=f.lef hb e (by lia)
   refine key j hj ?_ (IP (Jr ⟨e,j1,j2⟩))
   rw[bc,bc,bc]
   have r1:(0:Int)<(ab S).X a-(ab S).X b:=by simp only[ab];lia
   have r2:(ab S).Y a-(ab S).Y b=0:=by simp only[ab];lia
   have k1:(ab S).X j-(ab S).X b=0:=by simp only[ab];lia
   have k2:(0:Int)<(ab S).Y j-(ab S).Y b:=by simp only[ab];lia
   have c1:(0:Int)<=(ab S).X c-(ab S).X b:=by simp only[ab];lia
   have c2:(0:Int)<=(ab S).Y c-(ab S).Y b:=by simp only[ab];lia
   rw[r2,k1]
   generalize (ab S).X a-(ab S).X b=rx at *
   generalize (ab S).Y j-(ab S).Y b=ky at *
   generalize (ab S).X c-(ab S).X b=cx at *
   generalize (ab S).Y c-(ab S).Y b=cy at *
   apply gJ
   ·have:=HH r1 k2;simpa [cr] using this
   ·have:=mn (Ku r1) c2;simpa [cr] using this
   ·have:=mn c1 (Ku k2);simpa [cr] using this
   ·intro _;have:=mn (Ku r1) c1;simpa using this
  ·obtain⟨j,hj,j1,j2⟩:=f.bot hb y2 e
   refine key j hj ?_ (Jr ⟨y2,j1,j2⟩)
   rw[bc,bc,bc]
   have r1:(0:Int)<(ab S).X a-(ab S).X b:=by simp only[ab];lia
   have r2:(ab S).Y a-(ab S).Y b=0:=by simp only[ab];lia
   have k1:(ab S).X j-(ab S).X b<0:=by simp only[ab];lia
   have k2:(ab S).Y j-(ab S).Y b=0:=by simp only[ab];lia
   have c2:(0:Int)<=(ab S).Y c-(ab S).Y b:=by simp only[ab];lia
   rw[r2,k2]
   generalize (ab S).X a-(ab S).X b=rx at *
   generalize (ab S).X j-(ab S).X b=kx at *
   generalize (ab S).X c-(ab S).X b=cx at *
   generalize (ab S).Y c-(ab S).Y b=cy at *
   apply gK
   ·simp[cr]
   ·have:=aD _ _ r1 k1;simpa using this
   ·have:=mn (Ku r1) c2;simpa [cr] using this
   ·intro h
    simp[cr]at h ⊢
    rcases JS.1 h with h|h
    ·lia
    ·rw[h];simp
 ·
  by_cases e:(S.pt b).y=S.h
  ·obtain⟨j,hj,j1,j2⟩:=f.top hb e (by lia)
   refine key j hj ?_ (IP (IP (Jr ⟨e,j1,j2⟩)))
   rw[bc,bc,bc]
   have r1:(ab S).X a-(ab S).X b=0:=by simp only[ab];lia
   have r2:(ab S).Y a-(ab S).Y b<0:=by simp only[ab];lia
   have k1:(0:Int)<(ab S).X j-(ab S).X b:=by simp only[ab];lia
   have k2:(ab S).Y j-(ab S).Y b=0:=by simp only[ab];lia
   have c1:(0:Int)<=(ab S).X c-(ab S).X b:=by simp only[ab];lia
   have c2:(ab S).Y c-(ab S).Y b<=0:=by simp only[ab];lia
   rw[r1,k2]
   generalize (ab S).Y a-(ab S).Y b=ry at *
   generalize (ab S).X j-(ab S).X b=kx at *
   generalize (ab S).X c-(ab S).X b=cx at *
   generalize (ab S).Y c-(ab S).Y b=cy at *
   apply gJ
   ·have:=HH (show 0 < -ry by lia) k1;simp[cr];grind
   ·have:=mn (show 0<=-ry by lia) c1;simp[cr];grind
   ·have:=mn (show 0<=-cy by lia) (Ku k1);simp[cr];grind
   ·intro _;have:=mn (show 0<=-ry by lia) (show 0<=-cy by lia);simp;grind
  ·obtain⟨j,hj,j1,j2⟩:=f.lef hb y2 e
   refine key j hj ?_ (IP (Jr ⟨y2,j1,j2⟩))
   rw[bc,bc,bc]
   have r1:(ab S).X a-(ab S).X b=0:=by simp only[ab];lia
   have r2:(ab S).Y a-(ab S).Y b<0:=by simp only[ab];lia
   have k1:(ab S).X j-(ab S).X b=0:=by simp only[ab];lia
   have k2:(0:Int)<(ab S).Y j-(ab S).Y b:=by simp only[ab];lia
   have c1:(0:Int)<=(ab S).X c-(ab S).X b:=by simp only[ab];lia
   rw[r1,k1]
   generalize (ab S).Y a-(ab S).Y b=ry at *
   generalize (ab S).Y j-(ab S).Y b=ky at *
   generalize (ab S).X c-(ab S).X b=cx at *
   generalize (ab S).Y c-(ab S).Y b=cy at *
   apply gK
   ·simp[cr]
   ·have:=HH (show 0 < -ry by lia) k2;simp;grind
   ·have:=mn (show 0<=-ry by lia) c1;simp[cr];grind
   ·intro h
    simp[cr]at h ⊢
    rcases JS.1 h with h|h
    ·lia
    ·rw[h];simp
 ·
  by_cases e:(S.pt b).x=S.w
  ·obtain⟨j,hj,j1,j2⟩:=f.rig hb e (by lia)
   refine key j hj ?_ (IP (IP (IP ⟨e,j1,j2⟩)))
   rw[bc,bc,bc]
   have r1:(ab S).X a-(ab S).X b<0:=by simp only[ab];lia
   have r2:(ab S).Y a-(ab S).Y b=0:=by simp only[ab];lia
   have k1:(ab S).X j-(ab S).X b=0:=by simp only[ab];lia
   have k2:(ab S).Y j-(ab S).Y b<0:=by simp only[ab];lia
   have c1:(ab S).X c-(ab S).X b<=0:=by simp only[ab];lia
   have c2:(ab S).Y c-(ab S).Y b<=0:=by simp only[ab];lia
   rw[r2,k1]
   generalize (ab S).X a-(ab S).X b=rx at *
   generalize (ab S).Y j-(ab S).Y b=ky at *
   generalize (ab S).X c-(ab S).X b=cx at *
   generalize (ab S).Y c-(ab S).Y b=cy at *
   apply gJ
   ·have:=HH (show 0 < -rx by lia) (show 0 < -ky by lia);simp[cr];grind
   ·have:=mn (show 0<=-rx by lia) (show 0<=-cy by lia);simp[cr];grind
   ·have:=mn (show 0<=-cx by lia) (show 0<=-ky by lia);simp[cr];grind
   ·intro _;have:=mn (show 0<=-rx by lia) (show 0<=-cx by lia);simp;grind
  ·obtain⟨j,hj,j1,j2⟩:=f.top hb y2 e
   refine key j hj ?_ (IP (IP (Jr ⟨y2,j1,j2⟩)))
   rw[bc,bc,bc]
   have r1:(ab S).X a-(ab S).X b<0:=by simp only[ab];lia
   have r2:(ab S).Y a-(ab S).Y b=0:=by simp only[ab];lia
   have k1:(0:Int)<(ab S).X j-(ab S).X b:=by simp only[ab];lia
   have k2:(ab S).Y j-(ab S).Y b=0:=by simp only[ab];lia
   have c2:(ab S).Y c-(ab S).Y b<=0:=by simp only[ab];lia
   rw[r2,k2]
   generalize (ab S).X a-(ab S).X b=rx at *
   generalize (ab S).X j-(ab S).X b=kx at *
   generalize (ab S).X c-(ab S).X b=cx at *
   generalize (ab S).Y c-(ab S).Y b=cy at *
   apply gK
   ·simp[cr]
   ·have:=HH (show 0 < -rx by lia) k1;simp;grind
   ·have:=mn (show 0<=-rx by lia) (show 0<=-cy by lia);simp[cr];grind
   ·intro h
    simp[cr]at h ⊢
    rcases JS.1 h with h|h
    ·lia
    ·rw[h];simp
 ·
  by_cases e:(S.pt b).y=0
  ·obtain⟨j,hj,j1,j2⟩:=f.bot hb e (by lia)
   refine key j hj ?_ (Jr ⟨e,j1,j2⟩)
   rw[bc,bc,bc]
   have r1:(ab S).X a-(ab S).X b=0:=by simp only[ab];lia
   have r2:(0:Int)<(ab S).Y a-(ab S).Y b:=by simp only[ab];lia
   have k1:(ab S).X j-(ab S).X b<0:=by simp only[ab];lia
   have k2:(ab S).Y j-(ab S).Y b=0:=by simp only[ab];lia
   have c1:(ab S).X c-(ab S).X b<=0:=by simp only[ab];lia
   have c2:(0:Int)<=(ab S).Y c-(ab S).Y b:=by simp only[ab];lia
   rw[r1,k2]
   generalize (ab S).Y a-(ab S).Y b=ry at *
   generalize (ab S).X j-(ab S).X b=kx at *
   generalize (ab S).X c-(ab S).X b=cx at *
   generalize (ab S).Y c-(ab S).Y b=cy at *
   apply gJ
   ·have:=HH r2 (show 0 < -kx by lia);simp[cr];grind
   ·have:=mn (Ku r2) (show 0<=-cx by lia);simp[cr];grind
   ·have:=mn c2 (show 0<=-kx by lia);simp[cr];grind
   ·intro _;have:=mn (Ku r2) c2;simpa using this
  ·obtain⟨j,hj,j1,j2⟩:=f.rig hb y2 e
   refine key j hj ?_ (IP (IP (IP ⟨y2,j1,j2⟩)))
   rw[bc,bc,bc]
   have r1:(ab S).X a-(ab S).X b=0:=by simp only[ab];lia
   have r2:(0:Int)<(ab S).Y a-(ab S).Y b:=by simp only[ab];lia
   have k1:(ab S).X j-(ab S).X b=0:=by simp only[ab];lia
   have k2:(ab S).Y j-(ab S).Y b<0:=by simp only[ab];lia
   have c1:(ab S).X c-(ab S).X b<=0:=by simp only[ab];lia
   rw[r1,k1]
   generalize (ab S).Y a-(ab S).Y b=ry at *
   generalize (ab S).Y j-(ab S).Y b=ky at *
   generalize (ab S).X c-(ab S).X b=cx at *
   generalize (ab S).Y c-(ab S).Y b=cy at *
   apply gK
   ·simp[cr]
   ·have:=aD _ _ r2 k2;simpa using this
   ·have:=mn (Ku r2) (show 0<=-cx by lia);simp[cr];grind
   ·intro h
    simp[cr]at h ⊢
    rcases JS.1 h with h|h
    ·lia
    ·rw[h];simp
theorem md:∀(l:List Int),(∀x∈l,x<=0)->l.foldr (λ(a b:Int)=>a+b) 0<=0
 |[],_=>by simp
 |a :: r,h=>by
  rw[List.foldr_cons]
  have:=md r (λx hx=>h x (by simp[hx]))
  have:=h a (by simp);lia
theorem outer {S:Plan}(k:Kept S)(f:vN S)(hw:0<S.w)(hh:0<S.h):∃o:az,(ab S).J o.1 o.2 /\
  (∀E:List az,(∀e∈E,(ab S).J e.1 e.2)->c8 E->(ab S).om E o.1 o.2=false)/\twiceArea S (rnd S o)<=0:=by
 have g:=bw S k
 have r:=cI k
 obtain⟨v,hv,vx,vy⟩:=f.last
 obtain⟨j,hj,j1,j2⟩:=f.rig (b:=v) (by lia) vx (by lia)
 have hjv:j<v:=by
  have h1:j<S.pts.length:=g.lt (g.symm hj)
  have h2:=g.ne hj
  lia
 refine⟨(v,j),hj,?_,?_⟩
 ·intro E hE hc
  rw[<-hc (λx=>decide (x=v))]
  unfold Dr.om
  apply bE
  intro e he
  have hje:=hE e he
  have aux:∀p q,(ab S).J p q->p<q->(ab S).Om v j p q=(decide (p=v)^^decide (q=v)):=by
   intro p q hpq hlt
   have hq:q<S.pts.length:=g.lt (g.symm hpq)
   have hpv:p≠v:=by lia
   have hb:(ab S).base v p q=false:=by
    unfold Dr.base
    apply dqf
    intro h
    have h1:=f.inw hq
    have h2:=h.2.2.2.1
    simp only[ab]at h2;lia
   unfold Dr.Om
   rw[hb]
   by_cases hqv:q=v
   ·subst hqv
    have hpre:(ab S).pre q p j=true:=by
     unfold Dr.pre
     apply dqt
     by_cases e:p=j
     ·exact Jr e
     ·refine IP (IP ⟨IP ⟨hlt,hjv⟩,?_⟩)
      have hz:=pX k (g.symm hpq) hj e (IP ⟨hlt,hjv⟩)
      have:0<=(ab S).tr q p j:=by
       rw[vt,bc,bc]
       have k1:(ab S).X j-(ab S).X q=0:=by simp only[ab];lia
       have k2:(ab S).Y j-(ab S).Y q<0:=by simp only[ab];lia
       have i1:=f.inw (show p<S.pts.length by lia)
       have c1:(ab S).X p-(ab S).X q<=0:=by simp only[ab];lia
       rw[k1]
       have:=Ht (show 0<=-((ab S).X p-(ab S).X q) by lia) (show 0<=-((ab S).Y j-(ab S).Y q) by lia)
       simp only[cr];grind
      lia
    simp[hpv,hpre]
   ·simp[hpv,hqv]
  rcases IA (g.ne hje) with h|h
  ·rw[Ia (by lia),IG (by lia)];exact aux _ _ hje h
  ·rw[HX (by lia),Jh (by lia),Ks];exact aux _ _ (g.symm hje) h
 ·have hall:∀i,Fc S (iter (aj S) (v,j) i).1 (iter (aj S) (v,j) i).2:=by
   intro i
   induction i with
   |zero=>exact IP (IP (IP ⟨vx,j1,j2⟩))
   |succ i ih=>exact Bt k f hw hh (fg g r hj i) ih
  unfold twiceArea
  apply md
  intro x hx
  rw[HM]at hx
  obtain⟨e,he,rfl⟩:=hx
  have he:e∈prs (rnd S (v,j)):=he
  rw[eK k hj,eg k hj]at he
  obtain⟨i,rfl⟩:=he
  rcases hall i with⟨h1,h2,h3⟩|⟨h1,h2,h3⟩|⟨h1,h2,h3⟩|⟨h1,h2,h3⟩
  ·rw[h1,h2];simp
  ·rw[h1,h2];simp
  ·rw[h1,h2]
   have:=Ht (show(0:Int)<=((S.pt (iter (aj S) (v,j) i).2).x:Int)-((S.pt (iter (aj S) (v,j) i).1).x:Int) by lia) (show(0:Int)<=(S.h:Int) by lia)
   grind
  ·rw[h1,h2]
   have:=Ht (show(0:Int)<=((S.pt (iter (aj S) (v,j) i).1).y:Int)-((S.pt (iter (aj S) (v,j) i).2).y:Int) by lia) (show(0:Int)<=(S.w:Int) by lia)
   grind
theorem qg (f:az->Bool):∀E:List az,xs f E=decide ((E.filter f).length % 2=1)
 |[]=>by simp[xs]
 |e :: r=>by
  rw[xs,qg f r,List.filter_cons]
  cases f e with
  |false=>simp
  |true =>
   simp only[if_true,HW,Bool.true_xor]
   by_cases h:(r.filter f).length % 2=1
   ·have:¬((r.filter f).length+1) % 2=1:=by lia
    simp[h,this]
   ·have:((r.filter f).length+1) % 2=1:=by lia
    simp[h,this]
theorem lT {S:Plan}(k:Kept S){e:az}(he:(ab S).J e.1 e.2)(z:Pt):insideOf S (rnd S e) z=xs (lh ((ab S).cz z.x z.y)) (orb S e):=by
 have g:=bw S k
 rw[qg]
 unfold insideOf
 have h1:(rnd S e).zip ((rnd S e).drop 1++(rnd S e).take 1)=orb S e:=eK k he
 rw[h1]
 have:∀x∈orb S e,(let p:=S.pt x.1
   let q:=S.pt x.2
   (decide (p.y<=z.y)&&(decide (z.y<q.y)&&decide (0<turn p q z)))||(decide (q.y<=z.y)&&(decide (z.y<p.y)&&decide (turn p q z<0))))=lh ((ab S).cz z.x z.y) x:=by
  intro x hx
  have hj:=fu k he hx
  have ord:∀{i j},(ab S).J i j->i<j->(S.pt i).y<=(S.pt j).y:=by
   intro i j h hlt
   rcases g.ord hlt (g.lt (g.symm h)) with h|h<;>(simp only[ab]at h;lia)
  have trz:∀p q,turn (S.pt p) (S.pt q) z=(ab S).trz p q z.x z.y:=by intro p q;rfl
  have trs:∀p q,(ab S).trz q p z.x z.y=- (ab S).trz p q z.x z.y:=by intro p q;unfold Dr.trz tr6;grind
  unfold lh
  rcases IA (g.ne hj) with h|h
  ·rw[Ia (by lia),IG (by lia)]
   have o:=ord hj h
   simp only[trz]
   unfold Dr.cz
   rw[Ip]
   simp only[Jq,Hu,Hv]
   simp only[ab]at *
   lia
  ·rw[HX (by lia),Jh (by lia)]
   have o:=ord (g.symm hj) h
   simp only[trz]
   rw[trs x.2 x.1]
   unfold Dr.cz
   rw[Ip]
   simp only[Jq,Hu,Hv]
   simp only[ab]at *
   lia
 rw[List.filter_congr this]
theorem one_pane {S:Plan}(k:cp S)(hw:0<S.w)(hh:0<S.h){e e':az}(he:(ab S).J e.1 e.2)(he':(ab S).J e'.1 e'.2)
  (a:0<twiceArea S (rnd S e)) (a':0<twiceArea S (rnd S e')) {z:Pt} (i:insideOf S (rnd S e) z=true) (i':insideOf S (rnd S e') z=true)
  (hrot:∀{x y:az},(ab S).J x.1 x.2->y∈orb S x->twiceArea S (rnd S y)=twiceArea S (rnd S x)):e'∈orb S e:=by
 have kk:=k.toKept
 have g:=bw S kk
 have r:=cI kk
 obtain⟨o,ho,hoz,hoa⟩:=outer kk (jv kk k.r6) hw hh
 rw[lT kk he]at i
 rw[lT kk he']at i'
 have oE:∀{e:az},(ab S).J e.1 e.2->∀x∈orb S e,(ab S).J x.1 x.2:=λh x hx=>fu kk h hx
 have oC:∀{e:az},(ab S).J e.1 e.2->c8 (orb S e):=by
  intro e h
  have p:=dt kk h
  rw[p.orb]
  exact gg _ _ (by rw[Jy,p.back];rfl)
 have sees:∀{e:az},(ab S).J e.1 e.2->0<twiceArea S (rnd S e)->∀{x:az},(ab S).J x.1 x.2->(ab S).om (orb S e) x.1 x.2=decide (x∈orb S e):=by
  intro e h ha x hx
  have p:=dt kk h
  have hno:o∉orb S e:=by
   intro hm
   have:=hrot h hm
   lia
  have hz:=hoz (orb S e) (oE h) (oC h)
  rw[p.orb]at hno hz ⊢
  exact p9 g r h p.pos p.back p.dist k.conn ho hz hno hx
 rcases B4 g S.lines (by
   intro p q hpq hlt
   rcases hpq with h|h
   ·exact h
   ·have:=kk.line h;simp only at this;lia) (by
   intro l hl
   have:=kk.line hl
   exact⟨Jr hl,this.1⟩) z.x z.y with h|⟨u,w,huw,h⟩
 ·rw[h _ (oE he)]at i;cases i
 ·rw[h _ (oE he) (oC he)]at i
  rw[h _ (oE he') (oC he')]at i'
  have s1:=sees he a (x:=(u,w)) huw
  have s2:=sees he' a' (x:=(u,w)) huw
  simp only at s1 s2
  rw[i]at s1
  rw[i']at s2
  have m1:=Hk s1.symm
  have m2:=Hk s2.symm
  exact eV kk he m1 (dz kk he' m2)
def sm (l:List Int):Int:=l.foldr (λ(a b:Int)=>a+b) 0
theorem b5 (a:Int)(l:List Int):sm (a :: l)=a+sm l:=rfl
theorem jI:∀l m:List Int,sm (l++m)=sm l+sm m
 |[],m=>by show sm m=0+sm m;lia
 |a :: l,m=>by
  show a+sm (l++m)=a+sm l+sm m
  rw[jI l m];lia
theorem vw {l m:List Int}(h:l.Perm m):sm l=sm m:=by
 induction h with
 |nil=>rfl
 |cons x _ ih=>rw[b5,b5,ih]
 |swap x y l=>rw[b5,b5,b5,b5];lia
 |trans _ _ h1 h2=>rw[h1,h2]
theorem iX {α:Type}(f g:α->Int):∀l:List α,sm (l.map λx=>f x+g x)=sm (l.map f)+sm (l.map g)
 |[]=>rfl
 |a :: l=>by
  simp only[HN,b5]
  rw[iX f g l];lia
theorem eY {α:Type}(c:Int)(f:α->Int):∀l:List α,sm (l.map λx=>c*f x)=c*sm (l.map f)
 |[]=>by simp[sm]
 |a :: l=>by
  simp only[HN,b5]
  rw[eY c f l,Int.mul_add]
theorem du {α:Type}{f g:α->Int}{l:List α}(h:∀x∈l,f x=g x):sm (l.map f)=sm (l.map g):=by
 rw[II h]
theorem rB {α:Type}:∀l:List α,sm (l.map λ_=>0)=0
 |[]=>rfl
 |a :: l=>by
  simp only[HN,b5]
  rw[rB l];rfl
theorem rM {α β:Type}(f:α->β->Int)(m:List β):∀l:List α,sm (l.map λx=>sm (m.map λy=>f x y))=sm (m.map λy=>sm (l.map λx=>f x y))
 |[]=>by
  show(0:Int)=sm (m.map λ_=>0)
  rw[rB]
 |a :: l=>by
  simp only[HN,b5]
  rw[rM f m l,<-iX]
theorem pL:∀{l:List Int},(∀x∈l,0<=x)->0<=sm l
 |[],_=>Int.le_refl 0
 |a :: l,h=>by
  have h1:=h a HD
  have h2:=pL (l:=l) λx hx=>h x (Ho _ hx)
  rw[b5];lia
theorem Cy {l:List Int}(h:∀x∈l,0<=x){y:Int}(hy:y∈l)(hp:0<y):0<sm l:=by
 induction l with
 |nil=>cases hy
 |cons a l ih =>
  rw[b5]
  have h1:=h a HD
  have h2:=pL (l:=l) λx hx=>h x (Ho _ hx)
  rcases Hq.1 hy with e|e
  ·subst e;lia
  ·have:=ih (λx hx=>h x (Ho _ hx)) e
   lia
def cr2 (S:Plan)(x:az):Int:=((S.pt x.1).x:Int)*((S.pt x.2).y:Int)-((S.pt x.2).x:Int)*((S.pt x.1).y:Int)
theorem nG {S:Plan}(k:Kept S){e:az}(he:(ab S).J e.1 e.2):twiceArea S (rnd S e)=sm ((orb S e).map (cr2 S)):=by
 unfold twiceArea
 rw[show(rnd S e).zip ((rnd S e).drop 1++(rnd S e).take 1)=prs (rnd S e) from rfl,eK k he]
 rfl
theorem AZ {S:Plan}(k:Kept S){e x:az}(he:(ab S).J e.1 e.2)(hx:x∈orb S e):∃a b,orb S e=a++b/\orb S x=b++a:=by
 have p:=dt k he
 obtain⟨j,hj⟩:=(eg k he).1 hx
 rw[rh p.back p.pos]at hj
 have hjl:j % (rnd S e).length<(rnd S e).length:=Nat.mod_lt _ p.pos
 generalize j % (rnd S e).length=i at hj hjl
 have hl:=oa k he hx
 obtain⟨m,hm⟩:∃m,(rnd S e).length=i+m:=⟨(rnd S e).length-i,by lia⟩
 refine⟨seg (aj S) e 0 i,seg (aj S) e i m,?_,?_⟩
 ·rw[p.orb,hm,eX,Jy]
 ·unfold orb
  rw[hl,hj,lr,hm]
  have:i+m=m+i:=by lia
  rw[this,Nat.add_zero,eX]
  congr 1
  have h2:=n9 p.back i 0
  rw[Nat.add_zero,hm]at h2;exact h2
theorem sV {S:Plan}(k:Kept S){x y:az}(hx:(ab S).J x.1 x.2)(hy:y∈orb S x):twiceArea S (rnd S y)=twiceArea S (rnd S x):=by
 obtain⟨a,b,h1,h2⟩:=AZ k hx hy
 rw[nG k hx,nG k (fu k hx hy),h1,h2,HI,HI,jI,jI,Int.add_comm]
variable  {d:Dr}
def Dr.ahead (d:Dr)(c:Int)(u w p q:Nat):Int:=d.den u w*d.num 0 c p q-d.den p q*d.num 0 c u w
theorem vL (g:eZ d){u w p q:Nat}{c:Int}(huw:d.J u w)(hpq:d.J p q)(hu:d.Y u<=c)(hw:c<d.Y w)(hp:d.Y p<=c)(hq:c<d.Y q)(hne:¬(p=u/\q=w)) :
  (0<d.ahead c u w p q↔if p=u then d.tr u w q<0 else if d.Y p<=d.Y u then 0<d.tr p q u else d.tr u w p<0)/\d.ahead c u w p q≠0:=by
 have hun:=g.lt huw
 have hwn:=g.lt (g.symm huw)
 have hpn:=g.lt hpq
 have hqn:=g.lt (g.symm hpq)
 have iA:=idA (d.X u) (d.Y u) (d.X w) (d.Y w) (d.X p) (d.Y p) (d.X q) (d.Y q)
 have iB:=idB (d.X u) (d.Y u) (d.X w) (d.Y w) (d.X p) (d.Y p) (d.X q) (d.Y q)
 have iD:=Gd (d.X u) (d.Y u) (d.X w) (d.Y w) (d.X p) (d.Y p) (d.X q) (d.Y q)
 have iN:=zN (d.X u) (d.Y u) (d.X w) (d.Y w) (d.X p) (d.Y p) (d.X q) (d.Y q) 0 c
 change -(d.Y q-d.Y p)*d.tr u w p=(d.Y w-d.Y u)*d.tr p q u+(d.tr p q w-d.tr p q u)*(d.Y p-d.Y u) at iA
 change -(d.Y q-d.Y p)*d.tr u w q=(d.Y w-d.Y u)*d.tr p q u+(d.tr p q w-d.tr p q u)*(d.Y q-d.Y u) at iB
 change (d.Y w-d.Y u)*d.tr p q w=(d.Y w-d.Y u)*d.tr p q u+(d.tr p q w-d.tr p q u)*(d.Y w-d.Y u) at iD
 change d.ahead c u w p q=2*((d.Y w-d.Y u)*d.tr p q u)+(d.tr p q w-d.tr p q u)*(2*c+1-2*d.Y u) at iN
 rw[iN]
 have a0:0<d.Y w-d.Y u:=by lia
 have b0:0<d.Y q-d.Y p:=by lia
 have nb:∀x:Int,-(d.Y q-d.Y p)*x=(d.Y q-d.Y p)*(-x):=by intro x;grind
 rw[nb]at iA iB
 generalize hv0:(d.Y w-d.Y u)*d.tr p q u=v0 at *
 generalize hK:d.tr p q w-d.tr p q u=K at *
 have fin:∀{P:Prop} {D:Int},(P->0<D)->(¬P->D<0)->((0<D↔P)/\D≠0):=by
  intro P D h1 h2
  by_cases hP:P
  ·have:=h1 hP
   exact⟨⟨λ_=>hP,λ_=>this⟩,by lia⟩
  ·have:=h2 hP
   exact⟨⟨λh=>by lia,λh=>absurd h hP⟩,by lia⟩
 apply fin
 ·intro hc
  by_cases hpu:p=u
  ·subst hpu
   rw[Hz rfl]at hc
   have hC:d.tr p q p=0:=kD d p q
   have v00:v0=0:=by rw[<-hv0,hC];simp
   have e1:0<K*(d.Y q-d.Y p):=by
    have:0<(d.Y q-d.Y p)*(- d.tr p w q):=HH b0 (by lia)
    lia
   have e2:0<K:=by
    rw[Jz]at e1;exact(bo b0).1 e1
   have:0<K*(2*c+1-2*d.Y p):=HH e2 (by lia)
   lia
  ·rw[Hs hpu]at hc
   by_cases hpy:d.Y p<=d.Y u
   ·rw[Hz hpy]at hc
    have up:∃m,c<m/\0<=v0+K*(m-d.Y u):=by
     by_cases hqw:q=w
     ·subst hqw
      have hD:d.tr p q q=0:=cV d p q
      rw[hD]at iD
      simp at iD
      exact⟨_,hw,by lia⟩
     ·by_cases hh:d.Y q<=d.Y w
      ·have l:=L1 g huw hpq hpy (by lia) hh hpu hqw
       exact⟨d.Y q,hq,by rw[<-iB];exact Ht (by lia) (by lia)⟩
      ·have l:=L2 g huw hpq hpy (by lia) (by lia) hpu hqw
       exact⟨d.Y w,hw,by rw[<-iD];exact Ht (by lia) (by lia)⟩
    obtain⟨m,m1,m2⟩:=up
    have v0p:0<v0:=by rw[<-hv0];exact HH a0 hc
    exact lM (d.Y u) K (d.Y u) c m v0 (by simpa using v0p) m2 hu m1
   ·rw[Hs hpy]at hc
    have up:∃m,c<m/\0<=v0+K*(m-d.Y u):=by
     by_cases hqw:q=w
     ·subst hqw
      have hD:d.tr p q q=0:=cV d p q
      rw[hD]at iD
      simp at iD
      exact⟨_,hw,by lia⟩
     ·by_cases hh:d.Y q<=d.Y w
      ·have l:=L2 g hpq huw (by lia) (by lia) hh (Ie hpu) (Ie hqw)
       exact⟨d.Y q,hq,by rw[<-iB];exact Ht (by lia) (by lia)⟩
      ·have l:=L1 g hpq huw (by lia) (by lia) (by lia) (Ie hpu) (Ie hqw)
       exact⟨d.Y w,hw,by rw[<-iD];exact Ht (by lia) (by lia)⟩
    obtain⟨m,m1,m2⟩:=up
    have v0p:0<v0+K*(d.Y p-d.Y u):=by rw[<-iA];exact HH b0 (by lia)
    exact lM (d.Y u) K (d.Y p) c m v0 v0p m2 hp m1
 ·intro hc
  by_cases hpu:p=u
  ·subst hpu
   rw[Hz rfl]at hc
   have hqw:q≠w:=λe=>hne ⟨rfl,e⟩
   have hC:d.tr p q p=0:=kD d p q
   have v00:v0=0:=by rw[<-hv0,hC];simp
   have nB:d.tr p w q≠0:=by
    by_cases hh:d.Y q<=d.Y w
    ·exact nz g huw hqn (by lia) (by lia) hh (by intro e;subst e;lia) hqw
    ·have:=nz g hpq hwn (by lia) (by lia) (by lia) (by intro e;subst e;lia) (Ie hqw)
     have:=dw d p q w
     lia
   have e1:K*(d.Y q-d.Y p)<0:=by
    have:(d.Y q-d.Y p)*(- d.tr p w q)<0:=aD _ _ b0 (by lia)
    lia
   have e2:K<0:=by
    rw[Jz]at e1;exact(eF b0).1 e1
   have:0<(-K)*(2*c+1-2*d.Y p):=HH (by lia) (by lia)
   have e:(-K)*(2*c+1-2*d.Y p)=- (K*(2*c+1-2*d.Y p)):=by grind
   lia
  ·rw[Hs hpu]at hc
   by_cases hpy:d.Y p<=d.Y u
   ·rw[Hz hpy]at hc
    have nC:d.tr p q u≠0:=nz g hpq hun (by lia) hpy (by lia) (Ie hpu) (by intro e;subst e;lia)
    have hC:d.tr p q u<0:=by lia
    have up:∃m,c<m/\v0+K*(m-d.Y u)<=0:=by
     by_cases hqw:q=w
     ·subst hqw
      have hD:d.tr p q q=0:=cV d p q
      rw[hD]at iD
      simp at iD
      exact⟨_,hw,by lia⟩
     ·by_cases hh:d.Y q<=d.Y w
      ·have l:=L1 g huw hpq hpy (by lia) hh hpu hqw
       exact⟨d.Y q,hq,by
        rw[<-iB]
        have:=aD (d.Y q-d.Y p) (- d.tr u w q) b0 (by lia)
        lia⟩
      ·have l:=L2 g huw hpq hpy (by lia) (by lia) hpu hqw
       exact⟨d.Y w,hw,by
        rw[<-iD]
        have:=aD (d.Y w-d.Y u) (d.tr p q w) a0 (by lia)
        lia⟩
    obtain⟨m,m1,m2⟩:=up
    have v0n:v0<0:=by rw[<-hv0];exact aD _ _ a0 hC
    exact jF (d.Y u) K (d.Y u) c m v0 (by simpa using v0n) m2 hu m1
   ·rw[Hs hpy]at hc
    have nA:d.tr u w p≠0:=nz g huw hpn (by lia) (by lia) (by lia) hpu (by intro e;subst e;lia)
    have hA':0<d.tr u w p:=by lia
    have up:∃m,c<m/\v0+K*(m-d.Y u)<=0:=by
     by_cases hqw:q=w
     ·subst hqw
      have hD:d.tr p q q=0:=cV d p q
      rw[hD]at iD
      simp at iD
      exact⟨_,hw,by lia⟩
     ·by_cases hh:d.Y q<=d.Y w
      ·have l:=L2 g hpq huw (by lia) (by lia) hh (Ie hpu) (Ie hqw)
       exact⟨d.Y q,hq,by
        rw[<-iB]
        have:=aD (d.Y q-d.Y p) (- d.tr u w q) b0 (by lia)
        lia⟩
      ·have l:=L1 g hpq huw (by lia) (by lia) (by lia) (Ie hpu) (Ie hqw)
       exact⟨d.Y w,hw,by
        rw[<-iD]
        have:=aD (d.Y w-d.Y u) (d.tr p q w) a0 (by lia)
        lia⟩
    obtain⟨m,m1,m2⟩:=up
    have v0n:v0+K*(d.Y p-d.Y u)<0:=by rw[<-iA];exact aD _ _ b0 (by lia)
    exact jF (d.Y u) K (d.Y p) c m v0 v0n m2 hp m1
def Dr.sl (d:Dr)(c:Int)(u w p q:Nat):Bool:=decide (d.Y p<=c/\c<d.Y q/\((p=u/\q=w)\/0<d.ahead c u w p q))
theorem CY (g:eZ d){u w p q:Nat}{c:Int}(huw:d.J u w)(hpq:d.J p q)(h1:u<w)(h2:p<q)(hu:d.Y u<=c)(hw:c<d.Y w) :
  (d.sl c u w p q^^d.Om u w p q)=(d.Pz c u w p^^d.Pz c u w q):=by
 have hpn:=g.lt hpq
 have hqn:=g.lt (g.symm hpq)
 have hwn:=g.lt (g.symm huw)
 have hun:=g.lt huw
 have hy:d.Y u<d.Y w:=by lia
 rw[xT g huw hpq h1 h2 hy]
 have hpqy:d.Y p<=d.Y q:=by rcases g.ord h2 hqn with h|h<;>lia
 by_cases he:p=u/\q=w
 ·obtain⟨rfl,rfl⟩:=he
  have e1:d.sl c p q p q=true:=by unfold Dr.sl;exact dqt ⟨hu,hw,Jr ⟨rfl,rfl⟩⟩
  have e2:d.Pz c p q p=false:=by unfold Dr.Pz;exact dqf (by lia)
  have e3:d.Pz c p q q=false:=by unfold Dr.Pz;exact dqf (by lia)
  rw[e1,e2,e3];simp
 have pz1:∀v,¬(d.Y u<d.Y v/\d.Y v<=c)->d.Pz c u w v=false:=by
  intro v h;unfold Dr.Pz;exact dqf (λx=>h ⟨x.1,x.2.1⟩)
 have pz2:∀v,d.Y u<d.Y v->d.Y v<=c->d.Pz c u w v=decide (d.tr u w v<0):=by
  intro v h h';unfold Dr.Pz;simp[h,h']
 by_cases hcz:d.Y p<=c/\c<d.Y q
 ·obtain⟨c1,c2⟩:=hcz
  have czE:d.sl c u w p q=decide (0<d.ahead c u w p q):=by unfold Dr.sl;simp[c1,c2,he]
  have zo:=(vL g huw hpq hu hw c1 c2 he).1
  rw[pz1 q (by lia),Jl,czE]
  by_cases hpu:p=u
  ·subst hpu
   rw[Hz rfl]at zo ⊢
   rw[pz1 p (by lia)]
   have hqw:q≠w:=λe=>he ⟨rfl,e⟩
   have:(q=w\/(d.Y p<d.Y q/\d.tr p w q<0))↔0<d.ahead c p w p q:=by
    rw[zo];constructor
    ·rintro(h|h)
     ·exact absurd h hqw
     ·exact h.2
    ·intro h;exact IP ⟨by lia,h⟩
   simp only[this,KI]
  ·rw[Hs hpu]at zo ⊢
   by_cases hpy:d.Y p<=d.Y u
   ·rw[Hz hpy]at zo
    rw[pz1 p (by lia)]
    have:(d.Y p<=d.Y u/\d.Y u<d.Y q/\0<d.tr p q u)↔0<d.ahead c u w p q:=by
     rw[zo];constructor
     ·exact λh=>h.2.2
     ·exact λh=>⟨hpy,by lia,h⟩
    simp only[this,KI]
   ·rw[Hs hpy]at zo
    rw[pz2 p (by lia) c1]
    have:¬(d.Y p<=d.Y u/\d.Y u<d.Y q/\0<d.tr p q u):=λh=>hpy h.1
    rw[dqf this,Jl,HK.2 zo]
 ·have czE:d.sl c u w p q=false:=by unfold Dr.sl;exact dqf (λh=>hcz ⟨h.1,h.2.1⟩)
  rw[czE,IQ]
  by_cases c1:c<d.Y p
  ·rw[pz1 p (by lia),pz1 q (by lia)]
   by_cases hpu:p=u
   ·subst hpu;lia
   ·rw[Hs hpu]
    have:¬(d.Y p<=d.Y u/\d.Y u<d.Y q/\0<d.tr p q u):=by lia
    rw[dqf this];rfl
  ·have c2:d.Y q<=c:=by lia
   by_cases hpu:p=u
   ·subst hpu
    rw[Hz rfl,pz1 p (by lia),IQ]
    have hqw:q≠w:=λe=>he ⟨rfl,e⟩
    unfold Dr.Pz
    rw[HK]
    constructor
    ·rintro(h|h)
     ·exact absurd h hqw
     ·exact⟨h.1,c2,h.2⟩
    ·intro h;exact IP ⟨h.1,h.2.2⟩
   ·rw[Hs hpu]
    have hqw:q≠w:=by intro e;subst e;lia
    have hpw:p≠w:=by intro e;subst e;lia
    by_cases c3:d.Y p<=d.Y u
    ·rw[pz1 p (by lia),IQ]
     unfold Dr.Pz
     rw[HK]
     by_cases c4:d.Y u<d.Y q
     ·have l:=L1 g huw hpq c3 c4 (by lia) hpu hqw
      constructor
      ·intro h;exact⟨c4,c2,by lia⟩
      ·intro h;exact⟨c3,c4,by lia⟩
     ·constructor
      ·intro h;exact absurd h.2.1 c4
      ·intro h;exact absurd h.1 c4
    ·have:¬(d.Y p<=d.Y u/\d.Y u<d.Y q/\0<d.tr p q u):=λh=>c3 h.1
     rw[dqf this,pz2 p (by lia) (by lia),pz2 q (by lia) c2]
     have:d.tr u w p<0↔d.tr u w q<0:=by
      rcases g.ord h2 hqn with hf|hf
      ·have l:=L2 g hpq huw (by lia) hf (by lia) (Ie hpu) (Ie hqw)
       lia
      ·have mv:d.tr u w q<d.tr u w p:=by
        have:d.tr u w p-d.tr u w q=(d.Y w-d.Y u)*(d.X q-d.X p):=by
         have:=hf.1;unfold Dr.tr tr6;grind
        have:0<(d.Y w-d.Y u)*(d.X q-d.X p):=HH (by lia) (by lia)
        lia
       constructor
       ·intro h;lia
       ·intro h
        apply bcn;intro hn
        have a2:=nz g huw hpn hy (by lia) (by lia) hpu hpw
        refine g.nocross huw hpq ⟨aD _ _ (by lia) h,?_⟩
        rw[eG d p q u hf.1,eG d p q w hf.1]
        exact cH _ _ (aD _ _ (by lia) (by lia)) (HH (by lia) (by lia))
     simp only[this,KI]
theorem CS (g:eZ d){u w:Nat}{c:Int}(huw:d.J u w)(hlt:u<w)(hu:d.Y u<=c)(hw:c<d.Y w){E:List az}(hE:∀e∈E,d.J e.1 e.2)(hc:c8 E) :
  xs (lh (d.sl c u w)) E=d.om E u w:=by
 have h:xs (λe=>lh (d.sl c u w) e^^d.Om u w (min e.1 e.2) (max e.1 e.2)) E=false:=by
  rw[<-hc (d.Pz c u w)]
  apply bE
  intro e he
  have ze:∀p q,d.J p q->p<q->(d.sl c u w p q^^d.Om u w p q)=(d.Pz c u w p^^d.Pz c u w q):=λp q hpq hlt'=>CY g huw hpq hlt hlt' hu hw
  have hj:=hE e he
  unfold lh
  rcases IA (g.ne hj) with h|h
  ·rw[Ia (by lia),IG (by lia)];exact ze _ _ hj h
  ·rw[HX (by lia),Jh (by lia),Ks (d.Pz c u w e.1)];exact ze _ _ (g.symm hj) h
 rw[iU]at h
 unfold Dr.om
 revert h
 generalize xs (lh (d.sl c u w)) E=a;generalize xs _ E=b
 cases a<;>cases b<;>simp
theorem ia (L:List az):xs (λ_=>false) L=false:=by
 induction L with
 |nil=>rfl
 |cons a r ih=>rw[xs,ih];rfl
theorem eB (f:az->Bool):∀l m:List az,xs f (l++m)=(xs f l^^xs f m)
 |[],m=>by simp[xs]
 |a :: l,m=>by
  rw[Lv,xs,xs,eB f l m,Bool.xor_assoc]
theorem vW {f:az->Bool}{l m:List az}(h:l.Perm m):xs f l=xs f m:=by
 induction h with
 |nil=>rfl
 |cons x _ ih=>rw[xs,xs,ih]
 |swap x y l =>
  rw[xs,xs,xs,xs]
  cases f x<;>cases f y<;>cases xs f l<;>rfl
 |trans _ _ h1 h2=>rw[h1,h2]
theorem vJ (F:az->Bool)(G:az->az->Bool)(E:List az):∀L:List az,xs (λl=>F l&&xs (λe=>G l e) E) L=xs (λe=>xs (λl=>F l&&G l e) L) E
 |[]=>by
  show false=xs (λ_=>false) E
  rw[ia]
 |a :: L=>by
  rw[xs,vJ F G E L]
  have:xs (λe=>xs (λl=>F l&&G l e) (a :: L)) E=xs (λe=>(F a&&G a e)^^xs (λl=>F l&&G l e) L) E:=rfl
  rw[this,iU]
  congr 1
  cases F a with
  |true=>simp
  |false=>simp[ia]
theorem qd (F:az->Bool)(a:az):∀{L:List az},L.Nodup->a∈L->xs (λl=>F l&&decide (l=a)) L=F a
 |[],_,h=>by cases h
 |b :: L,hn,h=>by
  rw[Ja]at hn
  rw[xs]
  by_cases e:b=a
  ·subst e
   have:xs (λl=>F l&&decide (l=b)) L=xs (λ_=>false) L:=by
    apply bE
    intro l hl
    have:¬l=b:=λq=>hn.1 (q▸hl)
    simp[this]
   rw[this,ia]
   simp
  ·have h2:a∈L:=(Hq.1 h).resolve_left (λq=>e q.symm)
   rw[qd F a hn.2 h2]
   simp[e]
structure Lns (L E:List az):Prop where
 nd:L.Nodup
 lt:∀l∈L,l.1<l.2
 has:∀e∈E,(min e.1 e.2,max e.1 e.2)∈L
 ne:∀e∈E,e.1≠e.2
theorem so {L E:List az}(h:Lns L E)(F:Nat->Nat->Bool):xs (lh F) E=xs (λl=>F l.1 l.2&&ce E l.1 l.2) L:=by
 unfold ce
 rw[vJ (λl=>F l.1 l.2) (λl e=>decide ((e.1=l.1/\e.2=l.2)\/(e.1=l.2/\e.2=l.1))) E L]
 apply bE
 intro e he
 have hh:=h.has e he
 have hn:=h.ne e he
 have:xs (λl=>F l.1 l.2&&decide ((e.1=l.1/\e.2=l.2)\/(e.1=l.2/\e.2=l.1))) L=xs (λl=>F l.1 l.2&&decide (l=(min e.1 e.2,max e.1 e.2))) L:=by
  apply bE
  intro l hl
  have:=h.lt l hl
  congr 1
  rw[HK]
  obtain⟨a,b⟩:=l
  simp only[Kt]at *
  lia
 rw[this,qd (λl=>F l.1 l.2) _ h.nd hh]
 rfl
def bi (b:Bool):Int:=if b=true then 1 else 0
theorem CG:bi true=1:=rfl
theorem yT:bi false=0:=rfl
theorem lu (F:az->Int)(a:az):∀{L:List az},L.Nodup->sm (L.map λl=>F l*bi (decide (l=a)))=if a∈L then F a else 0
 |[],_=>by simp[sm]
 |b :: L,hn=>by
  rw[Ja]at hn
  rw[HN,b5,lu F a hn.2]
  by_cases e:b=a
  ·subst e
   rw[Hs hn.1,Hz HD,dqt rfl,CG]
   lia
  ·rw[dqf e,yT]
   by_cases h2:a∈L
   ·rw[Hz h2,Hz (Ho _ h2)];lia
   ·rw[Hs h2,Hs (λq=>h2 ((Hq.1 q).resolve_left (λz=>e z.symm)))];lia
theorem xR {L E:List az}(h:Lns L E)(hE:E.Nodup)(F:Nat->Nat->Int)(hF:∀a b,F b a=- F a b) :
  sm (E.map λe=>F e.1 e.2)=sm (L.map λl=>F l.1 l.2*(bi (decide (l∈E))-bi (decide ((l.2,l.1)∈E)))):=by
 have e1:sm (E.map λe=>F e.1 e.2)=sm (E.map λe=>sm (L.map λl=>F l.1 l.2*(bi (decide (e=l))-bi (decide (e=(l.2,l.1)))))):=by
  apply du
  intro e he
  have hh:=h.has e he
  have hn:=h.ne e he
  have:sm (L.map λl=>F l.1 l.2*(bi (decide (e=l))-bi (decide (e=(l.2,l.1)))))=sm (L.map λl=>F e.1 e.2*bi (decide (l=(min e.1 e.2,max e.1 e.2)))):=by
   apply du
   intro l hl
   have:=h.lt l hl
   obtain⟨a,b⟩:=l
   obtain⟨p,q⟩:=e
   simp only[Kt]at *
   by_cases c1:p=a/\q=b
   ·obtain⟨rfl,rfl⟩:=c1
    have n1:¬(p=q/\q=p):=by lia
    have n2:p=min p q/\q=max p q:=by lia
    rw[dqt ⟨rfl,rfl⟩,dqf n1,dqt n2,CG,yT]
    lia
   ·by_cases c2:p=b/\q=a
    ·obtain⟨rfl,rfl⟩:=c2
     have n2:q=min p q/\p=max p q:=by lia
     rw[dqf c1,dqt ⟨rfl,rfl⟩,dqt n2,CG,yT,hF]
     lia
    ·have n2:¬(a=min p q/\b=max p q):=by lia
     rw[dqf c1,dqf c2,dqf n2,yT]
     simp
  rw[this,lu (λ_=>F e.1 e.2) _ h.nd,Hz hh]
 rw[e1,rM]
 apply du
 intro l hl
 have e2:sm (E.map λe=>F l.1 l.2*(bi (decide (e=l))-bi (decide (e=(l.2,l.1)))))=F l.1 l.2*sm (E.map λe=>bi (decide (e=l))-bi (decide (e=(l.2,l.1)))):=eY _ _ _
 rw[e2]
 congr 1
 have cnt:∀a:az,sm (E.map λe=>bi (decide (e=a)))=bi (decide (a∈E)):=by
  intro a
  have:=lu (λ_=>1) a hE
  simp only[Int.one_mul]at this
  rw[this]
  by_cases q:a∈E
  ·rw[Hz q,dqt q];rfl
  ·rw[Hs q,dqf q];rfl
 have e3:sm (E.map λe=>bi (decide (e=l))-bi (decide (e=(l.2,l.1))))=sm (E.map λe=>bi (decide (e=l))+(-1)*bi (decide (e=(l.2,l.1)))):=by
  apply du
  intro e _
  lia
 rw[e3,iX,eY,cnt,cnt]
 lia
theorem Ex {V:az->Int}{up mm:az->Bool}:∀(L:List az) (p:Bool),L.Pairwise (λa b=>V b<V a)->(∀a l b,L=a++l :: b->up l=(p^^(xs mm a^^mm l)))->(p^^xs mm L)=false ->
  ∀B,(∀l∈L,V l<=B)->- (B*bi p)<=sm (L.map λl=>V l*(bi (up l)-bi (up l^^mm l)))/\(p=false->(∃l∈L,up l=true)->0<sm (L.map λl=>V l*(bi (up l)-bi (up l^^mm l))))
 |[],p,_,_,hp,B,_=>by
  have:p=false:=by simpa [xs] using hp
  subst this
  refine⟨by simp[bi,sm],λ_ h=>?_⟩
  obtain⟨l,hl,_⟩:=h
  cases hl
 |l :: r,p,hw,hup,hp,B,hB=>by
  rw[Iy]at hw
  have u0:=hup [] l r rfl
  simp only[xs,IQ]at u0
  have ih:=Ex (V:=V) (up:=up) (mm:=mm) r (p^^mm l) hw.2 (λa x b e=>by
   have:=hup (l :: a) x b (by rw[e];rfl)
   rw[this,xs]
   cases p<;>cases mm l<;>cases xs mm a<;>cases mm x<;>rfl) (by
   rw[xs]at hp
   rw[<-hp]
   cases p<;>cases mm l<;>cases xs mm r<;>rfl) (V l-1) (λx hx=>by
   have:=hw.1 x hx
   lia)
  have hl:=hB l HD
  rw[HN,b5,u0]
  have e0:((p^^mm l)^^mm l)=p:=by cases p<;>cases mm l<;>rfl
  rw[e0]
  obtain⟨i1,i2⟩:=ih
  generalize sm (r.map λl=>V l*(bi (up l)-bi (up l^^mm l)))=s at *
  constructor
  ·clear i2 u0 e0 hup hp
   generalize mm l=m at *
   cases p<;>cases m<;>simp[bi]at i1 ⊢<;>lia
  ·intro hpf hex
   subst hpf
   cases hm:mm l with
   |true =>
    rw[hm]at i1
    simp[bi]at i1 ⊢
    lia
   |false =>
    rw[hm]at i1 i2 u0
    obtain⟨x,hx,hxu⟩:=hex
    rcases Hq.1 hx with e|e
    ·subst e
     rw[u0]at hxu
     simp at hxu
    ·have:=i2 rfl ⟨x,e,hxu⟩
     simp[bi]
     lia
theorem EF (G:Nat->Int)(a b:Nat)(hab:a<=b):∀H:Nat,sm ((HS H).map λc=>if a<=c/\c<b then G (c+1)-G c else 0)=G (min H b)-G (min H a)
 |0=>by simp[sm]
 |H+1=>by
  rw[Ki,HI,jI,EF G a b hab H]
  simp only[HN,LB,b5]
  show _+(_+0)=_
  by_cases c:a<=H/\H<b
  ·rw[Hz c,Ia (by lia:H<=b),HX (by lia:a<=H),Ia (by lia:H+1<=b),HX (by lia:a<=H+1)]
   lia
  ·rw[Hs c]
   by_cases c2:H<a
   ·rw[Ia (by lia:H<=b),Ia (by lia:H<=a),Ia (by lia:H+1<=b),Ia (by lia:H+1<=a)]
    lia
   ·rw[HX (by lia:b<=H),HX (by lia:a<=H),HX (by lia:b<=H+1),HX (by lia:a<=H+1)]
    lia
theorem Kept.lines_nodup {S:Plan}(k:Kept S):S.lines.Nodup:=by
 rw[List.Nodup,HQ]
 intro i j hi hj hij e
 have:=k.lines_lt i j hij hj
 rw[e,gT]at this
 lia
theorem xZ {S:Plan}(k:Kept S){E:List az}(hE:∀e∈E,(ab S).J e.1 e.2):Lns S.lines E:=by
 have g:=bw S k
 refine⟨k.lines_nodup,λl hl=>(k.line hl).1,λe he=>?_,λe he=>g.ne (hE e he)⟩
 rcases hE e he with h|h
 ·have:=(k.line h).1
  simp only at this
  rw[Ia (by lia),IG (by lia)]
  exact h
 ·have:=(k.line h).1
  simp only at this
  rw[HX (by lia),Jh (by lia)]
  exact h
def iy (d:Dr):List az->Int
 |[]=>1
 |l :: r=>(if d.Y l.1<d.Y l.2 then 2*d.den l.1 l.2 else 1)*iy d r
theorem oq (d:Dr):∀L:List az,0<iy d L
 |[]=>by show(0:Int)<1;decide
 |l :: r=>by
  unfold iy
  refine HH ?_ (oq d r)
  by_cases h:d.Y l.1<d.Y l.2
  ·rw[Hz h];unfold Dr.den;lia
  ·rw[Hs h];decide
theorem mY (d:Dr){l:az}(h:d.Y l.1<d.Y l.2):∀{L:List az},l∈L->(2*d.den l.1 l.2) ∣ iy d L
 |[],hl=>by cases hl
 |a :: r,hl=>by
  unfold iy
  rcases Hq.1 hl with e|e
  ·subst e
   rw[Hz h]
   exact⟨_,rfl⟩
  ·obtain⟨q,hq⟩:=mY d h e
   exact⟨(if d.Y a.1<d.Y a.2 then 2*d.den a.1 a.2 else 1)*q,by rw[hq];grind⟩
def Vs (d:Dr)(L:List az)(c:Int)(l:az):Int:=iy d L / (2*d.den l.1 l.2)*d.num 0 c l.1 l.2
theorem zu (d:Dr){L:List az}{l:az}(hl:l∈L)(h:d.Y l.1<d.Y l.2)(c:Int):Vs d L c l*(2*d.den l.1 l.2)=iy d L*d.num 0 c l.1 l.2:=by
 have q:=Int.ediv_mul_cancel (mY d h hl)
 unfold Vs
 generalize iy d L / (2*d.den l.1 l.2)=m at q ⊢
 rw[<-q]
 grind
theorem vn (d:Dr){L:List az}{a b:az}(ha:a∈L)(hb:b∈L)(h1:d.Y a.1<d.Y a.2)(h2:d.Y b.1<d.Y b.2)(c:Int):0<d.ahead c a.1 a.2 b.1 b.2↔Vs d L c a<Vs d L c b:=by
 have e1:=zu d ha h1 c
 have e2:=zu d hb h2 c
 have dA:0<d.den a.1 a.2:=by unfold Dr.den;lia
 have dB:0<d.den b.1 b.2:=by unfold Dr.den;lia
 have hM:=oq d L
 have e3:(Vs d L c b-Vs d L c a)*(2*(d.den a.1 a.2*d.den b.1 b.2))=iy d L*d.ahead c a.1 a.2 b.1 b.2:=by
  unfold Dr.ahead
  have:(Vs d L c b-Vs d L c a)*(2*(d.den a.1 a.2*d.den b.1 b.2))=(Vs d L c b*(2*d.den b.1 b.2))*d.den a.1 a.2-(Vs d L c a*(2*d.den a.1 a.2))*d.den b.1 b.2:=by grind
  rw[this,e1,e2]
  grind
 have dd:0<2*(d.den a.1 a.2*d.den b.1 b.2):=by
  have:=HH dA dB
  lia
 constructor
 ·intro h
  have:0<(Vs d L c b-Vs d L c a)*(2*(d.den a.1 a.2*d.den b.1 b.2)):=by rw[e3];exact HH hM h
  rw[Jz]at this
  have:=(bo dd).1 this
  lia
 ·intro h
  have:0<iy d L*d.ahead c a.1 a.2 b.1 b.2:=by rw[<-e3];exact HH (by lia) dd
  exact(bo hM).1 this
theorem jT (P g:az->Bool):∀L:List az,xs (λx=>P x&&g x) L=xs g (L.filter P)
 |[]=>rfl
 |a :: r=>by
  rw[xs,jT P g r,List.filter_cons]
  cases h:P a with
  |true=>rw[Hz rfl,xs,Jn]
  |false=>rw[Hs (by decide),IF,IQ]
theorem qo (P:az->Bool)(f:az->Int):∀L:List az,sm (L.map λx=>if P x=true then f x else 0)=sm ((L.filter P).map f)
 |[]=>rfl
 |a :: r=>by
  rw[HN,b5,qo P f r,List.filter_cons]
  cases h:P a with
  |true=>rw[Hz rfl,Hz rfl,HN,b5]
  |false=>rw[Hs (by decide),Hs (by decide)];lia
section
variable  {S:Plan}
def eU (S:Plan)(c:Int)(l:az):Bool:=decide ((ab S).Y l.1<=c/\c<(ab S).Y l.2)
theorem Et (k:Kept S){E:List az}(hE:∀e∈E,(ab S).J e.1 e.2)(hc:c8 E)(hn:E.Nodup)(hs:∀x:az,(ab S).J x.1 x.2->(ab S).om E x.1 x.2=decide (x∈E))(c:Int) :
  0<=sm ((S.lines.filter (eU S c)).map λl=>Vs (ab S) S.lines c l*(bi (decide (l∈E))-bi (decide ((l.2,l.1)∈E)))) /\
  ((∃l∈S.lines.filter (eU S c),l∈E)->0<sm ((S.lines.filter (eU S c)).map λl=>Vs (ab S) S.lines c l*(bi (decide (l∈E))-bi (decide ((l.2,l.1)∈E))))):=by
 have g:=bw S k
 have hL:=xZ k hE
 have hP:∀{l},l∈S.lines.filter (eU S c)->l∈S.lines/\(ab S).Y l.1<=c/\c<(ab S).Y l.2:=by
  intro l hl
  obtain⟨h1,h2⟩:=HZ.1 hl
  exact⟨h1,Hk h2⟩
 let le:az->az->Bool:=λa b=>decide (Vs (ab S) S.lines c b<=Vs (ab S) S.lines c a)
 have hperm:((S.lines.filter (eU S c)).mergeSort le).Perm (S.lines.filter (eU S c)):=List.mergeSort_perm _ _
 have hsort:((S.lines.filter (eU S c)).mergeSort le).Pairwise (λa b=>le a b=true):=by
  apply List.pairwise_mergeSort
  ·intro a b c h1 h2
   have h1:=Hk h1
   have h2:=Hk h2
   exact dqt (by lia)
  ·intro a b
   show(decide _||decide _)=true
   rw[Jq,Hv,Hv]
   lia
 have hnd:((S.lines.filter (eU S c)).mergeSort le).Nodup:=hperm.nodup_iff.2 (k.lines_nodup.filter _)
 have hstr:((S.lines.filter (eU S c)).mergeSort le).Pairwise (λa b=>Vs (ab S) S.lines c b<Vs (ab S) S.lines c a):=by
  refine JY ?_ (hsort.and hnd)
  intro a b ha hb h
  obtain⟨h1,h2⟩:=h
  have h1:=Hk h1
  obtain⟨a1,a2,a3⟩:=hP (hperm.mem_iff.1 ha)
  obtain⟨b1,b2,b3⟩:=hP (hperm.mem_iff.1 hb)
  have q:=(vL g (u:=a.1) (w:=a.2) (p:=b.1) (q:=b.2) (c:=c) (Jr a1) (Jr b1) a2 a3 b2 b3 (λz=>h2 (Lg z.1.symm z.2.symm))).2
  have q1:=vn (ab S) a1 b1 (by lia) (by lia) c
  have q2:=vn (ab S) b1 a1 (by lia) (by lia) c
  have q3:(ab S).ahead c b.1 b.2 a.1 a.2=- (ab S).ahead c a.1 a.2 b.1 b.2:=by unfold Dr.ahead;lia
  lia
 have hsum:sm ((S.lines.filter (eU S c)).map λl=>Vs (ab S) S.lines c l*(bi (decide (l∈E))-bi (decide ((l.2,l.1)∈E)))) =
   sm (((S.lines.filter (eU S c)).mergeSort le).map λl=>Vs (ab S) S.lines c l*(bi (decide (l∈E))-bi (decide (l∈E)^^ce E l.1 l.2))):=by
  rw[<-vw (hperm.map _)]
  apply du
  intro l hl
  obtain⟨l1,_,_⟩:=hP (hperm.mem_iff.1 hl)
  have hlt:=(k.line l1).1
  rw[yX hn (by lia:l.1≠l.2)]
  have:(l.1,l.2)=l:=rfl
  rw[this]
  congr 2
  cases decide (l∈E)<;>cases decide ((l.2,l.1)∈E)<;>rfl
 rw[hsum]
 generalize hM:(S.lines.filter (eU S c)).mergeSort le=M at *
 have key:=Ex (V:=Vs (ab S) S.lines c) (up:=λl=>decide (l∈E)) (mm:=λl=>ce E l.1 l.2) M false hstr ?_ ?_
 ·obtain⟨B,hB⟩:∃B,∀l∈M,Vs (ab S) S.lines c l<=B:=by
   clear key hperm hsort hnd hstr hsum hM
   induction M with
   |nil=>exact⟨0,λl hl=>by cases hl⟩
   |cons a r ih =>
    obtain⟨B,hB⟩:=ih
    refine⟨max B (Vs (ab S) S.lines c a),λl hl=>?_⟩
    rcases Hq.1 hl with e|e
    ·subst e;lia
    ·have:=hB l e;lia
  obtain⟨k1,k2⟩:=key B hB
  rw[yT,Int.mul_zero]at k1
  refine⟨by simpa using k1,λ⟨l,hl,hlE⟩=>k2 rfl ⟨l,hperm.mem_iff.2 hl,dqt hlE⟩⟩
 ·intro a l b e
  have hlM:l∈M:=by rw[e];simp
  obtain⟨l1,l2,l3⟩:=hP (hperm.mem_iff.1 hlM)
  have hlt:=(k.line l1).1
  have s1:=hs l (Jr l1)
  rw[<-CS g (Jr l1) hlt l2 l3 hE hc,so hL]at s1
  have s2:xs (λx=>(ab S).sl c l.1 l.2 x.1 x.2&&ce E x.1 x.2) S.lines=xs (λx=>eU S c x&&(decide (x=l\/0<(ab S).ahead c l.1 l.2 x.1 x.2)&&ce E x.1 x.2)) S.lines:=by
   apply bE
   intro x hx
   rw[<-Bool.and_assoc]
   congr 1
   unfold Dr.sl eU
   rw[<-Bool.decide_and,HK]
   have:(x.1=l.1/\x.2=l.2)↔x=l:=by
    constructor
    ·intro h;exact Lg h.1 h.2
    ·intro h;rw[h];exact⟨rfl,rfl⟩
   rw[this]
   exact and_assoc.symm
  rw[s2,jT,<-vW hperm,e,eB,xs]at s1
  rw[e,IK,Iy]at hstr
  rw[e,JK,Ja]at hnd
  have memM:∀x,x∈a\/x∈b->x∈S.lines/\(ab S).Y x.1<=c/\c<(ab S).Y x.2:=by
   intro x hx
   refine hP (hperm.mem_iff.1 ?_)
   rw[e]
   rcases hx with h|h
   ·simp[h]
   ·simp[h]
  have ta:xs (λx=>decide (x=l\/0<(ab S).ahead c l.1 l.2 x.1 x.2)&&ce E x.1 x.2) a=xs (λx=>ce E x.1 x.2) a:=by
   apply bE
   intro x hx
   obtain⟨x1,x2,x3⟩:=memM x (Jr hx)
   have:=hstr.2.2 x hx l (by simp)
   have:=(vn (ab S) l1 x1 (by lia) (by lia) c).2 this
   rw[dqt (IP this),Jn]
  have tb:xs (λx=>decide (x=l\/0<(ab S).ahead c l.1 l.2 x.1 x.2)&&ce E x.1 x.2) b=xs (λ_=>false) b:=by
   apply bE
   intro x hx
   obtain⟨x1,x2,x3⟩:=memM x (IP hx)
   have h1:=hstr.2.1.1 x hx
   have h2:¬0<(ab S).ahead c l.1 l.2 x.1 x.2:=λq=>by
    have:=(vn (ab S) l1 x1 (by lia) (by lia) c).1 q
    lia
   have h3:¬x=l:=λq=>by subst q;lia
   rw[dqf (λq=>q.elim h3 h2),IF]
  rw[ta,tb,ia]at s1
  show decide (l∈E)=_
  rw[<-s1]
  simp
 ·
  have h0:=hc (λv=>decide ((ab S).Y v<=c))
  have h1:xs (λe=>decide ((ab S).Y e.1<=c)^^decide ((ab S).Y e.2<=c)) E=xs (lh λp q=>decide ((ab S).Y p<=c/\c<(ab S).Y q)) E:=by
   apply bE
   intro e he
   have hj:=hE e he
   have hord:∀{i j},(ab S).J i j->i<j->(ab S).Y i<=(ab S).Y j:=by
    intro i j h hlt
    rcases g.ord hlt (g.lt (g.symm h)) with h|h<;>lia
   have fin:∀{i j:Int},i<=j->(decide (i<=c)^^decide (j<=c))=decide (i<=c/\c<j):=by
    intro i j hij
    by_cases a:i<=c
    ·by_cases b:j<=c
     ·rw[dqt a,dqt b,dqf (by lia)];rfl
     ·rw[dqt a,dqf b,dqt (by lia)];rfl
    ·rw[dqf a,dqf (by lia:¬j<=c),dqf (by lia)];rfl
   unfold lh
   rcases IA (g.ne hj) with h|h
   ·rw[Ia (by lia),IG (by lia)]
    exact fin (hord hj h)
   ·rw[HX (by lia),Jh (by lia),Ks]
    exact fin (hord (g.symm hj) h)
  rw[h1,so hL]at h0
  rw[IQ,vW hperm,<-jT]
  exact h0
theorem kQ {c:Nat}{l:az}:eU S (c:Int) l=true↔(S.pt l.1).y<=c/\c<(S.pt l.2).y:=by
 unfold eU
 rw[Hv]
 show(((S.pt l.1).y:Int)<=(c:Int)/\(c:Int)<((S.pt l.2).y:Int))↔_
 lia
def Gt (m x1 x2 y2 n:Int)(c:Nat):Int:=(2*m)*((x2-x1)*((c:Int)*c-2*y2*c)+2*n*x2*c)
theorem xA (k:Kept S)(f:vN S){l:az}(hl:l∈S.lines):iy (ab S) S.lines*(((ab S).X l.1+(ab S).X l.2)*((ab S).Y l.2-(ab S).Y l.1)) =
  sm ((HS S.h).map λc:Nat=>if eU S (c:Int) l=true then 2*Vs (ab S) S.lines (c:Int) l else 0):=by
 have g:=bw S k
 obtain⟨hlt,hlp⟩:=k.line hl
 have hin:=(f.inw hlp).2
 have hyy:(S.pt l.1).y<=(S.pt l.2).y:=by
  rcases g.ord hlt hlp with h|h<;>(simp only[ab]at h;lia)
 by_cases hy:(S.pt l.1).y=(S.pt l.2).y
 ·have e1:∀c∈HS S.h,(if eU S (c:Int) l=true then 2*Vs (ab S) S.lines (c:Int) l else 0)=0:=by
   intro c _
   rw[Hs]
   rw[kQ]
   lia
  rw[du e1,rB]
  have:(ab S).Y l.2-(ab S).Y l.1=0:=by simp only[ab];lia
  rw[this];simp
 ·have hY:(ab S).Y l.1<(ab S).Y l.2:=by simp only[ab];lia
  have q:=Int.ediv_mul_cancel (mY (ab S) hY hl)
  have e2:sm ((HS S.h).map λc:Nat=>if eU S (c:Int) l=true then 2*Vs (ab S) S.lines (c:Int) l else 0) =
    sm ((HS S.h).map λc:Nat=>if (S.pt l.1).y<=c/\c<(S.pt l.2).y then
     Gt (iy (ab S) S.lines / (2*(ab S).den l.1 l.2)) ((ab S).X l.1) ((ab S).X l.2) ((ab S).Y l.2) ((ab S).den l.1 l.2) (c+1) -
     Gt (iy (ab S) S.lines / (2*(ab S).den l.1 l.2)) ((ab S).X l.1) ((ab S).X l.2) ((ab S).Y l.2) ((ab S).den l.1 l.2) c else 0):=by
   apply du
   intro c _
   by_cases hc:(S.pt l.1).y<=c/\c<(S.pt l.2).y
   ·rw[Hz hc,Hz (kQ.2 hc)]
    unfold Vs Dr.num Dr.trz tr6 Gt
    have:((c+1:Nat):Int)=(c:Int)+1:=by lia
    simp only[this]
    unfold Dr.den
    generalize iy (ab S) S.lines / (2*((ab S).Y l.2-(ab S).Y l.1))=m
    generalize (ab S).X l.1=x1
    generalize (ab S).X l.2=x2
    generalize (ab S).Y l.1=y1
    generalize (ab S).Y l.2=y2
    generalize (c:Int)=z
    grind
   ·rw[Hs hc,Hs (λq=>hc (kQ.1 q))]
  rw[e2,EF _ _ _ hyy,HX hin,HX (by lia:(S.pt l.1).y<=S.h)]
  have q':iy (ab S) S.lines=iy (ab S) S.lines / (2*(ab S).den l.1 l.2)*(2*(ab S).den l.1 l.2):=q.symm
  generalize iy (ab S) S.lines / (2*(ab S).den l.1 l.2)=m at q' ⊢
  rw[q']
  show _*(((ab S).X l.1+(ab S).X l.2)*((ab S).Y l.2-(ab S).Y l.1))=2*m*(((ab S).X l.2-(ab S).X l.1)*((ab S).Y l.2*(ab S).Y l.2-2*(ab S).Y l.2*(ab S).Y l.2)+2*(ab S).den l.1 l.2*(ab S).X l.2*(ab S).Y l.2) -
   2*m*(((ab S).X l.2-(ab S).X l.1)*((ab S).Y l.1*(ab S).Y l.1-2*(ab S).Y l.2*(ab S).Y l.1)+2*(ab S).den l.1 l.2*(ab S).X l.2*(ab S).Y l.1)
  unfold Dr.den
  generalize (ab S).X l.1=x1
  generalize (ab S).X l.2=x2
  generalize (ab S).Y l.1=y1
  generalize (ab S).Y l.2=y2
  grind
end
section
variable  {S:Plan}
theorem xS (f:Nat->Int):∀{l m:List Nat},l.length=m.length->sm ((l.zip m).map λx=>f x.1-f x.2)=sm (l.map f)-sm (m.map f)
 |[],[],_=>rfl
 |[],_ :: _,h=>by simp at h
 |_ :: _,[],h=>by simp at h
 |a :: l,b :: m,h=>by
  simp only[JE,HN,b5]
  rw[xS f (by simpa using h)]
  lia
theorem xl (f:Nat->Int)(l:List Nat):sm ((prs l).map λx=>f x.1-f x.2)=0:=by
 have hp:(l.drop 1++l.take 1).Perm l:=List.perm_append_comm.trans (by rw[List.take_append_drop])
 unfold prs
 rw[xS f (by rw[hp.length_eq]),vw (hp.map f)]
 lia
theorem yg (k:cp S){e:az}(he:(ab S).J e.1 e.2)(hs:∀x:az,(ab S).J x.1 x.2->(ab S).om (orb S e) x.1 x.2=decide (x∈orb S e))
  {l:az} (hl:l∈S.lines) (hy:(S.pt l.1).y<(S.pt l.2).y) (hm:l∈orb S e):0<twiceArea S (rnd S e):=by
 have kk:=k.toKept
 have g:=bw S kk
 have f:=jv kk k.r6
 have p:=dt kk he
 have hE:∀x∈orb S e,(ab S).J x.1 x.2:=λx hx=>fu kk he hx
 have hc:c8 (orb S e):=by
  rw[p.orb]
  exact gg _ _ (by rw[Jy,p.back];rfl)
 have hn:(orb S e).Nodup:=by
  rw[p.orb]
  exact gc _ _ _ _ (λx y _ h1 h2=>p.dist x y h1 (by lia))
 have hL:=xZ kk hE
 have e1:twiceArea S (rnd S e)=sm ((orb S e).map λx=>((ab S).X x.1+(ab S).X x.2)*((ab S).Y x.2-(ab S).Y x.1)):=by
  rw[nG kk he]
  have:sm ((orb S e).map (cr2 S))=sm ((orb S e).map λx=>((ab S).X x.1+(ab S).X x.2)*((ab S).Y x.2-(ab S).Y x.1)+((λi=>(ab S).X i*(ab S).Y i) x.1-(λi=>(ab S).X i*(ab S).Y i) x.2)):=by
   apply du
   intro x _
   unfold cr2
   show(ab S).X x.1*(ab S).Y x.2-(ab S).X x.2*(ab S).Y x.1=_
   grind
  rw[this,iX (λx:az=>((ab S).X x.1+(ab S).X x.2)*((ab S).Y x.2-(ab S).Y x.1)) (λx:az=>(λi=>(ab S).X i*(ab S).Y i) x.1-(λi=>(ab S).X i*(ab S).Y i) x.2)]
  rw[<-eK kk he,xl (λi=>(ab S).X i*(ab S).Y i)]
  lia
 have hM:=oq (ab S) S.lines
 have e2:iy (ab S) S.lines*twiceArea S (rnd S e)=sm ((HS S.h).map λc:Nat=>2*sm ((S.lines.filter (eU S (c:Int))).map λl=>Vs (ab S) S.lines (c:Int) l*(bi (decide (l∈orb S e))-bi (decide ((l.2,l.1)∈orb S e))))):=by
  rw[e1,xR hL hn (λa b=>((ab S).X a+(ab S).X b)*((ab S).Y b-(ab S).Y a)) (by intro a b;grind),<-eY]
  have e3:∀x∈S.lines,iy (ab S) S.lines*(((ab S).X x.1+(ab S).X x.2)*((ab S).Y x.2-(ab S).Y x.1)*(bi (decide (x∈orb S e))-bi (decide ((x.2,x.1)∈orb S e)))) =
    sm ((HS S.h).map λc:Nat=>if eU S (c:Int) x=true then 2*(Vs (ab S) S.lines (c:Int) x*(bi (decide (x∈orb S e))-bi (decide ((x.2,x.1)∈orb S e)))) else 0):=by
   intro x hx
   have q:=xA kk f hx
   have:sm ((HS S.h).map λc:Nat=>if eU S (c:Int) x=true then 2*(Vs (ab S) S.lines (c:Int) x*(bi (decide (x∈orb S e))-bi (decide ((x.2,x.1)∈orb S e)))) else 0) =
     sm ((HS S.h).map λc:Nat=>(bi (decide (x∈orb S e))-bi (decide ((x.2,x.1)∈orb S e)))*(if eU S (c:Int) x=true then 2*Vs (ab S) S.lines (c:Int) x else 0)):=by
    apply du
    intro c _
    by_cases hp:eU S (c:Int) x=true
    ·rw[Hz hp,Hz hp];grind
    ·rw[Hs hp,Hs hp];simp
   rw[this,eY,<-q]
   grind
  rw[du e3,rM (λ(x:az) (c:Nat)=>if eU S (c:Int) x=true then 2*(Vs (ab S) S.lines (c:Int) x*(bi (decide (x∈orb S e))-bi (decide ((x.2,x.1)∈orb S e)))) else 0)]
  apply du
  intro c _
  rw[qo (eU S (c:Int)) (λx=>2*(Vs (ab S) S.lines (c:Int) x*(bi (decide (x∈orb S e))-bi (decide ((x.2,x.1)∈orb S e))))),eY]
 have hpos:0<iy (ab S) S.lines*twiceArea S (rnd S e):=by
  rw[e2]
  have hin:=(f.inw (kk.line hl).2).2
  refine Cy (y:=2*sm ((S.lines.filter (eU S (((S.pt l.1).y:Nat):Int))).map λx=>Vs (ab S) S.lines (((S.pt l.1).y:Nat):Int) x*(bi (decide (x∈orb S e))-bi (decide ((x.2,x.1)∈orb S e))))) ?_ (HM.2 ⟨(S.pt l.1).y,Ix.2 (by lia),rfl⟩) ?_
  ·intro x hx
   obtain⟨c,_,rfl⟩:=HM.1 hx
   have:=(Et kk hE hc hn hs (c:Int)).1
   lia
  ·have:=(Et kk hE hc hn hs (((S.pt l.1).y:Nat):Int)).2 ⟨l,HZ.2 ⟨hl,kQ.2 ⟨by lia,hy⟩⟩,hm⟩
   lia
 exact(bo hM).1 hpos
def fd (l:List Nat):List az:=l.zip (l.drop 1)
theorem qL (Q:Nat->Bool):∀{l:List Nat} {a z:Nat},l.head? = some a->l.getLast? = some z->xs (λe=>Q e.1^^Q e.2) (fd l)=(Q a^^Q z)
 |[],_,_,h,_=>by simp at h
 |[x],a,z,h1,h2=>by
  simp at h1 h2
  subst h1 h2
  simp[fd,xs]
 |x :: y :: r,a,z,h1,h2=>by
  have h1:x=a:=by simpa using h1
  subst h1
  have ih:=qL Q (l:=y :: r) (a:=y) (z:=z) rfl (by rw[List.getLast?_cons_cons]at h2;exact h2)
  show xs _ ((x,y) :: fd (y :: r))=_
  rw[xs,ih]
  cases Q x<;>cases Q y<;>cases Q z<;>rfl
theorem oB {l:List Nat}(h:l.Pairwise (· < ·)){a:Nat}(ha:a∈l)(hm:∀b∈l,a<=b):l.head? = some a:=by
 cases l with
 |nil=>cases ha
 |cons x r =>
  rw[Iy]at h
  rcases Hq.1 ha with e|e
  ·rw[e];rfl
  ·have:=h.1 a e
   have:=hm x HD
   lia
theorem lj:∀{l:List Nat},l.Pairwise (· < ·)->∀{z:Nat},z∈l->(∀b∈l,b<=z)->l.getLast? = some z
 |[],_,_,h,_=>by cases h
 |[x],_,z,h,_=>by
  have:z=x:=by simpa using h
  rw[this];rfl
 |x :: y :: r,hp,z,h,hm=>by
  rw[List.getLast?_cons_cons]
  rw[Iy]at hp
  refine lj hp.2 ?_ (λb hb=>hm b (Ho _ hb))
  rcases Hq.1 h with e|e
  ·have h1:=hp.1 y HD
   have h2:=hm y (Ho _ HD)
   lia
  ·exact e
theorem x5 {l:List Nat}{e:az}(h:e∈fd l):∃i,∃(hi:i+1<l.length),e=(l[i],l[i+1]):=by
 unfold fd at h
 obtain⟨i,hi,he⟩:=Ib h
 rw[KN]at he
 have hl:i<(l.zip (l.drop 1)).length:=hi
 rw[JU,Il]at hl
 refine⟨i,by lia,?_⟩
 rw[<-he]
 congr 1
 rw[KF]
 congr 1
 lia
def frm (S:Plan):List az:=fd (edgePts S λp=>p.y==0)++(fd (edgePts S λp=>p.x==S.w)++(fd (edgePts S λp=>p.y==S.h)++fd (edgePts S λp=>p.x==0)))
structure A2 (S:Plan)(a b c d:Nat):Prop where
 ha:a<S.pts.length/\S.pt a=⟨0,0⟩
 hb:b<S.pts.length/\S.pt b=⟨S.w,0⟩
 hc:c<S.pts.length/\S.pt c=⟨0,S.h⟩
 hd:d<S.pts.length/\S.pt d=⟨S.w,S.h⟩
theorem oU (h6:frameOk S=true):∃a b c d,A2 S a b c d:=by
 unfold frameOk at h6
 simp only[Hu]at h6
 obtain⟨a,ha⟩:=eE h6.1
 obtain⟨b,hb⟩:=eE h6.2.1
 obtain⟨c,hc⟩:=eE h6.2.2.1
 obtain⟨d,hd⟩:=eE h6.2.2.2.1
 exact⟨a,b,c,d,ha,hb,hc,hd⟩
theorem gW (k:Kept S){i j:Nat}(hi:i<S.pts.length)(hj:j<S.pts.length)(h:(S.pt i).y<(S.pt j).y\/((S.pt i).y=(S.pt j).y/\(S.pt i).x<=(S.pt j).x)):i<=j:=by
 apply bcn
 intro hn
 have:=(fe _ _).1 (k.ord (i:=j) (j:=i) (by lia) hi)
 lia
theorem wL (k:cp S):(∀e∈frm S,(ab S).J e.1 e.2)/\c8 (frm S):=by
 have kk:=k.toKept
 have f:=jv kk k.r6
 have h6:=k.r6
 obtain⟨a,b,c,d,C⟩:=oU h6
 unfold frameOk at h6
 simp only[Hu]at h6
 obtain⟨_,_,_,_,c1,c2,c3,c4⟩:=h6
 have jj:∀{on:Pt->Bool},chained S (edgePts S on)=true->∀e∈fd (edgePts S on),(ab S).J e.1 e.2:=by
  intro on hc e he
  obtain⟨i,hi,rfl⟩:=x5 he
  exact lw hc hi
 constructor
 ·intro e he
  unfold frm at he
  rcases HU.1 he with h|h
  ·exact jj c1 e h
  ·rcases HU.1 h with h|h
   ·exact jj c4 e h
   ·rcases HU.1 h with h|h
    ·exact jj c2 e h
    ·exact jj c3 e h
 ·intro Q
  have tel:∀{on:Pt->Bool} {u v:Nat},u<S.pts.length->v<S.pts.length->on (S.pt u)=true->on (S.pt v)=true->(∀i,i<S.pts.length->on (S.pt i)=true->u<=i/\i<=v) ->
    xs (λe=>Q e.1^^Q e.2) (fd (edgePts S on))=(Q u^^Q v):=by
   intro on u v hu hv ou ov hm
   refine qL Q (oB iH (ba.2 ⟨hu,ou⟩) λx hx=>?_) (lj iH (ba.2 ⟨hv,ov⟩) λx hx=>?_)
   ·obtain⟨h1,h2⟩:=ba.1 hx
    exact(hm x h1 h2).1
   ·obtain⟨h1,h2⟩:=ba.1 hx
    exact(hm x h1 h2).2
  obtain⟨ha,ea⟩:=C.ha
  obtain⟨hb,eb⟩:=C.hb
  obtain⟨hc,ec⟩:=C.hc
  obtain⟨hd,ed⟩:=C.hd
  unfold frm
  rw[eB,eB,eB]
  rw[tel (u:=a) (v:=b) ha hb (by rw[ea];rfl) (by rw[eb];rfl) (λi hi h=>?_),tel (u:=b) (v:=d) hb hd (by rw[eb];simp) (by rw[ed];simp) (λi hi h=>?_),
   tel (u:=c) (v:=d) hc hd (by rw[ec];simp) (by rw[ed];simp) (λi hi h=>?_),tel (u:=a) (v:=c) ha hc (by rw[ea];rfl) (by rw[ec];rfl) (λi hi h=>?_)]
  ·cases Q a<;>cases Q b<;>cases Q c<;>cases Q d<;>rfl
  ·have h:(S.pt i).x=0:=by simpa using h
   have hi2:=f.inw hi
   constructor
   ·apply gW kk ha hi;rw[ea];simp only;lia
   ·apply gW kk hi hc;rw[ec];simp only;lia
  ·have h:(S.pt i).y=S.h:=by simpa using h
   have hi2:=f.inw hi
   constructor
   ·apply gW kk hc hi;rw[ec];simp only;lia
   ·apply gW kk hi hd;rw[ed];simp only;lia
  ·have h:(S.pt i).x=S.w:=by simpa using h
   have hi2:=f.inw hi
   constructor
   ·apply gW kk hb hi;rw[eb];simp only;lia
   ·apply gW kk hi hd;rw[ed];simp only;lia
  ·have h:(S.pt i).y=0:=by simpa using h
   have hi2:=f.inw hi
   constructor
   ·apply gW kk ha hi;rw[ea];simp only;lia
   ·apply gW kk hi hb;rw[eb];simp only;lia
theorem Dg (k:cp S){z:Pt}(hx0:0<z.x)(hxw:z.x<S.w)(hyh:z.y<S.h):xs (lh ((ab S).cz z.x z.y)) (frm S)=true:=by
 have kk:=k.toKept
 have f:=jv kk k.r6
 obtain⟨a,b,c,d,C⟩:=oU k.r6
 have edge:∀{on:Pt->Bool} {e:az},e∈fd (edgePts S on)->e.1<e.2/\e.1<S.pts.length/\e.2<S.pts.length/\on (S.pt e.1)=true/\on (S.pt e.2)=true:=by
  intro on e he
  obtain⟨i,hi,rfl⟩:=x5 he
  have h1:=HQ.1 (iH (S:=S) (on:=on)) i (i+1) (by lia) hi (by lia)
  obtain⟨m1,m2⟩:=ba.1 (HP (l:=edgePts S on) (n:=i) (by lia))
  obtain⟨m3,m4⟩:=ba.1 (HP (l:=edgePts S on) (n:=i+1) hi)
  exact⟨h1,m1,m3,m2,m4⟩
 have none:∀{on:Pt->Bool},(∀i j,i<j->i<S.pts.length->j<S.pts.length->on (S.pt i)=true->on (S.pt j)=true->(ab S).cz z.x z.y i j=false)->xs (lh ((ab S).cz z.x z.y)) (fd (edgePts S on))=false:=by
  intro on h
  have:xs (lh ((ab S).cz z.x z.y)) (fd (edgePts S on))=xs (λ_=>false) (fd (edgePts S on)):=by
   apply bE
   intro e he
   obtain⟨h1,h2,h3,h4,h5⟩:=edge he
   unfold lh
   rw[Ia (by lia),IG (by lia)]
   exact h _ _ h1 h2 h3 h4 h5
  rw[this,ia]
 have ord:∀{i j},i<j->j<S.pts.length->(S.pt i).y<=(S.pt j).y:=by
  intro i j h hj
  have:=(fe _ _).1 (kk.ord h hj)
  lia
 unfold frm
 rw[eB,eB,eB]
 rw[none (on:=λp=>p.y==0) (λi j _ _ _ h1 h2=>?_),none (on:=λp=>p.y==S.h) (λi j _ _ _ h1 h2=>?_),none (on:=λp=>p.x==0) (λi j hij hi hj h1 h2=>?_)]
 ·have hr:xs (lh ((ab S).cz z.x z.y)) (fd (edgePts S λp=>p.x==S.w))=xs (λe=>decide ((S.pt e.1).y<=z.y)^^decide ((S.pt e.2).y<=z.y)) (fd (edgePts S λp=>p.x==S.w)):=by
   apply bE
   intro e he
   obtain⟨h1,h2,h3,h4,h5⟩:=edge he
   have h4:(S.pt e.1).x=S.w:=by simpa using h4
   have h5:(S.pt e.2).x=S.w:=by simpa using h5
   have ho:=ord h1 h3
   unfold lh
   rw[Ia (by lia),IG (by lia)]
   unfold Dr.cz Dr.trz tr6
   show decide (((S.pt e.1).y:Int)<=(z.y:Int)/\(z.y:Int)<((S.pt e.2).y:Int)/\0<(((S.pt e.2).x:Int)-((S.pt e.1).x:Int))*((z.y:Int)-((S.pt e.2).y:Int))-(((S.pt e.2).y:Int)-((S.pt e.1).y:Int))*((z.x:Int)-((S.pt e.2).x:Int)))=_
   rw[h4,h5]
   by_cases c1:(S.pt e.1).y<=z.y
   ·by_cases c2:(S.pt e.2).y<=z.y
    ·rw[dqt c1,dqt c2,dqf (by lia)];rfl
    ·rw[dqt c1,dqf c2]
     have:0<(((S.pt e.2).y:Int)-((S.pt e.1).y:Int))*((S.w:Int)-(z.x:Int)):=HH (by lia) (by lia)
     rw[dqt ⟨by lia,by lia,by grind⟩];rfl
   ·rw[dqf c1,dqf (by lia:¬(S.pt e.2).y<=z.y),dqf (by lia)];rfl
  obtain⟨hb,eb⟩:=C.hb
  obtain⟨hd,ed⟩:=C.hd
  have ht:=qL (λv=>decide ((S.pt v).y<=z.y)) (l:=edgePts S λp=>p.x==S.w) (a:=b) (z:=d)
   (oB iH (ba.2 ⟨hb,by rw[eb];simp⟩) λx hx=>by
    obtain⟨h1,h2⟩:=ba.1 hx
    have h2:(S.pt x).x=S.w:=by simpa using h2
    have:=f.inw h1
    apply gW kk hb h1;rw[eb];simp only;lia)
   (lj iH (ba.2 ⟨hd,by rw[ed];simp⟩) λx hx=>by
    obtain⟨h1,h2⟩:=ba.1 hx
    have h2:(S.pt x).x=S.w:=by simpa using h2
    have:=f.inw h1
    apply gW kk h1 hd;rw[ed];simp only;lia)
  rw[hr,ht,eb,ed,dqt (by simp only;lia:({ x:=S.w,y:=0 }:Pt).y<=z.y),dqf (by simp only;lia:¬({ x:=S.w,y:=S.h }:Pt).y<=z.y)]
  rfl
 ·have h1:(S.pt i).x=0:=by simpa using h1
  have h2:(S.pt j).x=0:=by simpa using h2
  have ho:=ord hij hj
  unfold Dr.cz Dr.trz tr6
  refine dqf ?_
  show ¬(((S.pt i).y:Int)<=(z.y:Int)/\(z.y:Int)<((S.pt j).y:Int)/\0<(((S.pt j).x:Int)-((S.pt i).x:Int))*((z.y:Int)-((S.pt j).y:Int))-(((S.pt j).y:Int)-((S.pt i).y:Int))*((z.x:Int)-((S.pt j).x:Int)))
  rw[h1,h2]
  rintro⟨q1,q2,q3⟩
  have:0<(((S.pt j).y:Int)-((S.pt i).y:Int))*(z.x:Int):=HH (by lia) (by lia)
  grind
 ·have h1:(S.pt i).y=S.h:=by simpa using h1
  have h2:(S.pt j).y=S.h:=by simpa using h2
  unfold Dr.cz
  refine dqf ?_
  show ¬(((S.pt i).y:Int)<=(z.y:Int)/\(z.y:Int)<((S.pt j).y:Int)/\_)
  lia
 ·have h1:(S.pt i).y=0:=by simpa using h1
  have h2:(S.pt j).y=0:=by simpa using h2
  unfold Dr.cz
  refine dqf ?_
  show ¬(((S.pt i).y:Int)<=(z.y:Int)/\(z.y:Int)<((S.pt j).y:Int)/\_)
  lia
end
section
variable  {d:Dr}
theorem Bk (g:eZ d)(edges:List az)(hed:∀p q,d.J p q->p<q->(p,q)∈edges)(hed2:∀e∈edges,d.J e.1 e.2/\e.1<e.2)(zx zy:Int) :
  (∀E:List az,(∀e∈E,d.J e.1 e.2)->xs (lh (d.cz zx zy)) E=false) \/
  ∃u w,d.J u w/\u<w/\d.Y u<d.Y w/\∀E:List az,(∀e∈E,d.J e.1 e.2)->c8 E->xs (lh (d.cz zx zy)) E=d.om E u w:=by
 have side:∀(F:Nat->Nat->Prop),(∀p q,d.J p q->p<q->F p q)->∀e:az,d.J e.1 e.2->F (min e.1 e.2) (max e.1 e.2):=by
  intro F hF e he
  rcases IA (g.ne he) with h|h
  ·rw[Ia (by lia),IG (by lia)];exact hF _ _ he h
  ·rw[HX (by lia),Jh (by lia)];exact hF _ _ (g.symm he) h
 by_cases hall:(edges.filter (λe=>d.cz zx zy e.1 e.2))=[]
 ·left
  intro E hE
  have:xs (lh (d.cz zx zy)) E=xs (λ_=>false) E:=by
   apply bE
   intro e he
   refine side (λp q=>d.cz zx zy p q=false) ?_ e (hE e he)
   intro p q hpq hlt
   have hm:=hed p q hpq hlt
   cases h:d.cz zx zy p q with
   |false=>rfl
   |true =>
    have:(p,q)∈edges.filter (λe=>d.cz zx zy e.1 e.2):=HZ.2 ⟨hm,h⟩
    rw[hall]at this;cases this
  rw[this,ia]
 ·right
  obtain⟨⟨u,w⟩,hx,hm⟩:=kg (λe:az=>d.num zx zy e.1 e.2) (λe:az=>d.den e.1 e.2) _ hall (by
   intro x hx
   have:=Hk (HZ.1 hx).2
   unfold Dr.den;lia)
  obtain⟨hx1,hx2⟩:=HZ.1 hx
  obtain⟨huw,hlt⟩:=hed2 _ hx1
  have hcz:d.cz zx zy u w=true:=hx2
  refine⟨u,w,huw,hlt,?_,λE hE hc=>?_⟩
  ·have:=Hk hcz
   lia
  have h:xs (λe=>lh (d.cz zx zy) e^^d.Om u w (min e.1 e.2) (max e.1 e.2)) E=false:=by
   rw[<-hc (d.Pz zy u w)]
   apply bE
   intro e he
   have ze:∀p q,d.J p q->p<q->(d.cz zx zy p q^^d.Om u w p q)=(d.Pz zy u w p^^d.Pz zy u w q):=by
    intro p q hpq hlt'
    exact zh g huw hpq hlt hlt' hx2 (λh=>hm (p,q) (HZ.2 ⟨hed p q hpq hlt',h⟩))
   have hj:=hE e he
   unfold lh
   rcases IA (g.ne hj) with h|h
   ·rw[Ia (by lia),IG (by lia)];exact ze _ _ hj h
   ·rw[HX (by lia),Jh (by lia),Ks (d.Pz zy u w e.1)];exact ze _ _ (g.symm hj) h
  rw[iU]at h
  unfold Dr.om
  revert h
  generalize xs (lh (d.cz zx zy)) E=a;generalize xs _ E=b
  cases a<;>cases b<;>simp
end
section
variable  {S:Plan}
theorem xw (k:cp S){z:Pt}(hx0:0<z.x)(hxw:z.x<S.w)(hyh:z.y<S.h):∃e:az,(ab S).J e.1 e.2/\0<twiceArea S (rnd S e)/\insideOf S (rnd S e) z=true:=by
 have kk:=k.toKept
 have g:=bw S kk
 have r:=cI kk
 have hw:0<S.w:=by lia
 have hh:0<S.h:=by lia
 obtain⟨o,ho,hoz,hoa⟩:=outer kk (jv kk k.r6) hw hh
 obtain⟨fE,fC⟩:=wL k
 have fin:=Dg k hx0 hxw hyh
 rcases Bk g S.lines (by
   intro p q hpq hlt
   rcases hpq with h|h
   ·exact h
   ·have:=kk.line h;simp only at this;lia) (by
   intro l hl
   have:=kk.line hl
   exact⟨Jr hl,this.1⟩) z.x z.y with h|⟨u,w,huw,hlt,hyy,h⟩
 ·rw[h _ fE]at fin;cases fin
 ·rw[h _ fE fC]at fin
  have hl:(u,w)∈S.lines:=by
   rcases huw with q|q
   ·exact q
   ·have:=kk.line q;simp only at this;lia
  have oE:∀x∈orb S (u,w),(ab S).J x.1 x.2:=λx hx=>fu kk huw hx
  have p:=dt kk (e:=(u,w)) huw
  have oC:c8 (orb S (u,w)):=by
   rw[p.orb]
   exact gg _ _ (by rw[Jy,p.back];rfl)
  have hno:o∉orb S (u,w):=by
   intro hm
   have hm2:=dz kk (e:=(u,w)) huw hm
   obtain⟨j,hj⟩:=(eg kk ho).1 hm2
   have q:=mU g r fE fC ho j
   rw[<-hj,hoz _ fE fC]at q
   simp only at q
   rw[q]at fin
   cases fin
  have sees:∀x:az,(ab S).J x.1 x.2->(ab S).om (orb S (u,w)) x.1 x.2=decide (x∈orb S (u,w)):=by
   intro x hx
   have hz:=hoz (orb S (u,w)) oE oC
   rw[p.orb]at hno hz ⊢
   exact p9 g r huw p.pos p.back p.dist k.conn ho hz hno hx
  refine⟨(u,w),huw,yg k huw sees hl ?_ (ii kk huw),?_⟩
  ·simp only[ab]at hyy;simp only;lia
  ·rw[lT kk (e:=(u,w)) huw,h _ oE oC,sees (u,w) huw]
   exact dqt (ii kk huw)
theorem wC (k:cp S){z:Pt}(hw:0<S.w)(hh:0<S.h){e e':az}(he:(ab S).J e.1 e.2)(he':(ab S).J e'.1 e'.2)
  (a:0<twiceArea S (rnd S e)) (a':0<twiceArea S (rnd S e')) (i:insideOf S (rnd S e) z=true) (i':insideOf S (rnd S e') z=true):e'∈orb S e :=
 one_pane k hw hh he he' a a' i i' (λhx hy=>sV k.toKept hx hy)
end
section
variable  {S:Plan}
def bH (S:Plan):List az:=(HS S.pts.length).flatMap λi=>(aj S i).map λj=>(i,j)
theorem a9 (k:Kept S){e:az}:e∈bH S↔(ab S).J e.1 e.2:=by
 have g:=bw S k
 have r:=cI k
 unfold bH
 rw[J5]
 constructor
 ·rintro⟨i,hi,h⟩
  obtain⟨j,hj,rfl⟩:=HM.1 h
  exact r.mem.1 hj
 ·intro h
  exact⟨e.1,Ix.2 (g.lt h),HM.2 ⟨e.2,r.mem.2 h,rfl⟩⟩
def kt (S:Plan)(st:List az×List (List Nat))(e:az):List az×List (List Nat) :=
 if e∈st.1 then st else (st.1++orb S e,if 0<twiceArea S (rnd S e) then st.2++[rnd S e] else st.2)
def bN (S:Plan)(D:List az):List az×List (List Nat):=D.foldl (kt S) ([],[])
def cG (S:Plan):List (List Nat):=(bN S (bH S)).2
theorem gw (S:Plan)(D:List az)(e:az):bN S (D++[e])=kt S (bN S D) e:=by
 unfold bN
 rw[List.foldl_append]
 rfl
def Fst (S:Plan)(D:List az)(e:az):Prop:=∃a b,D=a++e :: b/\∀x∈a,e∉orb S x
structure xL (S:Plan)(D:List az)(st:List az×List (List Nat)):Prop where
 walked:∀x,x∈st.1↔∃e∈D,x∈orb S e
 mem:∀l,l∈st.2↔∃e,Fst S D e/\0<twiceArea S (rnd S e)/\l=rnd S e
 nd:st.2.Nodup
theorem gh {D:List az}{e x:az}:Fst S (D++[e]) x↔Fst S D x\/(x=e/\∀y∈D,e∉orb S y):=by
 constructor
 ·rintro⟨a,b,h,hn⟩
  rcases Kw b with hb|⟨b',y,hb⟩
  ·subst hb
   have:=List.append_inj' h rfl
   obtain⟨h1,h2⟩:=this
   have h2:e=x:=by simpa using h2
   subst h2 h1
   exact IP ⟨rfl,hn⟩
  ·left
   subst hb
   have h':D++[e]=(a++x :: b')++[y]:=by rw[h];simp
   have:=List.append_inj' h' rfl
   exact⟨a,b',this.1,hn⟩
 ·rintro(⟨a,b,h,hn⟩|⟨rfl,hn⟩)
  ·exact⟨a,b++[e],by rw[h];simp,hn⟩
  ·exact⟨D,[],rfl,hn⟩
theorem zI (k:Kept S){D:List az}{st:List az×List (List Nat)}(h:xL S D st)(hD:∀x∈D,(ab S).J x.1 x.2){e:az}(he:(ab S).J e.1 e.2):xL S (D++[e]) (kt S st e):=by
 unfold kt
 by_cases hw:e∈st.1
 ·rw[Hz hw]
  obtain⟨y,hy,hey⟩:=(h.walked e).1 hw
  refine⟨λx=>?_,λl=>?_,h.nd⟩
  ·rw[h.walked x]
   constructor
   ·rintro⟨z,hz,hx⟩;exact⟨z,by simp[hz],hx⟩
   ·rintro⟨z,hz,hx⟩
    rcases HU.1 hz with q|q
    ·exact⟨z,q,hx⟩
    ·have:z=e:=by simpa using q
     subst this
     exact⟨y,hy,eV k (hD y hy) hey hx⟩
  ·rw[h.mem l]
   constructor
   ·rintro⟨x,hx,q⟩;exact⟨x,gh.2 (Jr hx),q⟩
   ·rintro⟨x,hx,q⟩
    rcases gh.1 hx with q1|⟨rfl,q1⟩
    ·exact⟨x,q1,q⟩
    ·exact absurd hey (q1 y hy)
 ·rw[Hs hw]
  have hn:∀y∈D,e∉orb S y:=λy hy q=>hw ((h.walked e).2 ⟨y,hy,q⟩)
  refine⟨λx=>?_,λl=>?_,?_⟩
  ·rw[HU,h.walked x]
   constructor
   ·rintro(⟨z,hz,hx⟩|hx)
    ·exact⟨z,by simp[hz],hx⟩
    ·exact⟨e,by simp,hx⟩
   ·rintro⟨z,hz,hx⟩
    rcases HU.1 hz with q|q
    ·exact Jr ⟨z,q,hx⟩
    ·have:z=e:=by simpa using q
     subst this
     exact IP hx
  ·by_cases ha:0<twiceArea S (rnd S e)
   ·rw[Hz ha,HU,h.mem l]
    constructor
    ·rintro(⟨x,hx,q⟩|q)
     ·exact⟨x,gh.2 (Jr hx),q⟩
     ·exact⟨e,gh.2 (IP ⟨rfl,hn⟩),ha,by simpa using q⟩
    ·rintro⟨x,hx,q⟩
     rcases gh.1 hx with q1|⟨rfl,q1⟩
     ·exact Jr ⟨x,q1,q⟩
     ·exact IP (by simpa using q.2)
   ·rw[Hs ha,h.mem l]
    constructor
    ·rintro⟨x,hx,q⟩;exact⟨x,gh.2 (Jr hx),q⟩
    ·rintro⟨x,hx,q⟩
     rcases gh.1 hx with q1|⟨rfl,q1⟩
     ·exact⟨x,q1,q⟩
     ·exact absurd q.1 ha
  ·by_cases ha:0<twiceArea S (rnd S e)
   ·rw[Hz ha,JK]
    refine⟨h.nd,by simp,λl hl m hm q=>?_⟩
    have hm:m=rnd S e:=by simpa using hm
    subst hm q
    obtain⟨x,⟨a,b,hx,_⟩,_,e1⟩:=(h.mem _).1 hl
    have hxD:x∈D:=by rw[hx];simp
    have e2:orb S e=orb S x:=by rw[<-eK k he,<-eK k (hD x hxD),e1]
    exact hn x hxD (by rw[<-e2];exact ii k he)
   ·rw[Hs ha];exact h.nd
theorem iJ (k:Kept S):∀{D:List az},(∀x∈D,(ab S).J x.1 x.2)->xL S D (bN S D):=by
 intro D
 generalize hn:D.length=n
 induction n generalizing D with
 |zero =>
  intro _
  have:D=[]:=JD.1 hn
  subst this
  refine⟨λx=>?_,λl=>?_,List.nodup_nil⟩
  ·constructor
   ·intro h;cases h
   ·rintro⟨e,he,_⟩;cases he
  ·constructor
   ·intro h;cases h
   ·rintro⟨e,⟨a,b,h,_⟩,_⟩
    simp at h
 |succ n ih =>
  intro hD
  rcases Kw D with h|⟨D',e,h⟩
  ·subst h;simp at hn
  ·rw[K4]at h
   subst h
   rw[gw]
   exact zI k (ih (by simpa using hn) λx hx=>hD x (by simp[hx])) (λx hx=>hD x (by simp[hx])) (hD e (by simp))
theorem i5 {α:Type}[BEq α][LawfulBEq α]:∀(n:Nat) (l:List α),l.length<=n->l.eraseDups.Nodup
 |0,l,h=>by
  have:l=[]:=JD.1 (by lia)
  subst this
  simp
 |n+1,[],_=>by simp
 |n+1,a :: l,h=>by
  rw[List.eraseDups_cons,Ja]
  refine⟨λq=>?_,i5 n _ (by have:=JA (λb=>!b==a) l;simp at h;lia)⟩
  rw[List.mem_eraseDups,HZ]at q
  simp at q
theorem rY:(bH S).Pairwise (λx y=>x.1<=y.1):=by
 unfold bH
 generalize S.pts.length=n
 induction n with
 |zero=>exact Lj
 |succ n ih =>
  rw[Ki,KJ,IK]
  refine⟨ih,?_,?_⟩
  ·rw[List.flatMap_cons,List.flatMap_nil,Iq,Lk]
   exact List.pairwise_of_forall (λ_ _=>nlr _)
  ·intro x hx y hy
   obtain⟨i,hi,h⟩:=J5.1 hx
   obtain⟨j,hj,rfl⟩:=HM.1 h
   obtain⟨i',hi',h'⟩:=J5.1 hy
   obtain⟨j',hj',rfl⟩:=HM.1 h'
   have:=Ix.1 hi
   have:i'=n:=by simpa using hi'
   simp only
   lia
theorem kR (k:Kept S){e:az}(he:(ab S).J e.1 e.2):∃t,rnd S e=e.1 :: t:=by
 have p:=dt k he
 obtain⟨n,hn⟩:∃n,(rnd S e).length=n+1:=⟨(rnd S e).length-1,by have:=p.pos;lia⟩
 rw[p.rnd,hn]
 exact⟨_,rfl⟩
theorem vz (k:Kept S){e:az}(he:(ab S).J e.1 e.2){v:Nat}(h:v∈rnd S e):∃x∈orb S e,x.1=v:=by
 have p:=dt k he
 rw[p.rnd,<-p.orb]at h
 obtain⟨x,hx,e⟩:=HM.1 h
 exact⟨x,hx,e⟩
theorem iC (k:cp S){e:az}(h:Fst S (bH S) e):∃t,rnd S e=e.1 :: t/\∀x∈t,e.1<x:=by
 have kk:=k.toKept
 obtain⟨a,b,hD,hn⟩:=h
 have he:(ab S).J e.1 e.2:=(a9 kk).1 (by rw[hD];simp)
 obtain⟨t,ht⟩:=kR kk he
 refine⟨t,ht,λv hv=>?_⟩
 have nd:=jG k he
 rw[ht,Ja]at nd
 have hne:v≠e.1:=λq=>nd.1 (q▸hv)
 obtain⟨x,hx,hxv⟩:=vz kk he (v:=v) (by rw[ht];simp[hv])
 apply bcn
 intro hlt
 have hxD:x∈bH S:=(a9 kk).2 (fu kk he hx)
 have ord:=rY (S:=S)
 rw[hD,IK,Iy]at ord
 rw[hD]at hxD
 rcases HU.1 hxD with q|q
 ·exact hn x q (dz kk he hx)
 ·rcases Hq.1 q with q|q
  ·subst q;lia
  ·have:=ord.2.1.1 x q
   lia
theorem uZ (k:Kept S){e x:az}(he:(ab S).J e.1 e.2)(hx:x∈orb S e):∃j,j<(rnd S e).length/\rnd S x=(rnd S e).drop j++(rnd S e).take j:=by
 have p:=dt k he
 obtain⟨j,hj⟩:=(eg k he).1 hx
 rw[rh p.back p.pos]at hj
 refine⟨j % (rnd S e).length,Nat.mod_lt _ p.pos,?_⟩
 rw[hj]
 exact AK k he (Nat.mod_lt _ p.pos)
theorem jt (k:cp S)(l:List Nat):l∈cG S↔l∈S.outlines:=by
 have kk:=k.toKept
 have ok:=iJ kk (D:=bH S) (λx hx=>(a9 kk).1 hx)
 unfold cG
 rw[ok.mem]
 unfold Plan.outlines
 rw[HZ,List.mem_eraseDups,HM]
 constructor
 ·rintro⟨e,hf,ha,rfl⟩
  obtain⟨t,ht,hm⟩:=iC k hf
  obtain⟨a,b,hD,_⟩:=hf
  have he:(ab S).J e.1 e.2:=(a9 kk).1 (by rw[hD];simp)
  refine⟨⟨e,g9.2 he,?_⟩,dqt ha⟩
  show fromLeast (rnd S e)=rnd S e
  have:=dZ hm (j:=0) (by simp)
  rw[ht]
  simpa using this
 ·rintro⟨⟨e',hw,rfl⟩,ha⟩
  have he':(ab S).J e'.1 e'.2:=g9.1 (by obtain⟨x,y⟩:=e';exact hw)
  have ha:0<twiceArea S (fromLeast (rnd S e')):=Hk ha
  obtain⟨a,e,b,hD,he,hn⟩:∃a e b,bH S=a++e :: b/\e∈orb S e'/\∀x∈a,x∉orb S e':=by
   have h0:e'∈bH S:=(a9 kk).2 he'
   have h1:=ii kk he'
   generalize bH S=D at h0
   induction D with
   |nil=>cases h0
   |cons y r ih =>
    by_cases hy:y∈orb S e'
    ·exact⟨[],y,r,rfl,hy,λx hx=>by cases hx⟩
    ·have:e'∈r:=(Hq.1 h0).resolve_left (λq=>hy (q▸h1))
     obtain⟨a,e,b,h2,h3,h4⟩:=ih this
     refine⟨y :: a,e,b,by rw[h2];rfl,h3,λx hx=>?_⟩
     rcases Hq.1 hx with q|q
     ·rw[q];exact hy
     ·exact h4 x q
  have hej:=fu kk he' he
  have hf:Fst S (bH S) e:=⟨a,b,hD,λx hx q=>by
   have hxj:(ab S).J x.1 x.2:=(a9 kk).1 (by rw[hD];simp[hx])
   exact hn x hx (eV kk he' he (dz kk hxj q))⟩
  obtain⟨t,ht,hm⟩:=iC k hf
  obtain⟨j,hj,hr⟩:=uZ kk hej (dz kk he' he)
  have e1:fromLeast (rnd S e')=rnd S e:=by
   rw[hr,ht]
   exact dZ hm (by rw[<-ht];exact hj)
  have e1':fromLeast (S.round (2*S.lines.length+1) e' e')=rnd S e:=e1
  exact⟨e,hf,by rw[<-e1];exact ha,e1'⟩
theorem iR (k:Kept S):(cG S).Nodup:=(iJ k (D:=bH S) (λx hx=>(a9 k).1 hx)).nd
theorem n0 (S:Plan):S.outlines.Nodup:=(i5 _ _ (nlr _)).filter _
theorem tK (k:cp S):(cG S).length=S.outlines.length:=by
 have h1:=bv (iR k.toKept) (λx hx=>(jt k x).1 hx)
 have h2:=bv (n0 S) (λx hx=>(jt k x).2 hx)
 lia
theorem gp (k:cp S){l:List Nat}(h:l∈cG S):∃e:az,(ab S).J e.1 e.2/\0<twiceArea S (rnd S e)/\l=rnd S e:=by
 have kk:=k.toKept
 have ok:=iJ kk (D:=bH S) (λx hx=>(a9 kk).1 hx)
 obtain⟨e,⟨a,b,hD,_⟩,ha,hl⟩:=(ok.mem l).1 h
 exact⟨e,(a9 kk).1 (by rw[hD];simp),ha,hl⟩
theorem xO (k:cp S){z:Pt}(hz:clear S z=true):∃h,∃(hh:h<(cG S).length),S.among S.outlines z=some (cG S)[h]/\insideOf S (cG S)[h] z=true /\
  ∀j (hj:j<(cG S).length),insideOf S (cG S)[j] z=true->j=h:=by
 have kk:=k.toKept
 have hz':=hz
 unfold clear at hz'
 simp only[Hu,Hv]at hz'
 obtain⟨z1,z2,z3,z4,_⟩:=hz'
 have hw:0<S.w:=by lia
 have hh:0<S.h:=by lia
 obtain⟨e,he,ha,hi⟩:=xw k z1 z2 z4
 have uniq:∀l∈cG S,∀m∈cG S,insideOf S l z=true->insideOf S m z=true->l=m:=by
  intro l hl m hm il im
  have ok:=iJ kk (D:=bH S) (λx hx=>(a9 kk).1 hx)
  obtain⟨x,hx,ax,rfl⟩:=(ok.mem l).1 hl
  obtain⟨y,hy,ay,rfl⟩:=(ok.mem m).1 hm
  obtain⟨t1,h1,m1⟩:=iC k hx
  obtain⟨t2,h2,m2⟩:=iC k hy
  obtain⟨a1,b1,d1,n1⟩:=hx
  obtain⟨a2,b2,d2,n2⟩:=hy
  have xj:(ab S).J x.1 x.2:=(a9 kk).1 (by rw[d1];simp)
  have yj:(ab S).J y.1 y.2:=(a9 kk).1 (by rw[d2];simp)
  have hm:=wC k hw hh xj yj ax ay il im
  obtain⟨j,hj,hr⟩:=uZ kk xj hm
  have:fromLeast (rnd S y)=rnd S x:=by
   rw[hr,h1]
   exact dZ m1 (by rw[<-h1];exact hj)
  have e2:=dZ m2 (j:=0) (by simp)
  rw[h2]at this
  rw[<-this,h2]
  have e3:fromLeast (y.1 :: t2)=y.1 :: t2:=by simpa using e2
  exact e3
 have ex:∃l∈cG S,insideOf S l z=true:=by
  have hl:fromLeast (rnd S e)∈S.outlines:=by
   unfold Plan.outlines
   rw[HZ,List.mem_eraseDups,HM]
   refine⟨⟨e,g9.2 he,rfl⟩,?_⟩
   have q:∃x∈orb S e,fromLeast (rnd S e)=rnd S x:=by
    obtain⟨a,x,b,hD,hx,hn⟩:∃a x b,bH S=a++x :: b/\x∈orb S e/\∀y∈a,y∉orb S e:=by
     have h0:e∈bH S:=(a9 kk).2 he
     have h1:=ii kk he
     generalize bH S=D at h0
     induction D with
     |nil=>cases h0
     |cons y r ih =>
      by_cases hy:y∈orb S e
      ·exact⟨[],y,r,rfl,hy,λx hx=>by cases hx⟩
      ·have:e∈r:=(Hq.1 h0).resolve_left (λq=>hy (q▸h1))
       obtain⟨a,x,b,h2,h3,h4⟩:=ih this
       refine⟨y :: a,x,b,by rw[h2];rfl,h3,λv hv=>?_⟩
       rcases Hq.1 hv with q|q
       ·rw[q];exact hy
       ·exact h4 v q
    have hxj:=fu kk he hx
    have hf:Fst S (bH S) x:=⟨a,b,hD,λy hy q=>by
     have hyj:(ab S).J y.1 y.2:=(a9 kk).1 (by rw[hD];simp[hy])
     exact hn y hy (eV kk he hx (dz kk hyj q))⟩
    obtain⟨t,ht,hm⟩:=iC k hf
    obtain⟨j,hj,hr⟩:=uZ kk hxj (dz kk he hx)
    refine⟨x,hx,?_⟩
    rw[hr,ht]
    exact dZ hm (by rw[<-ht];exact hj)
   obtain⟨x,hx,hq⟩:=q
   rw[hq,sV kk he hx]
   exact dqt ha
  have hlo:=(jt k _).2 hl
  refine⟨_,hlo,?_⟩
  obtain⟨x,xj,ax,hx⟩:=gp k hlo
  have q:x∈orb S e\/True:=IP trivial
  have hrot:∃a b,rnd S e=a++b/\fromLeast (rnd S e)=b++a:=by
   generalize rnd S e=r
   cases r with
   |nil=>exact⟨[],[],rfl,rfl⟩
   |cons a r =>
    refine⟨(a :: r).take ((a :: r).idxOf (r.foldl min a)),(a :: r).drop ((a :: r).idxOf (r.foldl min a)),(List.take_append_drop _ _).symm,rfl⟩
  obtain⟨a,b,h1,h2⟩:=hrot
  rw[h2]
  rw[h1]at hi
  have pr:∀(a b:List Nat),(prs (a++b)).Perm (prs (b++a)):=by
   intro a b
   unfold prs
   cases a with
   |nil=>rw[JF,Iq]
   |cons x a =>
    cases b with
    |nil=>rw[JF,Iq]
    |cons y b =>
     have c1:((x :: a)++(y :: b)).zip (((x :: a)++(y :: b)).drop 1++((x :: a)++(y :: b)).take 1)=(x :: a).zip (a++[y])++(y :: b).zip (b++[x]):=by
      have:((x :: a)++(y :: b)).drop 1++((x :: a)++(y :: b)).take 1=(a++[y])++(b++[x]):=by simp
      rw[this,List.zip_append (by simp)]
     have c2:((y :: b)++(x :: a)).zip (((y :: b)++(x :: a)).drop 1++((y :: b)++(x :: a)).take 1)=(y :: b).zip (b++[x])++(x :: a).zip (a++[y]):=by
      have:((y :: b)++(x :: a)).drop 1++((y :: b)++(x :: a)).take 1=(b++[x])++(a++[y]):=by simp
      rw[this,List.zip_append (by simp)]
     rw[c1,c2]
     exact List.perm_append_comm
  have ins:∀l m:List Nat,(prs l).Perm (prs m)->insideOf S l z=insideOf S m z:=by
   intro l m hp
   unfold insideOf
   have:(l.zip (l.drop 1++l.take 1)).Perm (m.zip (m.drop 1++m.take 1)):=hp
   rw[(this.filter _).length_eq]
  rw[ins _ _ (pr b a)]
  exact hi
 obtain⟨l,hl,hin⟩:=ex
 obtain⟨h,hh,hlh⟩:=Ib hl
 refine⟨h,hh,?_,by rw[hlh];exact hin,λj hj q=>?_⟩
 ·unfold Plan.among
  rw[Hz hz,hlh]
  cases hf:S.outlines.find? λ(l:List Nat)=>insideOf S l z with
  |none =>
   have:=Kv.1 hf l ((jt k l).1 hl)
   rw[hin]at this
   exact absurd rfl this
  |some m =>
   have h1:=List.find?_some hf
   have h2:=List.mem_of_find?_eq_some hf
   rw[uniq m ((jt k m).2 h2) l hl h1 hin]
 ·have e:=uniq _ (HP hj) _ hl q hin
  have nd:=iR kk
  exact(List.getElem_inj nd).1 (e.trans hlh.symm)
end
theorem eS {α:Type}{p:Nat->α->Bool}{l:List α}{k:Nat}(hk:k<l.length)(h:p k l[k]=true)(hb:∀j (hj:j<k),p j (l[j]'(by lia))=false):firstAt p l=some k:=by
 unfold firstAt
 have:(l.zipIdx.find? λ(x:α×Nat)=>p x.2 x.1)=some (l[k],k):=by
  rw[KG]
  refine⟨h,k,by rw[List.length_zipIdx];exact hk,by rw[List.getElem_zipIdx];simp,λj hj=>?_⟩
  rw[List.getElem_zipIdx]
  simp only[Jy]
  rw[hb j hj]
  rfl
 rw[this]
 rfl
theorem d4 {α:Type}{p:Nat->α->Bool}{l:List α}(hb:∀j (hj:j<l.length),p j l[j]=false):firstAt p l=none:=by
 unfold firstAt
 rw[Option.map_eq_none_iff,Kv]
 intro x hx
 obtain⟨i,hi,rfl⟩:=Ib hx
 rw[List.getElem_zipIdx]
 simp only[Jy]
 rw[List.length_zipIdx]at hi
 rw[hb i hi]
 simp
theorem j0 {p:Nat->Bool}{n k:Nat}(hk:k<n)(h:p k=true)(hb:∀j,j<k->p j=false):(HS n).find? p=some k:=by
 rw[KG]
 refine⟨h,k,by rw[IX];exact hk,by rw[List.getElem_range],λj hj=>?_⟩
 rw[List.getElem_range,hb j hj]
 rfl
theorem jz {p:Nat->Bool}{n:Nat}(hb:∀j,j<n->p j=false):(HS n).find? p=none:=by
 rw[Kv]
 intro x hx
 rw[hb x (Ix.1 hx)]
 simp
def cv {α:Type}(ok:α->Bool)(before:α->α->Bool)(l:List α)(i:Nat)(x:α):Bool:=!ok x||(decide (0<i)&&(match l[i-1]? with
 |some y=>!before y x
 |none=>false))
theorem eu {α:Type}(ok:α->Bool)(before:α->α->Bool)(l:List α):firstBad ok before l=firstAt (cv ok before l) l:=rfl
theorem jX {α:Type}{ok:α->Bool}{before:α->α->Bool}{l:List α}{x:α}:cv ok before l 0 x=!ok x:=by
 unfold cv
 simp
theorem jY {α:Type}{ok:α->Bool}{before:α->α->Bool}{l:List α}{i:Nat}(hi:i<l.length){x:α}:cv ok before l (i+1) x=(!ok x||!before l[i] x):=by
 unfold cv
 rw[dqt (by lia),Jn,show i+1-1=i by lia,gge hi]
section
variable  {S:Plan}
def R4 (S:Plan):Prop:=firstBad (λ(p:Pt)=>decide (p.x<=S.w)&&decide (p.y<=S.h)) Pt.below S.pts=none
def R5 (S:Plan):Prop:=firstBad (λ(l:Nat×Nat)=>decide (l.1<l.2)&&decide (l.2<S.pts.length)) lineBelow S.lines=none
theorem R4.ord (h:R4 S){i j:Nat}(hij:i<j)(hj:j<S.pts.length):(S.pt i).y<(S.pt j).y\/((S.pt i).y=(S.pt j).y/\(S.pt i).x<(S.pt j).x):=by
 have q:=chain_lt (R:=Pt.below) (λh1 h2=>mo h1 h2) (cw h).2 i j hij hj
 rw[bO S hj,bO S (by lia:i<S.pts.length)]
 exact(fe _ _).1 q
theorem R5.line (h:R5 S){l:Nat×Nat}(hl:l∈S.lines):l.1<l.2/\l.2<S.pts.length:=by
 have:=(cw h).1 l hl
 simpa using this
theorem um (h4:R4 S){p q j:Nat}(hpq:p<q)(hq:q<S.pts.length)(hj:j<S.pts.length)(h1:j≠p)(h2:j≠q)(hon:isOn (S.pt p) (S.pt q) (S.pt j)=true):p<j/\j<q:=by
 unfold isOn between at hon
 simp only[Hu,JW,Hv]at hon
 obtain⟨ht,⟨hx1,hx2⟩,hy1,hy2⟩:=hon
 have o:=h4.ord hpq hq
 unfold turn dx dy at ht
 constructor
 ·apply bcn
  intro hn
  have oj:=h4.ord (i:=j) (j:=p) (by lia) (by lia)
  have ey:(S.pt j).y=(S.pt p).y:=by lia
  have exl:(S.pt j).x<(S.pt p).x:=by lia
  rcases o with o|o
  ·rw[ey]at ht
   have:(((S.pt q).y:Int)-((S.pt p).y:Int))*(((S.pt p).x:Int)-((S.pt j).x:Int))=0:=by grind
   have:0<(((S.pt q).y:Int)-((S.pt p).y:Int))*(((S.pt p).x:Int)-((S.pt j).x:Int)):=HH (by lia) (by lia)
   lia
  ·lia
 ·apply bcn
  intro hn
  have oj:=h4.ord (i:=q) (j:=j) (by lia) hj
  have ey:(S.pt j).y=(S.pt q).y:=by lia
  have exl:(S.pt q).x<(S.pt j).x:=by lia
  rcases o with o|o
  ·rw[ey]at ht
   have:(((S.pt q).y:Int)-((S.pt p).y:Int))*(((S.pt j).x:Int)-((S.pt q).x:Int))=0:=by grind
   have:0<(((S.pt q).y:Int)-((S.pt p).y:Int))*(((S.pt j).x:Int)-((S.pt q).x:Int)):=HH (by lia) (by lia)
   lia
  ·lia
theorem wB (h4:R4 S){p q r s:Nat}(hpq:p<q)(hq:q<S.pts.length)(hrs:r<s)(hs:s<S.pts.length)(hc:crosses (S.pt p) (S.pt q) (S.pt r) (S.pt s)=true):p<s:=by
 apply bcn
 intro hn
 have o1:=h4.ord hpq hq
 have o2:=h4.ord hrs hs
 have o3:(S.pt s).y<=(S.pt p).y:=by
  by_cases e:s=p
  ·rw[e];exact nlr _
  ·have:=h4.ord (i:=s) (j:=p) (by lia) (by lia)
   lia
 unfold crosses at hc
 simp only[Hu,Hv]at hc
 obtain⟨c1,c2⟩:=hc
 unfold turn dx dy at c1 c2
 have y1:(S.pt p).y<=(S.pt q).y:=by lia
 have y2:(S.pt r).y<=(S.pt s).y:=by lia
 generalize hpx:((S.pt p).x:Int)=px at *
 generalize hqx:((S.pt q).x:Int)=qx at *
 generalize hrx:((S.pt r).x:Int)=rx at *
 generalize hsx:((S.pt s).x:Int)=sx at *
 have y1':((S.pt p).y:Int)<=((S.pt q).y:Int):=by lia
 have y2':((S.pt r).y:Int)<=((S.pt s).y:Int):=by lia
 have y3':((S.pt s).y:Int)<=((S.pt p).y:Int):=by lia
 generalize ((S.pt p).y:Int)=py at *
 generalize ((S.pt q).y:Int)=qy at *
 generalize ((S.pt r).y:Int)=ry at *
 generalize ((S.pt s).y:Int)=sy at *
 have fin:∀(fr fs hp hq:Int),fr=(qx-px)*(ry-qy)-(qy-py)*(rx-qx)->fs=(qx-px)*(sy-qy)-(qy-py)*(sx-qx)->hp=(sx-rx)*(py-sy)-(sy-ry)*(px-sx)->hq=(sx-rx)*(qy-sy)-(sy-ry)*(qx-sx)->fr*fs<0->hp*hq<0->False:=by
  intro fr fs hp hq e1 e2 e3 e4 m1 m2
  have i1:fs*ry-fr*sy=hp*qy-hq*py:=by rw[e1,e2,e3,e4];grind
  have i2:fs-fr=hp-hq:=by rw[e1,e2,e3,e4];grind
  have i3:fs-fr=(qx-px)*(sy-ry)-(qy-py)*(sx-rx):=by rw[e1,e2];grind
  have sg:(0<fs/\fr<0/\0<hp/\hq<0)\/(fs<0/\0<fr/\hp<0/\0<hq):=by
   have s1:(0<fs/\fr<0)\/(fs<0/\0<fr):=by
    rcases Int.lt_trichotomy fs 0 with h|h|h
    ·right
     refine⟨h,?_⟩
     apply bcn;intro q
     have:0<=(-fr)*(-fs):=Ht (by lia) (by lia)
     grind
    ·rw[h]at m1;simp at m1
    ·left
     refine⟨h,?_⟩
     apply bcn;intro q
     have:0<=fr*fs:=Ht (by lia) (by lia)
     lia
   have s2:(0<hp/\hq<0)\/(hp<0/\0<hq):=by
    rcases Int.lt_trichotomy hp 0 with h|h|h
    ·right
     refine⟨h,?_⟩
     apply bcn;intro q
     have:0<=(-hp)*(-hq):=Ht (by lia) (by lia)
     grind
    ·rw[h]at m2;simp at m2
    ·left
     refine⟨h,?_⟩
     apply bcn;intro q
     have:0<=hp*hq:=Ht (by lia) (by lia)
     lia
   rcases s1 with s1|s1<;>rcases s2 with s2|s2
   ·exact Jr ⟨s1.1,s1.2,s2.1,s2.2⟩
   ·lia
   ·lia
   ·exact IP ⟨s1.1,s1.2,s2.1,s2.2⟩
  have j1:fs*(sy-ry)+hp*(qy-py)+(fs-fr)*(py-sy)=0:=by grind
  rcases sg with⟨g1,g2,g3,g4⟩|⟨g1,g2,g3,g4⟩
  ·have a1:0<=fs*(sy-ry):=Ht (by lia) (by lia)
   have a2:0<=hp*(qy-py):=Ht (by lia) (by lia)
   have a3:0<=(fs-fr)*(py-sy):=Ht (by lia) (by lia)
   have z1:sy-ry=0:=by
    rcases JS.1 (by omega:fs*(sy-ry)=0) with h|h<;>omega
   have z2:qy-py=0:=by
    rcases JS.1 (by omega:hp*(qy-py)=0) with h|h<;>omega
   rw[z1,z2]at i3
   simp at i3
   lia
  ·have a1:0<=(-fs)*(sy-ry):=Ht (by lia) (by lia)
   have a2:0<=(-hp)*(qy-py):=Ht (by lia) (by lia)
   have a3:0<=(-(fs-fr))*(py-sy):=Ht (by lia) (by lia)
   have b1:(-fs)*(sy-ry)=- (fs*(sy-ry)):=by grind
   have b2:(-hp)*(qy-py)=- (hp*(qy-py)):=by grind
   have b3:(-(fs-fr))*(py-sy)=- ((fs-fr)*(py-sy)):=by grind
   have z1:sy-ry=0:=by
    rcases JS.1 (by omega:fs*(sy-ry)=0) with h|h<;>omega
   have z2:qy-py=0:=by
    rcases JS.1 (by omega:hp*(qy-py)=0) with h|h<;>omega
   rw[z1,z2]at i3
   simp at i3
   lia
 exact fin _ _ _ _ rfl rfl rfl rfl c1 c2
def oZ (S:Plan)(l:Nat×Nat):Bool:=(HS S.pts.length).any λk=>decide (l.1<k)&&(decide (k<l.2)&&isOn (S.pt l.1) (S.pt l.2) (S.pt k))
def kh (S:Plan)(i:Nat)(l:Nat×Nat):Bool:=(S.lines.take i).any λm=>decide (l.1<m.2)&&crosses (S.pt l.1) (S.pt l.2) (S.pt m.1) (S.pt m.2)
theorem yF (h4:R4 S)(h5:R5 S)(i:Nat){l:Nat×Nat}(hl:l∈S.lines):touches S i l=(oZ S l||kh S i l):=by
 obtain⟨l1,l2⟩:=h5.line hl
 unfold touches oZ kh
 congr 1
 ·rw[Ip,Jt,Jt]
  constructor
  ·rintro⟨k,hk,h⟩
   simp only[Hu,bne_iff_ne,ne_eq]at h
   obtain⟨a,b⟩:=um h4 l1 l2 (Ix.1 hk) h.1 h.2.1 h.2.2
   exact⟨k,hk,by simp[a,b,h.2.2]⟩
  ·rintro⟨k,hk,h⟩
   simp only[Hu,Hv]at h
   exact⟨k,hk,by simp only[Hu,bne_iff_ne,ne_eq];exact⟨by lia,by lia,h.2.2⟩⟩
 ·rw[Ip,Jt,Jt]
  constructor
  ·rintro⟨m,hm,h⟩
   obtain⟨m1,m2⟩:=h5.line (Jd hm)
   exact⟨m,hm,by rw[Hu];exact⟨dqt (wB h4 l1 l2 m1 m2 h),h⟩⟩
  ·rintro⟨m,hm,h⟩
   rw[Hu]at h
   exact⟨m,hm,h.2⟩
end
def fK (a:List Nat×Array Bool)(j:Nat):List Nat×Array Bool:=if a.2.getD j true=true then a else (j :: a.1,a.2.setIfInBounds j true)
theorem uu (near:Array (List Nat))(m:Nat)(seen:Array Bool):spread near m [] seen=seen:=by
 cases m<;>rfl
theorem tO (near:Array (List Nat))(m k:Nat)(r:List Nat)(seen:Array Bool):spread near (m+1) (k :: r) seen=spread near m ((near.getD k []).foldl fK (r,seen)).1 ((near.getD k []).foldl fK (r,seen)).2:=rfl
def fG (a:Array Bool):Nat:=a.toList.count false
theorem jJ:∀{l:List Bool} {j:Nat},l[j]? = some false->(l.set j true).count false+1=l.count false
 |[],_,h=>by simp at h
 |a :: l,0,h=>by
  have:a=false:=by simpa using h
  subst this
  simp
 |a :: l,j+1,h=>by
  have ih:=jJ (l:=l) (j:=j) (by simpa using h)
  rw[List.set_cons_succ,List.count_cons,List.count_cons]
  lia
theorem uL {a:Array Bool}{j:Nat}(h:¬a.getD j true=true):a.toList[j]? = some false/\j<a.size:=by
 unfold Array.getD at h
 by_cases c:j<a.size
 ·rw[dif_pos c]at h
  refine⟨?_,c⟩
  rw[gge (by simpa using c)]
  simp only[Array.getElem_toList]
  congr 1
  cases q:a[j] with
  |false=>rfl
  |true=>exact absurd q h
 ·rw[dif_neg c]at h
  exact absurd rfl h
theorem xQ (a:List Nat×Array Bool)(j:Nat):(fK a j).1.length+fG (fK a j).2=a.1.length+fG a.2:=by
 unfold fK
 by_cases h:a.2.getD j true=true
 ·rw[Hz h]
 ·rw[Hs h]
  obtain⟨h1,h2⟩:=uL h
  have:=jJ h1
  unfold fG
  rw[Kl]
  simp only[HW]
  lia
theorem lG:∀(l:List Nat) (a:List Nat×Array Bool),(l.foldl fK a).1.length+fG (l.foldl fK a).2=a.1.length+fG a.2
 |[],_=>rfl
 |j :: l,a=>by rw[Kh,lG l,xQ]
section
variable  {S:Plan}
theorem na {all:List (List Nat)}:∀{l:List Mark} {i:Nat} {had:List (Option (List Nat))} {k:Nat} (hk:k<l.length),((((l.take k).map λm=>S.among all m.at_).reverse++had).contains (S.among all (l[k]).at_)=true) ->
  (∀j (hj:j<k),(((l.take j).map λm=>S.among all m.at_).reverse++had).contains (S.among all (l[j]'(by lia)).at_)=false)->twice S all i had l=some (i+k)
 |[],_,_,_,hk,_,_=>by simp at hk
 |m :: r,i,had,0,hk,h,_=>by
  unfold twice
  have h:had.contains (S.among all m.at_)=true:=by simpa using h
  simp only
  rw[Hz h]
  rfl
 |m :: r,i,had,k+1,hk,h,hb=>by
  have h0:had.contains (S.among all m.at_)=false:=by simpa using hb 0 (by lia)
  unfold twice
  simp only
  rw[Hs (by rw[h0];decide)]
  have:=na (l:=r) (i:=i+1) (had:=S.among all m.at_ :: had) (k:=k) (by simpa using hk) (by simpa using h) (λj hj=>by
   have:=hb (j+1) (by lia)
   simpa using this)
  rw[this]
  congr 1
  lia
theorem lY {all:List (List Nat)}:∀{l:List Mark} {i:Nat} {had:List (Option (List Nat))},
  (∀j (hj:j<l.length),(((l.take j).map λm=>S.among all m.at_).reverse++had).contains (S.among all (l[j]).at_)=false)->twice S all i had l=none
 |[],_,_,_=>rfl
 |m :: r,i,had,hb=>by
  have h0:had.contains (S.among all m.at_)=false:=hb 0 (Nat.zero_lt_succ _)
  unfold twice
  simp only
  rw[Hs (by rw[h0];decide)]
  exact lY (l:=r) (λj hj=>by
   have:=hb (j+1) (by simpa using hj)
   simpa using this)
end
end WL
end
section
namespace CM
open Gla
def ur (l:List Int):Int:=l.foldr (λb n=>256*n+b) 0
def rd (ns:List Int)(p w:Nat):Int:=ur ((ns.drop p).take w)
def toB (ns:List Int):List UInt8:=ns.map λz=>UInt8.ofNat z.toNat
def Byt (ns:List Int):Prop:=∀z∈ns,0<=z/\z<=255
theorem vF {z:Int}(h:0<=z/\z<=255):(((UInt8.ofNat z.toNat).toNat:Nat):Int)=z:=by
 have:(UInt8.ofNat z.toNat).toNat=z.toNat:=by
  rw[UInt8.toNat_ofNat']
  lia
 rw[this]
 lia
theorem wk:∀{l:List Int},Byt l->ur l=((numLe (toB l):Nat):Int)
 |[],_=>rfl
 |z :: l,h=>by
  have ih:=wk (l:=l) λy hy=>h y (Ho _ hy)
  have hz:=vF (h z HD)
  show 256*ur l+z=(((UInt8.ofNat z.toNat).toNat+256*numLe (toB l):Nat):Int)
  rw[ih,Int.natCast_add,hz,Int.natCast_mul]
  lia
theorem Byt.sub {ns:List Int}(h:Byt ns)(p w:Nat):Byt ((ns.drop p).take w):=λz hz=>h z (J7 (Jd hz))
theorem db {ns:List Int}(h:Byt ns)(p w:Nat):rd ns p w=((num (toB ns) p w:Nat):Int):=by
 unfold rd num
 rw[wk (h.sub p w)]
 unfold toB
 rw[Kq,Lh]
theorem rQ:∀(l:List UInt8),numLe l<256 ^ l.length
 |[]=>by simp[numLe]
 |c :: r=>by
  have:=rQ r
  have hc:=c.toNat_lt
  rw[numLe,HW,Nat.pow_succ]
  have:c.toNat+256*numLe r<256*(numLe r+1):=by lia
  have:256*(numLe r+1)<=256*256 ^ r.length:=Nat.mul_le_mul_left _ (by lia)
  lia
theorem qD (b:List UInt8)(p w:Nat):num b p w<256 ^ w:=by
 unfold num
 have h:=rQ ((b.drop p).take w)
 have:((b.drop p).take w).length<=w:=by rw[Iv];lia
 exact HV h (Nat.pow_le_pow_right (by lia) this)
theorem ue {ns:List Int}(h:Byt ns)(p:Nat):0<=rd ns p 2/\rd ns p 2<65536:=by
 have:=qD (toB ns) p 2
 rw[db h]
 lia
def eW (ns:List Int)(r:List Int):Bool:=decide (r.getD 2 0<=rd ns (r.getD 0 0).toNat (r.getD 1 0).toNat)&&decide (rd ns (r.getD 0 0).toNat (r.getD 1 0).toNat<=r.getD 3 0)
def told (ns:List Int):Int:=20+8*rd ns 12 2+4*rd ns 14 2+12*rd ns 16 2
def dU (ns:List Int):Option (Int×Int):=if ns.length<20 then some (1,(ns.length:Int)) else if ns.take 4≠j5 then some (1,0) else match fA.find? (λr=>!eW ns r) with
 |some r=>some (2,r.getD 0 0)
 |none=>if (ns.length:Int)≠told ns then some (3,20) else none
theorem va {ns:List Int}(h:Byt ns):(toB ns).take 4=MAGIC↔ns.take 4=j5:=by
 have e:(toB ns).take 4=toB (ns.take 4):=by unfold toB;rw[Kq]
 have hb:Byt (ns.take 4):=λz hz=>h z (Jd hz)
 rw[e]
 constructor
 ·intro q
  have:((toB (ns.take 4)).map λc:UInt8=>((c.toNat:Nat):Int))=j5:=by rw[q];rfl
  rw[<-this]
  unfold toB
  rw[JH]
  conv=>lhs;rw[<-List.map_id (ns.take 4)]
  apply II
  intro z hz
  exact(vF (hb z hz)).symm
 ·intro q
  rw[q]
  rfl
def fJ (b:List UInt8):Option Fault :=
 if b.length<HEAD then some ⟨1,b.length⟩
 else if b.take 4≠MAGIC then some ⟨1,0⟩
 else if within SMALLEST LARGEST (num b 4 4)=false then some ⟨2,4⟩
 else if within SMALLEST LARGEST (num b 8 4)=false then some ⟨2,8⟩
 else if within 4 POINTS (num b 12 2)=false then some ⟨2,12⟩
 else if within 4 LINES (num b 14 2)=false then some ⟨2,14⟩
 else if within 1 MARKS (num b 16 2)=false then some ⟨2,16⟩
 else if num b 18 2≠0 then some ⟨2,18⟩
 else if b.length≠HEAD+8*num b 12 2+4*num b 14 2+12*num b 16 2 then some ⟨3,HEAD⟩ else none
theorem nX (b:List UInt8):judgePlan b=match fJ b with
  |some e=>.error e
  |none=>match (parts b).fault with
   |some e=>.error e
   |none=>.ok (parts b):=by
 unfold judgePlan fJ
 repeat' split
 all_goals first|rfl|simp_all
theorem eQ {a c n:Nat}{z:Int}(hz:z=(n:Int)):within a c n=(decide ((a:Int)<=z)&&decide (z<=(c:Int))):=by
 unfold within
 subst hz
 congr 1
 ·rw[HK];lia
 ·rw[HK];lia
theorem jE {ns:List Int}(h:Byt ns):dU ns=(fJ (toB ns)).map λe=>((e.rule:Int),(e.place:Int)):=by
 have hl:(toB ns).length=ns.length:=by unfold toB;rw[lmp]
 unfold dU fJ
 rw[hl]
 by_cases c1:ns.length<20
 ·rw[Hz c1,Hz (show ns.length<HEAD from c1)]
  rfl
 ·rw[Hs c1,Hs (show ¬ns.length<HEAD from c1)]
  by_cases c2:ns.take 4=j5
  ·rw[Hs (show ¬ns.take 4≠j5 from λq=>q c2),Hs (show ¬(toB ns).take 4≠MAGIC from λq=>q ((va h).2 c2))]
   have w1:=eQ (a:=SMALLEST) (c:=LARGEST) (db h 4 4)
   have w2:=eQ (a:=SMALLEST) (c:=LARGEST) (db h 8 4)
   have w3:=eQ (a:=4) (c:=POINTS) (db h 12 2)
   have w4:=eQ (a:=4) (c:=LINES) (db h 14 2)
   have w5:=eQ (a:=1) (c:=MARKS) (db h 16 2)
   have o1:eW ns [4,4,16,1048575]=within SMALLEST LARGEST (num (toB ns) 4 4):=by rw[w1];rfl
   have o2:eW ns [8,4,16,1048575]=within SMALLEST LARGEST (num (toB ns) 8 4):=by rw[w2];rfl
   have o3:eW ns [12,2,4,4096]=within 4 POINTS (num (toB ns) 12 2):=by rw[w3];rfl
   have o4:eW ns [14,2,4,8192]=within 4 LINES (num (toB ns) 14 2):=by rw[w4];rfl
   have o5:eW ns [16,2,1,2048]=within 1 MARKS (num (toB ns) 16 2):=by rw[w5];rfl
   have o6:eW ns [18,2,0,0]=decide (num (toB ns) 18 2=0):=by
    show(decide ((0:Int)<=rd ns 18 2)&&decide (rd ns 18 2<=0))=_
    rw[db h,<-Bool.decide_and,HK]
    lia
   unfold fA
   simp only[JC,List.find?_nil,o1,o2,o3,o4,o5,o6]
   cases within SMALLEST LARGEST (num (toB ns) 4 4) with
   |false=>rfl
   |true =>
    cases within SMALLEST LARGEST (num (toB ns) 8 4) with
    |false=>rfl
    |true =>
     cases within 4 POINTS (num (toB ns) 12 2) with
     |false=>rfl
     |true =>
      cases within 4 LINES (num (toB ns) 14 2) with
      |false=>rfl
      |true =>
       cases within 1 MARKS (num (toB ns) 16 2) with
       |false=>rfl
       |true =>
        by_cases c6:num (toB ns) 18 2=0
        ·simp only[c6,decide_true,Bool.not_true,ne_eq,not_true_eq_false,Lf,Bool.true_eq_false]
         have e:told ns=((HEAD+8*num (toB ns) 12 2+4*num (toB ns) 14 2+12*num (toB ns) 16 2:Nat):Int):=by
          unfold told HEAD
          rw[db h,db h,db h]
          lia
         rw[e]
         by_cases c7:ns.length=HEAD+8*num (toB ns) 12 2+4*num (toB ns) 14 2+12*num (toB ns) 16 2
         ·rw[Hs (by lia),Hs (by lia)];rfl
         ·rw[Hz (by lia),Hz (by lia)];rfl
        ·simp[c6]
  ·rw[Hz (show ns.take 4≠j5 from c2),Hz (show(toB ns).take 4≠MAGIC from λq=>c2 ((va h).1 q))]
   rfl
def gf (p:Pt):List Int:=[(p.x:Int),(p.y:Int)]
def wl (l:Nat×Nat):List Int:=[(l.1:Int),(l.2:Int)]
def pf (m:Mark):List Int:=[(m.at_.x:Int),(m.at_.y:Int),(m.glass:Int),(m.painting:Int)]
def P_ (ns:List Int):Nat:=(rd ns 12 2).toNat
def L_ (ns:List Int):Nat:=(rd ns 14 2).toNat
def M_ (ns:List Int):Nat:=(rd ns 16 2).toNat
def lH (ns:List Int):List (List Int):=(HS (P_ ns)).map λi=>[rd ns (20+8*i) 4,rd ns (20+8*i+4) 4]
def lI (ns:List Int):List (List Int):=(HS (L_ ns)).map λi=>[rd ns (20+8*P_ ns+4*i) 2,rd ns (20+8*P_ ns+4*i+2) 2]
def lg (ns:List Int):List (List Int):=(HS (M_ ns)).map λi=>[rd ns (20+8*P_ ns+4*L_ ns+12*i) 4,rd ns (20+8*P_ ns+4*L_ ns+12*i+4) 4,rd ns (20+8*P_ ns+4*L_ ns+12*i+8) 2,rd ns (20+8*P_ ns+4*L_ ns+12*i+10) 2]
theorem B6 {ns:List Int}(h:Byt ns):P_ ns=num (toB ns) 12 2:=by unfold P_;rw[db h];lia
theorem Gh {ns:List Int}(h:Byt ns):L_ ns=num (toB ns) 14 2:=by unfold L_;rw[db h];lia
theorem Gq {ns:List Int}(h:Byt ns):M_ ns=num (toB ns) 16 2:=by unfold M_;rw[db h];lia
theorem wT {ns:List Int}(h:Byt ns):lH ns=(parts (toB ns)).pts.map gf:=by
 unfold lH parts
 simp only[JH,B6 h]
 apply II
 intro i _
 simp only[Function.comp,gf,HEAD,db h]
theorem xh {ns:List Int}(h:Byt ns):lI ns=(parts (toB ns)).lines.map wl:=by
 unfold lI parts
 simp only[JH,B6 h,Gh h]
 apply II
 intro i _
 simp only[Function.comp,wl,HEAD,db h]
theorem ww {ns:List Int}(h:Byt ns):lg ns=(parts (toB ns)).marks.map pf:=by
 unfold lg parts
 simp only[JH,B6 h,Gh h,Gq h]
 apply II
 intro i _
 simp only[Function.comp,pf,HEAD,db h]
end CM
end
section
namespace Wg
open PySem PySem.Spec PyProof.Rows L2
theorem aX {H0 H:Hp}{T:Hm}{o:HO}(s:ak H0 H)(h:H T=none):ak H0 (upd H T o):=λb u e=>by
 have e1:=s b u e
 rw[ao (aP e1 h)]
 exact e1
theorem aQ {H0 H:Hp}{T:Hm}{o:HO}(s:ak H0 H)(h:H0 T=none):ak H0 (upd H T o):=λb u e=>by
 have e1:=s b u e
 rw[ao (aP e h)]
 exact e1
theorem aG {H:Hp}{T:Hm}{o:HO}(h:H T=none):ak H (upd H T o):=aX (ak.refl H) h
theorem jk {K:IN}{H H':Hp}{a:Hm}{xs:List V}(e:ak H H')(h:SqT K H a xs):SqT K H' a xs:=by
 rcases h with(h|⟨o,h⟩)|h
 ·exact .inl (.inl (e _ _ h))
 ·exact .inl (.inr ⟨o,e _ _ h⟩)
 ·exact .inr h
section
variable  {K:IN}{a b:Hm}{xs ys:List V}
theorem xX {g:TG}{tt:TT}{te:TE}{vs:List Nat}{σ:L2.St}{H1:Hp}{D:Hm}{Qd:Hp->Prop}(Pv:Nat->Hp->Prop)(h0:Pv 0 (upd H1 D (.lst [])))
  (hl:∀i H,i<=min xs.length ys.length->Pv i H->SqL K H a xs/\SqL K H b ys)
  (hs:∀i x y T H,xs[i]? = some x->ys[i]? = some y->H T=none->Pv i H->g (.ref T) (b7 σ vs) (upd H T (.tup [x,y])) λσ2 H2=>b7 σ2 vs=b7 σ vs/\tt σ2 H2 λb H3 =>
   if b=true then te σ2 H3 λy H4=>∃acc,H4 D=some (.lst acc)/\acc.length<Hr/\Pv (i+1) (upd H4 D (.lst (acc++[y]))) else Pv (i+1) H3) (hd:∀H,Pv (min xs.length ys.length) H->Qd H) :
  ∃W:Nat->Nat->Hp->Prop,(∃m,W 0 m (upd H1 D (.lst [])))/\∀i m H,W i m H ->
   ((Itz K a b).stop i H/\Qd H)\/((Itz K a b).go i H/\∃Nx:Hp->Prop,(∀H',Nx H'->∃m',m'<m/\W (i+1) m' H')/\∀x H',(Itz K a b).yld i H x H'->g x (b7 σ vs) H' λσ2 H2=>b7 σ2 vs=b7 σ vs/\tt σ2 H2 λb H3 =>
    if b=true then te σ2 H3 λy H4=>∃acc,H4 D=some (.lst acc)/\acc.length<Hr/\Nx (upd H4 D (.lst (acc++[y]))) else Nx H3):=by
 refine⟨λi m H=>m=min xs.length ys.length-i/\i<=min xs.length ys.length/\Pv i H,⟨min xs.length ys.length,by simp,IH _,h0⟩,?_⟩
 rintro i m H ⟨rfl,hi,p⟩
 obtain⟨q1,q2⟩:=hl i H hi p
 by_cases hlt:i<min xs.length ys.length
 ·have hx:i<xs.length:=by lia
  have hy:i<ys.length:=by lia
  refine .inr ⟨⟨xs,ys,xs[i],ys[i],q1,q2,by simp[hx],by simp[hy]⟩,Pv (i+1),λH' p'=>⟨min xs.length ys.length-(i+1),by lia,rfl,hlt,p'⟩,λx H' y=>?_⟩
  obtain⟨T,x1,y1,e1,e2,e3,e4,e5⟩:=y
  subst e1 e3
  exact hs i x1 y1 T H (e4 xs q1) (e5 ys q2) e2 p
 ·have e:i=min xs.length ys.length:=by lia
  subst e
  exact .inl ⟨⟨xs,ys,q1,q2,by lia⟩,hd H p⟩
theorem cU {g:TG}{tb:TS}{D:oF}{σ:L2.St}{H:Hp}(Pv:Nat->L2.St->Hp->Prop)(h0:Pv 0 σ H)(hl:∀i σ H,i<=xs.length->Pv i σ H->SqL K H a xs)
  (hs:∀i x T σ H,xs[i]? = some x->H T=none->Pv i σ H->g (.ref T) σ (upd H T (.tup [.int (i:Nat),x])) λσ2 H2=>tb { D with nx:=Pv (i+1),ct:=Pv (i+1),bk:=D.nx } σ2 H2) (hd:∀σ H,Pv xs.length σ H->D.nx σ H) :
  ∃W:Nat->Nat->L2.St->Hp->Prop,(∃m,W 0 m σ H)/\∀i m σ H,W i m σ H ->
   ((Ite K a).stop i H/\D.nx σ H)\/((Ite K a).go i H/\∃N:L2.St->Hp->Prop,(∀σ' H',N σ' H'->∃m',m'<m/\W (i+1) m' σ' H')/\∀x H',(Ite K a).yld i H x H'->g x σ H' λσ2 H2=>tb { D with nx:=N,ct:=N,bk:=D.nx } σ2 H2):=by
 refine⟨λi m σ H=>m=xs.length-i/\i<=xs.length/\Pv i σ H,⟨xs.length,by simp,IH _,h0⟩,?_⟩
 rintro i m σ H ⟨rfl,hi,p⟩
 have q:=hl i σ H hi p
 by_cases hlt:i<xs.length
 ·refine .inr ⟨⟨xs,xs[i],q,by simp[hlt]⟩,Pv (i+1),λσ' H' p'=>⟨xs.length-(i+1),by lia,rfl,hlt,p'⟩,λx H' y=>?_⟩
  obtain⟨T,x1,e1,e2,e3,e4⟩:=y
  subst e1 e3
  exact hs i x1 T σ H (e4 xs q) e2 p
 ·have e:i=xs.length:=by lia
  subst e
  exact .inl ⟨⟨xs,q,nlr _⟩,hd σ H p⟩
theorem Ax {g:TG}{tt:TT}{te:TE}{vs:List Nat}{σ:L2.St}{H1:Hp}{D:Hm}{Qd:Hp->Prop}(Pv:Nat->Hp->Prop)(h0:Pv 0 (upd H1 D (.lst [])))
  (hl:∀i H,i<=xs.length->Pv i H->SqL K H a xs)
  (hs:∀i x T H,xs[i]? = some x->H T=none->Pv i H->g (.ref T) (b7 σ vs) (upd H T (.tup [.int (i:Nat),x])) λσ2 H2=>b7 σ2 vs=b7 σ vs/\tt σ2 H2 λb H3 =>
   if b=true then te σ2 H3 λy H4=>∃acc,H4 D=some (.lst acc)/\acc.length<Hr/\Pv (i+1) (upd H4 D (.lst (acc++[y]))) else Pv (i+1) H3) (hd:∀H,Pv xs.length H->Qd H) :
  ∃W:Nat->Nat->Hp->Prop,(∃m,W 0 m (upd H1 D (.lst [])))/\∀i m H,W i m H ->
   ((Ite K a).stop i H/\Qd H)\/((Ite K a).go i H/\∃Nx:Hp->Prop,(∀H',Nx H'->∃m',m'<m/\W (i+1) m' H')/\∀x H',(Ite K a).yld i H x H'->g x (b7 σ vs) H' λσ2 H2=>b7 σ2 vs=b7 σ vs/\tt σ2 H2 λb H3 =>
    if b=true then te σ2 H3 λy H4=>∃acc,H4 D=some (.lst acc)/\acc.length<Hr/\Nx (upd H4 D (.lst (acc++[y]))) else Nx H3):=by
 refine⟨λi m H=>m=xs.length-i/\i<=xs.length/\Pv i H,⟨xs.length,by simp,IH _,h0⟩,?_⟩
 rintro i m H ⟨rfl,hi,p⟩
 have q:=hl i H hi p
 by_cases hlt:i<xs.length
 ·refine .inr ⟨⟨xs,xs[i],q,by simp[hlt]⟩,Pv (i+1),λH' p'=>⟨xs.length-(i+1),by lia,rfl,hlt,p'⟩,λx H' y=>?_⟩
  obtain⟨T,x1,e1,e2,e3,e4⟩:=y
  subst e1 e3
  exact hs i x1 T H (e4 xs q) e2 p
 ·have e:i=xs.length:=by lia
  subst e
  exact .inl ⟨⟨xs,q,nlr _⟩,hd H p⟩
end
def Has (K:IN)(mg:Str->Option Value)(x:Str)(st:JO)(ps:List Str):Prop:=∃f fd,Fun K x x st f fd/\(∀us:List Value,us.length=ps.length->bindArgs fd ⟨us,[]⟩=pure (ps.zip us))/\mg x=some (.ref f)
def Cb (P:Ih)(w:I0)(K:IN)(mg:Str->Option Value)(base:Heap)(k:Nat)(x:Str)(ps:List Str)(sp:Sp):Prop :=
 ∃f fd,js P w K mg base CX0 k f fd ps sp/\jh K fd ps []/\mg x=some (.ref f)/\JL K (.ref f)=true/\∃o,K.lookup f=some o/\o.data=.func fd
section
variable  {P:Ih}{w:I0}{K:IN}{mg:Str->Option Value}{base:Heap}
theorem sD {x:Str}{st:JO}{f:Hm}{fd:Le}(F:Fun K x x st f fd):∃o,K.lookup f=some o/\o.data=.func fd:=by
 obtain⟨oc,od,kV,doc,pm,an,cdv,ct,osl,e,lk,_⟩:=F.ex
 exact⟨_,lk,by rw[e]⟩
theorem Has.cb {x:Str}{st:JO}{N ps:List Str}{k:Nat}{sp:Sp}(F:Has K mg x st ps)(S:aw N ps (ag st))(len:∀vs H Q E,sp vs H Q E->vs.length=ps.length)
  (hbody:∀(f:Hm) (cdv:Value) (A:Around) (outer:List Env) (s:Hl) (H:Hp) (vs:List V) (Q:VK) (E:XK),bA k (A.deeper (envOfC x (ag st) s.heap.objs.size f cdv))->sp vs H Q E ->
   ∃t,PSs (qT CX0 P w K mg base N x (ag st) f cdv A outer s H E).nox (bZ st) t/\t { nx:=λ_ H'=>Q .non H',rt:=Q } (start N vs) H):Cb P w K mg base (k+1) x ps sp:=by
 obtain⟨f,fd,h1,h2,h3⟩:=F
 exact⟨f,fd,h1.ok S len (hbody f),.all h2,h3,h1.kp,sD h1⟩
theorem B0 {h:Heap}{x:Str}{st:JO}{ps:List Str}{f:Hm}{oc:Value}{od an:Option Hm}{osl:Array (Option Value)}{kV doc pm cdv ct:Value}(X:K.In h)(G:h.Ns Im mg)
  (bind:∀(kV doc pm:Value) (an:Option Hm) (cdv ct:Value) (us:List Value),us.length=ps.length->bindArgs (Kc x x (df st) (bZ st) (ag st) .none kV doc pm an cdv ct) ⟨us,[]⟩=pure (ps.zip us))
  (a:PySem.W.nsIn K Im x=some (some (.ref f))) (l:K.lookup f=some ⟨oc,od,.func (Kc x x (df st) (bZ st) (ag st) .none kV doc pm an cdv ct),osl⟩)
  (c:Lp K cdv x=true) (kp:JL K (.ref f)=true):Has K mg x st ps :=
 ⟨f,_,uF (st:=st) l c kp,bind kV doc pm an cdv ct,PySem.W.mg_of X G a⟩
theorem Has.top {x:Str}{st:JO}{ps:List Str}{k:Nat}{sp:Sp}{fa:Hm}(F:Has K mg x st ps)(hfa:mg x=some (.ref fa))(C:∀base:Heap,K.In base->base.Ns Im mg->Cb P w K mg base k x ps sp) :
  ∃fd:Le,(∀(s:Hl) (us:List Value),us.length=ps.length->BindsTo s fd ⟨us,[]⟩ (ps.zip us))/\∀base:Heap,K.In base->base.Ns Im mg->js P w K mg base CX0 k fa fd ps sp:=by
 obtain⟨f,fd,h1,h2,h3⟩:=F
 have e:fa=f:=by
  have q:=hfa.symm.trans h3
  injection q with q
  injection q
 subst e
 refine⟨fd,λs us hu=>.of_eq (h2 us hu),λbase kb nb=>?_⟩
 obtain⟨f',fd',g1,g2,g3,g4,o,g5,g6⟩:=C base kb nb
 have e':fa=f':=by
  have q:=h3.symm.trans g3
  injection q with q
  injection q
 subst e'
 obtain⟨o2,e5,e6⟩:=sD h1
 rw[g5]at e5
 cases e5
 rw[g6]at e6
 injection e6 with e6
 rw[<-e6]
 exact g1
theorem GG {h:Heap}{x:Str}{n:Int}{t:Tok}(X:K.In h)(G:h.Ns Im mg)(a:PySem.W.nsIn K Im x=some (some (.int n t))):∃t,mg x=some (.int n t):=⟨t,PySem.W.mg_of X G a⟩
end
theorem aJ {X:Cx}{k:Nat}{x:Str}{ps:List Str}{sp:Sp}{p pos:Pos}{e:Expr}{es:List Expr}{t:TA}(C:Cb X.prog X.w X.K X.mg X.base k x ps sp)(hr:bA k X.A)(ha:PA X (e :: es) t)(hg:Gl X x:=by rfl)
  (hdb:(x==("__debug__" : Str))=false:=by decide) (he:Ii (e :: es) X.env=(false,KW e X.env) :: Ii es X.env:=by rfl) (hpl:(KQ pos (Ii es X.env)).any (·.1)=false:=by rfl) :
  PE X (.Call (.Name x p) (e :: es) [] pos) (jR sp [] E0 t):=by
 obtain⟨f,fd,h1,h2,h3,h4,_⟩:=C
 exact A6 h1 hr hg h3 h4 h2 .nil u6 ha hdb he hpl
theorem bI {X:Cx}{x:Str}{n:Int}{pos:Pos}(hm:∃t,X.mg x=some (.int n t))(hg:Gl X x:=by rfl) (hd:(x==("__debug__" : Str))=false:=by decide):PE X (.Name x pos) (tC (.int n)):=by
 obtain⟨t,h⟩:=hm
 exact qX hg h ⟨t,rfl⟩ hd
theorem mB {σ:L2.St}{H:Hp}{Q:Bool->Hp->Prop}(h:Q true H):E5 σ H Q:=h
abbrev g2 (K:IN)(i j:Nat):TG:=Fe K 2 (xN (pY i) (xN (pY j) E4))
abbrev iV (ns:List Int):List V:=ns.map V.int
def LI (K:IN)(H:Hp)(a:Hm)(ns:List Int):Prop:=SqL K H a (iV ns)/\ns.length<=1000000
theorem LI.same {K:IN}{H H':Hp}{a:Hm}{ns:List Int}(h:LI K H a ns)(s:ak H H'):LI K H' a ns:=⟨s.seq h.1,h.2⟩
theorem rH {n:Nat}(h:n<=1000000):n<=Hr:=Ik h (by decide)
theorem a6 {n:Nat}(h:n<=1000000):n<Hr:=Iu h (by decide)
theorem lL {ns:List Int}{i:Nat}{v:V}(h:(iV ns)[i]? = some v):∃z,ns[i]? = some z/\v=.int z:=by
 rw[Hw]at h
 cases e:ns[i]? with
 |none=>rw[e]at h;cases h
 |some z=>rw[e]at h;exact⟨z,rfl,(osi h).symm⟩
theorem bu {α:Type}:∀{l:List α} {i:Nat} {x:α},l[i]? = some x->l.take (i+1)=l.take i++[x]
 |[],i,x,h=>by simp at h
 |a :: l,0,x,h=>by
  have e:a=x:=osi h
  subst e
  rfl
 |a :: l,i+1,x,h=>by
  have ih:=bu (l:=l) (i:=i) (x:=x) h
  show a :: l.take (i+1)=a :: l.take i++[x]
  rw[ih]
  rfl
theorem zW {α β:Type}{l:List α}{k:List β}{i:Nat}{x:α}{y:β}(h1:l[i]? = some x)(h2:k[i]? = some y):(l.zip k)[i]? = some (x,y):=by
 rw[List.getElem?_zip_eq_some]
 exact⟨h1,h2⟩
def LL (H:Hp)(p:Hm)(ls:List (List Int)):Prop:=∃as:List Hm,H p=some (.lst (as.map V.ref))/\as.length=ls.length/\∀(i:Nat) (a:Hm) (l:List Int),as[i]? = some a->ls[i]? = some l->H a=some (.lst (iV l))
end Wg
end
section
namespace Wx
open PySem PySem.Spec PyProof.Rows L2 Wg
def ir (a b:List Int):Bool:=HT.lexLt b a
def io:List Int->List Int->Bool
 |[],[]=>true
 |[],_ :: _=>true
 |_ :: _,[]=>false
 |x :: xs,y :: ys=>if x=y then io xs ys else decide (x<=y)
theorem j9 (x y:Int)(xs ys:List Int):ir (x :: xs) (y :: ys)=if x=y then ir xs ys else decide (y<x):=by
 unfold ir
 rw[HT.lexLt_cons]
 by_cases h:x=y
 ·rw[Hz h,Hz h.symm]
 ·rw[Hs h,Hs (λq=>h q.symm)]
theorem kf (x y:Int)(xs ys:List Int):io (x :: xs) (y :: ys)=if x=y then io xs ys else decide (x<=y):=rfl
theorem y4 (A:Around)(s:Hl)(a:Int)(t:Tok)(c:Int)(u:Tok)(prog:Ih)(w:I0)(E:Value->Hl->Prop)(Q:Value->Hl->Prop)(h:Q (.bool (decide (c<a))) s) :
  Ig (Io prog w) A (richCompare .Gt (.int a t) (.int c u)) Q E s :=
 (PyProof.Rows.gt_int h:Ig (Io prog w) A (Je .Gt (.int a t) (.int c u)) Q E s)
theorem zd (A:Around)(s:Hl)(a:Int)(t:Tok)(c:Int)(u:Tok)(prog:Ih)(w:I0)(E:Value->Hl->Prop)(Q:Value->Hl->Prop)(h:Q (.bool (decide (a<=c))) s) :
  Ig (Io prog w) A (richCompare .LtE (.int a t) (.int c u)) Q E s :=
 (PyProof.Rows.le_int h:Ig (Io prog w) A (Je .LtE (.int a t) (.int c u)) Q E s)
section
open PySem.SeqAt
open PySem.AutoSeq1 (wpAny_loadPart')
open PySem.MeetsSeq PySem.MeetsSeq2 PySem.MeetsSeq3
theorem pB (l b:Hm)(items items2:Array Value)(n n2:Nat)(dd dd2:Option Hm)(sl sl2:Array (Option Value))(ns ms:List Int)(hi:IntsAre items.toList ns)(hj:IntsAre items2.toList ms) :
  Meets (Builtin.«tuple.__gt__» ⟨[.ref l,.ref b],[]⟩)
   (λ_ R s=>s.heap.get? l=some { cls:=.type "tuple",dict:=dd,data:=.seq items n,slots:=sl }/\s.heap.get? b=some { cls:=.type "tuple",dict:=dd2,data:=.seq items2 n2,slots:=sl2 } /\
    R (.ok (.ret (.bool (ir ns ms)))) s) :=
 .of_wp λprog w A R s h=>by
  obtain⟨hp,g,d,tk,os⟩:=s;obtain⟨hl,hb,h⟩:=h
  have f2:=AutoSeq1.sub_tuple_tuple
  have z1:items.size=ns.length:=by rw[<-hi.length];simp
  have z2:items2.size=ms.length:=by rw[<-hj.length];simp
  wp_walk using KZ hl,KZ hb,wpAny_forIn_list _ (λhX b s'=>b.1=none/\s'=⟨hp,g,d,tk,os⟩/\∃(vs ws:List Value) (ns' ms':List Int),hX=vs.zip ws /\
   IntsAre vs ns'/\IntsAre ws ms'/\ns'.length+items2.size=ms'.length+items.size/\R (.ok (.ret (.bool (ir ns' ms')))) ⟨hp,g,d,tk,os⟩) _
  case turn =>
   rintro⟨y,x⟩ hX b s' ⟨hb',rfl,vs,ws,ns',ms',hz,hvi,hwi,hlen,hR⟩
   cases hvi with
   |nil=>rw[List.zip_nil_left]at hz;cases hz
   |cons a t hvi' =>
    cases hwi with
    |nil=>rw[List.zip_nil_right]at hz;cases hz
    |cons c u hwi' =>
     rw[JE]at hz
     injection hz with hyx hrest
     injection hyx with hy hx
     subst hy hx
     rw[j9]at hR
     simp only[HW]at hlen
     obtain⟨e,he,hiff⟩:=HT.eqAt_int A.in1 ⟨hp,g,d,tk,os⟩ a t c u
     refine Hj (he prog w _ _ ?_)
     cases e with
     |true =>
      rw[Hz (hiff.mp rfl)]at hR
      wp_walk
      exact⟨rfl,rfl,_,_,_,_,hrest,hvi',hwi',by lia,hR⟩
     |false =>
      rw[Hs (λq=>absurd (hiff.mpr q) HG)]at hR
      have hri:=y4 A.in1 ⟨hp,g,d,tk,os⟩ a t c u prog w
      wp_walk using hri
      exact⟨_,rfl,by simpa using hR⟩
  case fin =>
   rintro⟨b1,b2⟩ s' ⟨hb',rfl,vs,ws,ns',ms',hz,hvi,hwi,hlen,hR⟩
   simp only at hb'
   subst hb'
   have hv:ir ns' ms'=decide (items2.size<items.size):=by
    cases hvi with
    |nil =>
     cases hwi with
     |nil =>
      simp only[KD]at hlen
      show HT.lexLt [] []=_
      rw[HT.lexLt_nil_nil]
      exact(dqf (by lia)).symm
     |cons c u hw =>
      simp only[KD,HW]at hlen
      show HT.lexLt (_ :: _) []=_
      rw[HT.lexLt_cons_nil]
      exact(dqf (by lia)).symm
    |cons a t hv =>
     cases hwi with
     |nil =>
      simp only[KD,HW]at hlen
      show HT.lexLt [] (_ :: _)=_
      rw[HT.lexLt_nil_cons]
      exact(dqt (by lia)).symm
     |cons c u hw =>
      rw[JE]at hz
      cases hz
   rw[hv]at hR
   wp_walk
   exact⟨_,rfl,by simpa [Builtin.Tuple.tupleCompareSizes] using hR⟩
  case h =>
   exact⟨rfl,rfl,items.toList,items2.toList,ns,ms,rfl,hi,hj,by lia,h⟩
theorem pC (l b:Hm)(items items2:Array Value)(n n2:Nat)(dd dd2:Option Hm)(sl sl2:Array (Option Value))(ns ms:List Int)(hi:IntsAre items.toList ns)(hj:IntsAre items2.toList ms) :
  Meets (Builtin.«tuple.__le__» ⟨[.ref l,.ref b],[]⟩)
   (λ_ R s=>s.heap.get? l=some { cls:=.type "tuple",dict:=dd,data:=.seq items n,slots:=sl }/\s.heap.get? b=some { cls:=.type "tuple",dict:=dd2,data:=.seq items2 n2,slots:=sl2 } /\
    R (.ok (.ret (.bool (io ns ms)))) s) :=
 .of_wp λprog w A R s h=>by
  obtain⟨hp,g,d,tk,os⟩:=s;obtain⟨hl,hb,h⟩:=h
  have f2:=AutoSeq1.sub_tuple_tuple
  have z1:items.size=ns.length:=by rw[<-hi.length];simp
  have z2:items2.size=ms.length:=by rw[<-hj.length];simp
  wp_walk using KZ hl,KZ hb,wpAny_forIn_list _ (λhX b s'=>b.1=none/\s'=⟨hp,g,d,tk,os⟩/\∃(vs ws:List Value) (ns' ms':List Int),hX=vs.zip ws /\
   IntsAre vs ns'/\IntsAre ws ms'/\ns'.length+items2.size=ms'.length+items.size/\R (.ok (.ret (.bool (io ns' ms')))) ⟨hp,g,d,tk,os⟩) _
  case turn =>
   rintro⟨y,x⟩ hX b s' ⟨hb',rfl,vs,ws,ns',ms',hz,hvi,hwi,hlen,hR⟩
   cases hvi with
   |nil=>rw[List.zip_nil_left]at hz;cases hz
   |cons a t hvi' =>
    cases hwi with
    |nil=>rw[List.zip_nil_right]at hz;cases hz
    |cons c u hwi' =>
     rw[JE]at hz
     injection hz with hyx hrest
     injection hyx with hy hx
     subst hy hx
     rw[kf]at hR
     simp only[HW]at hlen
     obtain⟨e,he,hiff⟩:=HT.eqAt_int A.in1 ⟨hp,g,d,tk,os⟩ a t c u
     refine Hj (he prog w _ _ ?_)
     cases e with
     |true =>
      rw[Hz (hiff.mp rfl)]at hR
      wp_walk
      exact⟨rfl,rfl,_,_,_,_,hrest,hvi',hwi',by lia,hR⟩
     |false =>
      rw[Hs (λq=>absurd (hiff.mpr q) HG)]at hR
      have hri:=zd A.in1 ⟨hp,g,d,tk,os⟩ a t c u prog w
      wp_walk using hri
      exact⟨_,rfl,by simpa using hR⟩
  case fin =>
   rintro⟨b1,b2⟩ s' ⟨hb',rfl,vs,ws,ns',ms',hz,hvi,hwi,hlen,hR⟩
   simp only at hb'
   subst hb'
   have hv:io ns' ms'=decide (items.size<=items2.size):=by
    cases hvi with
    |nil =>
     cases hwi with
     |nil =>
      simp only[KD]at hlen
      exact(dqt (by lia)).symm
     |cons c u hw =>
      simp only[KD,HW]at hlen
      exact(dqt (by lia)).symm
    |cons a t hv =>
     cases hwi with
     |nil =>
      simp only[KD,HW]at hlen
      exact(dqf (by lia)).symm
     |cons c u hw =>
      rw[JE]at hz
      cases hz
   rw[hv]at hR
   wp_walk
   exact⟨_,rfl,by simpa [Builtin.Tuple.tupleCompareSizes] using hR⟩
  case h =>
   exact⟨rfl,rfl,items.toList,items2.toList,ns,ms,rfl,hi,hj,by lia,h⟩
end
section
variable  {prog:Ih}{w:I0}{A:Around}{E:Value->Hl->Prop}{s:Hl}
theorem uB {l b:Hm}{items items2:Array Value}{ns ms:List Int}{Q:Value->Hl->Prop}(hl:IsTup s.heap l items)(hb:IsTup s.heap b items2)(hi:IntsAre items.toList ns)(hj:IntsAre items2.toList ms)
  (hu:A.units<cLine) (h:Q (.bool (ir ns ms)) s):Ig (Io prog w) A (Je .Gt (.ref l) (.ref b)) Q E s:=by
 obtain⟨⟨cls,dd,data,sl⟩,ho,hc,n,hd⟩:=id hl
 obtain⟨⟨cls2,dd2,data2,sl2⟩,ho2,hc2,n2,hd2⟩:=id hb
 simp only at hc hd hc2 hd2
 subst hc hd hc2 hd2
 exact richCompare_meets_room (op:=.Gt) ⟨_,ho,rfl⟩ ⟨_,ho2,rfl⟩ PySem.F.slot_tuple_gt PySem.F.entry_tuple_gt (PySem.F.args_tuple_gt_2 _ _) (pB l b items items2 n n2 dd dd2 sl sl2 ns ms hi hj)
  ⟨ho,ho2,show Value.bool (ir ns ms)≠Value.notImplemented/\Q (.bool (ir ns ms)) s from⟨(λx=>nomatch x),h⟩⟩ hu
theorem ui {l b:Hm}{items items2:Array Value}{ns ms:List Int}{Q:Value->Hl->Prop}(hl:IsTup s.heap l items)(hb:IsTup s.heap b items2)(hi:IntsAre items.toList ns)(hj:IntsAre items2.toList ms)
  (hu:A.units<cLine) (h:Q (.bool (io ns ms)) s):Ig (Io prog w) A (Je .LtE (.ref l) (.ref b)) Q E s:=by
 obtain⟨⟨cls,dd,data,sl⟩,ho,hc,n,hd⟩:=id hl
 obtain⟨⟨cls2,dd2,data2,sl2⟩,ho2,hc2,n2,hd2⟩:=id hb
 simp only at hc hd hc2 hd2
 subst hc hd hc2 hd2
 exact richCompare_meets_room (op:=.LtE) ⟨_,ho,rfl⟩ ⟨_,ho2,rfl⟩ PySem.F.slot_tuple_le PySem.F.entry_tuple_le (PySem.F.args_tuple_le_2 _ _) (pC l b items items2 n n2 dd dd2 sl sl2 ns ms hi hj)
  ⟨ho,ho2,show Value.bool (io ns ms)≠Value.notImplemented/\Q (.bool (io ns ms)) s from⟨(λx=>nomatch x),h⟩⟩ hu
end
section
variable  {X:Cx}
def GR (K:IN):R2:=λx y H Q=>∃a b ns ms,x=.ref a/\y=.ref b/\SqT K H a (ns.map V.int)/\SqT K H b (ms.map V.int)/\Q (.bl (ir ns ms)) H
theorem B8 (hu:X.A.units<cLine):OpR X (Je .Gt) (GR X.K):=by
 intro pins s σ H x y v u Q I rx ry h
 obtain⟨a,b,ns,ms,rfl,rfl,ha,hb,q⟩:=h
 cases rx
 cases ry
 obtain⟨its,r1,p1,_⟩:=I.tuple ha
 obtain⟨its2,r2,p2,_⟩:=I.tuple hb
 have i1:IntsAre its.toArray.toList ns:=iY r1
 have i2:IntsAre its2.toArray.toList ms:=iY r2
 exact uB p1 p2 i1 i2 hu ⟨.bl (ir ns ms),H,I,rfl,q⟩
def FK (K:IN):R2:=λx y H Q=>∃a b ns ms,x=.ref a/\y=.ref b/\SqT K H a (ns.map V.int)/\SqT K H b (ms.map V.int)/\Q (.bl (io ns ms)) H
theorem Dx (hu:X.A.units<cLine):OpR X (Je .LtE) (FK X.K):=by
 intro pins s σ H x y v u Q I rx ry h
 obtain⟨a,b,ns,ms,rfl,rfl,ha,hb,q⟩:=h
 cases rx
 cases ry
 obtain⟨its,r1,p1,_⟩:=I.tuple ha
 obtain⟨its2,r2,p2,_⟩:=I.tuple hb
 have i1:IntsAre its.toArray.toList ns:=iY r1
 have i2:IntsAre its2.toArray.toList ms:=iY r2
 exact ui p1 p2 i1 i2 hu ⟨.bl (io ns ms),H,I,rfl,q⟩
def vX:V->List V->Hp->VK->Prop:=λx vs H Q=>∃(l:Hm) (xs:List V) (k:Int) (y:V),x=.ref l/\vs=[.int k,y]/\H l=some (.lst xs)/\0<=k/\k<=(xs.length:Int)/\xs.length<Hr/\Q .non (upd H l (.lst (xs.take k.toNat++y :: xs.drop k.toNat)))
theorem wM:MtM X "list.insert" vX:=by
 intro pins s σ H x vs v us Q I rx rv h
 obtain⟨l,xs,k,y,rfl,rfl,hH,k0,hk,hz,q⟩:=h
 cases rx
 obtain⟨u1,u2,rfl,ru1,ru2⟩:=rv.two
 obtain⟨t,rfl⟩:=ru1
 obtain⟨z,its,n,r,hl,e⟩:=I.lstM hH
 have hsl:=sizeLine_eq
 have hfit:¬(!Builtin.List.listFitsIndex k)=true:=by
  rw[hsl]at hz
  have k1:-(2 ^ 63)<=k:=by lia
  have k2:k<2 ^ 63:=by lia
  have:Builtin.List.listFitsIndex k=true:=fitsIndex_both k1 k2
  rw[this]
  decide
 have hs1:its.toArray.size<=Hr:=by rw[HA];lia
 have M:=AutoSeq1.list_insert_list_int_val_1 l its.toArray n k t u2 hfit hs1
 refine call_meets F.slot_list_insert ⟨_,e,rfl⟩ F.entry_list_insert (F.args_list_insert_3 _ _ _) M ⟨e,?_⟩
 refine⟨.non,_,I.lset (its':=its.take k.toNat++u2 :: its.drop k.toNat) hH e ?_ ((r.take k.toNat).append (.cons ru2 (r.drop k.toNat))) ?_,rfl,q⟩
 ·have hk2:k.toNat<=its.length:=by lia
  dsimp only
  rw[Hs (by lia),HA,Ia hk2]
  apply Array.ext'
  simp
  rw[IR (by rw[Il];exact nlr _)]
 ·rw[Hn,Iv,HW,Il]
  lia
def wj (K:IN):V->List V->Hp->VK->Prop:=λx vs H Q=>∃(a:Hm) (bs:List Bool) (b:Bool),x=.ref a/\vs=[.bl b]/\SqL K H a (bs.map V.bl)/\Q (.int (bs.count b:Nat)) H
theorem jQ (b:Bool):∀bs:List Bool,countIn (.bool b) (bs.map PyData.bool)=((bs.count b:Nat):Int)
 |[]=>rfl
 |c :: bs=>by
  rw[HN,countIn,jQ b bs,List.count_cons]
  cases b<;>cases c<;>simp[same]<;>lia
theorem l9 {hp:Heap}:∀bs:List Bool,∃as,ReadsAll hp (bs.map Value.bool) (bs.map PyData.bool) as
 |[]=>⟨_,ReadsAll.nil⟩
 |b :: bs=>by
  obtain⟨as,h⟩:=l9 (hp:=hp) bs
  exact⟨_,ReadsAll.cons (Reads.bool b) h⟩
theorem xk:MtR X "list.count" (wj X.K):=by
 intro pins s σ H x vs v us Q I rx rv h
 obtain⟨a,bs,b,rfl,rfl,hs,q⟩:=h
 cases rx
 obtain⟨u,rfl,ru⟩:=rv.one
 cases ru
 obtain⟨its,r,pl,_⟩:=I.list hs
 have e:its=bs.map Value.bool:=r.bls
 subst e
 obtain⟨as,ra⟩:=l9 (hp:=s.heap) bs
 refine count_list_bools pl.isList ra (by simp[Shape.has]) ⟨.int _,H,I.tok _,⟨s.toks,?_⟩,q⟩
 rw[jQ]
def Ao (K:IN):R2:=λx y H Q=>∃(b p:Hm) (r:List Int) (as:List Hm) (rows:List (List Int)),x=.ref b/\y=.ref p/\SqT K H b (iV r)/\SqL K H p (as.map V.ref)/\as.length=rows.length/\(∀(i:Nat) (a:Hm) (q:List Int),as[i]? = some a->rows[i]? = some q->SqT K H a (iV q)) /\
 Q (.bl (!decide (r∈rows))) H
theorem gi {K:IN}{H:Hp}:∀r:List Int,mq K H (iV r) (r.map IC)
 |[]=>.nil
 |i :: r=>.cons (.int i) (gi r)
theorem jn:∀(r q:List Int),PyData.eqvAll (r.map IC) (q.map IC)=decide (r=q)
 |[],[]=>by simp[PyData.eqvAll]
 |[],_ :: _=>by simp[PyData.eqvAll]
 |_ :: _,[]=>by simp[PyData.eqvAll]
 |a :: r,b :: q=>by
  rw[HN,HN,PyData.eqvAll,jn r q,PyData.eqv]
  rw[Ip]
  simp
theorem gQ:∀r:List Int,Ll (r.map IC)=true
 |[]=>rfl
 |a :: r=>by
  show(PyData.canLay0 (.int a)&&Ll (r.map IC))=true
  rw[gQ r]
  rfl
theorem jU:∀r:List Int,PyData.depthAll (r.map IC)<=1
 |[]=>IH _
 |a :: r=>by
  show max (PyData.depth (.int a)) (PyData.depthAll (r.map IC))<=1
  refine Nat.max_le.2 ⟨?_,jU r⟩
  first|exact IH _|exact nlr _|simp[PyData.depth]
theorem tG (r:List Int):∀rows:List (List Int),((rows.map λq=>K5 (q.map IC)).any λy=>PyData.eqv y (.tuple (r.map IC)))=decide (r∈rows)
 |[]=>by simp
 |q :: rows=>by
  rw[HN,List.any_cons,tG r rows]
  show(PyData.eqvAll (q.map IC) (r.map IC)||_)=_
  rw[jn,Ip]
  simp only[Jq,Hv,Hq]
  constructor
  ·rintro(h|h)
   ·exact Jr h.symm
   ·exact IP h
  ·rintro(h|h)
   ·exact Jr h.symm
   ·exact IP h
theorem sv:∀rows:List (List Int),Ll (rows.map λq=>K5 (q.map IC))=true
 |[]=>rfl
 |q :: rows=>by
  show(Ll (q.map IC)&&Ll (rows.map λq=>K5 (q.map IC)))=true
  rw[sv rows,gQ q]
  rfl
theorem vH {K:IN}{H:Hp}:∀(as:List Hm) (rows:List (List Int)),as.length=rows.length->(∀(i:Nat) (a:Hm) (q:List Int),as[i]? = some a->rows[i]? = some q->SqT K H a (iV q))->mq K H (as.map V.ref) (rows.map λq=>K5 (q.map IC))
 |[],[],_,_=>.nil
 |[],_ :: _,h,_=>by simp at h
 |_ :: _,[],h,_=>by simp at h
 |a :: as,q :: rows,h,hat=>.cons (.tup (hat 0 a q rfl rfl) (gi q)) (vH as rows (by simpa using h) λi b r e1 e2=>hat (i+1) b r (by simpa using e1) (by simpa using e2))
theorem wN (hu:X.A.units+64<cLine):OpR X (Je .NotIn) (Ao X.K):=by
 intro pins s σ H x y v u Q I rx ry h
 obtain⟨b,p,r,as,rows,rfl,rfl,hb,hp,hlen,hat,q⟩:=h
 obtain⟨bs,rb⟩:=Dp.reads I (.tuple (r.map IC)) (.ref b) v (.tup hb (gi r)) rx
 obtain⟨cs,rc⟩:=Dp.reads I (.list (rows.map λq=>K5 (q.map IC))) (.ref p) u (.lst hp (vH as rows hlen hat)) ry
 refine SeqAt.notIn_list_reads rc rb (sv rows) (gQ r) ?_ ⟨.bl _,H,I,rfl,?_⟩
 ·have h1:(K5 (r.map IC)).depth<=2:=by
   show PyData.depthAll (r.map IC)+1<=2
   have:=jU r
   lia
  have h2:=Nat.min_le_right (PyData.depthAll (rows.map λq=>K5 (q.map IC))) (K5 (r.map IC)).depth
  lia
 ·rw[tG]
  exact q
end
theorem kI {M:Model}{A:Around}{E:Value->Hl->Prop}{s:Hl}{a:Hm}{Q:Option Obj->Hl->Prop}(h:Q (s.heap.get? a) s):Ig M A (loadIfAlive a) Q E s:=by
 intro Γ p hΓ
 show Sem.wp _ Γ (loadIfAlive a) _ _ p s
 unfold loadIfAlive
 rw[Sem.wp_loadIfAlive]
 first
  |exact h
  |(rw[Sem.wp_pure];exact h)
  |simpa using h
abbrev fX (h:Heap)(e it:Hm)(i:Int)(T:Hm)(b:Bool)(old:Value):Prop :=
 h.get? e=some { cls:=.type "enumerate",dict:=none,data:=.fields #[rawInt ((T:Nat):Int),.bool b,.ref it,rawInt i,.none,old],slots:=#[] }
section
variable  {prog:Ih}{w:I0}{A:Around}{E:Value->Hl->Prop}{s:Hl}
theorem jL {e it l T:Hm}{b:Bool}{i:Nat}{items:Array Value}{x old:Value}{oT:Obj}{Q:Value->Hl->Prop}
  (he:fX s.heap e it i T b old) (hT:s.heap.get? T=some oT) (hTe:T≠e) (hTi:T≠it) (hit:s.heap.IsListIter it l i) (hl:s.heap.IsList l items) (hx:items[i]? = some x) (hne:e≠it)
  (hQ:∀h',fX h' e it ((i:Int)+1) T true old->h'.IsListIter it l (i+1) ->
   h'.get? s.heap.objs.size=some { cls:=.type "tuple",data:=.seq #[.int i s.toks,x] }->h'.objs.size=s.heap.objs.size+1 ->
   (∀b o,b≠e->b≠it->s.heap.get? b=some o->h'.get? b=some o)->Q (.ref s.heap.objs.size) { s with heap:=h',toks:=s.toks+1 }) :
  Ig (Io prog w) A (Builtin.«enumerate.__next__» ⟨[.ref e],[]⟩) (λfin s'=>∃v,fin=.done (.ret v)/\Q v s') E s:=by
 obtain⟨hp,g,d,tk,os⟩:=s
 show Ig _ _ (field (.ref e) 2 >>= _) _ _ _
 refine Hj (wpAny_field he rfl (x:=.ref it) rfl ?_)
 refine Hj (wpAny_nextOf_list_item hit hl hx λh₁ hit₁ hs₁=>?_)
 replace hs₁:Heap.SameBut it hp h₁:=hs₁
 have he₁:fX h₁ e it i T b old:=(hs₁.2 e hne).trans he
 show Ig _ _ (field (.ref e) 3 >>= _) _ _ ⟨h₁,g,d,tk,os⟩
 refine Hj (wpAny_field he₁ rfl (x:=rawInt i) rfl ?_)
 show Ig _ _ (field (.ref e) 4 >>= _) _ _ ⟨h₁,g,d,tk,os⟩
 refine Hj (wpAny_field he₁ rfl (x:=.none) rfl ?_)
 show Ig _ _ (mkInt i >>= _) _ _ ⟨h₁,g,d,tk,os⟩
 refine Hj (wpAny_mkInt ?_)
 show Ig _ _ (setField (.ref e) 3 (rawInt ((i:Int)+1)) >>= _) _ _ ⟨h₁,g,d,tk+1,os⟩
 refine Hj (wpAny_setField_rec he₁ (by simp) λh₂ he₂ hs₂=>?_)
 replace hs₂:Heap.SameBut e h₁ h₂:=hs₂
 replace he₂:fX h₂ e it ((i:Int)+1) T b old:=he₂
 show Ig _ _ (setField (.ref e) 4 .none >>= _) _ _ ⟨h₂,g,d,tk+1,os⟩
 refine Hj (wpAny_setField_rec he₂ (by simp) λh₃ he₃ hs₃=>?_)
 replace hs₃:Heap.SameBut e h₂ h₃:=hs₃
 replace he₃:fX h₃ e it ((i:Int)+1) T b old:=he₃
 show Ig _ _ (newTuple [.int i tk,x] >>= _) _ _ ⟨h₃,g,d,tk+1,os⟩
 refine Hj (wpAny_newTuple ?_)
 have he₄:fX (h₃.push { cls:=.type "tuple",data:=.seq #[.int i tk,x] }) e it ((i:Int)+1) T b old:=Hy _ he₃
 generalize hh₄:h₃.push { cls:=.type "tuple",data:=.seq #[.int i tk,x] }=h₄ at he₄
 have hsz:h₃.objs.size=hp.objs.size:=by rw[hs₃.1,hs₂.1,hs₁.1]
 have hel:e<hp.objs.size:=HB he
 have ht₄:h₄.get? hp.objs.size=some { cls:=.type "tuple",data:=.seq #[.int i tk,x] }:=by rw[<-hh₄,<-hsz];exact HR _ rfl
 have hz₄:h₄.objs.size=hp.objs.size+1:=by rw[<-hh₄,Jc,hsz]
 have hk₄:∀b o,b≠e->b≠it->hp.get? b=some o->h₄.get? b=some o:=λb o hbe hbi hb=>by
  rw[<-hh₄];exact Hy _ (hs₃.extBut b o hbe (hs₂.extBut b o hbe (hs₁.extBut b o hbi hb)))
 have hT₄:h₄.get? T=some oT:=hk₄ T oT hTe hTi hT
 have hit₄:h₄.IsListIter it l (i+1):=by
  rw[<-hh₄];obtain⟨o,ho,r⟩:=(hit₁.extBut hs₂.extBut (Ie hne)).extBut hs₃.extBut (Ie hne);exact⟨o,Hy _ ho,r⟩
 show Ig _ _ (Ly (.ref e) >>= _) _ _ ⟨h₄,g,d,tk+1,os⟩
 rw[hsz]
 clear hh₄ he₃ hs₃ he₂ hs₂ he₁ hs₁ hit₁ hsz h₃ h₂ h₁
 refine Hj ?_
 unfold Ly
 refine Hj (wpAny_field he₄ rfl (x:=rawInt ((T:Nat):Int)) rfl ?_)
 show Ig _ _ (loadIfAlive ((T:Nat):Int).toNat >>= _) _ _ ⟨h₄,g,d,tk+1,os⟩
 rw[IV]
 refine Hj (kI ?_)
 show Ig _ _ (if (Option.isNone (h₄.get? T))=true then _ else _) _ _ ⟨h₄,g,d,tk+1,os⟩
 rw[hT₄,Hs (show ¬(Option.isNone (some oT))=true from HG)]
 have fin:∀h₅,fX h₅ e it ((i:Int)+1) T true old->(∀b o,b≠e->h₄.get? b=some o->h₅.get? b=some o)->h₅.objs.size=h₄.objs.size ->
   ∃v,Fin.done (Flow.ret (HY hp.objs.size))=Fin.done (Flow.ret v)/\Q v ⟨h₅,g,d,tk+1,os⟩:=λh₅ he₅ k5 z5=>by
  refine⟨_,rfl,hQ h₅ he₅ ?_ (k5 _ _ (JP hel) ht₄) (by rw[z5,hz₄]) λb o hbe hbi hb=>k5 b o hbe (hk₄ b o hbe hbi hb)⟩
  obtain⟨o,ho,r⟩:=hit₄
  exact⟨o,k5 it o (Ie hne) ho,r⟩
 refine Hj (wpAny_field he₄ rfl (x:=.bool b) rfl ?_)
 cases b with
 |true =>
  show Ig _ _ (pure false) _ _ ⟨h₄,g,d,tk+1,os⟩
  refine HL ?_
  show Ig _ _ (pure (Fin.done (Flow.ret (HY hp.objs.size)))) _ _ ⟨h₄,g,d,tk+1,os⟩
  exact HL (fin h₄ he₄ (λ_ _ _ q=>q) rfl)
 |false =>
  show Ig _ _ (setField (.ref e) 1 (.bool true) >>= λ_=>pure false) _ _ ⟨h₄,g,d,tk+1,os⟩
  refine Hj (wpAny_setField_rec he₄ (by simp) λh₅ he₅ hs₅=>?_)
  replace hs₅:Heap.SameBut e h₄ h₅:=hs₅
  replace he₅:fX h₅ e it ((i:Int)+1) T true old:=he₅
  refine HL ?_
  show Ig _ _ (pure (Fin.done (Flow.ret (HY hp.objs.size)))) _ _ ⟨h₅,g,d,tk+1,os⟩
  exact HL (fin h₅ he₅ (λb o hb q=>hs₅.extBut b o hb q) hs₅.1)
end
theorem rR:typeLookup (.type "enumerate") "__len__"=pure none:=by rw[typeLookup_type,builtinLookup_eq_fast];kernel_rfl
theorem rg:typeLookup (.type "enumerate") "__length_hint__"=pure none:=by rw[typeLookup_type,builtinLookup_eq_fast];kernel_rfl
theorem pk:J9 "list"=some (.type "list"):=by decide +kernel
def AO (h:Heap)(e it S:Hm)(i:Nat):Prop:=(i=0/\∃old,IsEnum h e it 0 old)\/∃T b old,fX h e it i T b old/\(∃o,h.get? T=some o)/\T≠e/\T≠it/\T≠S
def Prs (h:Heap)(items:Array Value)(B e it S:Hm)(ts:List Hm):Prop:=∀(j:Nat) (t:Hm),ts[j]? = some t->B<=t/\t≠e/\t≠it/\t≠S/\∃tok x,items[j]? = some x/\h.get? t=some { cls:=.type "tuple",data:=.seq #[.int j tok,x] }
section
variable  {prog:Ih}{w:I0}{A:Around}{E:Value->Hl->Prop}{s:Hl}
theorem wz {e it l S:Hm}{i:Nat}{items:Array Value}{x:Value}{Q:Option Value->Hl->Prop}
  (he:AO s.heap e it S i) (hit:s.heap.IsListIter it l i) (hl:s.heap.IsList l items) (hx:items[i]? = some x) (hne:e≠it) (hS:S<s.heap.objs.size)
  (hQ:∀h',AO h' e it S (i+1)->h'.IsListIter it l (i+1) ->
   h'.get? s.heap.objs.size=some { cls:=.type "tuple",data:=.seq #[.int i s.toks,x] }->h'.objs.size=s.heap.objs.size+1 ->
   (∀b o,b≠e->b≠it->s.heap.get? b=some o->h'.get? b=some o)->Q (some (.ref s.heap.objs.size)) { s with heap:=h',toks:=s.toks+1 }) :
  Ig (Io prog w) A (pyNext (.ref e)) Q E s:=by
 rcases he with⟨rfl,old,he⟩|⟨T,b,old,he,⟨o,hT⟩,hTe,hTi,hTS⟩
 ·have hel:e<s.heap.objs.size:=HB he
  have hil:it<s.heap.objs.size:=by obtain⟨_,q,_⟩:=hit;exact HB q
  refine wpAny_pyNext_enum_item he hit hl hx hne λh' ho hit' hT hsz hk=>hQ h' (IP ⟨s.heap.objs.size,false,x,?_,⟨_,hT⟩,JP hel,JP hil,JP hS⟩) hit' hT hsz hk
  exact ho
 ·have hT':s.TypeIs (.ref e) "enumerate":=⟨_,he,rfl⟩
  unfold pyNext
  refine Hj (wpAny_attempt (KH (name:=Str.ofString "__next__") hT' K6
   (J2 K6 hT' F.entry_enumerate_next
    (jL he hT hTe hTi hit hl hx hne λh' a b c d k=>HL (hQ h' (IP ⟨T,true,old,?_,⟨o,k T o hTe hTi hT⟩,hTe,hTi,hTS⟩) b c d k)) (F.args_enumerate_next_1 _))))
  have e1:((i+1:Nat):Int)=(i:Int)+1:=by lia
  rw[e1];exact a
theorem qE {e it l S:Hm}{i:Nat}{items:Array Value}{Q:Option Value->Hl->Prop}(hh:A.handled=none)
  (he:AO s.heap e it S i) (hit:s.heap.IsListIter it l i) (hl:s.heap.IsList l items) (hx:items[i]? = none)
  (hQ:∀h',Heap.ExtBut it s.heap h'->Q none { s with heap:=h' }):Ig (Io prog w) A (pyNext (.ref e)) Q E s:=by
 have go:∀(f0 f1 fi fx:Value),s.heap.get? e=some { cls:=.type "enumerate",dict:=none,data:=.fields #[f0,f1,.ref it,fi,.none,fx],slots:=#[] }->Ig (Io prog w) A (pyNext (.ref e)) Q E s:=λf0 f1 fi fx he=>by
  have hT:s.TypeIs (.ref e) "enumerate":=⟨_,he,rfl⟩
  unfold pyNext
  refine Hj (wpAny_attempt (KH (name:=Str.ofString "__next__") hT K6
   (J2 K6 hT F.entry_enumerate_next ?_ (F.args_enumerate_next_1 _))))
  show Ig _ _ (field (.ref e) 2 >>= _) _ _ _
  refine Hj (wpAny_field he rfl (x:=.ref it) rfl ?_)
  refine Hj (wpAny_nextOf_list_end hh hit hl hx λh' x he' hx'=>?_)
  obtain⟨o,ho,hc⟩:=hx'
  refine Hj (wpAny_isInstance (T:="StopIteration") (b:=true) ⟨o,ho,hc⟩ isSubtype_stop ?_)
  exact HL (hQ _ he')
 rcases he with⟨_,old,he⟩|⟨T,b,old,he,_⟩
 ·exact go _ _ _ _ he
 ·exact go _ _ _ _ he
theorem wG {e it l S B:Hm}{items:Array Value}{R:Result->Hl->Prop}(hh:A.handled=none)(hei:e≠it)(hle:l≠e)(hli:l≠it)(hlS:l≠S)(heS:e≠S)(hiS:it≠S)(hn:items.size<=Hr)(res:Value) :
  ∀(k i:Nat) (s:Hl) (ts:List Hm) (c:Nat),items.size-i=k->i<=items.size->B<=s.heap.objs.size->AO s.heap e it S i->s.heap.IsListIter it l i->s.heap.IsList l items ->
   s.heap.get? S=some { cls:=.type "list",dict:=none,data:=.seq (ts.map HY).toArray c,slots:=#[] }->ts.length=i->Prs s.heap items B e it S ts ->
   (∀h' tk ts' c',(∀b o,b≠e->b≠it->b≠S->s.heap.get? b=some o->h'.get? b=some o)->h'.get? S=some { cls:=.type "list",dict:=none,data:=.seq (ts'.map HY).toArray c',slots:=#[] } ->
    ts'.length=items.size->Prs h' items B e it S ts'->R (.ok (.ret res)) { s with heap:=h',toks:=tk }) ->
  codeAny (Io prog w) A (.builtin "list.extend.loop" ⟨[.ref S,.ref e,res],[]⟩) R s:=by
 intro k
 induction k with
 |zero =>
  intro i s ts c hk hi hB hst hit hl hS hlen hprs hR
  have hin:i=items.size:=by lia
  subst hin
  refine codeAny_builtin F.entry_extend_loop ?_
  rw[Around.under_plainId Lz _]
  show Ig _ A.in1 (pyNext (.ref e) >>= _) _ _ s
  refine Hj (qE (A:=A.in1) hh hst hit hl (Array.getElem?_eq_none (nlr _)) λh' hx=>?_)
  refine HL (hR h' s.toks ts c (λb o hbe hbi hbS q=>hx b o hbi q) (hx S _ (Ie hiS) hS) hlen λj t ht=>?_)
  obtain⟨p1,p2,p3,p4,tok,x,p5,p6⟩:=hprs j t ht
  exact⟨p1,p2,p3,p4,tok,x,p5,hx t _ p3 p6⟩
 |succ k ih =>
  intro i s ts c hk hi hB hst hit hl hS hlen hprs hR
  have hlt:i<items.size:=by lia
  refine codeAny_builtin F.entry_extend_loop ?_
  rw[Around.under_plainId Lz _]
  show Ig _ A.in1 (pyNext (.ref e) >>= _) _ _ s
  have hSl:S<s.heap.objs.size:=HB hS
  have hx:items[i]? = some items[i]:=Lr hlt
  refine Hj (wz hst hit hl hx hei hSl λh' hst' hit' hT hsz hkp=>?_)
  have hS':=hkp S _ (Ie heS) (Ie hiS) hS
  have hel:e<s.heap.objs.size:=by
   rcases hst with⟨_,_,q⟩|⟨_,_,_,q,_⟩
   ·exact HB q
   ·exact HB q
  have hil:it<s.heap.objs.size:=by obtain⟨_,q,_⟩:=hit;exact HB q
  show Ig _ A.in1 (updateSeq S (·.push (.ref s.heap.objs.size)) >>= _) _ _ _
  refine Hj ?_
  have upS:∀b o,b≠S->h'.get? b=some o->(h'.update S (JX (·.push (HY s.heap.objs.size)))).get? b=some o:=λb o hb q=>(JI _ _ (Ie hb)).trans q
  refine wpAny_updateSeq hS' rfl (HL ⟨plainId_quiet Lz _,ih (i+1) _ (ts++[s.heap.objs.size]) (c+1) (by lia) hlt ?_ ?_ ?_ ?_ ?_ (by rw[Hn,hlen];rfl) ?_ ?_⟩) ?_ ?_
  ·show B<=(h'.update S _).objs.size
   rw[Heap.size_update,hsz];exact Ik hB (Nat.le_succ _)
  ·rcases hst' with⟨q,_⟩|⟨T,b,old,h1,⟨o,h2⟩,h3,h4,h5⟩
   ·lia
   ·exact IP ⟨T,b,old,upS e _ heS h1,⟨o,upS T o h5 h2⟩,h3,h4,h5⟩
  ·obtain⟨o,ho,r⟩:=hit'
   exact⟨o,upS it o hiS ho,r⟩
  ·obtain⟨o,ho,r⟩:=hl
   exact⟨o,upS l o hlS (hkp l o hle hli ho),r⟩
  ·have q:=JQ (JX (·.push (HY s.heap.objs.size))) hS' rfl
   show(h'.update S _).get? S=_
   rw[q]
   simp[JX]
  ·intro j t ht
   by_cases hj:j<ts.length
   ·rw[HE hj]at ht
    obtain⟨p1,p2,p3,p4,tok,x,p5,p6⟩:=hprs j t ht
    exact⟨p1,p2,p3,p4,tok,x,p5,upS t _ p4 (hkp t _ p2 p3 p6)⟩
   ·have hjl:j=ts.length:=by
     have:=(gsi ht).1
     rw[Hn]at this
     simp at this
     lia
    subst hjl
    rw[HC (nlr _),IJ]at ht
    have ht:s.heap.objs.size=t:=osi ht
    subst ht
    refine⟨hB,JP hel,JP hil,JP hSl,s.toks,items[i],by rw[hlen];exact hx,?_⟩
    rw[hlen]
    exact upS _ _ (JP hSl) hT
  ·intro h'' tk ts' c' hk2 hS2 hl2 hp2
   refine hR h'' tk ts' c' (λb o hbe hbi hbS q=>hk2 b o hbe hbi hbS (upS b o hbS (hkp b o hbe hbi q))) hS2 hl2 hp2
  ·have:(ts.map HY).toArray.size=i:=by simp[hlen]
   rw[this];lia
  ·show((ts.map HY).toArray.push (HY s.heap.objs.size)).size<=Hr+1
   rw[Array.size_push]
   have:(ts.map HY).toArray.size=i:=by simp[hlen]
   rw[this];lia
theorem tp {e it l S:Hm}{items:Array Value}{R:Result->Hl->Prop}(hh:A.handled=none)(hei:e≠it)(hle:l≠e)(hli:l≠it)(hlS:l≠S)(heS:e≠S)(hiS:it≠S)(hn:items.size<=Hr)(res:Value)(c₀:Nat)
  {old:Value} (he:IsEnum s.heap e it 0 old) (hit:s.heap.IsListIter it l 0) (hl:s.heap.IsList l items) (hS:s.heap.get? S=some { cls:=.type "list",data:=.seq #[] c₀ })
  (hR:∀h' tk ts' c',(∀b o,b≠e->b≠it->b≠S->s.heap.get? b=some o->h'.get? b=some o)->h'.get? S=some { cls:=.type "list",dict:=none,data:=.seq (ts'.map HY).toArray c',slots:=#[] } ->
    ts'.length=items.size->Prs h' items s.heap.objs.size e it S ts'->R (.ok (.ret res)) { s with heap:=h',toks:=tk }) :
  Ig (Io prog w) A.in1 (Jj (.ref S) (.ref e) res)
   (λfin s'=>match fin with|.done f=>R (.ok f) s'|.again c'=>c'.quiet=true/\codeAny (Io prog w) A c' R s') (λe s'=>R (.error e) s') s:=by
 have hT:s.TypeIs (.ref e) "enumerate":=⟨_,he,rfl⟩
 unfold Jj
 refine Hj (wpAny_typeOf hT ?_)
 have h1:Builtin.List.listSameRef (.ref S) (.ref e)=false:=by simp[Builtin.List.listSameRef,Ie heS]
 have h2:(Value.type "enumerate"==Value.type "list")=false:=by decide
 have h3:(Value.type "enumerate"==Value.type "tuple")=false:=by decide
 simp only[h1,h2,h3,Bool.or_false,Bool.false_eq_true,Lf]
 refine Hj (wpAny_pyIter_enum he ?_)
 refine Hj (wpAny_holding ?_)
 unfold Builtin.List.listLengthHint
 refine Hj (wpAny_specialOf hT rR ?_)
 show Ig _ A.in1 (specialOf (HY e) (Str.ofString "__length_hint__") >>= _) _ _ _
 refine Hj (wpAny_specialOf hT rg ?_)
 refine HL ?_
 show Ig _ A.in1 (rule "list.extend.makes-room" >>= λ_=>Builtin.List.listTouch (.ref S) >>= λ_ =>
  again (.builtin "list.extend.loop" ⟨[.ref S,.ref e,res],[]⟩)) _ _ _
 refine Hj (wpAny_rule ?_)
 refine Hj ?_
 show Ig _ A.in1 (updateSeq S (·.push .none) >>= λ_=>updateSeq S (·.pop)) _ _ _
 refine Hj (wpAny_updateSeq hS rfl ?_)
 have hS₂:=JQ (JX (·.push Lb)) hS rfl
 refine wpAny_updateSeq (hz:=by seq_fits) hS₂ rfl ?_
 have hS₃:=JQ (JX (·.pop)) hS₂ rfl
 have oth:∀b o,b≠S->s.heap.get? b=some o->((s.heap.update S (JX (·.push Lb))).update S (JX (·.pop))).get? b=some o :=
  λb o hb e=>(JI _ _ (Ie hb)).trans ((JI _ _ (Ie hb)).trans e)
 refine HL ⟨plainId_quiet Lz _,wG (B:=s.heap.objs.size) hh hei hle hli hlS heS hiS hn res items.size 0 _ [] (c₀+1+1) (by lia) (IH _) ?_ (Jr ⟨rfl,old,oth e _ heS he⟩) ?_ ?_ ?_ rfl ?_ ?_⟩
 ·show s.heap.objs.size<=((s.heap.update S _).update S _).objs.size
  rw[Heap.size_update,Heap.size_update]
  exact nlr _
 ·obtain⟨o,ho,r⟩:=hit
  exact⟨o,oth it o hiS ho,r⟩
 ·obtain⟨o,ho,r⟩:=hl
  exact⟨o,oth l o hlS ho,r⟩
 ·rw[hS₃]
  simp[JX]
 ·intro j t ht
  simp at ht
 ·intro h' tk ts' c' hk hS' hlen hprs
  exact hR h' tk ts' c' (λb o hbe hbi hbS q=>hk b o hbe hbi hbS (oth b o hbS q)) hS' hlen hprs
theorem ow {e it l:Hm}{items:Array Value}{old:Value}{Q:Value->Hl->Prop}(hh:A.handled=none)(hei:e≠it)(hle:l≠e)(hli:l≠it)(hn:items.size<=Hr)
  (he:IsEnum s.heap e it 0 old) (hit:s.heap.IsListIter it l 0) (hl:s.heap.IsList l items)
  (hQ:∀h' tk ts c',(∀b o,b≠e->b≠it->s.heap.get? b=some o->h'.get? b=some o)->h'.get? s.heap.objs.size=some { cls:=.type "list",dict:=none,data:=.seq (ts.map HY).toArray c',slots:=#[] } ->
   ts.length=items.size->Prs h' items s.heap.objs.size e it s.heap.objs.size ts->Q (.ref s.heap.objs.size) { s with heap:=h',toks:=tk }) :
  Ig (Io prog w) A (call (.type "list") [.ref e]) Q E s:=by
 refine callType_codes (Q₁:=λobj s₁=>obj=.ref s.heap.objs.size/\s₁={ s with heap:=s.heap.push { cls:=.type "list",data:=.seq #[] } }) F.called_list (F.typeCall_list_1 _) F.entry_list_init
  (code_list_new _ ⟨rfl,rfl⟩) λobj s₁ h₁=>?_
 obtain⟨rfl,rfl⟩:=h₁
 have hS:(s.heap.push { cls:=.type "list",data:=.seq #[] }).get? s.heap.objs.size=some { cls:=.type "list",data:=.seq #[] }:=HR _ rfl
 refine⟨⟨_,hS,rfl⟩,F.args_list_init_2 _ _,?_⟩
 have hel:e<s.heap.objs.size:=HB he
 have hil:it<s.heap.objs.size:=by obtain⟨_,q,_⟩:=hit;exact HB q
 have hll:l<s.heap.objs.size:=by obtain⟨_,q,_⟩:=hl;exact HB q
 show Ig _ A.in1.in1 (do let old <-Builtin.List.listItems (.ref s.heap.objs.size);Builtin.List.listUpdate (.ref s.heap.objs.size) (λ_=>#[]);letGo old.toList.reverse;Jj (.ref s.heap.objs.size) (.ref e) .none) _ _ _
 refine Hj ?_
 unfold Builtin.List.listItems
 refine Hj (wpAny_seqItems hS rfl (HL ?_))
 show Ig _ _ (updateSeq s.heap.objs.size (λ_=>#[]) >>= λ_=>letGo (#[]:Array Value).toList.reverse >>= λ_=>Jj (.ref s.heap.objs.size) (.ref e) .none) _ _ _
 refine Hj (wpAny_updateSeq hS rfl ?_)
 have hS₂:=JQ (JX (λ_=>(#[]:Array Value))) hS rfl
 have oth:∀b o,s.heap.get? b=some o->((s.heap.push { cls:=.type "list",data:=.seq #[] }).update s.heap.objs.size (JX (λ_=>(#[]:Array Value)))).get? b=some o :=
  λb o q=>(JI _ _ (JP (HB q))).trans (Hy _ q)
 refine Hj (wpAny_letGo ?_)
 refine tp (A:=A.in1) (old:=old) hh hei hle hli (Ij hll) (Ij hel) (Ij hil) hn .none _ (oth e _ he) ?_ ?_ hS₂ λh' tk ts c' hk hS' hlen hprs=>?_
 ·obtain⟨o,ho,r⟩:=hit
  exact⟨o,oth it o ho,r⟩
 ·obtain⟨o,ho,r⟩:=hl
  exact⟨o,oth l o ho,r⟩
 ·refine⟨rfl,hQ h' tk ts c' (λb o hbe hbi q=>hk b o hbe hbi (Ij (HB q)) (oth b o q)) hS' hlen λj t ht=>?_⟩
  obtain⟨p1,p2,p3,p4,r⟩:=hprs j t ht
  refine⟨Ik ?_ p1,p2,p3,p4,r⟩
  show s.heap.objs.size<=((s.heap.push _).update _ _).objs.size
  rw[Heap.size_update,Jc]
  exact Nat.le_succ _
end
section
variable  {X:Cx}{pins:List (Hm×Obj)}{σ:L2.St}{H H':Hp}{s:Hl}{h':Heap}
theorem zk {t':Nat}(I:L2.Inv X pins σ H s)(k:∀b u,s.heap.get? b=some u->h'.get? b=some u)(sm:ak H H')(fr:∀b o,H' b=some o->H b=some o\/(s.heap.objs.size<=b/\bY X.prog X.w H' h' b o)) :
  L2.Inv X pins σ H' { s with heap:=h',toks:=t' }:=by
 refine I.un ⟨λb o q _ _ _=>k b o q,λb o q _ _ _=>⟨o.slots,k b o q⟩,λb o q n _=>?_,λb o q _=>⟨o,k b o q⟩,λb xs q=>sm b _ q,λb o u q=>sm b _ q,λb ps q=>⟨#[],by rw[sm b _ q];simp⟩⟩ ?_
 ·cases e:H' b with
  |none=>rfl
  |some u =>
   rcases fr b u e with q1|⟨q1,_⟩
   ·rw[n]at q1;cases q1
   ·exact absurd (HV (HB q) q1) (Js _)
 ·intro b o e
  rcases fr b o e with q|⟨_,q⟩
  ·exact(I.hok b o q).stay (λc u _ r=>k c u r) (λc r=>sm c _ r) λc xs r=>sm c _ r
  ·exact q
def tLE (K:IN)(ta:TA):TE:=λσ H Q=>ta σ H λvs H1=>∃(a:Hm) (xs:List V),vs=[.ref a]/\SqL K H1 a xs/\∀(H':Hp) (p:Hm) (ts:List Hm),ak H1 H'->H' p=some (.lst (ts.map V.ref))->ts.length=xs.length ->
 (∀(i:Nat) (t:Hm) (x:V),ts[i]? = some t->xs[i]? = some x->H' t=some (.tup [.int (i:Nat),x]))->Q (.ref p) H'
theorem jC:∀ts:List Hm,aT (ts.map V.ref) (ts.map HY)
 |[]=>.nil
 |t :: ts=>.cons rfl (jC ts)
theorem sS {e:Expr}{ta:TA}{p p2 pos pos2:Pos}(hc:X.calm=true) (hg:Gl X "list") (hm:X.mg "list"=none) (hg2:Gl X "enumerate") (hm2:X.mg "enumerate"=none) (ha:PA X [e] ta)
  (hs:Ii [e] X.env=[(false,KW e X.env)]:=by rfl)
  (hs2:Ii [.Call (.Name "enumerate" p2) [e] [] pos2] X.env=[(false,KW (.Call (.Name "enumerate" p2) [e] [] pos2) X.env)]:=by rfl) :
  PE X (.Call (.Name "list" p) [.Call (.Name "enumerate" p2) [e] [] pos2] [] pos) (tLE X.K ta):=by
 intro pins s σ H Q I h
 refine KS (gU I hg hm pk ?_)
 refine Iz ?_ hs2 rfl
 rw[hs2]
 show Ig _ _ (spliced ((false,KW (.Call (.Name "enumerate" p2) [e] [] pos2) X.env) :: [])) _ _ s
 refine Calls.spliced_cons ?_
 refine Call_ (gU I hg2 hm2 boot_enumerate (Iz (thn (ha pos2 pins s σ H _ I h) λus s1 ⟨vs,H1,I1,r1,q1⟩=>?_) hs rfl))
 obtain⟨a,xs,ex,hq,q⟩:=q1
 subst ex
 cases r1 with
 |cons r rr =>
  cases rr
  cases r
  obtain⟨its,rv,p',hz⟩:=I1.list hq
  have hla:a<s1.heap.objs.size:=p'.lt
  refine call_enumerate_list p'.isList λh1 he hit hsz hk=>Calls.spliced_nil ?_
  have hlen:=rv.length
  refine ow (items:=its.toArray) (I.ok.hd hc) (Nat.succ_ne_self _) (Ij (KC hla)) (Ij hla) (by simp only[HA];lia) he hit (p'.isList.at λo z=>hk a o z) λh2 tk ts c' hk2 hS hl2 hprs=>?_
  have hsz2:s1.heap.objs.size+2=h1.objs.size:=hsz.symm
  let S:=h1.objs.size
  have inj:∀(i j:Nat) (t:Hm),ts[i]? = some t->ts[j]? = some t->i=j:=λi j t e1 e2=>by
   obtain⟨_,_,_,_,tok1,x1,_,g1⟩:=hprs i t e1
   obtain⟨_,_,_,_,tok2,x2,_,g2⟩:=hprs j t e2
   rw[g1]at g2
   have:=Jb (λo:Option Obj=>o.map (·.data)) g2
   simp only[K2]at this
   injection this with this
   injection this with this
   have:=Jb (λa:Array Value=>a.toList.head?) this
   simp only[List.head?]at this
   injection this with this
   injection this with this
   lia
  have hidx:∀(i:Nat) (t:Hm),ts[i]? = some t->ts.idxOf t=i:=λi t e1=>by
   have hm:t∈ts:=Ic e1
   exact inj _ _ t (by rw[gge (Kg hm),List.getElem_idxOf]) e1
  let H2:Hp:=λb=>if b=h1.objs.size then some (.lst (ts.map V.ref)) else if b∈ts then some (.tup [.int ((ts.idxOf b:Nat):Int),xs.getD (ts.idxOf b) .non]) else H1 b
  have old:∀b o,s1.heap.get? b=some o->b≠s1.heap.objs.size+1/\b≠s1.heap.objs.size/\b≠h1.objs.size/\b∉ts:=λb o z=>by
   have hb:=HB z
   refine⟨Ij (KC hb),Ij hb,Ij (HV hb (by rw[<-hsz2];exact Jk _ _)),λhm=>?_⟩
   obtain⟨i,hi⟩:=Kr.mp hm
   have:=(hprs i b hi).1
   rw[<-hsz2]at this
   exact absurd (HV hb (Ik (Jk _ 2) this)) (Js _)
  have kk:∀b o,s1.heap.get? b=some o->h2.get? b=some o:=λb o z=>by
   obtain⟨n1,n2,_,_⟩:=old b o z
   exact hk2 b o n1 n2 (hk b o z)
  have sm:ak H1 H2:=λb o z=>by
   have hb:=I1.hok.lt z
   have n3:b≠h1.objs.size:=Ij (HV hb (by rw[<-hsz2];exact Jk _ _))
   have n4:b∉ts:=λhm=>by
    obtain⟨i,hi⟩:=Kr.mp hm
    have:=(hprs i b hi).1
    rw[<-hsz2]at this
    exact absurd (HV hb (Ik (Jk _ 2) this)) (Js _)
   show(if b=h1.objs.size then _ else if b∈ts then _ else H1 b)=_
   rw[Hs n3,Hs n4]
   exact z
  have hts:ts.length=xs.length:=by
   rw[hl2,HA,hlen]
  have I2:L2.Inv X pins σ H2 { s1 with heap:=h2,toks:=tk }:=by
   refine zk I1 kk sm λb o z=>?_
   by_cases c1:b=h1.objs.size
   ·right
    subst c1
    have z':some (HO.lst (ts.map V.ref))=some o:=by
     rw[<-z]
     show _=(if h1.objs.size=h1.objs.size then _ else _)
     rw[Hz rfl]
    have z':=osi z'
    subst z'
    refine⟨by rw[<-hsz2];exact Jk _ _,?_⟩
    exact⟨by rw[lmp,hts];exact hz,_,c',jC ts,hS⟩
   ·by_cases c2:b∈ts
    ·right
     obtain⟨i,hi⟩:=Kr.mp c2
     obtain⟨p1,p2,p3,p4,tok,x',p5,p6⟩:=hprs i b hi
     have z':some (HO.tup [.int ((ts.idxOf b:Nat):Int),xs.getD (ts.idxOf b) .non])=some o:=by
      rw[<-z]
      show _=(if b=h1.objs.size then _ else if b∈ts then _ else H1 b)
      rw[Hs c1,Hz c2]
     have z':=osi z'
     subst z'
     rw[hidx i b hi]
     have hil:i<xs.length:=by rw[<-hts];exact(gsi hi).1
     have hxi:xs[i]? = some xs[i]:=gge hil
     obtain⟨u,hu,ru⟩:=rv.get hxi
     have hux:u=x':=by
      have:its[i]? = some x':=by simpa using p5
      exact osi (hu.symm.trans this)
     subst hux
     refine⟨Ik (by rw[<-hsz2];exact Jk _ _) p1,by show 2<=Hr;decide,[.int i tok,u],.cons ⟨tok,rfl⟩ (.cons ?_ .nil),⟨_,p6,rfl,_,rfl⟩⟩
     rw[Hx,hxi]
     exact ru
    ·left
     rw[<-z]
     show _=(if b=h1.objs.size then _ else if b∈ts then _ else H1 b)
     rw[Hs c1,Hs c2]
  refine⟨.ref h1.objs.size,H2,I2,rfl,q H2 h1.objs.size ts sm ?_ hts λi t x e1 e2=>?_⟩
  ·show(if h1.objs.size=h1.objs.size then _ else _)=_
   rw[Hz rfl]
  ·obtain⟨p1,p2,p3,p4,_⟩:=hprs i t e1
   show(if t=h1.objs.size then _ else if t∈ts then _ else H1 t)=_
   rw[Hs p4,Hz (Ic e1),hidx i t e1,Hx,e2]
   rfl
end
end Wx
end
section
namespace Wg
open PySem PySem.Spec PyProof.Rows L2
theorem Ai {K:IN}{a:Hm}{xs:List V}{g:TG}{tb:TS}{D:oF}{σ:L2.St}{H:Hp}(Pv:Nat->L2.St->Hp->Prop)(h0:Pv 0 σ H)(hl:∀i σ H,i<=xs.length->Pv i σ H->SqL K H a xs)
  (hs:∀i x σ H,i<xs.length->xs[xs.length-1-i]? = some x->Pv i σ H->g x σ H λσ2 H2=>tb { D with nx:=Pv (i+1),ct:=Pv (i+1),bk:=D.nx } σ2 H2) (hd:∀σ H,Pv xs.length σ H->D.nx σ H) :
  ∃W:Nat->Nat->L2.St->Hp->Prop,(∃m,W 0 m σ H)/\∀i m σ H,W i m σ H ->
   ((Itv K a xs.length).stop i H/\D.nx σ H)\/((Itv K a xs.length).go i H/\∃N:L2.St->Hp->Prop,(∀σ' H',N σ' H'->∃m',m'<m/\W (i+1) m' σ' H')/\∀x H',(Itv K a xs.length).yld i H x H'->g x σ H' λσ2 H2=>tb { D with nx:=N,ct:=N,bk:=D.nx } σ2 H2):=by
 refine⟨λi m σ H=>m=xs.length-i/\i<=xs.length/\Pv i σ H,⟨xs.length,by simp,IH _,h0⟩,?_⟩
 rintro i m σ H ⟨rfl,hi,p⟩
 have q:=hl i σ H hi p
 by_cases hlt:i<xs.length
 ·refine .inr ⟨⟨hlt,xs,xs[xs.length-1-i],q,by simp⟩,Pv (i+1),λσ' H' p'=>⟨xs.length-(i+1),by lia,rfl,hlt,p'⟩,λx H' y=>?_⟩
  obtain⟨e,y⟩:=y
  subst e
  exact hs i x σ _ hlt (y xs q) p
 ·have e:i=xs.length:=by lia
  subst e
  exact .inl ⟨nlr _,hd σ H p⟩
theorem lR {lo c:Int}{n:Nat}{g:TG}{tt:TT}{te:TE}{vs:List Nat}{σ:L2.St}{H1:Hp}{D:Hm}{Qd:Hp->Prop}(Pv:Nat->Hp->Prop)(h0:Pv 0 (upd H1 D (.lst [])))
  (hs:∀i H,i<n->Pv i H->g (.int (lo+(i:Nat)*c)) (b7 σ vs) H λσ2 H2=>b7 σ2 vs=b7 σ vs/\tt σ2 H2 λb H3 =>
   if b=true then te σ2 H3 λy H4=>∃acc,H4 D=some (.lst acc)/\acc.length<Hr/\Pv (i+1) (upd H4 D (.lst (acc++[y]))) else Pv (i+1) H3) (hd:∀H,Pv n H->Qd H) :
  ∃W:Nat->Nat->Hp->Prop,(∃m,W 0 m (upd H1 D (.lst [])))/\∀i m H,W i m H ->
   ((Itc lo c n).stop i H/\Qd H)\/((Itc lo c n).go i H/\∃Nx:Hp->Prop,(∀H',Nx H'->∃m',m'<m/\W (i+1) m' H')/\∀x H',(Itc lo c n).yld i H x H'->g x (b7 σ vs) H' λσ2 H2=>b7 σ2 vs=b7 σ vs/\tt σ2 H2 λb H3 =>
    if b=true then te σ2 H3 λy H4=>∃acc,H4 D=some (.lst acc)/\acc.length<Hr/\Nx (upd H4 D (.lst (acc++[y]))) else Nx H3):=by
 refine⟨λi m H=>m=n-i/\i<=n/\Pv i H,⟨n,by simp,IH _,h0⟩,?_⟩
 rintro i m H ⟨rfl,hi,p⟩
 by_cases hlt:i<n
 ·refine .inr ⟨hlt,Pv (i+1),λH' p'=>⟨n-(i+1),by lia,rfl,hlt,p'⟩,λx H' y=>?_⟩
  obtain⟨e,y⟩:=y
  subst e y
  exact hs i _ hlt p
 ·have e:i=n:=by lia
  subst e
  exact .inl ⟨nlr _,hd H p⟩
def TL (H:Hp)(p:Hm)(rows:List (List Int)):Prop:=∃as:List Hm,H p=some (.lst (as.map V.ref))/\as.length=rows.length/\∀(i:Nat) (a:Hm) (r:List Int),as[i]? = some a->rows[i]? = some r->H a=some (.tup (iV r))
theorem TL.same {H H':Hp}{p:Hm}{rows:List (List Int)}(h:TL H p rows)(s:ak H H'):TL H' p rows:=by
 obtain⟨as,h1,h2,h3⟩:=h
 exact⟨as,s _ _ h1,h2,λi a r e1 e2=>s _ _ (h3 i a r e1 e2)⟩
theorem bR {as:List Hm}{i:Nat}{v:V}(h:(as.map V.ref)[i]? = some v):∃a,as[i]? = some a/\v=.ref a:=by
 rw[Hw]at h
 cases e:as[i]? with
 |none=>rw[e]at h;cases h
 |some z=>rw[e]at h;exact⟨z,rfl,(osi h).symm⟩
theorem aO {as:List Hm}{i:Nat}{a:Hm}(h:as[i]? = some a):(as.map V.ref)[i]? = some (.ref a):=by
 rw[Hw,h];rfl
def PvR (H0:Hp)(D:Hm)(rows:List (List Int))(i:Nat)(H:Hp):Prop:=∃as:List Hm,ak H0 H/\H D=some (.lst (as.map V.ref))/\as.length=(rows.take i).length/\∀(j:Nat) (b:Hm) (x:List Int),as[j]? = some b->(rows.take i)[j]? = some x->b≠D/\H b=some (HO.tup (iV x))
theorem PvR.start {H0 H:Hp}{D:Hm}{rows:List (List Int)}(s:ak H0 H)(hD:H D=none):PvR H0 D rows 0 (upd H D (.lst [])):=⟨[],aX s hD,ae,rfl,λj b x e=>by simp at e⟩
theorem PvR.same {H0 H:Hp}{D:Hm}{rows:List (List Int)}{i:Nat}(h:PvR H0 D rows i H):ak H0 H:=by
 obtain⟨_,h1,_⟩:=h
 exact h1
theorem PvR.turn {H0 H H1:Hp}{D q:Hm}{rows:List (List Int)}{i:Nat}{r:List Int}(h:PvR H0 D rows i H)(hD0:H0 D=none)(hn:rows.length<=1000000)(hr:rows[i]? = some r)(s1:ak H H1)(hq:H1 q=some (HO.tup (iV r)))(nq:q≠D) :
  ∃acc,H1 D=some (.lst acc)/\acc.length<Hr/\PvR H0 D rows (i+1) (upd H1 D (.lst (acc++[.ref q]))):=by
 obtain⟨as,hS,hD,hl,hat⟩:=h
 have hD1:=s1 _ _ hD
 have hl':as.length=i:=by
  have:=(gsi hr).1
  rw[hl,Iv]
  lia
 refine⟨as.map V.ref,hD1,?_,as++[q],aQ (hS.trans s1) hD0,?_,?_,λj a x e1 e2=>?_⟩
 ·rw[lmp,hl,Iv]
  exact a6 (by lia)
 ·rw[ae,HI]
  rfl
 ·rw[bu hr,Hn,Hn,hl]
  rfl
 ·rw[bu hr]at e2
  by_cases c:j<as.length
  ·rw[HE c]at e1
   rw[HE (by rw[<-hl];exact c)]at e2
   obtain⟨n1,n2⟩:=hat j a x e1 e2
   exact⟨n1,by rw[ao n1];exact s1 _ _ n2⟩
  ·have hi:=(gsi e1).1
   rw[Hn]at hi
   simp at hi
   have ei:j=as.length:=by lia
   subst ei
   rw[HC (nlr _),IJ]at e1
   rw[hl,HC (nlr _),IJ]at e2
   have e1:q=a:=osi e1
   have e2:r=x:=osi e2
   subst e1 e2
   exact⟨nq,by rw[ao nq];exact hq⟩
theorem PvR.done {H0 H:Hp}{D:Hm}{rows:List (List Int)}{n:Nat}(h:PvR H0 D rows n H)(hn:rows.length<=n):ak H0 H/\TL H D rows:=by
 obtain⟨as,hS,hD,hl,hat⟩:=h
 rw[IR hn]at hl hat
 exact⟨hS,as,hD,hl,λi a r e1 e2=>(hat i a r e1 e2).2⟩
theorem dj {f:Str}{v:V}:∀{fs:List (Str×V)} {n:Nat},fs.length<=n->(fq f v fs).length<=n+1
 |[],n,_=>Nat.succ_le_succ (IH n)
 |(g,x) :: r,n,h=>by
  unfold fq
  by_cases c:g=f
  ·rw[Hz c]
   exact Ik h (Nat.le_succ _)
  ·rw[Hs c]
   cases n with
   |zero=>simp at h
   |succ n =>
    have:=dj (f:=f) (v:=v) (fs:=r) (n:=n) (by simpa using h)
    simp only[HW]
    lia
def mD (K:IN)(C:Hm)(m qual:Str)(st:JO)(ps:List Str):Prop:=∃f fd,Fun K m qual st f fd/\(∀us:List Value,us.length=ps.length->bindArgs fd ⟨us,[]⟩=pure (ps.zip us))/\xt K C m f
def Cm (P:Ih)(w:I0)(K:IN)(mg:Str->Option Value)(base:Heap)(k:Nat)(C:Hm)(m:Str)(ps:List Str)(sp:Sp):Prop :=
 ∃f fd,js P w K mg base CX0 k f fd ps sp/\jh K fd ps []/\xt K C m f
section
variable  {P:Ih}{w:I0}{K:IN}{mg:Str->Option Value}{base:Heap}
theorem mD.cm {C:Hm}{m qual:Str}{st:JO}{N ps:List Str}{k:Nat}{sp:Sp}(F:mD K C m qual st ps)(S:aw N ps (ag st))(len:∀vs H Q E,sp vs H Q E->vs.length=ps.length)
  (hbody:∀(f:Hm) (cdv:Value) (A:Around) (outer:List Env) (s:Hl) (H:Hp) (vs:List V) (Q:VK) (E:XK),bA k (A.deeper (envOfC qual (ag st) s.heap.objs.size f cdv))->sp vs H Q E ->
   ∃t,PSs (qT CX0 P w K mg base N qual (ag st) f cdv A outer s H E).nox (bZ st) t/\t { nx:=λ_ H'=>Q .non H',rt:=Q } (start N vs) H):Cm P w K mg base (k+1) C m ps sp:=by
 obtain⟨f,fd,h1,h2,h3⟩:=F
 exact⟨f,fd,h1.ok S len (hbody f),.all h2,h3⟩
def su (K:IN)(C:Hm)(qual:Str)(st:JO)(ps:List Str):Prop:=∃f fd,Fun K "__init__" qual st f fd/\(∀us:List Value,us.length=ps.length->bindArgs fd ⟨us,[]⟩=pure (ps.zip us))/\Mk K C f
def Ci (P:Ih)(w:I0)(K:IN)(mg:Str->Option Value)(base:Heap)(k:Nat)(C:Hm)(ps:List Str)(sp:Sp):Prop :=
 ∃f fd,js P w K mg base CX0 k f fd ps sp/\jh K fd ps []/\Mk K C f
theorem su.ci {C:Hm}{qual:Str}{st:JO}{N ps:List Str}{k:Nat}{sp:Sp}(F:su K C qual st ps)(S:aw N ps (ag st))(len:∀vs H Q E,sp vs H Q E->vs.length=ps.length)
  (hbody:∀(f:Hm) (cdv:Value) (A:Around) (outer:List Env) (s:Hl) (H:Hp) (vs:List V) (Q:VK) (E:XK),bA k (A.deeper (envOfC qual (ag st) s.heap.objs.size f cdv))->sp vs H Q E ->
   ∃t,PSs (qT CX0 P w K mg base N qual (ag st) f cdv A outer s H E).nox (bZ st) t/\t { nx:=λ_ H'=>Q .non H',rt:=Q } (start N vs) H):Ci P w K mg base (k+1) C ps sp:=by
 obtain⟨f,fd,h1,h2,h3⟩:=F
 exact⟨f,fd,h1.ok S len (hbody f),.all h2,h3⟩
theorem Bg {C:Hm}{m qual:Str}{st:JO}{ps:List Str}{f:Hm}{oc:Value}{od an:Option Hm}{osl:Array (Option Value)}{kV doc pm cdv ct:Value}
  (bind:∀(kV doc pm:Value) (an:Option Hm) (cdv ct:Value) (us:List Value),us.length=ps.length->bindArgs (Kc m qual (df st) (bZ st) (ag st) .none kV doc pm an cdv ct) ⟨us,[]⟩=pure (ps.zip us))
  (a:JB K (.ref C) m=some (some (.ref f))) (i:PySem.W.isFn K (.ref f)=true) (l:K.lookup f=some ⟨oc,od,.func (Kc m qual (df st) (bZ st) (ag st) .none kV doc pm an cdv ct),osl⟩)
  (c:Lp K cdv qual=true) (kp:JL K (.ref f)=true):mD K C m qual st ps :=
 ⟨f,_,uF (st:=st) l c kp,bind kV doc pm an cdv ct,⟨a,i,kp⟩⟩
theorem A4 {C:Hm}{qual:Str}{st:JO}{ps:List Str}{f:Hm}{oc:Value}{od an:Option Hm}{osl:Array (Option Value)}{kV doc pm cdv ct:Value}
  (bind:∀(kV doc pm:Value) (an:Option Hm) (cdv ct:Value) (us:List Value),us.length=ps.length->bindArgs (Kc "__init__" qual (df st) (bZ st) (ag st) .none kV doc pm an cdv ct) ⟨us,[]⟩=pure (ps.zip us))
  (mk:PySem.W.makesIn K C=true) (kc:JL K (.ref C)=true)
  (a:JB K (.ref C) "__init__"=some (some (.ref f))) (i:PySem.W.isFn K (.ref f)=true) (l:K.lookup f=some ⟨oc,od,.func (Kc "__init__" qual (df st) (bZ st) (ag st) .none kV doc pm an cdv ct),osl⟩)
  (c:Lp K cdv qual=true) (kp:JL K (.ref f)=true):su K C qual st ps :=
 ⟨f,_,uF (st:=st) l c kp,bind kV doc pm an cdv ct,⟨mk,a,i,kc⟩⟩
end
theorem ij {X:Cx}{k:Nat}{C:Hm}{m:Str}{ps:List Str}{sp:Sp}{pos apos:Pos}{o e:Expr}{es:List Expr}{ta:TE}{t:TA}{pl:Sem Bool}(he:PE X o ta)(cl:Cls X.K C)(c:Cm X.prog X.w X.K X.mg X.base k C m ps sp)(hr:bA k X.A)(ha:PA X (e :: es) t)
  (hst:Ii (e :: es) X.env=(false,KW e X.env) :: Ii es X.env:=by rfl) (hpl:(KQ pos (Ii es X.env)).any (·.1)=false:=by rfl)
  (ht:KW (.Call (.Attribute o m apos) (e :: es) [] pos) X.env=(do
   let ov <-KW o X.env
   standAt apos.atName
   let (f,first) <-holding [ov] (getMethod ov m pl)
   callWith pos f first (KQ pos (Ii (e :: es) X.env)) (backToKw pos (KY [] X.env))):=by rfl) :
  PE X (.Call (.Attribute o m apos) (e :: es) [] pos) (kS C m sp [] E0 ta t):=by
 obtain⟨f,fd,h1,h2,h3⟩:=c
 exact AB he cl h3 h1 hr h2 .nil u6 ha hst hpl ht
theorem Df {X:Cx}{k:Nat}{C:Hm}{m:Str}{ps:List Str}{sp:Sp}{pos apos:Pos}{o:Expr}{ta:TE}{pl:Sem Bool}(he:PE X o ta)(cl:Cls X.K C)(c:Cm X.prog X.w X.K X.mg X.base k C m ps sp)(hr:bA k X.A)
  (ht:KW (.Call (.Attribute o m apos) [] [] pos) X.env=(do
   let ov <-KW o X.env
   standAt apos.atName
   let (f,first) <-holding [ov] (getMethod ov m pl)
   callWith pos f first (KQ pos (Ii [] X.env)) (backToKw pos (KY [] X.env))):=by rfl) :
  PE X (.Call (.Attribute o m apos) [] [] pos) (kS C m sp [] E0 ta fI):=by
 obtain⟨f,fd,h1,h2,h3⟩:=c
 exact yM he cl h3 h1 hr h2 .nil u6 ht
theorem qh {X:Cx}{k:Nat}{C:Hm}{x:Str}{ps:List Str}{sp:Sp}{p pos:Pos}{e:Expr}{es:List Expr}{t:TA}(c:Ci X.prog X.w X.K X.mg X.base k C ps sp)(hr:bA (k+1) X.A)(hm:X.mg x=some (.ref C))(ha:PA X (e :: es) t)(hg:Gl X x:=by rfl)
  (hdb:(x==("__debug__" : Str))=false:=by decide) (he:Ii (e :: es) X.env=(false,KW e X.env) :: Ii es X.env:=by rfl) (hpl:(KQ pos (Ii es X.env)).any (·.1)=false:=by rfl) :
  PE X (.Call (.Name x p) (e :: es) [] pos) (BB C sp [] E0 t):=by
 obtain⟨f,fd,h1,h2,h3⟩:=c
 exact AT h3 h1 hr hg hm h2 .nil u6 ha hdb he hpl
end Wg
end
section
namespace Hd
open PySem PySem.W PyProof.Rows L2 Wg
theorem wZ (h:Heap):(m6 h).In h:=by
 intro b o e
 have hm:∀l:List (Hm×Obj),l.lookup b=some o->(b,o)∈l:=by
  intro l
  induction l with
  |nil=>intro h;cases h
  |cons x r ih =>
   intro h
   obtain⟨a,u⟩:=x
   rw[J1]at h
   cases c:b==a with
   |true =>
    rw[c]at h
    rw[eq_of_beq c,<-osi h]
    exact HD ..
   |false =>
    rw[c]at h
    exact Ho _ (ih h)
 have h1:=hm _ e
 unfold m6 at h1
 obtain⟨a,_,q⟩:=KR.1 h1
 cases g:h.get? a with
 |none=>rw[g]at q;cases q
 |some u =>
  rw[g]at q
  have q:=osi q
  obtain⟨rfl,rfl⟩:=IY q
  exact g
theorem ki {K:IN}{f:Hm}{n q:Str}{st:JO}(h:oO K f=some (t6 n q st)):∃oc od osl kV doc pm an cdv ct,K.lookup f=some ⟨oc,od,.func (fnOf n q (df st) (bZ st) (ag st) .none kV doc pm an cdv ct),osl⟩/\codeIn K cdv q=true/\keepIn K (.ref f)=true:=by
 unfold oO at h
 split at h
 ·rename_i oc od fd osl e
  have h:=osi h
  unfold t6 at h
  cases fd
  simp only[Kt]at h
  obtain⟨rfl,rfl,rfl,rfl,rfl,rfl,rfl,rfl,rfl,hc⟩:=h
  refine⟨_,_,_,_,_,_,_,_,_,e,hc,?_⟩
  unfold keepIn
  dsimp only
  rw[e]
 ·cases h
theorem iP {K:IN}{x:Str}{f:Hm}(h:jP K x=some f):nsIn K Im x=some (some (.ref f)):=by
 unfold jP at h
 split at h
 ·rename_i e
  rw[e,osi h]
 ·cases h
section
variable  {K:IN}{mg:Str->Option Value}{h:Heap}
theorem bB {x:Str}{st:JO}{ps:List Str}(X:K.In h)(G:h.Ns Im mg)(e:yO K x=some (t6 x x st))
  (bind:∀(kV doc pm:Value) (an:Option Hm) (cdv ct:Value) (us:List Value),us.length=ps.length->bindArgs (fnOf x x (df st) (bZ st) (ag st) .none kV doc pm an cdv ct) ⟨us,[]⟩=pure (ps.zip us):=by
   intro _ _ _ _ _ _ us hl
   rcases us with _|⟨a,_|⟨b,_|⟨c,_|⟨d,_|⟨e,_|⟨g,us⟩⟩⟩⟩⟩⟩<;>first|rfl|cases hl):Has K mg x st ps:=by
 unfold yO at e
 cases g:jP K x with
 |none=>rw[g]at e;cases e
 |some f =>
  rw[g]at e
  obtain⟨_,_,_,_,_,_,_,_,_,h1,h2,h3⟩:=ki e
  exact B0 X G bind (iP g) h1 h2 h3
theorem rX {x:Str}{n:Int}(X:K.In h)(G:h.Ns Im mg)(e:zj K x=some n):∃t,mg x=some (.int n t):=by
 unfold zj at e
 split at e
 ·rename_i i t q
  rw[<-osi e]
  exact⟨t,mg_of X G q⟩
 ·cases e
theorem E1 {c:Str}{fields:List Str}{ms:List (Str×Str×JO)}(X:K.In h)(G:h.Ns Im mg)(e:yL K c fields ms=some (CC fields ms)) :
  ∃C,mg c=some (.ref C)/\Cls K C/\makesIn K C=true/\keepIn K (.ref C)=true/\(∀f∈fields,eq K C f)/\∀m∈ms,∃f,findIn K (.ref C) m.1=some (some (.ref f))/\isFn K (.ref f)=true/\oO K f=some (t6 m.1 m.2.1 m.2.2):=by
 unfold yL at e
 cases g:jP K c with
 |none=>rw[g]at e;cases e
 |some C =>
  rw[g]at e
  have e:=osi e
  unfold CC at e
  simp only[Kt,List.cons.injEq,and_true]at e
  obtain⟨⟨h1,h2,h3,h4,h5⟩,⟨h6,h7⟩,h8⟩:=e
  refine⟨C,mg_of X G (iP g),⟨h1,h2,h3,h6⟩,h4,h5,λf hf=>List.map_inj_left.1 h7 f hf,λm hm=>?_⟩
  have q:=List.map_inj_left.1 h8 m hm
  unfold Bu at q
  split at q
  ·rename_i f e1
   have q:=osi q
   obtain⟨q1,q2⟩:=IY q
   exact⟨f,e1,q1,q2⟩
  ·cases q
theorem Az {C:Hm}{m qual:Str}{st:JO}{ps:List Str}(e:∃f,findIn K (.ref C) m=some (some (.ref f))/\isFn K (.ref f)=true/\oO K f=some (t6 m qual st))
  (bind:∀(kV doc pm:Value) (an:Option Hm) (cdv ct:Value) (us:List Value),us.length=ps.length->bindArgs (fnOf m qual (df st) (bZ st) (ag st) .none kV doc pm an cdv ct) ⟨us,[]⟩=pure (ps.zip us):=by
   intro _ _ _ _ _ _ us hl
   rcases us with _|⟨a,_|⟨b,_|⟨c,_|⟨d,_|⟨e,_|⟨g,us⟩⟩⟩⟩⟩⟩<;>first|rfl|cases hl):mD K C m qual st ps:=by
 obtain⟨f,e1,e2,e3⟩:=e
 obtain⟨_,_,_,_,_,_,_,_,_,h1,h2,h3⟩:=ki e3
 exact Bg bind e1 e2 h1 h2 h3
theorem Gk {C:Hm}{qual:Str}{st:JO}{ps:List Str}(mk:makesIn K C=true)(kc:keepIn K (.ref C)=true) (e:∃f,findIn K (.ref C) "__init__"=some (some (.ref f))/\isFn K (.ref f)=true/\oO K f=some (t6 "__init__" qual st))
  (bind:∀(kV doc pm:Value) (an:Option Hm) (cdv ct:Value) (us:List Value),us.length=ps.length->bindArgs (fnOf "__init__" qual (df st) (bZ st) (ag st) .none kV doc pm an cdv ct) ⟨us,[]⟩=pure (ps.zip us):=by
   intro _ _ _ _ _ _ us hl
   rcases us with _|⟨a,_|⟨b,_|⟨c,_|⟨d,_|⟨e,_|⟨g,_|⟨i,us⟩⟩⟩⟩⟩⟩⟩<;>first|rfl|cases hl):su K C qual st ps:=by
 obtain⟨f,e1,e2,e3⟩:=e
 obtain⟨_,_,_,_,_,_,_,_,_,h1,h2,h3⟩:=ki e3
 exact A4 bind mk kc e1 e2 h1 h2 h3
theorem zp {p:Hm}{c:Value}{its:List Value}(e:i4 K p=some (c,its)):∃od n osl ar,K.lookup p=some ⟨c,od,.seq ar n,osl⟩/\ar.toList=its:=by
 unfold i4 at e
 split at e
 ·rename_i c' od ar n osl q
  have e:=osi e
  obtain⟨rfl,rfl⟩:=IY e
  exact⟨_,_,_,_,q,rfl⟩
 ·cases e
theorem tq:∀{its:List Value} {r:List Int},its.map Ge=r.map some->aT (iV r) its
 |[],[],_=>.nil
 |[],_ :: _,e=>by cases e
 |_ :: _,[],e=>by cases e
 |v :: its,i :: r,e=>by
  rw[HN,HN,List.cons.injEq]at e
  refine .cons ?_ (tq e.2)
  cases v with
  |int j t=>exact⟨t,by rw[osi e.1]⟩
  |_=>cases e.1
theorem Fk {p:Hm}{r:List Int}(hr:r.length<=1000)(e:nv K p=some (qP r)):∀H:Hp,SqT K H p (iV r):=by
 unfold nv at e
 cases g:i4 K p with
 |none=>rw[g]at e;cases e
 |some x =>
  rw[g]at e
  obtain⟨c,its⟩:=x
  have e:=osi e
  unfold qP at e
  obtain⟨rfl,e2⟩:=IY e
  obtain⟨od,n,osl,ar,q,rfl⟩:=zp g
  have hl:ar.toList.length=r.length:=by
   have:=Jb List.length e2
   rwa [lmp,lmp]at this
  exact λH=>.inr ⟨_,ar,n,q,rfl,rfl,by rw[<-JJ,hl];exact Ka (a6 (by lia)),tq e2⟩
theorem GO {x:Str}{r:List Int}(hr:r.length<=1000)(X:K.In h)(G:h.Ns Im mg)(e:yU K x=some (qP r)):∃a,mg x=some (.ref a)/\∀H:Hp,SqT K H a (iV r):=by
 unfold yU at e
 cases g:jP K x with
 |none=>rw[g]at e;cases e
 |some f =>
  rw[g]at e
  exact⟨f,mg_of X G (iP g),Fk hr e⟩
theorem vp:∀{its:List Value} {rows:List (List Int)},its.map (DP K)=rows.map (λr=>some (qP r))->∃bs:List Hm,bs.length=rows.length/\its=bs.map HY/\∀(i:Nat) (b:Hm) (r:List Int),bs[i]? = some b->rows[i]? = some r->nv K b=some (qP r)
 |[],[],_=>⟨[],rfl,rfl,λi b r e=>by simp at e⟩
 |[],_ :: _,e=>by cases e
 |_ :: _,[],e=>by cases e
 |v :: its,r :: rows,e=>by
  rw[HN,HN,List.cons.injEq]at e
  obtain⟨bs,h1,h2,h3⟩:=vp e.2
  cases v with
  |ref b =>
   refine⟨b :: bs,by rw[HW,HW,h1],by rw[h2];rfl,λi b' r' e1 e2=>?_⟩
   cases i with
   |zero =>
    cases osi e1
    cases osi e2
    exact e.1
   |succ i=>exact h3 i b' r' e1 e2
  |_=>cases e.1
theorem Ft {x:Str}{rows:List (List Int)}(hr:∀r∈rows,r.length<=1000)(hn:rows.length<=1000)(X:K.In h)(G:h.Ns Im mg) (e:uO K x=some (.type "tuple",rows.map λr=>some (qP r))) :
  ∃(a:Hm) (bs:List Hm),mg x=some (.ref a)/\bs.length=rows.length/\(∀H:Hp,SqT K H a (bs.map V.ref))/\∀(H:Hp) (i:Nat) (b:Hm) (r:List Int),bs[i]? = some b->rows[i]? = some r->SqT K H b (iV r):=by
 unfold uO at e
 cases g:jP K x with
 |none=>rw[g]at e;cases e
 |some f =>
  rw[g]at e
  have e:(i4 K f).map (λy=>(y.1,y.2.map (DP K)))=some (.type "tuple",rows.map λr=>some (qP r)):=e
  cases g2:i4 K f with
  |none=>rw[g2]at e;cases e
  |some y =>
   rw[g2]at e
   obtain⟨c,its⟩:=y
   have e:=osi e
   obtain⟨rfl,e2⟩:=IY e
   obtain⟨od,n,osl,ar,q,rfl⟩:=zp g2
   obtain⟨bs,h1,h2,h3⟩:=vp e2
   have h2:ar.toList=bs.map HY:=h2
   refine⟨f,bs,mg_of X G (iP g),h1,λH=>.inr ⟨_,ar,n,q,rfl,rfl,?_,?_⟩,λH i b r e1 e2=>Fk (hr r (Ic e2)) (h3 i b r e1 e2) H⟩
   ·rw[<-JJ,h2,lmp]
    exact Ka (a6 (by lia))
   ·rw[h2]
    exact Wx.jC bs
end
theorem nth {α β:Type}{f g:α->β}{l:List α}(h:l.map f=l.map g)(i:Nat){a:α}(e:l[i]? = some a):f a=g a:=List.map_inj_left.1 h a (Ic e)
theorem AD {α β γ:Type}{o:Option α}{f:α->β}{g:α->γ}{b:β}{c:γ}(h1:o.map f=some b)(h2:o.map g=some c):∃a,o=some a/\f a=b/\g a=c:=by
 cases o with
 |none=>cases h1
 |some a=>exact⟨a,rfl,osi h1,osi h2⟩
theorem ED {p q:Ih}{α:Type}{Yf:Hl->α}{A:α}{N:Nat}(e:opening p=plainProg p.main.scope.names)(hN:Nat.ble 600 N=true)(f:∀s,fenceModules? p s=some s)
  (a:∀w:I0,((boot_heap w.params).isNs Im&&(Array.mk ([]:List GenState)).size==0)=true)
  (b1:∀w os,(rE p N w os).map (λs=>(yw p w s,(l5 p q s).1))=some (true,(openGood q []).1))
  (b0:∀w os,(rE p N w os).map (λs=>((l5 p q s).2.1,(l5 p q s).2.2.1))=some ((openGood q []).2.1,(openGood q []).2.2.1))
  (b2:∀w os,(rE p N w os).map (λs=>(l5 p q s).2.2.2)=some (openGood q []).2.2.2)
  (b3:∀w os,(rE p N w os).map Yf=some A):LeftO p q [] (λs=>xlAt q [] s&&recOk [] s) Yf (λ_=>A) N:=λw=>by
 obtain⟨⟨h,gs,d,k,os⟩,h1,h2⟩:=Option.map_eq_some_iff.mp (boot_open (p:=p) (N:=N) e hN f w)
 simp only[Kt]at h2
 obtain⟨rfl,rfl,rfl,rfl⟩:=h2
 obtain⟨s,r,c1,c2⟩:=AD (b1 w os) (b2 w os)
 have c0:=b0 w os
 have c3:=b3 w os
 rw[r]at c0 c3
 have c3:Yf s=A:=osi c3
 obtain⟨k1,k2⟩:=IY c1
 obtain⟨k3,k4⟩:=IY (osi c0)
 unfold rE at r
 rw[<-PySem.W.Fast.te14082659384304107361,<-PySem.W.Fast.te14364793385576792824]at r
 have k5:openSeen q [] (importedModules p.main.body) (λs=>xlAt q [] s&&recOk [] s) true s=openGood q []:=by
  rw[PySem.W.Fast.te4187177175401517315]
  exact Lg k2 (Lg k3 (Lg k4 c2))
 have t:topFrom treeTable p w N ⟨boot_heap w.params,Array.mk [],boot_drawn,boot_toks,os⟩=some s:=by
  unfold topFrom
  dsimp only
  have a:=a w
  rw[a,r]
  show(match yw p w s with
   |true=>some s
   |false=>none)=some s
  rw[k1]
 unfold openEnds
 rw[h1]
 show(topFrom treeTable p w N _).map _=_
 rw[t]
 exact Jb some (Lg k5 c3)
theorem DY {r:OpenSpec}{k:Nat}{q:Ih}{loose:List Str}{XP:(Str->Option Value)->Heap->Prop}{Fx:IN->Prop}{d:DefRec}{ps:List Str}{sp:IN->Sp}
  (hwell:r.wellSaid=true) (hdf:d.params.defaults=[]) (hlen:r.args.length=ps.length) (hr:bA k callerA)
  (F:∀(w:I0) (mg:Str->Option Value) (fa:Hm) (h:Heap) (K:IN),Fx K->K.In h->h.Ns Im mg->mg d.name=some (.ref fa) ->
   ∃fd:Le,(∀(s:Hl) (us:List Value),us.length=ps.length->BindsTo s fd ⟨us,[]⟩ (ps.zip us))/\∀base:Heap,K.In base->base.Ns Im mg->js r.prog w K mg base CX0 k fa fd ps (sp K))
  (hsp:∀(K:IN) (H:Hp) (xs:List V) (a:Codec.denoteAll r.args),pR H->Codec.withinAll r.args a=true->Codec.app r.args r.asked a=true->ig K H xs (LG r.args a) ->
   sp K xs H (λv H'=>Dw K H' v (r.ret.enc (Codec.app r.args r.f a))) λ_ _ _=>False) :
  WalkOS q loose XP (λ_ h=>∃K:IN,K.In h/\Fx K) r d [] (λf vs=>PySem.call f vs):=by
 intro w s_0 s₁ mg mb G Y
 obtain⟨K,KX,hx⟩:=Y
 exact walk_spec (K:=λ_=>K) (YP:=λ_ h=>K.In h) (CX:=λ_=>CX0) (sp:=λ_=>sp K) hwell hdf hlen hr (λ_ _ y=>y) (λw mg fa h _ KX G hm=>F w mg fa h K hx KX G hm) (λ_ H xs a=>hsp K H xs a) (λ_ _ _ _ _ z=>z) w s_0 s₁ mg mb G KX
end Hd
end
section
namespace Wx
open PySem PySem.Spec PyProof.Rows L2 Wg
section
variable  {prog:Ih}{w:I0}{A:Around}{E:Value->Hl->Prop}{s:Hl}
theorem Ah {d:Hm}{o:Obj}{es:Array DictEntry}{ep:Nat}(lo:(d==JV)=false)(hx:o.ExactDict)(hdt:o.data=.dict es ep) :
  PySem.W.KdlSrc prog w "dict" d d es.size (λi v=>∃en,es[i]? = some en/\v=en.key) (λh=>h.get? d=some o) where
 type:=λs ho=>⟨o,ho,hx.1⟩
 there:=λ_ ho=>⟨HB ho,HB ho⟩
 keep:=λ_ _ ho hk=>hk d (.inl rfl) o ho
 notList:=by decide
 notTuple:=by decide
 hint:=λ_ _ _ _ ho hq=>PySem.W.kdl_hint_dict ⟨o,ho,hx.1⟩ hq
 iter:=λA s hh ho=>⟨_,λi h=>h.IsKeyIter s.heap.objs.size d i es.size ep/\h.get? d=some o,(λ_ _ hq=>lP lo ho hx hdt hq),
  ⟨λb hb=>(by simp at hb;simp[hb]),λ_ _ _ st hk=>⟨st.1.at λo e=>hk _ (by simp) o e,hk d (by simp) o st.2⟩,λi s' Q E hi st hQ =>
    jO (en:=es[i]) st.1 st.2 hdt rfl (by simp[hi]) λh' st' sb=>hQ _ h' s'.toks ⟨_,by simp[hi],rfl⟩ ⟨st',(sb.2 d (Ij (HB ho))).trans st.2⟩ λb u hb e=>(sb.2 b (λz=>hb (by simp[z]))).trans e,
   λs' Q E st hQ=>iT hh st.1 st.2 hdt rfl (nlr _) λh' eb=>hQ h' s'.toks λb u hb e=>eb b u (λz=>hb (by simp[z])) e,
   λ_ _ _ _ st hQ=>wpAny_pyIter_keyiter st.1 hQ⟩,⟨⟨_,HR _ rfl,rfl,rfl⟩,Hy _ ho⟩⟩
open PyProof.Rows.G in
theorem uj {T:String}{r d:Hm}{n:Nat}{P:Nat->Value->Prop}{OK:Heap->Prop}{shape:Nat->Bool}{Q:Value->Hl->Prop}(K:PySem.W.KdlSrc prog w T r d n P OK)(hh:A.handled=none)(hok:OK s.heap)(hn:n<=Hr)
  (hv:∀vs:List Value,vs.length=n->(∀j v,vs[j]? = some v->P j v)->(∃fs,TupsOf s.heap shape vs fs)/\∀v,v∈vs->∃l,tupKeyC s.heap shape v=some l)
  (h:∀h' tk vs (arr:Array Keyed) ep p,(∀b o,s.heap.get? b=some o->h'.get? b=some o)->vs.length=n->(∀j v,vs[j]? = some v->P j v)->arr.Perm (pairsOf vs)->SortedToK (tupKindC s.heap shape) arr vs.length ->
   h'.get? p=some (seqObj "list" (arr.map (·.2)) ep)->s.heap.get? p=none->Q (.ref p) { s with heap:=h',toks:=tk }):Ig (Io prog w) A (call (.builtin "sorted") [.ref r]) Q E s:=by
 refine Calls.call_function_entry kind_sorted plain_sorted entry_sorted (args_sorted1 _) ?_
 unfold Builtin.«sorted»
 refine Hj (m:=checkCount "sorted" 1 1 _) (HL ?_)
 refine Hj (PySem.W.kdu_collect (A:=A.in1) K hh hok hn λh1 tk acc hk hacc=>?_)
 have hl:acc.toList.length=n:=by rw[JJ];exact hacc.1
 have hP:∀(j:Nat) (v:Value),acc.toList[j]? = some v->P j v:=λj v e=>hacc.2 j v (by rw[<-Kp];exact e)
 generalize acc.toList=vs at hl hP
 obtain⟨⟨fs,ht⟩,hkey⟩:=hv vs hl hP
 refine Hj (wpAny_newList ?_)
 have hoL:(h1.push (seqObj "list" vs.toArray 0)).get? h1.objs.size=some (seqObj "list" vs.toArray 0):=HR _ rfl
 show Ig _ _ _ _ _ { s with heap:=h1.push (seqObj "list" vs.toArray 0),toks:=tk }
 have k0:KeepsTups s.heap (h1.push (seqObj "list" vs.toArray 0)):=λb o e _=>Hy _ (hk b o e)
 have k6:=k0.trans (keeps_sort6 (vs:=vs) hoL)
 have hge:s.heap.get? h1.objs.size=none:=by
  cases e:s.heap.get? h1.objs.size with
  |none=>rfl
  |some o=>exact absurd (HB (hk _ _ e)) (Js _)
 refine Hj (wpAny_holding (J2 slot_list_sort ⟨_,hoL,rfl⟩ entry_list_sort (list_sort_treeG (κ:=tupKindC s.heap shape) (kd:=tuples' true) hoL (tupKeys hkey) ?ordG ?keyG (by rw[hl];exact hn) λst' a1 a2 a3=>⟨_,rfl,?retG⟩) (args_list_sort _)))
 case ordG=>exact tupC_ltAt (s:={ s with heap:=sortHeap6 (h1.push (seqObj "list" vs.toArray 0)) h1.objs.size vs,toks:=tk }) true k6
 case keyG =>
  intro h2 R hq
  exact tup_kind (s:={ s with heap:=sortHeap6 (h1.push (seqObj "list" vs.toArray 0)) h1.objs.size vs,toks:=tk }) (by rw[TupsOf.length ht];lia) (TupsOf.keep k6 ht) hq
 case retG =>
  obtain⟨ep,he⟩:=sortedHeap_at (vs:=vs) (out:=(arrOf st').map (·.2)) hoL
  rw[pairsOf_size]at a2
  exact HL ⟨_,rfl,h _ _ vs (arrOf st') ep _ (λb o e=>by
   have hb:=HB (hk b o e)
   exact(sortedHeap_old (Ij hb) (by rw[size_push'];exact KC hb)).trans (Hy _ (hk b o e))) hl hP a1 a2 he hge⟩
end
theorem AM {P:Ih}{w:I0}{H:Hp}{h:Heap}{a:Hm}{o:HO}(x:bY P w H h a o):∃u,h.get? a=some u:=by
 cases o with
 |lst xs=>obtain⟨_,_,_,_,e⟩:=x;exact⟨_,e⟩
 |tup xs=>obtain⟨_,_,_,u,e,_⟩:=x;exact⟨u,e⟩
 |dK kvs=>obtain⟨_,_,_,_,o,_,_,e,_⟩:=x;exact⟨_,e⟩
 |dT kvs=>obtain⟨_,_,_,_,o,_,_,e,_⟩:=x;exact⟨_,e⟩
 |set S n=>obtain⟨o,_,_,_,e,_⟩:=x;exact⟨_,e⟩
 |ins C dx fs=>obtain⟨_,_,_,e,_⟩:=x;exact⟨_,e⟩
 |own y=>exact x
 |xd fs=>obtain⟨_,⟨_,_,_,e,_⟩,_⟩:=x;exact⟨_,e⟩
 |rng lo hi=>obtain⟨_,_,_,e⟩:=x;exact⟨_,e⟩
 |frz ob u=>exact⟨_,x.1⟩
 |tbl ps=>exact⟨_,x⟩
 |met f y=>exact⟨_,x⟩
 |ext φ=>exact x.2.1
section
variable  {X:Cx}{pins:List (Hm×Obj)}{σ:L2.St}{H:Hp}{s:Hl}{h':Heap}
theorem vV (I:L2.Inv X pins σ H s){p:Hm}(hp:s.heap.get? p=none):H p=none:=by
 cases e:H p with
 |none=>rfl
 |some u =>
  obtain⟨o,q⟩:=AM (I.hok p u e)
  rw[hp]at q
  cases q
theorem AG {t':Nat}{p:Hm}{ob:HO}(I:L2.Inv X pins σ H s)(k:∀b u,s.heap.get? b=some u->h'.get? b=some u)(hp:s.heap.get? p=none)(new:bY X.prog X.w (upd H p ob) h' p ob) :
  L2.Inv X pins σ (upd H p ob) { s with heap:=h',toks:=t' }:=by
 have sm:ak H (upd H p ob):=aG (vV I hp)
 refine I.un ⟨λb o q _ _ _=>k b o q,λb o q _ _ _=>⟨o.slots,k b o q⟩,λb o q n _=>?_,λb o q _=>⟨o,k b o q⟩,λb xs q=>sm b _ q,λb o u q=>sm b _ q,λb ps q=>⟨#[],by rw[sm b _ q];simp⟩⟩ ?_
 ·have nb:b≠p:=λz=>by rw[z,hp]at q;cases q
  rw[ao nb]
  exact n
 ·intro b o e
  by_cases nb:b=p
  ·subst nb
   rw[ae]at e
   cases e
   exact new
  ·rw[ao nb]at e
   exact(I.hok b o e).stay (λc u _ r=>k c u r) (λc r=>sm c _ r) λc xs r=>sm c _ r
end
def leP (a b:Int×Int):Prop:=a.1<b.1\/(a.1=b.1/\a.2<=b.2)
def kp (a:Int×Int):List L2.Key:=[Sum.inl a.1,Sum.inl a.2]
def Dh:List V->Hp->VK->Prop:=λvs H Q=>∃(d:Hm) (kvs:List (List L2.Key×V)) (ks:List (Int×Int)),vs=[V.ref d]/\H d=some (.dT kvs)/\kvs.map (·.1)=ks.map kp /\
 ∀(os:List (Int×Int)) (qs:List Hm) (p:Hm),os.Perm ks->os.Pairwise leP->qs.length=os.length->(∀(i:Nat) (q:Hm) (o:Int×Int),qs[i]? = some q->os[i]? = some o->H q=some (.tup [.int o.1,.int o.2]))->H p=none ->
  Q (.ref p) (upd H p (.lst (qs.map V.ref)))
def adO:Value->Hm
 |.ref a=>a
 |_=>0
def prO:Option HO->Int×Int
 |some (.tup [.int a,.int b])=>(a,b)
 |_=>(0,0)
def zf:Nat->Bool:=λ_=>false
open PyProof.Rows.G in
theorem uH {P:Ih}{w:I0}{H:Hp}{h:Heap}(ok:HOk P w H h){q:Hm}{k:Int×Int}(e:H q=some (.tup [.int k.1,.int k.2])):(∃f,TupOf h zf (.ref q) f)/\tupKeyC h zf (.ref q)=some [Sum.inl k.1,Sum.inl k.2]:=by
 obtain⟨z,its,r,ob,e1,c,n,dd⟩:=ok q _ e
 cases r with
 |cons r1 r2 =>
  obtain⟨t1,rfl⟩:=r1
  cases r2 with
  |cons r3 r4 =>
   obtain⟨t2,rfl⟩:=r3
   cases r4
   refine⟨⟨_,q,ob,_,n,rfl,e1,c,dd,rfl,λ_=>⟨_,_,rfl⟩,λz=>absurd z (by decide)⟩,?_⟩
   unfold tupKeyC
   rw[Hz (by simp[isTupObj,e1,c])]
   simp only[tupKey,e1,dd]
   rfl
open PyProof.Rows.G in
theorem sJ {h:Heap}{shape:Nat->Bool}:∀vs:List Value,(∀v∈vs,∃f,TupOf h shape v f)->∃fs,TupsOf h shape vs fs
 |[],_=>⟨[],.nil⟩
 |v :: r,hv=>by
  obtain⟨f,hf⟩:=hv v (HD ..)
  obtain⟨fs,hfs⟩:=sJ r λu hu=>hv u (Ho _ hu)
  exact⟨f :: fs,.cons hf hfs⟩
open PyProof.Rows.G in
theorem CQ {a b:Int×Int}(h:lexLt itemOrd [Sum.inl b.1,Sum.inl b.2] [Sum.inl a.1,Sum.inl a.2]=false):leP a b:=by
 have h:(decide (b.1<a.1)||(!decide (a.1<b.1)&&(decide (b.2<a.2)||(!decide (a.2<b.2)&&false))))=false:=h
 rw[Bool.or_eq_false_iff]at h
 obtain⟨h1,h2⟩:=h
 have h1:=of_decide_eq_false h1
 unfold leP
 by_cases c:a.1<b.1
 ·exact .inl c
 ·rw[dqf c]at h2
  simp at h2
  exact .inr ⟨by lia,by lia⟩
section
variable  {X:Cx}
theorem zl (hc:X.calm=true):kK X (.builtin "sorted") Dh:=by
 intro pins s σ H vs us Q I r h
 obtain⟨d,kvs,ks,rfl,hd,hks,q⟩:=h
 rw[aT.ref1 r]
 obtain⟨hz,lo,xs,pr,o,es,ep,ho,hx,hdt,he,nd⟩:=I.hok d _ hd
 have l1:es.size=xs.length:=size_of_entries he
 have l2:kvs.length=xs.length:=Lc pr
 have l3:ks.length=kvs.length:=by
  have:=Jb List.length hks
  rw[lmp,lmp]at this
  lia
 have hat:∀(j:Nat) (x:List L2.Key×Hm×Value) (k:Int×Int),xs[j]? = some x->ks[j]? = some k->H x.2.1=some (.tup [.int k.1,.int k.2]):=λj x k e1 e2=>by
  have hj:j<kvs.length:=by rw[l2];exact(gsi e1).1
  obtain⟨b,hb,g1,g2,_⟩:=nj pr (gge hj)
  rw[e1]at hb
  cases hb
  have ek:kvs[j].1=kp k:=by
   have e3:=Jb (λl=>l[j]?) hks
   simp only[Hw,gge hj,e2,K2]at e3
   exact osi e3
  rw[g2,ek]
  rfl
 have hkey:∀(j:Nat) (en:DictEntry),es[j]? = some en->∃x k,xs[j]? = some x/\ks[j]? = some k/\en.key=.ref x.2.1:=λj en e=>by
  have hq:=entry_at he j
  rw[e]at hq
  cases hx':xs[j]? with
  |none=>rw[hx']at hq;cases hq
  |some x =>
   rw[hx']at hq
   have hj:j<ks.length:=by rw[l3,l2];exact(gsi hx').1
   refine⟨x,ks[j],rfl,gge hj,?_⟩
   have hq:en=_:=osi hq
   rw[hq]
   rfl
 have hvs:∀vs:List Value,vs.length=es.size->(∀j v,vs[j]? = some v->∃en:DictEntry,es[j]? = some en/\v=en.key)->vs=xs.map λx=>HY x.2.1:=λvs hl hv=>by
  refine List.ext_getElem? λj=>?_
  rw[Hw]
  cases e:vs[j]? with
  |none =>
   have:=List.getElem?_eq_none_iff.mp e
   rw[K1 (by lia)]
   rfl
  |some v =>
   obtain⟨en,e1,rfl⟩:=hv j v e
   obtain⟨x,k,e2,_,e3⟩:=hkey j en e1
   rw[e2,e3]
   rfl
 have hok:∀v∈xs.map (λx=>HY x.2.1),∃(q:Hm) (k:Int×Int),v=.ref q/\H q=some (.tup [.int k.1,.int k.2]):=λv hv=>by
  obtain⟨x,hx1,rfl⟩:=HM.1 hv
  obtain⟨j,hj,rfl⟩:=Ky.1 hx1
  exact⟨_,ks[j]'(by lia),rfl,hat j _ _ (gge hj) (gge (by lia))⟩
 have hprO:∀(qa:Hm) (k:Int×Int),H qa=some (.tup [.int k.1,.int k.2])->prO (H qa)=k:=λqa k e=>by rw[e];rfl
 refine uj (shape:=zf) (Ah lo hx hdt) (I.ok.hd hc) ho (by lia) (λvs hl hv=>?_) λh' tk vs arr ep' p hk hl hv hp hs hg hn=>?_
 ·rw[hvs vs hl hv]
  refine⟨sJ _ λv hv=>?_,λv hv=>?_⟩
  ·obtain⟨qa,k,rfl,e⟩:=hok v hv
   exact(uH I.hok e).1
  ·obtain⟨qa,k,rfl,e⟩:=hok v hv
   exact⟨_,(uH I.hok e).2⟩
 ·have hV:=hvs vs hl hv
  have hmem:∀x∈arr.toList,x.1=x.2/\∃(qa:Hm) (k:Int×Int),x.1=.ref qa/\H qa=some (.tup [.int k.1,.int k.2]):=λx hx1=>by
   have h1:=(Ln.mp hp).mem_iff.mp hx1
   rw[pairsOf_toList]at h1
   have h2:=mem_zip_self h1
   refine⟨h2.1,hok x.1 ?_⟩
   rw[<-hV]
   exact h2.2
  have hout:(arr.map (·.2)).toList=(arr.toList.map λx=>adO x.1).map HY:=by
   rw[Array.toList_map,JH]
   refine II λx hx1=>?_
   obtain⟨e1,qa,k,e2,_⟩:=hmem x hx1
   show x.2=HY (adO x.1)
   rw[<-e1,e2]
   rfl
  have hperm:(arr.toList.map λx=>prO (H (adO x.1))).Perm ks:=by
   have h1:=Ln.mp hp
   rw[pairsOf_toList,hV]at h1
   have h2:=h1.map λx=>prO (H (adO x.1))
   have e:(((xs.map λx=>HY x.2.1).zip (xs.map λx=>HY x.2.1)).map λx=>prO (H (adO x.1)))=ks:=by
    refine List.ext_getElem? λj=>?_
    rw[Hw,List.zip_map',Hw]
    cases e1:xs[j]? with
    |none =>
     have:=List.getElem?_eq_none_iff.mp e1
     rw[K1 (by lia)]
     rfl
    |some x =>
     have hj:j<ks.length:=by rw[l3,l2];exact(gsi e1).1
     rw[gge hj]
     exact Jb some (hprO _ _ (hat j x _ e1 (gge hj)))
   rw[e]at h2
   exact h2
  have hKK:∀(i:Nat) (hi:i<arr.toList.length),KK (PyProof.Rows.G.tupKindC s.heap zf) arr i=[Sum.inl (prO (H (adO arr.toList[i].1))).1,Sum.inl (prO (H (adO arr.toList[i].1))).2]:=λi hi=>by
   obtain⟨e1,qa,k,e2,e3⟩:=hmem _ (HP hi)
   unfold KK
   rw[<-Kp,gge hi]
   show(PyProof.Rows.G.tupKeyC s.heap zf arr.toList[i].1).getD []=_
   rw[e2,(uH I.hok e3).2]
   show _=[Sum.inl (prO (H qa)).1,Sum.inl (prO (H qa)).2]
   rw[hprO qa k e3]
   rfl
  have hsz:arr.toList.length=vs.length:=by
   rw[(Ln.mp hp).length_eq,JJ,pairsOf_size]
  refine⟨.ref p,upd H p (.lst ((arr.toList.map λx=>adO x.1).map V.ref)),AG I hk hn ⟨?_,(arr.toList.map λx=>adO x.1).map HY,ep',jC _,?_⟩,rfl,q (arr.toList.map λx=>prO (H (adO x.1))) (arr.toList.map λx=>adO x.1) p hperm ?_ (by rw[lmp,lmp]) ?_ (vV I hn)⟩
  ·rw[lmp,lmp]
   lia
  ·rw[hg,<-hout,Array.toArray_toList]
  ·rw[HQ]
   intro i j hi hj hij
   rw[lmp]at hi hj
   have hle:=hs i j (Ka hij) (by lia)
   rw[hKK i hi,hKK j hj]at hle
   rw[List.getElem_map,List.getElem_map]
   exact CQ hle
  ·intro i qa k e1 e2
   rw[Hw]at e1 e2
   cases e3:arr.toList[i]? with
   |none=>rw[e3]at e1;cases e1
   |some x =>
    rw[e3]at e1 e2
    have e1:adO x.1=qa:=osi e1
    have e2:prO (H (adO x.1))=k:=osi e2
    obtain⟨_,qb,kb,e4,e5⟩:=hmem x (Ic e3)
    have e6:adO x.1=qb:=by rw[e4];rfl
    rw[e6,hprO qb kb e5]at e2
    rw[<-e1,e6,<-e2]
    exact e5
def DV (K:IN):V->List V->Hp->VK->Prop:=λx vs H Q=>∃l b xs zs,x=.ref l/\vs=[.ref b]/\H l=some (.lst xs)/\SqT K H b zs/\xs.length+zs.length<=Hr/\Q .non (upd H l (.lst (xs++zs)))
theorem Bj:MtM X "list.extend" (DV X.K):=by
 intro pins s σ H x vs v us Q I rx rv h
 obtain⟨l,b,xs,zs,rfl,rfl,hH,hB,hz,q⟩:=h
 cases rx
 obtain⟨u,rfl,ru⟩:=rv.one
 cases ru
 obtain⟨z,its,n,r,hl,e⟩:=I.lstM hH
 obtain⟨its2,r2,⟨ob,e2,c2,n2,d2⟩,z2⟩:=I.tuple hB
 have hl2:zs.length=its2.length:=r2.length
 have hsz:its.toArray.size+its2.toArray.size<=Hr:=by rw[HA,HA];lia
 refine J2 PySem.F.slot_list_extend ⟨_,e,rfl⟩ PySem.F.entry_list_extend ?_ (PySem.F.args_list_extend_2 _ _)
 show Ig _ _ (Jj (.ref l) (.ref b) .none) _ _ s
 unfold Jj
 refine Hj (wpAny_typeOf (T:="tuple") ⟨ob,e2,c2⟩ ?_)
 rw[Hz (by
  have:(Value.type "tuple"==Value.type "tuple")=true:=by rfl
  rw[this,Bool.or_true])]
 refine Hj (listItems_at e2 d2 ?_)
 refine Hj (listItems_at e rfl ?_)
 rw[Hs (by rw[sL hsz,Lq];exact HG)]
 refine Hj (listUpdate_at e rfl ?_ (by rw[HA];lia) (by rw[Array.size_append];lia))
 refine HL ⟨_,rfl,.non,_,I.lset (its':=its++its2) hH e (by simp) (r.append r2) ?_,rfl,q⟩
 rw[Hn]
 lia
end
theorem wv {d:Hm}{o:Obj}{kvs:List (List L2.Key×V)}{g:TG}{tb:TS}{D:oF}{σ:L2.St}{H:Hp}(Pv:Nat->L2.St->Hp->Prop)(h0:Pv 0 σ H)(hl:∀i σ H,i<=kvs.length->Pv i σ H->H d=some (.frz o (.dT kvs)))
  (hs:∀i k v q σ H,kvs[i]? = some (k,v)->H q=some (.tup (k.map kV))->Pv i σ H->g (.ref q) σ H λσ2 H2=>tb { D with nx:=Pv (i+1),ct:=Pv (i+1),bk:=D.nx } σ2 H2) (hd:∀σ H,Pv kvs.length σ H->D.nx σ H) :
  ∃W:Nat->Nat->L2.St->Hp->Prop,(∃m,W 0 m σ H)/\∀i m σ H,W i m σ H ->
   ((zL d o kvs).stop i H/\D.nx σ H)\/((zL d o kvs).go i H/\∃N:L2.St->Hp->Prop,(∀σ' H',N σ' H'->∃m',m'<m/\W (i+1) m' σ' H')/\∀x H',(zL d o kvs).yld i H x H'->g x σ H' λσ2 H2=>tb { D with nx:=N,ct:=N,bk:=D.nx } σ2 H2):=by
 refine⟨λi m σ H=>m=kvs.length-i/\i<=kvs.length/\Pv i σ H,⟨kvs.length,by simp,IH _,h0⟩,?_⟩
 rintro i m σ H ⟨rfl,hi,p⟩
 have q:=hl i σ H hi p
 by_cases hlt:i<kvs.length
 ·refine .inr ⟨⟨q,hlt⟩,Pv (i+1),λσ' H' p'=>⟨kvs.length-(i+1),by lia,rfl,hlt,p'⟩,λx H' y=>?_⟩
  obtain⟨e,k,v,qa,y,rfl,hq⟩:=y
  subst e
  exact hs i k v qa σ _ y hq p
 ·have e:i=kvs.length:=by lia
  subst e
  exact .inl ⟨⟨q,nlr _⟩,hd σ H p⟩
end Wx
end
section
namespace Wl
open PySem PySem.Spec PyProof.Rows L2 Wg
open PySem.W (Codec)
open CM
def fz (w h:Int)(p l m:Hm):List (Str×V):=fq "marks" (.ref m) (fq "lines" (.ref l) (fq "points" (.ref p) (fq "height" (.int h) (fq "width" (.int w) []))))
section
variable  {w h:Int}{p l m:Hm}
theorem Do:(fz w h p l m).lookup ("width" : Str)=some (.int w):=by
 unfold fz
 rw[aI,Hs (by decide +kernel),aI,Hs (by decide +kernel),aI,Hs (by decide +kernel),aI,Hs (by decide +kernel),aI,Hz rfl]
theorem Di:(fz w h p l m).lookup ("height" : Str)=some (.int h):=by
 unfold fz
 rw[aI,Hs (by decide +kernel),aI,Hs (by decide +kernel),aI,Hs (by decide +kernel),aI,Hz rfl]
theorem i7:(fz w h p l m).lookup ("points" : Str)=some (.ref p):=by
 unfold fz
 rw[aI,Hs (by decide +kernel),aI,Hs (by decide +kernel),aI,Hz rfl]
theorem rJ:(fz w h p l m).lookup ("lines" : Str)=some (.ref l):=by
 unfold fz
 rw[aI,Hs (by decide +kernel),aI,Hz rfl]
theorem xb:(fz w h p l m).lookup ("marks" : Str)=some (.ref m):=by
 unfold fz
 rw[aI,Hz rfl]
theorem oI {f:Str} (h1:¬f="marks") (h2:¬f="lines") (h3:¬f="points") (h4:¬f="height") (h5:¬f="width"):(fz w h p l m).lookup f=none:=by
 unfold fz
 rw[aI,Hs h1,aI,Hs h2,aI,Hs h3,aI,Hs h4,aI,Hs h5]
 rfl
end
structure DCl (K:IN)(mg:Str->Option Value)(C:Hm):Prop where
 cl:Cls K C
 nW:eq K C "width"
 nH:eq K C "height"
 nP:eq K C "points"
 nL:eq K C "lines"
 nM:eq K C "marks"
 mgC:mg "Drawing"=some (.ref C)
def bC (C:Hm)(H:Hp)(a:Hm)(S:Gla.Plan):Prop:=∃dx p l m,H a=some (.ins C dx (fz S.w S.h p l m))/\TL H p (S.pts.map gf)/\TL H l (S.lines.map wl)/\TL H m (S.marks.map pf)
theorem bC.same {C:Hm}{H H':Hp}{a:Hm}{S:Gla.Plan}(h:bC C H a S)(s:ak H H'):bC C H' a S:=by
 obtain⟨dx,p,l,m,h1,h2,h3,h4⟩:=h
 exact⟨dx,p,l,m,s _ _ h1,h2.same s,h3.same s,h4.same s⟩
variable  {P:Ih}{w:I0}{K:IN}{mg:Str->Option Value}{base:Heap}{C CV:Hm}
def FV (C:Hm):Sp:=λvs H Q _=>∃(x dx:Hm) (wi he:Int) (p l m:Hm),vs=[.ref x,.int wi,.int he,.ref p,.ref l,.ref m]/\H x=some (.ins C dx []) /\
 ∀H':Hp,H' x=some (.ins C dx (fz wi he p l m))->(∀b o,H b=some o->b≠x->H' b=some o)->Q .non H'
theorem GC:aw ["self","width","height","points","lines","marks"] ["self","width","height","points","lines","marks"] (ag iI):=fsk
theorem Am (F:su K C "Drawing.__init__" iI ["self","width","height","points","lines","marks"]) (T:DCl K mg C):Ci P w K mg base 1 C ["self","width","height","points","lines","marks"] (FV C):=by
 refine F.ci GC (λvs H Q E h=>?_) (λ_ _ A _ s H vs Q E hr h=>?_)
 ·obtain⟨x,dx,wi,he,p,l,m,rfl,_⟩:=h
  rfl
 ·obtain⟨x,dx,wi,he,p,l,m,rfl,hx,k⟩:=h
  refine⟨_,ac (ji (pv 0) (pv 1) rfl) (ac (ji (pv 0) (pv 2) rfl) (ac (ji (pv 0) (pv 3) rfl) (ac (ji (pv 0) (pv 4) rfl) (af (ji (pv 0) (pv 5) rfl))))),?_⟩
  refine⟨_,rfl,_,rfl,x,C,dx,_,rfl,hx,T.cl,T.nW,(by show 0<1000;decide),?_⟩
  refine⟨_,rfl,_,rfl,x,C,dx,_,rfl,ae,T.cl,T.nH,(Iu (dj (n:=0) (nlr 0)) (by decide)),?_⟩
  refine⟨_,rfl,_,rfl,x,C,dx,_,rfl,ae,T.cl,T.nP,(Iu (dj (dj (n:=0) (nlr 0))) (by decide)),?_⟩
  refine⟨_,rfl,_,rfl,x,C,dx,_,rfl,ae,T.cl,T.nL,(Iu (dj (dj (dj (n:=0) (nlr 0)))) (by decide)),?_⟩
  refine⟨_,rfl,_,rfl,x,C,dx,_,rfl,ae,T.cl,T.nM,(Iu (dj (dj (dj (dj (n:=0) (nlr 0))))) (by decide)),?_⟩
  refine k _ ae λb o e hb=>?_
  rw[ao hb,ao hb,ao hb,ao hb,ao hb]
  exact e
def rN:Sp:=λvs H Q _=>∃(v:V) (k:Int),vs=[v,.int k]/\Q (.int (20+8*k)) H
theorem G0:aw ["self","k"] ["self","k"] (ag kT):=fsk
theorem Es (F:mD K C "place_of_point" "Drawing.place_of_point" kT ["self","k"]) (gHB:∃t,mg "HEAD_BYTES"=some (.int 20 t)) (gPB:∃t,mg "POINT_BYTES"=some (.int 8 t)):Cm P w K mg base 1 C "place_of_point" ["self","k"] rN:=by
 refine F.cm G0 (λvs H Q E h=>?_) (λ_ _ A _ s H vs Q E hr h=>?_)
 ·obtain⟨v,k,rfl,_⟩:=h
  rfl
 ·obtain⟨v,i,rfl,k⟩:=h
  refine⟨_,af (aq (aW dX (bI gHB) (aW dE (bI gPB) (pv 1)))),?_⟩
  exact⟨_,rfl,_,_,rfl,rfl,.inl ⟨by decide,by decide⟩,_,_,rfl,rfl,k⟩
def xB (C:Hm):Sp:=λvs H Q _=>∃(a:Hm) (S:Gla.Plan) (k:Int),vs=[.ref a,.int k]/\bC C H a S/\Q (.int (20+8*(S.pts.length:Int)+4*k)) H
theorem GM:aw ["self","k"] ["self","k"] (ag k9):=fsk
theorem EO (F:mD K C "place_of_line" "Drawing.place_of_line" k9 ["self","k"]) (T:DCl K mg C) (gl:mg "len"=none) (gLB:∃t,mg "LINE_BYTES"=some (.int 4 t)) (C1:Cm P w K mg base 1 C "place_of_point" ["self","k"] rN) :
  Cm P w K mg base 2 C "place_of_line" ["self","k"] (xB C):=by
 refine F.cm GM (λvs H Q E h=>?_) (λ_ _ A _ s H vs Q E hr h=>?_)
 ·obtain⟨a,S,k,rfl,_⟩:=h
  rfl
 ·obtain⟨a,S,i,rfl,hd,k⟩:=h
  obtain⟨dx,p,l,m,h1,⟨as,h2,h2l,_⟩,h3,h4⟩:=hd
  refine⟨_,af (aq (aW dX (ij (pv 0) T.cl C1 hr (aa (aY aR (by rfl) gl IB (aa (aS (pv 0) rfl) ad)) ad)) (aW dE (bI gLB) (pv 1)))),?_⟩
  refine⟨_,rfl,a,dx,_,rfl,h1,oI (by decide +kernel) (by decide +kernel) (by decide +kernel) (by decide +kernel) (by decide +kernel),_,rfl,a,C,dx,_,_,rfl,h1,T.cl,T.nP,i7,p,_,rfl,.inl (SqL.of h2),?_⟩
  refine⟨_,_,rfl,_,rfl,_,_,rfl,rfl,.inl ⟨by decide,by decide⟩,_,_,rfl,rfl,?_⟩
  rw[lmp,h2l,lmp]
  exact k
def yJ (C:Hm):Sp:=λvs H Q _=>∃(a:Hm) (S:Gla.Plan) (k:Int),vs=[.ref a,.int k]/\bC C H a S/\Q (.int (20+8*(S.pts.length:Int)+4*(S.lines.length:Int)+12*k)) H
theorem GT:aw ["self","k"] ["self","k"] (ag kW):=fsk
theorem EA (F:mD K C "place_of_mark" "Drawing.place_of_mark" kW ["self","k"]) (T:DCl K mg C) (gl:mg "len"=none) (gMB:∃t,mg "MARK_BYTES"=some (.int 12 t)) (C1:Cm P w K mg base 2 C "place_of_line" ["self","k"] (xB C)) :
  Cm P w K mg base 3 C "place_of_mark" ["self","k"] (yJ C):=by
 refine F.cm GT (λvs H Q E h=>?_) (λ_ _ A _ s H vs Q E hr h=>?_)
 ·obtain⟨a,S,k,rfl,_⟩:=h
  rfl
 ·obtain⟨a,S,i,rfl,hd,k⟩:=h
  have hd0:=hd
  obtain⟨dx,p,l,m,h1,h2,⟨as,h3,h3l,_⟩,h4⟩:=hd
  refine⟨_,af (aq (aW dX (ij (pv 0) T.cl C1 hr (aa (aY aR (by rfl) gl IB (aa (aS (pv 0) rfl) ad)) ad)) (aW dE (bI gMB) (pv 1)))),?_⟩
  refine⟨_,rfl,a,dx,_,rfl,h1,oI (by decide +kernel) (by decide +kernel) (by decide +kernel) (by decide +kernel) (by decide +kernel),_,rfl,a,C,dx,_,_,rfl,h1,T.cl,T.nL,rJ,l,_,rfl,.inl (SqL.of h3),?_⟩
  refine⟨a,S,_,rfl,hd0,_,rfl,_,_,rfl,rfl,.inl ⟨by decide,by decide⟩,_,_,rfl,rfl,?_⟩
  rw[lmp,h3l,lmp]
  exact k
def Ed (C:Hm):Sp:=λvs H Q _=>∃(a:Hm) (S:Gla.Plan),vs=[.ref a]/\bC C H a S/\Q (.int (20+8*(S.pts.length:Int)+4*(S.lines.length:Int)+12*(S.marks.length:Int))) H
theorem GY:aw ["self"] ["self"] (ag kl):=fsk
theorem FQ (F:mD K C "place_of_end" "Drawing.place_of_end" kl ["self"]) (T:DCl K mg C) (gl:mg "len"=none) (C1:Cm P w K mg base 3 C "place_of_mark" ["self","k"] (yJ C)) :
  Cm P w K mg base 4 C "place_of_end" ["self"] (Ed C):=by
 refine F.cm GY (λvs H Q E h=>?_) (λ_ _ A _ s H vs Q E hr h=>?_)
 ·obtain⟨a,S,rfl,_⟩:=h
  rfl
 ·obtain⟨a,S,rfl,hd,k⟩:=h
  have hd0:=hd
  obtain⟨dx,p,l,m,h1,h2,h3,⟨as,h4,h4l,_⟩⟩:=hd
  refine⟨_,af (aq (ij (pv 0) T.cl C1 hr (aa (aY aR (by rfl) gl IB (aa (aS (pv 0) rfl) ad)) ad))),?_⟩
  refine⟨_,rfl,a,dx,_,rfl,h1,oI (by decide +kernel) (by decide +kernel) (by decide +kernel) (by decide +kernel) (by decide +kernel),_,rfl,a,C,dx,_,_,rfl,h1,T.cl,T.nM,xb,m,_,rfl,.inl (SqL.of h4),?_⟩
  refine⟨a,S,_,rfl,hd0,?_⟩
  rw[lmp,h4l,lmp]
  exact k
open PySem PySem.Spec PyProof.Rows L2 Wg Wx CM
open Gla (Pt)
theorem Dm (ns:List Int)(p z:Nat):pF (iV ns) (some (p:Int)) (some ((p:Int)+(z:Int)))=iV ((ns.drop p).take z):=by
 have e2:((p:Int)+(z:Int))=((p+z:Nat):Int):=by lia
 rw[e2]
 unfold pF
 rw[HT.sIx_nat,HT.sIx_nat,iV,<-Lh,<-Kq,lmp]
 congr 1
 by_cases c:p<=ns.length
 ·rw[Ia c]
  by_cases c2:p+z<=ns.length
  ·rw[Ia c2]
   congr 1
   lia
  ·rw[HX (show ns.length<=p+z by lia)]
   rw[IR (by rw[Il];lia),IR (by rw[Il];lia)]
 ·rw[HX (show ns.length<=p by lia),Kk (nlr _),Kk (show ns.length<=p by lia)]
  simp
theorem xK {l:List Int}{i:Nat}{z:Int}(hi:i<l.length)(h:l[l.length-1-i]? = some z):ur (l.drop (l.length-(i+1)))=256*ur (l.drop (l.length-i))+z:=by
 have e:l.length-(i+1)=l.length-1-i:=by lia
 have e2:l.length-i=l.length-1-i+1:=by lia
 rw[e,e2]
 obtain⟨hk,hz⟩:=gsi h
 rw[JN hk,hz]
 rfl
def pO (K:IN):Sp:=λvs H Q _=>∃(a:Hm) (ns:List Int) (p z:Nat),vs=[.ref a,.int (p:Int),.int (z:Int)]/\LI K H a ns/\∀H':Hp,ak H H'->Q (.int (rd ns p z)) H'
theorem vj:aw ["cartoon","place","size","number","byte"] ["cartoon","place","size"] (ag gu):=fsk
theorem Ce (F:Has K mg "number_at" gu ["cartoon","place","size"]) (grv:mg "reversed"=none):Cb P w K mg base 1 "number_at" ["cartoon","place","size"] (pO K):=by
 refine F.cb vj (λvs H Q E h=>?_) (λ_ _ A _ s H vs Q E hr h=>?_)
 ·obtain⟨a,ns,p,z,rfl,_⟩:=h
  rfl
 ·obtain⟨a,ns,p,z,rfl,hl,k⟩:=h
  refine⟨_,ac (aC (i:=3) vj.nd rfl (.inl rfl) ah)
   (ac (bf HJ rfl (tw rfl grv (aa (oA rj (pv 0) (kJ (pv 1)) (kJ (aW dX (pv 1) (pv 2)))) ad)) (au (i:=4) vj.nd rfl (.inl rfl))
    (af (aC (i:=3) vj.nd rfl (.inl rfl) (aW dX (aW dE ah (pv 3)) (pv 4)))))
   (af (aq (pv 3)))),?_⟩
  refine⟨_,rfl,_,rfl,_,rfl,_,rfl,_,rfl,_,_,rfl,rfl,_,rfl,a,_,rfl,hl.1,λq hq=>?_⟩
  rw[Dm ns p z]
  have s1:ak H (upd H q (.lst (iV ((ns.drop p).take z)))):=aG hq
  refine⟨q,_,rfl,SqL.of ae,Ai (K:=K) (a:=q) (xs:=iV ((ns.drop p).take z)) (λi σ H'=>H'=upd H q (.lst (iV ((ns.drop p).take z)))/\∃v,σ=[some (.ref a),some (.int (p:Int)),some (.int (z:Int)),some (.int (ur (((ns.drop p).take z).drop (((ns.drop p).take z).length-i)))),v])
   ⟨rfl,none,?_⟩ (λi σ H' _ h=>by rw[h.1];exact SqL.of ae) ?_ ?_⟩
  ·rw[Nat.sub_zero,List.drop_length]
   rfl
  ·rintro i y σ H' hi hy ⟨rfl,v,rfl⟩
   rw[lmp]at hi hy
   obtain⟨x,hx,rfl⟩:=lL hy
   refine⟨_,rfl,_,_,rfl,rfl,.inl ⟨by decide,by decide⟩,_,rfl,_,_,rfl,rfl,rfl,some (.int x),?_⟩
   rw[xK hi hx]
   rfl
  ·rintro σ H' ⟨rfl,v,rfl⟩
   refine⟨_,rfl,?_⟩
   have e:ur (((ns.drop p).take z).drop (((ns.drop p).take z).length-(iV ((ns.drop p).take z)).length))=rd ns p z:=by
    rw[lmp,IJ,List.drop_zero]
    rfl
   rw[e]
   exact k _ s1
def yQ (K:IN):Sp:=λvs H Q _=>∃(a:Hm) (ns:List Int),vs=[.ref a]/\LI K H a ns/\∀H':Hp,ak H H'->Q (.int (told ns)) H'
theorem rG:aw ["cartoon","points","lines","marks"] ["cartoon"] (ag fj):=fsk
theorem At (F:Has K mg "told_length" fj ["cartoon"]) (gHB:∃t,mg "HEAD_BYTES"=some (.int 20 t)) (gPB:∃t,mg "POINT_BYTES"=some (.int 8 t)) (gLB:∃t,mg "LINE_BYTES"=some (.int 4 t)) (gMB:∃t,mg "MARK_BYTES"=some (.int 12 t))
  (C1:Cb P w K mg base 1 "number_at" ["cartoon","place","size"] (pO K)):Cb P w K mg base 2 "told_length" ["cartoon"] (yQ K):=by
 refine F.cb rG (λvs H Q E h=>?_) (λ_ _ A _ s H vs Q E hr h=>?_)
 ·obtain⟨a,ns,rfl,_⟩:=h
  rfl
 ·obtain⟨a,ns,rfl,hl,k⟩:=h
  refine⟨_,ac (aC (i:=1) rG.nd rfl (.inl rfl) (aJ C1 hr (aa (pv 0) (aa ah (aa ah ad)))))
   (ac (aC (i:=2) rG.nd rfl (.inl rfl) (aJ C1 hr (aa (pv 0) (aa ah (aa ah ad)))))
   (ac (aC (i:=3) rG.nd rfl (.inl rfl) (aJ C1 hr (aa (pv 0) (aa ah (aa ah ad)))))
   (af (aq (aW dX (aW dX (aW dX (bI gHB) (aW dE (bI gPB) (pv 1))) (aW dE (bI gLB) (pv 2))) (aW dE (bI gMB) (pv 3))))))),?_⟩
  refine⟨_,rfl,a,ns,12,2,rfl,hl,λH1 s1=>?_⟩
  refine⟨_,rfl,a,ns,14,2,rfl,hl.same s1,λH2 s2=>?_⟩
  refine⟨_,rfl,a,ns,16,2,rfl,hl.same (s1.trans s2),λH3 s3=>?_⟩
  exact⟨_,rfl,_,_,rfl,rfl,.inl ⟨by decide,by decide⟩,_,_,rfl,rfl,_,rfl,_,_,rfl,rfl,.inl ⟨by decide,by decide⟩,_,_,rfl,rfl,_,rfl,_,_,rfl,rfl,.inl ⟨by decide,by decide⟩,_,_,rfl,rfl,k _ (s1.trans (s2.trans s3))⟩
def DU (K:IN)(mg:Str->Option Value)(x:Str)(r:List Int):Prop:=∃a,mg x=some (.ref a)/\∀H:Hp,SqT K H a (iV r)
def BD (K:IN)(mg:Str->Option Value)(x:Str)(rows:List (List Int)):Prop:=∃(a:Hm) (bs:List Hm),mg x=some (.ref a)/\bs.length=rows.length/\(∀H:Hp,SqT K H a (bs.map V.ref))/\∀(H:Hp) (i:Nat) (b:Hm) (r:List Int),bs[i]? = some b->rows[i]? = some r->SqT K H b (iV r)
def dN (o:Option (Int×Int))(H:Hp)(Q:VK):Prop:=match o with
 |none=>∀H':Hp,ak H H'->Q .non H'
 |some (r,p)=>∀(H':Hp) (q:Hm),ak H H'->H' q=some (.tup [.int r,.int p])->Q (.ref q) H'
theorem dN.some' {H H1:Hp}{Q:VK}{r p:Int}(k:dN (some (r,p)) H Q)(s:ak H H1):∀q,H1 q=none->Q (.ref q) (upd H1 q (.tup [.int r,.int p])):=λq hq=>k _ q (aX s hq) ae
theorem wt (r q:List Int):PyData.eqv (.list (r.map IC)) (.list (q.map IC))=decide (r=q):=jn r q
def Ff (K:IN):Sp:=λvs H Q _=>∃(a:Hm) (ns:List Int),vs=[.ref a]/\LI K H a ns/\dN (dU ns) H Q
theorem zQ:aw ["cartoon","place","size","least","greatest"] ["cartoon"] (ag dO):=fsk
theorem EH (ns:List Int):pF (iV ns) none (some 4)=iV (ns.take 4):=by
 unfold pF
 have e:(4:Int)=((4:Nat):Int):=rfl
 rw[HT.sIx_none,e,HT.sIx_nat,List.drop_zero,iV,Nat.sub_zero,<-Kq,lmp]
 congr 1
 by_cases c:4<=ns.length
 ·rw[Ia c]
 ·rw[HX (by lia),IR (by lia),IR (by lia)]
theorem FY (F:Has K mg "fault_of_bytes" dO ["cartoon"]) (gl:mg "len"=none) (gli:mg "list"=none) (gHB:∃t,mg "HEAD_BYTES"=some (.int 20 t)) (gS:DU K mg "SIGN" j5) (gH:BD K mg "HEAD_NUMBERS" fA)
  (C1:Cb P w K mg base 1 "number_at" ["cartoon","place","size"] (pO K)) (C2:Cb P w K mg base 2 "told_length" ["cartoon"] (yQ K)):Cb P w K mg base 3 "fault_of_bytes" ["cartoon"] (Ff K):=by
 refine F.cb zQ (λvs H Q E h=>?_) (λ_ _ A _ s H vs Q E hr h=>?_)
 ·obtain⟨a,ns,rfl,_⟩:=h
  rfl
 ·obtain⟨a,ns,rfl,hl,k⟩:=h
  obtain⟨sa,gS1,gS2⟩:=gS
  obtain⟨ha,bs,gH1,gHl,gH2,gH3⟩:=gH
  have hr1:bA 1 _:=hr.mono (by decide)
  have hu:=hr.units
  refine⟨_,ac (a8 (aM fM (aY aR (by rfl) gl IB (aa (pv 0) ad)) (bI gHB) (aL _)) (af (aq (bn (aa ah (aa (aY aR (by rfl) gl IB (aa (pv 0) ad)) ad))))) aN)
   (ac (a8 (aM (DB hu) (oA rj (pv 0) Aa (kJ ah)) (wX rn (by rfl) gli pk (aa (qX (v:=.ref sa) (by rfl) gS1 rfl) ad)) (aL _)) (af (aq (bn (aa ah (aa ah ad))))) aN)
   (ac (bf HJ rfl (uS (qX (v:=.ref ha) (by rfl) gH1 rfl)) (cC (n:=4) rfl (aH (au (i:=1) zQ.nd rfl (.inl rfl)) (aH (au (i:=2) zQ.nd rfl (.inl rfl)) (aH (au (i:=3) zQ.nd rfl (.inl rfl)) (aH (au (i:=4) zQ.nd rfl (.inl rfl)) bL)))))
    (af (a8 (jZ (pc my my (pv 3) (aJ C1 hr1 (aa (pv 0) (aa (pv 1) (aa (pv 2) ad)))) (pv 4))) (af (aq (bn (aa ah (aa (pv 1) ad))))) aN)))
   (ac (a8 (aM zg (aY aR (by rfl) gl IB (aa (pv 0) ad)) (aJ C2 hr (aa (pv 0) ad)) (aL _)) (af (aq (bn (aa ah (aa (bI gHB) ad))))) aN)
   (af (aq bb))))),?_⟩
  refine⟨_,rfl,a,_,rfl,.inl hl.1,_,_,rfl,rfl,_,rfl,aV (λc=>?_) (λc=>?_)⟩
  ·have c1:(((iV ns).length:Nat):Int)<20:=Hk c
   rw[lmp]at c1
   have e:dU ns=some (1,(ns.length:Int)):=by
    unfold dU
    rw[Hz (by lia)]
   rw[e]at k
   refine⟨_,rfl,a,_,rfl,.inl hl.1,(by show 2<=Hr;decide),λq hq=>?_⟩
   rw[lmp]
   exact k.some' (ak.refl H) q hq
  ·have c1:¬(((iV ns).length:Nat):Int)<20:=λq=>c (dqt q)
   rw[lmp]at c1
   refine⟨_,rfl,_,rfl,a,_,rfl,hl.1,λq hq=>?_⟩
   rw[EH ns]
   have s1:ak H (upd H q (.lst (iV (ns.take 4)))):=aG hq
   refine⟨sa,_,rfl,.inr (gS2 _),λq2 hq2=>?_⟩
   have s2:ak H (upd (upd H q (.lst (iV (ns.take 4)))) q2 (.lst (iV j5))):=aX s1 hq2
   have nq:q≠q2:=λz=>by rw[<-z,ae]at hq2;cases hq2
   refine⟨.list ((ns.take 4).map IC),.list (j5.map IC),.lst (SqL.of (by rw[ao nq];exact ae)) (gi _),.lst (SqL.of ae) (gi _),?_,?_,?_⟩
   ·show(PyData.canLay0 (.list ((ns.take 4).map IC))&&decide ((PyData.list ((ns.take 4).map IC)).depth<=64))=true
    rw[show PyData.canLay0 (.list ((ns.take 4).map IC))=true from gQ _,Jn]
    refine dqt ?_
    show PyData.depthAll ((ns.take 4).map IC)+1<=64
    have:=jU (ns.take 4)
    lia
   ·decide +kernel
   rw[wt]
   refine⟨_,rfl,aV (λc2=>?_) (λc2=>?_)⟩
   ·have c3:ns.take 4≠j5:=λz=>by
     rw[dqt z]at c2
     exact absurd c2 (by decide)
    have e:dU ns=some (1,0):=by
     unfold dU
     rw[Hs (by lia),Hz c3]
    rw[e]at k
    exact⟨(by show 2<=Hr;decide),λq3 hq3=>k.some' s2 q3 hq3⟩
   ·have c3:ns.take 4=j5:=by
     by_cases z:ns.take 4=j5
     ·exact z
     ·rw[dqf z]at c2
      exact absurd rfl c2
    have e:dU ns=match fA.find? (λr=>!eW ns r) with
      |some r=>some (2,r.getD 0 0)
      |none=>if (ns.length:Int)≠told ns then some (3,20) else none:=by
     unfold dU
     rw[Hs (by lia),Hs (λz=>z c3)]<;>rfl
    generalize upd (upd H q (.lst (iV (ns.take 4)))) q2 (.lst (iV j5))=H2 at s2
    refine⟨ha,rfl,⟨_,gH2 _⟩,rO (K:=K) (a:=ha) (xs:=bs.map V.ref) (λi σ H'=>ak H H'/\(∃v1 v2 v3 v4,σ=[some (.ref a),v1,v2,v3,v4])/\∀(j:Nat) (r:List Int),j<i->fA[j]? = some r->eW ns r=true)
     ⟨s2,⟨none,none,none,none,rfl⟩,λj r h=>absurd h (IM _)⟩ (λi σ H' _ _=>gH2 H') ?_ ?_⟩
    ·rintro i y σ H' hi ⟨hS,⟨v1,v2,v3,v4,rfl⟩,hok⟩
     obtain⟨b,hb,rfl⟩:=bR hi
     have hib:i<fA.length:=by rw[<-gHl];exact(gsi hb).1
     have h0:fA[i]? = some fA[i]:=gge hib
     have hrow:=gH3 H' i b fA[i] hb h0
     obtain⟨p0,z0,lo,hi0,e4⟩:∃(p0 z0:Nat) (lo hi0:Int),fA[i]=[(p0:Int),(z0:Int),lo,hi0]:=by
      have:i=0\/i=1\/i=2\/i=3\/i=4\/i=5:=by
       have:fA.length=6:=rfl
       lia
      rcases this with rfl|rfl|rfl|rfl|rfl|rfl
      ·exact⟨4,4,16,1048575,rfl⟩
      ·exact⟨8,4,16,1048575,rfl⟩
      ·exact⟨12,2,4,4096,rfl⟩
      ·exact⟨14,2,4,8192,rfl⟩
      ·exact⟨16,2,1,2048,rfl⟩
      ·exact⟨18,2,0,0,rfl⟩
     rw[e4]at hrow h0
     have hoke:eW ns [(p0:Int),(z0:Int),lo,hi0]=(decide (lo<=rd ns p0 z0)&&decide (rd ns p0 z0<=hi0)):=by
      show(decide (lo<=rd ns ((p0:Int)).toNat ((z0:Int)).toNat)&&decide (rd ns ((p0:Int)).toNat ((z0:Int)).toNat<=hi0))=_
      rw[IV,IV]
     have bad:eW ns [(p0:Int),(z0:Int),lo,hi0]=false->dU ns=some (2,(p0:Int)):=λhb=>by
      have hf:fA.find? (λr=>!eW ns r)=some [(p0:Int),(z0:Int),lo,hi0]:=by
       rw[KG]
       refine⟨by rw[hb];rfl,i,hib,e4,λj hj=>?_⟩
       have:=hok j fA[j] hj (gge (by lia))
       rw[this];rfl
      rw[e,hf]
      rfl
     refine⟨b,_,rfl,hrow,rfl,_,_,rfl,_,_,rfl,_,_,rfl,_,_,rfl,rfl,?_⟩
     refine⟨_,rfl,_,rfl,_,rfl,_,rfl,a,ns,p0,z0,rfl,hl.same hS,λH3 s3=>?_⟩
     have hS3:=hS.trans s3
     refine⟨_,_,rfl,rfl,_,rfl,aV (λd=>?_) (λd=>?_)⟩
     ·refine⟨_,rfl,_,_,rfl,rfl,_,rfl,aV (λd2=>?_) (λd2=>?_)⟩
      ·have:decide (rd ns p0 z0<=hi0)=false:=by
        cases q4:decide (rd ns p0 z0<=hi0) with
        |false=>rfl
        |true=>rw[q4]at d2;exact absurd d2 (by decide)
       have hb2:=bad (by rw[hoke,this,Lq])
       rw[hb2]at k
       exact⟨_,rfl,(by show 2<=Hr;decide),λq3 hq3=>k.some' hS3 q3 hq3⟩
      ·have d2':decide (rd ns p0 z0<=hi0)=true:=by
        cases q4:decide (rd ns p0 z0<=hi0) with
        |true=>rfl
        |false=>rw[q4]at d2;exact absurd rfl d2
       refine⟨hS3,⟨_,_,_,_,rfl⟩,λj r hj hjr=>?_⟩
       by_cases cj:j<i
       ·exact hok j r cj hjr
       ·have:j=i:=by lia
        subst this
        rw[h0]at hjr
        have hjr:=osi hjr
        rw[<-hjr,hoke,d,d2']
        rfl
     ·refine⟨_,rfl,?_⟩
      have d':decide (lo<=rd ns p0 z0)=false:=by
       cases q4:decide (lo<=rd ns p0 z0) with
       |false=>rfl
       |true=>exact absurd q4 d
      have hb2:=bad (by rw[hoke,d',IF])
      rw[hb2]at k
      refine eT ?_
      exact⟨_,rfl,(by show 2<=Hr;decide),λq3 hq3=>k.some' hS3 q3 hq3⟩
    ·rintro σ H' ⟨hS,⟨v1,v2,v3,v4,rfl⟩,hok⟩
     have hf:fA.find? (λr=>!eW ns r)=none:=by
      rw[Kv]
      intro r hr2
      obtain⟨j,hj,rfl⟩:=Ib hr2
      rw[hok j fA[j] (by rw[lmp,gHl];exact hj) (gge hj)]
      decide
     rw[hf]at e
     simp only at e
     refine⟨_,rfl,a,_,rfl,.inl (hS.seq hl.1),_,rfl,a,ns,rfl,hl.same hS,λH3 s3=>?_⟩
     have hS3:=hS.trans s3
     refine⟨rfl,_,rfl,aV (λd=>?_) (λd=>?_)⟩
     ·have d1:(ns.length:Int)≠told ns:=λz=>by
       have:(decide (V.int (((iV ns).length:Nat):Int)=V.int (told ns)))=true:=dqt (by rw[lmp,z])
       rw[this]at d
       exact absurd d (by decide)
      rw[e,Hz d1]at k
      exact⟨(by show 2<=Hr;decide),λq3 hq3=>k.some' hS3 q3 hq3⟩
     ·have d1:(ns.length:Int)=told ns:=by
       by_cases z:V.int (((iV ns).length:Nat):Int)=V.int (told ns)
       ·have:=V.int.inj z
        rw[lmp]at this
        exact this
       ·rw[dqf z]at d
        exact absurd rfl d
      rw[e,Hs (λz=>z d1)]at k
      exact k H3 hS3
def CK (r:List Int)(H:Hp)(Q:VK):Prop:=∀(H':Hp) (q:Hm),ak H H'->H' q=some (.tup (iV r))->Q (.ref q) H'
def Da (K:IN):Sp:=λvs H Q _=>∃(a:Hm) (ns:List Int) (p:Nat),vs=[.ref a,.int (p:Int)]/\LI K H a ns/\CK [rd ns p 4,rd ns (p+4) 4] H Q
theorem GE:aw ["cartoon","place"] ["cartoon","place"] (ag fW):=fsk
theorem Eh (F:Has K mg "read_point" fW ["cartoon","place"]) (C1:Cb P w K mg base 1 "number_at" ["cartoon","place","size"] (pO K)):Cb P w K mg base 2 "read_point" ["cartoon","place"] (Da K):=by
 refine F.cb GE (λvs H Q E h=>?_) (λ_ _ A _ s H vs Q E hr h=>?_)
 ·obtain⟨a,ns,p,rfl,_⟩:=h
  rfl
 ·obtain⟨a,ns,p,rfl,hl,k⟩:=h
  refine⟨_,af (aq (bn (aa (aJ C1 hr (aa (pv 0) (aa (pv 1) (aa ah ad)))) (aa (aJ C1 hr (aa (pv 0) (aa (aW dX (pv 1) ah) (aa ah ad)))) ad)))),?_⟩
  refine⟨_,rfl,_,rfl,a,ns,p,4,rfl,hl,λH1 s1=>?_⟩
  refine⟨_,rfl,_,rfl,_,_,rfl,rfl,a,ns,p+4,4,?_,hl.same s1,λH2 s2=>?_⟩
  ·show [V.ref a,V.int ((p:Int)+4),V.int 4]=[V.ref a,V.int ((p+4:Nat):Int),V.int ((4:Nat):Int)]
   rw[Int.natCast_add]
   rfl
  exact⟨(by show 2<=Hr;decide),λq hq=>k _ q (aX (s1.trans s2) hq) ae⟩
def Cn (K:IN):Sp:=λvs H Q _=>∃(a:Hm) (ns:List Int) (p:Nat),vs=[.ref a,.int (p:Int)]/\LI K H a ns/\CK [rd ns p 2,rd ns (p+2) 2] H Q
theorem GX:aw ["cartoon","place"] ["cartoon","place"] (ag gv):=fsk
theorem FS (F:Has K mg "read_line" gv ["cartoon","place"]) (C1:Cb P w K mg base 1 "number_at" ["cartoon","place","size"] (pO K)):Cb P w K mg base 2 "read_line" ["cartoon","place"] (Cn K):=by
 refine F.cb GX (λvs H Q E h=>?_) (λ_ _ A _ s H vs Q E hr h=>?_)
 ·obtain⟨a,ns,p,rfl,_⟩:=h
  rfl
 ·obtain⟨a,ns,p,rfl,hl,k⟩:=h
  refine⟨_,af (aq (bn (aa (aJ C1 hr (aa (pv 0) (aa (pv 1) (aa ah ad)))) (aa (aJ C1 hr (aa (pv 0) (aa (aW dX (pv 1) ah) (aa ah ad)))) ad)))),?_⟩
  refine⟨_,rfl,_,rfl,a,ns,p,2,rfl,hl,λH1 s1=>?_⟩
  refine⟨_,rfl,_,rfl,_,_,rfl,rfl,a,ns,p+2,2,?_,hl.same s1,λH2 s2=>?_⟩
  ·show [V.ref a,V.int ((p:Int)+2),V.int 2]=[V.ref a,V.int ((p+2:Nat):Int),V.int ((2:Nat):Int)]
   rw[Int.natCast_add]
   rfl
  exact⟨(by show 2<=Hr;decide),λq hq=>k _ q (aX (s1.trans s2) hq) ae⟩
def EU (K:IN):Sp:=λvs H Q _=>∃(a:Hm) (ns:List Int) (p:Nat),vs=[.ref a,.int (p:Int)]/\LI K H a ns/\CK [rd ns p 4,rd ns (p+4) 4,rd ns (p+8) 2,rd ns (p+10) 2] H Q
theorem Gn:aw ["cartoon","place"] ["cartoon","place"] (ag gI):=fsk
theorem E7 (F:Has K mg "read_mark" gI ["cartoon","place"]) (C1:Cb P w K mg base 2 "read_point" ["cartoon","place"] (Da K)) (C2:Cb P w K mg base 2 "read_line" ["cartoon","place"] (Cn K)):Cb P w K mg base 3 "read_mark" ["cartoon","place"] (EU K):=by
 refine F.cb Gn (λvs H Q E h=>?_) (λ_ _ A _ s H vs Q E hr h=>?_)
 ·obtain⟨a,ns,p,rfl,_⟩:=h
  rfl
 ·obtain⟨a,ns,p,rfl,hl,k⟩:=h
  refine⟨_,af (aq (aW AL (aJ C1 hr (aa (pv 0) (aa (pv 1) ad))) (aJ C2 hr (aa (pv 0) (aa (aW dX (pv 1) ah) ad))))),?_⟩
  refine⟨_,rfl,_,rfl,a,ns,p,rfl,hl,λH1 q1 s1 h1=>?_⟩
  refine⟨_,rfl,_,rfl,_,_,rfl,rfl,a,ns,p+8,?_,hl.same s1,λH2 q2 s2 h2=>?_⟩
  ·show [V.ref a,V.int ((p:Int)+8)]=[V.ref a,V.int ((p+8:Nat):Int)]
   rw[Int.natCast_add]
   rfl
  refine⟨q1,q2,_,_,rfl,rfl,SqT.of (s2 _ _ h1),SqT.of h2,(by intro z;cases z),(by show 4<=Hr;decide),λz=>absurd z (by intro z;cases z),λ_ q hq=>?_⟩
  exact k _ q (aX (s1.trans s2) hq) ae
theorem rgc {lo c:Int}{n:Nat}(hc:0<c)(hc2:c<=1000)(h0:0<=lo)(h1:lo<=1000000000)(hn:n<=1000000):RgC lo (lo+c*(n:Int)) c n:=by
 have hm:0<=c*(n:Int):=Ht (by lia) (by lia)
 have hm2:c*(n:Int)<=1000*1000000:=Int.mul_le_mul (by lia) (by lia) (by lia) (by lia)
 have hs:J8 lo (lo+c*(n:Int)) c=n:=by
  unfold J8
  rw[Hz hc]
  by_cases hz:n=0
  ·subst hz
   rw[Hs (by simp)]
   rfl
  ·have hp:0<c*(n:Int):=HH hc (by lia)
   rw[Hz (by lia)]
   have e:lo+c*(n:Int)-lo-1=(c-1)+c*((n:Int)-1):=by grind
   rw[e,Int.add_mul_ediv_left _ _ (by lia:c≠0),Int.ediv_eq_zero_of_lt (by lia) (by lia)]
   lia
 refine⟨by lia,by lia,?_,hs⟩
 unfold Builtin.Range.small
 rw[hs]
 have e2:c > 0:=hc
 simp only[Builtin.Range.rangeFitsLong,Hu,Jq,Hv,JW,e2,if_true]
 generalize c*(n:Int)=m at *
 lia
def FE (K:IN)(C:Hm):Sp:=λvs H Q _=>∃(a:Hm) (ns:List Int),vs=[.ref a]/\LI K H a ns/\Byt ns/\(ns.length:Int)=told ns/\∀(H':Hp) (d:Hm),ak H H'->bC C H' d (KO (toB ns))->Q (.ref d) H'
theorem qO:aw ["cartoon","first_line","first_mark","points","lines","marks","place"] ["cartoon"] (ag bX):=fsk
theorem Ei (F:Has K mg "read_drawing" bX ["cartoon"]) (T:DCl K mg C) (gl:mg "len"=none) (gr:mg "range"=none) (gHB:∃t,mg "HEAD_BYTES"=some (.int 20 t)) (gPB:∃t,mg "POINT_BYTES"=some (.int 8 t)) (gLB:∃t,mg "LINE_BYTES"=some (.int 4 t)) (gMB:∃t,mg "MARK_BYTES"=some (.int 12 t))
  (C1:Cb P w K mg base 1 "number_at" ["cartoon","place","size"] (pO K)) (C2:Cb P w K mg base 2 "read_point" ["cartoon","place"] (Da K)) (C3:Cb P w K mg base 2 "read_line" ["cartoon","place"] (Cn K)) (C4:Cb P w K mg base 3 "read_mark" ["cartoon","place"] (EU K))
  (C5:Ci P w K mg base 1 C ["self","width","height","points","lines","marks"] (FV C)):Cb P w K mg base 4 "read_drawing" ["cartoon"] (FE K C):=by
 refine F.cb qO (λvs H Q E h=>?_) (λ_ _ A _ s H vs Q E hr h=>?_)
 ·obtain⟨a,ns,rfl,_⟩:=h
  rfl
 ·obtain⟨a,ns,rfl,hl,hb,hlen,k⟩:=h
  have hr1:bA 1 _:=hr.mono (by decide)
  have hr2:bA 2 _:=hr.mono (by decide)
  refine⟨_,ac (aC (i:=1) qO.nd rfl (.inl rfl) (aW dX (bI gHB) (aW dE (bI gPB) (aJ C1 hr1 (aa (pv 0) (aa ah (aa ah ad)))))))
   (ac (aC (i:=2) qO.nd rfl (.inl rfl) (aW dX (pv 1) (aW dE (bI gLB) (aJ C1 hr1 (aa (pv 0) (aa ah (aa ah ad)))))))
   (ac (b9 (i:=3) (own:=[("place",6)]) rfl qO.nd rfl rfl (dm rfl rfl rfl (by decide +kernel)) (lA rfl gr (aa (bI gHB) (aa (pv 1) (aa (bI gPB) ad)))) (bG (by show gR ["cartoon","first_line","first_mark","points","lines","marks","place"] (ag bX) _ _=true;decide +kernel))
    (λ_ _ _ _ _=>au (i:=6) qO.nd rfl (.inl rfl) (.inr rfl)) (λ_ _ _ _ _=>ee) (λ_ _ _ _ _=>aJ C2 hr2 (aa (pv 0) (aa (pv 6) ad))))
   (ac (b9 (i:=4) (own:=[("place",6)]) rfl qO.nd rfl rfl (dm rfl rfl rfl (by decide +kernel)) (lA rfl gr (aa (pv 1) (aa (pv 2) (aa (bI gLB) ad)))) (bG (by show gR ["cartoon","first_line","first_mark","points","lines","marks","place"] (ag bX) _ _=true;decide +kernel))
    (λ_ _ _ _ _=>au (i:=6) qO.nd rfl (.inl rfl) (.inr rfl)) (λ_ _ _ _ _=>ee) (λ_ _ _ _ _=>aJ C3 hr2 (aa (pv 0) (aa (pv 6) ad))))
   (ac (b9 (i:=5) (own:=[("place",6)]) rfl qO.nd rfl rfl (dm rfl rfl rfl (by decide +kernel)) (lA rfl gr (aa (pv 2) (aa (aY aR (by rfl) gl IB (aa (pv 0) ad)) (aa (bI gMB) ad)))) (bG (by show gR ["cartoon","first_line","first_mark","points","lines","marks","place"] (ag bX) _ _=true;decide +kernel))
    (λ_ _ _ _ _=>au (i:=6) qO.nd rfl (.inl rfl) (.inr rfl)) (λ_ _ _ _ _=>ee) (λ_ _ _ _ _=>aJ C4 hr (aa (pv 0) (aa (pv 6) ad))))
   (af (aq (qh C5 hr2 T.mgC (aa (aJ C1 hr1 (aa (pv 0) (aa ah (aa ah ad)))) (aa (aJ C1 hr1 (aa (pv 0) (aa ah (aa ah ad)))) (aa (pv 3) (aa (pv 4) (aa (pv 5) ad)))))))))))),?_⟩
  have b12:=ue hb 12
  have b14:=ue hb 14
  have b16:=ue hb 16
  have eP:rd ns 12 2=((P_ ns:Nat):Int):=by unfold P_;lia
  have eL:rd ns 14 2=((L_ ns:Nat):Int):=by unfold L_;lia
  have eM:rd ns 16 2=((M_ ns:Nat):Int):=by unfold M_;lia
  refine⟨_,rfl,a,ns,12,2,rfl,hl,λH1 s1=>⟨_,_,rfl,rfl,.inl ⟨by decide,by decide⟩,_,_,rfl,rfl,?_⟩⟩
  refine⟨_,rfl,_,rfl,a,ns,14,2,rfl,hl.same s1,λH2 s2=>⟨_,_,rfl,rfl,.inl ⟨by decide,by decide⟩,_,_,rfl,rfl,?_⟩⟩
  have sA:=s1.trans s2
  rw[eP,eL]
  have hP:(lH ns).length=P_ ns:=by unfold lH;rw[lmp,IX]
  have hL:(lI ns).length=L_ ns:=by unfold lI;rw[lmp,IX]
  have hM:(lg ns).length=M_ ns:=by unfold lg;rw[lmp,IX]
  refine⟨_,rfl,_,_,_,P_ ns,rfl,rgc (by decide) (by decide) (by decide) (by decide) (by lia),λD hD=>?_⟩
  have hD0:=sA.free hD
  refine lR (λi H'=>PvR H D (lH ns) i H') (PvR.start sA hD) ?_ ?_
  ·intro i H' hi pv'
   refine⟨rfl,mB (eT ?_)⟩
   refine⟨_,rfl,_,rfl,a,ns,20+8*i,?_,hl.same pv'.same,λH3 q s3 hq=>?_⟩
   ·show [V.ref a,V.int (20+(i:Nat)*8)]=[V.ref a,V.int ((20+8*i:Nat):Int)]
    rw[show(20:Int)+(i:Nat)*8=((20+8*i:Nat):Int) by lia]
   have hDq:∃acc,H3 D=some (.lst acc):=by
    obtain⟨as,_,h2,_⟩:=pv'
    exact⟨_,s3 _ _ h2⟩
   have nq:q≠D:=λz=>by
    obtain⟨acc,h2⟩:=hDq
    rw[z,h2]at hq
    cases hq
   exact pv'.turn hD0 (by rw[hP];lia) (by unfold lH;rw[Hw,Kf hi];rfl) s3 hq nq
  intro H3 pv3
  obtain⟨s3,t3⟩:=pv3.done (by rw[hP];exact nlr _)
  refine⟨_,rfl,_,rfl,_,_,_,L_ ns,rfl,rgc (by decide) (by decide) (by lia) (by lia) (by lia),λD2 hD2=>?_⟩
  have hD20:=s3.free hD2
  refine lR (λi H'=>PvR H3 D2 (lI ns) i H') (PvR.start (ak.refl H3) hD2) ?_ ?_
  ·intro i H' hi pv'
   refine⟨rfl,mB (eT ?_)⟩
   refine⟨_,rfl,_,rfl,a,ns,20+8*P_ ns+4*i,?_,hl.same (s3.trans pv'.same),λH4 q s4 hq=>?_⟩
   ·show [V.ref a,V.int (20+8*((P_ ns:Nat):Int)+(i:Nat)*4)]=[V.ref a,V.int ((20+8*P_ ns+4*i:Nat):Int)]
    rw[show(20:Int)+8*((P_ ns:Nat):Int)+(i:Nat)*4=((20+8*P_ ns+4*i:Nat):Int) by lia]
   have nq:q≠D2:=λz=>by
    obtain⟨as,_,h2,_⟩:=pv'
    have h2:=s4 _ _ h2
    rw[z,h2]at hq
    cases hq
   exact pv'.turn hD2 (by rw[hL];lia) (by unfold lI;rw[Hw,Kf hi];rfl) s4 hq nq
  intro H4 pv4
  obtain⟨s4,t4⟩:=pv4.done (by rw[hL];exact nlr _)
  have hlM:(ns.length:Int)=20+8*((P_ ns:Nat):Int)+4*((L_ ns:Nat):Int)+12*((M_ ns:Nat):Int):=by
   rw[hlen]
   unfold told
   rw[eP,eL,eM]
  refine⟨_,rfl,_,rfl,a,_,rfl,.inl ((s3.trans s4).seq hl.1),_,_,_,M_ ns,rfl,?_,λD5 hD5=>?_⟩
  ·rw[lmp,hlM]
   exact rgc (by decide) (by decide) (by lia) (by lia) (by lia)
  refine lR (λi H'=>PvR H4 D5 (lg ns) i H') (PvR.start (ak.refl H4) hD5) ?_ ?_
  ·intro i H' hi pv'
   refine⟨rfl,mB (eT ?_)⟩
   refine⟨_,rfl,_,rfl,a,ns,20+8*P_ ns+4*L_ ns+12*i,?_,hl.same (s3.trans (s4.trans pv'.same)),λH5 q s5 hq=>?_⟩
   ·show [V.ref a,V.int (20+8*((P_ ns:Nat):Int)+4*((L_ ns:Nat):Int)+(i:Nat)*12)]=[V.ref a,V.int ((20+8*P_ ns+4*L_ ns+12*i:Nat):Int)]
    rw[show(20:Int)+8*((P_ ns:Nat):Int)+4*((L_ ns:Nat):Int)+(i:Nat)*12=((20+8*P_ ns+4*L_ ns+12*i:Nat):Int) by lia]
   have nq:q≠D5:=λz=>by
    obtain⟨as,_,h2,_⟩:=pv'
    have h2:=s5 _ _ h2
    rw[z,h2]at hq
    cases hq
   exact pv'.turn hD5 (by rw[hM];lia) (by unfold lg;rw[Hw,Kf hi];rfl) s5 hq nq
  intro H5 pv5
  obtain⟨s5,t5⟩:=pv5.done (by rw[hM];exact nlr _)
  have sB:ak H H5:=s3.trans (s4.trans s5)
  refine⟨_,rfl,a,ns,4,4,rfl,hl.same sB,λH6 s6=>?_⟩
  refine⟨_,rfl,a,ns,8,4,rfl,hl.same (sB.trans s6),λH7 s7=>?_⟩
  refine⟨_,rfl,_,rfl,_,rfl,λx dx nx ndx nex=>?_⟩
  refine⟨x,dx,_,_,D,D2,D5,rfl,ae,λH8 h8 kp=>⟨rfl,?_⟩⟩
  have s8:ak H7 H8:=ak.made nx ndx kp
  have sC:=s6.trans (s7.trans s8)
  refine k H8 x (sB.trans sC) ⟨dx,D,D2,D5,?_,?_,?_,?_⟩
  ·rw[h8]
   show some (HO.ins C dx (fz (rd ns 4 4) (rd ns 8 4) D D2 D5))=_
   rw[db hb,db hb]
   rfl
  ·rw[<-wT hb]
   exact t3.same (s4.trans (s5.trans sC))
  ·rw[<-xh hb]
   exact t4.same (s5.trans sC)
  ·rw[<-ww hb]
   exact t5.same sC
def cR (K:IN)(H:Hp)(a:Hm)(p:Pt):Prop:=(∃hX:List Int,SqT K H a (iV ((p.x:Int) :: (p.y:Int) :: hX)))/\p.x<4294967296/\p.y<4294967296
theorem cR.same {K:IN}{H H':Hp}{a:Hm}{p:Pt}(h:cR K H a p)(s:ak H H'):cR K H' a p:=by
 obtain⟨⟨r,h1⟩,h2⟩:=h
 exact⟨⟨r,jk s h1⟩,h2⟩
theorem aK {p:Prop}[Decidable p](h:¬decide p=true):¬p:=λz=>h (dqt z)
theorem cN {b:Bool}(h:b=true->False):b=false:=by
 cases b with
 |false=>rfl
 |true=>exact(h rfl).elim
def lS (K:IN):Sp:=λvs H Q _=>∃(a b c:Hm) (p q r:Pt),vs=[.ref a,.ref b,.ref c]/\cR K H a p/\cR K H b q/\cR K H c r/\Q (.int (Jo p q r)) H
theorem B7:aw ["p","q","r"] ["p","q","r"] (ag rK):=fsk
theorem AU (F:Has K mg "turn" rK ["p","q","r"]):Cb P w K mg base 1 "turn" ["p","q","r"] (lS K):=by
 refine F.cb B7 (λvs H Q E h=>?_) (λ_ _ A _ s H vs Q E hr h=>?_)
 ·obtain⟨a,b,c,p,q,r,rfl,_⟩:=h
  rfl
 ·obtain⟨a,b,c,p,q,r,rfl,⟨⟨rp,hp⟩,b1⟩,⟨⟨rq,hq⟩,b2⟩,⟨⟨rr,hr'⟩,b3⟩,k⟩:=h
  refine⟨_,af (aq (aW eh (aW dE (aW eh (aB aF (pv 1) ah (λ_ _=>rfl)) (aB aF (pv 0) ah (λ_ _=>rfl))) (aW eh (aB aF (pv 2) ah (λ_ _=>rfl)) (aB aF (pv 1) ah (λ_ _=>rfl)))) (aW dE (aW eh (aB aF (pv 1) ah (λ_ _=>rfl)) (aB aF (pv 0) ah (λ_ _=>rfl))) (aW eh (aB aF (pv 2) ah (λ_ _=>rfl)) (aB aF (pv 1) ah (λ_ _=>rfl)))))),?_⟩
  exact⟨_,rfl,b,_,_,_,rfl,rfl,hq,aE (j:=0) rfl rfl,_,rfl,a,_,_,_,rfl,rfl,hp,aE (j:=0) rfl rfl,_,_,rfl,rfl,_,rfl,c,_,_,_,rfl,rfl,hr',aE (j:=1) rfl rfl,_,rfl,b,_,_,_,rfl,rfl,hq,aE (j:=1) rfl rfl,_,_,rfl,rfl,_,_,rfl,rfl,.inl ⟨by lia,by lia⟩,_,rfl,b,_,_,_,rfl,rfl,hq,aE (j:=1) rfl rfl,_,rfl,a,_,_,_,rfl,rfl,hp,aE (j:=1) rfl rfl,_,_,rfl,rfl,_,rfl,c,_,_,_,rfl,rfl,hr',aE (j:=0) rfl rfl,_,rfl,b,_,_,_,rfl,rfl,hq,aE (j:=0) rfl rfl,_,_,rfl,rfl,_,_,rfl,rfl,.inl ⟨by lia,by lia⟩,_,_,rfl,rfl,k⟩
def xV (K:IN):Sp:=λvs H Q _=>∃(a b:Hm) (q p:Pt),vs=[.ref a,.ref b]/\cR K H a q/\cR K H b p/\∀H':Hp,ak H H'->Q (.bl (p.below q)) H'
theorem GS:aw ["q","p"] ["q","p"] (ag eN):=fsk
theorem wm (p q:Pt):ir [(q.y:Int),(q.x:Int)] [(p.y:Int),(p.x:Int)]=p.below q:=by
 rw[j9,j9]
 unfold Pt.below
 have e0:ir [] []=false:=rfl
 rw[e0,Ip]
 by_cases c:(q.y:Int)=(p.y:Int)
 ·rw[Hz c]
  by_cases d:(q.x:Int)=(p.x:Int)
  ·rw[Hz d]
   simp
   lia
  ·rw[Hs d]
   simp
   lia
 ·rw[Hs c]
  simp
  lia
theorem Ef (F:Has K mg "comes_behind" eN ["q","p"]):Cb P w K mg base 1 "comes_behind" ["q","p"] (xV K):=by
 refine F.cb GS (λvs H Q E h=>?_) (λ_ _ A _ s H vs Q E hr h=>?_)
 ·obtain⟨a,b,q,p,rfl,_⟩:=h
  rfl
 ·obtain⟨a,b,q,p,rfl,⟨⟨rq,hq⟩,_⟩,⟨⟨rp,hp⟩,_⟩,k⟩:=h
  refine⟨_,af (aq (cO (B8 hr.units0) (bn (aa (aB aF (pv 0) ah (λ_ _=>rfl)) (aa (aB aF (pv 0) ah (λ_ _=>rfl)) ad))) (bn (aa (aB aF (pv 1) ah (λ_ _=>rfl)) (aa (aB aF (pv 1) ah (λ_ _=>rfl)) ad))) (aL _))),?_⟩
  refine⟨_,rfl,a,_,_,_,rfl,rfl,hq,aE (j:=1) rfl rfl,_,rfl,a,_,_,_,rfl,rfl,hq,aE (j:=0) rfl rfl,(by show 2<=Hr;decide),λt ht=>?_⟩
  have s1:ak H (upd H t (.tup [.int (q.y:Int),.int (q.x:Int)])):=aG ht
  refine⟨_,rfl,b,_,_,_,rfl,rfl,(jk s1 hp),aE (j:=1) rfl rfl,_,rfl,b,_,_,_,rfl,rfl,(jk s1 hp),aE (j:=0) rfl rfl,(by show 2<=Hr;decide),λu hu=>?_⟩
  have s2:=aX (o:=.tup [.int (p.y:Int),.int (p.x:Int)]) s1 hu
  have ntu:t≠u:=λz=>by rw[<-z,ae]at hu;cases hu
  refine⟨t,u,[(q.y:Int),(q.x:Int)],[(p.y:Int),(p.x:Int)],rfl,rfl,SqT.of (by rw[ao ntu];exact ae),SqT.of ae,?_⟩
  rw[wm]
  exact k _ s2
def xu (p q r:Pt):Bool:=Gla.between p.x q.x r.x&&Gla.between p.y q.y r.y
theorem vR {p q r:Pt}:xu p q r=true↔(min p.x q.x<=r.x/\r.x<=max p.x q.x)/\(min p.y q.y<=r.y/\r.y<=max p.y q.y):=by
 unfold xu Gla.between
 simp only[Hu,Hv]
def BG (K:IN):Sp:=λvs H Q _=>∃(a b c:Hm) (p q r:Pt),vs=[.ref a,.ref b,.ref c]/\cR K H a p/\cR K H b q/\cR K H c r/\Q (.bl (xu p q r)) H
theorem ES:aw ["p","q","r"] ["p","q","r"] (ag gx):=fsk
theorem pQ:J9 "min"=some (.builtin "min"):=by decide +kernel
theorem pJ:J9 "max"=some (.builtin "max"):=by decide +kernel
theorem rP (a b:Nat):(if (b:Int)<(a:Int) then (b:Int) else (a:Int))=((min a b:Nat):Int):=by
 split<;>lia
theorem uM (a b:Nat):(if (b:Int) > (a:Int) then (b:Int) else (a:Int))=((max a b:Nat):Int):=by
 split<;>lia
theorem DJ (F:Has K mg "is_in_box" gx ["p","q","r"]) (gmi:mg "min"=none) (gma:mg "max"=none):Cb P w K mg base 1 "is_in_box" ["p","q","r"] (BG K):=by
 refine F.cb ES (λvs H Q E h=>?_) (λ_ _ A _ s H vs Q E hr h=>?_)
 ·obtain⟨a,b,c,p,q,r,rfl,_⟩:=h
  rfl
 ·obtain⟨a,b,c,p,q,r,rfl,⟨⟨rp,hp⟩,b1⟩,⟨⟨rq,hq⟩,b2⟩,⟨⟨rr,hr'⟩,b3⟩,k⟩:=h
  refine⟨_,af (aq (jV
   (kX my my (aY (qA rfl) (by rfl) gmi pQ (aa (aB aF (pv 0) ah (λ_ _=>rfl)) (aa (aB aF (pv 1) ah (λ_ _=>rfl)) ad))) (aB aF (pv 2) ah (λ_ _=>rfl)) (aY (qm rfl) (by rfl) gma pJ (aa (aB aF (pv 0) ah (λ_ _=>rfl)) (aa (aB aF (pv 1) ah (λ_ _=>rfl)) ad))))
   (fF (kX my my (aY (qA rfl) (by rfl) gmi pQ (aa (aB aF (pv 0) ah (λ_ _=>rfl)) (aa (aB aF (pv 1) ah (λ_ _=>rfl)) ad))) (aB aF (pv 2) ah (λ_ _=>rfl)) (aY (qm rfl) (by rfl) gma pJ (aa (aB aF (pv 0) ah (λ_ _=>rfl)) (aa (aB aF (pv 1) ah (λ_ _=>rfl)) ad))))))),?_⟩
  have no:¬((min p.x q.x<=r.x/\r.x<=max p.x q.x)/\(min p.y q.y<=r.y/\r.y<=max p.y q.y))->Q (.bl false) H:=λz=>by
   rw[cN λe=>z (vR.1 e)]at k
   exact k
  refine⟨_,rfl,a,_,_,_,rfl,rfl,hp,aE (j:=0) rfl rfl,_,rfl,b,_,_,_,rfl,rfl,hq,aE (j:=0) rfl rfl,_,_,rfl,_,rfl,c,_,_,_,rfl,rfl,hr',aE (j:=0) rfl rfl,_,_,rfl,rfl,_,rfl,aV (λc1=>?_) (λc1=>?_)⟩
  ·have c1:=Hk c1
   rw[rP]at c1
   refine⟨_,rfl,a,_,_,_,rfl,rfl,hp,aE (j:=0) rfl rfl,_,rfl,b,_,_,_,rfl,rfl,hq,aE (j:=0) rfl rfl,_,_,rfl,_,_,rfl,rfl,_,rfl,aV (λc2=>?_) (λc2=>?_)⟩
   ·have c2:=Hk c2
    rw[uM]at c2
    refine⟨_,rfl,a,_,_,_,rfl,rfl,hp,aE (j:=1) rfl rfl,_,rfl,b,_,_,_,rfl,rfl,hq,aE (j:=1) rfl rfl,_,_,rfl,_,rfl,c,_,_,_,rfl,rfl,hr',aE (j:=1) rfl rfl,_,_,rfl,rfl,_,rfl,aV (λc3=>?_) (λc3=>?_)⟩
    ·have c3:=Hk c3
     rw[rP]at c3
     refine⟨_,rfl,a,_,_,_,rfl,rfl,hp,aE (j:=1) rfl rfl,_,rfl,b,_,_,_,rfl,rfl,hq,aE (j:=1) rfl rfl,_,_,rfl,_,_,rfl,rfl,?_⟩
     rw[uM]
     have e:xu p q r=decide ((r.y:Int)<=((max p.y q.y:Nat):Int)):=by
      rw[Ip,vR,Hv]
      lia
     rw[e]at k
     exact k
    ·have c3:=aK c3
     rw[rP]at c3
     exact no (by lia)
   ·have c2:=aK c2
    rw[uM]at c2
    exact no (by lia)
  ·have c1:=aK c1
   rw[rP]at c1
   exact⟨_,rfl,j8 (no (by lia))⟩
def Cf (K:IN):Sp:=λvs H Q _=>∃(a b c:Hm) (p q r:Pt),vs=[.ref a,.ref b,.ref c]/\cR K H a p/\cR K H b q/\cR K H c r/\Q (.bl (Gla.isOn p q r)) H
theorem G3:aw ["p","q","r"] ["p","q","r"] (ag mQ):=fsk
theorem Eo (F:Has K mg "is_on" mQ ["p","q","r"]) (C1:Cb P w K mg base 1 "turn" ["p","q","r"] (lS K)) (C2:Cb P w K mg base 1 "is_in_box" ["p","q","r"] (BG K)):Cb P w K mg base 2 "is_on" ["p","q","r"] (Cf K):=by
 refine F.cb G3 (λvs H Q E h=>?_) (λ_ _ A _ s H vs Q E hr h=>?_)
 ·obtain⟨a,b,c,p,q,r,rfl,_⟩:=h
  rfl
 ·obtain⟨a,b,c,p,q,r,rfl,hp,hq,hr',k⟩:=h
  refine⟨_,af (aq (jV (cO l6 (aJ C1 hr (aa (pv 0) (aa (pv 1) (aa (pv 2) ad)))) ah (aL _)) (fF (aJ C2 hr (aa (pv 0) (aa (pv 1) (aa (pv 2) ad))))))),?_⟩
  refine⟨_,rfl,_,rfl,_,rfl,a,b,c,p,q,r,rfl,hp,hq,hr',rfl,_,rfl,aV (λc1=>?_) (λc1=>?_)⟩
  ·have c1:=V.int.inj (Hk c1)
   refine⟨_,rfl,_,rfl,_,rfl,a,b,c,p,q,r,rfl,hp,hq,hr',?_⟩
   have e:Gla.isOn p q r=xu p q r:=by
    unfold Gla.isOn xu
    rw[c1]
    rfl
   rw[e]at k
   exact k
  ·have e:Gla.isOn p q r=false:=by
    unfold Gla.isOn
    have:(Jo p q r==0)=false:=by
     rw[Jf]
     intro z
     exact c1 (dqt (by rw[z]))
    rw[this]
    rfl
   rw[e]at k
   exact k
def tL (p q r s:Pt):Bool:=decide (Jo p q r*Jo p q s<0)
theorem tE (a b:Int):a*b<0↔(a<0/\0<b)\/(0<a/\b<0):=by
 constructor
 ·intro h
  rcases Int.lt_trichotomy a 0 with c|c|c
  ·left
   refine⟨c,?_⟩
   apply bcn
   intro d
   have:0<=(-a)*(-b):=Ht (by lia) (by lia)
   grind
  ·rw[c]at h
   simp at h
  ·right
   refine⟨c,?_⟩
   apply bcn
   intro d
   have:0<=a*b:=Ht (by lia) (by lia)
   lia
 ·rintro(⟨h1,h2⟩|⟨h1,h2⟩)
  ·exact Int.mul_neg_of_neg_of_pos h1 h2
  ·exact Int.mul_neg_of_pos_of_neg h1 h2
def yS (K:IN):Sp:=λvs H Q _=>∃(a b c d:Hm) (p q r s:Pt),vs=[.ref a,.ref b,.ref c,.ref d]/\cR K H a p/\cR K H b q/\cR K H c r/\cR K H d s/\Q (.bl (tL p q r s)) H
theorem uP:aw ["p","q","r","s","one","other"] ["p","q","r","s"] (ag fV):=fsk
theorem AJ (F:Has K mg "are_parted" fV ["p","q","r","s"]) (C1:Cb P w K mg base 1 "turn" ["p","q","r"] (lS K)):Cb P w K mg base 2 "are_parted" ["p","q","r","s"] (yS K):=by
 refine F.cb uP (λvs H Q E h=>?_) (λ_ _ A _ s H vs Q E hr h=>?_)
 ·obtain⟨a,b,c,d,p,q,r,s,rfl,_⟩:=h
  rfl
 ·obtain⟨a,b,c,d,p,q,r,s',rfl,hp,hq,hr',hs,k⟩:=h
  refine⟨_,ac (aC (i:=4) uP.nd rfl (.inl rfl) (aJ C1 hr (aa (pv 0) (aa (pv 1) (aa (pv 2) ad)))))
   (ac (aC (i:=5) uP.nd rfl (.inl rfl) (aJ C1 hr (aa (pv 0) (aa (pv 1) (aa (pv 3) ad)))))
   (af (aq (tR (jV (cO fM (pv 4) ah (aL _)) (fF (cO eD (pv 5) ah (aL _)))) (fF (jV (cO eD (pv 4) ah (aL _)) (fF (cO fM (pv 5) ah (aL _))))))))),?_⟩
  refine⟨_,rfl,_,rfl,_,rfl,a,b,c,p,q,r,rfl,hp,hq,hr',?_⟩
  refine⟨_,rfl,_,rfl,_,rfl,a,b,d,p,q,s',rfl,hp,hq,hs,?_⟩
  have yes:(Jo p q r<0/\0<Jo p q s')\/(0<Jo p q r/\Jo p q s'<0)->Q (.bl true) H:=λz=>by
   have e:tL p q r s'=true:=dqt ((tE _ _).2 z)
   rw[e]at k
   exact k
  have no:¬((Jo p q r<0/\0<Jo p q s')\/(0<Jo p q r/\Jo p q s'<0))->Q (.bl false) H:=λz=>by
   have e:tL p q r s'=false:=dqf (λy=>z ((tE _ _).1 y))
   rw[e]at k
   exact k
  have second:¬(Jo p q r<0/\0<Jo p q s')->Bw (tOp (rI0 λi j=>.bl (decide (j<i))) (a4 4) (tC (.int 0))) (tOp (rI0 λi j=>.bl (decide (i<j))) (a4 5) (tC (.int 0))) [some (.ref a),some (.ref b),some (.ref c),some (.ref d),some (.int (Jo p q r)),some (.int (Jo p q s'))] H Q:=λz=>by
   refine⟨_,rfl,_,_,rfl,rfl,_,rfl,aV (λc2=>?_) (λc2=>?_)⟩
   ·have c2:=Hk c2
    refine⟨_,rfl,_,_,rfl,rfl,?_⟩
    show Q (.bl (decide (Jo p q s'<0))) H
    by_cases d2:Jo p q s'<0
    ·rw[dqt d2]
     exact yes (IP ⟨c2,d2⟩)
    ·rw[dqf d2]
     exact no (by lia)
   ·have c2:=aK c2
    exact no (by lia)
  refine⟨_,rfl,_,_,rfl,rfl,_,rfl,aV (λc1=>?_) (λc1=>?_)⟩
  ·have c1:=Hk c1
   refine⟨_,rfl,_,_,rfl,rfl,_,rfl,aV (λc2=>?_) (λc2=>?_)⟩
   ·have c2:=Hk c2
    exact yes (Jr ⟨c1,c2⟩)
   ·have c2:=aK c2
    exact second (by lia)
  ·have c1:=aK c1
   exact⟨_,rfl,j8 (second (by lia))⟩
def vb (K:IN):Sp:=λvs H Q _=>∃(a b c d:Hm) (p q r s:Pt),vs=[.ref a,.ref b,.ref c,.ref d]/\cR K H a p/\cR K H b q/\cR K H c r/\cR K H d s/\Q (.bl (Gla.crosses p q r s)) H
theorem Ak:aw ["p","q","r","s"] ["p","q","r","s"] (ag iM):=fsk
theorem yf (F:Has K mg "do_cross" iM ["p","q","r","s"]) (C1:Cb P w K mg base 2 "are_parted" ["p","q","r","s"] (yS K)):Cb P w K mg base 3 "do_cross" ["p","q","r","s"] (vb K):=by
 refine F.cb Ak (λvs H Q E h=>?_) (λ_ _ A _ s H vs Q E hr h=>?_)
 ·obtain⟨a,b,c,d,p,q,r,s,rfl,_⟩:=h
  rfl
 ·obtain⟨a,b,c,d,p,q,r,s',rfl,hp,hq,hr',hs,k⟩:=h
  refine⟨_,af (aq (jV (aJ C1 hr (aa (pv 0) (aa (pv 1) (aa (pv 2) (aa (pv 3) ad))))) (fF (aJ C1 hr (aa (pv 2) (aa (pv 3) (aa (pv 0) (aa (pv 1) ad)))))))),?_⟩
  have e:Gla.crosses p q r s'=(tL p q r s'&&tL r s' p q):=rfl
  rw[e]at k
  refine⟨_,rfl,_,rfl,_,rfl,_,rfl,a,b,c,d,p,q,r,s',rfl,hp,hq,hr',hs,_,rfl,aV (λc1=>?_) (λc1=>?_)⟩
  ·refine⟨_,rfl,_,rfl,_,rfl,_,rfl,c,d,a,b,r,s',p,q,rfl,hr',hs,hp,hq,?_⟩
   rw[c1,Jn]at k
   exact k
  ·have c1:=cN c1
   rw[c1,IF]at k
   exact k
def PL (K:IN)(H:Hp)(a:Hm)(ps:List Pt):Prop:=∃as:List Hm,SqL K H a (as.map V.ref)/\as.length=ps.length/\∀(i:Nat) (b:Hm) (p:Pt),as[i]? = some b->ps[i]? = some p->cR K H b p
def crs (a b:Pt):Int:=(a.x:Int)*(b.y:Int)-(a.y:Int)*(b.x:Int)
def dC:Pt->List Pt->Int
 |_,[]=>0
 |l,c :: r=>crs l c+dC c r
def dg (p q r:Pt):Bool:=if p.y<=r.y/\r.y<q.y then decide (0<Jo p q r) else if q.y<=r.y/\r.y<p.y then decide (0<Jo q p r) else false
def fH (z:Pt):Pt->List Pt->Bool
 |_,[]=>false
 |l,c :: r=>dg l c z^^fH z c r
theorem ku {α:Type}{ps:List α}(h:ps≠[]):∃(init:List α) (l:α),ps=init++[l]:=by
 rcases Kw ps with e|⟨i,l,e⟩
 ·exact absurd e h
 ·exact⟨i,l,by rw[e,K4]⟩
theorem PL.last {H:Hp}{a:Hm}{ps init:List Pt}{l:Pt}(h:PL K H a ps)(e:ps=init++[l]):∃(as:List Hm) (la:Hm),SqL K H a (as.map V.ref)/\as.length=ps.length/\atI (as.map V.ref) (-1)=some (.ref la)/\cR K H la l /\
  ∀(i:Nat) (b:Hm) (p:Pt),as[i]? = some b->ps[i]? = some p->cR K H b p:=by
 obtain⟨as,h1,h2,h3⟩:=h
 have hne:as≠[]:=λz=>by
  rw[z,e,Hn]at h2
  simp at h2
 obtain⟨ai,la,ea⟩:=ku hne
 refine⟨as,la,h1,h2,?_,?_,h3⟩
 ·rw[ea,HI]
  exact oR _ _
 ·have hl:ai.length=init.length:=by
   rw[ea,e,Hn,Hn]at h2
   simpa using h2
  refine h3 ai.length la l ?_ ?_
  ·rw[ea,HC (nlr _),IJ]
   rfl
  ·rw[e,hl,HC (nlr _),IJ]
   rfl
def yy (K:IN):Sp:=λvs H Q _=>∃(a:Hm) (ps init:List Pt) (l:Pt),vs=[.ref a]/\PL K H a ps/\ps=init++[l]/\Q (.int (dC l ps)) H
theorem lB:aw ["corners","total","last","corner"] ["corners"] (ag fS):=fsk
theorem AC (F:Has K mg "twice_area" fS ["corners"]):Cb P w K mg base 1 "twice_area" ["corners"] (yy K):=by
 refine F.cb lB (λvs H Q E h=>?_) (λ_ _ A _ s H vs Q E hr h=>?_)
 ·obtain⟨a,ps,init,l,rfl,_⟩:=h
  rfl
 ·obtain⟨a,ps,init,l,rfl,hl,ei,k⟩:=h
  obtain⟨as,la,h1,h2,h3,h4,h5⟩:=hl.last ei
  refine⟨_,ac (aC (i:=1) lB.nd rfl (.inl rfl) ah)
   (ac (aC (i:=2) lB.nd rfl (.inl rfl) (aB aU (pv 0) (nT j6 ah) (λ_ _=>rfl)))
   (ac (bf HJ rfl (bF (pv 0)) (au (i:=3) lB.nd rfl (.inl rfl))
    (ac (yq (i:=1) lB.nd rfl (.inl rfl) (aW eh (aW dE (aB aF (pv 2) ah (λ_ _=>rfl)) (aB aF (pv 3) ah (λ_ _=>rfl))) (aW dE (aB aF (pv 2) ah (λ_ _=>rfl)) (aB aF (pv 3) ah (λ_ _=>rfl)))) yC) (af (aC (i:=2) lB.nd rfl (.inl rfl) (pv 3)))))
   (af (aq (pv 1))))),?_⟩
  refine⟨_,rfl,_,rfl,a,_,_,_,rfl,rfl,h1,h3,?_⟩
  refine⟨_,rfl,a,rfl,⟨_,h1⟩,dr (K:=K) (a:=a) (xs:=as.map V.ref) (λi σ H'=>H'=H/\∃(t:Int) (lb:Hm) (lp:Pt) (v:Option V),σ=[some (.ref a),some (.int t),some (.ref lb),v]/\cR K H lb lp/\t+dC lp (ps.drop i)=dC l ps)
   ⟨rfl,0,la,l,none,rfl,h4,by rw[List.drop_zero,Int.zero_add]⟩ (λi σ H' _ h=>by rw[h.1];exact h1) ?_ ?_⟩
  ·rintro i y σ H' hi ⟨rfl,t,lb,lp,v,rfl,⟨⟨rl,hlb⟩,b1⟩,ht⟩
   obtain⟨c,hc,rfl⟩:=bR hi
   have hil:i<ps.length:=by rw[<-h2];exact(gsi hc).1
   have hp:ps[i]? = some ps[i]:=gge hil
   have hpt:=h5 i c ps[i] hc hp
   obtain⟨⟨rc,hcc⟩,b2⟩:=id hpt
   refine⟨_,rfl,_,rfl,lb,_,_,_,rfl,rfl,hlb,aE (j:=0) rfl rfl,_,rfl,c,_,_,_,rfl,rfl,hcc,aE (j:=1) rfl rfl,_,_,rfl,rfl,.inl ⟨by lia,by lia⟩,_,rfl,lb,_,_,_,rfl,rfl,hlb,aE (j:=1) rfl rfl,_,rfl,c,_,_,_,rfl,rfl,hcc,aE (j:=0) rfl rfl,_,_,rfl,rfl,.inl ⟨by lia,by lia⟩,_,_,rfl,rfl,_,_,rfl,rfl,_,rfl,?_⟩
   refine⟨rfl,_,c,ps[i],_,rfl,hpt,?_⟩
   rw[<-ht,JN hil]
   show t+crs lp ps[i]+dC ps[i] (ps.drop (i+1))=t+(crs lp ps[i]+dC ps[i] (ps.drop (i+1)))
   lia
  ·rintro σ H' ⟨rfl,t,lb,lp,v,rfl,_,ht⟩
   refine⟨_,rfl,?_⟩
   rw[lmp,h2,List.drop_length]at ht
   have e:t=dC l ps:=by
    rw[<-ht]
    show t=t+0
    lia
   rw[e]
   exact k
def BH (K:IN):Sp:=λvs H Q _=>∃(a b c:Hm) (p q r:Pt),vs=[.ref a,.ref b,.ref c]/\cR K H a p/\cR K H b q/\cR K H c r/\Q (.bl (dg p q r)) H
theorem D0:aw ["p","q","r"] ["p","q","r"] (ag dM):=fsk
theorem Cl (F:Has K mg "is_left_beside" dM ["p","q","r"]) (C1:Cb P w K mg base 1 "turn" ["p","q","r"] (lS K)):Cb P w K mg base 2 "is_left_beside" ["p","q","r"] (BH K):=by
 refine F.cb D0 (λvs H Q E h=>?_) (λ_ _ A _ s H vs Q E hr h=>?_)
 ·obtain⟨a,b,c,p,q,r,rfl,_⟩:=h
  rfl
 ·obtain⟨a,b,c,p,q,r,rfl,hp0,hq0,hr0,k⟩:=h
  obtain⟨⟨rp,hp⟩,b1⟩:=id hp0
  obtain⟨⟨rq,hq⟩,b2⟩:=id hq0
  obtain⟨⟨rr,hr'⟩,b3⟩:=id hr0
  refine⟨_,ac (a8 (pc my fM (aB aF (pv 0) ah (λ_ _=>rfl)) (aB aF (pv 2) ah (λ_ _=>rfl)) (aB aF (pv 1) ah (λ_ _=>rfl))) (af (aq (cO eD (aJ C1 hr (aa (pv 0) (aa (pv 1) (aa (pv 2) ad)))) ah (aL _)))) aN)
   (ac (a8 (pc my fM (aB aF (pv 1) ah (λ_ _=>rfl)) (aB aF (pv 2) ah (λ_ _=>rfl)) (aB aF (pv 0) ah (λ_ _=>rfl))) (af (aq (cO eD (aJ C1 hr (aa (pv 1) (aa (pv 0) (aa (pv 2) ad)))) ah (aL _)))) aN)
   (af (aq eC))),?_⟩
  have first:p.y<=r.y/\r.y<q.y->Q (.bl (decide (0<Jo p q r))) H:=λz=>by
   unfold dg at k
   rw[Hz z]at k
   exact k
  have second:¬(p.y<=r.y/\r.y<q.y)->BY (ud (fB (uY (rI0 λi j=>.bl (decide (i<=j))) (rI0 λi j=>.bl (decide (i<j))) (tOp (nS K) (a4 1) (tC (.int 1))) (tOp (nS K) (a4 2) (tC (.int 1))) (tOp (nS K) (a4 0) (tC (.int 1)))))
    (m5 (tOp (rI0 λi j=>.bl (decide (j<i))) (jR (lS K) [] E0 (br (a4 1) (br (a4 0) (br (a4 2) fI)))) (tC (.int 0)))) oG) (m5 (tC (.bl false))) { nx:=λ_ H'=>Q .non H',rt:=Q } [some (.ref a),some (.ref b),some (.ref c)] H:=λz=>by
   refine⟨_,rfl,b,_,_,_,rfl,rfl,hq,aE (j:=1) rfl rfl,_,rfl,c,_,_,_,rfl,rfl,hr',aE (j:=1) rfl rfl,_,_,rfl,rfl,_,rfl,aV (λc1=>?_) (λc1=>?_)⟩
   ·have c1:=Hk c1
    refine⟨_,rfl,a,_,_,_,rfl,rfl,hp,aE (j:=1) rfl rfl,_,_,rfl,rfl,_,rfl,aV (λc2=>?_) (λc2=>?_)⟩
    ·have c2:=Hk c2
     refine⟨_,rfl,_,rfl,_,rfl,b,a,c,q,p,r,rfl,hq0,hp0,hr0,_,_,rfl,rfl,?_⟩
     unfold dg at k
     rw[Hs z,Hz (by lia)]at k
     exact k
    ·have c2:=aK c2
     unfold dg at k
     rw[Hs z,Hs (by lia)]at k
     exact k
   ·have c1:=aK c1
    unfold dg at k
    rw[Hs z,Hs (by lia)]at k
    exact⟨_,rfl,j8 k⟩
  refine⟨_,rfl,a,_,_,_,rfl,rfl,hp,aE (j:=1) rfl rfl,_,rfl,c,_,_,_,rfl,rfl,hr',aE (j:=1) rfl rfl,_,_,rfl,rfl,_,rfl,aV (λc1=>?_) (λc1=>?_)⟩
  ·have c1:=Hk c1
   refine⟨_,rfl,b,_,_,_,rfl,rfl,hq,aE (j:=1) rfl rfl,_,_,rfl,rfl,_,rfl,aV (λc2=>?_) (λc2=>?_)⟩
   ·have c2:=Hk c2
    exact⟨_,rfl,_,rfl,_,rfl,a,b,c,p,q,r,rfl,hp0,hq0,hr0,_,_,rfl,rfl,first (by lia)⟩
   ·have c2:=aK c2
    exact second (by lia)
  ·have c1:=aK c1
   exact⟨_,rfl,j8 (second (by lia))⟩
def FN (K:IN):Sp:=λvs H Q _=>∃(a c:Hm) (ps init:List Pt) (l z:Pt),vs=[.ref a,.ref c]/\PL K H a ps/\ps=init++[l]/\cR K H c z/\Q (.bl (fH z l ps)) H
theorem xn:aw ["corners","r","inside","last","corner"] ["corners","r"] (ag gA):=fsk
theorem Fg (F:Has K mg "is_inside" gA ["corners","r"]) (C1:Cb P w K mg base 2 "is_left_beside" ["p","q","r"] (BH K)):Cb P w K mg base 3 "is_inside" ["corners","r"] (FN K):=by
 refine F.cb xn (λvs H Q E h=>?_) (λ_ _ A _ s H vs Q E hr h=>?_)
 ·obtain⟨a,c,ps,init,l,z,rfl,_⟩:=h
  rfl
 ·obtain⟨a,c,ps,init,l,z,rfl,hl,ei,hz,k⟩:=h
  obtain⟨as,la,h1,h2,h3,h4,h5⟩:=hl.last ei
  refine⟨_,ac (aC (i:=2) xn.nd rfl (.inl rfl) eC)
   (ac (aC (i:=3) xn.nd rfl (.inl rfl) (aB aU (pv 0) (nT j6 ah) (λ_ _=>rfl)))
   (ac (bf HJ rfl (bF (pv 0)) (au (i:=4) xn.nd rfl (.inl rfl))
    (ac (a8 (dc (aJ C1 hr (aa (pv 3) (aa (pv 4) (aa (pv 1) ad))))) (af (aC (i:=2) xn.nd rfl (.inl rfl) (zF (pv 2)))) aN) (af (aC (i:=3) xn.nd rfl (.inl rfl) (pv 4)))))
   (af (aq (pv 2))))),?_⟩
  refine⟨_,rfl,_,rfl,a,_,_,_,rfl,rfl,h1,h3,?_⟩
  refine⟨_,rfl,a,rfl,⟨_,h1⟩,dr (K:=K) (a:=a) (xs:=as.map V.ref) (λi σ H'=>H'=H/\∃(t:Bool) (lb:Hm) (lp:Pt) (v:Option V),σ=[some (.ref a),some (.ref c),some (.bl t),some (.ref lb),v]/\cR K H lb lp/\(t^^fH z lp (ps.drop i))=fH z l ps)
   ⟨rfl,false,la,l,none,rfl,h4,by rw[List.drop_zero,IQ]⟩ (λi σ H' _ h=>by rw[h.1];exact h1) ?_ ?_⟩
  ·rintro i y σ H' hi ⟨rfl,t,lb,lp,v,rfl,hlb,ht⟩
   obtain⟨cc,hc,rfl⟩:=bR hi
   have hil:i<ps.length:=by rw[<-h2];exact(gsi hc).1
   have hp:ps[i]? = some ps[i]:=gge hil
   have hpt:=h5 i cc ps[i] hc hp
   rw[JN hil]at ht
   have ht:(t^^(dg lp ps[i] z^^fH z ps[i] (ps.drop (i+1))))=fH z l ps:=ht
   refine⟨_,rfl,_,rfl,_,rfl,lb,cc,c,lp,ps[i],z,rfl,hlb,hpt,hz,_,rfl,aV (λc1=>?_) (λc1=>?_)⟩
   ·refine⟨_,rfl,_,rfl,_,rfl,?_⟩
    refine⟨rfl,!t,cc,ps[i],_,rfl,hpt,?_⟩
    rw[<-ht,c1]
    cases t<;>cases fH z ps[i] (ps.drop (i+1))<;>rfl
   ·refine⟨_,rfl,?_⟩
    refine⟨rfl,t,cc,ps[i],_,rfl,hpt,?_⟩
    rw[<-ht,cN c1,IQ]
  ·rintro σ H' ⟨rfl,t,lb,lp,v,rfl,_,ht⟩
   refine⟨_,rfl,?_⟩
   rw[lmp,h2,List.drop_length]at ht
   have e:t=fH z l ps:=by
    rw[<-ht]
    show t=(t^^false)
    rw[Jl]
   rw[e]
   exact k
structure SB (S:Gla.Plan):Prop where
 pts:∀p∈S.pts,p.x<4294967296/\p.y<4294967296
 mks:∀m∈S.marks,m.at_.x<4294967296/\m.at_.y<4294967296
 np:S.pts.length<=100000
 nl:S.lines.length<=100000
 nm:S.marks.length<=100000
structure Op (K:IN)(C:Hm)(H:Hp)(a dx p l m:Hm)(S:Gla.Plan)(ps ls ms:List Hm):Prop where
 at_:H a=some (.ins C dx (fz S.w S.h p l m))
 pl:H p=some (.lst (ps.map V.ref))
 ll:H l=some (.lst (ls.map V.ref))
 ml:H m=some (.lst (ms.map V.ref))
 pn:ps.length=S.pts.length
 ln:ls.length=S.lines.length
 mn:ms.length=S.marks.length
 pt:∀(i:Nat) (b:Hm),ps[i]? = some b->H b=some (.tup (iV (gf (S.pt i))))
 li:∀(i:Nat) (b:Hm) (x:Nat×Nat),ls[i]? = some b->S.lines[i]? = some x->H b=some (.tup (iV (wl x)))
 ma:∀(i:Nat) (b:Hm) (x:Kz),ms[i]? = some b->S.marks[i]? = some x->H b=some (.tup (iV (pf x)))
theorem bC.op {K:IN}{C:Hm}{H:Hp}{a:Hm}{S:Gla.Plan}(h:bC C H a S):∃dx p l m ps ls ms,Op K C H a dx p l m S ps ls ms:=by
 obtain⟨dx,p,l,m,h1,⟨ps,p1,p2,p3⟩,⟨ls,l1,l2,l3⟩,⟨ms,m1,m2,m3⟩⟩:=h
 rw[lmp]at p2 l2 m2
 refine⟨dx,p,l,m,ps,ls,ms,h1,p1,l1,m1,p2,l2,m2,λi b e=>?_,λi b x e1 e2=>?_,λi b x e1 e2=>?_⟩
 ·have hi:i<S.pts.length:=by rw[<-p2];exact(gsi e).1
  exact p3 i b _ e (by rw[Hw,gge hi,WL.bO S hi];rfl)
 ·exact l3 i b _ e1 (by rw[Hw,e2];rfl)
 ·exact m3 i b _ e1 (by rw[Hw,e2];rfl)
theorem Op.same {K:IN}{C:Hm}{H H':Hp}{a dx p l m:Hm}{S:Gla.Plan}{ps ls ms:List Hm}(o:Op K C H a dx p l m S ps ls ms)(s:ak H H'):Op K C H' a dx p l m S ps ls ms :=
 ⟨s _ _ o.at_,s _ _ o.pl,s _ _ o.ll,s _ _ o.ml,o.pn,o.ln,o.mn,λi b e=>s _ _ (o.pt i b e),λi b x e1 e2=>s _ _ (o.li i b x e1 e2),λi b x e1 e2=>s _ _ (o.ma i b x e1 e2)⟩
theorem Op.draw {K:IN}{C:Hm}{H:Hp}{a dx p l m:Hm}{S:Gla.Plan}{ps ls ms:List Hm}(o:Op K C H a dx p l m S ps ls ms):bC C H a S:=by
 refine⟨dx,p,l,m,o.at_,⟨ps,o.pl,by rw[lmp,o.pn],λi b r e1 e2=>?_⟩,⟨ls,o.ll,by rw[lmp,o.ln],λi b r e1 e2=>?_⟩,⟨ms,o.ml,by rw[lmp,o.mn],λi b r e1 e2=>?_⟩⟩
 ·have hi:i<S.pts.length:=by rw[<-o.pn];exact(gsi e1).1
  rw[Hw,gge hi]at e2
  have e2:=osi e2
  rw[<-e2,<-WL.bO S hi]
  exact o.pt i b e1
 ·rw[Hw]at e2
  cases e:S.lines[i]? with
  |none=>rw[e]at e2;cases e2
  |some x =>
   rw[e]at e2
   have e2:=osi e2
   rw[<-e2]
   exact o.li i b x e1 e
 ·rw[Hw]at e2
  cases e:S.marks[i]? with
  |none=>rw[e]at e2;cases e2
  |some x =>
   rw[e]at e2
   have e2:=osi e2
   rw[<-e2]
   exact o.ma i b x e1 e
theorem SB.pt {S:Gla.Plan}(h:SB S)(i:Nat):(S.pt i).x<4294967296/\(S.pt i).y<4294967296:=by
 by_cases hi:i<S.pts.length
 ·rw[WL.bO S hi]
  exact h.pts _ (HP hi)
 ·unfold Gla.Plan.pt
  rw[Hx,K1 (by lia)]
  decide
theorem Op.ptAt {K:IN}{C:Hm}{H:Hp}{a dx p l m:Hm}{S:Gla.Plan}{ps ls ms:List Hm}(o:Op K C H a dx p l m S ps ls ms)(sb:SB S){i:Nat}{b:Hm}(e:ps[i]? = some b):cR K H b (S.pt i):=⟨⟨[],SqT.of (o.pt i b e)⟩,sb.pt i⟩
theorem Op.mkAt {K:IN}{C:Hm}{H:Hp}{a dx p l m:Hm}{S:Gla.Plan}{ps ls ms:List Hm}(o:Op K C H a dx p l m S ps ls ms)(sb:SB S){i:Nat}{b:Hm}{x:Kz}(e:ms[i]? = some b)(e2:S.marks[i]? = some x):cR K H b x.at_ :=
 ⟨⟨_,SqT.of (o.ma i b x e e2)⟩,sb.mks x (Ic e2)⟩
theorem Op.hasP {K:IN}{C:Hm}{H:Hp}{a dx p l m:Hm}{S:Gla.Plan}{ps ls ms:List Hm}(o:Op K C H a dx p l m S ps ls ms){i:Nat}(hi:i<S.pts.length):∃b,ps[i]? = some b:=⟨_,gge (by rw[o.pn];exact hi)⟩
theorem Op.hasL {K:IN}{C:Hm}{H:Hp}{a dx p l m:Hm}{S:Gla.Plan}{ps ls ms:List Hm}(o:Op K C H a dx p l m S ps ls ms){i:Nat}(hi:i<S.lines.length):∃b,ls[i]? = some b:=⟨_,gge (by rw[o.ln];exact hi)⟩
theorem cq {wi he:Int}{p l m:Hm}{f:Str} (h:(f="place_of_point"\/f="place_of_line")\/f="place_of_mark"\/f="place_of_end"):(fz wi he p l m).lookup f=none:=by
 rcases h with(rfl|rfl)|rfl|rfl
 ·exact oI (by decide +kernel) (by decide +kernel) (by decide +kernel) (by decide +kernel) (by decide +kernel)
 ·exact oI (by decide +kernel) (by decide +kernel) (by decide +kernel) (by decide +kernel) (by decide +kernel)
 ·exact oI (by decide +kernel) (by decide +kernel) (by decide +kernel) (by decide +kernel) (by decide +kernel)
 ·exact oI (by decide +kernel) (by decide +kernel) (by decide +kernel) (by decide +kernel) (by decide +kernel)
def jN (r:Int)(pl:Nat->Int)(o:Option Nat):Option (Int×Int):=o.map λi=>(r,pl i)
def ok4 (S:Gla.Plan)(p:Pt):Bool:=decide (p.x<=S.w)&&decide (p.y<=S.h)
def Fu (C:Hm):Sp:=λvs H Q _=>∃(a:Hm) (S:Gla.Plan),vs=[.ref a]/\bC C H a S/\SB S/\dN (jN 4 (λi=>20+8*(i:Int)) (IS (ok4 S) Pt.below S.pts)) H Q
theorem AE:aw ["drawing","k","point","outside"] ["drawing"] (ag de):=fsk
theorem Fl (F:Has K mg "fault_of_points" de ["drawing"]) (T:DCl K mg C) (ge:mg "enumerate"=none) (C1:Cm P w K mg base 1 C "place_of_point" ["self","k"] rN) (C2:Cb P w K mg base 1 "comes_behind" ["q","p"] (xV K)) :
  Cb P w K mg base 2 "fault_of_points" ["drawing"] (Fu C):=by
 refine F.cb AE (λvs H Q E h=>?_) (λ_ _ A _ s H vs Q E hr h=>?_)
 ·obtain⟨a,S,rfl,_⟩:=h
  rfl
 ·obtain⟨a,S,rfl,hd,sb,k⟩:=h
  obtain⟨dx,p,l,m,ps,ls,ms,o⟩:=hd.op (K:=K)
  refine⟨_,ac (bf HJ rfl (dG rfl ge (aa (aS (pv 0) rfl) ad)) (cC (n:=2) rfl (aH (au (i:=1) AE.nd rfl (.inl rfl)) (aH (au (i:=2) AE.nd rfl (.inl rfl)) bL)))
    (ac (aC (i:=3) AE.nd rfl (.inl rfl) (tR (cO eD (aB aF (pv 2) ah (λ_ _=>rfl)) (aS (pv 0) rfl) (aL _)) (fF (cO eD (aB aF (pv 2) ah (λ_ _=>rfl)) (aS (pv 0) rfl) (aL _)))))
    (af (a8 (oz (dc (pv 3)) (ka (jq (aM eD (pv 1) ah (aL _)) (gy (jZ (dc (aJ C2 hr (aa (pv 2) (aa (aB aU (aS (pv 0) rfl) (aW eh (pv 1) ah) (λ_ _=>rfl)) ad))))))).pt)).pt
     (af (aq (bn (aa ah (aa (ij (pv 0) T.cl C1 hr (aa (pv 1) ad)) ad))))) aN))))
   (af (aq bb)),?_⟩
  refine⟨_,rfl,a,C,dx,_,_,rfl,o.at_,T.cl,T.nP,i7,p,_,rfl,SqL.of o.pl,cU (K:=K) (a:=p) (xs:=ps.map V.ref) (λi σ H'=>ak H H'/\(∃v1 v2 v3,σ=[some (.ref a),v1,v2,v3])/\∀j (hj:j<S.pts.length),j<i->WL.cv (ok4 S) Pt.below S.pts j S.pts[j]=false)
   ⟨ak.refl H,⟨none,none,none,rfl⟩,λj hj h=>absurd h (IM _)⟩ (λi σ H' _ h=>SqL.of (h.1 _ _ o.pl)) ?_ ?_⟩
  ·rintro i y T' σ H' hi hT ⟨hS,⟨v1,v2,v3,rfl⟩,hok⟩
   obtain⟨b,hb,rfl⟩:=bR hi
   have hil:i<S.pts.length:=by rw[<-o.pn];exact(gsi hb).1
   have s2:ak H (upd H' T' (.tup [.int (i:Nat),.ref b])):=aX hS hT
   refine⟨T',_,rfl,SqT.of ae,rfl,_,_,rfl,_,_,rfl,rfl,?_⟩
   generalize upd H' T' (.tup [.int (i:Nat),.ref b])=H2 at s2
   have o2:=o.same s2
   have hpt:=o2.ptAt sb hb
   obtain⟨⟨rb,hbb⟩,_⟩:=id hpt
   have ep:S.pt i=S.pts[i]:=WL.bO S hil
   have bad:WL.cv (ok4 S) Pt.below S.pts i S.pts[i]=true->∀H3,ak H H3->∀q,H3 q=none->Q (.ref q) (upd H3 q (.tup [.int 4,.int (20+8*(i:Int))])):=λz H3 s3 q hq=>by
    have e:IS (ok4 S) Pt.below S.pts=some i:=by
     rw[WL.eu]
     exact WL.eS hil z λj hj=>hok j (by lia) hj
    rw[e]at k
    exact dN.some' k s3 q hq
   have next:WL.cv (ok4 S) Pt.below S.pts i S.pts[i]=false->∀j (hj:j<S.pts.length),j<i+1->WL.cv (ok4 S) Pt.below S.pts j S.pts[j]=false:=λz j hj h=>by
    by_cases c:j<i
    ·exact hok j hj c
    ·have:j=i:=by lia
     subst this
     exact z
   have cont:∀(t:Bool),t=(!ok4 S S.pts[i])->ud (tOr (tB (a4 3)) (As (fB (tOp (rI0 λi j=>.bl (decide (j<i))) (a4 1) (tC (.int 0)))) (Ds (tB (jR (xV K) [] E0 (br (a4 2) (br (tOp (sT K) (zM K (a4 0) "points") (tOp (rI0 λi j=>.int (i-j)) (a4 1) (tC (.int 1)))) fI)))))))
     (m5 (wO (br (tC (.int 4)) (br (kS C "place_of_point" rN [] E0 (a4 0) (br (a4 1) fI)) fI)))) oG
     { nx:=λσ H'=>ak H H'/\(∃v1 v2 v3,σ=[some (.ref a),v1,v2,v3])/\∀j (hj:j<S.pts.length),j<i+1->WL.cv (ok4 S) Pt.below S.pts j S.pts[j]=false,rt:=Q,bk:=λσ H'=>Q .non H',ct:=λσ H'=>ak H H'/\(∃v1 v2 v3,σ=[some (.ref a),v1,v2,v3])/\∀j (hj:j<S.pts.length),j<i+1->WL.cv (ok4 S) Pt.below S.pts j S.pts[j]=false }
     [some (.ref a),some (.int (i:Nat)),some (.ref b),some (.bl t)] H2:=λt et=>by
    refine⟨_,rfl,_,rfl,aV (λc1=>?_) (λc1=>?_)⟩
    ·refine eT ?_
     refine⟨_,rfl,a,dx,_,rfl,o2.at_,cq (.inl (.inl rfl)),_,rfl,_,_,rfl,(by show 2<=Hr;decide),λq hq=>?_⟩
     refine bad ?_ H2 s2 q hq
     unfold WL.cv
     rw[<-et,c1,LF]
    ·have okt:(!ok4 S S.pts[i])=false:=by rw[<-et];exact cN c1
     refine⟨_,rfl,_,_,rfl,rfl,_,rfl,aV (λc2=>?_) (λc2=>?_)⟩
     ·have c2:(0:Int)<((i:Nat):Int):=Hk c2
      obtain⟨i',rfl⟩:∃i',i=i'+1:=⟨i-1,by lia⟩
      obtain⟨b',hb'⟩:=o2.hasP (i:=i') (by lia)
      have hpt':=o2.ptAt sb hb'
      have ep':S.pt i'=S.pts[i']:=WL.bO S (by lia)
      refine⟨_,rfl,_,rfl,a,C,dx,_,_,rfl,o2.at_,T.cl,T.nP,i7,_,rfl,_,_,rfl,rfl,p,_,_,_,rfl,rfl,SqL.of o2.pl,aE (j:=i') (by lia) (aO hb'),b,b',S.pt (i'+1),S.pt i',rfl,hpt,hpt',λH3 s3=>?_⟩
      have hbe:WL.cv (ok4 S) Pt.below S.pts (i'+1) S.pts[i'+1]=!((S.pt i').below (S.pt (i'+1))):=by
       rw[WL.jY (by lia),okt,Bool.false_or,ep,ep']
      refine⟨_,rfl,?_⟩
      cases hc:(S.pt i').below (S.pt (i'+1)) with
      |true =>
       refine j8 ?_
       exact⟨s2.trans s3,⟨_,_,_,rfl⟩,next (by rw[hbe,hc];rfl)⟩
      |false =>
       refine eT ?_
       refine⟨_,rfl,a,dx,_,rfl,(o2.same s3).at_,cq (.inl (.inl rfl)),_,rfl,_,_,rfl,(by show 2<=Hr;decide),λq hq=>?_⟩
       exact bad (by rw[hbe,hc];rfl) H3 (s2.trans s3) q hq
     ·have c2:=aK c2
      have i0:i=0:=by lia
      subst i0
      exact⟨s2,⟨_,_,_,rfl⟩,next (by rw[WL.jX];exact okt)⟩
   refine⟨_,rfl,b,_,_,_,rfl,rfl,hbb,aE (j:=0) rfl rfl,_,rfl,a,C,dx,_,_,rfl,o2.at_,T.cl,T.nW,Do,_,_,rfl,rfl,_,rfl,aV (λc1=>?_) (λc1=>?_)⟩
   ·have c1:(S.w:Int)<((S.pt i).x:Int):=Hk c1
    refine cont true ?_
    rw[<-ep]
    unfold ok4
    rw[dqf (by lia),IF]
    rfl
   ·have c1:¬(S.w:Int)<((S.pt i).x:Int):=aK c1
    refine⟨_,rfl,b,_,_,_,rfl,rfl,hbb,aE (j:=1) rfl rfl,_,rfl,a,C,dx,_,_,rfl,o2.at_,T.cl,T.nH,Di,_,_,rfl,rfl,?_⟩
    refine cont _ ?_
    rw[<-ep]
    unfold ok4
    rw[dqt (by lia:(S.pt i).x<=S.w),Jn,<-decide_not,HK]
    lia
  ·rintro σ H' ⟨hS,⟨v1,v2,v3,rfl⟩,hok⟩
   have e:IS (ok4 S) Pt.below S.pts=none:=by
    rw[WL.eu]
    refine WL.d4 λj hj=>hok j hj ?_
    rw[lmp,o.pn]
    exact hj
   rw[e]at k
   exact k H' hS
def ok5 (S:Gla.Plan)(l:Nat×Nat):Bool:=decide (l.1<l.2)&&decide (l.2<S.pts.length)
def rL (S:Gla.Plan)(i:Nat):Int:=20+8*(S.pts.length:Int)+4*(i:Int)
def En (C:Hm):Sp:=λvs H Q _=>∃(a:Hm) (S:Gla.Plan),vs=[.ref a]/\bC C H a S/\SB S/\dN (jN 5 (rL S) (IS (ok5 S) IZ S.lines)) H Q
theorem Bf:aw ["drawing","k","line","wrong_ends"] ["drawing"] (ag dR):=fsk
theorem x6 (l m:Nat×Nat):io [(l.1:Int),(l.2:Int)] [(m.1:Int),(m.2:Int)]=!Gla.lineBelow m l:=by
 rw[kf,kf]
 unfold IZ
 have e0:io [] []=true:=rfl
 rw[e0,Ip]
 by_cases c:(l.1:Int)=(m.1:Int)
 ·rw[Hz c]
  by_cases d:(l.2:Int)=(m.2:Int)
  ·rw[Hz d]
   simp
   lia
  ·rw[Hs d]
   simp
   lia
 ·rw[Hs c]
  simp
  lia
theorem FT (F:Has K mg "fault_of_lines" dR ["drawing"]) (T:DCl K mg C) (ge:mg "enumerate"=none) (gl:mg "len"=none) (C1:Cm P w K mg base 2 C "place_of_line" ["self","k"] (xB C)) :
  Cb P w K mg base 3 "fault_of_lines" ["drawing"] (En C):=by
 refine F.cb Bf (λvs H Q E h=>?_) (λ_ _ A _ s H vs Q E hr h=>?_)
 ·obtain⟨a,S,rfl,_⟩:=h
  rfl
 ·obtain⟨a,S,rfl,hd,sb,k⟩:=h
  obtain⟨dx,p,l,m,ps,ls,ms,o⟩:=hd.op (K:=K)
  refine⟨_,ac (bf HJ rfl (dG rfl ge (aa (aS (pv 0) rfl) ad)) (cC (n:=2) rfl (aH (au (i:=1) Bf.nd rfl (.inl rfl)) (aH (au (i:=2) Bf.nd rfl (.inl rfl)) bL)))
    (ac (aC (i:=3) Bf.nd rfl (.inl rfl) (tR (cO zb (aB aF (pv 2) ah (λ_ _=>rfl)) (aB aF (pv 2) ah (λ_ _=>rfl)) (aL _)) (fF (cO zb (aB aF (pv 2) ah (λ_ _=>rfl)) (aY aR (by rfl) gl IB (aa (aS (pv 0) rfl) ad)) (aL _)))))
    (af (a8 (oz (dc (pv 3)) (ka (jq (aM eD (pv 1) ah (aL _)) (gy (aM (Dx hr.units0) (pv 2) (aB aU (aS (pv 0) rfl) (aW eh (pv 1) ah) (λ_ _=>rfl)) (aL _)))).pt)).pt
     (af (aq (bn (aa ah (aa (ij (pv 0) T.cl C1 hr (aa (pv 1) ad)) ad))))) aN))))
   (af (aq bb)),?_⟩
  refine⟨_,rfl,a,C,dx,_,_,rfl,o.at_,T.cl,T.nL,rJ,l,_,rfl,SqL.of o.ll,cU (K:=K) (a:=l) (xs:=ls.map V.ref) (λi σ H'=>ak H H'/\(∃v1 v2 v3,σ=[some (.ref a),v1,v2,v3])/\∀j (hj:j<S.lines.length),j<i->WL.cv (ok5 S) IZ S.lines j S.lines[j]=false)
   ⟨ak.refl H,⟨none,none,none,rfl⟩,λj hj h=>absurd h (IM _)⟩ (λi σ H' _ h=>SqL.of (h.1 _ _ o.ll)) ?_ ?_⟩
  ·rintro i y T' σ H' hi hT ⟨hS,⟨v1,v2,v3,rfl⟩,hok⟩
   obtain⟨b,hb,rfl⟩:=bR hi
   have hil:i<S.lines.length:=by rw[<-o.ln];exact(gsi hb).1
   have s2:ak H (upd H' T' (.tup [.int (i:Nat),.ref b])):=aX hS hT
   refine⟨T',_,rfl,SqT.of ae,rfl,_,_,rfl,_,_,rfl,rfl,?_⟩
   generalize upd H' T' (.tup [.int (i:Nat),.ref b])=H2 at s2
   have o2:=o.same s2
   have hbb:SqT K H2 b (iV [(S.lines[i].1:Int),(S.lines[i].2:Int)]):=SqT.of (o2.li i b _ hb (gge hil))
   have bad:WL.cv (ok5 S) IZ S.lines i S.lines[i]=true->∀H3,ak H H3->∀q,H3 q=none->Q (.ref q) (upd H3 q (.tup [.int 5,.int (rL S i)])):=λz H3 s3 q hq=>by
    have e:IS (ok5 S) IZ S.lines=some i:=by
     rw[WL.eu]
     exact WL.eS hil z λj hj=>hok j (by lia) hj
    rw[e]at k
    exact dN.some' k s3 q hq
   have next:WL.cv (ok5 S) IZ S.lines i S.lines[i]=false->∀j (hj:j<S.lines.length),j<i+1->WL.cv (ok5 S) IZ S.lines j S.lines[j]=false:=λz j hj h=>by
    by_cases c:j<i
    ·exact hok j hj c
    ·have:j=i:=by lia
     subst this
     exact z
   have cont:∀(t:Bool),t=(!ok5 S S.lines[i])->ud (tOr (tB (a4 3)) (As (fB (tOp (rI0 λi j=>.bl (decide (j<i))) (a4 1) (tC (.int 0)))) (fB (tOp (FK K) (a4 2) (tOp (sT K) (zM K (a4 0) "lines") (tOp (rI0 λi j=>.int (i-j)) (a4 1) (tC (.int 1))))))))
     (m5 (wO (br (tC (.int 5)) (br (kS C "place_of_line" (xB C) [] E0 (a4 0) (br (a4 1) fI)) fI)))) oG
     { nx:=λσ H'=>ak H H'/\(∃v1 v2 v3,σ=[some (.ref a),v1,v2,v3])/\∀j (hj:j<S.lines.length),j<i+1->WL.cv (ok5 S) IZ S.lines j S.lines[j]=false,rt:=Q,bk:=λσ H'=>Q .non H',ct:=λσ H'=>ak H H'/\(∃v1 v2 v3,σ=[some (.ref a),v1,v2,v3])/\∀j (hj:j<S.lines.length),j<i+1->WL.cv (ok5 S) IZ S.lines j S.lines[j]=false }
     [some (.ref a),some (.int (i:Nat)),some (.ref b),some (.bl t)] H2:=λt et=>by
    refine⟨_,rfl,_,rfl,aV (λc1=>?_) (λc1=>?_)⟩
    ·refine eT ?_
     refine⟨_,rfl,a,dx,_,rfl,o2.at_,cq (.inl (.inr rfl)),_,rfl,a,S,_,rfl,o2.draw,(by show 2<=Hr;decide),λq hq=>?_⟩
     refine bad ?_ H2 s2 q hq
     unfold WL.cv
     rw[<-et,c1,LF]
    ·have okt:(!ok5 S S.lines[i])=false:=by rw[<-et];exact cN c1
     refine⟨_,rfl,_,_,rfl,rfl,_,rfl,aV (λc2=>?_) (λc2=>?_)⟩
     ·have c2:(0:Int)<((i:Nat):Int):=Hk c2
      obtain⟨i',rfl⟩:∃i',i=i'+1:=⟨i-1,by lia⟩
      obtain⟨b',hb'⟩:=o2.hasL (i:=i') (by lia)
      have hbb':SqT K H2 b' (iV [(S.lines[i'].1:Int),(S.lines[i'].2:Int)]):=SqT.of (o2.li i' b' _ hb' (gge (by lia)))
      refine⟨_,rfl,_,rfl,a,C,dx,_,_,rfl,o2.at_,T.cl,T.nL,rJ,_,rfl,_,_,rfl,rfl,l,_,_,_,rfl,rfl,SqL.of o2.ll,aE (j:=i') (by lia) (aO hb'),b,b',_,_,rfl,rfl,hbb,hbb',?_⟩
      have hbe:WL.cv (ok5 S) IZ S.lines (i'+1) S.lines[i'+1]=!(IZ S.lines[i'] S.lines[i'+1]):=by
       rw[WL.jY (by lia),okt,Bool.false_or]
      rw[x6]
      refine⟨_,rfl,aV (λc3=>?_) (λc3=>?_)⟩
      ·refine⟨_,rfl,a,dx,_,rfl,o2.at_,cq (.inl (.inr rfl)),_,rfl,a,S,_,rfl,o2.draw,(by show 2<=Hr;decide),λq hq=>?_⟩
       exact bad (by rw[hbe];exact c3) H2 s2 q hq
      ·exact⟨s2,⟨_,_,_,rfl⟩,next (by rw[hbe];exact cN c3)⟩
     ·have c2:=aK c2
      have i0:i=0:=by lia
      subst i0
      exact⟨s2,⟨_,_,_,rfl⟩,next (by rw[WL.jX];exact okt)⟩
   refine⟨_,rfl,b,_,_,_,rfl,rfl,hbb,aE (j:=0) rfl rfl,_,rfl,b,_,_,_,rfl,rfl,hbb,aE (j:=1) rfl rfl,_,_,rfl,rfl,_,rfl,aV (λc1=>?_) (λc1=>?_)⟩
   ·have c1:(S.lines[i].2:Int)<=(S.lines[i].1:Int):=Hk c1
    refine cont true ?_
    unfold ok5
    rw[dqf (by lia),IF]
    rfl
   ·have c1:¬(S.lines[i].2:Int)<=(S.lines[i].1:Int):=aK c1
    refine⟨_,rfl,b,_,_,_,rfl,rfl,hbb,aE (j:=1) rfl rfl,_,rfl,a,C,dx,_,_,rfl,o2.at_,T.cl,T.nP,i7,p,_,rfl,.inl (SqL.of o2.pl),_,_,rfl,rfl,?_⟩
    refine cont _ ?_
    unfold ok5
    rw[dqt (by lia:S.lines[i].1<S.lines[i].2),Jn,<-decide_not,HK,lmp,o.pn]
    lia
  ·rintro σ H' ⟨hS,⟨v1,v2,v3,rfl⟩,hok⟩
   have e:IS (ok5 S) IZ S.lines=none:=by
    rw[WL.eu]
    refine WL.d4 λj hj=>hok j hj ?_
    rw[lmp,o.ln]
    exact hj
   rw[e]at k
   exact k H' hS
theorem xf {S:Gla.Plan}{x:Nat×Nat}{j:Nat}(h0:j<S.pts.length)(h1:x.1<j)(h2:j<x.2)(h:Gla.isOn (S.pt x.1) (S.pt x.2) (S.pt j)=true):WL.oZ S x=true:=by
 unfold WL.oZ
 rw[Jt]
 exact⟨j,Ix.2 h0,by rw[dqt h1,dqt h2,h];rfl⟩
theorem yu {S:Gla.Plan}{x:Nat×Nat}(h:∀j,x.1<j->j<x.2->Gla.isOn (S.pt x.1) (S.pt x.2) (S.pt j)=false):WL.oZ S x=false:=by
 unfold WL.oZ
 rw[KB]
 intro j _ z
 rw[Hu,Hu]at z
 rw[h j (Hk z.1) (Hk z.2.1)]at z
 exact absurd z.2.2 (by decide)
def Eg (K:IN)(H:Hp)(b:Hm)(x:Nat×Nat):Prop:=SqT K H b (iV [(x.1:Int),(x.2:Int)])
theorem Op.lnAt {H:Hp}{a dx p l m:Hm}{S:Gla.Plan}{ps ls ms:List Hm}(o:Op K C H a dx p l m S ps ls ms){i:Nat}{b:Hm}(hi:i<S.lines.length)(e:ls[i]? = some b):Eg K H b S.lines[i]:=SqT.of (o.li i b _ e (gge hi))
def FA (K:IN)(C:Hm):Sp:=λvs H Q _=>∃(a b:Hm) (S:Gla.Plan) (x:Nat×Nat),vs=[.ref a,.ref b]/\bC C H a S/\SB S/\Eg K H b x/\x.1<x.2/\x.2<S.pts.length/\Q (.bl (WL.oZ S x)) H
theorem Ac:aw ["drawing","line","p","q","k"] ["drawing","line"] (ag dk):=fsk
theorem Fj (F:Has K mg "has_point_on_it" dk ["drawing","line"]) (T:DCl K mg C) (gr:mg "range"=none) (C1:Cb P w K mg base 2 "is_on" ["p","q","r"] (Cf K)) :
  Cb P w K mg base 3 "has_point_on_it" ["drawing","line"] (FA K C):=by
 refine F.cb Ac (λvs H Q E h=>?_) (λ_ _ A _ s H vs Q E hr h=>?_)
 ·obtain⟨a,b,S,x,rfl,_⟩:=h
  rfl
 ·obtain⟨a,b,S,x,rfl,hd,sb,hx,x1,x2,k⟩:=h
  obtain⟨dx,p,l,m,ps,ls,ms,o⟩:=hd.op (K:=K)
  have np:=sb.np
  have hx:SqT K H b (iV [(x.1:Int),(x.2:Int)]):=hx
  obtain⟨b1,hb1⟩:=o.hasP (i:=x.1) (by lia)
  obtain⟨b2,hb2⟩:=o.hasP (i:=x.2) (by lia)
  refine⟨_,ac (aC (i:=2) Ac.nd rfl (.inl rfl) (aB aU (aS (pv 0) rfl) (aB aF (pv 1) ah (λ_ _=>rfl)) (λ_ _=>rfl))) (ac (aC (i:=3) Ac.nd rfl (.inl rfl) (aB aU (aS (pv 0) rfl) (aB aF (pv 1) ah (λ_ _=>rfl)) (λ_ _=>rfl)))
   (ac (bf HJ rfl (qp rfl gr (aa (aW dX (aB aF (pv 1) ah (λ_ _=>rfl)) ah) (aa (aB aF (pv 1) ah (λ_ _=>rfl)) ad))) (au (i:=4) Ac.nd rfl (.inl rfl))
    (af (a8 (dc (aJ C1 hr (aa (pv 2) (aa (pv 3) (aa (aB aU (aS (pv 0) rfl) (pv 4) (λ_ _=>rfl)) ad))))) (af (aq eC)) aN)))
   (af (aq eC)))),?_⟩
  refine⟨_,rfl,a,C,dx,_,_,rfl,o.at_,T.cl,T.nP,i7,_,rfl,b,_,_,_,rfl,rfl,hx,aE (j:=0) rfl rfl,p,_,_,_,rfl,rfl,SqL.of o.pl,aE (j:=x.1) rfl (aO hb1),?_⟩
  refine⟨_,rfl,a,C,dx,_,_,rfl,o.at_,T.cl,T.nP,i7,_,rfl,b,_,_,_,rfl,rfl,hx,aE (j:=1) rfl rfl,p,_,_,_,rfl,rfl,SqL.of o.pl,aE (j:=x.2) rfl (aO hb2),?_⟩
  refine⟨_,rfl,b,_,_,_,rfl,rfl,hx,aE (j:=0) rfl rfl,_,_,rfl,rfl,_,rfl,b,_,_,_,rfl,rfl,hx,aE (j:=1) rfl rfl,_,_,rfl,⟨by lia,by lia,by lia,by lia⟩,jK (λt σ H'=>H'=H/\(∃v,σ=[some (.ref a),some (.ref b),some (.ref b1),some (.ref b2),v])/\∀j,x.1<j->j<x.1+1+t->Gla.isOn (S.pt x.1) (S.pt x.2) (S.pt j)=false)
   ⟨rfl,⟨none,rfl⟩,λj h1 h2=>by lia⟩ ?_ ?_⟩
  ·rintro t σ H' ht ⟨rfl,⟨v,rfl⟩,hno⟩
   have et:((x.1:Int)+1+(t:Int))=((x.1+1+t:Nat):Int):=by lia
   rw[et]
   obtain⟨b3,hb3⟩:=o.hasP (i:=x.1+1+t) (by lia)
   refine⟨_,rfl,_,rfl,_,rfl,a,C,dx,_,_,rfl,o.at_,T.cl,T.nP,i7,_,rfl,p,_,_,_,rfl,rfl,SqL.of o.pl,aE (j:=x.1+1+t) rfl (aO hb3),b1,b2,b3,_,_,_,rfl,o.ptAt sb hb1,o.ptAt sb hb2,o.ptAt sb hb3,_,rfl,aV (λc=>?_) (λc=>?_)⟩
   ·show Q (.bl true) H'
    rw[xf (j:=x.1+1+t) (by lia) (by lia) (by lia) c]at k
    exact k
   ·refine⟨rfl,⟨_,rfl⟩,λj h1 h2=>?_⟩
    by_cases d:j<x.1+1+t
    ·exact hno j h1 d
    ·have:j=x.1+1+t:=by lia
     subst this
     exact cN c
  ·rintro σ H' ⟨rfl,⟨v,rfl⟩,hno⟩
   rw[yu λj h1 h2=>hno j h1 (by lia)]at k
   exact k
def gG (S:Gla.Plan):Prop:=∀l∈S.lines,l.1<l.2/\l.2<S.pts.length
def Ec (C:Hm):Sp:=λvs H Q _=>∃(a:Hm) (S:Gla.Plan) (i:Nat) (hi:i<S.lines.length),vs=[.ref a,.int (i:Int)]/\bC C H a S/\SB S/\gG S/\Q (.bl (WL.kh S i S.lines[i])) H
theorem xa:aw ["drawing","k","line","p","q","j","earlier"] ["drawing","k"] (ag ck):=fsk
theorem wq {S:Gla.Plan}{x:Nat×Nat}{i j:Nat}(hi:i<=S.lines.length)(hj:j<i)(h1:x.1<(S.lines[j]'(by lia)).2)(h:Gla.crosses (S.pt x.1) (S.pt x.2) (S.pt (S.lines[j]'(by lia)).1) (S.pt (S.lines[j]'(by lia)).2)=true):WL.kh S i x=true:=by
 unfold WL.kh
 rw[Jt]
 refine⟨S.lines[j]'(by lia),?_,by rw[dqt h1,h];rfl⟩
 rw[JM]
 exact⟨j,by lia,rfl⟩
theorem zT {S:Gla.Plan}{x:Nat×Nat}{i:Nat}(h:∀j (hj:j<S.lines.length),j<i->(decide (x.1<(S.lines[j]).2)&&Gla.crosses (S.pt x.1) (S.pt x.2) (S.pt (S.lines[j]).1) (S.pt (S.lines[j]).2))=false):WL.kh S i x=false:=by
 unfold WL.kh
 rw[KB]
 intro y hy z
 rw[JM]at hy
 obtain⟨j,hj,rfl⟩:=hy
 rw[h j (by lia) (by lia)]at z
 exact absurd z (by decide)
theorem E8 (F:Has K mg "crosses_one_before" ck ["drawing","k"]) (T:DCl K mg C) (gr:mg "range"=none) (C1:Cb P w K mg base 3 "do_cross" ["p","q","r","s"] (vb K)) :
  Cb P w K mg base 4 "crosses_one_before" ["drawing","k"] (Ec C):=by
 refine F.cb xa (λvs H Q E h=>?_) (λ_ _ A _ s H vs Q E hr h=>?_)
 ·obtain⟨a,S,i,hi,rfl,_⟩:=h
  rfl
 ·obtain⟨a,S,i,hi,rfl,hd,sb,hlo,k⟩:=h
  obtain⟨dx,p,l,m,ps,ls,ms,o⟩:=hd.op (K:=K)
  have np:=sb.np
  have nl:=sb.nl
  obtain⟨x1,x2⟩:=hlo _ (HP hi)
  obtain⟨b,hb⟩:=o.hasL (i:=i) hi
  have hx:SqT K H b (iV [(S.lines[i].1:Int),(S.lines[i].2:Int)]):=o.lnAt hi hb
  obtain⟨b1,hb1⟩:=o.hasP (i:=S.lines[i].1) (by lia)
  obtain⟨b2,hb2⟩:=o.hasP (i:=S.lines[i].2) (by lia)
  refine⟨_,ac (aC (i:=2) xa.nd rfl (.inl rfl) (aB aU (aS (pv 0) rfl) (pv 1) (λ_ _=>rfl))) (ac (aC (i:=3) xa.nd rfl (.inl rfl) (aB aU (aS (pv 0) rfl) (aB aF (pv 2) ah (λ_ _=>rfl)) (λ_ _=>rfl))) (ac (aC (i:=4) xa.nd rfl (.inl rfl) (aB aU (aS (pv 0) rfl) (aB aF (pv 2) ah (λ_ _=>rfl)) (λ_ _=>rfl)))
   (ac (bf HJ rfl (qj rfl gr (aa (pv 1) ad)) (au (i:=5) xa.nd rfl (.inl rfl))
    (ac (aC (i:=6) xa.nd rfl (.inl rfl) (aB aU (aS (pv 0) rfl) (pv 5) (λ_ _=>rfl)))
    (af (a8 (jq (aM eD (aB aF (pv 6) ah (λ_ _=>rfl)) (aB aF (pv 2) ah (λ_ _=>rfl)) (aL _)) (gy (dc (aJ C1 hr (aa (pv 3) (aa (pv 4) (aa (aB aU (aS (pv 0) rfl) (aB aF (pv 6) ah (λ_ _=>rfl)) (λ_ _=>rfl)) (aa (aB aU (aS (pv 0) rfl) (aB aF (pv 6) ah (λ_ _=>rfl)) (λ_ _=>rfl)) ad)))))))).pt (af (aq eC)) aN))))
   (af (aq eC))))),?_⟩
  refine⟨_,rfl,a,C,dx,_,_,rfl,o.at_,T.cl,T.nL,rJ,_,rfl,l,_,_,_,rfl,rfl,SqL.of o.ll,aE (j:=i) rfl (aO hb),?_⟩
  refine⟨_,rfl,a,C,dx,_,_,rfl,o.at_,T.cl,T.nP,i7,_,rfl,b,_,_,_,rfl,rfl,hx,aE (j:=0) rfl rfl,p,_,_,_,rfl,rfl,SqL.of o.pl,aE (j:=S.lines[i].1) rfl (aO hb1),?_⟩
  refine⟨_,rfl,a,C,dx,_,_,rfl,o.at_,T.cl,T.nP,i7,_,rfl,b,_,_,_,rfl,rfl,hx,aE (j:=1) rfl rfl,p,_,_,_,rfl,rfl,SqL.of o.pl,aE (j:=S.lines[i].2) rfl (aO hb2),?_⟩
  refine⟨_,rfl,_,rfl,by lia,by lia,jK (λt σ H'=>H'=H/\(∃v1 v2,σ=[some (.ref a),some (.int (i:Int)),some (.ref b),some (.ref b1),some (.ref b2),v1,v2])/\∀j (hj:j<S.lines.length),j<t->(decide (S.lines[i].1<(S.lines[j]).2)&&Gla.crosses (S.pt S.lines[i].1) (S.pt S.lines[i].2) (S.pt (S.lines[j]).1) (S.pt (S.lines[j]).2))=false)
   ⟨rfl,⟨none,none,rfl⟩,λj h1 h2=>by lia⟩ ?_ ?_⟩
  ·rintro t σ H' ht ⟨rfl,⟨v1,v2,rfl⟩,hno⟩
   rw[IV]at ht
   rw[Int.zero_add]
   have htl:t<S.lines.length:=by lia
   obtain⟨y1,y2⟩:=hlo _ (HP htl)
   obtain⟨c,hc⟩:=o.hasL (i:=t) htl
   have hy:SqT K H' c (iV [(S.lines[t].1:Int),(S.lines[t].2:Int)]):=o.lnAt htl hc
   obtain⟨b3,hb3⟩:=o.hasP (i:=S.lines[t].1) (by lia)
   obtain⟨b4,hb4⟩:=o.hasP (i:=S.lines[t].2) (by lia)
   have next:(decide (S.lines[i].1<(S.lines[t]).2)&&Gla.crosses (S.pt S.lines[i].1) (S.pt S.lines[i].2) (S.pt (S.lines[t]).1) (S.pt (S.lines[t]).2))=false->∀j (hj:j<S.lines.length),j<t+1->(decide (S.lines[i].1<(S.lines[j]).2)&&Gla.crosses (S.pt S.lines[i].1) (S.pt S.lines[i].2) (S.pt (S.lines[j]).1) (S.pt (S.lines[j]).2))=false:=λz j hj h=>by
    by_cases d:j<t
    ·exact hno j hj d
    ·have:j=t:=by lia
     subst this
     exact z
   refine⟨_,rfl,a,C,dx,_,_,rfl,o.at_,T.cl,T.nL,rJ,_,rfl,l,_,_,_,rfl,rfl,SqL.of o.ll,aE (j:=t) rfl (aO hc),?_⟩
   refine⟨_,rfl,c,_,_,_,rfl,rfl,hy,aE (j:=1) rfl rfl,_,rfl,b,_,_,_,rfl,rfl,hx,aE (j:=0) rfl rfl,_,_,rfl,rfl,_,rfl,aV (λc1=>?_) (λc1=>?_)⟩
   ·have c1:(S.lines[i].1:Int)<(S.lines[t].2:Int):=Hk c1
    refine⟨_,rfl,_,rfl,_,rfl,a,C,dx,_,_,rfl,o.at_,T.cl,T.nP,i7,_,rfl,c,_,_,_,rfl,rfl,hy,aE (j:=0) rfl rfl,p,_,_,_,rfl,rfl,SqL.of o.pl,aE (j:=S.lines[t].1) rfl (aO hb3),_,rfl,a,C,dx,_,_,rfl,o.at_,T.cl,T.nP,i7,_,rfl,c,_,_,_,rfl,rfl,hy,aE (j:=1) rfl rfl,p,_,_,_,rfl,rfl,SqL.of o.pl,aE (j:=S.lines[t].2) rfl (aO hb4),b1,b2,b3,b4,_,_,_,_,rfl,o.ptAt sb hb1,o.ptAt sb hb2,o.ptAt sb hb3,o.ptAt sb hb4,_,rfl,aV (λc2=>?_) (λc2=>?_)⟩
    ·show Q (.bl true) H'
     rw[wq (j:=t) (by lia) ht (by lia) c2]at k
     exact k
    ·exact⟨rfl,⟨_,_,rfl⟩,next (by rw[cN c2,Lq])⟩
   ·have c1:¬(S.lines[i].1:Int)<(S.lines[t].2:Int):=aK c1
    exact⟨rfl,⟨_,_,rfl⟩,next (by rw[dqf (by lia),IF])⟩
  ·rintro σ H' ⟨rfl,⟨v1,v2,rfl⟩,hno⟩
   rw[IV]at hno
   rw[zT hno]at k
   exact k
def E2 (C:Hm):Sp:=λvs H Q _=>∃(a:Hm) (S:Gla.Plan),vs=[.ref a]/\bC C H a S/\SB S/\WL.R4 S/\WL.R5 S/\dN (jN 7 (rL S) (Gla.firstAt (K7 S) S.lines)) H Q
theorem DG:aw ["drawing","k","line"] ["drawing"] (ag cg):=fsk
theorem EI (F:Has K mg "fault_of_crossings" cg ["drawing"]) (T:DCl K mg C) (ge:mg "enumerate"=none) (C1:Cb P w K mg base 3 "has_point_on_it" ["drawing","line"] (FA K C)) (C2:Cb P w K mg base 4 "crosses_one_before" ["drawing","k"] (Ec C)) (C3:Cm P w K mg base 2 C "place_of_line" ["self","k"] (xB C)) :
  Cb P w K mg base 5 "fault_of_crossings" ["drawing"] (E2 C):=by
 refine F.cb DG (λvs H Q E h=>?_) (λ_ _ A _ s H vs Q E hr h=>?_)
 ·obtain⟨a,S,rfl,_⟩:=h
  rfl
 ·obtain⟨a,S,rfl,hd,sb,h4,h5,k⟩:=h
  obtain⟨dx,p,l,m,ps,ls,ms,o⟩:=hd.op (K:=K)
  have hr3:bA 3 _:=hr.mono (by decide)
  have hr2:bA 2 _:=hr.mono (by decide)
  have hlo:gG S:=λl hl=>h5.line hl
  refine⟨_,ac (bf HJ rfl (dG rfl ge (aa (aS (pv 0) rfl) ad)) (cC (n:=2) rfl (aH (au (i:=1) DG.nd rfl (.inl rfl)) (aH (au (i:=2) DG.nd rfl (.inl rfl)) bL)))
    (af (a8 (oz (dc (aJ C1 hr3 (aa (pv 0) (aa (pv 2) ad)))) (ka (dc (aJ C2 hr (aa (pv 0) (aa (pv 1) ad)))))).pt
     (af (aq (bn (aa ah (aa (ij (pv 0) T.cl C3 hr2 (aa (pv 1) ad)) ad))))) aN)))
   (af (aq bb)),?_⟩
  refine⟨_,rfl,a,C,dx,_,_,rfl,o.at_,T.cl,T.nL,rJ,l,_,rfl,SqL.of o.ll,cU (K:=K) (a:=l) (xs:=ls.map V.ref) (λi σ H'=>ak H H'/\(∃v1 v2,σ=[some (.ref a),v1,v2])/\∀j (hj:j<S.lines.length),j<i->K7 S j S.lines[j]=false)
   ⟨ak.refl H,⟨none,none,rfl⟩,λj hj h=>absurd h (IM _)⟩ (λi σ H' _ h=>SqL.of (h.1 _ _ o.ll)) ?_ ?_⟩
  ·rintro i y T' σ H' hi hT ⟨hS,⟨v1,v2,rfl⟩,hok⟩
   obtain⟨b,hb,rfl⟩:=bR hi
   have hil:i<S.lines.length:=by rw[<-o.ln];exact(gsi hb).1
   have s2:ak H (upd H' T' (.tup [.int (i:Nat),.ref b])):=aX hS hT
   refine⟨T',_,rfl,SqT.of ae,rfl,_,_,rfl,_,_,rfl,rfl,?_⟩
   generalize upd H' T' (.tup [.int (i:Nat),.ref b])=H2 at s2
   have o2:=o.same s2
   have te:=WL.yF h4 h5 i (HP hil)
   have ret:K7 S i S.lines[i]=true->m5 (wO (br (tC (.int 7)) (br (kS C "place_of_line" (xB C) [] E0 (a4 0) (br (a4 1) fI)) fI)))
     { nx:=λσ H'=>ak H H'/\(∃v1 v2,σ=[some (.ref a),v1,v2])/\∀j (hj:j<S.lines.length),j<i+1->K7 S j S.lines[j]=false,rt:=Q,bk:=λσ H'=>Q .non H',ct:=λσ H'=>ak H H'/\(∃v1 v2,σ=[some (.ref a),v1,v2])/\∀j (hj:j<S.lines.length),j<i+1->K7 S j S.lines[j]=false }
     [some (.ref a),some (.int (i:Nat)),some (.ref b)] H2:=λz=>by
    refine⟨_,rfl,a,dx,_,rfl,o2.at_,cq (.inl (.inr rfl)),_,rfl,a,S,_,rfl,o2.draw,(by show 2<=Hr;decide),λq hq=>?_⟩
    have e:Gla.firstAt (K7 S) S.lines=some i:=WL.eS hil z λj hj=>hok j (by lia) hj
    rw[e]at k
    exact dN.some' k s2 q hq
   refine⟨_,rfl,_,rfl,a,b,S,S.lines[i],rfl,o2.draw,sb,o2.lnAt hil hb,(hlo _ (HP hil)).1,(hlo _ (HP hil)).2,_,rfl,aV (λc1=>?_) (λc1=>?_)⟩
   ·exact eT (ret (by rw[te,c1];rfl))
   ·refine⟨_,rfl,_,rfl,a,S,i,hil,rfl,o2.draw,sb,hlo,_,rfl,aV (λc2=>?_) (λc2=>?_)⟩
    ·exact ret (by rw[te,c2,Bool.or_true])
    ·refine⟨s2,⟨_,_,rfl⟩,λj hj h=>?_⟩
     by_cases c:j<i
     ·exact hok j hj c
     ·have:j=i:=by lia
      subst this
      rw[te,cN c1,cN c2]
      rfl
  ·rintro σ H' ⟨hS,⟨v1,v2,rfl⟩,hok⟩
   have e:Gla.firstAt (K7 S) S.lines=none:=by
    refine WL.d4 λj hj=>hok j hj ?_
    rw[lmp,o.ln]
    exact hj
   rw[e]at k
   exact k H' hS
def nI (l:List Nat):List Int:=l.map λ(x:Nat)=>(x:Int)
def vE (i:Nat)(l:Nat×Nat):Option Nat:=if l.1=i then some l.2 else if l.2=i then some l.1 else none
def fc (S:Gla.Plan)(t i:Nat):List Nat:=(S.lines.take t).filterMap (vE i)
theorem uX (S:Gla.Plan)(i:Nat):fc S S.lines.length i=S.near i:=by
 unfold fc
 rw[IU]
 rfl
theorem oY (S:Gla.Plan)(t i:Nat):(fc S t i).length<=t:=by
 refine Ik (List.length_filterMap_le _ _) ?_
 rw[Iv]
 lia
theorem sU {S:Gla.Plan}{t:Nat}(ht:t<S.lines.length)(i:Nat):fc S (t+1) i=fc S t i++(vE i S.lines[t]).toList:=by
 unfold fc
 rw[bu (gge ht),List.filterMap_append]
 congr 1
structure NbS (H0 H:Hp)(N:Hm)(as:List Hm)(f:Nat->List Nat):Prop where
 sm:ak H0 H
 fr:H0 N=none
 at_:H N=some (.lst (as.map V.ref))
 nd:∀(i j:Nat) (b:Hm),as[i]? = some b->as[j]? = some b->i=j
 row:∀(i:Nat) (b:Hm),as[i]? = some b->b≠N/\H0 b=none/\H b=some (.lst (iV (nI (f i))))
theorem NbS.push {H0 H:Hp}{N:Hm}{as:List Hm}{f g:Nat->List Nat}(h:NbS H0 H N as f){i:Nat}{b:Hm}{z:Nat}(e:as[i]? = some b)(hg:∀j,j<as.length->g j=if j=i then f i++[z] else f j) :
  NbS H0 (upd H b (.lst (iV (nI (f i))++[.int (z:Int)]))) N as g:=by
 obtain⟨r1,r2,r3⟩:=h.row i b e
 refine⟨aQ h.sm r2,h.fr,by rw[ao r1.symm];exact h.at_,h.nd,λj c ec=>?_⟩
 obtain⟨q1,q2,q3⟩:=h.row j c ec
 refine⟨q1,q2,?_⟩
 have hj:=(gsi ec).1
 by_cases cj:j=i
 ·subst cj
  rw[e]at ec
  have ec:=osi ec
  subst ec
  rw[ae,hg j hj,Hz rfl]
  unfold nI iV
  rw[HI,HI]
  rfl
 ·rw[hg j hj,Hs cj]
  rw[ao (λz=>cj (h.nd j i b (by rw[<-z];exact ec) e))]
  exact q3
def Cc (C:Hm):Sp:=λvs H Q _=>∃(a:Hm) (S:Gla.Plan),vs=[.ref a]/\bC C H a S/\SB S/\gG S/\∀(H':Hp) (N:Hm) (as:List Hm),NbS H H' N as S.near->as.length=S.pts.length->Q (.ref N) H'
theorem AH:aw ["drawing","neighbours","line","point"] ["drawing"] (ag cX):=fsk
theorem Fi (F:Has K mg "neighbours_of" cX ["drawing"]) (T:DCl K mg C):Cb P w K mg base 1 "neighbours_of" ["drawing"] (Cc C):=by
 refine F.cb AH (λvs H Q E h=>?_) (λ_ _ A _ s H vs Q E hr h=>?_)
 ·obtain⟨a,S,rfl,_⟩:=h
  rfl
 ·obtain⟨a,S,rfl,hd,sb,hlo,k⟩:=h
  obtain⟨dx,p,l,m,ps,ls,ms,o⟩:=hd.op (K:=K)
  have np:=sb.np
  have nl:=sb.nl
  refine⟨_,ac (b9 (i:=1) (own:=[("point",3)]) rfl AH.nd rfl rfl (dm rfl rfl rfl (by decide +kernel)) (bF (aS (pv 0) rfl)) (bG (by show gR ["drawing","neighbours","line","point"] (ag cX) _ _=true;decide +kernel))
    (λ_ _ _ _ _=>au (i:=3) AH.nd rfl (.inl rfl) (.inr rfl)) (λ_ _ _ _ _=>ee) (λ_ _ _ _ _=>eo ad))
   (ac (bf HJ rfl (bF (aS (pv 0) rfl)) (au (i:=2) AH.nd rfl (.inl rfl))
    (ac (iS (kP IE JZ J0 hU (aB aU (pv 1) (aB aF (pv 2) ah (λ_ _=>rfl)) (λ_ _=>rfl)) (aa (aB aF (pv 2) ah (λ_ _=>rfl)) ad)))
    (af (iS (kP IE JZ J0 hU (aB aU (pv 1) (aB aF (pv 2) ah (λ_ _=>rfl)) (λ_ _=>rfl)) (aa (aB aF (pv 2) ah (λ_ _=>rfl)) ad))))))
   (af (aq (pv 1)))),?_⟩
  refine⟨_,rfl,a,C,dx,_,_,rfl,o.at_,T.cl,T.nP,i7,p,rfl,⟨_,SqL.of o.pl⟩,λD hD=>?_⟩
  refine fU (K:=K) (a:=p) (xs:=ps.map V.ref) (λi H'=>∃as:List Hm,ak H H'/\H' D=some (.lst (as.map V.ref))/\as.length=i/\(∀(i j:Nat) (b:Hm),as[i]? = some b->as[j]? = some b->i=j)/\∀(j:Nat) (b:Hm),as[j]? = some b->b≠D/\H b=none/\H' b=some (.lst []))
   ⟨[],aG hD,ae,rfl,λi j b e=>by simp at e,λj b e=>by simp at e⟩ (λi H' _ h=>by obtain⟨as,h1,_⟩:=h;exact SqL.of (h1 _ _ o.pl)) ?_ ?_
  ·rintro i y H' hi ⟨as,hS,hDl,hlen,hnd,hat⟩
   have hil:i<ps.length:=by
    have:=(gsi hi).1
    rw[lmp]at this
    exact this
   have pn:=o.pn
   refine⟨rfl,mB (eT ?_)⟩
   refine⟨(by show 0<=Hr;decide),λq hq=>?_⟩
   have nqD:q≠D:=λz=>by rw[z,hDl]at hq;cases hq
   refine⟨as.map V.ref,by rw[ao nqD.symm];exact hDl,by rw[lmp];exact a6 (by lia),as++[q],aQ (aX hS hq) hD,?_,by rw[Hn,hlen];rfl,?_,?_⟩
   ·rw[ae,HI]
    rfl
   ·have old:∀(j:Nat),as[j]? = some q->False:=λj e=>by
     have:=(hat j q e).2.2
     rw[hq]at this
     cases this
    intro j1 j2 b e1 e2
    by_cases c1:j1<as.length
    ·rw[HE c1]at e1
     by_cases c2:j2<as.length
     ·rw[HE c2]at e2
      exact hnd j1 j2 b e1 e2
     ·have h2:=(gsi e2).1
      rw[Hn]at h2
      have ej:j2=as.length:=by simp at h2;lia
      subst ej
      rw[HC (nlr _),IJ]at e2
      have e2:q=b:=osi e2
      subst e2
      exact(old j1 e1).elim
    ·have h1:=(gsi e1).1
     rw[Hn]at h1
     have ej1:j1=as.length:=by simp at h1;lia
     by_cases c2:j2<as.length
     ·rw[HE c2]at e2
      subst ej1
      rw[HC (nlr _),IJ]at e1
      have e1:q=b:=osi e1
      subst e1
      exact(old j2 e2).elim
     ·have h2:=(gsi e2).1
      rw[Hn]at h2
      have ej2:j2=as.length:=by simp at h2;lia
      lia
   ·intro j b e
    by_cases c:j<as.length
    ·rw[HE c]at e
     obtain⟨n1,n2,n3⟩:=hat j b e
     refine⟨n1,n2,?_⟩
     rw[ao n1,ao (aP n3 hq)]
     exact n3
    ·have h1:=(gsi e).1
     rw[Hn]at h1
     have ej:j=as.length:=by simp at h1;lia
     subst ej
     rw[HC (nlr _),IJ]at e
     have e:q=b:=osi e
     subst e
     refine⟨nqD,hS.free hq,?_⟩
     rw[ao nqD]
     exact ae
  rintro H1 ⟨as,hS,hDl,hlen,hnd,hat⟩
  rw[lmp,o.pn]at hlen
  have hb0:NbS H H1 D as (fc S 0):=⟨hS,hD,hDl,hnd,λi b e=>hat i b e⟩
  have o1:=o.same hS
  refine⟨_,rfl,a,C,dx,_,_,rfl,o1.at_,T.cl,T.nL,rJ,l,rfl,⟨_,SqL.of o1.ll⟩,dr (K:=K) (a:=l) (xs:=ls.map V.ref) (λi σ H'=>(∃v,σ=[some (.ref a),some (.ref D),v,none])/\NbS H H' D as (fc S i))
   ⟨⟨none,rfl⟩,hb0⟩ (λi σ H' _ h=>SqL.of (h.2.sm _ _ o.ll)) ?_ ?_⟩
  ·rintro t y σ H' hi ⟨⟨v,rfl⟩,hb⟩
   obtain⟨b,hbl,rfl⟩:=bR hi
   have ht:t<S.lines.length:=by rw[<-o.ln];exact(gsi hbl).1
   obtain⟨x1,x2⟩:=hlo _ (HP ht)
   obtain⟨c1,hc1⟩:∃c,as[S.lines[t].1]? = some c:=⟨as[S.lines[t].1]'(by lia),gge _⟩
   obtain⟨c2,hc2⟩:∃c,as[S.lines[t].2]? = some c:=⟨as[S.lines[t].2]'(by lia),gge _⟩
   have hx:SqT K H' b (iV [(S.lines[t].1:Int),(S.lines[t].2:Int)]):=(o.same hb.sm).lnAt ht hbl
   have hr1:=(hb.row _ _ hc1).2.2
   refine⟨_,rfl,_,rfl,b,_,_,_,rfl,rfl,hx,aE (j:=0) rfl rfl,D,_,_,_,rfl,rfl,SqL.of hb.at_,aE (j:=S.lines[t].1) rfl (aO hc1),.inl ⟨rfl,_,SqL.of hr1⟩,_,rfl,b,_,_,_,rfl,rfl,hx,aE (j:=1) rfl rfl,c1,_,_,rfl,rfl,hr1,?_,?_⟩
   ·unfold iV nI
    rw[lmp,lmp]
    have:=oY S t S.lines[t].1
    exact a6 (by lia)
   have hb2:=hb.push (g:=λj=>if j=S.lines[t].1 then fc S t S.lines[t].1++[S.lines[t].2] else fc S t j) hc1 (λj _=>rfl)
   generalize upd H' c1 (.lst (iV (nI (fc S t S.lines[t].1))++[.int (S.lines[t].2:Int)]))=H2 at hb2
   have hx2:SqT K H2 b (iV [(S.lines[t].1:Int),(S.lines[t].2:Int)]):=(o.same hb2.sm).lnAt ht hbl
   have hr2:=(hb2.row _ _ hc2).2.2
   rw[Hs (show ¬S.lines[t].2=S.lines[t].1 by lia)]at hr2
   refine⟨_,rfl,_,rfl,b,_,_,_,rfl,rfl,hx2,aE (j:=1) rfl rfl,D,_,_,_,rfl,rfl,SqL.of hb2.at_,aE (j:=S.lines[t].2) rfl (aO hc2),.inl ⟨rfl,_,SqL.of hr2⟩,_,rfl,b,_,_,_,rfl,rfl,hx2,aE (j:=0) rfl rfl,c2,_,_,rfl,rfl,hr2,?_,?_⟩
   ·unfold iV nI
    rw[lmp,lmp]
    have:=oY S t S.lines[t].2
    exact a6 (by lia)
   refine⟨⟨_,rfl⟩,?_⟩
   have hb3:=hb2.push (g:=fc S (t+1)) hc2 (z:=S.lines[t].1) (λj _=>by
    rw[sU ht,Hs (show ¬S.lines[t].2=S.lines[t].1 by lia)]
    unfold vE
    by_cases e2:j=S.lines[t].2
    ·rw[Hz e2,Hs (by lia),Hz e2.symm,e2]
     rfl
    ·rw[Hs e2]
     by_cases e1:j=S.lines[t].1
     ·rw[Hz e1.symm,Hz e1,e1]
      rfl
     ·rw[Hs (λz=>e1 z.symm),Hs (λz=>e2 z.symm),Hs e1]
      exact Iq _)
   rw[Hs (show ¬S.lines[t].2=S.lines[t].1 by lia)]at hb3
   exact hb3
  ·rintro σ H' ⟨⟨v,rfl⟩,hb⟩
   refine⟨_,rfl,k H' D as ?_ hlen⟩
   rw[lmp,o.ln]at hb
   have e:fc S S.lines.length=S.near:=funext λi=>uX S i
   rw[e]at hb
   exact hb
def loV:Option Nat->V
 |none=>.non
 |some k=>.int (k:Int)
def mkS (lo:Option Nat)(l:List Bool):List Bool:=match lo with
 |none=>l
 |some k=>l.set k true
def fZ (lo:Option Nat)(n:Nat):Array Bool:=match lo with
 |none=>LH n
 |some k=>(LH n).setIfInBounds k true
theorem zq {lo:Option Nat}{j:Nat}(h:lo≠some j)(l:List Bool):(mkS lo l)[j]? = l[j]?:=by
 cases lo with
 |none=>rfl
 |some k=>exact J6 (λz=>h (by rw[z]))
theorem Eb {j:Nat}{l:List Bool}(h:j<l.length):(mkS (some j) l)[j]? = some true:=KP h
theorem uo {lo:Option Nat}{j:Nat}(h:lo≠some j)(l:List Bool):(mkS lo l).set j true=mkS lo (l.set j true):=by
 cases lo with
 |none=>rfl
 |some k=>exact List.set_comm _ _ (λz=>h (by rw[z]))
theorem B3 (lo:Option Nat)(l:List Bool):(mkS lo l).length=l.length:=by
 cases lo with
 |none=>rfl
 |some k=>exact List.length_set
theorem qI {a:Array Bool}{j:Nat}{b:Bool}(h:a.toList[j]? = some b):a.getD j true=b:=by
 rw[Ji,<-Kp,h]
 rfl
theorem iG (lo:Option Nat)(n:Nat):(fZ lo n).toList=mkS lo (Kb n false):=by
 cases lo with
 |none=>exact Array.toList_replicate
 |some k =>
  show((LH n).setIfInBounds k true).toList=_
  rw[Kl]
  unfold LH
  rw[Array.toList_replicate]
  rfl
def RW (H:Hp)(N:Hm)(as:List Hm)(f:Nat->List Nat):Prop:=H N=some (.lst (as.map V.ref))/\∀(i:Nat) (b:Hm),as[i]? = some b->H b=some (.lst (iV (nI (f i))))
theorem RW.same {H H':Hp}{N:Hm}{as:List Hm}{f:Nat->List Nat}(h:RW H N as f)(s:ak H H'):RW H' N as f:=⟨s _ _ h.1,λi b e=>s _ _ (h.2 i b e)⟩
theorem NbS.rw {H0 H:Hp}{N:Hm}{as:List Hm}{f:Nat->List Nat}(h:NbS H0 H N as f):RW H N as f:=⟨h.at_,λi b e=>(h.row i b e).2.2⟩
def nrs (n:Nat)(f:Nat->List Nat):Array (List Nat):=((HS n).map f).toArray
theorem CT {n:Nat}{f:Nat->List Nat}{k:Nat}(h:k<n):(nrs n f).getD k []=f k:=by
 unfold nrs
 rw[Ji,List.getElem?_toArray,Hw,Kf h]
 rfl
structure RfS (H H':Hp)(R Wa:Hm)(n:Nat)(lo:Option Nat)(todo:List Nat)(seen:Array Bool)(Rl:List Bool):Prop where
 sm:ak H H'
 r:H' R=some (.lst (Rl.map V.bl))
 w:H' Wa=some (.lst (iV (nI todo.reverse)))
 ln:Rl.length=n
 sk:seen.toList=mkS lo Rl
 lo:∀k,lo=some k->Rl[k]? = some false
 td:∀j∈todo,j<n
def Aq:Sp:=λvs H Q _=>∃(st:Nat) (N:Hm) (as:List Hm) (f:Nat->List Nat) (lo:Option Nat) (n:Nat),vs=[.int (st:Int),.ref N,loV lo]/\RW H N as f/\as.length=n/\n<=100000/\st<n/\lo≠some st/\(∀k,lo=some k->k<n)/\(∀i,i<n->∀j∈f i,j<n) /\
 ∀(H':Hp) (R:Hm) (Rl:List Bool),ak H H'->H' R=some (.lst (Rl.map V.bl))->Rl.length=n->(∀k,lo=some k->Rl[k]? = some false)->mkS lo Rl=(K8 (nrs n f) n st (fZ lo n)).toList->Q (.ref R) H'
theorem wo:aw ["start","neighbours","left_out","reached","waiting","here","there","row"] ["start","neighbours","left_out"] (ag dD):=fsk
theorem vc {n k:Nat}(h:k<n):ixN n (k:Int)=some k:=by
 unfold ixN
 rw[Hz (by lia),Hz (by lia),IV]
theorem ER {l:List Bool}{j:Nat}{b:Bool}(h:l[j]? = some b):(l.map V.bl)[j]? = some (.bl b):=by
 rw[Hw,h]
 rfl
theorem kF {l:List Nat}{i:Nat}{v:V}(h:(iV (nI l))[i]? = some v):∃x,l[i]? = some x/\v=.int (x:Int):=by
 unfold iV nI at h
 rw[Hw,Hw]at h
 cases e:l[i]? with
 |none=>rw[e]at h;cases h
 |some x =>
  rw[e]at h
  exact⟨x,rfl,(osi h).symm⟩
theorem gO (l:List Nat)(k:Nat):iV (nI (l++[k]))=iV (nI l)++[.int (k:Int)]:=by
 unfold iV nI
 rw[HI,HI]
 rfl
theorem bS (l:List Nat):(iV (nI l)).length=l.length:=by
 unfold iV nI
 rw[lmp,lmp]
theorem Ag (xs:List V)(v:V):(xs++[v])[(xs++[v]).length-1]? = some v:=by
 rw[Hn,K0,Nat.add_sub_cancel,HC (nlr _),IJ]
 rfl
theorem FX (F:Has K mg "reached_from" dD ["start","neighbours","left_out"]) (gl:mg "len"=none):Cb P w K mg base 1 "reached_from" ["start","neighbours","left_out"] Aq:=by
 refine F.cb wo (λvs H Q E h=>?_) (λff cdv A outer s H vs Q E hr h=>?_)
 ·obtain⟨st,N,as,f,lo,n,rfl,_⟩:=h
  rfl
 ·obtain⟨st,N,as,f,lo,n,rfl,hrw,hlen,hn,hst,hlost,hlon,hfn,k⟩:=h
  refine⟨_,ac (b9 (i:=3) (own:=[("row",7)]) rfl wo.nd rfl rfl (dm rfl rfl rfl (by decide +kernel)) (bF (pv 1)) (bG (by show gR ["start","neighbours","left_out","reached","waiting","here","there","row"] (ag dD) _ _=true;decide +kernel))
    (λ_ _ _ _ _=>au (i:=7) wo.nd rfl (.inl rfl) (.inr rfl)) (λ_ _ _ _ _=>ee) (λ_ _ _ _ _=>eC))
   (ac (zS eC (yi (pv 3) (pv 0) rZ))
   (ac (aC (i:=4) wo.nd rfl (.inl rfl) (eo (aa (pv 0) ad)))
   (ac (nY HJ (aM eD (aY aR (by rfl) gl IB (aa (pv 4) ad)) ah (aL _))
    (ac (aC (i:=5) wo.nd rfl (.inl rfl) (Cz IE PySem.F.slot_list_pop PySem.F.type_list_pop DC (pv 4)))
    (af (bf HJ rfl (bF (aB aU (pv 1) (pv 5) (λ_ _=>rfl))) (au (i:=6) wo.nd rfl (.inl rfl))
     (af (a8 (jq (aM zg (pv 6) (pv 2) (aL _)) (gy (jZ (dc (aB aU (pv 3) (pv 6) (λ_ _=>rfl)))))).pt
      (ac (zS eC (yi (pv 3) (pv 6) rZ))
      (af (iS (kP IE JZ J0 hU (pv 4) (aa (pv 6) ad))))) aN))))))
   (af (aq (pv 3)))))),?_⟩
  refine⟨_,rfl,N,rfl,⟨_,SqL.of hrw.1⟩,λD hD=>?_⟩
  refine fU (K:=K) (a:=N) (xs:=as.map V.ref) (λi H'=>H'=upd H D (.lst ((Kb i false).map V.bl))) rfl (λi H' _ h=>by rw[h];exact SqL.of (by rw[ao (aP hrw.1 hD)];exact hrw.1)) ?_ ?_
  ·rintro i y H' hi rfl
   have hil:i<as.length:=by
    have:=(gsi hi).1
    rw[lmp]at this
    exact this
   refine⟨rfl,mB (eT ?_)⟩
   refine⟨_,ae,by rw[lmp,Ko];exact a6 (by lia),?_⟩
   rw[vC,List.replicate_succ',HI]
   rfl
  rintro H1 rfl
  rw[lmp,hlen]
  refine⟨_,rfl,_,rfl,D,_,_,st,rfl,rfl,ae,vc (by rw[lmp,Ko];exact hst),?_⟩
  rw[vC]
  have eset:((Kb n false).map V.bl).set st (.bl true)=((Kb n false).set st true).map V.bl:=by rw[List.map_set]
  rw[eset]
  refine⟨_,rfl,(by show 1<=Hr;decide),λWa hWa=>?_⟩
  have nDW:D≠Wa:=λz=>by rw[z,ae]at hWa;cases hWa
  have hW0:H Wa=none:=by rw[ao nDW.symm]at hWa;exact hWa
  have s1:ak H (upd H D (.lst (((Kb n false).set st true).map V.bl))):=aG hD
  have s2:ak H (upd (upd H D (.lst (((Kb n false).set st true).map V.bl))) Wa (.lst [.int (st:Int)])):=aQ s1 hW0
  have z0:RfS H (upd (upd H D (.lst (((Kb n false).set st true).map V.bl))) Wa (.lst [.int (st:Int)])) D Wa n lo [st] ((fZ lo n).setIfInBounds st true) ((Kb n false).set st true):=by
   refine⟨s2,?_,ae,?_,?_,?_,?_⟩
   ·rw[ao nDW]
    exact ae
   ·rw[List.length_set,Ko]
   ·rw[Kl,iG,uo hlost]
   ·intro q hq
    rw[J6 (λz=>hlost (by rw[hq,z])),List.getElem?_replicate,Hz (hlon q hq)]
   ·intro j hj
    rw[Kx.1 hj]
    exact hst
  refine⟨λmm σ H'=>mm<=n+1/\∃v5 v6 todo seen Rl,σ=[some (.int (st:Int)),some (.ref N),some (loV lo),some (.ref D),some (.ref Wa),v5,v6,none]/\RfS H H' D Wa n lo todo seen Rl/\todo.length+WL.fG seen<=mm/\Gla.spread (nrs n f) mm todo seen=K8 (nrs n f) n st (fZ lo n),
   ⟨n+1,nlr _,none,none,[st],_,_,rfl,z0,?_,rfl⟩,?_⟩
  ·unfold WL.fG
   rw[z0.sk,<-uo hlost,<-iG]
   have h1:(fZ lo n).toList[st]? = some false:=by
    rw[iG,zq hlost,List.getElem?_replicate,Hz hst]
   have h2:=WL.jJ h1
   have h3:(fZ lo n).toList.count false<=n:=by
    refine Ik List.count_le_length ?_
    rw[iG,B3,Ko]
    exact nlr _
   show 1+_<=n+1
   lia
  rintro mm σ H' ⟨hmm,v5,v6,todo,seen,Rl,rfl,z,hmu,hfin⟩
  refine⟨_,rfl,Wa,_,rfl,.inl (SqL.of z.w),_,_,rfl,rfl,_,rfl,aV (λc=>?_) (λc=>?_)⟩
  ·have c:=Hk c
   rw[bS,List.length_reverse]at c
   obtain⟨k0,r,rfl⟩:∃k0 r,todo=k0 :: r:=by
    cases todo with
    |nil=>simp at c
    |cons k0 r=>exact⟨k0,r,rfl⟩
   obtain⟨m',rfl⟩:∃m',mm=m'+1:=⟨mm-1,by simp at hmu;lia⟩
   have hk0:k0<n:=z.td k0 (HD)
   rw[WL.tO,CT hk0]at hfin
   refine⟨λσ' H'=>m'<=n+1/\∃v5 v6 todo seen Rl,σ'=[some (.int (st:Int)),some (.ref N),some (loV lo),some (.ref D),some (.ref Wa),v5,v6,none]/\RfS H H' D Wa n lo todo seen Rl/\todo.length+WL.fG seen<=m'/\Gla.spread (nrs n f) m' todo seen=K8 (nrs n f) n st (fZ lo n),λσ' H' h=>⟨m',by lia,h⟩,?_⟩
   have hw:=z.w
   rw[List.reverse_cons,gO]at hw
   refine⟨_,rfl,.inl ⟨rfl,_,SqL.of hw⟩,Wa,_,_,rfl,rfl,hw,Ag _ _,?_⟩
   rw[List.dropLast_concat]
   have z2:RfS H (upd H' Wa (.lst (iV (nI r.reverse)))) D Wa n lo r seen Rl:=⟨aQ z.sm hW0,by rw[ao nDW];exact z.r,ae,z.ln,z.sk,z.lo,λj hj=>z.td j (Ho _ hj)⟩
   generalize upd H' Wa (.lst (iV (nI r.reverse)))=H2 at z2
   obtain⟨b,hb⟩:∃b,as[k0]? = some b:=⟨as[k0]'(by lia),gge _⟩
   have hrw2:=hrw.same z2.sm
   refine⟨_,rfl,_,rfl,N,_,_,_,rfl,rfl,SqL.of hrw2.1,aE (j:=k0) rfl (aO hb),b,rfl,⟨_,SqL.of (hrw2.2 k0 b hb)⟩,?_⟩
   refine dr (K:=K) (a:=b) (xs:=iV (nI (f k0))) (λt σ H'=>∃v6 Rl,σ=[some (.int (st:Int)),some (.ref N),some (loV lo),some (.ref D),some (.ref Wa),some (.int (k0:Int)),v6,none]/\RfS H H' D Wa n lo (((f k0).take t).foldl WL.fK (r,seen)).1 (((f k0).take t).foldl WL.fK (r,seen)).2 Rl)
    ⟨v6,Rl,rfl,z2⟩ (λt σ H' _ h=>by obtain⟨_,_,_,h⟩:=h;exact SqL.of ((hrw.same h.sm).2 k0 b hb)) ?_ ?_
   ·rintro t y σ H3 ht ⟨w6,Rl2,rfl,z3⟩
    obtain⟨j,hj,rfl⟩:=kF ht
    have hjn:j<n:=hfn k0 hk0 j (Ic hj)
    have mu:=WL.lG ((f k0).take t) (r,seen)
    rw[bu hj,List.foldl_append,Kh,List.foldl_nil]
    generalize ((f k0).take t).foldl WL.fK (r,seen)=za at z3 mu
    obtain⟨za1,za2⟩:=za
    have hskip:za2.getD j true=true->WL.fK (za1,za2) j=(za1,za2):=λe=>by
     unfold WL.fK
     rw[Hz e]
    obtain⟨bj,hbj⟩:∃bj,Rl2[j]? = some bj:=⟨Rl2[j]'(by have:=z3.ln;lia),gge _⟩
    refine⟨_,rfl,_,rfl,(by cases lo<;>rfl),_,rfl,aV (λc1=>?_) (λc1=>?_)⟩
    ·have c1:lo≠some j:=λe=>by
      rw[e]at c1
      have:decide (V.int (j:Int)=loV (some j))=true:=dqt rfl
      rw[this]at c1
      exact absurd c1 (by decide)
     refine⟨_,rfl,_,rfl,D,_,_,_,rfl,rfl,SqL.of z3.r,aE (j:=j) rfl (ER hbj),_,rfl,?_⟩
     have hgs:za2.toList[j]? = some bj:=by rw[z3.sk,zq c1,hbj]
     cases bj with
     |true =>
      refine j8 ?_
      refine⟨_,Rl2,rfl,?_⟩
      rw[hskip (qI hgs)]
      exact z3
     |false =>
      refine eT ?_
      refine⟨_,rfl,_,rfl,D,_,_,j,rfl,rfl,z3.r,vc (by rw[lmp,z3.ln];exact hjn),?_⟩
      have e3:(Rl2.map V.bl).set j (.bl true)=(Rl2.set j true).map V.bl:=by rw[List.map_set]
      rw[e3]
      have hw3:(upd H3 D (.lst ((Rl2.set j true).map V.bl))) Wa=some (.lst (iV (nI za1.reverse))):=by
       rw[ao nDW.symm]
       exact z3.w
      refine⟨_,rfl,.inl ⟨rfl,_,SqL.of hw3⟩,_,rfl,Wa,_,_,rfl,rfl,hw3,?_,?_⟩
      ·rw[bS,List.length_reverse]
       have e1:za1.length+WL.fG za2=r.length+WL.fG seen:=mu
       simp at hmu
       exact a6 (by lia)
      refine⟨_,Rl2.set j true,rfl,?_⟩
      have hv:WL.fK (za1,za2) j=(j :: za1,za2.setIfInBounds j true):=by
       unfold WL.fK
       rw[Hs (by rw[qI hgs];decide)]
      rw[hv]
      refine⟨aQ (aQ z3.sm hD) hW0,?_,?_,?_,?_,?_,?_⟩
      ·rw[ao nDW]
       exact ae
      ·rw[ae,List.reverse_cons,gO]
      ·rw[List.length_set]
       exact z3.ln
      ·rw[Kl,z3.sk,uo c1]
      ·intro q hq
       rw[J6 (λe=>c1 (by rw[hq,e]))]
       exact z3.lo q hq
      ·intro i hi
       rcases Hq.1 hi with rfl|hi
       ·exact hjn
       ·exact z3.td i hi
    ·have c1:lo=some j:=by
      cases lo with
      |none=>exact absurd rfl c1
      |some q =>
       by_cases e:q=j
       ·rw[e]
       ·exfalso
        refine c1 ?_
        have:decide (V.int (j:Int)=loV (some q))=false:=dqf (λy=>e (by have:=V.int.inj y;lia))
        rw[this]
        rfl
     refine j8 ?_
     refine⟨_,Rl2,rfl,?_⟩
     rw[hskip (qI (by rw[z3.sk,c1];exact Eb (by rw[z3.ln];exact hjn)))]
     exact z3
   ·rintro σ H3 ⟨w6,Rl2,rfl,z3⟩
    rw[bS,IU]at z3
    have mu:=WL.lG (f k0) (r,seen)
    refine⟨by lia,_,_,_,_,Rl2,rfl,z3,?_,hfin⟩
    have e1:((f k0).foldl WL.fK (r,seen)).1.length+WL.fG ((f k0).foldl WL.fK (r,seen)).2=r.length+WL.fG seen:=mu
    simp at hmu
    lia
  ·have c:=aK c
   rw[bS,List.length_reverse]at c
   have e0:todo=[]:=List.eq_nil_of_length_eq_zero (by lia)
   subst e0
   rw[WL.uu]at hfin
   refine⟨_,rfl,k H' D Rl z.sm z.r z.ln z.lo ?_⟩
   rw[<-hfin,z.sk]
def lx (i:Nat):Int:=20+8*(i:Int)
def FZ (C:Hm):Sp:=λvs H Q _=>∃(a N:Hm) (as:List Hm) (S:Gla.Plan),vs=[.ref a,.ref N]/\bC C H a S/\RW H N as S.near/\as.length=S.pts.length/\dN (jN 8 lx ((HS S.pts.length).find? λi=>decide ((S.near i).length<2))) H Q
theorem DQ:aw ["drawing","neighbours","k","row"] ["drawing","neighbours"] (ag d6):=fsk
theorem DX (F:Has K mg "fault_of_ends" d6 ["drawing","neighbours"]) (T:DCl K mg C) (ge:mg "enumerate"=none) (gl:mg "len"=none) (C1:Cm P w K mg base 1 C "place_of_point" ["self","k"] rN) :
  Cb P w K mg base 2 "fault_of_ends" ["drawing","neighbours"] (FZ C):=by
 refine F.cb DQ (λvs H Q E h=>?_) (λ_ _ A _ s H vs Q E hr h=>?_)
 ·obtain⟨a,N,as,S,rfl,_⟩:=h
  rfl
 ·obtain⟨a,N,as,S,rfl,hd,hrw,hlen,k⟩:=h
  obtain⟨dx,p,l,m,ps,ls,ms,o⟩:=hd.op (K:=K)
  refine⟨_,ac (bf HJ rfl (dG rfl ge (aa (pv 1) ad)) (cC (n:=2) rfl (aH (au (i:=2) DQ.nd rfl (.inl rfl)) (aH (au (i:=3) DQ.nd rfl (.inl rfl)) bL)))
    (af (a8 (aM fM (aY aR (by rfl) gl IB (aa (pv 3) ad)) ah (aL _))
     (af (aq (bn (aa ah (aa (ij (pv 0) T.cl C1 hr (aa (pv 2) ad)) ad))))) aN)))
   (af (aq bb)),?_⟩
  refine⟨_,rfl,N,_,rfl,SqL.of hrw.1,cU (K:=K) (a:=N) (xs:=as.map V.ref) (λi σ H'=>ak H H'/\(∃v1 v2,σ=[some (.ref a),some (.ref N),v1,v2])/\∀j,j<i->decide ((S.near j).length<2)=false)
   ⟨ak.refl H,⟨none,none,rfl⟩,λj h=>absurd h (IM _)⟩ (λi σ H' _ h=>SqL.of (h.1 _ _ hrw.1)) ?_ ?_⟩
  ·rintro i y T' σ H' hi hT ⟨hS,⟨v1,v2,rfl⟩,hok⟩
   obtain⟨b,hb,rfl⟩:=bR hi
   have hil:i<S.pts.length:=by rw[<-hlen];exact(gsi hb).1
   have s2:ak H (upd H' T' (.tup [.int (i:Nat),.ref b])):=aX hS hT
   refine⟨T',_,rfl,SqT.of ae,rfl,_,_,rfl,_,_,rfl,rfl,?_⟩
   generalize upd H' T' (.tup [.int (i:Nat),.ref b])=H2 at s2
   have o2:=o.same s2
   refine⟨_,rfl,b,_,rfl,.inl (SqL.of ((hrw.same s2).2 i b hb)),_,_,rfl,rfl,_,rfl,?_⟩
   rw[bS]
   refine aV (λc=>?_) (λc=>?_)
   ·have c:=Hk c
    refine⟨_,rfl,a,dx,_,rfl,o2.at_,cq (.inl (.inl rfl)),_,rfl,_,_,rfl,(by show 2<=Hr;decide),λq hq=>?_⟩
    have e:(HS S.pts.length).find? (λi=>decide ((S.near i).length<2))=some i:=WL.j0 hil (dqt (by lia)) hok
    rw[e]at k
    exact dN.some' k s2 q hq
   ·have c:=aK c
    refine⟨s2,⟨_,_,rfl⟩,λj h=>?_⟩
    by_cases cc:j<i
    ·exact hok j cc
    ·have:j=i:=by lia
     subst this
     exact dqf (by lia)
  ·rintro σ H' ⟨hS,⟨v1,v2,rfl⟩,hok⟩
   have e:(HS S.pts.length).find? (λi=>decide ((S.near i).length<2))=none:=WL.jz λj hj=>hok j (by rw[lmp,hlen];exact hj)
   rw[e]at k
   exact k H' hS
def lW (S:Gla.Plan):Array Bool:=K8 S.nears S.pts.length 0 (LH S.pts.length)
def zY (S:Gla.Plan):Prop:=∀i,i<S.pts.length->∀j∈S.near i,j<S.pts.length
def Ga (C:Hm):Sp:=λvs H Q _=>∃(a N:Hm) (as:List Hm) (S:Gla.Plan),vs=[.ref a,.ref N]/\bC C H a S/\SB S/\4<=S.pts.length/\zY S/\RW H N as S.near/\as.length=S.pts.length/\dN (jN 9 lx ((HS S.pts.length).find? λi=>!((lW S).getD i false))) H Q
theorem Cj:aw ["drawing","neighbours","k","reached"] ["drawing","neighbours"] (ag d8):=fsk
theorem zc {a:Array Bool}{j:Nat}{b:Bool}(h:a.toList[j]? = some b):a.getD j false=b:=by
 rw[Ji,<-Kp,h]
 rfl
theorem EK {l:List Bool}{i:Nat}{v:V}(h:(l.map V.bl)[i]? = some v):∃x,l[i]? = some x/\v=.bl x:=by
 rw[Hw]at h
 cases e:l[i]? with
 |none=>rw[e]at h;cases h
 |some x =>
  rw[e]at h
  exact⟨x,rfl,(osi h).symm⟩
theorem Ey (F:Has K mg "fault_of_ways" d8 ["drawing","neighbours"]) (T:DCl K mg C) (ge:mg "enumerate"=none) (C1:Cm P w K mg base 1 C "place_of_point" ["self","k"] rN) (C2:Cb P w K mg base 1 "reached_from" ["start","neighbours","left_out"] Aq) :
  Cb P w K mg base 2 "fault_of_ways" ["drawing","neighbours"] (Ga C):=by
 refine F.cb Cj (λvs H Q E h=>?_) (λ_ _ A _ s H vs Q E hr h=>?_)
 ·obtain⟨a,N,as,S,rfl,_⟩:=h
  rfl
 ·obtain⟨a,N,as,S,rfl,hd,sb,h4,hns,hrw,hlen,k⟩:=h
  obtain⟨dx,p,l,m,ps,ls,ms,o⟩:=hd.op (K:=K)
  have np:=sb.np
  refine⟨_,ac (bf HJ rfl (dG rfl ge (aa (aJ C2 hr (aa ah (aa (pv 1) (aa bb ad)))) ad)) (cC (n:=2) rfl (aH (au (i:=2) Cj.nd rfl (.inl rfl)) (aH (au (i:=3) Cj.nd rfl (.inl rfl)) bL)))
    (af (a8 (jZ (dc (pv 3)))
     (af (aq (bn (aa ah (aa (ij (pv 0) T.cl C1 hr (aa (pv 2) ad)) ad))))) aN)))
   (af (aq bb)),?_⟩
  refine⟨_,rfl,0,N,as,S.near,none,S.pts.length,rfl,hrw,hlen,np,by lia,(λz=>by cases z),(λq z=>by cases z),hns,λH1 R Rl s1 hR hRl _ hmk=>?_⟩
  have hmk:Rl=(lW S).toList:=hmk
  have bit:∀j,Rl[j]? = some true->(!((lW S).getD j false))=false:=λj e=>by rw[zc (by rw[<-hmk];exact e)];rfl
  refine⟨R,_,rfl,SqL.of hR,cU (K:=K) (a:=R) (xs:=Rl.map V.bl) (λi σ H'=>ak H1 H'/\(∃v1 v2,σ=[some (.ref a),some (.ref N),v1,v2])/\∀j,j<i->(!((lW S).getD j false))=false)
   ⟨ak.refl H1,⟨none,none,rfl⟩,λj h=>absurd h (IM _)⟩ (λi σ H' _ h=>SqL.of (h.1 _ _ hR)) ?_ ?_⟩
  ·rintro i y T' σ H' hi hT ⟨hS,⟨v1,v2,rfl⟩,hok⟩
   obtain⟨b,hb,rfl⟩:=EK hi
   have hil:i<S.pts.length:=by rw[<-hRl];exact(gsi hb).1
   have s2:ak H1 (upd H' T' (.tup [.int (i:Nat),.bl b])):=aX hS hT
   refine⟨T',_,rfl,SqT.of ae,rfl,_,_,rfl,_,_,rfl,rfl,?_⟩
   generalize upd H' T' (.tup [.int (i:Nat),.bl b])=H2 at s2
   have o2:=o.same (s1.trans s2)
   refine⟨_,rfl,_,rfl,?_⟩
   cases b with
   |true =>
    refine j8 ?_
    refine⟨s2,⟨_,_,rfl⟩,λj h=>?_⟩
    by_cases cc:j<i
    ·exact hok j cc
    ·have:j=i:=by lia
     subst this
     exact bit j hb
   |false =>
    refine eT ?_
    refine⟨_,rfl,a,dx,_,rfl,o2.at_,cq (.inl (.inl rfl)),_,rfl,_,_,rfl,(by show 2<=Hr;decide),λq hq=>?_⟩
    have e:(HS S.pts.length).find? (λi=>!((lW S).getD i false))=some i:=WL.j0 hil (by rw[zc (by rw[<-hmk];exact hb)];rfl) hok
    rw[e]at k
    exact dN.some' k (s1.trans s2) q hq
  ·rintro σ H' ⟨hS,⟨v1,v2,rfl⟩,hok⟩
   have e:(HS S.pts.length).find? (λi=>!((lW S).getD i false))=none:=WL.jz λj hj=>hok j (by rw[lmp,hRl];exact hj)
   rw[e]at k
   exact k H' (s1.trans hS)
def BK (C:Hm):Sp:=λvs H Q _=>∃(a N:Hm) (as:List Hm) (S:Gla.Plan),vs=[.ref a,.ref N]/\bC C H a S/\SB S/\4<=S.pts.length/\zY S/\RW H N as S.near/\as.length=S.pts.length/\dN (jN 10 lx ((HS S.pts.length).find? (Gla.cuts S.nears S.pts.length))) H Q
theorem yx:aw ["drawing","neighbours","k","start"] ["drawing","neighbours"] (ag cS):=fsk
theorem wA {l:List Bool}:false∈l↔0<l.count false:=by rw[List.count_pos_iff]
theorem Au {S:Gla.Plan}{i:Nat}{Rl:List Bool}(h1:Rl[i]? = some false)(h2:mkS (some i) Rl=(K8 S.nears S.pts.length (if i=0 then 1 else 0) (fZ (some i) S.pts.length)).toList):Gla.cuts S.nears S.pts.length i=decide (1<(Rl.count false:Nat)):=by
 have e:Gla.cuts S.nears S.pts.length i=(K8 S.nears S.pts.length (if i=0 then 1 else 0) (fZ (some i) S.pts.length)).contains false:=rfl
 rw[e,Ip,Array.contains_iff_mem,<-Array.mem_toList_iff,<-h2,wA,Hv]
 have h3:=WL.jJ h1
 have h4:(mkS (some i) Rl).count false=(Rl.set i true).count false:=rfl
 lia
theorem Ct (F:Has K mg "fault_of_narrows" cS ["drawing","neighbours"]) (T:DCl K mg C) (gr:mg "range"=none) (gl:mg "len"=none) (C1:Cm P w K mg base 1 C "place_of_point" ["self","k"] rN) (C2:Cb P w K mg base 1 "reached_from" ["start","neighbours","left_out"] Aq) :
  Cb P w K mg base 2 "fault_of_narrows" ["drawing","neighbours"] (BK C):=by
 refine F.cb yx (λvs H Q E h=>?_) (λ_ _ A _ s H vs Q E hr h=>?_)
 ·obtain⟨a,N,as,S,rfl,_⟩:=h
  rfl
 ·obtain⟨a,N,as,S,rfl,hd,sb,h4,hns,hrw,hlen,k⟩:=h
  obtain⟨dx,p,l,m,ps,ls,ms,o⟩:=hd.op (K:=K)
  have np:=sb.np
  refine⟨_,ac (bf HJ rfl (qj rfl gr (aa (aY aR (by rfl) gl IB (aa (pv 1) ad)) ad)) (au (i:=2) yx.nd rfl (.inl rfl))
    (ac (aC (i:=3) yx.nd rfl (.inl rfl) (yn (aM l6 (pv 2) ah (aL _)) ah ah))
    (af (a8 (aM eD (kP IE PySem.F.slot_list_count PySem.F.type_list_count xk (aJ C2 hr (aa (pv 3) (aa (pv 1) (aa (pv 2) ad)))) (aa eC ad)) ah (aL _))
     (af (aq (bn (aa ah (aa (ij (pv 0) T.cl C1 hr (aa (pv 2) ad)) ad))))) aN))))
   (af (aq bb)),?_⟩
  refine⟨_,rfl,N,_,rfl,.inl (SqL.of hrw.1),_,rfl,by lia,by rw[lmp];lia,?_⟩
  rw[lmp,hlen,IV]
  refine jK (λi σ H'=>ak H H'/\(∃v1 v2,σ=[some (.ref a),some (.ref N),v1,v2])/\∀j,j<i->Gla.cuts S.nears S.pts.length j=false)
   ⟨ak.refl H,⟨none,none,rfl⟩,λj h=>absurd h (IM _)⟩ ?_ ?_
  ·rintro i σ H' hil ⟨hS,⟨v1,v2,rfl⟩,hok⟩
   rw[Int.zero_add]
   have body:∀st:Nat,st=(if i=0 then 1 else 0)->ud (fB (tOp (rI0 λi j=>.bl (decide (j<i))) (tBM K "list" (wj K) (jR Aq [] E0 (br (a4 3) (br (a4 1) (br (a4 2) fI)))) (br (tC (.bl false)) fI)) (tC (.int 1))))
     (m5 (wO (br (tC (.int 10)) (br (kS C "place_of_point" rN [] E0 (a4 0) (br (a4 2) fI)) fI)))) oG
     { nx:=λσ H'=>ak H H'/\(∃v1 v2,σ=[some (.ref a),some (.ref N),v1,v2])/\∀j,j<i+1->Gla.cuts S.nears S.pts.length j=false,rt:=Q,bk:=λσ H'=>Q .non H',ct:=λσ H'=>ak H H'/\(∃v1 v2,σ=[some (.ref a),some (.ref N),v1,v2])/\∀j,j<i+1->Gla.cuts S.nears S.pts.length j=false }
     [some (.ref a),some (.ref N),some (.int (i:Int)),some (.int (st:Int))] H':=λst est=>by
    refine⟨_,rfl,_,rfl,_,rfl,st,N,as,S.near,some i,S.pts.length,rfl,hrw.same hS,hlen,np,?_,?_,?_,hns,λH1 R Rl s1 hR hRl hlo hmk=>?_⟩
    ·rw[est];split<;>lia
    ·intro z
     have z:=osi z
     rw[est]at z
     split at z<;>lia
    ·intro q z
     have z:=osi z
     lia
    rw[est]at hmk
    have ec:=Au (hlo i rfl) hmk
    have s2:=hS.trans s1
    have o2:=o.same s2
    refine⟨.inl ⟨rfl,_,SqL.of hR⟩,R,Rl,false,rfl,rfl,SqL.of hR,_,_,rfl,rfl,_,rfl,aV (λc=>?_) (λc=>?_)⟩
    ·have c:=Hk c
     refine⟨_,rfl,a,dx,_,rfl,o2.at_,cq (.inl (.inl rfl)),_,rfl,_,_,rfl,(by show 2<=Hr;decide),λq hq=>?_⟩
     have e:(HS S.pts.length).find? (Gla.cuts S.nears S.pts.length)=some i:=WL.j0 hil (by rw[ec];exact dqt (by lia)) hok
     rw[e]at k
     exact dN.some' k s2 q hq
    ·have c:=aK c
     refine⟨s2,⟨_,_,rfl⟩,λj h=>?_⟩
     by_cases cc:j<i
     ·exact hok j cc
     ·have:j=i:=by lia
      subst this
      rw[ec]
      exact dqf (by lia)
   refine⟨_,rfl,rfl,_,rfl,aV (λc=>?_) (λc=>?_)⟩
   ·have c:=V.int.inj (Hk c)
    refine body 1 ?_
    rw[Hz (by lia)]
   ·have c:¬i=0:=λz=>c (dqt (by rw[z];rfl))
    refine body 0 ?_
    rw[Hs c]
  ·rintro σ H' ⟨hS,⟨v1,v2,rfl⟩,hok⟩
   have e:(HS S.pts.length).find? (Gla.cuts S.nears S.pts.length)=none:=WL.jz λj hj=>hok j hj
   rw[e]at k
   exact k H' hS
def tV (S:Gla.Plan)(z:Pt):Bool:=(decide (0<z.x)&&decide (z.x<S.w))&&(decide (0<z.y)&&decide (z.y<S.h))
theorem yY (S:Gla.Plan)(z:Pt):Gla.clear S z=(tV S z&&!Gla.onLines S z):=by
 unfold Gla.clear tV
 rw[Bool.and_assoc,Bool.and_assoc,Bool.and_assoc]
def FD (K:IN)(C:Hm):Sp:=λvs H Q _=>∃(a b:Hm) (S:Gla.Plan) (z:Pt),vs=[.ref a,.ref b]/\bC C H a S/\cR K H b z/\Q (.bl (tV S z)) H
theorem GL:aw ["drawing","mark"] ["drawing","mark"] (ag dl):=fsk
theorem Fb (F:Has K mg "is_within_frame" dl ["drawing","mark"]) (T:DCl K mg C):Cb P w K mg base 1 "is_within_frame" ["drawing","mark"] (FD K C):=by
 refine F.cb GL (λvs H Q E h=>?_) (λ_ _ A _ s H vs Q E hr h=>?_)
 ·obtain⟨a,b,S,z,rfl,_⟩:=h
  rfl
 ·obtain⟨a,b,S,z,rfl,hd,⟨⟨rz,hz⟩,_⟩,k⟩:=h
  obtain⟨dx,p,l,m,ps,ls,ms,o⟩:=hd.op (K:=K)
  refine⟨_,af (aq (jV (kX fM fM ah (aB aF (pv 1) ah (λ_ _=>rfl)) (aS (pv 0) rfl)) (fF (kX fM fM ah (aB aF (pv 1) ah (λ_ _=>rfl)) (aS (pv 0) rfl))))),?_⟩
  have no:¬((0<z.x/\z.x<S.w)/\(0<z.y/\z.y<S.h))->Q (.bl false) H:=λq=>by
   have e:tV S z=false:=cN λy=>q (by unfold tV at y;simp only[Hu,Hv]at y;exact y)
   rw[e]at k
   exact k
  refine⟨_,rfl,b,_,_,_,rfl,rfl,hz,aE (j:=0) rfl rfl,_,_,rfl,rfl,_,rfl,aV (λc1=>?_) (λc1=>?_)⟩
  ·have c1:=Hk c1
   refine⟨_,rfl,a,C,dx,_,_,rfl,o.at_,T.cl,T.nW,Do,_,_,rfl,rfl,_,rfl,aV (λc2=>?_) (λc2=>?_)⟩
   ·have c2:=Hk c2
    refine⟨_,rfl,b,_,_,_,rfl,rfl,hz,aE (j:=1) rfl rfl,_,_,rfl,rfl,_,rfl,aV (λc3=>?_) (λc3=>?_)⟩
    ·have c3:=Hk c3
     refine⟨_,rfl,a,C,dx,_,_,rfl,o.at_,T.cl,T.nH,Di,_,_,rfl,rfl,?_⟩
     have e:tV S z=decide ((z.y:Int)<(S.h:Int)):=by
      unfold tV
      rw[dqt (by lia:0<z.x),dqt (by lia:z.x<S.w),dqt (by lia:0<z.y),Jn,Jn,Jn,HK]
      lia
     rw[e]at k
     exact k
    ·have c3:=aK c3
     exact no (by lia)
   ·have c2:=aK c2
    exact no (by lia)
  ·have c1:=aK c1
   exact⟨_,rfl,j8 (no (by lia))⟩
def E9 (K:IN)(C:Hm):Sp:=λvs H Q _=>∃(a b:Hm) (S:Gla.Plan) (z:Pt),vs=[.ref a,.ref b]/\bC C H a S/\SB S/\gG S/\cR K H b z/\Q (.bl (Gla.onLines S z)) H
theorem FF:aw ["drawing","mark","line"] ["drawing","mark"] (ag dq):=fsk
theorem El (F:Has K mg "is_on_some_line" dq ["drawing","mark"]) (T:DCl K mg C) (C1:Cb P w K mg base 2 "is_on" ["p","q","r"] (Cf K)):Cb P w K mg base 3 "is_on_some_line" ["drawing","mark"] (E9 K C):=by
 refine F.cb FF (λvs H Q E h=>?_) (λ_ _ A _ s H vs Q E hr h=>?_)
 ·obtain⟨a,b,S,z,rfl,_⟩:=h
  rfl
 ·obtain⟨a,b,S,z,rfl,hd,sb,hlo,hz,k⟩:=h
  obtain⟨dx,p,l,m,ps,ls,ms,o⟩:=hd.op (K:=K)
  refine⟨_,ac (bf HJ rfl (bF (aS (pv 0) rfl)) (au (i:=2) FF.nd rfl (.inl rfl))
    (af (a8 (dc (aJ C1 hr (aa (aB aU (aS (pv 0) rfl) (aB aF (pv 2) ah (λ_ _=>rfl)) (λ_ _=>rfl)) (aa (aB aU (aS (pv 0) rfl) (aB aF (pv 2) ah (λ_ _=>rfl)) (λ_ _=>rfl)) (aa (pv 1) ad))))) (af (aq eC)) aN)))
   (af (aq eC)),?_⟩
  refine⟨_,rfl,a,C,dx,_,_,rfl,o.at_,T.cl,T.nL,rJ,l,rfl,⟨_,SqL.of o.ll⟩,dr (K:=K) (a:=l) (xs:=ls.map V.ref) (λi σ H'=>H'=H/\(∃v,σ=[some (.ref a),some (.ref b),v])/\∀j (hj:j<S.lines.length),j<i->Gla.isOn (S.pt S.lines[j].1) (S.pt S.lines[j].2) z=false)
   ⟨rfl,⟨none,rfl⟩,λj hj h=>absurd h (IM _)⟩ (λi σ H' _ h=>by rw[h.1];exact SqL.of o.ll) ?_ ?_⟩
  ·rintro t y σ H' hi ⟨rfl,⟨v,rfl⟩,hno⟩
   obtain⟨c,hc,rfl⟩:=bR hi
   have ht:t<S.lines.length:=by rw[<-o.ln];exact(gsi hc).1
   obtain⟨x1,x2⟩:=hlo _ (HP ht)
   have hx:SqT K H' c (iV [(S.lines[t].1:Int),(S.lines[t].2:Int)]):=o.lnAt ht hc
   obtain⟨b1,hb1⟩:=o.hasP (i:=S.lines[t].1) (by lia)
   obtain⟨b2,hb2⟩:=o.hasP (i:=S.lines[t].2) (by lia)
   refine⟨_,rfl,a,C,dx,_,_,rfl,o.at_,T.cl,T.nP,i7,_,rfl,c,_,_,_,rfl,rfl,hx,aE (j:=0) rfl rfl,p,_,_,_,rfl,rfl,SqL.of o.pl,aE (j:=S.lines[t].1) rfl (aO hb1),_,rfl,a,C,dx,_,_,rfl,o.at_,T.cl,T.nP,i7,_,rfl,c,_,_,_,rfl,rfl,hx,aE (j:=1) rfl rfl,p,_,_,_,rfl,rfl,SqL.of o.pl,aE (j:=S.lines[t].2) rfl (aO hb2),_,rfl,b1,b2,b,_,_,_,rfl,o.ptAt sb hb1,o.ptAt sb hb2,hz,_,rfl,aV (λc1=>?_) (λc1=>?_)⟩
   ·show Q (.bl true) H'
    have e:Gla.onLines S z=true:=by
     unfold Gla.onLines
     rw[Jt]
     exact⟨_,HP ht,c1⟩
    rw[e]at k
    exact k
   ·refine⟨rfl,⟨_,rfl⟩,λj hj h=>?_⟩
    by_cases d:j<t
    ·exact hno j hj d
    ·have:j=t:=by lia
     subst this
     exact cN c1
  ·rintro σ H' ⟨rfl,⟨v,rfl⟩,hno⟩
   have e:Gla.onLines S z=false:=by
    unfold Gla.onLines
    rw[KB]
    intro x hx q
    obtain⟨j,hj,rfl⟩:=Ib hx
    rw[hno j hj (by rw[lmp,o.ln];exact hj)]at q
    exact absurd q (by decide)
   rw[e]at k
   exact k
def oX (S:Gla.Plan)(i:Nat):Int:=20+8*(S.pts.length:Int)+4*(S.lines.length:Int)+12*(i:Int)
def BN (C:Hm):Sp:=λvs H Q _=>∃(a:Hm) (S:Gla.Plan),vs=[.ref a]/\bC C H a S/\SB S/\gG S/\dN (jN 11 (oX S) (IS (Kn S) JG S.marks)) H Q
theorem vU:aw ["drawing","k","mark","misplaced"] ["drawing"] (ag dQ):=fsk
theorem Op.hasM {H:Hp}{a dx p l m:Hm}{S:Gla.Plan}{ps ls ms:List Hm}(o:Op K C H a dx p l m S ps ls ms){i:Nat}(hi:i<S.marks.length):∃b,ms[i]? = some b:=⟨_,gge (by rw[o.mn];exact hi)⟩
theorem Cq (F:Has K mg "fault_of_marks" dQ ["drawing"]) (T:DCl K mg C) (ge:mg "enumerate"=none) (C1:Cm P w K mg base 3 C "place_of_mark" ["self","k"] (yJ C)) (C2:Cb P w K mg base 1 "comes_behind" ["q","p"] (xV K)) (C3:Cb P w K mg base 1 "is_within_frame" ["drawing","mark"] (FD K C)) (C4:Cb P w K mg base 3 "is_on_some_line" ["drawing","mark"] (E9 K C)) :
  Cb P w K mg base 4 "fault_of_marks" ["drawing"] (BN C):=by
 refine F.cb vU (λvs H Q E h=>?_) (λ_ _ A _ s H vs Q E hr h=>?_)
 ·obtain⟨a,S,rfl,_⟩:=h
  rfl
 ·obtain⟨a,S,rfl,hd,sb,hlo,k⟩:=h
  obtain⟨dx,p,l,m,ps,ls,ms,o⟩:=hd.op (K:=K)
  have hr1:bA 1 _:=hr.mono (by decide)
  refine⟨_,ac (bf HJ rfl (dG rfl ge (aa (aS (pv 0) rfl) ad)) (cC (n:=2) rfl (aH (au (i:=1) vU.nd rfl (.inl rfl)) (aH (au (i:=2) vU.nd rfl (.inl rfl)) bL)))
    (ac (aC (i:=3) vU.nd rfl (.inl rfl) (tR (zF (aJ C3 hr1 (aa (pv 0) (aa (pv 2) ad)))) (fF (aJ C4 hr (aa (pv 0) (aa (pv 2) ad))))))
    (af (a8 (oz (dc (pv 3)) (ka (jq (aM eD (pv 1) ah (aL _)) (gy (jZ (dc (aJ C2 hr1 (aa (pv 2) (aa (aB aU (aS (pv 0) rfl) (aW eh (pv 1) ah) (λ_ _=>rfl)) ad))))))).pt)).pt
     (af (aq (bn (aa ah (aa (ij (pv 0) T.cl C1 hr (aa (pv 1) ad)) ad))))) aN))))
   (af (aq bb)),?_⟩
  refine⟨_,rfl,a,C,dx,_,_,rfl,o.at_,T.cl,T.nM,xb,m,_,rfl,SqL.of o.ml,cU (K:=K) (a:=m) (xs:=ms.map V.ref) (λi σ H'=>ak H H'/\(∃v1 v2 v3,σ=[some (.ref a),v1,v2,v3])/\∀j (hj:j<S.marks.length),j<i->WL.cv (Kn S) JG S.marks j S.marks[j]=false)
   ⟨ak.refl H,⟨none,none,none,rfl⟩,λj hj h=>absurd h (IM _)⟩ (λi σ H' _ h=>SqL.of (h.1 _ _ o.ml)) ?_ ?_⟩
  ·rintro i y T' σ H' hi hT ⟨hS,⟨v1,v2,v3,rfl⟩,hok⟩
   obtain⟨b,hb,rfl⟩:=bR hi
   have hil:i<S.marks.length:=by rw[<-o.mn];exact(gsi hb).1
   have s2:ak H (upd H' T' (.tup [.int (i:Nat),.ref b])):=aX hS hT
   refine⟨T',_,rfl,SqT.of ae,rfl,_,_,rfl,_,_,rfl,rfl,?_⟩
   generalize upd H' T' (.tup [.int (i:Nat),.ref b])=H2 at s2
   have o2:=o.same s2
   have hpt:cR K H2 b S.marks[i].at_:=o2.mkAt sb hb (gge hil)
   have bad:WL.cv (Kn S) JG S.marks i S.marks[i]=true->∀H3,ak H H3->∀q,H3 q=none->Q (.ref q) (upd H3 q (.tup [.int 11,.int (oX S i)])):=λz H3 s3 q hq=>by
    have e:IS (Kn S) JG S.marks=some i:=by
     rw[WL.eu]
     exact WL.eS hil z λj hj=>hok j (by lia) hj
    rw[e]at k
    exact dN.some' k s3 q hq
   have next:WL.cv (Kn S) JG S.marks i S.marks[i]=false->∀j (hj:j<S.marks.length),j<i+1->WL.cv (Kn S) JG S.marks j S.marks[j]=false:=λz j hj h=>by
    by_cases c:j<i
    ·exact hok j hj c
    ·have:j=i:=by lia
     subst this
     exact z
   have cont:∀(t:Bool),t=(!Gla.markOk S S.marks[i])->ud (tOr (tB (a4 3)) (As (fB (tOp (rI0 λi j=>.bl (decide (j<i))) (a4 1) (tC (.int 0)))) (Ds (tB (jR (xV K) [] E0 (br (a4 2) (br (tOp (sT K) (zM K (a4 0) "marks") (tOp (rI0 λi j=>.int (i-j)) (a4 1) (tC (.int 1)))) fI)))))))
     (m5 (wO (br (tC (.int 11)) (br (kS C "place_of_mark" (yJ C) [] E0 (a4 0) (br (a4 1) fI)) fI)))) oG
     { nx:=λσ H'=>ak H H'/\(∃v1 v2 v3,σ=[some (.ref a),v1,v2,v3])/\∀j (hj:j<S.marks.length),j<i+1->WL.cv (Kn S) JG S.marks j S.marks[j]=false,rt:=Q,bk:=λσ H'=>Q .non H',ct:=λσ H'=>ak H H'/\(∃v1 v2 v3,σ=[some (.ref a),v1,v2,v3])/\∀j (hj:j<S.marks.length),j<i+1->WL.cv (Kn S) JG S.marks j S.marks[j]=false }
     [some (.ref a),some (.int (i:Nat)),some (.ref b),some (.bl t)] H2:=λt et=>by
    refine⟨_,rfl,_,rfl,aV (λc1=>?_) (λc1=>?_)⟩
    ·refine eT ?_
     refine⟨_,rfl,a,dx,_,rfl,o2.at_,cq (.inr (.inl rfl)),_,rfl,a,S,_,rfl,o2.draw,(by show 2<=Hr;decide),λq hq=>?_⟩
     refine bad ?_ H2 s2 q hq
     unfold WL.cv
     rw[<-et,c1,LF]
    ·have okt:(!Gla.markOk S S.marks[i])=false:=by rw[<-et];exact cN c1
     refine⟨_,rfl,_,_,rfl,rfl,_,rfl,aV (λc2=>?_) (λc2=>?_)⟩
     ·have c2:(0:Int)<((i:Nat):Int):=Hk c2
      obtain⟨i',rfl⟩:∃i',i=i'+1:=⟨i-1,by lia⟩
      obtain⟨b',hb'⟩:=o2.hasM (i:=i') (by lia)
      have hpt':cR K H2 b' S.marks[i'].at_:=o2.mkAt sb hb' (gge (by lia))
      refine⟨_,rfl,_,rfl,a,C,dx,_,_,rfl,o2.at_,T.cl,T.nM,xb,_,rfl,_,_,rfl,rfl,m,_,_,_,rfl,rfl,SqL.of o2.ml,aE (j:=i') (by lia) (aO hb'),b,b',_,_,rfl,hpt,hpt',λH3 s3=>?_⟩
      have hbe:WL.cv (Kn S) JG S.marks (i'+1) S.marks[i'+1]=!(S.marks[i'].at_.below S.marks[i'+1].at_):=by
       rw[WL.jY (by lia),okt,Bool.false_or]
       rfl
      refine⟨_,rfl,?_⟩
      cases hc:S.marks[i'].at_.below S.marks[i'+1].at_ with
      |true =>
       refine j8 ?_
       exact⟨s2.trans s3,⟨_,_,_,rfl⟩,next (by rw[hbe,hc];rfl)⟩
      |false =>
       refine eT ?_
       refine⟨_,rfl,a,dx,_,rfl,(o2.same s3).at_,cq (.inr (.inl rfl)),_,rfl,a,S,_,rfl,(o2.same s3).draw,(by show 2<=Hr;decide),λq hq=>?_⟩
       exact bad (by rw[hbe,hc];rfl) H3 (s2.trans s3) q hq
     ·have c2:=aK c2
      have i0:i=0:=by lia
      subst i0
      exact⟨s2,⟨_,_,_,rfl⟩,next (by rw[WL.jX];exact okt)⟩
   have ec:(!Gla.markOk S S.marks[i])=(!tV S S.marks[i].at_||Gla.onLines S S.marks[i].at_):=by
    unfold Kn
    rw[yY,Bool.not_and,Bool.not_not]
   refine⟨_,rfl,_,rfl,a,b,S,_,rfl,o2.draw,hpt,_,rfl,_,rfl,aV (λc1=>?_) (λc1=>?_)⟩
   ·refine cont true ?_
    rw[ec,c1,LF]
   ·refine⟨_,rfl,_,rfl,a,b,S,_,rfl,o2.draw,sb,hlo,hpt,?_⟩
    refine cont _ ?_
    rw[ec,cN c1,Bool.false_or]
  ·rintro σ H' ⟨hS,⟨v1,v2,v3,rfl⟩,hok⟩
   have e:IS (Kn S) JG S.marks=none:=by
    rw[WL.eu]
    refine WL.d4 λj hj=>hok j hj ?_
    rw[lmp,o.mn]
    exact hj
   rw[e]at k
   exact k H' hS
def lk (x:Nat×Nat):List L2.Key:=[Sum.inl (x.1:Int),Sum.inl (x.2:Int)]
theorem ly {x y:Nat×Nat}(h:lk x=lk y):x=y:=by
 have h1:=List.cons.inj h
 have h2:=List.cons.inj h1.2
 have e1:=Sum.inl.inj h1.1
 have e2:=Sum.inl.inj h2.1
 exact Lg (by lia) (by lia)
def LD (kvs:List (List L2.Key×V))(L:List (Nat×Nat)):Prop:=∀x:Nat×Nat,(dL kvs (lk x)).isSome=decide (x∈L)
theorem LD.put {kvs:List (List L2.Key×V)}{L:List (Nat×Nat)}(h:LD kvs L)(x:Nat×Nat)(v:V):LD (gq kvs (lk x) v) (L++[x]):=λy=>by
 rw[zH]
 by_cases e:lk y=lk x
 ·rw[Hz e,ly e]
  exact(dqt (by simp)).symm
 ·rw[Hs e,h y,HK,HU,Kx]
  constructor
  ·exact .inl
  ·rintro(q|q)
   ·exact q
   ·exact absurd (by rw[q]) e
def fh (L:List (Nat×Nat))(es:List Nat):Bool:=(es.zip (es.drop 1)).all λx=>decide (x∈L)
theorem uq {L:List (Nat×Nat)}{es:List Nat}{t:Nat}(h:t+1<es.length)(hx:(es[t],es[t+1])∉L):fh L es=false:=by
 unfold fh
 rw[List.all_eq_false]
 refine⟨(es[t],es[t+1]),?_,by rw[dqf hx];decide⟩
 rw[Ky]
 refine⟨t,by rw[JU,Il];lia,?_⟩
 rw[KN,KF]
 congr 2
 lia
theorem tM {L:List (Nat×Nat)}{es:List Nat}(h:∀t (ht:t+1<es.length),(es[t],es[t+1])∈L):fh L es=true:=by
 unfold fh
 rw[IL]
 intro x hx
 obtain⟨t,ht,rfl⟩:=Ib hx
 rw[JU,Il]at ht
 rw[KN,KF]
 have:=h t (by lia)
 refine dqt ?_
 have e:1+t=t+1:=by lia
 simp only[e]
 exact this
def FB:Sp:=λvs H Q _=>∃(n d:Hm) (es:List Nat) (kvs:List (List L2.Key×V)) (L:List (Nat×Nat)),vs=[.ref n,.ref d]/\H n=some (.lst (iV (nI es)))/\H d=some (.dT kvs)/\LD kvs L/\es.length<=100000/\∀H':Hp,ak H H'->Q (.bl (fh L es)) H'
theorem EZ:aw ["numbers","lines","k"] ["numbers","lines"] (ag b6):=fsk
theorem lq {l:List Nat}{i:Nat}(h:i<l.length):(iV (nI l))[i]? = some (.int (l[i]:Int)):=by
 unfold iV nI
 rw[Hw,Hw,gge h]
 rfl
theorem EG (F:Has K mg "are_joined_in_a_row" b6 ["numbers","lines"]) (gr:mg "range"=none) (gl:mg "len"=none):Cb P w K mg base 1 "are_joined_in_a_row" ["numbers","lines"] FB:=by
 refine F.cb EZ (λvs H Q E h=>?_) (λ_ _ A _ s H vs Q E hr h=>?_)
 ·obtain⟨n,d,es,kvs,L,rfl,_⟩:=h
  rfl
 ·obtain⟨n,d,es,kvs,L,rfl,hn,hd,hL,hlen,k⟩:=h
  have hu:=hr.units
  refine⟨_,ac (bf HJ rfl (qp rfl gr (aa ah (aa (aY aR (by rfl) gl IB (aa (pv 0) ad)) ad))) (au (i:=2) EZ.nd rfl (.inl rfl))
    (af (a8 (ua (qr (Iu (Ju (by decide) _) hu) (bn (aa (aB aU (pv 0) (aW eh (pv 2) ah) (λ_ _=>rfl)) (aa (aB aU (pv 0) (pv 2) (λ_ _=>rfl)) ad))) (pv 1))) (af (aq eC)) aN)))
   (af (aq eC)),?_⟩
  refine⟨_,rfl,n,_,rfl,.inl (SqL.of hn),_,_,rfl,?_,?_⟩
  ·rw[bS]
   lia
  rw[bS]
  refine jK (λt σ H'=>ak H H'/\(∃v,σ=[some (.ref n),some (.ref d),v])/\∀j (hj:j+1<es.length),j<t->(es[j],es[j+1])∈L)
   ⟨ak.refl H,⟨none,rfl⟩,λj hj h=>absurd h (IM _)⟩ ?_ ?_
  ·rintro t σ H' ht ⟨hS,⟨v,rfl⟩,hok⟩
   have et:((1:Int)+(t:Int))=((t+1:Nat):Int):=by lia
   rw[et]
   have htl:t+1<es.length:=by lia
   have hn':=hS _ _ hn
   refine⟨_,rfl,_,rfl,_,_,rfl,rfl,n,_,_,_,rfl,rfl,SqL.of hn',aE (j:=t) (by lia) (lq (by lia)),_,rfl,_,rfl,n,_,_,_,rfl,rfl,SqL.of hn',aE (j:=t+1) rfl (lq htl),(by show 2<=Hr;decide),λq hq=>?_⟩
   have s2:ak H (upd H' q (.tup [.int (es[t]:Int),.int (es[t+1]:Int)])):=aX hS hq
   refine⟨_,rfl,d,_,rfl,jM.t (k:=lk (es[t],es[t+1])) (s2 _ _ hd) ae,_,rfl,?_⟩
   rw[hL]
   refine aV (λc=>?_) (λc=>?_)
   ·have c:(es[t],es[t+1])∉L:=λz=>by
     rw[dqt z]at c
     exact absurd c (by decide)
    rw[uq htl c]at k
    exact k _ s2
   ·have c:(es[t],es[t+1])∈L:=bcn λz=>c (by rw[dqf z];rfl)
    refine⟨s2,⟨_,rfl⟩,λj hj h=>?_⟩
    by_cases e:j<t
    ·exact hok j hj e
    ·have:j=t:=by lia
     subst this
     exact c
  ·rintro σ H' ⟨hS,⟨v,rfl⟩,hok⟩
   rw[tM λt ht=>hok t ht (by lia)]at k
   exact k H' hS
def dW (S:Gla.Plan)(on:Pt->Bool)(t:Nat):List Nat:=(HS t).filter λi=>on (S.pt i)
theorem mz (S:Gla.Plan)(on:Pt->Bool)(t:Nat):dW S on (t+1)=if on (S.pt t)=true then dW S on t++[t] else dW S on t:=by
 unfold dW
 rw[Ki,List.filter_append]
 split
 ·rename_i h
  rw[KL (p:=λi=>on (S.pt i)) h]
  rfl
 ·rename_i h
  rw[KM (p:=λi=>on (S.pt i)) h]
  exact Iq _
theorem mZ (S:Gla.Plan)(on:Pt->Bool)(t:Nat):(dW S on t).length<=t:=by
 refine Ik (JA _ _) ?_
 rw[IX]
 exact nlr _
theorem uh (S:Gla.Plan)(on:Pt->Bool):Gla.chained S (Gla.edgePts S on)=fh S.lines (dW S on S.pts.length):=by
 have e:Gla.edgePts S on=dW S on S.pts.length:=rfl
 rw[e]
 have pw:(dW S on S.pts.length).Pairwise (· < ·):=List.Pairwise.filter _ List.pairwise_lt_range
 generalize dW S on S.pts.length=es at pw
 have hlt:∀t (ht:t+1<es.length),es[t]<es[t+1]:=λt ht=>HQ.1 pw t (t+1) (by lia) ht (by lia)
 unfold Gla.chained fh
 rw[Ip,IL,IL]
 have key:∀x∈es.zip (es.drop 1),S.joined x.1 x.2=decide (x∈S.lines):=by
  intro x hx
  obtain⟨t,ht,rfl⟩:=Ib hx
  rw[JU,Il]at ht
  have h1:=hlt t (by lia)
  rw[KN,KF]
  have e:1+t=t+1:=by lia
  simp only[e]
  unfold Gla.Plan.joined
  simp only[Ia (Ka h1),IG (Ka h1)]
  rw[Ip,JT,Hv]
 constructor
 ·intro h x hx
  rw[<-key x hx]
  exact h x hx
 ·intro h x hx
  rw[key x hx]
  exact h x hx
structure yR (H:Hp)(n:Hm)(ts ps:List Hm):Prop where
 at_:H n=some (.lst (ts.map V.ref))
 ln:ts.length=ps.length
 row:∀(i:Nat) (t b:Hm),ts[i]? = some t->ps[i]? = some b->H t=some (.tup [.int (i:Nat),.ref b])
theorem yR.same {H H':Hp}{n:Hm}{ts ps:List Hm}(h:yR H n ts ps)(s:ak H H'):yR H' n ts ps:=⟨s _ _ h.at_,h.ln,λi t b e1 e2=>s _ _ (h.row i t b e1 e2)⟩
theorem mR {H:Hp}{n D a dx p l m:Hm}{S:Gla.Plan}{ts ps ls ms:List Hm}{s0 s1 s2 s3 s4 s5 s6 s7 s8 s9 s10 s11 s12 s13:Option V}{Qd:Hp->Prop}(c:Nat)(pick:Pt->Int)(hpick:∀q:Pt,(gf q)[c]? = some (pick q))(on:Pt->Bool)(z:Int)(hon:∀q,on q=decide (pick q=z))(tz:TE)
  (htz:∀(v12 v13:Option V) (H:Hp) (Q:VK),Q (.int z) H->tz [s0,s1,s2,s3,s4,s5,s6,s7,s8,s9,s10,s11,v12,v13] H Q)
  (o:Op K C H a dx p l m S ps ls ms) (nl:yR H n ts ps) (hn:S.pts.length<=100000) (hD:H D=none) (hQ:∀H',ak H H'->H' D=some (.lst (iV (nI (dW S on S.pts.length))))->Qd H') :
  ∃W:Nat->Nat->Hp->Prop,(∃m,W 0 m (upd H D (.lst [])))/\∀i m H,W i m H ->
   ((Itl K n).stop i H/\Qd H)\/((Itl K n).go i H/\∃Nx:Hp->Prop,(∀H',Nx H'->∃m',m'<m/\W (i+1) m' H')/\∀x H',(Itl K n).yld i H x H'->g2 K 12 13 x (b7 [s0,s1,s2,s3,s4,s5,s6,s7,s8,s9,s10,s11,s12,s13] [12,13]) H' λσ2 H2=>b7 σ2 [12,13]=b7 [s0,s1,s2,s3,s4,s5,s6,s7,s8,s9,s10,s11,s12,s13] [12,13]/\fB (tOp rEq (tOp (nS K) (a4 13) (tC (.int (c:Int)))) tz) σ2 H2 λb H3 =>
    if b=true then a4 12 σ2 H3 λy H4=>∃acc,H4 D=some (.lst acc)/\acc.length<Hr/\Nx (upd H4 D (.lst (acc++[y]))) else Nx H3):=by
 refine fU (K:=K) (a:=n) (xs:=ts.map V.ref) (λi H'=>ak H H'/\H' D=some (.lst (iV (nI (dW S on i))))) ⟨aG hD,ae⟩ (λi H' _ h=>SqL.of (h.1 _ _ nl.at_)) ?_ ?_
 ·rintro i y H' hi ⟨hS,hDl⟩
  obtain⟨t,ht,rfl⟩:=bR hi
  have hil:i<ps.length:=by rw[<-nl.ln];exact(gsi ht).1
  have pn:=o.pn
  obtain⟨b,hb⟩:∃b,ps[i]? = some b:=⟨ps[i],gge _⟩
  have hrow:=(nl.same hS).row i t b ht hb
  have hpt:SqT K H' b (iV (gf (S.pt i))):=SqT.of ((o.same hS).pt i b hb)
  refine⟨t,_,rfl,SqT.of hrow,rfl,_,_,rfl,_,_,rfl,rfl,rfl,?_⟩
  refine⟨_,rfl,b,_,_,_,rfl,rfl,hpt,aE (j:=c) rfl (v:=.int (pick (S.pt i))) ?_,htz _ _ _ _ ⟨rfl,_,rfl,?_⟩⟩
  ·unfold iV
   rw[Hw,hpick]
   rfl
  have eon:decide (V.int (pick (S.pt i))=V.int z)=on (S.pt i):=by
   rw[hon,HK]
   exact⟨V.int.inj,λq=>by rw[q]⟩
  rw[eon]
  refine aV (λcc=>?_) (λcc=>?_)
  ·refine⟨_,rfl,_,hDl,?_,aQ hS hD,?_⟩
   ·rw[bS]
    have:=mZ S on i
    exact a6 (by lia)
   ·rw[ae,mz,Hz cc,gO]
  ·refine⟨hS,?_⟩
   rw[mz,Hs cc]
   exact hDl
 ·rintro H' ⟨hS,hDl⟩
  rw[lmp,nl.ln,o.pn]at hDl
  exact hQ H' hS hDl
def eI (S:Gla.Plan):List Pt:=[⟨0,0⟩,⟨S.w,0⟩,⟨0,S.h⟩,⟨S.w,S.h⟩]
def ons (S:Gla.Plan):List (Pt->Bool):=[λp=>p.y==0,λp=>p.y==S.h,λp=>p.x==0,λp=>p.x==S.w]
theorem lD (S:Gla.Plan):LA S=true↔(∀c∈eI S,c∈S.pts)/\∀on∈ons S,fh S.lines (dW S on S.pts.length)=true:=by
 unfold LA eI ons
 simp only[Hu,JT,uh,List.forall_mem_cons,List.not_mem_nil,false_imp_iff,implies_true,and_true,and_assoc]
def Ez (C:Hm):Sp:=λvs H Q _=>∃(a:Hm) (S:Gla.Plan),vs=[.ref a]/\bC C H a S/\SB S/\dN (if LA S=false then some (6,20) else none) H Q
theorem ie:aw ["drawing","width","height","corner","lines","line","numbered","bottom","top","left","right","edge","k","point"] ["drawing"] (ag bp):=fsk
theorem vP (S:Gla.Plan)(c:Pt):gf c∈S.pts.map gf↔c∈S.pts:=by
 rw[HM]
 constructor
 ·rintro⟨q,hq,e⟩
  have h1:=List.cons.inj e
  have h2:=List.cons.inj h1.2
  have:q=c:=by
   cases q
   cases c
   have e1:((_:Nat):Int)=_:=h1.1
   have e2:((_:Nat):Int)=_:=h2.1
   simp only[Gla.Pt.mk.injEq]
   exact⟨by exact_mod_cast e1,by exact_mod_cast e2⟩
  rw[<-this]
  exact hq
 ·exact λh=>⟨c,h,rfl⟩
theorem mT (a b:Nat):(a==b)=decide ((a:Int)=(b:Int)):=by
 rw[Ip,JW,Hv]
 lia
theorem DW (F:Has K mg "fault_of_frame" bp ["drawing"]) (T:DCl K mg C) (ge:mg "enumerate"=none) (gli:mg "list"=none) (C1:Cm P w K mg base 1 C "place_of_point" ["self","k"] rN) (C2:Cb P w K mg base 1 "are_joined_in_a_row" ["numbers","lines"] FB) :
  Cb P w K mg base 2 "fault_of_frame" ["drawing"] (Ez C):=by
 refine F.cb ie (λvs H Q E h=>?_) (λ_ _ A _ s H vs Q E hr h=>?_)
 ·obtain⟨a,S,rfl,_⟩:=h
  rfl
 ·obtain⟨a,S,rfl,hd,sb,k⟩:=h
  obtain⟨dx,p,l,m,ps,ls,ms,o⟩:=hd.op (K:=K)
  have hu:=hr.units
  have np:=sb.np
  have nl:=sb.nl
  refine⟨_,ac (aC (i:=1) ie.nd rfl (.inr rfl) (aS (pv 0) rfl)) (ac (aC (i:=2) ie.nd rfl (.inr rfl) (aS (pv 0) rfl))
   (ac (bf HJ rfl (uS (bn (aa (bn (aa ah (aa ah ad))) (aa (bn (aa (pv 1) (aa ah ad))) (aa (bn (aa ah (aa (pv 2) ad))) (aa (bn (aa (pv 1) (aa (pv 2) ad))) ad)))))) (au (i:=3) ie.nd rfl (.inl rfl))
    (af (a8 (aM (wN hu) (pv 3) (aS (pv 0) rfl) (by rfl)) (af (aq (bn (aa ah (aa (ij (pv 0) T.cl C1 hr (aa ah ad)) ad))))) aN)))
   (ac (aC (i:=4) ie.nd rfl (.inl rfl) kU)
   (ac (bf HJ rfl (bF (aS (pv 0) rfl)) (au (i:=5) ie.nd rfl (.inl rfl))
    (af (kG (Iu (Ju (by decide) _) hu) (pv 4) (pv 5) eC rfl)))
   (ac (aC (i:=6) ie.nd rfl (.inl rfl) (sS rfl rfl gli rfl ge (aa (aS (pv 0) rfl) ad)))
   (ac (b9 (i:=7) (own:=[("k",12),("point",13)]) (g:=g2 K 12 13) (tt:=fB (tOp rEq (tOp (nS K) (a4 13) (tC (.int 1))) (tC (.int 0)))) rfl ie.nd rfl rfl (dm rfl rfl rfl (by decide +kernel)) (bF (pv 6)) (bG (by show gR ["drawing","width","height","corner","lines","line","numbered","bottom","top","left","right","edge","k","point"] (ag bp) _ _=true;decide +kernel))
    (λ_ _ _ _ _=>cC (n:=2) rfl (aH (au (i:=12) ie.nd rfl (.inl rfl) (.inr rfl)) (aH (au (i:=13) ie.nd rfl (.inl rfl) (.inr rfl)) bL))) (λ_ _ _ _ _=>iZ (aM l6 (aB aF (pv 13) ah (λ_ _=>rfl)) ah (aL _))) (λ_ _ _ _ _=>pv 12))
   (ac (b9 (i:=8) (own:=[("k",12),("point",13)]) (g:=g2 K 12 13) (tt:=fB (tOp rEq (tOp (nS K) (a4 13) (tC (.int 1))) (a4 2))) rfl ie.nd rfl rfl (dm rfl rfl rfl (by decide +kernel)) (bF (pv 6)) (bG (by show gR ["drawing","width","height","corner","lines","line","numbered","bottom","top","left","right","edge","k","point"] (ag bp) _ _=true;decide +kernel))
    (λ_ _ _ _ _=>cC (n:=2) rfl (aH (au (i:=12) ie.nd rfl (.inl rfl) (.inr rfl)) (aH (au (i:=13) ie.nd rfl (.inl rfl) (.inr rfl)) bL))) (λ_ _ _ _ _=>iZ (aM l6 (aB aF (pv 13) ah (λ_ _=>rfl)) (pv 2) (aL _))) (λ_ _ _ _ _=>pv 12))
   (ac (b9 (i:=9) (own:=[("k",12),("point",13)]) (g:=g2 K 12 13) (tt:=fB (tOp rEq (tOp (nS K) (a4 13) (tC (.int 0))) (tC (.int 0)))) rfl ie.nd rfl rfl (dm rfl rfl rfl (by decide +kernel)) (bF (pv 6)) (bG (by show gR ["drawing","width","height","corner","lines","line","numbered","bottom","top","left","right","edge","k","point"] (ag bp) _ _=true;decide +kernel))
    (λ_ _ _ _ _=>cC (n:=2) rfl (aH (au (i:=12) ie.nd rfl (.inl rfl) (.inr rfl)) (aH (au (i:=13) ie.nd rfl (.inl rfl) (.inr rfl)) bL))) (λ_ _ _ _ _=>iZ (aM l6 (aB aF (pv 13) ah (λ_ _=>rfl)) ah (aL _))) (λ_ _ _ _ _=>pv 12))
   (ac (b9 (i:=10) (own:=[("k",12),("point",13)]) (g:=g2 K 12 13) (tt:=fB (tOp rEq (tOp (nS K) (a4 13) (tC (.int 0))) (a4 1))) rfl ie.nd rfl rfl (dm rfl rfl rfl (by decide +kernel)) (bF (pv 6)) (bG (by show gR ["drawing","width","height","corner","lines","line","numbered","bottom","top","left","right","edge","k","point"] (ag bp) _ _=true;decide +kernel))
    (λ_ _ _ _ _=>cC (n:=2) rfl (aH (au (i:=12) ie.nd rfl (.inl rfl) (.inr rfl)) (aH (au (i:=13) ie.nd rfl (.inl rfl) (.inr rfl)) bL))) (λ_ _ _ _ _=>iZ (aM l6 (aB aF (pv 13) ah (λ_ _=>rfl)) (pv 1) (aL _))) (λ_ _ _ _ _=>pv 12))
   (ac (bf HJ rfl (uS (bn (aa (pv 7) (aa (pv 8) (aa (pv 9) (aa (pv 10) ad)))))) (au (i:=11) ie.nd rfl (.inl rfl))
    (af (a8 (jZ (dc (aJ C2 hr (aa (pv 11) (aa (pv 4) ad))))) (af (aq (bn (aa ah (aa (ij (pv 0) T.cl C1 hr (aa ah ad)) ad))))) aN)))
   (af (aq bb)))))))))))),?_⟩
  have bad:LA S=false->∀H3,ak H H3->∀q,H3 q=none->Q (.ref q) (upd H3 q (.tup [.int 6,.int (20+8*0)])):=λz H3 s3 q hq=>by
   rw[Hz z]at k
   exact dN.some' k s3 q hq
  refine⟨_,rfl,a,C,dx,_,_,rfl,o.at_,T.cl,T.nW,Do,?_⟩
  refine⟨_,rfl,a,C,dx,_,_,rfl,o.at_,T.cl,T.nH,Di,?_⟩
  refine⟨(by show 2<=Hr;decide),λt1 h1=>?_⟩
  have hs1:ak H (upd H t1 (.tup [.int 0,.int 0])):=aG h1
  have g1:(upd H t1 (.tup [.int 0,.int 0])) t1=some (.tup (iV (gf ⟨0,0⟩))):=ae
  generalize upd H t1 (.tup [.int 0,.int 0])=Ha at hs1 g1
  refine⟨_,rfl,(by show 2<=Hr;decide),λt2 h2=>?_⟩
  have hs2:ak Ha (upd Ha t2 (.tup [.int (S.w:Int),.int 0])):=aG h2
  have g2':(upd Ha t2 (.tup [.int (S.w:Int),.int 0])) t2=some (.tup (iV (gf ⟨S.w,0⟩))):=ae
  generalize upd Ha t2 (.tup [.int (S.w:Int),.int 0])=Hb at hs2 g2'
  refine⟨_,rfl,(by show 2<=Hr;decide),λt3 h3=>?_⟩
  have hs3:ak Hb (upd Hb t3 (.tup [.int 0,.int (S.h:Int)])):=aG h3
  have g3:(upd Hb t3 (.tup [.int 0,.int (S.h:Int)])) t3=some (.tup (iV (gf ⟨0,S.h⟩))):=ae
  generalize upd Hb t3 (.tup [.int 0,.int (S.h:Int)])=Hc at hs3 g3
  refine⟨_,rfl,_,rfl,(by show 2<=Hr;decide),λt4 h4=>?_⟩
  have hs4:ak Hc (upd Hc t4 (.tup [.int (S.w:Int),.int (S.h:Int)])):=aG h4
  have g4:(upd Hc t4 (.tup [.int (S.w:Int),.int (S.h:Int)])) t4=some (.tup (iV (gf ⟨S.w,S.h⟩))):=ae
  generalize upd Hc t4 (.tup [.int (S.w:Int),.int (S.h:Int)])=Hd at hs4 g4
  refine⟨(by show 4<=Hr;decide),λt5 h5=>?_⟩
  have hs5:ak Hd (upd Hd t5 (.tup [.ref t1,.ref t2,.ref t3,.ref t4])):=aG h5
  have g5:(upd Hd t5 (.tup [.ref t1,.ref t2,.ref t3,.ref t4])) t5=some (.tup ([t1,t2,t3,t4].map V.ref)):=ae
  generalize upd Hd t5 (.tup [.ref t1,.ref t2,.ref t3,.ref t4])=He at hs5 g5
  have sHe:ak H He:=hs1.trans (hs2.trans (hs3.trans (hs4.trans hs5)))
  have rows:∀(i:Nat) (b:Hm) (c:Pt),[t1,t2,t3,t4][i]? = some b->(eI S)[i]? = some c->He b=some (.tup (iV (gf c))):=by
   intro i b c e1 e2
   have hi:i<4:=(gsi e1).1
   rcases(by lia:i=0\/i=1\/i=2\/i=3) with rfl|rfl|rfl|rfl
   ·cases osi e1;cases osi e2
    exact hs5 _ _ (hs4 _ _ (hs3 _ _ (hs2 _ _ g1)))
   ·cases osi e1;cases osi e2
    exact hs5 _ _ (hs4 _ _ (hs3 _ _ g2'))
   ·cases osi e1;cases osi e2
    exact hs5 _ _ (hs4 _ _ g3)
   ·cases osi e1;cases osi e2
    exact hs5 _ _ g4
  refine⟨t5,rfl,⟨_,SqT.of g5⟩,rO (K:=K) (a:=t5) (xs:=[t1,t2,t3,t4].map V.ref) (λi σ H'=>ak He H'/\(∃v,σ=[some (.ref a),some (.int (S.w:Int)),some (.int (S.h:Int)),v,none,none,none,none,none,none,none,none,none,none])/\∀(j:Nat) (c:Pt),j<i->(eI S)[j]? = some c->c∈S.pts)
   ⟨ak.refl He,⟨none,rfl⟩,λj c h=>absurd h (IM _)⟩ (λi σ H' _ h=>SqT.of (h.1 _ _ g5)) ?_ ?_⟩
  ·rintro i y σ H' hi ⟨hS,⟨v,rfl⟩,hok⟩
   obtain⟨b,hb,rfl⟩:=bR hi
   have hi4:i<(eI S).length:=(gsi hb).1
   have hc:(eI S)[i]? = some (eI S)[i]:=gge hi4
   have o2:=o.same (sHe.trans hS)
   refine⟨_,rfl,_,rfl,a,C,dx,_,_,rfl,o2.at_,T.cl,T.nP,i7,b,p,gf (eI S)[i],ps,S.pts.map gf,rfl,rfl,SqT.of (hS _ _ (rows i b _ hb hc)),SqL.of o2.pl,by rw[lmp,o.pn],?_,_,rfl,aV (λc=>?_) (λc=>?_)⟩
   ·intro j a' q e1 e2
    have hj:j<S.pts.length:=by rw[<-o.pn];exact(gsi e1).1
    rw[Hw,gge hj]at e2
    have e2:=osi e2
    rw[<-e2,<-WL.bO S hj]
    exact SqT.of (o2.pt j a' e1)
   ·have c:(eI S)[i]∉S.pts:=λz=>by
     rw[dqt ((vP S _).2 z)]at c
     exact absurd c (by decide)
    refine⟨_,rfl,a,dx,_,rfl,o2.at_,cq (.inl (.inl rfl)),_,_,rfl,(by show 2<=Hr;decide),λq hq=>?_⟩
    refine bad (cN λz=>c ?_) H' (sHe.trans hS) q hq
    exact((lD S).1 z).1 _ (HP hi4)
   ·have c:(eI S)[i]∈S.pts:=bcn λz=>c (by rw[dqf (λy=>z ((vP S _).1 y))];rfl)
    refine⟨hS,⟨_,rfl⟩,λj q h e=>?_⟩
    by_cases cc:j<i
    ·exact hok j q cc e
    ·have:j=i:=by lia
     subst this
     rw[hc]at e
     cases e
     exact c
  rintro σ H1 ⟨hS1,⟨v3,rfl⟩,hok1⟩
  have cor:∀c∈eI S,c∈S.pts:=λc hc=>by
   obtain⟨j,hj,rfl⟩:=Ib hc
   exact hok1 j _ hj (gge hj)
  have s1:ak H H1:=sHe.trans hS1
  clear hok1 rows g5 g4 g3 g2' g1
  refine λd hd=>?_
  have hd0:H d=none:=s1.free hd
  have s2:ak H (upd H1 d (.dT [])):=aX s1 hd
  have o2:=o.same s2
  refine⟨_,rfl,a,C,dx,_,_,rfl,o2.at_,T.cl,T.nL,rJ,l,rfl,⟨_,SqL.of o2.ll⟩,dr (K:=K) (a:=l) (xs:=ls.map V.ref) (λi σ H'=>ak H H'/\(∃v,σ=[some (.ref a),some (.int (S.w:Int)),some (.int (S.h:Int)),v3,some (.ref d),v,none,none,none,none,none,none,none,none])/\∃kvs,H' d=some (.dT kvs)/\LD kvs (S.lines.take i)/\kvs.length<=i)
   ⟨s2,⟨none,rfl⟩,[],ae,λx=>rfl,nlr _⟩ (λi σ H' _ h=>SqL.of (h.1 _ _ o.ll)) ?_ ?_⟩
  ·rintro t y σ H' hi ⟨hS,⟨v,rfl⟩,kvs,hk,hL,hkl⟩
   obtain⟨b,hb,rfl⟩:=bR hi
   have ht:t<S.lines.length:=by rw[<-o.ln];exact(gsi hb).1
   have hx:H' b=some (.tup ((lk S.lines[t]).map kV)):=(o.same hS).li t b _ hb (gge ht)
   refine⟨_,rfl,_,rfl,d,_,rfl,oV.t (k:=lk S.lines[t]) hk hx (a6 (by lia)),?_⟩
   refine⟨aQ hS hd0,⟨_,rfl⟩,_,ae,?_,?_⟩
   ·rw[bu (gge ht)]
    exact hL.put _ _
   ·have:=gE kvs (lk S.lines[t]) (.bl true)
    lia
  rintro σ H2 ⟨hS2,⟨v5,rfl⟩,kvs,hk,hL,hkl⟩
  rw[lmp,o.ln,IU]at hL
  have o3:=o.same hS2
  refine⟨_,rfl,a,C,dx,_,_,rfl,o3.at_,T.cl,T.nP,i7,p,_,rfl,SqL.of o3.pl,λH3 n ts s3 hn hnl hnr=>?_⟩
  rw[lmp]at hnl
  have nm:yR H3 n ts ps:=⟨hn,hnl,λi t b e1 e2=>hnr i t _ e1 (aO e2)⟩
  have sH3:ak H H3:=hS2.trans s3
  have hk3:=s3 _ _ hk
  clear hn hnr hnl
  refine⟨_,rfl,n,rfl,⟨_,SqL.of nm.at_⟩,λD1 hD1=>?_⟩
  refine mR 1 (λq=>(q.y:Int)) (λq=>rfl) (λp=>p.y==0) 0 (λq=>mT q.y 0) (tC (.int 0)) (λ_ _ _ _ h=>h) (o.same sH3) nm np hD1 λH4 s4 e4=>?_
  have sH4:=sH3.trans s4
  have nm4:=nm.same s4
  refine⟨_,rfl,n,rfl,⟨_,SqL.of nm4.at_⟩,λD2 hD2=>?_⟩
  refine mR 1 (λq=>(q.y:Int)) (λq=>rfl) (λp=>p.y==S.h) (S.h:Int) (λq=>mT q.y S.h) (a4 2) (λ_ _ _ _ h=>⟨_,rfl,h⟩) (o.same sH4) nm4 np hD2 λH5 s5 e5=>?_
  have sH5:=sH4.trans s5
  have nm5:=nm4.same s5
  refine⟨_,rfl,n,rfl,⟨_,SqL.of nm5.at_⟩,λD3 hD3=>?_⟩
  refine mR 0 (λq=>(q.x:Int)) (λq=>rfl) (λp=>p.x==0) 0 (λq=>mT q.x 0) (tC (.int 0)) (λ_ _ _ _ h=>h) (o.same sH5) nm5 np hD3 λH6 s6 e6=>?_
  have sH6:=sH5.trans s6
  have nm6:=nm5.same s6
  refine⟨_,rfl,n,rfl,⟨_,SqL.of nm6.at_⟩,λD4 hD4=>?_⟩
  refine mR 0 (λq=>(q.x:Int)) (λq=>rfl) (λp=>p.x==S.w) (S.w:Int) (λq=>mT q.x S.w) (a4 1) (λ_ _ _ _ h=>⟨_,rfl,h⟩) (o.same sH6) nm6 np hD4 λH7 s7 e7=>?_
  have sH7:=sH6.trans s7
  have s37:ak H3 H7:=s4.trans (s5.trans (s6.trans s7))
  refine⟨_,rfl,_,rfl,_,rfl,_,rfl,(by show 4<=Hr;decide),λt8 h8=>?_⟩
  have s8:ak H7 (upd H7 t8 (.tup [.ref D1,.ref D2,.ref D3,.ref D4])):=aG h8
  have g8:(upd H7 t8 (.tup [.ref D1,.ref D2,.ref D3,.ref D4])) t8=some (.tup ([D1,D2,D3,D4].map V.ref)):=ae
  generalize upd H7 t8 (.tup [.ref D1,.ref D2,.ref D3,.ref D4])=H8 at s8 g8
  have sH8:=sH7.trans s8
  have hk8:=s8 _ _ (s37 _ _ hk3)
  have edges:∀(i:Nat) (b:Hm) (on:Pt->Bool),[D1,D2,D3,D4][i]? = some b->(ons S)[i]? = some on->H8 b=some (.lst (iV (nI (dW S on S.pts.length)))):=by
   intro i b on e1 e2
   have hi:i<4:=(gsi e1).1
   rcases(by lia:i=0\/i=1\/i=2\/i=3) with rfl|rfl|rfl|rfl
   ·cases osi e1;cases osi e2
    exact s8 _ _ (s7 _ _ (s6 _ _ (s5 _ _ e4)))
   ·cases osi e1;cases osi e2
    exact s8 _ _ (s7 _ _ (s6 _ _ e5))
   ·cases osi e1;cases osi e2
    exact s8 _ _ (s7 _ _ e6)
   ·cases osi e1;cases osi e2
    exact s8 _ _ e7
  refine⟨t8,rfl,⟨_,SqT.of g8⟩,rO (K:=K) (a:=t8) (xs:=[D1,D2,D3,D4].map V.ref) (λi σ H'=>ak H8 H'/\(∃v,σ=[some (.ref a),some (.int (S.w:Int)),some (.int (S.h:Int)),v3,some (.ref d),v5,some (.ref n),some (.ref D1),some (.ref D2),some (.ref D3),some (.ref D4),v,none,none])/\∀(j:Nat) (on:Pt->Bool),j<i->(ons S)[j]? = some on->fh S.lines (dW S on S.pts.length)=true)
   ⟨ak.refl H8,⟨none,rfl⟩,λj c h=>absurd h (IM _)⟩ (λi σ H' _ h=>SqT.of (h.1 _ _ g8)) ?_ ?_⟩
  ·rintro i y σ H' hi ⟨hS,⟨v,rfl⟩,hok⟩
   obtain⟨b,hb,rfl⟩:=bR hi
   have hi4:i<(ons S).length:=(gsi hb).1
   have hc:(ons S)[i]? = some (ons S)[i]:=gge hi4
   refine⟨_,rfl,_,rfl,b,d,dW S (ons S)[i] S.pts.length,kvs,S.lines,rfl,hS _ _ (edges i b _ hb hc),hS _ _ hk8,hL,?_,λH9 s9=>?_⟩
   ·have:=mZ S (ons S)[i] S.pts.length
    lia
   refine⟨_,rfl,?_⟩
   have o9:=o.same (sH8.trans (hS.trans s9))
   cases hj:fh S.lines (dW S (ons S)[i] S.pts.length) with
   |true =>
    refine j8 ?_
    refine⟨hS.trans s9,⟨_,rfl⟩,λj q h e=>?_⟩
    by_cases cc:j<i
    ·exact hok j q cc e
    ·have:j=i:=by lia
     subst this
     rw[hc]at e
     cases e
     exact hj
   |false =>
    refine eT ?_
    refine⟨_,rfl,a,dx,_,rfl,o9.at_,cq (.inl (.inl rfl)),_,_,rfl,(by show 2<=Hr;decide),λq hq=>?_⟩
    refine bad (cN λz=>?_) H9 (sH8.trans (hS.trans s9)) q hq
    rw[((lD S).1 z).2 _ (HP hi4)]at hj
    cases hj
  ·rintro σ H' ⟨hS,⟨v,rfl⟩,hok⟩
   have z:LA S=true:=(lD S).2 ⟨cor,λon hon=>by
    obtain⟨j,hj,rfl⟩:=Ib hon
    exact hok j _ hj (gge hj)⟩
   rw[z,Hs (by decide)]at k
   exact k H' (sH8.trans hS)
def lU (o:Option (Int×Int))(v:V)(H:Hp):Prop:=match o with
 |none=>v=.non
 |some (r,p)=>∃q,v=.ref q/\H q=some (.tup [.int r,.int p])
theorem dN.of {o:Option (Int×Int)}{H:Hp}{Q:VK}(h:∀v H',ak H H'->lU o v H'->Q v H'):dN o H Q:=by
 cases o with
 |none=>exact λH' s=>h .non H' s rfl
 |some x=>exact λH' q s e=>h (.ref q) H' s ⟨q,rfl,e⟩
theorem dN.to {o:Option (Int×Int)}{H H':Hp}{Q:VK}{v:V}(k:dN o H Q)(s:ak H H')(f:lU o v H'):Q v H':=by
 cases o with
 |none=>rw[show v=.non from f];exact k H' s
 |some x =>
  obtain⟨q,rfl,e⟩:=f
  exact k H' q s e
def o4 (S:Gla.Plan):Option (Int×Int):=jN 4 lx (IS (ok4 S) Pt.below S.pts)
def o5 (S:Gla.Plan):Option (Int×Int):=jN 5 (rL S) (IS (ok5 S) IZ S.lines)
def o6 (S:Gla.Plan):Option (Int×Int):=if LA S=false then some (6,20) else none
def o7 (S:Gla.Plan):Option (Int×Int):=jN 7 (rL S) (Gla.firstAt (K7 S) S.lines)
def o8 (S:Gla.Plan):Option (Int×Int):=jN 8 lx ((HS S.pts.length).find? λi=>decide ((S.near i).length<2))
def o9 (S:Gla.Plan):Option (Int×Int):=jN 9 lx ((HS S.pts.length).find? λi=>!((lW S).getD i false))
def o10 (S:Gla.Plan):Option (Int×Int):=jN 10 lx ((HS S.pts.length).find? (Gla.cuts S.nears S.pts.length))
def o11 (S:Gla.Plan):Option (Int×Int):=jN 11 (oX S) (IS (Kn S) JG S.marks)
def lO (a b:Option (Int×Int)):Option (Int×Int):=match a with
 |some x=>some x
 |none=>b
def bT (S:Gla.Plan):Option (Int×Int):=lO (o4 S) (lO (o5 S) (lO (o6 S) (lO (o7 S) (lO (o8 S) (lO (o9 S) (lO (o10 S) (o11 S)))))))
theorem dP {r:Int}{pl:Nat->Int}{o:Option Nat}(h:jN r pl o=none):o=none:=by
 cases o with
 |none=>rfl
 |some i=>cases h
theorem oH {S:Gla.Plan}(h:gG S):zY S:=λi hi j hj=>by
 unfold Gla.Plan.near at hj
 rw[KR]at hj
 obtain⟨l,hl,e⟩:=hj
 obtain⟨l1,l2⟩:=h l hl
 split at e
 ·have e:=osi e
  lia
 ·split at e
  ·have e:=osi e
   lia
  ·cases e
theorem iE {b:V}{q:Hm}{A B:Prop}(h:B)(e:b=.ref q):if decide (b=V.non)=true then A else B:=aV (λc=>by rw[e]at c;exact absurd (Hk c) (by intro z;cases z)) (λ_=>h)
theorem lV {A B:Prop}(h:A):if decide (V.non=V.non)=true then A else B:=aV (λ_=>h) (λc=>absurd (dqt rfl) c)
def EL (C:Hm):Sp:=λvs H Q _=>∃(a:Hm) (S:Gla.Plan),vs=[.ref a]/\bC C H a S/\SB S/\4<=S.pts.length/\dN (bT S) H Q
theorem pq:aw ["drawing","fault","neighbours"] ["drawing"] (ag cK):=fsk
theorem Em (F:Has K mg "fault_of_drawing" cK ["drawing"]) (C4:Cb P w K mg base 2 "fault_of_points" ["drawing"] (Fu C)) (C5:Cb P w K mg base 3 "fault_of_lines" ["drawing"] (En C)) (C6:Cb P w K mg base 2 "fault_of_frame" ["drawing"] (Ez C)) (C7:Cb P w K mg base 5 "fault_of_crossings" ["drawing"] (E2 C))
  (CN:Cb P w K mg base 1 "neighbours_of" ["drawing"] (Cc C)) (C8:Cb P w K mg base 2 "fault_of_ends" ["drawing","neighbours"] (FZ C)) (C9:Cb P w K mg base 2 "fault_of_ways" ["drawing","neighbours"] (Ga C)) (C10:Cb P w K mg base 2 "fault_of_narrows" ["drawing","neighbours"] (BK C)) (C11:Cb P w K mg base 4 "fault_of_marks" ["drawing"] (BN C)) :
  Cb P w K mg base 6 "fault_of_drawing" ["drawing"] (EL C):=by
 refine F.cb pq (λvs H Q E h=>?_) (λ_ _ A _ s H vs Q E hr h=>?_)
 ·obtain⟨a,S,rfl,_⟩:=h
  rfl
 ·obtain⟨a,S,rfl,hd,sb,h4,k⟩:=h
  have hr1:bA 1 _:=hr.mono (by decide)
  have hr2:bA 2 _:=hr.mono (by decide)
  have hr3:bA 3 _:=hr.mono (by decide)
  have hr4:bA 4 _:=hr.mono (by decide)
  refine⟨_,ac (aC (i:=1) pq.nd rfl (.inl rfl) (aJ C4 hr2 (aa (pv 0) ad)))
   (ac (a8 (aM jo (pv 1) bb (aL _)) (af (aC (i:=1) pq.nd rfl (.inl rfl) (aJ C5 hr3 (aa (pv 0) ad)))) aN)
   (ac (a8 (aM jo (pv 1) bb (aL _)) (af (aC (i:=1) pq.nd rfl (.inl rfl) (aJ C6 hr2 (aa (pv 0) ad)))) aN)
   (ac (a8 (aM jo (pv 1) bb (aL _)) (af (aC (i:=1) pq.nd rfl (.inl rfl) (aJ C7 hr (aa (pv 0) ad)))) aN)
   (ac (a8 (aM iO (pv 1) bb (aL _)) (af (aq (pv 1))) aN)
   (ac (aC (i:=2) pq.nd rfl (.inl rfl) (aJ CN hr1 (aa (pv 0) ad)))
   (ac (aC (i:=1) pq.nd rfl (.inl rfl) (aJ C8 hr2 (aa (pv 0) (aa (pv 2) ad))))
   (ac (a8 (aM jo (pv 1) bb (aL _)) (af (aC (i:=1) pq.nd rfl (.inl rfl) (aJ C9 hr2 (aa (pv 0) (aa (pv 2) ad))))) aN)
   (ac (a8 (aM jo (pv 1) bb (aL _)) (af (aC (i:=1) pq.nd rfl (.inl rfl) (aJ C10 hr2 (aa (pv 0) (aa (pv 2) ad))))) aN)
   (ac (a8 (aM jo (pv 1) bb (aL _)) (af (aC (i:=1) pq.nd rfl (.inl rfl) (aJ C11 hr4 (aa (pv 0) ad)))) aN)
   (af (aq (pv 1)))))))))))),?_⟩
  refine⟨_,rfl,a,S,rfl,hd,sb,dN.of λv H1 s1 f4=>?_⟩
  have f4:lU (o4 S) v H1:=f4
  cases e4:o4 S with
  |some x =>
   rw[e4]at f4
   obtain⟨q,rfl,hq⟩:=id f4
   refine⟨_,rfl,rfl,_,rfl,iE ?_ rfl⟩
   refine⟨_,rfl,rfl,_,rfl,iE ?_ rfl⟩
   refine⟨_,rfl,rfl,_,rfl,iE ?_ rfl⟩
   refine⟨_,rfl,rfl,_,rfl,aV (λ_=>⟨_,rfl,?_⟩) (λc=>absurd (by rw[dqf (by intro z;cases z)];rfl) c)⟩
   have e:bT S=some x:=by unfold bT;rw[e4];rfl
   rw[e]at k
   exact k.to s1 f4
  |none =>
  rw[e4]at f4
  obtain rfl:v=.non:=f4
  have r4:WL.R4 S:=dP e4
  refine⟨_,rfl,rfl,_,rfl,lV ?_⟩
  refine⟨_,rfl,a,S,rfl,hd.same s1,sb,dN.of λv H2 s2 f5=>?_⟩
  have f5:lU (o5 S) v H2:=f5
  have s2:=s1.trans s2
  cases e5:o5 S with
  |some x =>
   rw[e5]at f5
   obtain⟨q,rfl,hq⟩:=id f5
   refine⟨_,rfl,rfl,_,rfl,iE ?_ rfl⟩
   refine⟨_,rfl,rfl,_,rfl,iE ?_ rfl⟩
   refine⟨_,rfl,rfl,_,rfl,aV (λ_=>⟨_,rfl,?_⟩) (λc=>absurd (by rw[dqf (by intro z;cases z)];rfl) c)⟩
   have e:bT S=some x:=by unfold bT;rw[e4,e5];rfl
   rw[e]at k
   exact k.to s2 f5
  |none =>
  rw[e5]at f5
  obtain rfl:v=.non:=f5
  have r5:WL.R5 S:=dP e5
  have hlo:gG S:=λl hl=>r5.line hl
  refine⟨_,rfl,rfl,_,rfl,lV ?_⟩
  refine⟨_,rfl,a,S,rfl,hd.same s2,sb,dN.of λv H3 s3 f6=>?_⟩
  have f6:lU (o6 S) v H3:=f6
  have s3:=s2.trans s3
  cases e6:o6 S with
  |some x =>
   rw[e6]at f6
   obtain⟨q,rfl,hq⟩:=id f6
   refine⟨_,rfl,rfl,_,rfl,iE ?_ rfl⟩
   refine⟨_,rfl,rfl,_,rfl,aV (λ_=>⟨_,rfl,?_⟩) (λc=>absurd (by rw[dqf (by intro z;cases z)];rfl) c)⟩
   have e:bT S=some x:=by unfold bT;rw[e4,e5,e6];rfl
   rw[e]at k
   exact k.to s3 f6
  |none =>
  rw[e6]at f6
  obtain rfl:v=.non:=f6
  refine⟨_,rfl,rfl,_,rfl,lV ?_⟩
  refine⟨_,rfl,a,S,rfl,hd.same s3,sb,r4,r5,dN.of λv H4 s4 f7=>?_⟩
  have f7:lU (o7 S) v H4:=f7
  have s4:=s3.trans s4
  cases e7:o7 S with
  |some x =>
   rw[e7]at f7
   obtain⟨q,rfl,hq⟩:=id f7
   refine⟨_,rfl,rfl,_,rfl,aV (λ_=>⟨_,rfl,?_⟩) (λc=>absurd (by rw[dqf (by intro z;cases z)];rfl) c)⟩
   have e:bT S=some x:=by unfold bT;rw[e4,e5,e6,e7];rfl
   rw[e]at k
   exact k.to s4 f7
  |none =>
  rw[e7]at f7
  obtain rfl:v=.non:=f7
  refine⟨_,rfl,rfl,_,rfl,aV (λc=>absurd c (by decide)) (λ_=>?_)⟩
  refine⟨_,rfl,a,S,rfl,hd.same s4,sb,hlo,λH5 N as hN hNl=>?_⟩
  have s5:=s4.trans hN.sm
  have rw5:=hN.rw
  refine⟨_,rfl,_,rfl,a,N,as,S,rfl,hd.same s5,rw5,hNl,dN.of λv H6 s6 f8=>?_⟩
  have f8:lU (o8 S) v H6:=f8
  have rw6:=rw5.same s6
  have s6:=s5.trans s6
  cases e8:o8 S with
  |some x =>
   rw[e8]at f8
   obtain⟨q,rfl,hq⟩:=id f8
   refine⟨_,rfl,rfl,_,rfl,iE ?_ rfl⟩
   refine⟨_,rfl,rfl,_,rfl,iE ?_ rfl⟩
   refine⟨_,rfl,rfl,_,rfl,iE ⟨_,rfl,?_⟩ rfl⟩
   have e:bT S=some x:=by unfold bT;rw[e4,e5,e6,e7,e8];rfl
   rw[e]at k
   exact k.to s6 f8
  |none =>
  rw[e8]at f8
  obtain rfl:v=.non:=f8
  refine⟨_,rfl,rfl,_,rfl,lV ?_⟩
  refine⟨_,rfl,_,rfl,a,N,as,S,rfl,hd.same s6,sb,h4,oH hlo,rw6,hNl,dN.of λv H7 s7 f9=>?_⟩
  have f9:lU (o9 S) v H7:=f9
  have rw7:=rw6.same s7
  have s7:=s6.trans s7
  cases e9:o9 S with
  |some x =>
   rw[e9]at f9
   obtain⟨q,rfl,hq⟩:=id f9
   refine⟨_,rfl,rfl,_,rfl,iE ?_ rfl⟩
   refine⟨_,rfl,rfl,_,rfl,iE ⟨_,rfl,?_⟩ rfl⟩
   have e:bT S=some x:=by unfold bT;rw[e4,e5,e6,e7,e8,e9];rfl
   rw[e]at k
   exact k.to s7 f9
  |none =>
  rw[e9]at f9
  obtain rfl:v=.non:=f9
  refine⟨_,rfl,rfl,_,rfl,lV ?_⟩
  refine⟨_,rfl,_,rfl,a,N,as,S,rfl,hd.same s7,sb,h4,oH hlo,rw7,hNl,dN.of λv H8 s8 f10=>?_⟩
  have f10:lU (o10 S) v H8:=f10
  have s8:=s7.trans s8
  cases e10:o10 S with
  |some x =>
   rw[e10]at f10
   obtain⟨q,rfl,hq⟩:=id f10
   refine⟨_,rfl,rfl,_,rfl,iE ⟨_,rfl,?_⟩ rfl⟩
   have e:bT S=some x:=by unfold bT;rw[e4,e5,e6,e7,e8,e9,e10];rfl
   rw[e]at k
   exact k.to s8 f10
  |none =>
  rw[e10]at f10
  obtain rfl:v=.non:=f10
  refine⟨_,rfl,rfl,_,rfl,lV ?_⟩
  refine⟨_,rfl,a,S,rfl,hd.same s8,sb,hlo,dN.of λv H9 s9 f11=>?_⟩
  refine⟨_,rfl,?_⟩
  have e:bT S=o11 S:=by unfold bT;rw[e4,e5,e6,e7,e8,e9,e10];rfl
  rw[e]at k
  exact k.to (s8.trans s9) f11
def nV (K:IN)(H:Hp)(p:Hm)(ps:List Hm)(S:Gla.Plan):Prop:=H p=some (.lst (ps.map V.ref))/\ps.length=S.pts.length/\∀(i:Nat) (b:Hm),ps[i]? = some b->cR K H b (S.pt i)
theorem nV.same {K:IN}{H H':Hp}{p:Hm}{ps:List Hm}{S:Gla.Plan}(h:nV K H p ps S)(s:ak H H'):nV K H' p ps S:=⟨s _ _ h.1,h.2.1,λi b e=>(h.2.2 i b e).same s⟩
theorem nV.has {K:IN}{H:Hp}{p:Hm}{ps:List Hm}{S:Gla.Plan}(h:nV K H p ps S){i:Nat}(hi:i<S.pts.length):∃b,ps[i]? = some b:=⟨ps[i]'(by rw[h.2.1];exact hi),gge _⟩
theorem Op.ptsL {K:IN}{C:Hm}{H:Hp}{a dx p l m:Hm}{S:Gla.Plan}{ps ls ms:List Hm}(o:Op K C H a dx p l m S ps ls ms)(sb:SB S):nV K H p ps S:=⟨o.pl,o.pn,λi b e=>o.ptAt sb e⟩
theorem qK {S:Gla.Plan}{m e:Nat}{l:List Nat}{t:Nat}(h:l.length<=t):WL.bz S m e (l.drop t)=e :: l.drop t:=by
 rw[Kk h]
 rfl
theorem xY {S:Gla.Plan}{m e:Nat}{l:List Nat}{t:Nat}(h:t<l.length)(ht:¬0<Jo (S.pt m) (S.pt l[t]) (S.pt e)):WL.bz S m e (l.drop t)=e :: l.drop t:=by
 rw[JN h]
 unfold WL.bz
 rw[Hs ht]
theorem DK {S:Gla.Plan}{m e:Nat}{l:List Nat}{t:Nat}(h:t<l.length)(ht:0<Jo (S.pt m) (S.pt l[t]) (S.pt e)):l.take t++WL.bz S m e (l.drop t)=l.take (t+1)++WL.bz S m e (l.drop (t+1)):=by
 rw[JN h,bu (gge h),Kd]
 conv=>lhs;unfold WL.bz
 rw[Hz ht]
 rfl
theorem wY {S:Gla.Plan}{m:Nat}{l:List Nat}{i e:Nat}(h:l[i]? = some e):WL.sortTurn S m (l.take (i+1))=WL.bz S m e (WL.sortTurn S m (l.take i)):=by
 unfold WL.sortTurn
 rw[bu h,List.foldl_append]
 rfl
theorem ox (S:Gla.Plan)(m:Nat)(l:List Nat):(WL.sortTurn S m l).length=l.length:=(WL.cY S m l).length_eq
theorem zV {S:Gla.Plan}{m:Nat}{l:List Nat}{x:Nat}(h:x∈WL.sortTurn S m l):x∈l:=(WL.cY S m l).mem_iff.1 h
theorem Bh (l:List Nat)(t:Nat):(iV (nI l)).take t=iV (nI (l.take t)):=by
 unfold iV nI
 rw[Kq,Kq]
theorem AS (l:List Nat)(t:Nat):(iV (nI l)).drop t=iV (nI (l.drop t)):=by
 unfold iV nI
 rw[Lh,Lh]
theorem yp (l r:List Nat):iV (nI (l++r))=iV (nI l)++iV (nI r):=by
 unfold iV nI
 rw[HI,HI]
def FM (K:IN):Sp:=λvs H Q _=>∃(p ea:Hm) (ps:List Hm) (S:Gla.Plan) (m:Nat) (ends:List Nat),vs=[.ref p,.int (m:Int),.ref ea]/\nV K H p ps S/\m<S.pts.length/\H ea=some (.lst (iV (nI ends)))/\(∀x∈ends,x<S.pts.length)/\ends.length<=100000 /\
 ∀(H':Hp) (r:Hm),ak H H'->H r=none->H' r=some (.lst (iV (nI (WL.sortTurn S m ends))))->Q (.ref r) H'
theorem zZ:aw ["points","middle","ends","ring","end","place"] ["points","middle","ends"] (ag dI):=fsk
theorem FU (F:Has K mg "sorted_by_turn" dI ["points","middle","ends"]) (gl:mg "len"=none) (C1:Cb P w K mg base 1 "turn" ["p","q","r"] (lS K)):Cb P w K mg base 2 "sorted_by_turn" ["points","middle","ends"] (FM K):=by
 refine F.cb zZ (λvs H Q E h=>?_) (λ_ _ A _ s H vs Q E hr h=>?_)
 ·obtain⟨p,ea,ps,S,m,ends,rfl,_⟩:=h
  rfl
 ·obtain⟨p,ea,ps,S,m,ends,rfl,hp,hm,he,hen,hel,k⟩:=h
  refine⟨_,ac (aC (i:=3) zZ.nd rfl (.inl rfl) (eo ad))
   (ac (bf HJ rfl (bF (pv 2)) (au (i:=4) zZ.nd rfl (.inl rfl))
    (ac (aC (i:=5) zZ.nd rfl (.inl rfl) ah)
    (ac (nY HJ (jq (aM fM (pv 5) (aY aR (by rfl) gl IB (aa (pv 3) ad)) (aL _)) (gy (aM eD (aJ C1 hr (aa (aB aU (pv 0) (pv 1) (λ_ _=>rfl)) (aa (aB aU (pv 0) (aB aU (pv 3) (pv 5) (λ_ _=>rfl)) (λ_ _=>rfl)) (aa (aB aU (pv 0) (pv 4) (λ_ _=>rfl)) ad)))) ah (aL _)))).pt
     (af (yq (i:=5) zZ.nd rfl (.inl rfl) ah yC)))
    (af (iS (kP IE PySem.F.slot_list_insert PySem.F.type_list_insert wM (pv 3) (aa (pv 5) (aa (pv 4) ad))))))))
   (af (aq (pv 3)))),?_⟩
  refine⟨(by show 0<=Hr;decide),λr hr0=>?_⟩
  have ner:ea≠r:=aP he hr0
  refine⟨_,rfl,ea,rfl,⟨_,SqL.of (by rw[ao ner];exact he)⟩,dr (K:=K) (a:=ea) (xs:=iV (nI ends)) (λi σ H'=>ak H H'/\(∃v1 v2,σ=[some (.ref p),some (.int (m:Int)),some (.ref ea),some (.ref r),v1,v2])/\H' r=some (.lst (iV (nI (WL.sortTurn S m (ends.take i))))))
   ⟨aG hr0,⟨none,none,rfl⟩,ae⟩ (λi σ H' _ h=>SqL.of (h.1 _ _ he)) ?_ ?_⟩
  ·rintro i y σ H' hi ⟨hS,⟨v1,v2,rfl⟩,hrr⟩
   obtain⟨e,hie,rfl⟩:=kF hi
   have hen':e<S.pts.length:=hen e (Ic hie)
   have hp':=hp.same hS
   have hlt:(WL.sortTurn S m (ends.take i)).length<=i:=by
    rw[ox,Iv]
    lia
   have hil:i<ends.length:=(gsi hie).1
   have hrn:∀x∈WL.sortTurn S m (ends.take i),x<S.pts.length:=λx hx=>hen x (Jd (zV hx))
   rw[wY hie]
   generalize WL.sortTurn S m (ends.take i)=ring at hrr hlt hrn
   obtain⟨bm,hbm⟩:=hp'.has hm
   obtain⟨be,hbe⟩:=hp'.has hen'
   have fin:∀(t:Nat),t<=ring.length->ring.take t++WL.bz S m e (ring.drop t)=WL.bz S m e ring->WL.bz S m e (ring.drop t)=e :: ring.drop t ->
     BO (tBM K "list" vX (a4 3) (br (a4 5) (br (a4 4) fI))) { nx:=λσ H'=>ak H H'/\(∃v1 v2,σ=[some (.ref p),some (.int (m:Int)),some (.ref ea),some (.ref r),v1,v2])/\H' r=some (.lst (iV (nI (WL.bz S m e ring)))),rt:=Q,bk:=λσ H'=>m5 (a4 3) { nx:=λ_ H'=>Q .non H',rt:=Q } σ H',ct:=λσ H'=>ak H H'/\(∃v1 v2,σ=[some (.ref p),some (.int (m:Int)),some (.ref ea),some (.ref r),v1,v2])/\H' r=some (.lst (iV (nI (WL.bz S m e ring)))) }
      [some (.ref p),some (.int (m:Int)),some (.ref ea),some (.ref r),some (.int (e:Int)),some (.int (t:Int))] H':=λt ht h1 h2=>by
    refine⟨_,rfl,.inl ⟨rfl,_,SqL.of hrr⟩,_,rfl,_,rfl,r,_,_,_,rfl,rfl,hrr,by lia,by rw[bS];lia,by rw[bS];exact a6 (by lia),?_⟩
    refine⟨aQ hS hr0,⟨_,_,rfl⟩,?_⟩
    rw[ae,IV,Bh,AS,<-h1,h2,yp]
    rfl
   refine⟨λmm σ H2=>H2=H'/\∃t,mm=ring.length-t/\t<=ring.length/\σ=[some (.ref p),some (.int (m:Int)),some (.ref ea),some (.ref r),some (.int (e:Int)),some (.int (t:Int))]/\ring.take t++WL.bz S m e (ring.drop t)=WL.bz S m e ring,
    ⟨ring.length,rfl,0,rfl,IH _,rfl,rfl⟩,?_⟩
   rintro mm σ H2 ⟨rfl,t,rfl,ht,rfl,hins⟩
   refine⟨_,rfl,_,rfl,r,_,rfl,.inl (SqL.of hrr),_,_,rfl,rfl,_,rfl,aV (λc=>?_) (λc=>j8 ?_)⟩
   ·have c:=Hk c
    rw[bS]at c
    have htl:t<ring.length:=by lia
    obtain⟨bt,hbt⟩:=hp'.has (hrn _ (HP htl))
    refine⟨_,rfl,_,rfl,p,_,_,_,rfl,rfl,SqL.of hp'.1,aE (j:=m) rfl (aO hbm),_,rfl,_,rfl,_,rfl,r,_,_,_,rfl,rfl,SqL.of hrr,aE (j:=t) rfl (lq htl),p,_,_,_,rfl,rfl,SqL.of hp'.1,aE (j:=ring[t]) rfl (aO hbt),
     _,rfl,_,rfl,p,_,_,_,rfl,rfl,SqL.of hp'.1,aE (j:=e) rfl (aO hbe),bm,bt,be,_,_,_,rfl,hp'.2.2 _ _ hbm,hp'.2.2 _ _ hbt,hp'.2.2 _ _ hbe,_,_,rfl,rfl,_,rfl,aV (λc2=>?_) (λc2=>?_)⟩
    ·have c2:=Hk c2
     refine⟨λσ2 H3=>H3=H2/\σ2=[some (.ref p),some (.int (m:Int)),some (.ref ea),some (.ref r),some (.int (e:Int)),some (.int ((t+1:Nat):Int))],?_,?_⟩
     ·rintro σ2 H3 ⟨rfl,rfl⟩
      refine⟨ring.length-(t+1),by lia,rfl,t+1,rfl,htl,rfl,?_⟩
      rw[<-hins]
      exact(DK htl c2).symm
     ·refine⟨_,rfl,_,_,rfl,rfl,rfl,?_⟩
      rfl
    ·have c2:=aK c2
     exact fin t ht hins (xY htl c2)
   ·have c:=aK c
    rw[bS]at c
    exact fin t ht hins (qK (by lia))
  ·rintro σ H' ⟨hS,⟨v1,v2,rfl⟩,hrr⟩
   rw[bS,IU]at hrr
   exact⟨_,rfl,k H' r hS hr0 hrr⟩
theorem ko {l:List Nat}{i x:Nat}{q:Nat->Bool}(h:l[i]? = some x):(l.take (i+1)).filter q=if q x=true then (l.take i).filter q++[x] else (l.take i).filter q:=by
 rw[bu h,List.filter_append]
 split
 ·rename_i c
  rw[KL c]
  rfl
 ·rename_i c
  rw[KM c]
  exact Iq _
theorem vi (l:List Nat)(i:Nat)(q:Nat->Bool):((l.take i).filter q).length<=l.length:=Ik (JA _ _) (by rw[Iv];lia)
def G7 (S:Gla.Plan)(m:Nat)(ends:List Nat):List Nat:=WL.sortTurn S m (ends.filter λe=>decide (m<e))++WL.sortTurn S m (ends.filter λe=>decide (e<m))
def DL (K:IN):Sp:=λvs H Q _=>∃(p ea:Hm) (ps:List Hm) (S:Gla.Plan) (m:Nat) (ends:List Nat),vs=[.ref p,.int (m:Int),.ref ea]/\nV K H p ps S/\m<S.pts.length/\H ea=some (.lst (iV (nI ends)))/\(∀x∈ends,x<S.pts.length)/\ends.length<=100000 /\
 ∀(H':Hp) (r:Hm),ak H H'->H r=none->H' r=some (.lst (iV (nI (G7 S m ends))))->Q (.ref r) H'
theorem zE:aw ["points","middle","ends","higher","lower","end"] ["points","middle","ends"] (ag dJ):=fsk
theorem Fn (F:Has K mg "ring_round" dJ ["points","middle","ends"]) (C1:Cb P w K mg base 2 "sorted_by_turn" ["points","middle","ends"] (FM K)):Cb P w K mg base 3 "ring_round" ["points","middle","ends"] (DL K):=by
 refine F.cb zE (λvs H Q E h=>?_) (λ_ _ A _ s H vs Q E hr h=>?_)
 ·obtain⟨p,ea,ps,S,m,ends,rfl,_⟩:=h
  rfl
 ·obtain⟨p,ea,ps,S,m,ends,rfl,hp,hm,he,hen,hel,k⟩:=h
  refine⟨_,ac (b9 (i:=3) (own:=[("end",5)]) (tt:=fB (tOp (rI0 λi j=>.bl (decide (j<i))) (a4 5) (a4 1))) rfl zE.nd rfl rfl (dm rfl rfl rfl (by decide +kernel)) (bF (pv 2)) (bG (by show gR ["points","middle","ends","higher","lower","end"] (ag dJ) _ _=true;decide +kernel))
    (λ_ _ _ _ _=>au (i:=5) zE.nd rfl (.inl rfl) (.inr rfl)) (λ_ _ _ _ _=>iZ (aM eD (pv 5) (pv 1) (aL _))) (λ_ _ _ _ _=>pv 5))
   (ac (b9 (i:=4) (own:=[("end",5)]) (tt:=fB (tOp (rI0 λi j=>.bl (decide (i<j))) (a4 5) (a4 1))) rfl zE.nd rfl rfl (dm rfl rfl rfl (by decide +kernel)) (bF (pv 2)) (bG (by show gR ["points","middle","ends","higher","lower","end"] (ag dJ) _ _=true;decide +kernel))
    (λ_ _ _ _ _=>au (i:=5) zE.nd rfl (.inl rfl) (.inr rfl)) (λ_ _ _ _ _=>iZ (aM fM (pv 5) (pv 1) (aL _))) (λ_ _ _ _ _=>pv 5))
   (af (aq (aW ya (aJ C1 hr (aa (pv 0) (aa (pv 1) (aa (pv 3) ad)))) (aJ C1 hr (aa (pv 0) (aa (pv 1) (aa (pv 4) ad)))))))),?_⟩
  refine⟨_,rfl,ea,rfl,⟨_,SqL.of he⟩,λD hD=>?_⟩
  refine fU (K:=K) (a:=ea) (xs:=iV (nI ends)) (λi H'=>ak H H'/\H' D=some (.lst (iV (nI ((ends.take i).filter λe=>decide (m<e)))))) ⟨aG hD,ae⟩ (λi H' _ h=>SqL.of (h.1 _ _ he)) ?_ ?_
  ·rintro i y H' hi ⟨hS,hDl⟩
   obtain⟨e,hie,rfl⟩:=kF hi
   refine⟨rfl,_,rfl,_,rfl,_,_,rfl,rfl,_,rfl,?_⟩
   have ec:decide ((m:Int)<(e:Int))=decide (m<e):=by rw[HK];lia
   rw[ec]
   refine aV (λc=>?_) (λc=>?_)
   ·refine⟨_,rfl,_,hDl,?_,aQ hS hD,?_⟩
    ·rw[bS]
     have:=vi ends i (λe=>decide (m<e))
     exact a6 (by lia)
    ·rw[ae,ko hie,Hz c,gO]
   ·refine⟨hS,?_⟩
    rw[ko hie,Hs c]
    exact hDl
  rintro H1 ⟨s1,hD1⟩
  rw[bS,IU]at hD1
  refine⟨_,rfl,ea,rfl,⟨_,SqL.of (s1 _ _ he)⟩,λD2 hD2=>?_⟩
  refine fU (K:=K) (a:=ea) (xs:=iV (nI ends)) (λi H'=>ak H1 H'/\H' D2=some (.lst (iV (nI ((ends.take i).filter λe=>decide (e<m)))))) ⟨aG hD2,ae⟩ (λi H' _ h=>SqL.of (h.1 _ _ (s1 _ _ he))) ?_ ?_
  ·rintro i y H' hi ⟨hS,hDl⟩
   obtain⟨e,hie,rfl⟩:=kF hi
   refine⟨rfl,_,rfl,_,rfl,_,_,rfl,rfl,_,rfl,?_⟩
   have ec:decide ((e:Int)<(m:Int))=decide (e<m):=by rw[HK];lia
   rw[ec]
   refine aV (λc=>?_) (λc=>?_)
   ·refine⟨_,rfl,_,hDl,?_,aQ hS hD2,?_⟩
    ·rw[bS]
     have:=vi ends i (λe=>decide (e<m))
     exact a6 (by lia)
    ·rw[ae,ko hie,Hz c,gO]
   ·refine⟨hS,?_⟩
    rw[ko hie,Hs c]
    exact hDl
  rintro H2 ⟨s2,hD22⟩
  rw[bS,IU]at hD22
  have s12:=s1.trans s2
  have l1:(ends.filter λe=>decide (m<e)).length<=ends.length:=JA _ _
  have l2:(ends.filter λe=>decide (e<m)).length<=ends.length:=JA _ _
  refine⟨_,rfl,_,rfl,_,rfl,p,D,ps,S,m,_,rfl,hp.same s12,hm,s2 _ _ hD1,λx hx=>hen x ((HZ.1 hx).1),by lia,λH3 r1 s3 _ hr1=>?_⟩
  refine⟨_,rfl,_,rfl,_,rfl,p,D2,ps,S,m,_,rfl,hp.same (s12.trans s3),hm,s3 _ _ hD22,λx hx=>hen x ((HZ.1 hx).1),by lia,λH4 r2 s4 _ hr2=>?_⟩
  have s14:=s12.trans (s3.trans s4)
  refine⟨r1,r2,_,_,rfl,rfl,s4 _ _ hr1,hr2,?_,λq hq=>?_⟩
  ·rw[bS,bS,ox,ox]
   exact Ka (a6 (by lia))
  ·refine k _ q (aX s14 hq) (s14.free hq) ?_
   rw[ae,<-yp]
   rfl
theorem kM (ring:Nat->List Nat)(e:Nat×Nat):∀n i j,j<n->(WL.seg ring e i n)[j]? = some (WL.iter ring e (i+j))
 |0,_,_,h=>absurd h (IM _)
 |n+1,i,0,_=>rfl
 |n+1,i,j+1,h=>by
  show(WL.seg ring e (i+1) n)[j]? = _
  rw[kM ring e n (i+1) j (by lia)]
  congr 2
  lia
theorem xG {l:List Nat}{x:Nat}(h:x∈l):atI (iV (nI l)) (((l.idxOf x:Nat):Int)-1)=some (.int (WL.bJ l x:Int)):=by
 unfold WL.bJ
 by_cases c:l.idxOf x=0
 ·rw[Hz c,c]
  obtain⟨init,z,e⟩:=ku (λq:l=[]=>by rw[q]at h;cases h)
  rw[e,gO,List.getLast?_concat]
  exact oR _ _
 ·rw[Hs c]
  have hlt:l.idxOf x-1<l.length:=by
   have:=List.idxOf_lt_length_iff.2 h
   lia
  have ez:((l.idxOf x:Nat):Int)-1=((l.idxOf x-1:Nat):Int):=by lia
  rw[ez]
  rw[Hx,gge hlt]
  exact qC (lq hlt)
def FR:Sp:=λvs H Q _=>∃(R:Hm) (as:List Hm) (S:Gla.Plan) (u v:Nat),vs=[.ref R,.int (u:Int),.int (v:Int)]/\RW H R as (WL.aj S)/\as.length=S.pts.length/\S.pts.length<=100000/\WL.cp S/\(WL.ab S).J u v /\
 ∀(H':Hp) (c:Hm),ak H H'->H c=none->H' c=some (.lst (iV (nI (WL.rnd S (u,v)))))->Q (.ref c) H'
theorem tu:aw ["rings","first","second","corners","last","here","ring","onward"] ["rings","first","second"] (ag fQ):=fsk
theorem qQ {S:Gla.Plan}(k:WL.cp S){e:Nat×Nat}(he:(WL.ab S).J e.1 e.2):∀v∈WL.rnd S e,v<S.pts.length:=λv hv=>by
 obtain⟨x,hx,rfl⟩:=WL.vz k.toKept he hv
 exact(WL.bw S k.toKept).lt (WL.fu k.toKept he hx)
theorem mN {S:Gla.Plan}(k:WL.cp S){e:Nat×Nat}(he:(WL.ab S).J e.1 e.2):(WL.rnd S e).length<=S.pts.length:=by
 have h:=WL.bv (m:=HS S.pts.length) (WL.jG k he) λx hx=>Ix.2 (qQ k he x hx)
 rw[IX]at h
 exact h
theorem fg {S:Gla.Plan}(k:WL.Kept S){e:Nat×Nat}(he:(WL.ab S).J e.1 e.2):∀t,(WL.ab S).J (WL.iter (WL.aj S) e t).1 (WL.iter (WL.aj S) e t).2:=λt =>
 WL.fu k he ((WL.eg k he).2 ⟨t,rfl⟩)
theorem Ej (F:Has K mg "walk_round" fQ ["rings","first","second"]):Cb P w K mg base 1 "walk_round" ["rings","first","second"] FR:=by
 refine F.cb tu (λvs H Q E h=>?_) (λ_ _ A _ s H vs Q E hr h=>?_)
 ·obtain⟨R,as,S,u,v,rfl,_⟩:=h
  rfl
 ·obtain⟨R,as,S,u,v,rfl,hrw,hlen,hn,kp,hJ,k⟩:=h
  refine⟨_,ac (aC (i:=3) tu.nd rfl (.inl rfl) (eo (aa (pv 1) ad)))
   (ac (aC (i:=4) tu.nd rfl (.inl rfl) (pv 1)) (ac (aC (i:=5) tu.nd rfl (.inl rfl) (pv 2))
   (ac (nY HJ (aM zg (pv 5) (pv 1) (aL _))
    (ac (iS (kP IE JZ J0 hU (pv 3) (aa (pv 5) ad)))
    (ac (aC (i:=6) tu.nd rfl (.inl rfl) (aB aU (pv 0) (pv 5) (λ_ _=>rfl)))
    (ac (aC (i:=7) tu.nd rfl (.inl rfl) (aB aU (pv 6) (aW eh (kP IE PySem.F.slot_list_index PySem.F.type_list_index yD (pv 6) (aa (pv 4) ad)) ah) (λ_ _=>rfl)))
    (ac (aC (i:=4) tu.nd rfl (.inl rfl) (pv 5)) (af (aC (i:=5) tu.nd rfl (.inl rfl) (pv 7))))))))
   (af (aq (pv 3)))))),?_⟩
  have per:=WL.dt kp.toKept (e:=(u,v)) hJ
  have hNl:=mN kp (e:=(u,v)) hJ
  have hnd:=WL.jG kp (e:=(u,v)) hJ
  have hrnd:=per.rnd
  generalize hN:(WL.rnd S (u,v)).length=N at per hNl hrnd
  have g:=WL.bw S kp.toKept
  refine⟨_,rfl,(by show 1<=Hr;decide),λc hc=>?_⟩
  refine⟨_,rfl,_,rfl,?_⟩
  refine⟨λmm σ H'=>ak H H'/\∃t v6 v7,mm=N-t/\t<N/\σ=[some (.ref R),some (.int (u:Int)),some (.int (v:Int)),some (.ref c),some (.int ((WL.iter (WL.aj S) (u,v) t).1:Int)),some (.int ((WL.iter (WL.aj S) (u,v) t).2:Int)),v6,v7]/\H' c=some (.lst (iV (nI ((WL.seg (WL.aj S) (u,v) 0 (t+1)).map (·.1))))),
   ⟨N,aG hc,0,none,none,rfl,per.pos,rfl,ae⟩,?_⟩
  rintro mm σ H' ⟨hS,t,v6,v7,rfl,ht,rfl,hcc⟩
  refine⟨_,rfl,_,rfl,rfl,_,rfl,aV (λc1=>?_) (λc1=>?_)⟩
  ·have c1:(WL.iter (WL.aj S) (u,v) t).2≠u:=λz=>by
    rw[z,dqt rfl]at c1
    exact absurd c1 (by decide)
   have ht2:t+1<N:=by
    refine bcn λz=>c1 ?_
    have e:t+1=N:=by lia
    have:=per.back
    rw[<-e]at this
    have h2:=WL.dY (WL.aj S) (u,v) t
    rw[this]at h2
    exact h2.symm
   have hJt:=fg kp.toKept (e:=(u,v)) hJ t
   generalize hxy:WL.iter (WL.aj S) (u,v) t=xy at c1 hJt
   obtain⟨x,y⟩:=xy
   have hy:y<S.pts.length:=(g.lt (g.symm hJt))
   obtain⟨b,hb⟩:∃b,as[y]? = some b:=⟨as[y]'(by lia),gge _⟩
   refine⟨λσ' H'=>ak H H'/\∃t' v6 v7,t+1=t'/\t'<N/\σ'=[some (.ref R),some (.int (u:Int)),some (.int (v:Int)),some (.ref c),some (.int ((WL.iter (WL.aj S) (u,v) t').1:Int)),some (.int ((WL.iter (WL.aj S) (u,v) t').2:Int)),v6,v7]/\H' c=some (.lst (iV (nI ((WL.seg (WL.aj S) (u,v) 0 (t'+1)).map (·.1))))),?_,?_⟩
   ·rintro σ' H2 ⟨hS2,t',w6,w7,rfl,h2,h3,h4⟩
    exact⟨N-(t+1),by lia,hS2,t+1,w6,w7,rfl,h2,h3,h4⟩
   refine⟨_,rfl,.inl ⟨rfl,_,SqL.of hcc⟩,_,rfl,c,_,_,rfl,rfl,hcc,?_,?_⟩
   ·rw[bS,lmp,WL.cJ]
    exact a6 (by lia)
   have s2:ak H (upd H' c (.lst (iV (nI ((WL.seg (WL.aj S) (u,v) 0 (t+1)).map (·.1)))++[.int (y:Int)]))):=aQ hS hc
   have hc2:(upd H' c (.lst (iV (nI ((WL.seg (WL.aj S) (u,v) 0 (t+1)).map (·.1)))++[.int (y:Int)]))) c=some (.lst (iV (nI ((WL.seg (WL.aj S) (u,v) 0 (t+1+1)).map (·.1))))):=by
    rw[ae,WL.eX _ _ (t+1) 1 0,HI]
    have e1:(WL.seg (WL.aj S) (u,v) (0+(t+1)) 1).map (·.1)=[y]:=by
     show [(WL.iter (WL.aj S) (u,v) (0+(t+1))).1]=[y]
     rw[Jy,WL.dY,hxy]
    rw[e1,gO]
   generalize upd H' c (.lst (iV (nI ((WL.seg (WL.aj S) (u,v) 0 (t+1)).map (·.1)))++[.int (y:Int)]))=H2 at s2 hc2
   have rw2:=hrw.same s2
   have hbr:=rw2.2 y b hb
   have hmem:x∈WL.aj S y:=(WL.cI kp.toKept).mem.2 (g.symm hJt)
   have hidx:=List.idxOf_lt_length_iff.2 hmem
   refine⟨_,rfl,_,rfl,R,_,_,_,rfl,rfl,SqL.of rw2.1,aE (j:=y) rfl (aO hb),?_⟩
   refine⟨_,rfl,_,rfl,.inl ⟨rfl,_,SqL.of hbr⟩,_,rfl,b,_,_,(WL.aj S y).idxOf x,_,rfl,rfl,SqL.of hbr,rfl,?_,lq hidx,?_,?_,_,_,rfl,rfl,b,_,_,_,rfl,rfl,SqL.of hbr,xG hmem,?_⟩
   ·rw[IL]
    intro z hz
    unfold iV nI at hz
    rw[HM]at hz
    obtain⟨q,_,rfl⟩:=hz
    rfl
   ·show(((WL.aj S y)[(WL.aj S y).idxOf x]:Int)==(x:Int))=true
    rw[List.getElem_idxOf hidx]
    exact beq_self_eq_true _
   ·intro i z hi hz
    obtain⟨q,hq,rfl⟩:=kF hz
    show((q:Int)==(x:Int))=false
    rw[Jf]
    intro hqx
    have hqx:q=x:=by lia
    subst hqx
    obtain⟨hil,hq⟩:=gsi hq
    have h9:=List.not_of_lt_findIdx (p:=λz=>z==q) (xs:=WL.aj S y) hi
    rw[hq]at h9
    simp at h9
   refine⟨_,rfl,_,rfl,s2,t+1,some (.ref b),some (.int (WL.bJ (WL.aj S y) x:Int)),rfl,ht2,?_,hc2⟩
   have e1:WL.iter (WL.aj S) (u,v) (t+1)=(y,WL.bJ (WL.aj S y) x):=by
    rw[WL.gd,hxy]
    rfl
   rw[e1]
   rfl
  ·have c1:(WL.iter (WL.aj S) (u,v) t).2=u:=bcn λz=>c1 (by
    rw[dqf (λy=>z (by have:=V.int.inj y;lia))]
    rfl)
   have e:t+1=N:=by
    refine bcn λz=>?_
    have h0:(WL.rnd S (u,v))[0]? = some u:=by
     rw[hrnd,Hw,kM _ _ N 0 0 per.pos]
     rfl
    have h1:(WL.rnd S (u,v))[t+1]? = some u:=by
     rw[hrnd,Hw,kM _ _ N 0 (t+1) (by lia),Jy]
     show some (WL.iter (WL.aj S) (u,v) (t+1)).1=_
     rw[WL.dY,c1]
    obtain⟨l0,g0⟩:=gsi h0
    obtain⟨l1,g1⟩:=gsi h1
    exact HQ.1 hnd 0 (t+1) l0 l1 (by lia) (by rw[g0,g1])
   refine⟨_,rfl,k H' c hS hc ?_⟩
   rw[hcc,e,hrnd]
def mf (H:Hp)(r:Hm)(as ps:List Hm)(cs:List Nat):Prop:=H r=some (.lst (as.map V.ref))/\as.length=cs.length/\∀(i:Nat) (b:Hm) (x:Nat),as[i]? = some b->cs[i]? = some x->ps[x]? = some b
theorem mf.pl {H:Hp}{r p:Hm}{as ps:List Hm}{cs:List Nat}{S:Gla.Plan}(h:mf H r as ps cs)(hp:nV K H p ps S):PL K H r (cs.map S.pt):=by
 obtain⟨h1,h2,h3⟩:=h
 refine⟨as,SqL.of h1,by rw[lmp,h2],λi b q e1 e2=>?_⟩
 have hil:i<cs.length:=by rw[<-h2];exact(gsi e1).1
 rw[Hw,gge hil]at e2
 have e2:=osi e2
 rw[<-e2]
 exact hp.2.2 _ b (h3 i b _ e1 (gge hil))
def z8 (K:IN):Sp:=λvs H Q _=>∃(p c:Hm) (ps:List Hm) (S:Gla.Plan) (cs:List Nat),vs=[.ref p,.ref c]/\nV K H p ps S/\H c=some (.lst (iV (nI cs)))/\(∀x∈cs,x<S.pts.length)/\cs.length<=100000 /\
 ∀(H':Hp) (r:Hm) (as:List Hm),ak H H'->H r=none->mf H' r as ps cs->Q (.ref r) H'
theorem Cd:aw ["points","corners","corner"] ["points","corners"] (ag fw):=fsk
theorem Gi (F:Has K mg "points_at" fw ["points","corners"]):Cb P w K mg base 1 "points_at" ["points","corners"] (z8 K):=by
 refine F.cb Cd (λvs H Q E h=>?_) (λ_ _ A _ s H vs Q E hr h=>?_)
 ·obtain⟨p,c,ps,S,cs,rfl,_⟩:=h
  rfl
 ·obtain⟨p,c,ps,S,cs,rfl,hp,hc,hcn,hcl,k⟩:=h
  refine⟨_,af (aq (tX (own:=[("corner",2)]) (te:=tOp (sT K) (a4 0) (a4 2)) rfl Cd.nd (bF (pv 1)) (bG (by show gR ["points","corners","corner"] (ag fw) _ _=true;decide +kernel))
   (λ_ _ _ _ _=>au (i:=2) Cd.nd rfl (.inl rfl)) (λ_ _ _ _ _=>ee) (λ_ _ _ _ _=>aB aU (pv 0) (pv 2) (λ_ _=>rfl)))),?_⟩
  refine⟨_,rfl,c,rfl,⟨_,SqL.of hc⟩,λD hD=>?_⟩
  refine fU (K:=K) (a:=c) (xs:=iV (nI cs)) (λi H'=>∃as:List Hm,ak H H'/\H' D=some (.lst (as.map V.ref))/\as.length=i/\∀(j:Nat) (b:Hm) (x:Nat),as[j]? = some b->cs[j]? = some x->ps[x]? = some b)
   ⟨[],aG hD,ae,rfl,λj b x e=>by simp at e⟩ (λi H' _ h=>by obtain⟨as,h1,_⟩:=h;exact SqL.of (h1 _ _ hc)) ?_ ?_
  ·rintro i y H' hi ⟨as,hS,hDl,hal,hat⟩
   obtain⟨x,hix,rfl⟩:=kF hi
   have hil:i<cs.length:=(gsi hix).1
   obtain⟨b,hb⟩:=hp.has (hcn x (Ic hix))
   refine⟨rfl,mB (eT ?_)⟩
   refine⟨_,rfl,_,rfl,p,_,_,_,rfl,rfl,SqL.of (hp.same hS).1,aE (j:=x) rfl (aO hb),_,hDl,?_,as++[b],aQ hS hD,?_,?_,?_⟩
   ·rw[lmp]
    exact a6 (by lia)
   ·rw[ae,HI]
    rfl
   ·rw[Hn,hal]
    rfl
   ·intro j q z e1 e2
    by_cases cj:j<as.length
    ·rw[HE cj]at e1
     exact hat j q z e1 e2
    ·have hj:=(gsi e1).1
     rw[Hn]at hj
     have ej:j=as.length:=by simp at hj;lia
     subst ej
     rw[HC (nlr _),IJ]at e1
     have e1:b=q:=osi e1
     rw[hal,hix]at e2
     have e2:=osi e2
     rw[<-e1,<-e2]
     exact hb
  rintro H' ⟨as,hS,hDl,hal,hat⟩
  rw[bS]at hal
  exact k H' D as hS hD ⟨hDl,hal,hat⟩
def prF (S:Gla.Plan)(x:Nat×Nat):Int:=((S.pt x.1).x:Int)*((S.pt x.2).y:Int)-((S.pt x.2).x:Int)*((S.pt x.1).y:Int)
theorem vg (S:Gla.Plan)(x:Nat×Nat):prF S x=crs (S.pt x.1) (S.pt x.2):=by
 unfold prF crs
 rw[Jz ((S.pt x.2).x:Int)]
theorem nR (S:Gla.Plan)(c:Nat):∀(r:List Nat) (a:Nat),((((a :: r).zip (r++[c])).map (prF S)).foldr (λ(a b:Int)=>a+b) 0)=dC (S.pt a) (r.map S.pt)+crs (S.pt ((a :: r).getLast (by simp))) (S.pt c)
 |[],a=>by
  show prF S (a,c)+0=0+crs (S.pt a) (S.pt c)
  rw[vg]
  show crs (S.pt a) (S.pt c)+0=_
  lia
 |b :: r,a=>by
  show prF S (a,b)+((((b :: r).zip (r++[c])).map (prF S)).foldr (λ(a b:Int)=>a+b) 0)=(crs (S.pt a) (S.pt b)+dC (S.pt b) (r.map S.pt))+crs (S.pt ((a :: b :: r).getLast (by simp))) (S.pt c)
  have e:(a :: b :: r).getLast (by simp)=(b :: r).getLast (by simp):=List.getLast_cons (by simp)
  rw[nR S c r b,vg,e]
  show crs (S.pt a) (S.pt b)+_=_
  lia
theorem rT {S:Gla.Plan}{a:Nat}{r:List Nat}{init:List Pt}{l:Pt}(h:(a :: r).map S.pt=init++[l]):l=S.pt ((a :: r).getLast (by simp)):=by
 have e1:((a :: r).map S.pt).getLast? = some l:=by rw[h,List.getLast?_concat]
 rw[List.getLast?_map,List.getLast?_eq_some_getLast (by simp)]at e1
 exact(osi e1).symm
theorem An (S:Gla.Plan){cs:List Nat}{init:List Pt}{l:Pt}(h:cs.map S.pt=init++[l]):dC l (cs.map S.pt)=Gla.twiceArea S cs:=by
 cases cs with
 |nil=>simp at h
 |cons a r =>
  have e:Gla.twiceArea S (a :: r)=((((a :: r).zip (r++[a])).map (prF S)).foldr (λ(a b:Int)=>a+b) 0):=rfl
  rw[e,nR,rT h]
  show crs _ (S.pt a)+dC (S.pt a) (r.map S.pt)=_
  lia
def prB (S:Gla.Plan)(z:Pt)(x:Nat×Nat):Bool :=
 let p:=S.pt x.1
 let q:=S.pt x.2
 (decide (p.y<=z.y)&&(decide (z.y<q.y)&&decide (0<Jo p q z)))||(decide (q.y<=z.y)&&(decide (z.y<p.y)&&decide (Jo p q z<0)))
theorem xi (p q z:Pt):Jo q p z=- Jo p q z:=by
 unfold Jo Gla.dx Gla.dy
 grind
theorem wa (S:Gla.Plan)(z:Pt)(x:Nat×Nat):prB S z x=dg (S.pt x.1) (S.pt x.2) z:=by
 unfold prB dg
 have e:=xi (S.pt x.1) (S.pt x.2) z
 rw[e,Ip]
 simp only[Jq,Hu,Hv]
 split
 ·rename_i h
  rw[Hv]
  constructor
  ·rintro(h1|h1)
   ·exact h1.2.2
   ·lia
  ·exact λh1=>.inl ⟨h.1,h.2,h1⟩
 ·rename_i h
  split
  ·rename_i h2
   rw[Hv]
   constructor
   ·rintro(h1|h1)
    ·lia
    ·have:=h1.2.2
     lia
   ·exact λh1=>.inr ⟨h2.1,h2.2,by lia⟩
  ·rename_i h2
   constructor
   ·rintro(h1|h1)
    ·lia
    ·lia
   ·intro h1
    cases h1
def qG (n:Nat):Bool:=decide (n % 2=1)
theorem yh (n:Nat):qG (n+1)=!qG n:=by
 unfold qG
 rw[<-decide_not,HK]
 lia
theorem sR {α:Type}(q:α->Bool)(x:α)(l:List α):qG ((x :: l).filter q).length=(q x^^qG (l.filter q).length):=by
 by_cases c:q x=true
 ·rw[KL c,HW,yh,c,Bool.true_xor]
 ·rw[KM c,cN c,IQ]
theorem sW (S:Gla.Plan)(z:Pt)(c:Nat):∀(r:List Nat) (a:Nat),qG (((a :: r).zip (r++[c])).filter (prB S z)).length=(fH z (S.pt a) (r.map S.pt)^^dg (S.pt ((a :: r).getLast (by simp))) (S.pt c) z)
 |[],a=>by
  show qG (((a,c) :: []).filter (prB S z)).length=(false^^dg (S.pt a) (S.pt c) z)
  rw[sR,wa]
  show(_^^false)=_
  rw[Jl,IQ]
 |b :: r,a=>by
  show qG (((a,b) :: ((b :: r).zip (r++[c]))).filter (prB S z)).length=((dg (S.pt a) (S.pt b) z^^fH z (S.pt b) (r.map S.pt))^^dg (S.pt ((a :: b :: r).getLast (by simp))) (S.pt c) z)
  have e:(a :: b :: r).getLast (by simp)=(b :: r).getLast (by simp):=List.getLast_cons (by simp)
  rw[sR,sW S z c r b,wa,e,Bool.xor_assoc]
theorem EB (S:Gla.Plan)(z:Pt){cs:List Nat}{init:List Pt}{l:Pt}(h:cs.map S.pt=init++[l]):fH z l (cs.map S.pt)=K9 S cs z:=by
 cases cs with
 |nil=>simp at h
 |cons a r =>
  have e:K9 S (a :: r) z=qG (((a :: r).zip (r++[a])).filter (prB S z)).length:=rfl
  rw[e,sW,rT h]
  show(dg _ (S.pt a) z^^fH z (S.pt a) (r.map S.pt))=_
  rw[Ks]
theorem wE {S:Gla.Plan}(k:WL.Kept S){e:Nat×Nat}(he:(WL.ab S).J e.1 e.2):(WL.orb S e).Nodup:=by
 have per:=WL.dt k he
 rw[per.orb]
 rw[List.Nodup,HQ]
 intro i j hi hj hij
 rw[WL.cJ]at hi hj
 have e1:=(gsi (kM (WL.aj S) e _ 0 i hi)).2
 have e2:=(gsi (kM (WL.aj S) e _ 0 j hj)).2
 rw[e1,e2]
 exact per.dist (0+i) (0+j) (by lia) (by lia)
theorem qR {S:Gla.Plan}(k:WL.Kept S):∀{D:List (Nat×Nat)},(∀x∈D,(WL.ab S).J x.1 x.2)->(WL.bN S D).1.Nodup:=by
 intro D
 generalize hn:D.length=n
 induction n generalizing D with
 |zero =>
  intro _
  have:D=[]:=JD.1 hn
  subst this
  exact List.nodup_nil
 |succ n ih =>
  intro hD
  rcases Kw D with h|⟨D',e,h⟩
  ·subst h;simp at hn
  ·rw[K4]at h
   subst h
   have hD':∀x∈D',(WL.ab S).J x.1 x.2:=λx hx=>hD x (by simp[hx])
   have he:=hD e (by simp)
   have ok:=WL.iJ k hD'
   have nd:=ih (by simpa using hn) hD'
   rw[WL.gw]
   unfold WL.kt
   by_cases hw:e∈(WL.bN S D').1
   ·rw[Hz hw]
    exact nd
   ·rw[Hs hw]
    show((WL.bN S D').1++WL.orb S e).Nodup
    rw[JK]
    refine⟨nd,wE k he,λx hx y hy hxy=>hw ?_⟩
    subst hxy
    obtain⟨e',he',hx'⟩:=(ok.walked x).1 hx
    exact(ok.walked e).2 ⟨e',he',WL.eV k (hD' e' he') hx' (WL.dz k he hy)⟩
theorem oe {S:Gla.Plan}(k:WL.Kept S){D:List (Nat×Nat)}(hD:∀x∈D,(WL.ab S).J x.1 x.2):(WL.bN S D).1.length<=2*S.lines.length:=by
 rw[<-WL.jl]
 refine WL.bv (qR k hD) λx hx=>?_
 obtain⟨e,he,hxe⟩:=((WL.iJ k hD).walked x).1 hx
 exact WL.g9.2 (WL.fu k (hD e he) hxe)
def bef (cs:List Nat)(k:Nat):Nat:=if k=0 then cs.getLast?.getD 0 else cs.getD (k-1) 0
def mG (cs:List Nat)(k:Nat):List (Nat×Nat):=(HS k).map λi=>(bef cs i,cs.getD i 0)
theorem qw (cs:List Nat)(k:Nat):mG cs (k+1)=mG cs k++[(bef cs k,cs.getD k 0)]:=by
 unfold mG
 rw[Ki,HI]
 rfl
theorem qZ {cs:List Nat}{j:Nat}(h:j<cs.length):(WL.prs cs)[j]? = some (cs.getD j 0,cs.getD (if j+1=cs.length then 0 else j+1) 0):=by
 unfold WL.prs
 have hl:(cs.drop 1++cs.take 1).length=cs.length:=by
  rw[Hn,Il,Iv]
  lia
 rw[gge (by rw[JU,hl];lia),KN]
 congr 2
 ·rw[Hx,gge h]
  rfl
 ·split
  ·rename_i c
   rw[List.getElem_append_right (by rw[Il];lia)]
   rw[List.getElem_take,Hx,gge (by lia)]
   simp only[Il,Option.getD_some]
   congr 1
   lia
  ·rename_i c
   rw[List.getElem_append_left (by rw[Il];lia),KF,Hx,gge (by lia)]
   simp only[Option.getD_some]
   congr 1
   lia
theorem t9 (cs:List Nat):(WL.prs cs).length=cs.length:=by
 unfold WL.prs
 rw[JU,Hn,Il,Iv]
 lia
theorem qz {cs:List Nat}:cs.getLast?.getD 0=cs.getD (cs.length-1) 0:=by
 rw[List.getLast?_eq_getElem?,Hx]
theorem kn (cs:List Nat)(x:Nat×Nat):x∈mG cs cs.length↔x∈WL.prs cs:=by
 unfold mG
 rw[HM,Kr]
 constructor
 ·rintro⟨i,hi,rfl⟩
  have hi:=Ix.1 hi
  by_cases c:i=0
  ·subst c
   refine⟨cs.length-1,?_⟩
   rw[qZ (by lia),Hz (by lia)]
   unfold bef
   rw[Hz rfl,qz]
  ·refine⟨i-1,?_⟩
   rw[qZ (by lia),Hs (by lia),Nat.sub_add_cancel (by lia)]
   unfold bef
   rw[Hs c]
 ·rintro⟨j,hj⟩
  have hjl:=(gsi hj).1
  rw[t9]at hjl
  rw[qZ hjl]at hj
  have hj:=osi hj
  by_cases c:j+1=cs.length
  ·refine⟨0,Ix.2 (by lia),?_⟩
   rw[<-hj,Hz c]
   unfold bef
   rw[Hz rfl,qz]
   congr 2
   lia
  ·refine⟨j+1,Ix.2 (by lia),?_⟩
   rw[<-hj,Hs c]
   unfold bef
   rw[Hs (by lia),Nat.add_sub_cancel]
theorem LD.same_mem {kvs:List (List L2.Key×V)}{L L':List (Nat×Nat)}(h:LD kvs L)(e:∀x,x∈L↔x∈L'):LD kvs L':=λx=>by
 rw[h x,HK]
 exact e x
theorem vf {cs:List Nat}{k:Nat}(h:k<cs.length):atI (iV (nI cs)) ((k:Int)-1)=some (.int (bef cs k:Int)):=by
 unfold bef
 by_cases c:k=0
 ·subst c
  rw[Hz rfl]
  obtain⟨init,z,e⟩:=ku (λq:cs=[]=>by rw[q]at h;simp at h)
  rw[e,gO,List.getLast?_concat]
  exact oR _ _
 ·rw[Hs c]
  have ez:((k:Int)-1)=((k-1:Nat):Int):=by lia
  rw[ez,Hx,gge (by lia)]
  exact qC (lq (by lia))
def uR (S:Gla.Plan)(i:Nat):List (Nat×Nat):=(HS i).flatMap λi=>(WL.aj S i).map λj=>(i,j)
def dTo (S:Gla.Plan)(i j:Nat):List (Nat×Nat):=uR S i++((WL.aj S i).take j).map λj=>(i,j)
theorem x9 (S:Gla.Plan)(i:Nat):dTo S i 0=uR S i:=by
 unfold dTo
 rw[List.take_zero]
 exact Iq _
theorem yP (S:Gla.Plan)(i:Nat):dTo S i (WL.aj S i).length=uR S (i+1):=by
 unfold dTo uR
 rw[IU,Ki,KJ]
 congr 1
 show _=_++[]
 rw[Iq]
theorem yN {S:Gla.Plan}{i j x:Nat}(h:(WL.aj S i)[j]? = some x):dTo S i (j+1)=dTo S i j++[(i,x)]:=by
 unfold dTo
 rw[bu h,HI,Kd]
 rfl
theorem Fs {S:Gla.Plan}(k:WL.Kept S){i j:Nat}:∀x∈dTo S i j,(WL.ab S).J x.1 x.2:=by
 have r:=WL.cI k
 intro x hx
 unfold dTo uR at hx
 rw[HU,J5,HM]at hx
 rcases hx with⟨q,_,hq⟩|⟨y,hy,rfl⟩
 ·rw[HM]at hq
  obtain⟨y,hy,rfl⟩:=hq
  exact r.mem.1 hy
 ·exact r.mem.1 (Jd hy)
theorem vO {S:Gla.Plan}(k:WL.Kept S):∀{D:List (Nat×Nat)},(∀x∈D,(WL.ab S).J x.1 x.2)->(WL.bN S D).2.length<=(WL.bN S D).1.length:=by
 intro D
 generalize hn:D.length=n
 induction n generalizing D with
 |zero =>
  intro _
  have:D=[]:=JD.1 hn
  subst this
  exact nlr _
 |succ n ih =>
  intro hD
  rcases Kw D with h|⟨D',e,h⟩
  ·subst h;simp at hn
  ·rw[K4]at h
   subst h
   have hD':∀x∈D',(WL.ab S).J x.1 x.2:=λx hx=>hD x (by simp[hx])
   have he:=hD e (by simp)
   have le:=ih (by simpa using hn) hD'
   rw[WL.gw]
   unfold WL.kt
   split
   ·exact le
   ·have ho:0<(WL.orb S e).length:=List.length_pos_of_mem (WL.ii k he)
    show(if _ then _ else _:List (List Nat)).length<=((WL.bN S D').1++WL.orb S e).length
    rw[Hn]
    split
    ·rw[Hn,K0]
     lia
    ·lia
def dS (H:Hp)(O:Hm)(os:List Hm)(L:List (List Nat)):Prop:=H O=some (.lst (os.map V.ref))/\os.length=L.length/\∀(j:Nat) (b:Hm) (l:List Nat),os[j]? = some b->L[j]? = some l->b≠O/\H b=some (.lst (iV (nI l)))
theorem dS.same {H H':Hp}{O:Hm}{os:List Hm}{L:List (List Nat)}(h:dS H O os L)(s:ak H H'):dS H' O os L:=⟨s _ _ h.1,h.2.1,λj b l e1 e2=>⟨(h.2.2 j b l e1 e2).1,s _ _ (h.2.2 j b l e1 e2).2⟩⟩
theorem dS.updW {H:Hp}{O W:Hm}{os:List Hm}{L:List (List Nat)}{q q':List (List L2.Key×V)}(h:dS H O os L)(hW:H W=some (.dT q)):dS (upd H W (.dT q')) O os L:=by
 refine⟨?_,h.2.1,λj b l e1 e2=>⟨(h.2.2 j b l e1 e2).1,?_⟩⟩
 ·rw[ao (λz=>by have:=h.1;rw[z,hW]at this;cases this)]
  exact h.1
 ·have hb:=(h.2.2 j b l e1 e2).2
  rw[ao (λz=>by rw[z,hW]at hb;cases hb)]
  exact hb
theorem dS.push {H:Hp}{O c:Hm}{os:List Hm}{L:List (List Nat)}{l:List Nat}(h:dS H O os L)(hc:H c=some (.lst (iV (nI l))))(nc:c≠O):dS (upd H O (.lst (os.map V.ref++[.ref c]))) O (os++[c]) (L++[l]):=by
 refine⟨by rw[ae,HI];rfl,by rw[Hn,Hn,h.2.1];rfl,λj b l' e1 e2=>?_⟩
 by_cases cj:j<os.length
 ·rw[HE cj]at e1
  rw[HE (by rw[<-h.2.1];exact cj)]at e2
  obtain⟨n1,n2⟩:=h.2.2 j b l' e1 e2
  exact⟨n1,by rw[ao n1];exact n2⟩
 ·have hj:=(gsi e1).1
  rw[Hn]at hj
  have ej:j=os.length:=by simp at hj;lia
  subst ej
  rw[HC (nlr _),IJ]at e1
  rw[h.2.1,HC (nlr _),IJ]at e2
  have e1:c=b:=osi e1
  have e2:l=l':=osi e2
  subst e1 e2
  exact⟨nc,by rw[ao nc];exact hc⟩
structure OSt (H H':Hp)(W O:Hm)(S:Gla.Plan)(D:List (Nat×Nat))(kvs:List (List L2.Key×V))(os:List Hm):Prop where
 sm:ak H H'
 w:H' W=some (.dT kvs)
 ld:LD kvs (WL.bN S D).1
 ln:kvs.length<=(WL.bN S D).1.length
 o:dS H' O os (WL.bN S D).2
theorem OSt.same {H H' H'':Hp}{W O:Hm}{S:Gla.Plan}{D:List (Nat×Nat)}{kvs:List (List L2.Key×V)}{os:List Hm}(h:OSt H H' W O S D kvs os)(s:ak H' H''):OSt H H'' W O S D kvs os:=⟨h.sm.trans s,s _ _ h.w,h.ld,h.ln,h.o.same s⟩
def BI (C:Hm):Sp:=λvs H Q _=>∃(a:Hm) (S:Gla.Plan),vs=[.ref a]/\bC C H a S/\SB S/\WL.cp S/\∀(H':Hp) (O:Hm) (os:List Hm),ak H H'->dS H' O os (WL.cG S)->Q (.ref O) H'
theorem ik:aw ["drawing","points","rings","walked","outlines","first","ring","second","corners","k","corner","ends"] ["drawing"] (ag d5):=fsk
theorem CZ (F:Has K mg "outlines_of" d5 ["drawing"]) (T:DCl K mg C) (ge:mg "enumerate"=none) (CN:Cb P w K mg base 1 "neighbours_of" ["drawing"] (Cc C)) (CR:Cb P w K mg base 3 "ring_round" ["points","middle","ends"] (DL K)) (CW:Cb P w K mg base 1 "walk_round" ["rings","first","second"] FR) (CA:Cb P w K mg base 1 "twice_area" ["corners"] (yy K)) (CP:Cb P w K mg base 1 "points_at" ["points","corners"] (z8 K)) :
  Cb P w K mg base 4 "outlines_of" ["drawing"] (BI C):=by
 refine F.cb ik (λvs H Q E h=>?_) (λ_ _ A _ s H vs Q E hr h=>?_)
 ·obtain⟨a,S,rfl,_⟩:=h
  rfl
 ·obtain⟨a,S,rfl,hd,sb,kp,k⟩:=h
  obtain⟨dx,p,l,m,ps,ls,ms,o⟩:=hd.op (K:=K)
  have hr1:bA 1 _:=hr.mono (by decide)
  have hu:=hr.units
  have np:=sb.np
  have nl:=sb.nl
  have kk:=kp.toKept
  have hlo:gG S:=λl hl=>kk.line hl
  refine⟨_,ac (aC (i:=1) ik.nd rfl (.inr rfl) (aS (pv 0) rfl))
   (ac (b9 (i:=2) (own:=[("k",9),("ends",11)]) (g:=g2 K 9 11) (te:=jR (DL K) [] E0 (br (a4 1) (br (a4 9) (br (a4 11) fI)))) rfl ik.nd rfl rfl (dm rfl rfl rfl (by decide +kernel)) (dG rfl ge (aa (aJ CN hr1 (aa (pv 0) ad)) ad)) (bG (by show gR ["drawing","points","rings","walked","outlines","first","ring","second","corners","k","corner","ends"] (ag d5) _ _=true;decide +kernel))
    (λ_ _ _ _ _=>cC (n:=2) rfl (aH (au (i:=9) ik.nd rfl (.inl rfl) (.inr rfl)) (aH (au (i:=11) ik.nd rfl (.inl rfl) (.inr rfl)) bL))) (λ_ _ _ _ _=>ee) (λ_ _ _ _ _=>aJ CR hr (aa (pv 1) (aa (pv 9) (aa (pv 11) ad)))))
   (ac (aC (i:=3) ik.nd rfl (.inl rfl) kU)
   (ac (aC (i:=4) ik.nd rfl (.inl rfl) (eo ad))
   (ac (bf HJ rfl (dG rfl ge (aa (pv 2) ad)) (cC (n:=2) rfl (aH (au (i:=5) ik.nd rfl (.inl rfl)) (aH (au (i:=6) ik.nd rfl (.inl rfl)) bL)))
    (af (bf HJ rfl (bF (pv 6)) (au (i:=7) ik.nd rfl (.inl rfl))
     (af (a8 (ua (qr (Iu (Ju (by decide) _) hu) (bn (aa (pv 5) (aa (pv 7) ad))) (pv 3)))
      (ac (aC (i:=8) ik.nd rfl (.inl rfl) (aJ CW hr1 (aa (pv 2) (aa (pv 5) (aa (pv 7) ad)))))
      (ac (bf HJ rfl (dG rfl ge (aa (pv 8) ad)) (cC (n:=2) rfl (aH (au (i:=9) ik.nd rfl (.inl rfl)) (aH (au (i:=10) ik.nd rfl (.inl rfl)) bL)))
       (af (kG (Iu (Ju (by decide) _) hu) (pv 3) (bn (aa (aB aU (pv 8) (aW eh (pv 9) ah) (λ_ _=>rfl)) (aa (pv 10) ad))) eC rfl)))
      (af (a8 (aM eD (aJ CA hr1 (aa (aJ CP hr1 (aa (pv 1) (aa (pv 8) ad))) ad)) ah (aL _))
       (af (iS (kP IE JZ J0 hU (pv 4) (aa (pv 8) ad)))) aN))))
      aN)))))
   (af (aq (pv 4))))))),?_⟩
  refine⟨_,rfl,a,C,dx,_,_,rfl,o.at_,T.cl,T.nP,i7,?_⟩
  refine⟨_,rfl,a,S,rfl,hd,sb,hlo,λH1 N nas hN hNl=>?_⟩
  have s1:=hN.sm
  have rw1:=hN.rw
  refine⟨N,_,rfl,SqL.of rw1.1,λD hD=>?_⟩
  refine Ax (K:=K) (a:=N) (xs:=nas.map V.ref) (λi H'=>∃as:List Hm,ak H1 H'/\H' D=some (.lst (as.map V.ref))/\as.length=i/\∀(j:Nat) (b:Hm),as[j]? = some b->b≠D/\H' b=some (.lst (iV (nI (WL.aj S j)))))
   ⟨[],aG hD,ae,rfl,λj b e=>by simp at e⟩ (λi H' _ h=>by obtain⟨as,h1,_⟩:=h;exact SqL.of (h1 _ _ rw1.1)) ?_ ?_
  ·rintro i y T' H' hi hT ⟨as,hS,hDl,hal,hat⟩
   obtain⟨b,hb,rfl⟩:=bR hi
   have hil:i<S.pts.length:=by rw[<-hNl];exact(gsi hb).1
   have s2:ak H' (upd H' T' (.tup [.int (i:Nat),.ref b])):=aG hT
   refine⟨T',_,rfl,SqT.of ae,rfl,_,_,rfl,_,_,rfl,rfl,rfl,mB (eT ?_)⟩
   generalize upd H' T' (.tup [.int (i:Nat),.ref b])=H2 at s2
   have s12:=hS.trans s2
   refine⟨_,rfl,_,rfl,_,rfl,p,b,ps,S,i,S.near i,rfl,(o.same (s1.trans s12)).ptsL sb,hil,(rw1.same s12).2 i b hb,oH hlo i hil,?_,λH3 r s3 hr0 hr3=>?_⟩
   ·have h9:(S.near i).length<=S.lines.length:=List.length_filterMap_le _ _
    lia
   have hD3:=s3 _ _ (s2 _ _ hDl)
   have nr:r≠D:=λz=>by rw[z,s2 _ _ hDl]at hr0;cases hr0
   refine⟨as.map V.ref,hD3,by rw[lmp];exact a6 (by lia),as++[r],aQ (s12.trans s3) hD,?_,by rw[Hn,hal];rfl,λj c e=>?_⟩
   ·rw[ae,HI]
    rfl
   ·by_cases cj:j<as.length
    ·rw[HE cj]at e
     obtain⟨n1,n2⟩:=hat j c e
     exact⟨n1,by rw[ao n1];exact s3 _ _ (s2 _ _ n2)⟩
    ·have hj:=(gsi e).1
     rw[Hn]at hj
     have ej:j=as.length:=by simp at hj;lia
     subst ej
     rw[HC (nlr _),IJ]at e
     have e:r=c:=osi e
     subst e
     refine⟨nr,?_⟩
     rw[ao nr,hal]
     exact hr3
  rintro H2 ⟨as,hS2,hDl,hal,hat⟩
  rw[lmp,hNl]at hal
  have rwR:RW H2 D as (WL.aj S):=⟨hDl,λi b e=>(hat i b e).2⟩
  have sH2:=s1.trans hS2
  clear hat hDl hS2
  refine λW hW=>?_
  refine⟨(by show 0<=Hr;decide),λO hO=>?_⟩
  have nWO:W≠O:=λz=>by rw[z,ae]at hO;cases hO
  have hO2:H2 O=none:=by rw[ao nWO.symm]at hO;exact hO
  have z0:OSt H2 (upd (upd H2 W (.dT [])) O (.lst [])) W O S (uR S 0) [] []:=⟨aQ (aG hW) hO2,by rw[ao nWO];exact ae,λx=>rfl,IH _,ae,rfl,λj b l e=>by simp at e⟩
  generalize upd (upd H2 W (.dT [])) O (.lst [])=H3 at z0
  refine⟨_,rfl,D,_,rfl,SqL.of (rwR.same z0.sm).1,cU (K:=K) (a:=D) (xs:=as.map V.ref) (λi σ H'=>(∃v5 v6 v7 v8 v9 v10,σ=[some (.ref a),some (.ref p),some (.ref D),some (.ref W),some (.ref O),v5,v6,v7,v8,v9,v10,none])/\∃kvs os,OSt H2 H' W O S (uR S i) kvs os)
   ⟨⟨none,none,none,none,none,none,rfl⟩,[],[],z0⟩ (λi σ H' _ h=>by obtain⟨_,kvs,os,h⟩:=h;exact SqL.of (rwR.same h.sm).1) ?_ ?_⟩
  ·rintro i y T' σ H' hi hT ⟨⟨v5,v6,v7,v8,v9,v10,rfl⟩,kvs0,os0,z⟩
   obtain⟨b,hb,rfl⟩:=bR hi
   have hil:i<S.pts.length:=by rw[<-hal];exact(gsi hb).1
   have s2:ak H' (upd H' T' (.tup [.int (i:Nat),.ref b])):=aG hT
   refine⟨T',_,rfl,SqT.of ae,rfl,_,_,rfl,_,_,rfl,rfl,?_⟩
   have z1:=z.same s2
   generalize upd H' T' (.tup [.int (i:Nat),.ref b])=H4 at z1
   rw[<-x9]at z1
   refine⟨_,rfl,b,rfl,⟨_,SqL.of ((rwR.same z1.sm).2 i b hb)⟩,dr (K:=K) (a:=b) (xs:=iV (nI (WL.aj S i))) (λj σ H'=>(∃v7 v8 v9 v10,σ=[some (.ref a),some (.ref p),some (.ref D),some (.ref W),some (.ref O),some (.int (i:Int)),some (.ref b),v7,v8,v9,v10,none])/\∃kvs os,OSt H2 H' W O S (dTo S i j) kvs os)
    ⟨⟨_,_,_,_,rfl⟩,_,_,z1⟩ (λj σ H' _ h=>by obtain⟨_,kvs,os,h⟩:=h;exact SqL.of ((rwR.same h.sm).2 i b hb)) ?_ ?_⟩
   ·rintro j y σ H5 hj ⟨⟨w7,w8,w9,w10,rfl⟩,kvs,os,z5⟩
    obtain⟨x,hjx,rfl⟩:=kF hj
    have hJ:(WL.ab S).J i x:=(WL.cI kk).mem.1 (Ic hjx)
    have hDJ:=Fs kk (i:=i) (j:=j)
    have hwl:=oe kk hDJ
    have hol:=vO kk hDJ
    have e1:WL.bN S (dTo S i (j+1))=WL.kt S (WL.bN S (dTo S i j)) (i,x):=by rw[yN hjx,WL.gw]
    refine⟨_,rfl,_,rfl,(by show 2<=Hr;decide),λq hq=>?_⟩
    have s6:ak H5 (upd H5 q (.tup [.int (i:Int),.int (x:Int)])):=aG hq
    have z6:=z5.same s6
    refine⟨_,rfl,W,_,rfl,jM.t (k:=lk (i,x)) z6.w ae,_,rfl,?_⟩
    generalize upd H5 q (.tup [.int (i:Int),.int (x:Int)])=H6 at z6
    rw[z6.ld]
    refine aV (λc=>?_) (λc=>?_)
    ·have c:(i,x)∉(WL.bN S (dTo S i j)).1:=λz=>by
      rw[dqt z]at c
      exact absurd c (by decide)
     have e2:WL.bN S (dTo S i (j+1))=((WL.bN S (dTo S i j)).1++WL.orb S (i,x),if 0<Gla.twiceArea S (WL.rnd S (i,x)) then (WL.bN S (dTo S i j)).2++[WL.rnd S (i,x)] else (WL.bN S (dTo S i j)).2):=by
      rw[e1]
      unfold WL.kt
      rw[Hs c]
     refine⟨_,rfl,_,rfl,_,rfl,D,as,S,i,x,rfl,rwR.same z6.sm,hal,np,kp,hJ,λH7 c7 s7 hc6 hc7=>?_⟩
     have z7:=z6.same s7
     have ncO:c7≠O:=(aP z6.o.1 hc6).symm
     have ncW:c7≠W:=(aP z6.w hc6).symm
     have hlen:=mN kp (e:=(i,x)) hJ
     have hcn:=qQ kp (e:=(i,x)) hJ
     have hprs:=WL.eK kk (e:=(i,x)) hJ
     have hol2:(WL.orb S (i,x)).length=(WL.rnd S (i,x)).length:=WL.cJ _ _ _ _
     obtain⟨tl,htl⟩:=WL.kR kk (e:=(i,x)) hJ
     have hne:WL.rnd S (i,x)≠[]:=by rw[htl];simp
     clear htl
     generalize hcs:WL.rnd S (i,x)=cs at hc7 hlen hcn hprs hol2 hne e2
     have zsm:=z7.sm
     have zw:=z7.w
     have zld:=z7.ld
     have zln:=z7.ln
     have zo:=z7.o
     generalize WL.bN S (dTo S i j)=st at c e2 hwl hol zld zln zo
     obtain⟨st1,st2⟩:=st
     have hwl:st1.length<=2*S.lines.length:=hwl
     have hol:st2.length<=st1.length:=hol
     have zld:LD kvs st1:=zld
     have zln:kvs.length<=st1.length:=zln
     have zo:dS H7 O os st2:=zo
     refine⟨_,rfl,c7,_,rfl,SqL.of hc7,cU (K:=K) (a:=c7) (xs:=iV (nI cs)) (λt σ H'=>(∃v9 v10,σ=[some (.ref a),some (.ref p),some (.ref D),some (.ref W),some (.ref O),some (.int (i:Int)),some (.ref b),some (.int (x:Int)),some (.ref c7),v9,v10,none])/\ak H2 H'/\H' c7=some (.lst (iV (nI cs)))/\(∃kv,H' W=some (.dT kv)/\LD kv (st1++mG cs t)/\kv.length<=st1.length+t)/\dS H' O os st2)
      ⟨⟨_,_,rfl⟩,zsm,hc7,⟨kvs,zw,zld.same_mem (λy=>by rw[show st1++mG cs 0=st1 from Iq _]),zln⟩,zo⟩ (λt σ H' _ h=>SqL.of h.2.2.1) ?_ ?_⟩
     ·rintro t y T2 σ H8 ht hT2 ⟨⟨u9,u10,rfl⟩,sm8,hc8,⟨kv,hw8,ld8,ln8⟩,o8⟩
      obtain⟨cx,htx,rfl⟩:=kF ht
      have htl:t<cs.length:=(gsi htx).1
      have ecx:cs.getD t 0=cx:=by rw[Hx,htx];rfl
      refine⟨T2,_,rfl,SqT.of ae,rfl,_,_,rfl,_,_,rfl,rfl,?_⟩
      have s9:ak H8 (upd H8 T2 (.tup [.int (t:Nat),.int (cx:Int)])):=aG hT2
      generalize upd H8 T2 (.tup [.int (t:Nat),.int (cx:Int)])=H9 at s9
      refine⟨_,rfl,_,rfl,_,rfl,_,_,rfl,rfl,c7,_,_,_,rfl,rfl,SqL.of (s9 _ _ hc8),vf htl,_,rfl,(by show 2<=Hr;decide),λq2 hq2=>?_⟩
      have s10:ak H9 (upd H9 q2 (.tup [.int (bef cs t:Int),.int (cx:Int)])):=aG hq2
      have s8:=s9.trans s10
      refine⟨W,_,rfl,oV.t (k:=lk (bef cs t,cx)) (s8 _ _ hw8) ae (a6 (by lia)),?_⟩
      generalize upd H9 q2 (.tup [.int (bef cs t:Int),.int (cx:Int)])=H10 at s10 s8
      refine⟨⟨_,_,rfl⟩,aQ (sm8.trans s8) hW,by rw[ao ncW];exact s8 _ _ hc8,⟨_,ae,?_,?_⟩,(o8.same s8).updW (s8 _ _ hw8)⟩
      ·rw[qw,ecx,<-Kd]
       exact ld8.put _ _
      ·have:=gE kv (lk (bef cs t,cx)) (.bl true)
       lia
     ·rintro σ H8 ⟨⟨u9,u10,rfl⟩,sm8,hc8,⟨kv,hw8,ld8,ln8⟩,o8⟩
      rw[bS]at ld8 ln8
      have ld9:LD kv (st1++WL.orb S (i,x)):=ld8.same_mem λy=>by
       rw[HU,HU,kn,hprs]
      have hsm:ak H H8:=sH2.trans sm8
      obtain⟨init,lz,einit⟩:=ku (show cs.map S.pt≠[] by simpa using hne)
      refine⟨_,rfl,_,rfl,p,c7,ps,S,cs,rfl,(o.same hsm).ptsL sb,hc8,hcn,by lia,λH9 r as9 s9 _ hsh=>?_⟩
      refine⟨r,_,init,lz,rfl,hsh.pl ((o.same (hsm.trans s9)).ptsL sb),einit,?_⟩
      rw[An S einit]
      refine⟨_,_,rfl,rfl,_,rfl,aV (λc9=>?_) (λc9=>?_)⟩
      ·have c9:=Hk c9
       have o9:=o8.same s9
       refine⟨_,rfl,.inl ⟨rfl,_,SqL.of o9.1⟩,_,rfl,O,_,_,rfl,rfl,o9.1,?_,?_⟩
       ·rw[lmp,o9.2.1]
        exact a6 (by have:st2.length<=st1.length:=hol;have:st1.length<=2*S.lines.length:=hwl;lia)
       ·refine⟨⟨_,_,_,_,rfl⟩,kv,os++[c7],aQ (sm8.trans s9) hO2,?_,?_,?_,?_⟩
        ·rw[ao nWO]
         exact s9 _ _ hw8
        ·rw[e2]
         exact ld9
        ·rw[e2]
         show kv.length<=(st1++WL.orb S (i,x)).length
         rw[Hn,hol2]
         exact ln8
        ·rw[e2]
         show dS _ O (os++[c7]) (if 0<Gla.twiceArea S cs then st2++[cs] else st2)
         rw[Hz c9]
         exact o9.push (s9 _ _ hc8) ncO
      ·have c9:=aK c9
       refine⟨⟨_,_,_,_,rfl⟩,kv,os,sm8.trans s9,s9 _ _ hw8,?_,?_,?_⟩
       ·rw[e2]
        exact ld9
       ·rw[e2]
        show kv.length<=(st1++WL.orb S (i,x)).length
        rw[Hn,hol2]
        exact ln8
       ·rw[e2]
        show dS _ O os (if 0<Gla.twiceArea S cs then st2++[cs] else st2)
        rw[Hs c9]
        exact o8.same s9
    ·have c:(i,x)∈(WL.bN S (dTo S i j)).1:=bcn λz=>c (by rw[dqf z];rfl)
     have e2:WL.bN S (dTo S i (j+1))=WL.bN S (dTo S i j):=by
      rw[e1]
      unfold WL.kt
      rw[Hz c]
     exact⟨⟨_,_,_,_,rfl⟩,kvs,os,z6.sm,z6.w,by rw[e2];exact z6.ld,by rw[e2];exact z6.ln,by rw[e2];exact z6.o⟩
   ·rintro σ H5 ⟨⟨w7,w8,w9,w10,rfl⟩,kvs,os,z5⟩
    rw[bS,yP]at z5
    exact⟨⟨_,_,_,_,_,_,rfl⟩,kvs,os,z5⟩
  ·rintro σ H' ⟨⟨v5,v6,v7,v8,v9,v10,rfl⟩,kvs,os,z⟩
   rw[lmp,hal]at z
   exact⟨_,rfl,k H' O os (sH2.trans z.sm) z.o⟩
def rS (f d o:V):List (Str×V):=fq "outlines" o (fq "drawing" d (fq "fault" f []))
theorem Cv {f d o:V}:(rS f d o).lookup ("fault" : Str)=some f:=by
 unfold rS
 rw[aI,Hs (by decide +kernel),aI,Hs (by decide +kernel),aI,Hz rfl]
theorem FL {f d o:V}:(rS f d o).lookup ("drawing" : Str)=some d:=by
 unfold rS
 rw[aI,Hs (by decide +kernel),aI,Hz rfl]
theorem GA {f d o:V}:(rS f d o).lookup ("outlines" : Str)=some o:=by
 unfold rS
 rw[aI,Hz rfl]
structure VCl (K:IN)(mg:Str->Option Value)(C:Hm):Prop where
 cl:Cls K C
 nF:eq K C "fault"
 nD:eq K C "drawing"
 nO:eq K C "outlines"
 mgC:mg "Verdict"=some (.ref C)
def we (CV:Hm)(H:Hp)(v:Hm)(fo:Option (Int×Int))(dv ov:V):Prop:=∃dx fv,H v=some (.ins CV dx (rS fv dv ov))/\lU fo fv H
theorem lU.same {o:Option (Int×Int)}{v:V}{H H':Hp}(h:lU o v H)(s:ak H H'):lU o v H':=by
 cases o with
 |none=>exact h
 |some x =>
  obtain⟨q,e,h⟩:=h
  exact⟨q,e,s _ _ h⟩
theorem AV {d:Hm}{o:Obj}{kvs:List (L2.Key×V)}{g:TG}{tt:TT}{te:TE}{vs:List Nat}{σ:L2.St}{H1:Hp}{D:Hm}{Qd:Hp->Prop}(Pv:Nat->Hp->Prop)(h0:Pv 0 (upd H1 D (.lst [])))(hl:∀i H,i<=kvs.length->Pv i H->H d=some (.frz o (.dK kvs)))
  (hs:∀i k v H,kvs[i]? = some (k,v)->Pv i H->g (kV k) (b7 σ vs) H λσ2 H2=>b7 σ2 vs=b7 σ vs/\tt σ2 H2 λb H3 =>
   if b=true then te σ2 H3 λy H4=>∃acc,H4 D=some (.lst acc)/\acc.length<Hr/\Pv (i+1) (upd H4 D (.lst (acc++[y]))) else Pv (i+1) H3) (hd:∀H,Pv kvs.length H->Qd H) :
  ∃W:Nat->Nat->Hp->Prop,(∃m,W 0 m (upd H1 D (.lst [])))/\∀i m H,W i m H ->
   ((Itk d o kvs).stop i H/\Qd H)\/((Itk d o kvs).go i H/\∃Nx:Hp->Prop,(∀H',Nx H'->∃m',m'<m/\W (i+1) m' H')/\∀x H',(Itk d o kvs).yld i H x H'->g x (b7 σ vs) H' λσ2 H2=>b7 σ2 vs=b7 σ vs/\tt σ2 H2 λb H3 =>
    if b=true then te σ2 H3 λy H4=>∃acc,H4 D=some (.lst acc)/\acc.length<Hr/\Nx (upd H4 D (.lst (acc++[y]))) else Nx H3):=by
 refine⟨λi m H=>m=kvs.length-i/\i<=kvs.length/\Pv i H,⟨kvs.length,by simp,IH _,h0⟩,?_⟩
 rintro i m H ⟨rfl,hi,p⟩
 have q:=hl i H hi p
 by_cases hlt:i<kvs.length
 ·refine .inr ⟨⟨q,hlt⟩,Pv (i+1),λH' p'=>⟨kvs.length-(i+1),by lia,rfl,hlt,p'⟩,λx H' y=>?_⟩
  obtain⟨e,k,v,y,rfl⟩:=y
  subst e
  exact hs i k v _ y p
 ·have e:i=kvs.length:=by lia
  subst e
  exact .inl ⟨⟨q,nlr _⟩,hd H p⟩
def kd (l:List Nat):List (L2.Key×V):=l.map λ(h:Nat)=>((Sum.inl (h:Int):L2.Key),V.bl true)
theorem BP (l:List Nat)(h:Nat):(dL (kd l) (Sum.inl (h:Int))).isSome=decide (h∈l):=by
 rw[<-fk,Ip,Hv,Jt]
 constructor
 ·rintro⟨x,hx,e⟩
  unfold kd at hx
  rw[HM]at hx
  obtain⟨y,hy,rfl⟩:=hx
  have e:=Sum.inl.inj (Hk e)
  have:y=h:=by lia
  rw[<-this]
  exact hy
 ·intro hh
  refine⟨(Sum.inl (h:Int),.bl true),?_,dqt rfl⟩
  unfold kd
  exact HM.2 ⟨h,hh,rfl⟩
theorem BU {l:List Nat}{h:Nat}(hh:h∉l):gq (kd l) (Sum.inl (h:Int)) (.bl true)=kd (l++[h]):=by
 unfold gq
 rw[fk,BP,dqf hh,Hs (by decide)]
 unfold kd
 rw[HI]
 rfl
theorem qF (l:List Nat):(kd l).length=l.length:=by unfold kd;rw[lmp]
def CL (C:Hm):Sp:=λvs H Q _=>∃(x dx:Hm) (f d o:V),vs=[.ref x,f,d,o]/\H x=some (.ins C dx []) /\
 ∀H':Hp,H' x=some (.ins C dx (rS f d o))->(∀b u,H b=some u->b≠x->H' b=some u)->Q .non H'
theorem Hg:aw ["self","fault","drawing","outlines"] ["self","fault","drawing","outlines"] (ag jA):=fsk
theorem Db (F:su K CV "Verdict.__init__" jA ["self","fault","drawing","outlines"]) (T:VCl K mg CV):Ci P w K mg base 1 CV ["self","fault","drawing","outlines"] (CL CV):=by
 refine F.ci Hg (λvs H Q E h=>?_) (λ_ _ A _ s H vs Q E hr h=>?_)
 ·obtain⟨x,dx,f,d,o,rfl,_⟩:=h
  rfl
 ·obtain⟨x,dx,f,d,o,rfl,hx,k⟩:=h
  refine⟨_,ac (ji (pv 0) (pv 1) rfl) (ac (ji (pv 0) (pv 2) rfl) (af (ji (pv 0) (pv 3) rfl))),?_⟩
  refine⟨_,rfl,_,rfl,x,CV,dx,_,rfl,hx,T.cl,T.nF,(by show 0<1000;decide),?_⟩
  refine⟨_,rfl,_,rfl,x,CV,dx,_,rfl,ae,T.cl,T.nD,(Iu (dj (n:=0) (nlr 0)) (by decide)),?_⟩
  refine⟨_,rfl,_,rfl,x,CV,dx,_,rfl,ae,T.cl,T.nO,(Iu (dj (dj (n:=0) (nlr 0))) (by decide)),?_⟩
  refine k _ ae λb u e hb=>?_
  rw[ao hb,ao hb,ao hb]
  exact e
def og (H:Hp)(D:Hm)(bs ps:List Hm)(L:List (List Nat)):Prop:=H D=some (.lst (bs.map V.ref))/\bs.length=L.length/\∀(j:Nat) (b:Hm) (l:List Nat),bs[j]? = some b->L[j]? = some l->b≠D/\∃as,mf H b as ps l
theorem mf.same {H H':Hp}{r:Hm}{as ps:List Hm}{cs:List Nat}(h:mf H r as ps cs)(s:ak H H'):mf H' r as ps cs:=⟨s _ _ h.1,h.2.1,h.2.2⟩
theorem og.same {H H':Hp}{D:Hm}{bs ps:List Hm}{L:List (List Nat)}(h:og H D bs ps L)(s:ak H H'):og H' D bs ps L:=⟨s _ _ h.1,h.2.1,λj b l e1 e2=>⟨(h.2.2 j b l e1 e2).1,by obtain⟨as,q⟩:=(h.2.2 j b l e1 e2).2;exact⟨as,q.same s⟩⟩⟩
def Ee (K:IN):Sp:=λvs H Q _=>∃(ma s p:Hm) (bs ps:List Hm) (L:List (List Nat)) (S:Gla.Plan) (z:Pt) (h:Nat) (hh:h<L.length),vs=[.ref ma,.ref s]/\cR K H ma z/\nV K H p ps S/\og H s bs ps L/\(∀l∈L,l≠[])/\K9 S L[h] z=true/\(∀j (hj:j<L.length),j<h->K9 S L[j] z=false)/\∀H':Hp,ak H H'->Q (.int (h:Int)) H'
theorem B1:aw ["mark","shapes","k","shape"] ["mark","shapes"] (ag gt):=fsk
theorem Aw (F:Has K mg "holder_of" gt ["mark","shapes"]) (ge:mg "enumerate"=none) (C1:Cb P w K mg base 3 "is_inside" ["corners","r"] (FN K)):Cb P w K mg base 4 "holder_of" ["mark","shapes"] (Ee K):=by
 refine F.cb B1 (λvs H Q E h=>?_) (λ_ _ A _ s H vs Q E hr h=>?_)
 ·obtain⟨ma,s,p,bs,ps,L,S,z,h,hh,rfl,_⟩:=h
  rfl
 ·obtain⟨ma,sa,p,bs,ps,L,S,z,h,hh,rfl,hz,hp,hs,hne,hin,hno,k⟩:=h
  refine⟨_,ac (bf HJ rfl (dG rfl ge (aa (pv 1) ad)) (cC (n:=2) rfl (aH (au (i:=2) B1.nd rfl (.inl rfl)) (aH (au (i:=3) B1.nd rfl (.inl rfl)) bL)))
    (af (a8 (dc (aJ C1 hr (aa (pv 3) (aa (pv 0) ad)))) (af (aq (pv 2))) aN)))
   (af (aq bb)),?_⟩
  refine⟨_,rfl,sa,_,rfl,SqL.of hs.1,cU (K:=K) (a:=sa) (xs:=bs.map V.ref) (λi σ H'=>ak H H'/\i<=h/\∃v1 v2,σ=[some (.ref ma),some (.ref sa),v1,v2])
   ⟨ak.refl H,IH _,none,none,rfl⟩ (λi σ H' _ q=>SqL.of (q.1 _ _ hs.1)) ?_ ?_⟩
  ·rintro i y T' σ H' hi hT ⟨hS,hih,v1,v2,rfl⟩
   obtain⟨b,hb,rfl⟩:=bR hi
   have hil:i<L.length:=by rw[<-hs.2.1];exact(gsi hb).1
   have s2:ak H (upd H' T' (.tup [.int (i:Nat),.ref b])):=aX hS hT
   refine⟨T',_,rfl,SqT.of ae,rfl,_,_,rfl,_,_,rfl,rfl,?_⟩
   generalize upd H' T' (.tup [.int (i:Nat),.ref b])=H2 at s2
   obtain⟨_,as,hsh⟩:=(hs.same s2).2.2 i b L[i] hb (gge hil)
   have hl0:=hne _ (HP hil)
   obtain⟨init,lz,einit⟩:=ku (show L[i].map S.pt≠[] by simpa using hl0)
   refine⟨_,rfl,_,rfl,b,ma,_,init,lz,z,rfl,hsh.pl (hp.same s2),einit,hz.same s2,?_⟩
   rw[EB S z einit]
   refine⟨_,rfl,aV (λc=>?_) (λc=>?_)⟩
   ·have e:i=h:=by
     refine bcn λq=>?_
     rw[hno i hil (by lia)]at c
     exact absurd c (by decide)
    subst e
    exact⟨_,rfl,k H2 s2⟩
   ·refine⟨s2,?_,_,_,rfl⟩
    have e:i≠h:=λq=>by
     subst q
     exact c hin
    lia
  ·rintro σ H' ⟨hS,hih,_⟩
   rw[lmp,hs.2.1]at hih
   lia
def o12 (S:Gla.Plan):Option (Int×Int):=jN 12 (oX S) (Gla.twice S S.outlines 0 [] S.marks)
def o13 (S:Gla.Plan):Option (Int×Int):=if S.marks.length<S.outlines.length then some (13,oX S S.marks.length) else none
def eR (S:Gla.Plan):Option (Int×Int):=lO (o12 S) (o13 S)
def u7 (H:Hp)(ov:V)(S:Gla.Plan):Prop:=∃(ol:Hm) (osl:List Hm),ov=.ref ol/\H ol=some (.lst (osl.map V.ref))/\osl.length=S.marks.length/\∀(i:Nat) (b:Hm) (m:Kz),osl[i]? = some b->S.marks[i]? = some m->∃l,S.among S.outlines m.at_=some l/\H b=some (.lst (iV (nI l)))
structure HF (S:Gla.Plan)(hf:Nat->Nat):Prop where
 lt:∀i,i<S.marks.length->hf i<(WL.cG S).length
 am:∀i (hi:i<S.marks.length),S.among S.outlines S.marks[i].at_=(WL.cG S)[hf i]?
 ins:∀i (hi:i<S.marks.length) (hh:hf i<(WL.cG S).length),K9 S (WL.cG S)[hf i] S.marks[i].at_=true
 no:∀i (hi:i<S.marks.length) (j:Nat) (hj:j<(WL.cG S).length),j<hf i->K9 S (WL.cG S)[j] S.marks[i].at_=false
theorem E3 {S:Gla.Plan}(k:WL.cp S)(hm:∀m∈S.marks,Gla.clear S m.at_=true):∃hf,HF S hf:=by
 have ex:∀i,∃h,∀(hi:i<S.marks.length),∃(hh:h<(WL.cG S).length),S.among S.outlines S.marks[i].at_=some (WL.cG S)[h]/\K9 S (WL.cG S)[h] S.marks[i].at_=true/\∀j (hj:j<(WL.cG S).length),K9 S (WL.cG S)[j] S.marks[i].at_=true->j=h:=λi=>by
  by_cases hi:i<S.marks.length
  ·obtain⟨h,hh,h1,h2,h3⟩:=WL.xO k (hm _ (HP hi))
   exact⟨h,λ_=>⟨hh,h1,h2,h3⟩⟩
  ·exact⟨0,λh=>absurd h hi⟩
 refine⟨λi=>Classical.choose (ex i),λi hi=>?_,λi hi=>?_,λi hi hh=>?_,λi hi j hj hlt=>?_⟩
 ·obtain⟨hh,_⟩:=La (ex i) hi
  exact hh
 ·obtain⟨hh,h1,_⟩:=La (ex i) hi
  rw[h1,gge hh]
 ·obtain⟨hh,_,h2,_⟩:=La (ex i) hi
  exact h2
 ·obtain⟨hh,_,_,h3⟩:=La (ex i) hi
  refine cN λz=>?_
  have:=h3 j hj z
  lia
theorem HF.eq_iff {S:Gla.Plan}{hf:Nat->Nat}(k:WL.Kept S)(h:HF S hf){i j:Nat}(hi:i<S.marks.length)(hj:j<S.marks.length):S.among S.outlines S.marks[i].at_=S.among S.outlines S.marks[j].at_↔hf i=hf j:=by
 rw[h.am i hi,h.am j hj]
 constructor
 ·intro e
  have l1:=h.lt i hi
  have l2:=h.lt j hj
  rw[gge l1,gge l2]at e
  have e:=osi e
  rcases Li (hf i) (hf j) with c|c|c
  ·exact absurd e (HQ.1 (WL.iR k) _ _ l1 l2 c)
  ·exact c
  ·exact absurd e.symm (HQ.1 (WL.iR k) _ _ l2 l1 c)
 ·intro e
  rw[e]
def hZ (hf:Nat->Nat)(k:Nat):List Nat:=(HS k).map hf
theorem wD (hf:Nat->Nat)(k:Nat):hZ hf (k+1)=hZ hf k++[hf k]:=by
 unfold hZ
 rw[Ki,HI]
 rfl
theorem k8 (hf:Nat->Nat)(k:Nat):(hZ hf k).length=k:=by
 unfold hZ
 rw[lmp,IX]
theorem uz {S:Gla.Plan}{hf:Nat->Nat}(k:WL.Kept S)(h:HF S hf){i:Nat}(hi:i<S.marks.length):((((S.marks.take i).map λ(m:Kz)=>S.among S.outlines m.at_).reverse++[]).contains (S.among S.outlines S.marks[i].at_))=decide (hf i∈hZ hf i):=by
 rw[Iq,Ip,JT,Hv,List.mem_reverse,HM]
 unfold hZ
 rw[HM]
 constructor
 ·rintro⟨m,hm,e⟩
  rw[JM]at hm
  obtain⟨j,hj,rfl⟩:=hm
  exact⟨j,Ix.2 (by lia),(h.eq_iff k (by lia) hi).1 e⟩
 ·rintro⟨j,hj,e⟩
  have hj:=Ix.1 hj
  refine⟨S.marks[j]'(by lia),JM.2 ⟨j,by lia,rfl⟩,(h.eq_iff k (by lia) hi).2 e⟩
def Fo (C CV:Hm):Sp:=λvs H Q _=>∃(a O:Hm) (os:List Hm) (S:Gla.Plan),vs=[.ref a,.ref O]/\bC C H a S/\SB S/\WL.cp S/\(∀m∈S.marks,Gla.clear S m.at_=true)/\dS H O os (WL.cG S)/\∀(H':Hp) (v:Hm) (ov:V),ak H H'->we CV H' v (eR S) (.ref a) ov->(eR S=none->u7 H' ov S)->Q (.ref v) H'
theorem qM:aw ["drawing","outlines","shapes","marked","k","mark","holder","outline"] ["drawing","outlines"] (ag cZ):=fsk
theorem EX (F:Has K mg "judge_marks" cZ ["drawing","outlines"]) (T:DCl K mg C) (TV:VCl K mg CV) (ge:mg "enumerate"=none) (gl:mg "len"=none) (CI:Ci P w K mg base 1 CV ["self","fault","drawing","outlines"] (CL CV)) (CP:Cb P w K mg base 1 "points_at" ["points","corners"] (z8 K)) (CH:Cb P w K mg base 4 "holder_of" ["mark","shapes"] (Ee K))
  (CM1:Cm P w K mg base 3 C "place_of_mark" ["self","k"] (yJ C)) (CE:Cm P w K mg base 4 C "place_of_end" ["self"] (Ed C)):Cb P w K mg base 5 "judge_marks" ["drawing","outlines"] (Fo C CV):=by
 refine F.cb qM (λvs H Q E h=>?_) (λ_ _ A _ s H vs Q E hr h=>?_)
 ·obtain⟨a,O,os,S,rfl,_⟩:=h
  rfl
 ·obtain⟨a,O,os,S,rfl,hd,sb,kp,hclear,hO,k⟩:=h
  obtain⟨dx,p,l,m,ps,ls,ms,o⟩:=hd.op (K:=K)
  have hr1:bA 1 _:=hr.mono (by decide)
  have hr2:bA 2 _:=hr.mono (by decide)
  have hr3:bA 3 _:=hr.mono (by decide)
  have hu:=hr.units
  have kk:=kp.toKept
  have np:=sb.np
  have nl:=sb.nl
  have nm:=sb.nm
  obtain⟨hf,hF⟩:=E3 kp hclear
  have hol:(WL.cG S).length<=2*S.lines.length:=Ik (vO kk λx hx=>(WL.a9 kk).1 hx) (oe kk λx hx=>(WL.a9 kk).1 hx)
  refine⟨_,ac (b9 (i:=2) (own:=[("outline",7)]) (te:=jR (z8 K) [] E0 (br (zM K (a4 0) "points") (br (a4 7) fI))) rfl qM.nd rfl rfl (dm rfl rfl rfl (by decide +kernel)) (bF (pv 1)) (bG (by show gR ["drawing","outlines","shapes","marked","k","mark","holder","outline"] (ag cZ) _ _=true;decide +kernel))
    (λ_ _ _ _ _=>au (i:=7) qM.nd rfl (.inl rfl) (.inr rfl)) (λ_ _ _ _ _=>ee) (λ_ _ _ _ _=>aJ CP hr1 (aa (aS (pv 0) rfl) (aa (pv 7) ad))))
   (ac (aC (i:=3) qM.nd rfl (.inl rfl) y8)
   (ac (bf HJ rfl (dG rfl ge (aa (aS (pv 0) rfl) ad)) (cC (n:=2) rfl (aH (au (i:=4) qM.nd rfl (.inl rfl)) (aH (au (i:=5) qM.nd rfl (.inl rfl)) bL)))
    (ac (aC (i:=6) qM.nd rfl (.inl rfl) (aJ CH hr (aa (pv 5) (aa (pv 2) ad))))
    (ac (a8 (ua (Dn (Iu (Ju (by decide) _) hu) (pv 6) (pv 3))) (af (aq (qh CI hr2 TV.mgC (aa (bn (aa ah (aa (ij (pv 0) T.cl CM1 hr3 (aa (pv 4) ad)) ad))) (aa (pv 0) (aa (eo ad) ad)))))) aN)
    (af (kG (Iu (Ju (by decide) _) hu) (pv 3) (pv 6) eC rfl)))))
   (ac (a8 (aM fM (aY xx (by rfl) gl IB (aa (pv 3) ad)) (aY aR (by rfl) gl IB (aa (pv 1) ad)) (aL _)) (af (aq (qh CI hr2 TV.mgC (aa (bn (aa ah (aa (Df (pv 0) T.cl CE hr) ad))) (aa (pv 0) (aa (eo ad) ad)))))) aN)
   (af (aq (qh CI hr2 TV.mgC (aa bb (aa (pv 0) (aa (A3 (tX (own:=[("holder",6)]) (te:=tOp (sT K) (a4 1) (a4 6)) rfl qM.nd (vq (pv 3)) (bG (by show gR ["drawing","outlines","shapes","marked","k","mark","holder","outline"] (ag cZ) _ _=true;decide +kernel))
    (λ_ _ _ _ _=>au (i:=6) qM.nd rfl (.inl rfl) (.inr rfl)) (λ_ _ _ _ _=>ee) (λ_ _ _ _ _=>aB aU (pv 1) (pv 6) (λ_ _=>rfl)))) ad))))))))),?_⟩
  refine⟨_,rfl,O,rfl,⟨_,SqL.of hO.1⟩,λD hD=>?_⟩
  refine fU (K:=K) (a:=O) (xs:=os.map V.ref) (λi H'=>∃bs,ak H H'/\H' D=some (.lst (bs.map V.ref))/\bs.length=i/\∀(j:Nat) (b:Hm) (l:List Nat),bs[j]? = some b->(WL.cG S)[j]? = some l->b≠D/\∃as,mf H' b as ps l)
   ⟨[],aG hD,ae,rfl,λj b l e=>by simp at e⟩ (λi H' _ h=>by obtain⟨bs,h1,_⟩:=h;exact SqL.of (h1 _ _ hO.1)) ?_ ?_
  ·rintro i y H' hi ⟨bs,hS,hDl,hbl,hat⟩
   obtain⟨c,hc,rfl⟩:=bR hi
   have hil:i<(WL.cG S).length:=by rw[<-hO.2.1];exact(gsi hc).1
   obtain⟨e,hJ,_,hle⟩:=WL.gp kp (HP hil)
   have o2:=o.same hS
   refine⟨rfl,mB (eT ?_)⟩
   refine⟨_,rfl,a,C,dx,_,_,rfl,o2.at_,T.cl,T.nP,i7,_,rfl,p,c,ps,S,(WL.cG S)[i],rfl,o2.ptsL sb,hS _ _ (hO.2.2 i c _ hc (gge hil)).2,?_,?_,λH2 r as s2 hr0 hsh=>?_⟩
   ·rw[hle]
    exact qQ kp hJ
   ·rw[hle]
    have:=mN kp hJ
    lia
   have nr:r≠D:=λz=>by rw[z,hDl]at hr0;cases hr0
   refine⟨_,s2 _ _ hDl,by rw[lmp];exact a6 (by lia),bs++[r],aQ (hS.trans s2) hD,by rw[ae,HI];rfl,by rw[Hn,hbl];rfl,λj b l' e1 e2=>?_⟩
   by_cases cj:j<bs.length
   ·rw[HE cj]at e1
    obtain⟨n1,as',q1,q2⟩:=hat j b l' e1 e2
    exact⟨n1,as',by rw[ao n1];exact s2 _ _ q1,q2⟩
   ·have hj:=(gsi e1).1
    rw[Hn]at hj
    have ej:j=bs.length:=by simp at hj;lia
    subst ej
    rw[HC (nlr _),IJ]at e1
    have e1:r=b:=osi e1
    subst e1
    rw[hbl,gge hil]at e2
    have e2:=osi e2
    subst e2
    exact⟨nr,as,by rw[ao nr];exact hsh.1,hsh.2⟩
  rintro H1 ⟨bs,s1,hDl,hbl,hat⟩
  rw[lmp,hO.2.1]at hbl
  have shp:og H1 D bs ps (WL.cG S):=⟨hDl,hbl,hat⟩
  have hne:∀l∈WL.cG S,l≠[]:=λl hl=>by
   obtain⟨e,hJ,_,rfl⟩:=WL.gp kp hl
   obtain⟨t,ht⟩:=WL.kR kk hJ
   rw[ht]
   simp
  clear hat hDl hbl
  refine λW hW=>?_
  have s2:ak H1 (upd H1 W (.dK [])):=aG hW
  have hW2:(upd H1 W (.dK (kd (hZ hf 0)))) W=some (.dK (kd (hZ hf 0))):=ae
  have o2:=o.same (s1.trans s2)
  refine⟨_,rfl,a,C,dx,_,_,rfl,o2.at_,T.cl,T.nM,xb,m,_,rfl,SqL.of o2.ml,cU (K:=K) (a:=m) (xs:=ms.map V.ref) (λi σ H'=>ak H1 H'/\(∃v4 v5 v6,σ=[some (.ref a),some (.ref O),some (.ref D),some (.ref W),v4,v5,v6,none])/\H' W=some (.dK (kd (hZ hf i)))/\∀j,j<i->hf j∉hZ hf j)
   ⟨s2,⟨none,none,none,rfl⟩,hW2,λj h=>absurd h (IM _)⟩ (λi σ H' _ h=>SqL.of (h.1 _ _ (s1 _ _ o.ml))) ?_ ?_⟩
  ·rintro i y T' σ H' hi hT ⟨hS,⟨v4,v5,v6,rfl⟩,hWi,hok⟩
   obtain⟨b,hb,rfl⟩:=bR hi
   have hil:i<S.marks.length:=by rw[<-o.mn];exact(gsi hb).1
   have s3:ak H' (upd H' T' (.tup [.int (i:Nat),.ref b])):=aG hT
   refine⟨T',_,rfl,SqT.of ae,rfl,_,_,rfl,_,_,rfl,rfl,?_⟩
   generalize upd H' T' (.tup [.int (i:Nat),.ref b])=H2 at s3
   have s13:=hS.trans s3
   have o3:=o.same (s1.trans s13)
   refine⟨_,rfl,_,rfl,b,D,p,bs,ps,WL.cG S,S,S.marks[i].at_,hf i,hF.lt i hil,rfl,o3.mkAt sb hb (gge hil),o3.ptsL sb,shp.same s13,hne,hF.ins i hil _,λj hj hlt=>hF.no i hil j hj hlt,λH3 s4=>?_⟩
   have hW3:=s4 _ _ (s3 _ _ hWi)
   have s14:=s13.trans s4
   have o4:=o.same (s1.trans s14)
   refine⟨_,rfl,_,rfl,W,_,rfl,jM.k (k:=Sum.inl (hf i:Int)) hW3,_,rfl,?_⟩
   rw[BP]
   refine aV (λc=>?_) (λc=>?_)
   ·have c:=Hk c
    refine⟨_,rfl,a,dx,_,rfl,o4.at_,cq (.inr (.inl rfl)),_,rfl,a,S,_,rfl,o4.draw,(by show 2<=Hr;decide),λq hq=>?_⟩
    refine⟨_,rfl,(by show 0<=Hr;decide),λq2 hq2=>?_⟩
    refine λx xd nx ndx nex=>?_
    refine⟨x,xd,_,_,_,rfl,ae,λH8 h8 kp8=>⟨rfl,?_⟩⟩
    have s8:ak _ H8:=ak.made nx ndx kp8
    have e12:eR S=some (12,oX S i):=by
     unfold eR o12
     rw[WL.na (k:=i) hil (by rw[uz kk hF hil];exact dqt c) (λj hj=>by rw[uz kk hF (by lia)];exact dqf (hok j hj)),Jy]
     rfl
    refine k H8 x (.ref q2) ((s1.trans s14).trans ((aG hq).trans ((aG hq2).trans s8))) ⟨xd,_,h8,?_⟩ (λz=>by rw[e12]at z;cases z)
    rw[e12]
    exact⟨q,rfl,s8 _ _ ((aG hq2) _ _ ae)⟩
   ·have c:hf i∉hZ hf i:=λz=>c (dqt z)
    refine⟨_,rfl,_,rfl,W,_,rfl,oV.k (k:=Sum.inl (hf i:Int)) hW3 (by rw[qF,k8];exact a6 (by lia)),?_⟩
    refine⟨aQ s14 hW,⟨_,_,_,rfl⟩,by rw[ae,BU c,wD],λj h=>?_⟩
    by_cases cc:j<i
    ·exact hok j cc
    ·have:j=i:=by lia
     subst this
     exact c
  rintro σ H2 ⟨hS,⟨v4,v5,v6,rfl⟩,hWn,hok⟩
  rw[lmp,o.mn]at hWn hok
  have sH:=s1.trans hS
  have o3:=o.same sH
  have hO2:=hO.same sH
  have e12:o12 S=none:=by
   unfold o12
   rw[WL.lY λj hj=>by rw[uz kk hF hj];exact dqf (hok j hj)]
   rfl
  have eM:eR S=o13 S:=by unfold eR;rw[e12];rfl
  refine⟨_,rfl,W,_,rfl,hWn,_,rfl,O,_,rfl,.inl (SqL.of hO2.1),_,_,rfl,rfl,_,rfl,?_⟩
  rw[qF,k8,lmp,hO.2.1,WL.tK kp]
  refine aV (λc=>?_) (λc=>?_)
  ·have c:=Hk c
   refine⟨_,rfl,a,dx,_,rfl,o3.at_,cq (.inr (.inr rfl)),a,S,rfl,o3.draw,(by show 2<=Hr;decide),λq hq=>?_⟩
   refine⟨_,rfl,(by show 0<=Hr;decide),λq2 hq2=>?_⟩
   refine λx xd nx ndx nex=>?_
   refine⟨x,xd,_,_,_,rfl,ae,λH8 h8 kp8=>⟨rfl,?_⟩⟩
   have s8:ak _ H8:=ak.made nx ndx kp8
   have e13:eR S=some (13,oX S S.marks.length):=by
    rw[eM]
    unfold o13
    rw[Hz (by lia)]
   refine k H8 x (.ref q2) (sH.trans ((aG hq).trans ((aG hq2).trans s8))) ⟨xd,_,h8,?_⟩ (λz=>by rw[e13]at z;cases z)
   rw[e13]
   exact⟨q,rfl,s8 _ _ ((aG hq2) _ _ ae)⟩
  ·have c:=aK c
   have e13:eR S=none:=by
    rw[eM]
    unfold o13
    rw[Hs (by lia)]
   refine⟨_,rfl,W,_,hWn,trivial,λod=>?_⟩
   have hWH:H W=none:=s1.free hW
   have sF:ak H (upd H2 W (.frz od (.dK (kd (hZ hf S.marks.length))))):=aQ sH hWH
   refine⟨_,rfl,W,od,rfl,.inl ⟨_,ae,λD2 hD2=>?_⟩⟩
   have hF0:(upd H2 W (.frz od (.dK (kd (hZ hf S.marks.length))))) W=some (.frz od (.dK (kd (hZ hf S.marks.length)))):=ae
   generalize upd H2 W (.frz od (.dK (kd (hZ hf S.marks.length))))=H3 at sF hF0 hD2
   have nDW:D2≠W:=(aP hF0 hD2).symm
   refine AV (λi H'=>∃bs2,ak H3 H'/\H' D2=some (.lst (bs2.map V.ref))/\bs2.length=i/\∀(j:Nat) (b:Hm),bs2[j]? = some b->os[hf j]? = some b)
    ⟨[],aG hD2,ae,rfl,λj b e=>by simp at e⟩ (λi H' _ h=>by obtain⟨bs2,h1,_⟩:=h;exact h1 _ _ hF0) ?_ ?_
   ·rintro i kx vx H' hi ⟨bs2,hS2,hDl2,hbl2,hat2⟩
    have hil:i<S.marks.length:=by
     have:=(gsi hi).1
     rw[qF,k8]at this
     exact this
    unfold kd hZ at hi
    rw[Hw,Hw,Kf hil]at hi
    have hi:=osi hi
    obtain⟨rfl,rfl⟩:=IY hi
    obtain⟨b,hb⟩:∃b,os[hf i]? = some b:=⟨os[hf i]'(by rw[hO.2.1];exact hF.lt i hil),gge _⟩
    refine⟨rfl,mB (eT ?_)⟩
    refine⟨_,rfl,_,rfl,O,_,_,_,rfl,rfl,SqL.of (hS2 _ _ (sF _ _ hO.1)),aE (j:=hf i) rfl (aO hb),_,hDl2,by rw[lmp];exact a6 (by lia),bs2++[b],aQ hS2 hD2,by rw[ae,HI];rfl,by rw[Hn,hbl2];rfl,λj q e=>?_⟩
    by_cases cj:j<bs2.length
    ·rw[HE cj]at e
     exact hat2 j q e
    ·have hj:=(gsi e).1
     rw[Hn]at hj
     have ej:j=bs2.length:=by simp at hj;lia
     subst ej
     rw[HC (nlr _),IJ]at e
     have e:b=q:=osi e
     rw[hbl2,<-e]
     exact hb
   ·rintro H4 ⟨bs2,hS2,hDl2,hbl2,hat2⟩
    rw[qF,k8]at hbl2
    refine⟨hS2 _ _ hF0,?_⟩
    have s5:ak H (upd H4 W (.dK (kd (hZ hf S.marks.length)))):=aQ (sF.trans hS2) hWH
    have hD5:(upd H4 W (.dK (kd (hZ hf S.marks.length)))) D2=some (.lst (bs2.map V.ref)):=by rw[ao nDW];exact hDl2
    generalize upd H4 W (.dK (kd (hZ hf S.marks.length)))=H5 at s5 hD5
    refine λx xd nx ndx nex=>?_
    refine⟨x,xd,_,_,_,rfl,ae,λH8 h8 kp8=>⟨rfl,?_⟩⟩
    have s8:ak H5 H8:=ak.made nx ndx kp8
    refine k H8 x (.ref D2) (s5.trans s8) ⟨xd,_,h8,by rw[e13];rfl⟩ λ_=>?_
    refine⟨D2,bs2,rfl,s8 _ _ hD5,hbl2,λi b mm e1 e2=>?_⟩
    have hil:i<S.marks.length:=(gsi e2).1
    rw[gge hil]at e2
    have e2:=osi e2
    subst e2
    have hlt:=hF.lt i hil
    refine⟨(WL.cG S)[hf i],by rw[hF.am i hil,gge hlt],?_⟩
    exact s8 _ _ (s5 _ _ (hO.2.2 (hf i) b _ (hat2 i b e1) (gge hlt)).2)
def a7 (ns:List Int):Gla.Plan:=KO (toB ns)
def cB (ns:List Int):Option (Int×Int):=lO (dU ns) (lO (bT (a7 ns)) (eR (a7 ns)))
theorem mi {ns:List Int}(h:Byt ns)(e:dU ns=none):(ns.length:Int)=told ns/\fJ (toB ns)=none:=by
 refine⟨?_,?_⟩
 ·unfold dU at e
  split at e
  ·cases e
  ·split at e
   ·cases e
   ·split at e
    ·cases e
    ·split at e
     ·cases e
     ·rename_i h1
      exact bcn λz=>h1 z
 ·rw[jE h]at e
  cases q:fJ (toB ns) with
  |none=>rfl
  |some x=>rw[q]at e;cases e
theorem vk (ns:List Int):(a7 ns).pts.length=Gla.num (toB ns) 12 2:=by
 unfold a7 KO
 simp only[lmp,IX]
theorem wW (ns:List Int):(a7 ns).lines.length=Gla.num (toB ns) 14 2:=by
 unfold a7 KO
 simp only[lmp,IX]
theorem xI (ns:List Int):(a7 ns).marks.length=Gla.num (toB ns) 16 2:=by
 unfold a7 KO
 simp only[lmp,IX]
theorem BQ (ns:List Int):SB (a7 ns):=by
 have n4:∀p,Gla.num (toB ns) p 4<4294967296:=λp=>qD _ p 4
 have n2:∀p,Gla.num (toB ns) p 2<65536:=λp=>qD _ p 2
 refine⟨λp hp=>?_,λm hm=>?_,?_,?_,?_⟩
 ·unfold a7 KO at hp
  simp only[HM]at hp
  obtain⟨i,_,rfl⟩:=hp
  exact⟨n4 _,n4 _⟩
 ·unfold a7 KO at hm
  simp only[HM]at hm
  obtain⟨i,_,rfl⟩:=hm
  exact⟨n4 _,n4 _⟩
 ·rw[vk]
  have:=n2 12
  lia
 ·rw[wW]
  have:=n2 14
  lia
 ·rw[xI]
  have:=n2 16
  lia
theorem tF {ns:List Int}(e:fJ (toB ns)=none):4<=(a7 ns).pts.length:=by
 rw[vk]
 refine bcn λz=>?_
 have hw:Gla.within 4 Gla.POINTS (Gla.num (toB ns) 12 2)=false:=by
  unfold Gla.within
  rw[dqf z,IF]
 unfold fJ at e
 rw[Hz hw]at e
 repeat' split at e
 all_goals cases e
theorem bW {a b:Option (Int×Int)}(h:lO a b=none):a=none/\b=none:=by
 cases a with
 |none=>exact⟨rfl,h⟩
 |some x=>cases h
theorem mr {S:Gla.Plan}(h4:4<=S.pts.length)(h:bT S=none):WL.cp S/\∀m∈S.marks,Gla.clear S m.at_=true:=by
 unfold bT at h
 obtain⟨e4,h⟩:=bW h
 obtain⟨e5,h⟩:=bW h
 obtain⟨e6,h⟩:=bW h
 obtain⟨e7,h⟩:=bW h
 obtain⟨e8,h⟩:=bW h
 obtain⟨e9,h⟩:=bW h
 obtain⟨e10,e11⟩:=bW h
 refine⟨⟨⟨dP e4,dP e5,dP e7⟩,h4,?_,dP e9,dP e10⟩,λm hm=>?_⟩
 ·unfold o6 at e6
  split at e6
  ·cases e6
  ·rename_i c
   cases q:LA S with
   |true=>rfl
   |false=>exact absurd q c
 ·exact(WL.cw (dP e11)).1 m hm
def spJ (K:IN)(C CV:Hm):Sp:=λvs H Q _=>∃(a:Hm) (ns:List Int),vs=[.ref a]/\LI K H a ns/\Byt ns/\∀(H':Hp) (v:Hm) (dv ov:V),ak H H'->we CV H' v (cB ns) dv ov->(cB ns=none->∃d,dv=.ref d/\bC C H' d (a7 ns)/\u7 H' ov (a7 ns))->Q (.ref v) H'
theorem scJ:aw ["cartoon","fault","drawing"] ["cartoon"] (ag mP):=fsk
theorem Go (F:Has K mg "judge" mP ["cartoon"]) (TV:VCl K mg CV) (CI:Ci P w K mg base 1 CV ["self","fault","drawing","outlines"] (CL CV)) (C1:Cb P w K mg base 3 "fault_of_bytes" ["cartoon"] (Ff K)) (C2:Cb P w K mg base 4 "read_drawing" ["cartoon"] (FE K C)) (C3:Cb P w K mg base 6 "fault_of_drawing" ["drawing"] (EL C)) (C4:Cb P w K mg base 4 "outlines_of" ["drawing"] (BI C)) (C5:Cb P w K mg base 5 "judge_marks" ["drawing","outlines"] (Fo C CV)) :
  Cb P w K mg base 7 "judge" ["cartoon"] (spJ K C CV):=by
 refine F.cb scJ (λvs H Q E h=>?_) (λ_ _ A _ s H vs Q E hr h=>?_)
 ·obtain⟨a,ns,rfl,_⟩:=h
  rfl
 ·obtain⟨a,ns,rfl,hl,hb,k⟩:=h
  have hr2:bA 2 _:=hr.mono (by decide)
  have hr3:bA 3 _:=hr.mono (by decide)
  have hr4:bA 4 _:=hr.mono (by decide)
  have hr5:bA 5 _:=hr.mono (by decide)
  refine⟨_,ac (aC (i:=1) scJ.nd rfl (.inl rfl) (aJ C1 hr3 (aa (pv 0) ad)))
   (ac (a8 (aM iO (pv 1) bb (aL _)) (af (aq (qh CI hr2 TV.mgC (aa (pv 1) (aa bb (aa (eo ad) ad)))))) aN)
   (ac (aC (i:=2) scJ.nd rfl (.inl rfl) (aJ C2 hr4 (aa (pv 0) ad)))
   (ac (aC (i:=1) scJ.nd rfl (.inl rfl) (aJ C3 hr (aa (pv 2) ad)))
   (ac (a8 (aM iO (pv 1) bb (aL _)) (af (aq (qh CI hr2 TV.mgC (aa (pv 1) (aa (pv 2) (aa (eo ad) ad)))))) aN)
   (af (aq (aJ C5 hr5 (aa (pv 2) (aa (aJ C4 hr4 (aa (pv 2) ad)) ad))))))))),?_⟩
  refine⟨_,rfl,a,ns,rfl,hl,dN.of λv H1 s1 f1=>?_⟩
  cases e1:dU ns with
  |some x =>
   rw[e1]at f1
   have eJ:cB ns=some x:=by unfold cB;rw[e1];rfl
   obtain⟨q,rfl,hq⟩:=id f1
   refine⟨_,rfl,rfl,_,rfl,aV (λ_=>?_) (λc=>absurd (by rw[dqf (by intro z;cases z)];rfl) c)⟩
   refine⟨_,rfl,(by show 0<=Hr;decide),λq2 hq2=>?_⟩
   refine λy xd nx ndx nex=>?_
   refine⟨y,xd,_,_,_,rfl,ae,λH8 h8 kp8=>⟨rfl,?_⟩⟩
   have s8:ak _ H8:=ak.made nx ndx kp8
   refine k H8 y .non (.ref q2) (s1.trans ((aG hq2).trans s8)) ⟨xd,_,h8,?_⟩ (λz=>by rw[eJ]at z;cases z)
   rw[eJ]
   exact f1.same ((aG hq2).trans s8)
  |none =>
  rw[e1]at f1
  obtain rfl:v=.non:=f1
  obtain⟨hlen,hjB⟩:=mi hb e1
  refine⟨_,rfl,rfl,_,rfl,aV (λc=>absurd c (by decide)) (λ_=>?_)⟩
  refine⟨_,rfl,a,ns,rfl,hl.same s1,hb,hlen,λH2 d s2 hd=>?_⟩
  have hd:bC C H2 d (a7 ns):=hd
  have sb:=BQ ns
  have h4:=tF hjB
  have s2:=s1.trans s2
  generalize hS:a7 ns=S at hd sb h4
  refine⟨_,rfl,d,S,rfl,hd,sb,h4,dN.of λv H3 s3 f2=>?_⟩
  have hd3:=hd.same s3
  have s3:=s2.trans s3
  cases e2:bT S with
  |some x =>
   rw[e2]at f2
   have eJ:cB ns=some x:=by unfold cB;rw[e1,hS,e2];rfl
   obtain⟨q,rfl,hq⟩:=id f2
   refine⟨_,rfl,rfl,_,rfl,aV (λ_=>?_) (λc=>absurd (by rw[dqf (by intro z;cases z)];rfl) c)⟩
   refine⟨_,rfl,_,rfl,(by show 0<=Hr;decide),λq2 hq2=>?_⟩
   refine λy xd nx ndx nex=>?_
   refine⟨y,xd,_,_,_,rfl,ae,λH8 h8 kp8=>⟨rfl,?_⟩⟩
   have s8:ak _ H8:=ak.made nx ndx kp8
   refine k H8 y (.ref d) (.ref q2) (s3.trans ((aG hq2).trans s8)) ⟨xd,_,h8,?_⟩ (λz=>by rw[eJ]at z;cases z)
   rw[eJ]
   exact f2.same ((aG hq2).trans s8)
  |none =>
  rw[e2]at f2
  obtain rfl:v=.non:=f2
  obtain⟨kp,hclear⟩:=mr h4 e2
  refine⟨_,rfl,rfl,_,rfl,aV (λc=>absurd c (by decide)) (λ_=>?_)⟩
  refine⟨_,rfl,_,rfl,d,S,rfl,hd3,sb,kp,λH4 O os s4 hO=>?_⟩
  have eJ:cB ns=eR S:=by unfold cB;rw[e1,hS,e2];rfl
  refine⟨d,O,os,S,rfl,hd3.same s4,sb,kp,hclear,hO,λH5 v ov s5 hv hp=>?_⟩
  refine k H5 v (.ref d) ov (s3.trans (s4.trans s5)) (by rw[eJ];exact hv) λz=>?_
  rw[eJ]at z
  rw[hS]
  exact⟨d,rfl,hd3.same (s4.trans s5),hp z⟩
def mj (lo hi:Int)(ns:List Int):Bool:=ns.all λx=>decide (lo<=x)&&decide (x<=hi)
theorem p8 {lo hi:Int}{ns:List Int}:mj lo hi ns=true↔∀x∈ns,lo<=x/\x<=hi:=by
 unfold mj
 rw[IL]
 simp only[Hu,Hv]
theorem pD {lo hi:Int}{ns:List Int}{i:Nat}{z:Int}(h:mj lo hi (ns.take i)=true)(hz:ns[i]? = some z)(h0:¬z<lo)(h1:¬hi<z):mj lo hi (ns.take (i+1))=true:=by
 rw[p8]at h ⊢
 intro x hx
 rw[bu hz,HU]at hx
 rcases hx with hx|hx
 ·exact h x hx
 ·have e:x=z:=by simpa using hx
  subst e
  lia
theorem pU {lo hi:Int}{ns:List Int}{i:Nat}{z:Int}(hz:ns[i]? = some z)(h:z<lo\/hi<z):mj lo hi ns=false:=by
 cases e:mj lo hi ns with
 |false=>rfl
 |true =>
  have:=p8.mp e z (Ic hz)
  lia
def BT (K:IN):Sp:=λvs H Q _=>∃(a:Hm) (ns:List Int) (lo hi:Int),vs=[.ref a,.int lo,.int hi]/\LI K H a ns/\Q (.bl (mj lo hi ns)) H
theorem BA:aw ["row","least","greatest","number"] ["row","least","greatest"] (ag gb):=fsk
theorem Dz (F:Has K mg "are_within" gb ["row","least","greatest"]):Cb P w K mg base 1 "are_within" ["row","least","greatest"] (BT K):=by
 refine F.cb BA (λvs H Q E h=>?_) (λ_ _ A _ s H vs Q E hr h=>?_)
 ·obtain⟨a,ns,lo,hi,rfl,_⟩:=h
  rfl
 ·obtain⟨a,ns,lo,hi,rfl,hl,k⟩:=h
  refine⟨_,ac (bf HJ rfl (bF (pv 0)) (au (i:=3) BA.nd rfl (.inl rfl))
   (af (a8 (oz (aM fM (pv 3) (pv 1) (aL _)) (ka (aM eD (pv 3) (pv 2) (aL _)))).pt (af (aq eC)) aN)))
   (af (aq eC)),?_⟩
  refine⟨_,rfl,a,rfl,⟨_,hl.1⟩,dr (K:=K) (a:=a) (xs:=iV ns) (λi σ H'=>H'=H/\(∃v,σ=[some (.ref a),some (.int lo),some (.int hi),v])/\mj lo hi (ns.take i)=true) ⟨rfl,⟨none,rfl⟩,rfl⟩ (λi σ H' _ h=>by rw[h.1];exact hl.1) ?_ ?_⟩
  ·rintro i y σ H' hi' ⟨rfl,⟨v,rfl⟩,hb⟩
   obtain⟨z,hz,rfl⟩:=lL hi'
   refine⟨_,rfl,_,rfl,_,_,rfl,rfl,_,rfl,aV (λc=>?_) (λc=>?_)⟩
   ·refine eT ?_
    show Q (.bl false) H'
    rw[pU hz (.inl (Hk c))]at k
    exact k
   ·refine⟨_,rfl,_,rfl,_,_,rfl,rfl,_,rfl,aV (λc2=>?_) (λc2=>?_)⟩
    ·show Q (.bl false) H'
     rw[pU hz (.inr (Hk c2))]at k
     exact k
    ·exact⟨rfl,⟨_,rfl⟩,pD hb hz (λq=>c (dqt q)) (λq=>c2 (dqt q))⟩
  ·rintro σ H' ⟨rfl,⟨v,rfl⟩,hb⟩
   rw[lmp,IU]at hb
   show Q (.bl true) H'
   rw[hb]at k
   exact k
def ym (K:IN):Sp:=λvs H Q _=>∃(a:Hm) (ns:List Int),vs=[.ref a]/\LI K H a ns/\Q (.bl (LM.cM ns)) H
theorem CO:aw ["row"] ["row"] (ag fT):=fsk
theorem Bi (F:Has K mg "are_lights" fT ["row"]) (gB:∃t,mg "BANDS"=some (.int 32 t)) (gl:mg "len"=none) (gF:∃t,mg "FULL"=some (.int 65535 t)) (C:Cb P w K mg base 1 "are_within" ["row","least","greatest"] (BT K)):Cb P w K mg base 2 "are_lights" ["row"] (ym K):=by
 refine F.cb CO (λvs H Q E h=>?_) (λ_ _ A _ s H vs Q E hr h=>?_)
 ·obtain⟨a,ns,rfl,_⟩:=h
  rfl
 ·obtain⟨a,ns,rfl,hl,k⟩:=h
  refine⟨_,af (aq (jV (cO l6 (aW DF (aY aR (by rfl) gl IB (aa (pv 0) ad)) (bI gB)) ah (aL _)) (fF (aJ C hr (aa (pv 0) (aa ah (aa (bI gF) ad))))))),?_⟩
  refine⟨_,rfl,a,_,rfl,.inl hl.1,_,_,rfl,rfl,(by show(0:Int)<32;decide),rfl,_,rfl,aV (λc=>?_) (λc=>?_)⟩
  ·refine⟨_,rfl,a,ns,0,65535,rfl,hl,?_⟩
   have e:LM.cM ns=LM.vM ns:=by
    unfold LM.cM
    rw[dqt (p:=ns.length % 32=0) ?_,Jn]
    have:=V.int.inj (Hk c)
    rw[lmp]at this
    lia
   rw[e]at k
   exact k
  ·have e:LM.cM ns=false:=by
    unfold LM.cM
    rw[dqf (p:=ns.length % 32=0) ?_,IF]
    intro q
    apply c
    apply dqt
    rw[lmp]
    show V.int ((ns.length:Int) % 32)=V.int 0
    rw[show(ns.length:Int) % 32=0 by lia]
   rw[e]at k
   exact k
def zn (K:IN):Sp:=λvs H Q _=>∃(a:Hm) (ns:List Int),vs=[.ref a]/\LI K H a ns/\Q (.int (LM.cnt ns)) H
theorem EV:aw ["row"] ["row"] (ag dh):=fsk
theorem DM (F:Has K mg "how_many_lights" dh ["row"]) (gB:∃t,mg "BANDS"=some (.int 32 t)) (gl:mg "len"=none):Cb P w K mg base 1 "how_many_lights" ["row"] (zn K):=by
 refine F.cb EV (λvs H Q E h=>?_) (λ_ _ A _ s H vs Q E hr h=>?_)
 ·obtain⟨a,ns,rfl,_⟩:=h
  rfl
 ·obtain⟨a,ns,rfl,hl,k⟩:=h
  refine⟨_,af (aq (aW rF (aY aR (by rfl) gl IB (aa (pv 0) ad)) (bI gB))),?_⟩
  refine⟨_,rfl,a,_,rfl,.inl hl.1,_,_,rfl,rfl,⟨by decide,by decide⟩,?_⟩
  have e:(((iV ns).length:Nat):Int) / 32=((LM.cnt ns:Nat):Int):=by
   rw[lmp]
   unfold LM.cnt
   lia
  show Q (.int ((((iV ns).length:Nat):Int) / 32)) H
  rw[e]
  exact k
theorem AI (ns:List Int)(k:Nat):pF (iV ns) (some (32*(k:Int))) (some (32*((k:Int)+1)))=iV (LM.lat ns k):=by
 have e1:(32*(k:Int))=((32*k:Nat):Int):=by lia
 have e2:(32*((k:Int)+1))=((32*k+32:Nat):Int):=by lia
 rw[e1,e2]
 unfold pF LM.lat
 rw[HT.sIx_nat,HT.sIx_nat,iV,<-Lh,<-Kq,lmp]
 congr 1
 by_cases c:32*k<=ns.length
 ·rw[Ia c]
  by_cases c2:32*k+32<=ns.length
  ·rw[Ia c2]
   congr 1
   lia
  ·rw[HX (by lia)]
   rw[IR (by rw[Il];lia),IR (by rw[Il];lia)]
 ·rw[HX (show ns.length<=32*k by lia),Kk (nlr _),Kk (show ns.length<=32*k by lia)]
  simp
def BM (K:IN):Sp:=λvs H Q _=>∃(a:Hm) (ns:List Int) (k:Nat),vs=[.ref a,.int k]/\LI K H a ns/\k<=1000000/\∀p,H p=none->Q (.ref p) (upd H p (.lst (iV (LM.lat ns k))))
theorem Ew:aw ["row","k"] ["row","k"] (ag iK):=fsk
theorem C0 (F:Has K mg "light_at" iK ["row","k"]) (gB:∃t,mg "BANDS"=some (.int 32 t)):Cb P w K mg base 1 "light_at" ["row","k"] (BM K):=by
 refine F.cb Ew (λvs H Q E h=>?_) (λ_ _ A _ s H vs Q E hr h=>?_)
 ·obtain⟨a,ns,k,rfl,_⟩:=h
  rfl
 ·obtain⟨a,ns,i,rfl,hl,hi,k⟩:=h
  refine⟨_,af (aq (oA rj (pv 0) (kJ (aW dE (bI gB) (pv 1))) (kJ (aW dE (bI gB) (aW dX (pv 1) ah))))),?_⟩
  refine⟨_,rfl,_,rfl,_,_,rfl,rfl,.inl ⟨by decide,by decide⟩,_,rfl,_,rfl,_,_,rfl,rfl,_,_,rfl,rfl,.inl ⟨by decide,by decide⟩,_,rfl,a,_,rfl,hl.1,λp hp=>?_⟩
  rw[AI ns i]
  exact k p hp
def Sm (ns:List Int):Prop:=∀x∈ns,-8589934592<=x/\x<=8589934592
theorem Sm.at {ns:List Int}(h:Sm ns){i:Nat}{z:Int}(e:ns[i]? = some z):-8589934592<=z/\z<=8589934592:=h z (Ic e)
theorem pZ {H H':Hp}{r:Hm}(s:ak H H')(h:H' r=none):H r=none:=by
 cases e:H r with
 |none=>rfl
 |some o=>rw[s _ _ e]at h;cases h
def BF (K:IN):Sp:=λvs H Q _=>∃(a b:Hm) (xs ys:List Int),vs=[.ref a,.ref b]/\LI K H a xs/\LI K H b ys/\Sm xs/\Sm ys/\∀(H':Hp) (p:Hm),ak H H'->H p=none->H' p=some (.lst (iV (LM.thI xs ys)))->Q (.ref p) H'
theorem vv:aw ["one","other","a","b"] ["one","other"] (ag cW):=fsk
theorem B9 (F:Has K mg "light_through" cW ["one","other"]) (gF:∃t,mg "FULL"=some (.int 65535 t)) (gz:mg "zip"=none):Cb P w K mg base 1 "light_through" ["one","other"] (BF K):=by
 refine F.cb vv (λvs H Q E h=>?_) (λ_ _ A _ s H vs Q E hr h=>?_)
 ·obtain⟨a,b,xs,ys,rfl,_⟩:=h
  rfl
 ·obtain⟨a,b,xs,ys,rfl,hx,hy,sx,sy,k⟩:=h
  refine⟨_,af (aq (tX (own:=[("a",2),("b",3)]) (g:=g2 K 2 3) rfl vv.nd (yV rfl gz (aa (pv 0) (aa (pv 1) ad))) (bG (by show gR ["one","other","a","b"] (ag cW) _ _=true;decide +kernel))
   (λ_ _ _ _ _=>cC (n:=2) rfl (aH (au (i:=2) vv.nd rfl (.inl rfl) (.inr rfl)) (aH (au (i:=3) vv.nd rfl (.inl rfl) (.inr rfl)) bL))) (λ_ _ _ _ _=>ee)
   (λ_ _ _ _ _=>aW rF (aW dX (aW dE (pv 2) (pv 3)) (aW rF (bI gF) ah)) (bI gF)))),?_⟩
  refine⟨_,rfl,_,rfl,a,b,_,_,rfl,hx.1,hy.1,λD hD=>?_⟩
  refine xX (xs:=iV xs) (ys:=iV ys) (λi H'=>ak H H'/\H' D=some (.lst (iV (((xs.zip ys).take i).map λp=>(p.1*p.2+32767) / 65535)))) ?_ ?_ ?_ ?_
  ·exact⟨aG hD,ae⟩
  ·rintro i H' _ ⟨hS,_⟩
   exact⟨hS.seq hx.1,hS.seq hy.1⟩
  ·rintro i x' y' T H' ex' ey' hT ⟨hS,hDl⟩
   obtain⟨x,ex,rfl⟩:=lL ex'
   obtain⟨y,ey,rfl⟩:=lL ey'
   refine⟨T,_,rfl,SqT.of ae,rfl,_,_,rfl,_,_,rfl,rfl,rfl,mB (eT ?_)⟩
   have nTD:D≠T:=aP hDl hT
   have b1:=sx.at ex
   refine⟨_,rfl,_,rfl,_,_,rfl,rfl,.inl ⟨by lia,by lia⟩,_,_,rfl,rfl,⟨by decide,by decide⟩,_,_,rfl,rfl,_,_,rfl,rfl,⟨by decide,by decide⟩,_,by rw[ao nTD];exact hDl,?_,aQ (aX hS hT) hD,?_⟩
   ·rw[lmp,lmp,Iv]
    have:=hx.2
    have:i<xs.length:=(gsi ex).1
    exact a6 (by lia)
   ·rw[ae,bu (zW ex ey)]
    simp only[iV,HI,HN,LB]
    rfl
  ·rintro H' ⟨hS,hDl⟩
   have e:(xs.zip ys).take (min (iV xs).length (iV ys).length)=xs.zip ys:=by
    rw[lmp,lmp,<-JU]
    exact IU
   rw[e]at hDl
   exact k H' D hS hD hDl
def zP (K:IN):Sp:=λvs H Q _=>∃(a b:Hm) (xs ys:List Int),vs=[.ref a,.ref b]/\LI K H a xs/\LI K H b ys/\Sm xs/\Sm ys/\∀H':Hp,ak H H'->Q (.int (LM.apI xs ys)) H'
theorem vG:aw ["one","other","a","b"] ["one","other"] (ag cT):=fsk
theorem Dc (F:Has K mg "how_far_apart" cT ["one","other"]) (gs:mg "sum"=none) (gz:mg "zip"=none):Cb P w K mg base 1 "how_far_apart" ["one","other"] (zP K):=by
 refine F.cb vG (λvs H Q E h=>?_) (λ_ _ A _ s H vs Q E hr h=>?_)
 ·obtain⟨a,b,xs,ys,rfl,_⟩:=h
  rfl
 ·obtain⟨a,b,xs,ys,rfl,hx,hy,sx,sy,k⟩:=h
  refine⟨_,af (aq (aY (Dq rfl) (by rfl) gs boot_sum (aa (tX (own:=[("a",2),("b",3)]) (g:=g2 K 2 3) rfl vG.nd (yV rfl gz (aa (pv 0) (aa (pv 1) ad))) (bG (by show gR ["one","other","a","b"] (ag cT) _ _=true;decide +kernel))
   (λ_ _ _ _ _=>cC (n:=2) rfl (aH (au (i:=2) vG.nd rfl (.inl rfl) (.inr rfl)) (aH (au (i:=3) vG.nd rfl (.inl rfl) (.inr rfl)) bL))) (λ_ _ _ _ _=>ee)
   (λ_ _ _ _ _=>aW dE (aW eh (pv 2) (pv 3)) (aW eh (pv 2) (pv 3)))) ad))),?_⟩
  refine⟨_,rfl,_,rfl,a,b,_,_,rfl,hx.1,hy.1,λD hD=>?_⟩
  refine xX (xs:=iV xs) (ys:=iV ys) (λi H'=>ak H H'/\H' D=some (.lst (iV (((xs.zip ys).take i).map λp=>(p.1-p.2)*(p.1-p.2))))) ?_ ?_ ?_ ?_
  ·exact⟨aG hD,ae⟩
  ·rintro i H' _ ⟨hS,_⟩
   exact⟨hS.seq hx.1,hS.seq hy.1⟩
  ·rintro i x' y' T H' ex' ey' hT ⟨hS,hDl⟩
   obtain⟨x,ex,rfl⟩:=lL ex'
   obtain⟨y,ey,rfl⟩:=lL ey'
   refine⟨T,_,rfl,SqT.of ae,rfl,_,_,rfl,_,_,rfl,rfl,rfl,mB (eT ?_)⟩
   have nTD:D≠T:=aP hDl hT
   have b1:=sx.at ex
   have b2:=sy.at ey
   refine⟨_,rfl,_,rfl,_,_,rfl,rfl,_,rfl,_,rfl,_,_,rfl,rfl,_,_,rfl,rfl,.inl ⟨by lia,by lia⟩,_,by rw[ao nTD];exact hDl,?_,aQ (aX hS hT) hD,?_⟩
   ·rw[lmp,lmp,Iv]
    have:=hx.2
    have:i<xs.length:=(gsi ex).1
    exact a6 (by lia)
   ·rw[ae,bu (zW ex ey)]
    simp only[iV,HI,HN,LB]
  ·rintro H' ⟨hS,hDl⟩
   have e:(xs.zip ys).take (min (iV xs).length (iV ys).length)=xs.zip ys:=by
    rw[lmp,lmp,<-JU]
    exact IU
   rw[e]at hDl
   exact⟨D,_,rfl,SqL.of hDl,k H' hS⟩
def Dk (o:Option (List Int))(v:V)(H:Hp):Prop:=match o with
 |none=>v=.non
 |some r=>∃q,v=.ref q/\H q=some (.lst (iV r))
def tI (o:Option (List Int))(H:Hp)(Q:VK):Prop:=∀v H',ak H H'->Dk o v H'->Q v H'
def Bd (ns:List Int):Prop:=∀x∈ns,0<=x/\x<=65535
theorem Bd.sm {ns:List Int}(h:Bd ns):Sm ns:=λx hx=>by have:=h x hx;lia
theorem Bd.lat {ns:List Int}(h:Bd ns)(k:Nat):Bd (LM.lat ns k):=λx hx=>h x (J7 (Jd hx))
theorem Bd.th {xs ys:List Int}(hx:Bd xs)(hy:Bd ys):Bd (LM.thI xs ys):=λz hz=>by
 unfold LM.thI at hz
 rw[HM]at hz
 obtain⟨p,hp,rfl⟩:=hz
 have h1:=hx p.1 (List.of_mem_zip hp).1
 have h2:=hy p.2 (List.of_mem_zip hp).2
 have h3:0<=p.1*p.2:=Ht h1.1 h2.1
 have h4:p.1*p.2<=65535*65535:=Int.mul_le_mul h1.2 h2.2 h2.1 (by decide)
 constructor
 ·lia
 ·lia
theorem kY (ns:List Int)(k:Nat):(LM.lat ns k).length<=32:=by
 unfold LM.lat
 rw[Iv]
 lia
theorem DN (xs ys:List Int):(LM.thI xs ys).length<=xs.length:=by
 unfold LM.thI
 rw[lmp,JU]
 lia
def cn (gs qs:List Int)(S:Gla.Plan):Option Nat:=Gla.firstAt (λ(_:Nat) (m:Kz)=>!(decide (m.glass<LM.cnt gs)&&decide (m.painting<=LM.cnt qs))) S.marks
def plI (gs qs:List Int)(m:Kz):List Int:=if m.painting=0 then LM.lat gs m.glass else LM.thI (LM.lat gs m.glass) (LM.lat qs (m.painting-1))
def MkL (H:Hp)(m:Hm)(ms:List Hm)(S:Gla.Plan):Prop:=H m=some (.lst (ms.map V.ref))/\ms.length=S.marks.length/\∀(i:Nat) (b:Hm) (x:Kz),ms[i]? = some b->S.marks[i]? = some x->H b=some (.tup (iV (pf x)))
def GN (o:Option Nat):V:=match o with
 |none=>.non
 |some k=>.int (k:Int)
def DS (K:IN):Sp:=λvs H Q _=>∃(m ga qa:Hm) (ms:List Hm) (S:Gla.Plan) (gs qs:List Int),vs=[.ref m,.ref ga,.ref qa]/\MkL H m ms S/\LI K H ga gs/\LI K H qa qs/\∀H',ak H H'->Q (GN (cn gs qs S)) H'
theorem DA:aw ["marks","glasses","paintings","k","mark"] ["marks","glasses","paintings"] (ag bD):=fsk
theorem Gg (F:Has K mg "first_mark_without_light" bD ["marks","glasses","paintings"]) (ge:mg "enumerate"=none) (C1:Cb P w K mg base 1 "how_many_lights" ["row"] (zn K)):Cb P w K mg base 2 "first_mark_without_light" ["marks","glasses","paintings"] (DS K):=by
 refine F.cb DA (λvs H Q E h=>?_) (λ_ _ A _ s H vs Q E hr h=>?_)
 ·obtain⟨m,ga,qa,ms,S,gs,qs,rfl,_⟩:=h
  rfl
 ·obtain⟨m,ga,qa,ms,S,gs,qs,rfl,hm,hg,hq,k⟩:=h
  refine⟨_,ac (bf HJ rfl (dG rfl ge (aa (pv 0) ad)) (cC (n:=2) rfl (aH (au (i:=3) DA.nd rfl (.inl rfl)) (aH (au (i:=4) DA.nd rfl (.inl rfl)) bL)))
    (af (a8 (oz (aM zb (aB aF (pv 4) ah (λ_ _=>rfl)) (aJ C1 hr (aa (pv 1) ad)) (aL _)) (ka (aM eD (aB aF (pv 4) ah (λ_ _=>rfl)) (aJ C1 hr (aa (pv 2) ad)) (aL _)))).pt (af (aq (pv 3))) aN)))
   (af (aq bb)),?_⟩
  refine⟨_,rfl,m,_,rfl,SqL.of hm.1,cU (K:=K) (a:=m) (xs:=ms.map V.ref) (λi σ H'=>ak H H'/\(∃v1 v2,σ=[some (.ref m),some (.ref ga),some (.ref qa),v1,v2])/\∀j (hj:j<S.marks.length),j<i->(!(decide (S.marks[j].glass<LM.cnt gs)&&decide (S.marks[j].painting<=LM.cnt qs)))=false)
   ⟨ak.refl H,⟨none,none,rfl⟩,λj hj h=>absurd h (IM _)⟩ (λi σ H' _ h=>SqL.of (h.1 _ _ hm.1)) ?_ ?_⟩
  ·rintro i y T' σ H' hi hT ⟨hS,⟨v1,v2,rfl⟩,hok⟩
   obtain⟨b,hb,rfl⟩:=bR hi
   have hil:i<S.marks.length:=by rw[<-hm.2.1];exact(gsi hb).1
   have s2:ak H (upd H' T' (.tup [.int (i:Nat),.ref b])):=aX hS hT
   refine⟨T',_,rfl,SqT.of ae,rfl,_,_,rfl,_,_,rfl,rfl,?_⟩
   generalize upd H' T' (.tup [.int (i:Nat),.ref b])=H2 at s2
   have hbb:SqT K H2 b (iV (pf S.marks[i])):=SqT.of (s2 _ _ (hm.2.2 i b _ hb (gge hil)))
   have bad:(!(decide (S.marks[i].glass<LM.cnt gs)&&decide (S.marks[i].painting<=LM.cnt qs)))=true->Q (.int (i:Int)) H2:=λz=>by
    have e:cn gs qs S=some i:=WL.eS hil z λj hj=>hok j (by lia) hj
    rw[e]at k
    exact k H2 s2
   refine⟨_,rfl,b,_,_,_,rfl,rfl,hbb,aE (j:=2) rfl rfl,_,rfl,ga,gs,rfl,hg.same s2,_,_,rfl,rfl,_,rfl,aV (λc1=>?_) (λc1=>?_)⟩
   ·have c1:=Hk c1
    refine eT ⟨_,rfl,bad ?_⟩
    rw[dqf (by lia),IF]
    rfl
   ·have c1:=aK c1
    refine⟨_,rfl,b,_,_,_,rfl,rfl,hbb,aE (j:=3) rfl rfl,_,rfl,qa,qs,rfl,hq.same s2,_,_,rfl,rfl,_,rfl,aV (λc2=>?_) (λc2=>?_)⟩
    ·have c2:=Hk c2
     refine⟨_,rfl,bad ?_⟩
     rw[dqf (show ¬S.marks[i].painting<=LM.cnt qs by lia),Lq]
     rfl
    ·have c2:=aK c2
     refine⟨s2,⟨_,_,rfl⟩,λj hj h=>?_⟩
     by_cases c:j<i
     ·exact hok j hj c
     ·have:j=i:=by lia
      subst this
      rw[dqt (by lia:S.marks[j].glass<LM.cnt gs),dqt (by lia:S.marks[j].painting<=LM.cnt qs)]
      rfl
  ·rintro σ H' ⟨hS,⟨v1,v2,rfl⟩,hok⟩
   have e:cn gs qs S=none:=WL.d4 λj hj=>hok j hj (by rw[lmp,hm.2.1];exact hj)
   rw[e]at k
   exact k H' hS
def BW (K:IN):Sp:=λvs H Q _=>∃(b ga qa:Hm) (x:Kz) (gs qs:List Int),vs=[.ref b,.ref ga,.ref qa]/\SqT K H b (iV (pf x))/\LI K H ga gs/\LI K H qa qs/\Bd gs/\Bd qs/\x.glass<=1000000/\x.painting<=1000000/\∀(H':Hp) (p:Hm),ak H H'->H p=none->H' p=some (.lst (iV (plI gs qs x)))->Q (.ref p) H'
theorem EQ:aw ["mark","glasses","paintings","glass"] ["mark","glasses","paintings"] (ag fR):=fsk
theorem Fv (F:Has K mg "pane_light" fR ["mark","glasses","paintings"]) (C1:Cb P w K mg base 1 "light_at" ["row","k"] (BM K)) (C2:Cb P w K mg base 1 "light_through" ["one","other"] (BF K)):Cb P w K mg base 2 "pane_light" ["mark","glasses","paintings"] (BW K):=by
 refine F.cb EQ (λvs H Q E h=>?_) (λ_ _ A _ s H vs Q E hr h=>?_)
 ·obtain⟨b,ga,qa,x,gs,qs,rfl,_⟩:=h
  rfl
 ·obtain⟨b,ga,qa,x,gs,qs,rfl,hb,hg,hq,bg,bq,xg,xp,k⟩:=h
  refine⟨_,ac (aC (i:=3) EQ.nd rfl (.inl rfl) (aJ C1 hr (aa (pv 1) (aa (aB aF (pv 0) ah (λ_ _=>rfl)) ad))))
   (ac (a8 (aM l6 (aB aF (pv 0) ah (λ_ _=>rfl)) ah (aL _)) (af (aq (pv 3))) aN)
   (af (aq (aJ C2 hr (aa (pv 3) (aa (aJ C1 hr (aa (pv 2) (aa (aW eh (aB aF (pv 0) ah (λ_ _=>rfl)) ah) ad))) ad)))))),?_⟩
  refine⟨_,rfl,_,rfl,b,_,_,_,rfl,rfl,hb,aE (j:=2) rfl rfl,ga,gs,x.glass,rfl,hg,xg,λp hp=>?_⟩
  have s1:ak H (upd H p (.lst (iV (LM.lat gs x.glass)))):=aG hp
  have h1:(upd H p (.lst (iV (LM.lat gs x.glass)))) p=some (.lst (iV (LM.lat gs x.glass))):=ae
  generalize upd H p (.lst (iV (LM.lat gs x.glass)))=H1 at s1 h1
  refine⟨_,rfl,b,_,_,_,rfl,rfl,(jk s1 hb),aE (j:=3) rfl rfl,rfl,_,rfl,aV (λc=>?_) (λc=>?_)⟩
  ·have c:=V.int.inj (Hk c)
   refine⟨_,rfl,k H1 p s1 hp ?_⟩
   unfold plI
   rw[Hz (by lia)]
   exact h1
  ·have c:¬x.painting=0:=λz=>c (dqt (by rw[z];rfl))
   refine⟨_,rfl,_,rfl,_,rfl,b,_,_,_,rfl,rfl,(jk s1 hb),aE (j:=3) rfl rfl,_,_,rfl,rfl,qa,qs,x.painting-1,?_,hq.same s1,by lia,λp2 hp2=>?_⟩
   ·show [V.ref qa,V.int ((x.painting:Int)-1)]=_
    rw[show((x.painting:Int)-1)=((x.painting-1:Nat):Int) by lia]
   have s2:ak H1 (upd H1 p2 (.lst (iV (LM.lat qs (x.painting-1))))):=aG hp2
   have l1:=kY gs x.glass
   have l2:=kY qs (x.painting-1)
   refine⟨p,p2,_,_,rfl,⟨SqL.of (s2 _ _ h1),by lia⟩,⟨SqL.of ae,by lia⟩,(bg.lat _).sm,(bq.lat _).sm,λH3 r s3 hr0 hr3=>?_⟩
   refine k H3 r (s1.trans (s2.trans s3)) (pZ (s1.trans s2) hr0) ?_
   unfold plI
   rw[Hs c]
   exact hr3
theorem zU {gs qs:List Int}(bg:Bd gs)(bq:Bd qs)(x:Kz):Bd (plI gs qs x):=by
 unfold plI
 split
 ·exact bg.lat _
 ·exact(bg.lat _).th (bq.lat _)
theorem CF (gs qs:List Int)(x:Kz):(plI gs qs x).length<=32:=by
 unfold plI
 split
 ·exact kY _ _
 ·exact Ik (DN _ _) (kY _ _)
def FP:Sp:=λvs H Q _=>∃(r:Hm) (ns:List Int),vs=[.ref r]/\H r=some (.lst (iV ns))/\ns.length<=1000000/\∀(H':Hp) (p:Hm),ak H H'->H' p=some (.lst (iV (0 :: (ns.length:Int) :: ns)))->Q (.ref p) H'
theorem Gv:aw ["row"] ["row"] (ag fY):=fsk
theorem EJ (F:Has K mg "row_answer" fY ["row"]) (gl:mg "len"=none):Cb P w K mg base 1 "row_answer" ["row"] FP:=by
 refine F.cb Gv (λvs H Q E h=>?_) (λ_ _ A _ s H vs Q E hr h=>?_)
 ·obtain⟨r,ns,rfl,_⟩:=h
  rfl
 ·obtain⟨r,ns,rfl,hrr,hl,k⟩:=h
  refine⟨_,af (aq (aW ya (eo (aa ah (aa (aY aR (by rfl) gl IB (aa (pv 0) ad)) ad))) (pv 0))),?_⟩
  refine⟨_,rfl,r,_,rfl,.inl (SqL.of hrr),(by show 2<=Hr;decide),λp hp=>?_⟩
  have s1:ak H (upd H p (.lst [.int 0,.int (((iV ns).length:Nat):Int)])):=aG hp
  refine⟨_,rfl,p,r,_,_,rfl,rfl,ae,s1 _ _ hrr,?_,λq hq=>?_⟩
  ·rw[iV,lmp]
   have:ns.length+2<Hr:=Iu (Nat.add_le_add_right hl 2) (by decide)
   show 2+ns.length<=Hr
   lia
  ·refine k _ q (aX s1 hq) ?_
   rw[ae]
   show some (HO.lst (.int 0 :: .int (((iV ns).length:Nat):Int) :: iV ns))=_
   rw[iV,lmp]
   rfl
theorem tI.none' {o:Option (List Int)}{H H':Hp}{Q:VK}(k:tI o H Q)(e:o=none)(s:ak H H'):Q .non H':=by
 subst e
 exact k .non H' s rfl
theorem tI.some' {o:Option (List Int)}{H H':Hp}{Q:VK}{r:List Int}(k:tI o H Q)(e:o=some r)(s:ak H H'):∀q,H' q=none->Q (.ref q) (upd H' q (.lst (iV r))):=λq hq=>by
 subst e
 exact k (.ref q) _ (aX s hq) ⟨q,rfl,ae⟩
def fN (cs gs qs:List Int):Option (List Int):=if (LM.cM gs&&LM.cM qs)=false then some [-1] else if (decide (131072<cs.length)||(decide (256<LM.cnt gs)||decide (256<LM.cnt qs)))=true then some [-6] else none
theorem Bb {cs gs qs:List Int}(h:fN cs gs qs=none):Bd gs/\Bd qs:=by
 unfold fN at h
 split at h
 ·cases h
 ·rename_i c
  have c:(LM.cM gs&&LM.cM qs)=true:=by
   cases e:(LM.cM gs&&LM.cM qs) with
   |true=>rfl
   |false=>exact absurd e c
  rw[Hu]at c
  unfold LM.cM at c
  rw[Hu,Hu]at c
  exact⟨LM.lf.1 c.1.2,LM.lf.1 c.2.2⟩
def zR (K:IN):Sp:=λvs H Q _=>∃(ca ga qa:Hm) (cs gs qs:List Int),vs=[.ref ca,.ref ga,.ref qa]/\LI K H ca cs/\LI K H ga gs/\LI K H qa qs/\tI (fN cs gs qs) H Q
theorem x8:aw ["cartoon","glasses","paintings","too_many_lights"] ["cartoon","glasses","paintings"] (ag di):=fsk
theorem Bo (F:Has K mg "refusal_of_shop" di ["cartoon","glasses","paintings"]) (gl:mg "len"=none) (gM:∃t,mg "MOST_LIGHTS"=some (.int 256 t)) (gY:∃t,mg "MOST_BYTES"=some (.int 131072 t)) (C2:Cb P w K mg base 2 "are_lights" ["row"] (ym K)) (C3:Cb P w K mg base 1 "how_many_lights" ["row"] (zn K)) :
  Cb P w K mg base 3 "refusal_of_shop" ["cartoon","glasses","paintings"] (zR K):=by
 refine F.cb x8 (λvs H Q E h=>?_) (λ_ _ A _ s H vs Q E hr h=>?_)
 ·obtain⟨ca,ga,qa,cs,gs,qs,rfl,_⟩:=h
  rfl
 ·obtain⟨ca,ga,qa,cs,gs,qs,rfl,hc,hg,hq,k⟩:=h
  have hr1:bA 1 _:=hr.mono (by decide)
  refine⟨_,ac (a8 (jZ (jq (dc (aJ C2 hr (aa (pv 1) ad))) (gy (dc (aJ C2 hr (aa (pv 2) ad))))).pt) (af (aq (eo (aa (nT j6 ah) ad)))) aN)
   (ac (aC (i:=3) x8.nd rfl (.inl rfl) (tR (cO eD (aJ C3 hr1 (aa (pv 1) ad)) (bI gM) (aL _)) (fF (cO eD (aJ C3 hr1 (aa (pv 2) ad)) (bI gM) (aL _)))))
   (ac (a8 (oz (aM eD (aY aR (by rfl) gl IB (aa (pv 0) ad)) (bI gY) (aL _)) (ka (dc (pv 3)))).pt (af (aq (eo (aa (nT j6 ah) ad)))) aN)
   (af (aq bb)))),?_⟩
  have bad:(LM.cM gs&&LM.cM qs)=false->∀p,H p=none->Q (.ref p) (upd H p (.lst [.int (-1)])):=λe p hp=>k.some' (r:=[-1]) (by unfold fN;rw[Hz e]) (ak.refl H) p hp
  have six:(LM.cM gs&&LM.cM qs)=true->(decide (131072<cs.length)||(decide (256<LM.cnt gs)||decide (256<LM.cnt qs)))=true->∀p,H p=none->Q (.ref p) (upd H p (.lst [.int (-6)])):=λe e2 p hp=>k.some' (r:=[-6]) (by unfold fN;rw[e,Hs (by decide),Hz e2]) (ak.refl H) p hp
  have non:(LM.cM gs&&LM.cM qs)=true->¬(decide (131072<cs.length)||(decide (256<LM.cnt gs)||decide (256<LM.cnt qs)))=true->Q .non H:=λe e2=>k.none' (by unfold fN;rw[e,Hs (by decide),Hs e2]) (ak.refl H)
  refine⟨_,rfl,ga,gs,rfl,hg,_,rfl,?_⟩
  cases h2:LM.cM gs with
  |false =>
   refine j8 (eT ⟨_,rfl,(by show 1<=Hr;decide),λp hp=>bad (by rw[h2];rfl) p hp⟩)
  |true =>
  refine eT ?_
  refine⟨_,rfl,qa,qs,rfl,hq,_,rfl,?_⟩
  cases h3:LM.cM qs with
  |false =>
   refine eT ⟨_,rfl,(by show 1<=Hr;decide),λp hp=>bad (by rw[h2,h3];rfl) p hp⟩
  |true =>
  refine j8 ?_
  have ok:(LM.cM gs&&LM.cM qs)=true:=by rw[h2,h3];rfl
  have cont:∀t:Bool,t=(decide (256<LM.cnt gs)||decide (256<LM.cnt qs))->BY (ud (tOr (fB (tOp (rI0 λi j=>.bl (decide (j<i))) (tCB (λxs H Q=>∃p ys,xs=[.ref p]/\(SqL K H p ys\/SqT K H p ys)/\Q (.int ys.length) H) (br (a4 0) fI)) (tC (.int 131072)))) (tB (a4 3)))
    (m5 (Ev (br (tUn (rU λi=>.int (-i)) (tC (.int 6))) fI))) oG) (m5 (tC .non)) { nx:=λ_ H'=>Q .non H',rt:=Q } [some (.ref ca),some (.ref ga),some (.ref qa),some (.bl t)] H:=λt et=>by
   refine⟨_,rfl,ca,_,rfl,.inl hc.1,_,_,rfl,rfl,_,rfl,?_⟩
   rw[iV,lmp]
   refine aV (λc=>?_) (λc=>?_)
   ·have c:=Hk c
    refine eT ⟨_,rfl,(by show 1<=Hr;decide),λp hp=>six ok ?_ p hp⟩
    rw[dqt (by omega:131072<cs.length),LF]
   ·have c:=aK c
    refine⟨_,rfl,_,rfl,aV (λc2=>?_) (λc2=>?_)⟩
    ·refine⟨_,rfl,(by show 1<=Hr;decide),λp hp=>six ok ?_ p hp⟩
     rw[<-et,c2,Bool.or_true]
    ·refine non ok ?_
     rw[<-et,cN c2,dqf (by omega)]
     decide
  refine⟨_,rfl,ga,gs,rfl,hg,_,_,rfl,rfl,_,rfl,aV (λc=>?_) (λc=>?_)⟩
  ·have c:=Hk c
   refine cont true ?_
   rw[dqt (by omega:256<LM.cnt gs),LF]
  ·have c:=aK c
   refine⟨_,rfl,qa,qs,rfl,hq,_,_,rfl,rfl,?_⟩
   refine cont _ ?_
   rw[dqf (by omega:¬256<LM.cnt gs),Bool.false_or,HK]
   omega
def Bx (fo:Option (Int×Int)):Option (List Int):=fo.map λx=>[-5,x.1,x.2]
def ET (CV:Hm):Sp:=λvs H Q _=>∃(v:Hm) (fo:Option (Int×Int)) (dv ov:V),vs=[.ref v]/\we CV H v fo dv ov/\tI (Bx fo) H Q
theorem GB:aw ["verdict"] ["verdict"] (ag cu):=fsk
theorem FC (F:Has K mg "refusal_of_cartoon" cu ["verdict"]) (TV:VCl K mg CV):Cb P w K mg base 1 "refusal_of_cartoon" ["verdict"] (ET CV):=by
 refine F.cb GB (λvs H Q E h=>?_) (λ_ _ A _ s H vs Q E hr h=>?_)
 ·obtain⟨v,fo,dv,ov,rfl,_⟩:=h
  rfl
 ·obtain⟨v,fo,dv,ov,rfl,⟨dx,fv,hv,hf⟩,k⟩:=h
  refine⟨_,ac (a8 (aM jo (aS (pv 0) rfl) bb (aL _)) (af (aq bb)) aN)
   (af (aq (eo (aa (nT j6 ah) (aa (aB aF (aS (pv 0) rfl) ah (λ_ _=>rfl)) (aa (aB aF (aS (pv 0) rfl) ah (λ_ _=>rfl)) ad)))))),?_⟩
  refine⟨_,rfl,v,CV,dx,_,_,rfl,hv,TV.cl,TV.nF,Cv,rfl,_,rfl,?_⟩
  cases fo with
  |none =>
   obtain rfl:fv=.non:=hf
   exact lV (k.none' rfl (ak.refl H))
  |some x =>
   obtain⟨q,rfl,hq⟩:=hf
   refine iE ?_ rfl
   refine⟨_,rfl,_,rfl,v,CV,dx,_,_,rfl,hv,TV.cl,TV.nF,Cv,q,_,_,_,rfl,rfl,SqT.of hq,aE (j:=0) rfl rfl,_,rfl,v,CV,dx,_,_,rfl,hv,TV.cl,TV.nF,Cv,q,_,_,_,rfl,rfl,SqT.of hq,aE (j:=1) rfl rfl,(by show 3<=Hr;decide),λp hp=>?_⟩
   exact k.some' (r:=[-5,x.1,x.2]) rfl (ak.refl H) p hp
def uT (o:Option Nat):Option (List Int):=o.map λk=>[-3,(k:Int)]
def BR (K:IN):Sp:=λvs H Q _=>∃(m ga qa:Hm) (ms:List Hm) (S:Gla.Plan) (gs qs:List Int),vs=[.ref m,.ref ga,.ref qa]/\MkL H m ms S/\LI K H ga gs/\LI K H qa qs/\tI (uT (cn gs qs S)) H Q
theorem BJ:aw ["marks","glasses","paintings","k"] ["marks","glasses","paintings"] (ag cQ):=fsk
theorem Dl (F:Has K mg "refusal_of_marks" cQ ["marks","glasses","paintings"]) (C1:Cb P w K mg base 2 "first_mark_without_light" ["marks","glasses","paintings"] (DS K)):Cb P w K mg base 3 "refusal_of_marks" ["marks","glasses","paintings"] (BR K):=by
 refine F.cb BJ (λvs H Q E h=>?_) (λ_ _ A _ s H vs Q E hr h=>?_)
 ·obtain⟨m,ga,qa,ms,S,gs,qs,rfl,_⟩:=h
  rfl
 ·obtain⟨m,ga,qa,ms,S,gs,qs,rfl,hm,hg,hq,k⟩:=h
  refine⟨_,ac (aC (i:=3) BJ.nd rfl (.inl rfl) (aJ C1 hr (aa (pv 0) (aa (pv 1) (aa (pv 2) ad)))))
   (ac (a8 (aM jo (pv 3) bb (aL _)) (af (aq bb)) aN)
   (af (aq (eo (aa (nT j6 ah) (aa (pv 3) ad)))))),?_⟩
  refine⟨_,rfl,_,rfl,_,rfl,m,ga,qa,ms,S,gs,qs,rfl,hm,hg,hq,λH1 s1=>?_⟩
  cases e:cn gs qs S with
  |none =>
   exact⟨_,rfl,rfl,_,rfl,lV (k.none' (by rw[e];rfl) s1)⟩
  |some i =>
   refine⟨_,rfl,rfl,_,rfl,aV (λc=>absurd (Hk c) (by intro z;cases z)) (λ_=>?_)⟩
   exact⟨_,rfl,_,rfl,(by show 2<=Hr;decide),λp hp=>k.some' (r:=[-3,(i:Int)]) (by rw[e];rfl) s1 p hp⟩
theorem Dk.some {r:List Int}{v:V}{H:Hp}(h:Dk (some r) v H):∃q,v=.ref q/\H q=some (.lst (iV r)):=h
theorem Af {ns:List Int}{m:Kz}(h:m∈(a7 ns).marks):m.glass<=1000000/\m.painting<=1000000:=by
 have n2:∀p,Gla.num (toB ns) p 2<65536:=λp=>qD _ p 2
 unfold a7 KO at h
 simp only[HM]at h
 obtain⟨i,_,rfl⟩:=h
 exact⟨by have:=n2 (Gla.HEAD+8*Gla.num (toB ns) 12 2+4*Gla.num (toB ns) 14 2+12*i+8);show Gla.num _ _ _<=_;omega,by have:=n2 (Gla.HEAD+8*Gla.num (toB ns) 12 2+4*Gla.num (toB ns) 14 2+12*i+10);show Gla.num _ _ _<=_;omega⟩
def uG (fo:Option (Int×Int))(gs qs:List Int)(S:Gla.Plan):Option (List Int):=match Bx fo with
 |some r=>some r
 |none=>uT (cn gs qs S)
def Fq (K:IN)(C CV:Hm):Sp:=λvs H Q _=>∃(v ga qa:Hm) (fo:Option (Int×Int)) (dv ov:V) (S:Gla.Plan) (gs qs:List Int),vs=[.ref v,.ref ga,.ref qa]/\we CV H v fo dv ov/\(fo=none->∃d,dv=.ref d/\bC C H d S)/\LI K H ga gs/\LI K H qa qs/\tI (uG fo gs qs S) H Q
theorem FH:aw ["verdict","glasses","paintings","refusal"] ["verdict","glasses","paintings"] (ag cE):=fsk
theorem D7 (F:Has K mg "refusal_of_window" cE ["verdict","glasses","paintings"]) (T:DCl K mg C) (TV:VCl K mg CV) (C1:Cb P w K mg base 1 "refusal_of_cartoon" ["verdict"] (ET CV)) (C2:Cb P w K mg base 3 "refusal_of_marks" ["marks","glasses","paintings"] (BR K)) :
  Cb P w K mg base 4 "refusal_of_window" ["verdict","glasses","paintings"] (Fq K C CV):=by
 refine F.cb FH (λvs H Q E h=>?_) (λ_ _ A _ s H vs Q E hr h=>?_)
 ·obtain⟨v,ga,qa,fo,dv,ov,S,gs,qs,rfl,_⟩:=h
  rfl
 ·obtain⟨v,ga,qa,fo,dv,ov,S,gs,qs,rfl,hv,hd,hg,hq,k⟩:=h
  have hr1:bA 1 _:=hr.mono (by decide)
  refine⟨_,ac (aC (i:=3) FH.nd rfl (.inl rfl) (aJ C1 hr1 (aa (pv 0) ad)))
   (ac (a8 (aM iO (pv 3) bb (aL _)) (af (aq (pv 3))) aN)
   (af (aq (aJ C2 hr (aa (aS (aS (pv 0) rfl) rfl) (aa (pv 1) (aa (pv 2) ad))))))),?_⟩
  refine⟨_,rfl,v,fo,dv,ov,rfl,hv,λx H1 s1 l1=>?_⟩
  unfold uG at k
  cases fo with
  |some e =>
   obtain⟨q,rfl,hq1⟩:=id l1
   exact⟨_,rfl,rfl,_,rfl,aV (λ_=>⟨_,rfl,k (.ref q) H1 s1 l1⟩) (λc=>absurd (by rw[dqf (by intro z;cases z)];rfl) c)⟩
  |none =>
   obtain rfl:x=.non:=l1
   refine⟨_,rfl,rfl,_,rfl,aV (λc=>absurd c (by decide)) (λ_=>?_)⟩
   obtain⟨d,rfl,hD⟩:=hd rfl
   obtain⟨vx,fv,hv',_⟩:=hv
   obtain⟨dx,p,l,m,ps,ls,ms,o⟩:=(hD.same s1).op (K:=K)
   have hmk:MkL H1 m ms S:=⟨o.ml,o.mn,λi b x e1 e2=>o.ma i b x e1 e2⟩
   exact⟨_,rfl,v,CV,vx,_,_,rfl,s1 _ _ hv',TV.cl,TV.nD,FL,d,C,dx,_,_,rfl,o.at_,T.cl,T.nM,xb,_,rfl,_,rfl,m,ga,qa,ms,S,gs,qs,rfl,hmk,hg.same s1,hq.same s1,λy H2 s2 l2=>k y H2 (s1.trans s2) l2⟩
section
variable  {S:Gla.Plan}
def fp (e:Gla.Fault):Int×Int:=((e.rule:Int),(e.place:Int))
theorem vo (r:Nat)(i:Nat):fp ⟨r,Gla.ptPlace i⟩=((r:Int),lx i):=by
 unfold fp Gla.ptPlace Gla.HEAD lx
 simp
theorem BL (S:Gla.Plan)(r:Nat)(i:Nat):fp ⟨r,Gla.linePlace S i⟩=((r:Int),rL S i):=by
 unfold fp Gla.linePlace Gla.HEAD rL
 simp
theorem yo (S:Gla.Plan)(r:Nat)(i:Nat):fp ⟨r,Gla.markPlace S i⟩=((r:Int),oX S i):=by
 unfold fp Gla.markPlace Gla.HEAD oX
 simp
theorem tD (S:Gla.Plan):S.fault.map fp=lO (bT S) (eR S):=by
 unfold Gla.Plan.fault bT
 cases h4:IS (ok4 S) Pt.below S.pts with
 |some i =>
  have e:o4 S=some (4,lx i):=by unfold o4;rw[h4];rfl
  have h4':IS (λ(p:Pt)=>decide (p.x<=S.w)&&decide (p.y<=S.h)) Pt.below S.pts=some i:=h4
  rw[h4',e]
  exact Jb some (vo 4 i)
 |none =>
 have e4:o4 S=none:=by unfold o4;rw[h4];rfl
 have h4':IS (λ(p:Pt)=>decide (p.x<=S.w)&&decide (p.y<=S.h)) Pt.below S.pts=none:=h4
 rw[h4',e4]
 dsimp only
 cases h5:IS (ok5 S) IZ S.lines with
 |some i =>
  have e:o5 S=some (5,rL S i):=by unfold o5;rw[h5];rfl
  have h5':IS (λ(l:Nat×Nat)=>decide (l.1<l.2)&&decide (l.2<S.pts.length)) IZ S.lines=some i:=h5
  rw[h5',e]
  exact Jb some (BL S 5 i)
 |none =>
 have e5:o5 S=none:=by unfold o5;rw[h5];rfl
 have h5':IS (λ(l:Nat×Nat)=>decide (l.1<l.2)&&decide (l.2<S.pts.length)) IZ S.lines=none:=h5
 rw[h5',e5]
 dsimp only
 cases h6:LA S with
 |false =>
  have e:o6 S=some (6,20):=by unfold o6;rw[h6];rfl
  rw[Hz rfl,e]
  rfl
 |true =>
 have e6:o6 S=none:=by unfold o6;rw[h6];rfl
 rw[Hs (by decide),e6]
 cases h7:Gla.firstAt (K7 S) S.lines with
 |some i =>
  have e:o7 S=some (7,rL S i):=by unfold o7;rw[h7];rfl
  rw[e]
  exact Jb some (BL S 7 i)
 |none =>
 have e7:o7 S=none:=by unfold o7;rw[h7];rfl
 rw[e7]
 dsimp only
 cases h8:(HS S.pts.length).find? λ(i:Nat)=>decide ((S.near i).length<2) with
 |some i =>
  have e:o8 S=some (8,lx i):=by unfold o8;rw[h8];rfl
  rw[e]
  exact Jb some (vo 8 i)
 |none =>
 have e8:o8 S=none:=by unfold o8;rw[h8];rfl
 rw[e8]
 dsimp only
 cases h9:(HS S.pts.length).find? λ(i:Nat)=>!((lW S).getD i false) with
 |some i =>
  have e:o9 S=some (9,lx i):=by unfold o9;rw[h9];rfl
  have h9':((HS S.pts.length).find? λ(i:Nat)=>!((K8 S.nears S.pts.length 0 (LH S.pts.length)).getD i false))=some i:=h9
  rw[h9',e]
  exact Jb some (vo 9 i)
 |none =>
 have e9:o9 S=none:=by unfold o9;rw[h9];rfl
 have h9':((HS S.pts.length).find? λ(i:Nat)=>!((K8 S.nears S.pts.length 0 (LH S.pts.length)).getD i false))=none:=h9
 rw[h9',e9]
 dsimp only
 cases h10:(HS S.pts.length).find? (Gla.cuts S.nears S.pts.length) with
 |some i =>
  have e:o10 S=some (10,lx i):=by unfold o10;rw[h10];rfl
  rw[e]
  exact Jb some (vo 10 i)
 |none =>
 have e10:o10 S=none:=by unfold o10;rw[h10];rfl
 rw[e10]
 dsimp only
 cases h11:IS (Kn S) JG S.marks with
 |some i =>
  have e:o11 S=some (11,oX S i):=by unfold o11;rw[h11];rfl
  rw[e]
  exact Jb some (yo S 11 i)
 |none =>
 have e11:o11 S=none:=by unfold o11;rw[h11];rfl
 rw[e11]
 dsimp only
 unfold eR
 cases h12:Gla.twice S S.outlines 0 [] S.marks with
 |some i =>
  have e:o12 S=some (12,oX S i):=by unfold o12;rw[h12];rfl
  rw[e]
  exact Jb some (yo S 12 i)
 |none =>
 have e12:o12 S=none:=by unfold o12;rw[h12];rfl
 rw[e12]
 dsimp only
 show _=o13 S
 unfold o13
 by_cases c:S.marks.length<S.outlines.length
 ·rw[Hz c,Hz c]
  exact Jb some (yo S 13 S.marks.length)
 ·rw[Hs c,Hs c]
  rfl
end
theorem wH {cs:List Int}(hb:Byt cs):Gla.judgePlan (toB cs)=match cB cs with
  |none=>.ok (a7 cs)
  |some _=>Gla.judgePlan (toB cs):=by
 cases e:cB cs with
 |some x=>rfl
 |none =>
  unfold cB at e
  obtain⟨e1,e2⟩:=bW e
  rw[<-tD]at e2
  rw[jE hb]at e1
  have h1:fJ (toB cs)=none:=by
   cases q:fJ (toB cs) with
   |none=>rfl
   |some x=>rw[q]at e1;cases e1
  have h2:(KO (toB cs)).fault=none:=by
   cases q:(KO (toB cs)).fault with
   |none=>rfl
   |some x =>
    have e2:(KO (toB cs)).fault.map fp=none:=e2
    rw[q]at e2
    cases e2
  rw[nX,h1,h2]
  rfl
theorem xc {cs:List Int}(hb:Byt cs){x:Int×Int}(e:cB cs=some x):∃ft,Gla.judgePlan (toB cs)=.error ft/\fp ft=x:=by
 unfold cB at e
 cases h1:fJ (toB cs) with
 |some ft =>
  have e1:dU cs=some (fp ft):=by rw[jE hb,h1];rfl
  rw[e1]at e
  refine⟨ft,?_,osi e⟩
  rw[nX,h1]
 |none =>
  have e1:dU cs=none:=by rw[jE hb,h1];rfl
  rw[e1]at e
  have e:lO (bT (a7 cs)) (eR (a7 cs))=some x:=e
  rw[<-tD]at e
  have e:(KO (toB cs)).fault.map fp=some x:=e
  cases h2:(KO (toB cs)).fault with
  |none=>rw[h2]at e;cases e
  |some ft =>
   rw[h2]at e
   refine⟨ft,?_,osi e⟩
   rw[nX,h1,h2]
theorem yG {cs:List Int}(hb:Byt cs):LightNeutral.bytes cs=some (toB cs):=by
 unfold LightNeutral.bytes
 have e:NeutralIO.bytes cs=true:=by
  unfold NeutralIO.bytes
  rw[IL]
  intro z hz
  have:=hb z hz
  simp only[Hu,Hv]
  omega
 rw[Hz e]
 rfl
theorem zB {gs qs:List Int}(hm:gs.length % 32=0)(hm2:qs.length % 32=0):GlaLits.many ⟨LM.aA gs,LM.aA qs⟩=(decide (256<LM.cnt gs)||decide (256<LM.cnt qs)):=by
 unfold GlaLits.many
 simp only[LM.eA hm,LM.eA hm2,lmp,IX]
 rfl
theorem sK {gs qs:List Int}(bg:Bd gs)(bq:Bd qs)(hm:gs.length % 32=0)(hm2:qs.length % 32=0){m:Kz}(h1:m.glass<LM.cnt gs)(h2:m.painting<=LM.cnt qs):Gla.lightOf ⟨LM.aA gs,LM.aA qs⟩ m=(plI gs qs m).map JR:=by
 unfold Gla.lightOf plI
 dsimp only
 rw[LM.tZ hm h1]
 by_cases c:m.painting=0
 ·rw[Hz c,Hz c]
 ·rw[Hs c,Hs c,LM.tZ hm2 (by omega),LM.xm (λx hx=>((bg.lat _) x hx).1) (λx hx=>((bq.lat _) x hx).1)]
def kvW (ws:List ((Nat×Nat)×Nat)):List (List L2.Key×V):=ws.map λy=>(lk y.1,V.int (y.2:Int))
theorem sY {x:Nat×Nat}:∀{ws:List ((Nat×Nat)×Nat)},x∉ws.map (·.1)->dL (kvW ws) (lk x)=none
 |[],_=>rfl
 |y :: r,h=>by
  rw[HN,Hq,not_or]at h
  show dL ((lk y.1,V.int (y.2:Int)) :: kvW r) (lk x)=none
  rw[bQ λz=>h.1 (ly z).symm]
  exact sY h.2
theorem m8 {x:Nat×Nat}{k:Nat}:∀{ws:List ((Nat×Nat)×Nat)},(ws.map (·.1)).Nodup->(x,k)∈ws->dL (kvW ws) (lk x)=some (.int (k:Int))
 |[],_,h=>by cases h
 |y :: r,hn,h=>by
  rw[HN,Ja]at hn
  show dL ((lk y.1,V.int (y.2:Int)) :: kvW r) (lk x)=_
  rcases Hq.1 h with e|h
  ·subst e
   exact cf rfl
  ·rw[bQ λz=>hn.1 (by rw[ly z];exact HM.2 ⟨_,h,rfl⟩)]
   exact m8 hn.2 h
theorem Ay {ws:List ((Nat×Nat)×Nat)}{x:Nat×Nat}{k:Nat}(h:x∉ws.map (·.1)):gq (kvW ws) (lk x) (.int (k:Int))=kvW (ws++[(x,k)]):=by
 rw[tf _ (sY h)]
 unfold kvW
 rw[HI]
 rfl
def wOf (l:List Nat)(k t:Nat):List ((Nat×Nat)×Nat):=(mG l t).map λx=>(x,k)
def b8 (ls:List (List Nat))(i:Nat):List ((Nat×Nat)×Nat):=(HS i).flatMap λk=>wOf (ls.getD k []) k (ls.getD k []).length
theorem iW (ls:List (List Nat))(i:Nat):b8 ls (i+1)=b8 ls i++wOf (ls.getD i []) i (ls.getD i []).length:=by
 unfold b8
 rw[Ki,KJ,List.flatMap_cons,List.flatMap_nil,Iq]
theorem m9 (l:List Nat)(k t:Nat):wOf l k (t+1)=wOf l k t++[((bef l t,l.getD t 0),k)]:=by
 unfold wOf
 rw[qw,HI]
 rfl
theorem Av (l:List Nat)(k:Nat){t n:Nat}(h:t<=n):∃r,wOf l k n=wOf l k t++r:=by
 induction n with
 |zero =>
  obtain rfl:t=0:=by lia
  exact⟨[],(Iq _).symm⟩
 |succ n ih =>
  by_cases c:t<=n
  ·obtain⟨r,e⟩:=ih c
   exact⟨r++[((bef l n,l.getD n 0),k)],by rw[m9,e,Kd]⟩
  ·obtain rfl:t=n+1:=by lia
   exact⟨[],(Iq _).symm⟩
theorem xC (ls:List (List Nat)){i n:Nat}(h:i<=n):∃r,b8 ls n=b8 ls i++r:=by
 induction n with
 |zero =>
  obtain rfl:i=0:=by lia
  exact⟨[],(Iq _).symm⟩
 |succ n ih =>
  by_cases c:i<=n
  ·obtain⟨r,e⟩:=ih c
   exact⟨r++wOf (ls.getD n []) n (ls.getD n []).length,by rw[iW,e,Kd]⟩
  ·obtain rfl:i=n+1:=by lia
   exact⟨[],(Iq _).symm⟩
theorem Ap (ls:List (List Nat)){i t:Nat}(hi:i<ls.length)(ht:t<(ls.getD i []).length):∃r,b8 ls ls.length=b8 ls i++wOf (ls.getD i []) i t++[((bef (ls.getD i []) t,(ls.getD i []).getD t 0),i)]++r:=by
 obtain⟨r1,e1⟩:=xC ls (show i+1<=ls.length from hi)
 obtain⟨r2,e2⟩:=Av (ls.getD i []) i (show t+1<=(ls.getD i []).length from ht)
 refine⟨r2++r1,?_⟩
 rw[e1,iW,e2,m9]
 simp only[Kd]
def PnL (H:Hp)(O:Hm)(os:List Hm)(ls:List (List Nat)):Prop:=H O=some (.lst (os.map V.ref))/\os.length=ls.length/\∀(i:Nat) (b:Hm) (l:List Nat),os[i]? = some b->ls[i]? = some l->l≠[]/\H b=some (.lst (iV (nI l)))
theorem PnL.same {H H':Hp}{O:Hm}{os:List Hm}{ls:List (List Nat)}(h:PnL H O os ls)(s:ak H H'):PnL H' O os ls:=⟨s _ _ h.1,h.2.1,λi b l e1 e2=>⟨(h.2.2 i b l e1 e2).1,s _ _ (h.2.2 i b l e1 e2).2⟩⟩
def Ek (ls:List (List Nat)):Prop:=((b8 ls ls.length).map (·.1)).Nodup/\(b8 ls ls.length).length<=1000000
def EE:Sp:=λvs H Q _=>∃(O:Hm) (os:List Hm) (ls:List (List Nat)),vs=[.ref O]/\PnL H O os ls/\Ek ls/\∀(H':Hp) (p:Hm),ak H H'->H p=none->H' p=some (.dT (kvW (b8 ls ls.length)))->Q (.ref p) H'
theorem uE:aw ["outlines","panes","k","outline","last","corner"] ["outlines"] (ag d7):=fsk
theorem Fp (F:Has K mg "panes_by_ways" d7 ["outlines"]) (ge:mg "enumerate"=none):Cb P w K mg base 1 "panes_by_ways" ["outlines"] EE:=by
 refine F.cb uE (λvs H Q E h=>?_) (λ_ _ A _ s H vs Q E hr h=>?_)
 ·obtain⟨O,os,ls,rfl,_⟩:=h
  rfl
 ·obtain⟨O,os,ls,rfl,hO,⟨hnd,hlen⟩,k⟩:=h
  have hu:=hr.units
  refine⟨_,ac (aC (i:=1) uE.nd rfl (.inl rfl) kU)
   (ac (bf HJ rfl (dG rfl ge (aa (pv 0) ad)) (cC (n:=2) rfl (aH (au (i:=2) uE.nd rfl (.inl rfl)) (aH (au (i:=3) uE.nd rfl (.inl rfl)) bL)))
    (ac (aC (i:=4) uE.nd rfl (.inl rfl) (aB aU (pv 3) (nT j6 ah) (λ_ _=>rfl)))
    (af (bf HJ rfl (bF (pv 3)) (au (i:=5) uE.nd rfl (.inl rfl))
     (ac (kG (Iu (Ju (by decide) _) hu) (pv 1) (bn (aa (pv 4) (aa (pv 5) ad))) (pv 2) rfl)
     (af (aC (i:=4) uE.nd rfl (.inl rfl) (pv 5))))))))
   (af (aq (pv 1)))),?_⟩
  refine λW hW=>?_
  have s0:ak H (upd H W (.dT (kvW (b8 ls 0)))):=aG hW
  have hW0:(upd H W (.dT (kvW (b8 ls 0)))) W=some (.dT (kvW (b8 ls 0))):=ae
  refine⟨_,rfl,O,_,rfl,SqL.of (s0 _ _ hO.1),cU (K:=K) (a:=O) (xs:=os.map V.ref) (λi σ H'=>ak H H'/\(∃v2 v3 v4 v5,σ=[some (.ref O),some (.ref W),v2,v3,v4,v5])/\H' W=some (.dT (kvW (b8 ls i))))
   ⟨s0,⟨none,none,none,none,rfl⟩,hW0⟩ (λi σ H' _ h=>SqL.of (h.1 _ _ hO.1)) ?_ ?_⟩
  ·rintro i y T σ H' hi hT ⟨hS,⟨v2,v3,v4,v5,rfl⟩,hWi⟩
   obtain⟨b,hb,rfl⟩:=bR hi
   have hil:i<ls.length:=by rw[<-hO.2.1];exact(gsi hb).1
   obtain⟨hne,hbl⟩:=hO.2.2 i b _ hb (gge hil)
   have el:ls.getD i []=ls[i]:=by rw[Hx,gge hil];rfl
   have pre:=λ{t:Nat} (ht:t<(ls.getD i []).length)=>Ap ls hil ht
   have esucc:=iW ls i
   rw[el]at pre esucc
   generalize ls[i]=l at hne hbl pre esucc
   have hpos:0<l.length:=List.length_pos_iff.2 hne
   have s2:ak H (upd H' T (.tup [.int (i:Nat),.ref b])):=aX hS hT
   have hW2:(upd H' T (.tup [.int (i:Nat),.ref b])) W=some (.dT (kvW (b8 ls i++wOf l i 0))):=by
    rw[ao (aP hWi hT),hWi]
    show _=some (HO.dT (kvW (b8 ls i++[])))
    rw[Iq]
   refine⟨T,_,rfl,SqT.of ae,rfl,_,_,rfl,_,_,rfl,rfl,?_⟩
   generalize upd H' T (.tup [.int (i:Nat),.ref b])=H2 at s2 hW2
   refine⟨_,rfl,_,rfl,b,_,_,_,rfl,rfl,SqL.of (s2 _ _ hbl),(by have:=vf (cs:=l) (k:=0) hpos;simpa using this),?_⟩
   refine⟨_,rfl,b,rfl,⟨_,SqL.of (s2 _ _ hbl)⟩,dr (K:=K) (a:=b) (xs:=iV (nI l)) (λt σ H'=>ak H H'/\(∃v5,σ=[some (.ref O),some (.ref W),some (.int (i:Int)),some (.ref b),some (.int (bef l t:Int)),v5])/\H' W=some (.dT (kvW (b8 ls i++wOf l i t))))
    ⟨s2,⟨_,rfl⟩,hW2⟩ (λt σ H' _ h=>SqL.of (h.1 _ _ hbl)) ?_ ?_⟩
   ·rintro t y σ H3 ht ⟨s3,⟨u5,rfl⟩,hW3⟩
    obtain⟨cx,htx,rfl⟩:=kF ht
    have htl:t<l.length:=(gsi htx).1
    have ecx:l.getD t 0=cx:=by rw[Hx,htx];rfl
    obtain⟨r,er⟩:=pre htl
    rw[ecx]at er
    have hnew:(bef l t,cx)∉(b8 ls i++wOf l i t).map (·.1):=by
     rw[er,HI,HI,JK]at hnd
     have h1:=hnd.1
     rw[JK]at h1
     exact λz=>h1.2.2 _ z _ (by simp) rfl
    have hlt:(b8 ls i++wOf l i t).length<1000000:=by
     have:=Jb List.length er
     rw[Hn,Hn,K0]at this
     lia
    refine⟨_,rfl,_,rfl,_,rfl,_,rfl,(by show 2<=Hr;decide),λq2 hq2=>?_⟩
    have s4:ak H3 (upd H3 q2 (.tup [.int (bef l t:Int),.int (cx:Int)])):=aG hq2
    refine⟨W,_,rfl,oV.t (k:=lk (bef l t,cx)) (s4 _ _ hW3) ae (by unfold kvW;rw[lmp];exact a6 (by lia)),?_⟩
    generalize upd H3 q2 (.tup [.int (bef l t:Int),.int (cx:Int)])=H4 at s4
    refine⟨_,rfl,aQ (s3.trans s4) hW,⟨some (.int (cx:Int)),?_⟩,?_⟩
    ·have eb:bef l (t+1)=cx:=by rw[<-ecx];rfl
     rw[eb]
     rfl
    ·rw[ae,Ay hnew,m9,ecx,Kd]
   ·rintro σ H3 ⟨s3,⟨u5,rfl⟩,hW3⟩
    rw[bS]at hW3
    exact⟨s3,⟨_,_,_,_,rfl⟩,by rw[esucc];exact hW3⟩
  ·rintro σ H' ⟨hS,⟨v2,v3,v4,v5,rfl⟩,hWn⟩
   rw[lmp,hO.2.1]at hWn
   exact⟨_,rfl,k H' W hS hW hWn⟩
def iF (ws:List ((Nat×Nat)×Nat))(x:Nat×Nat):Option Nat:=(ws.find? λy=>decide (y.1=x)).map (·.2)
theorem rA (x:Nat×Nat):∀ws:List ((Nat×Nat)×Nat),dL (kvW ws) (lk x)=(iF ws x).map λ(k:Nat)=>V.int (k:Int)
 |[]=>rfl
 |y :: r=>by
  show dL ((lk y.1,V.int (y.2:Int)) :: kvW r) (lk x)=_
  unfold iF
  by_cases c:y.1=x
  ·rw[cf (by rw[c])]
   simp[JC,c]
  ·rw[bQ λz=>c (ly z),rA x r]
   unfold iF
   simp[JC,c]
def kvP (ps:List (Nat×Nat)):List (List L2.Key×V):=ps.map λx=>(lk x,V.bl true)
theorem sZ {x:Nat×Nat}:∀{ps:List (Nat×Nat)},x∉ps->dL (kvP ps) (lk x)=none
 |[],_=>rfl
 |y :: r,h=>by
  rw[Hq,not_or]at h
  show dL ((lk y,V.bl true) :: kvP r) (lk x)=none
  rw[bQ λz=>h.1 (ly z).symm]
  exact sZ h.2
theorem tj {x:Nat×Nat}:∀{ps:List (Nat×Nat)},x∈ps->(dL (kvP ps) (lk x)).isSome=true
 |[],h=>by cases h
 |y :: r,h=>by
  show(dL ((lk y,V.bl true) :: kvP r) (lk x)).isSome=true
  by_cases c:y=x
  ·rw[cf (by rw[c])]
   rfl
  ·rw[bQ λz=>c (ly z)]
   exact tj ((Hq.1 h).resolve_left λz=>c z.symm)
def pz (ps:List (Nat×Nat))(x:Nat×Nat):List (Nat×Nat):=if x∈ps then ps else ps++[x]
theorem Ab (ps:List (Nat×Nat))(x:Nat×Nat):gq (kvP ps) (lk x) (.bl true)=kvP (pz ps x):=by
 unfold pz
 by_cases c:x∈ps
 ·rw[Hz c]
  unfold gq
  rw[fk,Hz (tj c)]
  unfold kvP
  rw[JH]
  refine II λy _=>?_
  show(if lk y=lk x then (lk y,V.bl true) else (lk y,V.bl true))=_
  split<;>rfl
 ·rw[Hs c,tf _ (sZ c)]
  unfold kvP
  rw[HI]
  rfl
theorem yA {ps:List (Nat×Nat)}{x y:Nat×Nat}:y∈pz ps x↔y∈ps\/y=x:=by
 unfold pz
 split
 ·rename_i c
  exact⟨.inl,λh=>h.elim id λz=>by rw[z];exact c⟩
 ·rw[HU,Kx]
theorem A8 {ps:List (Nat×Nat)}{x:Nat×Nat}(h:ps.Nodup):(pz ps x).Nodup:=by
 unfold pz
 split
 ·exact h
 ·rename_i c
  rw[JK]
  exact⟨h,by simp,λa ha b hb e=>c (by rw[<-Kx.1 hb,<-e];exact ha)⟩
theorem yz (ps:List (Nat×Nat))(x:Nat×Nat):(pz ps x).length<=ps.length+1:=by
 unfold pz
 split
 ·lia
 ·rw[Hn]
  simp
def AQ (ws:List ((Nat×Nat)×Nat))(ps:List (Nat×Nat))(y:(Nat×Nat)×Nat):List (Nat×Nat):=match iF ws (y.1.2,y.1.1) with
 |some j=>if y.2<j then pz ps (y.2,j) else ps
 |none=>ps
def fL (ws:List ((Nat×Nat)×Nat))(i:Nat):List (Nat×Nat):=(ws.take i).foldl (AQ ws) []
theorem nE {ws:List ((Nat×Nat)×Nat)}{i:Nat}{y:(Nat×Nat)×Nat}(h:ws[i]? = some y):fL ws (i+1)=AQ ws (fL ws i) y:=by
 unfold fL
 rw[bu h,List.foldl_append]
 rfl
def oS (ws:List ((Nat×Nat)×Nat)):List (Nat×Nat):=fL ws ws.length
theorem jy (ws:List ((Nat×Nat)×Nat)):∀i,i<=ws.length->(fL ws i).Nodup/\(fL ws i).length<=i/\∀x,x∈fL ws i↔∃y∈ws.take i,iF ws (y.1.2,y.1.1)=some x.2/\y.2=x.1/\x.1<x.2
 |0,_=>⟨List.nodup_nil,nlr _,λx=>⟨λh=>(by cases h),λ⟨y,h,_⟩=>(by cases h)⟩⟩
 |i+1,hi=>by
  obtain⟨h1,h2,h3⟩:=jy ws i (by lia)
  have hy:ws[i]? = some ws[i]:=gge (by lia)
  rw[nE hy,bu hy]
  generalize ws[i]=y
  have gen:∀x,((∃z∈ws.take i++[y],iF ws (z.1.2,z.1.1)=some x.2/\z.2=x.1/\x.1<x.2)↔(x∈fL ws i\/(iF ws (y.1.2,y.1.1)=some x.2/\y.2=x.1/\x.1<x.2))):=λx=>by
   rw[h3 x]
   constructor
   ·rintro⟨z,hz,q⟩
    rcases HU.1 hz with hz|hz
    ·exact .inl ⟨z,hz,q⟩
    ·rw[Kx.1 hz]at q
     exact .inr q
   ·rintro(⟨z,hz,q⟩|q)
    ·exact⟨z,HU.2 (.inl hz),q⟩
    ·exact⟨y,HU.2 (.inr (Kx.2 rfl)),q⟩
  unfold AQ
  cases e:iF ws (y.1.2,y.1.1) with
  |none =>
   dsimp only
   refine⟨h1,by lia,λx=>?_⟩
   rw[gen x,e]
   exact⟨.inl,λh=>h.elim id λz=>by cases z.1⟩
  |some j =>
   dsimp only
   by_cases c:y.2<j
   ·rw[Hz c]
    have:=yz (fL ws i) (y.2,j)
    refine⟨A8 h1,by lia,λx=>?_⟩
    rw[gen x,yA,e]
    constructor
    ·rintro(h|h)
     ·exact .inl h
     ·rw[h]
      exact .inr ⟨rfl,rfl,c⟩
    ·rintro(h|⟨q1,q2,q3⟩)
     ·exact .inl h
     ·exact .inr (Lg q2.symm (osi q1).symm)
   ·rw[Hs c]
    refine⟨h1,by lia,λx=>?_⟩
    rw[gen x,e]
    exact⟨.inl,λh=>h.elim id λ⟨q1,q2,q3⟩=>absurd (by rw[osi q1,q2];exact q3) c⟩
def leN (a b:Nat×Nat):Prop:=a.1<b.1\/(a.1=b.1/\a.2<=b.2)
def TPr (H:Hp)(p:Hm)(qs:List Hm)(bs:List (Nat×Nat)):Prop:=H p=some (.lst (qs.map V.ref))/\qs.length=bs.length/\∀(i:Nat) (q:Hm) (b:Nat×Nat),qs[i]? = some q->bs[i]? = some b->H q=some (.tup [.int (b.1:Int),.int (b.2:Int)])
def cP (x:Nat×Nat):Int×Int:=((x.1:Int),(x.2:Int))
def Gm:Sp:=λvs H Q _=>∃(O:Hm) (os:List Hm) (ls:List (List Nat)),vs=[.ref O]/\PnL H O os ls/\Ek ls/\∀(H':Hp) (p:Hm) (qs:List Hm) (bs:List (Nat×Nat)),ak H H'->bs.Perm (oS (b8 ls ls.length))->bs.Pairwise leN->TPr H' p qs bs->Q (.ref p) H'
theorem uC:aw ["outlines","panes","pairs","start","end","one","other"] ["outlines"] (ag eO):=fsk
theorem EW (F:Has K mg "pairs_beside" eO ["outlines"]) (gs:mg "sorted"=none) (C1:Cb P w K mg base 1 "panes_by_ways" ["outlines"] EE):Cb P w K mg base 2 "pairs_beside" ["outlines"] Gm:=by
 refine F.cb uC (λvs H Q E h=>?_) (λ_ _ A _ s H vs Q E hr h=>?_)
 ·obtain⟨O,os,ls,rfl,_⟩:=h
  rfl
 ·obtain⟨O,os,ls,rfl,hO,hok,k⟩:=h
  have hu:=hr.units
  have hr1:bA 1 _:=hr.mono (by decide)
  have hu1:=Iu (Ju (show 1<=_ by decide) _) hu
  refine⟨_,ac (aC (i:=1) uC.nd rfl (.inl rfl) (aJ C1 hr1 (aa (pv 0) ad)))
   (ac (aC (i:=2) uC.nd rfl (.inl rfl) kU)
   (ac (Al (bf HJ rfl (vq (pv 1)) (cC (n:=2) rfl (aH (au (i:=3) uC.nd rfl (.inl rfl)) (aH (au (i:=4) uC.nd rfl (.inl rfl)) bL)))
    (ac (aC (i:=5) uC.nd rfl (.inl rfl) (Bp hu1 (pv 1) (bn (aa (pv 3) (aa (pv 4) ad))) (λ_ _=>rfl)))
    (ac (aC (i:=6) uC.nd rfl (.inl rfl) (y9 hu1 (pv 1) (bn (aa (pv 4) (aa (pv 3) ad))) ⟨rfl,rfl,rfl,rfl⟩))
    (af (a8 (jq (aM iO (pv 6) bb (aL _)) (gy (aM fM (pv 5) (pv 6) (aL _)))).pt
     (af (kG hu1 (pv 2) (bn (aa (pv 5) (aa (pv 6) ad))) eC rfl)) aN))))))
   (af (aq (aY (zl rfl) (by rfl) gs (by decide +kernel) (aa (pv 2) ad)))))),?_⟩
  refine⟨_,rfl,O,os,ls,rfl,hO,hok,λH1 W s1 hW0 hW1=>?_⟩
  obtain⟨hnd,hlen⟩:=hok
  generalize b8 ls ls.length=ws at hnd hlen hW1 k
  refine λW2 hW2=>?_
  have hH2:H W2=none:=pZ s1 hW2
  have nW:W≠W2:=aP hW1 hW2
  have s2:ak H1 (upd H1 W2 (.dT (kvP (fL ws 0)))):=aG hW2
  have hP0:(upd H1 W2 (.dT (kvP (fL ws 0)))) W2=some (.dT (kvP (fL ws 0))):=ae
  refine⟨W,.dT (kvW ws),s2 _ _ hW1,trivial,λod=>?_⟩
  have hl0:(kvW ws).length=ws.length:=by unfold kvW;rw[lmp]
  refine⟨_,rfl,W,od,rfl,.inr ⟨kvW ws,ae,wv (d:=W) (o:=od) (kvs:=kvW ws) (λi σ H'=>(∃v3 v4 v5 v6,σ=[some (.ref O),some (.ref W),some (.ref W2),v3,v4,v5,v6])/\H' W=some (.frz od (.dT (kvW ws)))/\H' W2=some (.dT (kvP (fL ws i)))/\ak H H')
   ⟨⟨none,none,none,none,rfl⟩,ae,by rw[ao nW.symm];exact hP0,aQ (s1.trans s2) hW0⟩ (λi σ H' _ h=>h.2.1) ?_ ?_⟩⟩
  ·rintro i kx vx q σ H' hi hq ⟨⟨v3,v4,v5,v6,rfl⟩,hWf,hPi,hS⟩
   have hil:i<ws.length:=by rw[<-hl0];exact(gsi hi).1
   have hy:ws[i]? = some ws[i]:=gge hil
   have hmem:=HP hil
   unfold kvW at hi
   rw[Hw,hy]at hi
   generalize ws[i]=y at hy hmem hi
   have hi:=osi hi
   obtain⟨rfl,rfl⟩:=IY hi
   obtain⟨_,bl,_⟩:=jy ws i (by lia)
   have esucc:=nE hy
   refine⟨q,_,rfl,SqT.of hq,rfl,_,_,rfl,_,_,rfl,rfl,?_⟩
   refine⟨_,rfl,_,rfl,_,rfl,(by show 2<=Hr;decide),λt1 ht1=>?_⟩
   have r1:ak H' (upd H' t1 (.tup [kV (Sum.inl (y.1.1:Int)),kV (Sum.inl (y.1.2:Int))])):=aG ht1
   refine⟨W,.int (y.2:Int),rfl,.inr ⟨kvW ws,lk y.1,t1,.inr ⟨od,r1 _ _ hWf⟩,rfl,ae,?_⟩,?_⟩
   ·rw[m8 hnd (k:=y.2) hmem]
   generalize upd H' t1 (.tup [kV (Sum.inl (y.1.1:Int)),kV (Sum.inl (y.1.2:Int))])=H3 at r1
   refine⟨_,rfl,W,rfl,.inr ⟨_,.inr ⟨od,r1 _ _ hWf⟩⟩,_,rfl,_,rfl,(by show 2<=Hr;decide),λt2 ht2=>?_⟩
   have r2:ak H3 (upd H3 t2 (.tup [kV (Sum.inl (y.1.2:Int)),kV (Sum.inl (y.1.1:Int))])):=aG ht2
   refine⟨_,.inr ⟨kvW ws,lk (y.1.2,y.1.1),t2,.inr ⟨od,r2 _ _ (r1 _ _ hWf)⟩,rfl,ae,rfl⟩,?_⟩
   rw[rA]
   have r3:=r1.trans r2
   generalize upd H3 t2 (.tup [kV (Sum.inl (y.1.2:Int)),kV (Sum.inl (y.1.1:Int))])=H4 at r2 r3
   unfold AQ at esucc
   cases e:iF ws (y.1.2,y.1.1) with
   |none =>
    rw[e]at esucc
    refine⟨_,rfl,rfl,_,rfl,aV (λc=>absurd c (by decide)) (λ_=>?_)⟩
    refine j8 ?_
    exact⟨⟨_,_,_,_,rfl⟩,r3 _ _ hWf,by rw[esucc];exact r3 _ _ hPi,hS.trans r3⟩
   |some j =>
    rw[e]at esucc
    have esucc:fL ws (i+1)=if y.2<j then pz (fL ws i) (y.2,j) else fL ws i:=esucc
    refine⟨_,rfl,rfl,_,rfl,aV (λ_=>?_) (λc=>absurd (by rw[dqf (by intro z;cases z)];rfl) c)⟩
    refine⟨_,rfl,_,rfl,_,_,rfl,rfl,_,rfl,aV (λc=>?_) (λc=>?_)⟩
    ·have c:=Hk c
     rw[Hz (by lia)]at esucc
     refine⟨_,rfl,_,rfl,_,rfl,(by show 2<=Hr;decide),λt3 ht3=>?_⟩
     have r4:ak H4 (upd H4 t3 (.tup [.int (y.2:Int),.int (j:Int)])):=aG ht3
     refine⟨W2,_,rfl,oV.t (k:=lk (y.2,j)) (r4 _ _ (r3 _ _ hPi)) ae (by unfold kvP;rw[lmp];exact a6 (by lia)),?_⟩
     refine⟨⟨_,_,_,_,rfl⟩,?_,?_,aQ (hS.trans (r3.trans r4)) hH2⟩
     ·rw[ao nW]
      exact r4 _ _ (r3 _ _ hWf)
     ·rw[ae,Ab,esucc]
    ·have c:=aK c
     rw[Hs (by lia)]at esucc
     exact⟨⟨_,_,_,_,rfl⟩,r3 _ _ hWf,by rw[esucc];exact r3 _ _ hPi,hS.trans r3⟩
  ·rintro σ H3 ⟨⟨v3,v4,v5,v6,rfl⟩,hWf,hPn,hS⟩
   rw[hl0]at hPn
   refine⟨hWf,?_⟩
   have s4:ak H (upd H3 W (.dT (kvW ws))):=aQ hS hW0
   have hP4:(upd H3 W (.dT (kvW ws))) W2=some (.dT (kvP (oS ws))):=by rw[ao nW.symm];exact hPn
   generalize upd H3 W (.dT (kvW ws))=H4 at s4 hP4
   refine⟨_,rfl,W2,_,(oS ws).map cP,rfl,hP4,?_,λos2 qs p h1 h2 h3 h4 h5=>?_⟩
   ·unfold kvP
    rw[JH,JH]
    rfl
   have hcast:os2=(os2.map λo=>(o.1.toNat,o.2.toNat)).map cP:=by
    rw[JH]
    have e:os2=os2.map id:=(List.map_id _).symm
    conv=>lhs;rw[e]
    refine II λo ho=>?_
    obtain⟨x,_,rfl⟩:=HM.1 (h1.mem_iff.1 ho)
    show cP x=cP (x.1,x.2)
    rfl
   refine k _ p qs (os2.map λo=>(o.1.toNat,o.2.toNat)) (aX s4 h5) ?_ ?_ ⟨ae,by rw[lmp];exact h3,λi q b e1 e2=>?_⟩
   ·have:=h1.map λo=>(o.1.toNat,o.2.toNat)
    rw[JH]at this
    have e:(oS ws).map ((λo:Int×Int=>(o.1.toNat,o.2.toNat))∘cP)=oS ws:=by
     have e:oS ws=(oS ws).map id:=(List.map_id _).symm
     conv=>rhs;rw[e]
     refine II λo _=>?_
     rfl
    rw[e]at this
    exact this
   ·rw[hcast,Lk]at h2
    refine h2.imp λ{a b} h=>?_
    unfold leN
    have h:(a.1:Int)<b.1\/((a.1:Int)=b.1/\(a.2:Int)<=b.2):=h
    lia
   ·rw[Hw]at e2
    cases e3:os2[i]? with
    |none=>rw[e3]at e2;cases e2
    |some o =>
     rw[e3]at e2
     have e2:(o.1.toNat,o.2.toNat)=b:=osi e2
     obtain⟨x,_,rfl⟩:=HM.1 (h1.mem_iff.1 (Ic e3))
     have e2:x=b:=e2
     subst e2
     have h6:=h4 i q _ e1 e3
     rw[ao (aP h6 h5)]
     exact h6
theorem DH {cs:List Int}(hb:Byt cs)(e:cB cs=none):fJ (toB cs)=none/\WL.cp (a7 cs)/\∀m∈(a7 cs).marks,Gla.clear (a7 cs) m.at_=true:=by
 unfold cB at e
 obtain⟨e1,e2⟩:=bW e
 obtain⟨e2,_⟩:=bW e2
 obtain⟨_,hjB⟩:=mi hb e1
 exact⟨hjB,mr (tF hjB) e2⟩
theorem Ba {S:Gla.Plan}(k:WL.cp S){m:Kz}(hm:Gla.clear S m.at_=true):∃l,S.among S.outlines m.at_=some l/\l∈WL.cG S:=by
 obtain⟨h,hh,h1,_⟩:=WL.xO k hm
 exact⟨_,h1,HP hh⟩
theorem iJ {S:Gla.Plan}(k:WL.cp S){l:List Nat}(h:l∈WL.cG S):(∀x∈l,x<S.pts.length)/\l.length<=S.pts.length/\l≠[]:=by
 obtain⟨e,hJ,_,rfl⟩:=WL.gp k h
 obtain⟨t,ht⟩:=WL.kR k.toKept hJ
 refine⟨qQ k hJ,mN k hJ,?_⟩
 rw[ht]
 simp
theorem zJ {fo:Option (Int×Int)}{gs qs:List Int}{S:Gla.Plan}(h:uG fo gs qs S=none):fo=none/\cn gs qs S=none:=by
 unfold uG at h
 cases fo with
 |some x=>cases h
 |none =>
  refine⟨rfl,?_⟩
  cases e:cn gs qs S with
  |none=>rfl
  |some x=>rw[e]at h;cases h
theorem mh {gs qs:List Int}{S:Gla.Plan}(h:cn gs qs S=none){m:Kz}(hm:m∈S.marks):m.glass<LM.cnt gs/\m.painting<=LM.cnt qs:=by
 obtain⟨i,hi,rfl⟩:=Ky.1 hm
 have hno:=WL.fP h i hi
 have hno:(decide (S.marks[i].glass<LM.cnt gs)&&decide (S.marks[i].painting<=LM.cnt qs))=true:=by
  cases q:(decide (S.marks[i].glass<LM.cnt gs)&&decide (S.marks[i].painting<=LM.cnt qs)) with
  |true=>rfl
  |false=>rw[q]at hno;cases hno
 rw[Hu,Hv,Hv]at hno
 exact hno
def alF (bd:Int)(Ls:List (List Int))(bs:List (Nat×Nat)):List (Nat×Nat):=bs.filter λb=>decide (LM.apI (Ls.getD b.1 []) (Ls.getD b.2 [])<bd)
theorem yt {bd:Int}{Ls:List (List Int)}{bs:List (Nat×Nat)}{i:Nat}{b:Nat×Nat}(h:bs[i]? = some b):alF bd Ls (bs.take (i+1))=if LM.apI (Ls.getD b.1 []) (Ls.getD b.2 [])<bd then alF bd Ls (bs.take i)++[b] else alF bd Ls (bs.take i):=by
 unfold alF
 rw[bu h,List.filter_append]
 split
 ·rename_i c
  rw[KL (by exact dqt c)]
  rfl
 ·rename_i c
  rw[KM (by rw[dqf c];decide),List.filter_nil,Iq]
theorem zz {H:Hp}{L:Hm}{Ls:List (List Int)}(h:LL H L Ls){i:Nat}(hi:i<Ls.length):∃(as:List Hm) (b:Hm),H L=some (.lst (as.map V.ref))/\as[i]? = some b/\H b=some (.lst (iV (Ls.getD i []))):=by
 obtain⟨as,h1,h2,h3⟩:=h
 have hb:as[i]? = some (as[i]'(by lia)):=gge (by lia)
 refine⟨as,_,h1,hb,?_⟩
 have e:Ls.getD i []=Ls[i]:=by rw[Hx,gge hi];rfl
 rw[e]
 exact h3 i _ _ hb (gge hi)
theorem mM {H H':Hp}{L:Hm}{Ls:List (List Int)}(h:LL H L Ls)(s:ak H H'):LL H' L Ls:=by
 obtain⟨as,h1,h2,h3⟩:=h
 exact⟨as,s _ _ h1,h2,λi a l e1 e2=>s _ _ (h3 i a l e1 e2)⟩
def GQ (Ls:List (List Int)):Prop:=∀i,i<Ls.length->Bd (Ls.getD i [])/\(Ls.getD i []).length<=32
def Bz (K:IN):Sp:=λvs H Q _=>∃(bd:Int) (p L:Hm) (qs:List Hm) (bs:List (Nat×Nat)) (Ls:List (List Int)),vs=[.int bd,.ref p,.ref L]/\TPr H p qs bs/\LL H L Ls/\GQ Ls/\(∀b∈bs,b.1<Ls.length/\b.2<Ls.length)/\bs.length<=1000000 /\
 ∀(H':Hp) (r:Hm) (qs':List Hm),ak H H'->H r=none->TPr H' r qs' (alF bd Ls bs)->Q (.ref r) H'
theorem yH:aw ["bound","pairs","lights","pair"] ["bound","pairs","lights"] (ag d3):=fsk
theorem Cu (F:Has K mg "pairs_alike" d3 ["bound","pairs","lights"]) (C1:Cb P w K mg base 1 "how_far_apart" ["one","other"] (zP K)):Cb P w K mg base 2 "pairs_alike" ["bound","pairs","lights"] (Bz K):=by
 refine F.cb yH (λvs H Q E h=>?_) (λ_ _ A _ s H vs Q E hr h=>?_)
 ·obtain⟨bd,p,L,qs,bs,Ls,rfl,_⟩:=h
  rfl
 ·obtain⟨bd,p,L,qs,bs,Ls,rfl,hp,hL,hLs,hbs,hbl,k⟩:=h
  refine⟨_,af (aq (tX (own:=[("pair",3)]) (tt:=fB (tOp (rI0 λi j=>.bl (decide (i<j))) (jR (zP K) [] E0 (br (tOp (sT K) (a4 2) (tOp (nS K) (a4 3) (tC (.int 0)))) (br (tOp (sT K) (a4 2) (tOp (nS K) (a4 3) (tC (.int 1)))) fI))) (a4 0))) (te:=a4 3) rfl yH.nd (bF (pv 1)) (bG (by show gR ["bound","pairs","lights","pair"] (ag d3) _ _=true;decide +kernel))
   (λ_ _ _ _ _=>au (i:=3) yH.nd rfl (.inl rfl) (.inr rfl)) (λ_ _ _ _ _=>iZ (aM fM (aJ C1 hr (aa (aB aU (pv 2) (aB aF (pv 3) ah (λ_ _=>rfl)) (λ_ _=>rfl)) (aa (aB aU (pv 2) (aB aF (pv 3) ah (λ_ _=>rfl)) (λ_ _=>rfl)) ad))) (pv 0) (aL _))) (λ_ _ _ _ _=>pv 3))),?_⟩
  refine⟨_,rfl,p,rfl,⟨_,SqL.of hp.1⟩,λD hD=>?_⟩
  refine fU (K:=K) (a:=p) (xs:=qs.map V.ref) (λi H'=>∃rs:List Hm,ak H H'/\H' D=some (.lst (rs.map V.ref))/\rs.length=(alF bd Ls (bs.take i)).length/\∀(j:Nat) (q:Hm) (b:Nat×Nat),rs[j]? = some q->(alF bd Ls (bs.take i))[j]? = some b->H' q=some (.tup [.int (b.1:Int),.int (b.2:Int)]))
   ⟨[],aG hD,ae,rfl,λj q b e=>by simp at e⟩ (λi H' _ h=>by obtain⟨rs,h1,_⟩:=h;exact SqL.of (h1 _ _ hp.1)) ?_ ?_
  ·rintro i y H' hi ⟨rs,hS,hDl,hrl,hat⟩
   obtain⟨q,hq,rfl⟩:=bR hi
   have hil:i<bs.length:=by rw[<-hp.2.1];exact(gsi hq).1
   have hb:bs[i]? = some bs[i]:=gge hil
   obtain⟨hb1,hb2⟩:=hbs _ (HP hil)
   have esucc:=yt (bd:=bd) (Ls:=Ls) hb
   have hqt:=hp.2.2 i q _ hq hb
   generalize bs[i]=b at hb hb1 hb2 esucc hqt
   have hqt':=hS _ _ hqt
   obtain⟨as,a1,g1,g2,g3⟩:=zz (mM hL hS) hb1
   obtain⟨as',a2,g4,g5,g6⟩:=zz (mM hL hS) hb2
   rw[g1]at g4
   have eas:as=as':=by
    have g4:=osi g4
    injection g4 with g4
    exact List.map_inj_right (λ_ _ z=>V.ref.inj z) |>.1 g4
   subst eas
   obtain⟨bd1,ln1⟩:=hLs _ hb1
   obtain⟨bd2,ln2⟩:=hLs _ hb2
   refine⟨rfl,?_⟩
   refine⟨_,rfl,_,rfl,q,_,_,_,rfl,rfl,SqT.of hqt',aE (j:=0) rfl rfl,L,_,_,_,rfl,rfl,SqL.of g1,aE (j:=b.1) rfl (aO g2),_,rfl,_,rfl,q,_,_,_,rfl,rfl,SqT.of hqt',aE (j:=1) rfl rfl,L,_,_,_,rfl,rfl,SqL.of g1,aE (j:=b.2) rfl (aO g5),a1,a2,_,_,rfl,⟨SqL.of g3,by lia⟩,⟨SqL.of g6,by lia⟩,bd1.sm,bd2.sm,λH2 s2=>?_⟩
   refine⟨_,rfl,_,_,rfl,rfl,_,rfl,aV (λc=>?_) (λc=>?_)⟩
   ·have c:=Hk c
    rw[Hz c]at esucc
    have hlf:(alF bd Ls (bs.take i)).length<=bs.length:=Ik (JA _ _) (by rw[Iv];lia)
    refine⟨_,rfl,_,s2 _ _ hDl,by rw[lmp];exact a6 (by lia),rs++[q],aQ (hS.trans s2) hD,by rw[ae,HI];rfl,by rw[esucc,Hn,Hn,hrl];rfl,λj q' b' e1 e2=>?_⟩
    rw[esucc]at e2
    by_cases cj:j<rs.length
    ·rw[HE cj]at e1
     rw[HE (by lia)]at e2
     have h6:=hat j q' b' e1 e2
     rw[ao (vB h6 hDl (by intro z;cases z))]
     exact s2 _ _ h6
    ·have hj:=(gsi e1).1
     rw[Hn]at hj
     have ej:j=rs.length:=by simp at hj;lia
     subst ej
     rw[HC (nlr _),IJ]at e1
     have e1:q=q':=osi e1
     rw[hrl,HC (nlr _),IJ]at e2
     have e2:b=b':=osi e2
     subst e1 e2
     rw[ao (vB hqt' hDl (by intro z;cases z))]
     exact s2 _ _ hqt'
   ·have c:¬LM.apI (Ls.getD b.1 []) (Ls.getD b.2 [])<bd:=λz=>c (dqt z)
    rw[Hs c]at esucc
    rw[esucc]
    exact⟨rs,hS.trans s2,s2 _ _ hDl,hrl,λj q' b' e1 e2=>s2 _ _ (hat j q' b' e1 e2)⟩
  rintro H' ⟨rs,hS,hDl,hrl,hat⟩
  rw[lmp,hp.2.1,IU]at hrl hat
  exact k H' D rs hS hD ⟨hDl,hrl,hat⟩
def aZ (S:Gla.Plan):List (List Nat):=S.marks.map λm=>(S.among S.outlines m.at_).getD []
def d9 (S:Gla.Plan)(gs qs:List Int):List (List Int):=S.marks.map λm=>plI gs qs m
def gm (bs:List (Nat×Nat)):List Int:=bs.flatMap λb=>[(b.1:Int),(b.2:Int)]
theorem gP:aw ["bound","cartoon","glasses","paintings","refusal","verdict","lights","row","pair","mark"] ["bound","cartoon","glasses","paintings"] (ag kj):=fsk
section
variable  {S:Gla.Plan}
theorem tY (k:WL.cp S){l m:List Nat}(hl:l∈WL.cG S)(hm:m∈WL.cG S){x:Nat×Nat}(h1:x∈WL.prs l)(h2:x∈WL.prs m):l=m:=by
 have kk:=k.toKept
 have ok:=WL.iJ kk (D:=WL.bH S) (λx hx=>(WL.a9 kk).1 hx)
 obtain⟨e,⟨a,b,hD,hn⟩,_,rfl⟩:=(ok.mem l).1 hl
 obtain⟨e',⟨a',b',hD',hn'⟩,_,rfl⟩:=(ok.mem m).1 hm
 have hJ:(WL.ab S).J e.1 e.2:=(WL.a9 kk).1 (by rw[hD];simp)
 have hJ':(WL.ab S).J e'.1 e'.2:=(WL.a9 kk).1 (by rw[hD'];simp)
 rw[WL.eK kk hJ]at h1
 rw[WL.eK kk hJ']at h2
 have g1:e'∈WL.orb S e:=WL.eV kk hJ h1 (WL.dz kk hJ' h2)
 have g2:e∈WL.orb S e':=WL.dz kk hJ g1
 have p1:(WL.bH S)[a.length]? = some e:=by rw[hD,HC (nlr _),IJ];rfl
 have p2:(WL.bH S)[a'.length]? = some e':=by rw[hD',HC (nlr _),IJ];rfl
 rcases Li a.length a'.length with c|c|c
 ·rw[hD',HE c]at p1
  exact absurd g1 (hn' e (Ic p1))
 ·rw[c,p2]at p1
  rw[osi p1]
 ·rw[hD,HE c]at p2
  exact absurd g2 (hn e' (Ic p2))
theorem tS {all:List (List Nat)}:∀{ms:List Kz} {i:Nat} {had:List (Option (List Nat))},Gla.twice S all i had ms=none->ms.Pairwise (λa b=>S.among all a.at_≠S.among all b.at_)/\∀m∈ms,S.among all m.at_∉had
 |[],_,_,_=>⟨Lj,λm h=>by cases h⟩
 |m :: r,i,had,h=>by
  have h:(if had.contains (S.among all m.at_)=true then some i else Gla.twice S all (i+1) (S.among all m.at_ :: had) r)=none:=h
  split at h
  ·cases h
  ·rename_i c
   obtain⟨h1,h2⟩:=tS h
   have c:S.among all m.at_∉had:=λz=>c (by simpa using z)
   refine⟨Iy.2 ⟨λb hb z=>h2 b hb (by rw[z];exact HD ..),h1⟩,λb hb=>?_⟩
   rcases Hq.1 hb with rfl|hb
   ·exact c
   ·exact λz=>h2 b hb (Ho _ z)
structure Pan (S:Gla.Plan):Prop where
 kp:WL.cp S
 mem:∀i,i<(aZ S).length->(aZ S).getD i []∈WL.cG S
 some':∀i (h:i<S.marks.length),S.among S.outlines S.marks[i].at_=some ((aZ S).getD i [])
 ne:∀i j,i<(aZ S).length->j<(aZ S).length->i≠j->(aZ S).getD i []≠(aZ S).getD j []
theorem em:(aZ S).length=S.marks.length:=by unfold aZ;rw[lmp]
theorem CU (k:WL.cp S)(hcl:∀m∈S.marks,Gla.clear S m.at_=true)(ht:Gla.twice S S.outlines 0 [] S.marks=none):Pan S:=by
 have g:∀i (h:i<S.marks.length),(aZ S).getD i []=(S.among S.outlines S.marks[i].at_).getD []:=λi h=>by
  unfold aZ
  rw[Hx,Hw,gge h]
  rfl
 have sm:∀i (h:i<S.marks.length),S.among S.outlines S.marks[i].at_=some ((aZ S).getD i [])/\(aZ S).getD i []∈WL.cG S:=λi h=>by
  obtain⟨l,e,hl⟩:=Ba k (hcl _ (HP h))
  rw[g i h,e]
  exact⟨rfl,hl⟩
 refine⟨k,λi h=>(sm i (by rw[<-em];exact h)).2,λi h=>(sm i h).1,λi j hi hj hij z=>?_⟩
 rw[em]at hi hj
 have pw:=HQ.1 (tS ht).1
 rcases IA hij with c|c
 ·exact pw i j hi hj c (by rw[(sm i hi).1,(sm j hj).1,z])
 ·exact pw j i hj hi c (by rw[(sm i hi).1,(sm j hj).1,z])
theorem Bs {l:List Nat}(h:l.Nodup):∀t,t<=l.length->(mG l t).Nodup:=λt ht=>by
 unfold mG
 rw[List.Nodup,Lk]
 refine JY ?_ List.pairwise_lt_range
 intro a b ha hb hab z
 rw[Ix]at ha hb
 have z:=Jb Prod.snd z
 have z:l.getD a 0=l.getD b 0:=z
 rw[Hx,Hx,gge (by lia:a<l.length),gge (by lia:b<l.length)]at z
 exact HQ.1 h a b (by lia) (by lia) hab z
theorem hG {ls:List (List Nat)}{x:Nat×Nat}{k:Nat}:∀{i:Nat},(x,k)∈b8 ls i↔k<i/\x∈WL.prs (ls.getD k []):=λ{i}=>by
 unfold b8 wOf
 rw[J5]
 constructor
 ·rintro⟨j,hj,hx⟩
  obtain⟨y,hy,e⟩:=HM.1 hx
  obtain⟨rfl,rfl⟩:=IY e
  exact⟨Ix.1 hj,(kn _ _).1 hy⟩
 ·rintro⟨hk,hx⟩
  exact⟨k,Ix.2 hk,HM.2 ⟨x,(kn _ _).2 hx,rfl⟩⟩
theorem km (p:Pan S):∀i,i<=(aZ S).length->((b8 (aZ S) i).map (·.1)).Nodup
 |0,_=>List.nodup_nil
 |i+1,hi=>by
  have ih:=km p i (by lia)
  obtain⟨e,hJ,_,el⟩:=WL.gp p.kp (p.mem i (by lia))
  have hn:((aZ S).getD i []).Nodup:=by rw[el];exact WL.jG p.kp hJ
  rw[iW,HI,JK]
  refine⟨ih,?_,λa ha b hb z=>?_⟩
  ·unfold wOf
   rw[JH]
   have e:(mG ((aZ S).getD i []) ((aZ S).getD i []).length).map ((λx:(Nat×Nat)×Nat=>x.1)∘λx=>(x,i))=mG ((aZ S).getD i []) ((aZ S).getD i []).length:=List.map_id'' (λ_=>rfl) _
   rw[e]
   exact Bs hn _ (nlr _)
  ·subst z
   obtain⟨⟨x,kx⟩,hx,rfl⟩:=HM.1 ha
   obtain⟨hk,hx⟩:=hG.1 hx
   obtain⟨y,hy,e2⟩:=HM.1 hb
   unfold wOf at hy
   obtain⟨z,hz,rfl⟩:=HM.1 hy
   have e2:z=x:=e2
   subst e2
   exact p.ne kx i (by lia) (by lia) (by lia) (tY p.kp (p.mem kx (by lia)) (p.mem i (by lia)) hx ((kn _ _).1 hz))
theorem Cw (p:Pan S)(nl:S.lines.length<=100000):(b8 (aZ S) (aZ S).length).length<=200000:=by
 have h:=km p _ (nlr _)
 have kk:=p.kp.toKept
 have h2:=WL.bv (m:=Gla.ways S) h λx hx=>by
  obtain⟨⟨y,kx⟩,hy,rfl⟩:=HM.1 hx
  obtain⟨hk,hy⟩:=hG.1 hy
  obtain⟨e,hJ,_,el⟩:=WL.gp p.kp (p.mem kx hk)
  rw[el,WL.eK kk hJ]at hy
  exact WL.g9.2 (WL.fu kk hJ hy)
 rw[WL.jl,lmp]at h2
 lia
theorem zK {ws:List ((Nat×Nat)×Nat)}{x:Nat×Nat}{k:Nat}:(ws.map (·.1)).Nodup->(iF ws x=some k↔(x,k)∈ws):=by
 intro hn
 have h1:=rA x ws
 constructor
 ·intro h
  unfold iF at h
  cases e:ws.find? λy=>decide (y.1=x) with
  |none=>rw[e]at h;cases h
  |some y =>
   rw[e]at h
   have h:y.2=k:=osi h
   have hy:=List.mem_of_find?_eq_some e
   have hx:y.1=x:=by
    have q:=List.find?_some (p:=λy:(Nat×Nat)×Nat=>decide (y.1=x)) e
    exact Hk q
   rw[<-h,<-hx]
   exact hy
 ·intro h
  rw[m8 hn h]at h1
  cases e:iF ws x with
  |none=>rw[e]at h1;cases h1
  |some j =>
   rw[e]at h1
   have h1:=V.int.inj (osi h1)
   rw[show j=k by lia]
theorem iq (p:Pan S){i j k:Nat}:Gla.leftOf S.panes i j=some k↔k<(aZ S).length/\(i,j)∈WL.prs ((aZ S).getD k []):=by
 unfold Gla.leftOf
 have hl:S.panes.length=S.marks.length:=by unfold Gla.Plan.panes;rw[lmp]
 have at_:∀t (h:t<S.panes.length),S.panes[t]=some ((aZ S).getD t []):=λt h=>by
  have h':t<S.marks.length:=by lia
  have e:S.panes[t]=S.among S.outlines (S.marks[t]'h').at_:=List.getElem_map ..
  rw[e]
  exact p.some' t h'
 have fol:∀l:List Nat,Gla.follows l i j=true↔(i,j)∈WL.prs l:=λl=>by
  unfold Gla.follows
  rw[JT]
  rfl
 rw[List.findIdx?_eq_some_iff_getElem]
 constructor
 ·rintro⟨h,h1,_⟩
  rw[at_ k h]at h1
  exact⟨by rw[em];lia,(fol _).1 h1⟩
 ·rintro⟨h,h1⟩
  have h':k<S.panes.length:=by rw[hl,<-em];exact h
  refine⟨h',by rw[at_ k h'];exact(fol _).2 h1,λt ht z=>?_⟩
  rw[at_ t (by lia)]at z
  have z:=(fol _).1 z
  exact p.ne t k (by lia) h (by lia) (tY p.kp (p.mem t (by lia)) (p.mem k h) z h1)
theorem vm (p:Pan S){a b:Nat}:(a,b)∈oS (b8 (aZ S) (aZ S).length)↔a<b/\(S.allSides.any λ(x:Option Nat×Option Nat)=>x==(some a,some b)||x==(some b,some a))=true:=by
 have hn:=km p _ (nlr _)
 unfold oS
 rw[(jy _ _ (nlr _)).2.2 (a,b),IU,Jt]
 unfold Gla.Plan.allSides
 dsimp only
 have key:∀{u v:Nat},(Gla.sidesOf S.panes (u,v)=(some a,some b))↔((u,v),a)∈b8 (aZ S) (aZ S).length/\iF (b8 (aZ S) (aZ S).length) (v,u)=some b:=λ{u v}=>by
  unfold Gla.sidesOf
  rw[Kt,iq p,iq p,zK hn,hG,hG]
 constructor
 ·rintro⟨⟨⟨u,v⟩,c⟩,hy,h1,h2,h3⟩
  have h2:c=a:=h2
  subst h2
  refine⟨h3,?_⟩
  have hs:=key.2 ⟨hy,h1⟩
  obtain⟨hk,hp⟩:=hG.1 hy
  obtain⟨e,hJ,_,el⟩:=WL.gp p.kp (p.mem c hk)
  rw[el,WL.eK p.kp.toKept hJ]at hp
  rcases WL.fu p.kp.toKept hJ hp with q|q
  ·exact⟨_,HM.2 ⟨(u,v),q,rfl⟩,by rw[hs];simp⟩
  ·refine⟨_,HM.2 ⟨(v,u),q,rfl⟩,?_⟩
   unfold Gla.sidesOf at hs ⊢
   obtain⟨q1,q2⟩:=IY hs
   dsimp only at q1 q2 ⊢
   rw[q1,q2]
   simp
 ·rintro⟨h3,x,hx,h⟩
  obtain⟨⟨u,v⟩,hl,rfl⟩:=HM.1 hx
  rw[Jq,JW,JW]at h
  rcases h with h|h
  ·obtain⟨g1,g2⟩:=key.1 h
   exact⟨_,g1,g2,rfl,h3⟩
  ·have h':Gla.sidesOf S.panes (v,u)=(some a,some b):=by
    unfold Gla.sidesOf at h ⊢
    obtain⟨q1,q2⟩:=IY h
    dsimp only at q1 q2 ⊢
    rw[q1,q2]
   obtain⟨g1,g2⟩:=key.1 h'
   exact⟨_,g1,g2,rfl,h3⟩
end
def ltN (a b:Nat×Nat):Prop:=a.1<b.1\/(a.1=b.1/\a.2<b.2)
theorem vI:∀{l m:List (Nat×Nat)},l.Pairwise ltN->m.Pairwise ltN->(∀x,x∈l↔x∈m)->l=m
 |[],[],_,_,_=>rfl
 |[],y :: m,_,_,h=>absurd ((h y).2 (HD ..)) (by simp)
 |x :: l,[],_,_,h=>absurd ((h x).1 (HD ..)) (by simp)
 |x :: l,y :: m,hl,hm,h=>by
  rw[Iy]at hl hm
  have irr:∀a:Nat×Nat,¬ltN a a:=λa=>by unfold ltN;lia
  have exy:x=y:=by
   by_cases c:x=y
   ·exact c
   ·have h1:=((Hq.1 ((h x).1 (HD ..))).resolve_left c)
    have h2:=((Hq.1 ((h y).2 (HD ..))).resolve_left λz=>c z.symm)
    have g1:=hm.1 x h1
    have g2:=hl.1 y h2
    unfold ltN at g1 g2
    lia
  subst exy
  rw[vI hl.2 hm.2 λz=>?_]
  constructor
  ·intro hz
   exact(Hq.1 ((h z).1 (Ho _ hz))).resolve_left λq=>irr x (by rw[q]at hz;exact hl.1 x hz)
  ·intro hz
   exact(Hq.1 ((h z).2 (Ho _ hz))).resolve_left λq=>irr x (by rw[q]at hz;exact hm.1 x hz)
theorem E6 {bs:List (Nat×Nat)}(h:bs.Pairwise leN)(hn:bs.Nodup):bs.Pairwise ltN:=by
 rw[HQ]at h ⊢
 intro i j hi hj hij
 have h1:=h i j hi hj hij
 have h2:=HQ.1 hn i j hi hj hij
 unfold leN at h1
 unfold ltN
 rcases h1 with h1|⟨h1,h3⟩
 ·exact .inl h1
 ·refine .inr ⟨h1,Nat.lt_of_le_of_ne h3 λz=>h2 (Lg h1 z)⟩
theorem sO {f:Nat->List Nat}(hf:∀i,(f i).Pairwise (· < ·)):∀n,((HS n).flatMap λi=>(f i).map λj=>(i,j)).Pairwise ltN
 |0=>Lj
 |n+1=>by
  rw[Ki,KJ,List.flatMap_cons,List.flatMap_nil,Iq,IK]
  refine⟨sO hf n,?_,λa ha b hb=>?_⟩
  ·rw[Lk]
   exact(hf n).imp λh=>.inr ⟨rfl,h⟩
  ·obtain⟨i,hi,ha⟩:=J5.1 ha
   obtain⟨j,_,rfl⟩:=HM.1 ha
   obtain⟨j',_,rfl⟩:=HM.1 hb
   exact .inl (Ix.1 hi)
theorem vh {S:Gla.Plan}(p:Pan S){a b:Nat}(h:(S.allSides.any λ(x:Option Nat×Option Nat)=>x==(some a,some b)||x==(some b,some a))=true):a<S.marks.length/\b<S.marks.length:=by
 rw[Jt]at h
 obtain⟨x,hx,h⟩:=h
 unfold Gla.Plan.allSides at hx
 dsimp only at hx
 obtain⟨⟨u,v⟩,_,rfl⟩:=HM.1 hx
 rw[Jq,JW,JW]at h
 unfold Gla.sidesOf at h
 rw[Kt,Kt,iq p,iq p,iq p,iq p,em]at h
 rcases h with⟨h1,h2⟩|⟨h1,h2⟩
 ·exact⟨h1.1,h2.1⟩
 ·exact⟨h2.1,h1.1⟩
theorem nN {S:Gla.Plan}{gs qs:List Int}{bd:Nat}(p:Pan S)(hst:cn gs qs S=none)(bg:Bd gs)(bq:Bd qs)(m1:gs.length % 32=0)(m2:qs.length % 32=0){bs:List (Nat×Nat)}
  (hb:bs.Perm (oS (b8 (aZ S) (aZ S).length))) (hs:bs.Pairwise leN):alF (bd:Int) (d9 S gs qs) bs=Kj ⟨LM.aA gs,LM.aA qs⟩ S bd:=by
 have hnd:bs.Nodup:=hb.nodup_iff.2 (jy _ _ (nlr _)).1
 have hside:=λ{a b:Nat} (h:(S.allSides.any λ(x:Option Nat×Option Nat)=>x==(some a,some b)||x==(some b,some a))=true)=>vh p h
 have hap:∀{a b:Nat} (ha:a<S.marks.length) (hb:b<S.marks.length),(LM.apI ((d9 S gs qs).getD a []) ((d9 S gs qs).getD b [])<(bd:Int))↔Gla.apart (Gla.lightOf ⟨LM.aA gs,LM.aA qs⟩ S.marks[a]) (Gla.lightOf ⟨LM.aA gs,LM.aA qs⟩ S.marks[b])<bd:=λ{a b} ha hb=>by
  have g:∀i (h:i<S.marks.length),(d9 S gs qs).getD i []=plI gs qs S.marks[i]:=λi h=>by
   unfold d9
   rw[Hx,Hw,gge h]
   rfl
  obtain⟨a1,a2⟩:=mh hst (HP ha)
  obtain⟨b1,b2⟩:=mh hst (HP hb)
  rw[g a ha,g b hb,sK bg bq m1 m2 a1 a2,sK bg bq m1 m2 b1 b2,<-LM.tT (λx hx=>((zU bg bq _) x hx).1) (λx hx=>((zU bg bq _) x hx).1)]
  lia
 refine vI ((E6 hs hnd).sublist (List.filter_sublist ..)) (sO (λi=>?_) _) λx=>?_
 ·refine List.Pairwise.sublist (List.filter_sublist ..) ?_
  unfold Gla.besideOf
  exact List.Pairwise.sublist (List.filter_sublist ..) List.pairwise_lt_range
 ·obtain⟨a,b⟩:=x
  unfold alF Kj
  dsimp only
  rw[HZ,hb.mem_iff,vm p,Hv,J5]
  constructor
  ·rintro⟨⟨h1,h2⟩,h3⟩
   obtain⟨ha,hb'⟩:=hside h2
   refine⟨a,Ix.2 ha,HM.2 ⟨b,HZ.2 ⟨?_,?_⟩,rfl⟩⟩
   ·unfold Gla.besideOf
    rw[HZ,Hu]
    exact⟨Ix.2 hb',by simp;lia,h2⟩
   ·rw[gge ha,gge hb',Hu]
    exact⟨dqt h1,dqt ((hap ha hb').1 h3)⟩
  ·rintro⟨i,hi,h⟩
   obtain⟨j,hj,e⟩:=HM.1 h
   obtain⟨rfl,rfl⟩:=IY e
   obtain⟨h1,h2⟩:=HZ.1 hj
   unfold Gla.besideOf at h1
   rw[HZ,Hu]at h1
   obtain⟨ha,hb'⟩:=hside h1.2.2
   rw[gge ha,gge hb',Hu]at h2
   exact⟨⟨Hk h2.1,h1.2.2⟩,(hap ha hb').2 (Hk h2.2)⟩
def qV (bd:Nat)(cs gs qs:List Int):List Int:=match fN cs gs qs with
 |some r=>r
 |none=>match uG (cB cs) gs qs (a7 cs) with
  |some r=>r
  |none=>0 :: ((gm (Kj ⟨LM.aA gs,LM.aA qs⟩ (a7 cs) bd)).length:Int) :: gm (Kj ⟨LM.aA gs,LM.aA qs⟩ (a7 cs) bd)
theorem xU {cs gs qs:List Int}(h:fN cs gs qs=none):gs.length % 32=0/\qs.length % 32=0:=by
 unfold fN at h
 split at h
 ·cases h
 ·rename_i c
  have c:(LM.cM gs&&LM.cM qs)=true:=by
   cases e:(LM.cM gs&&LM.cM qs) with
   |true=>rfl
   |false=>exact absurd e c
  rw[Hu]at c
  exact⟨LM.kN c.1,LM.kN c.2⟩
theorem t7 {cs:List Int}(hb:Byt cs)(e:cB cs=none):Pan (a7 cs):=by
 obtain⟨_,kp,hcl⟩:=DH hb e
 unfold cB at e
 obtain⟨_,e2⟩:=bW e
 obtain⟨_,e3⟩:=bW e2
 unfold eR at e3
 obtain⟨e4,_⟩:=bW e3
 exact CU kp hcl (dP e4)
theorem uf {bs:List (Nat×Nat)}{i:Nat}{b:Nat×Nat}(h:bs[i]? = some b):gm (bs.take (i+1))=gm (bs.take i)++[(b.1:Int),(b.2:Int)]:=by
 unfold gm
 rw[bu h,KJ]
 rfl
theorem pT (bs:List (Nat×Nat)):(gm bs).length=2*bs.length:=by
 induction bs with
 |nil=>rfl
 |cons b r ih =>
  show(((b.1:Int) :: (b.2:Int) :: gm r)).length=_
  rw[HW,HW,ih,HW]
  lia
def qN (K:IN):Sp:=λvs H Q _=>∃(bd:Nat) (ca ga qa:Hm) (cs gs qs:List Int),vs=[.int (bd:Int),.ref ca,.ref ga,.ref qa]/\LI K H ca cs/\LI K H ga gs/\LI K H qa qs/\Byt cs /\
 ∀(H':Hp) (p:Hm),H' p=some (.lst (iV (qV bd cs gs qs)))->Q (.ref p) H'
theorem zD (F:Has K mg "alike" kj ["bound","cartoon","glasses","paintings"]) (T:DCl K mg C) (TV:VCl K mg CV) (C1:Cb P w K mg base 3 "refusal_of_shop" ["cartoon","glasses","paintings"] (zR K)) (C2:Cb P w K mg base 7 "judge" ["cartoon"] (spJ K C CV)) (C3:Cb P w K mg base 4 "refusal_of_window" ["verdict","glasses","paintings"] (Fq K C CV)) (C4:Cb P w K mg base 2 "pane_light" ["mark","glasses","paintings"] (BW K)) (C5:Cb P w K mg base 2 "pairs_beside" ["outlines"] Gm) (C6:Cb P w K mg base 2 "pairs_alike" ["bound","pairs","lights"] (Bz K)) (C7:Cb P w K mg base 1 "row_answer" ["row"] FP) :
  Cb P w K mg base 8 "alike" ["bound","cartoon","glasses","paintings"] (qN K):=by
 refine F.cb gP (λvs H Q E h=>?_) (λ_ _ A _ s H vs Q E hr h=>?_)
 ·obtain⟨bd,ca,ga,qa,cs,gs,qs,rfl,_⟩:=h
  rfl
 ·obtain⟨bd,ca,ga,qa,cs,gs,qs,rfl,hc,hg,hq,hb,k⟩:=h
  have hr1:bA 1 _:=hr.mono (by decide)
  have hr2:bA 2 _:=hr.mono (by decide)
  have hr3:bA 3 _:=hr.mono (by decide)
  have hr4:bA 4 _:=hr.mono (by decide)
  refine⟨_,ac (aC (i:=4) gP.nd rfl (.inl rfl) (aJ C1 hr3 (aa (pv 1) (aa (pv 2) (aa (pv 3) ad)))))
   (ac (a8 (aM iO (pv 4) bb (aL _)) (af (aq (pv 4))) aN)
   (ac (aC (i:=5) gP.nd rfl (.inl rfl) (aJ C2 hr (aa (pv 1) ad)))
   (ac (aC (i:=4) gP.nd rfl (.inl rfl) (aJ C3 hr4 (aa (pv 5) (aa (pv 2) (aa (pv 3) ad)))))
   (ac (a8 (aM iO (pv 4) bb (aL _)) (af (aq (pv 4))) aN)
   (ac (b9 (i:=6) (own:=[("mark",9)]) (te:=jR (BW K) [] E0 (br (a4 9) (br (a4 2) (br (a4 3) fI)))) rfl gP.nd rfl rfl (dm rfl rfl rfl (by decide +kernel)) (bF (aS (aS (pv 5) rfl) rfl)) (bG (by show gR ["bound","cartoon","glasses","paintings","refusal","verdict","lights","row","pair","mark"] (ag kj) _ _=true;decide +kernel))
    (λ_ _ _ _ _=>au (i:=9) gP.nd rfl (.inl rfl) (.inr rfl)) (λ_ _ _ _ _=>ee) (λ_ _ _ _ _=>aJ C4 hr2 (aa (pv 9) (aa (pv 2) (aa (pv 3) ad)))))
   (ac (aC (i:=7) gP.nd rfl (.inl rfl) (eo ad))
   (ac (bf HJ rfl (bF (aJ C6 hr2 (aa (pv 0) (aa (aJ C5 hr2 (aa (aS (pv 5) rfl) ad)) (aa (pv 6) ad))))) (au (i:=8) gP.nd rfl (.inl rfl))
    (af (iS (kP IE PySem.F.slot_list_extend PySem.F.type_list_extend Bj (pv 7) (aa (pv 8) ad)))))
   (af (aq (aJ C7 hr1 (aa (pv 7) ad))))))))))),?_⟩
  refine⟨_,rfl,_,rfl,_,rfl,ca,ga,qa,cs,gs,qs,rfl,hc,hg,hq,λv H1 s1 l1=>?_⟩
  unfold qV at k
  cases e1:fN cs gs qs with
  |some r =>
   rw[e1]at l1 k
   obtain⟨q,rfl,hq1⟩:=l1.some
   exact⟨_,rfl,rfl,_,rfl,aV (λ_=>⟨_,rfl,k H1 q hq1⟩) (λc=>absurd (by rw[dqf (by intro z;cases z)];rfl) c)⟩
  |none =>
  rw[e1]at l1 k
  obtain rfl:v=.non:=l1
  obtain⟨bg,bq⟩:=Bb e1
  obtain⟨m1,m2⟩:=xU e1
  refine⟨_,rfl,rfl,_,rfl,aV (λc=>absurd c (by decide)) (λ_=>?_)⟩
  refine⟨_,rfl,ca,cs,rfl,hc.same s1,hb,λH2 ve dv ov s2 hve hdr=>?_⟩
  have s2:=s1.trans s2
  refine⟨_,rfl,_,rfl,_,rfl,ve,ga,qa,cB cs,dv,ov,a7 cs,gs,qs,rfl,hve,λz=>?_,hg.same s2,hq.same s2,λv H3 s3 l3=>?_⟩
  ·obtain⟨d,e,hD,_⟩:=hdr z
   exact⟨d,e,hD⟩
  dsimp only at k
  cases e2:uG (cB cs) gs qs (a7 cs) with
  |some r =>
   rw[e2]at l3 k
   obtain⟨q,rfl,hq1⟩:=l3.some
   exact⟨_,rfl,rfl,_,rfl,aV (λ_=>⟨_,rfl,k H3 q hq1⟩) (λc=>absurd (by rw[dqf (by intro z;cases z)];rfl) c)⟩
  |none =>
  rw[e2]at l3 k
  obtain rfl:v=.non:=l3
  refine⟨_,rfl,rfl,_,rfl,aV (λc=>absurd c (by decide)) (λ_=>?_)⟩
  obtain⟨ej,est⟩:=zJ e2
  obtain⟨d,rfl,hD,ol,osl,rfl,hol,hll,hoat⟩:=hdr ej
  have pan:=t7 hb ej
  have sb:=BQ cs
  have mb:=@Af cs
  have hD:=hD.same s3
  obtain⟨vx,fv,hv,_⟩:=hve
  have hv:=s3 _ _ hv
  have hol:=s3 _ _ hol
  have hoat:∀(i:Nat) (b:Hm) (m:Kz),osl[i]? = some b->(a7 cs).marks[i]? = some m->∃l,(a7 cs).among (a7 cs).outlines m.at_=some l/\H3 b=some (.lst (iV (nI l))):=λi b m e1 e2=>by
   obtain⟨l,q1,q2⟩:=hoat i b m e1 e2
   exact⟨l,q1,s3 _ _ q2⟩
  have s3:=s2.trans s3
  dsimp only at k
  generalize a7 cs=S at hD mb k pan est sb hll hoat
  obtain⟨dx,p,l,m,ps,ls,ms,o⟩:=hD.op (K:=K)
  have nm:=sb.nm
  have nl:=sb.nl
  have hPn:PnL H3 ol osl (aZ S):=by
   refine⟨hol,by rw[em];exact hll,λi b l' e1 e2=>?_⟩
   have hi:i<S.marks.length:=by rw[<-hll];exact(gsi e1).1
   obtain⟨l'',q1,q2⟩:=hoat i b _ e1 (gge hi)
   have q3:=pan.some' i hi
   rw[q1]at q3
   have q3:=osi q3
   have el:(aZ S).getD i []=l':=by rw[Hx,e2];rfl
   rw[el]at q3
   subst q3
   refine⟨?_,q2⟩
   rw[<-el]
   exact(iJ pan.kp (pan.mem i (by rw[em];exact hi))).2.2
  refine⟨_,rfl,ve,CV,vx,_,_,rfl,hv,TV.cl,TV.nD,FL,d,C,dx,_,_,rfl,o.at_,T.cl,T.nM,xb,m,rfl,⟨_,SqL.of o.ml⟩,λD2 hD2=>?_⟩
  refine fU (K:=K) (a:=m) (xs:=ms.map V.ref) (λi H'=>∃bs:List Hm,ak H3 H'/\H' D2=some (.lst (bs.map V.ref))/\bs.length=i/\∀(j:Nat) (b:Hm) (x:Kz),bs[j]? = some b->S.marks[j]? = some x->b≠D2/\H' b=some (.lst (iV (plI gs qs x))))
   ⟨[],aG hD2,ae,rfl,λj b l e=>by simp at e⟩ (λi H' _ h=>by obtain⟨bs,h1,_⟩:=h;exact SqL.of (h1 _ _ o.ml)) ?_ ?_
  ·rintro i y H' hi ⟨bs,hS,hDl2,hbl,hat⟩
   obtain⟨c,hc,rfl⟩:=bR hi
   have hil:i<S.marks.length:=by rw[<-o.mn];exact(gsi hc).1
   have hmi:S.marks[i]? = some S.marks[i]:=gge hil
   obtain⟨mb1,mb2⟩:=mb (HP hil)
   refine⟨rfl,mB (eT ?_)⟩
   refine⟨_,rfl,_,rfl,_,rfl,c,ga,qa,S.marks[i],gs,qs,rfl,SqT.of (hS _ _ (o.ma i c _ hc hmi)),hg.same (s3.trans hS),hq.same (s3.trans hS),bg,bq,mb1,mb2,λH5 r s5 hr0 hr5=>?_⟩
   have nr:r≠D2:=λz=>by rw[z,hDl2]at hr0;cases hr0
   refine⟨_,s5 _ _ hDl2,by rw[lmp];exact a6 (by lia),bs++[r],aQ (hS.trans s5) hD2,by rw[ae,HI];rfl,by rw[Hn,hbl];rfl,λj b x e1 e2=>?_⟩
   by_cases cj:j<bs.length
   ·rw[HE cj]at e1
    obtain⟨n1,q1⟩:=hat j b x e1 e2
    exact⟨n1,by rw[ao n1];exact s5 _ _ q1⟩
   ·have hj:=(gsi e1).1
    rw[Hn]at hj
    have ej:j=bs.length:=by simp at hj;lia
    subst ej
    rw[HC (nlr _),IJ]at e1
    have e1:r=b:=osi e1
    subst e1
    rw[hbl,hmi]at e2
    have e2:=osi e2
    subst e2
    exact⟨nr,by rw[ao nr];exact hr5⟩
  rintro H5 ⟨bs,s5,hDl2,hbl,hat⟩
  rw[lmp,o.mn]at hbl
  have hLL:LL H5 D2 (d9 S gs qs):=by
   unfold d9
   refine⟨bs,hDl2,by rw[lmp,hbl],λj b l e1 e2=>?_⟩
   rw[Hw]at e2
   have hj:j<S.marks.length:=by rw[<-hbl];exact(gsi e1).1
   rw[gge hj]at e2
   have e2:plI gs qs S.marks[j]=l:=osi e2
   rw[<-e2]
   exact(hat j b _ e1 (gge hj)).2
  have hv5:=s5 _ _ hv
  refine⟨(by show 0<=Hr;decide),λR0 hR0=>?_⟩
  have s6:ak H5 (upd H5 R0 (.lst [])):=aG hR0
  have hrow:(upd H5 R0 (.lst [])) R0=some (.lst (iV (gm []))):=ae
  generalize upd H5 R0 (.lst [])=H6 at s6 hrow
  have wsl:=Cw pan nl
  refine⟨_,rfl,_,rfl,ve,CV,vx,_,_,rfl,s6 _ _ hv5,TV.cl,TV.nO,GA,ol,osl,aZ S,rfl,(hPn.same s5).same s6,⟨km pan _ (nlr _),by lia⟩,λH7 pp qs7 bs7 s7 hperm hsrt htp=>?_⟩
  have hb7:bs7.length<=200000:=by
   have h1:=hperm.length_eq
   have h2:=(jy (b8 (aZ S) (aZ S).length) _ (nlr _)).2.1
   unfold oS at h1
   lia
  have hlm:(d9 S gs qs).length=S.marks.length:=by unfold d9;rw[lmp]
  refine⟨_,rfl,(bd:Int),pp,D2,qs7,bs7,d9 S gs qs,rfl,htp,mM (mM hLL s6) s7,λi hi=>?_,λb hb7=>?_,by lia,λH8 r qs8 s8 hr0 htp8=>?_⟩
  ·rw[hlm]at hi
   have e:(d9 S gs qs).getD i []=plI gs qs S.marks[i]:=by
    unfold d9
    rw[Hx,Hw,gge hi]
    rfl
   rw[e]
   exact⟨zU bg bq _,CF gs qs _⟩
  ·obtain⟨a,b⟩:=b
   obtain⟨_,h2⟩:=(vm pan).1 (hperm.mem_iff.1 hb7)
   rw[hlm]
   exact vh pan h2
  rw[nN pan est bg bq m1 m2 hperm hsrt]at htp8
  have hlen:(Kj ⟨LM.aA gs,LM.aA qs⟩ S bd).length<=200000:=by
   rw[<-nN pan est bg bq m1 m2 hperm hsrt]
   unfold alF
   exact Ik (JA _ _) hb7
  generalize Kj ⟨LM.aA gs,LM.aA qs⟩ S bd=al at htp8 hlen k
  have hrow8:=s8 _ _ (s7 _ _ hrow)
  have nrR:r≠R0:=λz=>by rw[z,s7 _ _ hrow]at hr0;cases hr0
  refine⟨r,rfl,⟨_,SqL.of htp8.1⟩,dr (K:=K) (a:=r) (xs:=qs8.map V.ref) (λi σ H'=>(∃v,σ=[some (.int (bd:Int)),some (.ref ca),some (.ref ga),some (.ref qa),some .non,some (.ref ve),some (.ref D2),some (.ref R0),v,none])/\(∀b u,b≠R0->H8 b=some u->H' b=some u)/\H' R0=some (.lst (iV (gm (al.take i)))))
   ⟨⟨_,rfl⟩,λb u _ e=>e,hrow8⟩ (λi σ H' _ h=>SqL.of (h.2.1 _ _ nrR htp8.1)) ?_ ?_⟩
  ·rintro i y σ H' hi ⟨⟨v,rfl⟩,hS,hR⟩
   obtain⟨q,hq,rfl⟩:=bR hi
   have hil:i<al.length:=by rw[<-htp8.2.1];exact(gsi hq).1
   have hal:al[i]? = some al[i]:=gge hil
   have hqt:=htp8.2.2 i q _ hq hal
   have nq:q≠R0:=vB hqt hrow8 (by intro z;cases z)
   have hqt':=hS _ _ nq hqt
   have hfl:=pT (al.take i)
   rw[Iv]at hfl
   refine⟨_,rfl,.inl ⟨rfl,_,SqL.of hR⟩,_,rfl,R0,q,_,_,rfl,rfl,hR,SqT.of hqt',?_,⟨_,rfl⟩,λb u nb e=>?_,?_⟩
   ·rw[iV,lmp]
    show(gm (al.take i)).length+2<=Hr
    exact Ka (a6 (by lia))
   ·rw[ao nb]
    exact hS b u nb e
   ·rw[ae,uf hal]
    unfold iV
    rw[HI]
    rfl
  ·rintro σ H' ⟨⟨v,rfl⟩,hS,hR⟩
   rw[lmp,htp8.2.1,IU]at hR
   have hfl:=pT al
   exact⟨_,rfl,R0,gm al,rfl,hR,by lia,λH9 q s9 hq9=>k H9 q hq9⟩
theorem uW {bd:Nat}{cs gs qs:List Int}(hb:Byt cs)(hg:∀x∈gs,0<=x)(hq:∀x∈qs,0<=x):PyYqglfa.alike (bd:Int) cs gs qs=LightNeutral.told (GlaLits.answer (.alike (toB cs) ⟨LM.aA gs,LM.aA qs⟩ bd)):=by
 have e:LightNeutral.callOf [[5,(bd:Int)],cs,gs,qs]=some (.alike (toB cs) ⟨LM.aA gs,LM.aA qs⟩ bd):=by
  show(do some (GlaLits.Call.alike (<-LightNeutral.bytes cs) (<-LightNeutral.shop gs qs) (<-Lw (bd:Int))))=_
  unfold LightNeutral.shop
  rw[yG hb,LM.lC _ hg,LM.lC _ hq]
  unfold Lw
  rw[Hs (by lia),IV]
  rfl
 unfold PyYqglfa.alike LightNeutral.f
 rw[e]
theorem yd {bd:Nat}{cs gs qs:List Int}(hb:Byt cs)(hg:∀x∈gs,0<=x)(hq:∀x∈qs,0<=x):qV bd cs gs qs=PyYqglfa.alike (bd:Int) cs gs qs:=by
 rw[uW hb hg hq]
 have bB:GlaLits.asked (.alike (toB cs) ⟨LM.aA gs,LM.aA qs⟩ bd)=(LM.cM gs&&LM.cM qs):=by
  show GlaLits.shopOk _=_
  unfold GlaLits.shopOk
  rw[LM.vK hg,LM.vK hq]
 have hl:(toB cs).length=cs.length:=by unfold toB;rw[lmp]
 unfold GlaLits.answer
 rw[bB]
 unfold qV
 by_cases c:(LM.cM gs&&LM.cM qs)=false
 ·have e1:fN cs gs qs=some [-1]:=by unfold fN;rw[Hz c]
  rw[e1,Hz c]
  rfl
 ·rw[Hs c]
  have ct:(LM.cM gs&&LM.cM qs)=true:=by
   cases q:(LM.cM gs&&LM.cM qs) with
   |true=>rfl
   |false=>exact absurd q c
  rw[Hu]at ct
  have m1:=LM.kN ct.1
  have m2:=LM.kN ct.2
  show _=LightNeutral.told (GlaLits.ofPlan _ _ _)
  unfold GlaLits.ofPlan
  rw[zB m1 m2,hl]
  by_cases c2:(decide (131072<cs.length)||(decide (256<LM.cnt gs)||decide (256<LM.cnt qs)))=true
  ·have e1:fN cs gs qs=some [-6]:=by unfold fN;rw[Hs c,Hz c2]
   rw[e1,Hz (by rw[Jq,Hv]at c2;exact c2)]
   rfl
  ·have e1:fN cs gs qs=none:=by unfold fN;rw[Hs c,Hs c2]
   rw[e1,Hs (by rw[Jq,Hv]at c2;exact c2)]
   dsimp only
   unfold uG
   cases e2:cB cs with
   |some x =>
    obtain⟨ft,hj,hx⟩:=xc hb e2
    rw[hj,<-hx]
    rfl
   |none =>
    have hj:=wH hb
    rw[e2]at hj
    have hj:Gla.judgePlan (toB cs)=.ok (a7 cs):=hj
    rw[hj]
    generalize a7 cs=S
    have hst:Gla.strange ⟨LM.aA gs,LM.aA qs⟩ S=cn gs qs S:=by
     unfold Gla.strange cn Gla.goesWith
     simp only[LM.eA m1,LM.eA m2,lmp,IX]
    show(match uT (cn gs qs S) with
     |some r=>r
     |none=>0 :: ((gm (Kj ⟨LM.aA gs,LM.aA qs⟩ S bd)).length:Int) :: gm (Kj ⟨LM.aA gs,LM.aA qs⟩ S bd))=LightNeutral.told (GlaLits.withShop ⟨LM.aA gs,LM.aA qs⟩ S (.row ((Kj ⟨LM.aA gs,LM.aA qs⟩ S bd).flatMap λ(x:Nat×Nat)=>[x.1,x.2])))
    unfold GlaLits.withShop
    rw[hst]
    cases hs:cn gs qs S with
    |some kx=>rfl
    |none =>
     show _=0 :: LightNeutral.rowN (LightNeutral.ints ((Kj ⟨LM.aA gs,LM.aA qs⟩ S bd).flatMap λ(x:Nat×Nat)=>[x.1,x.2]))
     have ef:LightNeutral.ints ((Kj ⟨LM.aA gs,LM.aA qs⟩ S bd).flatMap λ(x:Nat×Nat)=>[x.1,x.2])=gm (Kj ⟨LM.aA gs,LM.aA qs⟩ S bd):=by
      unfold LightNeutral.ints gm
      rw[List.map_flatMap]
      rfl
     rw[ef]
     rfl
end Wl
open PySem PySem.W PyProof.Rows
theorem Wl.lv {lo hi:Int}{n m:Nat}{l:List Int}(h:(Codec.inLen n m l&&l.all (Codec.inInt lo hi))=true):l.length<=m/\∀x∈l,lo<=x/\x<=hi:=by
 rw[Hu]at h
 refine⟨(Codec.inNat_iff.mp h.1).2,λx hx=>?_⟩
 have q:=IL.mp h.2 x hx
 unfold Codec.inInt at q
 rw[Hu,Hv,Hv]at q
 exact q
theorem Wl.wn {P:Ih}{w:I0}{K:IN}{mg:Str->Option Value}{base:Heap}{C CV:Hm}(T:Wl.DCl K mg C)(TV:Wl.VCl K mg CV)
  (g0:∃t,mg "HEAD_BYTES"=some (.int 20 t)) (g1:∃t,mg "POINT_BYTES"=some (.int 8 t)) (g2:∃t,mg "LINE_BYTES"=some (.int 4 t)) (g3:∃t,mg "MARK_BYTES"=some (.int 12 t)) (g4:∃t,mg "MOST_LIGHTS"=some (.int 256 t)) (g5:∃t,mg "MOST_BYTES"=some (.int 131072 t)) (g6:∃t,mg "BANDS"=some (.int 32 t)) (g7:∃t,mg "FULL"=some (.int 65535 t))
  (o0:mg "len"=none) (o1:mg "range"=none) (o2:mg "enumerate"=none) (o3:mg "list"=none) (o4:mg "reversed"=none) (o5:mg "min"=none) (o6:mg "max"=none) (o7:mg "zip"=none) (o8:mg "sum"=none) (o9:mg "sorted"=none)
  (gS:Wl.DU K mg "SIGN" CM.j5) (gH:Wl.BD K mg "HEAD_NUMBERS" CM.fA)
  (I1:Wg.su K C "Drawing.__init__" Wl.iI ["self","width","height","points","lines","marks"]) (I2:Wg.su K CV "Verdict.__init__" Wl.jA ["self","fault","drawing","outlines"])
  (M1:Wg.mD K C "place_of_point" "Drawing.place_of_point" Wl.kT ["self","k"]) (M2:Wg.mD K C "place_of_line" "Drawing.place_of_line" Wl.k9 ["self","k"]) (M3:Wg.mD K C "place_of_mark" "Drawing.place_of_mark" Wl.kW ["self","k"]) (M4:Wg.mD K C "place_of_end" "Drawing.place_of_end" Wl.kl ["self"])
  (F0:Wg.Has K mg "number_at" Wl.gu ["cartoon","place","size"])
  (F1:Wg.Has K mg "told_length" Wl.fj ["cartoon"])
  (F2:Wg.Has K mg "fault_of_bytes" Wl.dO ["cartoon"])
  (F3:Wg.Has K mg "read_point" Wl.fW ["cartoon","place"])
  (F4:Wg.Has K mg "read_line" Wl.gv ["cartoon","place"])
  (F5:Wg.Has K mg "read_mark" Wl.gI ["cartoon","place"])
  (F6:Wg.Has K mg "read_drawing" Wl.bX ["cartoon"])
  (F7:Wg.Has K mg "turn" Wl.rK ["p","q","r"])
  (F8:Wg.Has K mg "comes_behind" Wl.eN ["q","p"])
  (F9:Wg.Has K mg "is_in_box" Wl.gx ["p","q","r"])
  (F10:Wg.Has K mg "is_on" Wl.mQ ["p","q","r"])
  (F11:Wg.Has K mg "are_parted" Wl.fV ["p","q","r","s"])
  (F12:Wg.Has K mg "do_cross" Wl.iM ["p","q","r","s"])
  (F13:Wg.Has K mg "twice_area" Wl.fS ["corners"])
  (F14:Wg.Has K mg "is_left_beside" Wl.dM ["p","q","r"])
  (F15:Wg.Has K mg "is_inside" Wl.gA ["corners","r"])
  (F16:Wg.Has K mg "fault_of_points" Wl.de ["drawing"])
  (F17:Wg.Has K mg "fault_of_lines" Wl.dR ["drawing"])
  (F18:Wg.Has K mg "are_joined_in_a_row" Wl.b6 ["numbers","lines"])
  (F19:Wg.Has K mg "fault_of_frame" Wl.bp ["drawing"])
  (F20:Wg.Has K mg "has_point_on_it" Wl.dk ["drawing","line"])
  (F21:Wg.Has K mg "crosses_one_before" Wl.ck ["drawing","k"])
  (F22:Wg.Has K mg "fault_of_crossings" Wl.cg ["drawing"])
  (F23:Wg.Has K mg "neighbours_of" Wl.cX ["drawing"])
  (F24:Wg.Has K mg "reached_from" Wl.dD ["start","neighbours","left_out"])
  (F25:Wg.Has K mg "fault_of_ends" Wl.d6 ["drawing","neighbours"])
  (F26:Wg.Has K mg "fault_of_ways" Wl.d8 ["drawing","neighbours"])
  (F27:Wg.Has K mg "fault_of_narrows" Wl.cS ["drawing","neighbours"])
  (F28:Wg.Has K mg "is_within_frame" Wl.dl ["drawing","mark"])
  (F29:Wg.Has K mg "is_on_some_line" Wl.dq ["drawing","mark"])
  (F30:Wg.Has K mg "fault_of_marks" Wl.dQ ["drawing"])
  (F31:Wg.Has K mg "fault_of_drawing" Wl.cK ["drawing"])
  (F32:Wg.Has K mg "sorted_by_turn" Wl.dI ["points","middle","ends"])
  (F33:Wg.Has K mg "ring_round" Wl.dJ ["points","middle","ends"])
  (F34:Wg.Has K mg "walk_round" Wl.fQ ["rings","first","second"])
  (F35:Wg.Has K mg "points_at" Wl.fw ["points","corners"])
  (F36:Wg.Has K mg "outlines_of" Wl.d5 ["drawing"])
  (F37:Wg.Has K mg "panes_by_ways" Wl.d7 ["outlines"])
  (F38:Wg.Has K mg "pairs_beside" Wl.eO ["outlines"])
  (F39:Wg.Has K mg "holder_of" Wl.gt ["mark","shapes"])
  (F40:Wg.Has K mg "judge_marks" Wl.cZ ["drawing","outlines"])
  (F41:Wg.Has K mg "judge" Wl.mP ["cartoon"])
  (F42:Wg.Has K mg "are_within" Wl.gb ["row","least","greatest"])
  (F43:Wg.Has K mg "are_lights" Wl.fT ["row"])
  (F44:Wg.Has K mg "how_many_lights" Wl.dh ["row"])
  (F45:Wg.Has K mg "light_at" Wl.iK ["row","k"])
  (F46:Wg.Has K mg "light_through" Wl.cW ["one","other"])
  (F47:Wg.Has K mg "how_far_apart" Wl.cT ["one","other"])
  (F48:Wg.Has K mg "first_mark_without_light" Wl.bD ["marks","glasses","paintings"])
  (F49:Wg.Has K mg "pane_light" Wl.fR ["mark","glasses","paintings"])
  (F50:Wg.Has K mg "pairs_alike" Wl.d3 ["bound","pairs","lights"])
  (F51:Wg.Has K mg "refusal_of_shop" Wl.di ["cartoon","glasses","paintings"])
  (F52:Wg.Has K mg "refusal_of_cartoon" Wl.cu ["verdict"])
  (F53:Wg.Has K mg "refusal_of_marks" Wl.cQ ["marks","glasses","paintings"])
  (F54:Wg.Has K mg "refusal_of_window" Wl.cE ["verdict","glasses","paintings"])
  (F55:Wg.Has K mg "row_answer" Wl.fY ["row"])
  (F56:Wg.Has K mg "alike" Wl.kj ["bound","cartoon","glasses","paintings"]) :
  Wg.Cb P w K mg base 8 "alike" ["bound","cartoon","glasses","paintings"] (Wl.qN K):=by
 have m1:=Wl.Es (P:=P) (w:=w) (base:=base) M1 g0 g1
 have m2:=Wl.EO M2 T o0 g2 m1
 have m3:=Wl.EA M3 T o0 g3 m2
 have m4:=Wl.FQ M4 T o0 m3
 have i1:=Wl.Am (P:=P) (w:=w) (base:=base) I1 T
 have i2:=Wl.Db (P:=P) (w:=w) (base:=base) I2 TV
 have num:=Wl.Ce (P:=P) (w:=w) (base:=base) F0 o4
 have told:=Wl.At F1 g0 g1 g2 g3 num
 have fb:=Wl.FY F2 o0 o3 g0 gS gH num told
 have rp:=Wl.Eh F3 num
 have rl:=Wl.FS F4 num
 have rm:=Wl.E7 F5 rp rl
 have rd:=Wl.Ei F6 T o0 o1 g0 g1 g2 g3 num rp rl rm i1
 have turn:=Wl.AU (P:=P) (w:=w) (base:=base) F7
 have beh:=Wl.Ef (P:=P) (w:=w) (base:=base) F8
 have box:=Wl.DJ (P:=P) (w:=w) (base:=base) F9 o5 o6
 have on_:=Wl.Eo F10 turn box
 have part:=Wl.AJ F11 turn
 have cross:=Wl.yf F12 part
 have area:=Wl.AC (P:=P) (w:=w) (base:=base) F13
 have bes:=Wl.Cl F14 turn
 have ins:=Wl.Fg F15 bes
 have f4:=Wl.Fl F16 T o2 m1 beh
 have f5:=Wl.FT F17 T o2 o0 m2
 have jr:=Wl.EG (P:=P) (w:=w) (base:=base) F18 o1 o0
 have f6:=Wl.DW F19 T o2 o3 m1 jr
 have ho:=Wl.Fj F20 T o1 on_
 have xo:=Wl.E8 F21 T o1 cross
 have f7:=Wl.EI F22 T o2 ho xo m2
 have nb:=Wl.Fi (P:=P) (w:=w) (base:=base) F23 T
 have rf:=Wl.FX (P:=P) (w:=w) (base:=base) F24 o0
 have f8:=Wl.DX F25 T o2 o0 m1
 have f9:=Wl.Ey F26 T o2 m1 rf
 have f10:=Wl.Ct F27 T o1 o0 m1 rf
 have wf:=Wl.Fb (P:=P) (w:=w) (base:=base) F28 T
 have ol:=Wl.El F29 T on_
 have f11:=Wl.Cq F30 T o2 m3 beh wf ol
 have fd:=Wl.Em F31 f4 f5 f6 f7 nb f8 f9 f10 f11
 have st:=Wl.FU F32 o0 turn
 have rr:=Wl.Fn F33 st
 have wr:=Wl.Ej (P:=P) (w:=w) (base:=base) F34
 have pa:=Wl.Gi (P:=P) (w:=w) (base:=base) F35
 have out:=Wl.CZ F36 T o2 nb rr wr area pa
 have hold:=Wl.Aw F39 o2 ins
 have jm:=Wl.EX F40 T TV o2 o0 i2 pa hold m3 m4
 have j:=Wl.Go F41 TV i2 fb rd fd out jm
 have wit:=Wl.Dz (P:=P) (w:=w) (base:=base) F42
 have arel:=Wl.Bi F43 g6 o0 g7 wit
 have cnt:=Wl.DM (P:=P) (w:=w) (base:=base) F44 g6 o0
 have lat:=Wl.C0 (P:=P) (w:=w) (base:=base) F45 g6
 have thr:=Wl.B9 (P:=P) (w:=w) (base:=base) F46 g7 o7
 have fm:=Wl.Gg F48 o2 cnt
 have pn:=Wl.Fv F49 lat thr
 have ra:=Wl.EJ (P:=P) (w:=w) (base:=base) F55 o0
 have sh:=Wl.Bo F51 o0 g4 g5 arel cnt
 have rc:=Wl.FC (P:=P) (w:=w) (base:=base) F52 TV
 have rm1:=Wl.Dl F53 fm
 have rw_:=Wl.D7 F54 T TV rc rm1
 have pw:=Wl.Fp (P:=P) (w:=w) (base:=base) F37 o2
 have pb:=Wl.EW F38 o9 pw
 have ap:=Wl.Dc (P:=P) (w:=w) (base:=base) F47 o8 o7
 have pal:=Wl.Cu F50 ap
 exact Wl.zD F56 T TV sh j rw_ pn pb pal ra
open PySem PySem.W L2 Wg Hd
theorem Wl.left:LeftO PySem.Challenge.pw_windowlight_s05_alike Wl.qv [] (λs=>xlAt Wl.qv [] s&&recOk [] s) (λs=>Wl.fx (m6 s.heap)) (λ_=>Wl.ax) 5180:=ED (by kernel_rfl) (by decide +kernel) (λs=>by kernel_rfl) (λw=>by kernel_rfl) Wl.k1 Wl.k0 Wl.k2 Wl.k3
end
section
open PySem PySem.W PyProof.Rows L2 Wg Hd
set_option maxRecDepth 100000 in
set_option maxHeartbeats 0 in
theorem PySem.Challenge.cw_windowlight_s05_alike_holds : PySem.Challenge.rw_windowlight_s05_alike.Holds := by
 refine holds_os (q:=Wl.qv) (loose:=[]) (Xt:=λs=>xlAt Wl.qv [] s&&recOk [] s) (XP:=XL Wl.qv []) (Yf:=λs=>Wl.fx (m6 s.heap)) (Ya:=λ_=>Wl.ax) (YP:=λ_ h=>∃K:IN,K.In h/\Wl.fx K=Wl.ax) (N:=5180) Wl.left
  (λw s e=>⟨_,wZ _,e⟩) (λw h h' y k=>by obtain⟨K,a,b⟩:=y;exact⟨K,λx o e=>k x o (a x o e),b⟩) (λs e=>xl_of s (Jp.mp e).1) XL.keeps (by rfl) (by rfl) (by rfl) (λs e=>recFacts_of (Jp.mp e).2) os_shapes
  (by decide +kernel) (by decide +kernel) ⟨rfl,rfl,rfl,rfl,rfl,by decide +kernel⟩ ⟨[.int 0,.list [],.list [],.list []],by decide +kernel,by decide +kernel⟩ ?_
 refine Hd.DY (k:=8) (ps:=["bound","cartoon","glasses","paintings"]) (sp:=Wl.qN) (by decide +kernel) rfl rfl ⟨rfl,by decide,by decide⟩ ?F ?S
 case F =>
  intro w mg fa h K hx KX G hmg
  obtain⟨h1,hx⟩:=IY hx
  obtain⟨h2,hx⟩:=IY hx
  obtain⟨h3,hx⟩:=IY hx
  obtain⟨h4,hx⟩:=IY hx
  obtain⟨h5,h6⟩:=IY hx
  have F0:=bB (ps:=["cartoon","place","size"]) KX G (nth h1 0 rfl)
  have F1:=bB (ps:=["cartoon"]) KX G (nth h1 1 rfl)
  have F2:=bB (ps:=["cartoon"]) KX G (nth h1 2 rfl)
  have F3:=bB (ps:=["cartoon","place"]) KX G (nth h1 3 rfl)
  have F4:=bB (ps:=["cartoon","place"]) KX G (nth h1 4 rfl)
  have F5:=bB (ps:=["cartoon","place"]) KX G (nth h1 5 rfl)
  have F6:=bB (ps:=["cartoon"]) KX G (nth h1 6 rfl)
  have F7:=bB (ps:=["p","q","r"]) KX G (nth h1 7 rfl)
  have F8:=bB (ps:=["q","p"]) KX G (nth h1 8 rfl)
  have F9:=bB (ps:=["p","q","r"]) KX G (nth h1 9 rfl)
  have F10:=bB (ps:=["p","q","r"]) KX G (nth h1 10 rfl)
  have F11:=bB (ps:=["p","q","r","s"]) KX G (nth h1 11 rfl)
  have F12:=bB (ps:=["p","q","r","s"]) KX G (nth h1 12 rfl)
  have F13:=bB (ps:=["corners"]) KX G (nth h1 13 rfl)
  have F14:=bB (ps:=["p","q","r"]) KX G (nth h1 14 rfl)
  have F15:=bB (ps:=["corners","r"]) KX G (nth h1 15 rfl)
  have F16:=bB (ps:=["drawing"]) KX G (nth h1 16 rfl)
  have F17:=bB (ps:=["drawing"]) KX G (nth h1 17 rfl)
  have F18:=bB (ps:=["numbers","lines"]) KX G (nth h1 18 rfl)
  have F19:=bB (ps:=["drawing"]) KX G (nth h1 19 rfl)
  have F20:=bB (ps:=["drawing","line"]) KX G (nth h1 20 rfl)
  have F21:=bB (ps:=["drawing","k"]) KX G (nth h1 21 rfl)
  have F22:=bB (ps:=["drawing"]) KX G (nth h1 22 rfl)
  have F23:=bB (ps:=["drawing"]) KX G (nth h1 23 rfl)
  have F24:=bB (ps:=["start","neighbours","left_out"]) KX G (nth h1 24 rfl)
  have F25:=bB (ps:=["drawing","neighbours"]) KX G (nth h1 25 rfl)
  have F26:=bB (ps:=["drawing","neighbours"]) KX G (nth h1 26 rfl)
  have F27:=bB (ps:=["drawing","neighbours"]) KX G (nth h1 27 rfl)
  have F28:=bB (ps:=["drawing","mark"]) KX G (nth h1 28 rfl)
  have F29:=bB (ps:=["drawing","mark"]) KX G (nth h1 29 rfl)
  have F30:=bB (ps:=["drawing"]) KX G (nth h1 30 rfl)
  have F31:=bB (ps:=["drawing"]) KX G (nth h1 31 rfl)
  have F32:=bB (ps:=["points","middle","ends"]) KX G (nth h1 32 rfl)
  have F33:=bB (ps:=["points","middle","ends"]) KX G (nth h1 33 rfl)
  have F34:=bB (ps:=["rings","first","second"]) KX G (nth h1 34 rfl)
  have F35:=bB (ps:=["points","corners"]) KX G (nth h1 35 rfl)
  have F36:=bB (ps:=["drawing"]) KX G (nth h1 36 rfl)
  have F37:=bB (ps:=["outlines"]) KX G (nth h1 37 rfl)
  have F38:=bB (ps:=["outlines"]) KX G (nth h1 38 rfl)
  have F39:=bB (ps:=["mark","shapes"]) KX G (nth h1 39 rfl)
  have F40:=bB (ps:=["drawing","outlines"]) KX G (nth h1 40 rfl)
  have F41:=bB (ps:=["cartoon"]) KX G (nth h1 41 rfl)
  have F42:=bB (ps:=["row","least","greatest"]) KX G (nth h1 42 rfl)
  have F43:=bB (ps:=["row"]) KX G (nth h1 43 rfl)
  have F44:=bB (ps:=["row"]) KX G (nth h1 44 rfl)
  have F45:=bB (ps:=["row","k"]) KX G (nth h1 45 rfl)
  have F46:=bB (ps:=["one","other"]) KX G (nth h1 46 rfl)
  have F47:=bB (ps:=["one","other"]) KX G (nth h1 47 rfl)
  have F48:=bB (ps:=["marks","glasses","paintings"]) KX G (nth h1 48 rfl)
  have F49:=bB (ps:=["mark","glasses","paintings"]) KX G (nth h1 49 rfl)
  have F50:=bB (ps:=["bound","pairs","lights"]) KX G (nth h1 50 rfl)
  have F51:=bB (ps:=["cartoon","glasses","paintings"]) KX G (nth h1 51 rfl)
  have F52:=bB (ps:=["verdict"]) KX G (nth h1 52 rfl)
  have F53:=bB (ps:=["marks","glasses","paintings"]) KX G (nth h1 53 rfl)
  have F54:=bB (ps:=["verdict","glasses","paintings"]) KX G (nth h1 54 rfl)
  have F55:=bB (ps:=["row"]) KX G (nth h1 55 rfl)
  have F56:=bB (ps:=["bound","cartoon","glasses","paintings"]) KX G (nth h1 56 rfl)
  obtain⟨C,mC,cl,mk,kc,nf,mt⟩:=E1 KX G (nth h4 0 rfl)
  obtain⟨CV,mV,clV,mkV,kcV,nfV,mtV⟩:=E1 KX G (nth h4 1 rfl)
  have T:Wl.DCl K mg C:=⟨cl,nf _ (.head _),nf _ (.tail _ (.head _)),nf _ (.tail _ (.tail _ (.head _))),nf _ (.tail _ (.tail _ (.tail _ (.head _)))),nf _ (.tail _ (.tail _ (.tail _ (.tail _ (.head _))))),mC⟩
  have TV:Wl.VCl K mg CV:=⟨clV,nfV _ (.head _),nfV _ (.tail _ (.head _)),nfV _ (.tail _ (.tail _ (.head _))),mV⟩
  have I1:=Gk (ps:=["self","width","height","points","lines","marks"]) mk kc (mt _ (.head _))
  have I2:=Gk (ps:=["self","fault","drawing","outlines"]) mkV kcV (mtV _ (.head _))
  have M1:=Az (ps:=["self","k"]) (mt _ (.tail _ (.head _)))
  have M2:=Az (ps:=["self","k"]) (mt _ (.tail _ (.tail _ (.head _))))
  have M3:=Az (ps:=["self","k"]) (mt _ (.tail _ (.tail _ (.tail _ (.head _)))))
  have M4:=Az (ps:=["self"]) (mt _ (.tail _ (.tail _ (.tail _ (.tail _ (.head _))))))
  exact F56.top hmg λbase _ _=>Wl.wn T TV (rX KX G (nth h2 0 rfl)) (rX KX G (nth h2 1 rfl)) (rX KX G (nth h2 2 rfl)) (rX KX G (nth h2 3 rfl)) (rX KX G (nth h2 4 rfl)) (rX KX G (nth h2 5 rfl)) (rX KX G (nth h2 6 rfl)) (rX KX G (nth h2 7 rfl)) (Lm KX G (nth h3 0 rfl)) (Lm KX G (nth h3 1 rfl)) (Lm KX G (nth h3 2 rfl)) (Lm KX G (nth h3 3 rfl)) (Lm KX G (nth h3 4 rfl)) (Lm KX G (nth h3 5 rfl)) (Lm KX G (nth h3 6 rfl)) (Lm KX G (nth h3 7 rfl)) (Lm KX G (nth h3 8 rfl)) (Lm KX G (nth h3 9 rfl)) (GO (by decide) KX G h5) (Ft (by decide) (by decide) KX G h6) I1 I2 M1 M2 M3 M4 F0 F1 F2 F3 F4 F5 F6 F7 F8 F9 F10 F11 F12 F13 F14 F15 F16 F17 F18 F19 F20 F21 F22 F23 F24 F25 F26 F27 F28 F29 F30 F31 F32 F33 F34 F35 F36 F37 F38 F39 F40 F41 F42 F43 F44 F45 F46 F47 F48 F49 F50 F51 F52 F53 F54 F55 F56
 case S =>
  intro K H xs a hO hwi bB hx
  cases hx with
  |cons h0 r0 =>
  cases r0 with
  |cons h1 r1 =>
  cases r1 with
  |cons h2 r2 =>
  cases r2 with
  |cons h3 r3 =>
  cases r3
  cases h0
  cases h1 with
  |lst hs1 ha1 =>
  cases h2 with
  |lst hs2 ha2 =>
  cases h3 with
  |lst hs3 ha3 =>
  have e1:=L2.mO a.2.1 _ ha1
  subst e1
  have e2:=L2.mO a.2.2.1 _ ha2
  subst e2
  have e3:=L2.mO a.2.2.2.1 _ ha3
  subst e3
  have q:(Codec.inInt 0 18446744073709551615 a.1&&((Codec.inLen 0 100000 a.2.1&&a.2.1.all (Codec.inInt 0 255))&&((Codec.inLen 0 9000 a.2.2.1&&a.2.2.1.all (Codec.inInt 0 4294967295))&&((Codec.inLen 0 9000 a.2.2.2.1&&a.2.2.2.1.all (Codec.inInt 0 4294967295))&&true))))=true:=hwi
  obtain⟨q0,q⟩:=Jp.mp q
  obtain⟨q1,q⟩:=Jp.mp q
  obtain⟨q2,q⟩:=Jp.mp q
  obtain⟨q3,q⟩:=Jp.mp q
  obtain⟨l1,b1⟩:=Wl.lv q1
  obtain⟨l2,b2⟩:=Wl.lv q2
  obtain⟨l3,b3⟩:=Wl.lv q3
  unfold Codec.inInt at q0
  rw[Hu,Hv,Hv]at q0
  have e0:((a.1.toNat:Nat):Int)=a.1:=by omega
  refine⟨a.1.toNat,_,_,_,a.2.1,a.2.2.1,a.2.2.2.1,by rw[e0],⟨hs1,by omega⟩,⟨hs2,by omega⟩,⟨hs3,by omega⟩,b1,λH' p hp=>?_⟩
  rw[Wl.yd b1 (λx hx=>(b2 x hx).1) (λx hx=>(b3 x hx).1),e0]at hp
  exact .lst (L2.SqL.of hp) (L2.wg _)
end
