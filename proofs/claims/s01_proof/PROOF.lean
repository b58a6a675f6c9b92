import PyProof.Rows.All
import Wide.All
import OpenK.AllK
import Wide.FinOn
import PyProof.EqAt
import PyProof.EqKinds
import PyProof.TupleCall
import KE.BitLaws
import Open.SpecLaws
import KE.OsHead
import KE.OsGo
import PySem.Challenge.RW_windowlight_s01_pane
set_option Elab.async false
set_option linter.all false
set_option maxRecDepth 100000
set_option maxHeartbeats 4000000
open PySem.W (Frag)
theorem bcn {p : Prop} (h : ¬p → False) : p := Classical.byContradiction h
theorem osi {α : Type} {a b : α} (h : some a = some b) : a = b := Option.some.inj h
theorem dqf {p : Prop} [Decidable p] (h : ¬p) : decide p = false := decide_eq_false h
theorem dqt {p : Prop} [Decidable p] (h : p) : decide p = true := decide_eq_true h
theorem nlr (n : Nat) : n ≤ n := Nat.le_refl n
theorem gsi {α : Type} {l : List α} {i : Nat} {a : α} (h : l[i]? = some a) : ∃ h : i < l.length, l[i] = a := List.getElem?_eq_some_iff.mp h
theorem gge {α : Type} {l : List α} {i : Nat} (h : i < l.length) : l[i]? = some l[i] := List.getElem?_eq_getElem h
theorem lmp {α β : Type} {l : List α} (f : α → β) : (l.map f).length = l.length := List.length_map f
open PySem renaming wpAny_bind→EI,Addr→EJ,Shared→EK,sizeLine→EL,Spec→E3,wpAny_pure→E5,Program→E8,starEach→Fo,wpAny→Fp,mem_of_lookup→Fz,boot_len→FB,model→FC,mainGlobals→FI,World→FL,compareOp→Ga,wpAny_truthy_bool→Gr,cellsFrom→Gu,wpAny_typeNameOfWhole_keyiter→GQ,bootBuiltins→GW,Stmt→G8,sysModules→Hf,wpAny_passesOwn→Ht,wpAny_typeNameOf_keyiter→Hw,wpAny_callSpecial?_slot→HA,wpAny_call_entry→HD,backTo→HL,wpAny_Call_Name_kw→HM,keywordEach→HN,wpAny_loadPart'→HP,wpAny_mono→Ib,behindInMarks→Ic,eval→Ik,FuncData→Im,compEnvC→Io
open List renaming length_append→EN,mem_cons_of_mem→EQ,mem_cons→ES,size_toArray→EW,getElem?_map→E2,getElem?_append_right→E6,mem_cons_self→E7,getD_eq_getElem?_getD→Fa,getElem?_append_left→Fd,range→Fe,getElem_of_mem→Fh,map_append→Fi,mem_append→Fk,map_cons→Fl,getElem_mem→Fm,mem_filter→Fq,pairwise_iff_getElem→Fs,length_cons→Ft,length_drop→Fu,mem_map→Fx,mem_of_getElem?→FG,dropLast_concat_getLast→FJ,length_take→FM,pairwise_cons→FP,all_eq_true→FS,pairwise_append→FY,length_range→F2,mem_range→F3,mem_of_mem_take→F8,take_of_length_le→F9,mem_append_right→Gc,append_nil→Gd,nodup_cons→Ge,map_congr_left→Gq,length_eq_zero_iff→Gz,nil_append→GA,take_length→GE,mem_take_iff_getElem→GG,drop_eq_getElem_cons→GH,zip_cons_cons→GN,getLast_mem→GR,any_eq_true→GS,getElem?_set_ne→GT,mem_of_mem_drop→GU,replicate→GY,find?_cons→G0,getElem?_range→G1,idxOf_lt_length_of_mem→G2,foldl_cons→G3,length_zip→G4,drop_eq_nil_of_le→G7,lookup_cons→Hg,length_replicate→Hj,map_take→Hk,mem_iff_getElem?→Hl,find?_eq_none→Ho,contains_iff_mem→Hq,eq_nil_or_concat→Hr,length_filter_le→Hs,any_eq_false→Hu,length_nil→Hv,getElem_drop→Hy,find?_eq_some_iff_getElem→Hz,getElem_zip→HG,getElem?_set_self→HJ,range_succ→HR,concat_eq_append→HS,map_drop→Ii,cons_append→Ip,mem_flatMap→Iq,lookup→Iu
open Bool renaming and_eq_true→EO,false_ne_true→EZ,eq_iff_iff→Fy,false_and→FF,false_xor→FW,noConfusion→FZ,true_and→F4,xor_false→Gj,and_eq_true_iff→GD,or_eq_true→GK,xor_comm→Hm,xor_self→HB,true_or→IB
open Int renaming mul_nonneg→ER,mul_pos→EY,toNat_natCast→F0,toNat→Gp,mul_comm→Gw,mul_eq_zero→GL,le_of_lt→Hn
open PySem.Heap renaming get?_push_of_some→EV,lt_size→EX,get?_push_size→Fb,size_push→F6,get?_update_other→GF,get?_update_self→GJ
open PySem.PassesOwn renaming never→E4
open Nat renaming lt_of_lt_of_le→E9,min_eq_right→Ff,min_eq_left→Fg,ne_of_lt→Fv,le_trans→Fw,lt_of_le_of_lt→FE,lt_or_gt_of_ne→FN,max_eq_right→FO,zero_le→FR,not_lt_zero→FT,max_eq_left→Gf,sub_self→Gh,le_add_right→Gi,zero_add→Gv,lt_irrefl→Gx,ne_of_gt→GI,add_le_add_left→G6,lt_succ_of_lt→Ih,le_of_lt→Iz
open Ne renaming symm→Fj
open PySem.W renaming findIn→Fn,keepIn→FK,Frag→FQ,fnOf→F7,codeIn→Gn,emptyDict→Gs,mg_none_of→GC,isFn→GX,instObj→GZ,plainGet→HC,hasDictIn→Ie
open PySem.Value renaming ref→FA,none→Ia
open PyProof.Rows renaming callWith_type1→FD,IntsAre→HK
open PySem.PyData renaming int→FH,tuple→HU,canLayAll0→Ij
open PySem.F renaming plainAttrs_list→FU,slot_list_append→GO,type_list_append→GP,slot_enumerate_next→HV,plain_extend_loop→Iw
open Or renaming inr→FV,inl→Go
open Gla renaming firstBad→FX,lineBelow→F5,turn→Gm,markBelow→GB,markOk→Hh,parts→HH,touches→HW,seenFrom→HX,insideOf→HY,Mark→Ir,frameOk→Ix,noneSeen→IC
open Array renaming getElem?_setIfInBounds_ne→F1,getD_eq_getD_getElem?→Gg,toList_setIfInBounds→G9,getElem?_eq_getElem→Il
open False renaming elim→Gk
open PySem.Obj renaming mapSeq→GM
open PySem.Builtin.Range renaming rangeSize→GV
open PySem.Builtin.List renaming listExtendWith→G5,listTooLong→IA
open List.Pairwise renaming imp_of_mem→Hx
open LightNeutral renaming nat→HE
open Classical renaming choose_spec→HZ
open PySem.Builtin.SmallTypes renaming ownedTupleIsFree→Iv
open PySem.W.Codec renaming inInt→Iy
def EH:=@of_decide_eq_true
def EM:=@if_neg
def ET:=@decide_eq_true_eq
def EU:=@if_pos
def E1:=@decide_eq_decide
def Gb:=@beq_eq_false_iff_ne
def Gy:=@congrArg
def HI:=@beq_iff_eq
def HQ:=@decide_false
def Ig:=@if_false
namespace L2
open PySem PySem.Spec PyProof.Rows
abbrev Key:=Sum Int Str
def lM:Key->Value->Bool
 |.inl k,v=>Value.isInt k v
 |.inr x,v=>Value.isStrOf x v
def Eg (w:FL):Key->Int
 |.inl k=>hashInt k
 |.inr x=>hashStr w x
theorem bR:∀{k:Key} {v:Value},lM k v=true->(∃i t,k=Sum.inl i/\v=Value.int i t)\/(∃x t,k=Sum.inr x/\v=Value.str x t)
 |.inl i,v,h=>by
  obtain⟨t,e⟩:=Value.isInt_shape (k:=i) (v:=v) h
  exact .inl ⟨i,t,rfl,e⟩
 |.inr x,v,h=>by
  obtain⟨t,e⟩:=Value.isStrOf_shape (x:=x) (v:=v) h
  exact .inr ⟨x,t,rfl,e⟩
theorem va (i:Int)(t:Tok):lM (.inl i) (.int i t)=true:=by simp[lM,Value.isInt]
theorem vF (x:Str)(t:Tok):lM (.inr x) (.str x t)=true:=by simp[lM,Value.isStrOf]
theorem Ah (a b:Int):decide ((Sum.inl a:Key)=Sum.inl b)=(a==b):=by
 by_cases e:a=b
 ·subst e;simp
 ·have h:¬(Sum.inl a:Key)=Sum.inl b:=λ q=>e (Sum.inl.inj q)
  rw[dqf h]
  exact(Gb.mpr e).symm
theorem AY (a b:Str):decide ((Sum.inr a:Key)=Sum.inr b)=decide (a=b):=by
 by_cases e:a=b
 ·subst e;simp
 ·have h:¬(Sum.inr a:Key)=Sum.inr b:=λ q=>e (Sum.inr.inj q)
  rw[dqf h,dqf e]
theorem A9 (a:Int)(b:Str):decide ((Sum.inl a:Key)=Sum.inr b)=false:=dqf (λ q=>nomatch q)
theorem z8 (a:Str)(b:Int):decide ((Sum.inr a:Key)=Sum.inl b)=false:=dqf (λ q=>nomatch q)
def cW (prog:E8)(w:FL):PySem.KeyKind prog w Key where
 is:=lM
 hash:=Eg w
 inj:=λ v a b ha hb=>by
  rcases bR ha with⟨i,t,rfl,rfl⟩|⟨x,t,rfl,rfl⟩
  ·rcases bR hb with⟨j,u,rfl,e⟩|⟨y,u,rfl,e⟩
   ·injection e with e1 _;rw[e1]
   ·exact nomatch e
  ·rcases bR hb with⟨j,u,rfl,e⟩|⟨y,u,rfl,e⟩
   ·exact nomatch e
   ·injection e with e1 _;rw[e1]
 byValue:=λ k v h=>by
  rcases bR h with⟨i,t,rfl,rfl⟩|⟨x,t,rfl,rfl⟩<;>rfl
 pyHash:=λ hv h=>by
  rcases bR hv with⟨i,t,rfl,rfl⟩|⟨x,t,rfl,rfl⟩
  ·exact wpAny_pyHash_int h
  ·exact wpAny_pyHash_str h
 eqBool:=λ hu hv h=>by
  rcases bR hu with⟨i,t,rfl,rfl⟩|⟨x,t,rfl,rfl⟩
  ·rcases bR hv with⟨j,u,rfl,rfl⟩|⟨y,u,rfl,rfl⟩
   ·rw[Ah]at h;exact wpAny_eqBool_int h
   ·rw[A9]at h;exact SeqAt.EqAt.int_str i t y u _ _ _ _ h
  ·rcases bR hv with⟨j,u,rfl,rfl⟩|⟨y,u,rfl,rfl⟩
   ·rw[z8]at h;exact SeqAt.EqAt.str_int x t j u _ _ _ _ h
   ·rw[AY]at h;exact wpAny_eqBool_str h
 «strs»:=λ k x t v h=>by
  rcases bR h with⟨i,u,rfl,e⟩|⟨y,u,rfl,e⟩
  ·exact nomatch e
  ·injection e with e1 _
   subst e1
   cases v<;>rfl
theorem rh (prog:E8)(w:FL)(i:Int)(t:Tok):(cW prog w).is (.inl i) (.int i t)=true:=va i t
theorem rR (prog:E8)(w:FL)(x:Str)(t:Tok):(cW prog w).is (.inr x) (.str x t)=true:=vF x t
end L2
namespace L2
open PySem PySem.Spec PyProof.Rows
inductive V where
 |non|bl (b:Bool)|int (i:Int)|str (x:Str)|byt (b:Array UInt8)|flt (b:UInt64)|ref (a:EJ)|ty (n:String)
 deriving DecidableEq
def a5:V->Value->Prop
 |.non,u=>u=Ia
 |.bl b,u=>u=Value.bool b
 |.int i,u=>∃t,u=Value.int i t
 |.str x,u=>∃t,u=Value.str x t
 |.byt b,u=>∃t,u=Value.bytes b t
 |.flt b,u=>∃t,u=Value.float b t
 |.ref a,u=>u=FA a
 |.ty n,u=>u=Value.type n
abbrev aT:List V->List Value->Prop:=Paired a5
theorem aT.length {xs:List V}{us:List Value}(r:aT xs us):xs.length=us.length:=Paired.length r
theorem aT.get:∀{xs:List V} {us:List Value} {i:Nat} {x:V},aT xs us->xs[i]? = some x->∃u,us[i]? = some u/\a5 x u
 |_,_,_,_,.nil,e=>by simp at e
 |_,_,0,_,.cons r _,e=>by simp at e;subst e;exact⟨_,rfl,r⟩
 |_,_,i+1,x,.cons _ t,e=>by
  obtain⟨u,h1,h2⟩:=aT.get (i:=i) (x:=x) t (by simpa using e)
  exact⟨u,by simpa using h1,h2⟩
theorem aT.set {x:V}{u:Value}(r:a5 x u):∀{xs:List V} {us:List Value} (i:Nat),aT xs us->aT (xs.set i x) (us.set i u)
 |_,_,_,.nil=>.nil
 |_,_,0,.cons _ t=>.cons r t
 |_,_,i+1,.cons q t=>.cons q (aT.set r i t)
theorem aT.append:∀{xs ys:List V} {us ws:List Value},aT xs us->aT ys ws->aT (xs++ys) (us++ws)
 |_,_,_,_,.nil,s=>s
 |_,_,_,_,.cons r t,s=>.cons r (aT.append t s)
theorem aT.take:∀{xs:List V} {us:List Value} (n:Nat),aT xs us->aT (xs.take n) (us.take n)
 |_,_,0,_=>.nil
 |_,_,_+1,.nil=>.nil
 |_,_,n+1,.cons r t=>.cons r (aT.take n t)
theorem aT.drop:∀{xs:List V} {us:List Value} (n:Nat),aT xs us->aT (xs.drop n) (us.drop n)
 |_,_,0,r=>r
 |_,_,_+1,.nil=>.nil
 |_,_,n+1,.cons _ t=>aT.drop n t
def kn:Option V->Option Value->Prop
 |some v,some u=>a5 v u
 |none,none=>True
 |_,_=>False
def KV {κ:Type}:List (κ×V)->List (κ×Value)->Prop:=Paired λ(p:κ×V) (q:κ×Value)=>p.1=q.1/\a5 p.2 q.2
def kV:Key->V
 |.inl i=>.int i
 |.inr x=>.str x
inductive HO where
 |lst (xs:List V)
 |tup (xs:List V)
 |dK (kvs:List (Key×V))|dT (kvs:List (List Key×V))
 |set (S:Int->Bool) (n:Nat)
 |ins (C dx:EJ) (fs:List (Str×V))
 |own (x:EJ)
 |xd (fs:List (Str×V))
 |met (f x:EJ)
 |rng (lo hi:Int)
 |frz (o:Obj) (u:HO)
 |tbl (ps:Array Value)
 |ext (φ:Heap->Prop)
abbrev Hp:=EJ->Option HO
def upd (H:Hp)(a:EJ)(o:HO):Hp:=λ b=>if b=a then some o else H b
theorem ag {H:Hp}{a:EJ}{o:HO}:upd H a o a=some o:=by unfold upd;rw[EU rfl]
theorem ap {H:Hp}{a b:EJ}{o:HO}(h:b≠a):upd H a o b=H b:=by unfold upd;rw[EM h]
theorem uF {H:Hp}{a:EJ}{o u:HO}:upd (upd H a o) a u=upd H a u:=by
 funext b;unfold upd;split<;>rfl
theorem BO {H:Hp}{a b:EJ}{o u:HO}(h:H a=some o)(h':H b=some u)(d:o≠u):a≠b:=by
 intro e;subst e;rw[h]at h';exact d (osi h')
theorem aQ {H:Hp}{a b:EJ}{o:HO}(h:H a=some o)(h':H b=none):a≠b:=by
 intro e;subst e;rw[h]at h';cases h'
section
variable  (P:E8)(w:FL)
def cf (H:Hp)(h:Heap)(a:EJ):HO->Prop
 |.lst xs=>xs.length<=EL/\∃(its:List Value) (n:Nat),aT xs its/\h.get? a=some { cls:=.type "list",data:=.seq its.toArray n }
 |.tup xs=>xs.length<=EL/\∃its:List Value,aT xs its/\IsTup h a its.toArray
 |.dK kvs=>kvs.length<=EL/\(a==Hf)=false/\∃vs,KV kvs vs/\h.DictOf (cW P w) a vs
 |.dT kvs=>kvs.length<=EL/\(a==Hf)=false/\∃xs:List (List Key×EJ×Value),
   Paired (λ(p:List Key×V) (q:List Key×EJ×Value)=>p.1=q.1/\H q.2.1=some (.tup (p.1.map kV))/\a5 p.2 q.2.2) kvs xs /\
   ∃o es ep,h.get? a=some o/\o.ExactDict/\o.data=.dict es ep/\es.toList=xs.map (entryOfKey (tupleKind (cW P w)))/\(xs.map (·.1)).Nodup
 |.set S n=>h.SetOf (intKind P w) a S n
 |.ins C dx fs=>H dx=some (.own a)/\fs.length<=1000/\dx≠a/\h.get? a=some (GZ C dx) /\
   ∃mA,h.Ns1 dx mA/\(∀f,kn (fs.lookup f) (mA f))/\PySem.Within mA (fs.map (·.1))
 |.own _=>∃o,h.get? a=some o
 |.xd fs=>∃mA,h.Ns1 a mA/\∀f,kn (fs.lookup f) (mA f)
 |.rng lo hi=>∃t u v,h.get? a=some { cls:=.type "range",data:=.fields #[.int lo t,.int hi u,.int 1 v] }
 |.frz o u=>h.get? a=some o/\cf H h a u
 |.tbl ps=>h.get? a=some { cls:=.none,data:=.fields ps }
 |.met f x=>h.get? a=some (PySem.W.methodObj (.ref f) (.ref x))
 |.ext φ=>φ h/\(∃o,h.get? a=some o)/\∀h1 h2:Heap,φ h1->(∀o,h1.get? a=some o->h2.get? a=some o)->φ h2
def HOk (H:Hp)(h:Heap):Prop:=∀a o,H a=some o->cf P w H h a o
end
section
variable  {P:E8}{w:FL}{H H':Hp}{h h':Heap}{a:EJ}{o:HO}
theorem cf.lt (x:cf P w H h a o):a<h.objs.size:=by
 cases o with
 |lst xs=>obtain⟨_,_,_,_,e⟩:=x;exact EX e
 |tup xs=>obtain⟨_,_,_,p⟩:=x;exact p.lt
 |dK kvs=>obtain⟨_,_,_,_,o,_,_,e,_⟩:=x;exact EX e
 |dT kvs=>obtain⟨_,_,_,_,o,_,_,e,_⟩:=x;exact EX e
 |set S n=>obtain⟨o,_,_,_,e,_⟩:=x;exact EX e
 |ins C dx fs=>obtain⟨_,_,_,e,_⟩:=x;exact EX e
 |own y=>obtain⟨_,e⟩:=x;exact EX e
 |xd fs=>obtain⟨_,⟨_,_,_,e,_⟩,_⟩:=x;exact EX e
 |rng lo hi=>obtain⟨_,_,_,e⟩:=x;exact EX e
 |frz ob u=>obtain⟨e,_⟩:=x;exact EX e
 |tbl ps=>exact EX (show h.get? a=some _ from x)
 |met f y=>exact EX (show h.get? a=some _ from x)
 |ext φ=>obtain⟨_,⟨_,e⟩,_⟩:=x;exact EX e
theorem Paired.mapP {α β:Type}{F G:α->β->Prop}:∀{l₁:List α} {l₂:List β},Paired F l₁ l₂->(∀a b,F a b->G a b)->Paired G l₁ l₂
 |_,_,.nil,_=>.nil
 |_,_,.cons r t,f=>.cons (f _ _ r) (Paired.mapP t f)
theorem cf.stay (x:cf P w H h a o)(k:∀b u,(b=a\/H b=some (.own a))->h.get? b=some u->h'.get? b=some u)
  (ho:∀b,H b=some (.own a)->H' b=some (.own a)) (ht:∀b xs,H b=some (.tup xs)->H' b=some (.tup xs)):cf P w H' h' a o:=by
 induction o with
 |lst xs=>obtain⟨z,its,n,r,e⟩:=x;exact⟨z,its,n,r,k _ _ (.inl rfl) e⟩
 |tup xs=>obtain⟨z,its,r,ob,e,c⟩:=x;exact⟨z,its,r,ob,k _ _ (.inl rfl) e,c⟩
 |dK kvs=>obtain⟨z,y,vs,r,ob,es,ep,e,c⟩:=x;exact⟨z,y,vs,r,ob,es,ep,k _ _ (.inl rfl) e,c⟩
 |dT kvs =>
  obtain⟨z,y,xs,r,ob,es,ep,e,c⟩:=x
  exact⟨z,y,xs,Paired.mapP r λ p q z=>⟨z.1,ht _ _ z.2.1,z.2.2⟩,ob,es,ep,k _ _ (.inl rfl) e,c⟩
 |set S n=>obtain⟨ob,es,ep,t,e,c⟩:=x;exact⟨ob,es,ep,t,k _ _ (.inl rfl) e,c⟩
 |ins C dx fs =>
  obtain⟨d,z,ne,e,mA,⟨od,es,ep,e2,c⟩,r⟩:=x
  exact⟨ho _ d,z,ne,k _ _ (.inl rfl) e,mA,⟨od,es,ep,k _ _ (.inr d) e2,c⟩,r⟩
 |own y=>obtain⟨ob,e⟩:=x;exact⟨ob,k _ _ (.inl rfl) e⟩
 |xd fs=>obtain⟨mA,⟨od,es,ep,e,c⟩,r⟩:=x;exact⟨mA,⟨od,es,ep,k _ _ (.inl rfl) e,c⟩,r⟩
 |rng lo hi=>obtain⟨t,u,v,e⟩:=x;exact⟨t,u,v,k _ _ (.inl rfl) e⟩
 |frz ob u ih=>obtain⟨e,q⟩:=x;exact⟨k _ _ (.inl rfl) e,ih q⟩
 |tbl ps =>
  have e:h.get? a=some { cls:=.none,data:=.fields ps }:=x
  show h'.get? a=some { cls:=.none,data:=.fields ps }
  exact k a _ (.inl rfl) e
 |met f y =>
  have e:h.get? a=some (PySem.W.methodObj (.ref f) (.ref y)):=x
  show h'.get? a=some (PySem.W.methodObj (.ref f) (.ref y))
  exact k a _ (.inl rfl) e
 |ext φ=>obtain⟨p,⟨o,e⟩,st⟩:=x;exact⟨st _ _ p λ o q=>k _ _ (.inl rfl) q,⟨o,k _ _ (.inl rfl) e⟩,st⟩
theorem HOk.lt (x:HOk P w H h)(e:H a=some o):a<h.objs.size:=(x a o e).lt
theorem HOk.fresh (x:HOk P w H h)(e:h.objs.size<=a):H a=none:=by
 cases q:H a with
 |none=>rfl
 |some u=>exact absurd (E9 (x.lt q) e) (Gx _)
theorem HOk.kept (x:HOk P w H h)(k:∀b u,h.get? b=some u->h'.get? b=some u):HOk P w H h':=λ a o e =>
 (x a o e).stay (λ b u _ q=>k b u q) (λ _ q=>q) λ _ _ q=>q
theorem HOk.laid (x:HOk P w H h)(k:∀b u,h.get? b=some u->h'.get? b=some u)(hp:h.objs.size<=a)(new:cf P w (upd H a o) h' a o):HOk P w (upd H a o) h':=λ b u e=>by
 have hn:=x.fresh hp
 by_cases hb:b=a
 ·subst hb;rw[ag]at e;cases e;exact new
 ·rw[ap hb]at e
  exact(x b u e).stay (λ c v _ q=>k c v q) (λ c q=>by rw[ap (aQ q hn)];exact q) λ c xs q=>by rw[ap (aQ q hn)];exact q
end
def Rd (H:Hp)(a:EJ)(u:HO):Prop:=H a=some u\/∃o,H a=some (.frz o u)
theorem Rd.ok {P:E8}{w:FL}{H:Hp}{h:Heap}{a:EJ}{u:HO}(r:Rd H a u)(x:HOk P w H h):cf P w H h a u:=by
 rcases r with r|⟨o,r⟩
 ·exact x a u r
 ·obtain⟨_,q⟩:=x a _ r
  exact q
def Mut:Option HO->Prop
 |some (.lst _)=>True
 |some (.dK _)=>True
 |some (.dT _)=>True
 |some (.set _ _)=>True
 |some (.ins _ _ _)=>True
 |some (.ext _)=>True
 |_=>False
section
variable  {P:E8}{w:FL}{H:Hp}{h h':Heap}{x e:EJ}{o':HO}
theorem HOk.write (ok:HOk P w H h)(mu:Mut (H x))(he:e=x\/H e=some (.own x))(k:∀b u,b≠e->h.get? b=some u->h'.get? b=some u)(heo:∃u,h'.get? e=some u)
  (new:cf P w (upd H x o') h' x o'):HOk P w (upd H x o') h':=λ b u q=>by
 have nown:∀c y,H c=some (.own y)->c≠x:=λ c y r z=>by subst z;rw[r]at mu;exact mu
 have ntup:∀c xs,H c=some (.tup xs)->c≠x:=λ c xs r z=>by subst z;rw[r]at mu;exact mu
 by_cases hb:b=x
 ·subst hb;rw[ag]at q;cases q;exact new
 ·rw[ap hb]at q
  by_cases hbe:b=e
  ·have q':H b=some (.own x):=by
    rcases he with z|z
    ·exact absurd (hbe.trans z) hb
    ·rw[hbe];exact z
   rw[q]at q';cases q'
   obtain⟨v,hv⟩:=heo
   exact⟨v,by rw[hbe];exact hv⟩
  ·refine(ok b u q).stay (λ c v hc r=>k c v ?_ r) (λ c r=>by rw[ap (nown c b r)];exact r) λ c xs r=>by rw[ap (ntup c xs r)];exact r
   rcases hc with rfl|hc
   ·exact hbe
   ·rintro rfl
    rcases he with z|z
    ·exact nown c b hc z
    ·rw[hc]at z;cases z;exact hb rfl
end
structure Un (fs ex:List EJ)(H H':Hp)(h h':Heap):Prop where
 keep:∀b o,h.get? b=some o->H b=none->b∉fs->b∉ex->h'.get? b=some o
 slot:∀b o,h.get? b=some o->H b=none->b∈fs->b∉ex->∃sl,h'.get? b=some { o with slots:=sl }
 free:∀b o,h.get? b=some o->H b=none->b∉ex->H' b=none
 there:∀b o,h.get? b=some o->b∉ex->∃o',h'.get? b=some o'
 tups:∀b xs,H b=some (.tup xs)->H' b=some (.tup xs)
 frzs:∀b o u,H b=some (.frz o u)->H' b=some (.frz o u)
 tbls:∀b ps,H b=some (.tbl ps)->∃more,H' b=some (.tbl (ps++more))
section
variable  {fs fs' ex ex':List EJ}{H H1 H2:Hp}{h h1 h2 h':Heap}{a x e:EJ}{o:HO}
theorem Un.any (u:Un fs ex H H1 h h1){b:EJ}{ob:Obj}(q:h.get? b=some ob)(n:H b=none)(hx:b∉ex):∃sl,h1.get? b=some { ob with slots:=sl }:=by
 by_cases hb:b∈fs
 ·exact u.slot b ob q n hb hx
 ·exact⟨ob.slots,u.keep b ob q n hb hx⟩
theorem Un.kept (k:∀b u,h.get? b=some u->h'.get? b=some u):Un fs ex H H h h' :=
 ⟨λ b ob q _ _ _=>k b ob q,λ b ob q _ _ _=>⟨ob.slots,k b ob q⟩,λ _ _ _ n _=>n,λ b ob q _=>⟨ob,k b ob q⟩,λ _ _ q=>q,λ _ _ _ q=>q,λ _ ps q=>⟨#[],by rw[q];simp⟩⟩
theorem Un.refl:Un fs ex H H h h:=Un.kept λ _ _ q=>q
theorem Un.laid (k:∀b u,h.get? b=some u->h'.get? b=some u)(hp:h.objs.size<=a)(hn:H a=none):Un fs ex H (upd H a o) h h' where
 keep:=λ b u q _ _ _=>k b u q
 slot:=λ b u q _ _ _=>⟨u.slots,k b u q⟩
 free:=λ b u q n _=>by rw[ap (Fv (E9 (EX q) hp))];exact n
 there:=λ b u q _=>⟨u,k b u q⟩
 tups:=λ b xs q=>by rw[ap (aQ q hn)];exact q
 frzs:=λ b u xs q=>by rw[ap (aQ q hn)];exact q
 tbls:=λ b ps q=>⟨#[],by rw[ap (aQ q hn),q];simp⟩
theorem Un.write (mu:Mut (H x))(he:e=x\/H e=some (.own x))(k:∀b u,b≠e->h.get? b=some u->h'.get? b=some u)(heo:∃u,h'.get? e=some u):Un fs ex H (upd H x o) h h':=by
 have hx:∀b,H b=none->b≠x:=λ b n z=>by subst z;rw[n]at mu;exact mu
 have hb:∀b,H b=none->b≠e:=λ b n z=>by
  subst z
  rcases he with r|r
  ·exact hx b n r
  ·rw[n]at r;cases r
 have hm:∀b u,H b=some u->¬Mut (some u)->b≠x:=λ b u q nm z=>by subst z;rw[q]at mu;exact nm mu
 refine⟨λ b u q n _ _=>k b u (hb b n) q,λ b u q n _ _=>⟨u.slots,k b u (hb b n) q⟩,λ b u q n _=>by rw[ap (hx b n)];exact n,λ b u q _=>?_,
  λ b xs q=>by rw[ap (hm b _ q λ z=>z)];exact q,λ b u xs q=>by rw[ap (hm b _ q λ z=>z)];exact q,λ b ps q=>⟨#[],by rw[ap (hm b _ q λ z=>z),q];simp⟩⟩
 by_cases hbe:b=e
 ·subst hbe;exact heo
 ·exact⟨u,k b u hbe q⟩
end
def trk (h:Heap)(H:Hp):List EJ:=(Fe h.objs.size).filter λ a=>(H a).isSome
def jZ (h:Heap)(H:Hp):Heap:=PySem.W.hideAll h (trk h H)
theorem oS (h:Heap)(H:Hp):(jZ h H).objs.size=h.objs.size:=PySem.W.hideAll_size _ _
theorem qW {h:Heap}{H:Hp}{b:EJ}{o:Obj}(e:h.get? b=some o)(n:H b=none):(jZ h H).get? b=some o :=
 PySem.W.hideAll_get _ e λ hm=>by
  have q:(H b).isSome=true:=(Fq.mp hm).2
  rw[n]at q;simp at q
theorem uC {h:Heap}{H:Hp}{b:EJ}{o:Obj}(e:(jZ h H).get? b=some o):h.get? b=some o/\H b=none:=by
 have e':h.get? b=some o:=PySem.W.of_hideAll (trk h H) e
 refine⟨e',?_⟩
 cases q:H b with
 |none=>rfl
 |some x =>
  have hm:b∈trk h H:=Fq.mpr ⟨F3.mpr (EX e'),by simp[q]⟩
  have z:(jZ h H).get? b=none:=PySem.W.hideAll_none (trk h H) hm
  rw[z]at e;cases e
def yT (g h:Heap)(L:EJ):List (EJ×Obj):=(Fe h.objs.size).filterMap λ a=>if a=L\/(g.get? a).isSome=true then none else (h.get? a).map λ o=>(a,o)
def gN (g h:Heap)(L d:EJ):List (EJ×Obj):=(yT g h L).filter λ p=>decide (p.1≠d)
end L2
namespace L2
open PySem PySem.Spec PyProof.Rows
structure Mod (K:FQ)(mg:Str->Option Value)(base:Heap):Prop where
 kin:K.In base
 glob:base.Ns FI mg
 blt:∃mb,base.Ns builtinsNs mb/\∀x:Str,x≠"__name__"->mb x=GW x
 nolimit:base.NoLimit
structure Cx where
 prog:E8
 w:FL
 K:FQ
 mg:Str->Option Value
 base:Heap
 A:Around
 N:List Str
 s_0:EK
 H_0:Hp
 env:Env
 outer:List Env
 stack:List Env
 ex:List EJ
 fn:Str->Bool
 calm:Bool
 pn:List (EJ×Obj)
 xe:Value->EK->Prop
def frs (l:List Env):List EJ:=l.filterMap (·.frame)
abbrev Cx.fs (X:Cx):List EJ:=frs X.outer
def Vis (sc:Scope)(x:Str):Prop:=sc.names.lookup x=some .local\/sc.names.lookup x=some .cell\/sc.names.lookup x=some .free
def Loc (sc:Scope)(x:Str):Prop:=sc.names.lookup x=some .local\/sc.names.lookup x=some .cell
def EE (env:Env)(h:Heap)(m:Str->Option Value)(x:Str)(u:Value):Prop :=
 (env.kindOf x=some .local/\m x=some u)\/((env.kindOf x=some .cell\/env.kindOf x=some .free)/\∃c,env.cells.lookup x=some c/\h.IsCell c (some u))
structure Cx.Ok (X:Cx):Prop where
 mod:Mod X.K X.mg X.base
 kind:X.env.scope.kind=.function
 glob:X.env.globals=FI
 blt:X.env.builtins=builtinsNs
 above:X.s_0.heap.objs.size<=X.env.locals
 inj:∀x y c,X.env.cells.lookup x=some c->X.env.cells.lookup y=some c->x=y
 has:∀x,(X.env.kindOf x=some .cell\/X.env.kindOf x=some .free)->∃c,X.env.cells.lookup x=some c
 cab:∀x c,X.fn x=true->X.env.cells.lookup x=some c->X.s_0.heap.objs.size<=c
 hd:X.calm=true->X.A.handled=none
 frames:X.A.frames=some X.stack
 stk:X.stack=X.outer\/(X.stack=X.env :: X.outer/\X.env.frame=some X.env.locals)
 exf:∀b∈X.ex,b≠X.env.locals/\∀x c,X.env.cells.lookup x=some c->c≠b
 bs:∀b o,X.base.get? b=some o->X.s_0.heap.get? b=some o/\X.H_0 b=none
 bsz:X.base.objs.size<=X.s_0.heap.objs.size
 noex:∀b o,X.base.get? b=some o->b∉X.ex
 exfs:∀b∈X.ex,b∉X.fs
 funs:X.s_0.heap.FunFrames X.base X.outer
 frf:∀b∈X.fs,X.H_0 b=none
structure Inv (X:Cx)(pins:List (EJ×Obj))(σ:List (Option V))(H:Hp)(s:EK):Prop where
 ok:X.Ok
 os:s.os=X.s_0.os
 bare:AllBare s.gens
 base:Un X.fs X.ex X.H_0 H X.s_0.heap s.heap
 loc:∃m,s.heap.Ns X.env.locals m/\∀(i:Nat) (x:Str) (v:V),X.N[i]? = some x->σ[i]? = some (some v)->Vis X.env.scope x->∃u,a5 v u/\EE X.env s.heap m x u
 cell:∀x c,X.env.cells.lookup x=some c->∃v,s.heap.IsCell c v
 free:H X.env.locals=none
 freeC:∀x c,X.env.cells.lookup x=some c->H c=none
 pin:∀p∈X.pn++pins,s.heap.get? p.1=some p.2/\H p.1=none/\p.1≠X.env.locals/\p.1∉X.fs/\∀v,p.2.data≠.cell v
 hok:HOk X.prog X.w H s.heap
 len:σ.length=X.N.length
section
variable  {X:Cx}{pins:List (EJ×Obj)}{σ:List (Option V)}{H H':Hp}{s:EK}{h':Heap}
theorem Cx.Ok.nofr (ok:X.Ok){b:EJ}{o:Obj}(e:X.base.get? b=some o):b∉X.fs:=λ hb=>by
 have:=(ok.funs.mem hb).1
 rw[e]at this;cases this
theorem Inv.bs (I:Inv X pins σ H s):∀b o,X.base.get? b=some o->s.heap.get? b=some o/\H b=none:=λ b o e =>
 ⟨I.base.keep b o (I.ok.bs b o e).1 (I.ok.bs b o e).2 (I.ok.nofr e) (I.ok.noex b o e),I.base.free b o (I.ok.bs b o e).1 (I.ok.bs b o e).2 (I.ok.noex b o e)⟩
theorem Inv.bk (I:Inv X pins σ H s):∀b o,X.base.get? b=some o->s.heap.get? b=some o:=λ b o e=>(I.bs b o e).1
theorem Inv.mod (I:Inv X pins σ H s):Mod X.K X.mg X.base:=I.ok.mod
theorem Inv.kIn (I:Inv X pins σ H s):X.K.In s.heap:=I.ok.mod.kin.keeps I.bk
theorem Inv.fr (I:Inv X pins σ H s):∃m,Fr X.base X.env.locals s.heap m :=
 let ⟨m,hn,_⟩:=I.loc
 ⟨m,hn,I.bk,Fw I.ok.bsz I.ok.above⟩
theorem Inv.lt (I:Inv X pins σ H s):X.env.locals<s.heap.objs.size:=let ⟨_,hn,_⟩:=I.loc;hn.lt
theorem Inv.sz (I:Inv X pins σ H s):X.s_0.heap.objs.size<=s.heap.objs.size:=Fw I.ok.above (Iz I.lt)
theorem Inv.nofs (I:Inv X pins σ H s){a:EJ}(h:s.heap.objs.size<=a):a∉X.fs:=λ hb=>by
 obtain⟨_,o,ho,_⟩:=I.ok.funs.mem hb
 exact absurd (E9 (EX ho) (Fw I.sz h)) (Gx _)
theorem Inv.cne (I:Inv X pins σ H s):∀x c,X.env.cells.lookup x=some c->c≠X.env.locals:=λ x c e z=>by
 obtain⟨v,o,ho,hd⟩:=I.cell x c e
 obtain⟨m,⟨o',es,ep,ho',hd',_⟩,_⟩:=I.loc
 rw[z,ho']at ho;cases ho;rw[hd']at hd;cases hd
theorem Inv.funs (I:Inv X pins σ H s):s.heap.FunFrames X.base X.outer:=by
 have all:∀(l:List Env),(∀b∈frs l,b∈X.fs)->X.s_0.heap.FunFrames X.base l->s.heap.FunFrames X.base l:=by
  intro l
  induction l with
  |nil=>intro _ _;trivial
  |cons env r ih =>
   intro hs hl
   obtain⟨hk,⟨L,o,hf,hn,ho,hd⟩,hr⟩:=hl
   have hL:L∈X.fs:=hs L (by unfold frs;rw[List.filterMap_cons,hf];exact E7)
   obtain⟨sl,e⟩:=I.base.slot L o ho (I.ok.frf L hL) hL λ z=>I.ok.exfs L z hL
   exact⟨hk,⟨L,_,hf,hn,e,hd⟩,ih (λ b hb=>hs b (by unfold frs;rw[List.filterMap_cons,hf];exact EQ _ hb)) hr⟩
 exact all X.outer (λ _ hb=>hb) I.ok.funs
theorem Inv.stack (I:Inv X pins σ H s):s.heap.FunFrames X.base X.stack:=by
 rcases I.ok.stk with e|⟨e,hf⟩
 ·rw[e];exact I.funs
 ·rw[e]
  obtain⟨m,hn,_⟩:=I.loc
  refine .cons (by rw[I.ok.kind];decide) hf hn ?_ I.funs
  exact Heap.get?_none_of_le (Fw I.ok.bsz I.ok.above)
theorem Inv.stkSub (I:Inv X pins σ H s):∀b∈frs X.stack,b∈X.env.locals :: X.fs:=λ b hb=>by
 rcases I.ok.stk with e|⟨e,hf⟩
 ·rw[e]at hb;exact EQ _ hb
 ·rw[e]at hb
  unfold frs at hb
  rw[List.filterMap_cons,hf]at hb
  exact hb
theorem Inv.stkFree (I:Inv X pins σ H s):∀b∈frs X.stack,H b=none:=λ b hb=>by
 rcases ES.mp (I.stkSub b hb) with e|hb
 ·rw[e];exact I.free
 ·obtain⟨_,o,ho,_⟩:=I.ok.funs.mem hb
  exact I.base.free b o ho (I.ok.frf b hb) λ z=>I.ok.exfs b z hb
theorem Inv.step {g':Array GenState}{t':Nat}{d':Drawn}{ch:List EJ}(I:Inv X pins σ H s)
  (hch:∀b∈ch,(b∈X.ex\/X.s_0.heap.objs.size<=b)/\b≠X.env.locals/\(∀x c,X.env.cells.lookup x=some c->c≠b)/\∀p∈X.pn++pins,p.1≠b)
  (keep:∀b o,b≠X.env.locals->b∉X.fs->b∉ch->s.heap.get? b=some o->H b=none->h'.get? b=some o)
  (slot:∀b o,b≠X.env.locals->b∈X.fs->b∉ch->s.heap.get? b=some o->H b=none->∃sl,h'.get? b=some { o with slots:=sl }) (free:∀b o,b∉ch->s.heap.get? b=some o->H b=none->H' b=none)
  (there:∀b o,b∉ch->s.heap.get? b=some o->∃o',h'.get? b=some o')
  (tups:∀b xs,H b=some (.tup xs)->H' b=some (.tup xs)) (frzs:∀b o u,H b=some (.frz o u)->H' b=some (.frz o u)) (tbls:∀b ps,H b=some (.tbl ps)->∃more,H' b=some (.tbl (ps++more)))
  (ns:∀m,s.heap.Ns X.env.locals m->h'.Ns X.env.locals m) (hok:HOk X.prog X.w H' h') (hg:AllBare g') :
  Inv X pins σ H' { s with heap:=h',gens:=g',drawn:=d',toks:=t' }:=by
 have neL:∀b o,X.s_0.heap.get? b=some o->b≠X.env.locals:=λ b o e=>Fv (E9 (EX e) I.ok.above)
 have neC:∀b o,X.s_0.heap.get? b=some o->b∉X.ex->b∉ch:=λ b o e hx hb=>by
  rcases(hch b hb).1 with z|z
  ·exact hx z
  ·exact absurd (E9 (EX e) z) (Gx _)
 have cellK:∀x c,X.env.cells.lookup x=some c->∀v,s.heap.IsCell c v->h'.IsCell c v:=λ x c e v ⟨o,ho,hd⟩=>by
  have nch:c∉ch:=λ z=>(hch c z).2.2.1 x c e rfl
  by_cases hc:c∈X.fs
  ·obtain⟨sl,q⟩:=slot c o (I.cne x c e) hc nch ho (I.freeC x c e)
   exact⟨_,q,hd⟩
  ·exact⟨o,keep c o (I.cne x c e) hc nch ho (I.freeC x c e),hd⟩
 refine⟨I.ok,I.os,hg,⟨λ b o e n hb hx=>?_,λ b o e n hb hx=>?_,λ b o e n hx=>?_,λ b o e hx=>?_,λ b xs e=>tups b xs (I.base.tups b xs e),λ b o xs e=>frzs b o xs (I.base.frzs b o xs e),λ b ps e=>?_⟩,?_,λ x c e=>?_,?_,λ x c e=>?_,λ p hp=>?_,hok,I.len⟩
 ·exact keep b o (neL b o e) hb (neC b o e hx) (I.base.keep b o e n hb hx) (I.base.free b o e n hx)
 ·obtain⟨sl,e1⟩:=I.base.slot b o e n hb hx
  obtain⟨sl',e2⟩:=slot b _ (neL b o e) hb (neC b o e hx) e1 (I.base.free b o e n hx)
  exact⟨sl',e2⟩
 ·obtain⟨o',e1⟩:=I.base.there b o e hx
  exact free b o' (neC b o e hx) e1 (I.base.free b o e n hx)
 ·obtain⟨o',e1⟩:=I.base.there b o e hx
  exact there b o' (neC b o e hx) e1
 ·obtain⟨m1,e1⟩:=I.base.tbls b ps e
  obtain⟨m2,e2⟩:=tbls b _ e1
  exact⟨m1++m2,by rw[e2,Array.append_assoc]⟩
 ·obtain⟨m,hn,hl⟩:=I.loc
  refine⟨m,ns m hn,λ i x v e1 e2 e3=>?_⟩
  obtain⟨u,r,l⟩:=hl i x v e1 e2 e3
  refine⟨u,r,?_⟩
  rcases l with l|⟨k,c,e,z⟩
  ·exact .inl l
  ·exact .inr ⟨k,c,e,cellK x c e _ z⟩
 ·obtain⟨v,z⟩:=I.cell x c e
  exact⟨v,cellK x c e v z⟩
 ·obtain⟨m,⟨o,_,_,ho,_⟩,_⟩:=I.loc
  exact free _ o (λ z=>(hch _ z).2.1 rfl) ho I.free
 ·obtain⟨v,o,ho,hd⟩:=I.cell x c e
  exact free c o (λ z=>(hch c z).2.2.1 x c e rfl) ho (I.freeC x c e)
 ·obtain⟨e,n,ne,nf,d⟩:=I.pin p hp
  have nch:p.1∉ch:=λ z=>(hch p.1 z).2.2.2 p hp rfl
  exact⟨keep p.1 p.2 ne nf nch e n,free p.1 p.2 nch e n,ne,nf,d⟩
theorem Inv.un {t':Nat}(I:Inv X pins σ H s)(u:Un X.fs [] H H' s.heap h')(hok:HOk X.prog X.w H' h'):Inv X pins σ H' { s with heap:=h',toks:=t' }:=by
 obtain⟨m,⟨o,es,ep,ho,r⟩,_⟩:=id I.loc
 obtain⟨sl,hL⟩:=u.any ho I.free (by simp)
 exact I.step (g':=s.gens) (d':=s.drawn) (ch:=[]) (λ _ z=>nomatch z) (λ b o _ hb _ e n=>u.keep b o e n hb (by simp)) (λ b o _ hb _ e n=>u.slot b o e n hb (by simp)) (λ b o _ e n=>u.free b o e n (by simp)) (λ b o _ e=>u.there b o e (by simp)) u.tups u.frzs u.tbls (λ m' hm=>by
  obtain⟨o',es',ep',ho',r'⟩:=hm
  rw[ho]at ho';cases ho'
  exact⟨_,es',ep',hL,r'⟩) hok I.bare
theorem Inv.call {g':Array GenState}{t':Nat}{d':Drawn}{ch:List EJ}(I:Inv X pins σ H s)(u:Un (frs X.stack) ch H H' s.heap h')(hok:HOk X.prog X.w H' h')(hg:AllBare g')
  (hch:∀b∈ch,(b∈X.ex\/X.s_0.heap.objs.size<=b)/\b≠X.env.locals/\(∀x c,X.env.cells.lookup x=some c->c≠b)/\∀p∈X.pn++pins,p.1≠b) :
  Inv X pins σ H' { s with heap:=h',gens:=g',drawn:=d',toks:=t' }:=by
 obtain⟨m,⟨o,es,ep,ho,r⟩,_⟩:=id I.loc
 obtain⟨sl,hL⟩:=u.any ho I.free λ z=>(hch _ z).2.1 rfl
 exact I.step (ch:=ch) hch (λ b o hL hb hc e n=>u.keep b o e n (λ z=>(ES.mp (I.stkSub b z)).elim hL hb) hc) (λ b o _ _ hc e n=>u.any e n hc) (λ b o hc e n=>u.free b o e n hc) (λ b o hc e=>u.there b o e hc) u.tups u.frzs u.tbls (λ m' hm=>by
  obtain⟨o',es',ep',ho',r'⟩:=hm
  rw[ho]at ho';cases ho'
  exact⟨_,es',ep',hL,r'⟩) hok hg
theorem Inv.turned {t':Nat}{it:EJ}(I:Inv X pins σ H s)(k:∀b o,b≠it->s.heap.get? b=some o->h'.get? b=some o)(hn:H it=none)(hL:it≠X.env.locals)
  (h1:it∈X.ex\/X.s_0.heap.objs.size<=it) (h2:∀x c,X.env.cells.lookup x=some c->c≠it) (h3:∀p∈X.pn++pins,p.1≠it):Inv X pins σ H { s with heap:=h',toks:=t' }:=by
 have nit:∀b u,H b=some u->b≠it:=λ b u e z=>by rw[z,hn]at e;cases e
 refine I.step (g':=s.gens) (d':=s.drawn) (ch:=[it]) (λ b hb=>?_) (λ b o _ _ hc e _=>k b o (λ z=>hc (by simp[z])) e) (λ b o _ _ hc e _=>⟨o.slots,k b o (λ z=>hc (by simp[z])) e⟩) (λ _ _ _ _ n=>n)
  (λ b o hc e=>⟨o,k b o (λ z=>hc (by simp[z])) e⟩) (λ _ _ e=>e) (λ _ _ _ e=>e) (λ b ps e=>⟨#[],by rw[e];simp⟩) (λ m hm=>?_) (λ b u e=>?_) I.bare
 ·have e:b=it:=by simpa using hb
  subst e
  exact⟨h1,hL,h2,h3⟩
 ·obtain⟨o,es,ep,ho,r⟩:=hm
  exact⟨o,es,ep,k _ o (Fj hL) ho,r⟩
 ·refine(I.hok b u e).stay (λ c v hc q=>k c v ?_ q) (λ _ q=>q) λ _ _ q=>q
  rcases hc with z|z
  ·rw[z];exact nit b u e
  ·exact nit c _ z
theorem Inv.tok (I:Inv X pins σ H s)(t:Nat):Inv X pins σ H { s with toks:=t }:=I.un (h':=s.heap) (t':=t) Un.refl I.hok
theorem Inv.kept {t':Nat}(I:Inv X pins σ H s)(k:∀b u,s.heap.get? b=some u->h'.get? b=some u):Inv X pins σ H { s with heap:=h',toks:=t' }:=I.un (Un.kept k) (I.hok.kept k)
theorem Inv.laid {a:EJ}{o:HO}{t':Nat}(I:Inv X pins σ H s)(k:∀b u,s.heap.get? b=some u->h'.get? b=some u)(hp:s.heap.objs.size<=a)(new:cf X.prog X.w (upd H a o) h' a o) :
  Inv X pins σ (upd H a o) { s with heap:=h',toks:=t' }:=I.un (Un.laid k hp (I.hok.fresh hp)) (I.hok.laid k hp new)
theorem Inv.write {x e:EJ}{o:HO}{t':Nat}(I:Inv X pins σ H s)(mu:Mut (H x))(he:e=x\/H e=some (.own x))(k:∀b u,b≠e->s.heap.get? b=some u->h'.get? b=some u)(heo:∃u,h'.get? e=some u)
  (new:cf X.prog X.w (upd H x o) h' x o):Inv X pins σ (upd H x o) { s with heap:=h',toks:=t' }:=I.un (Un.write mu he k heo) (I.hok.write mu he k heo new)
theorem Inv.weak {σ':List (Option V)}(I:Inv X pins σ H s)(hl:σ'.length=σ.length)(w:∀(i:Nat) v,σ'[i]? = some (some v)->σ[i]? = some (some v)):Inv X pins σ' H s :=
 ⟨I.ok,I.os,I.bare,I.base,let ⟨m,hn,hl'⟩:=I.loc;⟨m,hn,λ i x v e1 e2 e3=>hl' i x v e1 (w i v e2) e3⟩,I.cell,I.free,I.freeC,I.pin,I.hok,hl.trans I.len⟩
theorem Inv.pins_of {pins':List (EJ×Obj)}(I:Inv X pins σ H s)(h:∀p∈pins',s.heap.get? p.1=some p.2/\H p.1=none/\p.1≠X.env.locals/\p.1∉X.fs/\∀v,p.2.data≠.cell v):Inv X pins' σ H s :=
 ⟨I.ok,I.os,I.bare,I.base,I.loc,I.cell,I.free,I.freeC,λ p hp=>(Fk.mp hp).elim (λ z=>I.pin p (List.mem_append_left _ z)) (h p),I.hok,I.len⟩
theorem na {N:List Str}(hN:N.Nodup){i j:Nat}{x:Str}(a:N[i]? = some x)(b:N[j]? = some x):i=j:=by
 obtain⟨h1,e1⟩:=gsi a
 obtain⟨h2,e2⟩:=gsi b
 exact(List.getElem_inj hN).mp (e1.trans e2.symm)
theorem store_ok2 {M:Model}{A:Around}{E:Value->EK->Prop}{i:Nat}{x:Str}{v:V}{u:Value}{Q:Unit->EK->Prop}(I:Inv X pins σ H s)(hN:X.N.Nodup)(hi:X.N[i]? = some x)(hx:Loc X.env.scope x)(r:a5 v u)
  (h:∀s',Inv X pins (σ.set i (some v)) H s'->(∃a,Heap.SameBut a s.heap s'.heap/\(a=X.env.locals\/X.env.cells.lookup x=some a))->Q () s') (hf:X.fn x=true\/X.env.scope.names.lookup x=some .local:=by first|exact .inl rfl|exact .inr rfl|assumption):Fp M A (storeName X.env x u) Q E s:=by
 obtain⟨m,hn,hl⟩:=id I.loc
 have hcls:(X.env.scope.kind==.class||(X.env.scope.kind==.module&&X.env.locals != X.env.globals))=false:=by rw[I.ok.kind];rfl
 have hiσ:i<σ.length:=by rw[I.len];exact(gsi hi).1
 have cne:=I.cne
 have tracked:∀{a:EJ} {h':Heap},(∃o,s.heap.get? a=some o/\H a=none)->Heap.SameBut a s.heap h'->HOk X.prog X.w H h':=λ{a h'} ha hs b ob e=>by
  obtain⟨_,_,hfree⟩:=ha
  refine(I.hok b ob e).stay (λ c w' hc q=>(hs.2 c ?_).trans q) (λ _ q=>q) λ _ _ q=>q
  rintro rfl
  rcases hc with rfl|hc
  ·rw[hfree]at e;cases e
  ·rw[hfree]at hc;cases hc
 rcases hx with hk|hk
 ·refine wpAny_storeName_local hk hn (λ h' hn' hs=>?_) hcls
  obtain⟨oL,_,_,hoL,_⟩:=id hn
  refine h _ ⟨I.ok,I.os,I.bare,⟨λ b o e n hb hx=>?_,λ b o e n hb hx=>?_,I.base.free,λ b o e hx=>?_,I.base.tups,I.base.frzs,I.base.tbls⟩,⟨_,hn',λ j y v' e1 e2 e3=>?_⟩,λ y c e=>?_,I.free,I.freeC,λ p hp=>?_,tracked ⟨oL,hoL,I.free⟩ hs,by simpa using I.len⟩ ⟨_,hs,.inl rfl⟩
  ·exact(hs.2 b (Fv (E9 (EX e) I.ok.above))).trans (I.base.keep b o e n hb hx)
  ·obtain⟨sl,e1⟩:=I.base.slot b o e n hb hx
   exact⟨sl,(hs.2 b (Fv (E9 (EX e) I.ok.above))).trans e1⟩
  ·obtain⟨o',e1⟩:=I.base.there b o e hx
   exact⟨o',(hs.2 b (Fv (E9 (EX e) I.ok.above))).trans e1⟩
  ·by_cases hj:j=i
   ·subst hj
    rw[hi]at e1;cases e1
    rw[HJ hiσ]at e2
    cases e2
    exact⟨u,r,.inl ⟨hk,by simp⟩⟩
   ·rw[GT (Fj hj)]at e2
    obtain⟨u',r',q⟩:=hl j y v' e1 e2 e3
    refine⟨u',r',?_⟩
    rcases q with⟨k,e⟩|⟨k,c,e,z⟩
    ·refine .inl ⟨k,?_⟩
     have:y≠x:=λ e=>hj (na hN e1 (e▸hi))
     simp[this,e]
    ·exact .inr ⟨k,c,e,z.sameBut hs (cne y c e)⟩
  ·obtain⟨w',z⟩:=I.cell y c e
   exact⟨w',z.sameBut hs (cne y c e)⟩
  ·obtain⟨e,n,ne,nf,d⟩:=I.pin p hp
   exact⟨(hs.2 p.1 ne).trans e,n,ne,nf,d⟩
 ·have hfn:X.fn x=true:=by
   rcases hf with z|z
   ·exact z
   ·rw[z]at hk;cases hk
  obtain⟨c,hc⟩:=I.ok.has x (.inl hk)
  obtain⟨w',z⟩:=I.cell x c hc
  refine wpAny_storeName_cell I.ok.kind hk hc z (λ h' hc' hs=>?_)
  obtain⟨oc,hoc,hocd⟩:=id z
  refine h { s with heap:=h' } ⟨I.ok,I.os,I.bare,⟨λ b o e n hb hx=>?_,λ b o e n hb hx=>?_,I.base.free,λ b o e hx=>?_,I.base.tups,I.base.frzs,I.base.tbls⟩,⟨m,hn.sameBut hs (Fj (cne x c hc)),λ j y v' e1 e2 e3=>?_⟩,λ y c' e=>?_,I.free,I.freeC,λ p hp=>?_,tracked ⟨oc,hoc,I.freeC x c hc⟩ hs,by simpa using I.len⟩ ⟨c,hs,.inr hc⟩
  ·exact(hs.2 b (Fv (E9 (EX e) (I.ok.cab x c hfn hc)))).trans (I.base.keep b o e n hb hx)
  ·obtain⟨sl,e1⟩:=I.base.slot b o e n hb hx
   exact⟨sl,(hs.2 b (Fv (E9 (EX e) (I.ok.cab x c hfn hc)))).trans e1⟩
  ·obtain⟨o',e1⟩:=I.base.there b o e hx
   exact⟨o',(hs.2 b (Fv (E9 (EX e) (I.ok.cab x c hfn hc)))).trans e1⟩
  ·by_cases hj:j=i
   ·subst hj
    rw[hi]at e1;cases e1
    rw[HJ hiσ]at e2
    cases e2
    exact⟨u,r,.inr ⟨.inl hk,c,hc,hc'⟩⟩
   ·rw[GT (Fj hj)]at e2
    obtain⟨u',r',q⟩:=hl j y v' e1 e2 e3
    refine⟨u',r',?_⟩
    rcases q with q|⟨k,c',e,z'⟩
    ·exact .inl q
    ·refine .inr ⟨k,c',e,z'.sameBut hs ?_⟩
     rintro rfl
     exact hj (na hN e1 (I.ok.inj _ _ _ e hc▸hi))
  ·by_cases hcc:c'=c
   ·subst hcc;exact⟨_,hc'⟩
   ·obtain⟨w2,z2⟩:=I.cell y c' e
    exact⟨w2,z2.sameBut hs hcc⟩
  ·obtain⟨e,n,ne,nf,d⟩:=I.pin p hp
   refine⟨(hs.2 p.1 ?_).trans e,n,ne,nf,d⟩
   intro q
   rw[q,hoc]at e
   have q':oc=p.2:=osi e
   exact d w' (by rw[<-q'];exact hocd)
theorem mW {M:Model}{A:Around}{E:Value->EK->Prop}{i:Nat}{x:Str}{v:V}{u:Value}{Q:Unit->EK->Prop}(I:Inv X pins σ H s)(hN:X.N.Nodup)(hi:X.N[i]? = some x)(hx:Loc X.env.scope x)(r:a5 v u)
  (h:∀s',Inv X pins (σ.set i (some v)) H s'->Q () s') (hf:X.fn x=true\/X.env.scope.names.lookup x=some .local:=by first|exact .inl rfl|exact .inr rfl|assumption):Fp M A (storeName X.env x u) Q E s :=
 store_ok2 I hN hi hx r (λ s' I' _=>h s' I') hf
theorem Inv.call' {s':EK}{ch:List EJ}(I:Inv X pins σ H s)(ho:s'.os=s.os)(u:Un (frs X.stack) ch H H' s.heap s'.heap)(hok:HOk X.prog X.w H' s'.heap)(hg:AllBare s'.gens)
  (hch:∀b∈ch,(b∈X.ex\/X.s_0.heap.objs.size<=b)/\b≠X.env.locals/\(∀x c,X.env.cells.lookup x=some c->c≠b)/\∀p∈X.pn++pins,p.1≠b):Inv X pins σ H' s':=by
 obtain⟨h',g',d',t',o'⟩:=s'
 have e:o'=s.os:=ho
 subst e
 exact I.call (g':=g') (t':=t') (d':=d') u hok hg hch
end
abbrev XK:=Value->Option EJ->Hp->Prop
abbrev St:=List (Option V)
abbrev VK:=V->Hp->Prop
abbrev TE:=St->Hp->VK->Prop
abbrev TT:=St->Hp->(Bool->Hp->Prop)->Prop
abbrev TA:=St->Hp->(List V->Hp->Prop)->Prop
structure nU where
 nx:St->Hp->Prop
 rt:VK
 bk:St->Hp->Prop:=λ _ _=>False
 ct:St->Hp->Prop:=λ _ _=>False
abbrev TS:=nU->St->Hp->Prop
def EP (X:Cx)(pins:List (EJ×Obj))(σ:St)(Q:VK)(u:Value)(s':EK):Prop:=∃v H',Inv X pins σ H' s'/\a5 v u/\Q v H'
def TP (X:Cx)(pins:List (EJ×Obj))(σ:St)(Q:Bool->Hp->Prop)(b:Bool)(s':EK):Prop:=∃H',Inv X pins σ H' s'/\Q b H'
def AP (X:Cx)(pins:List (EJ×Obj))(σ:St)(Q:List V->Hp->Prop)(us:List Value)(s':EK):Prop:=∃vs H',Inv X pins σ H' s'/\aT vs us/\Q vs H'
def SP (X:Cx)(pins:List (EJ×Obj))(D:nU)(f:Flow)(s':EK):Prop :=
 match f with
 |.next=>∃σ' H',Inv X pins σ' H' s'/\D.nx σ' H'
 |.brk=>∃σ' H',Inv X pins σ' H' s'/\D.bk σ' H'
 |.cont=>∃σ' H',Inv X pins σ' H' s'/\D.ct σ' H'
 |.ret u=>∃v σ' H',Inv X pins σ' H' s'/\a5 v u/\D.rt v H'
def PE (X:Cx)(e:Expr)(t:TE):Prop :=
 ∀(pins:List (EJ×Obj)) (s:EK) (σ:St) (H:Hp) (Q:VK),Inv X pins σ H s->t σ H Q->Fp (FC X.prog X.w) X.A (Ik e X.env) (EP X pins σ Q) X.xe s
def PT (X:Cx)(e:Expr)(t:TT):Prop :=
 ∀(pins:List (EJ×Obj)) (s:EK) (σ:St) (H:Hp) (Q:Bool->Hp->Prop),Inv X pins σ H s->t σ H Q->Fp (FC X.prog X.w) X.A (isTrue e X.env (Ik e X.env)) (TP X pins σ Q) X.xe s
def PW (X:Cx)(e:Expr)(t:TT):Prop :=
 ∀(whole:Sem Value) (pins:List (EJ×Obj)) (s:EK) (σ:St) (H:Hp) (Q:Bool->Hp->Prop),Inv X pins σ H s->t σ H Q->Fp (FC X.prog X.w) X.A (isTrue e X.env whole) (TP X pins σ Q) X.xe s
theorem PW.pt {X:Cx}{e:Expr}{t:TT}(h:PW X e t):PT X e t:=h _
def PA (X:Cx)(es:List Expr)(t:TA):Prop :=
 ∀(pos:Pos) (pins:List (EJ×Obj)) (s:EK) (σ:St) (H:Hp) (Q:List V->Hp->Prop),Inv X pins σ H s->t σ H Q->Fp (FC X.prog X.w) X.A (spliced (HL pos (Fo es X.env))) (AP X pins σ Q) X.xe s
def PS (X:Cx)(st:G8)(t:TS):Prop :=
 ∀(pins:List (EJ×Obj)) (s:EK) (σ:St) (H:Hp) (D:nU),Inv X pins σ H s->t D σ H->Fp (FC X.prog X.w) X.A (exec st X.env) (SP X pins D) X.xe s
def PSs (X:Cx)(st:List G8)(t:TS):Prop :=
 ∀(pins:List (EJ×Obj)) (s:EK) (σ:St) (H:Hp) (D:nU),Inv X pins σ H s->t D σ H->Fp (FC X.prog X.w) X.A (execs st X.env) (SP X pins D) X.xe s
theorem thn {α:Type}{t:Sem α}{Q Q':α->EK->Prop}{M:Model}{A:Around}{E:Value->EK->Prop}{s:EK}(h:Fp M A t Q E s)(hQ:∀a s,Q a s->Q' a s):Fp M A t Q' E s:=Ib h hQ λ _ _ x=>x
end L2
namespace L2
open PySem PySem.Spec PyProof.Rows
section
variable  {X:Cx}
theorem bin {a b:Expr}{ta tb:TE}(ha:PE X a ta)(hb:PE X b tb){pins:List (EJ×Obj)}{s:EK}{σ:St}{H:Hp}{R:V->V->Hp->Prop}(I:Inv X pins σ H s)(h:ta σ H λ x H1=>tb σ H1 λ y H2=>R x y H2)
  {α:Type} {Q:α->EK->Prop} {f:Value->Value->Sem α}
  (hf:∀v u s2 x y H2,Inv X pins σ H2 s2->a5 x v->a5 y u->R x y H2->Fp (FC X.prog X.w) X.A (f v u) Q X.xe s2) :
  Fp (FC X.prog X.w) X.A (Ik a X.env) (λ v s₁=>Fp (FC X.prog X.w) X.A (Ik b X.env) (λ u s₂=>Fp (FC X.prog X.w) X.A (f v u) Q X.xe s₂) X.xe s₁) X.xe s:=by
 refine thn (ha pins s σ H _ I h) λ v s1 ⟨x,H1,I1,r1,q1⟩=>?_
 refine thn (hb pins s1 σ H1 _ I1 q1) λ u s2 ⟨y,H2,I2,r2,q2⟩=>?_
 exact hf v u s2 x y H2 I2 r1 r2 q2
def a8 (i:Nat):TE:=λ σ H Q=>∃v,σ[i]? = some (some v)/\Q v H
def tC (v:V):TE:=λ _ H Q=>Q v H
theorem Br {i:Nat}{x:Str}{pos:Pos}(hN:X.N[i]? = some x)(hv:Vis X.env.scope x) (hd:(x==("__debug__" : Str))=false:=by decide) (hcd:(x==("__classdict__" : Str))=false:=by decide):PE X (.Name x pos) (a8 i):=by
 intro pins s σ H Q I h
 obtain⟨v,e,h⟩:=h
 obtain⟨m,hn,hl⟩:=I.loc
 obtain⟨u,r,l⟩:=hl i x v hN e hv
 have fin:EP X pins σ Q u s:=⟨v,H,I,r,h⟩
 rcases l with⟨hk,hm⟩|⟨hk,c,hc,hcell⟩
 ·exact wpAny_Name (wpAny_loadName_local I.ok.kind hk hn hm fin) hd
 ·rcases hk with hk|hk
  ·exact wpAny_Name (wpAny_loadName_cell I.ok.kind hk hc hcell fin) hd
  ·exact wpAny_Name (wpAny_loadName_free I.ok.kind hk hc hcell fin hcd) hd
theorem af {i j pos}:PE X (.Constant (.int i) j pos) (tC (.int i)):=λ _ _ _ H _ I h=>wpAny_Constant_int ⟨.int i,H,I.tok _,⟨_,rfl⟩,h⟩
theorem el {b j pos}:PE X (.Constant (.bool b) j pos) (tC (.bl b)):=λ _ _ _ H _ I h=>Constant_bool ⟨.bl b,H,I,rfl,h⟩
theorem bc {j pos}:PE X (.Constant .none j pos) (tC .non):=λ _ _ _ H _ I h=>Constant_none ⟨.non,H,I,rfl,h⟩
def Gl (X:Cx)(x:Str):Prop:=X.env.kindOf x=some .globalImplicit
theorem pK {E:Value->EK->Prop}{pins:List (EJ×Obj)}{s:EK}{σ:St}{H:Hp}{x:Str}{u:Value}{pos:Pos}{Q:Value->EK->Prop}(I:Inv X pins σ H s)(hg:Gl X x)(hm:X.mg x=some u)(h:Q u s)
  (hd:(x==("__debug__" : Str))=false:=by decide):Fp (FC X.prog X.w) X.A (Ik (.Name x pos) X.env) Q E s :=
 Calls.Name_function_global I.ok.kind hg (Calls.loadGlobal_global (by rw[I.ok.glob];exact I.mod.glob.keeps I.bk) hm h) hd
theorem gA {E:Value->EK->Prop}{pins:List (EJ×Obj)}{s:EK}{σ:St}{H:Hp}{x:Str}{u:Value}{pos:Pos}{Q:Value->EK->Prop}(I:Inv X pins σ H s)(hg:Gl X x)(hm:X.mg x=none)(hv:GW x=some u)(h:Q u s)
  (hn:x≠"__name__":=by decide) (hd:(x==("__debug__" : Str))=false:=by decide):Fp (FC X.prog X.w) X.A (Ik (.Name x pos) X.env) Q E s:=by
 obtain⟨mb,h1,h2⟩:=I.mod.blt
 exact Calls.Name_function_global I.ok.kind hg (Calls.loadGlobal_builtin (by rw[I.ok.glob];exact I.mod.glob.keeps I.bk) hm (by rw[I.ok.blt];exact h1.keeps I.bk) ((h2 x hn).trans hv) h) hd
theorem qr {x:Str}{v:V}{u:Value}{pos:Pos}(hg:Gl X x)(hm:X.mg x=some u)(r:a5 v u) (hd:(x==("__debug__" : Str))=false:=by decide):PE X (.Name x pos) (tC v) :=
 λ _ _ _ H _ I h=>pK I hg hm ⟨v,H,I,r,h⟩ hd
variable  {a b:Expr}{ta tb:TE}{pos:Pos}
def PC (X:Cx)(op:CmpOp)(a b:Expr)(t:TE):Prop :=
 ∀(pins:List (EJ×Obj)) (s:EK) (σ:St) (H:Hp) (Q:VK),Inv X pins σ H s->t σ H Q ->
  Fp (FC X.prog X.w) X.A (Ik a X.env) (λ v s₁=>Fp (FC X.prog X.w) X.A (Ik b X.env) (λ u s₂=>Fp (FC X.prog X.w) X.A (Ga op v u) (EP X pins σ Q) X.xe s₂) X.xe s₁) X.xe s
theorem wT (b:Expr){op:CmpOp}(h:op≠.In)(h2:op≠.NotIn):Ic op b=false:=by
 have e1:(op==CmpOp.In)=false:=by cases op<;>first|rfl|exact absurd rfl h
 have e2:(op==CmpOp.NotIn)=false:=by cases op<;>first|rfl|exact absurd rfl h2
 cases b<;>simp[Ic,e1,e2]
def tB (t:TE):TT:=λ σ H Q=>t σ H λ x H1=>∃c,x=.bl c/\Q c H1
theorem sj {op:CmpOp}{t:TE}(h:PC X op a b t)(h1:Ic op b=false:=by first|exact wT _ (by decide) (by decide)|rfl):PT X (.Compare a [op] [b] pos) (tB t):=by
 intro pins s σ H Q I hw
 refine wpAny_isTrue_Compare1 (thn (h pins s σ H _ I hw) λ v s1 h1=>thn h1 λ u s2 h2=>thn h2 λ c s3 ⟨x,H1,I1,r1,q1⟩=>?_) h1
 obtain⟨d,rfl,q⟩:=q1
 cases r1
 exact Gr ⟨H1,I1,q⟩
theorem cG {e:Expr}{t:TE}(h:PE X e t)(he:∀whole,isTrue e X.env whole=(do let v <-whole;standAt e.pos;holding [v] (truthy v)):=by intro _;rfl):PT X e (tB t):=by
 intro pins s σ H Q I hw
 refine isTrue_plain (thn (h pins s σ H _ I hw) λ v s1 ⟨x,H1,I1,r1,q1⟩=>?_) (he _)
 obtain⟨d,rfl,q⟩:=q1
 cases r1
 exact Gr ⟨H1,I1,q⟩
variable  {tA tB':TT}{gN:List Expr}
def yU (t u:TT):TT:=λ σ H Q=>t σ H λ c H1=>if c=true then u σ H1 Q else Q false H1
def tOr (t u:TT):TT:=λ σ H Q=>t σ H λ c H1=>if c=true then Q true H1 else u σ H1 Q
def AV (t:TT):TT:=λ σ H Q=>t σ H λ c H1=>Q (!c) H1
theorem io (ha:PT X a tA):PW X (.BoolOp .And [a] pos) tA:=by
 intro wh pins s σ H Q I h
 refine isTrue_and (thn (ha pins s σ H Q I h) λ c s1 e=>?_)
 cases c with
 |true=>exact isTrue_and_nil e
 |false=>exact e
theorem jB (ha:PT X a tA):PW X (.BoolOp .Or [a] pos) tA:=by
 intro wh pins s σ H Q I h
 refine isTrue_or (thn (ha pins s σ H Q I h) λ c s1 e=>?_)
 cases c with
 |false=>exact isTrue_or_nil e
 |true=>exact e
theorem jD (ha:PT X a tA)(hb:PW X (.BoolOp .And (b :: gN) pos) tB'):PW X (.BoolOp .And (a :: b :: gN) pos) (yU tA tB'):=by
 intro wh pins s σ H Q I h
 refine isTrue_and (thn (ha pins s σ H _ I h) λ c s1 ⟨H1,I1,q1⟩=>?_)
 cases c with
 |true=>exact hb wh pins s1 σ H1 Q I1 q1
 |false=>exact⟨H1,I1,q1⟩
theorem mh (ha:PT X a tA)(hb:PW X (.BoolOp .Or (b :: gN) pos) tB'):PW X (.BoolOp .Or (a :: b :: gN) pos) (tOr tA tB'):=by
 intro wh pins s σ H Q I h
 refine isTrue_or (thn (ha pins s σ H _ I h) λ c s1 ⟨H1,I1,q1⟩=>?_)
 cases c with
 |true=>exact⟨H1,I1,q1⟩
 |false=>exact hb wh pins s1 σ H1 Q I1 q1
theorem ja (ha:PT X a tA):PT X (.UnaryOp .Not a pos) (AV tA):=by
 intro pins s σ H Q I h
 exact isTrue_not (ha pins s σ H (λ c H1=>Q (!c) H1) I h)
def zT (ta tb:TE):TE:=λ σ H Q=>ta σ H λ x H1=>∃c,x=.bl c/\if c=true then tb σ H1 Q else Q (.bl false) H1
def Et (ta tb:TE):TE:=λ σ H Q=>ta σ H λ x H1=>∃c,x=.bl c/\if c=true then Q (.bl true) H1 else tb σ H1 Q
def Cf (ta:TE):TE:=λ σ H Q=>ta σ H λ x H1=>∃c,x=.bl c/\Q (.bl (!c)) H1
theorem eC {op}{t:TE}(h:PE X a t):PE X (.BoolOp op [a] pos) t:=λ pins s σ H Q I hw=>BoolOp_one (h pins s σ H Q I hw)
theorem iQ (ha:PE X a ta)(hb:PE X (.BoolOp .And (b :: gN) pos) tb):PE X (.BoolOp .And (a :: b :: gN) pos) (zT ta tb):=by
 intro pins s σ H Q I h
 refine BoolOp_and (thn (ha pins s σ H _ I h) λ v s1 ⟨x,H1,I1,r1,q1⟩=>?_)
 obtain⟨c,rfl,q1⟩:=q1
 cases r1
 refine Gr ?_
 cases c with
 |true=>exact hb pins s1 σ H1 Q I1 q1
 |false=>exact⟨.bl false,H1,I1,rfl,q1⟩
theorem qU (ha:PE X a ta)(hb:PE X (.BoolOp .Or (b :: gN) pos) tb):PE X (.BoolOp .Or (a :: b :: gN) pos) (Et ta tb):=by
 intro pins s σ H Q I h
 refine BoolOp_or (thn (ha pins s σ H _ I h) λ v s1 ⟨x,H1,I1,r1,q1⟩=>?_)
 obtain⟨c,rfl,q1⟩:=q1
 cases r1
 refine Gr ?_
 cases c with
 |false=>exact hb pins s1 σ H1 Q I1 q1
 |true=>exact⟨.bl true,H1,I1,rfl,q1⟩
theorem wg (ha:PE X a ta):PE X (.UnaryOp .Not a pos) (Cf ta):=by
 intro pins s σ H Q I h
 refine UnaryOp_ (thn (ha pins s σ H _ I h) λ v s1 ⟨x,H1,I1,r1,q1⟩=>?_)
 obtain⟨c,rfl,q1⟩:=q1
 cases r1
 exact not_of (Gr ⟨.bl (!c),H1,I1,rfl,q1⟩)
def tIf (t:TT)(ta tb:TE):TE:=λ σ H Q=>t σ H λ c H1=>if c=true then ta σ H1 Q else tb σ H1 Q
theorem xa {c:Expr}(hc:PT X c tA)(ha:PE X a ta)(hb:PE X b tb):PE X (.IfExp c a b pos) (tIf tA ta tb):=by
 intro pins s σ H Q I h
 refine wpAny_IfExp (thn (hc pins s σ H _ I h) λ d s1 ⟨H1,I1,q1⟩=>?_)
 cases d with
 |true=>exact ha pins s1 σ H1 Q I1 q1
 |false=>exact hb pins s1 σ H1 Q I1 q1
end
end L2
namespace L2
open PySem PySem.Spec PyProof.Rows
def SqL (K:FQ)(H:Hp)(a:EJ)(xs:List V):Prop :=
 Rd H a (.lst xs) \/
  ∃(o:Obj) (its:Array Value) (n:Nat),K.lookup a=some o/\o.cls=.type "list"/\o.dict=none/\o.data=.seq its n/\its.size<=EL/\aT xs its.toList
def SqT (K:FQ)(H:Hp)(a:EJ)(xs:List V):Prop :=
 Rd H a (.tup xs) \/
  ∃(o:Obj) (its:Array Value) (n:Nat),K.lookup a=some o/\o.cls=.type "tuple"/\o.data=.seq its n/\its.size<=EL/\aT xs its.toList
def D7:Value->Option V
 |.none=>some .non
 |.bool b=>some (.bl b)
 |.int i _=>some (.int i)
 |.str x _=>some (.str x)
 |.bytes b _=>some (.byt b)
 |.float b _=>some (.flt b)
 |.ref a=>some (.ref a)
 |.type n=>some (.ty n)
 |_=>none
theorem a5.abs {x:V}{u:Value}(r:a5 x u):D7 u=some x:=by
 cases x with
 |non=>cases r;rfl
 |bl _=>cases r;rfl
 |int _=>obtain⟨t,rfl⟩:=r;rfl
 |str _=>obtain⟨t,rfl⟩:=r;rfl
 |byt _=>obtain⟨t,rfl⟩:=r;rfl
 |flt _=>obtain⟨t,rfl⟩:=r;rfl
 |ref _=>cases r;rfl
 |ty _=>cases r;rfl
theorem a5.inj {x y:V}{u:Value}(r:a5 x u)(q:a5 y u):x=y:=osi (r.abs.symm.trans q.abs)
theorem aT.inj:∀{xs ys:List V} {us:List Value},aT xs us->aT ys us->xs=ys
 |_,_,_,.nil,.nil=>rfl
 |_,_,_,.cons r t,.cons r' t'=>by rw[r.inj r',aT.inj t t']
section
variable  {X:Cx}{pins:List (EJ×Obj)}{σ:St}{H:Hp}{s:EK}{a:EJ}{xs ys:List V}
theorem SqL.of {K:FQ}(h:H a=some (.lst xs)):SqL K H a xs:=.inl (.inl h)
theorem SqT.of {K:FQ}(h:H a=some (.tup xs)):SqT K H a xs:=.inl (.inl h)
theorem Inv.list (I:Inv X pins σ H s)(h:SqL X.K H a xs):∃its:List Value,aT xs its/\PlainL s.heap a its.toArray/\xs.length<=EL:=by
 rcases h with h|⟨o,its,n,hk,hc,hd,hs,hz,r⟩
 ·obtain⟨z,its,n,r,e⟩:=h.ok I.hok
  exact⟨its,r,⟨_,n,e,rfl,rfl,rfl⟩,z⟩
 ·refine⟨its.toList,r,⟨o,n,I.kIn a o hk,hc,hd,by simpa using hs⟩,?_⟩
  have e:=r.length
  simp only[Array.length_toList]at e
  omega
theorem Inv.tuple (I:Inv X pins σ H s)(h:SqT X.K H a xs):∃its:List Value,aT xs its/\IsTup s.heap a its.toArray/\xs.length<=EL:=by
 rcases h with h|⟨o,its,n,hk,hc,hs,hz,r⟩
 ·obtain⟨z,its,r,p⟩:=h.ok I.hok
  exact⟨its,r,p,z⟩
 ·refine⟨its.toList,r,⟨o,I.kIn a o hk,hc,n,by simpa using hs⟩,?_⟩
  have e:=r.length
  simp only[Array.length_toList]at e
  omega
theorem Inv.list_inj (I:Inv X pins σ H s)(h:SqL X.K H a xs)(h':SqL X.K H a ys):xs=ys:=by
 obtain⟨its,r,⟨o,n,e,_,_,d⟩,_⟩:=I.list h
 obtain⟨its',r',⟨o',n',e',_,_,d'⟩,_⟩:=I.list h'
 rw[e]at e';cases e'
 rw[d]at d'
 injection d' with d1 _
 have:its=its':=by simpa using Gy Array.toList d1
 subst this
 exact r.inj r'
theorem Inv.tuple_inj (I:Inv X pins σ H s)(h:SqT X.K H a xs)(h':SqT X.K H a ys):xs=ys:=by
 obtain⟨its,r,⟨o,e,_,n,d⟩,_⟩:=I.tuple h
 obtain⟨its',r',⟨o',e',_,n',d'⟩,_⟩:=I.tuple h'
 rw[e]at e';cases e'
 rw[d]at d'
 injection d' with d1 _
 have:its=its':=by simpa using Gy Array.toList d1
 subst this
 exact r.inj r'
end
abbrev Cx.wish (X:Cx)(E:Value->EK->Prop):Cx:={ X with xe:=E }
abbrev Cx.nox (X:Cx):Cx:=X.wish λ _ _=>False
theorem Cx.Ok.wish {X:Cx}(ok:X.Ok)(E:Value->EK->Prop):(X.wish E).Ok :=
 ⟨ok.mod,ok.kind,ok.glob,ok.blt,ok.above,ok.inj,ok.has,ok.cab,ok.hd,ok.frames,ok.stk,ok.exf,ok.bs,ok.bsz,ok.noex,ok.exfs,ok.funs,ok.frf⟩
theorem Cx.Ok.unwish {X:Cx}{E:Value->EK->Prop}(ok:(X.wish E).Ok):X.Ok :=
 ⟨ok.mod,ok.kind,ok.glob,ok.blt,ok.above,ok.inj,ok.has,ok.cab,ok.hd,ok.frames,ok.stk,ok.exf,ok.bs,ok.bsz,ok.noex,ok.exfs,ok.funs,ok.frf⟩
section
variable  {X:Cx}{pins:List (EJ×Obj)}{σ:St}{H:Hp}{s:EK}{E:Value->EK->Prop}
theorem Inv.wish (I:Inv X pins σ H s)(E:Value->EK->Prop):Inv (X.wish E) pins σ H s:=⟨I.ok.wish E,I.os,I.bare,I.base,I.loc,I.cell,I.free,I.freeC,I.pin,I.hok,I.len⟩
theorem Inv.unwish (I:Inv (X.wish E) pins σ H s):Inv X pins σ H s:=⟨I.ok.unwish,I.os,I.bare,I.base,I.loc,I.cell,I.free,I.freeC,I.pin,I.hok,I.len⟩
theorem SP.unwish {D:nU}{f:Flow}{s':EK}(h:SP (X.wish E) pins D f s'):SP X pins D f s':=by
 cases f with
 |next=>obtain⟨σ',H',I,q⟩:=h;exact⟨σ',H',I.unwish,q⟩
 |brk=>obtain⟨σ',H',I,q⟩:=h;exact⟨σ',H',I.unwish,q⟩
 |cont=>obtain⟨σ',H',I,q⟩:=h;exact⟨σ',H',I.unwish,q⟩
 |ret u=>obtain⟨v,σ',H',I,r,q⟩:=h;exact⟨v,σ',H',I.unwish,r,q⟩
theorem PSs.nox {st:List G8}{t:TS}(h:PSs X.nox st t):PSs X st t:=λ pins s σ H D I hw =>
 Ib (h pins s σ H D (I.wish _) hw) (λ _ _ q=>q.unwish) λ _ _ z=>Gk z
end
section
variable  {X:Cx}{st:G8}{gN:List G8}{t u:TS}{e:Expr}{te:TE}{pos:Pos}
def mf:TS:=λ D σ H=>D.nx σ H
def AL (t u:TS):TS:=λ D σ H=>t { D with nx:=u D } σ H
theorem aJ:PSs X [] mf:=λ _ _ σ H _ I h=>wpAny_execs_nil ⟨σ,H,I,h⟩
theorem ad (h1:PS X st t)(h2:PSs X gN u):PSs X (st :: gN) (AL t u):=by
 intro pins s σ H D I h
 refine wpAny_execs_cons (thn (h1 pins s σ H { D with nx:=u D } I h) λ f s1 q=>?_)
 cases f with
 |next =>
  obtain⟨σ',H',I',q⟩:=q
  exact h2 pins s1 σ' H' D I' q
 |ret v=>exact q
 |brk=>exact q
 |cont=>exact q
theorem ae (h1:PS X st t):PSs X [st] t:=by
 intro pins s σ H D I h
 refine wpAny_execs_cons (thn (h1 pins s σ H D I h) λ f s1 q=>?_)
 cases f with
 |next=>exact wpAny_execs_nil q
 |ret v=>exact q
 |brk=>exact q
 |cont=>exact q
theorem Inv.quiet {pins:List (EJ×Obj)}{σ:St}{H:Hp}{s:EK}(I:Inv X pins σ H s):interactive X.env=false:=by simp[interactive,I.ok.kind]
def zO (te:TE):TS:=λ D σ H=>te σ H λ _ H1=>D.nx σ H1
theorem jh (he:PE X e te)(hs:swapsWith e none pos.line X.env=pure false:=by rfl):PS X (.Expr e pos) (zO te):=by
 intro pins s σ H D I h
 exact wpAny_Expr_any (thn (he pins s σ H _ I h) λ v s1 ⟨x,H1,I1,r1,q1⟩=>⟨σ,H1,I1,q1⟩) I.quiet hs
def mw (te:TE):TS:=λ D σ H=>te σ H D.rt
theorem ak (he:PE X e te):PS X (.Return (some e) pos) (mw te):=by
 intro pins s σ H D I h
 exact wpAny_Return_some (thn (he pins s σ H _ I h) λ v s1 ⟨x,H1,I1,r1,q1⟩=>⟨x,σ,H1,I1,r1,q1⟩)
def sT (c:TT)(t u:TS):TS:=λ D σ H=>c σ H λ b H1=>if b=true then t D σ H1 else u D σ H1
theorem a6 {c:Expr}{a b:List G8}{tc:TT}(hc:PT X c tc)(ha:PSs X a t)(hb:PSs X b u):PS X (.If c a b pos) (sT tc t u):=by
 intro pins s σ H D I h
 refine wpAny_If (thn (hc pins s σ H _ I h) λ d s1 ⟨H1,I1,q1⟩=>?_)
 cases d with
 |true=>exact ha pins s1 σ H1 D I1 q1
 |false=>exact hb pins s1 σ H1 D I1 q1
end
abbrev TG:=V->St->Hp->(St->Hp->Prop)->Prop
abbrev TGs:=List V->St->Hp->(St->Hp->Prop)->Prop
def PG (X:Cx)(target:Expr)(t:TG):Prop :=
 ∀(pins:List (EJ×Obj)) (s:EK) (σ:St) (H:Hp) (v:V) (u:Value) (Q:St->Hp->Prop),Inv X pins σ H s->a5 v u->t v σ H Q ->
  Fp (FC X.prog X.w) X.A (assign target X.env u) (λ _ s'=>∃σ' H',Inv X pins σ' H' s'/\Q σ' H') X.xe s
def PGs (X:Cx)(ts:List Expr)(t:TGs):Prop :=
 ∀(pins:List (EJ×Obj)) (s:EK) (σ:St) (H:Hp) (vs:List V) (us:List Value) (Q:St->Hp->Prop),Inv X pins σ H s->aT vs us->t vs σ H Q ->
  Fp (FC X.prog X.w) X.A (assignInOrder ((assignEach ts X.env).map (·.2)) us) (λ _ s'=>∃σ' H',Inv X pins σ' H' s'/\Q σ' H') X.xe s
abbrev Bf:=V->V->V->Hp->(Hp->Prop)->Prop
def BJ (X:Cx)(t:Bf):Prop :=
 ∀(pins:List (EJ×Obj)) (s:EK) (σ:St) (H:Hp) (o i v:V) (ov iv u:Value) (Q:Hp->Prop),Inv X pins σ H s->a5 o ov->a5 i iv->a5 v u->t o i v H Q ->
  Fp (FC X.prog X.w) X.A (setItem ov iv u) (λ _ s'=>∃H',Inv X pins σ H' s'/\Q H') X.xe s
abbrev TIp:=V->V->Hp->VK->Prop
def PIp (X:Cx)(op:Operator)(t:TIp):Prop :=
 ∀(pins:List (EJ×Obj)) (s:EK) (σ:St) (H:Hp) (x y:V) (v u:Value) (Q:VK),Inv X pins σ H s->a5 x v->a5 y u->t x y H Q ->
  Fp (FC X.prog X.w) X.A (inplaceOp op v u) (EP X pins σ Q) X.xe s
section
variable  {X:Cx}{pos:Pos}
def pk (i:Nat):TG:=λ v σ H Q=>Q (σ.set i (some v)) H
theorem au {i:Nat}{x:Str}(hN:X.N.Nodup)(hi:X.N[i]? = some x)(hx:Loc X.env.scope x)(hf:X.fn x=true\/X.env.scope.names.lookup x=some .local:=by first|exact .inl rfl|exact .inr rfl|assumption):PG X (.Name x pos) (pk i):=by
 intro pins s σ H v u Q I r h
 exact wpAny_assign_Name (mW I hN hi hx r (λ s' I'=>⟨_,H,I',h⟩) hf)
def DL:TGs:=λ vs σ H Q=>vs=[]/\Q σ H
def ww (t:TG)(u:TGs):TGs:=λ vs σ H Q=>∃v r,vs=v :: r/\t v σ H λ σ' H'=>u r σ' H' Q
theorem bU:PGs X [] DL:=by
 intro pins s σ H vs us Q I r h
 obtain⟨e,h⟩:=h
 subst e
 cases r
 exact assignInOrder_nil ⟨σ,H,I,h⟩
theorem aL {e:Expr}{es:List Expr}{t:TG}{u:TGs}(h1:PG X e t)(h2:PGs X es u)
  (hs:(assignEach (e :: es) X.env).map (·.2)=assign e X.env :: (assignEach es X.env).map (·.2):=by rfl):PGs X (e :: es) (ww t u):=by
 intro pins s σ H vs us Q I r h
 obtain⟨v,vr,e1,h⟩:=h
 subst e1
 cases r with
 |cons r rr =>
  rw[hs]
  refine assignInOrder_cons (thn (h1 pins s σ H _ _ _ I r h) λ _ s1 ⟨σ1,H1,I1,q1⟩=>?_)
  exact h2 pins s1 σ1 H1 _ _ Q I1 rr q1
def CZ (K:FQ)(n:Nat)(t:TGs):TG:=λ v σ H Q=>∃a xs,v=.ref a/\SqT K H a xs/\xs.length=n/\t xs σ H Q
theorem cT {es:List Expr}{k:Nat}{t:TGs}{n:Nat}(hc:X.calm=true)(h:PGs X es t)
  (hn:(assignEach es X.env).length=n:=by rfl) (hst:(assignEach es X.env).findIdx? (·.1)=none:=by rfl):PG X (.Tuple es k pos) (CZ X.K n t):=by
 intro pins s σ H v u Q I r hw
 obtain⟨a,xs,e1,hq,hl,hw⟩:=hw
 subst e1
 cases r
 obtain⟨its,rv,ht,hz⟩:=I.tuple hq
 refine assign_Tuple_tuple (I.ok.hd hc) ht (by simp[hn,<-hl,rv.length]) hst λ h' hx=>?_
 have I1:Inv X pins σ H { s with heap:=h' }:=I.kept (t':=s.toks) λ b o e=>hx b o (Fv (EX e)) e
 exact h pins _ σ H xs _ Q I1 (by simpa using rv) hw
def Ef (to ti:TE)(t:Bf):TG:=λ v σ H Q=>to σ H λ o H1=>ti σ H1 λ i H2=>t o i v H2 λ H3=>Q σ H3
theorem wl {o i:Expr}{to ti:TE}{t:Bf}(ho:PE X o to)(hi:PE X i ti)(hs:BJ X t)
  (ha:∀v,assign (.Subscript o i pos) X.env v=(do
   let ov <-holding [v] (Ik o X.env)
   let iv <-holding [v,ov] (Ik i X.env)
   standAt pos
   holding [v,ov,iv] (setItem ov iv v)
   release [v,ov,iv] []):=by intro _;rfl):PG X (.Subscript o i pos) (Ef to ti t):=by
 intro pins s σ H v u Q I r h
 rw[ha]
 refine EI (wpAny_holding (thn (ho pins s σ H _ I h) λ ov s1 ⟨x,H1,I1,r1,q1⟩=>?_))
 refine EI (wpAny_holding (thn (hi pins s1 σ H1 _ I1 q1) λ iv s2 ⟨y,H2,I2,r2,q2⟩=>?_))
 refine EI (wpAny_standAt (EI (wpAny_holding (thn (hs pins s2 σ H2 x y v ov iv u _ I2 r1 r2 r q2) λ _ s3 ⟨H3,I3,q3⟩=>?_))))
 exact wpAny_release ⟨σ,H3,I3,q3⟩
def Af (te:TE)(g:TG):TS:=λ D σ H=>te σ H λ x H1=>g x σ H1 D.nx
theorem xh {tg e:Expr}{te:TE}{g:TG}(he:PE X e te)(hg:PG X tg g)(hs:swapsWithSole [tg] e pos.line X.env=pure false:=by rfl)(hw:swappedStores [tg] e X.env=pure none:=by rfl)
  (h1:(assignEach [tg] X.env).map (·.2)=[assign tg X.env]:=by rfl):PS X (.Assign [tg] e pos) (Af te g):=by
 intro pins s σ H D I h
 refine wpAny_Assign_stores (thn (he pins s σ H _ I h) λ v s1 ⟨x,H1,I1,r1,q1⟩=>?_) hs hw
 rw[h1]
 exact thn (hg pins s1 σ H1 x v _ I1 r1 q1) λ _ s2 q=>q
theorem aB {i:Nat}{x:Str}{e:Expr}{te:TE}{pos':Pos}(hN:X.N.Nodup)(hi:X.N[i]? = some x)(hx:Loc X.env.scope x)(he:PE X e te)(hs:swapsWith e (some (.Name x pos')) pos.line X.env=pure false:=by rfl)(hf:X.fn x=true\/X.env.scope.names.lookup x=some .local:=by first|exact .inl rfl|exact .inr rfl|assumption) :
  PS X (.Assign [.Name x pos'] e pos) (Af te (pk i)):=by
 intro pins s σ H D I h
 refine wpAny_Assign_Name (thn (he pins s σ H _ I h) λ v s1 ⟨y,H1,I1,r1,q1⟩=>?_) hs
 exact mW I1 hN hi hx r1 (λ s2 I2=>⟨_,H1,I2,q1⟩) hf
def Ea (i:Nat)(te:TE)(ti:TIp):TS:=λ D σ H=>∃x,σ[i]? = some (some x)/\te σ H λ y H1=>ti x y H1 λ z H2=>D.nx (σ.set i (some z)) H2
theorem xS {i:Nat}{x:Str}{e:Expr}{te:TE}{op:Operator}{ti:TIp}{pos':Pos}(hN:X.N.Nodup)(hi:X.N[i]? = some x)(hx:Loc X.env.scope x)(he:PE X e te)(ho:PIp X op ti)(hf:X.fn x=true\/X.env.scope.names.lookup x=some .local:=by first|exact .inl rfl|exact .inr rfl|assumption) :
  PS X (.AugAssign (.Name x pos') op e pos) (Ea i te ti):=by
 intro pins s σ H D I h
 obtain⟨v,e1,h⟩:=h
 obtain⟨m,hn,hl⟩:=I.loc
 have vis:Vis X.env.scope x:=by rcases hx with k|k;exact .inl k;exact .inr (.inl k)
 obtain⟨u,r,l⟩:=hl i x v hi e1 vis
 refine wpAny_AugAssign_Name ?_
 have go:Fp (FC X.prog X.w) X.A (Ik e X.env) (λ w s₂=>Fp (FC X.prog X.w) X.A (inplaceOp op u w) (λ r s₃=>Fp (FC X.prog X.w) X.A (storeName X.env x r) (λ _=>SP X pins D .next) X.xe s₃) X.xe s₂) X.xe s:=by
  refine thn (he pins s σ H _ I h) λ w s1 ⟨y,H1,I1,r1,q1⟩=>?_
  refine thn (ho pins s1 σ H1 v y u w _ I1 r r1 q1) λ z s2 ⟨zv,H2,I2,r2,q2⟩=>?_
  exact mW I2 hN hi hx r2 (λ s3 I3=>⟨_,H2,I3,q2⟩) hf
 rcases l with⟨hk,hm⟩|⟨hk,c,hc,hcell⟩
 ·exact wpAny_loadName_local I.ok.kind hk hn hm go
 ·rcases hk with hk|hk
  ·exact wpAny_loadName_cell I.ok.kind hk hc hcell go
  ·rcases hx with k|k
   ·have:X.env.scope.names.lookup x=some .free:=hk
    rw[k]at this;cases this
   ·have:X.env.scope.names.lookup x=some .free:=hk
    rw[k]at this;cases this
def ipI (f:Int->Int->Int):TIp:=λ x y H Q=>∃i j,x=.int i/\y=.int j/\Q (.int (f i j)) H
theorem xA:PIp X .Add (ipI λ i j=>i+j):=by
 intro pins s σ H x y v u Q I r1 r2 h
 obtain⟨i,j,e1,e2,q⟩:=h
 subst e1;subst e2
 obtain⟨t,rfl⟩:=r1
 obtain⟨t',rfl⟩:=r2
 exact iadd_int ⟨.int _,H,I.tok _,⟨_,rfl⟩,q⟩
end
section
variable  {X:Cx}{pos:Pos}
def AT (c:TT)(tb:TS):TS:=λ D σ H=>∃W:Nat->St->Hp->Prop,(∃m,W m σ H)/\∀m σ H,W m σ H ->
 c σ H λ b H1=>if b=true then ∃N:St->Hp->Prop,(∀σ' H',N σ' H'->∃m',m'<m/\W m' σ' H')/\tb { D with nx:=N,ct:=N,bk:=D.nx } σ H1 else D.nx σ H1
theorem md {c:Expr}{body:List G8}{tc:TT}{tb:TS}(hp:PassesOwn (FC X.prog X.w) X.A X.env X.xe)(hc:PT X c tc)(hb:PSs X body tb):PS X (.While c body [] pos) (AT tc tb):=by
 intro pins s σ H D I h
 obtain⟨W,⟨m0,w0⟩,turn⟩:=h
 refine wpAny_While (codeAny_whileLoop (λ n s'=>∃σ' H',Inv X pins σ' H' s'/\W n σ' H') ?_ m0 ⟨σ,H,I,w0⟩)
 rintro n s1 ⟨σ1,H1,I1,w1⟩
 refine Ht hp (thn (hc pins s1 σ1 H1 _ I1 (turn n σ1 H1 w1)) λ b s2 ⟨H2,I2,q2⟩=>?_)
 cases b with
 |true =>
  obtain⟨N,hN,q2⟩:=q2
  rw[EU rfl]
  refine Ht hp (thn (hb pins s2 σ1 H2 _ I2 q2) λ f s3 q3=>?_)
  cases f with
  |next =>
   obtain⟨σ3,H3,I3,n3⟩:=q3
   obtain⟨m',hm,w3⟩:=hN σ3 H3 n3
   exact⟨m',hm,σ3,H3,I3,w3⟩
  |cont =>
   obtain⟨σ3,H3,I3,n3⟩:=q3
   obtain⟨m',hm,w3⟩:=hN σ3 H3 n3
   exact⟨m',hm,σ3,H3,I3,w3⟩
  |brk=>exact q3
  |ret v=>exact q3
 |false =>
  rw[EM EZ]
  exact wpAny_execs_nil ⟨σ1,H2,I2,q2⟩
end
structure It where
 go:Nat->Hp->Prop
 yld:Nat->Hp->V->Hp->Prop
 stop:Nat->Hp->Prop
def lO (X:Cx)(pins:List (EJ×Obj))(H:Hp)(b:EJ):Prop :=
 H b=none/\b≠X.env.locals/\b∉X.fs/\(b∈X.ex\/X.s_0.heap.objs.size<=b)/\(∀x c,X.env.cells.lookup x=some c->c≠b)/\∀p∈X.pn++pins,p.1≠b
theorem Inv.fpOk {X:Cx}{pins:List (EJ×Obj)}{σ:St}{H H':Hp}{s:EK}{b:EJ}(I:Inv X pins σ H s)(hb:s.heap.objs.size<=b)(hn:H' b=none):lO X pins H' b:=by
 refine⟨hn,GI (E9 I.lt hb),I.nofs hb,.inr (Fw I.sz hb),λ x c e z=>?_,λ p hp z=>?_⟩
 ·obtain⟨v,q⟩:=I.cell x c e
  exact absurd (E9 q.lt (by rw[z];exact hb)) (Gx _)
 ·exact absurd (E9 (EX (I.pin p hp).1) (by rw[z];exact hb)) (Gx _)
structure mi (P:E8)(w:FL)(K:FQ)(tg:Expr)(J:It)(fp:List EJ)(it:EJ)(tn:Nat->Heap->Prop):Prop where
 mem:it∈fp
 obj:∀i h,tn i h->∀b∈fp,∃o,h.get? b=some o/\∀v,o.data≠.cell v
 keep:∀i h h',tn i h->(∀b∈fp,∀o,h.get? b=some o->h'.get? b=some o)->tn i h'
 item:∀(X:Cx),X.prog=P->X.w=w->X.K=K->X.calm=true->∀(i:Nat) (pins:List (EJ×Obj)) (s:EK) (σ:St) (H:Hp) (E:Value->EK->Prop),Inv X pins σ H s->(∀b∈fp,lO X pins H b)->tn i s.heap->J.go i H ->
  Fp (FC P w) X.A (pyNext (.ref it)) (λ r s1=>∃u,r=some u /\
   Fp (FC P w) X.A (letOwnedTupleGo tg (.ref it) u) (λ _ s2=>∃x H',Inv X pins σ H' s2/\a5 x u/\J.yld i H x H'/\tn (i+1) s2.heap/\∀b∈fp,H' b=none) E s1) E s
 done:∀(X:Cx),X.prog=P->X.w=w->X.K=K->X.calm=true->∀(i:Nat) (pins:List (EJ×Obj)) (s:EK) (σ:St) (H:Hp) (E:Value->EK->Prop),Inv X pins σ H s->(∀b∈fp,lO X pins H b)->tn i s.heap->J.stop i H ->
  Fp (FC P w) X.A (pyNext (.ref it)) (λ r s1=>r=none/\Inv X pins σ H s1) E s
 self:∀(A:Around) (i:Nat) (s:EK) (Q:Value->EK->Prop) (E:Value->EK->Prop),tn i s.heap->Q (.ref it) s->Fp (FC P w) A (pyIter (.ref it)) Q E s
abbrev TI:=St->Hp->(It->Hp->Prop)->Prop
def PIE (X:Cx)(pins:List (EJ×Obj))(σ:St)(tg:Expr)(R:It->Hp->Prop)(itv:Value)(s2:EK):Prop :=
 ∃(it:EJ) (fp:List EJ) (tn:Nat->Heap->Prop) (J:It) (H':Hp),itv=.ref it/\Inv X pins σ H' s2/\mi X.prog X.w X.K tg J fp it tn/\tn 0 s2.heap/\(∀b∈fp,lO X pins H' b)/\R J H'
def PI (X:Cx)(tg aE:Expr)(wi:TI):Prop :=
 ∀(pins:List (EJ×Obj)) (s:EK) (σ:St) (H:Hp) (R:It->Hp->Prop),Inv X pins σ H s->wi σ H R ->
  Fp (FC X.prog X.w) X.A (Ik aE X.env) (λ v s1=>Fp (FC X.prog X.w) X.A (pyIter v) (PIE X pins σ tg R) X.xe s1) X.xe s
theorem mE {M:Model}{A:Around}{E:Value->EK->Prop}{s:EK}{tg:Expr}{it:EJ}{u:Value}{o:Obj}{n:String}{vs:Array Value}{Q:Unit->EK->Prop}(ho:s.heap.get? it=some o)(hc:o.cls=.type n)(hd:o.data=.fields vs)
  (hn:["enumerate","zip","dict_itemiterator","dict_reverseitemiterator","odict_iterator","itertools.zip_longest","itertools.pairwise"].contains n=false) (hQ:Q () s):Fp M A (letOwnedTupleGo tg (.ref it) u) Q E s:=by
 unfold letOwnedTupleGo
 cases tg<;>first
  |exact E5 hQ
  |(cases u<;>first
    |exact E5 hQ
    |(refine EI (wpAny_load ho ?_)
      rw[hc,hd]
      show Fp M A (if (["enumerate","zip","dict_itemiterator","dict_reverseitemiterator","odict_iterator","itertools.zip_longest","itertools.pairwise"].contains n&&vs[0]?==some (rawInt _))=true then _ else _) Q E s
      rw[EM (by intro h;rw[hn,FF]at h;cases h)]
      exact E5 hQ))
def Itl (K:FQ)(a:EJ):It :=
 ⟨λ i H=>∃xs x,SqL K H a xs/\xs[i]? = some x,λ i H x H'=>H'=H/\∀xs,SqL K H a xs->xs[i]? = some x,λ i H=>∃xs,SqL K H a xs/\xs.length<=i⟩
def Itt (K:FQ)(a:EJ):It :=
 ⟨λ i H=>∃xs x,SqT K H a xs/\xs[i]? = some x,λ i H x H'=>H'=H/\∀xs,SqT K H a xs->xs[i]? = some x,λ i H=>∃xs,SqT K H a xs/\xs.length<=i⟩
def Itr (lo:Int)(n:Nat):It:=⟨λ i _=>i<n,λ i H x H'=>H'=H/\x=.int (lo+i),λ i _=>n<=i⟩
theorem uN {P:E8}{w:FL}{K:FQ}{tg:Expr}(a it:EJ):mi P w K tg (Itl K a) [it] it (λ i h=>h.IsListIter it a i) where
 mem:=by simp
 obj:=λ i h st b hb=>by
  have e:b=it:=by simpa using hb
  subst e
  obtain⟨o,e,c,d⟩:=st
  exact⟨o,e,λ v z=>by rw[d]at z;cases z⟩
 keep:=λ i h h' st k=>st.at λ o e=>k it (by simp) o e
 item:=by
  intro X hP hw hK hc i pins s σ H E I hf st hg
  subst hP hw hK
  obtain⟨xs,x,hq,hx⟩:=hg
  obtain⟨its,rv,p,hz⟩:=I.list hq
  obtain⟨u,hu,ru⟩:=rv.get hx
  obtain⟨f0,f1,f2,f3,f4,f5⟩:=hf it (by simp)
  refine wpAny_pyNext_list_item st p.isList (x:=u) (by simpa using hu) λ h' st' sb=>?_
  have I1:Inv X pins σ H { s with heap:=h' }:=I.turned (t':=s.toks) (λ b o hb e=>(sb.2 b hb).trans e) f0 f1 f3 f4 f5
  obtain⟨o,e,c,d⟩:=id st'
  exact⟨u,rfl,mE (s:={ s with heap:=h' }) e c d (by decide) ⟨x,H,I1,ru,⟨rfl,λ ys hy=>by rw[I.list_inj hy hq];exact hx⟩,st',λ b hb=>(hf b hb).1⟩⟩
 done:=by
  intro X hP hw hK hc i pins s σ H E I hf st hg
  subst hP hw hK
  obtain⟨xs,hq,hx⟩:=hg
  obtain⟨its,rv,p,hz⟩:=I.list hq
  obtain⟨f0,f1,f2,f3,f4,f5⟩:=hf it (by simp)
  have hl:=rv.length
  exact wpAny_pyNext_list_end (I.ok.hd hc) st p.isList (by simp;omega) λ h' eb=>⟨rfl,I.turned (t':=s.toks) (λ b o hb e=>eb b o hb e) f0 f1 f3 f4 f5⟩
 self:=λ _ _ _ _ _ st h=>wpAny_pyIter_listiter st h
theorem sW {P:E8}{w:FL}{K:FQ}{tg:Expr}(a it:EJ):mi P w K tg (Itt K a) [it] it (λ i h=>h.IsTupleIter it a i) where
 mem:=by simp
 obj:=λ i h st b hb=>by
  have e:b=it:=by simpa using hb
  subst e
  obtain⟨o,e,c,d⟩:=st
  exact⟨o,e,λ v z=>by rw[d]at z;cases z⟩
 keep:=λ i h h' st k=>st.at λ o e=>k it (by simp) o e
 item:=by
  intro X hP hw hK hc i pins s σ H E I hf st hg
  subst hP hw hK
  obtain⟨xs,x,hq,hx⟩:=hg
  obtain⟨its,rv,p,hz⟩:=I.tuple hq
  obtain⟨u,hu,ru⟩:=rv.get hx
  obtain⟨f0,f1,f2,f3,f4,f5⟩:=hf it (by simp)
  refine wpAny_pyNext_tuple_item st (show s.heap.IsTuple a its.toArray from p) (x:=u) (by simpa using hu) λ h' st' sb=>?_
  have I1:Inv X pins σ H { s with heap:=h' }:=I.turned (t':=s.toks) (λ b o hb e=>(sb.2 b hb).trans e) f0 f1 f3 f4 f5
  obtain⟨o,e,c,d⟩:=id st'
  exact⟨u,rfl,mE (s:={ s with heap:=h' }) e c d (by decide) ⟨x,H,I1,ru,⟨rfl,λ ys hy=>by rw[I.tuple_inj hy hq];exact hx⟩,st',λ b hb=>(hf b hb).1⟩⟩
 done:=by
  intro X hP hw hK hc i pins s σ H E I hf st hg
  subst hP hw hK
  obtain⟨xs,hq,hx⟩:=hg
  obtain⟨its,rv,p,hz⟩:=I.tuple hq
  obtain⟨f0,f1,f2,f3,f4,f5⟩:=hf it (by simp)
  have hl:=rv.length
  exact wpAny_pyNext_tuple_end (I.ok.hd hc) st (show s.heap.IsTuple a its.toArray from p) (by simp;omega) λ h' eb=>⟨rfl,I.turned (t':=s.toks) (λ b o hb e=>eb b o hb e) f0 f1 f3 f4 f5⟩
 self:=λ _ _ _ _ _ st h=>wpAny_pyIter_tupleiter st h
theorem su {P:E8}{w:FL}{K:FQ}{tg:Expr}(it:EJ)(lo:Int)(n:Nat):mi P w K tg (Itr lo n) [it] it (λ i h=>IsRangeIter h it (lo+(i:Nat)*1) ((n:Int)-(i:Nat)) 1) where
 mem:=by simp
 obj:=λ i h st b hb=>by
  have e:b=it:=by simpa using hb
  subst e
  exact⟨_,st,λ v z=>by
   have z':Data.fields _=Data.cell v:=z
   cases z'⟩
 keep:=λ i h h' st k=>k it (by simp) _ st
 item:=by
  intro X hP hw hK hc i pins s σ H E I hf st hg
  subst hP hw hK
  obtain⟨f0,f1,f2,f3,f4,f5⟩:=hf it (by simp)
  have W:=Walks.range (prog:=X.prog) (w:=X.w) (I.ok.hd hc) it lo 1 n
  refine W.item i s _ _ hg st λ v h' tk hv st' kk=>?_
  obtain⟨t,rfl⟩:=hv
  have I1:Inv X pins σ H { s with heap:=h',toks:=tk }:=I.turned (λ b o hb e=>kk b o (by simpa using hb) e) f0 f1 f3 f4 f5
  refine⟨_,rfl,mE (s:={ s with heap:=h',toks:=tk }) (n:="range_iterator") st' rfl rfl (by decide) ⟨.int (lo+i),H,I1,⟨t,?_⟩,⟨rfl,rfl⟩,st',λ b hb=>(hf b hb).1⟩⟩
  rw[Int.mul_one]
 done:=by
  intro X hP hw hK hc i pins s σ H E I hf st hg
  subst hP hw hK
  obtain⟨f0,f1,f2,f3,f4,f5⟩:=hf it (by simp)
  exact wpAny_pyNext_range_end (I.ok.hd hc) st (by have:n<=i:=hg;omega) λ h' eb=>⟨rfl,I.turned (t':=s.toks) (λ b o hb e=>eb b o hb e) f0 f1 f3 f4 f5⟩
 self:=λ _ _ _ _ _ st h=>wpAny_pyIter_rangeiter st h
end L2
namespace L2
open PySem PySem.Spec PyProof.Rows
section
variable  {X:Cx}{tg:Expr}
def BH (K:FQ)(tl:TE):TI:=λ σ H R=>tl σ H λ x H1=>∃a,x=.ref a/\(∃xs,SqL K H1 a xs)/\R (Itl K a) H1
def Eu (K:FQ)(tl:TE):TI:=λ σ H R=>tl σ H λ x H1=>∃a,x=.ref a/\(∃xs,SqT K H1 a xs)/\R (Itt K a) H1
theorem bQ {l:Expr}{tl:TE}(hl:PE X l tl):PI X tg l (BH X.K tl):=by
 intro pins s σ H R I h
 refine thn (hl pins s σ H _ I h) λ v s1 ⟨x,H1,I1,r1,q1⟩=>?_
 obtain⟨a,e,⟨xs,hq⟩,q⟩:=q1
 subst e
 cases r1
 obtain⟨its,rv,p,hz⟩:=I1.list hq
 refine wpAny_pyIter_list p.isList ?_
 refine⟨s1.heap.objs.size,[s1.heap.objs.size],_,_,H1,rfl,I1.kept (t':=s1.toks) λ b o e=>EV _ e,uN a _,⟨_,Fb _ rfl,rfl,rfl⟩,λ b hb=>?_,q⟩
 have e:b=s1.heap.objs.size:=by simpa using hb
 subst e
 exact I1.fpOk (nlr _) (I1.hok.fresh (nlr _))
theorem sU {l:Expr}{tl:TE}(hl:PE X l tl):PI X tg l (Eu X.K tl):=by
 intro pins s σ H R I h
 refine thn (hl pins s σ H _ I h) λ v s1 ⟨x,H1,I1,r1,q1⟩=>?_
 obtain⟨a,e,⟨xs,hq⟩,q⟩:=q1
 subst e
 cases r1
 obtain⟨its,rv,p,hz⟩:=I1.tuple hq
 refine wpAny_pyIter_tuple (show s1.heap.IsTuple a its.toArray from p) ?_
 refine⟨s1.heap.objs.size,[s1.heap.objs.size],_,_,H1,rfl,I1.kept (t':=s1.toks) λ b o e=>EV _ e,sW a _,⟨_,Fb _ rfl,rfl,rfl⟩,λ b hb=>?_,q⟩
 have e:b=s1.heap.objs.size:=by simpa using hb
 subst e
 exact I1.fpOk (nlr _) (I1.hok.fresh (nlr _))
theorem rG {pins:List (EJ×Obj)}{σ:St}{H:Hp}{s:EK}{R:It->Hp->Prop}{E:Value->EK->Prop}{lo hi:Int}{t u v:Tok}{tk:Nat}(I:Inv X pins σ H s)(h1:-(2 ^ 62)<=lo)(h2:lo<2 ^ 62)(h3:-(2 ^ 62)<=hi)(h4:hi<2 ^ 62)
  (q:R (Itr lo (hi-lo).toNat) H):Fp (FC X.prog X.w) X.A (pyIter (.ref s.heap.objs.size)) (PIE X pins σ tg R) E { s with heap:=s.heap.push { cls:=.type "range",data:=.fields #[.int lo t,.int hi u,.int 1 v] },toks:=tk }:=by
 refine wpAny_pyIter_range (IsRange.new ..) (small_one h1 h2 h3 h4) ?_
 have I1:Inv X pins σ H { s with heap:=s.heap.push { cls:=.type "range",data:=.fields #[.int lo t,.int hi u,.int 1 v] },toks:=tk }:=I.kept λ b o e=>EV _ e
 refine⟨(s.heap.push { cls:=.type "range",data:=.fields #[.int lo t,.int hi u,.int 1 v] }).objs.size,[(s.heap.push { cls:=.type "range",data:=.fields #[.int lo t,.int hi u,.int 1 v] }).objs.size],_,_,H,rfl,
  I1.kept (t':=tk) λ b o e=>EV _ e,su _ lo (hi-lo).toNat,?_,λ b hb=>?_,q⟩
 ·have e1:lo+((0:Nat):Int)*1=lo:=by simp
  have e2:(((hi-lo).toNat:Nat):Int)-((0:Nat):Int)=GV lo hi 1:=by rw[rangeSize_one];split<;>omega
  show IsRangeIter _ _ (lo+((0:Nat):Int)*1) ((((hi-lo).toNat:Nat):Int)-((0:Nat):Int)) 1
  rw[e1,e2]
  exact Fb _ rfl
 ·have e:b=(s.heap.push { cls:=.type "range",data:=.fields #[.int lo t,.int hi u,.int 1 v] }).objs.size:=by simpa using hb
  subst e
  exact I1.fpOk (nlr _) (I1.hok.fresh (nlr _))
def Cg (ta:TA):TI:=λ σ H R=>ta σ H λ vs H1=>∃j:Int,vs=[.int j]/\-(2 ^ 62)<=j/\j<2 ^ 62/\R (Itr 0 j.toNat) H1
def B9 (ta:TA):TI:=λ σ H R=>ta σ H λ vs H1=>∃i j:Int,vs=[.int i,.int j]/\(-(2 ^ 62)<=i/\i<2 ^ 62/\-(2 ^ 62)<=j/\j<2 ^ 62)/\R (Itr i (j-i).toNat) H1
theorem oh {a:Expr}{ta:TA}{p pos:Pos} (hg:Gl X "range") (hm:X.mg "range"=none) (ha:PA X [a] ta) (hs:Fo [a] X.env=[(false,Ik a X.env)]:=by rfl):PI X tg (.Call (.Name "range" p) [a] [] pos) (Cg ta):=by
 intro pins s σ H R I h
 refine Call_ (gA I hg hm boot_range (FD (thn (ha pos pins s σ H _ I h) λ us s1 ⟨vs,H1,I1,r1,q1⟩=>?_) hs rfl))
 obtain⟨j,e,q1,q2,q⟩:=q1
 subst e
 cases r1 with
 |cons r rr =>
  cases rr
  obtain⟨t,rfl⟩:=r
  exact call_range_1 (rG I1 (by omega) (by omega) q1 q2 (by simpa using q))
theorem oM {a b:Expr}{ta:TA}{p pos:Pos} (hg:Gl X "range") (hm:X.mg "range"=none) (ha:PA X [a,b] ta) (hs:Fo [a,b] X.env=[(false,Ik a X.env),(false,Ik b X.env)]:=by rfl) (hs2:Fo [b] X.env=[(false,Ik b X.env)]:=by rfl) :
  PI X tg (.Call (.Name "range" p) [a,b] [] pos) (B9 ta):=by
 intro pins s σ H R I h
 refine Call_ (gA I hg hm boot_range (FD (thn (ha pos pins s σ H _ I h) λ us s1 ⟨vs,H1,I1,r1,q1⟩=>?_) (by rw[hs,hs2]) (by rw[hs2];rfl)))
 obtain⟨i,j,e,⟨q1,q2,q3,q4⟩,q⟩:=q1
 subst e
 cases r1 with
 |cons r rr =>
  cases rr with
  |cons r' rr =>
   cases rr
   obtain⟨t,rfl⟩:=r
   obtain⟨t',rfl⟩:=r'
   exact call_range_2 (rG I1 q1 q2 q3 q4 q)
def Ey (wi:TI)(g:TG)(tb:TS):TS:=λ D σ H=>wi σ H λ J H1=>∃W:Nat->Nat->St->Hp->Prop,(∃m,W 0 m σ H1)/\∀i m σ H,W i m σ H ->
 (J.stop i H/\D.nx σ H)\/(J.go i H/\∃N:St->Hp->Prop,(∀σ' H',N σ' H'->∃m',m'<m/\W (i+1) m' σ' H')/\∀x H',J.yld i H x H'->g x σ H' λ σ2 H2=>tb { D with nx:=N,ct:=N,bk:=D.nx } σ2 H2)
def mQ (fp:List EJ)(h:Heap):List (EJ×Obj):=fp.filterMap λ b=>(h.get? b).map λ o=>(b,o)
theorem jT {fp:List EJ}{h:Heap}{b:EJ}{o:Obj}(hb:b∈fp)(e:h.get? b=some o):(b,o)∈mQ fp h:=List.mem_filterMap.mpr ⟨b,hb,by rw[e];rfl⟩
theorem u4 {fp:List EJ}{h:Heap}{p:EJ×Obj}(hp:p∈mQ fp h):p.1∈fp/\h.get? p.1=some p.2:=by
 obtain⟨b,hb,e⟩:=List.mem_filterMap.mp hp
 cases q:h.get? b with
 |none=>rw[q]at e;cases e
 |some o =>
  rw[q]at e
  have e':(b,o)=p:=osi e
  subst e'
  exact⟨hb,q⟩
theorem Inv.pinned {pins:List (EJ×Obj)}{σ:St}{H:Hp}{s:EK}{fp:List EJ}(I:Inv X pins σ H s)(hf:∀b∈fp,lO X pins H b)(ho:∀b∈fp,∃o,s.heap.get? b=some o/\∀v,o.data≠.cell v):Inv X (pins++mQ fp s.heap) σ H s :=
 I.pins_of λ p hp=>(Fk.mp hp).elim (λ z=>I.pin p (Gc _ z)) λ z=>by
  obtain⟨hb,e⟩:=u4 z
  obtain⟨f0,f1,f2,_⟩:=hf p.1 hb
  obtain⟨o,e',d⟩:=ho p.1 hb
  rw[e]at e';cases e'
  exact⟨e,f0,f1,f2,d⟩
theorem Inv.unpinned {pins pl:List (EJ×Obj)}{σ:St}{H:Hp}{s:EK}(I:Inv X (pins++pl) σ H s):Inv X pins σ H s:=I.pins_of λ p hp=>I.pin p (Gc _ (List.mem_append_left _ hp))
theorem bw {aE:Expr}{body:List G8}{wi:TI}{g:TG}{tb:TS}{pos:Pos}(hp:PassesOwn (FC X.prog X.w) X.A X.env X.xe)(hc:X.calm=true)(hi:PI X tg aE wi)(hg:PG X tg g)(hb:PSs X body tb)
  (hs:∀x,foldedSetIterable aE X.env x=pure x:=by intro _;rfl):PS X (.For tg aE body [] pos) (Ey wi g tb):=by
 intro pins s σ H D I h
 refine wpAny_For (thn (hi pins s σ H _ I h) λ v s1 h1=>thn h1 λ itv s2 h2=>?_) hs
 obtain⟨it,fp,tn,J,H2,e,I2,T,st2,f2,W,⟨m0,w0⟩,turn⟩:=h2
 subst e
 have stat:∀{H':Hp},(∀b∈fp,H' b=none)->∀b∈fp,lO X pins H' b:=λ hn b hb=>⟨hn b hb,(f2 b hb).2⟩
 refine codeAny_forLoop_any (λ n s'=>∃i σ' H',Inv X pins σ' H' s'/\tn i s'.heap/\(∀b∈fp,H' b=none)/\W i n σ' H') ?_ m0 ⟨0,σ,H2,I2,st2,λ b hb=>(f2 b hb).1,w0⟩
 rintro n s3 ⟨i,σ3,H3,I3,st3,fr3,w3⟩
 rcases turn i n σ3 H3 w3 with⟨stop,qn⟩|⟨go,N,hN,step⟩
 ·refine Ht hp (thn (T.done X rfl rfl rfl hc i pins s3 σ3 H3 X.xe I3 (stat fr3) st3 stop) λ r s4 ⟨hr,I4⟩=>?_)
  subst hr
  exact wpAny_execs_nil ⟨σ3,H3,I4,qn⟩
 ·refine Ht hp (thn (T.item X rfl rfl rfl hc i pins s3 σ3 H3 X.xe I3 (stat fr3) st3 go) λ r s4 ⟨u,hr,h4⟩=>?_)
  subst hr
  refine Ht hp (thn h4 λ _ s5 ⟨x,H5,I5,r5,y5,st5,fr5⟩=>?_)
  have I5':=I5.pinned (stat fr5) (T.obj _ _ st5)
  refine Ht hp (thn (hg _ s5 σ3 H5 x u _ I5' r5 (step x H5 y5)) λ _ s6 ⟨σ6,H6,I6,q6⟩=>?_)
  refine Ht hp (thn (hb _ s6 σ6 H6 _ I6 q6) λ f s7 q7=>?_)
  have again:∀{σ7:St} {H7:Hp},Inv X (pins++mQ fp s5.heap) σ7 H7 s7->N σ7 H7->∃m,m<n/\∃i σ' H',Inv X pins σ' H' s7/\tn i s7.heap/\(∀b∈fp,H' b=none)/\W i m σ' H':=λ{σ7 H7} I7 n7=>by
   obtain⟨m',hm,w7⟩:=hN σ7 H7 n7
   refine⟨m',hm,i+1,σ7,H7,I7.unpinned,T.keep _ _ _ st5 λ b hb o e=>(I7.pin (b,o) (Gc _ (Gc _ (jT hb e)))).1,λ b hb=>?_,w7⟩
   obtain⟨o,e,d⟩:=T.obj _ _ st5 b hb
   exact(I7.pin (b,o) (Gc _ (Gc _ (jT hb e)))).2.1
  cases f with
  |next=>obtain⟨σ7,H7,I7,n7⟩:=q7;exact again I7 n7
  |cont=>obtain⟨σ7,H7,I7,n7⟩:=q7;exact again I7 n7
  |brk=>obtain⟨σ7,H7,I7,q7⟩:=q7;exact⟨σ7,H7,I7.unpinned,q7⟩
  |ret v=>obtain⟨x7,σ7,H7,I7,r7,q7⟩:=q7;exact⟨x7,σ7,H7,I7.unpinned,r7,q7⟩
end
theorem eh {K:FQ}{a:EJ}{xs:List V}{g:TG}{tb:TS}{D:nU}{σ:St}{H:Hp}(Pv:Nat->St->Hp->Prop)(h0:Pv 0 σ H)(hl:∀i σ H,i<=xs.length->Pv i σ H->SqL K H a xs)
  (hs:∀i x σ H,xs[i]? = some x->Pv i σ H->g x σ H λ σ2 H2=>tb { D with nx:=Pv (i+1),ct:=Pv (i+1),bk:=D.nx } σ2 H2) (hd:∀σ H,Pv xs.length σ H->D.nx σ H) :
  ∃W:Nat->Nat->St->Hp->Prop,(∃m,W 0 m σ H)/\∀i m σ H,W i m σ H ->
   ((Itl K a).stop i H/\D.nx σ H)\/((Itl K a).go i H/\∃N:St->Hp->Prop,(∀σ' H',N σ' H'->∃m',m'<m/\W (i+1) m' σ' H')/\∀x H',(Itl K a).yld i H x H'->g x σ H' λ σ2 H2=>tb { D with nx:=N,ct:=N,bk:=D.nx } σ2 H2):=by
 refine⟨λ i m σ H=>m=xs.length-i/\i<=xs.length/\Pv i σ H,⟨xs.length,by simp,FR _,h0⟩,?_⟩
 rintro i m σ H ⟨rfl,hi,p⟩
 have q:=hl i σ H hi p
 by_cases hlt:i<xs.length
 ·refine .inr ⟨⟨xs,xs[i],q,by simp[hlt]⟩,Pv (i+1),λ σ' H' p'=>⟨xs.length-(i+1),by omega,rfl,hlt,p'⟩,λ x H' y=>?_⟩
  obtain⟨e,y⟩:=y
  subst e
  exact hs i x σ _ (y xs q) p
 ·have e:i=xs.length:=by omega
  subst e
  exact .inl ⟨⟨xs,q,nlr _⟩,hd σ H p⟩
theorem p9 {K:FQ}{a:EJ}{xs:List V}{g:TG}{tb:TS}{D:nU}{σ:St}{H:Hp}(Pv:Nat->St->Hp->Prop)(h0:Pv 0 σ H)(hl:∀i σ H,i<=xs.length->Pv i σ H->SqT K H a xs)
  (hs:∀i x σ H,xs[i]? = some x->Pv i σ H->g x σ H λ σ2 H2=>tb { D with nx:=Pv (i+1),ct:=Pv (i+1),bk:=D.nx } σ2 H2) (hd:∀σ H,Pv xs.length σ H->D.nx σ H) :
  ∃W:Nat->Nat->St->Hp->Prop,(∃m,W 0 m σ H)/\∀i m σ H,W i m σ H ->
   ((Itt K a).stop i H/\D.nx σ H)\/((Itt K a).go i H/\∃N:St->Hp->Prop,(∀σ' H',N σ' H'->∃m',m'<m/\W (i+1) m' σ' H')/\∀x H',(Itt K a).yld i H x H'->g x σ H' λ σ2 H2=>tb { D with nx:=N,ct:=N,bk:=D.nx } σ2 H2):=by
 refine⟨λ i m σ H=>m=xs.length-i/\i<=xs.length/\Pv i σ H,⟨xs.length,by simp,FR _,h0⟩,?_⟩
 rintro i m σ H ⟨rfl,hi,p⟩
 have q:=hl i σ H hi p
 by_cases hlt:i<xs.length
 ·refine .inr ⟨⟨xs,xs[i],q,by simp[hlt]⟩,Pv (i+1),λ σ' H' p'=>⟨xs.length-(i+1),by omega,rfl,hlt,p'⟩,λ x H' y=>?_⟩
  obtain⟨e,y⟩:=y
  subst e
  exact hs i x σ _ (y xs q) p
 ·have e:i=xs.length:=by omega
  subst e
  exact .inl ⟨⟨xs,q,nlr _⟩,hd σ H p⟩
theorem jt {lo:Int}{n:Nat}{g:TG}{tb:TS}{D:nU}{σ:St}{H:Hp}(Pv:Nat->St->Hp->Prop)(h0:Pv 0 σ H)
  (hs:∀i σ H,i<n->Pv i σ H->g (.int (lo+i)) σ H λ σ2 H2=>tb { D with nx:=Pv (i+1),ct:=Pv (i+1),bk:=D.nx } σ2 H2) (hd:∀σ H,Pv n σ H->D.nx σ H) :
  ∃W:Nat->Nat->St->Hp->Prop,(∃m,W 0 m σ H)/\∀i m σ H,W i m σ H ->
   ((Itr lo n).stop i H/\D.nx σ H)\/((Itr lo n).go i H/\∃N:St->Hp->Prop,(∀σ' H',N σ' H'->∃m',m'<m/\W (i+1) m' σ' H')/\∀x H',(Itr lo n).yld i H x H'->g x σ H' λ σ2 H2=>tb { D with nx:=N,ct:=N,bk:=D.nx } σ2 H2):=by
 refine⟨λ i m σ H=>m=n-i/\i<=n/\Pv i σ H,⟨n,by simp,FR _,h0⟩,?_⟩
 rintro i m σ H ⟨rfl,hi,p⟩
 by_cases hlt:i<n
 ·refine .inr ⟨hlt,Pv (i+1),λ σ' H' p'=>⟨n-(i+1),by omega,rfl,hlt,p'⟩,λ x H' y=>?_⟩
  obtain⟨e,y⟩:=y
  subst e y
  exact hs i σ _ hlt p
 ·have e:i=n:=by omega
  subst e
  exact .inl ⟨nlr _,hd σ H p⟩
end L2
namespace L2
open PySem PySem.Spec PyProof.Rows
abbrev R2:=V->V->Hp->VK->Prop
def OpR (X:Cx)(f:Value->Value->Sem Value)(r:R2):Prop :=
 ∀(pins:List (EJ×Obj)) (s:EK) (σ:St) (H:Hp) (x y:V) (v u:Value) (Q:VK),Inv X pins σ H s->a5 x v->a5 y u->r x y H Q ->
  Fp (FC X.prog X.w) X.A (f v u) (EP X pins σ Q) X.xe s
def UnR (X:Cx)(f:Value->Sem Value)(r:V->Hp->VK->Prop):Prop :=
 ∀(pins:List (EJ×Obj)) (s:EK) (σ:St) (H:Hp) (x:V) (v:Value) (Q:VK),Inv X pins σ H s->a5 x v->r x H Q ->
  Fp (FC X.prog X.w) X.A (f v) (EP X pins σ Q) X.xe s
def l9 (X:Cx)(f:Value)(r:List V->Hp->VK->Prop):Prop :=
 ∀(pins:List (EJ×Obj)) (s:EK) (σ:St) (H:Hp) (xs:List V) (us:List Value) (Q:VK),Inv X pins σ H s->aT xs us->r xs H Q ->
  Fp (FC X.prog X.w) X.A (call f us) (EP X pins σ Q) X.xe s
def tOp (r:R2)(ta tb:TE):TE:=λ σ H Q=>ta σ H λ x H1=>tb σ H1 λ y H2=>r x y H2 Q
def tUn (r:V->Hp->VK->Prop)(ta:TE):TE:=λ σ H Q=>ta σ H λ x H1=>r x H1 Q
def rI (C:Int->Int->Prop)(g:Int->Int->V):R2:=λ x y H Q=>∃i j,x=.int i/\y=.int j/\C i j/\Q (g i j) H
def rI0 (g:Int->Int->V):R2:=λ x y H Q=>∃i j,x=.int i/\y=.int j/\Q (g i j) H
def rU (g:Int->V):V->Hp->VK->Prop:=λ x H Q=>∃i,x=.int i/\Q (g i) H
section
variable  {X:Cx}{a b c:Expr}{ta tb tc:TE}{pos:Pos}
theorem AW (ha:PE X a ta)(hb:PE X b tb){pins:List (EJ×Obj)}{s:EK}{σ:St}{H:Hp}{R:V->V->Hp->Prop}(I:Inv X pins σ H s)
  (h:ta σ H λ x H1=>tb σ H1 λ y H2=>R x y H2) {Q:Value->EK->Prop} {f:Value->Value->Sem Value}
  (hf:∀v u s2 x y H2,Inv X pins σ H2 s2->a5 x v->a5 y u->R x y H2->Fp (FC X.prog X.w) X.A (f v u) Q X.xe s2) :
  Fp (FC X.prog X.w) X.A (Ik a X.env) (λ v s₁=>Fp (FC X.prog X.w) X.A (Ik b X.env) (λ u s₂=>Fp (FC X.prog X.w) X.A (f v u) Q X.xe s₂) X.xe s₁) X.xe s:=by
 refine thn (ha pins s σ H _ I h) λ v s1 ⟨x,H1,I1,r1,q1⟩=>?_
 refine thn (hb pins s1 σ H1 _ I1 q1) λ u s2 ⟨y,H2,I2,r2,q2⟩=>?_
 exact hf v u s2 x y H2 I2 r1 r2 q2
theorem aV {op:Operator}{r:R2}(ho:OpR X (binaryOp op) r)(ha:PE X a ta)(hb:PE X b tb):PE X (.BinOp a op b pos) (tOp r ta tb):=by
 intro pins s σ H Q I h
 exact wpAny_BinOp (AW ha hb I h λ v u s2 x y H2 I2 rx ry q=>ho pins s2 σ H2 x y v u Q I2 rx ry q)
theorem lJ {op:UnaryOp}{r:V->Hp->VK->Prop}(ho:UnR X (unaryOp op) r)(ha:PE X a ta):PE X (.UnaryOp op a pos) (tUn r ta):=by
 intro pins s σ H Q I h
 exact UnaryOp_ (thn (ha pins s σ H _ I h) λ v s1 ⟨x,H1,I1,r1,q1⟩=>ho pins s1 σ H1 x v Q I1 r1 q1)
theorem opI {f:Value->Value->Sem Value}{C:Int->Int->Prop}{g:Int->Int->Int}
  (rule:∀(i j:Int) (t u:Tok) (s:EK) (Q:Value->EK->Prop) (E:Value->EK->Prop),C i j->Q (.int (g i j) s.toks) { s with toks:=s.toks+1 }->Fp (FC X.prog X.w) X.A (f (.int i t) (.int j u)) Q E s) :
  OpR X f (rI C λ i j=>.int (g i j)):=by
 intro pins s σ H x y v u Q I rx ry h
 obtain⟨i,j,rfl,rfl,hc,q⟩:=h
 obtain⟨t,rfl⟩:=rx
 obtain⟨t',rfl⟩:=ry
 exact rule i j t t' s _ _ hc ⟨.int (g i j),H,I.tok _,⟨_,rfl⟩,q⟩
theorem BR {f:Value->Value->Sem Value}{g:Int->Int->Int}
  (rule:∀(i j:Int) (t u:Tok) (s:EK) (Q:Value->EK->Prop) (E:Value->EK->Prop),Q (.int (g i j) s.toks) { s with toks:=s.toks+1 }->Fp (FC X.prog X.w) X.A (f (.int i t) (.int j u)) Q E s) :
  OpR X f (rI0 λ i j=>.int (g i j)):=by
 intro pins s σ H x y v u Q I rx ry h
 obtain⟨i,j,rfl,rfl,q⟩:=h
 obtain⟨t,rfl⟩:=rx
 obtain⟨t',rfl⟩:=ry
 exact rule i j t t' s _ _ ⟨.int (g i j),H,I.tok _,⟨_,rfl⟩,q⟩
theorem yK {f:Value->Value->Sem Value}{g:Int->Int->Bool}
  (rule:∀(i j:Int) (t u:Tok) (s:EK) (Q:Value->EK->Prop) (E:Value->EK->Prop),Q (.bool (g i j)) s->Fp (FC X.prog X.w) X.A (f (.int i t) (.int j u)) Q E s) :
  OpR X f (rI0 λ i j=>.bl (g i j)):=by
 intro pins s σ H x y v u Q I rx ry h
 obtain⟨i,j,rfl,rfl,q⟩:=h
 obtain⟨t,rfl⟩:=rx
 obtain⟨t',rfl⟩:=ry
 exact rule i j t t' s _ _ ⟨.bl (g i j),H,I,rfl,q⟩
def DX (i j:Int):Prop:=0<j/\j<1073741824
def AU (i j:Int):Prop:=(-(2 ^ 64)<i/\i<2 ^ 64)\/(-(2 ^ 64)<j/\j<2 ^ 64)
theorem AU.ok {i j:Int}(h:AU i j):IntMulOk i j:=by
 rcases h with⟨h1,h2⟩|⟨h1,h2⟩
 ·exact .of_left (intBits_le_64 h1 h2)
 ·exact .of_right (intBits_le_64 h1 h2)
theorem dM:OpR X (binaryOp .Add) (rI0 λ i j=>.int (i+j)):=BR λ _ _ _ _ _ _ _ q=>add_int q
theorem eO:OpR X (binaryOp .Sub) (rI0 λ i j=>.int (i-j)):=BR λ _ _ _ _ _ _ _ q=>sub_int q
theorem dP:OpR X (binaryOp .Mult) (rI AU λ i j=>.int (i*j)):=opI λ _ _ _ _ _ _ _ hc q=>mul_int q hc.ok
theorem qe:OpR X (binaryOp .FloorDiv) (rI DX λ i j=>.int (i / j)):=opI λ i j _ _ _ _ _ hc q=>by
 have h1:(0:Int)<j:=hc.1
 have h2:j<1073741824:=hc.2
 exact floordiv_int (by omega) (by rw[Int.fdiv_eq_ediv_of_nonneg i (by omega)];exact q) (.inl (PyProof.noPylong_small (by omega)))
theorem Ay:OpR X (binaryOp .Mod) (rI (λ _ j=>0<j) λ i j=>.int (i % j)):=opI λ i j _ _ _ _ _ hc q=>by
 have h1:(0:Int)<j:=hc
 exact mod_int' (by omega) (by rw[Int.fmod_eq_emod_of_nonneg i (by omega)];exact q)
theorem unI {f:Value->Sem Value}{g:Int->Int}
  (rule:∀(i:Int) (t:Tok) (s:EK) (Q:Value->EK->Prop) (E:Value->EK->Prop),Q (.int (g i) s.toks) { s with toks:=s.toks+1 }->Fp (FC X.prog X.w) X.A (f (.int i t)) Q E s) :
  UnR X f (rU λ i=>.int (g i)):=by
 intro pins s σ H x v Q I rx h
 obtain⟨i,rfl,q⟩:=h
 obtain⟨t,rfl⟩:=rx
 exact rule i t s _ _ ⟨.int (g i),H,I.tok _,⟨_,rfl⟩,q⟩
theorem iZ:UnR X (unaryOp .USub) (rU λ i=>.int (-i)):=unI λ _ _ _ _ _ q=>neg_int q
end
def CQ:V->V->Bool
 |.non,.non=>true|.non,.int _=>true|.int _,.non=>true|.non,.bl _=>true|.bl _,.non=>true|.non,.str _=>true|.str _,.non=>true
 |.int _,.int _=>true|.bl _,.bl _=>true|.str _,.str _=>true|.byt _,.byt _=>true
 |.int _,.str _=>true|.str _,.int _=>true|.bl _,.str _=>true|.str _,.bl _=>true
 |_,_=>false
def rEq:R2:=λ x y H Q=>CQ x y=true/\Q (.bl (decide (x=y))) H
def rNe:R2:=λ x y H Q=>CQ x y=true/\Q (.bl (!decide (x=y))) H
theorem uc {i j:Int}:decide (V.int i=V.int j)=(i==j):=by
 rw[Fy]
 simp
theorem xk {i j:Bool}:decide (V.bl i=V.bl j)=(i==j):=by
 rw[Fy]
 simp
theorem tO {i j:Str}:decide (V.str i=V.str j)=(i==j):=by
 rw[Fy]
 simp
theorem uJ {i j:Array UInt8}:decide (V.byt i=V.byt j)=(i.toList==j.toList):=by
 rw[Fy]
 cases i
 cases j
 simp
section
variable  {X:Cx}{a b c:Expr}{ta tb tc:TE}{pos:Pos}
theorem ba {pins:List (EJ×Obj)}{σ:St}{H:Hp}{s:EK}{Q:VK}{k k':Bool}(I:Inv X pins σ H s)(q:Q (.bl k) H)(e:k=k'):EP X pins σ Q (.bool k') s:=by
 subst e
 exact⟨.bl k,H,I,rfl,q⟩
theorem kq:OpR X (Ga .Eq) rEq:=by
 intro pins s σ H x y v u Q I rx ry h
 obtain⟨hs,q⟩:=h
 cases x with
 |non =>
  cases rx
  cases y with
  |non=>cases ry;exact PySem.EqNone.eq_none_none (ba I q (by simp))
  |bl j=>cases ry;exact PySem.EqNone.eq_none_bool (ba I q (by simp))
  |int j=>obtain⟨t',rfl⟩:=ry;exact PySem.EqNone.eq_none_int (ba I q (by simp))
  |str j=>obtain⟨t',rfl⟩:=ry;exact PySem.EqNone.eq_none_str (ba I q (by simp))
  |_=>exact absurd (show false=true from hs) EZ
 |bl i =>
  cases rx
  cases y with
  |non=>cases ry;exact PySem.EqNone.eq_bool_none (ba I q (by simp))
  |bl j=>cases ry;exact eq_bool (ba I q xk)
  |str j=>obtain⟨t',rfl⟩:=ry;exact PySem.EqMixed.eq_bool_str (ba I q (by simp))
  |_=>exact absurd (show false=true from hs) EZ
 |int i =>
  obtain⟨t,rfl⟩:=rx
  cases y with
  |non=>cases ry;exact PySem.EqNone.eq_int_none (ba I q (by simp))
  |int j=>obtain⟨t',rfl⟩:=ry;exact eq_int (ba I q uc)
  |str j=>obtain⟨t',rfl⟩:=ry;exact PySem.EqMixed.eq_int_str (ba I q (by simp))
  |_=>exact absurd (show false=true from hs) EZ
 |str i =>
  obtain⟨t,rfl⟩:=rx
  cases y with
  |non=>cases ry;exact PySem.EqNone.eq_str_none (ba I q (by simp))
  |bl j=>cases ry;exact PySem.EqMixed.eq_str_bool (ba I q (by simp))
  |int j=>obtain⟨t',rfl⟩:=ry;exact PySem.EqMixed.eq_str_int (ba I q (by simp))
  |str j=>obtain⟨t',rfl⟩:=ry;exact eq_str (ba I q tO)
  |_=>exact absurd (show false=true from hs) EZ
 |byt i =>
  obtain⟨t,rfl⟩:=rx
  cases y with
  |byt j=>obtain⟨t',rfl⟩:=ry;exact PySem.W.eq_bytes (ba I q uJ)
  |_=>exact absurd (show false=true from hs) EZ
 |_=>cases y<;>exact absurd (show false=true from hs) EZ
theorem xQ:OpR X (Ga .NotEq) rNe:=by
 intro pins s σ H x y v u Q I rx ry h
 obtain⟨hs,q⟩:=h
 cases x with
 |non =>
  cases rx
  cases y with
  |non=>cases ry;exact PySem.EqNone.ne_none_none (ba I q (by simp))
  |bl j=>cases ry;exact PySem.EqNone.ne_none_bool (ba I q (by simp))
  |int j=>obtain⟨t',rfl⟩:=ry;exact PySem.EqNone.ne_none_int (ba I q (by simp))
  |str j=>obtain⟨t',rfl⟩:=ry;exact PySem.EqNone.ne_none_str (ba I q (by simp))
  |_=>exact absurd (show false=true from hs) EZ
 |bl i =>
  cases rx
  cases y with
  |non=>cases ry;exact PySem.EqNone.ne_bool_none (ba I q (by simp))
  |bl j=>cases ry;exact ne_bool (ba I q (Gy not xk))
  |str j=>obtain⟨t',rfl⟩:=ry;exact PySem.EqMixed.ne_bool_str (ba I q (by simp))
  |_=>exact absurd (show false=true from hs) EZ
 |int i =>
  obtain⟨t,rfl⟩:=rx
  cases y with
  |non=>cases ry;exact PySem.EqNone.ne_int_none (ba I q (by simp))
  |int j=>obtain⟨t',rfl⟩:=ry;exact ne_int (ba I q (Gy not uc))
  |str j=>obtain⟨t',rfl⟩:=ry;exact PySem.EqMixed.ne_int_str (ba I q (by simp))
  |_=>exact absurd (show false=true from hs) EZ
 |str i =>
  obtain⟨t,rfl⟩:=rx
  cases y with
  |non=>cases ry;exact PySem.EqNone.ne_str_none (ba I q (by simp))
  |bl j=>cases ry;exact PySem.EqMixed.ne_str_bool (ba I q (by simp))
  |int j=>obtain⟨t',rfl⟩:=ry;exact PySem.EqMixed.ne_str_int (ba I q (by simp))
  |str j=>obtain⟨t',rfl⟩:=ry;exact ne_str (ba I q (Gy not tO))
  |_=>exact absurd (show false=true from hs) EZ
 |byt i =>
  obtain⟨t,rfl⟩:=rx
  cases y with
  |byt j=>obtain⟨t',rfl⟩:=ry;exact PySem.W.ne_bytes (ba I q (Gy not uJ))
  |_=>exact absurd (show false=true from hs) EZ
 |_=>cases y<;>exact absurd (show false=true from hs) EZ
theorem gf:OpR X (Ga .Lt) (rI0 λ i j=>.bl (decide (i<j))):=yK λ _ _ _ _ _ _ _ q=>lt_int q
theorem lq:OpR X (Ga .LtE) (rI0 λ i j=>.bl (decide (i<=j))):=yK λ _ _ _ _ _ _ _ q=>le_int q
theorem d6:OpR X (Ga .Gt) (rI0 λ i j=>.bl (decide (j<i))):=yK λ _ _ _ _ _ _ _ q=>gt_int q
theorem t9:OpR X (Ga .GtE) (rI0 λ i j=>.bl (decide (j<=i))):=yK λ _ _ _ _ _ _ _ q=>ge_int q
theorem i6:OpR X (Ga .Is) (λ x y H Q=>y=.non/\Q (.bl (decide (x=.non))) H):=by
 intro pins s σ H x y v u Q I rx ry h
 obtain⟨rfl,q⟩:=h
 cases ry
 refine is_none_gen (ba I q ?_)
 cases x<;>first
  |(cases rx;rfl)
  |(obtain⟨t,rfl⟩:=rx;rfl)
theorem jq:OpR X (Ga .IsNot) (λ x y H Q=>y=.non/\Q (.bl (!decide (x=.non))) H):=by
 intro pins s σ H x y v u Q I rx ry h
 obtain⟨rfl,q⟩:=h
 cases ry
 refine isnot_none_gen (ba I q ?_)
 cases x<;>first
  |(cases rx;rfl)
  |(obtain⟨t,rfl⟩:=rx;rfl)
theorem aI (b:Expr){op:CmpOp}(h:op≠.In:=by decide)(h2:op≠.NotIn:=by decide):Ic op b=false:=by
 have e1:(op==CmpOp.In)=false:=by cases op<;>first|rfl|exact absurd rfl h
 have e2:(op==CmpOp.NotIn)=false:=by cases op<;>first|rfl|exact absurd rfl h2
 cases b<;>simp[Ic,e1,e2]
theorem cp {op:CmpOp}{r:R2}(ho:OpR X (Ga op) r)(ha:PE X a ta)(hb:PE X b tb)(hm:Ic op b=false):PE X (.Compare a [op] [b] pos) (tOp r ta tb):=by
 intro pins s σ H Q I h
 exact wpAny_Compare1 (AW ha hb I h λ v u s2 x y H2 I2 rx ry q=>ho pins s2 σ H2 x y v u Q I2 rx ry q) hm
def fh (t:TE):TT:=λ σ H Q=>t σ H λ x H'=>∃k,x=.bl k/\Q k H'
theorem aK {op:CmpOp}{r:R2}(ho:OpR X (Ga op) r)(ha:PE X a ta)(hb:PE X b tb)(hm:Ic op b=false):PT X (.Compare a [op] [b] pos) (fh (tOp r ta tb)):=by
 intro pins s σ H Q I h
 refine wpAny_isTrue_Compare1 (thn (ha pins s σ H _ I h) λ v s1 ⟨x,H1,I1,r1,q1⟩=>thn (hb pins s1 σ H1 _ I1 q1) λ u s2 ⟨y,H2,I2,r2,q2⟩ =>
  thn (ho pins s2 σ H2 x y v u _ I2 r1 r2 q2) λ c s3 ⟨z,H3,I3,r3,k,e,q3⟩=>?_) hm
 subst e
 cases r3
 exact Gr ⟨H3,I3,q3⟩
def tu (r r':R2)(ta tb tc:TE):TE:=λ σ H Q=>ta σ H λ x H1=>tb σ H1 λ y H2=>r x y H2 λ z H3=>∃k,z=.bl k /\
 (if k=true then tc σ H3 λ w' H4=>r' y w' H4 Q else Q (.bl false) H3)
theorem j4 {op op':CmpOp}{r r':R2}(ho:OpR X (Ga op) r)(ho':OpR X (Ga op') r')(ha:PE X a ta)(hb:PE X b tb)(hc:PE X c tc)
  (hm:lastMarks [op,op'] [b,c]=false:=by with_unfolding_all rfl):PE X (.Compare a [op,op'] [b,c] pos) (tu r r' ta tb tc):=by
 intro pins s σ H Q I h
 refine Compare_chain (thn (ha pins s σ H _ I h) λ v s1 ⟨x,H1,I1,r1,q1⟩=>chain_link (thn (hb pins s1 σ H1 _ I1 q1) λ u s2 ⟨y,H2,I2,r2,q2⟩ =>
  thn (ho pins s2 σ H2 x y v u _ I2 r1 r2 q2) λ d s3 ⟨z,H3,I3,r3,k,e,q3⟩=>?_)) hm
 subst e
 cases r3
 refine Gr ?_
 cases k with
 |false=>exact ite_ff ⟨.bl false,H3,I3,rfl,q3⟩
 |true=>exact ite_tt (chain_last (thn (hc pins s3 σ H3 _ I3 q3) λ w' s4 ⟨z',H4,I4,r4,q4⟩=>ho' pins s4 σ H4 y z' u w' Q I4 r2 r4 q4))
theorem mG {op op':CmpOp}{r r':R2}(ho:OpR X (Ga op) r)(ho':OpR X (Ga op') r')(ha:PE X a ta)(hb:PE X b tb)(hc:PE X c tc)
  (hm:lastMarks [op,op'] [b,c]=false:=by with_unfolding_all rfl):PT X (.Compare a [op,op'] [b,c] pos) (fh (tu r r' ta tb tc)):=by
 intro pins s σ H Q I h
 refine isTrue_chain (thn (ha pins s σ H _ I h) λ v s1 ⟨x,H1,I1,r1,q1⟩=>test_link (thn (hb pins s1 σ H1 _ I1 q1) λ u s2 ⟨y,H2,I2,r2,q2⟩ =>
  thn (ho pins s2 σ H2 x y v u _ I2 r1 r2 q2) λ d s3 ⟨z,H3,I3,r3,k,e,q3⟩=>?_)) hm
 subst e
 cases r3
 refine Gr ?_
 cases k with
 |false =>
  obtain⟨k',e',q'⟩:=q3
  cases e'
  exact ite_ff ⟨H3,I3,q'⟩
 |true =>
  refine ite_tt (test_last (thn (hc pins s3 σ H3 _ I3 q3) λ w' s4 ⟨z',H4,I4,r4,q4⟩=>thn (ho' pins s4 σ H4 y z' u w' _ I4 r2 r4 q4) λ d' s5 ⟨z2,H5,I5,r5,k2,e2,q5⟩=>?_))
  subst e2
  cases r5
  exact Gr ⟨H5,I5,q5⟩
theorem qh:(EL:Nat)<2 ^ 63:=by rw[sizeLine_eq];decide
theorem wY {x:V}{us:List Value}(r:aT [x] us):∃u,us=[u]/\a5 x u:=by
 cases r with
 |cons r1 r2=>cases r2;exact⟨_,rfl,r1⟩
theorem zW {x y:V}{us:List Value}(r:aT [x,y] us):∃u w',us=[u,w']/\a5 x u/\a5 y w':=by
 cases r with
 |cons r1 r2 =>
  cases r2 with
  |cons r3 r4=>cases r4;exact⟨_,_,rfl,r1,r3⟩
theorem oq (hc:X.calm=true):l9 X (.builtin "max") (λ xs H Q=>∃i j,xs=[.int i,.int j]/\Q (.int (if j > i then j else i)) H):=by
 intro pins s σ H xs us Q I r h
 obtain⟨i,j,rfl,q⟩:=h
 obtain⟨u,w',rfl,⟨t,rfl⟩,⟨t',rfl⟩⟩:=zW r
 refine max_two_ints (I.ok.hd hc) λ h' tk k=>⟨_,H,I.kept k,?_,q⟩
 by_cases hj:j > i
 ·rw[EU hj,EU hj];exact⟨_,rfl⟩
 ·rw[EM hj,EM hj];exact⟨_,rfl⟩
theorem oY (hc:X.calm=true):l9 X (.builtin "min") (λ xs H Q=>∃i j,xs=[.int i,.int j]/\Q (.int (if j<i then j else i)) H):=by
 intro pins s σ H xs us Q I r h
 obtain⟨i,j,rfl,q⟩:=h
 obtain⟨u,w',rfl,⟨t,rfl⟩,⟨t',rfl⟩⟩:=zW r
 refine min_two_ints (I.ok.hd hc) λ h' tk k=>⟨_,H,I.kept k,?_,q⟩
 by_cases hj:j<i
 ·rw[EU hj,EU hj];exact⟨_,rfl⟩
 ·rw[EM hj,EM hj];exact⟨_,rfl⟩
end
end L2
namespace L2
open PySem PySem.Spec PyProof.Rows
structure sN (h:Heap)(x dx C:EJ)(mA:Str->Option Value):Prop where
 obj:h.get? x=some (GZ C dx)
 ns:h.Ns1 dx mA
 ne:dx≠x
theorem uX {h:Heap}{dx:EJ}{mA:Str->Option Value}(n:h.Ns1 dx mA):∃od,h.get? dx=some od/\∀name,PySem.W.lookIn name od=some (mA name):=by
 obtain⟨o,es,ep,ho,hd,hk,_,hm⟩:=n
 refine⟨o,ho,λ name=>?_⟩
 have e:=hm name
 unfold nsFind findBy at e
 rw[<-Array.find?_toList]at e
 unfold PySem.W.lookIn
 rw[hd]
 dsimp only
 split
 ·rename_i y q
  rw[q]at e
  exact Gy some e
 ·rename_i q
  rw[q]at e
  have a:es.toList.any (·.refKey)=false:=by
   rw[Hu]
   intro y hy
   obtain⟨z,t,hkey⟩:=hk y (Array.mem_toList_iff.mp hy)
   simp[DictEntry.refKey,hkey]
  have a':¬es.toList.any (·.refKey)=true:=by rw[a];exact EZ
  rw[EM a']
  exact Gy some e
theorem sN.look {h:Heap}{x dx C:EJ}{mA:Str->Option Value}(I:sN h x dx C mA):∃od,PySem.W.InstAt h x (GZ C dx) C (some od)/\∀name,PySem.W.lookIn name od=some (mA name) :=
 let ⟨od,ho,hl⟩:=uX I.ns
 ⟨od,⟨I.obj,rfl,rfl,ho⟩,hl⟩
section
variable  {prog:E8}{w:FL}{A:Around}{E:Value->EK->Prop}{s:EK}{K:FQ}{x dx C f:EJ}{mA:Str->Option Value}{name:Str}{v:Value}
theorem yN {expr:Bool}{Q:Value->EK->Prop}(X:K.In s.heap)(I:sN s.heap x dx C mA)(hg:HC K C name=true)(hh:Ie K C=true)
  (ha:Fn K (.ref C) name=some none) (hv:mA name=some v) (hv':PySem.W.handedIn v=true) (h:Q v { s with toks:=s.toks+1 }) :
  Fp (FC prog w) A (getAttr (.ref x) name expr) Q E s:=by
 obtain⟨od,J,hl⟩:=I.look
 exact PySem.W.get_value X J (PySem.W.plainGet_of hg).1 (PySem.W.findObj_own hh ha rfl (by rw[hl,hv])) hv' h
theorem xO {pl:Sem Bool}{Q:Value×List Value->EK->Prop}(X:K.In s.heap)(I:sN s.heap x dx C mA)(hg:HC K C name=true)
  (hf:Fn K (.ref C) name=some (some (.ref f))) (ht:GX K (.ref f)=true) (hv:mA name=none) (h:Q (.ref f,[.ref x]) s) :
  Fp (FC prog w) A (getMethod (.ref x) name pl) Q E s:=by
 obtain⟨od,J,hl⟩:=I.look
 exact PySem.W.method_fn X J (PySem.W.plainGet_of hg).1 (PySem.W.plainGet_of hg).2 hf (HI.mp ht) (by show(PySem.W.lookIn name od).map (·.isSome)=some false;rw[hl,hv];rfl) h
theorem yB {ns:List Str}{Q:Unit->EK->Prop}(X:K.In s.heap)(I:sN s.heap x dx C mA)
  (hs:Fn K (.ref C) "__setattr__"=some (some (.builtin "object.__setattr__"))) (hp:PySem.W.plainOver K C=true) (ht:PySem.W.takerIn K C name=some none) (hh:Ie K C=true)
  (hw:PySem.Within mA ns) (hsz:ns.length<=EL)
  (h:∀h',sN h' x dx C (λ y=>if y=name then some v else mA y)->Heap.SameBut dx s.heap h'->Q () { s with heap:=h',toks:=s.toks+2 }) :
  Fp (FC prog w) A (setAttr (.ref x) name v) Q E s:=by
 obtain⟨od,J,hl⟩:=I.look
 refine PySem.W.set_plain X J hs (PySem.W.osa_open (s:={ s with toks:=s.toks+1 }) (r:=none) X J hp ht λ b=>?_)
 obtain⟨cd,hc,hd'⟩:=PySem.W.any_some hh
 have hx:s.heap.get? x=some ⟨.ref C,some dx,.plain,#[]⟩:=I.obj
 refine EI (E5 (EI (EI (wpAny_loadPart hx (EI (PySem.W.Looks.here (s:={ s with toks:=s.toks+1 }) (PySem.W.looks_clsIn X hc) ?_))))))
 rw[hd']
 refine E5 (a:=some dx) (EI (E5 (EI ?_)))
 refine wpAny_nsSet1 (s:={ s with toks:=s.toks+1 }) I.ns λ h' hn2 hs2=>?_
 obtain⟨oD,esD,epD,hoD,hdD,hcD⟩:=hn2.count (PySem.Within.cons name v hw)
 refine EI (wpAny_lookBehind hoD (by rw[hdD];exact pastItsLine_dict (Fw hcD (by rw[Ft];omega))) ?_)
 exact E5 (h _ ⟨(hs2.2 _ (Fj I.ne)).trans I.obj,hn2,I.ne⟩ hs2)
theorem wJ {R:Result->EK->Prop}{vs:List Value}{kw:List (Str×Value)}(X:K.In s.heap)(hm:PySem.W.makesIn K C=true)
  (hi:Fn K (.ref C) "__init__"=some (some (.ref f))) (hf:PySem.W.typeIn K (.ref f)=some (.type "function"))
  (h:codeAny (FC prog w) (A.under (.builtin "type.__call__" ⟨.ref C :: vs,kw⟩)) (.call (.ref f) ⟨.ref (s.heap.objs.size+1) :: vs,kw⟩) (PySem.W.InitBack (s.heap.objs.size+1) R)
   { s with heap:=(s.heap.push Gs).push (GZ C s.heap.objs.size) }) :
  codeAny (FC prog w) A (.call (.ref C) ⟨vs,kw⟩) R s:=by
 obtain⟨hh,g,d,t,os⟩:=s
 exact PySem.W.make_core (PySem.W.makes_of X hm) (PySem.W.looks_findIn X hi) (λ self=>PySem.W.bind_fn X self hf) (.inl rfl) h
end
def eY (f:Str)(v:V):List (Str×V)->List (Str×V)
 |[]=>[(f,v)]
 |(g,x) :: r=>if g=f then (g,v) :: r else (g,x) :: eY f v r
theorem aH (f g:Str)(v:V):∀fs:List (Str×V),(eY f v fs).lookup g=if g=f then some v else fs.lookup g
 |[]=>by
  show Iu g [(f,v)]=_
  by_cases h:g=f
  ·have hb:(g==f)=true:=HI.mpr h
   simp only[Iu,hb,EU h]
  ·have hb:(g==f)=false:=Gb.mpr h
   simp only[Iu,hb,EM h]
 |(k,x) :: r=>by
  have ih:=aH f g v r
  rw[show eY f v ((k,x) :: r)=(if k=f then (k,v) :: r else (k,x) :: eY f v r) from rfl]
  by_cases hk:k=f
  ·rw[EU hk]
   by_cases h:g=k
   ·have hb:(g==k)=true:=HI.mpr h
    simp only[Iu,hb,EU (h.trans hk)]
   ·have hb:(g==k)=false:=Gb.mpr h
    simp only[Iu,hb,EM (λ e:g=f=>h (e.trans hk.symm))]
  ·rw[EM hk]
   by_cases h:g=k
   ·have hb:(g==k)=true:=HI.mpr h
    simp only[Iu,hb,EM (λ e:g=f=>hk (h.symm.trans e))]
   ·have hb:(g==k)=false:=Gb.mpr h
    simp only[Iu,hb]
    exact ih
theorem kT (f:Str)(v:V):∀fs:List (Str×V),f∈(eY f v fs).map (·.1)/\∀g,g∈fs.map (·.1)->g∈(eY f v fs).map (·.1)
 |[]=>⟨by simp[eY],λ g h=>by simp at h⟩
 |(k,x) :: r=>by
  obtain⟨i1,i2⟩:=kT f v r
  rw[show eY f v ((k,x) :: r)=(if k=f then (k,v) :: r else (k,x) :: eY f v r) from rfl]
  by_cases hk:k=f
  ·rw[EU hk]
   subst hk
   exact⟨by simp,λ g h=>by simpa using h⟩
  ·rw[EM hk]
   refine⟨?_,λ g h=>?_⟩
   ·rw[Fl]
    exact EQ _ i1
   ·rw[Fl]at h ⊢
    rcases ES.mp h with e|e
    ·exact ES.mpr (.inl e)
    ·exact EQ _ (i2 g e)
theorem lj (f:Str)(v:V):∀fs:List (Str×V),(eY f v fs).length<=fs.length+1
 |[]=>by simp[eY]
 |(k,x) :: r=>by
  have ih:=lj f v r
  rw[show eY f v ((k,x) :: r)=(if k=f then (k,v) :: r else (k,x) :: eY f v r) from rfl]
  by_cases hk:k=f
  ·rw[EU hk,Ft,Ft];omega
  ·rw[EM hk,Ft,Ft];omega
theorem kn.some_of {v:V}{o:Option Value}(r:kn (some v) o):∃u,o=some u/\a5 v u:=by
 cases o with
 |none=>exact(show False from r).elim
 |some u=>exact⟨u,rfl,r⟩
theorem kn.none_of {o:Option Value}(r:kn none o):o=none:=by
 cases o with
 |none=>rfl
 |some u=>exact(show False from r).elim
theorem vS {v:V}{u:Value}(r:a5 v u):PySem.W.handedIn u=true:=by
 cases v with
 |non=>cases (show u=Ia from r);rfl
 |bl b=>cases (show u=Value.bool b from r);rfl
 |int i=>obtain⟨t,e⟩:=(show ∃t,u=Value.int i t from r);cases e;rfl
 |str x=>obtain⟨t,e⟩:=(show ∃t,u=Value.str x t from r);cases e;rfl
 |byt b=>obtain⟨t,e⟩:=(show ∃t,u=Value.bytes b t from r);cases e;rfl
 |flt b=>obtain⟨t,e⟩:=(show ∃t,u=Value.float b t from r);cases e;rfl
 |ref a=>cases (show u=FA a from r);rfl
 |ty n=>cases (show u=Value.type n from r);rfl
section
variable  {P:E8}{w:FL}{H H':Hp}{h h':Heap}{a C dx:EJ}{fs fs':List (Str×V)}
theorem pQ (hok:HOk P w H h)(e:H a=some (.ins C dx fs)):∃mA,sN h a dx C mA/\(∀f,kn (fs.lookup f) (mA f))/\PySem.Within mA (fs.map (·.1))/\fs.length<=1000/\H dx=some (.own a):=by
 obtain⟨d,z,ne,ob,mA,n,r,q⟩:=(show cf P w H h a (.ins C dx fs) from hok a _ e)
 exact⟨mA,⟨ob,n,ne⟩,r,q,z,d⟩
end
structure Cls (K:FQ)(C:EJ):Prop where
 pg:HC K C Str.empty=true
 hd:Ie K C=true
 po:PySem.W.plainOver K C=true
 sa:Fn K (.ref C) "__setattr__"=some (some (.builtin "object.__setattr__"))
theorem Cls.get {K:FQ}{C:EJ}(c:Cls K C)(f:Str):HC K C f=true:=c.pg
def eq (K:FQ)(C:EJ)(f:Str):Prop:=Fn K (.ref C) f=some none
theorem eq.taker {K:FQ}{C:EJ}{f:Str}(n:eq K C f):PySem.W.takerIn K C f=some none:=by
 unfold PySem.W.takerIn
 rw[show Fn K (.ref C) f=some none from n]
 rfl
structure vT (K:FQ)(C:EJ)(m:Str)(f:EJ):Prop where
 at_:Fn K (.ref C) m=some (some (.ref f))
 fn:GX K (.ref f)=true
 kp:FK K (.ref f)=true
section
variable  {X:Cx}{pins:List (EJ×Obj)}{σ:St}{H:Hp}{s:EK}{a C dx:EJ}{fs:List (Str×V)}{f:Str}{v:V}{A:Around}{E:Value->EK->Prop}
theorem sQ {b:Bool}{Q:Value->EK->Prop}(I:Inv X pins σ H s)(e:H a=some (.ins C dx fs))(c:Cls X.K C)(n:eq X.K C f)(l:fs.lookup f=some v)
  (h:∀u s',Inv X pins σ H s'->a5 v u->Q u s'):Fp (FC X.prog X.w) A (getAttr (.ref a) f b) Q E s:=by
 obtain⟨mA,O,r,_,_,_⟩:=pQ I.hok e
 obtain⟨u,hu,ru⟩:=kn.some_of (v:=v) (o:=mA f) (by rw[<-l];exact r f)
 exact yN I.kIn O (c.get f) c.hd n hu (vS ru) (h u _ (I.tok _) ru)
theorem jS {m:Str}{g:EJ}{pl:Sem Bool}{Q:Value×List Value->EK->Prop}(I:Inv X pins σ H s)(e:H a=some (.ins C dx fs))(c:Cls X.K C)(k:vT X.K C m g)(l:fs.lookup m=none)
  (h:Q (.ref g,[.ref a]) s):Fp (FC X.prog X.w) A (getMethod (.ref a) m pl) Q E s:=by
 obtain⟨mA,O,r,_,_,_⟩:=pQ I.hok e
 have hn:mA m=none:=kn.none_of (by rw[<-l];exact r m)
 exact xO I.kIn O (c.get m) k.at_ k.fn hn h
theorem tE {y:V}{u:Value}{Q:Unit->EK->Prop}(I:Inv X pins σ H s)(e:H a=some (.ins C dx fs))(c:Cls X.K C)(n:eq X.K C f)(hl:fs.length<1000)(ry:a5 y u)
  (h:∀s',Inv X pins σ (upd H a (.ins C dx (eY f y fs))) s'->Q () s'):Fp (FC X.prog X.w) A (setAttr (.ref a) f u) Q E s:=by
 obtain⟨mA,O,r,wi,_,ho⟩:=pQ I.hok e
 have hz:(fs.map (·.1)).length<=EL:=by rw[lmp,sizeLine_eq];omega
 refine yB I.kIn O c.sa c.po n.taker c.hd wi hz λ h' O' sb=>h _ ?_
 have hd:∃o,h'.get? dx=some o:=let ⟨o,_,_,e',_⟩:=O'.ns;⟨o,e'⟩
 refine I.write (x:=a) (e:=dx) (by rw[e];exact True.intro) (.inr ho) (λ b q hb z=>(sb.2 b hb).trans z) hd ?_
 refine⟨by rw[ap O.ne];exact ho,?_,O.ne,O'.obj,_,O'.ns,λ g=>?_,λ g hg=>?_⟩
 ·have:=lj f y fs;omega
 ·show kn ((eY f y fs).lookup g) (if g=f then some u else mA g)
  rw[aH]
  by_cases q:g=f
  ·rw[EU q,EU q];exact ry
  ·rw[EM q,EM q];exact r g
 ·by_cases q:g=f
  ·rw[q];exact(kT f y fs).1
  ·refine(kT f y fs).2 g (wi g λ z=>hg ?_)
   show(if g=f then some u else mA g)=none
   rw[EM q];exact z
theorem Inv.made (I:Inv X pins σ H s):Inv X pins σ (upd (upd H s.heap.objs.size (.own (s.heap.objs.size+1))) (s.heap.objs.size+1) (.ins C s.heap.objs.size []))
  { s with heap:=(s.heap.push Gs).push (GZ C s.heap.objs.size) }:=by
 have e1:(s.heap.push Gs).get? s.heap.objs.size=some Gs:=Fb s.heap rfl
 have e2:((s.heap.push Gs).push (GZ C s.heap.objs.size)).get? (s.heap.objs.size+1)=some (GZ C s.heap.objs.size):=by
  have:=Fb (s.heap.push Gs) (o:=GZ C s.heap.objs.size) rfl
  rwa [F6]at this
 have e3:(s.heap.push Gs).Ns s.heap.objs.size (λ _=>none):=⟨Gs,#[],_,e1,rfl,(λ e he=>absurd he (by simp)),λ _=>rfl⟩
 have I1:=I.laid (a:=s.heap.objs.size) (o:=.own (s.heap.objs.size+1)) (h':=s.heap.push Gs) (t':=s.toks) (λ b u q=>EV _ q) (nlr _) ⟨_,e1⟩
 refine I1.laid (a:=s.heap.objs.size+1) (o:=.ins C s.heap.objs.size []) (t':=s.toks) (λ b u q=>EV _ q) (Nat.le_of_eq (F6 _ _)) ?_
 have ne:s.heap.objs.size≠s.heap.objs.size+1:=Fv (Nat.lt_succ_self _)
 refine⟨by rw[ap ne,ag],FR _,ne,e2,λ _=>none,(Heap.Ns1.of_empty e3).at λ o q=>EV _ q,λ _=>True.intro,λ y hy=>absurd rfl hy⟩
theorem yR {prog:E8}{w:FL}{env:Env}{e:Expr}{f:Str}{pos:Pos}{s:EK}{Q:Value->EK->Prop}(hb:attributeBase e f env (Ik e env)=Ik e env)
  (h:Fp (FC prog w) A (Ik e env) (λ o s₁=>Fp (FC prog w) A (getAttr o f true) Q E s₁) E s):Fp (FC prog w) A (Ik (.Attribute e f pos) env) Q E s :=
 Attribute_any_ h (by rw[arm_eval_Attribute,hb])
end
def xL (K:FQ)(ta:TE)(f:Str):TE:=λ σ H Q=>ta σ H λ x H1=>∃a C dx fs v,x=.ref a/\H1 a=some (.ins C dx fs)/\Cls K C/\eq K C f/\fs.lookup f=some v/\Q v H1
def DV (K:FQ)(ta tv:TE)(f:Str):TS:=λ D σ H=>tv σ H λ y H1=>ta σ H1 λ x H2=>∃a C dx fs,x=.ref a/\H2 a=some (.ins C dx fs)/\Cls K C/\eq K C f/\fs.length<1000 /\
 D.nx σ (upd H2 a (.ins C dx (eY f y fs)))
section
variable  {X:Cx}{o e value:Expr}{f:Str}{pos pos' tpos:Pos}{ta tv:TE}
theorem aR (he:PE X e ta)(hb:attributeBase e f X.env (Ik e X.env)=Ik e X.env):PE X (.Attribute e f pos) (xL X.K ta f):=by
 intro pins s σ H Q I h
 refine yR hb (thn (he pins s σ H _ I h) λ u s1 ⟨x,H1,I1,rx,a,C,dx,fs,v,ex,ea,c,n,l,q⟩=>?_)
 subst ex
 obtain rfl:u=FA a:=rx
 exact sQ I1 ea c n l λ u' s2 I2 ru=>⟨v,H1,I2,ru,q⟩
theorem iJ (ha:PE X o ta)(hv:PE X value tv)(hs:swapsWith value (some (.Attribute o f pos')) pos.line X.env=pure false):PS X (.Assign [.Attribute o f pos'] value pos) (DV X.K ta tv f):=by
 intro pins s σ H D I h
 refine plainObj_wpAny_Assign_Attribute (thn (hv pins s σ H _ I h) λ u s1 ⟨y,H1,I1,ry,q⟩=>thn (ha pins s1 σ H1 _ I1 q) λ ov s2 ⟨x,H2,I2,rx,a,C,dx,fs,ex,ea,c,n,l,q2⟩=>?_) hs
 subst ex
 obtain rfl:ov=FA a:=rx
 exact tE I2 ea c n l ry λ s3 I3=>⟨σ,_,I3,q2⟩
theorem zB {pl:Sem Bool}{m:Str}{apos:Pos}{args:List Expr}{pins:List (EJ×Obj)}{s:EK}{σ:St}{H:Hp}{Q:Value->EK->Prop}{te:TE}(he:PE X e te)(I:Inv X pins σ H s)
  (h:te σ H λ x H1=>∃a C dx fs g,x=.ref a/\H1 a=some (.ins C dx fs)/\Cls X.K C/\vT X.K C m g/\fs.lookup m=none /\
   ∀s1,Inv X pins σ H1 s1->Fp (FC X.prog X.w) X.A (callWith pos (.ref g) [.ref a] (HL pos (Fo args X.env)) (backToKw pos (HN [] X.env))) Q X.xe s1)
  (ht:Ik (.Call (.Attribute e m apos) args [] pos) X.env=(do
   let ov <-Ik e X.env
   standAt apos.atName
   let (f,first) <-holding [ov] (getMethod ov m pl)
   callWith pos f first (HL pos (Fo args X.env)) (backToKw pos (HN [] X.env)))) :
  Fp (FC X.prog X.w) X.A (Ik (.Call (.Attribute e m apos) args [] pos) X.env) Q X.xe s:=by
 refine PySem.W.methodCall_KW (pl:=pl) (thn (he pins s σ H _ I h) λ u s1 ⟨x,H1,I1,rx,a,C,dx,fs,g,ex,ea,c,k,l,q⟩=>?_) ht
 subst ex
 obtain rfl:u=FA a:=rx
 exact jS I1 ea c k l (q s1 I1)
end
section
variable  {X:Cx}{pins:List (EJ×Obj)}{σ:St}{H:Hp}{s:EK}{A:Around}{E:Value->EK->Prop}{Q:Value->EK->Prop}{c:Value}{b:Bool}
end
end L2
namespace L2
open PySem PySem.Spec PyProof.Rows
structure bu (k:Nat)(A:Around):Prop where
 hd:A.handled=none
 dp:A.depth+3*k+5<recursionLimit
 un:A.units+16*k+200<cLine
theorem bu.mono {j k:Nat}{A:Around}(r:bu k A)(h:j<=k):bu j A:=⟨r.hd,by have:=r.dp;omega,by have:=r.un;omega⟩
theorem bu.deeper {k:Nat}{A:Around}(r:bu (k+1) A)(env:Env):bu k (A.deeper env) :=
 ⟨r.hd,by have:=r.dp;show A.depth+1+3*k+5<_;omega,by have:=r.un;show A.units+3+16*k+200<_;omega⟩
theorem tm {A:Around}{C:EJ}{us:List Value}{kw:List (Str×Value)}:(A.under (.builtin "type.__call__" ⟨.ref C :: us,kw⟩)).depth=A.depth+1:=by
 first|rfl|simp[Around.under,Code.weight,Code.isCreation,Code.isGuard,Code.isCaller,Code.frames,Code.isFrame,guardIds]
theorem sZ {A:Around}{C:EJ}{us:List Value}{kw:List (Str×Value)}:(A.under (.builtin "type.__call__" ⟨.ref C :: us,kw⟩)).units=A.units+1:=by
 first|rfl|simp[Around.under,Code.cUnits,Code.frames,Code.isFrame]
theorem bu.make {k:Nat}{A:Around}(r:bu (k+1) A)(C:EJ)(us:List Value)(kw:List (Str×Value)):bu k (A.under (.builtin "type.__call__" ⟨.ref C :: us,kw⟩)) :=
 ⟨r.hd,by have:=r.dp;rw[tm];omega,by have:=r.un;rw[sZ];omega⟩
theorem bu.depth {k:Nat}{A:Around}(r:bu k A):A.depth<recursionLimit:=by have:=r.dp;omega
theorem bu.units {k:Nat}{A:Around}(r:bu k A):A.units+64<cLine:=by have:=r.un;omega
theorem bu.units0 {k:Nat}{A:Around}(r:bu k A):A.units<cLine:=by have:=r.un;omega
def fY:TA:=λ _ H Q=>Q [] H
def bD (ta:TE)(tr:TA):TA:=λ σ H Q=>ta σ H λ x H1=>tr σ H1 λ xs H2=>Q (x :: xs) H2
section
variable  {X:Cx}{e:Expr}{es:List Expr}{te:TE}{t:TA}{pos:Pos}
theorem ac:PA X [] fY:=λ _ _ _ _ H Q I h=>Calls.spliced_nil ⟨[],H,I,.nil,h⟩
theorem aa (ha:PE X e te)(hr:PA X es t)(hs:Fo (e :: es) X.env=(false,Ik e X.env) :: Fo es X.env:=by rfl):PA X (e :: es) (bD te t):=by
 intro pos pins s σ H Q I h
 rw[hs]
 show Fp _ _ (spliced ((false,Ik e X.env) :: HL pos (Fo es X.env))) _ _ s
 refine Calls.spliced_cons (thn (ha pins s σ H _ I h) λ u s1 ⟨x,H1,I1,r1,q1⟩=>?_)
 exact thn (hr pos pins s1 σ H1 _ I1 q1) λ us s2 ⟨xs,H2,I2,r2,q2⟩=>⟨x :: xs,H2,I2,.cons r1 r2,q2⟩
def uZ (t:TA):TE:=λ σ H Q=>t σ H λ xs H1=>xs.length<=EL/\∀p,H1 p=none->Q (.ref p) (upd H1 p (.tup xs))
def Dy (t:TA):TE:=λ σ H Q=>t σ H λ xs H1=>xs.length<=EL/\∀p,H1 p=none->Q (.ref p) (upd H1 p (.lst xs))
theorem bA {x1}(h:PA X es t):PE X (.Tuple es x1 pos) (uZ t):=by
 intro pins s σ H Q I hq
 refine wpAny_Tuple_spliced (thn (h pos pins s σ H _ I hq) λ us s1 ⟨xs,H1,I1,r,z,q⟩=>⟨by rw[<-r.length];exact z,?_⟩)
 have hf:H1 s1.heap.objs.size=none:=I1.hok.fresh (nlr _)
 refine⟨.ref s1.heap.objs.size,upd H1 s1.heap.objs.size (.tup xs),I1.laid (t':=s1.toks) (λ b u e=>EV _ e) (nlr _) ?_,rfl,q _ hf⟩
 exact⟨z,us,r,⟨_,Fb _ rfl,rfl,_,rfl⟩⟩
theorem dL (h:PA X es t):PE X (.List es pos) (Dy t):=by
 intro pins s σ H Q I hq
 refine wpAny_List_spliced (thn (h pos pins s σ H _ I hq) λ us s1 ⟨xs,H1,I1,r,z,q⟩=>⟨by rw[<-r.length];exact z,?_⟩)
 have hf:H1 s1.heap.objs.size=none:=I1.hok.fresh (nlr _)
 refine⟨.ref s1.heap.objs.size,upd H1 s1.heap.objs.size (.lst xs),I1.laid (t':=s1.toks) (λ b u e=>EV _ e) (nlr _) ?_,rfl,q _ hf⟩
 exact⟨z,us,0,r,Fb _ rfl⟩
end
abbrev Sp:=List V->Hp->VK->XK->Prop
abbrev CXT:=List Env->Hp->EK->XK->Value->EK->Prop
structure rE (P:E8)(w:FL)(K:FQ)(mg:Str->Option Value)(base:Heap)(A:Around)(outer:List Env)(s:EK)(H:Hp):Prop where
 frames:A.frames=some outer
 mod:Mod K mg base
 bs:∀b o,base.get? b=some o->s.heap.get? b=some o/\H b=none
 bsz:base.objs.size<=s.heap.objs.size
 funs:s.heap.FunFrames base outer
 frf:∀b∈frs outer,H b=none
 hok:HOk P w H s.heap
 bare:AllBare s.gens
def CE (outer:List Env)(P:E8)(w:FL)(H:Hp)(s:EK)(Q:VK)(u:Value)(s':EK):Prop :=
 ∃v H',s'.os=s.os/\AllBare s'.gens/\Un (frs outer) [] H H' s.heap s'.heap/\HOk P w H' s'.heap/\a5 v u/\Q v H'
def CR (CX:CXT)(outer:List Env)(P:E8)(w:FL)(H:Hp)(s:EK)(Q:VK)(E:XK)(r:Result)(s':EK):Prop :=
 match r with
 |.ok (.ret u)=>CE outer P w H s Q u s'
 |.ok _=>False
 |.error e=>CX outer H s E e s'
structure jw (P:E8)(w:FL)(K:FQ)(mg:Str->Option Value)(base:Heap)(CX:CXT)(k:Nat)(f:EJ)(fd:Im)(ps:List Str)(sp:Sp):Prop where
 len:∀vs H Q E,sp vs H Q E->vs.length=ps.length
 run:∀(A:Around) (outer:List Env) (s:EK) (H:Hp) (args:Args) (us:List Value) (vs:List V) (Q:VK) (E:XK),bu k A->rE P w K mg base A outer s H->BindsTo s fd args (ps.zip us)->aT vs us->sp vs H Q E ->
  codeAny (FC P w) A (.call (.ref f) args) (CR CX outer P w H s Q E) s
theorem rE.make {P:E8}{w:FL}{K:FQ}{mg:Str->Option Value}{base:Heap}{A:Around}{outer:List Env}{s:EK}{H:Hp}(e:rE P w K mg base A outer s H)(C:EJ)(us:List Value)(kw:List (Str×Value)) :
  rE P w K mg base (A.under (.builtin "type.__call__" ⟨.ref C :: us,kw⟩)) outer s H:=⟨by first|exact e.frames|(simpa [Around.under,Code.envs,Code.isFrame,pushEnvs] using e.frames),e.mod,e.bs,e.bsz,e.funs,e.frf,e.hok,e.bare⟩
section
variable  {X:Cx}{pins:List (EJ×Obj)}{σ:St}{H:Hp}{s s':EK}
theorem Inv.env0 (I:Inv X pins σ H s):rE X.prog X.w X.K X.mg X.base X.A X.stack s H :=
 ⟨I.ok.frames,I.ok.mod,I.bs,Fw I.ok.bsz I.sz,I.stack,I.stkFree,I.hok,I.bare⟩
theorem Inv.after {Q:VK}{u:Value}(I:Inv X pins σ H s)(h:CE X.stack X.prog X.w H s Q u s'):EP X pins σ Q u s':=by
 obtain⟨v,H',os,bare,un,hok,r,q⟩:=h
 obtain⟨hh,g,d,t,os'⟩:=s'
 obtain rfl:os'=s.os:=os
 exact⟨v,H',I.call (h':=hh) (g':=g) (d':=d) (t':=t) (ch:=[]) un hok bare (λ b z=>absurd z (by simp)),r,q⟩
end
def lL (sp:Sp)(dvs:List V)(E:XK)(t:TA):TE:=λ σ H Q=>t σ H λ vs H1=>sp (vs++dvs) H1 Q E
def kj (C:EJ)(m:Str)(sp:Sp)(dvs:List V)(E:XK)(ta:TE)(t:TA):TE:=λ σ H Q=>ta σ H λ x H1=>∃a dx fs,x=.ref a/\H1 a=some (.ins C dx fs)/\fs.lookup m=none /\
 t σ H1 λ vs H2=>sp (x :: (vs++dvs)) H2 Q E
def zE (C:EJ)(sp:Sp)(dvs:List V)(E:XK)(t:TA):TE:=λ σ H Q=>t σ H λ vs H1=>∀x dx,H1 x=none->H1 dx=none->dx≠x ->
 sp (.ref x :: (vs++dvs)) (upd (upd H1 dx (.own x)) x (.ins C dx [])) (λ v H2=>v=.non/\Q (.ref x) H2) E
def iO (K:FQ)(fd:Im)(ps:List Str)(ds:List Value):Prop :=
 ∀(s:EK) (us:List Value),K.In s.heap->(us++ds).length=ps.length->BindsTo s fd ⟨us,[]⟩ (ps.zip (us++ds))
theorem iO.all {K:FQ}{fd:Im}{ps:List Str}(h:∀us:List Value,us.length=ps.length->bindArgs fd ⟨us,[]⟩=pure (ps.zip us)):iO K fd ps []:=λ s us _ hl=>by
 rw[Gd]at hl ⊢
 exact .of_eq (h us hl)
def jJ (CX:CXT)(X:Cx)(E:XK):Prop:=∀(pins:List (EJ×Obj)) (σ:St) (H:Hp) (s:EK) (e:Value) (s':EK),Inv X pins σ H s->CX X.stack H s E e s'->X.xe e s'
section
variable  {X:Cx}{CX:CXT}{k:Nat}{f C:EJ}{fd:Im}{ps:List Str}{sp:Sp}{dvs:List V}{ds:List Value}{E:XK}{x m:Str}{p pos apos:Pos}{e o:Expr}{es:List Expr}{ta:TE}{t:TA}
theorem sR {pins:List (EJ×Obj)}{σ:St}{H:Hp}{s:EK}{Q:VK}{us:List Value}{vs:List V}(F:jw X.prog X.w X.K X.mg X.base CX k f fd ps sp)(hr:bu k X.A)(hb:iO X.K fd ps ds)(hd:aT dvs ds)(hx:jJ CX X E)
  (I:Inv X pins σ H s) (r:aT vs us) (h:sp (vs++dvs) H Q E):Fp (FC X.prog X.w) X.A (call (.ref f) us) (EP X pins σ Q) X.xe s:=by
 have r2:aT (vs++dvs) (us++ds):=r.append hd
 have hl:(us++ds).length=ps.length:=by rw[<-r2.length];exact F.len _ _ _ _ h
 refine wpAny_call (codeAny_mono (F.run X.A X.stack s H ⟨us,[]⟩ (us++ds) (vs++dvs) Q E hr I.env0 (hb s us I.kIn hl) r2 h) λ r s' hq=>?_)
 cases r with
 |error e=>exact hx pins σ H s e s' I hq
 |ok fl =>
  cases fl with
  |ret u=>exact I.after hq
  |next=>exact Gk hq
  |brk=>exact Gk hq
  |cont=>exact Gk hq
theorem y9 (F:jw X.prog X.w X.K X.mg X.base CX k f fd ps sp)(hr:bu k X.A)(hg:Gl X x)(hm:X.mg x=some (.ref f))(hk:FK X.K (.ref f)=true)(hb:iO X.K fd ps ds)(hd:aT dvs ds)(hx:jJ CX X E)
  (ha:PA X (e :: es) t) (hdb:(x==("__debug__" : Str))=false:=by decide) (he:Fo (e :: es) X.env=(false,Ik e X.env) :: Fo es X.env:=by rfl) (hpl:(HL pos (Fo es X.env)).any (·.1)=false:=by rfl) :
  PE X (.Call (.Name x p) (e :: es) [] pos) (lL sp dvs E t):=by
 intro pins s σ H Q I h
 refine HM (pK I hg hm ?_ hdb)
 refine PySem.W.callWith_K (h₀:=X.base) I.ok.mod.kin hk (thn (ha pos pins s σ H _ I h) λ us s1 ⟨vs,H1,I1,r,q⟩=>⟨I1.kIn,?_⟩) he hpl
 exact sR F hr hb hd hx I1 r q
theorem yy {pl:Sem Bool}(he:PE X o ta)(c:Cls X.K C)(hm:vT X.K C m f)(F:jw X.prog X.w X.K X.mg X.base CX k f fd ps sp)(hr:bu k X.A)(hb:iO X.K fd ps ds)(hd:aT dvs ds)(hx:jJ CX X E)(ha:PA X (e :: es) t)
  (hst:Fo (e :: es) X.env=(false,Ik e X.env) :: Fo es X.env:=by rfl) (hpl:(HL pos (Fo es X.env)).any (·.1)=false:=by rfl)
  (ht:Ik (.Call (.Attribute o m apos) (e :: es) [] pos) X.env=(do
   let ov <-Ik o X.env
   standAt apos.atName
   let (f,first) <-holding [ov] (getMethod ov m pl)
   callWith pos f first (HL pos (Fo (e :: es) X.env)) (backToKw pos (HN [] X.env))):=by rfl) :
  PE X (.Call (.Attribute o m apos) (e :: es) [] pos) (kj C m sp dvs E ta t):=by
 intro pins s σ H Q I h
 refine PySem.W.methodCall_KW (pl:=pl) (thn (he pins s σ H _ I h) λ u s1 ⟨x,H1,I1,rx,a,dx,fs,ex,ea,l,q⟩=>?_) ht
 subst ex
 obtain rfl:u=FA a:=rx
 refine jS I1 ea c hm l ?_
 refine PySem.W.callWith_K (first:=[.ref a]) (h₀:=X.base) I.ok.mod.kin hm.kp (thn (ha pos pins s1 σ H1 _ I1 q) λ us s2 ⟨vs,H2,I2,r,q2⟩=>⟨I2.kIn,?_⟩) hst hpl
 exact sR (us:=.ref a :: us) (vs:=.ref a :: vs) F hr hb hd hx I2 (.cons rfl r) q2
theorem wc {pl:Sem Bool}(he:PE X o ta)(c:Cls X.K C)(hm:vT X.K C m f)(F:jw X.prog X.w X.K X.mg X.base CX k f fd ps sp)(hr:bu k X.A)(hb:iO X.K fd ps ds)(hd:aT dvs ds)(hx:jJ CX X E)
  (ht:Ik (.Call (.Attribute o m apos) [] [] pos) X.env=(do
   let ov <-Ik o X.env
   standAt apos.atName
   let (f,first) <-holding [ov] (getMethod ov m pl)
   callWith pos f first (HL pos (Fo [] X.env)) (backToKw pos (HN [] X.env))):=by rfl) :
  PE X (.Call (.Attribute o m apos) [] [] pos) (kj C m sp dvs E ta fY):=by
 intro pins s σ H Q I h
 refine PySem.W.methodCall_KW (pl:=pl) (thn (he pins s σ H _ I h) λ u s1 ⟨x,H1,I1,rx,a,dx,fs,ex,ea,l,q⟩=>?_) ht
 subst ex
 obtain rfl:u=FA a:=rx
 refine jS I1 ea c hm l ?_
 exact PySem.W.callWith_K0 (first:=[.ref a]) I1.kIn hm.kp (sR (us:=[.ref a]) (vs:=[.ref a]) F hr hb hd hx I1 (.cons rfl .nil) q)
structure Mk (K:FQ)(C f:EJ):Prop where
 makes:PySem.W.makesIn K C=true
 init:Fn K (.ref C) "__init__"=some (some (.ref f))
 fn:GX K (.ref f)=true
 kp:FK K (.ref C)=true
theorem xX {pins:List (EJ×Obj)}{σ:St}{H:Hp}{s:EK}{Q:VK}{us:List Value}{vs:List V}(M:Mk X.K C f)(F:jw X.prog X.w X.K X.mg X.base CX k f fd ps sp)(hr:bu (k+1) X.A)(hb:iO X.K fd ps ds)(hd:aT dvs ds)
  (hx:jJ CX X E) (I:Inv X pins σ H s) (r:aT vs us)
  (h:∀x dx,H x=none->H dx=none->dx≠x->sp (.ref x :: (vs++dvs)) (upd (upd H dx (.own x)) x (.ins C dx [])) (λ v H2=>v=.non/\Q (.ref x) H2) E) :
  Fp (FC X.prog X.w) X.A (call (.ref C) us) (EP X pins σ Q) X.xe s:=by
 have hq:=h (s.heap.objs.size+1) s.heap.objs.size (I.hok.fresh (Nat.le_succ _)) (I.hok.fresh (nlr _)) (Fv (Nat.lt_succ_self _))
 have I2:=Inv.made (C:=C) I
 have r2:aT (V.ref (s.heap.objs.size+1) :: (vs++dvs)) (FA (s.heap.objs.size+1) :: (us++ds)):=.cons rfl (r.append hd)
 have hl:(FA (s.heap.objs.size+1) :: us++ds).length=ps.length:=by
  have e:=r2.length
  rw[F.len _ _ _ _ hq]at e
  exact e.symm
 refine wpAny_call (wJ (f:=f) I.kIn M.makes M.init (HI.mp M.fn) (codeAny_mono (F.run _ X.stack _ _ ⟨FA (s.heap.objs.size+1) :: us,[]⟩ (FA (s.heap.objs.size+1) :: (us++ds)) _ _ E (hr.make C us [])
  (I2.env0.make C us []) (hb _ (FA (s.heap.objs.size+1) :: us) I2.kIn hl) r2 hq) λ r s' hq'=>?_))
 cases r with
 |error e=>exact hx pins σ _ _ e s' I2 hq'
 |ok fl =>
  cases fl with
  |ret u =>
   obtain⟨v,H',I3,rv,ev,q3⟩:=I2.after hq'
   subst ev
   exact⟨rv,⟨V.ref (s.heap.objs.size+1),H',I3,rfl,q3⟩⟩
  |next=>exact Gk hq'
  |brk=>exact Gk hq'
  |cont=>exact Gk hq'
theorem yl (M:Mk X.K C f)(F:jw X.prog X.w X.K X.mg X.base CX k f fd ps sp)(hr:bu (k+1) X.A)(hg:Gl X x)(hm:X.mg x=some (.ref C))(hb:iO X.K fd ps ds)(hd:aT dvs ds)(hx:jJ CX X E)
  (ha:PA X (e :: es) t) (hdb:(x==("__debug__" : Str))=false:=by decide) (he:Fo (e :: es) X.env=(false,Ik e X.env) :: Fo es X.env:=by rfl) (hpl:(HL pos (Fo es X.env)).any (·.1)=false:=by rfl) :
  PE X (.Call (.Name x p) (e :: es) [] pos) (zE C sp dvs E t):=by
 intro pins s σ H Q I h
 refine HM (pK I hg hm ?_ hdb)
 refine PySem.W.callWith_K (h₀:=X.base) I.ok.mod.kin M.kp (thn (ha pos pins s σ H _ I h) λ us s1 ⟨vs,H1,I1,r,q⟩=>⟨I1.kIn,?_⟩) he hpl
 exact xX M F hr hb hd hx I1 r q
end
section
variable  {X:Cx}{CX:CXT}{k:Nat}{f C:EJ}{fd:Im}{ps ks:List Str}{sp:Sp}{E:XK}{x m:Str}{p pos apos kpos:Pos}{e o:Expr}{es:List Expr}{kws:List Keyword}{te ta:TE}{t tk:TA}{nm:Option Str}
variable  {g:List Value->List Value->List Value}{gV:List V->List V->List V}
end
structure aq (N P:List Str)(sc:Scope):Prop where
 kind:sc.kind=.function
 co:sc.isCoroutine=false
 gen:sc.isGenerator=false
 nd:N.Nodup
 pre:N.take P.length=P
 par:∀x∈P,sc.names.lookup x=some .local\/sc.names.lookup x=some .cell
 nofree:∀y∈sc.names,y.2≠.free
theorem oG {kindOf:Str->Option NameKind}{x:Str}:∀{binds:List (Str×Value)} {m:Str->Option Value},(∀v,(x,v)∉binds)->bindL kindOf binds m x=m x
 |[],_,_=>rfl
 |(n,v) :: r,m,h=>by
  unfold bindL
  rw[oG λ w hw=>h w (EQ _ hw)]
  split
  ·have:x≠n:=by rintro rfl;exact h v E7
   simp[this]
  ·rfl
theorem o0 {kindOf:Str->Option NameKind}{x:Str}:∀{binds:List (Str×Value)} {m:Str->Option Value},(∀v,(x,v)∉binds)->bindC kindOf binds m x=m x
 |[],_,_=>rfl
 |(n,v) :: r,m,h=>by
  unfold bindC
  rw[o0 λ w hw=>h w (EQ _ hw)]
  split
  ·rfl
  ·have:x≠n:=by rintro rfl;exact h v E7
   simp[this]
theorem pd {kindOf:Str->Option NameKind}{x:Str}{v:Value}:∀{P:List Str} {vs:List Value} {i:Nat} {m:Str->Option Value},P.Nodup->P[i]? = some x->vs[i]? = some v->kindOf x=some .local ->
  bindL kindOf (P.zip vs) m x=some v
 |[],_,_,_,_,h,_,_=>by simp at h
 |_ :: _,[],_,_,_,_,h,_=>by simp at h
 |p :: P,w :: vs,0,m,nd,h1,h2,hk=>by
  simp at h1 h2;subst h1;subst h2
  show bindL kindOf ((p,w) :: P.zip vs) m p=_
  unfold bindL
  rw[oG λ v hv=>(Ge.mp nd).1 (List.of_mem_zip hv).1,EU hk]
  simp
 |p :: P,w :: vs,i+1,m,nd,h1,h2,hk=>by
  show bindL kindOf ((p,w) :: P.zip vs) m x=_
  unfold bindL
  exact pd (i:=i) (Ge.mp nd).2 (by simpa using h1) (by simpa using h2) hk
theorem oU {kindOf:Str->Option NameKind}{x:Str}{v:Value}:∀{P:List Str} {vs:List Value} {i:Nat} {m:Str->Option Value},P.Nodup->P[i]? = some x->vs[i]? = some v->kindOf x≠some .local ->
  bindC kindOf (P.zip vs) m x=some v
 |[],_,_,_,_,h,_,_=>by simp at h
 |_ :: _,[],_,_,_,_,h,_=>by simp at h
 |p :: P,w :: vs,0,m,nd,h1,h2,hk=>by
  simp at h1 h2;subst h1;subst h2
  show bindC kindOf ((p,w) :: P.zip vs) m p=_
  unfold bindC
  rw[o0 λ v hv=>(Ge.mp nd).1 (List.of_mem_zip hv).1,EM hk]
  simp
 |p :: P,w :: vs,i+1,m,nd,h1,h2,hk=>by
  show bindC kindOf ((p,w) :: P.zip vs) m x=_
  unfold bindC
  exact oU (i:=i) (Ge.mp nd).2 (by simpa using h1) (by simpa using h2) hk
def start (N:List Str)(vs:List V):St:=vs.map some++GY (N.length-vs.length) none
def pI (CX:CXT)(P:E8)(w:FL)(K:FQ)(mg:Str->Option Value)(base:Heap)(N:List Str)(qual:Str)(scope:Scope)(f:EJ)(cd:Value)(A:Around)(outer:List Env)(s:EK)(H:Hp)(E:XK):Cx where
 prog:=P
 w:=w
 K:=K
 mg:=mg
 base:=base
 A:=A.deeper (envOfC qual scope s.heap.objs.size f cd)
 N:=N
 s_0:=s
 H_0:=H
 env:=envOfC qual scope s.heap.objs.size f cd
 outer:=outer
 stack:=envOfC qual scope s.heap.objs.size f cd :: outer
 ex:=[]
 calm:=true
 fn:=λ _=>true
 pn:=[]
 xe:=λ e s'=>Fp (FC P w) (A.deeper (envOfC qual scope s.heap.objs.size f cd)) (leaving (envOfC qual scope s.heap.objs.size f cd) e) (λ _ s''=>CX outer H s E e s'') (λ e' s''=>CX outer H s E e' s'') s'
theorem qC {sc:Scope}{n:Nat}{x:Str}(h:sc.names.lookup x=some .cell):∃c,(Gu n sc.names []).lookup x=some c:=by
 have q:=PySem.W.cellsFrom_some sc.names n [] (.inl h)
 exact Option.isSome_iff_exists.mp q
theorem u6 {CX:CXT}{P:E8}{w:FL}{K:FQ}{mg:Str->Option Value}{base:Heap}{N ps:List Str}{qual:Str}{scope:Scope}{f:EJ}{cd:Value}{A:Around}{outer:List Env}{s s1:EK}{H:Hp}{E:XK}{us:List Value}{vs:List V}
  (S:aq N ps scope) (hd:A.handled=none) (e0:rE P w K mg base A outer s H) (hl:vs.length=ps.length) (r:aT vs us)
  (x:InCallC s s.heap.objs.size (bindL (envOfC qual scope s.heap.objs.size f cd).kindOf (ps.zip us) λ _=>none) (Gu (s.heap.objs.size+1) scope.names []) (bindC (envOfC qual scope s.heap.objs.size f cd).kindOf (ps.zip us) λ _=>none) s1) :
  Inv (pI CX P w K mg base N qual scope f cd A outer s H E) [] (start N vs) H s1:=by
 have hpl:ps.length<=N.length:=by have:=Gy List.length S.pre;rw[FM]at this;omega
 obtain⟨h1,tk,rfl,hk⟩:=x.done
 have noA:∀b:EJ,b∉(pI CX P w K mg base N qual scope f cd A outer s H E).ex:=λ b z=>absurd (show b∈([]:List EJ) from z) (by simp)
 refine⟨⟨e0.mod,S.kind,rfl,rfl,nlr _,λ y z c h1 h2=>?_,λ y hy=>?_,λ y c _ h=>?_,λ _=>hd,Around.frames_deeper e0.frames,.inr ⟨rfl,rfl⟩,λ b z=>absurd z (noA b),e0.bs,e0.bsz,λ b _ _=>noA b,λ b z=>absurd z (noA b),e0.funs,e0.frf⟩,
  rfl,e0.bare,Un.kept hk,⟨_,x.toInCall.ns,λ i y v h1 h2 h3=>?_⟩,λ y c h=>⟨_,x.cell y c h⟩,e0.hok.fresh (nlr _),λ y c h=>?_,λ p hp=>absurd (show p∈([]:List (EJ×Obj)) from hp) (by simp),e0.hok.kept hk,?_⟩
 ·exact name_of_addr x.apart (Fz h1) (Fz h2)
 ·have hy:scope.names.lookup y=some .cell\/scope.names.lookup y=some .free:=hy
  rcases hy with hy|hy
  ·exact qC hy
  ·exact absurd rfl (S.nofree _ (Fz hy))
 ·exact Iz (x.above y c (Fz h))
 ·have hi:i<vs.length:=by
   unfold start at h2
   by_cases hi:i<vs.length
   ·exact hi
   ·rw[E6 (by simpa using hi)]at h2
    rw[List.getElem?_replicate]at h2
    split at h2<;>cases h2
  have ha:vs[i]? = some v:=by
   unfold start at h2
   rw[Fd (by simpa using hi),E2]at h2
   cases e:vs[i]? with
   |none=>rw[e]at h2;cases h2
   |some a=>rw[e]at h2;cases h2;rfl
  obtain⟨u,hu,rv⟩:=r.get ha
  have hp:ps[i]? = some y:=by
   rw[<-S.pre,List.getElem?_take_of_lt (by omega)];exact h1
  have ndP:ps.Nodup:=by rw[<-S.pre];exact S.nd.sublist (List.take_sublist _ _)
  refine⟨u,rv,?_⟩
  rcases S.par y (FG hp) with k|k
  ·exact .inl ⟨k,pd ndP hp hu k⟩
  ·obtain⟨c,e⟩:=qC (n:=s.heap.objs.size+1) k
   refine .inr ⟨.inl k,c,e,?_⟩
   have q:=x.cell y c e
   rw[oU ndP hp hu (by show scope.names.lookup y≠_;rw[k];decide)]at q
   exact q
 ·exact e0.hok.fresh (Iz (x.above y c (Fz h)))
 ·unfold start
  show _=N.length
  rw[EN,lmp,Hj]
  omega
theorem BI {CX:CXT}{P:E8}{w:FL}{K:FQ}{mg:Str->Option Value}{base:Heap}{k:Nat}{f:EJ}{name qual:Str}{params:Arguments}{body:List G8}{scope:Scope}{dV kV doc pm cdv ct oc:Value}{an od:Option EJ}
  {osl:Array (Option Value)} {N ps:List Str} {sp:Sp} (lk:K.lookup f=some ⟨oc,od,.func (F7 name qual params body scope dV kV doc pm an cdv ct),osl⟩) (hcd:Gn K cdv qual=true) (S:aq N ps scope)
  (len:∀vs H Q E,sp vs H Q E->vs.length=ps.length)
  (hbody:∀(A:Around) (outer:List Env) (s:EK) (H:Hp) (vs:List V) (Q:VK) (E:XK),bu k (A.deeper (envOfC qual scope s.heap.objs.size f cdv))->sp vs H Q E ->
   ∃t,PSs (pI CX P w K mg base N qual scope f cdv A outer s H E) body t/\t { nx:=λ _ H'=>Q .non H',rt:=Q } (start N vs) H) :
  jw P w K mg base CX (k+1) f (F7 name qual params body scope dV kV doc pm an cdv ct) ps sp:=by
 refine⟨len,λ A outer s H args us vs Q E hr e0 hb r hsp=>?_⟩
 have hl:=len _ _ _ _ hsp
 have KX:K.In s.heap:=e0.mod.kin.keeps λ b o e=>(e0.bs b o e).1
 have lim:s.heap.NoLimit:=e0.mod.nolimit.keeps λ b o e=>(e0.bs b o e).1
 have hkind:∀y∈ps.zip us,scope.names.lookup y.1=some .local\/(scope.names.lookup y.1=some .cell/\((Gu (s.heap.objs.size+1) scope.names []).lookup y.1).isSome=true):=λ⟨n,v⟩ hy=>by
  rcases S.par n (List.of_mem_zip hy).1 with q|q
  ·exact .inl q
  ·exact .inr ⟨q,PySem.W.cellsFrom_some _ _ _ (.inl q)⟩
 refine codeAny_call_function hr.depth (KX _ _ lk) rfl S.co S.gen rfl (PySem.W.codeRec_of KX hcd) (hb _ _ _ _ ?_)
 refine wpAny_newFunctionEnv_cells S.kind hkind λ env he s1 x=>?_
 subst he
 refine⟨lim.keeps x.toInCall.keep,codeAny_func ?_⟩
 obtain⟨t,ht,hq⟩:=hbody A outer s H vs Q E (hr.deeper _) hsp
 have I:Inv (pI CX P w K mg base N qual scope f cdv A outer s H E) [] (start N vs) H s1:=u6 S hr.hd e0 hl r x
 refine Ib (ht [] s1 (start N vs) H _ I hq) (λ fl s' hs=>?_) λ e s' hs=>hs
 have fin:∀{σ':St} {H':Hp} {v:V} {u:Value},Inv (pI CX P w K mg base N qual scope f cdv A outer s H E) [] σ' H' s'->a5 v u->Q v H'->CE outer P w H s Q u s' :=
  λ{σ' H' v u} J rv q=>⟨v,H',J.os,J.bare,J.base,J.hok,rv,q⟩
 cases fl with
 |ret u =>
  obtain⟨v,σ',H',J,rv,q⟩:=hs
  exact fin J rv q
 |next =>
  obtain⟨σ',H',J,q⟩:=hs
  exact fin (v:=V.non) (u:=Ia) J rfl q
 |brk =>
  obtain⟨_,_,_,q⟩:=hs
  exact Gk q
 |cont =>
  obtain⟨_,_,_,q⟩:=hs
  exact Gk q
end L2
namespace L2
open PySem PySem.Spec PyProof.Rows
section
variable  {X:Cx}{x:Str}{p pos:Pos}{e:Expr}{es:List Expr}{t:TA}{id T:String}{r:List V->Hp->VK->Prop}
def tCB (r:List V->Hp->VK->Prop)(t:TA):TE:=λ σ H Q=>t σ H λ vs H1=>r vs H1 Q
theorem aW (hc:l9 X (.builtin id) r)(hg:Gl X x)(hm:X.mg x=none)(hv:GW x=some (.builtin id))(ha:PA X (e :: es) t) (hn:x≠"__name__":=by decide) (hdb:(x==("__debug__" : Str))=false:=by decide)
  (he:Fo (e :: es) X.env=(false,Ik e X.env) :: Fo es X.env:=by rfl) (hpl:(HL pos (Fo es X.env)).any (·.1)=false:=by rfl):PE X (.Call (.Name x p) (e :: es) [] pos) (tCB r t):=by
 intro pins s σ H Q I h
 refine HM (gA I hg hm hv ?_ hn hdb)
 exact PyProof.Rows.callWith_builtin1 (thn (ha pos pins s σ H _ I h) λ us s1 ⟨vs,H1,I1,r1,q1⟩=>hc pins s1 σ H1 vs us Q I1 r1 q1) he hpl
theorem vd (hc:l9 X (.type T) r)(hg:Gl X x)(hm:X.mg x=none)(hv:GW x=some (.type T))(ha:PA X (e :: es) t) (hn:x≠"__name__":=by decide) (hdb:(x==("__debug__" : Str))=false:=by decide)
  (he:Fo (e :: es) X.env=(false,Ik e X.env) :: Fo es X.env:=by rfl) (hpl:(HL pos (Fo es X.env)).any (·.1)=false:=by rfl):PE X (.Call (.Name x p) (e :: es) [] pos) (tCB r t):=by
 intro pins s σ H Q I h
 refine HM (gA I hg hm hv ?_ hn hdb)
 exact FD (thn (ha pos pins s σ H _ I h) λ us s1 ⟨vs,H1,I1,r1,q1⟩=>hc pins s1 σ H1 vs us Q I1 r1 q1) he hpl
end
end L2
namespace HT
open PySem PyProof.Rows
def lexLt:List Int->List Int->Bool
 |[],[]=>false
 |[],_ :: _=>true
 |_ :: _,[]=>false
 |x :: xs,y :: ys=>if x=y then lexLt xs ys else decide (x<y)
theorem lexLt_cons (x y:Int)(xs ys:List Int):lexLt (x :: xs) (y :: ys)=if x=y then lexLt xs ys else decide (x<y):=rfl
theorem lexLt_nil_nil:lexLt [] []=false:=rfl
theorem lexLt_nil_cons (y:Int)(ys:List Int):lexLt [] (y :: ys)=true:=rfl
theorem lexLt_cons_nil (x:Int)(xs:List Int):lexLt (x :: xs) []=false:=rfl
theorem eqAt_int (A:Around)(s:EK)(a:Int)(t:Tok)(c:Int)(u:Tok):∃e,SeqAt.EqAt A s (.int a t) (.int c u) e/\(e=true↔a=c) :=
 ⟨(a==c),SeqAt.EqAt.int_int a t c u,by simp⟩
section
open PySem.SeqAt
open PySem.AutoSeq1 (wpAny_loadPart')
open PySem.MeetsSeq PySem.MeetsSeq2 PySem.MeetsSeq3
end
section
variable  {prog:E8}{w:FL}{A:Around}{E:Value->EK->Prop}{s:EK}
theorem cat_tup {t b:EJ}{vs ws:List Value}{Q:Value->EK->Prop}(ht:IsTup s.heap t vs.toArray)(hb:IsTup s.heap b ws.toArray)(hv:vs≠[])
  (h1:ws=[]->Q (.ref t) s) (h2:ws≠[]->Q (.ref s.heap.objs.size) { s with heap:=s.heap.push { cls:=.type "tuple",data:=.seq (vs++ws).toArray } })
  (hsz:vs.length+ws.length<=EL):Fp (FC prog w) A (binaryOp .Add (.ref t) (.ref b)) Q E s:=by
 obtain⟨⟨cls,dd,data,sl⟩,ho,hc,n,hd⟩:=id ht
 obtain⟨⟨cls2,dd2,data2,sl2⟩,ho2,hc2,n2,hd2⟩:=id hb
 simp only at hc hd hc2 hd2
 subst hc hd hc2 hd2
 have e:vs.toArray++ws.toArray=(vs++ws).toArray:=by simp
 by_cases hw:ws=[]
 ·exact concat_meets ⟨_,ho,rfl⟩ ⟨_,ho2,rfl⟩ noFill_tuple_add seq_tuple_add PySem.F.slot_tuple_add PySem.F.entry_tuple_add (PySem.F.args_tuple_add_2 _ _)
   (tuple_addW1 t b vs.toArray ws.toArray n n2 dd dd2 sl sl2 (by simpa using hv) (by simp[hw])) ⟨ho,ho2,h1 hw⟩
 ·refine concat_meets ⟨_,ho,rfl⟩ ⟨_,ho2,rfl⟩ noFill_tuple_add seq_tuple_add PySem.F.slot_tuple_add PySem.F.entry_tuple_add (PySem.F.args_tuple_add_2 _ _)
   (tuple_addW2 t b vs.toArray ws.toArray n n2 dd dd2 sl sl2 (by simpa using hv) (by simpa using hw) (by rw[EW,EW];exact hsz)) ⟨ho,ho2,?_⟩
  rw[e]
  exact h2 hw
def sIx (n d:Nat):Option Int->Nat
 |none=>d
 |some v=>if v<0 then (v+(n:Int)).toNat else min v.toNat n
theorem sIx_none (n d:Nat):sIx n d none=d:=rfl
theorem sIx_nat (n d k:Nat):sIx n d (some (k:Int))=min k n:=by
 show(if (k:Int)<0 then ((k:Int)+(n:Int)).toNat else min (k:Int).toNat n)=min k n
 rw[EM (by omega),F0]
end
end HT
namespace L2
open PySem PySem.Spec PyProof.Rows
abbrev TO:=St->Hp->(Option Int->Hp->Prop)->Prop
def PO (X:Cx)(e:Option Expr)(t:TO):Prop :=
 ∀(pins:List (EJ×Obj)) (s:EK) (σ:St) (H:Hp) (Q:Option Int->Hp->Prop),Inv X pins σ H s->t σ H Q ->
  Fp (FC X.prog X.w) X.A (evalPart e X.env) (λ u s'=>∃o H',Inv X pins σ H' s'/\IsPart u o/\Q o H') X.xe s
def yI:TO:=λ _ H Q=>Q none H
def BQ (t:TE):TO:=λ σ H Q=>t σ H λ x H1=>∃i,x=.int i/\Q (some i) H1
theorem hX {ns:List Int}:∀{us:List Value},aT (ns.map V.int) us->HK us ns:=by
 induction ns with
 |nil=>intro us r;rw[List.map_nil]at r;cases r;exact .nil
 |cons n ns ih =>
  intro us r
  rw[Fl]at r
  cases r with
  |cons r1 r2 =>
   obtain⟨t,e⟩:=r1
   subst e
   exact .cons n t (ih r2)
section
variable  {X:Cx}{e:Expr}{te:TE}{lo hi:Option Expr}{tl th:TO}{pos p2:Pos}
theorem yg:PO X none yI:=by
 intro pins s σ H Q I h
 rw[evalPart_none]
 exact E5 ⟨none,H,I,.none,h⟩
theorem ke (h:PE X e te):PO X (some e) (BQ te):=by
 intro pins s σ H Q I hw
 rw[evalPart_some]
 refine thn (h pins s σ H _ I hw) λ u s1 ⟨x,H1,I1,r1,q1⟩=>?_
 obtain⟨i,rfl,q⟩:=q1
 obtain⟨t,rfl⟩:=r1
 exact⟨some i,H1,I1,.int i t,q⟩
def SlR (X:Cx)(r:V->Option Int->Option Int->Hp->VK->Prop):Prop :=
 ∀(pins:List (EJ×Obj)) (s:EK) (σ:St) (H:Hp) (x:V) (v vl vu:Value) (lo hi:Option Int) (sl:EJ) (Q:VK),Inv X pins σ H s->a5 x v->s.heap.IsSliceOf sl vl vu .none->IsPart vl lo->IsPart vu hi->r x lo hi H Q ->
  ∃T id,typeLookup (.type T) "__getitem__"=pure (some (.builtin id))/\s.TypeIs v T/\Fp (FC X.prog X.w) X.A (getItem v (.ref sl)) (EP X pins σ Q) X.xe s
def tSl (r:V->Option Int->Option Int->Hp->VK->Prop)(te:TE)(tl th:TO):TE:=λ σ H Q=>te σ H λ x H1=>tl σ H1 λ l H2=>th σ H2 λ u H3=>r x l u H3 Q
theorem mL {r:V->Option Int->Option Int->Hp->VK->Prop}(hr:SlR X r)(he:PE X e te)(hl:PO X lo tl)(hu:PO X hi th):PE X (.Subscript e (.Slice lo hi none p2) pos) (tSl r te tl th):=by
 intro pins s σ H Q I h
 refine Subscript_ (thn (he pins s σ H _ I h) λ v s1 ⟨x,H1,I1,r1,q1⟩=>?_)
 refine wpAny_Slice (thn (hl pins s1 σ H1 _ I1 q1) λ vl s2 ⟨l,H2,I2,pl,q2⟩=>thn (hu pins s2 σ H2 _ I2 q2) λ vu s3 ⟨u,H3,I3,pu,q3⟩=>?_)
 rw[evalPart_none]
 refine E5 ?_
 have I4:Inv X pins σ H3 { s3 with heap:=s3.heap.push { cls:=.type "slice",data:=.fields #[vl,vu,.none] } }:=I3.kept (t':=s3.toks) λ b ob q=>EV _ q
 obtain⟨T,id,hT,ht,hg⟩:=hr pins { s3 with heap:=s3.heap.push { cls:=.type "slice",data:=.fields #[vl,vu,.none] } } σ H3 x v vl vu l u s3.heap.objs.size Q I4 r1 (Heap.IsSliceOf.new ..) pl pu q3
 show Fp (FC X.prog X.w) X.A (subscriptTail e (.Slice lo hi none p2) v (.ref s3.heap.objs.size)) (EP X pins σ Q) X.xe { s3 with heap:=s3.heap.push { cls:=.type "slice",data:=.fields #[vl,vu,.none] } }
 exact tail_any (ops:=[.ref s3.heap.objs.size,v]) ht hT hg (by with_unfolding_all rfl)
def n9 (xs:List V)(lo hi:Option Int):List V:=(xs.drop (HT.sIx xs.length 0 lo)).take (HT.sIx xs.length xs.length hi-HT.sIx xs.length 0 lo)
theorem qS (xs:List V)(lo hi:Option Int):(n9 xs lo hi).length<=xs.length:=by
 unfold n9
 rw[FM,Fu]
 omega
def DC (K:FQ):R2:=λ x y H Q=>∃a b xs ys,x=.ref a/\y=.ref b/\SqT K H a xs/\SqT K H b ys/\xs≠[]/\xs.length+ys.length<=EL /\
 (ys=[]->Q (.ref a) H)/\(ys≠[]->∀p,H p=none->Q (.ref p) (upd H p (.tup (xs++ys))))
theorem aT.nil_iff {xs:List V}{us:List Value}(r:aT xs us):us=[]↔xs=[]:=by
 cases r with
 |nil=>simp
 |cons _ _=>simp
theorem y8:OpR X (binaryOp .Add) (DC X.K):=by
 intro pins s σ H x y v u Q I rx ry h
 obtain⟨a,b,xs,ys,rfl,rfl,ha,hb,hx,hz,q1,q2⟩:=h
 cases rx
 cases ry
 obtain⟨its,r1,p1,_⟩:=I.tuple ha
 obtain⟨its2,r2,p2,_⟩:=I.tuple hb
 refine HT.cat_tup p1 p2 (λ z=>hx (r1.nil_iff.mp z)) (λ z=>⟨.ref a,H,I,rfl,q1 (r2.nil_iff.mp z)⟩) (λ z=>?_) (by rw[<-r1.length,<-r2.length];exact hz)
 refine⟨.ref s.heap.objs.size,_,I.laid (t':=s.toks) (o:=.tup (xs++ys)) (λ b ob q=>EV _ q) (nlr _) ?_,rfl,q2 (λ w=>z (r2.nil_iff.mpr w)) _ (I.hok.fresh (nlr _))⟩
 exact⟨by rw[EN];exact hz,_,r1.append r2,IsTup.new _ _⟩
end
end L2
namespace L2
open PySem PySem.Spec PyProof.Rows
def ixN (n:Nat)(i:Int):Option Nat:=if 0<=i then (if i<n then some i.toNat else none) else if -(n:Int)<=i then some (i+n).toNat else none
def atI {α:Type}(xs:List α)(i:Int):Option α:=(ixN xs.length i).bind λ j=>xs[j]?
theorem tS {n:Nat}{i:Int}{j:Nat}(h:ixN n i=some j):seqIndex? i n=some j/\j<n/\-(n:Int)<=i/\i<n:=by
 unfold ixN at h
 by_cases h0:0<=i
 ·rw[EU h0]at h
  by_cases h1:i<n
  ·rw[EU h1]at h
   have e:i.toNat=j:=osi h
   exact⟨by rw[seqIndex_of h0 h1,e],by omega,by omega,h1⟩
  ·rw[EM h1]at h;cases h
 ·rw[EM h0]at h
  by_cases h1:-(n:Int)<=i
  ·rw[EU h1]at h
   have e:(i+n).toNat=j:=osi h
   exact⟨by rw[seqIndex_neg (by omega) h1,e],by omega,h1,by omega⟩
  ·rw[EM h1]at h;cases h
theorem uz {α:Type}{xs:List α}{i:Int}{v:α}(h:atI xs i=some v):∃j,seqIndex? i xs.length=some j/\xs[j]? = some v/\j<xs.length/\-(xs.length:Int)<=i/\i<xs.length:=by
 unfold atI at h
 cases e:ixN xs.length i with
 |none=>rw[e]at h;cases h
 |some j =>
  rw[e]at h
  obtain⟨h1,h2,h3,h4⟩:=tS e
  exact⟨j,h1,h,h2,h3,h4⟩
theorem pH {α:Type}{xs:List α}{j:Nat}{v:α}(h:xs[j]? = some v):atI xs (j:Int)=some v:=by
 have hj:j<xs.length:=(gsi h).1
 have e:ixN xs.length (j:Int)=some j:=by
  unfold ixN
  rw[EU (by omega),EU (by omega)];simp
 unfold atI;rw[e];exact h
theorem mz {α:Type}(xs:List α)(v:α):atI (xs++[v]) (-1)=some v:=by
 have hl:(xs++[v]).length=xs.length+1:=by simp
 have e:ixN (xs++[v]).length (-1)=some xs.length:=by
  unfold ixN
  rw[hl,EM (by decide),EU (by omega)]
  congr 1
  omega
 unfold atI
 rw[e]
 show(xs++[v])[xs.length]? = some v
 simp
def yC (b:Expr):Prop:=∀o i,subscripted b false o i=operate [o,i] (getItem o i)
def IxR (X:Cx)(r:R2):Prop :=
 ∀(value slice:Expr) (pins:List (EJ×Obj)) (s:EK) (σ:St) (H:Hp) (x y:V) (v u:Value) (Q:VK),Inv X pins σ H s->a5 x v->a5 y u->r x y H Q ->
  subscripted slice false v u=operate [v,u] (getItem v u)->Fp (FC X.prog X.w) X.A (subscriptTail value slice v u) (EP X pins σ Q) X.xe s
def MtR (X:Cx)(id:String)(r:V->List V->Hp->VK->Prop):Prop :=
 ∀(pins:List (EJ×Obj)) (s:EK) (σ:St) (H:Hp) (x:V) (xs:List V) (v:Value) (us:List Value) (Q:VK),Inv X pins σ H s->a5 x v->aT xs us->r x xs H Q ->
  Fp (FC X.prog X.w) X.A (call (.builtin id) (v :: us)) (EP X pins σ Q) X.xe s
section
variable  {X:Cx}{a b:Expr}{ta tb:TE}{pos:Pos}
theorem aw {r:R2}(hr:IxR X r)(ha:PE X a ta)(hb:PE X b tb)(hs:yC b):PE X (.Subscript a b pos) (tOp r ta tb):=by
 intro pins s σ H Q I h
 exact Subscript_ (AW ha hb I h λ v u s2 x y H2 I2 rx ry q=>hr a b pins s2 σ H2 x y v u Q I2 rx ry q (hs _ _))
def uR (K:FQ):R2:=λ x y H Q=>∃p xs i v,x=.ref p/\y=.int i/\SqL K H p xs/\atI xs i=some v/\Q v H
def pE (K:FQ):R2:=λ x y H Q=>∃p xs i v,x=.ref p/\y=.int i/\SqT K H p xs/\atI xs i=some v/\Q v H
theorem aU:IxR X (uR X.K):=by
 intro value slice pins s σ H x y v u Q I rx ry h hs
 obtain⟨p,xs,i,z,rfl,rfl,hq,he,q⟩:=h
 cases rx
 obtain⟨t,rfl⟩:=ry
 obtain⟨its,r,pl,hz⟩:=I.list hq
 obtain⟨j,h1,h2,h3,h4,h5⟩:=uz he
 obtain⟨w,ew,rw'⟩:=r.get h2
 have hl:=r.length
 have hn:=qh
 have fin:EP X pins σ Q w s:=⟨z,H,I,rw',q⟩
 by_cases h0:0<=i
 ·have hj:i.toNat=j:=by
   rw[seqIndex_of h0 h5]at h1
   exact osi h1
  exact item_listR pl.isList h0 (by omega) (by rw[hj];simpa using ew) fin hs
 ·have hj:(i+(its.toArray.size:Int)).toNat=j:=by
   rw[seqIndex_neg (by omega) h4]at h1
   rw[EW,<-hl]
   exact osi h1
  exact subscriptTail_builtinR (x:=w) pl.isList.typeIs slot_list_getitem.lookup
   (wpAny_getItem_list_neg (Q:=λ r s'=>r=w/\EP X pins σ Q r s') pl.isList (by omega) (by rw[EW]<;>omega) (by omega) (by rw[hj];simpa using ew) ⟨rfl,fin⟩) hs
theorem aD:IxR X (pE X.K):=by
 intro value slice pins s σ H x y v u Q I rx ry h hs
 obtain⟨p,xs,i,z,rfl,rfl,hq,he,q⟩:=h
 cases rx
 obtain⟨t,rfl⟩:=ry
 obtain⟨its,r,pl,hz⟩:=I.tuple hq
 obtain⟨j,h1,h2,h3,h4,h5⟩:=uz he
 obtain⟨w,ew,rw'⟩:=r.get h2
 have hl:=r.length
 have hn:=qh
 have fin:EP X pins σ Q w s:=⟨z,H,I,rw',q⟩
 exact subscriptTail_builtinR (x:=w) pl.typeIs slot_tuple_getitem.lookup
  (getItem_tuple (j:=j) (Q:=λ r s'=>r=w/\EP X pins σ Q r s') pl (by omega) (by omega) (by rw[EW,<-hl];exact h1) (by simpa using ew) ⟨rfl,fin⟩) hs
theorem sG (its:List Value)(n j:Nat)(u:Value):GM (·.setIfInBounds j u) { cls:=.type "list",data:=.seq its.toArray n }={ cls:=.type "list",data:=.seq (its.set j u).toArray n }:=by
 simp[GM]
theorem Inv.lst {pins:List (EJ×Obj)}{σ:St}{H:Hp}{s:EK}{p:EJ}{xs:List V}(I:Inv X pins σ H s)(h:H p=some (.lst xs)) :
  ∃(its:List Value) (n:Nat),aT xs its/\s.heap.get? p=some { cls:=.type "list",data:=.seq its.toArray n }/\xs.length<=EL:=by
 obtain⟨z,its,n,r,e⟩:=I.hok p _ h
 exact⟨its,n,r,e,z⟩
theorem Inv.lstUpd {pins:List (EJ×Obj)}{σ:St}{H:Hp}{s:EK}{p:EJ}{xs ys:List V}{its its':List Value}{n n':Nat}{f:Obj->Obj}(I:Inv X pins σ H s)(h:H p=some (.lst xs))
  (ho:s.heap.get? p=some { cls:=.type "list",data:=.seq its.toArray n }) (hf:f { cls:=.type "list",data:=.seq its.toArray n }={ cls:=.type "list",data:=.seq its'.toArray n' }) (r:aT ys its') (hz:ys.length<=EL) (t:Nat) :
  Inv X pins σ (upd H p (.lst ys)) { s with heap:=s.heap.update p f,toks:=t }:=by
 have e:(s.heap.update p f).get? p=some { cls:=.type "list",data:=.seq its'.toArray n' }:=by
  rw[GJ f ho (by rw[hf]<;>rfl),hf]
 refine I.write (x:=p) (e:=p) (by rw[h];trivial) (.inl rfl) (λ b u hb q=>(GF _ _ (Fj hb)).trans q) ⟨_,e⟩ ?_
 exact⟨hz,its',n',r,e⟩
def Cp:V->V->V->Hp->(Hp->Prop)->Prop:=λ o i v H Q=>∃p xs k j,o=.ref p/\i=.int k/\H p=some (.lst xs)/\ixN xs.length k=some j/\Q (upd H p (.lst (xs.set j v)))
theorem rY:BJ X Cp:=by
 intro pins s σ H o i v ov iv u Q I ro ri rv h
 obtain⟨p,xs,k,j,rfl,rfl,hp,hj,q⟩:=h
 cases ro
 obtain⟨t,rfl⟩:=ri
 obtain⟨its,n,r,ho,hz⟩:=I.lst hp
 obtain⟨h1,h2,h3,h4⟩:=tS hj
 have hl:=r.length
 have hn:=qh
 have I':Inv X pins σ (upd H p (.lst (xs.set j v))) { s with heap:=s.heap.update p (GM (·.setIfInBounds j u)) } :=
  I.lstUpd hp ho (sG its n j u) (r.set rv j) (by rw[List.length_set];exact hz) s.toks
 by_cases h0:0<=k
 ·have hk:k.toNat=j:=by
   rw[seqIndex_of h0 h4]at h1
   exact osi h1
  exact PySem.W.ki_setAt ho h0 (by omega) (by rw[EW,<-hl];exact h4) (by rw[hk];exact⟨_,I',q⟩)
 ·have hk:(k+(its.toArray.size:Int)).toNat=j:=by
   rw[seqIndex_neg (by omega) h3]at h1
   rw[EW,<-hl]
   exact osi h1
  exact PySem.W.ki_setBack ho (by omega) (by rw[EW,<-hl];exact h3) (by omega) (by rw[hk];exact⟨_,I',q⟩)
theorem qz (lo hi:Option Int)(n:Nat):(sliceBounds lo hi none n).1=((HT.sIx n 0 lo:Nat):Int)/\(sliceBounds lo hi none n).2.1=((HT.sIx n n hi:Nat):Int)/\(sliceBounds lo hi none n).2.2=1:=by
 refine⟨?_,?_,rfl⟩
 ·cases lo with
  |none=>simp[sliceBounds,HT.sIx]
  |some i =>
   simp only[sliceBounds,HT.sIx,Option.getD_none,show(1:Int) > 0 by decide,if_true]
   by_cases h:i<0
   ·simp only[h,if_true]<;>omega
   ·simp only[h,Ig]<;>omega
 ·cases hi with
  |none=>simp[sliceBounds,HT.sIx]
  |some i =>
   simp only[sliceBounds,HT.sIx,Option.getD_none,show(1:Int) > 0 by decide,if_true]
   by_cases h:i<0
   ·simp only[h,if_true]<;>omega
   ·simp only[h,Ig]<;>omega
theorem nV (its:List Value)(lo hi:Option Int):slicePick its.toArray lo hi none=((its.drop (HT.sIx its.length 0 lo)).take (HT.sIx its.length its.length hi-HT.sIx its.length 0 lo)).toArray:=by
 obtain⟨h1,h2,h3⟩:=qz lo hi its.toArray.size
 unfold slicePick
 rw[h1,h2,h3]
 simp only[sliceRange_one,pick_run,EW]<;>rfl
def Ec (K:FQ):V->Option Int->Option Int->Hp->VK->Prop:=λ x lo hi H Q=>∃a xs,x=.ref a/\SqL K H a xs/\∀p,H p=none->Q (.ref p) (upd H p (.lst (n9 xs lo hi)))
theorem qb:SlR X (Ec X.K):=by
 intro pins s σ H x v vl vu lo hi sl Q I rx hs pl pu h
 obtain⟨a,xs,rfl,hx,q⟩:=h
 cases rx
 obtain⟨its,r,ht,hz⟩:=I.list hx
 have hlen:=r.length
 refine⟨"list",_,slot_list_getitem.lookup,ht.isList.typeIs,?_⟩
 refine wpAny_getItem_list_slice ht.isList hs pl pu .none (by simp) ?_ (by rw[EW]<;>omega)
 rw[nV,<-hlen]
 refine⟨.ref s.heap.objs.size,_,I.laid (t':=s.toks) (o:=.lst (n9 xs lo hi)) (λ b ob q=>EV _ q) (nlr _) ?_,rfl,q _ (I.hok.fresh (nlr _))⟩
 exact⟨Fw (qS xs lo hi) hz,_,0,(r.drop (HT.sIx xs.length 0 lo)).take (HT.sIx xs.length xs.length hi-HT.sIx xs.length 0 lo),Fb _ rfl⟩
def ko:V->Bool
 |.non=>true
 |.bl _=>true
 |.int _=>true
 |.str _=>true
 |_=>false
def eqV:V->V->Bool
 |.non,.non=>true
 |.bl a,.bl b=>a==b
 |.bl a,.int b=>(if a then 1 else 0)==b
 |.int a,.bl b=>a==(if b then 1 else 0)
 |.int a,.int b=>a==b
 |.str a,.str b=>a==b
 |_,_=>false
theorem Ak {A:Around}{s:EK}{y x:V}{u v:Value}(ry:a5 y u)(rx:a5 x v)(fy:ko y=true)(fx:ko x=true):SeqAt.EqAt A s u v (eqV y x):=by
 cases y with
 |non =>
  cases ry
  cases x with
  |non=>cases rx;exact SeqAt.EqAt.same _
  |bl b=>cases rx;exact SeqAt.EqAt.none_bool b
  |int b=>obtain⟨t,rfl⟩:=rx;exact SeqAt.EqAt.none_int b t
  |str b=>obtain⟨t,rfl⟩:=rx;exact SeqAt.EqAt.none_str b t
  |_=>exact absurd (show false=true from fx) EZ
 |bl a =>
  cases ry
  cases x with
  |non=>cases rx;exact SeqAt.EqAt.bool_none a
  |bl b=>cases rx;exact SeqAt.EqAt.bool_bool a b
  |int b=>obtain⟨t,rfl⟩:=rx;exact SeqAt.EqAt.bool_int a b t
  |str b=>obtain⟨t,rfl⟩:=rx;exact SeqAt.EqAt.bool_str a b t
  |_=>exact absurd (show false=true from fx) EZ
 |int a =>
  obtain⟨t',rfl⟩:=ry
  cases x with
  |non=>cases rx;exact SeqAt.EqAt.int_none a t'
  |bl b=>cases rx;exact SeqAt.EqAt.int_bool a t' b
  |int b=>obtain⟨t,rfl⟩:=rx;exact SeqAt.EqAt.int_int a t' b t
  |str b=>obtain⟨t,rfl⟩:=rx;exact SeqAt.EqAt.int_str a t' b t
  |_=>exact absurd (show false=true from fx) EZ
 |str a =>
  obtain⟨t',rfl⟩:=ry
  cases x with
  |non=>cases rx;exact SeqAt.EqAt.str_none a t'
  |bl b=>cases rx;exact SeqAt.EqAt.str_bool a t' b
  |int b=>obtain⟨t,rfl⟩:=rx;exact SeqAt.EqAt.str_int a t' b t
  |str b=>obtain⟨t,rfl⟩:=rx;exact SeqAt.EqAt.str_str a t' b t
  |_=>exact absurd (show false=true from fx) EZ
 |_=>exact absurd (show false=true from fy) EZ
def eqU (x:V)(u:Value):Bool:=match u with
 |.none=>eqV .non x
 |.bool b=>eqV (.bl b) x
 |.int i _=>eqV (.int i) x
 |.str z _=>eqV (.str z) x
 |_=>false
theorem sK {x y:V}{u:Value}(r:a5 y u)(f:ko y=true):eqU x u=eqV y x:=by
 cases y with
 |non=>cases r;rfl
 |bl b=>cases r;rfl
 |int i=>obtain⟨t,rfl⟩:=r;rfl
 |str z=>obtain⟨t,rfl⟩:=r;rfl
 |_=>exact absurd (show false=true from f) EZ
theorem re {A:Around}{s:EK}{x:V}{v:Value}(rx:a5 x v)(fx:ko x=true):∀{xs:List V} {us:List Value},aT xs us->xs.all ko=true->∀u∈us,SeqAt.EqAt A s u v (eqU x u)
 |_,_,.nil,_=>λ u hu=>by cases hu
 |y :: xs,u :: us,.cons r t,f=>λ u' hu=>by
  rw[List.all_cons,EO]at f
  rcases ES.mp hu with rfl|hu
  ·rw[sK r f.1];exact Ak r rx f.1 fx
  ·exact re rx fx t f.2 u' hu
theorem aO:l9 X (.builtin "len") (λ xs H Q=>∃p ys,xs=[.ref p]/\(SqL X.K H p ys\/SqT X.K H p ys)/\Q (.int ys.length) H):=by
 intro pins s σ H xs us Q I r h
 obtain⟨p,ys,rfl,hq,q⟩:=h
 obtain⟨u,rfl,rx⟩:=wY r
 cases rx
 have hn:=qh
 rcases hq with hq|hq
 ·obtain⟨its,r',pl,hz⟩:=I.list hq
  have hlen:=r'.length
  exact Calls.call_len_list pl.isList (by simp only[EW]<;>omega) ⟨.int ys.length,H,I.tok _,⟨s.toks+1,by rw[EW,hlen]⟩,q⟩
 ·obtain⟨its,r',pl,hz⟩:=I.tuple hq
  have hlen:=r'.length
  exact len_tuple pl (by simp only[EW]<;>omega) ⟨.int ys.length,H,I.tok _,⟨s.toks+1,by rw[EW,hlen]⟩,q⟩
theorem qo:l9 X (.type "list") (λ xs H Q=>∃p ys,xs=[.ref p]/\(SqL X.K H p ys\/SqT X.K H p ys)/\∀l,H l=none->Q (.ref l) (upd H l (.lst ys))):=by
 intro pins s σ H xs us Q I r h
 obtain⟨p,ys,rfl,hq,q⟩:=h
 obtain⟨u,rfl,rx⟩:=wY r
 cases rx
 have fin:∀(its:List Value),aT ys its->ys.length<=EL->∀(h':Heap) (c':Nat),(∀b o',s.heap.get? b=some o'->h'.get? b=some o') ->
   h'.get? s.heap.objs.size=some { cls:=.type "list",dict:=none,data:=.seq its.toArray c',slots:=#[] }->EP X pins σ Q (.ref s.heap.objs.size) { s with heap:=h' }:=λ its r' hz h' c' kp e =>
  ⟨.ref s.heap.objs.size,_,I.laid (t':=s.toks) kp (nlr _) (show cf X.prog X.w _ h' _ (.lst ys) from⟨hz,its,c',r',e⟩),rfl,q _ (I.hok.fresh (nlr _))⟩
 rcases hq with hq|hq
 ·obtain⟨its,r',pl,hz⟩:=I.list hq
  have hlen:=r'.length
  obtain⟨o,ho,hc,n,hd⟩:=pl.isList
  exact call_list_seq p (.inl rfl) ho hc hd (λ h' c' kp e=>fin its r' hz h' c' kp e) (by simp only[EW]<;>omega)
 ·obtain⟨its,r',pl,hz⟩:=I.tuple hq
  have hlen:=r'.length
  obtain⟨o,ho,hc,n,hd⟩:=pl
  exact call_list_seq p (.inr rfl) ho hc hd (λ h' c' kp e=>fin its r' hz h' c' kp e) (by simp only[EW]<;>omega)
def tyV (K:FQ)(T:String)(x:V)(H:Hp):Prop:=match x with
 |.str _=>T="str"
 |.int _=>T="int"
 |.ref p=>(T="list"/\∃xs,SqL K H p xs)\/(T="tuple"/\∃o,K.lookup p=some o/\o.cls=.type "tuple"/\o.dict=none) \/
   (T="dict"/\((∃kvs,H p=some (.dK kvs))\/∃kvs,H p=some (.dT kvs)))\/(T="set"/\∃S n,H p=some (.set S n))
 |_=>False
theorem xT {pins:List (EJ×Obj)}{σ:St}{H:Hp}{s:EK}{T:String}{x:V}{v:Value}(I:Inv X pins σ H s)(r:a5 x v)(ty:tyV X.K T x H) :
  s.TypeIs v T/\∀a,v=.ref a->∃ob,s.heap.get? a=some ob/\ob.dict=none:=by
 cases x with
 |str z =>
  obtain⟨t,rfl⟩:=r
  cases (show T="str" from ty)
  exact⟨typeIs_str s z t,λ _ e=>nomatch e⟩
 |int i =>
  obtain⟨t,rfl⟩:=r
  cases (show T="int" from ty)
  exact⟨typeIs_int s i t,λ _ e=>nomatch e⟩
 |ref p =>
  cases r
  rcases ty with⟨rfl,xs,hq⟩|⟨rfl,o,hk,hc,hd⟩|⟨rfl,hk⟩|⟨rfl,S,n,hk⟩
  ·obtain⟨its,_,pl,_⟩:=I.list hq
   refine⟨pl.isList.typeIs,λ a e=>?_⟩
   cases e
   obtain⟨o,n,e,c,hd,_⟩:=pl
   exact⟨o,e,hd⟩
  ·refine⟨⟨o,I.kIn p o hk,hc⟩,λ a e=>?_⟩
   cases e
   exact⟨o,I.kIn _ o hk,hd⟩
  ·have z:∃o,s.heap.get? p=some o/\o.ExactDict:=by
    rcases hk with⟨kvs,hk⟩|⟨kvs,hk⟩
    ·obtain⟨_,_,_,_,o,_,_,e,ex,_⟩:=I.hok p _ hk
     exact⟨o,e,ex⟩
    ·obtain⟨_,_,_,_,o,_,_,e,ex,_⟩:=I.hok p _ hk
     exact⟨o,e,ex⟩
   obtain⟨o,e,ex⟩:=z
   refine⟨⟨o,e,ex.1⟩,λ a e2=>?_⟩
   cases e2
   exact⟨o,e,ex.2.1⟩
  ·obtain⟨o,_,_,_,e,ex,_⟩:=I.hok p _ hk
   refine⟨⟨o,e,ex.1⟩,λ a e2=>?_⟩
   cases e2
   exact⟨o,e,ex.2.1⟩
 |_=>exact Gk ty
def Ei (K:FQ)(T:String)(r:V->List V->Hp->VK->Prop)(to:TE):TE:=λ σ H Q=>to σ H λ x H1=>tyV K T x H1/\r x [] H1 Q
def tBM (K:FQ)(T:String)(r:V->List V->Hp->VK->Prop)(to:TE)(t:TA):TE:=λ σ H Q=>to σ H λ x H1=>tyV K T x H1/\t σ H1 λ xs H2=>r x xs H2 Q
variable  {o e:Expr}{es:List Expr}{to:TE}{t:TA}{name:Str}{apos cpos:Pos}{T id:String}{r:V->List V->Hp->VK->Prop}
theorem Aa (pa:PlainAttrs T)(slot:Slot T name id) (hty:typeOf (.builtin id)=pure (.type "method_descriptor")) (hm:MtR X id r) (ho:PE X o to)
  (hbase:attributeBase o name X.env (Ik o X.env)=Ik o X.env:=by rfl) (hline:(apos.endLine==cpos.line)=true:=by rfl):PE X (.Call (.Attribute o name apos) [] [] cpos) (Ei X.K T r to):=by
 intro pins s σ H Q I h
 refine wpAny_Call_method0_late hbase hline (thn (ho pins s σ H _ I h) λ v s1 ⟨x,H1,I1,r1,ty,q1⟩=>?_)
 obtain⟨h1,h2⟩:=xT I1 r1 ty
 exact⟨T,id,pa,slot,hty,h1,h2,Calls.callWith_builtin rfl (PySem.evalArgs_none (hm pins s1 σ H1 x [] v [] Q I1 r1 .nil q1))⟩
theorem ly (pa:PlainAttrs T)(slot:Slot T name id) (hty:typeOf (.builtin id)=pure (.type "method_descriptor")) (hm:MtR X id r) (ho:PE X o to) (ha:PA X (e :: es) t)
  (hbase:attributeBase o name X.env (Ik o X.env)=Ik o X.env:=by rfl)
  (hfew:((HL cpos (Fo (e :: es) X.env)).all (λ x=>!x.1)&&(backToKw cpos (HN [] X.env)).all (λ x=>x.1.isSome)
   &&decide ((e :: es).length+([]:List Keyword).length+(if ([]:List Keyword).isEmpty then 0 else 1)<30))=true:=by rfl)
  (hline:(apos.endLine==cpos.line)=true:=by rfl) (hs:Fo (e :: es) X.env=(false,Ik e X.env) :: Fo es X.env:=by rfl) (hplain:(HL cpos (Fo es X.env)).any (·.1)=false:=by rfl) :
  PE X (.Call (.Attribute o name apos) (e :: es) [] cpos) (tBM X.K T r to t):=by
 intro pins s σ H Q I h
 refine wpAny_Call_method_late hbase hfew hline rfl (thn (ho pins s σ H _ I h) λ v s1 ⟨x,H1,I1,r1,ty,q1⟩=>?_)
 obtain⟨h1,h2⟩:=xT I1 r1 ty
 refine⟨T,id,pa,slot,hty,h1,h2,?_⟩
 have hA:=ha cpos pins s1 σ H1 _ I1 q1
 rw[hs]at hA ⊢
 refine Calls.callWith_builtin (by show(false||(HL cpos (Fo es X.env)).any (·.1))=false;rw[hplain]<;>rfl) (Calls.evalArgs_plain ?_)
 exact thn hA λ us s2 ⟨vs,H2,I2,r2,q2⟩=>hm pins s2 σ H2 x vs v us Q I2 r1 r2 q2
end
end L2
namespace L2
open PySem PySem.Spec PyProof.Rows
def MtM (X:Cx)(id:String)(r:V->List V->Hp->VK->Prop):Prop :=
 ∀(pins:List (EJ×Obj)) (s:EK) (σ:St) (H:Hp) (x:V) (xs:List V) (v:Value) (us:List Value) (Q:VK),Inv X pins σ H s->a5 x v->aT xs us->r x xs H Q ->
  Fp (FC X.prog X.w) X.A (call (.builtin id) (v :: us)) (EP X pins σ Q) X.xe s
theorem aT.one:∀{x:V} {us:List Value},aT [x] us->∃u,us=[u]/\a5 x u
 |_,_,.cons r .nil=>⟨_,rfl,r⟩
theorem aT.two:∀{x y:V} {us:List Value},aT [x,y] us->∃u v,us=[u,v]/\a5 x u/\a5 y v
 |_,_,_,.cons r (.cons q .nil)=>⟨_,_,rfl,r,q⟩
theorem aT.zero:∀{us:List Value},aT [] us->us=[]
 |_,.nil=>rfl
theorem aT.dropLast {xs:List V}{us:List Value}(h:aT xs us):aT xs.dropLast us.dropLast:=by
 induction h with
 |nil=>exact .nil
 |cons r t ih =>
  cases t with
  |nil=>exact .nil
  |cons q t'=>exact .cons r ih
theorem sY {α:Type}(l:List α):l.eraseIdx (l.length-1)=l.dropLast:=by
 induction l with
 |nil=>rfl
 |cons a r ih =>
  cases r with
  |nil=>rfl
  |cons b r =>
   have e:(a :: b :: r).length-1=((b :: r).length-1)+1:=by
    have h1:(a :: b :: r).length=r.length+2:=rfl
    have h2:(b :: r).length=r.length+1:=rfl
    omega
   rw[e,List.eraseIdx_cons_succ,ih]
   all_goals rfl
section
variable  {X:Cx}{pins:List (EJ×Obj)}{σ:St}{H:Hp}{s:EK}{l b:EJ}{xs ys zs:List V}
theorem Inv.lset {its its':List Value}{n:Nat}{f:Array Value->Array Value}{t':Nat}(I:Inv X pins σ H s)(hH:H l=some (.lst xs))
  (e:s.heap.get? l=some { cls:=.type "list",data:=.seq its.toArray n }) (hf:f its.toArray=its'.toArray) (hv:aT ys its') (hz:ys.length<=EL) :
  Inv X pins σ (upd H l (.lst ys)) { s with heap:=s.heap.update l (GM f),toks:=t' }:=by
 have q:=PySem.IsL.update e f
 rw[hf]at q
 refine I.write (x:=l) (e:=l) (by rw[hH];exact trivial) (.inl rfl) (λ b' u hb hu=>(GF s.heap (GM f) (Fj hb)).trans hu) ⟨_,q⟩ ?_
 exact⟨hz,its',_,hv,q⟩
theorem Inv.lnew {its:List Value}{t':Nat}(I:Inv X pins σ H s)(hv:aT ys its)(hz:ys.length<=EL) :
  Inv X pins σ (upd H s.heap.objs.size (.lst ys)) { s with heap:=s.heap.push { cls:=.type "list",data:=.seq its.toArray },toks:=t' } :=
 I.laid (λ _ _ q=>EV _ q) (nlr _) ⟨hz,its,0,hv,Fb _ rfl⟩
theorem Inv.fresh (I:Inv X pins σ H s):H s.heap.objs.size=none:=I.hok.fresh (nlr _)
theorem Inv.lstM (I:Inv X pins σ H s)(hH:H l=some (.lst xs)):xs.length<=EL/\∃(its:List Value) (n:Nat),aT xs its/\xs.length=its.length/\s.heap.get? l=some { cls:=.type "list",data:=.seq its.toArray n }:=by
 obtain⟨z,its,n,r,e⟩:=I.hok l _ hH
 exact⟨z,its,n,r,r.length,e⟩
theorem wM {n:Nat}(h:n<=EL):IA n=false:=by
 unfold IA
 exact dqf (by omega)
end
section
variable  {X:Cx}
def yZ:V->List V->Hp->VK->Prop:=λ x vs H Q=>∃l xs y,x=.ref l/\vs=[y]/\H l=some (.lst xs)/\xs.length<EL/\Q .non (upd H l (.lst (xs++[y])))
theorem hU:MtM X "list.append" yZ:=by
 intro pins s σ H x vs v us Q I rx rv h
 obtain⟨l,xs,y,rfl,rfl,hH,hz,q⟩:=h
 cases rx
 obtain⟨u,rfl,ru⟩:=rv.one
 obtain⟨z,its,n,r,hl,e⟩:=I.lstM hH
 refine call_meets F.slot_list_append ⟨_,e,rfl⟩ F.entry_list_append (F.args_list_append_2 _ _) (PySem.list_append l its.toArray n u (by rw[EW];omega)) ⟨e,?_⟩
 refine⟨.non,_,I.lset (its':=its++[u]) hH e (by simp) (r.append (.cons ru .nil)) ?_,rfl,q⟩
 rw[EN,List.length_singleton]
 omega
def yS:V->List V->Hp->VK->Prop:=λ x vs H Q=>∃l b xs zs,x=.ref l/\vs=[.ref b]/\H l=some (.lst xs)/\H b=some (.lst zs)/\xs.length+zs.length<=EL/\Q .non (upd H l (.lst (xs++zs)))
theorem Bw:MtM X "list.extend" yS:=by
 intro pins s σ H x vs v us Q I rx rv h
 obtain⟨l,b,xs,zs,rfl,rfl,hH,hB,hz,q⟩:=h
 cases rx
 obtain⟨u,rfl,ru⟩:=rv.one
 cases ru
 obtain⟨z,its,n,r,hl,e⟩:=I.lstM hH
 obtain⟨z2,its2,n2,r2,hl2,e2⟩:=I.lstM hB
 have hsz:its.toArray.size+its2.toArray.size<=EL:=by rw[EW,EW];omega
 have hlong:¬(!its.toArray.isEmpty&&IA (its.toArray.size+its2.toArray.size))=true:=by
  rw[wM hsz,Bool.and_false]
  exact EZ
 refine call_meets F.slot_list_extend ⟨_,e,rfl⟩ F.entry_list_extend (F.args_list_extend_2 _ _)
  (AutoSeq1.list_extend_list_list_0 l its.toArray n b its2.toArray n2 hlong (by rw[EW];omega) (by omega)) ⟨e,e2,?_⟩
 refine⟨.non,_,I.lset (its':=its++its2) hH e (by simp) (r.append r2) ?_,rfl,q⟩
 rw[EN]
 omega
def Es:V->List V->Hp->VK->Prop:=λ x vs H Q=>∃l xs y,x=.ref l/\vs=[]/\H l=some (.lst xs)/\xs[xs.length-1]? = some y/\Q y (upd H l (.lst xs.dropLast))
theorem AR:MtM X "list.pop" Es:=by
 intro pins s σ H x vs v us Q I rx rv h
 obtain⟨l,xs,y,rfl,rfl,hH,hy,q⟩:=h
 cases rx
 have hus:=rv.zero
 subst hus
 obtain⟨z,its,n,r,hl,e⟩:=I.lstM hH
 obtain⟨u,hu,ru⟩:=r.get hy
 have hy':its.toArray[its.toArray.size-1]? = some u:=by
  show its.toArray[its.length-1]? = some u
  rw[<-Array.getElem?_toList,<-hl]
  exact hu
 refine call_meets F.slot_list_pop ⟨_,e,rfl⟩ F.entry_list_pop (F.args_list_pop_1 _) (MeetsSeq.list_pop_last l its.toArray n u hy' (by rw[EW];omega)) ⟨e,?_⟩
 refine⟨y,_,I.lset (its':=its.dropLast) hH e ?_ r.dropLast ?_,ru,q⟩
 ·show its.toArray.eraseIdxIfInBounds (its.toArray.size-1)=its.dropLast.toArray
  rw[EW,List.eraseIdxIfInBounds_toArray,sY]
 ·rw[List.length_dropLast]
  omega
def EB:R2:=λ x y H Q=>∃l b xs zs,x=.ref l/\y=.ref b/\H l=some (.lst xs)/\H b=some (.lst zs)/\xs.length+zs.length<=EL/\∀p,H p=none->Q (.ref p) (upd H p (.lst (xs++zs)))
theorem xC:OpR X (binaryOp .Add) EB:=by
 intro pins s σ H x y v u Q I rx ry h
 obtain⟨l,b,xs,zs,rfl,rfl,hH,hB,hz,q⟩:=h
 cases rx
 cases ry
 obtain⟨z,its,n,r,hl,e⟩:=I.lstM hH
 obtain⟨z2,its2,n2,r2,hl2,e2⟩:=I.lstM hB
 refine PySem.P.add_list e e2 ?_ (by rw[EW,EW];omega)
 have ea:its.toArray++its2.toArray=(its++its2).toArray:=by simp
 rw[ea]
 exact⟨.ref _,_,I.lnew (t':=s.toks) (r.append r2) (by rw[EN];omega),rfl,q _ I.fresh⟩
end
section
variable  {prog:E8}{w:FL}{A:Around}{E:Value->EK->Prop}{s:EK}
end
section
variable  {X:Cx}
end
end L2
namespace L2
open PySem PySem.Spec PyProof.Rows
theorem aT.bls:∀{bs:List Bool} {us:List Value},aT (bs.map V.bl) us->us=bs.map Value.bool
 |[],us,h=>by
  rw[List.map_nil]at h
  cases h
  rfl
 |b :: bs,us,h=>by
  rw[Fl]at h
  cases h with
  |cons r t =>
   cases r
   rw[aT.bls t,Fl]
section
variable  {prog:E8}{w:FL}{A:Around}{E:Value->EK->Prop}{s:EK}{l:EJ}{its:List Value}{ns:List Int}{Q:Value->EK->Prop}
end
section
variable  {X:Cx}
end
section
variable  {X:Cx}
def Ax (K:FQ):V->List V->Hp->VK->Prop:=λ x xs H Q=>∃(a:EJ) (ys:List V) (y:V) (j:Nat) (z:V),x=V.ref a/\xs=[y]/\SqL K H a ys/\ko y=true/\ys.all ko=true/\ys[j]? = some z/\eqV z y=true /\
 (∀(m:Nat) (z':V),m<j->ys[m]? = some z'->eqV z' y=false)/\Q (.int (j:Nat)) H
theorem uo {ys:List V}(f:ys.all ko=true){j:Nat}{z:V}(h:ys[j]? = some z):ko z=true:=FS.mp f z (FG h)
theorem xf:MtR X "list.index" (Ax X.K):=by
 intro pins s σ H x xs v us Q I rx rxs h
 obtain⟨a,ys,y,j,z,rfl,rfl,hs,fy,fys,hz,hzj,hno,q⟩:=h
 cases rx
 cases rxs with
 |cons ry rt =>
  rename_i uy ut
  cases rt
  obtain⟨its,rv,⟨⟨cls,dd,data,sl⟩,n,ho,hc,hdn,hd⟩,hlen⟩:=I.list hs
  simp only at hc hd
  subst hc hd
  obtain⟨u,hu,ru⟩:=rv.get hz
  obtain⟨hjl,hje⟩:=gsi hu
  have hvl:=rv.length
  have hj:j<its.toArray.size:=by simpa using hjl
  have hsl:=sizeLine_eq
  refine call_meets PySem.F.slot_list_index ⟨_,ho,rfl⟩ PySem.F.entry_list_index (PySem.F.args_list_index_2 _ _)
   (SeqAt.list_indexAt a its.toArray n dd sl uy (eqU y) j hj (by omega) ?_ ?_) ⟨ho,λ u' hu'=>re ry fy rv fys u' (by simpa using hu'),?_⟩
  ·have e1:its.toArray[j]=u:=by simpa using hje
   rw[e1,sK ru (uo fys hz)]
   exact hzj
  ·intro m hm hmj
   have hml:m<its.length:=by simpa using hm
   have hmy:m<ys.length:=by omega
   have hy':ys[m]? = some ys[m]:=gge hmy
   obtain⟨u2,hu2,ru2⟩:=rv.get hy'
   obtain⟨_,hme⟩:=gsi hu2
   have e1:its.toArray[m]=u2:=by simpa using hme
   rw[e1,sK ru2 (uo fys hy')]
   exact hno m _ hmj hy'
  ·exact⟨.int (j:Nat),H,I.tok _,⟨_,rfl⟩,q⟩
end
section
variable  {X:Cx}
end
section
variable  {X:Cx}
end
mutual
inductive Dp (K:FQ)(H:Hp):V->PyData->Prop
 |non:Dp K H .non .none
 |bl (b:Bool):Dp K H (.bl b) (.bool b)
 |int (i:Int):Dp K H (.int i) (.int i)
 |str (x:Str):Dp K H (.str x) (.str x)
 |lst {a:EJ} {xs:List V} {ds:List PyData}:SqL K H a xs->lB K H xs ds->Dp K H (.ref a) (.list ds)
 |tup {a:EJ} {xs:List V} {ds:List PyData}:SqT K H a xs->lB K H xs ds->Dp K H (.ref a) (.tuple ds)
inductive lB (K:FQ)(H:Hp):List V->List PyData->Prop
 |nil:lB K H [] []
 |cons {v:V} {vs:List V} {d:PyData} {ds:List PyData}:Dp K H v d->lB K H vs ds->lB K H (v :: vs) (d :: ds)
end
section
variable  {X:Cx}{pins:List (EJ×Obj)}{σ:St}{H:Hp}{s:EK}
mutual
theorem Dp.reads (I:Inv X pins σ H s):∀(d:PyData) (v:V) (u:Value),Dp X.K H v d->a5 v u->∃as,Reads s.heap u d as
 |.none,_,_,h,r=>by
  cases h
  cases r
  exact⟨_,Reads.none⟩
 |.bool b,_,_,h,r=>by
  cases h
  cases r
  exact⟨_,Reads.bool b⟩
 |.int i,_,_,h,r=>by
  cases h
  obtain⟨t,rfl⟩:=r
  exact⟨_,Reads.int i t⟩
 |.str x,_,_,h,r=>by
  cases h
  obtain⟨t,rfl⟩:=r
  exact⟨_,Reads.str x t⟩
 |.list ds,_,_,h,r=>by
  cases h with
  |lst hs ha =>
   cases r
   obtain⟨its,rv,⟨o,n,ho,hc,_,hd⟩,_⟩:=I.list hs
   obtain⟨as,hr⟩:=Dp.readsAll I ds _ its ha rv
   exact⟨_,Reads.list ho hc hd hr⟩
 |.tuple ds,_,_,h,r=>by
  cases h with
  |tup hs ha =>
   cases r
   obtain⟨its,rv,⟨o,ho,hc,n,hd⟩,_⟩:=I.tuple hs
   obtain⟨as,hr⟩:=Dp.readsAll I ds _ its ha rv
   exact⟨_,Reads.tuple ho hc hd hr⟩
 |.dict _,_,_,h,_=>by cases h
theorem Dp.readsAll (I:Inv X pins σ H s):∀(ds:List PyData) (vs:List V) (us:List Value),lB X.K H vs ds->aT vs us->∃as,ReadsAll s.heap us ds as
 |[],_,_,h,r=>by
  cases h
  cases r
  exact⟨_,ReadsAll.nil⟩
 |d :: ds,_,_,h,r=>by
  cases h with
  |cons h1 h2 =>
   cases r with
   |cons r1 r2 =>
    obtain⟨as,q1⟩:=Dp.reads I d _ _ h1 r1
    obtain⟨bs,q2⟩:=Dp.readsAll I ds _ _ h2 r2
    exact⟨_,ReadsAll.cons q1 q2⟩
end
end
section
variable  {X:Cx}
def EA (K:FQ):R2:=λ x y H Q=>∃d e,Dp K H x d/\Dp K H y e/\SeqAt.shaped d=true/\SeqAt.shaped e=true/\Q (.bl (!PyData.eqv d e)) H
theorem Au (hu:X.A.units+64<cLine):OpR X (Ga .NotEq) (EA X.K):=by
 intro pins s σ H x y v u Q I rx ry h
 obtain⟨d,e,hd,he,sd,se,q⟩:=h
 obtain⟨as,r1⟩:=Dp.reads I d x v hd rx
 obtain⟨bs,r2⟩:=Dp.reads I e y u he ry
 exact SeqAt.compareNe_shaped r1 r2 sd se hu ⟨.bl _,H,I,rfl,q⟩
end
end L2
namespace L2
open PySem PySem.Spec PyProof.Rows
abbrev wX (h:Heap)(c:EJ)(v:Option Value):Prop:=h.IsCell c v
def DY (scope sc:Scope):Scope :=
 { scope with names:=scope.names.map λ(n,k)=>if (k==.free&&sc.kind==.function&&sc.names.lookup n==some .cell) then (n,.cell) else (n,k) }
def bF (cells:List (Str×EJ)):List (Str×NameKind)->List (Str×EJ)->List (Str×EJ)
 |[],acc=>acc
 |(n,k) :: r,acc=>if k==.free then bF cells r ((n,(cells.lookup n).getD 0) :: acc) else bF cells r acc
theorem j7 (env:Env)(f:Str×NameKind->List (Str×EJ)->Sem (ForInStep (List (Str×EJ))))
  (hf:∀n k c,f (n,k) c=if k==.free then (do let a <-cellOf env n;pure (.yield ((n,a) :: c))) else pure (.yield c)) :
  ∀(names:List (Str×NameKind)) (acc:List (Str×EJ)),(∀y∈names,y.2=.free->∃c,env.cells.lookup y.1=some c)->forIn names acc f=pure (bF env.cells names acc)
 |[],acc,_=>by rw[List.forIn_nil];rfl
 |(n,k) :: r,acc,h=>by
  rw[List.forIn_cons,hf]
  have ih:=λ acc=>j7 env f hf r acc λ y hy=>h y (EQ _ hy)
  unfold bF
  by_cases hk:(k==NameKind.free)=true
  ·rw[EU hk,EU hk]
   obtain⟨c,hc⟩:=h (n,k) E7 (by simpa using hk)
   have e:cellOf env n=pure c:=by unfold cellOf;rw[hc]
   rw[e]
   have e2:(env.cells.lookup n).getD 0=c:=by rw[hc];rfl
   rw[e2]
   exact ih _
  ·rw[EM hk,EM hk]
   exact ih _
theorem sL {scope:Scope}{env:Env}(h:∀y∈scope.names,y.2=.free->∃c,env.cells.lookup y.1=some c):closureFor scope env=pure (bF env.cells scope.names []):=by
 simp only[closureFor]
 rw[j7 env _ (λ n k c=>rfl) scope.names [] h]
 rfl
theorem jR {α:Type}:∀{l:List (Str×α)} {n:Str} {c:α},(n,c)∈l->∃c',l.lookup n=some c'
 |(k,v) :: r,n,c,h=>by
  rw[Hg]
  cases hb:n==k with
  |true=>exact⟨_,rfl⟩
  |false =>
   rcases ES.mp h with e|h
   ·cases e;simp at hb
   ·exact jR h
theorem gc {cells:List (Str×EJ)}:∀{names:List (Str×NameKind)} {acc:List (Str×EJ)} {n:Str} {c:EJ},(n,c)∈bF cells names acc->(n,c)∈acc\/((n,.free)∈names/\c=(cells.lookup n).getD 0)
 |[],_,_,_,h=>.inl h
 |(m,k) :: r,acc,n,c,h=>by
  unfold bF at h
  split at h
  ·rename_i hk
   have hk:k=.free:=by simpa using hk
   rcases gc h with h|⟨h1,h2⟩
   ·rcases ES.mp h with e|h
    ·cases e;exact .inr ⟨hk▸E7,rfl⟩
    ·exact .inl h
   ·exact .inr ⟨EQ _ h1,h2⟩
  ·rcases gc h with h|⟨h1,h2⟩
   ·exact .inl h
   ·exact .inr ⟨EQ _ h1,h2⟩
theorem iU {cells:List (Str×EJ)}:∀{names:List (Str×NameKind)} {acc:List (Str×EJ)} {p:Str×EJ},p∈acc->p∈bF cells names acc
 |[],_,_,h=>h
 |(m,k) :: r,acc,p,h=>by
  unfold bF
  split
  ·exact iU (EQ _ h)
  ·exact iU h
theorem iP {cells:List (Str×EJ)}:∀{names:List (Str×NameKind)} {acc:List (Str×EJ)} {n:Str},(n,.free)∈names->(n,(cells.lookup n).getD 0)∈bF cells names acc
 |(m,k) :: r,acc,n,h=>by
  unfold bF
  rcases ES.mp h with e|h
  ·cases e
   exact iU E7
  ·split
   ·exact iP h
   ·exact iP h
theorem gK:∀{names:List (Str×NameKind)} {h:Heap} {acc:List (Str×EJ)} {x:Str} {c:EJ},(x,c)∈Gu h.objs.size names acc ->
  (x,c)∈acc\/((x,.cell)∈names/\h.objs.size<=c/\wX (pushCells h names) c none)
 |[],_,_,_,_,h=>.inl h
 |(n,k) :: r,h,acc,x,c,hm=>by
  unfold Gu at hm
  unfold pushCells
  split at hm
  ·rename_i hk
   rw[EU hk]
   have hk:k=.cell:=by simpa using hk
   rw[<-F6 h { cls:=.type "cell",data:=.cell none }]at hm
   rcases gK hm with hm|⟨h1,h2,h3⟩
   ·rcases ES.mp hm with e|hm
    ·cases e
     exact .inr ⟨hk▸E7,nlr _,_,pushCells_keeps r _ _ _ (Fb _ rfl),rfl⟩
    ·exact .inl hm
   ·rw[F6]at h2
    exact .inr ⟨EQ _ h1,Nat.le_of_succ_le h2,h3⟩
  ·rename_i hk
   rw[EM hk]
   rcases gK hm with hm|⟨h1,h2,h3⟩
   ·exact .inl hm
   ·exact .inr ⟨EQ _ h1,h2,h3⟩
theorem js:∀{names:List (Str×NameKind)} {n:Nat} {acc:List (Str×EJ)} {p:Str×EJ},p∈acc->p∈Gu n names acc
 |[],_,_,_,h=>h
 |(m,k) :: r,n,acc,p,h=>by
  unfold Gu
  split
  ·exact js (EQ _ h)
  ·exact js h
theorem kJ:∀{names:List (Str×NameKind)} {n:Nat} {acc:List (Str×EJ)} {x:Str},(x,.cell)∈names->∃c,(x,c)∈Gu n names acc
 |(m,k) :: r,n,acc,x,h=>by
  unfold Gu
  rcases ES.mp h with e|h
  ·cases e
   exact⟨n,js E7⟩
  ·split
   ·exact kJ h
   ·exact kJ h
theorem kC:∀{names:List (Str×NameKind)} {h:Heap} {acc:List (Str×EJ)} {x y:Str} {c:EJ},(∀p∈acc,p.2<h.objs.size)->(∀x y c,(x,c)∈acc->(y,c)∈acc->x=y) ->
  (x,c)∈Gu h.objs.size names acc->(y,c)∈Gu h.objs.size names acc->x=y
 |[],_,_,_,_,_,_,hi,h1,h2=>hi _ _ _ h1 h2
 |(n,k) :: r,h,acc,x,y,c,hl,hi,h1,h2=>by
  unfold Gu at h1 h2
  split at h1
  ·rename_i hk
   rw[EU hk]at h2
   rw[<-F6 h { cls:=.type "cell",data:=.cell none }]at h1 h2
   refine kC (h:=h.push _) (λ p hp=>?_) (λ x y c a b=>?_) h1 h2
   ·rw[F6]
    rcases ES.mp hp with rfl|hp
    ·exact Nat.lt_succ_self _
    ·exact Ih (hl p hp)
   ·rcases ES.mp a with e|a<;>rcases ES.mp b with e'|b
    ·cases e;cases e';rfl
    ·cases e;exact absurd (hl _ b) (Gx _)
    ·cases e';exact absurd (hl _ a) (Gx _)
    ·exact hi _ _ _ a b
  ·rename_i hk
   rw[EM hk]at h2
   exact kC hl hi h1 h2
theorem qI {M:Model}{A:Around}{E:Value->EK->Prop}{s:EK}{scope:Scope}{globals:EJ}{closure:List (Str×EJ)}{qual:Str}{func:Option EJ}{code:Value}{around:Env}{builtins:EJ}{Q:Env->EK->Prop}
  (h:Q (newEnv scope s.heap.objs.size globals (Gu (s.heap.objs.size+1) scope.names closure) qual func code (some around) builtins)
   { s with heap:=pushCells (s.heap.push { cls:=.type "dict",data:=.dict #[] }) scope.names }) :
  Fp M A (newFunctionEnv scope globals closure [] qual func code (some around) builtins) Q E s:=by
 simp only[newFunctionEnv,Option.isSome_some,if_true]
 refine EI (wpAny_alloc ?_)
 refine EI (wpAny_layCells _ (λ n k c=>rfl) scope.names closure _ _ ?_)
 rw[show({ s with heap:=s.heap.push { cls:=.type "dict",data:=.dict #[] } }:EK).heap.objs.size=s.heap.objs.size+1 from F6 ..]
 rw[List.forIn_nil]
 exact EI (E5 (E5 h))
theorem jc {sc:Scope}:∀{names:List (Str×NameKind)} {x:Str} {k:NameKind},
  (names.map λ(n,k)=>if (k==NameKind.free&&sc.kind==.function&&sc.names.lookup n==some .cell) then (n,NameKind.cell) else (n,k)).lookup x=some k ->
  ∃k',names.lookup x=some k'/\(k=k'\/(k'=.free/\k=.cell))
 |[],_,_,h=>by simp at h
 |(n,k₀) :: r,x,k,h=>by
  have ih:=@jc sc r x k
  have h':Iu x ((if (k₀==NameKind.free&&sc.kind==.function&&sc.names.lookup n==some .cell)=true then (n,NameKind.cell) else (n,k₀)) :: (r.map _))=some k:=h
  cases hx:x==n with
  |true =>
   simp only[Hg,hx]
   by_cases hc:(k₀==NameKind.free&&sc.kind==.function&&sc.names.lookup n==some .cell)=true
   ·rw[EU hc]at h'
    simp only[Hg,hx]at h'
    cases h'
    simp only[EO,HI]at hc
    exact⟨k₀,rfl,.inr ⟨hc.1.1,rfl⟩⟩
   ·rw[EM hc]at h'
    simp only[Hg,hx]at h'
    cases h'
    exact⟨_,rfl,.inl rfl⟩
  |false =>
   simp only[Hg,hx]
   by_cases hc:(k₀==NameKind.free&&sc.kind==.function&&sc.names.lookup n==some .cell)=true
   ·rw[EU hc]at h'
    simp only[Hg,hx]at h'
    exact ih h'
   ·rw[EM hc]at h'
    simp only[Hg,hx]at h'
    exact ih h'
structure qO (N:List Str)(sc scope:Scope)(own:List (Str×Nat)):Prop where
 kind:scope.kind=.function
 uniq:∀y∈scope.names,scope.names.lookup y.1=some y.2
 ix:∀p∈own,N[p.2]? = some p.1
 free:∀y∈scope.names,y.2=.free->sc.names.lookup y.1=some .cell\/sc.names.lookup y.1=some .free
 own:∀y∈scope.names,y.2=.local\/y.2=.cell->y.1∈own.map (·.1)\/y.1∉N
def bX (σ:St):List Nat->St
 |[]=>σ
 |v :: vs=>(bX σ vs).set v none
theorem i9 (σ:St):∀vs:List Nat,(bX σ vs).length=σ.length
 |[]=>rfl
 |v :: vs=>by unfold bX;rw[List.length_set,i9 σ vs]
theorem kX {σ:St}{i:Nat}{x:V}:∀{vs:List Nat},(bX σ vs)[i]? = some (some x)->σ[i]? = some (some x)/\i∉vs
 |[],h=>⟨h,by simp⟩
 |v :: vs,h=>by
  unfold bX at h
  by_cases hi:v=i
  ·subst hi
   by_cases hv:v<(bX σ vs).length
   ·rw[HJ hv]at h;cases h
   ·rw[List.getElem?_eq_none (by simpa using hv)]at h;cases h
  ·rw[GT hi]at h
   obtain⟨h1,h2⟩:=kX h
   exact⟨h1,by simp only[ES,not_or];exact⟨λ e=>hi e.symm,h2⟩⟩
abbrev Cx.blk (X:Cx)(s:EK)(H:Hp)(scope:Scope)(cenv:Env)(fp:List EJ):Cx:={ X with s_0:=s,H_0:=H,env:=cenv,outer:=X.stack,ex:=fp,fn:=λ x=>scope.names.lookup x==some .cell,pn:=[],xe:=λ _ _=>False }
section
variable  {X:Cx}{pins:List (EJ×Obj)}{σ:St}{H:Hp}{s:EK}
theorem qG {scope:Scope}{own:List (Str×Nat)}{fp:List EJ}(I:Inv X pins σ H s)(ok:qO X.N X.env.scope scope own)(hN:X.N.Nodup)(hfp:∀b∈fp,lO X pins H b/\b<s.heap.objs.size) :
  Inv (X.blk s H scope (Io scope (Gu (s.heap.objs.size+1) scope.names (bF X.env.cells scope.names [])) s.heap.objs.size X.env) fp) [] (bX σ (own.map (·.2))) H { s with heap:=pushCells (s.heap.push { cls:=.type "dict",data:=.dict #[] }) scope.names }:=by
 have hfree:∀y∈scope.names,y.2=.free->∃c,X.env.cells.lookup y.1=some c:=λ y hy e=>by
  rcases ok.free y hy e with k|k
  ·exact I.ok.has _ (.inl k)
  ·exact I.ok.has _ (.inr k)
 generalize hcenv:Io scope (Gu (s.heap.objs.size+1) scope.names (bF X.env.cells scope.names [])) s.heap.objs.size X.env=cenv
 have kp:∀b o,s.heap.get? b=some o->(pushCells (s.heap.push { cls:=.type "dict",data:=.dict #[] }) scope.names).get? b=some o:=λ b o e=>pushCells_keeps _ _ _ _ (EV _ e)
 have hL:cenv.locals=s.heap.objs.size:=by rw[<-hcenv];rfl
 have hcl:cenv.cells=Gu (s.heap.objs.size+1) scope.names (bF X.env.cells scope.names []):=by rw[<-hcenv];rfl
 have hsc:cenv.scope=DY scope X.env.scope:=by rw[<-hcenv];rfl
 rw[<-F6 s.heap { cls:=.type "dict",data:=.dict #[] }]at hcl
 have cm:∀{y c},(y,c)∈bF X.env.cells scope.names []->X.env.cells.lookup y=some c/\c<s.heap.objs.size:=λ{y c} hm=>by
  rcases gc hm with hm|⟨h1,rfl⟩
  ·cases hm
  ·obtain⟨c,hc⟩:=hfree _ h1 rfl
   rw[hc]
   obtain⟨w,z⟩:=I.cell _ _ hc
   exact⟨rfl,z.lt⟩
 have mem:∀{y c},cenv.cells.lookup y=some c->(X.env.cells.lookup y=some c/\c<s.heap.objs.size)\/(s.heap.objs.size+1<=c/\wX (pushCells (s.heap.push { cls:=.type "dict",data:=.dict #[] }) scope.names) c none):=λ{y c} e=>by
  rw[hcl]at e
  rcases gK (Fz e) with hm|⟨_,h2,h3⟩
  ·exact .inl (cm hm)
  ·rw[F6]at h2;exact .inr ⟨h2,h3⟩
 have look:∀{y},scope.names.lookup y=some .free->∃c,cenv.cells.lookup y=some c/\X.env.cells.lookup y=some c:=λ{y} hl=>by
  have hy:(y,NameKind.free)∈scope.names:=Fz hl
  obtain⟨c',e'⟩:=jR (js (names:=scope.names) (n:=(s.heap.push { cls:=.type "dict",data:=.dict #[] }).objs.size) (iP (cells:=X.env.cells) (acc:=[]) hy))
  rw[<-hcl]at e'
  refine⟨c',e',?_⟩
  rw[hcl]at e'
  rcases gK (Fz e') with hm|⟨h1,_,_⟩
  ·exact(cm hm).1
  ·have:=ok.uniq _ h1
   rw[hl]at this;cases this
 have okB:(X.blk s H scope cenv fp).Ok:=by
  refine⟨I.ok.mod,by show cenv.scope.kind=_;rw[hsc];exact ok.kind,by show cenv.globals=_;rw[<-hcenv];exact I.ok.glob,by show cenv.builtins=_;rw[<-hcenv];exact I.ok.blt,by show s.heap.objs.size<=cenv.locals;rw[hL];exact nlr _,
   λ y z c e1 e2=>?_,λ y hy=>?_,λ y c z e=>?_,I.ok.hd,I.ok.frames,.inl rfl,λ b hb=>⟨?_,λ y c e z=>?_⟩,I.bs,Fw I.ok.bsz I.sz,λ b o e hb=>?_,λ b hb z=>?_,I.stack,I.stkFree⟩
  ·have e1:cenv.cells.lookup y=some c:=e1
   have e2:cenv.cells.lookup z=some c:=e2
   rw[hcl]at e1 e2
   refine kC (λ p hp=>?_) (λ y z c a b=>I.ok.inj y z c (cm a).1 (cm b).1) (Fz e1) (Fz e2)
   rw[F6]
   exact Ih (cm (y:=p.1) (c:=p.2) hp).2
  ·show ∃c,cenv.cells.lookup y=some c
   have key:∀k,cenv.kindOf y=some k->(k=.cell\/k=.free)->∃c,cenv.cells.lookup y=some c:=λ k hk hk'=>by
    unfold Env.kindOf at hk
    rw[hsc]at hk
    obtain⟨k',e,r⟩:=jc hk
    have:k'=.cell\/k'=.free:=by
     rcases r with rfl|⟨rfl,_⟩
     ·exact hk'
     ·exact .inr rfl
    rcases this with rfl|rfl
    ·obtain⟨c,hm⟩:=kJ (n:=(s.heap.push { cls:=.type "dict",data:=.dict #[] }).objs.size) (acc:=bF X.env.cells scope.names []) (Fz e)
     obtain⟨c',e'⟩:=jR hm
     exact⟨c',by rw[hcl];exact e'⟩
    ·obtain⟨c,h1,_⟩:=look e
     exact⟨c,h1⟩
   rcases hy with hy|hy
   ·exact key _ hy (.inl rfl)
   ·exact key _ hy (.inr rfl)
  ·have z:(scope.names.lookup y==some NameKind.cell)=true:=z
   have z:scope.names.lookup y=some .cell:=by simpa using z
   have e:cenv.cells.lookup y=some c:=e
   rw[hcl]at e
   rcases gK (Fz e) with hm|⟨_,h2,_⟩
   ·rcases gc hm with hm|⟨h1,_⟩
    ·cases hm
    ·have q:=ok.uniq _ h1
     rw[z]at q;cases q
   ·rw[F6]at h2
    exact Nat.le_of_succ_le h2
  ·show b≠cenv.locals
   rw[hL];exact Fv (hfp b hb).2
  ·have e:cenv.cells.lookup y=some c:=e
   rcases mem e with⟨h1,_⟩|⟨h1,_⟩
   ·exact(hfp b hb).1.2.2.2.2.1 y c h1 z
   ·have h2:s.heap.objs.size+1<=b:=by rw[<-z];exact h1
    exact absurd (E9 (hfp b hb).2 (Nat.le_of_succ_le h2)) (Gx _)
  ·rcases(hfp b hb).1.2.2.2.1 with z|z
   ·exact I.ok.noex b o e z
   ·exact absurd (E9 (EX e) (Fw I.ok.bsz z)) (Gx _)
  ·rcases ES.mp (I.stkSub b z) with z|z
   ·exact(hfp b hb).1.2.1 z
   ·exact(hfp b hb).1.2.2.1 z
 refine⟨okB,rfl,I.bare,Un.kept kp,⟨λ _=>none,?_,λ i y av e1 e2 e3=>?_⟩,λ y c e=>?_,?_,λ y c e=>?_,λ p hp=>?_,I.hok.kept kp,by rw[i9];exact I.len⟩
 ·show Heap.Ns _ cenv.locals _
  rw[hL]
  exact Heap.Ns.keeps (Heap.Ns.new ..) λ b o e=>pushCells_keeps _ _ _ _ e
 ·obtain⟨e2,hne⟩:=kX e2
  have hfr:scope.names.lookup y=some .free/\(cenv.kindOf y=some .cell\/cenv.kindOf y=some .free):=by
   have key:∀k,cenv.scope.names.lookup y=some k->k=.local\/k=.cell\/k=.free->scope.names.lookup y=some .free/\(cenv.kindOf y=some .cell\/cenv.kindOf y=some .free):=λ k hk hk'=>by
    have hk0:=hk
    rw[hsc]at hk
    obtain⟨k',e,r⟩:=jc hk
    have no:¬(k'=.local\/k'=.cell):=λ hh=>by
     rcases ok.own _ (Fz e) hh with e'|e'
     ·obtain⟨p,hp,hpy⟩:=Fx.mp e'
      have e3:=ok.ix p hp
      have:p.1=y:=hpy
      rw[this]at e3
      exact hne (Fx.mpr ⟨p,hp,na hN e3 e1⟩)
     ·exact e' (FG e1)
    rcases r with rfl|⟨rfl,rfl⟩
    ·rcases hk' with rfl|rfl|rfl
     ·exact absurd (.inl rfl) no
     ·exact absurd (.inr rfl) no
     ·exact⟨e,.inr hk0⟩
    ·exact⟨e,.inl hk0⟩
   have e3:Vis cenv.scope y:=e3
   rcases e3 with e3|e3|e3
   ·exact key _ e3 (.inl rfl)
   ·exact key _ e3 (.inr (.inl rfl))
   ·exact key _ e3 (.inr (.inr rfl))
  obtain⟨m,hn,hl⟩:=I.loc
  have hvis:Vis X.env.scope y:=(ok.free _ (Fz hfr.1) rfl).elim (λ k=>.inr (.inl k)) (λ k=>.inr (.inr k))
  obtain⟨w,r,q⟩:=hl i y av e1 e2 hvis
  refine⟨w,r,.inr ⟨hfr.2,?_⟩⟩
  obtain⟨c,h1,h2⟩:=look hfr.1
  rcases q with⟨k,_⟩|⟨_,c',e',z⟩
  ·have k:X.env.scope.names.lookup y=some .local:=k
   rcases ok.free _ (Fz hfr.1) rfl with k'|k'<;>rw[show X.env.scope.names.lookup y=_ from k']at k<;>cases k
  ·rw[h2]at e';cases e'
   exact⟨c,h1,z.keeps kp⟩
 ·have e:cenv.cells.lookup y=some c:=e
  rcases mem e with⟨h1,_⟩|⟨_,z⟩
  ·obtain⟨w,z⟩:=I.cell y c h1
   exact⟨w,z.keeps kp⟩
  ·exact⟨_,z⟩
 ·show H cenv.locals=none
  rw[hL];exact I.hok.fresh (nlr _)
 ·have e:cenv.cells.lookup y=some c:=e
  rcases mem e with⟨h1,_⟩|⟨h1,_⟩
  ·exact I.freeC y c h1
  ·exact I.hok.fresh (Nat.le_of_succ_le h1)
 ·exact absurd (show p∈([]:List (EJ×Obj))++[] from hp) (by simp)
theorem AS {E:Value->EK->Prop}{D:EJ}{xs:List V}{y:V}{v:Value}{Q:Value->EK->Prop}(I:Inv X pins σ H s)(hD:H D=some (.lst xs))(hz:xs.length<EL)(r:a5 y v)
  (h:∀s',Inv X pins σ (upd H D (.lst (xs++[y]))) s'->Q .none s'):Fp (FC X.prog X.w) X.A (call (.builtin "list.append") [.ref D,v]) Q E s:=by
 obtain⟨hz',its,n,ri,e⟩:=I.hok D _ hD
 have hl:=ri.length
 refine append_at (hsz:=by rw[EW];omega) e λ h' sb ho'=>?_
 refine h { s with heap:=h' } (I.write (t':=s.toks) (by rw[hD];trivial) (.inl rfl) (λ b u hb q=>(sb.2 b hb).trans q) ⟨_,ho'⟩ ⟨by rw[EN];exact hz,its++[v],n+1,ri.append (.cons r .nil),?_⟩)
 rw[ho']
 simp
def PTs (X:Cx)(ifs:List Expr)(t:TT):Prop :=
 ∀(pins:List (EJ×Obj)) (s:EK) (σ:St) (H:Hp) (Q:Bool->Hp->Prop),Inv X pins σ H s->t σ H Q ->
  Fp (FC X.prog X.w) X.A (forIn ifs true λ c r=>if r=true then do let ok <-isTrue c X.env (Ik c X.env);pure (ForInStep.yield ok) else pure (ForInStep.yield r)) (TP X pins σ Q) X.xe s
def BP:TT:=λ _ H Q=>Q true H
theorem eU:PTs X [] BP:=λ _ _ _ H _ I h=>wpAny_tests_nil ⟨H,I,h⟩
theorem jo {c:Expr}{t:TT}(h:PT X c t):PTs X [c] t:=λ pins s σ H Q I hw=>wpAny_tests_one (h pins s σ H Q I hw)
end
theorem u5 {α:Type}{t:Sem α}{Q Q':α->EK->Prop}{M:Model}{A:Around}{E:Value->EK->Prop}{s:EK}(h:Fp M A t Q (λ _ _=>False) s)(hQ:∀a s,Q a s->Q' a s):Fp M A t Q' E s:=Ib h hQ λ _ _ z=>Gk z
theorem qf {prog:E8}{w:FL}{A:Around}{R:Result->EK->Prop}{s:EK}{elt target aE:Expr}{ifs:List Expr}{scope:Scope}{pos:Pos}{it acc:Value}{env:Env}(I:Nat->EK->Prop)
  (turn:∀n s,I n s->Fp (FC prog w) A (pyNext it) (λ r s₁=>match r with
   |none=>R (.ok .next) s₁
   |some v=>Fp (FC prog w) A (letOwnedTupleGo target it v) (λ _ s₁'=>Fp (FC prog w) A (assign target env v) (λ _ s₂ =>
     Fp (FC prog w) A (forIn ifs true λ c r=>if r=true then do let ok <-isTrue c env (Ik c env);pure (ForInStep.yield ok) else pure (ForInStep.yield r)) (λ ok s₃ =>
      if ok=true then Fp (FC prog w) A (Ik elt env) (λ x s₄ =>
       Fp (FC prog w) A (call (.builtin "list.append") [acc,x]) (λ _ s₅=>∃m,m<n/\I m s₅) (notedBy (FC prog w) A env λ e s'=>R (.error e) s') s₄) (notedBy (FC prog w) A env λ e s'=>R (.error e) s') s₃
      else ∃m,m<n/\I m s₃) (notedBy (FC prog w) A env λ e s'=>R (.error e) s') s₂) (notedBy (FC prog w) A env λ e s'=>R (.error e) s') s₁') (notedBy (FC prog w) A env λ e s'=>R (.error e) s') s₁) (notedBy (FC prog w) A env λ e s'=>R (.error e) s') s)
  (n:Nat) (h:I n s) :
  codeAny (FC prog w) A (.compLoop (.ListComp elt [⟨target,aE,ifs,0⟩] scope pos) 0 it acc env) R s:=by
 refine codeAny_loop rfl I (λ n s hI=>?_) n h
 show Fp _ A ((compTurn (.ListComp elt [⟨target,aE,ifs,0⟩] scope pos) 0 it acc env).onRaise (λ x=>do noteFrame x env;theTreesLotGoes x)) _ _ s
 refine wpAny_noted ?_
 rw[compTurn_list]
 refine EI (wpAny_standAt (EI (Ib (turn n s hI) (λ r s₁ h₁=>?_) λ _ _ h'=>h')))
 cases r with
 |none=>exact E5 h₁
 |some v =>
  refine EI (Ib h₁ (λ _ s₁' h₁'=>?_) λ _ _ h'=>h')
  refine EI (Ib h₁' (λ _ s₂ h₂=>EI (Ib h₂ (λ ok s₃ h₃=>?_) λ _ _ h'=>h')) λ _ _ h'=>h')
  cases ok with
  |false=>exact E5 ⟨rfl,h₃⟩
  |true =>
   exact EI (EI (Ib h₃ (λ x s₄ h₄=>EI (Ib h₄ (λ _ s₅ h₅=>E5 (E5 ⟨rfl,h₅⟩)) λ _ _ h'=>h')) λ _ _ h'=>h'))
section
variable  {X:Cx}
def tLc (wi:TI)(g:TG)(tt:TT)(te:TE)(vs:List Nat):TE:=λ σ H Q=>wi σ H λ J H1=>∀D,H1 D=none->∃W:Nat->Nat->Hp->Prop,(∃m,W 0 m (upd H1 D (.lst [])))/\∀i m H,W i m H ->
 (J.stop i H/\Q (.ref D) H)\/(J.go i H/\∃Nx:Hp->Prop,(∀H',Nx H'->∃m',m'<m/\W (i+1) m' H')/\∀x H',J.yld i H x H'->g x (bX σ vs) H' λ σ2 H2=>bX σ2 vs=bX σ vs/\tt σ2 H2 λ b H3 =>
  if b=true then te σ2 H3 λ y H4=>∃acc,H4 D=some (.lst acc)/\acc.length<EL/\Nx (upd H4 D (.lst (acc++[y]))) else Nx H3)
theorem uH {pins:List (EJ×Obj)}{s:EK}{σ:St}{H:Hp}{Q:VK}{elt tg aE:Expr}{ifs:List Expr}{scope:Scope}{own:List (Str×Nat)}{pos pos':Pos}{wi:TI}{g:TG}{tt:TT}{te:TE}{use:Option (Value->Sem Unit)}{Qf:Value->EK->Prop}
  (hc:X.calm=true) (hN:X.N.Nodup) (I:Inv X pins σ H s) (hi:PI X tg aE wi) (ok:qO X.N X.env.scope scope own)
  (hg:∀(s:EK) (H:Hp) (C:EJ) (cl:List (Str×EJ)) (fp:List EJ),PG (X.blk s H scope (Io scope cl C X.env) fp) tg g) (ht:∀(s:EK) (H:Hp) (C:EJ) (cl:List (Str×EJ)) (fp:List EJ),PTs (X.blk s H scope (Io scope cl C X.env) fp) ifs tt)
  (he:∀(s:EK) (H:Hp) (C:EJ) (cl:List (Str×EJ)) (fp:List EJ),PE (X.blk s H scope (Io scope cl C X.env) fp) elt te) (hs:∀x,foldedSetIterable aE X.env x=pure x)
  (h:tLc wi g tt te (own.map (·.2)) σ H Q)
  (hRR:∀D C s' m H',Inv X pins σ H' s'->Q (.ref D) H'->s'.heap.Ns C m->lO X pins H' C->compPost (FC X.prog X.w) X.A X.xe use Qf (.ref D) C (.ok .next) s') :
  Fp (FC X.prog X.w) X.A (comprehension (.ListComp elt [⟨tg,aE,ifs,0⟩] scope pos) scope X.env pos' (newList []) false (Ik aE X.env) use) Qf X.xe s:=by
 have hfree:∀y∈scope.names,y.2=.free->∃c,X.env.cells.lookup y.1=some c:=λ y hy e=>by
  rcases ok.free y hy e with k|k
  ·exact I.ok.has _ (.inl k)
  ·exact I.ok.has _ (.inr k)
 refine wpAny_comprehension_free (use:=use) rfl hs (sL hfree) ok.kind (λ y hy e=>by rw[ok.uniq y hy,e])
  (thn (hi pins s σ H _ I h) λ xv s1 hx=>thn hx λ itv s2 h2=>?_)
 obtain⟨it,fp,tn,J,H2,e,I2,T,st2,f2,q⟩:=h2
 subst e
 refine wpAny_newObj_type (qI ?_) (by show 0<=EL;decide)
 generalize hD:s2.heap.objs.size=D
 have hDn:H2 D=none:=I2.hok.fresh (Nat.le_of_eq hD)
 obtain⟨W,⟨m0,w0⟩,turn⟩:=q D hDn
 generalize hs3:({ s2 with heap:=s2.heap.push { cls:=.type "list",data:=.seq ([]:List Value).toArray } }:EK)=s3
 have I3:Inv X pins σ (upd H2 D (.lst [])) s3:=by
  rw[<-hs3]
  refine I2.laid (t':=s2.toks) (λ b o e=>EV _ e) (Nat.le_of_eq hD) ⟨FR _,[],0,.nil,?_⟩
  rw[<-hD]
  exact Fb _ rfl
 have h3:s3.heap=s2.heap.push { cls:=.type "list",data:=.seq ([]:List Value).toArray }:=by rw[<-hs3]
 have sz:∀b∈fp,b<s2.heap.objs.size:=λ b hb=>by
  obtain⟨o,e,_⟩:=T.obj _ _ st2 b hb
  exact EX e
 have f3:∀b∈fp,lO X pins (upd H2 D (.lst [])) b/\b<s3.heap.objs.size:=λ b hb=>by
  have hlt:=sz b hb
  refine⟨⟨?_,(f2 b hb).2⟩,by rw[h3,F6];exact Ih hlt⟩
  rw[ap (by rw[<-hD];exact Fv hlt)]
  exact(f2 b hb).1
 have st3:tn 0 s3.heap:=T.keep _ _ _ st2 λ b _ o e=>by rw[h3];exact EV _ e
 have I4:=qG I3 ok hN f3
 have pg:=hg s3 (upd H2 D (.lst [])) s3.heap.objs.size (Gu (s3.heap.objs.size+1) scope.names (bF X.env.cells scope.names [])) fp
 have pt:=ht s3 (upd H2 D (.lst [])) s3.heap.objs.size (Gu (s3.heap.objs.size+1) scope.names (bF X.env.cells scope.names [])) fp
 have pe:=he s3 (upd H2 D (.lst [])) s3.heap.objs.size (Gu (s3.heap.objs.size+1) scope.names (bF X.env.cells scope.names [])) fp
 show codeAny _ _ (.compStart (.ListComp elt [⟨tg,aE,ifs,0⟩] scope pos) 0 (.ref it) (.ref D) (Io scope (Gu (s3.heap.objs.size+1) scope.names (bF X.env.cells scope.names [])) s3.heap.objs.size X.env)) (compPost (FC X.prog X.w) X.A X.xe use Qf (.ref D) s3.heap.objs.size) { s3 with heap:=pushCells (s3.heap.push { cls:=.type "dict",data:=.dict #[] }) scope.names }
 have nfp:∀b∈fp,(upd H2 D (.lst [])) b=none:=λ b hb=>(f3 b hb).1.1
 generalize hce:Io scope (Gu (s3.heap.objs.size+1) scope.names (bF X.env.cells scope.names [])) s3.heap.objs.size X.env=ce at I4 pg pt pe ⊢
 have cL:ce.locals=s3.heap.objs.size:=by subst hce;rfl
 generalize hH3:upd H2 D (.lst [])=H3 at I3 I4 pg pt pe w0 nfp f3
 generalize hs4:({ s3 with heap:=pushCells (s3.heap.push { cls:=.type "dict",data:=.dict #[] }) scope.names }:EK)=s4 at I4 ⊢
 have st4:tn 0 s4.heap:=T.keep _ _ _ st3 λ b _ o e=>by rw[<-hs4];exact pushCells_keeps _ _ _ _ (EV _ e)
 have stat:∀{σ':St} {H':Hp} {s':EK},Inv (X.blk s3 H3 scope ce fp) [] σ' H' s'->(∀b∈fp,H' b=none)->∀b∈fp,lO (X.blk s3 H3 scope ce fp) [] H' b:=λ{σ' H' s'} I' hn b hb =>
  ⟨hn b hb,(I'.ok.exf b hb).1,I'.ok.exfs b hb,.inl hb,λ x c e=>(I'.ok.exf b hb).2 x c e,λ p hp=>absurd (show p∈([]:List (EJ×Obj))++[] from hp) (by simp)⟩
 have loop:codeAny (FC X.prog X.w) X.A (.compLoop (.ListComp elt [⟨tg,aE,ifs,0⟩] scope pos) 0 (.ref it) (.ref D) ce) (compPost (FC X.prog X.w) X.A X.xe use Qf (.ref D) s3.heap.objs.size) s4:=by
  refine qf (λ n s'=>∃i H',Inv (X.blk s3 H3 scope ce fp) [] (bX σ (own.map (·.2))) H' s'/\tn i s'.heap/\(∀b∈fp,H' b=none)/\W i n H') ?_ m0 ⟨0,H3,I4,st4,nfp,w0⟩
  rintro n s5 ⟨i,H5,I5,st5,n5,w5⟩
  rcases turn i n H5 w5 with⟨stop,qq⟩|⟨go,Nx,hNx,step⟩
  ·have td:=T.done (X.blk s3 H3 scope ce fp) rfl rfl rfl hc i [] s5 _ H5 (λ _ _=>False) I5 (stat I5 n5) st5 stop
   refine u5 td λ r s6 ⟨hr,I6⟩=>?_
   subst hr
   have I7:Inv X pins σ H5 s6:=I3.call' (ch:=fp) I6.os I6.base I6.hok I6.bare λ b hb=>⟨(f3 b hb).1.2.2.2.1,(f3 b hb).1.2.1,(f3 b hb).1.2.2.2.2.1,(f3 b hb).1.2.2.2.2.2⟩
   have nC:H5 s3.heap.objs.size=none:=by
    have z:H5 ce.locals=none:=I6.free
    rw[cL]at z
    exact z
   obtain⟨m,hn,_⟩:=I6.loc
   have hn:s6.heap.Ns ce.locals m:=hn
   rw[cL]at hn
   exact hRR D s3.heap.objs.size s6 m H5 I7 qq hn (I3.fpOk (nlr _) nC)
  ·have ti:=T.item (X.blk s3 H3 scope ce fp) rfl rfl rfl hc i [] s5 _ H5 (λ _ _=>False) I5 (stat I5 n5) st5 go
   refine u5 ti λ r s6 ⟨u,hr,h6⟩=>?_
   subst hr
   refine u5 h6 λ _ s7 ⟨x,H7,I7,r7,y7,st7,n7⟩=>?_
   have I7':=I7.pinned (stat I7 n7) (T.obj _ _ st7)
   refine u5 (pg _ s7 _ H7 x u _ I7' r7 (step x H7 y7)) λ _ s8 ⟨σ8,H8,I8,hw8,q8⟩=>?_
   refine u5 (pt _ s8 σ8 H8 _ I8 q8) λ b s9 ⟨H9,I9,q9⟩=>?_
   have fin:∀{s':EK} {H':Hp},Inv (X.blk s3 H3 scope ce fp) ([]++mQ fp s7.heap) σ8 H' s'->Nx H'->∃m,m<n/\∃i H',Inv (X.blk s3 H3 scope ce fp) [] (bX σ (own.map (·.2))) H' s'/\tn i s'.heap/\(∀b∈fp,H' b=none)/\W i m H':=λ{s' H'} I' nx=>by
    obtain⟨m',hm,w'⟩:=hNx H' nx
    have pin':∀b∈fp,∀o,s7.heap.get? b=some o->s'.heap.get? b=some o/\H' b=none:=λ b hb o e =>
     let z:=I'.pin (b,o) (Gc _ (Gc _ (jT hb e)))
     ⟨z.1,z.2.1⟩
    have hl:(bX σ (own.map (·.2))).length=σ8.length:=by rw[<-hw8,i9]
    refine⟨m',hm,i+1,H',(I'.unpinned (pins:=[])).weak hl (λ j v e=>?_),T.keep _ _ _ st7 λ b hb o e=>(pin' b hb o e).1,λ b hb=>?_,w'⟩
    ·rw[<-hw8]at e
     exact(kX e).1
    ·obtain⟨o,e,_⟩:=T.obj _ _ st7 b hb
     exact(pin' b hb o e).2
   cases b with
   |false =>
    simp only[Bool.false_eq_true,Ig]at q9 ⊢
    exact fin I9 q9
   |true =>
    simp only[if_true]at q9 ⊢
    refine u5 (pe _ s9 σ8 H9 _ I9 q9) λ z s10 ⟨yv,H10,I10,r10,acc,hD10,hz10,nx⟩=>?_
    exact AS (X:=X.blk s3 H3 scope ce fp) I10 hD10 hz10 r10 λ s11 I11=>fin I11 nx
 exact codeAny_compStart_list loop (T.self X.A 0 _ _ _ st4 loop)
theorem xY {elt tg aE:Expr}{ifs:List Expr}{scope:Scope}{own:List (Str×Nat)}{pos:Pos}{wi:TI}{g:TG}{tt:TT}{te:TE}(hc:X.calm=true)(hN:X.N.Nodup)(hi:PI X tg aE wi)(ok:qO X.N X.env.scope scope own)
  (hg:∀(s:EK) (H:Hp) (C:EJ) (cl:List (Str×EJ)) (fp:List EJ),PG (X.blk s H scope (Io scope cl C X.env) fp) tg g) (ht:∀(s:EK) (H:Hp) (C:EJ) (cl:List (Str×EJ)) (fp:List EJ),PTs (X.blk s H scope (Io scope cl C X.env) fp) ifs tt)
  (he:∀(s:EK) (H:Hp) (C:EJ) (cl:List (Str×EJ)) (fp:List EJ),PE (X.blk s H scope (Io scope cl C X.env) fp) elt te) (hs:∀x,foldedSetIterable aE X.env x=pure x:=by intro _;rfl) :
  PE X (.ListComp elt [⟨tg,aE,ifs,0⟩] scope pos) (tLc wi g tt te (own.map (·.2))):=by
 intro pins s σ H Q I h
 rw[eval_ListComp]
 refine uH hc hN I hi ok hg ht he hs h λ D C s' m H' I' q hn f=>⟨m,hn,λ h'' sb=>?_⟩
 obtain⟨f0,f1,f2,f3,f4,f5⟩:=f
 exact⟨.ref D,H',I'.turned (t':=s'.toks) (λ b o hb e=>(sb.2 b hb).trans e) f0 f1 f3 f4 f5,rfl,q⟩
theorem cw {i:Nat}{y:Str}{py:Pos}{elt tg aE:Expr}{ifs:List Expr}{scope:Scope}{own:List (Str×Nat)}{pos spos:Pos}{wi:TI}{g:TG}{tt:TT}{te:TE}(hc:X.calm=true)(hN:X.N.Nodup)(hy:X.N[i]? = some y)(hyl:X.env.scope.names.lookup y=some .local)
  (hsw:swapsWith (.ListComp elt [⟨tg,aE,ifs,0⟩] scope pos) (some (.Name y py)) spos.line X.env=pure true) (hi:PI X tg aE wi) (ok:qO X.N X.env.scope scope own)
  (hg:∀(s:EK) (H:Hp) (C:EJ) (cl:List (Str×EJ)) (fp:List EJ),PG (X.blk s H scope (Io scope cl C X.env) fp) tg g) (ht:∀(s:EK) (H:Hp) (C:EJ) (cl:List (Str×EJ)) (fp:List EJ),PTs (X.blk s H scope (Io scope cl C X.env) fp) ifs tt)
  (he:∀(s:EK) (H:Hp) (C:EJ) (cl:List (Str×EJ)) (fp:List EJ),PE (X.blk s H scope (Io scope cl C X.env) fp) elt te) (hs:∀x,foldedSetIterable aE X.env x=pure x:=by intro _;rfl) :
  PS X (.Assign [.Name y py] (.ListComp elt [⟨tg,aE,ifs,0⟩] scope pos) spos) (Af (tLc wi g tt te (own.map (·.2))) (pk i)):=by
 intro pins s σ H D I h
 rw[exec_Assign_Name_used _ _ _ _ hsw]
 refine EI (wpAny_standAt (EI ?_))
 show Fp _ X.A (do let _ <-comprehension (.ListComp elt [⟨tg,aE,ifs,0⟩] scope pos) scope X.env (firstIterPos [⟨tg,aE,ifs,0⟩] pos) (newList []) false (Ik aE X.env) (some (assign (.Name y py) X.env))) _ _ s
 have h:tLc wi g tt te (own.map (·.2)) σ H (λ x H1=>pk i x σ H1 D.nx):=h
 refine EI (thn (uH (Qf:=λ _ s'=>SP X pins D .next s') hc hN I hi ok hg ht he hs h λ L C s' m H' I' q hn f=>?_) λ _ s' hq=>E5 (E5 hq))
 show Fp _ _ (assign (.Name y py) X.env (.ref L)) _ _ _
 refine wpAny_assign_Name (store_ok2 (v:=V.ref L) I' hN hy (.inl hyl) rfl (λ s2 I2 ⟨a,sb,ha⟩=>?_) (.inr hyl))
 obtain⟨f0,f1,f2,f3,f4,f5⟩:=f
 have haC:C≠a:=by
  rcases ha with z|z
  ·rw[z];exact f1
  ·exact λ e=>f4 y a z e.symm
 refine⟨m,hn.sameBut sb haC,λ h3 sb3=>?_⟩
 exact⟨_,H',I2.turned (t':=s2.toks) (λ b o hb e=>(sb3.2 b hb).trans e) f0 f1 f3 f4 f5,q⟩
theorem dH {elt:Expr}{gs:List Comprehension}{scope:Scope}{pos py:Pos}{y:Str}{l:Nat}{env:Env}(hk:env.scope.kind=.function)(hy:env.scope.names.lookup y=some .local)(hl:(py.line==pos.line)=true)
  (ha:(scope.names.any λ(n,k)=>n==y&&(k==.local||k==.cell))=false):swapsWith (.ListComp elt gs scope pos) (some (.Name y py)) l env=pure true:=by
 have ky:env.kindOf y=some .local:=hy
 have hb:env.blockKind=.function:=by unfold Env.blockKind;rw[hk];rfl
 unfold swapsWith
 simp only[hb,ky,ha,Expr.pos,hl]
 rfl
end
theorem ia {K:FQ}{a:EJ}{xs:List V}{g:TG}{tt:TT}{te:TE}{vs:List Nat}{σ:St}{H1:Hp}{D:EJ}{Qd:Hp->Prop}(Pv:Nat->Hp->Prop)(h0:Pv 0 (upd H1 D (.lst [])))(hl:∀i H,i<=xs.length->Pv i H->SqL K H a xs)
  (hs:∀i x H,xs[i]? = some x->Pv i H->g x (bX σ vs) H λ σ2 H2=>bX σ2 vs=bX σ vs/\tt σ2 H2 λ b H3 =>
   if b=true then te σ2 H3 λ y H4=>∃acc,H4 D=some (.lst acc)/\acc.length<EL/\Pv (i+1) (upd H4 D (.lst (acc++[y]))) else Pv (i+1) H3) (hd:∀H,Pv xs.length H->Qd H) :
  ∃W:Nat->Nat->Hp->Prop,(∃m,W 0 m (upd H1 D (.lst [])))/\∀i m H,W i m H ->
   ((Itl K a).stop i H/\Qd H)\/((Itl K a).go i H/\∃Nx:Hp->Prop,(∀H',Nx H'->∃m',m'<m/\W (i+1) m' H')/\∀x H',(Itl K a).yld i H x H'->g x (bX σ vs) H' λ σ2 H2=>bX σ2 vs=bX σ vs/\tt σ2 H2 λ b H3 =>
    if b=true then te σ2 H3 λ y H4=>∃acc,H4 D=some (.lst acc)/\acc.length<EL/\Nx (upd H4 D (.lst (acc++[y]))) else Nx H3):=by
 refine⟨λ i m H=>m=xs.length-i/\i<=xs.length/\Pv i H,⟨xs.length,by simp,FR _,h0⟩,?_⟩
 rintro i m H ⟨rfl,hi,p⟩
 have q:=hl i H hi p
 by_cases hlt:i<xs.length
 ·refine .inr ⟨⟨xs,xs[i],q,by simp[hlt]⟩,Pv (i+1),λ H' p'=>⟨xs.length-(i+1),by omega,rfl,hlt,p'⟩,λ x H' y=>?_⟩
  obtain⟨e,y⟩:=y
  subst e
  exact hs i x _ (y xs q) p
 ·have e:i=xs.length:=by omega
  subst e
  exact .inl ⟨⟨xs,q,nlr _⟩,hd H p⟩
def iH (N:List Str)(sc scope:Scope)(own:List (Str×Nat)):Bool :=
 (match scope.kind with|.function=>true|_=>false)&&(scope.names.all λ y=>decide (scope.names.lookup y.1=some y.2))&&(own.all λ p=>decide (N[p.2]? = some p.1)) &&
  (scope.names.all λ y=>match y.2 with
   |.free=>(match sc.names.lookup y.1 with|some .cell=>true|some .free=>true|_=>false)
   |.local=>decide (y.1∈own.map (·.1))||decide (y.1∉N)
   |.cell=>decide (y.1∈own.map (·.1))||decide (y.1∉N)
   |_=>true)
theorem bL {N:List Str}{sc scope:Scope}{own:List (Str×Nat)}(h:iH N sc scope own=true):qO N sc scope own:=by
 unfold iH at h
 simp only[EO,FS,ET]at h
 obtain⟨⟨⟨h1,h2⟩,h3⟩,h4⟩:=h
 refine⟨?_,h2,h3,λ y hy e=>?_,λ y hy e=>?_⟩
 ·split at h1
  ·assumption
  ·cases h1
 ·have q:=h4 y hy
  simp only[e]at q
  split at q<;>first|exact .inl (by assumption)|exact .inr (by assumption)|cases q
 ·have q:=h4 y hy
  rcases e with e|e<;>(simp only[e,GK,ET]at q;exact q)
end L2
namespace L2
open PySem PySem.Spec PyProof.Rows
section
variable  {prog:E8}{w:FL}{A:Around}{R:Result->EK->Prop}{s:EK}{elt t0 i0 t1 i1:Expr}{ifs0 ifs1:List Expr}{scope:Scope}{pos:Pos}{it acc:Value}{env:Env}
end
section
variable  {X:Cx}
end
end L2
namespace L2
open PySem PySem.Spec PyProof.Rows
section
variable  {κ:Type}[DecidableEq κ]
def fN (kvs:List (κ×V))(k:κ):Option V:=(kvs.find? λ kv=>decide (kv.1=k)).map (·.2)
def i8 (kvs:List (κ×V))(k:κ)(v:V):List (κ×V) :=
 if (kvs.any λ kv=>decide (kv.1=k))=true then kvs.map (λ kv=>if kv.1=k then (kv.1,v) else kv) else kvs++[(k,v)]
theorem dk {p:κ×V}{r:List (κ×V)}{k:κ}(e:p.1=k):fN (p :: r) k=some p.2:=by simp[fN,G0,e]
theorem dg {p:κ×V}{r:List (κ×V)}{k:κ}(e:¬p.1=k):fN (p :: r) k=fN r k:=by simp[fN,G0,e]
theorem gG (k:κ):∀kvs:List (κ×V),(kvs.any λ kv=>decide (kv.1=k))=(fN kvs k).isSome
 |[]=>rfl
 |p :: r=>by
  rw[List.any_cons]
  by_cases e:p.1=k
  ·simp only[dk e,dqt e,IB,Option.isSome_some]
  ·rw[dg e,dqf e,Bool.false_or];exact gG k r
theorem qH (k j:κ)(y:V):∀kvs:List (κ×V),fN (kvs.map λ kv=>if kv.1=k then (kv.1,y) else kv) j=(fN kvs j).map λ x=>if j=k then y else x
 |[]=>rfl
 |p :: r=>by
  have ih:=qH k j y r
  rw[Fl]
  by_cases h:p.1=k
  ·rw[EU h]
   by_cases e:p.1=j
   ·rw[dk (p:=(p.1,y)) e,dk e,Option.map_some,EU (e.symm.trans h)]
   ·rw[dg (p:=(p.1,y)) e,dg e,ih]
  ·rw[EM h]
   by_cases e:p.1=j
   ·rw[dk (p:=p) e,dk e,Option.map_some,EM (λ z=>h (e.trans z))]
   ·rw[dg (p:=p) e,dg e,ih]
theorem pA (k j:κ)(y:V):∀kvs:List (κ×V),fN kvs k=none->fN (kvs++[(k,y)]) j=if j=k then some y else fN kvs j
 |[],_=>by
  by_cases e:k=j
  ·rw[EU e.symm];exact dk (p:=(k,y)) e
  ·rw[EM (λ z=>e z.symm)];exact dg (p:=(k,y)) e
 |p :: r,hn=>by
  rw[Ip]
  have hk:¬p.1=k:=λ z=>by rw[dk z]at hn;cases hn
  rw[dg hk]at hn
  have ih:=pA k j y r hn
  by_cases e:p.1=j
  ·rw[dk e,dk e,EM (λ z=>hk (e.trans z))]
  ·rw[dg e,dg e,ih]
theorem wU (kvs:List (κ×V))(k j:κ)(y:V):fN (i8 kvs k y) j=if j=k then some y else fN kvs j:=by
 unfold i8
 by_cases a:(kvs.any λ kv=>decide (kv.1=k))=true
 ·rw[EU a,qH]
  rw[gG]at a
  by_cases e:j=k
  ·obtain⟨x,hx⟩:=Option.isSome_iff_exists.mp a
   rw[EU e,e,hx,Option.map_some,EU rfl]
  ·rw[EM e]
   cases fN kvs j with
   |none=>rfl
   |some x=>rw[Option.map_some,EM e]
 ·rw[EM a]
  refine pA k j y kvs ?_
  rw[gG]at a
  cases q:fN kvs k with
  |none=>rfl
  |some x=>rw[q]at a;exact(a rfl).elim
theorem gd (kvs:List (κ×V))(k:κ)(v:V):(i8 kvs k v).length<=kvs.length+1:=by
 unfold i8
 split
 ·rw[lmp];omega
 ·rw[EN,Ft,Hv];omega
theorem kn.isSome_eq {o:Option V}{u:Option Value}(r:kn o u):o.isSome=u.isSome:=by
 cases o with
 |none=>cases u with
  |none=>rfl
  |some _=>exact(show False from r).elim
 |some _=>cases u with
  |none=>exact(show False from r).elim
  |some _=>rfl
theorem KV.val {kvs:List (κ×V)}{vs:List (κ×Value)}(r:KV kvs vs)(k:κ):kn (fN kvs k) (valueAt vs k):=by
 unfold KV at r
 induction r with
 |nil=>exact True.intro
 |@cons p q ps qs h t ih =>
  obtain⟨h1,h2⟩:=h
  by_cases e:p.1=k
  ·have e':q.1=k:=h1.symm.trans e
   have b:valueAt (q :: qs) k=some q.2:=by simp[valueAt,G0,e']
   rw[dk e,b];exact h2
  ·have e':¬q.1=k:=λ z=>e (h1.trans z)
   have b:valueAt (q :: qs) k=valueAt qs k:=by simp[valueAt,G0,e']
   rw[dg e,b];exact ih
theorem KV.any {kvs:List (κ×V)}{vs:List (κ×Value)}(r:KV kvs vs)(k:κ):(kvs.any λ kv=>decide (kv.1=k))=vs.any λ kv=>decide (kv.1=k):=by
 unfold KV at r
 induction r with
 |nil=>rfl
 |cons h t ih=>rw[List.any_cons,List.any_cons,ih,h.1]
theorem KV.repl {kvs:List (κ×V)}{vs:List (κ×Value)}(r:KV kvs vs)(k:κ){y:V}{u:Value}(ry:a5 y u) :
  KV (kvs.map λ kv=>if kv.1=k then (kv.1,y) else kv) (vs.map λ kv=>if kv.1=k then (kv.1,u) else kv):=by
 unfold KV at r ⊢
 induction r with
 |nil=>exact .nil
 |@cons p q ps qs h t ih =>
  rw[Fl,Fl]
  refine .cons ?_ ih
  obtain⟨h1,h2⟩:=h
  by_cases e:p.1=k
  ·rw[EU e,EU (h1.symm.trans e)];exact⟨h1,ry⟩
  ·rw[EM e,EM (λ z=>e (h1.trans z))];exact⟨h1,h2⟩
theorem KV.put {kvs:List (κ×V)}{vs:List (κ×Value)}(r:KV kvs vs)(k:κ){y:V}{u:Value}(ry:a5 y u):KV (i8 kvs k y) (stored vs k u):=by
 unfold i8 stored
 rw[r.any k]
 by_cases e:(vs.any λ kv=>decide (kv.1=k))=true
 ·rw[EU e,EU e];exact r.repl k ry
 ·rw[EM e,EM e];exact Paired.snoc r ⟨rfl,ry⟩
theorem KV.length {kvs:List (κ×V)}{vs:List (κ×Value)}(r:KV kvs vs):kvs.length=vs.length:=Paired.length r
end
theorem ul {P:E8}{w:FL}{k:Key}{u:Value}(r:a5 (kV k) u):(cW P w).is k u=true:=by
 cases k with
 |inl i=>obtain⟨t,e⟩:=(show ∃t,u=Value.int i t from r);subst e;exact rh P w i t
 |inr x=>obtain⟨t,e⟩:=(show ∃t,u=Value.str x t from r);subst e;exact rR P w x t
theorem oN {P:E8}{w:FL}:∀{ks:List Key} {us:List Value},aT (ks.map kV) us->ItemsAre (cW P w) ks us
 |[],_,r=>by rw[List.map_nil]at r;cases r;exact .nil
 |k :: ks,_,r=>by
  rw[Fl]at r
  cases r with
  |cons h t=>exact .cons (ul h) (oN t)
abbrev KT (H:Hp):List (List Key×V)->List (List Key×EJ×Value)->Prop:=Paired λ p q=>p.1=q.1/\H q.2.1=some (.tup (p.1.map kV))/\a5 p.2 q.2.2
theorem KT.val {H:Hp}{kvs:List (List Key×V)}{xs:List (List Key×EJ×Value)}(r:KT H kvs xs)(k:List Key):kn (fN kvs k) ((atKey xs k).map (·.2)):=by
 induction r with
 |nil=>exact True.intro
 |@cons p q ps qs h t ih =>
  obtain⟨h1,_,h2⟩:=h
  by_cases e:p.1=k
  ·have e':q.1=k:=h1.symm.trans e
   have b:atKey (q :: qs) k=some q.2:=by simp[atKey,G0,e']
   rw[dk e,b];exact h2
  ·have e':¬q.1=k:=λ z=>e (h1.trans z)
   have b:atKey (q :: qs) k=atKey qs k:=by simp[atKey,G0,e']
   rw[dg e,b];exact ih
theorem KT.repl {H:Hp}{kvs:List (List Key×V)}{xs:List (List Key×EJ×Value)}(r:KT H kvs xs)(k:List Key){y:V}{u:Value}(ry:a5 y u) :
  KT H (kvs.map λ kv=>if kv.1=k then (kv.1,y) else kv) (xs.map (putAt k u)):=by
 induction r with
 |nil=>exact .nil
 |@cons p q ps qs h t ih =>
  rw[Fl,Fl]
  refine .cons ?_ ih
  obtain⟨h1,h2,h3⟩:=h
  unfold putAt
  by_cases e:p.1=k
  ·rw[EU e,EU (h1.symm.trans e)];exact⟨h1,h2,ry⟩
  ·rw[EM e,EM (λ z=>e (h1.trans z))];exact⟨h1,h2,h3⟩
theorem KT.put {H:Hp}{kvs:List (List Key×V)}{xs:List (List Key×EJ×Value)}(r:KT H kvs xs)(k:List Key){b:EJ}{y:V}{u:Value}(hb:H b=some (.tup (k.map kV)))(ry:a5 y u) :
  KT H (i8 kvs k y) (storedH xs k b u):=by
 have e:(kvs.any λ kv=>decide (kv.1=k))=(atKey xs k).isSome:=by
  rw[gG,(r.val k).isSome_eq,Option.isSome_map]
 unfold i8 storedH
 rw[e]
 by_cases q:(atKey xs k).isSome=true
 ·rw[EU q,EU q];exact r.repl k ry
 ·rw[EM q,EM q];exact Paired.snoc r ⟨rfl,hb,ry⟩
theorem KT.keeps {H H':Hp}{kvs:List (List Key×V)}{xs:List (List Key×EJ×Value)}(r:KT H kvs xs)(ht:∀b ys,H b=some (.tup ys)->H' b=some (.tup ys)):KT H' kvs xs :=
 Paired.mapP r λ _ _ z=>⟨z.1,ht _ _ z.2.1,z.2.2⟩
section
variable  {P:E8}{w:FL}{H:Hp}{h:Heap}{a:EJ}
theorem zN {u:HO}(ok:HOk P w H h)(e:Rd H a u):cf P w H h a u:=e.ok ok
theorem ur {kvs:List (Key×V)}(ok:HOk P w H h)(e:Rd H a (.dK kvs)):kvs.length<=EL/\(a==Hf)=false/\∃vs,KV kvs vs/\h.DictOf (cW P w) a vs :=
 show cf P w H h a (.dK kvs) from zN ok e
theorem Dt {kvs:List (Key×V)}(ok:HOk P w H h)(e:H a=some (.dK kvs)):kvs.length<=EL/\(a==Hf)=false/\∃vs,KV kvs vs/\h.DictOf (cW P w) a vs:=ur ok (.inl e)
theorem pF {ks:List Key}(ok:HOk P w H h)(e:H a=some (.tup (ks.map kV))):(tupleKind (cW P w)).is h ks a:=by
 obtain⟨_,its,r,o,h1,h2,n,h3⟩:=(show cf P w H h a (.tup (ks.map kV)) from ok a _ e)
 exact⟨o,its.toArray,n,h1,h2,h3,by simpa using oN r⟩
theorem wK {kvs:List (List Key×V)}(ok:HOk P w H h)(e:Rd H a (.dT kvs)):kvs.length<=EL/\(a==Hf)=false /\
  ∃xs,KT H kvs xs/\h.DictOfH (tupleKind (cW P w)) a xs:=by
 obtain⟨z,y,xs,r,o,es,ep,h1,h2,h3,h4,h5⟩:=(show cf P w H h a (.dT kvs) from zN ok e)
 refine⟨z,y,xs,r,o,es,ep,h1,h2,h3,h4,λ x hx=>?_,h5⟩
 have all:∀{l:List (List Key×V)} {m:List (List Key×EJ×Value)},KT H l m->∀x∈m,(tupleKind (cW P w)).is h x.1 x.2.1:=by
  intro l m q
  induction q with
  |nil=>intro x hx;exact nomatch hx
  |@cons p q ps qs hq t ih =>
   intro x hx
   rcases ES.mp hx with e|hx
   ·subst e
    exact pF ok (by rw[<-hq.1];exact hq.2.1)
   ·exact ih x hx
 exact all r x hx
theorem B4 {kvs:List (List Key×V)}(ok:HOk P w H h)(e:H a=some (.dT kvs)):kvs.length<=EL/\(a==Hf)=false /\
  ∃xs,KT H kvs xs/\h.DictOfH (tupleKind (cW P w)) a xs:=wK ok (.inl e)
end
def mK (H:Hp)(a:EJ)(y:V)(r:Option V):Prop :=
 (∃kvs k,Rd H a (.dK kvs)/\y=kV k/\r=fN kvs k)\/∃kvs k b,Rd H a (.dT kvs)/\y=.ref b/\H b=some (.tup (k.map kV))/\r=fN kvs k
def pO (H:Hp)(a:EJ)(y v:V)(H':Hp):Prop :=
 (∃kvs k,H a=some (.dK kvs)/\y=kV k/\kvs.length<EL/\H'=upd H a (.dK (i8 kvs k v))) \/
 ∃kvs k b,H a=some (.dT kvs)/\y=.ref b/\H b=some (.tup (k.map kV))/\kvs.length<EL/\H'=upd H a (.dT (i8 kvs k v))
theorem mK.k {H:Hp}{a:EJ}{kvs:List (Key×V)}{k:Key}(e:H a=some (.dK kvs)):mK H a (kV k) (fN kvs k):=.inl ⟨kvs,k,.inl e,rfl,rfl⟩
theorem mK.t {H:Hp}{a b:EJ}{kvs:List (List Key×V)}{k:List Key}(e:H a=some (.dT kvs))(eb:H b=some (.tup (k.map kV))):mK H a (.ref b) (fN kvs k):=.inr ⟨kvs,k,b,.inl e,rfl,eb,rfl⟩
theorem pO.k {H:Hp}{a:EJ}{kvs:List (Key×V)}{k:Key}{v:V}(e:H a=some (.dK kvs))(hl:kvs.length<EL):pO H a (kV k) v (upd H a (.dK (i8 kvs k v))):=.inl ⟨kvs,k,e,rfl,hl,rfl⟩
theorem pO.t {H:Hp}{a b:EJ}{kvs:List (List Key×V)}{k:List Key}{v:V}(e:H a=some (.dT kvs))(eb:H b=some (.tup (k.map kV)))(hl:kvs.length<EL) :
  pO H a (.ref b) v (upd H a (.dT (i8 kvs k v))):=.inr ⟨kvs,k,b,e,rfl,eb,hl,rfl⟩
section
variable  {X:Cx}{pins:List (EJ×Obj)}{σ:St}{H:Hp}{s:EK}{a:EJ}{y v:V}{u r:Value}{o:Option V}{A:Around}{E:Value->EK->Prop}
theorem Inv.big (I:Inv X pins σ H s):Hf<s.heap.objs.size:=by
 have h:FI<s.heap.objs.size:=(I.mod.glob.keeps I.bk).lt
 exact Nat.lt_trans (by decide) h
theorem DW {Q:Value->EK->Prop}(hu:A.units+1<cLine)(I:Inv X pins σ H s)(g:mK H a y o)(ry:a5 y u)(h:∀s',Inv X pins σ H s'->Q (.bool o.isSome) s') :
  Fp (FC X.prog X.w) A (Ga .In u (.ref a)) Q E s:=by
 rcases g with⟨kvs,k,e,ey,l⟩|⟨kvs,k,b,e,ey,eb,l⟩
 ·subst ey
  obtain⟨z,hd,vs,rel,dd⟩:=ur I.hok e
  refine wpAny_in_of (ul ry) hd dd.mapOf ?_
  rw[<-(rel.val k).isSome_eq,<-l]
  exact h _ (I.tok _)
 ·subst ey
  cases (show u=FA b from ry)
  obtain⟨z,hd,xs,rel,dd⟩:=wK I.hok e
  refine wpAny_in_heap (tupleKind_room_in1 hu) (pF I.hok eb) hd dd ?_
  have q:=(rel.val k).isSome_eq
  rw[Option.isSome_map]at q
  rw[<-q,<-l]
  exact h _ (I.tok _)
theorem yr {Q:Value->EK->Prop}(hu:A.units+1<cLine)(I:Inv X pins σ H s)(g:mK H a y o)(ry:a5 y u)(h:∀s',Inv X pins σ H s'->Q (.bool (!o.isSome)) s') :
  Fp (FC X.prog X.w) A (Ga .NotIn u (.ref a)) Q E s:=by
 rcases g with⟨kvs,k,e,ey,l⟩|⟨kvs,k,b,e,ey,eb,l⟩
 ·subst ey
  obtain⟨z,hd,vs,rel,dd⟩:=ur I.hok e
  refine wpAny_notIn_of (ul ry) hd dd.mapOf ?_
  rw[<-(rel.val k).isSome_eq,<-l]
  exact h _ (I.tok _)
 ·subst ey
  cases (show u=FA b from ry)
  obtain⟨z,hd,xs,rel,dd⟩:=wK I.hok e
  refine wpAny_notIn_heap (tupleKind_room_in1 hu) (pF I.hok eb) hd dd ?_
  have q:=(rel.val k).isSome_eq
  rw[Option.isSome_map]at q
  rw[<-q,<-l]
  exact h _ (I.tok _)
theorem uv {h':Heap}{t':Nat}{ob:HO}(I:Inv X pins σ H s)(mu:Mut (H a))(hs:Heap.SameBut a s.heap h')(he:∃q,h'.get? a=some q)(new:cf X.prog X.w (upd H a ob) h' a ob) :
  Inv X pins σ (upd H a ob) { s with heap:=h',toks:=t' } :=
 I.write (x:=a) (e:=a) mu (.inl rfl) (λ b q hb z=>(hs.2 b hb).trans z) he new
theorem At {P:E8}{w:FL}{H':Hp}{h':Heap}{kvs:List (Key×V)}{vs:List (Key×Value)}(z:kvs.length<=EL)(hd:(a==Hf)=false)(rel:KV kvs vs)(dd:h'.DictOf (cW P w) a vs) :
  cf P w H' h' a (.dK kvs):=⟨z,hd,vs,rel,dd⟩
theorem uM {H':Hp}{Q:Unit->EK->Prop}(hu:A.units+1<cLine)(I:Inv X pins σ H s)(g:pO H a y v H')(ry:a5 y u)(rv:a5 v r)(h:∀s',Inv X pins σ H' s'->Q () s') :
  Fp (FC X.prog X.w) A (setItem (.ref a) u r) Q E s:=by
 rcases g with⟨kvs,k,e,ey,l,eH⟩|⟨kvs,k,b,e,ey,eb,l,eH⟩
 ·subst ey eH
  obtain⟨z,hd,vs,rel,dd⟩:=Dt I.hok e
  have hz:vs.length<=EL:=by rw[<-rel.length];exact z
  have hl:(i8 kvs k v).length<=EL:=by have:=gd kvs k v;omega
  refine wpAny_setItem_pairs (hsz:=hz) (ul ry) dd λ h' dd' hs=>h _ ?_
  have he:∃q,h'.get? a=some q:=let ⟨q,_,_,hq,_⟩:=dd';⟨q,hq⟩
  exact uv I (by rw[e];exact True.intro) hs he (At hl hd (rel.put k rv) dd')
 ·subst ey eH
  cases (show u=FA b from ry)
  obtain⟨z,hd,xs,rel,dd⟩:=B4 I.hok e
  have hz:xs.length<=EL:=by rw[<-Paired.length rel];exact z
  have hl:(i8 kvs k v).length<=EL:=by have:=gd kvs k v;omega
  refine wpAny_setItem_heap (hsz:=hz) (tupleKind_room_in1 hu) (pF I.hok eb) dd λ h' dd' hs=>h _ ?_
  obtain⟨q,es,ep,hq,h2,h3,h4,_,h5⟩:=dd'
  refine uv I (by rw[e];exact True.intro) hs ⟨q,hq⟩ ⟨hl,hd,_,(rel.put k eb rv).keeps λ c ys ec=>?_,q,es,ep,hq,h2,h3,h4,h5⟩
  rw[ap (BO ec e (λ z=>nomatch z))]
  exact ec
end
section
variable  {X:Cx}{pins:List (EJ×Obj)}{σ:St}{H:Hp}{s:EK}{a:EJ}{kvs:List (Key×V)}{k:Key}{u:Value}{A:Around}{E:Value->EK->Prop}
theorem Ds {Q:Value->EK->Prop}(I:Inv X pins σ H s)(e:Rd H a (.dK kvs))(h:∀t s',Inv X pins σ H s'->Q (.int kvs.length t) s'):Fp (FC X.prog X.w) A (call (.builtin "len") [.ref a]) Q E s:=by
 obtain⟨z,hd,vs,rel,dd⟩:=ur I.hok e
 refine call_len_dict hd dd (by rw[<-rel.length];rw[sizeLine_eq]at z;omega) ?_
 rw[<-rel.length]
 exact h _ _ (I.tok _)
end
def Em (ty td:TE):TE:=λ σ H Q=>ty σ H λ y H1=>td σ H1 λ x H2=>∃a o,x=.ref a/\mK H2 a y o/\Q (.bl o.isSome) H2
def yn (ty td:TE):TE:=λ σ H Q=>ty σ H λ y H1=>td σ H1 λ x H2=>∃a o,x=.ref a/\mK H2 a y o/\Q (.bl (!o.isSome)) H2
def Cq (td ty tv:TE):TS:=λ D σ H=>tv σ H λ v H1=>td σ H1 λ x H2=>ty σ H2 λ y H3=>∃a H4,x=.ref a/\pO H3 a y v H4/\D.nx σ H4
section
variable  {X:Cx}{o i e value:Expr}{pos pos' tpos:Pos}{td ty tv:TE}
theorem A5 (hu:X.A.units+1<cLine)(hi:PE X i ty)(ho:PE X o td):PC X .In i o (Em ty td):=by
 intro pins s σ H Q I h
 refine thn (hi pins s σ H _ I h) λ iv s1 ⟨y,H1,I1,ry,q1⟩=>thn (ho pins s1 σ H1 _ I1 q1) λ u s2 ⟨x,H2,I2,rx,a,ov,ex,g,q2⟩=>?_
 subst ex
 obtain rfl:u=FA a:=rx
 exact DW hu I2 g ry λ s3 I3=>⟨.bl ov.isSome,H2,I3,rfl,q2⟩
theorem oX (hu:X.A.units+1<cLine)(hi:PE X i ty)(ho:PE X o td):PC X .NotIn i o (yn ty td):=by
 intro pins s σ H Q I h
 refine thn (hi pins s σ H _ I h) λ iv s1 ⟨y,H1,I1,ry,q1⟩=>thn (ho pins s1 σ H1 _ I1 q1) λ u s2 ⟨x,H2,I2,rx,a,ov,ex,g,q2⟩=>?_
 subst ex
 obtain rfl:u=FA a:=rx
 exact yr hu I2 g ry λ s3 I3=>⟨.bl (!ov.isSome),H2,I3,rfl,q2⟩
theorem pM (hu:X.A.units+1<cLine)(ho:PE X o td)(hi:PE X i ty)(hv:PE X value tv)(hs:swapsWith value (some (.Subscript o i pos')) pos.line X.env=pure false) :
  PS X (.Assign [.Subscript o i pos'] value pos) (Cq td ty tv):=by
 intro pins s σ H D I h
 refine wpAny_Assign_Subscript (thn (hv pins s σ H _ I h) λ r s1 ⟨v,H1,I1,rv,q1⟩=>thn (ho pins s1 σ H1 _ I1 q1) λ u s2 ⟨x,H2,I2,rx,q2⟩=>thn (hi pins s2 σ H2 _ I2 q2) λ iv s3 ⟨y,H3,I3,ry,a,H4,ex,g,q3⟩=>?_) hs
 subst ex
 obtain rfl:u=FA a:=rx
 exact uM hu I3 g ry rv λ s4 I4=>⟨σ,H4,I4,q3⟩
end
theorem wt {P:E8}{w:FL}{H:Hp}(h:Heap)(hb:Hf<h.objs.size):cf P w H (h.push { cls:=.type "dict",data:=.dict #[] }) h.objs.size (.dK []) :=
 ⟨FR _,Gb.mpr (Fj (Fv hb)),[],.nil,Heap.DictOf.new h⟩
theorem wN {P:E8}{w:FL}{H:Hp}(h:Heap)(hb:Hf<h.objs.size):cf P w H (h.push { cls:=.type "dict",data:=.dict #[] }) h.objs.size (.dT []) :=
 ⟨FR _,Gb.mpr (Fj (Fv hb)),[],.nil,_,#[],0,Fb _ rfl,⟨rfl,rfl,rfl⟩,rfl,rfl,List.nodup_nil⟩
def AZ:TE:=λ _ H Q=>∀p,H p=none->Q (.ref p) (upd H p (.dK []))
def Bt:TE:=λ _ H Q=>∀p,H p=none->Q (.ref p) (upd H p (.dT []))
section
variable  {X:Cx}{pos:Pos}
theorem wR:PE X (.Dict [] [] pos) AZ:=λ pins s σ H Q I h =>
 wpAny_Dict_empty ⟨.ref s.heap.objs.size,_,I.laid (a:=s.heap.objs.size) (o:=.dK []) (t':=s.toks) (λ _ _ q=>EV _ q) (nlr _) (wt s.heap I.big),rfl,h _ (I.hok.fresh (nlr _))⟩
theorem qD:PE X (.Dict [] [] pos) Bt:=λ pins s σ H Q I h =>
 wpAny_Dict_empty ⟨.ref s.heap.objs.size,_,I.laid (a:=s.heap.objs.size) (o:=.dT []) (t':=s.toks) (λ _ _ q=>EV _ q) (nlr _) (wN s.heap I.big),rfl,h _ (I.hok.fresh (nlr _))⟩
end
abbrev VV:List (V×V)->List (Value×Value)->Prop:=Paired λ p q=>a5 p.1 q.1/\a5 p.2 q.2
structure M1 (X:Cx)(o:Expr)(m:Str)(apos:Pos)(e:Expr)(cpos:Pos):Prop where
 base:attributeBase o m X.env (Ik o X.env)=Ik o X.env
 few:((HL cpos (Fo [e] X.env)).all (λ x=>!x.1)&&(backToKw cpos (HN [] X.env)).all (λ x=>x.1.isSome)
  &&decide (([e]:List Expr).length+([]:List Keyword).length+(if ([]:List Keyword).isEmpty then 0 else 1)<30))=true
 line:(apos.endLine==cpos.line)=true
 trees:HL cpos (Fo [e] X.env)=[(false,Ik e X.env)]
structure M2 (X:Cx)(o:Expr)(m:Str)(apos:Pos)(e f:Expr)(cpos:Pos):Prop where
 base:attributeBase o m X.env (Ik o X.env)=Ik o X.env
 few:((HL cpos (Fo [e,f] X.env)).all (λ x=>!x.1)&&(backToKw cpos (HN [] X.env)).all (λ x=>x.1.isSome)
  &&decide (([e,f]:List Expr).length+([]:List Keyword).length+(if ([]:List Keyword).isEmpty then 0 else 1)<30))=true
 line:(apos.endLine==cpos.line)=true
 trees:HL cpos (Fo [e,f] X.env)=[(false,Ik e X.env),(false,Ik f X.env)]
section
variable  {X:Cx}{pins:List (EJ×Obj)}{σ:St}{H:Hp}{s:EK}{a:EJ}{y d:V}{u r:Value}{o:Option V}{A:Around}{E:Value->EK->Prop}
end
section
variable  {X:Cx}{o e f:Expr}{apos cpos:Pos}{td ty tx:TE}
end
section
variable  {X:Cx}{pins:List (EJ×Obj)}{σ:St}{H:Hp}{s:EK}{a:EJ}{kvs:List (Key×V)}{A:Around}{E:Value->EK->Prop}
end
section
variable  {X:Cx}{pins:List (EJ×Obj)}{σ:St}{H:Hp}{s:EK}{a:EJ}{y:V}{u:Value}{A:Around}{E:Value->EK->Prop}
end
end L2
namespace L2
open PySem PySem.Spec PyProof.Rows
section
variable  {prog:E8}{w:FL}{A:Around}{E:Value->EK->Prop}
end
section
variable  {X:Cx}
end
end L2
namespace L2
open PySem PySem.Spec PyProof.Rows
theorem mN:GW "reversed"=some (.type "reversed"):=by decide +kernel
section
variable  {X:Cx}{pins:List (EJ×Obj)}{σ:St}{H:Hp}{s:EK}{h':Heap}
theorem Inv.turnedL {t':Nat}{ch:List EJ}(I:Inv X pins σ H s)(k:∀b o,b∉ch->s.heap.get? b=some o->h'.get? b=some o)(hf:∀b∈ch,lO X pins H b):Inv X pins σ H { s with heap:=h',toks:=t' }:=by
 have nit:∀b u,H b=some u->b∉ch:=λ b u e z=>by
  have q:=(hf b z).1
  rw[q]at e;cases e
 refine I.step (g':=s.gens) (d':=s.drawn) (ch:=ch) (λ b hb=>⟨(hf b hb).2.2.2.1,(hf b hb).2.1,(hf b hb).2.2.2.2.1,(hf b hb).2.2.2.2.2⟩) (λ b o _ _ hc e _=>k b o hc e) (λ b o _ _ hc e _=>⟨o.slots,k b o hc e⟩)
  (λ _ _ _ _ n=>n) (λ b o hc e=>⟨o,k b o hc e⟩) (λ _ _ e=>e) (λ _ _ _ e=>e) (λ b ps e=>⟨#[],by rw[e];simp⟩) (λ m hm=>?_) (λ b u e=>?_) I.bare
 ·obtain⟨o,es,ep,ho,r⟩:=hm
  exact⟨o,es,ep,k _ o (λ z=>(hf _ z).2.1 rfl) ho,r⟩
 ·refine(I.hok b u e).stay (λ c v hc q=>k c v ?_ q) (λ _ q=>q) λ _ _ q=>q
  rcases hc with z|z
  ·rw[z];exact nit b u e
  ·exact nit c _ z
theorem Inv.turnedNew {t':Nat}{ch:List EJ}{T:EJ}{ob:HO}(I:Inv X pins σ H s)(k:∀b o,b∉ch->s.heap.get? b=some o->h'.get? b=some o)(hf:∀b∈ch,lO X pins H b)(hT:s.heap.objs.size<=T)
  (new:cf X.prog X.w (upd H T ob) h' T ob):Inv X pins σ (upd H T ob) { s with heap:=h',toks:=t' }:=by
 have hn:H T=none:=I.hok.fresh hT
 have nit:∀b u,H b=some u->b∉ch:=λ b u e z=>by
  have q:=(hf b z).1
  rw[q]at e;cases e
 refine I.step (g':=s.gens) (d':=s.drawn) (ch:=ch) (λ b hb=>⟨(hf b hb).2.2.2.1,(hf b hb).2.1,(hf b hb).2.2.2.2.1,(hf b hb).2.2.2.2.2⟩) (λ b o _ _ hc e _=>k b o hc e) (λ b o _ _ hc e _=>⟨o.slots,k b o hc e⟩)
  (λ b o _ e n=>?_) (λ b o hc e=>⟨o,k b o hc e⟩) (λ b xs e=>?_) (λ b o u e=>?_) (λ b ps e=>⟨#[],?_⟩) (λ m hm=>?_) (λ b u e=>?_) I.bare
 ·rw[ap (Fv (E9 (EX e) hT))];exact n
 ·rw[ap (aQ e hn)];exact e
 ·rw[ap (aQ e hn)];exact e
 ·rw[ap (aQ e hn),e];simp
 ·obtain⟨o,es,ep,ho,r⟩:=hm
  exact⟨o,es,ep,k _ o (λ z=>(hf _ z).2.1 rfl) ho,r⟩
 ·by_cases hb:b=T
  ·subst hb
   rw[ag]at e
   cases e
   exact new
  ·rw[ap hb]at e
   refine(I.hok b u e).stay (λ c v hc q=>k c v ?_ q) (λ c q=>by rw[ap (aQ q hn)];exact q) λ c xs q=>by rw[ap (aQ q hn)];exact q
   rcases hc with z|z
   ·rw[z];exact nit b u e
   ·exact nit c _ z
theorem Inv.lock {d:EJ}{u:HO}(I:Inv X pins σ H s)(h:H d=some u)(mu:Mut (some u)):∃od,Inv X pins σ (upd H d (.frz od u)) s:=by
 have x:=I.hok d u h
 have ex:∃od,s.heap.get? d=some od:=by
  cases u with
  |lst xs=>obtain⟨_,_,_,_,e⟩:=x;exact⟨_,e⟩
  |dK kvs=>obtain⟨_,_,_,_,o,_,_,e,_⟩:=x;exact⟨o,e⟩
  |dT kvs=>obtain⟨_,_,_,_,o,_,_,e,_⟩:=x;exact⟨o,e⟩
  |set S n=>obtain⟨o,_,_,_,e,_⟩:=x;exact⟨o,e⟩
  |ins C dx fs=>obtain⟨_,_,_,e,_⟩:=x;exact⟨_,e⟩
  |ext φ=>obtain⟨_,⟨_,e⟩,_⟩:=x;exact⟨_,e⟩
  |_=>exact Gk mu
 obtain⟨od,e⟩:=ex
 have new:cf X.prog X.w (upd H d (.frz od u)) s.heap d (.frz od u):=by
  refine⟨e,x.stay (λ b v _ q=>q) (λ b q=>?_) λ b xs q=>?_⟩
  ·rw[ap (λ z=>by rw[z,h]at q;cases q;exact mu)];exact q
  ·rw[ap (λ z=>by rw[z,h]at q;cases q;exact mu)];exact q
 exact⟨od,I.write (x:=d) (e:=d) (t':=s.toks) (h':=s.heap) (by rw[h];exact mu) (.inl rfl) (λ b v _ q=>q) ⟨od,e⟩ new⟩
theorem Inv.nofrz {d:EJ}{u:HO}(I:Inv X pins σ H s)(h:H d=some u)(mu:Mut (some u)):∀o' u',X.H_0 d≠some (.frz o' u'):=λ o' u' e=>by
 have q:=I.base.frzs d o' u' e
 rw[h]at q
 cases q
 exact mu
theorem Inv.unlock {d:EJ}{od:Obj}{u:HO}(I:Inv X pins σ H s)(h:H d=some (.frz od u))(hn:∀o' u',X.H_0 d≠some (.frz o' u')):Inv X pins σ (upd H d u) s:=by
 have neH:∀b o,H b=some o->(∀o' u',o≠.frz o' u')->b≠d:=λ b o e hne z=>by
  rw[z,h]at e
  cases e
  exact hne _ _ rfl
 have neN:∀b,H b=none->b≠d:=λ b e z=>by rw[z,h]at e;cases e
 refine⟨I.ok,I.os,I.bare,⟨I.base.keep,I.base.slot,λ b o e n hx=>?_,I.base.there,λ b xs e=>?_,λ b o x e=>?_,λ b ps e=>?_⟩,I.loc,I.cell,?_,λ x c e=>?_,λ p hp=>?_,λ b o e=>?_,I.len⟩
 ·rw[ap (neN b (I.base.free b o e n hx))];exact I.base.free b o e n hx
 ·have q:=I.base.tups b xs e
  rw[ap (neH b _ q (λ _ _ z=>nomatch z))];exact q
 ·have q:=I.base.frzs b o x e
  rw[ap (λ z=>by rw[z]at e;exact hn _ _ e)];exact q
 ·obtain⟨m,q⟩:=I.base.tbls b ps e
  exact⟨m,by rw[ap (neH b _ q (λ _ _ z=>nomatch z))];exact q⟩
 ·rw[ap (neN _ I.free)];exact I.free
 ·rw[ap (neN c (I.freeC x c e))];exact I.freeC x c e
 ·obtain⟨e,n,r⟩:=I.pin p hp
  exact⟨e,by rw[ap (neN _ n)];exact n,r⟩
 ·by_cases hb:b=d
  ·rw[hb,ag]at e
   cases e
   rw[hb]
   obtain⟨_,x⟩:=I.hok d _ h
   exact x.stay (λ c v _ q=>q) (λ c q=>by rw[ap (neH c _ q (λ _ _ z=>nomatch z))];exact q) λ c xs q=>by rw[ap (neH c _ q (λ _ _ z=>nomatch z))];exact q
  ·rw[ap hb]at e
   exact(I.hok b o e).stay (λ c v _ q=>q) (λ c q=>by rw[ap (neH c _ q (λ _ _ z=>nomatch z))];exact q) λ c xs q=>by rw[ap (neH c _ q (λ _ _ z=>nomatch z))];exact q
end
def Am (t:TE):TE:=λ σ H Q=>∃d u,H d=some u/\Mut (some u)/\∀od,t σ (upd H d (.frz od u)) λ v H'=>H' d=some (.frz od u)/\Q v (upd H' d u)
section
variable  {X:Cx}
theorem zb {e:Expr}{t:TE}(h:PE X e t):PE X e (Am t):=by
 intro pins s σ H Q I hw
 obtain⟨d,u,hd,mu,hw⟩:=hw
 obtain⟨od,I1⟩:=I.lock hd mu
 refine thn (h pins s σ _ _ I1 (hw od)) λ v s1 ⟨x,H1,I2,r,e2,q⟩=>?_
 exact⟨x,_,I2.unlock e2 (I.nofrz hd mu),r,q⟩
theorem pY {tg:Expr}{pins:List (EJ×Obj)}{σ:St}{H:Hp}{s:EK}{R:It->Hp->Prop}{J:It}{tn:Nat->Heap->Prop}{tk:Nat}(I:Inv X pins σ H s)(o:Obj)
  (T:mi X.prog X.w X.K tg J [s.heap.objs.size] s.heap.objs.size tn) (st:tn 0 (s.heap.push o)) (q:R J H):PIE X pins σ tg R (.ref s.heap.objs.size) { s with heap:=s.heap.push o,toks:=tk }:=by
 refine⟨s.heap.objs.size,[s.heap.objs.size],tn,J,H,rfl,I.kept λ b ob e=>EV _ e,T,st,λ b hb=>?_,q⟩
 have e:b=s.heap.objs.size:=by simpa using hb
 subst e
 exact I.fpOk (nlr _) (I.hok.fresh (nlr _))
end
def Itc (lo c:Int)(n:Nat):It:=⟨λ i _=>i<n,λ i H x H'=>H'=H/\x=.int (lo+(i:Nat)*c),λ i _=>n<=i⟩
theorem qL {P:E8}{w:FL}{K:FQ}{tg:Expr}(it:EJ)(lo c:Int)(n:Nat):mi P w K tg (Itc lo c n) [it] it (λ i h=>IsRangeIter h it (lo+(i:Nat)*c) ((n:Int)-(i:Nat)) c) where
 mem:=by simp
 obj:=λ i h st b hb=>by
  have e:b=it:=by simpa using hb
  subst e
  exact⟨_,st,λ v z=>nomatch z⟩
 keep:=λ i h h' st k=>k it (by simp) _ st
 item:=by
  intro X hP hw hK hc i pins s σ H E I hf st hg
  subst hP hw hK
  obtain⟨f0,f1,f2,f3,f4,f5⟩:=hf it (by simp)
  have W:=Walks.range (prog:=X.prog) (w:=X.w) (I.ok.hd hc) it lo c n
  refine W.item i s _ _ hg st λ v h' tk hv st' kk=>?_
  obtain⟨t,rfl⟩:=hv
  have I1:Inv X pins σ H { s with heap:=h',toks:=tk }:=I.turned (λ b o hb e=>kk b o (by simpa using hb) e) f0 f1 f3 f4 f5
  exact⟨_,rfl,mE (s:={ s with heap:=h',toks:=tk }) (n:="range_iterator") st' rfl rfl (by decide) ⟨.int (lo+(i:Nat)*c),H,I1,⟨t,rfl⟩,⟨rfl,rfl⟩,st',λ b hb=>(hf b hb).1⟩⟩
 done:=by
  intro X hP hw hK hc i pins s σ H E I hf st hg
  subst hP hw hK
  obtain⟨f0,f1,f2,f3,f4,f5⟩:=hf it (by simp)
  exact wpAny_pyNext_range_end (I.ok.hd hc) st (by have:n<=i:=hg;omega) λ h' eb=>⟨rfl,I.turned (t':=s.toks) (λ b o hb e=>eb b o hb e) f0 f1 f3 f4 f5⟩
 self:=λ A i s Q E st h=>wpAny_pyIter_rangeiter st h
def RgC (i j c:Int)(n:Nat):Prop:=c≠0/\c.natAbs<1073741824/\Builtin.Range.small i j c=true/\GV i j c=n
def BE (ta:TA):TI:=λ σ H R=>ta σ H λ vs H1=>∃(i j c:Int) (n:Nat),vs=[.int i,.int j,.int c]/\RgC i j c n/\R (Itc i c n) H1
section
variable  {X:Cx}{tg:Expr}
theorem kz {a b c:Expr}{ta:TA}{p pos:Pos} (hg:Gl X "range") (hm:X.mg "range"=none) (ha:PA X [a,b,c] ta)
  (hs:Fo [a,b,c] X.env=(false,Ik a X.env) :: Fo [b,c] X.env:=by rfl) (hpl:(HL pos (Fo [b,c] X.env)).any (·.1)=false:=by rfl) :
  PI X tg (.Call (.Name "range" p) [a,b,c] [] pos) (BE ta):=by
 intro pins s σ H R I h
 refine Call_ (gA I hg hm boot_range (FD (thn (ha pos pins s σ H _ I h) λ us s1 ⟨vs,H1,I1,r1,q1⟩=>?_) hs hpl))
 obtain⟨i,j,k,n,e,⟨c0,c1,c2,c3⟩,q⟩:=q1
 subst e
 cases r1 with
 |cons r rr =>
  cases rr with
  |cons r' rr =>
   cases rr with
   |cons r'' rr =>
    cases rr
    obtain⟨t,rfl⟩:=r
    obtain⟨t',rfl⟩:=r'
    obtain⟨t'',rfl⟩:=r''
    refine call_range_3 c0 ?_ (.inl (PyProof.noPylong_small c1))
    refine wpAny_pyIter_range (IsRange.new ..) c2 ?_
    have I2:Inv X pins σ H1 { s1 with heap:=s1.heap.push { cls:=.type "range",data:=.fields #[.int i t,.int j t',.int k t''] } }:=I1.kept (t':=s1.toks) λ b o e=>EV _ e
    refine pY (tk:=s1.toks) I2 _ (qL _ i k n) ?_ q
    have e1:i+((0:Nat):Int)*k=i:=by simp
    have e2:(n:Int)-((0:Nat):Int)=GV i j k:=by rw[c3];simp
    show IsRangeIter _ _ (i+((0:Nat):Int)*k) ((n:Int)-((0:Nat):Int)) k
    rw[e1,e2]
    exact Fb _ rfl
end
def Itv (K:FQ)(a:EJ)(n:Nat):It :=
 ⟨λ i H=>i<n/\∃(xs:List V) (x:V),SqL K H a xs/\xs[n-1-i]? = some x,λ i H x H'=>H'=H/\∀xs,SqL K H a xs->xs[n-1-i]? = some x,λ i _=>n<=i⟩
theorem xV {P:E8}{w:FL}{K:FQ}{tg:Expr}(a it:EJ)(n:Nat):mi P w K tg (Itv K a n) [it] it (λ i h=>i<=n/\h.IsRevIter it a ((n:Int)-1-(i:Nat))) where
 mem:=by simp
 obj:=λ i h st b hb=>by
  have e:b=it:=by simpa using hb
  subst e
  obtain⟨_,o,e,c,d⟩:=st
  exact⟨o,e,λ v z=>by rw[d]at z;cases z⟩
 keep:=λ i h h' st k=>⟨st.1,st.2.at λ o e=>k it (by simp) o e⟩
 item:=by
  intro X hP hw hK hc i pins s σ H E I hf st hg
  subst hP hw hK
  obtain⟨hin,xs,x,hq,hx⟩:=hg
  obtain⟨its,rv,p,hz⟩:=I.list hq
  obtain⟨u,hu,ru⟩:=rv.get hx
  obtain⟨f0,f1,f2,f3,f4,f5⟩:=hf it (by simp)
  obtain⟨_,hit⟩:=st
  have e1:(n:Int)-1-((i:Nat):Int)=((n-1-i:Nat):Int):=by omega
  rw[e1]at hit
  refine wpAny_pyNext_rev_item hit p.isList (x:=u) (by simpa using hu) λ h' st' sb=>?_
  have e2:((n-1-i:Nat):Int)-1=(n:Int)-1-((i+1:Nat):Int):=by omega
  rw[e2]at st'
  have I1:Inv X pins σ H { s with heap:=h' }:=I.turned (t':=s.toks) (λ b o hb e=>(sb.2 b hb).trans e) f0 f1 f3 f4 f5
  obtain⟨o,e,c,d⟩:=id st'
  exact⟨u,rfl,mE (s:={ s with heap:=h' }) e c d (by decide) ⟨x,H,I1,ru,⟨rfl,λ ys hy=>by rw[I.list_inj hy hq];exact hx⟩,⟨hin,st'⟩,λ b hb=>(hf b hb).1⟩⟩
 done:=by
  intro X hP hw hK hc i pins s σ H E I hf st hg
  subst hP hw hK
  obtain⟨f0,f1,f2,f3,f4,f5⟩:=hf it (by simp)
  obtain⟨hin,hit⟩:=st
  have hge:n<=i:=hg
  have e1:(n:Int)-1-((i:Nat):Int)=-1:=by omega
  rw[e1]at hit
  exact wpAny_pyNext_rev_end (I.ok.hd hc) hit λ h' eb=>⟨rfl,I.turned (t':=s.toks) (λ b o hb e=>eb b o hb e) f0 f1 f3 f4 f5⟩
 self:=λ A i s Q E st h=>wpAny_pyIter_revIter st.2 h
def Eb (K:FQ)(ta:TA):TI:=λ σ H R=>ta σ H λ vs H1=>∃(a:EJ) (xs:List V),vs=[.ref a]/\SqL K H1 a xs/\R (Itv K a xs.length) H1
section
variable  {X:Cx}{tg:Expr}
theorem qE {e:Expr}{ta:TA}{p pos:Pos} (hg:Gl X "reversed") (hm:X.mg "reversed"=none) (ha:PA X [e] ta) (hs:Fo [e] X.env=[(false,Ik e X.env)]:=by rfl):PI X tg (.Call (.Name "reversed" p) [e] [] pos) (Eb X.K ta):=by
 intro pins s σ H R I h
 refine Call_ (gA I hg hm mN (FD (thn (ha pos pins s σ H _ I h) λ us s1 ⟨vs,H1,I1,r1,q1⟩=>?_) hs rfl))
 obtain⟨a,xs,e,hq,q⟩:=q1
 subst e
 cases r1 with
 |cons r rr =>
  cases rr
  cases r
  obtain⟨its,rv,p',hz⟩:=I1.list hq
  have hl:=rv.length
  have e1:((its.toArray.size:Nat):Int)-1=(xs.length:Int)-1-((0:Nat):Int):=by simp only[EW];omega
  refine call_reversed_list p'.isList (wpAny_pyIter_revIter (l:=a) (i:=((its.toArray.size:Nat):Int)-1) ⟨_,Fb _ rfl,rfl,rfl⟩ ?_)
  refine pY (tk:=s1.toks) I1 _ (xV a _ xs.length) ⟨FR _,?_⟩ q
  rw[<-e1]
  exact⟨_,Fb _ rfl,rfl,rfl⟩
end
section
variable  {prog:E8}{w:FL}{A:Around}{E:Value->EK->Prop}{s:EK}
theorem oe {d:EJ}{o:Obj}{es:Array DictEntry}{ep:Nat}{Q:Value->EK->Prop}(hd:(d==Hf)=false)(ho:s.heap.get? d=some o)(hc:o.ExactDict)(hdat:o.data=.dict es ep)
  (hQ:Q (.ref s.heap.objs.size) { s with heap:=s.heap.push { cls:=.type "dict_keyiterator",data:=.fields #[.ref d,.int 0 0,.int es.size 0,.int ep 0] } }) :
  Fp (FC prog w) A (pyIter (.ref d)) Q E s:=by
 have hT:s.TypeIs (.ref d) "dict":=⟨o,ho,hc.1⟩
 refine wpAny_pyIter_slot hT F.slot_dict_iter (HD F.slot_dict_iter hT F.entry_dict_iter ?_ (F.args_dict_iter_1 _))
 unfold Builtin.«dict.__iter__»
 refine EI ?_
 unfold Builtin.Dict.dictSlotNone
 refine EI (wpAny_notOrdered_dict hT ?_)
 show Fp _ _ (pure (FA d)) _ _ s
 refine E5 ?_
 show Fp _ _ (Builtin.Dict.showsAll d >>= _) _ _ s
 unfold Builtin.Dict.showsAll
 rw[EM (by rw[hd];exact EZ)]
 refine EI (E5 ?_)
 refine EI (wpAny_dictEntries ho hdat ?_)
 refine EI (wpAny_dictEpoch ho hdat ?_)
 refine EI (wpAny_newObj_type (E5 ⟨_,rfl,"dict_keyiterator",_,⟨_,Fb _ rfl,rfl⟩,F.slot_dict_keyiterator_next.lookup,?_⟩))
 simpa [rawInt] using hQ
theorem nQ {it d:EJ}{i n ep:Nat}{od:Obj}{es:Array DictEntry}{en:DictEntry}{Q:Option Value->EK->Prop}(hit:s.heap.IsKeyIter it d i n ep)(hod:s.heap.get? d=some od)(hdd:od.data=.dict es ep)
  (hsz:es.size=n) (hx:es[i]? = some en) (hQ:∀h',h'.IsKeyIter it d (i+1) n ep->Heap.SameBut it s.heap h'->Q (some en.key) { s with heap:=h' }):Fp (FC prog w) A (pyNext (.ref it)) Q E s:=by
 obtain⟨o,ho,hc,hd⟩:=id hit
 unfold pyNext
 refine EI (wpAny_attempt (HA (name:=Str.ofString "__next__") hit.typeIs F.slot_dict_keyiterator_next
  (HD F.slot_dict_keyiterator_next hit.typeIs F.entry_dict_keyiterator_next ?_ (F.args_dict_keyiterator_next_1 _))))
 refine EI (E5 ?_)
 refine EI ?_
 refine EI ?_
 first|refine EI (GQ hit.typeIs (E5 ?_))|refine EI (Hw hit.typeIs (E5 ?_))
 refine EI (wpAny_fieldsOf ho hd ?_)
 have hown:Builtin.Dict_items.ownsTuple "dict_keyiterator"=false:=by decide
 simp only[hown,Bool.false_eq_true,Ig]
 show Fp _ _ (if (FA d==Ia)=true then _ else _) _ _ s
 rw[EM (show ¬((FA d==Ia)=true) from EZ)]
 refine EI (E5 ?_)
 refine EI (wpAny_dictEntries hod hdd ?_)
 rw[EM (by rw[hsz];simp)]
 refine EI (E5 ?_)
 refine EI (wpAny_dictEpoch hod hdd ?_)
 rw[EM (by simp)]
 refine E5 ?_
 obtain⟨hlt',hen⟩:=Array.getElem?_eq_some_iff.mp hx
 simp only[show ¬((i:Int)<0) from by omega,Ig,F0,Il hlt']
 refine EI ?_
 first|refine EI (GQ hit.typeIs (E5 ?_))|refine EI (Hw hit.typeIs (E5 ?_))
 refine EI (wpAny_isOneOf_keyiter hit.typeIs ?_)
 show Fp _ _ (setField (.ref it) 1 (rawInt ((i:Int)+1)) >>= _) _ _ s
 refine EI (wpAny_setField ho hd (by simp) ?_)
 have hit':(s.heap.update it (Obj.mapFields (·.setIfInBounds 1 (rawInt ((i:Int)+1))))).IsKeyIter it d (i+1) n ep :=
  ⟨_,GJ _ ho (Obj.isFreed_of_fields (Obj.data_mapFields hd _)),(Obj.cls_mapFields ..).trans hc,by rw[Obj.data_mapFields hd];simp[rawInt]⟩
 refine EI (wpAny_holding ?_)
 refine EI (wpAny_isOneOf_keyiter (s:={ s with heap:=s.heap.update it (Obj.mapFields (·.setIfInBounds 1 (rawInt ((i:Int)+1)))) }) hit'.typeIs ?_)
 show Fp _ _ (pure es[i].key) _ _ _
 rw[hen]
 exact E5 (E5 ⟨_,rfl,E5 (hQ _ hit' (Heap.SameBut.update ..))⟩)
theorem j3 {it d:EJ}{i n ep:Nat}{od:Obj}{es:Array DictEntry}{Q:Option Value->EK->Prop}(hh:A.handled=none)(hit:s.heap.IsKeyIter it d i n ep)(hod:s.heap.get? d=some od)(hdd:od.data=.dict es ep)
  (hsz:es.size=n) (hge:n<=i) (hQ:∀h',Heap.ExtBut it s.heap h'->Q none { s with heap:=h' }):Fp (FC prog w) A (pyNext (.ref it)) Q E s:=by
 obtain⟨o,ho,hc,hd⟩:=id hit
 unfold pyNext
 refine EI (wpAny_attempt (HA (name:=Str.ofString "__next__") hit.typeIs F.slot_dict_keyiterator_next
  (HD F.slot_dict_keyiterator_next hit.typeIs F.entry_dict_keyiterator_next ?_ (F.args_dict_keyiterator_next_1 _))))
 refine EI (E5 ?_)
 refine EI ?_
 refine EI ?_
 first|refine EI (GQ hit.typeIs (E5 ?_))|refine EI (Hw hit.typeIs (E5 ?_))
 refine EI (wpAny_fieldsOf ho hd ?_)
 have hown:Builtin.Dict_items.ownsTuple "dict_keyiterator"=false:=by decide
 simp only[hown,Bool.false_eq_true,Ig]
 show Fp _ _ (if (FA d==Ia)=true then _ else _) _ _ s
 rw[EM (show ¬((FA d==Ia)=true) from EZ)]
 refine EI (E5 ?_)
 refine EI (wpAny_dictEntries hod hdd ?_)
 rw[EM (by rw[hsz];simp)]
 refine EI (E5 ?_)
 refine EI (wpAny_dictEpoch hod hdd ?_)
 rw[EM (by simp)]
 refine E5 ?_
 have hge':es.size<=i:=by rw[hsz];exact hge
 simp only[show ¬((i:Int)<0) from by omega,Ig,F0,Array.getElem?_eq_none hge']
 refine EI ?_
 first|refine EI (GQ hit.typeIs (E5 ?_))|refine EI (Hw hit.typeIs (E5 ?_))
 show Fp _ _ (setField (.ref it) 0 .none >>= _) _ _ s
 refine EI (wpAny_setField ho hd (by simp) ?_)
 show Fp _ _ (newExc (.type "StopIteration") [] >>= _) _ _ _
 refine EI ?_
 simp only[newExc,newTuple]
 refine EI (wpAny_newObj_type ?_ (by size_fits))
 refine EI (m:=firstArgMember _ _) (wpAny_of_eq (a:=Ia) (by first|rfl|(simp only[firstArgMember];rfl)) ?_)
 refine wpAny_newObj_type ?_ (by size_fits)
 simp only[raiseNew]
 refine EI (wpAny_handled ?_)
 rw[show A.in1.handled=none from hh]
 refine EI (E5 (wpAny_throw ?_))
 refine EI (wpAny_isInstance (T:="StopIteration") (b:=true) ⟨_,Fb _ rfl,rfl⟩ isSubtype_stop ?_)
 exact E5 (hQ _ (((Heap.SameBut.update ..).extBut.push _).push _))
end
theorem A6 {κ:Type}{kvs:List (κ×V)}{vs:List (κ×Value)}(h:KV kvs vs):∀{i:Nat} {k:κ} {v:V},kvs[i]? = some (k,v)->∃u,vs[i]? = some (k,u)/\a5 v u:=by
 unfold KV at h
 induction h with
 |nil=>intro i k v e;simp at e
 |@cons a b l₁ l₂ r t ih =>
  intro i k v e
  cases i with
  |zero =>
   simp only[List.getElem?_cons_zero,Option.some.injEq]at e
   subst e
   refine⟨b.2,?_,r.2⟩
   simp only[List.getElem?_cons_zero]
   exact Gy some (Prod.ext r.1.symm rfl)
  |succ j =>
   simp only[List.getElem?_cons_succ]at e ⊢
   exact ih e
theorem r8 {α β:Type}{G:α->β->Prop}{l₁:List α}{l₂:List β}(h:Paired G l₁ l₂):∀{i:Nat} {a:α},l₁[i]? = some a->∃b,l₂[i]? = some b/\G a b:=by
 induction h with
 |nil=>intro i a e;simp at e
 |@cons a b l₁ l₂ r t ih =>
  intro i a' e
  cases i with
  |zero =>
   simp only[List.getElem?_cons_zero,Option.some.injEq]at e
   subst e
   exact⟨b,rfl,r⟩
  |succ j =>
   simp only[List.getElem?_cons_succ]at e ⊢
   exact ih e
theorem ya {k:Key}{u:Value}(h:lM k u=true):a5 (kV k) u:=by
 rcases bR h with⟨i,t,rfl,rfl⟩|⟨x,t,rfl,rfl⟩
 ·exact⟨t,rfl⟩
 ·exact⟨t,rfl⟩
section
variable  {X:Cx}{pins:List (EJ×Obj)}{σ:St}{H:Hp}{s:EK}{d:EJ}{o:Obj}
theorem Inv.frzK {kvs:List (Key×V)}(I:Inv X pins σ H s)(h:H d=some (.frz o (.dK kvs))) :
  (d==Hf)=false/\s.heap.get? d=some o/\o.ExactDict/\∃(es:Array DictEntry) (ep:Nat) (vs:List (Key×Value)),o.data=.dict es ep/\es.size=kvs.length/\KV kvs vs/\s.heap.DictAt (cW X.prog X.w) d vs ep:=by
 obtain⟨hd,z,hs,vs,kv,o',es,ep,ho,hx,hdt,r⟩:=I.hok d _ h
 rw[hd]at ho
 cases ho
 refine⟨hs,hd,hx,es,ep,vs,hdt,?_,kv,o,es,hd,hx,hdt,r⟩
 have l1:=r.2.1.length
 have l2:kvs.length=vs.length:=Paired.length kv
 rw[Array.length_toList]at l1
 omega
theorem Inv.frzT {kvs:List (List Key×V)}(I:Inv X pins σ H s)(h:H d=some (.frz o (.dT kvs))) :
  (d==Hf)=false/\s.heap.get? d=some o/\o.ExactDict/\∃(es:Array DictEntry) (ep:Nat),o.data=.dict es ep/\es.size=kvs.length /\
   ∀(i:Nat) (k:List Key) (v:V),kvs[i]? = some (k,v)->∃(en:DictEntry) (q:EJ),es[i]? = some en/\en.key=.ref q/\H q=some (.tup (k.map kV)):=by
 obtain⟨hd,z,hs,xs,pr,o',es,ep,ho,hx,hdt,he,_⟩:=I.hok d _ h
 rw[hd]at ho
 cases ho
 refine⟨hs,hd,hx,es,ep,hdt,?_,λ i k v e=>?_⟩
 ·have l1:es.size=xs.length:=size_of_entries he
  have l2:kvs.length=xs.length:=Paired.length pr
  omega
 ·obtain⟨b,hb,e1,e2,_⟩:=r8 pr e
  have q:=entry_at he i
  rw[hb]at q
  exact⟨_,b.2.1,q,rfl,e2⟩
end
def Itk (d:EJ)(o:Obj)(kvs:List (Key×V)):It :=
 ⟨λ i H=>H d=some (.frz o (.dK kvs))/\i<kvs.length,λ i H x H'=>H'=H/\∃k v,kvs[i]? = some (k,v)/\x=kV k,λ i H=>H d=some (.frz o (.dK kvs))/\kvs.length<=i⟩
def Cc (d:EJ)(o:Obj)(kvs:List (List Key×V)):It :=
 ⟨λ i H=>H d=some (.frz o (.dT kvs))/\i<kvs.length,λ i H x H'=>H'=H/\∃(k:List Key) (v:V) (q:EJ),kvs[i]? = some (k,v)/\x=.ref q/\H q=some (.tup (k.map kV)),λ i H=>H d=some (.frz o (.dT kvs))/\kvs.length<=i⟩
theorem l7 {o:Obj}{es es':Array DictEntry}{ep ep':Nat}(h:o.data=.dict es ep)(h':o.data=.dict es' ep'):es'=es/\ep'=ep:=by
 rw[h]at h'
 cases h'
 exact⟨rfl,rfl⟩
section
variable  {P:E8}{w:FL}{K:FQ}{tg:Expr}{d:EJ}{o:Obj}{es:Array DictEntry}{ep:Nat}
theorem vA {kvs:List (Key×V)}(it:EJ)(hod:o.data=.dict es ep):mi P w K tg (Itk d o kvs) [it] it (λ i h=>h.IsKeyIter it d i kvs.length ep) where
 mem:=by simp
 obj:=λ i h st b hb=>by
  have e:b=it:=by simpa using hb
  subst e
  obtain⟨oi,e,c,dd⟩:=st
  exact⟨oi,e,λ v z=>by rw[dd]at z;cases z⟩
 keep:=λ i h h' st k=>st.at λ oi e=>k it (by simp) oi e
 item:=by
  intro X hP hw hK hc i pins s σ H E I hf st hg
  subst hP hw hK
  obtain⟨hd,hi⟩:=hg
  obtain⟨f0,f1,f2,f3,f4,f5⟩:=hf it (by simp)
  obtain⟨hs,hgd,hx,es',ep',vs,hdt,hsz,kv,hm⟩:=I.frzK hd
  obtain⟨rfl,rfl⟩:=l7 hod hdt
  obtain⟨⟨k,v⟩,hkv⟩:∃p,kvs[i]? = some p:=⟨kvs[i],gge hi⟩
  obtain⟨u,hu,ru⟩:=A6 kv hkv
  have hl:kvs.length=vs.length:=Paired.length kv
  rw[hl]at st
  refine wpAny_pyNext_dict_item st hm hu λ key h' hkey st' sb=>?_
  have I1:Inv X pins σ H { s with heap:=h' }:=I.turned (t':=s.toks) (λ b ob hb e=>(sb.2 b hb).trans e) f0 f1 f3 f4 f5
  obtain⟨oi,e,c,dd⟩:=id st'
  refine⟨key,rfl,mE (s:={ s with heap:=h' }) e c dd (by decide) ⟨kV k,H,I1,ya (show lM k key=true from hkey),⟨rfl,k,v,hkv,rfl⟩,?_,λ b hb=>(hf b hb).1⟩⟩
  show h'.IsKeyIter it d (i+1) kvs.length _
  rw[hl]
  exact st'
 done:=by
  intro X hP hw hK hc i pins s σ H E I hf st hg
  subst hP hw hK
  obtain⟨hd,hi⟩:=hg
  obtain⟨f0,f1,f2,f3,f4,f5⟩:=hf it (by simp)
  obtain⟨hs,hgd,hx,es',ep',vs,hdt,hsz,kv,hm⟩:=I.frzK hd
  obtain⟨rfl,rfl⟩:=l7 hod hdt
  exact j3 (I.ok.hd hc) st hgd hdt hsz hi λ h' eb=>⟨rfl,I.turned (t':=s.toks) (λ b ob hb e=>eb b ob hb e) f0 f1 f3 f4 f5⟩
 self:=λ A i s Q E st h=>wpAny_pyIter_keyiter st h
theorem ss {kvs:List (List Key×V)}(it:EJ)(hod:o.data=.dict es ep):mi P w K tg (Cc d o kvs) [it] it (λ i h=>h.IsKeyIter it d i kvs.length ep) where
 mem:=by simp
 obj:=λ i h st b hb=>by
  have e:b=it:=by simpa using hb
  subst e
  obtain⟨oi,e,c,dd⟩:=st
  exact⟨oi,e,λ v z=>by rw[dd]at z;cases z⟩
 keep:=λ i h h' st k=>st.at λ oi e=>k it (by simp) oi e
 item:=by
  intro X hP hw hK hc i pins s σ H E I hf st hg
  subst hP hw hK
  obtain⟨hd,hi⟩:=hg
  obtain⟨f0,f1,f2,f3,f4,f5⟩:=hf it (by simp)
  obtain⟨hs,hgd,hx,es',ep',hdt,hsz,ent⟩:=I.frzT hd
  obtain⟨rfl,rfl⟩:=l7 hod hdt
  obtain⟨⟨k,v⟩,hkv⟩:∃p,kvs[i]? = some p:=⟨kvs[i],gge hi⟩
  obtain⟨en,q,hen,hkey,hq⟩:=ent i k v hkv
  refine nQ st hgd hdt hsz hen λ h' st' sb=>?_
  have I1:Inv X pins σ H { s with heap:=h' }:=I.turned (t':=s.toks) (λ b ob hb e=>(sb.2 b hb).trans e) f0 f1 f3 f4 f5
  obtain⟨oi,e,c,dd⟩:=id st'
  exact⟨en.key,rfl,mE (s:={ s with heap:=h' }) e c dd (by decide) ⟨.ref q,H,I1,hkey,⟨rfl,k,v,q,hkv,rfl,hq⟩,st',λ b hb=>(hf b hb).1⟩⟩
 done:=by
  intro X hP hw hK hc i pins s σ H E I hf st hg
  subst hP hw hK
  obtain⟨hd,hi⟩:=hg
  obtain⟨f0,f1,f2,f3,f4,f5⟩:=hf it (by simp)
  obtain⟨hs,hgd,hx,es',ep',hdt,hsz,ent⟩:=I.frzT hd
  obtain⟨rfl,rfl⟩:=l7 hod hdt
  exact j3 (I.ok.hd hc) st hgd hdt hsz hi λ h' eb=>⟨rfl,I.turned (t':=s.toks) (λ b ob hb e=>eb b ob hb e) f0 f1 f3 f4 f5⟩
 self:=λ A i s Q E st h=>by
  refine wpAny_pyIter_slot st.typeIs F.slot_dict_keyiterator_iter (HD F.slot_dict_keyiterator_iter st.typeIs F.entry_dict_keyiterator_iter ?_ (F.args_dict_keyiterator_iter_1 _))
  show Fp _ _ (ret (.ref it)) _ _ s
  exact E5 ⟨_,rfl,"dict_keyiterator",_,st.typeIs,F.slot_dict_keyiterator_next.lookup,h⟩
end
def Dm (td:TE):TI:=λ σ H R=>td σ H λ x H1=>∃d o,x=.ref d/\((∃kvs,H1 d=some (.frz o (.dK kvs))/\R (Itk d o kvs) H1)\/∃kvs,H1 d=some (.frz o (.dT kvs))/\R (Cc d o kvs) H1)
section
variable  {X:Cx}{tg e:Expr}{td:TE}{apos cpos:Pos}
theorem yG (he:PE X e td):PI X tg e (Dm td):=by
 intro pins s σ H R I h
 refine thn (he pins s σ H _ I h) λ u s1 ⟨x,H1,I1,rx,d,o,ex,q⟩=>?_
 subst ex
 obtain rfl:u=FA d:=rx
 rcases q with⟨kvs,hd,q⟩|⟨kvs,hd,q⟩
 ·obtain⟨hs,hgd,hx,es,ep,vs,hdt,hsz,kv,hm⟩:=I1.frzK hd
  refine oe hs hgd hx hdt (pY (tk:=s1.toks) I1 _ (vA _ hdt) ⟨_,Fb _ rfl,rfl,?_⟩ q)
  rw[hsz]<;>rfl
 ·obtain⟨hs,hgd,hx,es,ep,hdt,hsz,ent⟩:=I1.frzT hd
  refine oe hs hgd hx hdt (pY (tk:=s1.toks) I1 _ (ss _ hdt) ⟨_,Fb _ rfl,rfl,?_⟩ q)
  rw[hsz]<;>rfl
end
def Ite (K:FQ)(a:EJ):It :=
 ⟨λ i H=>∃(xs:List V) (x:V),SqL K H a xs/\xs[i]? = some x,λ i H v H'=>∃T x,v=.ref T/\H T=none/\H'=upd H T (.tup [.int (i:Nat),x])/\∀xs,SqL K H a xs->xs[i]? = some x,λ i H=>∃xs:List V,SqL K H a xs/\xs.length<=i⟩
theorem vH {P:E8}{w:FL}{K:FQ}{elts:List Expr}{kk:Nat}{tpos:Pos}(a e it:EJ) :
  mi P w K (.Tuple elts kk tpos) (Ite K a) [e,it] e (λ i h=>(∃old,IsEnum h e it ((i:Nat):Int) old)/\h.IsListIter it a i/\e≠it) where
 mem:=by simp
 obj:=λ i h st b hb=>by
  obtain⟨⟨old,he⟩,⟨o,ho,hc,hd⟩,_⟩:=st
  have e':b=e\/b=it:=by simpa using hb
  rcases e' with z|z
  ·rw[z];exact⟨_,he,λ v q=>nomatch q⟩
  ·rw[z];exact⟨o,ho,λ v q=>by rw[hd]at q;cases q⟩
 keep:=λ i h h' st k=>let ⟨⟨old,he⟩,hi,hne⟩:=st;⟨⟨old,k e (by simp) _ he⟩,hi.at λ o q=>k it (by simp) o q,hne⟩
 item:=by
  intro X hP hw hK hc i pins s σ H E I hf st hg
  subst hP hw hK
  obtain⟨⟨old,he⟩,hit,hne⟩:=st
  obtain⟨xs,x,hq,hx⟩:=hg
  obtain⟨its,rv,p,hz⟩:=I.list hq
  obtain⟨u,hu,ru⟩:=rv.get hx
  have hel:e<s.heap.objs.size:=EX he
  have hil:it<s.heap.objs.size:=by obtain⟨_,q,_⟩:=hit;exact EX q
  refine wpAny_pyNext_enum_item he hit p.isList (x:=u) (by simpa using hu) hne λ h' ho hit' hT hsz hk=>?_
  refine⟨_,rfl,wpAny_letOwnedTupleGo_enum (s:={ s with heap:=h',toks:=s.toks+1 }) ho λ h'' he' sb=>?_⟩
  have hT2:h''.get? s.heap.objs.size=some { cls:=.type "tuple",data:=.seq #[.int i s.toks,u] }:=(sb.2 _ (GI hel)).trans hT
  have new:cf X.prog X.w (upd H s.heap.objs.size (.tup [.int (i:Nat),x])) h'' s.heap.objs.size (.tup [.int (i:Nat),x]) :=
   ⟨by show 2<=EL;decide,[.int i s.toks,u],.cons ⟨_,rfl⟩ (.cons ru .nil),⟨_,hT2,rfl,_,rfl⟩⟩
  have I1:Inv X pins σ (upd H s.heap.objs.size (.tup [.int (i:Nat),x])) { s with heap:=h'',toks:=s.toks+1 } :=
   I.turnedNew (ch:=[e,it]) (λ b ob hb q=>(sb.2 b (λ z=>hb (by simp[z]))).trans (hk b ob (λ z=>hb (by simp[z])) (λ z=>hb (by simp[z])) q)) hf (nlr _) new
  refine⟨.ref s.heap.objs.size,_,I1,rfl,⟨_,x,rfl,I.hok.fresh (nlr _),rfl,λ ys hy=>by rw[I.list_inj hy hq];exact hx⟩,⟨⟨u,?_⟩,hit'.at λ o q=>(sb.2 it (Fj hne)).trans q,hne⟩,λ b hb=>?_⟩
  ·have e1:((i+1:Nat):Int)=(i:Int)+1:=by omega
   rw[e1];exact he'
  ·have hb':b<s.heap.objs.size:=by
    have e':b=e\/b=it:=by simpa using hb
    rcases e' with z|z
    ·rw[z];exact hel
    ·rw[z];exact hil
   rw[ap (Fv hb')]
   exact(hf b hb).1
 done:=by
  intro X hP hw hK hc i pins s σ H E I hf st hg
  subst hP hw hK
  obtain⟨⟨old,he⟩,hit,hne⟩:=st
  obtain⟨xs,hq,hx⟩:=hg
  obtain⟨its,rv,p,hz⟩:=I.list hq
  obtain⟨f0,f1,f2,f3,f4,f5⟩:=hf it (by simp)
  have hl:=rv.length
  exact wpAny_pyNext_enum_end (I.ok.hd hc) he hit p.isList (by simp;omega) λ h' eb=>⟨rfl,I.turned (t':=s.toks) (λ b o hb q=>eb b o hb q) f0 f1 f3 f4 f5⟩
 self:=λ A i s Q E st h=>let ⟨⟨_,he⟩,_⟩:=st;wpAny_pyIter_enum he h
def DJ (K:FQ)(ta:TA):TI:=λ σ H R=>ta σ H λ vs H1=>∃a xs,vs=[.ref a]/\SqL K H1 a xs/\R (Ite K a) H1
theorem dX {X:Cx}{e:Expr}{ta:TA}{p pos tpos:Pos}{elts:List Expr}{kk:Nat} (hg:Gl X "enumerate") (hm:X.mg "enumerate"=none) (ha:PA X [e] ta) (hs:Fo [e] X.env=[(false,Ik e X.env)]:=by rfl) :
  PI X (.Tuple elts kk tpos) (.Call (.Name "enumerate" p) [e] [] pos) (DJ X.K ta):=by
 intro pins s σ H R I h
 refine Call_ (gA I hg hm boot_enumerate (FD (thn (ha pos pins s σ H _ I h) λ us s1 ⟨vs,H1,I1,r1,q1⟩=>?_) hs rfl))
 obtain⟨a,xs,ex,hq,q⟩:=q1
 subst ex
 cases r1 with
 |cons r rr =>
  cases rr
  cases r
  obtain⟨its,rv,p',hz⟩:=I1.list hq
  refine call_enumerate_list p'.isList λ h' he hit hsz hk=>wpAny_pyIter_enum he ?_
  have I2:Inv X pins σ H1 { s1 with heap:=h' }:=I1.kept (t':=s1.toks) hk
  refine⟨s1.heap.objs.size+1,[s1.heap.objs.size+1,s1.heap.objs.size],_,_,H1,rfl,I2,vH a (s1.heap.objs.size+1) s1.heap.objs.size,⟨⟨.none,he⟩,hit,Nat.succ_ne_self _⟩,λ b hb=>?_,q⟩
  have e':b=s1.heap.objs.size+1\/b=s1.heap.objs.size:=by simpa using hb
  have hle:s1.heap.objs.size<=b:=by
   rcases e' with z|z
   ·rw[z];exact Gi _ _
   ·rw[z];exact nlr _
  exact I1.fpOk hle (I1.hok.fresh hle)
theorem vI:GW "zip"=some (.type "zip"):=by decide +kernel
def Itz (K:FQ)(a b:EJ):It :=
 ⟨λ i H=>∃(xs ys:List V) (x y:V),SqL K H a xs/\SqL K H b ys/\xs[i]? = some x/\ys[i]? = some y,
  λ i H v H'=>∃T x y,v=.ref T/\H T=none/\H'=upd H T (.tup [x,y])/\(∀xs,SqL K H a xs->xs[i]? = some x)/\∀ys,SqL K H b ys->ys[i]? = some y,
  λ i H=>∃xs ys:List V,SqL K H a xs/\SqL K H b ys/\(xs.length<=i\/ys.length<=i)⟩
theorem xt {P:E8}{w:FL}{K:FQ}{elts:List Expr}{kk:Nat}{tpos:Pos}{a b z TI TO i1 i2:EJ}(D:ZipApart z TI TO i1 i2 a b) :
  mi P w K (.Tuple elts kk tpos) (Itz K a b) [z,TI,TO,i1,i2] z (λ i h=>IsZip h z TI TO .none/\IsPair h TI (.ref i1) (.ref i2)/\(∃x y,IsPair h TO x y)/\h.IsListIter i1 a i/\h.IsListIter i2 b i) where
 mem:=by simp
 obj:=λ i h st c hc=>by
  obtain⟨hz,hTI,⟨x,y,hTO⟩,⟨o1,e1,_,d1⟩,⟨o2,e2,_,d2⟩⟩:=st
  have e':c=z\/c=TI\/c=TO\/c=i1\/c=i2:=by simpa using hc
  rcases e' with q|q|q|q|q
  ·rw[q];exact⟨_,hz,λ v q=>nomatch q⟩
  ·rw[q];exact⟨_,hTI,λ v q=>nomatch q⟩
  ·rw[q];exact⟨_,hTO,λ v q=>nomatch q⟩
  ·rw[q];exact⟨o1,e1,λ v q=>by rw[d1]at q;cases q⟩
  ·rw[q];exact⟨o2,e2,λ v q=>by rw[d2]at q;cases q⟩
 keep:=λ i h h' st k=>by
  obtain⟨hz,hTI,⟨x,y,hTO⟩,h1,h2⟩:=st
  exact⟨k z (by simp) _ hz,k TI (by simp) _ hTI,⟨x,y,k TO (by simp) _ hTO⟩,h1.at λ o q=>k i1 (by simp) o q,h2.at λ o q=>k i2 (by simp) o q⟩
 item:=by
  intro X hP hw hK hc i pins s σ H E I hf st hg
  subst hP hw hK
  obtain⟨hz,hTI,⟨x0,y0,hTO⟩,h1,h2⟩:=st
  obtain⟨xs,ys,x,y,hqx,hqy,hx,hy⟩:=hg
  obtain⟨its,rv,p,_⟩:=I.list hqx
  obtain⟨its2,rv2,p2,_⟩:=I.list hqy
  obtain⟨u,hu,ru⟩:=rv.get hx
  obtain⟨u2,hu2,ru2⟩:=rv2.get hy
  have hzl:z<s.heap.objs.size:=EX hz
  refine wpAny_pyNext_zip_item D hz hTI hTO h1 h2 p.isList p2.isList (x:=u) (y:=u2) (by simpa using hu) (by simpa using hu2) λ h' z' TO' h1' h2' hT hsz hk=>?_
  refine⟨_,rfl,wpAny_letOwnedTupleGo_zip (s:={ s with heap:=h' }) z' λ h'' z'' sb=>?_⟩
  have hT2:h''.get? s.heap.objs.size=some { cls:=.type "tuple",data:=.seq #[u,u2] }:=(sb.2 _ (GI hzl)).trans hT
  have new:cf X.prog X.w (upd H s.heap.objs.size (.tup [x,y])) h'' s.heap.objs.size (.tup [x,y]) :=
   ⟨by show 2<=EL;decide,[u,u2],.cons ru (.cons ru2 .nil),⟨_,hT2,rfl,_,rfl⟩⟩
  have I1:Inv X pins σ (upd H s.heap.objs.size (.tup [x,y])) { s with heap:=h'' } :=
   I.turnedNew (t':=s.toks) (ch:=[z,TI,TO,i1,i2]) (λ c o hb q=>(sb.2 c (λ q'=>hb (by simp[q']))).trans (hk c o (λ q'=>hb (by simp[q'])) (λ q'=>hb (by simp[q'])) (λ q'=>hb (by simp[q'])) (λ q'=>hb (by simp[q'])) q)) hf (nlr _) new
  refine⟨.ref s.heap.objs.size,_,I1,rfl,⟨_,x,y,rfl,I.hok.fresh (nlr _),rfl,λ l hl=>by rw[I.list_inj hl hqx];exact hx,λ l hl=>by rw[I.list_inj hl hqy];exact hy⟩,⟨z'',?_,⟨u,u2,?_⟩,?_,?_⟩,λ c hcm=>?_⟩
  ·exact(sb.2 _ D.TIz).trans (hk _ _ D.TIz D.TITO D.TIi1 D.TIi2 hTI)
  ·exact(sb.2 _ D.TOz).trans TO'
  ·exact h1'.at λ o q=>(sb.2 _ D.i1z).trans q
  ·exact h2'.at λ o q=>(sb.2 _ D.i2z).trans q
  ·have hlt:c<s.heap.objs.size:=by
    have e':c=z\/c=TI\/c=TO\/c=i1\/c=i2:=by simpa using hcm
    rcases e' with q|q|q|q|q
    ·rw[q];exact hzl
    ·rw[q];exact EX hTI
    ·rw[q];exact EX hTO
    ·rw[q];obtain⟨_,e1,_⟩:=h1;exact EX e1
    ·rw[q];obtain⟨_,e2,_⟩:=h2;exact EX e2
   rw[ap (Fv hlt)]
   exact(hf c hcm).1
 done:=by
  intro X hP hw hK hc i pins s σ H E I hf st hg
  subst hP hw hK
  obtain⟨hz,hTI,⟨x0,y0,hTO⟩,h1,h2⟩:=st
  obtain⟨xs,ys,hqx,hqy,hend⟩:=hg
  obtain⟨its,rv,p,_⟩:=I.list hqx
  obtain⟨its2,rv2,p2,_⟩:=I.list hqy
  have l1:=rv.length
  have l2:=rv2.length
  have he:its.toArray[i]? = none\/its2.toArray[i]? = none:=by
   rcases hend with q|q
   ·exact .inl (by simp;omega)
   ·exact .inr (by simp;omega)
  exact wpAny_pyNext_zip_end (I.ok.hd hc) D hz hTI hTO h1 h2 p.isList p2.isList he λ h' hk=>⟨rfl,I.turnedL (t':=s.toks) (ch:=[z,TI,TO,i1,i2]) (λ c o hb q =>
   hk c o (λ q'=>hb (by simp[q'])) (λ q'=>hb (by simp[q'])) (λ q'=>hb (by simp[q'])) (λ q'=>hb (by simp[q'])) q) hf⟩
 self:=λ A i s Q E st h=>wpAny_pyIter_zip st.1 h
def Ex (K:FQ)(ta:TA):TI:=λ σ H R=>ta σ H λ vs H1=>∃a b xs ys,vs=[.ref a,.ref b]/\SqL K H1 a xs/\SqL K H1 b ys/\R (Itz K a b) H1
theorem Bv {X:Cx}{e e2:Expr}{ta:TA}{p pos tpos:Pos}{elts:List Expr}{kk:Nat} (hg:Gl X "zip") (hm:X.mg "zip"=none) (ha:PA X [e,e2] ta)
  (hs:Fo [e,e2] X.env=(false,Ik e X.env) :: Fo [e2] X.env:=by rfl) (hpl:(HL pos (Fo [e2] X.env)).any (·.1)=false:=by rfl) :
  PI X (.Tuple elts kk tpos) (.Call (.Name "zip" p) [e,e2] [] pos) (Ex X.K ta):=by
 intro pins s σ H R I h
 refine Call_ (gA I hg hm vI (FD (thn (ha pos pins s σ H _ I h) λ us s1 ⟨vs,H1,I1,r1,q1⟩=>?_) hs hpl))
 obtain⟨a,b,xs,ys,ex,hqx,hqy,q⟩:=q1
 subst ex
 cases r1 with
 |cons r rr =>
  cases rr with
  |cons r' rr =>
   cases rr
   cases r
   cases r'
   obtain⟨its,rv,p1,_⟩:=I1.list hqx
   obtain⟨its2,rv2,p2,_⟩:=I1.list hqy
   have la:a<s1.heap.objs.size:=p1.lt
   have lb:b<s1.heap.objs.size:=p2.lt
   refine call_zip_2 p1.isList p2.isList λ h' hz hTI hTO h1 h2 hsz hk=>wpAny_pyIter_zip hz ?_
   have I2:Inv X pins σ H1 { s1 with heap:=h' }:=I1.kept (t':=s1.toks) hk
   refine⟨s1.heap.objs.size+4,[s1.heap.objs.size+4,s1.heap.objs.size+2,s1.heap.objs.size+3,s1.heap.objs.size,s1.heap.objs.size+1],_,_,H1,rfl,I2,xt (PySem.W.ktu_apart s1.heap.objs.size a b la lb),⟨hz,hTI,⟨_,_,hTO⟩,h1,h2⟩,λ c hcm=>?_,q⟩
   have e':c=s1.heap.objs.size+4\/c=s1.heap.objs.size+2\/c=s1.heap.objs.size+3\/c=s1.heap.objs.size\/c=s1.heap.objs.size+1:=by simpa using hcm
   have hle:s1.heap.objs.size<=c:=by
    rcases e' with z|z|z|z|z
    ·rw[z];exact Gi _ _
    ·rw[z];exact Gi _ _
    ·rw[z];exact Gi _ _
    ·rw[z];exact nlr _
    ·rw[z];exact Gi _ _
   exact I1.fpOk hle (I1.hok.fresh hle)
end L2
section
namespace Bits
open PySem PyProof.Rows
end Bits
end
section
namespace TL
open PySem PySem.Builtin PySem.Builtin.Str PySem.StrLaws
abbrev tl (x:Str):List Nat:=x.cps.toList
def pre (S l:List Nat):Bool:=l.take S.length==S
def par (S:List Nat):List Nat->List Nat->Option (List Nat×List Nat)
 |_,[]=>none
 |acc,c :: r=>if pre S (c :: r)=true then some (acc,(c :: r).drop S.length) else par S (acc++[c]) r
end TL
end
namespace L2
open PySem PySem.Spec PyProof.Rows
section
variable  {X:Cx}{pins:List (EJ×Obj)}{σ:St}{H:Hp}{s:EK}{Q:VK}
end
section
variable  {X:Cx}
end
section
variable  {X:Cx}{o e:Expr}{to te:TE}
end
end L2
namespace L2
open PySem PySem.Spec PyProof.Rows
section
variable  {X:Cx}
end
end L2
namespace Att
open PySem PySem.W PySem.Calls PyProof.Rows
section
variable  {prog:E8}{w:FL}{A:Around}{E:Value->EK->Prop}{s:EK}{K:FQ}
end
end Att
namespace L2
open PySem PySem.Spec PyProof.Rows
theorem oI:∀{vs:List Value} {ns:List Int},HK vs ns->aT (ns.map V.int) vs
 |_,_,.nil=>.nil
 |_,_,.cons n t h=>.cons ⟨t,rfl⟩ (oI h)
def BG (H:Hp):Prop:=∀b,H b=none\/∃o xs,H b=some (.frz o (.lst xs))
theorem B5 {P:E8}{w:FL}{K:FQ}{mg mb:Str->Option Value}{CX:CXT}{k:Nat}{fa a:EJ}{fd:Im}{x:Str}{sp:Sp}{s₁:EK}{vs:List Value}{ns:List Int}
  (KX:K.In s₁.heap) (hns:s₁.heap.Ns FI mg) (hb:s₁.heap.Ns builtinsNs mb) (hbb:∀x:Str,x≠"__name__"->mb x=GW x) (hlim:s₁.heap.NoLimit) (hg:s₁.gens=#[])
  (ha:s₁.heap.get? a=some { cls:=.type "list",data:=.seq vs.toArray }) (hi:HK vs ns) (hl:ns.length<=EL) (hr:bu k callerA)
  (F:∀base:Heap,K.In base->base.Ns FI mg->jw P w K mg base CX k fa fd [x] sp) (hbind:∀(s:EK) (u:Value),BindsTo s fd ⟨[u],[]⟩ [(x,u)])
  (hsp:∀H:Hp,BG H->SqL K H a (ns.map V.int)->sp [.ref a] H (λ v _=>v=.bl true) λ _ _ _=>False)
  (hCX:∀H e s',CX [] H s₁ (λ _ _ _=>False) e s'->False) :
  codeAny (FC P w) callerA (.call (.ref fa) ⟨[.ref a],[]⟩) (λ r s'=>r=.ok (.ret (.bool true))/\OldK s₁.heap s'.heap/\s'.os=s₁.os/\AllBare s'.gens) s₁:=by
 have rv:=oI hi
 have lenV:=hi.length
 have x8:∀H:Hp,BG H->SqL K H a (ns.map V.int)->HOk P w H s₁.heap->(∀b,H b≠none->b=a)->(H a≠none->K.lookup a=none) ->
   codeAny (FC P w) callerA (.call (.ref fa) ⟨[.ref a],[]⟩) (λ r s'=>r=.ok (.ret (.bool true))/\OldK s₁.heap s'.heap/\s'.os=s₁.os/\AllBare s'.gens) s₁:=by
  intro H hO hS hok hA hK
  have base_of:∀{b:EJ} {o:Obj},s₁.heap.get? b=some o->H b=none->(jZ s₁.heap H).get? b=some o:=λ e n=>qW e n
  have noA:∀{b:EJ} {o:Obj} {es:Array DictEntry} {ep:Nat},s₁.heap.get? b=some o->o.data=.dict es ep->H b=none:=λ{b o es ep} e d=>by
   cases q:H b with
   |none=>rfl
   |some u =>
    have e':b=a:=hA b (by rw[q];simp)
    subst e'
    rw[ha]at e;cases e
    have d':Data.seq vs.toArray _=Data.dict es ep:=d
    cases d'
  have nsK:∀{b:EJ} {m:Str->Option Value},s₁.heap.Ns b m->(jZ s₁.heap H).Ns b m:=λ{b m} ⟨o,es,ep,e,d,r⟩=>⟨o,es,ep,base_of e (noA e d),d,r⟩
  have hKb:K.In (jZ s₁.heap H):=λ b o e=>base_of (KX b o e) (by
   cases q:H b with
   |none=>rfl
   |some u =>
    have e':b=a:=hA b (by rw[q];simp)
    subst e'
    rw[hK (by rw[q];simp)]at e;cases e)
  have hM:Mod K mg (jZ s₁.heap H):=⟨hKb,nsK hns,⟨mb,nsK hb,hbb⟩,let ⟨mc,h1,h2⟩:=hlim;⟨mc,nsK h1,h2⟩⟩
  have e0:rE P w K mg (jZ s₁.heap H) callerA [] s₁ H:=⟨rfl,hM,λ b o e=>uC e,Nat.le_of_eq (oS _ _),trivial,λ b hb=>absurd (show b∈([]:List EJ) from hb) (by simp),hok,.of_eq hg⟩
  refine codeAny_mono ((F _ hKb (nsK hns)).run callerA [] s₁ H ⟨[.ref a],[]⟩ [.ref a] [.ref a] _ _ hr e0 (hbind s₁ (.ref a)) (.cons rfl .nil) (hsp H hO hS)) λ r s' h=>?_
  cases r with
  |error e=>exact(hCX H e s' h).elim
  |ok fl =>
   cases fl with
   |next=>exact Gk h
   |brk=>exact Gk h
   |cont=>exact Gk h
   |ret u =>
    obtain⟨v,H',os,bare,un,hok',r',q⟩:=h
    have q':v=.bl true:=q
    subst q'
    obtain rfl:u=Value.bool true:=r'
    refine⟨rfl,OldK.of_keep λ b o e=>?_,os,bare⟩
    cases q:H b with
    |none=>exact un.keep b o e q (by intro z;exact absurd (show b∈([]:List EJ) from z) (by simp)) (by simp)
    |some u =>
     rcases hO b with z|⟨ob,xs,z⟩
     ·rw[q]at z;cases z
     ·have z2:=un.frzs b ob _ z
      obtain⟨e1,_⟩:=hok b _ z
      obtain⟨e2,_⟩:=hok' b _ z2
      rw[e]at e1;cases e1
      exact e2
 cases hk:K.lookup a with
 |some o =>
  have e:=KX a o hk
  rw[ha]at e
  cases e
  refine x8 (λ _=>none) (λ _=>.inl rfl) (.inr ⟨_,vs.toArray,_,hk,rfl,rfl,rfl,by rw[EW,lenV];exact hl,by simpa using rv⟩) (λ b u z=>by have z':(none:Option HO)=some u:=z;cases z') (λ b z=>absurd rfl z) λ z=>absurd rfl z
 |none =>
  refine x8 (λ b=>if b=a then some (.frz { cls:=.type "list",data:=.seq vs.toArray } (.lst (ns.map V.int))) else none) (λ b=>?_) (.inl (.inr ⟨{ cls:=.type "list",data:=.seq vs.toArray },EU rfl⟩)) (λ b u z=>?_) (λ b z=>?_) λ _=>hk
  ·by_cases hb:b=a
   ·exact .inr ⟨_,_,EU hb⟩
   ·exact .inl (EM hb)
  ·by_cases hb:b=a
   ·have z':=(EU hb).symm.trans z
    cases z'
    subst hb
    exact⟨ha,by rw[lmp];exact hl,vs,_,rv,ha⟩
   ·have z':=(EM hb).symm.trans z
    cases z'
  ·by_cases hb:b=a
   ·exact hb
   ·exact absurd (EM hb) z
end L2
namespace L2
open PySem PySem.Spec PyProof.Rows
end L2
namespace L2
open PySem PySem.Spec PyProof.Rows
open PySem.W (WData Codec OpenSpec Well WellAll ReadsW ReadsAllW)
mutual
inductive Dw (K:FQ)(H:Hp):V->WData->Prop
 |non:Dw K H .non .none
 |bl (b:Bool):Dw K H (.bl b) (.bool b)
 |int (i:Int):Dw K H (.int i) (.int i)
 |str (x:Str):Dw K H (.str x) (.str x)
 |byt (b:Array UInt8):Dw K H (.byt b) (.bytes b.toList)
 |lst {a:EJ} {xs:List V} {ds:List WData}:SqL K H a xs->iE K H xs ds->Dw K H (.ref a) (.list ds)
 |tup {a:EJ} {xs:List V} {ds:List WData}:SqT K H a xs->iE K H xs ds->Dw K H (.ref a) (.tuple ds)
inductive iE (K:FQ)(H:Hp):List V->List WData->Prop
 |nil:iE K H [] []
 |cons {v:V} {vs:List V} {d:WData} {ds:List WData}:Dw K H v d->iE K H vs ds->iE K H (v :: vs) (d :: ds)
end
theorem uA {K:FQ}{H:Hp}:∀ns:List Int,iE K H (ns.map V.int) (ns.map WData.int)
 |[]=>.nil
 |n :: r=>.cons (.int n) (uA r)
theorem jW {K:FQ}{H:Hp}:∀(ns:List Int) (xs:List V),iE K H xs (ns.map WData.int)->xs=ns.map V.int
 |[],xs,h=>by
  cases h
  rfl
 |n :: r,xs,h=>by
  cases h with
  |cons h1 h2 =>
   cases h1
   rw[jW r _ h2]<;>rfl
section
variable  {P:E8}{w:FL}{K:FQ}{H:Hp}{h:Heap}{R:PySem.W.WRecords}{cl:Str->Option EJ}
theorem AE {a:EJ}{xs:List V}(hok:HOk P w H h)(KX:K.In h)(q:SqL K H a xs):∃(its:List Value) (o:Obj) (n:Nat),aT xs its/\h.get? a=some o/\o.cls=.type "list"/\o.data=.seq its.toArray n:=by
 rcases q with q|⟨o,its,n,e,hc,_,hd,_,hv⟩
 ·obtain⟨_,its,n,hv,e⟩:=(show cf P w H h a (.lst xs) from q.ok hok)
  exact⟨its,_,n,hv,e,rfl,rfl⟩
 ·exact⟨its.toList,o,n,hv,KX _ _ e,hc,by simp[hd]⟩
theorem AH {a:EJ}{xs:List V}(hok:HOk P w H h)(KX:K.In h)(q:SqT K H a xs):∃(its:List Value) (o:Obj) (n:Nat),aT xs its/\h.get? a=some o/\o.cls=.type "tuple"/\o.data=.seq its.toArray n:=by
 rcases q with q|⟨o,its,n,e,hc,hd,_,hv⟩
 ·obtain⟨_,its,hv,o,e,hc,n,hd⟩:=(show cf P w H h a (.tup xs) from q.ok hok)
  exact⟨its,o,n,hv,e,hc,hd⟩
 ·exact⟨its.toList,o,n,hv,KX _ _ e,hc,by simp[hd]⟩
mutual
theorem Dw.reads (hok:HOk P w H h)(KX:K.In h):∀(d:WData) (v:V) (u:Value),Dw K H v d->a5 v u->∃as,ReadsW R cl h u d as
 |.none,_,_,x,r=>by
  cases x
  cases r
  exact⟨_,ReadsW.none⟩
 |.bool b,_,_,x,r=>by
  cases x
  cases r
  exact⟨_,ReadsW.bool b⟩
 |.int i,_,_,x,r=>by
  cases x
  obtain⟨t,rfl⟩:=r
  exact⟨_,ReadsW.int i t⟩
 |.str s,_,_,x,r=>by
  cases x
  obtain⟨t,rfl⟩:=r
  exact⟨_,ReadsW.str s t⟩
 |.bytes b,_,_,x,r=>by
  cases x
  obtain⟨t,rfl⟩:=r
  exact⟨_,ReadsW.bytes _ t⟩
 |.list ds,_,_,x,r=>by
  cases x with
  |lst hs ha =>
   cases r
   obtain⟨its,o,n,rv,ho,hc,hd⟩:=AE hok KX hs
   obtain⟨as,hr⟩:=Dw.readsAll hok KX ds _ its ha rv
   exact⟨_,ReadsW.list ho hc hd hr⟩
 |.tuple ds,_,_,x,r=>by
  cases x with
  |tup hs ha =>
   cases r
   obtain⟨its,o,n,rv,ho,hc,hd⟩:=AH hok KX hs
   obtain⟨as,hr⟩:=Dw.readsAll hok KX ds _ its ha rv
   exact⟨_,ReadsW.tuple ho hc hd hr⟩
 |.float _,_,_,x,_=>by cases x
 |.dict _,_,_,x,_=>by cases x
 |.bytearray _,_,_,x,_=>by cases x
 |.set _,_,_,x,_=>by cases x
 |.frozenset _,_,_,x,_=>by cases x
 |.obj _ _,_,_,x,_=>by cases x
theorem Dw.readsAll (hok:HOk P w H h)(KX:K.In h):∀(ds:List WData) (vs:List V) (us:List Value),iE K H vs ds->aT vs us->∃as,ReadsAllW R cl h us ds as
 |[],_,_,x,r=>by
  cases x
  cases r
  exact⟨_,ReadsAllW.nil⟩
 |d :: ds,_,_,x,r=>by
  cases x with
  |cons h1 h2 =>
   cases r with
   |cons r1 r2 =>
    obtain⟨as,q1⟩:=Dw.reads hok KX d _ _ h1 r1
    obtain⟨bs,q2⟩:=Dw.readsAll hok KX ds _ _ h2 r2
    exact⟨_,ReadsAllW.cons q1 q2⟩
end
end
mutual
def plW:WData->Bool
 |.none=>true
 |.bool _=>true
 |.int _=>true
 |.str _=>true
 |.bytes _=>true
 |.list xs=>lP xs
 |.tuple xs=>lP xs
 |_=>false
def lP:List WData->Bool
 |[]=>true
 |x :: r=>plW x&&lP r
end
theorem rK {α:Type}{f:α->WData}(h:∀a,plW (f a)=true):∀l:List α,lP (l.map f)=true
 |[]=>rfl
 |x :: r=>by
  show(plW (f x)&&lP (r.map f))=true
  rw[h x,rK h r]<;>rfl
theorem iK:∀(c:Codec) (a:c.denote),plW (c.enc a)=true
 |.unit,_=>rfl
 |.bool,_=>rfl
 |.int _ _,_=>rfl
 |.nat _ _,_=>rfl
 |.u8,_=>rfl
 |.bytes _ _,_=>rfl
 |.text _ _ _ _,_=>rfl
 |.list _ _ c,a=>rK (λ x=>iK c x) a
 |.pair c d,a=>by
  show(plW (c.enc a.1)&&(plW (d.enc a.2)&&true))=true
  rw[iK c a.1,iK d a.2]<;>rfl
 |.triple c d e,a=>by
  show(plW (c.enc a.1)&&(plW (d.enc a.2.1)&&(plW (e.enc a.2.2)&&true)))=true
  rw[iK c a.1,iK d a.2.1,iK e a.2.2]<;>rfl
 |.option c,none=>rfl
 |.option c,some x=>iK c x
theorem oO:∀(cs:List Codec) (a:Codec.denoteAll cs),lP (Codec.encAll cs a)=true
 |[],_=>rfl
 |c :: cs,a=>by
  show(plW (c.enc a.1)&&lP (Codec.encAll cs a.2))=true
  rw[iK c a.1,oO cs a.2]<;>rfl
theorem jH:∀{xs:List WData} {d:WData},d∈xs->d.weight<=WData.weightAll xs
 |[],d,h=>absurd h (by simp)
 |x :: r,d,h=>by
  show d.weight<=x.weight+1+WData.weightAll r
  rcases ES.mp h with e|m
  ·rw[e]
   omega
  ·have z:=jH m
   omega
def toV:Value->V
 |.none=>.non
 |.bool b=>.bl b
 |.int i _=>.int i
 |.str x _=>.str x
 |.bytes b _=>.byt b
 |.ref a=>.ref a
 |_=>.non
def OkU (A:List EJ):Value->Prop
 |.none=>True
 |.bool _=>True
 |.int _ _=>True
 |.str _ _=>True
 |.bytes _ _=>True
 |.ref a=>a∈A
 |_=>False
theorem OkU.mono {A B:List EJ}(h:∀a∈A,a∈B):∀{u:Value},OkU A u->OkU B u:=λ{u} x=>by
 cases u with
 |ref a=>exact h a x
 |none=>trivial
 |bool b=>trivial
 |int i t=>trivial
 |str s t=>trivial
 |bytes b t=>trivial
 |_=>exact Gk x
theorem wH {A:List EJ}{u:Value}(x:OkU A u):a5 (toV u) u:=by
 cases u with
 |ref a=>rfl
 |none=>rfl
 |bool b=>rfl
 |int i t=>exact⟨t,rfl⟩
 |str s t=>exact⟨t,rfl⟩
 |bytes b t=>exact⟨t,rfl⟩
 |_=>exact Gk x
theorem g9 {A:List EJ}:∀{vs:List Value},(∀u∈vs,OkU A u)->aT (vs.map toV) vs
 |[],_=>.nil
 |u :: r,h=>.cons (wH (h u (E7 ..))) (g9 λ x hx=>h x (EQ _ hx))
def iC (h:Heap)(A:List EJ)(a:EJ):Prop:=∃vs:List Value,vs.length<=EL/\(∀u∈vs,OkU A u) /\
 (h.get? a=some { cls:=.type "list",data:=.seq vs.toArray }\/h.get? a=some { cls:=.type "tuple",data:=.seq vs.toArray })
theorem iC.mono {h:Heap}{A B:List EJ}{a:EJ}(k:∀a∈A,a∈B)(x:iC h A a):iC h B a:=by
 obtain⟨vs,h1,h2,h3⟩:=x
 exact⟨vs,h1,λ u hu=>(h2 u hu).mono k,h3⟩
theorem gg {P:Params}{h:Heap}:∀{vs:List Value} {ds:List WData},WellAll P h vs ds->vs.length=ds.length
 |_,_,.nil=>rfl
 |_,_,.cons _ b=>by
  show _+1=_+1
  rw[gg b]
theorem oW {P:Params}{h:Heap}{v:Value}{ds:List WData}(x:Well P h v (.list ds)):∃(a:EJ) (vs:List Value),v=.ref a/\h.get? a=some { cls:=.type "list",data:=.seq vs.toArray }/\WellAll P h vs ds:=by
 cases x with
 |list ho hall=>exact⟨_,_,rfl,ho,hall⟩
theorem mV {P:Params}{h:Heap}{v:Value}{ds:List WData}(x:Well P h v (.tuple ds)):∃(a:EJ) (vs:List Value),v=.ref a/\h.get? a=some { cls:=.type "tuple",data:=.seq vs.toArray }/\WellAll P h vs ds:=by
 cases x with
 |tuple ho hall=>exact⟨_,_,rfl,ho,hall⟩
theorem oR {P:Params}{h:Heap}{us:List Value}{d:WData}{ds:List WData}(x:WellAll P h us (d :: ds)):∃(v:Value) (vs:List Value),us=v :: vs/\Well P h v d/\WellAll P h vs ds:=by
 cases x with
 |cons a b=>exact⟨_,_,rfl,a,b⟩
theorem pT {n:Nat}(h:n<=1048576):n<=EL:=Fw h (by decide)
section
variable  {P:Params}{h:Heap}
mutual
theorem xw:∀(d:WData) (v:Value),Well P h v d->plW d=true->d.weight<=1048576->∃A:List EJ,OkU A v/\∀a∈A,iC h A a
 |.none,_,x,_,_=>by
  cases x
  exact⟨[],trivial,λ a m=>absurd m (by simp)⟩
 |.bool b,_,x,_,_=>by
  cases x
  exact⟨[],trivial,λ a m=>absurd m (by simp)⟩
 |.int i,_,x,_,_=>by
  cases x
  exact⟨[],trivial,λ a m=>absurd m (by simp)⟩
 |.str s,_,x,_,_=>by
  cases x
  exact⟨[],trivial,λ a m=>absurd m (by simp)⟩
 |.bytes b,_,x,_,_=>by
  cases x
  exact⟨[],trivial,λ a m=>absurd m (by simp)⟩
 |.list ds,_,x,p,z=>by
  obtain⟨a,vs,rfl,ho,hall⟩:=oW x
  have z2:WData.weightAll ds<=1048576:=z
  obtain⟨A,h1,h2⟩:=j8 ds _ hall p λ d hd=>Fw (jH hd) z2
  have k:∀b∈A,b∈a :: A:=λ b hb=>EQ _ hb
  refine⟨a :: A,E7 ..,λ b hb=>?_⟩
  rcases ES.mp hb with e|m
  ·rw[e]
   exact⟨vs,pT (by rw[gg hall];exact Fw (PySem.W.length_le_weightAllW ds) z2),λ u hu=>(h1 u hu).mono k,.inl ho⟩
  ·exact(h2 b m).mono k
 |.tuple ds,_,x,p,z=>by
  obtain⟨a,vs,rfl,ho,hall⟩:=mV x
  have z2:WData.weightAll ds<=1048576:=z
  obtain⟨A,h1,h2⟩:=j8 ds _ hall p λ d hd=>Fw (jH hd) z2
  have k:∀b∈A,b∈a :: A:=λ b hb=>EQ _ hb
  refine⟨a :: A,E7 ..,λ b hb=>?_⟩
  rcases ES.mp hb with e|m
  ·rw[e]
   exact⟨vs,pT (by rw[gg hall];exact Fw (PySem.W.length_le_weightAllW ds) z2),λ u hu=>(h1 u hu).mono k,.inr ho⟩
  ·exact(h2 b m).mono k
 |.float _,_,_,p,_=>FZ (show false=true from p)
 |.dict _,_,_,p,_=>FZ (show false=true from p)
 |.bytearray _,_,_,p,_=>FZ (show false=true from p)
 |.set _,_,_,p,_=>FZ (show false=true from p)
 |.frozenset _,_,_,p,_=>FZ (show false=true from p)
 |.obj _ _,_,_,p,_=>FZ (show false=true from p)
theorem j8:∀(ds:List WData) (vs:List Value),WellAll P h vs ds->lP ds=true->(∀d∈ds,d.weight<=1048576)->∃A:List EJ,(∀u∈vs,OkU A u)/\∀a∈A,iC h A a
 |[],_,x,_,_=>by
  cases x
  exact⟨[],λ u m=>absurd m (by simp),λ a m=>absurd m (by simp)⟩
 |d :: ds,_,x,p,z=>by
  obtain⟨v,vs,rfl,x1,x2⟩:=oR x
  have q:plW d=true/\lP ds=true:=GD.mp p
  obtain⟨A,a1,a2⟩:=xw d v x1 q.1 (z d (E7 ..))
  obtain⟨B,b1,b2⟩:=j8 ds vs x2 q.2 λ e he=>z e (EQ _ he)
  have kA:∀b∈A,b∈A++B:=λ b hb=>Fk.mpr (.inl hb)
  have kB:∀b∈B,b∈A++B:=λ b hb=>Fk.mpr (.inr hb)
  refine⟨A++B,λ u hu=>?_,λ b hb=>?_⟩
  ·rcases ES.mp hu with e|m
   ·rw[e]
    exact a1.mono kA
   ·exact(b1 u m).mono kB
  ·rcases Fk.mp hb with m|m
   ·exact(a2 b m).mono kA
   ·exact(b2 b m).mono kB
end
end
def yW (o:Obj):Option HO:=match o.data with
 |.seq vs _=>if (o.cls==Value.type "list")=true then some (.frz o (.lst (vs.toList.map toV))) else some (.frz o (.tup (vs.toList.map toV)))
 |_=>none
def ik (K:FQ)(h:Heap)(A:List EJ):Hp:=λ b=>if b∈A then (if (K.lookup b).isNone=true then (h.get? b).bind yW else none) else none
def qP (H:Hp):Prop:=∀b,H b=none\/∃o u,H b=some (.frz o u)
theorem rL (vs:List Value):yW { cls:=.type "list",data:=.seq vs.toArray }=some (.frz { cls:=.type "list",data:=.seq vs.toArray } (.lst (vs.map toV))):=by
 show(if (Value.type "list"==Value.type "list")=true then some (HO.frz { cls:=.type "list",data:=.seq vs.toArray } (.lst (vs.toArray.toList.map toV))) else some (HO.frz { cls:=.type "list",data:=.seq vs.toArray } (.tup (vs.toArray.toList.map toV))))=_
 rw[EU (beq_self_eq_true _)]
theorem rF (vs:List Value):yW { cls:=.type "tuple",data:=.seq vs.toArray }=some (.frz { cls:=.type "tuple",data:=.seq vs.toArray } (.tup (vs.map toV))):=by
 show(if (Value.type "tuple"==Value.type "list")=true then some (HO.frz { cls:=.type "tuple",data:=.seq vs.toArray } (.lst (vs.toArray.toList.map toV))) else some (HO.frz { cls:=.type "tuple",data:=.seq vs.toArray } (.tup (vs.toArray.toList.map toV))))=_
 rw[EM (by decide)]
section
variable  {P:E8}{w:FL}{K:FQ}{h:Heap}{A:List EJ}
theorem lS {b:EJ}{o:Obj}(hb:b∈A)(hk:K.lookup b=none)(e:h.get? b=some o):ik K h A b=yW o:=by
 unfold ik
 rw[EU hb,hk,EU (show(none:Option Obj).isNone=true from rfl),e]<;>rfl
theorem yt {b:EJ}{u:HO}(q:ik K h A b=some u):b∈A/\K.lookup b=none:=by
 unfold ik at q
 by_cases hb:b∈A
 ·rw[EU hb]at q
  cases hk:K.lookup b with
  |none=>exact⟨hb,rfl⟩
  |some o =>
   rw[hk,EM (by simp)]at q
   cases q
 ·rw[EM hb]at q
  cases q
theorem lT (ar:∀a∈A,iC h A a){b:EJ}{u:HO}(q:ik K h A b=some u):K.lookup b=none/\∃vs:List Value,vs.length<=EL/\(∀u∈vs,OkU A u) /\
  ((h.get? b=some { cls:=.type "list",data:=.seq vs.toArray }/\u=.frz { cls:=.type "list",data:=.seq vs.toArray } (.lst (vs.map toV))) \/
   (h.get? b=some { cls:=.type "tuple",data:=.seq vs.toArray }/\u=.frz { cls:=.type "tuple",data:=.seq vs.toArray } (.tup (vs.map toV)))):=by
 obtain⟨hb,hk⟩:=yt q
 obtain⟨vs,h1,h2,h3⟩:=ar b hb
 refine⟨hk,vs,h1,h2,?_⟩
 rcases h3 with e|e
 ·rw[lS hb hk e,rL]at q
  exact .inl ⟨e,(osi q).symm⟩
 ·rw[lS hb hk e,rF]at q
  exact .inr ⟨e,(osi q).symm⟩
theorem vc (ar:∀a∈A,iC h A a):qP (ik K h A):=λ b=>by
 cases q:ik K h A b with
 |none=>exact .inl rfl
 |some u =>
  obtain⟨_,vs,_,_,⟨_,e⟩|⟨_,e⟩⟩:=lT ar q
  ·exact .inr ⟨_,_,by rw[e]⟩
  ·exact .inr ⟨_,_,by rw[e]⟩
theorem yD (ar:∀a∈A,iC h A a):HOk P w (ik K h A) h:=λ b u q=>by
 obtain⟨_,vs,h1,h2,⟨e,rfl⟩|⟨e,rfl⟩⟩:=lT ar q
 ·exact⟨e,by rw[lmp];exact h1,vs,_,g9 h2,e⟩
 ·exact⟨e,by rw[lmp];exact h1,vs,g9 h2,_,e,rfl,_,rfl⟩
theorem lU {c c':Value}{vs us:List Value}(e:(some { cls:=c,data:=.seq vs.toArray }:Option Obj)=some { cls:=c',data:=.seq us.toArray }):c=c'/\vs=us:=by
 have e1:=osi e
 have e2:c=c':=Gy Obj.cls e1
 have e3:Data.seq vs.toArray=Data.seq us.toArray:=Gy Obj.data e1
 injection e3 with e4
 refine⟨e2,?_⟩
 have e5:=Gy Array.toList e4
 simpa using e5
theorem Ev (KX:K.In h)(ar:∀a∈A,iC h A a){a:EJ}{vs:List Value}(ha:a∈A) (e:h.get? a=some { cls:=.type "list",data:=.seq vs.toArray }):(∀u∈vs,OkU A u)/\SqL K (ik K h A) a (vs.map toV):=by
 obtain⟨us,h1,h2,h3⟩:=ar a ha
 have hu:us=vs:=by
  rcases h3 with q|q
  ·rw[e]at q
   exact(lU q).2.symm
  ·rw[e]at q
   exact absurd (Value.type.inj (lU q).1) (by decide)
 subst hu
 refine⟨h2,?_⟩
 cases hk:K.lookup a with
 |none=>exact .inl (.inr ⟨_,by rw[lS ha hk e,rL]⟩)
 |some o =>
  have e2:=KX a o hk
  rw[e]at e2
  obtain rfl:=osi e2
  exact .inr ⟨_,us.toArray,_,hk,rfl,rfl,rfl,by rw[EW];exact h1,by simpa using g9 h2⟩
theorem Eo (KX:K.In h)(ar:∀a∈A,iC h A a){a:EJ}{vs:List Value}(ha:a∈A) (e:h.get? a=some { cls:=.type "tuple",data:=.seq vs.toArray }):(∀u∈vs,OkU A u)/\SqT K (ik K h A) a (vs.map toV):=by
 obtain⟨us,h1,h2,h3⟩:=ar a ha
 have hu:us=vs:=by
  rcases h3 with q|q
  ·rw[e]at q
   exact absurd (Value.type.inj (lU q).1) (by decide)
  ·rw[e]at q
   exact(lU q).2.symm
 subst hu
 refine⟨h2,?_⟩
 cases hk:K.lookup a with
 |none=>exact .inl (.inr ⟨_,by rw[lS ha hk e,rF]⟩)
 |some o =>
  have e2:=KX a o hk
  rw[e]at e2
  obtain rfl:=osi e2
  exact .inr ⟨_,us.toArray,_,hk,rfl,rfl,by rw[EW];exact h1,by simpa using g9 h2⟩
mutual
theorem Bb {Pm:Params}(KX:K.In h)(ar:∀a∈A,iC h A a):∀(d:WData) (v:Value),Well Pm h v d->plW d=true->OkU A v->Dw K (ik K h A) (toV v) d
 |.none,_,x,_,_=>by
  cases x
  exact .non
 |.bool b,_,x,_,_=>by
  cases x
  exact .bl b
 |.int i,_,x,_,_=>by
  cases x
  exact .int i
 |.str s,_,x,_,_=>by
  cases x
  exact .str s
 |.bytes b,_,x,_,_=>by
  cases x
  have z:=Dw.byt (K:=K) (H:=ik K h A) b.toArray
  exact z
 |.list ds,_,x,p,hu=>by
  obtain⟨a,vs,rfl,ho,hall⟩:=oW x
  obtain⟨h2,hs⟩:=Ev KX ar hu ho
  exact .lst hs (qu KX ar ds _ hall p h2)
 |.tuple ds,_,x,p,hu=>by
  obtain⟨a,vs,rfl,ho,hall⟩:=mV x
  obtain⟨h2,hs⟩:=Eo KX ar hu ho
  exact .tup hs (qu KX ar ds _ hall p h2)
 |.float _,_,_,p,_=>FZ (show false=true from p)
 |.dict _,_,_,p,_=>FZ (show false=true from p)
 |.bytearray _,_,_,p,_=>FZ (show false=true from p)
 |.set _,_,_,p,_=>FZ (show false=true from p)
 |.frozenset _,_,_,p,_=>FZ (show false=true from p)
 |.obj _ _,_,_,p,_=>FZ (show false=true from p)
theorem qu {Pm:Params}(KX:K.In h)(ar:∀a∈A,iC h A a):∀(ds:List WData) (vs:List Value),WellAll Pm h vs ds->lP ds=true->(∀u∈vs,OkU A u)->iE K (ik K h A) (vs.map toV) ds
 |[],_,x,_,_=>by
  cases x
  exact .nil
 |d :: ds,_,x,p,hu=>by
  obtain⟨v,vs,rfl,x1,x2⟩:=oR x
  have q:plW d=true/\lP ds=true:=GD.mp p
  exact .cons (Bb KX ar d v x1 q.1 (hu _ (E7 ..))) (qu KX ar ds vs x2 q.2 λ u m=>hu u (EQ _ m))
end
end
theorem vp {P:E8}{w:FL}{K:FQ}{mg mb:Str->Option Value}{CX:CXT}{k:Nat}{fa:EJ}{fd:Im}{ps:List Str}{sp:Sp}{s₁:EK}{vals:List Value}{ds:List WData}{R:PySem.W.WRecords}{cl:Str->Option EJ}{d0:WData}
  (KX:K.In s₁.heap) (hns:s₁.heap.Ns FI mg) (hb:s₁.heap.Ns builtinsNs mb) (hbb:∀x:Str,x≠"__name__"->mb x=GW x) (hlim:s₁.heap.NoLimit) (hg:s₁.gens=#[])
  (hwl:WellAll w.params s₁.heap vals ds) (hpl:lP ds=true) (hwt:∀d∈ds,d.weight<=1048576) (hr:bu k callerA)
  (F:∀base:Heap,K.In base->base.Ns FI mg->jw P w K mg base CX k fa fd ps sp) (hbind:∀(s:EK) (us:List Value),us.length=ps.length->BindsTo s fd ⟨us,[]⟩ (ps.zip us)) (hlen:ds.length=ps.length)
  (hsp:∀(H:Hp) (xs:List V),qP H->iE K H xs ds->sp xs H (λ v H'=>Dw K H' v d0) λ _ _ _=>False)
  (hCX:∀H e s',CX [] H s₁ (λ _ _ _=>False) e s'->False) :
  codeAny (FC P w) callerA (.call (.ref fa) ⟨vals,[]⟩) (λ r s'=>∃u as,r=.ok (.ret u)/\ReadsW R cl s'.heap u d0 as/\OldK s₁.heap s'.heap/\s'.os=s₁.os/\AllBare s'.gens) s₁:=by
 obtain⟨A,ho,ar⟩:=j8 ds vals hwl hpl hwt
 have hO:qP (ik K s₁.heap A):=vc ar
 have hok:HOk P w (ik K s₁.heap A) s₁.heap:=yD ar
 have hS:=qu KX ar ds vals hwl hpl ho
 have hV:=g9 ho
 have hK:∀b u,ik K s₁.heap A b=some u->K.lookup b=none:=λ b u q=>(lT ar q).1
 have noA:∀{b:EJ} {o:Obj} {es:Array DictEntry} {ep:Nat},s₁.heap.get? b=some o->o.data=.dict es ep->ik K s₁.heap A b=none:=λ{b o es ep} e d=>by
  cases q:ik K s₁.heap A b with
  |none=>rfl
  |some u =>
   obtain⟨_,vs,_,_,⟨e2,_⟩|⟨e2,_⟩⟩:=lT ar q
   ·rw[e2]at e
    cases e
    have d':Data.seq vs.toArray _=Data.dict es ep:=d
    cases d'
   ·rw[e2]at e
    cases e
    have d':Data.seq vs.toArray _=Data.dict es ep:=d
    cases d'
 generalize ik K s₁.heap A=H at hO hok hS hK noA
 have base_of:∀{b:EJ} {o:Obj},s₁.heap.get? b=some o->H b=none->(jZ s₁.heap H).get? b=some o:=λ e n=>qW e n
 have nsK:∀{b:EJ} {m:Str->Option Value},s₁.heap.Ns b m->(jZ s₁.heap H).Ns b m:=λ{b m} ⟨o,es,ep,e,d,r⟩=>⟨o,es,ep,base_of e (noA e d),d,r⟩
 have nK:∀b o,K.lookup b=some o->H b=none:=λ b o e=>by
  cases q:H b with
  |none=>rfl
  |some u =>
   rw[hK b u q]at e
   cases e
 have hKb:K.In (jZ s₁.heap H):=λ b o e=>base_of (KX b o e) (nK b o e)
 have hM:Mod K mg (jZ s₁.heap H):=⟨hKb,nsK hns,⟨mb,nsK hb,hbb⟩,let ⟨mc,h1,h2⟩:=hlim;⟨mc,nsK h1,h2⟩⟩
 have e0:rE P w K mg (jZ s₁.heap H) callerA [] s₁ H:=⟨rfl,hM,λ b o e=>uC e,Nat.le_of_eq (oS _ _),trivial,λ b hb=>absurd (show b∈([]:List EJ) from hb) (by simp),hok,.of_eq hg⟩
 have hl:vals.length=ps.length:=by rw[gg hwl];exact hlen
 refine codeAny_mono ((F _ hKb (nsK hns)).run callerA [] s₁ H ⟨vals,[]⟩ vals (vals.map toV) _ _ hr e0 (hbind s₁ vals hl) hV (hsp H _ hO hS)) λ r s' x=>?_
 cases r with
 |error e=>exact(hCX H e s' x).elim
 |ok fl =>
  cases fl with
  |next=>exact Gk x
  |brk=>exact Gk x
  |cont=>exact Gk x
  |ret u =>
   obtain⟨v,H',os,bare,un,hok',r',q⟩:=x
   have kept:∀b o,s₁.heap.get? b=some o->s'.heap.get? b=some o:=λ b o e=>by
    cases q2:H b with
    |none=>exact un.keep b o e q2 (by intro z;exact absurd (show b∈([]:List EJ) from z) (by simp)) (by simp)
    |some u2 =>
     rcases hO b with z|⟨ob,u3,z⟩
     ·rw[q2]at z
      cases z
     ·have z2:=un.frzs b ob _ z
      obtain⟨e1,_⟩:=hok b _ z
      obtain⟨e2,_⟩:=hok' b _ z2
      rw[e]at e1
      cases e1
      exact e2
   have KX':K.In s'.heap:=λ b o e=>kept b o (KX b o e)
   obtain⟨as,hrd⟩:=Dw.reads (R:=R) (cl:=cl) hok' KX' d0 v u q r'
   exact⟨u,as,rfl,hrd,OldK.of_keep kept,os,bare⟩
theorem nk {ds:List WData}(h:WData.layableAll ds=true):∀d∈ds,d.weight<=1048576:=λ d hd =>
 (PySem.W.layableW_iff.mp (FS.mp h d hd)).2.2
theorem my:∀(cs:List Codec) (a:Codec.denoteAll cs),(Codec.encAll cs a).length=cs.length
 |[],_=>rfl
 |c :: cs,a=>by
  show(Codec.encAll cs a.2).length+1=cs.length+1
  rw[my cs a.2]
theorem walk_spec {r:OpenSpec}{k:Nat}{q:E8}{loose:List Str}{XP:(Str->Option Value)->Heap->Prop}{YP:FL->Heap->Prop}{d:DefRec}{K:Params->FQ}{CX:FL->CXT}{ps:List Str}{sp:FL->Sp}
  (hwell:r.wellSaid=true) (hdf:d.params.defaults=[]) (hlen:r.args.length=ps.length) (hr:bu k callerA)
  (hY:∀(w:FL) (h:Heap),YP w h->(K w.params).In h)
  (F:∀(w:FL) (mg:Str->Option Value) (fa:EJ) (h:Heap),YP w h->(K w.params).In h->h.Ns FI mg->mg d.name=some (.ref fa) ->
   ∃fd:Im,(∀(s:EK) (us:List Value),us.length=ps.length->BindsTo s fd ⟨us,[]⟩ (ps.zip us)) /\
    ∀base:Heap,(K w.params).In base->base.Ns FI mg->jw r.prog w (K w.params) mg base (CX w) k fa fd ps (sp w))
  (hsp:∀(w:FL) (H:Hp) (xs:List V) (a:Codec.denoteAll r.args),qP H->Codec.withinAll r.args a=true->Codec.app r.args r.asked a=true->iE (K w.params) H xs (Codec.encAll r.args a) ->
   sp w xs H (λ v H'=>Dw (K w.params) H' v (r.ret.enc (Codec.app r.args r.f a))) λ _ _ _=>False)
  (hCX:∀(w:FL) (H:Hp) (s:EK) (e:Value) (s':EK),CX w [] H s (λ _ _ _=>False) e s'->False) :
  PySem.W.WalkOS q loose XP YP r d [] (λ f vs=>PySem.call f vs):=by
 intro w s_0 s₁ mg mb G Y fa o pm cd doc dV kV ho hd hcd hD hmg hg args vals as hpre hlay hrd hwl hlo
 obtain⟨a,e1,e2⟩:=PySem.W.os_pre_some hpre
 obtain⟨e3,hwi⟩:=Codec.encAll_of_decAll r.args args a e1
 subst e3
 have KX:=hY w _ Y
 obtain⟨fd,hb,hF⟩:=F w mg fa _ Y KX G.T.g hmg
 refine PySem.W.enter_call (codeAny_mono (vp (R:=[]) (cl:=classAt s_0.heap) (d0:=r.ret.enc (Codec.app r.args r.f a)) KX G.T.g G.T.b G.T.builtins G.T.nolimit hg hwl (oO _ _) (nk hlay) hr hF hb (by rw[my];exact hlen)
  (λ H xs hO hS=>hsp w H xs a hO hwi e2 hS) λ H e s'=>hCX w H s₁ e s') λ r' s' hq=>?_)
 obtain⟨u,as',rfl,h1,h2,h3,h4⟩:=hq
 exact⟨.inl ⟨u,_,as',rfl,λ _=>rfl,h1,(OpenSpec.post_iff hwell hwi _ _).mpr rfl,λ z=>FZ (show false=true from z)⟩,h2,h3,h4⟩
theorem tf {r:OpenSpec}{k:Nat}{q:E8}{loose:List Str}{XP:(Str->Option Value)->Heap->Prop}{YP:FL->Heap->Prop}{d:DefRec}{K:Params->FQ}{CX:CXT}{ps:List Str}{sp:FQ->Sp}
  (hwell:r.wellSaid=true) (hdf:d.params.defaults=[]) (hlen:r.args.length=ps.length) (hr:bu k callerA)
  (hY:∀(w:FL) (h:Heap),YP w h->(K w.params).In h)
  (F:∀(w:FL) (mg:Str->Option Value) (fa:EJ) (h:Heap),YP w h->(K w.params).In h->h.Ns FI mg->mg d.name=some (.ref fa) ->
   ∃fd:Im,(∀(s:EK) (us:List Value),us.length=ps.length->BindsTo s fd ⟨us,[]⟩ (ps.zip us)) /\
    ∀base:Heap,(K w.params).In base->base.Ns FI mg->jw r.prog w (K w.params) mg base CX k fa fd ps (sp (K w.params)))
  (hsp:∀(K:FQ) (H:Hp) (xs:List V) (a:Codec.denoteAll r.args),qP H->Codec.withinAll r.args a=true->Codec.app r.args r.asked a=true->iE K H xs (Codec.encAll r.args a) ->
   sp K xs H (λ v H'=>Dw K H' v (r.ret.enc (Codec.app r.args r.f a))) λ _ _ _=>False)
  (hCX:∀(H:Hp) (s:EK) (e:Value) (s':EK),CX [] H s (λ _ _ _=>False) e s'->False) :
  PySem.W.WalkOS q loose XP YP r d [] (λ f vs=>PySem.call f vs) :=
 walk_spec (K:=K) (CX:=λ _=>CX) (sp:=λ w=>sp (K w.params)) hwell hdf hlen hr hY F (λ w H xs a h1 h2 h3 h4=>hsp (K w.params) H xs a h1 h2 h3 h4) λ _ H s e s'=>hCX H s e s'
end L2
namespace L2
open PySem PySem.Spec PyProof.Rows
def ju (s:G8)(j:Nat):G8:=match s with
 |.ClassDef _ _ _ body _ _ _ _ _ _ _=>body.getD j (.Pass ⟨0,0,0,0⟩)
 |_=>.Pass ⟨0,0,0,0⟩
def cI (s:G8):Arguments:=match s with
 |.FunctionDef _ a _ _ _ _ _ _ _ _=>a
 |_=>{ posonlyargs:=[],args:=[],vararg:=none,kwonlyargs:=[],kw_defaults:=[],kwarg:=none,defaults:=[] }
def bP (s:G8):List G8:=match s with
 |.FunctionDef _ _ b _ _ _ _ _ _ _=>b
 |_=>[]
def ah (s:G8):Scope:=match s with
 |.FunctionDef _ _ _ _ _ _ sc _ _ _=>sc
 |_=>{ kind:=.function,names:=[],isGenerator:=false,isCoroutine:=false }
abbrev CX0:CXT:=λ _ _ _ _ _ _=>False
abbrev E0:XK:=λ _ _ _=>False
theorem tK {X:Cx}:jJ CX0 X E0:=λ _ _ _ _ _ _ _ h=>h.elim
structure Fun (K:FQ)(x qual:Str)(st:G8)(f:EJ)(fd:Im):Prop where
 ex:∃(oc:Value) (od:Option EJ) (kV doc pm:Value) (an:Option EJ) (cdv ct:Value) (osl:Array (Option Value)),
  fd=F7 x qual (cI st) (bP st) (ah st) .none kV doc pm an cdv ct/\K.lookup f=some ⟨oc,od,.func fd,osl⟩/\Gn K cdv qual=true
 kp:FK K (.ref f)=true
section
variable  {P:E8}{w:FL}{K:FQ}{mg:Str->Option Value}{base:Heap}
theorem Fun.ok {x qual:Str}{st:G8}{f:EJ}{fd:Im}{N ps:List Str}{k:Nat}{sp:Sp}(F:Fun K x qual st f fd)(S:aq N ps (ah st))(len:∀vs H Q E,sp vs H Q E->vs.length=ps.length)
  (hbody:∀(cdv:Value) (A:Around) (outer:List Env) (s:EK) (H:Hp) (vs:List V) (Q:VK) (E:XK),bu k (A.deeper (envOfC qual (ah st) s.heap.objs.size f cdv))->sp vs H Q E ->
   ∃t,PSs (pI CX0 P w K mg base N qual (ah st) f cdv A outer s H E).nox (bP st) t/\t { nx:=λ _ H'=>Q .non H',rt:=Q } (start N vs) H):jw P w K mg base CX0 (k+1) f fd ps sp:=by
 obtain⟨oc,od,kV,doc,pm,an,cdv,ct,osl,rfl,lk,hcd⟩:=F.ex
 refine BI lk hcd S len λ A outer s H vs Q E hr hsp=>?_
 obtain⟨t,h,q⟩:=hbody cdv A outer s H vs Q E hr hsp
 exact⟨t,h.nox,q⟩
theorem sr {x qual:Str}{st:G8}{f:EJ}{oc:Value}{od an:Option EJ}{osl:Array (Option Value)}{kV doc pm cdv ct:Value}(l:K.lookup f=some ⟨oc,od,.func (F7 x qual (cI st) (bP st) (ah st) .none kV doc pm an cdv ct),osl⟩)
  (c:Gn K cdv qual=true) (k:FK K (.ref f)=true):Fun K x qual st f (F7 x qual (cI st) (bP st) (ah st) .none kV doc pm an cdv ct):=⟨⟨oc,od,kV,doc,pm,an,cdv,ct,osl,rfl,l,c⟩,k⟩
end
section
variable  {X:Cx}
theorem pv (i:Nat){x:Str}{pos:Pos}(hN:X.N[i]? = some x:=by rfl)(hv:Vis X.env.scope x:=by first|exact Go rfl|exact FV (.inl rfl)|exact FV (.inr rfl)) (hd:(x==("__debug__" : Str))=false:=by decide)
  (hcd:(x==("__classdict__" : Str))=false:=by decide):PE X (.Name x pos) (a8 i):=Br hN hv hd hcd
theorem vf:l9 X (.builtin "len") (λ xs H Q=>∃a kvs,xs=[V.ref a]/\H a=some (.dK kvs)/\Q (.int kvs.length) H):=by
 intro pins s σ H xs us Q I r h
 obtain⟨a,kvs,rfl,ha,q⟩:=h
 obtain⟨u,rfl,ru⟩:=wY r
 cases ru
 exact Ds I (.inl ha) λ t s' I'=>⟨.int kvs.length,H,I',⟨t,rfl⟩,q⟩
end
theorem jU {A B:Prop}(h:B):if false=true then A else B:=by
 rw[EM EZ]
 exact h
theorem eI {A B:Prop}(h:A):if true=true then A else B:=by
 rw[EU rfl]
 exact h
theorem aS {c A B:Prop}[Decidable c](h1:c->A)(h2:¬c->B):if c then A else B:=by
 by_cases h:c
 ·rw[EU h]
  exact h1 h
 ·rw[EM h]
  exact h2 h
def al (H H':Hp):Prop:=∀b o,H b=some o->H' b=some o
theorem al.refl (H:Hp):al H H:=λ _ _ h=>h
theorem al.trans {H H1 H2:Hp}(a:al H H1)(b:al H1 H2):al H H2:=λ c o h=>b c o (a c o h)
theorem al.free {H H':Hp}(e:al H H'){l:EJ}(h:H' l=Option.none):H l=Option.none:=by
 cases q:H l with
 |none=>rfl
 |some o =>
  rw[e l o q]at h
  cases h
theorem al.seq {K:FQ}{H H':Hp}{a:EJ}{xs:List V}(e:al H H')(h:SqL K H a xs):SqL K H' a xs:=by
 rcases h with(h|⟨o,h⟩)|h
 ·exact .inl (.inl (e _ _ h))
 ·exact .inl (.inr ⟨o,e _ _ h⟩)
 ·exact .inr h
section
variable  {κ:Type}[DecidableEq κ]
end
theorem aA {xs:List V}{z:Int}{j:Nat}{v:V}(e:z=(j:Int))(h:xs[j]? = some v):atI xs z=some v:=by
 rw[e]
 exact pH h
theorem al.made {H H1:Hp}{x dx C:EJ}(nx:H x=Option.none)(nd:H dx=Option.none)(k:∀b o,(upd (upd H dx (.own x)) x (.ins C dx [])) b=some o->b≠x->H1 b=some o):al H H1:=λ b o e =>
 k b o (by rw[ap (aQ e nx),ap (aQ e nd)];exact e) (aQ e nx)
end L2
section
namespace LM
open Gla
def oV (ns:List Int):Bool:=ns.all λ x=>decide (0<=x)&&decide (x<=65535)
def isL (ns:List Int):Bool:=decide (ns.length=32)&&oV ns
def cv (ns:List Int):Bool:=decide (ns.length % 32=0)&&oV ns
def cnt (ns:List Int):Nat:=ns.length / 32
def lat (ns:List Int)(k:Nat):List Int:=(ns.drop (32*k)).take 32
def apI (xs ys:List Int):Int:=((xs.zip ys).map λ p=>(p.1-p.2)*(p.1-p.2)).sum
def thI (xs ys:List Int):List Int:=(xs.zip ys).map λ p=>(p.1*p.2+32767) / 65535
def Dl {α:Type}(f:α->Int):List α->Option α
 |[]=>none
 |x :: r=>match Dl f r with
  |none=>some x
  |some y=>if f y<f x then some y else some x
theorem ir:∀{l:List Int},(∀x∈l,0<=x)->(l.map Gp).map (λ n:Nat=>(n:Int))=l
 |[],_=>rfl
 |x :: r,h=>by
  have h1:=h x E7
  show((x.toNat:Nat):Int) :: (r.map Gp).map (λ n:Nat=>(n:Int))=x :: r
  rw[ir λ y hy=>h y (EQ _ hy)]
  congr 1
  omega
theorem nu:∀{l:List Int},(∀x∈l,0<=x)->l.mapM HE=some (l.map Gp)
 |[],_=>rfl
 |x :: r,h=>by
  have h1:=h x E7
  rw[List.mapM_cons,nu λ y hy=>h y (EQ _ hy)]
  have e:HE x=some x.toNat:=by
   unfold HE
   rw[EM (by omega)]
  rw[e]
  rfl
def jd:Nat->List Nat->List (List Nat)
 |0,_=>[]
 |k+1,l=>if l.isEmpty=true then [] else l.take 32 :: jd k (l.drop 32)
theorem kE:∀(k:Nat) {l:List Int},(∀x∈l,0<=x)->LightNeutral.lights k l=some (jd k (l.map Gp))
 |0,_,_=>rfl
 |k+1,l,h=>by
  unfold LightNeutral.lights jd
  cases l with
  |nil=>rfl
  |cons a r =>
   rw[EM (by simp),EM (by simp)]
   rw[nu λ x hx=>h x (F8 hx),kE k λ x hx=>h x (GU hx)]
   rw[Hk,Ii]
   rfl
theorem mR:∀(n k:Nat) (l:List Nat),l.length=32*n->n<k->jd k l=(Fe n).map λ i=>(l.drop (32*i)).take 32
 |_,0,_,_,h=>absurd h (by omega)
 |0,k+1,l,e,_=>by
  have:l=[]:=Gz.mp (by omega)
  subst this
  rfl
 |n+1,k+1,l,e,h=>by
  unfold jd
  have ne:l.isEmpty=false:=by
   cases l with
   |nil=>simp at e
   |cons a r=>rfl
  rw[ne,EM (by decide),mR n k (l.drop 32) (by rw[Fu];omega) (by omega),List.range_succ_eq_map,Fl,List.map_map]
  congr 1
  apply Gq
  intro i _
  simp only[Function.comp]
  rw[List.drop_drop,show 32+32*i=32*(i+1) by omega]
theorem mr:∀(k:Nat) (l:List Nat),l.length<k->¬l.length % 32=0->(jd k l).all lightOk=false
 |0,_,h,_=>absurd h (by omega)
 |k+1,l,h,hm=>by
  unfold jd
  have ne:l.isEmpty=false:=by
   cases l with
   |nil=>exact absurd rfl hm
   |cons a r=>rfl
  rw[ne,EM (by decide),List.all_cons]
  by_cases c:l.length<32
  ·have:lightOk (l.take 32)=false:=by
    unfold lightOk
    have:((l.take 32).length==BANDS)=false:=by
     rw[FM]
     simp only[BANDS,Gb,ne_eq]
     intro e
     have:l.length≠0:=by intro z;rw[z]at hm;exact hm rfl
     omega
    rw[this]
    rfl
   rw[this]
   rfl
  ·rw[mr k (l.drop 32) (by rw[Fu];omega) (by rw[Fu];omega),Bool.and_false]
theorem gP {ns:List Int}:oV ns=true↔∀x∈ns,0<=x/\x<=65535:=by
 unfold oV
 rw[FS]
 constructor
 ·intro h x hx
  have:=h x hx
  simp only[EO,ET]at this
  exact this
 ·intro h x hx
  simp only[EO,ET]
  exact h x hx
theorem i5 {l:List Nat}:lightOk l=true↔l.length=32/\∀x∈l,x<=65535:=by
 unfold lightOk
 simp only[EO,HI,FS,BANDS,FULL]
 exact and_congr Iff.rfl ⟨λ h x hx=>EH (h x hx),λ h x hx=>dqt (h x hx)⟩
theorem tN {a b:Bool}(h:a=true↔b=true):a=b:=by
 cases a<;>cases b<;>simp_all
theorem nT {ws:List Int}(h:∀x∈ws,0<=x):lightOk (ws.map Gp)=isL ws:=by
 apply tN
 rw[i5]
 unfold isL
 rw[EO,gP,ET,lmp]
 constructor
 ·rintro⟨h1,h2⟩
  refine⟨h1,λ x hx=>⟨h x hx,?_⟩⟩
  have:=h2 x.toNat (List.mem_map_of_mem hx)
  have:=h x hx
  omega
 ·rintro⟨h1,h2⟩
  refine⟨h1,λ y hy=>?_⟩
  obtain⟨x,hx,rfl⟩:=Fx.mp hy
  have:=h2 x hx
  omega
def aX (gs:List Int):List (List Nat):=jd (gs.length+1) (gs.map Gp)
theorem ef {gs:List Int}(hm:gs.length % 32=0):aX gs=(Fe (cnt gs)).map λ i=>(lat gs i).map Gp:=by
 unfold aX
 rw[mR (cnt gs) _ _ (by rw[lmp];unfold cnt;omega) (by unfold cnt;omega)]
 apply Gq
 intro i _
 unfold lat
 rw[Hk,Ii]
theorem uk {gs:List Int}(h:∀x∈gs,0<=x):(aX gs).all lightOk=cv gs:=by
 by_cases hm:gs.length % 32=0
 ·rw[ef hm]
  apply tN
  unfold cv
  rw[EO,gP,ET,FS]
  constructor
  ·intro q
   refine⟨hm,λ x hx=>⟨h x hx,?_⟩⟩
   obtain⟨j,hj,e⟩:=List.mem_iff_getElem.mp hx
   have q1:=q ((lat gs (j / 32)).map Gp) (List.mem_map_of_mem (F3.mpr (by unfold cnt;omega)))
   have q2:=(i5.mp q1).2 x.toNat (List.mem_map_of_mem ?_)
   ·have:=h x hx
    omega
   ·unfold lat
    rw[Hl]
    refine⟨j % 32,?_⟩
    rw[List.getElem?_take,EU (by omega),List.getElem?_drop,show 32*(j / 32)+j % 32=j by omega,gge hj,e]
  ·rintro⟨_,q⟩ l hl
   obtain⟨i,hi,rfl⟩:=Fx.mp hl
   have hi:=F3.mp hi
   rw[i5,lmp]
   refine⟨?_,λ y hy=>?_⟩
   ·unfold lat
    rw[FM,Fu]
    unfold cnt at hi
    omega
   ·obtain⟨x,hx,rfl⟩:=Fx.mp hy
    have:=q x (GU (F8 hx))
    omega
 ·unfold aX
  rw[mr _ _ (by rw[lmp];omega) (by rw[lmp];exact hm)]
  unfold cv
  rw[dqf hm]
  rfl
theorem yO (a b:Nat):((bandThrough a b:Nat):Int)=((a:Int)*b+32767) / 65535:=by
 unfold bandThrough FULL
 have e:((a:Int)*b)=((a*b:Nat):Int):=(Int.natCast_mul a b).symm
 rw[e,Nat.mul_assoc]
 generalize a*b=m
 omega
theorem nN:∀(a b:List Nat),(throughBoth a b).map (λ n:Nat=>(n:Int))=thI (a.map λ n:Nat=>(n:Int)) (b.map λ n:Nat=>(n:Int))
 |[],_=>by unfold throughBoth thI;simp
 |_ :: _,[]=>by unfold throughBoth thI;simp
 |x :: r,y :: t=>by
  have ih:=nN r t
  unfold throughBoth thI at ih ⊢
  simp only[List.zipWith_cons_cons,Fl,GN]
  rw[<-ih,yO]
theorem nZ {xs ys:List Int}(hx:∀x∈xs,0<=x)(hy:∀y∈ys,0<=y):(throughBoth (xs.map Gp) (ys.map Gp)).map (λ n:Nat=>(n:Int))=thI xs ys:=by
 rw[nN,ir hx,ir hy]
theorem ow {xs ys:List Int}(hx:∀x∈xs,0<=x)(hy:∀y∈ys,0<=y):(thI xs ys).map Gp=throughBoth (xs.map Gp) (ys.map Gp):=by
 rw[<-nZ hx hy,List.map_map]
 conv=>rhs;rw[<-List.map_id (throughBoth (xs.map Gp) (ys.map Gp))]
 apply Gq
 intro n _
 simp
def tM (gs ws:List Int)(i:Nat):Int:=apI (lat gs i) ws
theorem rN {gs:List Int}(hm:gs.length % 32=0){i:Nat}(hi:i<cnt gs):(aX gs).getD i []=(lat gs i).map Gp:=by
 rw[ef hm,Fa,E2,G1 hi]
 rfl
theorem kh {gs:List Int}(h:cv gs=true):gs.length % 32=0:=by
 unfold cv at h
 rw[EO,ET]at h
 exact h.1
end LM
end
section
namespace WL
def tr6 (ax ay bx by' cx cy:Int):Int:=(bx-ax)*(cy-by')-(by'-ay)*(cx-bx)
theorem idA (ux uy wx wy px py qx qy:Int) :
 -(qy-py)*tr6 ux uy wx wy px py=(wy-uy)*tr6 px py qx qy ux uy+(tr6 px py qx qy wx wy-tr6 px py qx qy ux uy)*(py-uy):=by
 unfold tr6;grind
theorem idB (ux uy wx wy px py qx qy:Int) :
 -(qy-py)*tr6 ux uy wx wy qx qy=(wy-uy)*tr6 px py qx qy ux uy+(tr6 px py qx qy wx wy-tr6 px py qx qy ux uy)*(qy-uy):=by
 unfold tr6;grind
theorem rH (a b A B C D K py qy uy wy:Int)(ha:a=wy-uy)(hb:b=qy-py)(hK:K=D-C)
 (h1:-b*A=a*C+K*(py-uy)) (h2:-b*B=a*C+K*(qy-uy)) (ha0:0<a) (hb0:0<b)
 (hp:py<=uy) (hq:uy<qy) (hw:qy<=wy) (hC:0<C) (hB:0<B):A<0/\D<0:=by
 have e1:0<a*C:=EY ha0 hC
 have e2:0<b*B:=EY hb0 hB
 have e3:K*(qy-uy)<0:=by grind
 have e4:K<0:=by
  apply bcn;intro h
  have:0<=K*(qy-uy):=ER (by omega) (by omega)
  omega
 have e5:0<=K*(py-uy):=by
  have:0<=(-K)*(uy-py):=ER (by omega) (by omega)
  grind
 have e6:0 < -b*A:=by omega
 constructor
 ·apply bcn;intro h
  have:0<=b*A:=ER (by omega) (by omega)
  grind
 ·have e7:a*D=a*C+K*(qy-uy)+K*(wy-qy):=by grind
  have e8:K*(wy-qy)<=0:=by
   have:0<=(-K)*(wy-qy):=ER (by omega) (by omega)
   grind
  have e9:a*D<0:=by grind
  apply bcn;intro h
  have:0<=a*D:=ER (by omega) (by omega)
  omega
structure Dr where
 n:Nat
 X:Nat->Int
 Y:Nat->Int
 J:Nat->Nat->Prop
def Dr.tr (d:Dr)(i j k:Nat):Int:=tr6 (d.X i) (d.Y i) (d.X j) (d.Y j) (d.X k) (d.Y k)
def Dr.on (d:Dr)(i j k:Nat):Prop :=
 d.tr i j k=0/\min (d.X i) (d.X j)<=d.X k/\d.X k<=max (d.X i) (d.X j)/\min (d.Y i) (d.Y j)<=d.Y k/\d.Y k<=max (d.Y i) (d.Y j)
structure eK (d:Dr):Prop where
 symm:∀{i j},d.J i j->d.J j i
 lt:∀{i j},d.J i j->i<d.n
 ne:∀{i j},d.J i j->i≠j
 ord:∀{i j},i<j->j<d.n->d.Y i<d.Y j\/(d.Y i=d.Y j/\d.X i<d.X j)
 nocross:∀{i j k l},d.J i j->d.J k l->¬(d.tr i j k*d.tr i j l<0/\d.tr k l i*d.tr k l j<0)
 nopt:∀{i j k},d.J i j->k<d.n->k≠i->k≠j->¬d.on i j k
theorem az (a b:Int)(ha:0<a)(hb:b<0):a*b<0:=Int.mul_neg_of_pos_of_neg ha hb
theorem cA (a b:Int)(ha:a<0)(hb:0<b):a*b<0:=Int.mul_neg_of_neg_of_pos ha hb
theorem cq (d:Dr){i j k}(h0:d.tr i j k=0)(h:d.Y i<d.Y j)(h1:d.Y i<=d.Y k)(h2:d.Y k<=d.Y j):d.on i j k:=by
 refine⟨h0,?_,?_,by omega,by omega⟩
 ·apply bcn;intro hc
  have c1:d.X k<d.X i:=by omega
  have c2:d.X k<d.X j:=by omega
  have e:(d.Y j-d.Y k)*(d.X k-d.X i)+(d.Y k-d.Y i)*(d.X k-d.X j)=0:=by
   unfold Dr.tr tr6 at h0;grind
  by_cases hz:d.Y k=d.Y i
  ·have:(d.Y j-d.Y k)*(d.X k-d.X i)<0:=az _ _ (by omega) (by omega)
   have:(d.Y k-d.Y i)*(d.X k-d.X j)=0:=by rw[hz];simp
   omega
  ·have t1:(d.Y k-d.Y i)*(d.X k-d.X j)<0:=az _ _ (by omega) (by omega)
   have t2:0<=(d.Y j-d.Y k)*(d.X i-d.X k):=ER (by omega) (by omega)
   grind
 ·apply bcn;intro hc
  have c1:d.X k > d.X i:=by omega
  have c2:d.X k > d.X j:=by omega
  have e:(d.Y j-d.Y k)*(d.X k-d.X i)+(d.Y k-d.Y i)*(d.X k-d.X j)=0:=by
   unfold Dr.tr tr6 at h0;grind
  by_cases hz:d.Y k=d.Y i
  ·have:0<(d.Y j-d.Y k)*(d.X k-d.X i):=EY (by omega) (by omega)
   have:(d.Y k-d.Y i)*(d.X k-d.X j)=0:=by rw[hz];simp
   omega
  ·have t1:0<(d.Y k-d.Y i)*(d.X k-d.X j):=EY (by omega) (by omega)
   have t2:0<=(d.Y j-d.Y k)*(d.X k-d.X i):=ER (by omega) (by omega)
   grind
theorem jX (d:Dr)(i j k:Nat):d.tr j i k=- d.tr i j k:=by unfold Dr.tr tr6;grind
theorem dm (d:Dr)(i j k:Nat):d.tr i k j=- d.tr i j k:=by unfold Dr.tr tr6;grind
theorem kO (d:Dr)(i j k:Nat):d.tr j k i=d.tr i j k:=by unfold Dr.tr tr6;grind
theorem j9 (d:Dr)(i j:Nat):d.tr i j i=0:=by unfold Dr.tr tr6;grind
theorem cN (d:Dr)(i j:Nat):d.tr i j j=0:=by unfold Dr.tr tr6;grind
theorem zc (d:Dr){i j k}(h:d.on i j k):d.on j i k:=by
 obtain⟨h0,h1,h2,h3,h4⟩:=h
 refine⟨by rw[jX];omega,by omega,by omega,by omega,by omega⟩
variable  {d:Dr}
theorem L1 (g:eK d){u w p q:Nat}(huw:d.J u w)(hpq:d.J p q)(h1:d.Y p<=d.Y u)(h2:d.Y u<d.Y q)(h3:d.Y q<=d.Y w)
  (hpu:p≠u) (hqw:q≠w):(d.tr u w q<0/\0<d.tr p q u)\/(0<d.tr u w q/\d.tr p q u<0):=by
 have hun:u<d.n:=g.lt huw
 have hqn:q<d.n:=g.lt (g.symm hpq)
 have nB:d.tr u w q≠0:=by
  intro h
  refine g.nopt huw hqn ?_ hqw (cq d h (by omega) (by omega) h3)
  intro e;subst e;omega
 have nC:d.tr p q u≠0:=by
  intro h
  refine g.nopt hpq hun (Fj hpu) ?_ (cq d h (by omega) (by omega) (by omega))
  intro e;subst e;omega
 have i1:=idA (d.X u) (d.Y u) (d.X w) (d.Y w) (d.X p) (d.Y p) (d.X q) (d.Y q)
 have i2:=idB (d.X u) (d.Y u) (d.X w) (d.Y w) (d.X p) (d.Y p) (d.X q) (d.Y q)
 have n1:=g.nocross huw hpq
 by_cases hB:0<d.tr u w q
 ·by_cases hC:0<d.tr p q u
  ·exfalso
   obtain⟨a1,a2⟩:=rH (d.Y w-d.Y u) (d.Y q-d.Y p) (d.tr u w p) (d.tr u w q) (d.tr p q u) (d.tr p q w) _ (d.Y p) (d.Y q) (d.Y u) (d.Y w) rfl rfl rfl i1 i2 (by omega) (by omega) h1 h2 h3 hC hB
   exact n1 ⟨cA _ _ a1 hB,az _ _ hC a2⟩
  ·right;exact⟨hB,by omega⟩
 ·by_cases hC:0<d.tr p q u
  ·left;exact⟨by omega,hC⟩
  ·exfalso
   have j1:-(d.Y q-d.Y p)*(- d.tr u w p)=(d.Y w-d.Y u)*(- d.tr p q u)+((- d.tr p q w)-(- d.tr p q u))*(d.Y p-d.Y u):=by
    unfold Dr.tr;grind
   have j2:-(d.Y q-d.Y p)*(- d.tr u w q)=(d.Y w-d.Y u)*(- d.tr p q u)+((- d.tr p q w)-(- d.tr p q u))*(d.Y q-d.Y u):=by
    unfold Dr.tr;grind
   obtain⟨a1,a2⟩:=rH (d.Y w-d.Y u) (d.Y q-d.Y p) (- d.tr u w p) (- d.tr u w q) (- d.tr p q u) (- d.tr p q w) _ (d.Y p) (d.Y q) (d.Y u) (d.Y w) rfl rfl rfl j1 j2 (by omega) (by omega) h1 h2 h3 (by omega) (by omega)
   exact n1 ⟨az _ _ (by omega) (by omega),cA _ _ (by omega) (by omega)⟩
theorem oZ (a b A B C D K py qy uy wy:Int)(ha:a=wy-uy)(hb:b=qy-py)(hK:K=D-C)
 (h1:-b*A=a*C+K*(py-uy)) (h2:-b*B=a*C+K*(qy-uy)) (ha0:0<a) (hb0:0<b)
 (hp:py<=uy) (hw:wy<=qy) (hC:0<C) (hD:D<0):A<0/\0<B:=by
 have e1:0<a*C:=EY ha0 hC
 have e4:K<0:=by omega
 have e5:0<=K*(py-uy):=by
  have:0<=(-K)*(uy-py):=ER (by omega) (by omega)
  grind
 have e7:a*D<0:=az _ _ ha0 hD
 have e8:a*D=a*C+K*(wy-uy):=by grind
 have e9:K*(qy-wy)<=0:=by
  have:0<=(-K)*(qy-wy):=ER (by omega) (by omega)
  grind
 have e10:-b*B<0:=by grind
 constructor
 ·apply bcn;intro h
  have:0<=b*A:=ER (by omega) (by omega)
  grind
 ·apply bcn;intro h
  have:0<=b*(-B):=ER (by omega) (by omega)
  grind
theorem L2 (g:eK d){u w p q:Nat}(huw:d.J u w)(hpq:d.J p q)(h1:d.Y p<=d.Y u)(h2:d.Y u<d.Y w)(h3:d.Y w<=d.Y q)
  (hpu:p≠u) (hqw:q≠w):(d.tr p q u<0/\d.tr p q w<0)\/(0<d.tr p q u/\0<d.tr p q w):=by
 have hun:u<d.n:=g.lt huw
 have hwn:w<d.n:=g.lt (g.symm huw)
 have nC:d.tr p q u≠0:=by
  intro h
  refine g.nopt hpq hun (Fj hpu) ?_ (cq d h (by omega) (by omega) (by omega))
  intro e;subst e;omega
 have nD:d.tr p q w≠0:=by
  intro h
  refine g.nopt hpq hwn ?_ (Fj hqw) (cq d h (by omega) (by omega) (by omega))
  intro e;subst e;omega
 have i1:=idA (d.X u) (d.Y u) (d.X w) (d.Y w) (d.X p) (d.Y p) (d.X q) (d.Y q)
 have i2:=idB (d.X u) (d.Y u) (d.X w) (d.Y w) (d.X p) (d.Y p) (d.X q) (d.Y q)
 have n1:=g.nocross huw hpq
 by_cases hC:0<d.tr p q u
 ·by_cases hD:0<d.tr p q w
  ·right;exact⟨hC,hD⟩
  ·exfalso
   obtain⟨a1,a2⟩:=oZ (d.Y w-d.Y u) (d.Y q-d.Y p) (d.tr u w p) (d.tr u w q) (d.tr p q u) (d.tr p q w) _ (d.Y p) (d.Y q) (d.Y u) (d.Y w) rfl rfl rfl i1 i2 (by omega) (by omega) h1 h3 hC (by omega)
   exact n1 ⟨cA _ _ a1 a2,az _ _ hC (by omega)⟩
 ·by_cases hD:0<d.tr p q w
  ·exfalso
   have j1:-(d.Y q-d.Y p)*(- d.tr u w p)=(d.Y w-d.Y u)*(- d.tr p q u)+((- d.tr p q w)-(- d.tr p q u))*(d.Y p-d.Y u):=by
    unfold Dr.tr;grind
   have j2:-(d.Y q-d.Y p)*(- d.tr u w q)=(d.Y w-d.Y u)*(- d.tr p q u)+((- d.tr p q w)-(- d.tr p q u))*(d.Y q-d.Y u):=by
    unfold Dr.tr;grind
   obtain⟨a1,a2⟩:=oZ (d.Y w-d.Y u) (d.Y q-d.Y p) (- d.tr u w p) (- d.tr u w q) (- d.tr p q u) (- d.tr p q w) _ (d.Y p) (d.Y q) (d.Y u) (d.Y w) rfl rfl rfl j1 j2 (by omega) (by omega) h1 h3 (by omega) (by omega)
   exact n1 ⟨az _ _ (by omega) (by omega),cA _ _ (by omega) (by omega)⟩
  ·left;exact⟨by omega,by omega⟩
def Dr.base (d:Dr)(u p q:Nat):Bool:=decide (u≠p/\u≠q/\d.Y p<=d.Y u/\d.Y u<d.Y q/\0<d.tr p q u)
def Dr.pre (d:Dr)(u b w:Nat):Bool:=decide (b=w\/(u<b/\w<u)\/(((u<b/\u<w)\/(b<u/\w<u))/\0<d.tr u b w))
def Dr.Om (d:Dr)(u w p q:Nat):Bool :=
 (d.base u p q^^decide (p=u/\d.Y q=d.Y u))^^((decide (p=u)&&d.pre u q w)^^(decide (q=u)&&d.pre u p w))
def Dr.Psi (d:Dr)(u w v:Nat):Bool :=
 if d.Y u<d.Y w then decide (d.Y u<d.Y v/\d.Y v<=d.Y w/\d.tr u w v<0)^^decide (v=w) else false
variable  {d:Dr}
theorem jV (d:Dr)(i j k:Nat)(h:d.Y k=d.Y i):d.tr i j k=(d.Y j-d.Y i)*(d.X i-d.X k):=by
 unfold Dr.tr tr6;grind
theorem pc (d:Dr)(i j k:Nat)(h:d.Y k=d.Y j):d.tr i j k=(d.Y j-d.Y i)*(d.X j-d.X k):=by
 unfold Dr.tr tr6;grind
theorem eg (d:Dr)(i j k:Nat)(h:d.Y i=d.Y j):d.tr i j k=(d.X j-d.X i)*(d.Y k-d.Y j):=by
 unfold Dr.tr tr6;grind
theorem bb {a b:Int}(ha:0<a):(0<a*b↔0<b):=by
 constructor
 ·intro h;apply bcn;intro hb
  have:0<=a*(-b):=ER (by omega) (by omega)
  grind
 ·intro h;exact EY ha h
theorem ek {a b:Int}(ha:0<a):(a*b<0↔b<0):=by
 constructor
 ·intro h;apply bcn;intro hb
  have:0<=a*b:=ER (by omega) (by omega)
  omega
 ·intro h;exact az _ _ ha h
theorem nz (g:eK d){u w v:Nat}(huw:d.J u w)(hv:v<d.n)(h:d.Y u<d.Y w)(h1:d.Y u<=d.Y v)(h2:d.Y v<=d.Y w)
  (hu:v≠u) (hw:v≠w):d.tr u w v≠0:=by
 intro h0
 exact g.nopt huw hv hu hw (cq d h0 h h1 h2)
theorem p8 (g:eK d){u w p q:Nat}(huw:d.J u w)(hpq:d.J p q)(h1:u<w)(h2:p<q)(hy:d.Y u<d.Y w)(hf:d.Y p=d.Y q) :
  ((d.Om u w p q^^d.Om w u p q)^^decide (p=u/\q=w))=(d.Psi u w p^^d.Psi u w q):=by
 have hpn:=g.lt hpq
 have hqn:=g.lt (g.symm hpq)
 have hwn:=g.lt (g.symm huw)
 have hun:=g.lt huw
 have hx:d.X p<d.X q:=by rcases g.ord h2 hqn with h|h<;>omega
 have sA:∀k,d.Y k=d.Y w->(d.tr u w k<0↔d.X w<d.X k):=by
  intro k hk;rw[pc d u w k hk,ek (by omega)];omega
 have mv:d.tr u w q<d.tr u w p:=by
  have:d.tr u w p-d.tr u w q=(d.Y w-d.Y u)*(d.X q-d.X p):=by unfold Dr.tr tr6;grind
  have:0<(d.Y w-d.Y u)*(d.X q-d.X p):=EY (by omega) (by omega)
  omega
 have c1:=dm d u q w
 have c2:=kO d u w p
 have c3:=kO d w p u
 have base1:d.base u p q=false:=by simp[Dr.base];intros;omega
 have base2:d.base w p q=false:=by simp[Dr.base];intros;omega
 simp only[Dr.Om,base1,base2,Dr.Psi,hy,if_true]
 by_cases hpu:p=u
 ·subst hpu
  have t1:0<d.tr p q w:=by
   rw[eg d p q w hf];exact EY (by omega) (by omega)
  have n1:q≠w:=by intro e;subst e;omega
  have n2:p≠w:=by omega
  have n3:q≠p:=by omega
  simp[Dr.pre,n1,n2,n3,hf,t1,h1,h2]
 by_cases hqu:q=u
 ·subst hqu
  have n1:q≠w:=by omega
  have n2:p≠w:=by omega
  have n3:p≠q:=by omega
  have n4:¬q<p:=by omega
  have n5:¬w<q:=by omega
  have n6:¬q<q:=by omega
  simp[Dr.pre,n1,n2,n3,n4,n5,n6]
  omega
 by_cases hpw:p=w
 ·subst hpw
  have n1:q≠p:=by omega
  have:d.tr u p q<0:=(sA q (by omega)).2 hx
  have z:d.tr u p p=0:=cN d u p
  simp[Dr.pre,n1,hqu,hpu,hf,h2,h1,this,z,hy]
  rw[<-hf];simp[hy]
 by_cases hqw:q=w
 ·subst hqw
  have n1:p≠q:=by omega
  have z:d.tr u q q=0:=cN d u q
  have a1:¬d.tr u q p<0:=by rw[sA p hf];omega
  have a2:=nz g huw hpn hy (by omega) (by omega) hpu hpw
  have a3:0<d.tr q p u:=by
   have:=kO d u q p;omega
  simp[Dr.pre,n1,hpu,hqu,hpw,a1,z,a3]
  omega
 ·
  have goal:(d.Y u<d.Y p/\d.Y p<=d.Y w/\d.tr u w p<0)↔(d.Y u<d.Y q/\d.Y q<=d.Y w/\d.tr u w q<0):=by
   rw[hf]
   by_cases hr:d.Y u<d.Y q/\d.Y q<=d.Y w
   ·obtain⟨r1,r2⟩:=hr
    simp only[r1,r2,true_and]
    constructor
    ·intro h;omega
    ·intro h
     apply bcn;intro hn
     have a2:=nz g huw hpn hy (by omega) (by omega) hpu hpw
     have a3:0<d.tr u w p:=by omega
     by_cases he:d.Y q=d.Y w
     ·have b1:=(sA q he).1 h
      have b2:¬d.X w<d.X p:=by rw[<-sA p (by omega)];omega
      refine g.nopt hpq hwn (Fj hpw) (Fj hqw) ⟨?_,by omega,by omega,by omega,by omega⟩
      rw[eg d p q w hf,he];simp
     ·refine g.nocross huw hpq ⟨az _ _ a3 h,?_⟩
      rw[eg d p q u hf,eg d p q w hf]
      have e1:(d.X q-d.X p)*(d.Y u-d.Y q)<0:=az _ _ (by omega) (by omega)
      have e2:0<(d.X q-d.X p)*(d.Y w-d.Y q):=EY (by omega) (by omega)
      exact cA _ _ e1 e2
   ·constructor
    ·intro h;exact absurd ⟨h.1,h.2.1⟩ hr
    ·intro h;exact absurd ⟨h.1,h.2.1⟩ hr
  simp only[hpu,hqu,hpw,hqw,goal,false_and,HQ,FF,Gj,HB]
theorem tq (g:eK d){u w p q:Nat}(huw:d.J u w)(hpq:d.J p q)(h1:u<w)(h2:p<q)(hy:d.Y u<d.Y w)(hf:d.Y p<d.Y q) :
  ((d.Om u w p q^^d.Om w u p q)^^decide (p=u/\q=w))=(d.Psi u w p^^d.Psi u w q):=by
 have hpn:=g.lt hpq
 have hqn:=g.lt (g.symm hpq)
 have hwn:=g.lt (g.symm huw)
 have hun:=g.lt huw
 have o1:∀{i j},i<j->j<d.n->d.Y i<=d.Y j:=by
  intro i j h h';rcases g.ord h h' with h|h<;>omega
 simp only[Dr.Om,Dr.base,Dr.Psi,hy,if_true]
 by_cases hpu:p=u
 ·subst hpu
  have s1:=dm d p q w
  have n3:q≠p:=by omega
  have n4:p≠w:=by omega
  have hYq:d.Y q≠d.Y p:=by omega
  by_cases hqw:q=w
  ·subst hqw
   have z:d.tr p q q=0:=cN d p q
   simp[Dr.pre,n3,n4,z,hYq]
  ·have a2:d.Y q<=d.Y w->d.tr p w q≠0:=λ hh=>nz g huw hqn hy (by omega) hh n3 hqw
   simp[Dr.pre,n3,n4,hqw,h1,h2,hYq,hf]
   by_cases hh:d.Y q<=d.Y w
   ·have b1:¬d.Y w<d.Y q:=by omega
    simp[hh,b1];grind
   ·have b1:d.Y w<d.Y q:=by omega
    have b2:d.Y p<=d.Y w:=by omega
    simp[hh,b1,b2,Fj n4,Fj hqw]
    omega
 by_cases hqu:q=u
 ·subst hqu
  have n1:q≠w:=by omega
  have n2:p≠w:=by omega
  have n3:p≠q:=by omega
  have n4:¬q<p:=by omega
  have n5:¬w<q:=by omega
  have n6:¬q<q:=by omega
  have n7:¬d.Y w<d.Y q:=by omega
  have n8:¬d.Y q<d.Y p:=by omega
  simp[Dr.pre,n1,n2,n3,n4,n5,n6,n7,n8]
 by_cases hpw:p=w
 ·subst hpw
  have n1:q≠p:=by omega
  have z:d.tr u p p=0:=cN d u p
  have n2:¬d.Y p<=d.Y u:=by omega
  have n3:¬d.Y q=d.Y p:=by omega
  have n4:¬d.Y q<=d.Y p:=by omega
  simp[Dr.pre,n1,hqu,hpu,h2,h1,z,n2,n3,n4]
 by_cases hqw:q=w
 ·subst hqw
  have n1:p≠q:=by omega
  have z:d.tr u q q=0:=cN d u q
  have s1:=kO d u q p
  have s2:=jX d p q u
  have s3:=kO d p u q
  have n2:¬q<p:=by omega
  simp[Dr.pre,n1,hpu,hqu,hpw,Fj hpu,Fj hqu,z,n2,h1,h2]
  by_cases hh:d.Y p<=d.Y u
  ·have b1:¬d.Y u<d.Y p:=by omega
   simp[hh,b1,hy];
   have t:d.tr p q u≠0:=nz g hpq hun hf hh (by omega) (Fj hpu) (Fj hqu)
   grind
  ·have b1:d.Y u<d.Y p:=by omega
   have t:d.tr u q p≠0:=nz g huw hpn hy (by omega) (by omega) hpu hpw
   have b2:d.Y p<=d.Y q:=by omega
   simp[hh,b1,b2]
   grind
 ·simp only[hpu,hqu,hpw,hqw,Fj hpu,Fj hqu,Fj hpw,Fj hqw,false_and,HQ,FF,Gj,ne_eq,not_false_eq_true,true_and]
  by_cases c1:d.Y q<=d.Y u
  ·have b1:¬d.Y u<d.Y q:=by omega
   have b2:¬d.Y w<d.Y q:=by omega
   have b3:¬d.Y u<d.Y p:=by omega
   simp[b1,b2,b3]
  by_cases c2:d.Y w<d.Y p
  ·have b1:¬d.Y p<=d.Y u:=by omega
   have b2:¬d.Y q<=d.Y w:=by omega
   have b3:¬d.Y p<=d.Y w:=by omega
   simp[b1,b2,b3]
  have c1':d.Y u<d.Y q:=by omega
  have c2':d.Y p<=d.Y w:=by omega
  by_cases c3:d.Y p<=d.Y u
  ·have c3':¬d.Y u<d.Y p:=by omega
   by_cases c4:d.Y q<=d.Y w
   ·have c4':¬d.Y w<d.Y q:=by omega
    have:=L1 g huw hpq c3 c1' c4 hpu hqw
    simp[c3,c3',c4,c4',c1',c2']
    grind
   ·have c4':d.Y w<d.Y q:=by omega
    have:=L2 g huw hpq c3 hy (by omega) hpu hqw
    simp[c3,c3',c4,c4',c1',c2']
    grind
  ·have c3':d.Y u<d.Y p:=by omega
   by_cases c4:d.Y q<=d.Y w
   ·have c4':¬d.Y w<d.Y q:=by omega
    have:=L2 g hpq huw (by omega) hf c4 (Fj hpu) (Fj hqw)
    simp[c3,c3',c4,c4',c1',c2']
    grind
   ·have c4':d.Y w<d.Y q:=by omega
    simp[c3,c3',c4,c4',c1',c2']
    by_cases c5:d.Y p=d.Y w
    ·have e1:=pc d u w p c5
     have e2:=jV d p q w c5.symm
     rw[e1,e2]
     have e3:=@ek (d.Y w-d.Y u) (d.X w-d.X p) (by omega)
     have e4:=@bb (d.Y q-d.Y p) (d.X p-d.X w) (by omega)
     rw[e3,e4];omega
    ·have:=L1 g hpq huw (by omega) (by omega) (by omega) (Fj hpu) (Fj hqw)
     grind
theorem vU (g:eK d){u w p q:Nat}(huw:d.J u w)(hpq:d.J p q)(h1:u<w)(h2:p<q)(hy:d.Y u=d.Y w) :
  ((d.Om u w p q^^d.Om w u p q)^^decide (p=u/\q=w))=(d.Psi u w p^^d.Psi u w q):=by
 have hpn:=g.lt hpq
 have hqn:=g.lt (g.symm hpq)
 have hwn:=g.lt (g.symm huw)
 have hun:=g.lt huw
 have hx:d.X u<d.X w:=by rcases g.ord h1 hwn with h|h<;>omega
 have hnn:¬d.Y u<d.Y w:=by omega
 have fl:=λ k=>eg d u w k hy
 have onrow:∀k,k<d.n->d.Y k=d.Y u->d.X u<=d.X k->d.X k<=d.X w->k=u\/k=w:=by
  intro k hk e x1 x2
  apply bcn;intro hc
  refine g.nopt huw hk (by omega) (by omega) ⟨?_,by omega,by omega,by omega,by omega⟩
  rw[fl,e,hy];simp
 have ordX:∀{i j},i<j->j<d.n->d.Y i=d.Y j->d.X i<d.X j:=by
  intro i j h h' e;rcases g.ord h h' with h|h<;>omega
 have ordY:∀{i j},i<j->j<d.n->d.Y i<=d.Y j:=by
  intro i j h h';rcases g.ord h h' with h|h<;>omega
 simp only[Dr.Om,Dr.base,Dr.Psi,hnn,Ig,Gj]
 by_cases hpu:p=u
 ·subst hpu
  have n3:q≠p:=by omega
  have n4:p≠w:=by omega
  have preE:d.pre p q w=decide (q=w):=by
   unfold Dr.pre
   rw[E1]
   constructor
   ·rintro(h|h|h)
    ·exact h
    ·omega
    ·exfalso
     by_cases e:d.Y q=d.Y p
     ·have:=onrow q hqn e (by have:=ordX h2 hqn e.symm;omega)
      have t:=h.2
      rw[dm d p w q,fl,e,hy]at t;simp at t
     ·have t:=h.2
      have:=ordY h2 hqn
      rw[dm d p w q,fl]at t
      have:0<(d.X w-d.X p)*(d.Y q-d.Y w):=EY (by omega) (by omega)
      omega
   ·intro h;exact Go h
  by_cases e:d.Y q=d.Y p
  ·have xq:=ordX h2 hqn e.symm
   have hqw:q=w:=by
    apply bcn;intro hc
    by_cases hl:d.X q<=d.X w
    ·rcases onrow q hqn e (by omega) hl with h|h<;>omega
    ·refine g.nopt hpq hwn (by omega) (Fj hc) ⟨?_,by omega,by omega,by omega,by omega⟩
     rw[eg d p q w e.symm,e,hy];simp
   subst hqw
   have nn:¬q<q:=by omega
   simp[n3,n4,preE,e]
   simp[Dr.pre]
  ·have hqw:q≠w:=by intro h;subst h;omega
   have:=ordY h2 hqn
   have hf:d.Y p<d.Y q:=by omega
   have t:¬0<d.tr p q w:=by
    rw[dm d p w q,fl]
    have:0<(d.X w-d.X p)*(d.Y q-d.Y w):=EY (by omega) (by omega)
    omega
   simp[n3,n4,preE,e,hqw,t]
 by_cases hqu:q=u
 ·subst hqu
  have n1:q≠w:=by omega
  have n2:p≠w:=by omega
  have n3:p≠q:=by omega
  have n4:¬q<p:=by omega
  have n5:¬w<q:=by omega
  have n6:¬q<q:=by omega
  have n7:¬d.Y w<d.Y q:=by omega
  simp[Dr.pre,n1,n2,n3,n4,n5,n6,n7]
 by_cases hpw:p=w
 ·subst hpw
  have n1:q≠p:=by omega
  have oy:=ordY h2 hqn
  by_cases e:d.Y q=d.Y p
  ·have n3:¬d.Y u<d.Y q:=by omega
   simp[Dr.pre,n1,hqu,hpu,h2,h1,e]
   omega
  ·have n3:d.Y u<d.Y q:=by omega
   have n4:d.Y p<=d.Y u:=by omega
   have t:0<d.tr p q u:=by
    rw[jV d p q u hy];exact EY (by omega) (by omega)
   simp[Dr.pre,n1,hqu,hpu,Fj hpu,Fj hqu,h2,h1,n3,n4,e,t]
 by_cases hqw:q=w
 ·subst hqw
  have n1:p≠q:=by omega
  have n2:¬q<p:=by omega
  have oy:=ordY h2 hqn
  have n5:¬d.Y u<d.Y q:=by omega
  have n6:¬q<q:=by omega
  have t:¬0<d.tr q p u:=by
   rw[kO d u q p,fl]
   have:0<=(d.X q-d.X u)*(d.Y q-d.Y p):=ER (by omega) (by omega)
   grind
  simp[Dr.pre,n1,hpu,hqu,n5,n2,t]
 ·simp only[hpu,hqu,hpw,hqw,Fj hpu,Fj hqu,Fj hpw,Fj hqw,false_and,HQ,FF,Gj,ne_eq,not_false_eq_true,true_and]
  by_cases c:d.Y p<=d.Y u/\d.Y u<d.Y q
  ·obtain⟨c1,c2⟩:=c
   have c3:d.Y p<=d.Y w:=by omega
   have c4:d.Y w<d.Y q:=by omega
   have mv:d.tr p q u-d.tr p q w=(d.Y q-d.Y p)*(d.X w-d.X u):=by unfold Dr.tr tr6;grind
   have mv2:0<(d.Y q-d.Y p)*(d.X w-d.X u):=EY (by omega) (by omega)
   have nD:d.tr p q w≠0:=nz g hpq hwn (by omega) c3 (by omega) (Fj hpw) (Fj hqw)
   have key:0<d.tr p q u->0<d.tr p q w:=by
    intro h
    apply bcn;intro hn
    by_cases e:d.Y p=d.Y u
    ·have e1:=jV d p q u e.symm
     have e2:=jV d p q w (by omega)
     have f1:=(@bb (d.Y q-d.Y p) (d.X p-d.X u) (by omega)).1 (by omega)
     have f2:=(@ek (d.Y q-d.Y p) (d.X p-d.X w) (by omega)).1 (by omega)
     rcases onrow p hpn e (by omega) (by omega) with h|h<;>omega
    ·refine g.nocross huw hpq ⟨?_,az _ _ h (by omega)⟩
     rw[fl,fl]
     exact cA _ _ (az _ _ (by omega) (by omega)) (EY (by omega) (by omega))
   simp only[c1,c2,c3,c4,true_and]
   have:decide (0<d.tr p q u)=decide (0<d.tr p q w):=by
    rw[E1]
    constructor
    ·exact key
    ·intro h;omega
   rw[this];simp
  ·have c':¬(d.Y p<=d.Y w/\d.Y w<d.Y q):=by omega
   have e1:¬(d.Y p<=d.Y u/\d.Y u<d.Y q/\0<d.tr p q u):=λ h=>c ⟨h.1,h.2.1⟩
   have e2:¬(d.Y p<=d.Y w/\d.Y w<d.Y q/\0<d.tr p q w):=λ h=>c' ⟨h.1,h.2.1⟩
   simp[e1,e2]
theorem x8 (g:eK d){u w p q:Nat}(huw:d.J u w)(hpq:d.J p q)(h1:u<w)(h2:p<q) :
  ((d.Om u w p q^^d.Om w u p q)^^decide (p=u/\q=w))=(d.Psi u w p^^d.Psi u w q):=by
 have hqn:=g.lt (g.symm hpq)
 have hwn:=g.lt (g.symm huw)
 rcases g.ord h1 hwn with a|a
 ·rcases g.ord h2 hqn with b|b
  ·exact tq g huw hpq h1 h2 a b
  ·exact p8 g huw hpq h1 h2 a b.1
 ·exact vU g huw hpq h1 h2 a.1
variable  {d:Dr}
abbrev ao:=Nat×Nat
def xs (f:ao->Bool):List ao->Bool
 |[]=>false
 |e :: r=>f e^^xs f r
theorem iw (f g:ao->Bool):∀E,xs (λ e=>f e^^g e) E=(xs f E^^xs g E)
 |[]=>rfl
 |e :: r=>by simp only[xs,iw f g r];cases f e<;>cases g e<;>cases xs f r<;>cases xs g r<;>rfl
theorem bp {f g:ao->Bool}:∀{E:List ao},(∀e∈E,f e=g e)->xs f E=xs g E
 |[],_=>rfl
 |e :: r,h=>by
  simp only[xs,h e (by simp),bp (λ x hx=>h x (EQ _ hx))]
def cR (E:List ao):Prop:=∀Q:Nat->Bool,xs (λ e=>Q e.1^^Q e.2) E=false
def Dr.om (d:Dr)(E:List ao)(u w:Nat):Bool:=xs (λ e=>d.Om u w (min e.1 e.2) (max e.1 e.2)) E
def ce (E:List ao)(u w:Nat):Bool:=xs (λ e=>decide ((e.1=u/\e.2=w)\/(e.1=w/\e.2=u))) E
theorem zk (E:List ao)(u w:Nat):ce E u w=ce E w u:=by
 apply bp;intro e _;rw[E1];exact Or.comm
theorem zM (g:eK d){u w:Nat}(huw:d.J u w)(h1:u<w){E:List ao}(hE:∀e∈E,d.J e.1 e.2)(hc:cR E) :
  (d.om E u w^^d.om E w u)=ce E u w:=by
 have h:xs (λ e=>((d.Om u w (min e.1 e.2) (max e.1 e.2)^^d.Om w u (min e.1 e.2) (max e.1 e.2)) ^^
   decide ((e.1=u/\e.2=w)\/(e.1=w/\e.2=u)))) E=false:=by
  rw[<-hc (d.Psi u w)]
  apply bp
  intro e he
  have hj:=hE e he
  have hne:=g.ne hj
  rcases FN hne with hl|hl
  ·have:=x8 g huw hj h1 hl
   rw[Fg (by omega),FO (by omega),<-this]
   congr 1
   rw[E1];omega
  ·have:=x8 g huw (g.symm hj) h1 hl
   rw[Ff (by omega),Gf (by omega),Hm (d.Psi u w e.1),<-this]
   congr 1
   rw[E1];omega
 rw[iw,iw]at h
 unfold Dr.om ce
 revert h
 generalize xs _ E=a;generalize xs _ E=b;generalize xs _ E=c
 cases a<;>cases b<;>cases c<;>simp
theorem zH (g:eK d){u w:Nat}(huw:d.J u w){E:List ao}(hE:∀e∈E,d.J e.1 e.2)(hc:cR E) :
  (d.om E u w^^d.om E w u)=ce E u w:=by
 rcases FN (g.ne huw) with h|h
 ·exact zM g huw h hE hc
 ·rw[Hm,zk];exact zM g (g.symm huw) h hE hc
def bE (l:List Nat)(x:Nat):Nat:=if l.idxOf x=0 then l.getLast?.getD 0 else l.getD (l.idxOf x-1) 0
theorem jb {l:List Nat}{x:Nat}(h:x∈l):∃l1 l2,l=l1++x :: l2/\x∉l1:=by
 induction l with
 |nil=>cases h
 |cons a r ih =>
  by_cases e:a=x
  ·exact⟨[],r,by simp[e],by simp⟩
  ·have:x∈r:=by
    rcases ES.1 h with h|h
    ·exact absurd h.symm e
    ·exact h
   obtain⟨l1,l2,e1,e2⟩:=ih this
   exact⟨a :: l1,l2,by simp[e1],by simp[e2];omega⟩
theorem lv {l1 l2:List Nat}{x:Nat}(h:x∉l1):(l1++x :: l2).idxOf x=l1.length:=by
 induction l1 with
 |nil=>simp
 |cons a r ih =>
  have h1:a≠x:=by intro e;apply h;simp[e]
  have h2:x∉r:=by intro e;apply h;simp[e]
  have h3:(a==x)=false:=by simpa using h1
  rw[Ip,List.idxOf_cons,ih h2,h3];rfl
theorem iY (x:Nat)(l2:List Nat):bE (x :: l2) x=(x :: l2).getLast (by simp):=by
 unfold bE
 simp[List.getLast?_eq_some_getLast]
theorem iS {l1 l2:List Nat}{x:Nat}(h:x∉l1)(hn:l1≠[]):bE (l1++x :: l2) x=l1.getLast hn:=by
 unfold bE
 rw[lv h]
 have:l1.length≠0:=by intro e;exact hn (Gz.1 e)
 rw[EM this,Fa,Fd (by omega)]
 rw[List.getLast_eq_getElem]
 rw[gge (by omega)];rfl
structure lQ (d:Dr)(ring:Nat->List Nat):Prop where
 mem:∀{u w},w∈ring u↔d.J u w
 sorted:∀u,(ring u).Pairwise (λ b w=>d.pre u b w=true/\d.pre u w b=false/\b≠w)
theorem kl (d:Dr)(u b:Nat):d.pre u b b=true:=by simp[Dr.pre]
theorem kZ {l:List Nat}{x:Nat}(h:x∈l):bE l x∈l:=by
 obtain⟨l1,l2,e,hn⟩:=jb h
 subst e
 by_cases h1:l1=[]
 ·subst h1;rw[GA,iY];exact GR _
 ·rw[iS hn h1]
  exact List.mem_append_left _ (GR _)
theorem Bm (g:eK d){ring:Nat->List Nat}(r:lQ d ring){u v:Nat}(huv:d.J u v){E:List ao}(hE:∀e∈E,d.J e.1 e.2)(hc:cR E) :
  d.om E v (bE (ring v) u)=(d.om E v u^^ce E u v):=by
 have hm:u∈ring v:=r.mem.2 (g.symm huv)
 obtain⟨l1,l2,e,hn⟩:=jb hm
 have hs:=r.sorted v
 rw[e]at hs
 rw[FY]at hs
 obtain⟨s1,s2,s3⟩:=hs
 rw[FP]at s2
 have key:∃Q:Nat->Bool,∀b,d.J v b->(d.pre v b (bE (ring v) u)^^d.pre v b u)=(decide (b=u)^^Q v):=by
  by_cases h1:l1=[]
  ·subst h1
   refine⟨λ _=>true,λ b hb=>?_⟩
   have hb':b∈ring v:=r.mem.2 hb
   rw[e,GA,iY]
   rw[e,GA]at hb'
   have t1:d.pre v b ((u :: l2).getLast (by simp))=true:=by
    by_cases hbl:b=(u :: l2).getLast (by simp)
    ·rw[<-hbl];exact kl _ _ _
    ·have hall:((u :: l2).dropLast++[(u :: l2).getLast (by simp)]).Pairwise (λ b w=>d.pre v b w=true/\d.pre v w b=false/\b≠w):=by
      rw[FJ];exact FP.2 s2
     rw[FY]at hall
     have:b∈(u :: l2).dropLast:=by
      have hx:b∈(u :: l2).dropLast++[(u :: l2).getLast (by simp)]:=by
       rw[FJ];exact hb'
      rcases Fk.1 hx with hx|hx
      ·exact hx
      ·simp at hx;exact absurd hx (by simpa using hbl)
     exact(hall.2.2 b this _ (by simp)).1
   rw[t1]
   rcases ES.1 hb' with hb2|hb2
   ·subst hb2;simp[kl]
   ·have:=s2.1 b hb2
    rw[this.2.1]
    have:b≠u:=Fj this.2.2
    simp[this]
  ·refine⟨λ _=>false,λ b hb=>?_⟩
   have hb':b∈ring v:=r.mem.2 hb
   rw[e,iS hn h1]
   rw[e]at hb'
   rcases Fk.1 hb' with hb2|hb2
   ·have a1:=(s3 b hb2 u (by simp))
    have a2:d.pre v b (l1.getLast h1)=true:=by
     by_cases hbl:b=l1.getLast h1
     ·rw[<-hbl];exact kl _ _ _
     ·have hall:(l1.dropLast++[l1.getLast h1]).Pairwise (λ b w=>d.pre v b w=true/\d.pre v w b=false/\b≠w):=by
       rw[FJ];exact s1
      rw[FY]at hall
      have:b∈l1.dropLast:=by
       have hx:b∈l1.dropLast++[l1.getLast h1]:=by
        rw[FJ];exact hb2
       rcases Fk.1 hx with hx|hx
       ·exact hx
       ·simp at hx;exact absurd hx hbl
      exact(hall.2.2 b this _ (by simp)).1
    rw[a2,a1.1];simp[a1.2.2]
   ·rcases ES.1 hb2 with hb3|hb3
    ·subst hb3
     have a1:=s3 (l1.getLast h1) (GR _) b (by simp)
     rw[a1.2.1,kl];simp
    ·have a1:=s3 (l1.getLast h1) (GR _) b (EQ _ hb3)
     have a2:=s2.1 b hb3
     rw[a1.2.1,a2.2.1];simp[Fj a2.2.2]
 obtain⟨Q,hQ⟩:=key
 have hcl:=hc (λ x=>decide (x=v)&&Q v)
 have h:xs (λ e=>((d.Om v (bE (ring v) u) (min e.1 e.2) (max e.1 e.2)^^d.Om v u (min e.1 e.2) (max e.1 e.2)) ^^
   decide ((e.1=u/\e.2=v)\/(e.1=v/\e.2=u)))) E=false:=by
  rw[<-hcl]
  apply bp
  intro e he
  have hj:=hE e he
  have hne:=g.ne hj
  have aux:∀p q,d.J p q->p<q->((d.Om v (bE (ring v) u) p q^^d.Om v u p q)^^decide ((p=u/\q=v)\/(p=v/\q=u)))
    = ((decide (p=v)&&Q v)^^(decide (q=v)&&Q v)):=by
   intro p q hpq hl
   unfold Dr.Om
   generalize hB:(d.base v p q^^decide (p=v/\d.Y q=d.Y v))=B
   by_cases hp:p=v
   ·subst hp
    have hq:q≠p:=by omega
    have:=hQ q hpq
    have h3:decide ((p=u/\q=p)\/(p=p/\q=u))=decide (q=u):=by
     rw[E1];constructor
     ·rintro(h|h)
      ·omega
      ·exact h.2
     ·intro h;exact FV ⟨rfl,h⟩
    rw[h3]
    simp only[hq,decide_true,HQ,F4,FF,Gj]
    revert this
    generalize d.pre p q (bE (ring p) u)=x1;generalize d.pre p q u=x2;generalize decide (q=u)=x3;generalize Q p=x4
    cases x1<;>cases x2<;>cases x3<;>cases x4<;>cases B<;>simp
   ·by_cases hq:q=v
    ·subst hq
     have:=hQ p (g.symm hpq)
     have h3:decide ((p=u/\q=q)\/(p=q/\q=u))=decide (p=u):=by
      rw[E1];constructor
      ·rintro(h|h)
       ·exact h.1
       ·exact absurd h.1 hp
      ·intro h;exact Go ⟨h,rfl⟩
     rw[h3]
     simp only[hp,decide_true,HQ,F4,FF,FW]
     revert this
     generalize d.pre q p (bE (ring q) u)=x1;generalize d.pre q p u=x2;generalize decide (p=u)=x3;generalize Q q=x4
     cases x1<;>cases x2<;>cases x3<;>cases x4<;>cases B<;>simp
    ·have h3:¬((p=u/\q=v)\/(p=v/\q=u)):=by omega
     rw[dqf h3]
     simp only[hp,hq,HQ,FF,Gj,HB]
  rcases FN hne with hl|hl
  ·have:=aux e.1 e.2 hj hl
   rw[Fg (by omega),FO (by omega),<-this]
  ·have:=aux e.2 e.1 (g.symm hj) hl
   rw[Ff (by omega),Gf (by omega),Hm (decide (e.1=v)&&Q v),<-this]
   congr 1
   rw[E1];omega
 rw[iw,iw]at h
 unfold Dr.om ce
 revert h
 generalize xs _ E=a;generalize xs _ E=b;generalize xs _ E=c
 cases a<;>cases b<;>cases c<;>simp
theorem uK (g:eK d){ring:Nat->List Nat}(r:lQ d ring){u v:Nat}(huv:d.J u v){E:List ao}(hE:∀e∈E,d.J e.1 e.2)(hc:cR E) :
  d.om E v (bE (ring v) u)=d.om E u v:=by
 rw[Bm g r huv hE hc,<-zH g huv hE hc]
 cases d.om E v u<;>cases d.om E u v<;>rfl
variable  {d:Dr}
def nxt (ring:Nat->List Nat)(e:ao):ao:=(e.2,bE (ring e.2) e.1)
def aE (ring:Nat->List Nat)(e:ao):Nat->ao
 |0=>e
 |k+1=>nxt ring (aE ring e k)
theorem fK (ring:Nat->List Nat)(e:ao)(k:Nat):aE ring e (k+1)=nxt ring (aE ring e k):=rfl
theorem dS (ring:Nat->List Nat)(e:ao)(k:Nat):(aE ring e (k+1)).1=(aE ring e k).2:=rfl
theorem lQ.nodup {ring:Nat->List Nat}(r:lQ d ring)(u:Nat):(ring u).Nodup :=
 (r.sorted u).imp (λ h=>h.2.2)
theorem gy {l:List Nat}(hl:l.Nodup){a b:Nat}(ha:a<l.length)(hb:b<l.length)(h:l[a]=l[b]):a=b:=by
 have hp:=Fs.1 hl
 rcases Nat.lt_trichotomy a b with hlt|heq|hgt
 ·exact absurd h (hp a b ha hb hlt)
 ·exact heq
 ·exact absurd h.symm (hp b a hb ha hgt)
theorem vw {l:List Nat}(hl:l.Nodup){x y:Nat}(hx:x∈l)(hy:y∈l)(h:bE l x=bE l y):x=y:=by
 have key:∀z∈l,∃k,∃hk:k<l.length,l[k]=z/\bE l z=(if k=0 then l[l.length-1]'(by omega) else l[k-1]'(by omega)):=by
  intro z hz
  refine⟨l.idxOf z,G2 hz,List.getElem_idxOf _,?_⟩
  unfold bE
  have hlt:=G2 hz
  split
  ·rename_i h0
   rw[List.getLast?_eq_getElem?,gge (by omega)];rfl
  ·rename_i h0
   rw[Fa,gge (by omega)];rfl
 obtain⟨i,hi,ei,pi⟩:=key x hx
 obtain⟨j,hj,ej,pj⟩:=key y hy
 have inj:∀a b (ha:a<l.length) (hb:b<l.length),l[a]=l[b]->a=b:=by
  intro a b ha hb e
  exact gy hl ha hb e
 rw[pi,pj]at h
 have:i=j:=by
  by_cases h1:i=0<;>by_cases h2:j=0
  ·omega
  ·rw[EU h1,EM h2]at h
   have:=inj _ _ _ _ h;omega
  ·rw[EM h1,EU h2]at h
   have:=inj _ _ _ _ h;omega
  ·rw[EM h1,EM h2]at h
   have:=inj _ _ _ _ h;omega
 subst this
 rw[<-ei,<-ej]
theorem By (g:eK d){ring:Nat->List Nat}(r:lQ d ring){e:ao}(h:d.J e.1 e.2):d.J (nxt ring e).1 (nxt ring e).2 :=
 r.mem.1 (kZ (r.mem.2 (g.symm h)))
theorem l5 (g:eK d){ring:Nat->List Nat}(r:lQ d ring){a b:ao}(ha:d.J a.1 a.2)(hb:d.J b.1 b.2)(h:nxt ring a=nxt ring b):a=b:=by
 unfold nxt at h
 have h1:a.2=b.2:=(Prod.mk.inj h).1
 have h2:=(Prod.mk.inj h).2
 rw[h1]at h2
 have:=vw (r.nodup b.2) (r.mem.2 (by rw[<-h1];exact g.symm ha)) (r.mem.2 (g.symm hb)) h2
 exact Prod.ext this h1
theorem eQ (g:eK d){ring:Nat->List Nat}(r:lQ d ring){e:ao}(h:d.J e.1 e.2):∀k,d.J (aE ring e k).1 (aE ring e k).2
 |0=>h
 |k+1=>By g r (eQ g r h k)
theorem mq {l:List Nat}(hl:l.Nodup){F:Nat->Bool}(h:∀x∈l,F (bE l x)=F x):∀x∈l,∀y∈l,F x=F y:=by
 have key:∀k (hk:k<l.length),F l[k]=F (l[0]'(by omega)):=by
  intro k
  induction k with
  |zero=>intro _;rfl
  |succ k ih =>
   intro hk
   rw[<-ih (by omega)]
   have hm:l[k+1]∈l:=Fm _
   rw[<-h _ hm]
   congr 1
   unfold bE
   have:l.idxOf l[k+1]=k+1:=by
    have h1:=G2 hm
    have h2:=List.getElem_idxOf h1
    exact gy hl _ _ h2
   rw[this,EM (by omega),Fa]
   simp only[Nat.add_sub_cancel]
   rw[gge (by omega)];rfl
 intro x hx y hy
 obtain⟨i,hi,e1⟩:=Fh hx
 obtain⟨j,hj,e2⟩:=Fh hy
 rw[<-e1,<-e2,key i hi,key j hj]
def sw (d:Dr)(ok:Nat->Prop):Prop :=
 ∀m:Nat->Bool,(∀a b,d.J a b->ok a->ok b->m a=m b)->∀a b,a<d.n->b<d.n->ok a->ok b->m a=m b
theorem wB {E:List ao}(hn:E.Nodup){u w:Nat}(huw:u≠w):ce E u w=(decide ((u,w)∈E)^^decide ((w,u)∈E)):=by
 induction E with
 |nil=>simp[ce,xs]
 |cons e r ih =>
  rw[Ge]at hn
  have:=ih hn.2
  unfold ce at this ⊢
  rw[xs,this]
  obtain⟨a,b⟩:=e
  simp only[ES,Prod.mk.injEq]
  by_cases h1:a=u/\b=w
  ·obtain⟨rfl,rfl⟩:=h1
   have h2:(a,b)∉r:=hn.1
   simp[h2,huw]
  ·by_cases h2:a=w/\b=u
   ·obtain⟨rfl,rfl⟩:=h2
    have h3:(a,b)∉r:=hn.1
    simp[h3,huw]
   ·have t1:¬((a=u/\b=w)\/(a=w/\b=u)):=by omega
    have t2:¬(u=a/\w=b):=by omega
    have t3:¬(w=a/\u=b):=by omega
    simp only[t1,t2,t3,HQ,FW,false_or]
theorem ki (g:eK d){ring:Nat->List Nat}(r:lQ d ring){E:List ao}(hE:∀e∈E,d.J e.1 e.2)(hc:cR E)(hn:E.Nodup)
  (ok:Nat->Prop) (hk:sw d ok) (hnx:∀a b,d.J a b->ok b->((a,b)∈E↔nxt ring (a,b)∈E)) :
  ∀a b a' b',d.J a b->d.J a' b'->ok a->ok a' ->
   (d.om E a b^^decide ((a,b)∈E))=(d.om E a' b'^^decide ((a',b')∈E)):=by
 have rev:∀a b,d.J a b->(d.om E a b^^decide ((a,b)∈E))=(d.om E b a^^decide ((b,a)∈E)):=by
  intro a b h
  have h1:=zH g h hE hc
  rw[wB hn (g.ne h)]at h1
  revert h1
  generalize d.om E a b=x1;generalize d.om E b a=x2;generalize decide ((a,b)∈E)=x3;generalize decide ((b,a)∈E)=x4
  cases x1<;>cases x2<;>cases x3<;>cases x4<;>simp
 have rot:∀u,ok u->∀x∈ring u,∀y∈ring u,(d.om E u x^^decide ((u,x)∈E))=(d.om E u y^^decide ((u,y)∈E)):=by
  intro u hu
  refine mq (F:=λ x=>d.om E u x^^decide ((u,x)∈E)) (r.nodup u) ?_
  intro x hx
  have hj:d.J u x:=r.mem.1 hx
  show(d.om E u (bE (ring u) x)^^decide ((u,bE (ring u) x)∈E))=_
  rw[uK g r (g.symm hj) hE hc,rev u x hj]
  have:=hnx x u (g.symm hj) hu
  have e:decide ((u,bE (ring u) x)∈E)=decide ((x,u)∈E):=by
   rw[E1];exact this.symm
  rw[e]
 intro a b a' b' h h' ha ha'
 have hm:=hk (λ u=>match ring u with|[]=>false|x :: _=>d.om E u x^^decide ((u,x)∈E))
 have val:∀u x,ok u->x∈ring u->(match ring u with|[]=>false|x :: _=>d.om E u x^^decide ((u,x)∈E))=(d.om E u x^^decide ((u,x)∈E)):=by
  intro u x hu hx
  have:=rot u hu
  cases hr:ring u with
  |nil=>rw[hr]at hx;cases hx
  |cons y l =>
   rw[hr]at this hx
   simp only
   exact this y (by simp) x hx
 have:=hm (by
  intro p q hpq hp hq
  rw[val p q hp (r.mem.2 hpq),val q p hq (r.mem.2 (g.symm hpq))]
  exact rev p q hpq) a a' (g.lt h) (g.lt h') ha ha'
 rw[val a b ha (r.mem.2 h),val a' b' ha' (r.mem.2 h')]at this
 exact this
def seg (ring:Nat->List Nat)(e:ao)(i:Nat):Nat->List ao
 |0=>[]
 |k+1=>aE ring e i :: seg ring e (i+1) k
theorem bO (ring:Nat->List Nat)(e x:ao):∀k i,x∈seg ring e i k↔∃j,i<=j/\j<i+k/\x=aE ring e j
 |0,i=>by simp[seg];omega
 |k+1,i=>by
  rw[seg,ES,bO ring e x k (i+1)]
  constructor
  ·rintro(h|⟨j,h1,h2,h3⟩)
   ·exact⟨i,by omega,by omega,h⟩
   ·exact⟨j,by omega,by omega,h3⟩
  ·rintro⟨j,h1,h2,h3⟩
   by_cases h:j=i
   ·subst h;exact Go h3
   ·exact FV ⟨j,by omega,by omega,h3⟩
theorem fM (ring:Nat->List Nat)(e:ao):∀k i,(∀a b,i<=a->a<b->b<i+k->aE ring e a≠aE ring e b)->(seg ring e i k).Nodup
 |0,_,_=>by simp[seg]
 |k+1,i,h=>by
  rw[seg,Ge]
  constructor
  ·rw[bO]
   rintro⟨j,h1,h2,h3⟩
   exact h i j (by omega) (by omega) (by omega) h3
  ·exact fM ring e k (i+1) (λ a b h1 h2 h3=>h a b (by omega) h2 (by omega))
theorem rJ (ring:Nat->List Nat)(e:ao)(Q:Nat->Bool):∀k i,xs (λ e=>Q e.1^^Q e.2) (seg ring e i k)=(Q (aE ring e i).1^^Q (aE ring e (i+k)).1)
 |0,i=>by simp[seg,xs]
 |k+1,i=>by
  rw[seg,xs,rJ ring e Q k (i+1),dS]
  have:i+1+k=i+(k+1):=by omega
  rw[this]
  generalize Q (aE ring e i).1=a;generalize Q (aE ring e i).2=b;generalize Q (aE ring e (i+(k+1))).1=c
  cases a<;>cases b<;>cases c<;>rfl
theorem fV (ring:Nat->List Nat)(e:ao){i k:Nat}(h:(aE ring e i).1=(aE ring e (i+k)).1):cR (seg ring e i k):=by
 intro Q
 rw[rJ,h];simp
theorem lR (g:eK d){ring:Nat->List Nat}(r:lQ d ring){E:List ao}(hE:∀e∈E,d.J e.1 e.2)(hc:cR E){e:ao}(he:d.J e.1 e.2) :
  ∀k,d.om E (aE ring e k).1 (aE ring e k).2=d.om E e.1 e.2
 |0=>rfl
 |k+1=>by
  rw[<-lR g r hE hc he k]
  exact uK g r (eQ g r he k) hE hc
theorem qV (g:eK d){ring:Nat->List Nat}(r:lQ d ring){e:ao}(he:d.J e.1 e.2){N:Nat}
  (hN:aE ring e N=e) (hd:∀a b,a<b->b<N->aE ring e a≠aE ring e b)
  (hk:∀v,v<d.n->sw d (λ u=>u≠v)) {i j:Nat} (hij:i<j) (hj:j<N):(aE ring e i).1≠(aE ring e j).1:=by
 intro hv
 have hEJ:=eQ g r he
 let E:=seg ring e i (j-i)
 have hE:∀x∈E,d.J x.1 x.2:=by
  intro x hx
  obtain⟨k,_,_,rfl⟩:=(bO ring e x _ _).1 hx
  exact hEJ k
 have hc:cR E:=fV ring e (by rw[hv];congr 2;omega)
 have hn:E.Nodup:=fM ring e _ _ (λ a b _ h2 h3=>hd a b h2 (by omega))
 let v:=(aE ring e i).1
 have nx1:(aE ring e i).2≠v:=Fj (g.ne (hEJ i))
 have nx2:(aE ring e j).2≠v:=by
  show _≠(aE ring e i).1
  rw[hv];exact Fj (g.ne (hEJ j))
 have hlt:i+1<j:=by
  apply bcn;intro hc'
  have:j=i+1:=by omega
  subst this
  rw[dS]at hv
  exact g.ne (hEJ i) hv
 have sc:=ki g r hE hc hn (λ u=>u≠v) (hk v (g.lt (hEJ i))) (by
  intro a b hab hb
  constructor
  ·intro h
   obtain⟨k,h1,h2,h3⟩:=(bO ring e _ _ _).1 h
   rw[h3]
   refine(bO ring e _ _ _).2 ⟨k+1,by omega,?_,rfl⟩
   apply bcn;intro hn'
   have:k+1=j:=by omega
   have hb2:(aE ring e (k+1)).1=b:=by rw[dS,<-h3]
   rw[this,<-hv]at hb2
   exact hb hb2.symm
  ·intro h
   obtain⟨k,h1,h2,h3⟩:=(bO ring e _ _ _).1 h
   have hki:k≠i:=by
    intro e';subst e'
    have:b=(aE ring e k).1:=by rw[<-h3];rfl
    exact hb this
   obtain⟨k',rfl⟩:∃k',k=k'+1:=⟨k-1,by omega⟩
   have:=l5 g r hab (hEJ k') h3
   rw[this]
   exact(bO ring e _ _ _).2 ⟨k',by omega,by omega,rfl⟩)
 have f1:=sc _ _ _ _ (hEJ (i+1)) (hEJ (j+1)) (by rw[dS];exact nx1) (by rw[dS];exact nx2)
 have m1:((aE ring e (i+1)).1,(aE ring e (i+1)).2)∈E:=(bO ring e _ _ _).2 ⟨i+1,by omega,by omega,rfl⟩
 have m2:((aE ring e (j+1)).1,(aE ring e (j+1)).2)∉E:=by
  intro h
  obtain⟨k,h1,h2,h3⟩:=(bO ring e _ _ _).1 h
  have h3':aE ring e (j+1)=aE ring e k:=h3
  by_cases hjn:j+1<N
  ·exact hd k (j+1) (by omega) hjn h3'.symm
  ·have hjN:j+1=N:=by omega
   rw[hjN,hN]at h3'
   have:k=0:=by
    apply bcn;intro hk0
    exact hd 0 k (by omega) (by omega) h3'
   have hi0:i=0:=by omega
   have:(aE ring e (j+1)).1=v:=by
    show _=(aE ring e i).1
    rw[hjN,hN,hi0];rfl
   rw[dS]at this
   exact nx2 this
 rw[lR g r hE hc he,lR g r hE hc he,dqt m1,dqf m2]at f1
 revert f1
 cases d.om E e.1 e.2<;>simp
theorem pB (g:eK d){ring:Nat->List Nat}(r:lQ d ring){e:ao}(he:d.J e.1 e.2){N:Nat}(hN0:0<N)
  (hN:aE ring e N=e) (hd:∀a b,a<b->b<N->aE ring e a≠aE ring e b)
  (hk:sw d (λ _=>True)) {o:ao} (ho:d.J o.1 o.2) (hoz:d.om (seg ring e 0 N) o.1 o.2=false) (hoN:o∉seg ring e 0 N)
  {x:ao} (hx:d.J x.1 x.2):d.om (seg ring e 0 N) x.1 x.2=decide (x∈seg ring e 0 N):=by
 have hEJ:=eQ g r he
 have hE:∀x∈seg ring e 0 N,d.J x.1 x.2:=by
  intro x hx
  obtain⟨k,_,_,rfl⟩:=(bO ring e x _ _).1 hx
  exact hEJ k
 have hc:cR (seg ring e 0 N):=fV ring e (by rw[Gv,hN];rfl)
 have hn:(seg ring e 0 N).Nodup:=fM ring e _ _ (λ a b _ h2 h3=>hd a b h2 (by omega))
 have sc:=ki g r hE hc hn (λ _=>True) hk (by
  intro a b hab _
  constructor
  ·intro h
   obtain⟨k,h1,h2,h3⟩:=(bO ring e _ _ _).1 h
   rw[h3]
   by_cases hkN:k+1<N
   ·exact(bO ring e _ _ _).2 ⟨k+1,by omega,by omega,rfl⟩
   ·have:k+1=N:=by omega
    refine(bO ring e _ _ _).2 ⟨0,by omega,by omega,?_⟩
    rw[<-fK,this,hN];rfl
  ·intro h
   obtain⟨k,h1,h2,h3⟩:=(bO ring e _ _ _).1 h
   by_cases hk0:k=0
   ·have:nxt ring (a,b)=nxt ring (aE ring e (N-1)):=by
     rw[h3,hk0,<-fK]
     have:N-1+1=N:=by omega
     rw[this,hN];rfl
    rw[l5 g r hab (hEJ _) this]
    exact(bO ring e _ _ _).2 ⟨N-1,by omega,by omega,rfl⟩
   ·obtain⟨k',rfl⟩:∃k',k=k'+1:=⟨k-1,by omega⟩
    rw[l5 g r hab (hEJ k') h3]
    exact(bO ring e _ _ _).2 ⟨k',by omega,by omega,rfl⟩)
 have:=sc _ _ _ _ hx ho trivial trivial
 rw[hoz,dqf (show(o.1,o.2)∉_ from hoN)]at this
 revert this
 show(d.om (seg ring e 0 N) x.1 x.2^^decide (x∈seg ring e 0 N))=_->_
 generalize d.om (seg ring e 0 N) x.1 x.2=a;generalize decide (x∈seg ring e 0 N)=b
 cases a<;>cases b<;>simp
variable  {d:Dr}
def Dr.trz (d:Dr)(p q:Nat)(zx zy:Int):Int:=tr6 (d.X p) (d.Y p) (d.X q) (d.Y q) zx zy
def Dr.cz (d:Dr)(zx zy:Int)(p q:Nat):Bool:=decide (d.Y p<=zy/\zy<d.Y q/\0<d.trz p q zx zy)
def Dr.num (d:Dr)(zx zy:Int)(p q:Nat):Int:=2*d.trz p q zx zy+(d.X q-d.X p)
def Dr.den (d:Dr)(p q:Nat):Int:=d.Y q-d.Y p
theorem xl (g:eK d){u w p q:Nat}(huw:d.J u w)(hpq:d.J p q)(h1:u<w)(h2:p<q)(hy:d.Y u<d.Y w) :
  d.Om u w p q=if p=u then decide (q=w\/(d.Y u<d.Y q/\d.tr u w q<0)) else decide (d.Y p<=d.Y u/\d.Y u<d.Y q/\0<d.tr p q u):=by
 have hqn:=g.lt (g.symm hpq)
 unfold Dr.Om Dr.base
 by_cases hpu:p=u
 ·subst hpu
  have n1:q≠p:=by omega
  have s1:=dm d p q w
  have hp2:d.pre p q w=decide (q=w\/0<d.tr p q w):=by
   unfold Dr.pre;rw[E1];constructor
   ·rintro(h|h|h)
    ·exact Go h
    ·omega
    ·exact FV h.2
   ·rintro(h|h)
    ·exact Go h
    ·exact FV (FV ⟨Go ⟨h2,h1⟩,h⟩)
  rcases g.ord h2 hqn with hf|hf
  ·have e1:¬d.Y q=d.Y p:=by omega
   simp only[ne_eq,not_true_eq_false,false_and,HQ,e1,and_false,Gj,decide_true,F4,n1,FF,hp2,if_true,FW,hf,true_and,E1]
   omega
  ·have t1:0<d.tr p q w:=by
    rw[eg d p q w hf.1];exact EY (by omega) (by omega)
   have e1:d.Y q=d.Y p:=by omega
   have e2:¬d.Y p<d.Y q:=by omega
   have e3:q≠w:=by intro e;subst e;omega
   simp[n1,hp2,t1,e1,e3]
 ·rw[EM hpu]
  by_cases hqu:q=u
  ·subst hqu
   have e1:d.pre q p w=false:=by
    simp[Dr.pre];omega
   simp[e1,hpu]
  ·simp[hpu,hqu,Fj hpu,Fj hqu]
theorem DU (ux uy wx wy px py qx qy zx zy:Int) :
 (wy-uy)*tr6 px py qx qy zx zy-(qy-py)*tr6 ux uy wx wy zx zy=(wy-uy)*tr6 px py qx qy ux uy+(tr6 px py qx qy wx wy-tr6 px py qx qy ux uy)*(zy-uy):=by
 unfold tr6;grind
theorem wd (ux uy wx wy px py qx qy zx zy:Int) :
 (wy-uy)*(2*tr6 px py qx qy zx zy+(qx-px))-(qy-py)*(2*tr6 ux uy wx wy zx zy+(wx-ux))
  = 2*((wy-uy)*tr6 px py qx qy ux uy)+(tr6 px py qx qy wx wy-tr6 px py qx qy ux uy)*(2*zy+1-2*uy):=by
 unfold tr6;grind
theorem BY (ux uy wx wy px py qx qy:Int) :
 (wy-uy)*tr6 px py qx qy wx wy=(wy-uy)*tr6 px py qx qy ux uy+(tr6 px py qx qy wx wy-tr6 px py qx qy ux uy)*(wy-uy):=by
 grind
theorem rn (c K s z m v0:Int)(hs:0<v0+K*(s-c))(hm:0<=v0+K*(m-c))(h1:s<=z)(h2:z<m):0<v0+K*(z-c):=by
 by_cases hK:0<=K
 ·have:0<=K*(z-s):=ER hK (by omega)
  have e:v0+K*(z-c)=(v0+K*(s-c))+K*(z-s):=by grind
  omega
 ·have:0<(-K)*(m-z):=EY (by omega) (by omega)
  have e:v0+K*(z-c)=(v0+K*(m-c))+(-K)*(m-z):=by grind
  omega
theorem kI (c K s z m v0:Int)(hs:0<v0+K*(s-c))(hm:0<=v0+K*(m-c))(h1:s<=z)(h2:z<m):0<2*v0+K*(2*z+1-2*c):=by
 by_cases hK:0<=K
 ·have:0<=K*(2*z+1-2*s):=ER hK (by omega)
  have e:2*v0+K*(2*z+1-2*c)=2*(v0+K*(s-c))+K*(2*z+1-2*s):=by grind
  omega
 ·have:0<(-K)*(2*m-2*z-1):=EY (by omega) (by omega)
  have e:2*v0+K*(2*z+1-2*c)=2*(v0+K*(m-c))+(-K)*(2*m-2*z-1):=by grind
  omega
theorem jk (c K s z m v0:Int)(hs:v0+K*(s-c)<0)(hm:v0+K*(m-c)<=0)(h1:s<=z)(h2:z<m):2*v0+K*(2*z+1-2*c)<0:=by
 have:=kI c (-K) s z m (-v0) (by grind) (by grind) h1 h2
 grind
theorem wZ {a b zA zC v:Int}(ha:0<a)(hb:0<b)(hA:0<zA)(h:a*zC-b*zA=v)(hv:0<=v):0<zC:=by
 have h1:0<b*zA:=EY hb hA
 exact(bb ha).1 (by omega)
theorem yX (g:eK d){u w p q:Nat}{zx zy:Int}(huw:d.J u w)(hpq:d.J p q)(hu:d.Y u<=zy)(hw:zy<d.Y w)(hp:d.Y p<=zy)(hq:zy<d.Y q)
  (hA:0<d.trz u w zx zy) (hne:¬(p=u/\q=w))
  (hmin:0<d.trz p q zx zy->d.num zx zy u w*d.den p q<=d.num zx zy p q*d.den u w) :
  (0<d.trz p q zx zy↔if p=u then d.tr u w q<0 else if d.Y p<=d.Y u then 0<d.tr p q u else d.tr u w p<0):=by
 have hun:=g.lt huw
 have hwn:=g.lt (g.symm huw)
 have hpn:=g.lt hpq
 have hqn:=g.lt (g.symm hpq)
 have iA:=idA (d.X u) (d.Y u) (d.X w) (d.Y w) (d.X p) (d.Y p) (d.X q) (d.Y q)
 have iB:=idB (d.X u) (d.Y u) (d.X w) (d.Y w) (d.X p) (d.Y p) (d.X q) (d.Y q)
 have iD:=BY (d.X u) (d.Y u) (d.X w) (d.Y w) (d.X p) (d.Y p) (d.X q) (d.Y q)
 have iz:=DU (d.X u) (d.Y u) (d.X w) (d.Y w) (d.X p) (d.Y p) (d.X q) (d.Y q) zx zy
 have iN:=wd (d.X u) (d.Y u) (d.X w) (d.Y w) (d.X p) (d.Y p) (d.X q) (d.Y q) zx zy
 change -(d.Y q-d.Y p)*d.tr u w p=(d.Y w-d.Y u)*d.tr p q u+(d.tr p q w-d.tr p q u)*(d.Y p-d.Y u) at iA
 change -(d.Y q-d.Y p)*d.tr u w q=(d.Y w-d.Y u)*d.tr p q u+(d.tr p q w-d.tr p q u)*(d.Y q-d.Y u) at iB
 change (d.Y w-d.Y u)*d.tr p q w=(d.Y w-d.Y u)*d.tr p q u+(d.tr p q w-d.tr p q u)*(d.Y w-d.Y u) at iD
 change (d.Y w-d.Y u)*d.trz p q zx zy-(d.Y q-d.Y p)*d.trz u w zx zy=(d.Y w-d.Y u)*d.tr p q u+(d.tr p q w-d.tr p q u)*(zy-d.Y u) at iz
 change (d.Y w-d.Y u)*d.num zx zy p q-(d.Y q-d.Y p)*d.num zx zy u w=2*((d.Y w-d.Y u)*d.tr p q u)+(d.tr p q w-d.tr p q u)*(2*zy+1-2*d.Y u) at iN
 have hmin':0<d.trz p q zx zy->0<=(d.Y w-d.Y u)*d.num zx zy p q-(d.Y q-d.Y p)*d.num zx zy u w:=by
  intro h
  have:=hmin h
  unfold Dr.den at this
  rw[Gw (d.Y w-d.Y u),Gw (d.Y q-d.Y p)]
  omega
 rw[iN]at hmin'
 have a0:0<d.Y w-d.Y u:=by omega
 have b0:0<d.Y q-d.Y p:=by omega
 have nb:∀x:Int,-(d.Y q-d.Y p)*x=(d.Y q-d.Y p)*(-x):=by intro x;grind
 rw[nb]at iA iB
 generalize hv0:(d.Y w-d.Y u)*d.tr p q u=v0 at *
 generalize hK:d.tr p q w-d.tr p q u=K at *
 by_cases hpu:p=u
 ·subst hpu
  rw[EU rfl]
  have hqw:q≠w:=λ e=>hne ⟨rfl,e⟩
  have hC:d.tr p q p=0:=j9 d p q
  have v00:v0=0:=by rw[<-hv0,hC];simp
  have nB:d.tr p w q≠0:=by
   by_cases hh:d.Y q<=d.Y w
   ·exact nz g huw hqn (by omega) (by omega) hh (by intro e;subst e;omega) hqw
   ·have:=nz g hpq hwn (by omega) (by omega) (by omega) (by intro e;subst e;omega) (Fj hqw)
    have:=dm d p q w
    omega
  constructor
  ·intro h
   apply bcn;intro hn
   have hB:0<d.tr p w q:=by omega
   have e1:K*(d.Y q-d.Y p)<0:=by
    have:(d.Y q-d.Y p)*(- d.tr p w q)<0:=az _ _ b0 (by omega)
    omega
   have e2:K<0:=by
    rw[Gw]at e1;exact(ek b0).1 e1
   have e3:=hmin' h
   have:0<(-K)*(2*zy+1-2*d.Y p):=EY (by omega) (by omega)
   have e:(-K)*(2*zy+1-2*d.Y p)=- (K*(2*zy+1-2*d.Y p)):=by grind
   omega
  ·intro h
   have e1:0<K*(d.Y q-d.Y p):=by
    have:0<(d.Y q-d.Y p)*(- d.tr p w q):=EY b0 (by omega)
    omega
   have e2:0<K:=by
    rw[Gw]at e1;exact(bb b0).1 e1
   have:0<=K*(zy-d.Y p):=ER (by omega) (by omega)
   exact wZ a0 b0 hA iz (by omega)
 ·rw[EM hpu]
  by_cases hpy:d.Y p<=d.Y u
  ·rw[EU hpy]
   have nC:d.tr p q u≠0:=nz g hpq hun (by omega) hpy (by omega) (Fj hpu) (by intro e;subst e;omega)
   have sC:0<d.tr p q u\/d.tr p q u<0:=by omega
   have up:(0<d.tr p q u->∃m,zy<m/\0<=v0+K*(m-d.Y u))/\(d.tr p q u<0->∃m,zy<m/\v0+K*(m-d.Y u)<=0):=by
    by_cases hqw:q=w
    ·subst hqw
     have hD:d.tr p q q=0:=cN d p q
     rw[hD]at iD
     simp at iD
     exact⟨λ _=>⟨_,hw,by omega⟩,λ _=>⟨_,hw,by omega⟩⟩
    ·by_cases hh:d.Y q<=d.Y w
     ·have l:=L1 g huw hpq hpy (by omega) hh hpu hqw
      constructor
      ·intro h;exact⟨d.Y q,hq,by rw[<-iB];exact ER (by omega) (by omega)⟩
      ·intro h;exact⟨d.Y q,hq,by
        rw[<-iB]
        have:=az (d.Y q-d.Y p) (- d.tr u w q) b0 (by omega)
        omega⟩
     ·have l:=L2 g huw hpq hpy (by omega) (by omega) hpu hqw
      constructor
      ·intro h;exact⟨d.Y w,hw,by rw[<-iD];exact ER (by omega) (by omega)⟩
      ·intro h;exact⟨d.Y w,hw,by
        rw[<-iD]
        have:=az (d.Y w-d.Y u) (d.tr p q w) a0 (by omega)
        omega⟩
   constructor
   ·intro h
    apply bcn;intro hn
    have hC:d.tr p q u<0:=sC.resolve_left hn
    obtain⟨m,m1,m2⟩:=up.2 hC
    have v0n:v0<0:=by rw[<-hv0];exact az _ _ a0 hC
    have t:=jk (d.Y u) K (d.Y u) zy m v0 (by simpa using v0n) m2 hu m1
    exact absurd (hmin' h) (Int.not_le.2 t)
   ·intro hC
    obtain⟨m,m1,m2⟩:=up.1 hC
    have v0p:0<v0:=by rw[<-hv0];exact EY a0 hC
    have t:=rn (d.Y u) K (d.Y u) zy m v0 (by simpa using v0p) m2 hu m1
    exact wZ a0 b0 hA iz (Hn t)
  ·rw[EM hpy]
   have nA:d.tr u w p≠0:=nz g huw hpn (by omega) (by omega) (by omega) hpu (by intro e;subst e;omega)
   have sA:d.tr u w p<0\/0<d.tr u w p:=by omega
   have up:(d.tr u w p<0->∃m,zy<m/\0<=v0+K*(m-d.Y u))/\(0<d.tr u w p->∃m,zy<m/\v0+K*(m-d.Y u)<=0):=by
    by_cases hqw:q=w
    ·subst hqw
     have hD:d.tr p q q=0:=cN d p q
     rw[hD]at iD
     simp at iD
     exact⟨λ _=>⟨_,hw,by omega⟩,λ _=>⟨_,hw,by omega⟩⟩
    ·by_cases hh:d.Y q<=d.Y w
     ·have l:=L2 g hpq huw (by omega) (by omega) hh (Fj hpu) (Fj hqw)
      constructor
      ·intro h;exact⟨d.Y q,hq,by rw[<-iB];exact ER (by omega) (by omega)⟩
      ·intro h;exact⟨d.Y q,hq,by
        rw[<-iB]
        have:=az (d.Y q-d.Y p) (- d.tr u w q) b0 (by omega)
        omega⟩
     ·have l:=L1 g hpq huw (by omega) (by omega) (by omega) (Fj hpu) (Fj hqw)
      constructor
      ·intro h;exact⟨d.Y w,hw,by rw[<-iD];exact ER (by omega) (by omega)⟩
      ·intro h;exact⟨d.Y w,hw,by
        rw[<-iD]
        have:=az (d.Y w-d.Y u) (d.tr p q w) a0 (by omega)
        omega⟩
   constructor
   ·intro h
    apply bcn;intro hn
    have hA':0<d.tr u w p:=sA.resolve_left hn
    obtain⟨m,m1,m2⟩:=up.2 hA'
    have v0n:v0+K*(d.Y p-d.Y u)<0:=by rw[<-iA];exact az _ _ b0 (by omega)
    have t:=jk (d.Y u) K (d.Y p) zy m v0 v0n m2 hp m1
    exact absurd (hmin' h) (Int.not_le.2 t)
   ·intro hC
    obtain⟨m,m1,m2⟩:=up.1 hC
    have v0p:0<v0+K*(d.Y p-d.Y u):=by rw[<-iA];exact EY b0 (by omega)
    have t:=rn (d.Y u) K (d.Y p) zy m v0 v0p m2 hp m1
    exact wZ a0 b0 hA iz (Hn t)
def Dr.Pz (d:Dr)(zy:Int)(u w v:Nat):Bool:=decide (d.Y u<d.Y v/\d.Y v<=zy/\d.tr u w v<0)
theorem xm (g:eK d){u w p q:Nat}{zx zy:Int}(huw:d.J u w)(hpq:d.J p q)(h1:u<w)(h2:p<q)
  (hz:d.cz zx zy u w=true) (hmin:d.cz zx zy p q=true->d.num zx zy u w*d.den p q<=d.num zx zy p q*d.den u w) :
  (d.cz zx zy p q^^d.Om u w p q)=(d.Pz zy u w p^^d.Pz zy u w q):=by
 have hpn:=g.lt hpq
 have hqn:=g.lt (g.symm hpq)
 have hwn:=g.lt (g.symm huw)
 have hun:=g.lt huw
 unfold Dr.cz at hz
 have hz:=EH hz
 obtain⟨hu,hw,hA⟩:=hz
 have hy:d.Y u<d.Y w:=by omega
 rw[xl g huw hpq h1 h2 hy]
 have hpqy:d.Y p<=d.Y q:=by rcases g.ord h2 hqn with h|h<;>omega
 by_cases he:p=u/\q=w
 ·obtain⟨rfl,rfl⟩:=he
  have e1:d.cz zx zy p q=true:=by unfold Dr.cz;exact dqt ⟨hu,hw,hA⟩
  have e2:d.Pz zy p q p=false:=by unfold Dr.Pz;exact dqf (by omega)
  have e3:d.Pz zy p q q=false:=by unfold Dr.Pz;exact dqf (by omega)
  rw[e1,e2,e3];simp
 have pz1:∀v,¬(d.Y u<d.Y v/\d.Y v<=zy)->d.Pz zy u w v=false:=by
  intro v h;unfold Dr.Pz;exact dqf (λ x=>h ⟨x.1,x.2.1⟩)
 have pz2:∀v,d.Y u<d.Y v->d.Y v<=zy->d.Pz zy u w v=decide (d.tr u w v<0):=by
  intro v h h';unfold Dr.Pz;simp[h,h']
 by_cases hcz:d.Y p<=zy/\zy<d.Y q
 ·
  obtain⟨c1,c2⟩:=hcz
  have czE:d.cz zx zy p q=decide (0<d.trz p q zx zy):=by unfold Dr.cz;simp[c1,c2]
  have zo:=yX g huw hpq hu hw c1 c2 hA he (λ h=>hmin (by rw[czE];exact dqt h))
  rw[pz1 q (by omega),Gj,czE]
  by_cases hpu:p=u
  ·subst hpu
   rw[EU rfl]at zo ⊢
   rw[pz1 p (by omega)]
   have hqw:q≠w:=λ e=>he ⟨rfl,e⟩
   have:(q=w\/(d.Y p<d.Y q/\d.tr p w q<0))↔0<d.trz p q zx zy:=by
    rw[zo];constructor
    ·rintro(h|h)
     ·exact absurd h hqw
     ·exact h.2
    ·intro h;exact FV ⟨by omega,h⟩
   simp only[this,HB]
  ·rw[EM hpu]at zo ⊢
   by_cases hpy:d.Y p<=d.Y u
   ·rw[EU hpy]at zo
    rw[pz1 p (by omega)]
    have:(d.Y p<=d.Y u/\d.Y u<d.Y q/\0<d.tr p q u)↔0<d.trz p q zx zy:=by
     rw[zo];constructor
     ·exact λ h=>h.2.2
     ·exact λ h=>⟨hpy,by omega,h⟩
    simp only[this,HB]
   ·rw[EM hpy]at zo
    rw[pz2 p (by omega) c1]
    have:¬(d.Y p<=d.Y u/\d.Y u<d.Y q/\0<d.tr p q u):=λ h=>hpy h.1
    rw[dqf this,Gj,E1.2 zo]
 ·have czE:d.cz zx zy p q=false:=by unfold Dr.cz;exact dqf (λ h=>hcz ⟨h.1,h.2.1⟩)
  rw[czE,FW]
  by_cases c1:zy<d.Y p
  ·rw[pz1 p (by omega),pz1 q (by omega)]
   by_cases hpu:p=u
   ·subst hpu;omega
   ·rw[EM hpu]
    have:¬(d.Y p<=d.Y u/\d.Y u<d.Y q/\0<d.tr p q u):=by omega
    rw[dqf this];rfl
  ·have c2:d.Y q<=zy:=by omega
   by_cases hpu:p=u
   ·subst hpu
    rw[EU rfl,pz1 p (by omega),FW]
    have hqw:q≠w:=λ e=>he ⟨rfl,e⟩
    unfold Dr.Pz
    rw[E1]
    constructor
    ·rintro(h|h)
     ·exact absurd h hqw
     ·exact⟨h.1,c2,h.2⟩
    ·intro h;exact FV ⟨h.1,h.2.2⟩
   ·rw[EM hpu]
    have hqw:q≠w:=by intro e;subst e;omega
    have hpw:p≠w:=by intro e;subst e;omega
    by_cases c3:d.Y p<=d.Y u
    ·rw[pz1 p (by omega),FW]
     unfold Dr.Pz
     rw[E1]
     by_cases c4:d.Y u<d.Y q
     ·have l:=L1 g huw hpq c3 c4 (by omega) hpu hqw
      constructor
      ·intro h;exact⟨c4,c2,by omega⟩
      ·intro h;exact⟨c3,c4,by omega⟩
     ·constructor
      ·intro h;exact absurd h.2.1 c4
      ·intro h;exact absurd h.1 c4
    ·have:¬(d.Y p<=d.Y u/\d.Y u<d.Y q/\0<d.tr p q u):=λ h=>c3 h.1
     rw[dqf this,pz2 p (by omega) (by omega),pz2 q (by omega) c2]
     have:d.tr u w p<0↔d.tr u w q<0:=by
      rcases g.ord h2 hqn with hf|hf
      ·have l:=L2 g hpq huw (by omega) hf (by omega) (Fj hpu) (Fj hqw)
       omega
      ·have mv:d.tr u w q<d.tr u w p:=by
        have:d.tr u w p-d.tr u w q=(d.Y w-d.Y u)*(d.X q-d.X p):=by
         have:=hf.1;unfold Dr.tr tr6;grind
        have:0<(d.Y w-d.Y u)*(d.X q-d.X p):=EY (by omega) (by omega)
        omega
       constructor
       ·intro h;omega
       ·intro h
        apply bcn;intro hn
        have a2:=nz g huw hpn hy (by omega) (by omega) hpu hpw
        refine g.nocross huw hpq ⟨az _ _ (by omega) h,?_⟩
        rw[eg d p q u hf.1,eg d p q w hf.1]
        exact cA _ _ (az _ _ (by omega) (by omega)) (EY (by omega) (by omega))
     simp only[this,HB]
theorem jM {α:Type}(N D:α->Int):∀l:List α,l≠[]->(∀x∈l,0<D x)->∃x∈l,∀y∈l,N x*D y<=N y*D x
 |[],h,_=>absurd rfl h
 |[a],_,_=>⟨a,by simp,by simp⟩
 |a :: b :: r,_,hD=>by
  obtain⟨x,hx,hm⟩:=jM N D (b :: r) (by simp) (λ y hy=>hD y (EQ _ hy))
  by_cases h:N a*D x<=N x*D a
  ·refine⟨a,by simp,λ y hy=>?_⟩
   rcases ES.1 hy with e|e
   ·subst e;omega
   ·have h1:=hm y e
    have dx:=hD x (EQ _ hx)
    have dy:=hD y (EQ _ e)
    have da:=hD a (by simp)
    have p1:N a*D x*D y<=N x*D a*D y:=Int.mul_le_mul_of_nonneg_right h (by omega)
    have p2:N x*D y*D a<=N y*D x*D a:=Int.mul_le_mul_of_nonneg_right h1 (by omega)
    have p3:(N a*D y)*D x<=(N y*D a)*D x:=by
     have e1:N a*D x*D y=(N a*D y)*D x:=by grind
     have e2:N x*D a*D y=N x*D y*D a:=by grind
     have e3:N y*D x*D a=(N y*D a)*D x:=by grind
     omega
    exact Int.le_of_mul_le_mul_right p3 dx
  ·refine⟨x,EQ _ hx,λ y hy=>?_⟩
   rcases ES.1 hy with e|e
   ·subst e;omega
   ·exact hm y e
def lh (f:Nat->Nat->Bool)(e:ao):Bool:=f (min e.1 e.2) (max e.1 e.2)
theorem AC (g:eK d)(edges:List ao)(hed:∀p q,d.J p q->p<q->(p,q)∈edges)(hed2:∀e∈edges,d.J e.1 e.2/\e.1<e.2)(zx zy:Int) :
  (∀E:List ao,(∀e∈E,d.J e.1 e.2)->xs (lh (d.cz zx zy)) E=false) \/
  ∃u w,d.J u w/\∀E:List ao,(∀e∈E,d.J e.1 e.2)->cR E->xs (lh (d.cz zx zy)) E=d.om E u w:=by
 have side:∀(F:Nat->Nat->Prop),(∀p q,d.J p q->p<q->F p q)->∀e:ao,d.J e.1 e.2->F (min e.1 e.2) (max e.1 e.2):=by
  intro F hF e he
  rcases FN (g.ne he) with h|h
  ·rw[Fg (by omega),FO (by omega)];exact hF _ _ he h
  ·rw[Ff (by omega),Gf (by omega)];exact hF _ _ (g.symm he) h
 by_cases hall:(edges.filter (λ e=>d.cz zx zy e.1 e.2))=[]
 ·left
  intro E hE
  have:xs (lh (d.cz zx zy)) E=xs (λ _=>false) E:=by
   apply bp
   intro e he
   refine side (λ p q=>d.cz zx zy p q=false) ?_ e (hE e he)
   intro p q hpq hlt
   have hm:=hed p q hpq hlt
   cases h:d.cz zx zy p q with
   |false=>rfl
   |true =>
    have:(p,q)∈edges.filter (λ e=>d.cz zx zy e.1 e.2):=Fq.2 ⟨hm,h⟩
    rw[hall]at this;cases this
  rw[this]
  clear this hE
  induction E with
  |nil=>rfl
  |cons a r ih=>rw[xs,ih];rfl
 ·right
  obtain⟨⟨u,w⟩,hx,hm⟩:=jM (λ e:ao=>d.num zx zy e.1 e.2) (λ e:ao=>d.den e.1 e.2) _ hall (by
   intro x hx
   have:=EH (Fq.1 hx).2
   unfold Dr.den;omega)
  obtain⟨hx1,hx2⟩:=Fq.1 hx
  obtain⟨huw,hlt⟩:=hed2 _ hx1
  refine⟨u,w,huw,λ E hE hc=>?_⟩
  have h:xs (λ e=>lh (d.cz zx zy) e^^d.Om u w (min e.1 e.2) (max e.1 e.2)) E=false:=by
   rw[<-hc (d.Pz zy u w)]
   apply bp
   intro e he
   have ze:∀p q,d.J p q->p<q->(d.cz zx zy p q^^d.Om u w p q)=(d.Pz zy u w p^^d.Pz zy u w q):=by
    intro p q hpq hlt'
    exact xm g huw hpq hlt hlt' hx2 (λ h=>hm (p,q) (Fq.2 ⟨hed p q hpq hlt',h⟩))
   have hj:=hE e he
   unfold lh
   rcases FN (g.ne hj) with h|h
   ·rw[Fg (by omega),FO (by omega)];exact ze _ _ hj h
   ·rw[Ff (by omega),Gf (by omega),Hm (d.Pz zy u w e.1)];exact ze _ _ (g.symm hj) h
  rw[iw]at h
  unfold Dr.om
  revert h
  generalize xs (lh (d.cz zx zy)) E=a;generalize xs _ E=b
  cases a<;>cases b<;>simp
open Gla
theorem gX {α:Type}{p:α×Nat->Bool}:∀{l:List α} {k:Nat},(l.zipIdx k).find? p=none->∀i (h:i<l.length),p (l[i],k+i)=false
 |[],_,_,i,h=>absurd h (by simp)
 |a :: r,k,hf,i,h=>by
  rw[List.zipIdx_cons,G0]at hf
  cases hp:p (a,k) with
  |true=>rw[hp]at hf;simp at hf
  |false =>
   rw[hp]at hf
   cases i with
   |zero=>simpa using hp
   |succ i =>
    have:=gX (l:=r) (k:=k+1) hf i (by simpa using h)
    simp only[List.getElem_cons_succ]
    rw[<-this];congr 2;omega
theorem fB {α:Type}{p:Nat->α->Bool}{l:List α}(h:firstAt p l=none):∀i (hi:i<l.length),p i l[i]=false:=by
 intro i hi
 unfold firstAt at h
 rw[Option.map_eq_none_iff]at h
 have:=gX h i hi
 simpa using this
theorem ck {α:Type}{ok:α->Bool}{before:α->α->Bool}{l:List α}(h:firstBad ok before l=none) :
  (∀x∈l,ok x=true)/\∀i (hi:i+1<l.length),before l[i] l[i+1]=true:=by
 have h':=fB h
 constructor
 ·intro x hx
  obtain⟨i,hi,e⟩:=Fh hx
  have:=h' i hi
  rw[e]at this
  cases hk:ok x with
  |true=>rfl
  |false=>rw[hk]at this;simp at this
 ·intro i hi
  have:=h' (i+1) hi
  rw[gge (show i+1-1<l.length by omega)]at this
  simp at this
  exact this.2
theorem eB (p q:Pt):p.below q=true↔p.y<q.y\/(p.y=q.y/\p.x<q.x):=by
 unfold Pt.below;simp
theorem lm {p q r:Pt}(h1:p.below q=true)(h2:q.below r=true):p.below r=true:=by
 rw[eB]at *;omega
theorem gD (p q:Nat×Nat):lineBelow p q=true↔p.1<q.1\/(p.1=q.1/\p.2<q.2):=by
 unfold lineBelow;simp
theorem lN {p q r:Nat×Nat}(h1:lineBelow p q=true)(h2:lineBelow q r=true):lineBelow p r=true:=by
 rw[gD]at *;omega
theorem chain_lt {α:Type}{R:α->α->Bool}(ht:∀{a b c},R a b=true->R b c=true->R a c=true){l:List α}
  (h:∀i (hi:i+1<l.length),R l[i] l[i+1]=true):∀i j (hi:i<j) (hj:j<l.length),R (l[i]'(by omega)) l[j]=true:=by
 intro i j hi
 induction j with
 |zero=>omega
 |succ j ih =>
  intro hj
  by_cases e:i=j
  ·subst e;exact h i hj
  ·exact ht (ih (by omega) (by omega)) (h j hj)
structure Kept (S:Plan):Prop where
 r4:firstBad (λ(p:Pt)=>decide (p.x<=S.w)&&decide (p.y<=S.h)) Pt.below S.pts=none
 r5:firstBad (λ(l:Nat×Nat)=>decide (l.1<l.2)&&decide (l.2<S.pts.length)) lineBelow S.lines=none
 r7:firstAt (touches S) S.lines=none
def ab (S:Plan):Dr:=⟨S.pts.length,λ i=>((S.pt i).x:Int),λ i=>((S.pt i).y:Int),λ i j=>(i,j)∈S.lines\/(j,i)∈S.lines⟩
theorem lY (S:Plan)(i j k:Nat):turn (S.pt i) (S.pt j) (S.pt k)=(ab S).tr i j k:=by
 unfold turn Dr.tr tr6 dx dy ab;rfl
theorem bK (S:Plan){i:Nat}(h:i<S.pts.length):S.pt i=S.pts[i]:=by
 unfold Plan.pt;rw[Fa,gge h];rfl
theorem wm (S:Plan)(i j k:Nat):isOn (S.pt i) (S.pt j) (S.pt k)=true↔(ab S).on i j k:=by
 unfold isOn Dr.on between
 rw[lY]
 simp only[ab,EO,HI,ET]
 omega
theorem Kept.ord {S:Plan}(k:Kept S){i j:Nat}(h:i<j)(hj:j<S.pts.length):(S.pt i).below (S.pt j)=true:=by
 have:=chain_lt (R:=Pt.below) (l:=S.pts) lm (ck k.r4).2 i j h hj
 rw[bK S (by omega),bK S hj];exact this
theorem Kept.line {S:Plan}(k:Kept S){l:Nat×Nat}(h:l∈S.lines):l.1<l.2/\l.2<S.pts.length:=by
 have:=(ck k.r5).1 l h
 simpa using this
theorem Kept.lines_lt {S:Plan}(k:Kept S):∀i j (_:i<j) (hj:j<S.lines.length),lineBelow (S.lines[i]'(by omega)) S.lines[j]=true :=
 chain_lt (R:=lineBelow) (l:=S.lines) lN (ck k.r5).2
theorem pJ (p q r s:Pt):crosses p q r s=crosses r s p q:=by unfold crosses;rw[Bool.and_comm]
theorem jl (d:Dr)(i j k l:Nat):d.tr j i k*d.tr j i l=d.tr i j k*d.tr i j l:=by
 rw[jX d i j k,jX d i j l];grind
theorem bn (S:Plan)(k:Kept S):eK (ab S) where
 symm:=λ h=>h.elim FV Go
 lt:=by
  intro i j h
  rcases h with h|h
  ·have:=k.line h;show i<S.pts.length;omega
  ·have:=k.line h;exact this.2
 ne:=by
  intro i j h
  rcases h with h|h<;>(have:=k.line h;omega)
 ord:=by
  intro i j h hj
  have:=k.ord h hj
  rw[eB]at this
  simp only[ab];omega
 nocross:=by
  have main:∀e f,e∈S.lines->f∈S.lines->¬((ab S).tr e.1 e.2 f.1*(ab S).tr e.1 e.2 f.2<0/\(ab S).tr f.1 f.2 e.1*(ab S).tr f.1 f.2 e.2<0):=by
   intro e f he hf hc
   obtain⟨a,ha,ea⟩:=Fh he
   obtain⟨b,hb,eb⟩:=Fh hf
   have hcr:crosses (S.pt e.1) (S.pt e.2) (S.pt f.1) (S.pt f.2)=true:=by
    unfold crosses;simp only[lY,EO,ET];exact hc
   have one:∀a b (ha:a<S.lines.length) (hb:b<S.lines.length),b<a->crosses (S.pt S.lines[a].1) (S.pt S.lines[a].2) (S.pt S.lines[b].1) (S.pt S.lines[b].2)=false:=by
    intro a b ha hb hlt
    have:=fB k.r7 a ha
    unfold touches at this
    rw[Bool.or_eq_false_iff]at this
    have h2:=this.2
    rw[Hu]at h2
    have hm:S.lines[b]∈S.lines.take a:=by
     rw[GG]
     exact⟨b,by omega,rfl⟩
    have:=h2 _ hm
    simpa using this
   rcases Nat.lt_trichotomy a b with h|h|h
   ·have:=one b a hb ha h
    rw[ea,eb,pJ,hcr]at this;cases this
   ·subst h
    rw[ea]at eb;subst eb
    rw[j9]at hc;simp at hc
   ·have:=one a b ha hb h
    rw[ea,eb,hcr]at this;cases this
  intro i j p q hij hpq
  rcases hij with h1|h1<;>rcases hpq with h2|h2
  ·exact main (i,j) (p,q) h1 h2
  ·have:=main (i,j) (q,p) h1 h2
   simp only at this
   rw[jl (ab S) p q,Gw ((ab S).tr i j q)]at this;exact this
  ·have:=main (j,i) (p,q) h1 h2
   simp only at this
   rw[jl (ab S) i j,Gw ((ab S).tr p q j)]at this;exact this
  ·have:=main (j,i) (q,p) h1 h2
   simp only at this
   rw[jl (ab S) p q,jl (ab S) i j,Gw ((ab S).tr i j q),Gw ((ab S).tr p q j)]at this;exact this
 nopt:=by
  have main:∀e,e∈S.lines->∀c,c<S.pts.length->c≠e.1->c≠e.2->¬(ab S).on e.1 e.2 c:=by
   intro e he c hc h1 h2 hon
   obtain⟨a,ha,ea⟩:=Fh he
   have:=fB k.r7 a ha
   unfold touches at this
   rw[Bool.or_eq_false_iff]at this
   have h3:=this.1
   rw[Hu]at h3
   have:=h3 c (by simpa using hc)
   rw[ea]at this
   apply this
   rw[(wm S _ _ _).2 hon]
   simp[h1,h2]
  intro i j c hij hc h1 h2 hon
  rcases hij with h|h
  ·exact main (i,j) h c hc h1 h2 hon
  ·exact main (j,i) h c hc h2 h1 (zc _ hon)
open Gla
def cr (a b:Int×Int):Int:=a.1*b.2-a.2*b.1
def Hi (a:Int×Int):Prop:=0<a.2\/(a.2=0/\0<a.1)
def Lo (a:Int×Int):Prop:=a.2<0\/(a.2=0/\a.1<0)
theorem kf (a b:Int×Int):cr b a=- cr a b:=by unfold cr;grind
theorem uh (a b c:Int×Int):a.2*cr b c-b.2*cr a c+c.2*cr a b=0:=by unfold cr;grind
theorem mX {a b:Int×Int}(ha:Hi a)(hb:Hi b)(h:0<cr a b):0<b.2:=by
 rcases hb with h1|h1
 ·exact h1
 ·exfalso
  unfold cr at h
  rw[h1.1]at h
  have:0<=a.2*b.1:=ER (by unfold Hi at ha;omega) (by omega)
  simp at h;omega
theorem nG {a b:Int×Int}(ha:Lo a)(hb:Lo b)(h:0<cr a b):b.2<0:=by
 rcases hb with h1|h1
 ·exact h1
 ·exfalso
  unfold cr at h
  rw[h1.1]at h
  have:0<=(-a.2)*(-b.1):=ER (by unfold Lo at ha;omega) (by omega)
  have e:(-a.2)*(-b.1)=a.2*b.1:=by grind
  simp at h;omega
theorem mI {a b c:Int×Int}(ha:Hi a)(hb:Hi b)(hc:Hi c)(h1:0<cr a b)(h2:0<cr b c):0<cr a c:=by
 have yb:=mX ha hb h1
 have yc:=mX hb hc h2
 have p:=uh a b c
 have t1:0<c.2*cr a b:=EY yc h1
 have t2:0<=a.2*cr b c:=ER (by unfold Hi at ha;omega) (by omega)
 have t3:0<b.2*cr a c:=by omega
 exact(bb yb).1 t3
theorem mF {a b c:Int×Int}(ha:Lo a)(hb:Lo b)(hc:Lo c)(h1:0<cr a b)(h2:0<cr b c):0<cr a c:=by
 have yb:=nG ha hb h1
 have yc:=nG hb hc h2
 have p:=uh a b c
 have t1:0<(-c.2)*cr a b:=EY (by omega) h1
 have t2:0<=(-a.2)*cr b c:=ER (by unfold Lo at ha;omega) (by omega)
 have t3:0<(-b.2)*cr a c:=by grind
 exact(bb (show 0 < -b.2 by omega)).1 t3
theorem hhl {i j k:Int×Int}(hi:Hi i)(hj:Hi j)(hk:Lo k)(h:0<cr i j)(h2:0<=cr i k):0<cr j k:=by
 have yj:=mX hi hj h
 have p:=uh i j k
 by_cases hk0:k.2=0
 ·have:k.1<0:=by unfold Lo at hk;omega
  unfold cr;rw[hk0]
  have:0<j.2*(-k.1):=EY yj (by omega)
  grind
 ·have hk1:k.2<0:=by unfold Lo at hk;omega
  have t1:0<(-k.2)*cr i j:=EY (by omega) h
  have t2:0<=j.2*cr i k:=ER (by omega) h2
  by_cases hi0:i.2=0
  ·exfalso
   have:0<i.1:=by unfold Hi at hi;omega
   have:0<i.1*(-k.2):=EY this (by omega)
   unfold cr at h2;rw[hi0]at h2
   grind
  ·have:0<i.2*cr j k:=by grind
   exact(bb (show 0<i.2 by unfold Hi at hi;omega)).1 this
theorem hll {i j k:Int×Int}(hi:Hi i)(hj:Lo j)(hk:Lo k)(h:0<cr j k)(h2:0<=cr i k):0<cr i j:=by
 have yk:=nG hj hk h
 have p:=uh i j k
 by_cases hi0:i.2=0
 ·exfalso
  have:0<i.1:=by unfold Hi at hi;omega
  have:0<i.1*(-k.2):=EY this (by omega)
  unfold cr at h2;rw[hi0]at h2
  grind
 ·have t1:0<i.2*cr j k:=EY (by unfold Hi at hi;omega) h
  have t2:0<=(-j.2)*cr i k:=ER (by unfold Lo at hj;omega) h2
  have:0<(-k.2)*cr i j:=by grind
  exact(bb (show 0 < -k.2 by omega)).1 this
theorem sum_sq_neg {a b c e:Int}(h:a*e=b*c)(h1:0<b\/(b=0/\0<a))(h2:e<0\/(e=0/\c<0)):a*c+b*e<0:=by
 by_cases hb:b=0
 ·subst hb
  have ha:0<a:=by omega
  have he:e=0:=by
   have:a*e=0:=by simpa using h
   rcases GL.1 this with h|h<;>omega
  subst he
  have:a*c<0:=az _ _ ha (by omega)
  simpa using this
 ·have hb':0<b:=by omega
  have he:e<0:=by
   rcases h2 with h2|h2
   ·exact h2
   ·exfalso
    rw[h2.1]at h
    have:b*c<0:=az _ _ hb' h2.2
    simp at h;omega
  have t:b*e<0:=az _ _ hb' he
  have t2:b*(a*c)=a*a*e:=by grind
  have t3:a*a*e<=0:=by
   have:0<=a*a:=by
    rcases Int.le_total 0 a with h|h
    ·exact ER h h
    ·have:=ER (show 0<=-a by omega) (show 0<=-a by omega);grind
   have:0<=(a*a)*(-e):=ER this (by omega)
   grind
  have t4:a*c<=0:=by
   apply bcn;intro hn
   have:0<b*(a*c):=EY hb' (by omega)
   omega
  omega
theorem yo {a b:Int×Int}(ha:Hi a)(hb:Lo b)(h:cr a b=0):a.1*b.1+a.2*b.2<0 :=
 sum_sq_neg (by unfold cr at h;omega) ha hb
theorem dF {r e:Int×Int}(h:0<cr e r):half r e=0:=by
 have:r.1*e.2-r.2*e.1<0:=by unfold cr at h;grind
 unfold half;simp[this]
theorem bI {r e:Int×Int}(h:0<cr r e):half r e=2:=by
 have h1:¬r.1*e.2-r.2*e.1<0:=by unfold cr at h;omega
 have h2:0<r.1*e.2-r.2*e.1:=h
 unfold half;simp only[h1,h2,if_true,Ig]
theorem nt {r e:Int×Int}(h:cr r e=0)(hd:r.1*e.1+r.2*e.2<0):half r e=1:=by
 have h1:¬r.1*e.2-r.2*e.1<0:=by unfold cr at h;omega
 have h2:¬0<r.1*e.2-r.2*e.1:=by unfold cr at h;omega
 unfold half;simp only[h1,h2,hd,if_true,Ig]
theorem jN (r a b:Int×Int):sooner r a b=true↔half r a<half r b\/(half r a=half r b/\cr a b<0):=by
 unfold sooner cr;simp
theorem dE (r a b:Int×Int):sooner r a b=false↔¬(half r a<half r b\/(half r a=half r b/\cr a b<0)):=by
 rw[<-jN];simp
def Bef (a b:Int×Int):Prop:=(Hi a/\Lo b)\/(Hi a/\Hi b/\0<cr a b)\/(Lo a/\Lo b/\0<cr a b)
def sV (r a b:Int×Int):Prop:=sooner r a b=true/\sooner r b a=false
theorem bJ {r a b:Int×Int}(h:half r a<half r b):sV r a b :=
 ⟨(jN r a b).2 (Go h),(dE r b a).2 (by omega)⟩
theorem cn {r a b:Int×Int}(h:half r a<=half r b)(hc:cr a b<0):sV r a b:=by
 refine⟨(jN r a b).2 ?_,(dE r b a).2 ?_⟩
 ·omega
 ·have:=kf a b;omega
theorem gq {a b:Int×Int}(ha:Hi a)(hb:Lo b) :
  (0<cr a b/\half a b=2/\half b a=0)\/(cr a b=0/\half a b=1/\half b a=1)\/(cr a b<0/\half a b=0/\half b a=2):=by
 have s:=kf a b
 rcases Int.lt_trichotomy (cr a b) 0 with h|h|h
 ·exact FV (FV ⟨h,dF (by omega),bI (by omega)⟩)
 ·have dd:=yo ha hb h
  refine FV (Go ⟨h,nt h dd,nt (by omega) ?_⟩)
  rw[Gw b.1,Gw b.2];exact dd
 ·exact Go ⟨h,bI h,dF h⟩
theorem Do {i j k:Int×Int}(hij:Bef i j)(hjk:Bef j k)(hik:Bef i k)(nh:∀a,¬(Hi a/\Lo a)):sV k j i:=by
 have s1:=kf i j
 rcases hij with⟨a,b⟩|⟨a,b,c⟩|⟨a,b,c⟩
 ·rcases hjk with⟨a',b'⟩|⟨a',b',c'⟩|⟨a',b',c'⟩
  ·exact absurd ⟨a',b⟩ (nh j)
  ·exact absurd ⟨a',b⟩ (nh j)
  ·
   have h1:half k j=0:=dF c'
   rcases gq a b' with h|h|h
   ·have:=hll a b b' c' (by omega)
    exact cn (by omega) (by omega)
   ·exact bJ (by omega)
   ·exact bJ (by omega)
 ·rcases hjk with⟨a',b'⟩|⟨a',b',c'⟩|⟨a',b',c'⟩
  ·
   refine cn ?_ (by omega)
   rcases gq a b' with h|h|h
   ·have:=hhl a b b' c (by omega)
    rw[dF this];omega
   ·have:=hhl a b b' c (by omega)
    rw[dF this];omega
   ·rcases gq a' b' with h'|h'|h'<;>omega
  ·have:=mI a b b' c c'
   exact cn (by rw[dF c',dF this];omega) (by omega)
  ·exact absurd ⟨b,a'⟩ (nh j)
 ·rcases hjk with⟨a',b'⟩|⟨a',b',c'⟩|⟨a',b',c'⟩
  ·exact absurd ⟨a',b⟩ (nh j)
  ·exact absurd ⟨a',b⟩ (nh j)
  ·have:=mF a b b' c c'
   exact cn (by rw[dF c',dF this];omega) (by omega)
theorem Di {i j k:Int×Int}(hij:Bef i j)(hjk:Bef j k)(hik:Bef i k)(nh:∀a,¬(Hi a/\Lo a)):sV j i k:=by
 have s1:=kf i j
 rcases hij with⟨a,b⟩|⟨a,b,c⟩|⟨a,b,c⟩
 ·rcases hjk with⟨a',b'⟩|⟨a',b',c'⟩|⟨a',b',c'⟩
  ·exact absurd ⟨a',b⟩ (nh j)
  ·exact absurd ⟨a',b⟩ (nh j)
  ·have h1:half j k=2:=bI c'
   rcases gq a b with h|h|h
   ·exact bJ (by omega)
   ·exact bJ (by omega)
   ·refine cn (by omega) ?_
    apply bcn;intro hn
    have:=hll a b b' c' (by omega)
    omega
 ·have h0:half j i=0:=dF c
  rcases hjk with⟨a',b'⟩|⟨a',b',c'⟩|⟨a',b',c'⟩
  ·rcases gq a' b' with h|h|h
   ·exact bJ (by omega)
   ·exact bJ (by omega)
   ·refine cn (by omega) ?_
    apply bcn;intro hn
    have:=hhl a b b' c (by omega)
    omega
  ·exact bJ (by rw[h0,bI c'];omega)
  ·exact absurd ⟨b,a'⟩ (nh j)
 ·rcases hjk with⟨a',b'⟩|⟨a',b',c'⟩|⟨a',b',c'⟩
  ·exact absurd ⟨a',b⟩ (nh j)
  ·exact absurd ⟨a',b⟩ (nh j)
  ·exact bJ (by rw[dF c,bI c'];omega)
theorem Du {i j k:Int×Int}(hij:Bef i j)(hjk:Bef j k)(hik:Bef i k)(nh:∀a,¬(Hi a/\Lo a)):sV i k j:=by
 have s1:=kf j k
 rcases hij with⟨a,b⟩|⟨a,b,c⟩|⟨a,b,c⟩
 ·rcases hjk with⟨a',b'⟩|⟨a',b',c'⟩|⟨a',b',c'⟩
  ·exact absurd ⟨a',b⟩ (nh j)
  ·exact absurd ⟨a',b⟩ (nh j)
  ·refine cn ?_ (by omega)
   rcases gq a b' with h|h|h
   ·have:=hll a b b' c' (by omega)
    rw[bI this];omega
   ·have:=hll a b b' c' (by omega)
    rw[bI this];omega
   ·omega
 ·rcases hjk with⟨a',b'⟩|⟨a',b',c'⟩|⟨a',b',c'⟩
  ·have h2:half i j=2:=bI c
   rcases gq a b' with h|h|h
   ·have:=hhl a b b' c (by omega)
    exact cn (by omega) (by omega)
   ·exact bJ (by omega)
   ·exact bJ (by omega)
  ·have:=mI a b b' c c'
   exact cn (by rw[bI c,bI this];omega) (by omega)
  ·exact absurd ⟨b,a'⟩ (nh j)
 ·rcases hjk with⟨a',b'⟩|⟨a',b',c'⟩|⟨a',b',c'⟩
  ·exact absurd ⟨a',b⟩ (nh j)
  ·exact absurd ⟨a',b⟩ (nh j)
  ·have:=mF a b b' c c'
   exact cn (by rw[bI c,bI this];omega) (by omega)
theorem mP (a:Int×Int):¬(Hi a/\Lo a):=by unfold Hi Lo;omega
theorem pp {r:Int×Int}(h:Hi r\/Lo r):half r r=3:=by
 have e:r.1*r.2-r.2*r.1=0:=by grind
 have sq:∀x:Int,0<=x*x:=by
  intro x
  rcases Int.le_total 0 x with h|h
  ·exact ER h h
  ·have:=ER (show 0<=-x by omega) (show 0<=-x by omega);grind
 have:¬r.1*r.1+r.2*r.2<0:=by have:=sq r.1;have:=sq r.2;omega
 unfold half;simp only[e,this];simp
theorem j5 {a b:Int×Int}(h:Bef a b):half a b<3/\half b a<3:=by
 rcases h with⟨x,y⟩|⟨x,y,c⟩|⟨x,y,c⟩
 ·rcases gq x y with h|h|h<;>omega
 ·rw[bI c,dF c];omega
 ·rw[bI c,dF c];omega
open Gla
def bh (S:Plan)(m e:Nat):List Nat->List Nat
 |[]=>[e]
 |a :: r=>if 0<turn (S.pt m) (S.pt a) (S.pt e) then a :: bh S m e r else e :: a :: r
def sortTurn (S:Plan)(m:Nat)(ends:List Nat):List Nat:=ends.foldl (λ ring e=>bh S m e ring) []
def aj (S:Plan)(k:Nat):List Nat :=
 sortTurn S k ((S.near k).filter λ e=>decide (k<e))++sortTurn S k ((S.near k).filter λ e=>decide (e<k))
theorem fF (S:Plan)(m e:Nat):∀l,(bh S m e l).Perm (e :: l)
 |[]=>List.Perm.refl _
 |a :: r=>by
  rw[bh];split
  ·exact((fF S m e r).cons a).trans (List.Perm.swap e a r)
  ·exact List.Perm.refl _
theorem iI (S:Plan)(m:Nat):∀(l acc:List Nat),(l.foldl (λ ring e=>bh S m e ring) acc).Perm (acc++l)
 |[],acc=>by simp
 |e :: r,acc=>by
  rw[G3]
  refine(iI S m r _).trans ?_
  refine((fF S m e acc).append_right r).trans ?_
  exact(List.perm_middle (a:=e) (l₁:=acc) (l₂:=r)).symm
theorem cQ (S:Plan)(m:Nat)(l:List Nat):(sortTurn S m l).Perm l:=by
 have:=iI S m l []
 simpa [sortTurn] using this
theorem fW {S:Plan}(k:Kept S){i j:Nat}:j∈S.near i↔(ab S).J i j:=by
 unfold Plan.near
 rw[List.mem_filterMap]
 constructor
 ·rintro⟨l,hl,h⟩
  have:=k.line hl
  split at h
  ·rename_i e
   cases h
   left;rw[<-e];exact hl
  ·split at h
   ·rename_i e' e
    cases h
    right;rw[<-e];exact hl
   ·cases h
 ·rintro(h|h)
  ·exact⟨(i,j),h,by simp⟩
  ·have:=k.line h
   refine⟨(j,i),h,?_⟩
   simp only
   rw[EM (by simp only at this;omega)];simp
theorem lines_nodup {S:Plan}(k:Kept S):S.lines.Nodup:=by
 rw[List.Nodup,Fs]
 intro i j hi hj hlt e
 have:=k.lines_lt i j hlt hj
 rw[e,gD]at this;omega
theorem m8 {S:Plan}(k:Kept S)(i:Nat):(S.near i).Nodup:=by
 unfold Plan.near
 rw[List.Nodup,List.pairwise_filterMap]
 refine Hx ?_ (lines_nodup k)
 intro a b ha hb hab x hx y hy e
 subst e
 have la:=k.line ha
 have lb:=k.line hb
 apply hab
 split at hx
 ·cases hx
  split at hy
  ·simp at hy;exact Prod.ext (by omega) (by omega)
  ·split at hy
   ·simp at hy;omega
   ·cases hy
 ·split at hx
  ·cases hx
   split at hy
   ·simp at hy;omega
   ·split at hy
    ·simp at hy;exact Prod.ext (by omega) (by omega)
    ·cases hy
  ·cases hx
theorem a9 (S:Plan)(i j:Nat):dir S i j=((ab S).X j-(ab S).X i,(ab S).Y j-(ab S).Y i):=rfl
theorem tX (S:Plan)(m a b:Nat):(ab S).tr m a b=cr (dir S m a) (dir S m b):=by
 rw[a9,a9];unfold Dr.tr tr6 cr;grind
theorem oz {S:Plan}(k:Kept S){m a:Nat}(h:(ab S).J m a)(hlt:m<a):Hi (dir S m a):=by
 have g:=bn S k
 rcases g.ord hlt (g.lt (g.symm h)) with h|h
 ·left;rw[a9];simp only;omega
 ·right;rw[a9];simp only;omega
theorem pf {S:Plan}(k:Kept S){m a:Nat}(h:(ab S).J m a)(hlt:a<m):Lo (dir S m a):=by
 have g:=bn S k
 rcases g.ord hlt (g.lt h) with h|h
 ·left;rw[a9];simp only;omega
 ·right;rw[a9];simp only;omega
theorem pC {S:Plan}(k:Kept S){m a b:Nat}(ha:(ab S).J m a)(hb:(ab S).J m b)(hab:a≠b)(hs:(m<a/\m<b)\/(a<m/\b<m)) :
  (ab S).tr m a b≠0:=by
 have g:=bn S k
 have up:∀x y,(ab S).J m x->(ab S).J m y->m<x->x<y->(ab S).tr m y x=0->False:=by
  intro x y hx hy h1 h2 h0
  have hyn:=g.lt (g.symm hy)
  have hxn:=g.lt (g.symm hx)
  refine g.nopt hy hxn (by omega) (by omega) ?_
  rcases g.ord h1 hxn with o1|o1<;>rcases g.ord h2 hyn with o2|o2
  ·exact cq _ h0 (by omega) (by omega) (by omega)
  ·exact cq _ h0 (by omega) (by omega) (by omega)
  ·exact cq _ h0 (by omega) (by omega) (by omega)
  ·exact⟨h0,by omega,by omega,by omega,by omega⟩
 have dn:∀x y,(ab S).J m x->(ab S).J m y->x<m->y<x->(ab S).tr m y x=0->False:=by
  intro x y hx hy h1 h2 h0
  have hmn:=g.lt hx
  have hxn:=g.lt (g.symm hx)
  refine g.nopt (g.symm hy) hxn (by omega) (by omega) ?_
  have h0':(ab S).tr y m x=0:=by rw[jX];omega
  rcases g.ord h1 hmn with o1|o1<;>rcases g.ord h2 hxn with o2|o2
  ·exact cq _ h0' (by omega) (by omega) (by omega)
  ·exact cq _ h0' (by omega) (by omega) (by omega)
  ·exact cq _ h0' (by omega) (by omega) (by omega)
  ·exact⟨h0',by omega,by omega,by omega,by omega⟩
 intro h0
 have h0':(ab S).tr m b a=0:=by rw[dm];omega
 rcases hs with⟨h1,h2⟩|⟨h1,h2⟩
 ·rcases FN hab with h|h
  ·exact up a b ha hb h1 h h0'
  ·exact up b a hb ha h2 h h0
 ·rcases FN hab with h|h
  ·exact dn b a hb ha h2 h h0
  ·exact dn a b ha hb h1 h h0'
theorem jg {S:Plan}(k:Kept S){m:Nat}(up:Bool){e:Nat} :
  ∀(l:List Nat),(∀a∈e :: l,(ab S).J m a/\if up then m<a else a<m)->e∉l ->
  l.Pairwise (λ a b=>0<(ab S).tr m a b)->(bh S m e l).Pairwise (λ a b=>0<(ab S).tr m a b)
 |[],_,_,_=>by simp[bh]
 |a :: r,hm,hn,hp=>by
  rw[FP]at hp
  have ha:=hm a (by simp)
  have he:=hm e (by simp)
  rw[bh]
  split
  ·rename_i ht
   rw[lY]at ht
   rw[FP]
   refine⟨?_,jg k up r (λ x hx=>hm x ?_) (λ h=>hn (EQ _ h)) hp.2⟩
   ·intro x hx
    rcases ES.1 ((fF S m e r).mem_iff.1 hx) with h|h
    ·subst h;exact ht
    ·exact hp.1 x h
   ·rcases ES.1 hx with h|h
    ·subst h;simp
    ·simp[h]
  ·rename_i ht
   rw[lY]at ht
   have hne:a≠e:=λ h=>hn (by simp[h])
   have hz:(ab S).tr m a e≠0:=pC k ha.1 he.1 hne (by cases up<;>simp at ha he<;>omega)
   have t1:0<(ab S).tr m e a:=by rw[dm];omega
   rw[FP]
   refine⟨?_,FP.2 hp⟩
   intro x hx
   rcases ES.1 hx with h|h
   ·subst h;exact t1
   ·have t2:=hp.1 x h
    have hx':=hm x (by simp[h])
    rw[tX]at t1 t2 ⊢
    cases up with
    |true =>
     simp at ha he hx'
     exact mI (oz k he.1 he.2) (oz k ha.1 ha.2) (oz k hx'.1 hx'.2) t1 t2
    |false =>
     simp at ha he hx'
     exact mF (pf k he.1 he.2) (pf k ha.1 ha.2) (pf k hx'.1 hx'.2) t1 t2
theorem fc {S:Plan}(k:Kept S){m:Nat}(up:Bool):∀(l acc:List Nat),(∀a∈acc++l,(ab S).J m a/\if up then m<a else a<m)->(acc++l).Nodup ->
  acc.Pairwise (λ a b=>0<(ab S).tr m a b)->(l.foldl (λ ring e=>bh S m e ring) acc).Pairwise (λ a b=>0<(ab S).tr m a b)
 |[],acc,_,_,h=>h
 |e :: r,acc,hm,hn,hp=>by
  rw[G3]
  have pm:=fF S m e acc
  have hen:e∉acc:=by
   intro h
   rw[List.nodup_append]at hn
   exact hn.2.2 e h e (by simp) rfl
  have pm2:(bh S m e acc++r).Perm (acc++e :: r) :=
   (pm.append_right r).trans (List.perm_middle (a:=e) (l₁:=acc) (l₂:=r)).symm
  refine fc k up r _ ?_ ?_ ?_
  ·intro a ha
   exact hm a (pm2.mem_iff.1 ha)
  ·exact pm2.nodup_iff.2 hn
  ·refine jg k up acc ?_ hen hp
   intro a ha
   apply hm
   rcases ES.1 ha with h|h
   ·simp[h]
   ·simp[h]
theorem lI {S:Plan}(k:Kept S)(m:Nat):(aj S m).Perm (S.near m):=by
 unfold aj
 refine((cQ S m _).append (cQ S m _)).trans ?_
 have h:(S.near m).filter (λ e=>decide (e<m))=(S.near m).filter (λ e=>!decide (m<e)):=by
  apply List.filter_congr
  intro x hx
  have:=(bn S k).ne ((fW k).1 hx)
  by_cases h:m<x
  ·simp[h];omega
  ·simp[h];omega
 rw[h]
 exact List.filter_append_perm _ _
theorem lC {S:Plan}(k:Kept S)(m:Nat):(aj S m).Pairwise (λ b w=>Bef (dir S m b) (dir S m w) /\
  ((m<b/\w<m)\/(((m<b/\m<w)\/(b<m/\w<m))/\0<(ab S).tr m b w))):=by
 unfold aj
 rw[FY]
 have m1:∀x∈sortTurn S m ((S.near m).filter λ e=>decide (m<e)),(ab S).J m x/\m<x:=by
  intro x hx
  have:=Fq.1 ((cQ S m _).mem_iff.1 hx)
  exact⟨(fW k).1 this.1,by simpa using this.2⟩
 have m2:∀x∈sortTurn S m ((S.near m).filter λ e=>decide (e<m)),(ab S).J m x/\x<m:=by
  intro x hx
  have:=Fq.1 ((cQ S m _).mem_iff.1 hx)
  exact⟨(fW k).1 this.1,by simpa using this.2⟩
 refine⟨?_,?_,?_⟩
 ·have h:=fc k (m:=m) true ((S.near m).filter λ e=>decide (m<e)) [] (by
   intro a ha
   simp only[GA]at ha
   have:=Fq.1 ha
   exact⟨(fW k).1 this.1,by simpa using this.2⟩) (by rw[GA];exact(m8 k m).filter _) List.Pairwise.nil
  refine Hx ?_ h
  intro a b ha hb hab
  have h1:=m1 a ha
  have h2:=m1 b hb
  refine⟨FV (Go ⟨oz k h1.1 h1.2,oz k h2.1 h2.2,?_⟩),FV ⟨Go ⟨h1.2,h2.2⟩,hab⟩⟩
  rw[<-tX];exact hab
 ·have h:=fc k (m:=m) false ((S.near m).filter λ e=>decide (e<m)) [] (by
   intro a ha
   simp only[GA]at ha
   have:=Fq.1 ha
   exact⟨(fW k).1 this.1,by simpa using this.2⟩) (by rw[GA];exact(m8 k m).filter _) List.Pairwise.nil
  refine Hx ?_ h
  intro a b ha hb hab
  have h1:=m2 a ha
  have h2:=m2 b hb
  refine⟨FV (FV ⟨pf k h1.1 h1.2,pf k h2.1 h2.2,?_⟩),FV ⟨FV ⟨h1.2,h2.2⟩,hab⟩⟩
  rw[<-tX];exact hab
 ·intro a ha b hb
  have h1:=m1 a ha
  have h2:=m2 b hb
  exact⟨Go ⟨oz k h1.1 h1.2,pf k h2.1 h2.2⟩,Go ⟨h1.2,h2.2⟩⟩
theorem cD {S:Plan}(k:Kept S):lQ (ab S) (aj S) where
 mem:=by
  intro u w
  rw[(lI k u).mem_iff,fW k]
 sorted:=by
  intro u
  refine(lC k u).imp ?_
  intro b w h
  have hne:b≠w:=by
   intro e;subst e
   rcases h.2 with h|h
   ·omega
   ·rw[cN]at h;omega
  refine⟨?_,?_,hne⟩
  ·unfold Dr.pre
   apply dqt
   exact FV h.2
  ·unfold Dr.pre
   apply dqf
   have:=dm (ab S) u b w
   omega
theorem g7 {f:Nat->Int×Int}{R:Int×Int}{y:Nat}:∀(l:List Nat) (a:Nat),(∀b∈a :: l,b≠y->sV R (f y) (f b))->y∈a :: l ->
  l.foldl (λ(a b:Nat)=>if sooner R (f b) (f a)=true then b else a) a=y
 |[],a,h,hy=>by
  simp at hy;simp[hy]
 |b :: r,a,h,hy=>by
  rw[G3]
  by_cases ha:a=y
  ·subst ha
   by_cases hb:b=a
   ·subst hb
    simp only[ite_self]
    exact g7 r b (λ c hc=>h c (by rcases ES.1 hc with h|h<;>simp[h])) (by simp)
   ·have:=(h b (by simp) hb).2
    rw[EM (by rw[this];simp)]
    exact g7 r a (λ c hc=>h c (by rcases ES.1 hc with h|h<;>simp[h])) (by simp)
  ·by_cases hb:b=y
   ·subst hb
    have:=(h a (by simp) ha).1
    rw[EU this]
    exact g7 r b (λ c hc=>h c (by rcases ES.1 hc with h|h<;>simp[h])) (by simp)
   ·have hr:y∈r:=by
     rcases ES.1 hy with h1|h1
     ·exact absurd h1.symm ha
     ·rcases ES.1 h1 with h2|h2
      ·exact absurd h2.symm hb
      ·exact h2
    refine g7 r _ ?_ (by simp[hr])
    intro c hc
    apply h
    rcases ES.1 hc with h1|h1
    ·subst h1;split<;>simp
    ·simp[h1]
theorem mM {S:Plan}(k:Kept S){u v:Nat}(hu:u∈aj S v):∀b∈aj S v,b≠bE (aj S v) u->sV (dir S v u) (dir S v (bE (aj S v) u)) (dir S v b):=by
 intro b hb hne
 obtain⟨l1,l2,e,hn⟩:=jb hu
 have hp:=(lC k v).imp (λ h=>h.1)
 rw[e]at hp hb hne ⊢
 by_cases h1:l1=[]
 ·subst h1
  simp only[GA]at *
  rw[iY]at hne ⊢
  by_cases h2:l2=[]
  ·subst h2;simp at *;exact absurd hb hne
  ·have hy:(u :: l2).getLast (by simp)=l2.getLast h2:=List.getLast_cons h2
   rw[hy]at hne ⊢
   rw[FP]at hp
   rcases ES.1 hb with h3|h3
   ·subst h3
    have:=hp.1 _ (GR h2)
    have h4:=j5 this
    refine bJ ?_
    rw[pp]
    ·omega
    ·rcases this with x|x|x
     ·exact Go x.1
     ·exact Go x.1
     ·exact FV x.1
   ·have hall:(l2.dropLast++[l2.getLast h2]).Pairwise (λ b w=>Bef (dir S v b) (dir S v w)):=by
     rw[FJ];exact hp.2
    rw[FY]at hall
    have hb':b∈l2.dropLast:=by
     have hx:b∈l2.dropLast++[l2.getLast h2]:=by
      rw[FJ];exact h3
     rcases Fk.1 hx with hx|hx
     ·exact hx
     ·simp at hx;exact absurd hx hne
    exact Du (hp.1 b h3) (hall.2.2 b hb' _ (by simp)) (hp.1 _ (GR h2)) mP
 ·rw[iS hn h1]at hne ⊢
  rw[FY,FP]at hp
  obtain⟨p1,p2,p3⟩:=hp
  have hyu:=p3 _ (GR h1) u (by simp)
  rcases Fk.1 hb with h3|h3
  ·have hall:(l1.dropLast++[l1.getLast h1]).Pairwise (λ b w=>Bef (dir S v b) (dir S v w)):=by
    rw[FJ];exact p1
   rw[FY]at hall
   have hb':b∈l1.dropLast:=by
    have hx:b∈l1.dropLast++[l1.getLast h1]:=by
     rw[FJ];exact h3
    rcases Fk.1 hx with hx|hx
    ·exact hx
    ·simp at hx;exact absurd hx hne
   exact Do (hall.2.2 b hb' _ (by simp)) hyu (p3 b h3 u (by simp)) mP
  ·rcases ES.1 h3 with h4|h4
   ·subst h4
    have h5:=j5 hyu
    refine bJ ?_
    rw[pp (r:=dir S v b)]
    ·omega
    ·rcases hyu with x|x|x
     ·exact FV x.2
     ·exact Go x.2.1
     ·exact FV x.2.1
   ·exact Di hyu (p2.1 b h4) (p3 _ (GR h1) b (by simp[h4])) mP
theorem yp {S:Plan}(k:Kept S){u v:Nat}(h:(ab S).J u v):S.next u v=bE (aj S v) u:=by
 have g:=bn S k
 have r:=cD k
 have hu:u∈aj S v:=r.mem.2 (g.symm h)
 have hs:=mM k hu
 have hm:=kZ hu
 have pm:=lI k v
 unfold Plan.next
 cases hn:S.near v with
 |nil =>
  rw[hn]at pm
  have:=pm.mem_iff.1 hu;cases this
 |cons a l =>
  rw[hn]at pm
  exact g7 (f:=λ x=>dir S v x) l a (λ b hb hne=>hs b (pm.mem_iff.2 hb) hne) (pm.mem_iff.1 hm)
open Gla
theorem bC {α:Type}[DecidableEq α]:∀{l m:List α},l.Nodup->(∀x∈l,x∈m)->l.length<=m.length
 |[],_,_,_=>by simp
 |a :: r,m,hn,hs=>by
  rw[Ge]at hn
  have ha:a∈m:=hs a (by simp)
  have:=bC (l:=r) (m:=m.erase a) hn.2 (by
   intro x hx
   have hne:x≠a:=by intro e;subst e;exact hn.1 hx
   exact(List.mem_erase_of_ne hne).2 (hs x (by simp[hx])))
  rw[List.length_erase_of_mem ha]at this
  have:0<m.length:=List.length_pos_of_mem ha
  simp;omega
theorem iT {S:Plan}{a b:Nat}:(a,b)∈ways S↔(ab S).J a b:=by
 unfold ways
 rw[Iq]
 constructor
 ·rintro⟨l,hl,h⟩
  simp at h
  rcases h with h|h
  ·left;rw[h];exact hl
  ·right;rw[h.1,h.2];exact hl
 ·rintro(h|h)
  ·exact⟨_,h,by simp⟩
  ·exact⟨_,h,by simp⟩
theorem lD (S:Plan):(ways S).length=2*S.lines.length:=by
 unfold ways
 induction S.lines with
 |nil=>rfl
 |cons a r ih=>rw[List.flatMap_cons,EN,ih];simp;omega
section
variable  {S:Plan}(k:Kept S)
include k
theorem kU {e:ao}(he:(ab S).J e.1 e.2):∀i j,aE (aj S) e i=aE (aj S) e (i+j)->aE (aj S) e j=e
 |0,j,h=>by rw[Gv]at h;exact h.symm
 |i+1,j,h=>by
  have g:=bn S k
  have r:=cD k
  have e1:i+1+j=(i+j)+1:=by omega
  rw[e1,fK,fK]at h
  exact kU he i j (l5 g r (eQ g r he _) (eQ g r he _) h)
theorem rX {e:ao}(he:(ab S).J e.1 e.2):∃N,0<N/\N<=2*S.lines.length/\aE (aj S) e N=e:=by
 have g:=bn S k
 have r:=cD k
 apply bcn
 intro hno
 have hd:∀a b,0<=a->a<b->b<0+(2*S.lines.length+1)->aE (aj S) e a≠aE (aj S) e b:=by
  intro a b _ hab hb heq
  apply hno
  refine⟨b-a,by omega,by omega,kU k he a (b-a) ?_⟩
  have:a+(b-a)=b:=by omega
  rw[this];exact heq
 have nd:=fM (aj S) e (2*S.lines.length+1) 0 hd
 have hl:=bC nd (m:=ways S) (by
  intro x hx
  obtain⟨j,_,_,rfl⟩:=(bO _ _ _ _ _).1 hx
  exact iT.2 (eQ g r he j))
 have seg_len:∀n i,(seg (aj S) e i n).length=n:=by
  intro n;induction n with
  |zero=>intro i;rfl
  |succ n ih=>intro i;rw[seg,Ft,ih]
 rw[seg_len,lD]at hl
 omega
theorem qg {e:ao}(he:(ab S).J e.1 e.2):∃N,0<N/\N<=2*S.lines.length/\aE (aj S) e N=e /\
  ∀m,0<m->m<N->aE (aj S) e m≠e:=by
 have step:∀n,(∃N,0<N/\N<=n/\aE (aj S) e N=e)->∃N,0<N/\N<=n/\aE (aj S) e N=e/\∀m,0<m->m<N->aE (aj S) e m≠e:=by
  intro n
  induction n with
  |zero=>rintro⟨N,h1,h2,_⟩;omega
  |succ n ih =>
   rintro⟨N,h1,h2,h3⟩
   by_cases hx:∃N,0<N/\N<=n/\aE (aj S) e N=e
   ·obtain⟨N,a,b,c,d⟩:=ih hx
    exact⟨N,a,by omega,c,d⟩
   ·refine⟨N,h1,h2,h3,λ m m1 m2 m3=>hx ⟨m,m1,by omega,m3⟩⟩
 exact step _ (rX k he)
end
theorem cE (ring:Nat->List Nat)(e:ao):∀n i,(seg ring e i n).length=n
 |0,_=>rfl
 |n+1,i=>by rw[seg,Ft,cE ring e n]
theorem ox {S:Plan}(k:Kept S){e:ao}(he:(ab S).J e.1 e.2){N:Nat}(h0:0<N)(hN:aE (aj S) e N=e)
  (hm:∀m,0<m->m<N->aE (aj S) e m≠e):∀n i,i<N->N<=i+n->S.round n e (aE (aj S) e i)=(seg (aj S) e i (N-i)).map (·.1)
 |0,i,h1,h2=>by omega
 |n+1,i,h1,h2=>by
  have g:=bn S k
  have r:=cD k
  have hj:=eQ g r he i
  rw[Plan.round]
  have e1:((aE (aj S) e i).2,S.next (aE (aj S) e i).1 (aE (aj S) e i).2)=aE (aj S) e (i+1):=by
   rw[yp k hj];rfl
  simp only[e1]
  have e2:N-i=(N-(i+1))+1:=by omega
  rw[e2,seg,Fl]
  congr 1
  by_cases h:i+1=N
  ·rw[EU (by rw[h,hN]),h];simp[seg]
  ·rw[EM (hm (i+1) (by omega) (by omega))]
   exact ox k he h0 hN hm n (i+1) (by omega) (by omega)
def rnd (S:Plan)(e:ao):List Nat:=S.round (2*S.lines.length+1) e e
def orb (S:Plan)(e:ao):List ao:=seg (aj S) e 0 (rnd S e).length
structure Per (S:Plan)(e:ao)(N:Nat):Prop where
 pos:0<N
 back:aE (aj S) e N=e
 dist:∀a b,a<b->b<N->aE (aj S) e a≠aE (aj S) e b
 rnd:rnd S e=(seg (aj S) e 0 N).map (·.1)
 len:(WL.rnd S e).length=N
 orb:orb S e=seg (aj S) e 0 N
theorem di {S:Plan}(k:Kept S){e:ao}(he:(ab S).J e.1 e.2):Per S e (rnd S e).length:=by
 obtain⟨N,h0,hL,hN,hm⟩:=qg k he
 have hr:rnd S e=(seg (aj S) e 0 N).map (·.1):=by
  have:=ox k he h0 hN hm (2*S.lines.length+1) 0 h0 (by omega)
  simpa [rnd,aE] using this
 have hl:(rnd S e).length=N:=by rw[hr,lmp,cE]
 rw[hl]
 refine⟨h0,hN,?_,hr,hl,?_⟩
 ·intro a b hab hb heq
  have:=kU k he a (b-a) (by rw[heq];congr 1;omega)
  exact hm (b-a) (by omega) (by omega) this
 ·unfold orb;rw[hl]
theorem fZ (ring:Nat->List Nat)(e:ao)(i:Nat):∀j,aE ring e (i+j)=aE ring (aE ring e i) j
 |0=>rfl
 |j+1=>by rw[<-Nat.add_assoc,fK,fZ ring e i j];rfl
theorem qQ {ring:Nat->List Nat}{e:ao}{N:Nat}(hN:aE ring e N=e):∀m,aE ring e (N*m)=e
 |0=>rfl
 |m+1=>by rw[Nat.mul_succ,fZ,qQ hN m,hN]
theorem qp {ring:Nat->List Nat}{e:ao}{N:Nat}(hN:aE ring e N=e)(h0:0<N)(j:Nat):aE ring e j=aE ring e (j % N):=by
 have:j=N*(j / N)+j % N:=(Nat.div_add_mod j N).symm
 conv=>lhs;rw[this]
 rw[fZ,qQ hN]
theorem dY {S:Plan}(k:Kept S){e x:ao}(he:(ab S).J e.1 e.2):x∈orb S e↔∃j,x=aE (aj S) e j:=by
 have p:=di k he
 rw[p.orb,bO]
 constructor
 ·rintro⟨j,_,_,h⟩;exact⟨j,h⟩
 ·rintro⟨j,h⟩
  refine⟨j % (rnd S e).length,FR _,?_,?_⟩
  ·rw[Gv];exact Nat.mod_lt _ p.pos
  ·rw[h];exact qp p.back p.pos j
theorem gW {S:Plan}(k:Kept S){e:ao}(he:(ab S).J e.1 e.2):e∈orb S e:=(dY k he).2 ⟨0,rfl⟩
theorem fP {S:Plan}(k:Kept S){e x:ao}(he:(ab S).J e.1 e.2)(h:x∈orb S e):(ab S).J x.1 x.2:=by
 obtain⟨j,rfl⟩:=(dY k he).1 h
 exact eQ (bn S k) (cD k) he j
theorem eA {S:Plan}(k:Kept S){e x:ao}(he:(ab S).J e.1 e.2)(h:x∈orb S e):e∈orb S x:=by
 have hx:=fP k he h
 have p:=di k he
 rw[p.orb,bO]at h
 obtain⟨j,_,h2,rfl⟩:=h
 refine(dY k hx).2 ⟨(rnd S e).length-j,?_⟩
 rw[<-fZ]
 have:j+((rnd S e).length-j)=(rnd S e).length:=by omega
 rw[this,p.back]
theorem fL {S:Plan}(k:Kept S){e x y:ao}(he:(ab S).J e.1 e.2)(h:x∈orb S e)(h2:y∈orb S x):y∈orb S e:=by
 have hx:=fP k he h
 obtain⟨i,rfl⟩:=(dY k he).1 h
 obtain⟨j,rfl⟩:=(dY k hx).1 h2
 exact(dY k he).2 ⟨i+j,by rw[fZ]⟩
def prs (l:List Nat):List ao:=l.zip (l.drop 1++l.take 1)
theorem rs (ring:Nat->List Nat)(e:ao):∀n i,((seg ring e i (n+1)).map (·.1)).zip (((seg ring e i (n+1)).map (·.1)).drop 1++[(aE ring e (i+n+1)).1])=seg ring e i (n+1)
 |0,i=>by
  simp[seg]
  exact Prod.ext rfl (dS ring e i)
 |n+1,i=>by
  have ih:=rs ring e n (i+1)
  rw[seg,Fl,List.drop_one,List.tail_cons]
  have e0:(seg ring e (i+1) (n+1)).map (·.1)=(aE ring e (i+1)).1 :: ((seg ring e (i+1) (n+1)).map (·.1)).drop 1:=by
   rw[seg];rfl
  have e1:i+1+n+1=i+(n+1)+1:=by omega
  rw[e1]at ih
  conv=>lhs;rw[e0]
  rw[Ip,GN,<-e0,ih]
  congr 1
theorem iy {S:Plan}(k:Kept S){e:ao}(he:(ab S).J e.1 e.2):prs (rnd S e)=orb S e:=by
 have p:=di k he
 obtain⟨n,hn⟩:∃n,(rnd S e).length=n+1:=⟨(rnd S e).length-1,by have:=p.pos;omega⟩
 have hr:=p.rnd
 have hb:=p.back
 rw[hn]at hr hb
 unfold prs
 have ht:(rnd S e).take 1=[(aE (aj S) e (0+n+1)).1]:=by
  rw[hr,Gv,hb,seg];rfl
 rw[ht,hr,rs,p.orb,hn]
theorem eN (ring:Nat->List Nat)(e:ao):∀a b i,seg ring e i (a+b)=seg ring e i a++seg ring e (i+a) b
 |0,b,i=>by simp[seg]
 |a+1,b,i=>by
  have:a+1+b=(a+b)+1:=by omega
  rw[this,seg,seg,eN ring e a b (i+1),Ip]
  congr 2;congr 1;omega
theorem kL (ring:Nat->List Nat)(e:ao)(j:Nat):∀n i,seg ring (aE ring e j) i n=seg ring e (j+i) n
 |0,i=>rfl
 |n+1,i=>by
  rw[seg,seg,kL ring e j n (i+1),<-fZ];rfl
theorem nj {ring:Nat->List Nat}{e:ao}{N:Nat}(hN:aE ring e N=e):∀n i,seg ring e (N+i) n=seg ring e i n
 |0,i=>rfl
 |n+1,i=>by
  have:N+i+1=N+(i+1):=by omega
  rw[seg,seg,this,nj hN n (i+1),fZ,hN]
theorem mB {S:Plan}(k:Kept S){e x:ao}(he:(ab S).J e.1 e.2)(h:x∈orb S e):(rnd S x).length=(rnd S e).length:=by
 have le:∀{a b:ao},(ab S).J a.1 a.2->b∈orb S a->(orb S b).length<=(orb S a).length:=by
  intro a b ha hb
  have hbj:=fP k ha hb
  have pb:=di k hbj
  apply bC
  ·rw[pb.orb];exact fM _ _ _ _ (λ x y _ h1 h2=>pb.dist x y h1 (by omega))
  ·intro y hy;exact fL k ha hb hy
 have hx:=fP k he h
 have l1:=le he h
 have l2:=le hx (eA k he h)
 unfold orb at l1 l2
 rw[cE,cE]at l1 l2
 omega
theorem yE {S:Plan}(k:Kept S){e:ao}(he:(ab S).J e.1 e.2){j:Nat}(hj:j<(rnd S e).length) :
  rnd S (aE (aj S) e j)=(rnd S e).drop j++(rnd S e).take j:=by
 have g:=bn S k
 have r:=cD k
 have p:=di k he
 have hx:=eQ g r he j
 have hm:aE (aj S) e j∈orb S e:=(dY k he).2 ⟨j,rfl⟩
 have px:=di k hx
 have hl:=mB k he hm
 rw[px.rnd,hl,kL]
 obtain⟨m,hm'⟩:∃m,(rnd S e).length=j+m:=⟨(rnd S e).length-j,by omega⟩
 have e1:seg (aj S) e (j+0) (rnd S e).length=seg (aj S) e j m++seg (aj S) e 0 j:=by
  rw[hm']
  have:j+m=m+j:=by omega
  rw[this,Nat.add_zero,eN]
  congr 1
  have h2:=nj p.back j 0
  rw[Nat.add_zero,hm']at h2;exact h2
 have e2:rnd S e=(seg (aj S) e 0 j).map (·.1)++(seg (aj S) e j m).map (·.1):=by
  rw[p.rnd,hm',eN,Fi,Gv]
 have hl1:((seg (aj S) e 0 j).map (·.1)).length=j:=by rw[lmp,cE]
 rw[e1,Fi]
 conv=>rhs;rw[e2]
 rw[List.drop_left' hl1,List.take_left' hl1]
open Gla
structure A2 (S:Plan)(ok:Nat->Prop)(m:Nat->Bool)(c:Bool)(todo:List Nat)(seen:Array Bool):Prop where
 t:∀x∈todo,ok x/\m x=c
 s:∀j,seen[j]? = some true->ok j->m j=c
 f:∀j,seen[j]? = some false->ok j
theorem sJ {S:Plan}{i:Nat}{j:Nat}(h:j∈S.nears.getD i []):j∈S.near i:=by
 unfold Plan.nears at h
 rw[Gg]at h
 simp only[List.getElem?_toArray,E2]at h
 cases hr:(Fe S.pts.length)[i]? with
 |none=>rw[hr]at h;simp at h
 |some x =>
  rw[hr]at h
  have:x=i:=by
   have:=List.getElem?_eq_some_iff.1 hr
   obtain⟨a,b⟩:=this
   rw[List.getElem_range]at b;exact b.symm
  subst this;simpa using h
theorem ot {S:Plan}{ok:Nat->Prop}{m:Nat->Bool}{c:Bool}(he:∀a b,(ab S).J a b->ok a->ok b->m a=m b){i:Nat}(hi:ok i/\m i=c) :
  ∀(l:List Nat),(∀j∈l,(ab S).J i j)->∀(z:List Nat×Array Bool),A2 S ok m c z.1 z.2 ->
  A2 S ok m c (l.foldl (λ(a:List Nat×Array Bool) (j:Nat)=>if a.2.getD j true=true then a else (j :: a.1,a.2.setIfInBounds j true)) z).1
   (l.foldl (λ(a:List Nat×Array Bool) (j:Nat)=>if a.2.getD j true=true then a else (j :: a.1,a.2.setIfInBounds j true)) z).2
 |[],_,z,h=>h
 |j :: r,hl,z,h=>by
  rw[G3]
  refine ot he hi r (λ x hx=>hl x (by simp[hx])) _ ?_
  split
  ·exact h
  ·rename_i hs
   have hjf:z.2[j]? = some false:=by
    rw[Gg]at hs
    cases hz:z.2[j]? with
    |none=>rw[hz]at hs;simp at hs
    |some b=>cases b with
     |true=>rw[hz]at hs;simp at hs
     |false=>rfl
   have hok:=h.f j hjf
   have hm:m j=c:=by rw[<-he i j (hl j (by simp)) hi.1 hok];exact hi.2
   constructor
   ·intro x hx
    rcases ES.1 hx with e|e
    ·subst e;exact⟨hok,hm⟩
    ·exact h.t x e
   ·intro x hx hokx
    by_cases e:j=x
    ·subst e;exact hm
    ·rw[F1 e]at hx
     exact h.s x hx hokx
   ·intro x hx
    by_cases e:j=x
    ·subst e;exact hok
    ·rw[F1 e]at hx
     exact h.f x hx
theorem jf {S:Plan}(k:Kept S){ok:Nat->Prop}{m:Nat->Bool}{c:Bool}(he:∀a b,(ab S).J a b->ok a->ok b->m a=m b) :
  ∀(n:Nat) (todo:List Nat) (seen:Array Bool),A2 S ok m c todo seen->∀j,(spread S.nears n todo seen)[j]? = some true->ok j->m j=c
 |0,todo,seen,h=>by intro j;rw[spread];exact h.s j
 |n+1,todo,seen,h=>by
  cases todo with
  |nil=>exact h.s
  |cons x r =>
   have hx:=h.t x (by simp)
   refine jf k he n _ _ (ot he hx _ (λ j hj=>(fW k).1 (sJ hj)) (r,seen) ⟨?_,h.s,h.f⟩)
   intro y hy;exact h.t y (by simp[hy])
theorem oH:∀(l:List Nat) (z:List Nat×Array Bool),
  (l.foldl (λ(a:List Nat×Array Bool) (j:Nat)=>if a.2.getD j true=true then a else (j :: a.1,a.2.setIfInBounds j true)) z).2.size=z.2.size
 |[],z=>rfl
 |j :: r,z=>by
  rw[G3,oH r];split
  ·rfl
  ·simp
theorem lE {near:Array (List Nat)}:∀(n:Nat) (todo:List Nat) (seen:Array Bool),(spread near n todo seen).size=seen.size
 |0,_,_=>rfl
 |n+1,todo,seen=>by
  cases todo with
  |nil=>rfl
  |cons x r=>exact(lE n _ _).trans (oH _ _)
theorem wo {S:Plan}(k:Kept S)(h0:0<S.pts.length)
  (h9:(Fe S.pts.length).find? (λ(i:Nat)=>!((seenFrom S.nears S.pts.length 0 (noneSeen S.pts.length)).getD i false))=none):sw (ab S) (λ _=>True):=by
 intro m he
 have key:∀a,a<S.pts.length->m a=m 0:=by
  intro a ha
  have:=Ho.1 h9 a (by simpa using ha)
  have hs:(seenFrom S.nears S.pts.length 0 (noneSeen S.pts.length))[a]? = some true:=by
   rw[Gg]at this
   cases hz:(seenFrom S.nears S.pts.length 0 (noneSeen S.pts.length))[a]? with
   |none=>rw[hz]at this;simp at this
   |some b=>cases b with
    |true=>rfl
    |false=>rw[hz]at this;simp at this
  refine jf k (ok:=λ _=>True) (c:=m 0) he _ _ _ ⟨?_,?_,?_⟩ a hs trivial
  ·intro x hx;simp at hx;subst hx;exact⟨trivial,rfl⟩
  ·intro j hj _
   by_cases e:0=j
   ·subst e;rfl
   ·rw[F1 e]at hj
    unfold noneSeen at hj
    rw[Array.getElem?_replicate]at hj
    split at hj<;>simp at hj
  ·intro _ _;trivial
 intro a b ha hb _ _
 rw[key a ha,key b hb]
theorem vV {S:Plan}(k:Kept S)(h0:4<=S.pts.length){v:Nat}(hv:v<S.pts.length)
  (h10:cuts S.nears S.pts.length v=false):sw (ab S) (λ u=>u≠v):=by
 intro m he
 let s:=if v=0 then 1 else 0
 have hsv:s≠v:=by show(if v=0 then 1 else 0)≠v;split<;>omega
 have key:∀a,a<S.pts.length->a≠v->m a=m s:=by
  intro a ha hav
  unfold cuts at h10
  have hsz:(seenFrom S.nears S.pts.length (if v=0 then 1 else 0) ((noneSeen S.pts.length).setIfInBounds v true)).size=S.pts.length:=by
   unfold seenFrom;rw[lE];simp[noneSeen]
  have hs:(seenFrom S.nears S.pts.length (if v=0 then 1 else 0) ((noneSeen S.pts.length).setIfInBounds v true))[a]? = some true:=by
   have hlt:a<(seenFrom S.nears S.pts.length (if v=0 then 1 else 0) ((noneSeen S.pts.length).setIfInBounds v true)).size:=by rw[hsz];exact ha
   rw[Il hlt]
   cases hz:(seenFrom S.nears S.pts.length (if v=0 then 1 else 0) ((noneSeen S.pts.length).setIfInBounds v true))[a] with
   |true=>rfl
   |false =>
    exfalso
    have:(seenFrom S.nears S.pts.length (if v=0 then 1 else 0) ((noneSeen S.pts.length).setIfInBounds v true)).contains false=true:=by
     rw[Array.contains_iff_mem]
     rw[<-hz];exact Array.getElem_mem hlt
    rw[h10]at this;cases this
  refine jf k (ok:=λ u=>u≠v) (c:=m s) he _ _ _ ⟨?_,?_,?_⟩ a hs hav
  ·intro x hx
   have hx:x=s:=by simpa using hx
   subst hx;exact⟨hsv,rfl⟩
  ·intro j hj hjv
   by_cases e:s=j
   ·subst e;rfl
   ·rw[F1 e,F1 (Fj hjv)]at hj
    unfold noneSeen at hj
    rw[Array.getElem?_replicate]at hj
    split at hj<;>simp at hj
  ·intro j hj e
   subst e
   rw[F1 hsv,Array.getElem?_setIfInBounds_self]at hj
   split at hj<;>simp at hj
 intro a b ha hb hav hbv
 rw[key a ha hav,key b hb hbv]
theorem ip:∀(r:List Nat) (a m:Nat),m∈a :: r->(∀x∈a :: r,m<=x)->r.foldl min a=m
 |[],a,m,h,_=>by simp at h;simp[h]
 |b :: r,a,m,h,hm=>by
  rw[G3]
  apply ip r
  ·have h1:=hm a (by simp)
   have h2:=hm b (by simp)
   rcases ES.1 h with e|e
   ·subst e;simp;left;omega
   ·rcases ES.1 e with e|e
    ·subst e;simp;left;omega
    ·simp[e]
  ·intro x hx
   rcases ES.1 hx with e|e
   ·have h1:=hm a (by simp)
    have h2:=hm b (by simp)
    omega
   ·exact hm x (by simp[e])
theorem dW {m:Nat}{t:List Nat}(hm:∀x∈t,m<x){j:Nat}(hj:j<(m :: t).length) :
  fromLeast ((m :: t).drop j++(m :: t).take j)=m :: t:=by
 have hmem:∀x,x∈(m :: t).drop j++(m :: t).take j->x∈m :: t:=by
  intro x hx
  rcases Fk.1 hx with h|h
  ·exact GU h
  ·exact F8 h
 have hge:∀x,x∈(m :: t).drop j++(m :: t).take j->m<=x:=by
  intro x hx
  rcases ES.1 (hmem x hx) with e|e
  ·omega
  ·exact Iz (hm x e)
 by_cases h0:j=0
 ·subst h0
  simp only[List.drop_zero,List.take_zero,Gd]at *
  unfold fromLeast
  simp only
  rw[ip t m m (by simp) hge]
  simp
 ·obtain⟨i,rfl⟩:∃i,j=i+1:=⟨j-1,by omega⟩
  have hin:m∈(m :: t).drop (i+1)++(m :: t).take (i+1):=by simp
  have hno:m∉(m :: t).drop (i+1):=by
   intro h
   simp only[List.drop_succ_cons]at h
   have:=hm m (GU h);omega
  have hidx:((m :: t).drop (i+1)++(m :: t).take (i+1)).idxOf m=((m :: t).drop (i+1)).length:=by
   rw[List.take_succ_cons];exact lv hno
  generalize hL:(m :: t).drop (i+1)++(m :: t).take (i+1)=L at *
  unfold fromLeast
  cases L with
  |nil=>simp at hin
  |cons a r =>
   simp only
   rw[ip r a m hin hge,hidx,<-hL,List.drop_left,List.take_left,List.take_append_drop]
structure dq (S:Plan):Prop extends Kept S where
 pts4:4<=S.pts.length
 r6:frameOk S=true
 r9:(Fe S.pts.length).find? (λ(i:Nat)=>!((seenFrom S.nears S.pts.length 0 (noneSeen S.pts.length)).getD i false))=none
 r10:(Fe S.pts.length).find? (cuts S.nears S.pts.length)=none
theorem dq.conn {S:Plan}(k:dq S):sw (ab S) (λ _=>True):=wo k.toKept (by have:=k.pts4;omega) k.r9
theorem dq.but {S:Plan}(k:dq S):∀v,v<(ab S).n->sw (ab S) (λ u=>u≠v):=by
 intro v hv
 have:=Ho.1 k.r10 v (by simpa [ab] using hv)
 exact vV k.toKept k.pts4 hv (by simpa using this)
theorem kQ {S:Plan}(k:dq S){e:ao}(he:(ab S).J e.1 e.2):(rnd S e).Nodup:=by
 have p:=di k.toKept he
 have g:=bn S k.toKept
 have r:=cD k.toKept
 rw[p.rnd,List.Nodup,List.pairwise_map,Fs]
 have get:∀n i a (h:a<(seg (aj S) e i n).length),(seg (aj S) e i n)[a]=aE (aj S) e (i+a):=by
  intro n
  induction n with
  |zero=>intro i a h;simp[seg]at h
  |succ n ih =>
   intro i a h
   cases a with
   |zero=>rfl
   |succ a =>
    simp only[seg,List.getElem_cons_succ]
    rw[ih];congr 1;omega
 intro a b ha hb hab
 rw[get,get]
 rw[cE]at hb
 simpa using qV g r he p.back p.dist k.but hab hb
open Gla
theorem k6 {S:Plan}{l:List Nat}(hc:chained S l=true){i:Nat}(hi:i+1<l.length):(ab S).J l[i] l[i+1]:=by
 unfold chained at hc
 rw[FS]at hc
 have hm:(l[i],l[i+1])∈l.zip (l.drop 1):=by
  rw[List.mem_iff_getElem]
  refine⟨i,by simp;omega,?_⟩
  rw[HG,Hy]
  congr 2;omega
 have:=hc _ hm
 unfold Plan.joined at this
 rw[Hq]at this
 simp only at this
 rcases Nat.le_total l[i] l[i+1] with h|h
 ·rw[Fg h,FO h]at this;exact Go this
 ·rw[Ff h,Gf h]at this;exact FV this
theorem a7 {S:Plan}{on:Pt->Bool}{b:Nat}:b∈edgePts S on↔b<S.pts.length/\on (S.pt b)=true:=by
 unfold edgePts;rw[Fq];simp
theorem ie {S:Plan}{on:Pt->Bool}:(edgePts S on).Pairwise (· < ·):=by
 unfold edgePts;exact List.pairwise_lt_range.filter _
theorem mj {S:Plan}{on:Pt->Bool}(hc:chained S (edgePts S on)=true){b c:Nat}(hb:b∈edgePts S on)(hcm:c∈edgePts S on)(h:c<b) :
  ∃k,k∈edgePts S on/\k<b/\(ab S).J k b:=by
 obtain⟨i,hi,ei⟩:=Fh hb
 obtain⟨j,hj,ej⟩:=Fh hcm
 have hlt:=Fs.1 (ie (S:=S) (on:=on))
 have hji:j<i:=by
  apply bcn;intro hn
  rcases Nat.lt_or_eq_of_le (Nat.le_of_not_lt hn) with h'|h'
  ·have:=hlt i j hi hj h';omega
  ·subst h';omega
 obtain⟨i',rfl⟩:∃i',i=i'+1:=⟨i-1,by omega⟩
 refine⟨(edgePts S on)[i'],Fm _,?_,?_⟩
 ·have:=hlt i' (i'+1) (by omega) hi (by omega);omega
 ·have:=k6 hc hi
  rw[ei]at this;exact this
theorem mH {S:Plan}{on:Pt->Bool}(hc:chained S (edgePts S on)=true){b c:Nat}(hb:b∈edgePts S on)(hcm:c∈edgePts S on)(h:b<c) :
  ∃k,k∈edgePts S on/\b<k/\(ab S).J b k:=by
 obtain⟨i,hi,ei⟩:=Fh hb
 obtain⟨j,hj,ej⟩:=Fh hcm
 have hlt:=Fs.1 (ie (S:=S) (on:=on))
 have hji:i<j:=by
  apply bcn;intro hn
  rcases Nat.lt_or_eq_of_le (Nat.le_of_not_lt hn) with h'|h'
  ·have:=hlt j i hj hi h';omega
  ·subst h';omega
 refine⟨(edgePts S on)[i+1],Fm _,?_,?_⟩
 ·have:=hlt i (i+1) (by omega) (by omega) (by omega);omega
 ·have:=k6 hc (i:=i) (by omega)
  rw[ei]at this;exact this
structure uB (S:Plan):Prop where
 inw:∀{i},i<S.pts.length->(S.pt i).x<=S.w/\(S.pt i).y<=S.h
 bot:∀{b},b<S.pts.length->(S.pt b).y=0->(S.pt b).x≠0->∃k,(ab S).J b k/\(S.pt k).y=0/\(S.pt k).x<(S.pt b).x
 lef:∀{b},b<S.pts.length->(S.pt b).x=0->(S.pt b).y≠S.h->∃k,(ab S).J b k/\(S.pt k).x=0/\(S.pt b).y<(S.pt k).y
 top:∀{b},b<S.pts.length->(S.pt b).y=S.h->(S.pt b).x≠S.w->∃k,(ab S).J b k/\(S.pt k).y=S.h/\(S.pt b).x<(S.pt k).x
 rig:∀{b},b<S.pts.length->(S.pt b).x=S.w->(S.pt b).y≠0->∃k,(ab S).J b k/\(S.pt k).x=S.w/\(S.pt k).y<(S.pt b).y
 last:∃c,c+1=S.pts.length/\(S.pt c).x=S.w/\(S.pt c).y=S.h
theorem d8 {S:Plan}{p:Pt}(h:S.pts.contains p=true):∃c,c<S.pts.length/\S.pt c=p:=by
 rw[Hq]at h
 obtain⟨i,hi,e⟩:=Fh h
 exact⟨i,hi,by rw[bK S hi];exact e⟩
theorem iM {S:Plan}(k:Kept S)(h6:frameOk S=true):uB S:=by
 have hin:∀{i},i<S.pts.length->(S.pt i).x<=S.w/\(S.pt i).y<=S.h:=by
  intro i hi
  have:=(ck k.r4).1 (S.pt i) (by rw[bK S hi];exact Fm _)
  simpa using this
 unfold frameOk at h6
 simp only[EO]at h6
 obtain⟨c00,cw0,c0h,cwh,e1,e2,e3,e4⟩:=h6
 obtain⟨a0,a1,a2⟩:=d8 c00
 obtain⟨b0,b1,b2⟩:=d8 cw0
 obtain⟨c0,c1,c2⟩:=d8 c0h
 obtain⟨d0,d1,d2⟩:=d8 cwh
 have lt_of:∀{i j},i<S.pts.length->j<S.pts.length->((S.pt i).y<(S.pt j).y\/((S.pt i).y=(S.pt j).y/\(S.pt i).x<(S.pt j).x))->i<j:=by
  intro i j hi hj h
  rcases Nat.lt_trichotomy i j with h'|h'|h'
  ·exact h'
  ·subst h';omega
  ·have:=k.ord h' hi
   rw[eB]at this;omega
 have lt_to:∀{i j},i<j->j<S.pts.length->((S.pt i).y<(S.pt j).y\/((S.pt i).y=(S.pt j).y/\(S.pt i).x<(S.pt j).x)):=by
  intro i j h hj
  have:=k.ord h hj
  rw[eB]at this;exact this
 have g:=bn S k
 refine⟨hin,?_,?_,?_,?_,?_⟩
 ·intro b hb hy hx
  obtain⟨j,h1,h2,h3⟩:=mj e1 (b:=b) (c:=a0) (a7.2 ⟨hb,by simpa using hy⟩) (a7.2 ⟨a1,by rw[a2];rfl⟩)
   (lt_of a1 hb (by rw[a2];simp only;omega))
  have h1':=(a7.1 h1).2
  have:=lt_to h2 hb
  exact⟨j,g.symm h3,by simpa using h1',by simp at h1';omega⟩
 ·intro b hb hx hy
  have:=hin hb
  obtain⟨j,h1,h2,h3⟩:=mH e3 (b:=b) (c:=c0) (a7.2 ⟨hb,by simpa using hx⟩) (a7.2 ⟨c1,by rw[c2];rfl⟩)
   (lt_of hb c1 (by rw[c2];simp only;omega))
  have h1':=(a7.1 h1)
  have:=lt_to h2 h1'.1
  have h1'':=h1'.2
  exact⟨j,h3,by simpa using h1'',by simp at h1'';omega⟩
 ·intro b hb hy hx
  have:=hin hb
  obtain⟨j,h1,h2,h3⟩:=mH e2 (b:=b) (c:=d0) (a7.2 ⟨hb,by simpa using hy⟩) (a7.2 ⟨d1,by rw[d2];simp⟩)
   (lt_of hb d1 (by rw[d2];simp only;omega))
  have h1':=(a7.1 h1)
  have:=lt_to h2 h1'.1
  have h1'':=h1'.2
  exact⟨j,h3,by simpa using h1'',by simp at h1'';omega⟩
 ·intro b hb hx hy
  have:=hin hb
  obtain⟨j,h1,h2,h3⟩:=mj e4 (b:=b) (c:=b0) (a7.2 ⟨hb,by simpa using hx⟩) (a7.2 ⟨b1,by rw[b2];simp⟩)
   (lt_of b1 hb (by rw[b2];simp only;omega))
  have h1':=(a7.1 h1).2
  have:=lt_to h2 hb
  exact⟨j,g.symm h3,by simpa using h1',by simp at h1';omega⟩
 ·refine⟨d0,?_,by rw[d2],by rw[d2]⟩
  apply bcn;intro hn
  have hl:d0+1<S.pts.length:=by omega
  have h1:=lt_to (show d0<d0+1 by omega) hl
  have h2:=hin hl
  rw[d2]at h1;simp only at h1;omega
theorem gu {R k c:Int×Int}(h1:cr R k=0)(h2:R.1*k.1+R.2*k.2<0)(h3:0<=cr R c)(h4:cr R c=0->cr c k=0):sooner R c k=false:=by
 rw[dE,nt h1 h2]
 by_cases h:cr R c=0
 ·have:=h4 h
  have:half R c≠0:=by
   have e:¬R.1*c.2-R.2*c.1<0:=by unfold cr at h;omega
   unfold half;simp only[e,Ig];split
   ·omega
   ·split<;>omega
  omega
 ·rw[bI (by omega)];omega
theorem gn {R k c:Int×Int}(h1:0<cr R k)(h2:0<=cr R c)(h3:0<=cr c k)(h4:cr R c=0->0<=R.1*c.1+R.2*c.2):sooner R c k=false:=by
 rw[dE,bI h1]
 by_cases h:cr R c=0
 ·have h5:=h4 h
  have:half R c=3:=by
   have e:¬R.1*c.2-R.2*c.1<0:=by unfold cr at h;omega
   have e2:¬0<R.1*c.2-R.2*c.1:=by unfold cr at h;omega
   have e3:¬R.1*c.1+R.2*c.2<0:=by omega
   unfold half;simp only[e,e2,e3,Ig]
  omega
 ·rw[bI (by omega)];omega
def Fc (S:Plan)(a b:Nat):Prop :=
 ((S.pt a).y=0/\(S.pt b).y=0/\(S.pt b).x<(S.pt a).x)\/((S.pt a).x=0/\(S.pt b).x=0/\(S.pt a).y<(S.pt b).y) \/
 ((S.pt a).y=S.h/\(S.pt b).y=S.h/\(S.pt a).x<(S.pt b).x)\/((S.pt a).x=S.w/\(S.pt b).x=S.w/\(S.pt b).y<(S.pt a).y)
theorem zq {S:Plan}(k:Kept S)(f:uB S)(hw:0<S.w)(hh:0<S.h){a b:Nat}(hab:(ab S).J a b)(h:Fc S a b) :
  Fc S b (bE (aj S b) a):=by
 have g:=bn S k
 have r:=cD k
 have hb:b<S.pts.length:=g.lt (g.symm hab)
 have ha:=r.mem.2 (g.symm hab)
 have soon:=mM k ha
 have key:∀j,(ab S).J b j->sooner (dir S b a) (dir S b (bE (aj S b) a)) (dir S b j)=false->Fc S b j->Fc S b (bE (aj S b) a):=by
  intro j hj hs hf
  by_cases e:j=bE (aj S b) a
  ·rw[<-e];exact hf
  ·have:=(soon j (r.mem.2 hj) e).1
   rw[hs]at this;cases this
 have hc:(ab S).J b (bE (aj S b) a):=r.mem.1 (kZ ha)
 have hcn:bE (aj S b) a<S.pts.length:=g.lt (g.symm hc)
 have ic:=f.inw hcn
 have ib:=f.inw hb
 generalize bE (aj S b) a=c at *
 have mn:∀{x y:Int},0<=x->0<=y->0<=x*y:=λ h1 h2=>ER h1 h2
 rcases h with⟨y1,y2,y3⟩|⟨y1,y2,y3⟩|⟨y1,y2,y3⟩|⟨y1,y2,y3⟩
 ·
  by_cases e:(S.pt b).x=0
  ·obtain⟨j,hj,j1,j2⟩:=f.lef hb e (by omega)
   refine key j hj ?_ (FV (Go ⟨e,j1,j2⟩))
   rw[a9,a9,a9]
   have r1:(0:Int)<(ab S).X a-(ab S).X b:=by simp only[ab];omega
   have r2:(ab S).Y a-(ab S).Y b=0:=by simp only[ab];omega
   have k1:(ab S).X j-(ab S).X b=0:=by simp only[ab];omega
   have k2:(0:Int)<(ab S).Y j-(ab S).Y b:=by simp only[ab];omega
   have c1:(0:Int)<=(ab S).X c-(ab S).X b:=by simp only[ab];omega
   have c2:(0:Int)<=(ab S).Y c-(ab S).Y b:=by simp only[ab];omega
   rw[r2,k1]
   generalize (ab S).X a-(ab S).X b=rx at *
   generalize (ab S).Y j-(ab S).Y b=ky at *
   generalize (ab S).X c-(ab S).X b=cx at *
   generalize (ab S).Y c-(ab S).Y b=cy at *
   apply gn
   ·have:=EY r1 k2;simpa [cr] using this
   ·have:=mn (Hn r1) c2;simpa [cr] using this
   ·have:=mn c1 (Hn k2);simpa [cr] using this
   ·intro _;have:=mn (Hn r1) c1;simpa using this
  ·obtain⟨j,hj,j1,j2⟩:=f.bot hb y2 e
   refine key j hj ?_ (Go ⟨y2,j1,j2⟩)
   rw[a9,a9,a9]
   have r1:(0:Int)<(ab S).X a-(ab S).X b:=by simp only[ab];omega
   have r2:(ab S).Y a-(ab S).Y b=0:=by simp only[ab];omega
   have k1:(ab S).X j-(ab S).X b<0:=by simp only[ab];omega
   have k2:(ab S).Y j-(ab S).Y b=0:=by simp only[ab];omega
   have c2:(0:Int)<=(ab S).Y c-(ab S).Y b:=by simp only[ab];omega
   rw[r2,k2]
   generalize (ab S).X a-(ab S).X b=rx at *
   generalize (ab S).X j-(ab S).X b=kx at *
   generalize (ab S).X c-(ab S).X b=cx at *
   generalize (ab S).Y c-(ab S).Y b=cy at *
   apply gu
   ·simp[cr]
   ·have:=az _ _ r1 k1;simpa using this
   ·have:=mn (Hn r1) c2;simpa [cr] using this
   ·intro h
    simp[cr]at h ⊢
    rcases GL.1 h with h|h
    ·omega
    ·rw[h];simp
 ·
  by_cases e:(S.pt b).y=S.h
  ·obtain⟨j,hj,j1,j2⟩:=f.top hb e (by omega)
   refine key j hj ?_ (FV (FV (Go ⟨e,j1,j2⟩)))
   rw[a9,a9,a9]
   have r1:(ab S).X a-(ab S).X b=0:=by simp only[ab];omega
   have r2:(ab S).Y a-(ab S).Y b<0:=by simp only[ab];omega
   have k1:(0:Int)<(ab S).X j-(ab S).X b:=by simp only[ab];omega
   have k2:(ab S).Y j-(ab S).Y b=0:=by simp only[ab];omega
   have c1:(0:Int)<=(ab S).X c-(ab S).X b:=by simp only[ab];omega
   have c2:(ab S).Y c-(ab S).Y b<=0:=by simp only[ab];omega
   rw[r1,k2]
   generalize (ab S).Y a-(ab S).Y b=ry at *
   generalize (ab S).X j-(ab S).X b=kx at *
   generalize (ab S).X c-(ab S).X b=cx at *
   generalize (ab S).Y c-(ab S).Y b=cy at *
   apply gn
   ·have:=EY (show 0 < -ry by omega) k1;simp[cr];grind
   ·have:=mn (show 0<=-ry by omega) c1;simp[cr];grind
   ·have:=mn (show 0<=-cy by omega) (Hn k1);simp[cr];grind
   ·intro _;have:=mn (show 0<=-ry by omega) (show 0<=-cy by omega);simp;grind
  ·obtain⟨j,hj,j1,j2⟩:=f.lef hb y2 e
   refine key j hj ?_ (FV (Go ⟨y2,j1,j2⟩))
   rw[a9,a9,a9]
   have r1:(ab S).X a-(ab S).X b=0:=by simp only[ab];omega
   have r2:(ab S).Y a-(ab S).Y b<0:=by simp only[ab];omega
   have k1:(ab S).X j-(ab S).X b=0:=by simp only[ab];omega
   have k2:(0:Int)<(ab S).Y j-(ab S).Y b:=by simp only[ab];omega
   have c1:(0:Int)<=(ab S).X c-(ab S).X b:=by simp only[ab];omega
   rw[r1,k1]
   generalize (ab S).Y a-(ab S).Y b=ry at *
   generalize (ab S).Y j-(ab S).Y b=ky at *
   generalize (ab S).X c-(ab S).X b=cx at *
   generalize (ab S).Y c-(ab S).Y b=cy at *
   apply gu
   ·simp[cr]
   ·have:=EY (show 0 < -ry by omega) k2;simp;grind
   ·have:=mn (show 0<=-ry by omega) c1;simp[cr];grind
   ·intro h
    simp[cr]at h ⊢
    rcases GL.1 h with h|h
    ·omega
    ·rw[h];simp
 ·
  by_cases e:(S.pt b).x=S.w
  ·obtain⟨j,hj,j1,j2⟩:=f.rig hb e (by omega)
   refine key j hj ?_ (FV (FV (FV ⟨e,j1,j2⟩)))
   rw[a9,a9,a9]
   have r1:(ab S).X a-(ab S).X b<0:=by simp only[ab];omega
   have r2:(ab S).Y a-(ab S).Y b=0:=by simp only[ab];omega
   have k1:(ab S).X j-(ab S).X b=0:=by simp only[ab];omega
   have k2:(ab S).Y j-(ab S).Y b<0:=by simp only[ab];omega
   have c1:(ab S).X c-(ab S).X b<=0:=by simp only[ab];omega
   have c2:(ab S).Y c-(ab S).Y b<=0:=by simp only[ab];omega
   rw[r2,k1]
   generalize (ab S).X a-(ab S).X b=rx at *
   generalize (ab S).Y j-(ab S).Y b=ky at *
   generalize (ab S).X c-(ab S).X b=cx at *
   generalize (ab S).Y c-(ab S).Y b=cy at *
   apply gn
   ·have:=EY (show 0 < -rx by omega) (show 0 < -ky by omega);simp[cr];grind
   ·have:=mn (show 0<=-rx by omega) (show 0<=-cy by omega);simp[cr];grind
   ·have:=mn (show 0<=-cx by omega) (show 0<=-ky by omega);simp[cr];grind
   ·intro _;have:=mn (show 0<=-rx by omega) (show 0<=-cx by omega);simp;grind
  ·obtain⟨j,hj,j1,j2⟩:=f.top hb y2 e
   refine key j hj ?_ (FV (FV (Go ⟨y2,j1,j2⟩)))
   rw[a9,a9,a9]
   have r1:(ab S).X a-(ab S).X b<0:=by simp only[ab];omega
   have r2:(ab S).Y a-(ab S).Y b=0:=by simp only[ab];omega
   have k1:(0:Int)<(ab S).X j-(ab S).X b:=by simp only[ab];omega
   have k2:(ab S).Y j-(ab S).Y b=0:=by simp only[ab];omega
   have c2:(ab S).Y c-(ab S).Y b<=0:=by simp only[ab];omega
   rw[r2,k2]
   generalize (ab S).X a-(ab S).X b=rx at *
   generalize (ab S).X j-(ab S).X b=kx at *
   generalize (ab S).X c-(ab S).X b=cx at *
   generalize (ab S).Y c-(ab S).Y b=cy at *
   apply gu
   ·simp[cr]
   ·have:=EY (show 0 < -rx by omega) k1;simp;grind
   ·have:=mn (show 0<=-rx by omega) (show 0<=-cy by omega);simp[cr];grind
   ·intro h
    simp[cr]at h ⊢
    rcases GL.1 h with h|h
    ·omega
    ·rw[h];simp
 ·
  by_cases e:(S.pt b).y=0
  ·obtain⟨j,hj,j1,j2⟩:=f.bot hb e (by omega)
   refine key j hj ?_ (Go ⟨e,j1,j2⟩)
   rw[a9,a9,a9]
   have r1:(ab S).X a-(ab S).X b=0:=by simp only[ab];omega
   have r2:(0:Int)<(ab S).Y a-(ab S).Y b:=by simp only[ab];omega
   have k1:(ab S).X j-(ab S).X b<0:=by simp only[ab];omega
   have k2:(ab S).Y j-(ab S).Y b=0:=by simp only[ab];omega
   have c1:(ab S).X c-(ab S).X b<=0:=by simp only[ab];omega
   have c2:(0:Int)<=(ab S).Y c-(ab S).Y b:=by simp only[ab];omega
   rw[r1,k2]
   generalize (ab S).Y a-(ab S).Y b=ry at *
   generalize (ab S).X j-(ab S).X b=kx at *
   generalize (ab S).X c-(ab S).X b=cx at *
   generalize (ab S).Y c-(ab S).Y b=cy at *
   apply gn
   ·have:=EY r2 (show 0 < -kx by omega);simp[cr];grind
   ·have:=mn (Hn r2) (show 0<=-cx by omega);simp[cr];grind
   ·have:=mn c2 (show 0<=-kx by omega);simp[cr];grind
   ·intro _;have:=mn (Hn r2) c2;simpa using this
  ·obtain⟨j,hj,j1,j2⟩:=f.rig hb y2 e
   refine key j hj ?_ (FV (FV (FV ⟨y2,j1,j2⟩)))
   rw[a9,a9,a9]
   have r1:(ab S).X a-(ab S).X b=0:=by simp only[ab];omega
   have r2:(0:Int)<(ab S).Y a-(ab S).Y b:=by simp only[ab];omega
   have k1:(ab S).X j-(ab S).X b=0:=by simp only[ab];omega
   have k2:(ab S).Y j-(ab S).Y b<0:=by simp only[ab];omega
   have c1:(ab S).X c-(ab S).X b<=0:=by simp only[ab];omega
   rw[r1,k1]
   generalize (ab S).Y a-(ab S).Y b=ry at *
   generalize (ab S).Y j-(ab S).Y b=ky at *
   generalize (ab S).X c-(ab S).X b=cx at *
   generalize (ab S).Y c-(ab S).Y b=cy at *
   apply gu
   ·simp[cr]
   ·have:=az _ _ r2 k2;simpa using this
   ·have:=mn (Hn r2) (show 0<=-cx by omega);simp[cr];grind
   ·intro h
    simp[cr]at h ⊢
    rcases GL.1 h with h|h
    ·omega
    ·rw[h];simp
theorem lu:∀(l:List Int),(∀x∈l,x<=0)->l.foldr (λ(a b:Int)=>a+b) 0<=0
 |[],_=>by simp
 |a :: r,h=>by
  rw[List.foldr_cons]
  have:=lu r (λ x hx=>h x (by simp[hx]))
  have:=h a (by simp);omega
theorem outer {S:Plan}(k:Kept S)(f:uB S)(hw:0<S.w)(hh:0<S.h):∃o:ao,(ab S).J o.1 o.2 /\
  (∀E:List ao,(∀e∈E,(ab S).J e.1 e.2)->cR E->(ab S).om E o.1 o.2=false)/\twiceArea S (rnd S o)<=0:=by
 have g:=bn S k
 have r:=cD k
 obtain⟨v,hv,vx,vy⟩:=f.last
 obtain⟨j,hj,j1,j2⟩:=f.rig (b:=v) (by omega) vx (by omega)
 have hjv:j<v:=by
  have h1:j<S.pts.length:=g.lt (g.symm hj)
  have h2:=g.ne hj
  omega
 refine⟨(v,j),hj,?_,?_⟩
 ·intro E hE hc
  rw[<-hc (λ x=>decide (x=v))]
  unfold Dr.om
  apply bp
  intro e he
  have hje:=hE e he
  have aux:∀p q,(ab S).J p q->p<q->(ab S).Om v j p q=(decide (p=v)^^decide (q=v)):=by
   intro p q hpq hlt
   have hq:q<S.pts.length:=g.lt (g.symm hpq)
   have hpv:p≠v:=by omega
   have hb:(ab S).base v p q=false:=by
    unfold Dr.base
    apply dqf
    intro h
    have h1:=f.inw hq
    have h2:=h.2.2.2.1
    simp only[ab]at h2;omega
   unfold Dr.Om
   rw[hb]
   by_cases hqv:q=v
   ·subst hqv
    have hpre:(ab S).pre q p j=true:=by
     unfold Dr.pre
     apply dqt
     by_cases e:p=j
     ·exact Go e
     ·refine FV (FV ⟨FV ⟨hlt,hjv⟩,?_⟩)
      have hz:=pC k (g.symm hpq) hj e (FV ⟨hlt,hjv⟩)
      have:0<=(ab S).tr q p j:=by
       rw[tX,a9,a9]
       have k1:(ab S).X j-(ab S).X q=0:=by simp only[ab];omega
       have k2:(ab S).Y j-(ab S).Y q<0:=by simp only[ab];omega
       have i1:=f.inw (show p<S.pts.length by omega)
       have c1:(ab S).X p-(ab S).X q<=0:=by simp only[ab];omega
       rw[k1]
       have:=ER (show 0<=-((ab S).X p-(ab S).X q) by omega) (show 0<=-((ab S).Y j-(ab S).Y q) by omega)
       simp only[cr];grind
      omega
    simp[hpv,hpre]
   ·simp[hpv,hqv]
  rcases FN (g.ne hje) with h|h
  ·rw[Fg (by omega),FO (by omega)];exact aux _ _ hje h
  ·rw[Ff (by omega),Gf (by omega),Hm];exact aux _ _ (g.symm hje) h
 ·have hall:∀i,Fc S (aE (aj S) (v,j) i).1 (aE (aj S) (v,j) i).2:=by
   intro i
   induction i with
   |zero=>exact FV (FV (FV ⟨vx,j1,j2⟩))
   |succ i ih=>exact zq k f hw hh (eQ g r hj i) ih
  unfold twiceArea
  apply lu
  intro x hx
  rw[Fx]at hx
  obtain⟨e,he,rfl⟩:=hx
  have he:e∈prs (rnd S (v,j)):=he
  rw[iy k hj,dY k hj]at he
  obtain⟨i,rfl⟩:=he
  rcases hall i with⟨h1,h2,h3⟩|⟨h1,h2,h3⟩|⟨h1,h2,h3⟩|⟨h1,h2,h3⟩
  ·rw[h1,h2];simp
  ·rw[h1,h2];simp
  ·rw[h1,h2]
   have:=ER (show(0:Int)<=((S.pt (aE (aj S) (v,j) i).2).x:Int)-((S.pt (aE (aj S) (v,j) i).1).x:Int) by omega) (show(0:Int)<=(S.h:Int) by omega)
   grind
  ·rw[h1,h2]
   have:=ER (show(0:Int)<=((S.pt (aE (aj S) (v,j) i).1).y:Int)-((S.pt (aE (aj S) (v,j) i).2).y:Int) by omega) (show(0:Int)<=(S.w:Int) by omega)
   grind
theorem pq (f:ao->Bool):∀E:List ao,xs f E=decide ((E.filter f).length % 2=1)
 |[]=>by simp[xs]
 |e :: r=>by
  rw[xs,pq f r,List.filter_cons]
  cases f e with
  |false=>simp
  |true =>
   simp only[if_true,Ft,Bool.true_xor]
   by_cases h:(r.filter f).length % 2=1
   ·have:¬((r.filter f).length+1) % 2=1:=by omega
    simp[h,this]
   ·have:((r.filter f).length+1) % 2=1:=by omega
    simp[h,this]
theorem kD {S:Plan}(k:Kept S){e:ao}(he:(ab S).J e.1 e.2)(z:Pt):insideOf S (rnd S e) z=xs (lh ((ab S).cz z.x z.y)) (orb S e):=by
 have g:=bn S k
 rw[pq]
 unfold insideOf
 have h1:(rnd S e).zip ((rnd S e).drop 1++(rnd S e).take 1)=orb S e:=iy k he
 rw[h1]
 have:∀x∈orb S e,(let p:=S.pt x.1
   let q:=S.pt x.2
   (decide (p.y<=z.y)&&(decide (z.y<q.y)&&decide (0<turn p q z)))||(decide (q.y<=z.y)&&(decide (z.y<p.y)&&decide (turn p q z<0))))=lh ((ab S).cz z.x z.y) x:=by
  intro x hx
  have hj:=fP k he hx
  have ord:∀{i j},(ab S).J i j->i<j->(S.pt i).y<=(S.pt j).y:=by
   intro i j h hlt
   rcases g.ord hlt (g.lt (g.symm h)) with h|h<;>(simp only[ab]at h;omega)
  have trz:∀p q,turn (S.pt p) (S.pt q) z=(ab S).trz p q z.x z.y:=by intro p q;rfl
  have trs:∀p q,(ab S).trz q p z.x z.y=- (ab S).trz p q z.x z.y:=by intro p q;unfold Dr.trz tr6;grind
  unfold lh
  rcases FN (g.ne hj) with h|h
  ·rw[Fg (by omega),FO (by omega)]
   have o:=ord hj h
   simp only[trz]
   unfold Dr.cz
   rw[Fy]
   simp only[GK,EO,ET]
   simp only[ab]at *
   omega
  ·rw[Ff (by omega),Gf (by omega)]
   have o:=ord (g.symm hj) h
   simp only[trz]
   rw[trs x.2 x.1]
   unfold Dr.cz
   rw[Fy]
   simp only[GK,EO,ET]
   simp only[ab]at *
   omega
 rw[List.filter_congr this]
theorem one_pane {S:Plan}(k:dq S)(hw:0<S.w)(hh:0<S.h){e e':ao}(he:(ab S).J e.1 e.2)(he':(ab S).J e'.1 e'.2)
  (a:0<twiceArea S (rnd S e)) (a':0<twiceArea S (rnd S e')) {z:Pt} (i:insideOf S (rnd S e) z=true) (i':insideOf S (rnd S e') z=true)
  (hrot:∀{x y:ao},(ab S).J x.1 x.2->y∈orb S x->twiceArea S (rnd S y)=twiceArea S (rnd S x)):e'∈orb S e:=by
 have kk:=k.toKept
 have g:=bn S kk
 have r:=cD kk
 obtain⟨o,ho,hoz,hoa⟩:=outer kk (iM kk k.r6) hw hh
 rw[kD kk he]at i
 rw[kD kk he']at i'
 have oE:∀{e:ao},(ab S).J e.1 e.2->∀x∈orb S e,(ab S).J x.1 x.2:=λ h x hx=>fP kk h hx
 have oC:∀{e:ao},(ab S).J e.1 e.2->cR (orb S e):=by
  intro e h
  have p:=di kk h
  rw[p.orb]
  exact fV _ _ (by rw[Gv,p.back];rfl)
 have sees:∀{e:ao},(ab S).J e.1 e.2->0<twiceArea S (rnd S e)->∀{x:ao},(ab S).J x.1 x.2->(ab S).om (orb S e) x.1 x.2=decide (x∈orb S e):=by
  intro e h ha x hx
  have p:=di kk h
  have hno:o∉orb S e:=by
   intro hm
   have:=hrot h hm
   omega
  have hz:=hoz (orb S e) (oE h) (oC h)
  rw[p.orb]at hno hz ⊢
  exact pB g r h p.pos p.back p.dist k.conn ho hz hno hx
 rcases AC g S.lines (by
   intro p q hpq hlt
   rcases hpq with h|h
   ·exact h
   ·have:=kk.line h;simp only at this;omega) (by
   intro l hl
   have:=kk.line hl
   exact⟨Go hl,this.1⟩) z.x z.y with h|⟨u,w,huw,h⟩
 ·rw[h _ (oE he)]at i;cases i
 ·rw[h _ (oE he) (oC he)]at i
  rw[h _ (oE he') (oC he')]at i'
  have s1:=sees he a (x:=(u,w)) huw
  have s2:=sees he' a' (x:=(u,w)) huw
  simp only at s1 s2
  rw[i]at s1
  rw[i']at s2
  have m1:=EH s1.symm
  have m2:=EH s2.symm
  exact fL kk he m1 (eA kk he' m2)
open Gla
def sm (l:List Int):Int:=l.foldr (λ(a b:Int)=>a+b) 0
theorem bW (a:Int)(l:List Int):sm (a :: l)=a+sm l:=rfl
theorem jn:∀l m:List Int,sm (l++m)=sm l+sm m
 |[],m=>by show sm m=0+sm m;omega
 |a :: l,m=>by
  show a+sm (l++m)=a+sm l+sm m
  rw[jn l m];omega
theorem ub {l m:List Int}(h:l.Perm m):sm l=sm m:=by
 induction h with
 |nil=>rfl
 |cons x _ ih=>rw[bW,bW,ih]
 |swap x y l=>rw[bW,bW,bW,bW];omega
 |trans _ _ h1 h2=>rw[h1,h2]
theorem hZ {α:Type}(f g:α->Int):∀l:List α,sm (l.map λ x=>f x+g x)=sm (l.map f)+sm (l.map g)
 |[]=>rfl
 |a :: l=>by
  simp only[Fl,bW]
  rw[hZ f g l];omega
theorem eG {α:Type}(c:Int)(f:α->Int):∀l:List α,sm (l.map λ x=>c*f x)=c*sm (l.map f)
 |[]=>by simp[sm]
 |a :: l=>by
  simp only[Fl,bW]
  rw[eG c f l,Int.mul_add]
theorem dr {α:Type}{f g:α->Int}{l:List α}(h:∀x∈l,f x=g x):sm (l.map f)=sm (l.map g):=by
 rw[Gq h]
theorem qv {α:Type}:∀l:List α,sm (l.map λ _=>0)=0
 |[]=>rfl
 |a :: l=>by
  simp only[Fl,bW]
  rw[qv l];rfl
theorem pN {α β:Type}(f:α->β->Int)(m:List β):∀l:List α,sm (l.map λ x=>sm (m.map λ y=>f x y))=sm (m.map λ y=>sm (l.map λ x=>f x y))
 |[]=>by
  show(0:Int)=sm (m.map λ _=>0)
  rw[qv]
 |a :: l=>by
  simp only[Fl,bW]
  rw[pN f m l,<-hZ]
theorem oQ:∀{l:List Int},(∀x∈l,0<=x)->0<=sm l
 |[],_=>Int.le_refl 0
 |a :: l,h=>by
  have h1:=h a E7
  have h2:=oQ (l:=l) λ x hx=>h x (EQ _ hx)
  rw[bW];omega
theorem Ae {l:List Int}(h:∀x∈l,0<=x){y:Int}(hy:y∈l)(hp:0<y):0<sm l:=by
 induction l with
 |nil=>cases hy
 |cons a l ih =>
  rw[bW]
  have h1:=h a E7
  have h2:=oQ (l:=l) λ x hx=>h x (EQ _ hx)
  rcases ES.1 hy with e|e
  ·subst e;omega
  ·have:=ih (λ x hx=>h x (EQ _ hx)) e
   omega
def cr2 (S:Plan)(x:ao):Int:=((S.pt x.1).x:Int)*((S.pt x.2).y:Int)-((S.pt x.2).x:Int)*((S.pt x.1).y:Int)
theorem mo {S:Plan}(k:Kept S){e:ao}(he:(ab S).J e.1 e.2):twiceArea S (rnd S e)=sm ((orb S e).map (cr2 S)):=by
 unfold twiceArea
 rw[show(rnd S e).zip ((rnd S e).drop 1++(rnd S e).take 1)=prs (rnd S e) from rfl,iy k he]
 rfl
theorem yQ {S:Plan}(k:Kept S){e x:ao}(he:(ab S).J e.1 e.2)(hx:x∈orb S e):∃a b,orb S e=a++b/\orb S x=b++a:=by
 have p:=di k he
 obtain⟨j,hj⟩:=(dY k he).1 hx
 rw[qp p.back p.pos]at hj
 have hjl:j % (rnd S e).length<(rnd S e).length:=Nat.mod_lt _ p.pos
 generalize j % (rnd S e).length=i at hj hjl
 have hl:=mB k he hx
 obtain⟨m,hm⟩:∃m,(rnd S e).length=i+m:=⟨(rnd S e).length-i,by omega⟩
 refine⟨seg (aj S) e 0 i,seg (aj S) e i m,?_,?_⟩
 ·rw[p.orb,hm,eN,Gv]
 ·unfold orb
  rw[hl,hj,kL,hm]
  have:i+m=m+i:=by omega
  rw[this,Nat.add_zero,eN]
  congr 1
  have h2:=nj p.back i 0
  rw[Nat.add_zero,hm]at h2;exact h2
theorem qR {S:Plan}(k:Kept S){x y:ao}(hx:(ab S).J x.1 x.2)(hy:y∈orb S x):twiceArea S (rnd S y)=twiceArea S (rnd S x):=by
 obtain⟨a,b,h1,h2⟩:=yQ k hx hy
 rw[mo k hx,mo k (fP k hx hy),h1,h2,Fi,Fi,jn,jn,Int.add_comm]
variable  {d:Dr}
def Dr.ahead (d:Dr)(c:Int)(u w p q:Nat):Int:=d.den u w*d.num 0 c p q-d.den p q*d.num 0 c u w
theorem ud (g:eK d){u w p q:Nat}{c:Int}(huw:d.J u w)(hpq:d.J p q)(hu:d.Y u<=c)(hw:c<d.Y w)(hp:d.Y p<=c)(hq:c<d.Y q)(hne:¬(p=u/\q=w)) :
  (0<d.ahead c u w p q↔if p=u then d.tr u w q<0 else if d.Y p<=d.Y u then 0<d.tr p q u else d.tr u w p<0)/\d.ahead c u w p q≠0:=by
 have hun:=g.lt huw
 have hwn:=g.lt (g.symm huw)
 have hpn:=g.lt hpq
 have hqn:=g.lt (g.symm hpq)
 have iA:=idA (d.X u) (d.Y u) (d.X w) (d.Y w) (d.X p) (d.Y p) (d.X q) (d.Y q)
 have iB:=idB (d.X u) (d.Y u) (d.X w) (d.Y w) (d.X p) (d.Y p) (d.X q) (d.Y q)
 have iD:=BY (d.X u) (d.Y u) (d.X w) (d.Y w) (d.X p) (d.Y p) (d.X q) (d.Y q)
 have iN:=wd (d.X u) (d.Y u) (d.X w) (d.Y w) (d.X p) (d.Y p) (d.X q) (d.Y q) 0 c
 change -(d.Y q-d.Y p)*d.tr u w p=(d.Y w-d.Y u)*d.tr p q u+(d.tr p q w-d.tr p q u)*(d.Y p-d.Y u) at iA
 change -(d.Y q-d.Y p)*d.tr u w q=(d.Y w-d.Y u)*d.tr p q u+(d.tr p q w-d.tr p q u)*(d.Y q-d.Y u) at iB
 change (d.Y w-d.Y u)*d.tr p q w=(d.Y w-d.Y u)*d.tr p q u+(d.tr p q w-d.tr p q u)*(d.Y w-d.Y u) at iD
 change d.ahead c u w p q=2*((d.Y w-d.Y u)*d.tr p q u)+(d.tr p q w-d.tr p q u)*(2*c+1-2*d.Y u) at iN
 rw[iN]
 have a0:0<d.Y w-d.Y u:=by omega
 have b0:0<d.Y q-d.Y p:=by omega
 have nb:∀x:Int,-(d.Y q-d.Y p)*x=(d.Y q-d.Y p)*(-x):=by intro x;grind
 rw[nb]at iA iB
 generalize hv0:(d.Y w-d.Y u)*d.tr p q u=v0 at *
 generalize hK:d.tr p q w-d.tr p q u=K at *
 have fin:∀{P:Prop} {D:Int},(P->0<D)->(¬P->D<0)->((0<D↔P)/\D≠0):=by
  intro P D h1 h2
  by_cases hP:P
  ·have:=h1 hP
   exact⟨⟨λ _=>hP,λ _=>this⟩,by omega⟩
  ·have:=h2 hP
   exact⟨⟨λ h=>by omega,λ h=>absurd h hP⟩,by omega⟩
 apply fin
 ·intro hc
  by_cases hpu:p=u
  ·subst hpu
   rw[EU rfl]at hc
   have hC:d.tr p q p=0:=j9 d p q
   have v00:v0=0:=by rw[<-hv0,hC];simp
   have e1:0<K*(d.Y q-d.Y p):=by
    have:0<(d.Y q-d.Y p)*(- d.tr p w q):=EY b0 (by omega)
    omega
   have e2:0<K:=by
    rw[Gw]at e1;exact(bb b0).1 e1
   have:0<K*(2*c+1-2*d.Y p):=EY e2 (by omega)
   omega
  ·rw[EM hpu]at hc
   by_cases hpy:d.Y p<=d.Y u
   ·rw[EU hpy]at hc
    have up:∃m,c<m/\0<=v0+K*(m-d.Y u):=by
     by_cases hqw:q=w
     ·subst hqw
      have hD:d.tr p q q=0:=cN d p q
      rw[hD]at iD
      simp at iD
      exact⟨_,hw,by omega⟩
     ·by_cases hh:d.Y q<=d.Y w
      ·have l:=L1 g huw hpq hpy (by omega) hh hpu hqw
       exact⟨d.Y q,hq,by rw[<-iB];exact ER (by omega) (by omega)⟩
      ·have l:=L2 g huw hpq hpy (by omega) (by omega) hpu hqw
       exact⟨d.Y w,hw,by rw[<-iD];exact ER (by omega) (by omega)⟩
    obtain⟨m,m1,m2⟩:=up
    have v0p:0<v0:=by rw[<-hv0];exact EY a0 hc
    exact kI (d.Y u) K (d.Y u) c m v0 (by simpa using v0p) m2 hu m1
   ·rw[EM hpy]at hc
    have up:∃m,c<m/\0<=v0+K*(m-d.Y u):=by
     by_cases hqw:q=w
     ·subst hqw
      have hD:d.tr p q q=0:=cN d p q
      rw[hD]at iD
      simp at iD
      exact⟨_,hw,by omega⟩
     ·by_cases hh:d.Y q<=d.Y w
      ·have l:=L2 g hpq huw (by omega) (by omega) hh (Fj hpu) (Fj hqw)
       exact⟨d.Y q,hq,by rw[<-iB];exact ER (by omega) (by omega)⟩
      ·have l:=L1 g hpq huw (by omega) (by omega) (by omega) (Fj hpu) (Fj hqw)
       exact⟨d.Y w,hw,by rw[<-iD];exact ER (by omega) (by omega)⟩
    obtain⟨m,m1,m2⟩:=up
    have v0p:0<v0+K*(d.Y p-d.Y u):=by rw[<-iA];exact EY b0 (by omega)
    exact kI (d.Y u) K (d.Y p) c m v0 v0p m2 hp m1
 ·intro hc
  by_cases hpu:p=u
  ·subst hpu
   rw[EU rfl]at hc
   have hqw:q≠w:=λ e=>hne ⟨rfl,e⟩
   have hC:d.tr p q p=0:=j9 d p q
   have v00:v0=0:=by rw[<-hv0,hC];simp
   have nB:d.tr p w q≠0:=by
    by_cases hh:d.Y q<=d.Y w
    ·exact nz g huw hqn (by omega) (by omega) hh (by intro e;subst e;omega) hqw
    ·have:=nz g hpq hwn (by omega) (by omega) (by omega) (by intro e;subst e;omega) (Fj hqw)
     have:=dm d p q w
     omega
   have e1:K*(d.Y q-d.Y p)<0:=by
    have:(d.Y q-d.Y p)*(- d.tr p w q)<0:=az _ _ b0 (by omega)
    omega
   have e2:K<0:=by
    rw[Gw]at e1;exact(ek b0).1 e1
   have:0<(-K)*(2*c+1-2*d.Y p):=EY (by omega) (by omega)
   have e:(-K)*(2*c+1-2*d.Y p)=- (K*(2*c+1-2*d.Y p)):=by grind
   omega
  ·rw[EM hpu]at hc
   by_cases hpy:d.Y p<=d.Y u
   ·rw[EU hpy]at hc
    have nC:d.tr p q u≠0:=nz g hpq hun (by omega) hpy (by omega) (Fj hpu) (by intro e;subst e;omega)
    have hC:d.tr p q u<0:=by omega
    have up:∃m,c<m/\v0+K*(m-d.Y u)<=0:=by
     by_cases hqw:q=w
     ·subst hqw
      have hD:d.tr p q q=0:=cN d p q
      rw[hD]at iD
      simp at iD
      exact⟨_,hw,by omega⟩
     ·by_cases hh:d.Y q<=d.Y w
      ·have l:=L1 g huw hpq hpy (by omega) hh hpu hqw
       exact⟨d.Y q,hq,by
        rw[<-iB]
        have:=az (d.Y q-d.Y p) (- d.tr u w q) b0 (by omega)
        omega⟩
      ·have l:=L2 g huw hpq hpy (by omega) (by omega) hpu hqw
       exact⟨d.Y w,hw,by
        rw[<-iD]
        have:=az (d.Y w-d.Y u) (d.tr p q w) a0 (by omega)
        omega⟩
    obtain⟨m,m1,m2⟩:=up
    have v0n:v0<0:=by rw[<-hv0];exact az _ _ a0 hC
    exact jk (d.Y u) K (d.Y u) c m v0 (by simpa using v0n) m2 hu m1
   ·rw[EM hpy]at hc
    have nA:d.tr u w p≠0:=nz g huw hpn (by omega) (by omega) (by omega) hpu (by intro e;subst e;omega)
    have hA':0<d.tr u w p:=by omega
    have up:∃m,c<m/\v0+K*(m-d.Y u)<=0:=by
     by_cases hqw:q=w
     ·subst hqw
      have hD:d.tr p q q=0:=cN d p q
      rw[hD]at iD
      simp at iD
      exact⟨_,hw,by omega⟩
     ·by_cases hh:d.Y q<=d.Y w
      ·have l:=L2 g hpq huw (by omega) (by omega) hh (Fj hpu) (Fj hqw)
       exact⟨d.Y q,hq,by
        rw[<-iB]
        have:=az (d.Y q-d.Y p) (- d.tr u w q) b0 (by omega)
        omega⟩
      ·have l:=L1 g hpq huw (by omega) (by omega) (by omega) (Fj hpu) (Fj hqw)
       exact⟨d.Y w,hw,by
        rw[<-iD]
        have:=az (d.Y w-d.Y u) (d.tr p q w) a0 (by omega)
        omega⟩
    obtain⟨m,m1,m2⟩:=up
    have v0n:v0+K*(d.Y p-d.Y u)<0:=by rw[<-iA];exact az _ _ b0 (by omega)
    exact jk (d.Y u) K (d.Y p) c m v0 v0n m2 hp m1
def Dr.sl (d:Dr)(c:Int)(u w p q:Nat):Bool:=decide (d.Y p<=c/\c<d.Y q/\((p=u/\q=w)\/0<d.ahead c u w p q))
theorem Aj (g:eK d){u w p q:Nat}{c:Int}(huw:d.J u w)(hpq:d.J p q)(h1:u<w)(h2:p<q)(hu:d.Y u<=c)(hw:c<d.Y w) :
  (d.sl c u w p q^^d.Om u w p q)=(d.Pz c u w p^^d.Pz c u w q):=by
 have hpn:=g.lt hpq
 have hqn:=g.lt (g.symm hpq)
 have hwn:=g.lt (g.symm huw)
 have hun:=g.lt huw
 have hy:d.Y u<d.Y w:=by omega
 rw[xl g huw hpq h1 h2 hy]
 have hpqy:d.Y p<=d.Y q:=by rcases g.ord h2 hqn with h|h<;>omega
 by_cases he:p=u/\q=w
 ·obtain⟨rfl,rfl⟩:=he
  have e1:d.sl c p q p q=true:=by unfold Dr.sl;exact dqt ⟨hu,hw,Go ⟨rfl,rfl⟩⟩
  have e2:d.Pz c p q p=false:=by unfold Dr.Pz;exact dqf (by omega)
  have e3:d.Pz c p q q=false:=by unfold Dr.Pz;exact dqf (by omega)
  rw[e1,e2,e3];simp
 have pz1:∀v,¬(d.Y u<d.Y v/\d.Y v<=c)->d.Pz c u w v=false:=by
  intro v h;unfold Dr.Pz;exact dqf (λ x=>h ⟨x.1,x.2.1⟩)
 have pz2:∀v,d.Y u<d.Y v->d.Y v<=c->d.Pz c u w v=decide (d.tr u w v<0):=by
  intro v h h';unfold Dr.Pz;simp[h,h']
 by_cases hcz:d.Y p<=c/\c<d.Y q
 ·obtain⟨c1,c2⟩:=hcz
  have czE:d.sl c u w p q=decide (0<d.ahead c u w p q):=by unfold Dr.sl;simp[c1,c2,he]
  have zo:=(ud g huw hpq hu hw c1 c2 he).1
  rw[pz1 q (by omega),Gj,czE]
  by_cases hpu:p=u
  ·subst hpu
   rw[EU rfl]at zo ⊢
   rw[pz1 p (by omega)]
   have hqw:q≠w:=λ e=>he ⟨rfl,e⟩
   have:(q=w\/(d.Y p<d.Y q/\d.tr p w q<0))↔0<d.ahead c p w p q:=by
    rw[zo];constructor
    ·rintro(h|h)
     ·exact absurd h hqw
     ·exact h.2
    ·intro h;exact FV ⟨by omega,h⟩
   simp only[this,HB]
  ·rw[EM hpu]at zo ⊢
   by_cases hpy:d.Y p<=d.Y u
   ·rw[EU hpy]at zo
    rw[pz1 p (by omega)]
    have:(d.Y p<=d.Y u/\d.Y u<d.Y q/\0<d.tr p q u)↔0<d.ahead c u w p q:=by
     rw[zo];constructor
     ·exact λ h=>h.2.2
     ·exact λ h=>⟨hpy,by omega,h⟩
    simp only[this,HB]
   ·rw[EM hpy]at zo
    rw[pz2 p (by omega) c1]
    have:¬(d.Y p<=d.Y u/\d.Y u<d.Y q/\0<d.tr p q u):=λ h=>hpy h.1
    rw[dqf this,Gj,E1.2 zo]
 ·have czE:d.sl c u w p q=false:=by unfold Dr.sl;exact dqf (λ h=>hcz ⟨h.1,h.2.1⟩)
  rw[czE,FW]
  by_cases c1:c<d.Y p
  ·rw[pz1 p (by omega),pz1 q (by omega)]
   by_cases hpu:p=u
   ·subst hpu;omega
   ·rw[EM hpu]
    have:¬(d.Y p<=d.Y u/\d.Y u<d.Y q/\0<d.tr p q u):=by omega
    rw[dqf this];rfl
  ·have c2:d.Y q<=c:=by omega
   by_cases hpu:p=u
   ·subst hpu
    rw[EU rfl,pz1 p (by omega),FW]
    have hqw:q≠w:=λ e=>he ⟨rfl,e⟩
    unfold Dr.Pz
    rw[E1]
    constructor
    ·rintro(h|h)
     ·exact absurd h hqw
     ·exact⟨h.1,c2,h.2⟩
    ·intro h;exact FV ⟨h.1,h.2.2⟩
   ·rw[EM hpu]
    have hqw:q≠w:=by intro e;subst e;omega
    have hpw:p≠w:=by intro e;subst e;omega
    by_cases c3:d.Y p<=d.Y u
    ·rw[pz1 p (by omega),FW]
     unfold Dr.Pz
     rw[E1]
     by_cases c4:d.Y u<d.Y q
     ·have l:=L1 g huw hpq c3 c4 (by omega) hpu hqw
      constructor
      ·intro h;exact⟨c4,c2,by omega⟩
      ·intro h;exact⟨c3,c4,by omega⟩
     ·constructor
      ·intro h;exact absurd h.2.1 c4
      ·intro h;exact absurd h.1 c4
    ·have:¬(d.Y p<=d.Y u/\d.Y u<d.Y q/\0<d.tr p q u):=λ h=>c3 h.1
     rw[dqf this,pz2 p (by omega) (by omega),pz2 q (by omega) c2]
     have:d.tr u w p<0↔d.tr u w q<0:=by
      rcases g.ord h2 hqn with hf|hf
      ·have l:=L2 g hpq huw (by omega) hf (by omega) (Fj hpu) (Fj hqw)
       omega
      ·have mv:d.tr u w q<d.tr u w p:=by
        have:d.tr u w p-d.tr u w q=(d.Y w-d.Y u)*(d.X q-d.X p):=by
         have:=hf.1;unfold Dr.tr tr6;grind
        have:0<(d.Y w-d.Y u)*(d.X q-d.X p):=EY (by omega) (by omega)
        omega
       constructor
       ·intro h;omega
       ·intro h
        apply bcn;intro hn
        have a2:=nz g huw hpn hy (by omega) (by omega) hpu hpw
        refine g.nocross huw hpq ⟨az _ _ (by omega) h,?_⟩
        rw[eg d p q u hf.1,eg d p q w hf.1]
        exact cA _ _ (az _ _ (by omega) (by omega)) (EY (by omega) (by omega))
     simp only[this,HB]
theorem Ai (g:eK d){u w:Nat}{c:Int}(huw:d.J u w)(hlt:u<w)(hu:d.Y u<=c)(hw:c<d.Y w){E:List ao}(hE:∀e∈E,d.J e.1 e.2)(hc:cR E) :
  xs (lh (d.sl c u w)) E=d.om E u w:=by
 have h:xs (λ e=>lh (d.sl c u w) e^^d.Om u w (min e.1 e.2) (max e.1 e.2)) E=false:=by
  rw[<-hc (d.Pz c u w)]
  apply bp
  intro e he
  have ze:∀p q,d.J p q->p<q->(d.sl c u w p q^^d.Om u w p q)=(d.Pz c u w p^^d.Pz c u w q):=λ p q hpq hlt'=>Aj g huw hpq hlt hlt' hu hw
  have hj:=hE e he
  unfold lh
  rcases FN (g.ne hj) with h|h
  ·rw[Fg (by omega),FO (by omega)];exact ze _ _ hj h
  ·rw[Ff (by omega),Gf (by omega),Hm (d.Pz c u w e.1)];exact ze _ _ (g.symm hj) h
 rw[iw]at h
 unfold Dr.om
 revert h
 generalize xs (lh (d.sl c u w)) E=a;generalize xs _ E=b
 cases a<;>cases b<;>simp
open Gla
theorem gO (L:List ao):xs (λ _=>false) L=false:=by
 induction L with
 |nil=>rfl
 |cons a r ih=>rw[xs,ih];rfl
theorem ee (f:ao->Bool):∀l m:List ao,xs f (l++m)=(xs f l^^xs f m)
 |[],m=>by simp[xs]
 |a :: l,m=>by
  rw[Ip,xs,xs,ee f l m,Bool.xor_assoc]
theorem t6 {f:ao->Bool}{l m:List ao}(h:l.Perm m):xs f l=xs f m:=by
 induction h with
 |nil=>rfl
 |cons x _ ih=>rw[xs,xs,ih]
 |swap x y l =>
  rw[xs,xs,xs,xs]
  cases f x<;>cases f y<;>cases xs f l<;>rfl
 |trans _ _ h1 h2=>rw[h1,h2]
theorem tU (F:ao->Bool)(G:ao->ao->Bool)(E:List ao):∀L:List ao,xs (λ l=>F l&&xs (λ e=>G l e) E) L=xs (λ e=>xs (λ l=>F l&&G l e) L) E
 |[]=>by
  show false=xs (λ _=>false) E
  rw[gO]
 |a :: L=>by
  rw[xs,tU F G E L]
  have:xs (λ e=>xs (λ l=>F l&&G l e) (a :: L)) E=xs (λ e=>(F a&&G a e)^^xs (λ l=>F l&&G l e) L) E:=rfl
  rw[this,iw]
  congr 1
  cases F a with
  |true=>simp
  |false=>simp[gO]
theorem og (F:ao->Bool)(a:ao):∀{L:List ao},L.Nodup->a∈L->xs (λ l=>F l&&decide (l=a)) L=F a
 |[],_,h=>by cases h
 |b :: L,hn,h=>by
  rw[Ge]at hn
  rw[xs]
  by_cases e:b=a
  ·subst e
   have:xs (λ l=>F l&&decide (l=b)) L=xs (λ _=>false) L:=by
    apply bp
    intro l hl
    have:¬l=b:=λ q=>hn.1 (q▸hl)
    simp[this]
   rw[this,gO]
   simp
  ·have h2:a∈L:=(ES.1 h).resolve_left (λ q=>e q.symm)
   rw[og F a hn.2 h2]
   simp[e]
structure Lns (L E:List ao):Prop where
 nd:L.Nodup
 lt:∀l∈L,l.1<l.2
 has:∀e∈E,(min e.1 e.2,max e.1 e.2)∈L
 ne:∀e∈E,e.1≠e.2
theorem rT {L E:List ao}(h:Lns L E)(F:Nat->Nat->Bool):xs (lh F) E=xs (λ l=>F l.1 l.2&&ce E l.1 l.2) L:=by
 unfold ce
 rw[tU (λ l=>F l.1 l.2) (λ l e=>decide ((e.1=l.1/\e.2=l.2)\/(e.1=l.2/\e.2=l.1))) E L]
 apply bp
 intro e he
 have hh:=h.has e he
 have hn:=h.ne e he
 have:xs (λ l=>F l.1 l.2&&decide ((e.1=l.1/\e.2=l.2)\/(e.1=l.2/\e.2=l.1))) L=xs (λ l=>F l.1 l.2&&decide (l=(min e.1 e.2,max e.1 e.2))) L:=by
  apply bp
  intro l hl
  have:=h.lt l hl
  congr 1
  rw[E1]
  obtain⟨a,b⟩:=l
  simp only[Prod.mk.injEq]at *
  omega
 rw[this,og (λ l=>F l.1 l.2) _ h.nd hh]
 rfl
def bi (b:Bool):Int:=if b=true then 1 else 0
theorem Bg:bi true=1:=rfl
theorem x9:bi false=0:=rfl
theorem kH (F:ao->Int)(a:ao):∀{L:List ao},L.Nodup->sm (L.map λ l=>F l*bi (decide (l=a)))=if a∈L then F a else 0
 |[],_=>by simp[sm]
 |b :: L,hn=>by
  rw[Ge]at hn
  rw[Fl,bW,kH F a hn.2]
  by_cases e:b=a
  ·subst e
   rw[EM hn.1,EU E7,dqt rfl,Bg]
   omega
  ·rw[dqf e,x9]
   by_cases h2:a∈L
   ·rw[EU h2,EU (EQ _ h2)];omega
   ·rw[EM h2,EM (λ q=>h2 ((ES.1 q).resolve_left (λ z=>e z.symm)))];omega
theorem wC {L E:List ao}(h:Lns L E)(hE:E.Nodup)(F:Nat->Nat->Int)(hF:∀a b,F b a=- F a b) :
  sm (E.map λ e=>F e.1 e.2)=sm (L.map λ l=>F l.1 l.2*(bi (decide (l∈E))-bi (decide ((l.2,l.1)∈E)))):=by
 have e1:sm (E.map λ e=>F e.1 e.2)=sm (E.map λ e=>sm (L.map λ l=>F l.1 l.2*(bi (decide (e=l))-bi (decide (e=(l.2,l.1)))))):=by
  apply dr
  intro e he
  have hh:=h.has e he
  have hn:=h.ne e he
  have:sm (L.map λ l=>F l.1 l.2*(bi (decide (e=l))-bi (decide (e=(l.2,l.1)))))=sm (L.map λ l=>F e.1 e.2*bi (decide (l=(min e.1 e.2,max e.1 e.2)))):=by
   apply dr
   intro l hl
   have:=h.lt l hl
   obtain⟨a,b⟩:=l
   obtain⟨p,q⟩:=e
   simp only[Prod.mk.injEq]at *
   by_cases c1:p=a/\q=b
   ·obtain⟨rfl,rfl⟩:=c1
    have n1:¬(p=q/\q=p):=by omega
    have n2:p=min p q/\q=max p q:=by omega
    rw[dqt ⟨rfl,rfl⟩,dqf n1,dqt n2,Bg,x9]
    omega
   ·by_cases c2:p=b/\q=a
    ·obtain⟨rfl,rfl⟩:=c2
     have n2:q=min p q/\p=max p q:=by omega
     rw[dqf c1,dqt ⟨rfl,rfl⟩,dqt n2,Bg,x9,hF]
     omega
    ·have n2:¬(a=min p q/\b=max p q):=by omega
     rw[dqf c1,dqf c2,dqf n2,x9]
     simp
  rw[this,kH (λ _=>F e.1 e.2) _ h.nd,EU hh]
 rw[e1,pN]
 apply dr
 intro l hl
 have e2:sm (E.map λ e=>F l.1 l.2*(bi (decide (e=l))-bi (decide (e=(l.2,l.1)))))=F l.1 l.2*sm (E.map λ e=>bi (decide (e=l))-bi (decide (e=(l.2,l.1)))):=eG _ _ _
 rw[e2]
 congr 1
 have cnt:∀a:ao,sm (E.map λ e=>bi (decide (e=a)))=bi (decide (a∈E)):=by
  intro a
  have:=kH (λ _=>1) a hE
  simp only[Int.one_mul]at this
  rw[this]
  by_cases q:a∈E
  ·rw[EU q,dqt q];rfl
  ·rw[EM q,dqf q];rfl
 have e3:sm (E.map λ e=>bi (decide (e=l))-bi (decide (e=(l.2,l.1))))=sm (E.map λ e=>bi (decide (e=l))+(-1)*bi (decide (e=(l.2,l.1)))):=by
  apply dr
  intro e _
  omega
 rw[e3,hZ,eG,cnt,cnt]
 omega
theorem DK {V:ao->Int}{up mm:ao->Bool}:∀(L:List ao) (p:Bool),L.Pairwise (λ a b=>V b<V a)->(∀a l b,L=a++l :: b->up l=(p^^(xs mm a^^mm l)))->(p^^xs mm L)=false ->
  ∀B,(∀l∈L,V l<=B)->- (B*bi p)<=sm (L.map λ l=>V l*(bi (up l)-bi (up l^^mm l)))/\(p=false->(∃l∈L,up l=true)->0<sm (L.map λ l=>V l*(bi (up l)-bi (up l^^mm l))))
 |[],p,_,_,hp,B,_=>by
  have:p=false:=by simpa [xs] using hp
  subst this
  refine⟨by simp[bi,sm],λ _ h=>?_⟩
  obtain⟨l,hl,_⟩:=h
  cases hl
 |l :: r,p,hw,hup,hp,B,hB=>by
  rw[FP]at hw
  have u0:=hup [] l r rfl
  simp only[xs,FW]at u0
  have ih:=DK (V:=V) (up:=up) (mm:=mm) r (p^^mm l) hw.2 (λ a x b e=>by
   have:=hup (l :: a) x b (by rw[e];rfl)
   rw[this,xs]
   cases p<;>cases mm l<;>cases xs mm a<;>cases mm x<;>rfl) (by
   rw[xs]at hp
   rw[<-hp]
   cases p<;>cases mm l<;>cases xs mm r<;>rfl) (V l-1) (λ x hx=>by
   have:=hw.1 x hx
   omega)
  have hl:=hB l E7
  rw[Fl,bW,u0]
  have e0:((p^^mm l)^^mm l)=p:=by cases p<;>cases mm l<;>rfl
  rw[e0]
  obtain⟨i1,i2⟩:=ih
  generalize sm (r.map λ l=>V l*(bi (up l)-bi (up l^^mm l)))=s at *
  constructor
  ·clear i2 u0 e0 hup hp
   generalize mm l=m at *
   cases p<;>cases m<;>simp[bi]at i1 ⊢<;>omega
  ·intro hpf hex
   subst hpf
   cases hm:mm l with
   |true =>
    rw[hm]at i1
    simp[bi]at i1 ⊢
    omega
   |false =>
    rw[hm]at i1 i2 u0
    obtain⟨x,hx,hxu⟩:=hex
    rcases ES.1 hx with e|e
    ·subst e
     rw[u0]at hxu
     simp at hxu
    ·have:=i2 rfl ⟨x,e,hxu⟩
     simp[bi]
     omega
theorem Cu (G:Nat->Int)(a b:Nat)(hab:a<=b):∀H:Nat,sm ((Fe H).map λ c=>if a<=c/\c<b then G (c+1)-G c else 0)=G (min H b)-G (min H a)
 |0=>by simp[sm]
 |H+1=>by
  rw[HR,Fi,jn,Cu G a b hab H]
  simp only[Fl,List.map_nil,bW]
  show _+(_+0)=_
  by_cases c:a<=H/\H<b
  ·rw[EU c,Fg (by omega:H<=b),Ff (by omega:a<=H),Fg (by omega:H+1<=b),Ff (by omega:a<=H+1)]
   omega
  ·rw[EM c]
   by_cases c2:H<a
   ·rw[Fg (by omega:H<=b),Fg (by omega:H<=a),Fg (by omega:H+1<=b),Fg (by omega:H+1<=a)]
    omega
   ·rw[Ff (by omega:b<=H),Ff (by omega:a<=H),Ff (by omega:b<=H+1),Ff (by omega:a<=H+1)]
    omega
open Gla
theorem Kept.lines_nodup {S:Plan}(k:Kept S):S.lines.Nodup:=by
 rw[List.Nodup,Fs]
 intro i j hi hj hij e
 have:=k.lines_lt i j hij hj
 rw[e,gD]at this
 omega
theorem x6 {S:Plan}(k:Kept S){E:List ao}(hE:∀e∈E,(ab S).J e.1 e.2):Lns S.lines E:=by
 have g:=bn S k
 refine⟨k.lines_nodup,λ l hl=>(k.line hl).1,λ e he=>?_,λ e he=>g.ne (hE e he)⟩
 rcases hE e he with h|h
 ·have:=(k.line h).1
  simp only at this
  rw[Fg (by omega),FO (by omega)]
  exact h
 ·have:=(k.line h).1
  simp only at this
  rw[Ff (by omega),Gf (by omega)]
  exact h
def gI (d:Dr):List ao->Int
 |[]=>1
 |l :: r=>(if d.Y l.1<d.Y l.2 then 2*d.den l.1 l.2 else 1)*gI d r
theorem mt (d:Dr):∀L:List ao,0<gI d L
 |[]=>by show(0:Int)<1;decide
 |l :: r=>by
  unfold gI
  refine EY ?_ (mt d r)
  by_cases h:d.Y l.1<d.Y l.2
  ·rw[EU h];unfold Dr.den;omega
  ·rw[EM h];decide
theorem ny (d:Dr){l:ao}(h:d.Y l.1<d.Y l.2):∀{L:List ao},l∈L->(2*d.den l.1 l.2) ∣ gI d L
 |[],hl=>by cases hl
 |a :: r,hl=>by
  unfold gI
  rcases ES.1 hl with e|e
  ·subst e
   rw[EU h]
   exact⟨_,rfl⟩
  ·obtain⟨q,hq⟩:=ny d h e
   exact⟨(if d.Y a.1<d.Y a.2 then 2*d.den a.1 a.2 else 1)*q,by rw[hq];grind⟩
def Vs (d:Dr)(L:List ao)(c:Int)(l:ao):Int:=gI d L / (2*d.den l.1 l.2)*d.num 0 c l.1 l.2
theorem vW (d:Dr){L:List ao}{l:ao}(hl:l∈L)(h:d.Y l.1<d.Y l.2)(c:Int):Vs d L c l*(2*d.den l.1 l.2)=gI d L*d.num 0 c l.1 l.2:=by
 have q:=Int.ediv_mul_cancel (ny d h hl)
 unfold Vs
 generalize gI d L / (2*d.den l.1 l.2)=m at q ⊢
 rw[<-q]
 grind
theorem uq (d:Dr){L:List ao}{a b:ao}(ha:a∈L)(hb:b∈L)(h1:d.Y a.1<d.Y a.2)(h2:d.Y b.1<d.Y b.2)(c:Int):0<d.ahead c a.1 a.2 b.1 b.2↔Vs d L c a<Vs d L c b:=by
 have e1:=vW d ha h1 c
 have e2:=vW d hb h2 c
 have dA:0<d.den a.1 a.2:=by unfold Dr.den;omega
 have dB:0<d.den b.1 b.2:=by unfold Dr.den;omega
 have hM:=mt d L
 have e3:(Vs d L c b-Vs d L c a)*(2*(d.den a.1 a.2*d.den b.1 b.2))=gI d L*d.ahead c a.1 a.2 b.1 b.2:=by
  unfold Dr.ahead
  have:(Vs d L c b-Vs d L c a)*(2*(d.den a.1 a.2*d.den b.1 b.2))=(Vs d L c b*(2*d.den b.1 b.2))*d.den a.1 a.2-(Vs d L c a*(2*d.den a.1 a.2))*d.den b.1 b.2:=by grind
  rw[this,e1,e2]
  grind
 have dd:0<2*(d.den a.1 a.2*d.den b.1 b.2):=by
  have:=EY dA dB
  omega
 constructor
 ·intro h
  have:0<(Vs d L c b-Vs d L c a)*(2*(d.den a.1 a.2*d.den b.1 b.2)):=by rw[e3];exact EY hM h
  rw[Gw]at this
  have:=(bb dd).1 this
  omega
 ·intro h
  have:0<gI d L*d.ahead c a.1 a.2 b.1 b.2:=by rw[<-e3];exact EY (by omega) dd
  exact(bb hM).1 this
theorem jP (P g:ao->Bool):∀L:List ao,xs (λ x=>P x&&g x) L=xs g (L.filter P)
 |[]=>rfl
 |a :: r=>by
  rw[xs,jP P g r,List.filter_cons]
  cases h:P a with
  |true=>rw[EU rfl,xs,F4]
  |false=>rw[EM (by decide),FF,FW]
theorem pz (P:ao->Bool)(f:ao->Int):∀L:List ao,sm (L.map λ x=>if P x=true then f x else 0)=sm ((L.filter P).map f)
 |[]=>rfl
 |a :: r=>by
  rw[Fl,bW,pz P f r,List.filter_cons]
  cases h:P a with
  |true=>rw[EU rfl,EU rfl,Fl,bW]
  |false=>rw[EM (by decide),EM (by decide)];omega
section
variable  {S:Plan}
def eR (S:Plan)(c:Int)(l:ao):Bool:=decide ((ab S).Y l.1<=c/\c<(ab S).Y l.2)
theorem Cz (k:Kept S){E:List ao}(hE:∀e∈E,(ab S).J e.1 e.2)(hc:cR E)(hn:E.Nodup)(hs:∀x:ao,(ab S).J x.1 x.2->(ab S).om E x.1 x.2=decide (x∈E))(c:Int) :
  0<=sm ((S.lines.filter (eR S c)).map λ l=>Vs (ab S) S.lines c l*(bi (decide (l∈E))-bi (decide ((l.2,l.1)∈E)))) /\
  ((∃l∈S.lines.filter (eR S c),l∈E)->0<sm ((S.lines.filter (eR S c)).map λ l=>Vs (ab S) S.lines c l*(bi (decide (l∈E))-bi (decide ((l.2,l.1)∈E))))):=by
 have g:=bn S k
 have hL:=x6 k hE
 have hP:∀{l},l∈S.lines.filter (eR S c)->l∈S.lines/\(ab S).Y l.1<=c/\c<(ab S).Y l.2:=by
  intro l hl
  obtain⟨h1,h2⟩:=Fq.1 hl
  exact⟨h1,EH h2⟩
 let le:ao->ao->Bool:=λ a b=>decide (Vs (ab S) S.lines c b<=Vs (ab S) S.lines c a)
 have hperm:((S.lines.filter (eR S c)).mergeSort le).Perm (S.lines.filter (eR S c)):=List.mergeSort_perm _ _
 have hsort:((S.lines.filter (eR S c)).mergeSort le).Pairwise (λ a b=>le a b=true):=by
  apply List.pairwise_mergeSort
  ·intro a b c h1 h2
   have h1:=EH h1
   have h2:=EH h2
   exact dqt (by omega)
  ·intro a b
   show(decide _||decide _)=true
   rw[GK,ET,ET]
   omega
 have hnd:((S.lines.filter (eR S c)).mergeSort le).Nodup:=hperm.nodup_iff.2 (k.lines_nodup.filter _)
 have hstr:((S.lines.filter (eR S c)).mergeSort le).Pairwise (λ a b=>Vs (ab S) S.lines c b<Vs (ab S) S.lines c a):=by
  refine Hx ?_ (hsort.and hnd)
  intro a b ha hb h
  obtain⟨h1,h2⟩:=h
  have h1:=EH h1
  obtain⟨a1,a2,a3⟩:=hP (hperm.mem_iff.1 ha)
  obtain⟨b1,b2,b3⟩:=hP (hperm.mem_iff.1 hb)
  have q:=(ud g (u:=a.1) (w:=a.2) (p:=b.1) (q:=b.2) (c:=c) (Go a1) (Go b1) a2 a3 b2 b3 (λ z=>h2 (Prod.ext z.1.symm z.2.symm))).2
  have q1:=uq (ab S) a1 b1 (by omega) (by omega) c
  have q2:=uq (ab S) b1 a1 (by omega) (by omega) c
  have q3:(ab S).ahead c b.1 b.2 a.1 a.2=- (ab S).ahead c a.1 a.2 b.1 b.2:=by unfold Dr.ahead;omega
  omega
 have hsum:sm ((S.lines.filter (eR S c)).map λ l=>Vs (ab S) S.lines c l*(bi (decide (l∈E))-bi (decide ((l.2,l.1)∈E)))) =
   sm (((S.lines.filter (eR S c)).mergeSort le).map λ l=>Vs (ab S) S.lines c l*(bi (decide (l∈E))-bi (decide (l∈E)^^ce E l.1 l.2))):=by
  rw[<-ub (hperm.map _)]
  apply dr
  intro l hl
  obtain⟨l1,_,_⟩:=hP (hperm.mem_iff.1 hl)
  have hlt:=(k.line l1).1
  rw[wB hn (by omega:l.1≠l.2)]
  have:(l.1,l.2)=l:=rfl
  rw[this]
  congr 2
  cases decide (l∈E)<;>cases decide ((l.2,l.1)∈E)<;>rfl
 rw[hsum]
 generalize hM:(S.lines.filter (eR S c)).mergeSort le=M at *
 have key:=DK (V:=Vs (ab S) S.lines c) (up:=λ l=>decide (l∈E)) (mm:=λ l=>ce E l.1 l.2) M false hstr ?_ ?_
 ·obtain⟨B,hB⟩:∃B,∀l∈M,Vs (ab S) S.lines c l<=B:=by
   clear key hperm hsort hnd hstr hsum hM
   induction M with
   |nil=>exact⟨0,λ l hl=>by cases hl⟩
   |cons a r ih =>
    obtain⟨B,hB⟩:=ih
    refine⟨max B (Vs (ab S) S.lines c a),λ l hl=>?_⟩
    rcases ES.1 hl with e|e
    ·subst e;omega
    ·have:=hB l e;omega
  obtain⟨k1,k2⟩:=key B hB
  rw[x9,Int.mul_zero]at k1
  refine⟨by simpa using k1,λ⟨l,hl,hlE⟩=>k2 rfl ⟨l,hperm.mem_iff.2 hl,dqt hlE⟩⟩
 ·intro a l b e
  have hlM:l∈M:=by rw[e];simp
  obtain⟨l1,l2,l3⟩:=hP (hperm.mem_iff.1 hlM)
  have hlt:=(k.line l1).1
  have s1:=hs l (Go l1)
  rw[<-Ai g (Go l1) hlt l2 l3 hE hc,rT hL]at s1
  have s2:xs (λ x=>(ab S).sl c l.1 l.2 x.1 x.2&&ce E x.1 x.2) S.lines=xs (λ x=>eR S c x&&(decide (x=l\/0<(ab S).ahead c l.1 l.2 x.1 x.2)&&ce E x.1 x.2)) S.lines:=by
   apply bp
   intro x hx
   rw[<-Bool.and_assoc]
   congr 1
   unfold Dr.sl eR
   rw[<-Bool.decide_and,E1]
   have:(x.1=l.1/\x.2=l.2)↔x=l:=by
    constructor
    ·intro h;exact Prod.ext h.1 h.2
    ·intro h;rw[h];exact⟨rfl,rfl⟩
   rw[this]
   exact and_assoc.symm
  rw[s2,jP,<-t6 hperm,e,ee,xs]at s1
  rw[e,FY,FP]at hstr
  rw[e,List.nodup_append,Ge]at hnd
  have memM:∀x,x∈a\/x∈b->x∈S.lines/\(ab S).Y x.1<=c/\c<(ab S).Y x.2:=by
   intro x hx
   refine hP (hperm.mem_iff.1 ?_)
   rw[e]
   rcases hx with h|h
   ·simp[h]
   ·simp[h]
  have ta:xs (λ x=>decide (x=l\/0<(ab S).ahead c l.1 l.2 x.1 x.2)&&ce E x.1 x.2) a=xs (λ x=>ce E x.1 x.2) a:=by
   apply bp
   intro x hx
   obtain⟨x1,x2,x3⟩:=memM x (Go hx)
   have:=hstr.2.2 x hx l (by simp)
   have:=(uq (ab S) l1 x1 (by omega) (by omega) c).2 this
   rw[dqt (FV this),F4]
  have tb:xs (λ x=>decide (x=l\/0<(ab S).ahead c l.1 l.2 x.1 x.2)&&ce E x.1 x.2) b=xs (λ _=>false) b:=by
   apply bp
   intro x hx
   obtain⟨x1,x2,x3⟩:=memM x (FV hx)
   have h1:=hstr.2.1.1 x hx
   have h2:¬0<(ab S).ahead c l.1 l.2 x.1 x.2:=λ q=>by
    have:=(uq (ab S) l1 x1 (by omega) (by omega) c).1 q
    omega
   have h3:¬x=l:=λ q=>by subst q;omega
   rw[dqf (λ q=>q.elim h3 h2),FF]
  rw[ta,tb,gO]at s1
  show decide (l∈E)=_
  rw[<-s1]
  simp
 ·
  have h0:=hc (λ v=>decide ((ab S).Y v<=c))
  have h1:xs (λ e=>decide ((ab S).Y e.1<=c)^^decide ((ab S).Y e.2<=c)) E=xs (lh λ p q=>decide ((ab S).Y p<=c/\c<(ab S).Y q)) E:=by
   apply bp
   intro e he
   have hj:=hE e he
   have hord:∀{i j},(ab S).J i j->i<j->(ab S).Y i<=(ab S).Y j:=by
    intro i j h hlt
    rcases g.ord hlt (g.lt (g.symm h)) with h|h<;>omega
   have fin:∀{i j:Int},i<=j->(decide (i<=c)^^decide (j<=c))=decide (i<=c/\c<j):=by
    intro i j hij
    by_cases a:i<=c
    ·by_cases b:j<=c
     ·rw[dqt a,dqt b,dqf (by omega)];rfl
     ·rw[dqt a,dqf b,dqt (by omega)];rfl
    ·rw[dqf a,dqf (by omega:¬j<=c),dqf (by omega)];rfl
   unfold lh
   rcases FN (g.ne hj) with h|h
   ·rw[Fg (by omega),FO (by omega)]
    exact fin (hord hj h)
   ·rw[Ff (by omega),Gf (by omega),Hm]
    exact fin (hord (g.symm hj) h)
  rw[h1,rT hL]at h0
  rw[FW,t6 hperm,<-jP]
  exact h0
theorem j6 {c:Nat}{l:ao}:eR S (c:Int) l=true↔(S.pt l.1).y<=c/\c<(S.pt l.2).y:=by
 unfold eR
 rw[ET]
 show(((S.pt l.1).y:Int)<=(c:Int)/\(c:Int)<((S.pt l.2).y:Int))↔_
 omega
def Gt (m x1 x2 y2 n:Int)(c:Nat):Int:=(2*m)*((x2-x1)*((c:Int)*c-2*y2*c)+2*n*x2*c)
theorem vN (k:Kept S)(f:uB S){l:ao}(hl:l∈S.lines):gI (ab S) S.lines*(((ab S).X l.1+(ab S).X l.2)*((ab S).Y l.2-(ab S).Y l.1)) =
  sm ((Fe S.h).map λ c:Nat=>if eR S (c:Int) l=true then 2*Vs (ab S) S.lines (c:Int) l else 0):=by
 have g:=bn S k
 obtain⟨hlt,hlp⟩:=k.line hl
 have hin:=(f.inw hlp).2
 have hyy:(S.pt l.1).y<=(S.pt l.2).y:=by
  rcases g.ord hlt hlp with h|h<;>(simp only[ab]at h;omega)
 by_cases hy:(S.pt l.1).y=(S.pt l.2).y
 ·have e1:∀c∈Fe S.h,(if eR S (c:Int) l=true then 2*Vs (ab S) S.lines (c:Int) l else 0)=0:=by
   intro c _
   rw[EM]
   rw[j6]
   omega
  rw[dr e1,qv]
  have:(ab S).Y l.2-(ab S).Y l.1=0:=by simp only[ab];omega
  rw[this];simp
 ·have hY:(ab S).Y l.1<(ab S).Y l.2:=by simp only[ab];omega
  have q:=Int.ediv_mul_cancel (ny (ab S) hY hl)
  have e2:sm ((Fe S.h).map λ c:Nat=>if eR S (c:Int) l=true then 2*Vs (ab S) S.lines (c:Int) l else 0) =
    sm ((Fe S.h).map λ c:Nat=>if (S.pt l.1).y<=c/\c<(S.pt l.2).y then
     Gt (gI (ab S) S.lines / (2*(ab S).den l.1 l.2)) ((ab S).X l.1) ((ab S).X l.2) ((ab S).Y l.2) ((ab S).den l.1 l.2) (c+1) -
     Gt (gI (ab S) S.lines / (2*(ab S).den l.1 l.2)) ((ab S).X l.1) ((ab S).X l.2) ((ab S).Y l.2) ((ab S).den l.1 l.2) c else 0):=by
   apply dr
   intro c _
   by_cases hc:(S.pt l.1).y<=c/\c<(S.pt l.2).y
   ·rw[EU hc,EU (j6.2 hc)]
    unfold Vs Dr.num Dr.trz tr6 Gt
    have:((c+1:Nat):Int)=(c:Int)+1:=by omega
    simp only[this]
    unfold Dr.den
    generalize gI (ab S) S.lines / (2*((ab S).Y l.2-(ab S).Y l.1))=m
    generalize (ab S).X l.1=x1
    generalize (ab S).X l.2=x2
    generalize (ab S).Y l.1=y1
    generalize (ab S).Y l.2=y2
    generalize (c:Int)=z
    grind
   ·rw[EM hc,EM (λ q=>hc (j6.1 q))]
  rw[e2,Cu _ _ _ hyy,Ff hin,Ff (by omega:(S.pt l.1).y<=S.h)]
  have q':gI (ab S) S.lines=gI (ab S) S.lines / (2*(ab S).den l.1 l.2)*(2*(ab S).den l.1 l.2):=q.symm
  generalize gI (ab S) S.lines / (2*(ab S).den l.1 l.2)=m at q' ⊢
  rw[q']
  show _*(((ab S).X l.1+(ab S).X l.2)*((ab S).Y l.2-(ab S).Y l.1))=2*m*(((ab S).X l.2-(ab S).X l.1)*((ab S).Y l.2*(ab S).Y l.2-2*(ab S).Y l.2*(ab S).Y l.2)+2*(ab S).den l.1 l.2*(ab S).X l.2*(ab S).Y l.2) -
   2*m*(((ab S).X l.2-(ab S).X l.1)*((ab S).Y l.1*(ab S).Y l.1-2*(ab S).Y l.2*(ab S).Y l.1)+2*(ab S).den l.1 l.2*(ab S).X l.2*(ab S).Y l.1)
  unfold Dr.den
  generalize (ab S).X l.1=x1
  generalize (ab S).X l.2=x2
  generalize (ab S).Y l.1=y1
  generalize (ab S).Y l.2=y2
  grind
end
open Gla
section
variable  {S:Plan}
theorem wb (f:Nat->Int):∀{l m:List Nat},l.length=m.length->sm ((l.zip m).map λ x=>f x.1-f x.2)=sm (l.map f)-sm (m.map f)
 |[],[],_=>rfl
 |[],_ :: _,h=>by simp at h
 |_ :: _,[],h=>by simp at h
 |a :: l,b :: m,h=>by
  simp only[GN,Fl,bW]
  rw[wb f (by simpa using h)]
  omega
theorem vh (f:Nat->Int)(l:List Nat):sm ((prs l).map λ x=>f x.1-f x.2)=0:=by
 have hp:(l.drop 1++l.take 1).Perm l:=List.perm_append_comm.trans (by rw[List.take_append_drop])
 unfold prs
 rw[wb f (by rw[hp.length_eq]),ub (hp.map f)]
 omega
theorem xx (k:dq S){e:ao}(he:(ab S).J e.1 e.2)(hs:∀x:ao,(ab S).J x.1 x.2->(ab S).om (orb S e) x.1 x.2=decide (x∈orb S e))
  {l:ao} (hl:l∈S.lines) (hy:(S.pt l.1).y<(S.pt l.2).y) (hm:l∈orb S e):0<twiceArea S (rnd S e):=by
 have kk:=k.toKept
 have g:=bn S kk
 have f:=iM kk k.r6
 have p:=di kk he
 have hE:∀x∈orb S e,(ab S).J x.1 x.2:=λ x hx=>fP kk he hx
 have hc:cR (orb S e):=by
  rw[p.orb]
  exact fV _ _ (by rw[Gv,p.back];rfl)
 have hn:(orb S e).Nodup:=by
  rw[p.orb]
  exact fM _ _ _ _ (λ x y _ h1 h2=>p.dist x y h1 (by omega))
 have hL:=x6 kk hE
 have e1:twiceArea S (rnd S e)=sm ((orb S e).map λ x=>((ab S).X x.1+(ab S).X x.2)*((ab S).Y x.2-(ab S).Y x.1)):=by
  rw[mo kk he]
  have:sm ((orb S e).map (cr2 S))=sm ((orb S e).map λ x=>((ab S).X x.1+(ab S).X x.2)*((ab S).Y x.2-(ab S).Y x.1)+((λ i=>(ab S).X i*(ab S).Y i) x.1-(λ i=>(ab S).X i*(ab S).Y i) x.2)):=by
   apply dr
   intro x _
   unfold cr2
   show(ab S).X x.1*(ab S).Y x.2-(ab S).X x.2*(ab S).Y x.1=_
   grind
  rw[this,hZ (λ x:ao=>((ab S).X x.1+(ab S).X x.2)*((ab S).Y x.2-(ab S).Y x.1)) (λ x:ao=>(λ i=>(ab S).X i*(ab S).Y i) x.1-(λ i=>(ab S).X i*(ab S).Y i) x.2)]
  rw[<-iy kk he,vh (λ i=>(ab S).X i*(ab S).Y i)]
  omega
 have hM:=mt (ab S) S.lines
 have e2:gI (ab S) S.lines*twiceArea S (rnd S e)=sm ((Fe S.h).map λ c:Nat=>2*sm ((S.lines.filter (eR S (c:Int))).map λ l=>Vs (ab S) S.lines (c:Int) l*(bi (decide (l∈orb S e))-bi (decide ((l.2,l.1)∈orb S e))))):=by
  rw[e1,wC hL hn (λ a b=>((ab S).X a+(ab S).X b)*((ab S).Y b-(ab S).Y a)) (by intro a b;grind),<-eG]
  have e3:∀x∈S.lines,gI (ab S) S.lines*(((ab S).X x.1+(ab S).X x.2)*((ab S).Y x.2-(ab S).Y x.1)*(bi (decide (x∈orb S e))-bi (decide ((x.2,x.1)∈orb S e)))) =
    sm ((Fe S.h).map λ c:Nat=>if eR S (c:Int) x=true then 2*(Vs (ab S) S.lines (c:Int) x*(bi (decide (x∈orb S e))-bi (decide ((x.2,x.1)∈orb S e)))) else 0):=by
   intro x hx
   have q:=vN kk f hx
   have:sm ((Fe S.h).map λ c:Nat=>if eR S (c:Int) x=true then 2*(Vs (ab S) S.lines (c:Int) x*(bi (decide (x∈orb S e))-bi (decide ((x.2,x.1)∈orb S e)))) else 0) =
     sm ((Fe S.h).map λ c:Nat=>(bi (decide (x∈orb S e))-bi (decide ((x.2,x.1)∈orb S e)))*(if eR S (c:Int) x=true then 2*Vs (ab S) S.lines (c:Int) x else 0)):=by
    apply dr
    intro c _
    by_cases hp:eR S (c:Int) x=true
    ·rw[EU hp,EU hp];grind
    ·rw[EM hp,EM hp];simp
   rw[this,eG,<-q]
   grind
  rw[dr e3,pN (λ(x:ao) (c:Nat)=>if eR S (c:Int) x=true then 2*(Vs (ab S) S.lines (c:Int) x*(bi (decide (x∈orb S e))-bi (decide ((x.2,x.1)∈orb S e)))) else 0)]
  apply dr
  intro c _
  rw[pz (eR S (c:Int)) (λ x=>2*(Vs (ab S) S.lines (c:Int) x*(bi (decide (x∈orb S e))-bi (decide ((x.2,x.1)∈orb S e))))),eG]
 have hpos:0<gI (ab S) S.lines*twiceArea S (rnd S e):=by
  rw[e2]
  have hin:=(f.inw (kk.line hl).2).2
  refine Ae (y:=2*sm ((S.lines.filter (eR S (((S.pt l.1).y:Nat):Int))).map λ x=>Vs (ab S) S.lines (((S.pt l.1).y:Nat):Int) x*(bi (decide (x∈orb S e))-bi (decide ((x.2,x.1)∈orb S e))))) ?_ (Fx.2 ⟨(S.pt l.1).y,F3.2 (by omega),rfl⟩) ?_
  ·intro x hx
   obtain⟨c,_,rfl⟩:=Fx.1 hx
   have:=(Cz kk hE hc hn hs (c:Int)).1
   omega
  ·have:=(Cz kk hE hc hn hs (((S.pt l.1).y:Nat):Int)).2 ⟨l,Fq.2 ⟨hl,j6.2 ⟨by omega,hy⟩⟩,hm⟩
   omega
 exact(bb hM).1 hpos
def fd (l:List Nat):List ao:=l.zip (l.drop 1)
theorem qA (Q:Nat->Bool):∀{l:List Nat} {a z:Nat},l.head? = some a->l.getLast? = some z->xs (λ e=>Q e.1^^Q e.2) (fd l)=(Q a^^Q z)
 |[],_,_,h,_=>by simp at h
 |[x],a,z,h1,h2=>by
  simp at h1 h2
  subst h1 h2
  simp[fd,xs]
 |x :: y :: r,a,z,h1,h2=>by
  have h1:x=a:=by simpa using h1
  subst h1
  have ih:=qA Q (l:=y :: r) (a:=y) (z:=z) rfl (by rw[List.getLast?_cons_cons]at h2;exact h2)
  show xs _ ((x,y) :: fd (y :: r))=_
  rw[xs,ih]
  cases Q x<;>cases Q y<;>cases Q z<;>rfl
theorem m5 {l:List Nat}(h:l.Pairwise (· < ·)){a:Nat}(ha:a∈l)(hm:∀b∈l,a<=b):l.head? = some a:=by
 cases l with
 |nil=>cases ha
 |cons x r =>
  rw[FP]at h
  rcases ES.1 ha with e|e
  ·rw[e];rfl
  ·have:=h.1 a e
   have:=hm x E7
   omega
theorem kS:∀{l:List Nat},l.Pairwise (· < ·)->∀{z:Nat},z∈l->(∀b∈l,b<=z)->l.getLast? = some z
 |[],_,_,h,_=>by cases h
 |[x],_,z,h,_=>by
  have:z=x:=by simpa using h
  rw[this];rfl
 |x :: y :: r,hp,z,h,hm=>by
  rw[List.getLast?_cons_cons]
  rw[FP]at hp
  refine kS hp.2 ?_ (λ b hb=>hm b (EQ _ hb))
  rcases ES.1 h with e|e
  ·have h1:=hp.1 y E7
   have h2:=hm y (EQ _ E7)
   omega
  ·exact e
theorem xD {l:List Nat}{e:ao}(h:e∈fd l):∃i,∃(hi:i+1<l.length),e=(l[i],l[i+1]):=by
 unfold fd at h
 obtain⟨i,hi,he⟩:=Fh h
 rw[HG]at he
 have hl:i<(l.zip (l.drop 1)).length:=hi
 rw[G4,Fu]at hl
 refine⟨i,by omega,?_⟩
 rw[<-he]
 congr 1
 rw[Hy]
 congr 1
 omega
def frm (S:Plan):List ao:=fd (edgePts S λ p=>p.y==0)++(fd (edgePts S λ p=>p.x==S.w)++(fd (edgePts S λ p=>p.y==S.h)++fd (edgePts S λ p=>p.x==0)))
structure yx (S:Plan)(a b c d:Nat):Prop where
 ha:a<S.pts.length/\S.pt a=⟨0,0⟩
 hb:b<S.pts.length/\S.pt b=⟨S.w,0⟩
 hc:c<S.pts.length/\S.pt c=⟨0,S.h⟩
 hd:d<S.pts.length/\S.pt d=⟨S.w,S.h⟩
theorem m9 (h6:frameOk S=true):∃a b c d,yx S a b c d:=by
 unfold frameOk at h6
 simp only[EO]at h6
 obtain⟨a,ha⟩:=d8 h6.1
 obtain⟨b,hb⟩:=d8 h6.2.1
 obtain⟨c,hc⟩:=d8 h6.2.2.1
 obtain⟨d,hd⟩:=d8 h6.2.2.2.1
 exact⟨a,b,c,d,ha,hb,hc,hd⟩
theorem gC (k:Kept S){i j:Nat}(hi:i<S.pts.length)(hj:j<S.pts.length)(h:(S.pt i).y<(S.pt j).y\/((S.pt i).y=(S.pt j).y/\(S.pt i).x<=(S.pt j).x)):i<=j:=by
 apply bcn
 intro hn
 have:=(eB _ _).1 (k.ord (i:=j) (j:=i) (by omega) hi)
 omega
theorem vB (k:dq S):(∀e∈frm S,(ab S).J e.1 e.2)/\cR (frm S):=by
 have kk:=k.toKept
 have f:=iM kk k.r6
 have h6:=k.r6
 obtain⟨a,b,c,d,C⟩:=m9 h6
 unfold frameOk at h6
 simp only[EO]at h6
 obtain⟨_,_,_,_,c1,c2,c3,c4⟩:=h6
 have jj:∀{on:Pt->Bool},chained S (edgePts S on)=true->∀e∈fd (edgePts S on),(ab S).J e.1 e.2:=by
  intro on hc e he
  obtain⟨i,hi,rfl⟩:=xD he
  exact k6 hc hi
 constructor
 ·intro e he
  unfold frm at he
  rcases Fk.1 he with h|h
  ·exact jj c1 e h
  ·rcases Fk.1 h with h|h
   ·exact jj c4 e h
   ·rcases Fk.1 h with h|h
    ·exact jj c2 e h
    ·exact jj c3 e h
 ·intro Q
  have tel:∀{on:Pt->Bool} {u v:Nat},u<S.pts.length->v<S.pts.length->on (S.pt u)=true->on (S.pt v)=true->(∀i,i<S.pts.length->on (S.pt i)=true->u<=i/\i<=v) ->
    xs (λ e=>Q e.1^^Q e.2) (fd (edgePts S on))=(Q u^^Q v):=by
   intro on u v hu hv ou ov hm
   refine qA Q (m5 ie (a7.2 ⟨hu,ou⟩) λ x hx=>?_) (kS ie (a7.2 ⟨hv,ov⟩) λ x hx=>?_)
   ·obtain⟨h1,h2⟩:=a7.1 hx
    exact(hm x h1 h2).1
   ·obtain⟨h1,h2⟩:=a7.1 hx
    exact(hm x h1 h2).2
  obtain⟨ha,ea⟩:=C.ha
  obtain⟨hb,eb⟩:=C.hb
  obtain⟨hc,ec⟩:=C.hc
  obtain⟨hd,ed⟩:=C.hd
  unfold frm
  rw[ee,ee,ee]
  rw[tel (u:=a) (v:=b) ha hb (by rw[ea];rfl) (by rw[eb];rfl) (λ i hi h=>?_),tel (u:=b) (v:=d) hb hd (by rw[eb];simp) (by rw[ed];simp) (λ i hi h=>?_),
   tel (u:=c) (v:=d) hc hd (by rw[ec];simp) (by rw[ed];simp) (λ i hi h=>?_),tel (u:=a) (v:=c) ha hc (by rw[ea];rfl) (by rw[ec];rfl) (λ i hi h=>?_)]
  ·cases Q a<;>cases Q b<;>cases Q c<;>cases Q d<;>rfl
  ·have h:(S.pt i).x=0:=by simpa using h
   have hi2:=f.inw hi
   constructor
   ·apply gC kk ha hi;rw[ea];simp only;omega
   ·apply gC kk hi hc;rw[ec];simp only;omega
  ·have h:(S.pt i).y=S.h:=by simpa using h
   have hi2:=f.inw hi
   constructor
   ·apply gC kk hc hi;rw[ec];simp only;omega
   ·apply gC kk hi hd;rw[ed];simp only;omega
  ·have h:(S.pt i).x=S.w:=by simpa using h
   have hi2:=f.inw hi
   constructor
   ·apply gC kk hb hi;rw[eb];simp only;omega
   ·apply gC kk hi hd;rw[ed];simp only;omega
  ·have h:(S.pt i).y=0:=by simpa using h
   have hi2:=f.inw hi
   constructor
   ·apply gC kk ha hi;rw[ea];simp only;omega
   ·apply gC kk hi hb;rw[eb];simp only;omega
theorem zZ (k:dq S){z:Pt}(hx0:0<z.x)(hxw:z.x<S.w)(hyh:z.y<S.h):xs (lh ((ab S).cz z.x z.y)) (frm S)=true:=by
 have kk:=k.toKept
 have f:=iM kk k.r6
 obtain⟨a,b,c,d,C⟩:=m9 k.r6
 have edge:∀{on:Pt->Bool} {e:ao},e∈fd (edgePts S on)->e.1<e.2/\e.1<S.pts.length/\e.2<S.pts.length/\on (S.pt e.1)=true/\on (S.pt e.2)=true:=by
  intro on e he
  obtain⟨i,hi,rfl⟩:=xD he
  have h1:=Fs.1 (ie (S:=S) (on:=on)) i (i+1) (by omega) hi (by omega)
  obtain⟨m1,m2⟩:=a7.1 (Fm (l:=edgePts S on) (n:=i) (by omega))
  obtain⟨m3,m4⟩:=a7.1 (Fm (l:=edgePts S on) (n:=i+1) hi)
  exact⟨h1,m1,m3,m2,m4⟩
 have none:∀{on:Pt->Bool},(∀i j,i<j->i<S.pts.length->j<S.pts.length->on (S.pt i)=true->on (S.pt j)=true->(ab S).cz z.x z.y i j=false)->xs (lh ((ab S).cz z.x z.y)) (fd (edgePts S on))=false:=by
  intro on h
  have:xs (lh ((ab S).cz z.x z.y)) (fd (edgePts S on))=xs (λ _=>false) (fd (edgePts S on)):=by
   apply bp
   intro e he
   obtain⟨h1,h2,h3,h4,h5⟩:=edge he
   unfold lh
   rw[Fg (by omega),FO (by omega)]
   exact h _ _ h1 h2 h3 h4 h5
  rw[this,gO]
 have ord:∀{i j},i<j->j<S.pts.length->(S.pt i).y<=(S.pt j).y:=by
  intro i j h hj
  have:=(eB _ _).1 (kk.ord h hj)
  omega
 unfold frm
 rw[ee,ee,ee]
 rw[none (on:=λ p=>p.y==0) (λ i j _ _ _ h1 h2=>?_),none (on:=λ p=>p.y==S.h) (λ i j _ _ _ h1 h2=>?_),none (on:=λ p=>p.x==0) (λ i j hij hi hj h1 h2=>?_)]
 ·have hr:xs (lh ((ab S).cz z.x z.y)) (fd (edgePts S λ p=>p.x==S.w))=xs (λ e=>decide ((S.pt e.1).y<=z.y)^^decide ((S.pt e.2).y<=z.y)) (fd (edgePts S λ p=>p.x==S.w)):=by
   apply bp
   intro e he
   obtain⟨h1,h2,h3,h4,h5⟩:=edge he
   have h4:(S.pt e.1).x=S.w:=by simpa using h4
   have h5:(S.pt e.2).x=S.w:=by simpa using h5
   have ho:=ord h1 h3
   unfold lh
   rw[Fg (by omega),FO (by omega)]
   unfold Dr.cz Dr.trz tr6
   show decide (((S.pt e.1).y:Int)<=(z.y:Int)/\(z.y:Int)<((S.pt e.2).y:Int)/\0<(((S.pt e.2).x:Int)-((S.pt e.1).x:Int))*((z.y:Int)-((S.pt e.2).y:Int))-(((S.pt e.2).y:Int)-((S.pt e.1).y:Int))*((z.x:Int)-((S.pt e.2).x:Int)))=_
   rw[h4,h5]
   by_cases c1:(S.pt e.1).y<=z.y
   ·by_cases c2:(S.pt e.2).y<=z.y
    ·rw[dqt c1,dqt c2,dqf (by omega)];rfl
    ·rw[dqt c1,dqf c2]
     have:0<(((S.pt e.2).y:Int)-((S.pt e.1).y:Int))*((S.w:Int)-(z.x:Int)):=EY (by omega) (by omega)
     rw[dqt ⟨by omega,by omega,by grind⟩];rfl
   ·rw[dqf c1,dqf (by omega:¬(S.pt e.2).y<=z.y),dqf (by omega)];rfl
  obtain⟨hb,eb⟩:=C.hb
  obtain⟨hd,ed⟩:=C.hd
  have ht:=qA (λ v=>decide ((S.pt v).y<=z.y)) (l:=edgePts S λ p=>p.x==S.w) (a:=b) (z:=d)
   (m5 ie (a7.2 ⟨hb,by rw[eb];simp⟩) λ x hx=>by
    obtain⟨h1,h2⟩:=a7.1 hx
    have h2:(S.pt x).x=S.w:=by simpa using h2
    have:=f.inw h1
    apply gC kk hb h1;rw[eb];simp only;omega)
   (kS ie (a7.2 ⟨hd,by rw[ed];simp⟩) λ x hx=>by
    obtain⟨h1,h2⟩:=a7.1 hx
    have h2:(S.pt x).x=S.w:=by simpa using h2
    have:=f.inw h1
    apply gC kk h1 hd;rw[ed];simp only;omega)
  rw[hr,ht,eb,ed,dqt (by simp only;omega:({ x:=S.w,y:=0 }:Pt).y<=z.y),dqf (by simp only;omega:¬({ x:=S.w,y:=S.h }:Pt).y<=z.y)]
  rfl
 ·have h1:(S.pt i).x=0:=by simpa using h1
  have h2:(S.pt j).x=0:=by simpa using h2
  have ho:=ord hij hj
  unfold Dr.cz Dr.trz tr6
  refine dqf ?_
  show ¬(((S.pt i).y:Int)<=(z.y:Int)/\(z.y:Int)<((S.pt j).y:Int)/\0<(((S.pt j).x:Int)-((S.pt i).x:Int))*((z.y:Int)-((S.pt j).y:Int))-(((S.pt j).y:Int)-((S.pt i).y:Int))*((z.x:Int)-((S.pt j).x:Int)))
  rw[h1,h2]
  rintro⟨q1,q2,q3⟩
  have:0<(((S.pt j).y:Int)-((S.pt i).y:Int))*(z.x:Int):=EY (by omega) (by omega)
  grind
 ·have h1:(S.pt i).y=S.h:=by simpa using h1
  have h2:(S.pt j).y=S.h:=by simpa using h2
  unfold Dr.cz
  refine dqf ?_
  show ¬(((S.pt i).y:Int)<=(z.y:Int)/\(z.y:Int)<((S.pt j).y:Int)/\_)
  omega
 ·have h1:(S.pt i).y=0:=by simpa using h1
  have h2:(S.pt j).y=0:=by simpa using h2
  unfold Dr.cz
  refine dqf ?_
  show ¬(((S.pt i).y:Int)<=(z.y:Int)/\(z.y:Int)<((S.pt j).y:Int)/\_)
  omega
end
open Gla
section
variable  {d:Dr}
theorem zd (g:eK d)(edges:List ao)(hed:∀p q,d.J p q->p<q->(p,q)∈edges)(hed2:∀e∈edges,d.J e.1 e.2/\e.1<e.2)(zx zy:Int) :
  (∀E:List ao,(∀e∈E,d.J e.1 e.2)->xs (lh (d.cz zx zy)) E=false) \/
  ∃u w,d.J u w/\u<w/\d.Y u<d.Y w/\∀E:List ao,(∀e∈E,d.J e.1 e.2)->cR E->xs (lh (d.cz zx zy)) E=d.om E u w:=by
 have side:∀(F:Nat->Nat->Prop),(∀p q,d.J p q->p<q->F p q)->∀e:ao,d.J e.1 e.2->F (min e.1 e.2) (max e.1 e.2):=by
  intro F hF e he
  rcases FN (g.ne he) with h|h
  ·rw[Fg (by omega),FO (by omega)];exact hF _ _ he h
  ·rw[Ff (by omega),Gf (by omega)];exact hF _ _ (g.symm he) h
 by_cases hall:(edges.filter (λ e=>d.cz zx zy e.1 e.2))=[]
 ·left
  intro E hE
  have:xs (lh (d.cz zx zy)) E=xs (λ _=>false) E:=by
   apply bp
   intro e he
   refine side (λ p q=>d.cz zx zy p q=false) ?_ e (hE e he)
   intro p q hpq hlt
   have hm:=hed p q hpq hlt
   cases h:d.cz zx zy p q with
   |false=>rfl
   |true =>
    have:(p,q)∈edges.filter (λ e=>d.cz zx zy e.1 e.2):=Fq.2 ⟨hm,h⟩
    rw[hall]at this;cases this
  rw[this,gO]
 ·right
  obtain⟨⟨u,w⟩,hx,hm⟩:=jM (λ e:ao=>d.num zx zy e.1 e.2) (λ e:ao=>d.den e.1 e.2) _ hall (by
   intro x hx
   have:=EH (Fq.1 hx).2
   unfold Dr.den;omega)
  obtain⟨hx1,hx2⟩:=Fq.1 hx
  obtain⟨huw,hlt⟩:=hed2 _ hx1
  have hcz:d.cz zx zy u w=true:=hx2
  refine⟨u,w,huw,hlt,?_,λ E hE hc=>?_⟩
  ·have:=EH hcz
   omega
  have h:xs (λ e=>lh (d.cz zx zy) e^^d.Om u w (min e.1 e.2) (max e.1 e.2)) E=false:=by
   rw[<-hc (d.Pz zy u w)]
   apply bp
   intro e he
   have ze:∀p q,d.J p q->p<q->(d.cz zx zy p q^^d.Om u w p q)=(d.Pz zy u w p^^d.Pz zy u w q):=by
    intro p q hpq hlt'
    exact xm g huw hpq hlt hlt' hx2 (λ h=>hm (p,q) (Fq.2 ⟨hed p q hpq hlt',h⟩))
   have hj:=hE e he
   unfold lh
   rcases FN (g.ne hj) with h|h
   ·rw[Fg (by omega),FO (by omega)];exact ze _ _ hj h
   ·rw[Ff (by omega),Gf (by omega),Hm (d.Pz zy u w e.1)];exact ze _ _ (g.symm hj) h
  rw[iw]at h
  unfold Dr.om
  revert h
  generalize xs (lh (d.cz zx zy)) E=a;generalize xs _ E=b
  cases a<;>cases b<;>simp
end
section
variable  {S:Plan}
theorem vC (k:dq S){z:Pt}(hx0:0<z.x)(hxw:z.x<S.w)(hyh:z.y<S.h):∃e:ao,(ab S).J e.1 e.2/\0<twiceArea S (rnd S e)/\insideOf S (rnd S e) z=true:=by
 have kk:=k.toKept
 have g:=bn S kk
 have r:=cD kk
 have hw:0<S.w:=by omega
 have hh:0<S.h:=by omega
 obtain⟨o,ho,hoz,hoa⟩:=outer kk (iM kk k.r6) hw hh
 obtain⟨fE,fC⟩:=vB k
 have fin:=zZ k hx0 hxw hyh
 rcases zd g S.lines (by
   intro p q hpq hlt
   rcases hpq with h|h
   ·exact h
   ·have:=kk.line h;simp only at this;omega) (by
   intro l hl
   have:=kk.line hl
   exact⟨Go hl,this.1⟩) z.x z.y with h|⟨u,w,huw,hlt,hyy,h⟩
 ·rw[h _ fE]at fin;cases fin
 ·rw[h _ fE fC]at fin
  have hl:(u,w)∈S.lines:=by
   rcases huw with q|q
   ·exact q
   ·have:=kk.line q;simp only at this;omega
  have oE:∀x∈orb S (u,w),(ab S).J x.1 x.2:=λ x hx=>fP kk huw hx
  have p:=di kk (e:=(u,w)) huw
  have oC:cR (orb S (u,w)):=by
   rw[p.orb]
   exact fV _ _ (by rw[Gv,p.back];rfl)
  have hno:o∉orb S (u,w):=by
   intro hm
   have hm2:=eA kk (e:=(u,w)) huw hm
   obtain⟨j,hj⟩:=(dY kk ho).1 hm2
   have q:=lR g r fE fC ho j
   rw[<-hj,hoz _ fE fC]at q
   simp only at q
   rw[q]at fin
   cases fin
  have sees:∀x:ao,(ab S).J x.1 x.2->(ab S).om (orb S (u,w)) x.1 x.2=decide (x∈orb S (u,w)):=by
   intro x hx
   have hz:=hoz (orb S (u,w)) oE oC
   rw[p.orb]at hno hz ⊢
   exact pB g r huw p.pos p.back p.dist k.conn ho hz hno hx
  refine⟨(u,w),huw,xx k huw sees hl ?_ (gW kk huw),?_⟩
  ·simp only[ab]at hyy;simp only;omega
  ·rw[kD kk (e:=(u,w)) huw,h _ oE oC,sees (u,w) huw]
   exact dqt (gW kk huw)
theorem vv (k:dq S){z:Pt}(hw:0<S.w)(hh:0<S.h){e e':ao}(he:(ab S).J e.1 e.2)(he':(ab S).J e'.1 e'.2)
  (a:0<twiceArea S (rnd S e)) (a':0<twiceArea S (rnd S e')) (i:insideOf S (rnd S e) z=true) (i':insideOf S (rnd S e') z=true):e'∈orb S e :=
 one_pane k hw hh he he' a a' i i' (λ hx hy=>qR k.toKept hx hy)
end
open Gla
section
variable  {S:Plan}
def bM (S:Plan):List ao:=(Fe S.pts.length).flatMap λ i=>(aj S i).map λ j=>(i,j)
theorem bv (k:Kept S){e:ao}:e∈bM S↔(ab S).J e.1 e.2:=by
 have g:=bn S k
 have r:=cD k
 unfold bM
 rw[Iq]
 constructor
 ·rintro⟨i,hi,h⟩
  obtain⟨j,hj,rfl⟩:=Fx.1 h
  exact r.mem.1 hj
 ·intro h
  exact⟨e.1,F3.2 (g.lt h),Fx.2 ⟨e.2,r.mem.2 h,rfl⟩⟩
def kt (S:Plan)(st:List ao×List (List Nat))(e:ao):List ao×List (List Nat) :=
 if e∈st.1 then st else (st.1++orb S e,if 0<twiceArea S (rnd S e) then st.2++[rnd S e] else st.2)
def bH (S:Plan)(D:List ao):List ao×List (List Nat):=D.foldl (kt S) ([],[])
def dI (S:Plan):List (List Nat):=(bH S (bM S)).2
theorem gi (S:Plan)(D:List ao)(e:ao):bH S (D++[e])=kt S (bH S D) e:=by
 unfold bH
 rw[List.foldl_append]
 rfl
def Fst (S:Plan)(D:List ao)(e:ao):Prop:=∃a b,D=a++e :: b/\∀x∈a,e∉orb S x
structure wO (S:Plan)(D:List ao)(st:List ao×List (List Nat)):Prop where
 walked:∀x,x∈st.1↔∃e∈D,x∈orb S e
 mem:∀l,l∈st.2↔∃e,Fst S D e/\0<twiceArea S (rnd S e)/\l=rnd S e
 nd:st.2.Nodup
theorem fU {D:List ao}{e x:ao}:Fst S (D++[e]) x↔Fst S D x\/(x=e/\∀y∈D,e∉orb S y):=by
 constructor
 ·rintro⟨a,b,h,hn⟩
  rcases Hr b with hb|⟨b',y,hb⟩
  ·subst hb
   have:=List.append_inj' h rfl
   obtain⟨h1,h2⟩:=this
   have h2:e=x:=by simpa using h2
   subst h2 h1
   exact FV ⟨rfl,hn⟩
  ·left
   subst hb
   have h':D++[e]=(a++x :: b')++[y]:=by rw[h];simp
   have:=List.append_inj' h' rfl
   exact⟨a,b',this.1,hn⟩
 ·rintro(⟨a,b,h,hn⟩|⟨rfl,hn⟩)
  ·exact⟨a,b++[e],by rw[h];simp,hn⟩
  ·exact⟨D,[],rfl,hn⟩
theorem xI (k:Kept S){D:List ao}{st:List ao×List (List Nat)}(h:wO S D st)(hD:∀x∈D,(ab S).J x.1 x.2){e:ao}(he:(ab S).J e.1 e.2):wO S (D++[e]) (kt S st e):=by
 unfold kt
 by_cases hw:e∈st.1
 ·rw[EU hw]
  obtain⟨y,hy,hey⟩:=(h.walked e).1 hw
  refine⟨λ x=>?_,λ l=>?_,h.nd⟩
  ·rw[h.walked x]
   constructor
   ·rintro⟨z,hz,hx⟩;exact⟨z,by simp[hz],hx⟩
   ·rintro⟨z,hz,hx⟩
    rcases Fk.1 hz with q|q
    ·exact⟨z,q,hx⟩
    ·have:z=e:=by simpa using q
     subst this
     exact⟨y,hy,fL k (hD y hy) hey hx⟩
  ·rw[h.mem l]
   constructor
   ·rintro⟨x,hx,q⟩;exact⟨x,fU.2 (Go hx),q⟩
   ·rintro⟨x,hx,q⟩
    rcases fU.1 hx with q1|⟨rfl,q1⟩
    ·exact⟨x,q1,q⟩
    ·exact absurd hey (q1 y hy)
 ·rw[EM hw]
  have hn:∀y∈D,e∉orb S y:=λ y hy q=>hw ((h.walked e).2 ⟨y,hy,q⟩)
  refine⟨λ x=>?_,λ l=>?_,?_⟩
  ·rw[Fk,h.walked x]
   constructor
   ·rintro(⟨z,hz,hx⟩|hx)
    ·exact⟨z,by simp[hz],hx⟩
    ·exact⟨e,by simp,hx⟩
   ·rintro⟨z,hz,hx⟩
    rcases Fk.1 hz with q|q
    ·exact Go ⟨z,q,hx⟩
    ·have:z=e:=by simpa using q
     subst this
     exact FV hx
  ·by_cases ha:0<twiceArea S (rnd S e)
   ·rw[EU ha,Fk,h.mem l]
    constructor
    ·rintro(⟨x,hx,q⟩|q)
     ·exact⟨x,fU.2 (Go hx),q⟩
     ·exact⟨e,fU.2 (FV ⟨rfl,hn⟩),ha,by simpa using q⟩
    ·rintro⟨x,hx,q⟩
     rcases fU.1 hx with q1|⟨rfl,q1⟩
     ·exact Go ⟨x,q1,q⟩
     ·exact FV (by simpa using q.2)
   ·rw[EM ha,h.mem l]
    constructor
    ·rintro⟨x,hx,q⟩;exact⟨x,fU.2 (Go hx),q⟩
    ·rintro⟨x,hx,q⟩
     rcases fU.1 hx with q1|⟨rfl,q1⟩
     ·exact⟨x,q1,q⟩
     ·exact absurd q.1 ha
  ·by_cases ha:0<twiceArea S (rnd S e)
   ·rw[EU ha,List.nodup_append]
    refine⟨h.nd,by simp,λ l hl m hm q=>?_⟩
    have hm:m=rnd S e:=by simpa using hm
    subst hm q
    obtain⟨x,⟨a,b,hx,_⟩,_,e1⟩:=(h.mem _).1 hl
    have hxD:x∈D:=by rw[hx];simp
    have e2:orb S e=orb S x:=by rw[<-iy k he,<-iy k (hD x hxD),e1]
    exact hn x hxD (by rw[<-e2];exact gW k he)
   ·rw[EM ha];exact h.nd
theorem kN (k:Kept S):∀{D:List ao},(∀x∈D,(ab S).J x.1 x.2)->wO S D (bH S D):=by
 intro D
 generalize hn:D.length=n
 induction n generalizing D with
 |zero =>
  intro _
  have:D=[]:=Gz.1 hn
  subst this
  refine⟨λ x=>?_,λ l=>?_,List.nodup_nil⟩
  ·constructor
   ·intro h;cases h
   ·rintro⟨e,he,_⟩;cases he
  ·constructor
   ·intro h;cases h
   ·rintro⟨e,⟨a,b,h,_⟩,_⟩
    simp at h
 |succ n ih =>
  intro hD
  rcases Hr D with h|⟨D',e,h⟩
  ·subst h;simp at hn
  ·rw[HS]at h
   subst h
   rw[gi]
   exact xI k (ih (by simpa using hn) λ x hx=>hD x (by simp[hx])) (λ x hx=>hD x (by simp[hx])) (hD e (by simp))
theorem iF {α:Type}[BEq α][LawfulBEq α]:∀(n:Nat) (l:List α),l.length<=n->l.eraseDups.Nodup
 |0,l,h=>by
  have:l=[]:=Gz.1 (by omega)
  subst this
  simp
 |n+1,[],_=>by simp
 |n+1,a :: l,h=>by
  rw[List.eraseDups_cons,Ge]
  refine⟨λ q=>?_,iF n _ (by have:=Hs (λ b=>!b==a) l;simp at h;omega)⟩
  rw[List.mem_eraseDups,Fq]at q
  simp at q
theorem rD:(bM S).Pairwise (λ x y=>x.1<=y.1):=by
 unfold bM
 generalize S.pts.length=n
 induction n with
 |zero=>exact List.Pairwise.nil
 |succ n ih =>
  rw[HR,List.flatMap_append,FY]
  refine⟨ih,?_,?_⟩
  ·rw[List.flatMap_cons,List.flatMap_nil,Gd,List.pairwise_map]
   exact List.pairwise_of_forall (λ _ _=>nlr _)
  ·intro x hx y hy
   obtain⟨i,hi,h⟩:=Iq.1 hx
   obtain⟨j,hj,rfl⟩:=Fx.1 h
   obtain⟨i',hi',h'⟩:=Iq.1 hy
   obtain⟨j',hj',rfl⟩:=Fx.1 h'
   have:=F3.1 hi
   have:i'=n:=by simpa using hi'
   simp only
   omega
theorem mD (k:Kept S){e:ao}(he:(ab S).J e.1 e.2):∃t,rnd S e=e.1 :: t:=by
 have p:=di k he
 obtain⟨n,hn⟩:∃n,(rnd S e).length=n+1:=⟨(rnd S e).length-1,by have:=p.pos;omega⟩
 rw[p.rnd,hn]
 exact⟨_,rfl⟩
theorem uD (k:Kept S){e:ao}(he:(ab S).J e.1 e.2){v:Nat}(h:v∈rnd S e):∃x∈orb S e,x.1=v:=by
 have p:=di k he
 rw[p.rnd,<-p.orb]at h
 obtain⟨x,hx,e⟩:=Fx.1 h
 exact⟨x,hx,e⟩
theorem gJ (k:dq S){e:ao}(h:Fst S (bM S) e):∃t,rnd S e=e.1 :: t/\∀x∈t,e.1<x:=by
 have kk:=k.toKept
 obtain⟨a,b,hD,hn⟩:=h
 have he:(ab S).J e.1 e.2:=(bv kk).1 (by rw[hD];simp)
 obtain⟨t,ht⟩:=mD kk he
 refine⟨t,ht,λ v hv=>?_⟩
 have nd:=kQ k he
 rw[ht,Ge]at nd
 have hne:v≠e.1:=λ q=>nd.1 (q▸hv)
 obtain⟨x,hx,hxv⟩:=uD kk he (v:=v) (by rw[ht];simp[hv])
 apply bcn
 intro hlt
 have hxD:x∈bM S:=(bv kk).2 (fP kk he hx)
 have ord:=rD (S:=S)
 rw[hD,FY,FP]at ord
 rw[hD]at hxD
 rcases Fk.1 hxD with q|q
 ·exact hn x q (eA kk he hx)
 ·rcases ES.1 q with q|q
  ·subst q;omega
  ·have:=ord.2.1.1 x q
   omega
theorem sM (k:Kept S){e x:ao}(he:(ab S).J e.1 e.2)(hx:x∈orb S e):∃j,j<(rnd S e).length/\rnd S x=(rnd S e).drop j++(rnd S e).take j:=by
 have p:=di k he
 obtain⟨j,hj⟩:=(dY k he).1 hx
 rw[qp p.back p.pos]at hj
 refine⟨j % (rnd S e).length,Nat.mod_lt _ p.pos,?_⟩
 rw[hj]
 exact yE k he (Nat.mod_lt _ p.pos)
theorem iR (k:dq S)(l:List Nat):l∈dI S↔l∈S.outlines:=by
 have kk:=k.toKept
 have ok:=kN kk (D:=bM S) (λ x hx=>(bv kk).1 hx)
 unfold dI
 rw[ok.mem]
 unfold Plan.outlines
 rw[Fq,List.mem_eraseDups,Fx]
 constructor
 ·rintro⟨e,hf,ha,rfl⟩
  obtain⟨t,ht,hm⟩:=gJ k hf
  obtain⟨a,b,hD,_⟩:=hf
  have he:(ab S).J e.1 e.2:=(bv kk).1 (by rw[hD];simp)
  refine⟨⟨e,iT.2 he,?_⟩,dqt ha⟩
  show fromLeast (rnd S e)=rnd S e
  have:=dW hm (j:=0) (by simp)
  rw[ht]
  simpa using this
 ·rintro⟨⟨e',hw,rfl⟩,ha⟩
  have he':(ab S).J e'.1 e'.2:=iT.1 (by obtain⟨x,y⟩:=e';exact hw)
  have ha:0<twiceArea S (fromLeast (rnd S e')):=EH ha
  obtain⟨a,e,b,hD,he,hn⟩:∃a e b,bM S=a++e :: b/\e∈orb S e'/\∀x∈a,x∉orb S e':=by
   have h0:e'∈bM S:=(bv kk).2 he'
   have h1:=gW kk he'
   generalize bM S=D at h0
   induction D with
   |nil=>cases h0
   |cons y r ih =>
    by_cases hy:y∈orb S e'
    ·exact⟨[],y,r,rfl,hy,λ x hx=>by cases hx⟩
    ·have:e'∈r:=(ES.1 h0).resolve_left (λ q=>hy (q▸h1))
     obtain⟨a,e,b,h2,h3,h4⟩:=ih this
     refine⟨y :: a,e,b,by rw[h2];rfl,h3,λ x hx=>?_⟩
     rcases ES.1 hx with q|q
     ·rw[q];exact hy
     ·exact h4 x q
  have hej:=fP kk he' he
  have hf:Fst S (bM S) e:=⟨a,b,hD,λ x hx q=>by
   have hxj:(ab S).J x.1 x.2:=(bv kk).1 (by rw[hD];simp[hx])
   exact hn x hx (fL kk he' he (eA kk hxj q))⟩
  obtain⟨t,ht,hm⟩:=gJ k hf
  obtain⟨j,hj,hr⟩:=sM kk hej (eA kk he' he)
  have e1:fromLeast (rnd S e')=rnd S e:=by
   rw[hr,ht]
   exact dW hm (by rw[<-ht];exact hj)
  have e1':fromLeast (S.round (2*S.lines.length+1) e' e')=rnd S e:=e1
  exact⟨e,hf,by rw[<-e1];exact ha,e1'⟩
theorem iu (k:Kept S):(dI S).Nodup:=(kN k (D:=bM S) (λ x hx=>(bv k).1 hx)).nd
theorem l8 (S:Plan):S.outlines.Nodup:=(iF _ _ (nlr _)).filter _
theorem qZ (k:dq S):(dI S).length=S.outlines.length:=by
 have h1:=bC (iu k.toKept) (λ x hx=>(iR k x).1 hx)
 have h2:=bC (l8 S) (λ x hx=>(iR k x).2 hx)
 omega
theorem m7 (k:dq S){l:List Nat}(h:l∈dI S):∃e:ao,(ab S).J e.1 e.2/\0<twiceArea S (rnd S e)/\l=rnd S e:=by
 have kk:=k.toKept
 have ok:=kN kk (D:=bM S) (λ x hx=>(bv kk).1 hx)
 obtain⟨e,⟨a,b,hD,_⟩,ha,hl⟩:=(ok.mem l).1 h
 exact⟨e,(bv kk).1 (by rw[hD];simp),ha,hl⟩
theorem A8 (k:dq S){z:Pt}(hz:clear S z=true):∃h,∃(hh:h<(dI S).length),S.among S.outlines z=some (dI S)[h]/\insideOf S (dI S)[h] z=true /\
  ∀j (hj:j<(dI S).length),insideOf S (dI S)[j] z=true->j=h:=by
 have kk:=k.toKept
 have hz':=hz
 unfold clear at hz'
 simp only[EO,ET]at hz'
 obtain⟨z1,z2,z3,z4,_⟩:=hz'
 have hw:0<S.w:=by omega
 have hh:0<S.h:=by omega
 obtain⟨e,he,ha,hi⟩:=vC k z1 z2 z4
 have uniq:∀l∈dI S,∀m∈dI S,insideOf S l z=true->insideOf S m z=true->l=m:=by
  intro l hl m hm il im
  have ok:=kN kk (D:=bM S) (λ x hx=>(bv kk).1 hx)
  obtain⟨x,hx,ax,rfl⟩:=(ok.mem l).1 hl
  obtain⟨y,hy,ay,rfl⟩:=(ok.mem m).1 hm
  obtain⟨t1,h1,m1⟩:=gJ k hx
  obtain⟨t2,h2,m2⟩:=gJ k hy
  obtain⟨a1,b1,d1,n1⟩:=hx
  obtain⟨a2,b2,d2,n2⟩:=hy
  have xj:(ab S).J x.1 x.2:=(bv kk).1 (by rw[d1];simp)
  have yj:(ab S).J y.1 y.2:=(bv kk).1 (by rw[d2];simp)
  have hm:=vv k hw hh xj yj ax ay il im
  obtain⟨j,hj,hr⟩:=sM kk xj hm
  have:fromLeast (rnd S y)=rnd S x:=by
   rw[hr,h1]
   exact dW m1 (by rw[<-h1];exact hj)
  have e2:=dW m2 (j:=0) (by simp)
  rw[h2]at this
  rw[<-this,h2]
  have e3:fromLeast (y.1 :: t2)=y.1 :: t2:=by simpa using e2
  exact e3
 have ex:∃l∈dI S,insideOf S l z=true:=by
  have hl:fromLeast (rnd S e)∈S.outlines:=by
   unfold Plan.outlines
   rw[Fq,List.mem_eraseDups,Fx]
   refine⟨⟨e,iT.2 he,rfl⟩,?_⟩
   have q:∃x∈orb S e,fromLeast (rnd S e)=rnd S x:=by
    obtain⟨a,x,b,hD,hx,hn⟩:∃a x b,bM S=a++x :: b/\x∈orb S e/\∀y∈a,y∉orb S e:=by
     have h0:e∈bM S:=(bv kk).2 he
     have h1:=gW kk he
     generalize bM S=D at h0
     induction D with
     |nil=>cases h0
     |cons y r ih =>
      by_cases hy:y∈orb S e
      ·exact⟨[],y,r,rfl,hy,λ x hx=>by cases hx⟩
      ·have:e∈r:=(ES.1 h0).resolve_left (λ q=>hy (q▸h1))
       obtain⟨a,x,b,h2,h3,h4⟩:=ih this
       refine⟨y :: a,x,b,by rw[h2];rfl,h3,λ v hv=>?_⟩
       rcases ES.1 hv with q|q
       ·rw[q];exact hy
       ·exact h4 v q
    have hxj:=fP kk he hx
    have hf:Fst S (bM S) x:=⟨a,b,hD,λ y hy q=>by
     have hyj:(ab S).J y.1 y.2:=(bv kk).1 (by rw[hD];simp[hy])
     exact hn y hy (fL kk he hx (eA kk hyj q))⟩
    obtain⟨t,ht,hm⟩:=gJ k hf
    obtain⟨j,hj,hr⟩:=sM kk hxj (eA kk he hx)
    refine⟨x,hx,?_⟩
    rw[hr,ht]
    exact dW hm (by rw[<-ht];exact hj)
   obtain⟨x,hx,hq⟩:=q
   rw[hq,qR kk he hx]
   exact dqt ha
  have hlo:=(iR k _).2 hl
  refine⟨_,hlo,?_⟩
  obtain⟨x,xj,ax,hx⟩:=m7 k hlo
  have q:x∈orb S e\/True:=FV trivial
  have hrot:∃a b,rnd S e=a++b/\fromLeast (rnd S e)=b++a:=by
   generalize rnd S e=r
   cases r with
   |nil=>exact⟨[],[],rfl,rfl⟩
   |cons a r =>
    refine⟨(a :: r).take ((a :: r).idxOf (r.foldl min a)),(a :: r).drop ((a :: r).idxOf (r.foldl min a)),(List.take_append_drop _ _).symm,rfl⟩
  obtain⟨a,b,h1,h2⟩:=hrot
  rw[h2]
  rw[h1]at hi
  have pr:∀(a b:List Nat),(prs (a++b)).Perm (prs (b++a)):=by
   intro a b
   unfold prs
   cases a with
   |nil=>rw[GA,Gd]
   |cons x a =>
    cases b with
    |nil=>rw[GA,Gd]
    |cons y b =>
     have c1:((x :: a)++(y :: b)).zip (((x :: a)++(y :: b)).drop 1++((x :: a)++(y :: b)).take 1)=(x :: a).zip (a++[y])++(y :: b).zip (b++[x]):=by
      have:((x :: a)++(y :: b)).drop 1++((x :: a)++(y :: b)).take 1=(a++[y])++(b++[x]):=by simp
      rw[this,List.zip_append (by simp)]
     have c2:((y :: b)++(x :: a)).zip (((y :: b)++(x :: a)).drop 1++((y :: b)++(x :: a)).take 1)=(y :: b).zip (b++[x])++(x :: a).zip (a++[y]):=by
      have:((y :: b)++(x :: a)).drop 1++((y :: b)++(x :: a)).take 1=(b++[x])++(a++[y]):=by simp
      rw[this,List.zip_append (by simp)]
     rw[c1,c2]
     exact List.perm_append_comm
  have ins:∀l m:List Nat,(prs l).Perm (prs m)->insideOf S l z=insideOf S m z:=by
   intro l m hp
   unfold insideOf
   have:(l.zip (l.drop 1++l.take 1)).Perm (m.zip (m.drop 1++m.take 1)):=hp
   rw[(this.filter _).length_eq]
  rw[ins _ _ (pr b a)]
  exact hi
 obtain⟨l,hl,hin⟩:=ex
 obtain⟨h,hh,hlh⟩:=Fh hl
 refine⟨h,hh,?_,by rw[hlh];exact hin,λ j hj q=>?_⟩
 ·unfold Plan.among
  rw[EU hz,hlh]
  cases hf:S.outlines.find? λ(l:List Nat)=>insideOf S l z with
  |none =>
   have:=Ho.1 hf l ((iR k l).1 hl)
   rw[hin]at this
   exact absurd rfl this
  |some m =>
   have h1:=List.find?_some hf
   have h2:=List.mem_of_find?_eq_some hf
   rw[uniq m ((iR k m).2 h2) l hl h1 hin]
 ·have e:=uniq _ (Fm hj) _ hl q hin
  have nd:=iu kk
  exact(List.getElem_inj nd).1 (e.trans hlh.symm)
end
open Gla
theorem em {α:Type}{p:Nat->α->Bool}{l:List α}{k:Nat}(hk:k<l.length)(h:p k l[k]=true)(hb:∀j (hj:j<k),p j (l[j]'(by omega))=false):firstAt p l=some k:=by
 unfold firstAt
 have:(l.zipIdx.find? λ(x:α×Nat)=>p x.2 x.1)=some (l[k],k):=by
  rw[Hz]
  refine⟨h,k,by rw[List.length_zipIdx];exact hk,by rw[List.getElem_zipIdx];simp,λ j hj=>?_⟩
  rw[List.getElem_zipIdx]
  simp only[Gv]
  rw[hb j hj]
  rfl
 rw[this]
 rfl
theorem dU {α:Type}{p:Nat->α->Bool}{l:List α}(hb:∀j (hj:j<l.length),p j l[j]=false):firstAt p l=none:=by
 unfold firstAt
 rw[Option.map_eq_none_iff,Ho]
 intro x hx
 obtain⟨i,hi,rfl⟩:=Fh hx
 rw[List.getElem_zipIdx]
 simp only[Gv]
 rw[List.length_zipIdx]at hi
 rw[hb i hi]
 simp
theorem jK {p:Nat->Bool}{n k:Nat}(hk:k<n)(h:p k=true)(hb:∀j,j<k->p j=false):(Fe n).find? p=some k:=by
 rw[Hz]
 refine⟨h,k,by rw[F2];exact hk,by rw[List.getElem_range],λ j hj=>?_⟩
 rw[List.getElem_range,hb j hj]
 rfl
theorem je {p:Nat->Bool}{n:Nat}(hb:∀j,j<n->p j=false):(Fe n).find? p=none:=by
 rw[Ho]
 intro x hx
 rw[hb x (F3.1 hx)]
 simp
def b7 {α:Type}(ok:α->Bool)(before:α->α->Bool)(l:List α)(i:Nat)(x:α):Bool:=!ok x||(decide (0<i)&&(match l[i-1]? with
 |some y=>!before y x
 |none=>false))
theorem d9 {α:Type}(ok:α->Bool)(before:α->α->Bool)(l:List α):firstBad ok before l=firstAt (b7 ok before l) l:=rfl
theorem jC {α:Type}{ok:α->Bool}{before:α->α->Bool}{l:List α}{x:α}:b7 ok before l 0 x=!ok x:=by
 unfold b7
 simp
theorem jO {α:Type}{ok:α->Bool}{before:α->α->Bool}{l:List α}{i:Nat}(hi:i<l.length){x:α}:b7 ok before l (i+1) x=(!ok x||!before l[i] x):=by
 unfold b7
 rw[dqt (by omega),F4,show i+1-1=i by omega,gge hi]
section
variable  {S:Plan}
def R4 (S:Plan):Prop:=firstBad (λ(p:Pt)=>decide (p.x<=S.w)&&decide (p.y<=S.h)) Pt.below S.pts=none
def R5 (S:Plan):Prop:=firstBad (λ(l:Nat×Nat)=>decide (l.1<l.2)&&decide (l.2<S.pts.length)) lineBelow S.lines=none
theorem R4.ord (h:R4 S){i j:Nat}(hij:i<j)(hj:j<S.pts.length):(S.pt i).y<(S.pt j).y\/((S.pt i).y=(S.pt j).y/\(S.pt i).x<(S.pt j).x):=by
 have q:=chain_lt (R:=Pt.below) (λ h1 h2=>lm h1 h2) (ck h).2 i j hij hj
 rw[bK S hj,bK S (by omega:i<S.pts.length)]
 exact(eB _ _).1 q
theorem R5.line (h:R5 S){l:Nat×Nat}(hl:l∈S.lines):l.1<l.2/\l.2<S.pts.length:=by
 have:=(ck h).1 l hl
 simpa using this
theorem tp (h4:R4 S){p q j:Nat}(hpq:p<q)(hq:q<S.pts.length)(hj:j<S.pts.length)(h1:j≠p)(h2:j≠q)(hon:isOn (S.pt p) (S.pt q) (S.pt j)=true):p<j/\j<q:=by
 unfold isOn between at hon
 simp only[EO,HI,ET]at hon
 obtain⟨ht,⟨hx1,hx2⟩,hy1,hy2⟩:=hon
 have o:=h4.ord hpq hq
 unfold turn dx dy at ht
 constructor
 ·apply bcn
  intro hn
  have oj:=h4.ord (i:=j) (j:=p) (by omega) (by omega)
  have ey:(S.pt j).y=(S.pt p).y:=by omega
  have exl:(S.pt j).x<(S.pt p).x:=by omega
  rcases o with o|o
  ·rw[ey]at ht
   have:(((S.pt q).y:Int)-((S.pt p).y:Int))*(((S.pt p).x:Int)-((S.pt j).x:Int))=0:=by grind
   have:0<(((S.pt q).y:Int)-((S.pt p).y:Int))*(((S.pt p).x:Int)-((S.pt j).x:Int)):=EY (by omega) (by omega)
   omega
  ·omega
 ·apply bcn
  intro hn
  have oj:=h4.ord (i:=q) (j:=j) (by omega) hj
  have ey:(S.pt j).y=(S.pt q).y:=by omega
  have exl:(S.pt q).x<(S.pt j).x:=by omega
  rcases o with o|o
  ·rw[ey]at ht
   have:(((S.pt q).y:Int)-((S.pt p).y:Int))*(((S.pt j).x:Int)-((S.pt q).x:Int))=0:=by grind
   have:0<(((S.pt q).y:Int)-((S.pt p).y:Int))*(((S.pt j).x:Int)-((S.pt q).x:Int)):=EY (by omega) (by omega)
   omega
  ·omega
theorem vL (h4:R4 S){p q r s:Nat}(hpq:p<q)(hq:q<S.pts.length)(hrs:r<s)(hs:s<S.pts.length)(hc:crosses (S.pt p) (S.pt q) (S.pt r) (S.pt s)=true):p<s:=by
 apply bcn
 intro hn
 have o1:=h4.ord hpq hq
 have o2:=h4.ord hrs hs
 have o3:(S.pt s).y<=(S.pt p).y:=by
  by_cases e:s=p
  ·rw[e];exact nlr _
  ·have:=h4.ord (i:=s) (j:=p) (by omega) (by omega)
   omega
 unfold crosses at hc
 simp only[EO,ET]at hc
 obtain⟨c1,c2⟩:=hc
 unfold turn dx dy at c1 c2
 have y1:(S.pt p).y<=(S.pt q).y:=by omega
 have y2:(S.pt r).y<=(S.pt s).y:=by omega
 generalize hpx:((S.pt p).x:Int)=px at *
 generalize hqx:((S.pt q).x:Int)=qx at *
 generalize hrx:((S.pt r).x:Int)=rx at *
 generalize hsx:((S.pt s).x:Int)=sx at *
 have y1':((S.pt p).y:Int)<=((S.pt q).y:Int):=by omega
 have y2':((S.pt r).y:Int)<=((S.pt s).y:Int):=by omega
 have y3':((S.pt s).y:Int)<=((S.pt p).y:Int):=by omega
 generalize ((S.pt p).y:Int)=py at *
 generalize ((S.pt q).y:Int)=qy at *
 generalize ((S.pt r).y:Int)=ry at *
 generalize ((S.pt s).y:Int)=sy at *
 have fin:∀(fr fs hp hq:Int),fr=(qx-px)*(ry-qy)-(qy-py)*(rx-qx)->fs=(qx-px)*(sy-qy)-(qy-py)*(sx-qx)->hp=(sx-rx)*(py-sy)-(sy-ry)*(px-sx)->hq=(sx-rx)*(qy-sy)-(sy-ry)*(qx-sx)->fr*fs<0->hp*hq<0->False:=by
  intro fr fs hp hq e1 e2 e3 e4 m1 m2
  have i1:fs*ry-fr*sy=hp*qy-hq*py:=by rw[e1,e2,e3,e4];grind
  have i2:fs-fr=hp-hq:=by rw[e1,e2,e3,e4];grind
  have i3:fs-fr=(qx-px)*(sy-ry)-(qy-py)*(sx-rx):=by rw[e1,e2];grind
  have sg:(0<fs/\fr<0/\0<hp/\hq<0)\/(fs<0/\0<fr/\hp<0/\0<hq):=by
   have s1:(0<fs/\fr<0)\/(fs<0/\0<fr):=by
    rcases Int.lt_trichotomy fs 0 with h|h|h
    ·right
     refine⟨h,?_⟩
     apply bcn;intro q
     have:0<=(-fr)*(-fs):=ER (by omega) (by omega)
     grind
    ·rw[h]at m1;simp at m1
    ·left
     refine⟨h,?_⟩
     apply bcn;intro q
     have:0<=fr*fs:=ER (by omega) (by omega)
     omega
   have s2:(0<hp/\hq<0)\/(hp<0/\0<hq):=by
    rcases Int.lt_trichotomy hp 0 with h|h|h
    ·right
     refine⟨h,?_⟩
     apply bcn;intro q
     have:0<=(-hp)*(-hq):=ER (by omega) (by omega)
     grind
    ·rw[h]at m2;simp at m2
    ·left
     refine⟨h,?_⟩
     apply bcn;intro q
     have:0<=hp*hq:=ER (by omega) (by omega)
     omega
   rcases s1 with s1|s1<;>rcases s2 with s2|s2
   ·exact Go ⟨s1.1,s1.2,s2.1,s2.2⟩
   ·omega
   ·omega
   ·exact FV ⟨s1.1,s1.2,s2.1,s2.2⟩
  have j1:fs*(sy-ry)+hp*(qy-py)+(fs-fr)*(py-sy)=0:=by grind
  rcases sg with⟨g1,g2,g3,g4⟩|⟨g1,g2,g3,g4⟩
  ·have a1:0<=fs*(sy-ry):=ER (by omega) (by omega)
   have a2:0<=hp*(qy-py):=ER (by omega) (by omega)
   have a3:0<=(fs-fr)*(py-sy):=ER (by omega) (by omega)
   have z1:sy-ry=0:=by
    rcases GL.1 (by omega:fs*(sy-ry)=0) with h|h<;>omega
   have z2:qy-py=0:=by
    rcases GL.1 (by omega:hp*(qy-py)=0) with h|h<;>omega
   rw[z1,z2]at i3
   simp at i3
   omega
  ·have a1:0<=(-fs)*(sy-ry):=ER (by omega) (by omega)
   have a2:0<=(-hp)*(qy-py):=ER (by omega) (by omega)
   have a3:0<=(-(fs-fr))*(py-sy):=ER (by omega) (by omega)
   have b1:(-fs)*(sy-ry)=- (fs*(sy-ry)):=by grind
   have b2:(-hp)*(qy-py)=- (hp*(qy-py)):=by grind
   have b3:(-(fs-fr))*(py-sy)=- ((fs-fr)*(py-sy)):=by grind
   have z1:sy-ry=0:=by
    rcases GL.1 (by omega:fs*(sy-ry)=0) with h|h<;>omega
   have z2:qy-py=0:=by
    rcases GL.1 (by omega:hp*(qy-py)=0) with h|h<;>omega
   rw[z1,z2]at i3
   simp at i3
   omega
 exact fin _ _ _ _ rfl rfl rfl rfl c1 c2
def nE (S:Plan)(l:Nat×Nat):Bool:=(Fe S.pts.length).any λ k=>decide (l.1<k)&&(decide (k<l.2)&&isOn (S.pt l.1) (S.pt l.2) (S.pt k))
def jE (S:Plan)(i:Nat)(l:Nat×Nat):Bool:=(S.lines.take i).any λ m=>decide (l.1<m.2)&&crosses (S.pt l.1) (S.pt l.2) (S.pt m.1) (S.pt m.2)
theorem wu (h4:R4 S)(h5:R5 S)(i:Nat){l:Nat×Nat}(hl:l∈S.lines):touches S i l=(nE S l||jE S i l):=by
 obtain⟨l1,l2⟩:=h5.line hl
 unfold touches nE jE
 congr 1
 ·rw[Fy,GS,GS]
  constructor
  ·rintro⟨k,hk,h⟩
   simp only[EO,bne_iff_ne,ne_eq]at h
   obtain⟨a,b⟩:=tp h4 l1 l2 (F3.1 hk) h.1 h.2.1 h.2.2
   exact⟨k,hk,by simp[a,b,h.2.2]⟩
  ·rintro⟨k,hk,h⟩
   simp only[EO,ET]at h
   exact⟨k,hk,by simp only[EO,bne_iff_ne,ne_eq];exact⟨by omega,by omega,h.2.2⟩⟩
 ·rw[Fy,GS,GS]
  constructor
  ·rintro⟨m,hm,h⟩
   obtain⟨m1,m2⟩:=h5.line (F8 hm)
   exact⟨m,hm,by rw[EO];exact⟨dqt (vL h4 l1 l2 m1 m2 h),h⟩⟩
  ·rintro⟨m,hm,h⟩
   rw[EO]at h
   exact⟨m,hm,h.2⟩
end
def fj (a:List Nat×Array Bool)(j:Nat):List Nat×Array Bool:=if a.2.getD j true=true then a else (j :: a.1,a.2.setIfInBounds j true)
theorem sI (near:Array (List Nat))(m:Nat)(seen:Array Bool):spread near m [] seen=seen:=by
 cases m<;>rfl
theorem rS (near:Array (List Nat))(m k:Nat)(r:List Nat)(seen:Array Bool):spread near (m+1) (k :: r) seen=spread near m ((near.getD k []).foldl fj (r,seen)).1 ((near.getD k []).foldl fj (r,seen)).2:=rfl
def eZ (a:Array Bool):Nat:=a.toList.count false
theorem jv:∀{l:List Bool} {j:Nat},l[j]? = some false->(l.set j true).count false+1=l.count false
 |[],_,h=>by simp at h
 |a :: l,0,h=>by
  have:a=false:=by simpa using h
  subst this
  simp
 |a :: l,j+1,h=>by
  have ih:=jv (l:=l) (j:=j) (by simpa using h)
  rw[List.set_cons_succ,List.count_cons,List.count_cons]
  omega
theorem tw {a:Array Bool}{j:Nat}(h:¬a.getD j true=true):a.toList[j]? = some false/\j<a.size:=by
 unfold Array.getD at h
 by_cases c:j<a.size
 ·rw[dif_pos c]at h
  refine⟨?_,c⟩
  rw[gge (by simpa using c)]
  simp only[Array.getElem_toList]
  congr 1
  cases q:a[j] with
  |false=>rfl
  |true=>exact absurd q h
 ·rw[dif_neg c]at h
  exact absurd rfl h
theorem we (a:List Nat×Array Bool)(j:Nat):(fj a j).1.length+eZ (fj a j).2=a.1.length+eZ a.2:=by
 unfold fj
 by_cases h:a.2.getD j true=true
 ·rw[EU h]
 ·rw[EM h]
  obtain⟨h1,h2⟩:=tw h
  have:=jv h1
  unfold eZ
  rw[G9]
  simp only[Ft]
  omega
theorem k7:∀(l:List Nat) (a:List Nat×Array Bool),(l.foldl fj a).1.length+eZ (l.foldl fj a).2=a.1.length+eZ a.2
 |[],_=>rfl
 |j :: l,a=>by rw[G3,k7 l,we]
section
variable  {S:Plan}
theorem mS {all:List (List Nat)}:∀{l:List Mark} {i:Nat} {had:List (Option (List Nat))} {k:Nat} (hk:k<l.length),((((l.take k).map λ m=>S.among all m.at_).reverse++had).contains (S.among all (l[k]).at_)=true) ->
  (∀j (hj:j<k),(((l.take j).map λ m=>S.among all m.at_).reverse++had).contains (S.among all (l[j]'(by omega)).at_)=false)->twice S all i had l=some (i+k)
 |[],_,_,_,hk,_,_=>by simp at hk
 |m :: r,i,had,0,hk,h,_=>by
  unfold twice
  have h:had.contains (S.among all m.at_)=true:=by simpa using h
  simp only
  rw[EU h]
  rfl
 |m :: r,i,had,k+1,hk,h,hb=>by
  have h0:had.contains (S.among all m.at_)=false:=by simpa using hb 0 (by omega)
  unfold twice
  simp only
  rw[EM (by rw[h0];decide)]
  have:=mS (l:=r) (i:=i+1) (had:=S.among all m.at_ :: had) (k:=k) (by simpa using hk) (by simpa using h) (λ j hj=>by
   have:=hb (j+1) (by omega)
   simpa using this)
  rw[this]
  congr 1
  omega
theorem lK {all:List (List Nat)}:∀{l:List Mark} {i:Nat} {had:List (Option (List Nat))},
  (∀j (hj:j<l.length),(((l.take j).map λ m=>S.among all m.at_).reverse++had).contains (S.among all (l[j]).at_)=false)->twice S all i had l=none
 |[],_,_,_=>rfl
 |m :: r,i,had,hb=>by
  have h0:had.contains (S.among all m.at_)=false:=hb 0 (Nat.zero_lt_succ _)
  unfold twice
  simp only
  rw[EM (by rw[h0];decide)]
  exact lK (l:=r) (λ j hj=>by
   have:=hb (j+1) (by simpa using hj)
   simpa using this)
end
end WL
end
section
namespace CM
open Gla
def sS (l:List Int):Int:=l.foldr (λ b n=>256*n+b) 0
def rd (ns:List Int)(p w:Nat):Int:=sS ((ns.drop p).take w)
def toB (ns:List Int):List UInt8:=ns.map λ z=>UInt8.ofNat z.toNat
def Byt (ns:List Int):Prop:=∀z∈ns,0<=z/\z<=255
theorem t7 {z:Int}(h:0<=z/\z<=255):(((UInt8.ofNat z.toNat).toNat:Nat):Int)=z:=by
 have:(UInt8.ofNat z.toNat).toNat=z.toNat:=by
  rw[UInt8.toNat_ofNat']
  omega
 rw[this]
 omega
theorem uw:∀{l:List Int},Byt l->sS l=((numLe (toB l):Nat):Int)
 |[],_=>rfl
 |z :: l,h=>by
  have ih:=uw (l:=l) λ y hy=>h y (EQ _ hy)
  have hz:=t7 (h z E7)
  show 256*sS l+z=(((UInt8.ofNat z.toNat).toNat+256*numLe (toB l):Nat):Int)
  rw[ih,Int.natCast_add,hz,Int.natCast_mul]
  omega
theorem Byt.sub {ns:List Int}(h:Byt ns)(p w:Nat):Byt ((ns.drop p).take w):=λ z hz=>h z (GU (F8 hz))
theorem cS {ns:List Int}(h:Byt ns)(p w:Nat):rd ns p w=((num (toB ns) p w:Nat):Int):=by
 unfold rd num
 rw[uw (h.sub p w)]
 unfold toB
 rw[Hk,Ii]
theorem rO:∀(l:List UInt8),numLe l<256 ^ l.length
 |[]=>by simp[numLe]
 |c :: r=>by
  have:=rO r
  have hc:=c.toNat_lt
  rw[numLe,Ft,Nat.pow_succ]
  have:c.toNat+256*numLe r<256*(numLe r+1):=by omega
  have:256*(numLe r+1)<=256*256 ^ r.length:=Nat.mul_le_mul_left _ (by omega)
  omega
theorem pU (b:List UInt8)(p w:Nat):num b p w<256 ^ w:=by
 unfold num
 have h:=rO ((b.drop p).take w)
 have:((b.drop p).take w).length<=w:=by rw[FM];omega
 exact E9 h (Nat.pow_le_pow_right (by omega) this)
theorem sD {ns:List Int}(h:Byt ns)(p:Nat):0<=rd ns p 2/\rd ns p 2<65536:=by
 have:=pU (toB ns) p 2
 rw[cS h]
 omega
def jL:List Int:=[71,76,65,49]
def fg:List (List Int):=[[4,4,16,1048575],[8,4,16,1048575],[12,2,4,4096],[14,2,4,8192],[16,2,1,2048],[18,2,0,0]]
def eS (ns:List Int)(r:List Int):Bool:=decide (r.getD 2 0<=rd ns (r.getD 0 0).toNat (r.getD 1 0).toNat)&&decide (rd ns (r.getD 0 0).toNat (r.getD 1 0).toNat<=r.getD 3 0)
def told (ns:List Int):Int:=20+8*rd ns 12 2+4*rd ns 14 2+12*rd ns 16 2
def dO (ns:List Int):Option (Int×Int):=if ns.length<20 then some (1,(ns.length:Int)) else if ns.take 4≠jL then some (1,0) else match fg.find? (λ r=>!eS ns r) with
 |some r=>some (2,r.getD 0 0)
 |none=>if (ns.length:Int)≠told ns then some (3,20) else none
theorem ua {ns:List Int}(h:Byt ns):(toB ns).take 4=MAGIC↔ns.take 4=jL:=by
 have e:(toB ns).take 4=toB (ns.take 4):=by unfold toB;rw[Hk]
 have hb:Byt (ns.take 4):=λ z hz=>h z (F8 hz)
 rw[e]
 constructor
 ·intro q
  have:((toB (ns.take 4)).map λ c:UInt8=>((c.toNat:Nat):Int))=jL:=by rw[q];rfl
  rw[<-this]
  unfold toB
  rw[List.map_map]
  conv=>lhs;rw[<-List.map_id (ns.take 4)]
  apply Gq
  intro z hz
  exact(t7 (hb z hz)).symm
 ·intro q
  rw[q]
  rfl
def fX (b:List UInt8):Option Fault :=
 if b.length<HEAD then some ⟨1,b.length⟩
 else if b.take 4≠MAGIC then some ⟨1,0⟩
 else if within SMALLEST LARGEST (num b 4 4)=false then some ⟨2,4⟩
 else if within SMALLEST LARGEST (num b 8 4)=false then some ⟨2,8⟩
 else if within 4 POINTS (num b 12 2)=false then some ⟨2,12⟩
 else if within 4 LINES (num b 14 2)=false then some ⟨2,14⟩
 else if within 1 MARKS (num b 16 2)=false then some ⟨2,16⟩
 else if num b 18 2≠0 then some ⟨2,18⟩
 else if b.length≠HEAD+8*num b 12 2+4*num b 14 2+12*num b 16 2 then some ⟨3,HEAD⟩ else none
theorem mT (b:List UInt8):judgePlan b=match fX b with
  |some e=>.error e
  |none=>match (parts b).fault with
   |some e=>.error e
   |none=>.ok (parts b):=by
 unfold judgePlan fX
 repeat' split
 all_goals first|rfl|simp_all
theorem eo {a c n:Nat}{z:Int}(hz:z=(n:Int)):within a c n=(decide ((a:Int)<=z)&&decide (z<=(c:Int))):=by
 unfold within
 subst hz
 congr 1
 ·rw[E1];omega
 ·rw[E1];omega
theorem jp {ns:List Int}(h:Byt ns):dO ns=(fX (toB ns)).map λ e=>((e.rule:Int),(e.place:Int)):=by
 have hl:(toB ns).length=ns.length:=by unfold toB;rw[lmp]
 unfold dO fX
 rw[hl]
 by_cases c1:ns.length<20
 ·rw[EU c1,EU (show ns.length<HEAD from c1)]
  rfl
 ·rw[EM c1,EM (show ¬ns.length<HEAD from c1)]
  by_cases c2:ns.take 4=jL
  ·rw[EM (show ¬ns.take 4≠jL from λ q=>q c2),EM (show ¬(toB ns).take 4≠MAGIC from λ q=>q ((ua h).2 c2))]
   have w1:=eo (a:=SMALLEST) (c:=LARGEST) (cS h 4 4)
   have w2:=eo (a:=SMALLEST) (c:=LARGEST) (cS h 8 4)
   have w3:=eo (a:=4) (c:=POINTS) (cS h 12 2)
   have w4:=eo (a:=4) (c:=LINES) (cS h 14 2)
   have w5:=eo (a:=1) (c:=MARKS) (cS h 16 2)
   have o1:eS ns [4,4,16,1048575]=within SMALLEST LARGEST (num (toB ns) 4 4):=by rw[w1];rfl
   have o2:eS ns [8,4,16,1048575]=within SMALLEST LARGEST (num (toB ns) 8 4):=by rw[w2];rfl
   have o3:eS ns [12,2,4,4096]=within 4 POINTS (num (toB ns) 12 2):=by rw[w3];rfl
   have o4:eS ns [14,2,4,8192]=within 4 LINES (num (toB ns) 14 2):=by rw[w4];rfl
   have o5:eS ns [16,2,1,2048]=within 1 MARKS (num (toB ns) 16 2):=by rw[w5];rfl
   have o6:eS ns [18,2,0,0]=decide (num (toB ns) 18 2=0):=by
    show(decide ((0:Int)<=rd ns 18 2)&&decide (rd ns 18 2<=0))=_
    rw[cS h,<-Bool.decide_and,E1]
    omega
   unfold fg
   simp only[G0,List.find?_nil,o1,o2,o3,o4,o5,o6]
   cases within SMALLEST LARGEST (num (toB ns) 4 4) with
   |false=>rfl
   |true =>
    cases within SMALLEST LARGEST (num (toB ns) 8 4) with
    |false=>rfl
    |true =>
     cases within 4 POINTS (num (toB ns) 12 2) with
     |false=>rfl
     |true =>
      cases within 4 LINES (num (toB ns) 14 2) with
      |false=>rfl
      |true =>
       cases within 1 MARKS (num (toB ns) 16 2) with
       |false=>rfl
       |true =>
        by_cases c6:num (toB ns) 18 2=0
        ·simp only[c6,decide_true,Bool.not_true,ne_eq,not_true_eq_false,Ig,Bool.true_eq_false]
         have e:told ns=((HEAD+8*num (toB ns) 12 2+4*num (toB ns) 14 2+12*num (toB ns) 16 2:Nat):Int):=by
          unfold told HEAD
          rw[cS h,cS h,cS h]
          omega
         rw[e]
         by_cases c7:ns.length=HEAD+8*num (toB ns) 12 2+4*num (toB ns) 14 2+12*num (toB ns) 16 2
         ·rw[EM (by omega),EM (by omega)];rfl
         ·rw[EU (by omega),EU (by omega)];rfl
        ·simp[c6]
  ·rw[EU (show ns.take 4≠jL from c2),EU (show(toB ns).take 4≠MAGIC from λ q=>c2 ((ua h).1 q))]
   rfl
def fR (p:Pt):List Int:=[(p.x:Int),(p.y:Int)]
def ug (l:Nat×Nat):List Int:=[(l.1:Int),(l.2:Int)]
def km (m:Mark):List Int:=[(m.at_.x:Int),(m.at_.y:Int),(m.glass:Int),(m.painting:Int)]
def P_ (ns:List Int):Nat:=(rd ns 12 2).toNat
def L_ (ns:List Int):Nat:=(rd ns 14 2).toNat
def M_ (ns:List Int):Nat:=(rd ns 16 2).toNat
def k8 (ns:List Int):List (List Int):=(Fe (P_ ns)).map λ i=>[rd ns (20+8*i) 4,rd ns (20+8*i+4) 4]
def kW (ns:List Int):List (List Int):=(Fe (L_ ns)).map λ i=>[rd ns (20+8*P_ ns+4*i) 2,rd ns (20+8*P_ ns+4*i+2) 2]
def kP (ns:List Int):List (List Int):=(Fe (M_ ns)).map λ i=>[rd ns (20+8*P_ ns+4*L_ ns+12*i) 4,rd ns (20+8*P_ ns+4*L_ ns+12*i+4) 4,rd ns (20+8*P_ ns+4*L_ ns+12*i+8) 2,rd ns (20+8*P_ ns+4*L_ ns+12*i+10) 2]
theorem Bn {ns:List Int}(h:Byt ns):P_ ns=num (toB ns) 12 2:=by unfold P_;rw[cS h];omega
theorem BN {ns:List Int}(h:Byt ns):L_ ns=num (toB ns) 14 2:=by unfold L_;rw[cS h];omega
theorem DT {ns:List Int}(h:Byt ns):M_ ns=num (toB ns) 16 2:=by unfold M_;rw[cS h];omega
theorem uU {ns:List Int}(h:Byt ns):k8 ns=(parts (toB ns)).pts.map fR:=by
 unfold k8 parts
 simp only[List.map_map,Bn h]
 apply Gq
 intro i _
 simp only[Function.comp,fR,HEAD,cS h]
theorem vz {ns:List Int}(h:Byt ns):kW ns=(parts (toB ns)).lines.map ug:=by
 unfold kW parts
 simp only[List.map_map,Bn h,BN h]
 apply Gq
 intro i _
 simp only[Function.comp,ug,HEAD,cS h]
theorem vQ {ns:List Int}(h:Byt ns):kP ns=(parts (toB ns)).marks.map km:=by
 unfold kP parts
 simp only[List.map_map,Bn h,BN h,DT h]
 apply Gq
 intro i _
 simp only[Function.comp,km,HEAD,cS h]
end CM
end
section
namespace Wg
open PySem PySem.Spec PyProof.Rows L2
theorem aZ {H0 H:Hp}{T:EJ}{o:HO}(s:al H0 H)(h:H T=none):al H0 (upd H T o):=λ b u e=>by
 have e1:=s b u e
 rw[ap (aQ e1 h)]
 exact e1
theorem aY {H0 H:Hp}{T:EJ}{o:HO}(s:al H0 H)(h:H0 T=none):al H0 (upd H T o):=λ b u e=>by
 have e1:=s b u e
 rw[ap (aQ e h)]
 exact e1
theorem aN {H:Hp}{T:EJ}{o:HO}(h:H T=none):al H (upd H T o):=aZ (al.refl H) h
theorem i7 {K:FQ}{H H':Hp}{a:EJ}{xs:List V}(e:al H H')(h:SqT K H a xs):SqT K H' a xs:=by
 rcases h with(h|⟨o,h⟩)|h
 ·exact .inl (.inl (e _ _ h))
 ·exact .inl (.inr ⟨o,e _ _ h⟩)
 ·exact .inr h
section
variable  {K:FQ}{a b:EJ}{xs ys:List V}
theorem Aq {g:TG}{tt:TT}{te:TE}{vs:List Nat}{σ:L2.St}{H1:Hp}{D:EJ}{Qd:Hp->Prop}(Pv:Nat->Hp->Prop)(h0:Pv 0 (upd H1 D (.lst [])))
  (hl:∀i H,i<=min xs.length ys.length->Pv i H->SqL K H a xs/\SqL K H b ys)
  (hs:∀i x y T H,xs[i]? = some x->ys[i]? = some y->H T=none->Pv i H->g (.ref T) (bX σ vs) (upd H T (.tup [x,y])) λ σ2 H2=>bX σ2 vs=bX σ vs/\tt σ2 H2 λ b H3 =>
   if b=true then te σ2 H3 λ y H4=>∃acc,H4 D=some (.lst acc)/\acc.length<EL/\Pv (i+1) (upd H4 D (.lst (acc++[y]))) else Pv (i+1) H3) (hd:∀H,Pv (min xs.length ys.length) H->Qd H) :
  ∃W:Nat->Nat->Hp->Prop,(∃m,W 0 m (upd H1 D (.lst [])))/\∀i m H,W i m H ->
   ((Itz K a b).stop i H/\Qd H)\/((Itz K a b).go i H/\∃Nx:Hp->Prop,(∀H',Nx H'->∃m',m'<m/\W (i+1) m' H')/\∀x H',(Itz K a b).yld i H x H'->g x (bX σ vs) H' λ σ2 H2=>bX σ2 vs=bX σ vs/\tt σ2 H2 λ b H3 =>
    if b=true then te σ2 H3 λ y H4=>∃acc,H4 D=some (.lst acc)/\acc.length<EL/\Nx (upd H4 D (.lst (acc++[y]))) else Nx H3):=by
 refine⟨λ i m H=>m=min xs.length ys.length-i/\i<=min xs.length ys.length/\Pv i H,⟨min xs.length ys.length,by simp,FR _,h0⟩,?_⟩
 rintro i m H ⟨rfl,hi,p⟩
 obtain⟨q1,q2⟩:=hl i H hi p
 by_cases hlt:i<min xs.length ys.length
 ·have hx:i<xs.length:=by omega
  have hy:i<ys.length:=by omega
  refine .inr ⟨⟨xs,ys,xs[i],ys[i],q1,q2,by simp[hx],by simp[hy]⟩,Pv (i+1),λ H' p'=>⟨min xs.length ys.length-(i+1),by omega,rfl,hlt,p'⟩,λ x H' y=>?_⟩
  obtain⟨T,x1,y1,e1,e2,e3,e4,e5⟩:=y
  subst e1 e3
  exact hs i x1 y1 T H (e4 xs q1) (e5 ys q2) e2 p
 ·have e:i=min xs.length ys.length:=by omega
  subst e
  exact .inl ⟨⟨xs,ys,q1,q2,by omega⟩,hd H p⟩
theorem dt {g:TG}{tb:TS}{D:nU}{σ:L2.St}{H:Hp}(Pv:Nat->L2.St->Hp->Prop)(h0:Pv 0 σ H)(hl:∀i σ H,i<=xs.length->Pv i σ H->SqL K H a xs)
  (hs:∀i x T σ H,xs[i]? = some x->H T=none->Pv i σ H->g (.ref T) σ (upd H T (.tup [.int (i:Nat),x])) λ σ2 H2=>tb { D with nx:=Pv (i+1),ct:=Pv (i+1),bk:=D.nx } σ2 H2) (hd:∀σ H,Pv xs.length σ H->D.nx σ H) :
  ∃W:Nat->Nat->L2.St->Hp->Prop,(∃m,W 0 m σ H)/\∀i m σ H,W i m σ H ->
   ((Ite K a).stop i H/\D.nx σ H)\/((Ite K a).go i H/\∃N:L2.St->Hp->Prop,(∀σ' H',N σ' H'->∃m',m'<m/\W (i+1) m' σ' H')/\∀x H',(Ite K a).yld i H x H'->g x σ H' λ σ2 H2=>tb { D with nx:=N,ct:=N,bk:=D.nx } σ2 H2):=by
 refine⟨λ i m σ H=>m=xs.length-i/\i<=xs.length/\Pv i σ H,⟨xs.length,by simp,FR _,h0⟩,?_⟩
 rintro i m σ H ⟨rfl,hi,p⟩
 have q:=hl i σ H hi p
 by_cases hlt:i<xs.length
 ·refine .inr ⟨⟨xs,xs[i],q,by simp[hlt]⟩,Pv (i+1),λ σ' H' p'=>⟨xs.length-(i+1),by omega,rfl,hlt,p'⟩,λ x H' y=>?_⟩
  obtain⟨T,x1,e1,e2,e3,e4⟩:=y
  subst e1 e3
  exact hs i x1 T σ H (e4 xs q) e2 p
 ·have e:i=xs.length:=by omega
  subst e
  exact .inl ⟨⟨xs,q,nlr _⟩,hd σ H p⟩
theorem zu {g:TG}{tt:TT}{te:TE}{vs:List Nat}{σ:L2.St}{H1:Hp}{D:EJ}{Qd:Hp->Prop}(Pv:Nat->Hp->Prop)(h0:Pv 0 (upd H1 D (.lst [])))
  (hl:∀i H,i<=xs.length->Pv i H->SqL K H a xs)
  (hs:∀i x T H,xs[i]? = some x->H T=none->Pv i H->g (.ref T) (bX σ vs) (upd H T (.tup [.int (i:Nat),x])) λ σ2 H2=>bX σ2 vs=bX σ vs/\tt σ2 H2 λ b H3 =>
   if b=true then te σ2 H3 λ y H4=>∃acc,H4 D=some (.lst acc)/\acc.length<EL/\Pv (i+1) (upd H4 D (.lst (acc++[y]))) else Pv (i+1) H3) (hd:∀H,Pv xs.length H->Qd H) :
  ∃W:Nat->Nat->Hp->Prop,(∃m,W 0 m (upd H1 D (.lst [])))/\∀i m H,W i m H ->
   ((Ite K a).stop i H/\Qd H)\/((Ite K a).go i H/\∃Nx:Hp->Prop,(∀H',Nx H'->∃m',m'<m/\W (i+1) m' H')/\∀x H',(Ite K a).yld i H x H'->g x (bX σ vs) H' λ σ2 H2=>bX σ2 vs=bX σ vs/\tt σ2 H2 λ b H3 =>
    if b=true then te σ2 H3 λ y H4=>∃acc,H4 D=some (.lst acc)/\acc.length<EL/\Nx (upd H4 D (.lst (acc++[y]))) else Nx H3):=by
 refine⟨λ i m H=>m=xs.length-i/\i<=xs.length/\Pv i H,⟨xs.length,by simp,FR _,h0⟩,?_⟩
 rintro i m H ⟨rfl,hi,p⟩
 have q:=hl i H hi p
 by_cases hlt:i<xs.length
 ·refine .inr ⟨⟨xs,xs[i],q,by simp[hlt]⟩,Pv (i+1),λ H' p'=>⟨xs.length-(i+1),by omega,rfl,hlt,p'⟩,λ x H' y=>?_⟩
  obtain⟨T,x1,e1,e2,e3,e4⟩:=y
  subst e1 e3
  exact hs i x1 T H (e4 xs q) e2 p
 ·have e:i=xs.length:=by omega
  subst e
  exact .inl ⟨⟨xs,q,nlr _⟩,hd H p⟩
end
def Has (K:FQ)(mg:Str->Option Value)(x:Str)(st:G8)(ps:List Str):Prop:=∃f fd,Fun K x x st f fd/\(∀us:List Value,us.length=ps.length->bindArgs fd ⟨us,[]⟩=pure (ps.zip us))/\mg x=some (.ref f)
def Cb (P:E8)(w:FL)(K:FQ)(mg:Str->Option Value)(base:Heap)(k:Nat)(x:Str)(ps:List Str)(sp:Sp):Prop :=
 ∃f fd,jw P w K mg base CX0 k f fd ps sp/\iO K fd ps []/\mg x=some (.ref f)/\FK K (.ref f)=true/\∃o,K.lookup f=some o/\o.data=.func fd
section
variable  {P:E8}{w:FL}{K:FQ}{mg:Str->Option Value}{base:Heap}
theorem qN {x:Str}{st:G8}{f:EJ}{fd:Im}(F:Fun K x x st f fd):∃o,K.lookup f=some o/\o.data=.func fd:=by
 obtain⟨oc,od,kV,doc,pm,an,cdv,ct,osl,e,lk,_⟩:=F.ex
 exact⟨_,lk,by rw[e]⟩
theorem Has.cb {x:Str}{st:G8}{N ps:List Str}{k:Nat}{sp:Sp}(F:Has K mg x st ps)(S:aq N ps (ah st))(len:∀vs H Q E,sp vs H Q E->vs.length=ps.length)
  (hbody:∀(f:EJ) (cdv:Value) (A:Around) (outer:List Env) (s:EK) (H:Hp) (vs:List V) (Q:VK) (E:XK),bu k (A.deeper (envOfC x (ah st) s.heap.objs.size f cdv))->sp vs H Q E ->
   ∃t,PSs (pI CX0 P w K mg base N x (ah st) f cdv A outer s H E).nox (bP st) t/\t { nx:=λ _ H'=>Q .non H',rt:=Q } (start N vs) H):Cb P w K mg base (k+1) x ps sp:=by
 obtain⟨f,fd,h1,h2,h3⟩:=F
 exact⟨f,fd,h1.ok S len (hbody f),.all h2,h3,h1.kp,qN h1⟩
theorem aM {h:Heap}{x:Str}{st:G8}{ps:List Str}{f:EJ}{oc:Value}{od an:Option EJ}{osl:Array (Option Value)}{kV doc pm cdv ct:Value}(X:K.In h)(G:h.Ns FI mg)
  (bind:∀(kV doc pm:Value) (an:Option EJ) (cdv ct:Value) (us:List Value),us.length=ps.length->bindArgs (F7 x x (cI st) (bP st) (ah st) .none kV doc pm an cdv ct) ⟨us,[]⟩=pure (ps.zip us))
  (a:PySem.W.nsIn K FI x=some (some (.ref f))) (l:K.lookup f=some ⟨oc,od,.func (F7 x x (cI st) (bP st) (ah st) .none kV doc pm an cdv ct),osl⟩)
  (c:Gn K cdv x=true) (kp:FK K (.ref f)=true):Has K mg x st ps :=
 ⟨f,_,sr (st:=st) l c kp,bind kV doc pm an cdv ct,PySem.W.mg_of X G a⟩
theorem Has.top {x:Str}{st:G8}{ps:List Str}{k:Nat}{sp:Sp}{fa:EJ}(F:Has K mg x st ps)(hfa:mg x=some (.ref fa))(C:∀base:Heap,K.In base->base.Ns FI mg->Cb P w K mg base k x ps sp) :
  ∃fd:Im,(∀(s:EK) (us:List Value),us.length=ps.length->BindsTo s fd ⟨us,[]⟩ (ps.zip us))/\∀base:Heap,K.In base->base.Ns FI mg->jw P w K mg base CX0 k fa fd ps sp:=by
 obtain⟨f,fd,h1,h2,h3⟩:=F
 have e:fa=f:=by
  have q:=hfa.symm.trans h3
  injection q with q
  injection q
 subst e
 refine⟨fd,λ s us hu=>.of_eq (h2 us hu),λ base kb nb=>?_⟩
 obtain⟨f',fd',g1,g2,g3,g4,o,g5,g6⟩:=C base kb nb
 have e':fa=f':=by
  have q:=h3.symm.trans g3
  injection q with q
  injection q
 subst e'
 obtain⟨o2,e5,e6⟩:=qN h1
 rw[g5]at e5
 cases e5
 rw[g6]at e6
 injection e6 with e6
 rw[<-e6]
 exact g1
theorem iL {h:Heap}{x:Str}{n:Int}{t:Tok}(X:K.In h)(G:h.Ns FI mg)(a:PySem.W.nsIn K FI x=some (some (.int n t))):∃t,mg x=some (.int n t):=⟨t,PySem.W.mg_of X G a⟩
end
theorem aF {X:Cx}{k:Nat}{x:Str}{ps:List Str}{sp:Sp}{p pos:Pos}{e:Expr}{es:List Expr}{t:TA}(C:Cb X.prog X.w X.K X.mg X.base k x ps sp)(hr:bu k X.A)(ha:PA X (e :: es) t)(hg:Gl X x:=by rfl)
  (hdb:(x==("__debug__" : Str))=false:=by decide) (he:Fo (e :: es) X.env=(false,Ik e X.env) :: Fo es X.env:=by rfl) (hpl:(HL pos (Fo es X.env)).any (·.1)=false:=by rfl) :
  PE X (.Call (.Name x p) (e :: es) [] pos) (lL sp [] E0 t):=by
 obtain⟨f,fd,h1,h2,h3,h4,_⟩:=C
 exact y9 h1 hr hg h3 h4 h2 .nil tK ha hdb he hpl
theorem br {X:Cx}{x:Str}{n:Int}{pos:Pos}(hm:∃t,X.mg x=some (.int n t))(hg:Gl X x:=by rfl) (hd:(x==("__debug__" : Str))=false:=by decide):PE X (.Name x pos) (tC (.int n)):=by
 obtain⟨t,h⟩:=hm
 exact qr hg h ⟨t,rfl⟩ hd
theorem nS {σ:L2.St}{H:Hp}{Q:Bool->Hp->Prop}(h:Q true H):BP σ H Q:=h
abbrev g2 (K:FQ)(i j:Nat):TG:=CZ K 2 (ww (pk i) (ww (pk j) DL))
abbrev iV (ns:List Int):List V:=ns.map V.int
def LI (K:FQ)(H:Hp)(a:EJ)(ns:List Int):Prop:=SqL K H a (iV ns)/\ns.length<=1000000
theorem LI.same {K:FQ}{H H':Hp}{a:EJ}{ns:List Int}(h:LI K H a ns)(s:al H H'):LI K H' a ns:=⟨s.seq h.1,h.2⟩
theorem pT {n:Nat}(h:n<=1000000):n<=EL:=Fw h (by decide)
theorem bG {n:Nat}(h:n<=1000000):n<EL:=FE h (by decide)
theorem pV {ns:List Int}{i:Nat}{v:V}(h:(iV ns)[i]? = some v):∃z,ns[i]? = some z/\v=.int z:=by
 rw[E2]at h
 cases e:ns[i]? with
 |none=>rw[e]at h;cases h
 |some z=>rw[e]at h;exact⟨z,rfl,(osi h).symm⟩
theorem bY {α:Type}:∀{l:List α} {i:Nat} {x:α},l[i]? = some x->l.take (i+1)=l.take i++[x]
 |[],i,x,h=>by simp at h
 |a :: l,0,x,h=>by
  have e:a=x:=osi h
  subst e
  rfl
 |a :: l,i+1,x,h=>by
  have ih:=bY (l:=l) (i:=i) (x:=x) h
  show a :: l.take (i+1)=a :: l.take i++[x]
  rw[ih]
  rfl
theorem A7 {α β:Type}{l:List α}{k:List β}{i:Nat}{x:α}{y:β}(h1:l[i]? = some x)(h2:k[i]? = some y):(l.zip k)[i]? = some (x,y):=by
 rw[List.getElem?_zip_eq_some]
 exact⟨h1,h2⟩
end Wg
end
section
namespace Wx
open PySem PySem.Spec PyProof.Rows L2 Wg
def gT (a b:List Int):Bool:=HT.lexLt b a
def gR:List Int->List Int->Bool
 |[],[]=>true
 |[],_ :: _=>true
 |_ :: _,[]=>false
 |x :: xs,y :: ys=>if x=y then gR xs ys else decide (x<=y)
theorem jI (x y:Int)(xs ys:List Int):gT (x :: xs) (y :: ys)=if x=y then gT xs ys else decide (y<x):=by
 unfold gT
 rw[HT.lexLt_cons]
 by_cases h:x=y
 ·rw[EU h,EU h.symm]
 ·rw[EM h,EM (λ q=>h q.symm)]
theorem jG (x y:Int)(xs ys:List Int):gR (x :: xs) (y :: ys)=if x=y then gR xs ys else decide (x<=y):=rfl
theorem xc (A:Around)(s:EK)(a:Int)(t:Tok)(c:Int)(u:Tok)(prog:E8)(w:FL)(E:Value->EK->Prop)(Q:Value->EK->Prop)(h:Q (.bool (decide (c<a))) s) :
  Fp (FC prog w) A (richCompare .Gt (.int a t) (.int c u)) Q E s :=
 (PyProof.Rows.gt_int h:Fp (FC prog w) A (Ga .Gt (.int a t) (.int c u)) Q E s)
theorem xH (A:Around)(s:EK)(a:Int)(t:Tok)(c:Int)(u:Tok)(prog:E8)(w:FL)(E:Value->EK->Prop)(Q:Value->EK->Prop)(h:Q (.bool (decide (a<=c))) s) :
  Fp (FC prog w) A (richCompare .LtE (.int a t) (.int c u)) Q E s :=
 (PyProof.Rows.le_int h:Fp (FC prog w) A (Ga .LtE (.int a t) (.int c u)) Q E s)
section
open PySem.SeqAt
open PySem.AutoSeq1 (wpAny_loadPart')
open PySem.MeetsSeq PySem.MeetsSeq2 PySem.MeetsSeq3
theorem nX (l b:EJ)(items items2:Array Value)(n n2:Nat)(dd dd2:Option EJ)(sl sl2:Array (Option Value))(ns ms:List Int)(hi:HK items.toList ns)(hj:HK items2.toList ms) :
  Meets (Builtin.«tuple.__gt__» ⟨[.ref l,.ref b],[]⟩)
   (λ _ R s=>s.heap.get? l=some { cls:=.type "tuple",dict:=dd,data:=.seq items n,slots:=sl }/\s.heap.get? b=some { cls:=.type "tuple",dict:=dd2,data:=.seq items2 n2,slots:=sl2 } /\
    R (.ok (.ret (.bool (gT ns ms)))) s) :=
 .of_wp λ prog w A R s h=>by
  obtain⟨hp,g,d,tk,os⟩:=s;obtain⟨hl,hb,h⟩:=h
  have f2:=AutoSeq1.sub_tuple_tuple
  have z1:items.size=ns.length:=by rw[<-hi.length];simp
  have z2:items2.size=ms.length:=by rw[<-hj.length];simp
  wp_walk using HP hl,HP hb,wpAny_forIn_list _ (λ gN b s'=>b.1=none/\s'=⟨hp,g,d,tk,os⟩/\∃(vs ws:List Value) (ns' ms':List Int),gN=vs.zip ws /\
   HK vs ns'/\HK ws ms'/\ns'.length+items2.size=ms'.length+items.size/\R (.ok (.ret (.bool (gT ns' ms')))) ⟨hp,g,d,tk,os⟩) _
  case turn =>
   rintro⟨y,x⟩ gN b s' ⟨hb',rfl,vs,ws,ns',ms',hz,hvi,hwi,hlen,hR⟩
   cases hvi with
   |nil=>rw[List.zip_nil_left]at hz;cases hz
   |cons a t hvi' =>
    cases hwi with
    |nil=>rw[List.zip_nil_right]at hz;cases hz
    |cons c u hwi' =>
     rw[GN]at hz
     injection hz with hyx hrest
     injection hyx with hy hx
     subst hy hx
     rw[jI]at hR
     simp only[Ft]at hlen
     obtain⟨e,he,hiff⟩:=HT.eqAt_int A.in1 ⟨hp,g,d,tk,os⟩ a t c u
     refine EI (he prog w _ _ ?_)
     cases e with
     |true =>
      rw[EU (hiff.mp rfl)]at hR
      wp_walk
      exact⟨rfl,rfl,_,_,_,_,hrest,hvi',hwi',by omega,hR⟩
     |false =>
      rw[EM (λ q=>absurd (hiff.mpr q) EZ)]at hR
      have hri:=xc A.in1 ⟨hp,g,d,tk,os⟩ a t c u prog w
      wp_walk using hri
      exact⟨_,rfl,by simpa using hR⟩
  case fin =>
   rintro⟨b1,b2⟩ s' ⟨hb',rfl,vs,ws,ns',ms',hz,hvi,hwi,hlen,hR⟩
   simp only at hb'
   subst hb'
   have hv:gT ns' ms'=decide (items2.size<items.size):=by
    cases hvi with
    |nil =>
     cases hwi with
     |nil =>
      simp only[Hv]at hlen
      show HT.lexLt [] []=_
      rw[HT.lexLt_nil_nil]
      exact(dqf (by omega)).symm
     |cons c u hw =>
      simp only[Hv,Ft]at hlen
      show HT.lexLt (_ :: _) []=_
      rw[HT.lexLt_cons_nil]
      exact(dqf (by omega)).symm
    |cons a t hv =>
     cases hwi with
     |nil =>
      simp only[Hv,Ft]at hlen
      show HT.lexLt [] (_ :: _)=_
      rw[HT.lexLt_nil_cons]
      exact(dqt (by omega)).symm
     |cons c u hw =>
      rw[GN]at hz
      cases hz
   rw[hv]at hR
   wp_walk
   exact⟨_,rfl,by simpa [Builtin.Tuple.tupleCompareSizes] using hR⟩
  case h =>
   exact⟨rfl,rfl,items.toList,items2.toList,ns,ms,rfl,hi,hj,by omega,h⟩
theorem nY (l b:EJ)(items items2:Array Value)(n n2:Nat)(dd dd2:Option EJ)(sl sl2:Array (Option Value))(ns ms:List Int)(hi:HK items.toList ns)(hj:HK items2.toList ms) :
  Meets (Builtin.«tuple.__le__» ⟨[.ref l,.ref b],[]⟩)
   (λ _ R s=>s.heap.get? l=some { cls:=.type "tuple",dict:=dd,data:=.seq items n,slots:=sl }/\s.heap.get? b=some { cls:=.type "tuple",dict:=dd2,data:=.seq items2 n2,slots:=sl2 } /\
    R (.ok (.ret (.bool (gR ns ms)))) s) :=
 .of_wp λ prog w A R s h=>by
  obtain⟨hp,g,d,tk,os⟩:=s;obtain⟨hl,hb,h⟩:=h
  have f2:=AutoSeq1.sub_tuple_tuple
  have z1:items.size=ns.length:=by rw[<-hi.length];simp
  have z2:items2.size=ms.length:=by rw[<-hj.length];simp
  wp_walk using HP hl,HP hb,wpAny_forIn_list _ (λ gN b s'=>b.1=none/\s'=⟨hp,g,d,tk,os⟩/\∃(vs ws:List Value) (ns' ms':List Int),gN=vs.zip ws /\
   HK vs ns'/\HK ws ms'/\ns'.length+items2.size=ms'.length+items.size/\R (.ok (.ret (.bool (gR ns' ms')))) ⟨hp,g,d,tk,os⟩) _
  case turn =>
   rintro⟨y,x⟩ gN b s' ⟨hb',rfl,vs,ws,ns',ms',hz,hvi,hwi,hlen,hR⟩
   cases hvi with
   |nil=>rw[List.zip_nil_left]at hz;cases hz
   |cons a t hvi' =>
    cases hwi with
    |nil=>rw[List.zip_nil_right]at hz;cases hz
    |cons c u hwi' =>
     rw[GN]at hz
     injection hz with hyx hrest
     injection hyx with hy hx
     subst hy hx
     rw[jG]at hR
     simp only[Ft]at hlen
     obtain⟨e,he,hiff⟩:=HT.eqAt_int A.in1 ⟨hp,g,d,tk,os⟩ a t c u
     refine EI (he prog w _ _ ?_)
     cases e with
     |true =>
      rw[EU (hiff.mp rfl)]at hR
      wp_walk
      exact⟨rfl,rfl,_,_,_,_,hrest,hvi',hwi',by omega,hR⟩
     |false =>
      rw[EM (λ q=>absurd (hiff.mpr q) EZ)]at hR
      have hri:=xH A.in1 ⟨hp,g,d,tk,os⟩ a t c u prog w
      wp_walk using hri
      exact⟨_,rfl,by simpa using hR⟩
  case fin =>
   rintro⟨b1,b2⟩ s' ⟨hb',rfl,vs,ws,ns',ms',hz,hvi,hwi,hlen,hR⟩
   simp only at hb'
   subst hb'
   have hv:gR ns' ms'=decide (items.size<=items2.size):=by
    cases hvi with
    |nil =>
     cases hwi with
     |nil =>
      simp only[Hv]at hlen
      exact(dqt (by omega)).symm
     |cons c u hw =>
      simp only[Hv,Ft]at hlen
      exact(dqt (by omega)).symm
    |cons a t hv =>
     cases hwi with
     |nil =>
      simp only[Hv,Ft]at hlen
      exact(dqf (by omega)).symm
     |cons c u hw =>
      rw[GN]at hz
      cases hz
   rw[hv]at hR
   wp_walk
   exact⟨_,rfl,by simpa [Builtin.Tuple.tupleCompareSizes] using hR⟩
  case h =>
   exact⟨rfl,rfl,items.toList,items2.toList,ns,ms,rfl,hi,hj,by omega,h⟩
end
section
variable  {prog:E8}{w:FL}{A:Around}{E:Value->EK->Prop}{s:EK}
theorem sP {l b:EJ}{items items2:Array Value}{ns ms:List Int}{Q:Value->EK->Prop}(hl:IsTup s.heap l items)(hb:IsTup s.heap b items2)(hi:HK items.toList ns)(hj:HK items2.toList ms)
  (hu:A.units<cLine) (h:Q (.bool (gT ns ms)) s):Fp (FC prog w) A (Ga .Gt (.ref l) (.ref b)) Q E s:=by
 obtain⟨⟨cls,dd,data,sl⟩,ho,hc,n,hd⟩:=id hl
 obtain⟨⟨cls2,dd2,data2,sl2⟩,ho2,hc2,n2,hd2⟩:=id hb
 simp only at hc hd hc2 hd2
 subst hc hd hc2 hd2
 exact richCompare_meets_room (op:=.Gt) ⟨_,ho,rfl⟩ ⟨_,ho2,rfl⟩ PySem.F.slot_tuple_gt PySem.F.entry_tuple_gt (PySem.F.args_tuple_gt_2 _ _) (nX l b items items2 n n2 dd dd2 sl sl2 ns ms hi hj)
  ⟨ho,ho2,show Value.bool (gT ns ms)≠Value.notImplemented/\Q (.bool (gT ns ms)) s from⟨(λ x=>nomatch x),h⟩⟩ hu
theorem tj {l b:EJ}{items items2:Array Value}{ns ms:List Int}{Q:Value->EK->Prop}(hl:IsTup s.heap l items)(hb:IsTup s.heap b items2)(hi:HK items.toList ns)(hj:HK items2.toList ms)
  (hu:A.units<cLine) (h:Q (.bool (gR ns ms)) s):Fp (FC prog w) A (Ga .LtE (.ref l) (.ref b)) Q E s:=by
 obtain⟨⟨cls,dd,data,sl⟩,ho,hc,n,hd⟩:=id hl
 obtain⟨⟨cls2,dd2,data2,sl2⟩,ho2,hc2,n2,hd2⟩:=id hb
 simp only at hc hd hc2 hd2
 subst hc hd hc2 hd2
 exact richCompare_meets_room (op:=.LtE) ⟨_,ho,rfl⟩ ⟨_,ho2,rfl⟩ PySem.F.slot_tuple_le PySem.F.entry_tuple_le (PySem.F.args_tuple_le_2 _ _) (nY l b items items2 n n2 dd dd2 sl sl2 ns ms hi hj)
  ⟨ho,ho2,show Value.bool (gR ns ms)≠Value.notImplemented/\Q (.bool (gR ns ms)) s from⟨(λ x=>nomatch x),h⟩⟩ hu
end
section
variable  {X:Cx}
def EF (K:FQ):R2:=λ x y H Q=>∃a b ns ms,x=.ref a/\y=.ref b/\SqT K H a (ns.map V.int)/\SqT K H b (ms.map V.int)/\Q (.bl (gT ns ms)) H
theorem Bh (hu:X.A.units<cLine):OpR X (Ga .Gt) (EF X.K):=by
 intro pins s σ H x y v u Q I rx ry h
 obtain⟨a,b,ns,ms,rfl,rfl,ha,hb,q⟩:=h
 cases rx
 cases ry
 obtain⟨its,r1,p1,_⟩:=I.tuple ha
 obtain⟨its2,r2,p2,_⟩:=I.tuple hb
 have i1:HK its.toArray.toList ns:=hX r1
 have i2:HK its2.toArray.toList ms:=hX r2
 exact sP p1 p2 i1 i2 hu ⟨.bl (gT ns ms),H,I,rfl,q⟩
def DQ (K:FQ):R2:=λ x y H Q=>∃a b ns ms,x=.ref a/\y=.ref b/\SqT K H a (ns.map V.int)/\SqT K H b (ms.map V.int)/\Q (.bl (gR ns ms)) H
theorem AN (hu:X.A.units<cLine):OpR X (Ga .LtE) (DQ X.K):=by
 intro pins s σ H x y v u Q I rx ry h
 obtain⟨a,b,ns,ms,rfl,rfl,ha,hb,q⟩:=h
 cases rx
 cases ry
 obtain⟨its,r1,p1,_⟩:=I.tuple ha
 obtain⟨its2,r2,p2,_⟩:=I.tuple hb
 have i1:HK its.toArray.toList ns:=hX r1
 have i2:HK its2.toArray.toList ms:=hX r2
 exact tj p1 p2 i1 i2 hu ⟨.bl (gR ns ms),H,I,rfl,q⟩
def tV:V->List V->Hp->VK->Prop:=λ x vs H Q=>∃(l:EJ) (xs:List V) (k:Int) (y:V),x=.ref l/\vs=[.int k,y]/\H l=some (.lst xs)/\0<=k/\k<=(xs.length:Int)/\xs.length<EL/\Q .non (upd H l (.lst (xs.take k.toNat++y :: xs.drop k.toNat)))
theorem uY:MtM X "list.insert" tV:=by
 intro pins s σ H x vs v us Q I rx rv h
 obtain⟨l,xs,k,y,rfl,rfl,hH,k0,hk,hz,q⟩:=h
 cases rx
 obtain⟨u1,u2,rfl,ru1,ru2⟩:=rv.two
 obtain⟨t,rfl⟩:=ru1
 obtain⟨z,its,n,r,hl,e⟩:=I.lstM hH
 have hsl:=sizeLine_eq
 have hfit:¬(!Builtin.List.listFitsIndex k)=true:=by
  rw[hsl]at hz
  have k1:-(2 ^ 63)<=k:=by omega
  have k2:k<2 ^ 63:=by omega
  have:Builtin.List.listFitsIndex k=true:=fitsIndex_both k1 k2
  rw[this]
  decide
 have hs1:its.toArray.size<=EL:=by rw[EW];omega
 have M:=AutoSeq1.list_insert_list_int_val_1 l its.toArray n k t u2 hfit hs1
 refine call_meets F.slot_list_insert ⟨_,e,rfl⟩ F.entry_list_insert (F.args_list_insert_3 _ _ _) M ⟨e,?_⟩
 refine⟨.non,_,I.lset (its':=its.take k.toNat++u2 :: its.drop k.toNat) hH e ?_ ((r.take k.toNat).append (.cons ru2 (r.drop k.toNat))) ?_,rfl,q⟩
 ·have hk2:k.toNat<=its.length:=by omega
  dsimp only
  rw[EM (by omega),EW,Fg hk2]
  apply Array.ext'
  simp
  rw[F9 (by rw[Fu];exact nlr _)]
 ·rw[EN,FM,Ft,Fu]
  omega
def tQ (K:FQ):V->List V->Hp->VK->Prop:=λ x vs H Q=>∃(a:EJ) (bs:List Bool) (b:Bool),x=.ref a/\vs=[.bl b]/\SqL K H a (bs.map V.bl)/\Q (.int (bs.count b:Nat)) H
theorem jz (b:Bool):∀bs:List Bool,countIn (.bool b) (bs.map PyData.bool)=((bs.count b:Nat):Int)
 |[]=>rfl
 |c :: bs=>by
  rw[Fl,countIn,jz b bs,List.count_cons]
  cases b<;>cases c<;>simp[same]<;>omega
theorem lw {hp:Heap}:∀bs:List Bool,∃as,ReadsAll hp (bs.map Value.bool) (bs.map PyData.bool) as
 |[]=>⟨_,ReadsAll.nil⟩
 |b :: bs=>by
  obtain⟨as,h⟩:=lw (hp:=hp) bs
  exact⟨_,ReadsAll.cons (Reads.bool b) h⟩
theorem uP:MtR X "list.count" (tQ X.K):=by
 intro pins s σ H x vs v us Q I rx rv h
 obtain⟨a,bs,b,rfl,rfl,hs,q⟩:=h
 cases rx
 obtain⟨u,rfl,ru⟩:=rv.one
 cases ru
 obtain⟨its,r,pl,_⟩:=I.list hs
 have e:its=bs.map Value.bool:=r.bls
 subst e
 obtain⟨as,ra⟩:=lw (hp:=s.heap) bs
 refine count_list_bools pl.isList ra (by simp[Shape.has]) ⟨.int _,H,I.tok _,⟨s.toks,?_⟩,q⟩
 rw[jz]
def yq (K:FQ):R2:=λ x y H Q=>∃(b p:EJ) (r:List Int) (as:List EJ) (rows:List (List Int)),x=.ref b/\y=.ref p/\SqT K H b (iV r)/\SqL K H p (as.map V.ref)/\as.length=rows.length/\(∀(i:Nat) (a:EJ) (q:List Int),as[i]? = some a->rows[i]? = some q->SqT K H a (iV q)) /\
 Q (.bl (!decide (r∈rows))) H
theorem fS {K:FQ}{H:Hp}:∀r:List Int,lB K H (iV r) (r.map FH)
 |[]=>.nil
 |i :: r=>.cons (.int i) (fS r)
theorem iW:∀(r q:List Int),PyData.eqvAll (r.map FH) (q.map FH)=decide (r=q)
 |[],[]=>by simp[PyData.eqvAll]
 |[],_ :: _=>by simp[PyData.eqvAll]
 |_ :: _,[]=>by simp[PyData.eqvAll]
 |a :: r,b :: q=>by
  rw[Fl,Fl,PyData.eqvAll,iW r q,PyData.eqv]
  rw[Fy]
  simp
theorem gj:∀r:List Int,Ij (r.map FH)=true
 |[]=>rfl
 |a :: r=>by
  show(PyData.canLay0 (.int a)&&Ij (r.map FH))=true
  rw[gj r]
  rfl
theorem jQ:∀r:List Int,PyData.depthAll (r.map FH)<=1
 |[]=>FR _
 |a :: r=>by
  show max (PyData.depth (.int a)) (PyData.depthAll (r.map FH))<=1
  refine Nat.max_le.2 ⟨?_,jQ r⟩
  first|exact FR _|exact nlr _|simp[PyData.depth]
theorem qT (r:List Int):∀rows:List (List Int),((rows.map λ q=>HU (q.map FH)).any λ y=>PyData.eqv y (.tuple (r.map FH)))=decide (r∈rows)
 |[]=>by simp
 |q :: rows=>by
  rw[Fl,List.any_cons,qT r rows]
  show(PyData.eqvAll (q.map FH) (r.map FH)||_)=_
  rw[iW,Fy]
  simp only[GK,ET,ES]
  constructor
  ·rintro(h|h)
   ·exact Go h.symm
   ·exact FV h
  ·rintro(h|h)
   ·exact Go h.symm
   ·exact FV h
theorem qF:∀rows:List (List Int),Ij (rows.map λ q=>HU (q.map FH))=true
 |[]=>rfl
 |q :: rows=>by
  show(Ij (q.map FH)&&Ij (rows.map λ q=>HU (q.map FH)))=true
  rw[qF rows,gj q]
  rfl
theorem ue {K:FQ}{H:Hp}:∀(as:List EJ) (rows:List (List Int)),as.length=rows.length->(∀(i:Nat) (a:EJ) (q:List Int),as[i]? = some a->rows[i]? = some q->SqT K H a (iV q))->lB K H (as.map V.ref) (rows.map λ q=>HU (q.map FH))
 |[],[],_,_=>.nil
 |[],_ :: _,h,_=>by simp at h
 |_ :: _,[],h,_=>by simp at h
 |a :: as,q :: rows,h,hat=>.cons (.tup (hat 0 a q rfl rfl) (fS q)) (ue as rows (by simpa using h) λ i b r e1 e2=>hat (i+1) b r (by simpa using e1) (by simpa using e2))
theorem vO (hu:X.A.units+64<cLine):OpR X (Ga .NotIn) (yq X.K):=by
 intro pins s σ H x y v u Q I rx ry h
 obtain⟨b,p,r,as,rows,rfl,rfl,hb,hp,hlen,hat,q⟩:=h
 obtain⟨bs,rb⟩:=Dp.reads I (.tuple (r.map FH)) (.ref b) v (.tup hb (fS r)) rx
 obtain⟨cs,rc⟩:=Dp.reads I (.list (rows.map λ q=>HU (q.map FH))) (.ref p) u (.lst hp (ue as rows hlen hat)) ry
 refine SeqAt.notIn_list_reads rc rb (qF rows) (gj r) ?_ ⟨.bl _,H,I,rfl,?_⟩
 ·have h1:(HU (r.map FH)).depth<=2:=by
   show PyData.depthAll (r.map FH)+1<=2
   have:=jQ r
   omega
  have h2:=Nat.min_le_right (PyData.depthAll (rows.map λ q=>HU (q.map FH))) (HU (r.map FH)).depth
  omega
 ·rw[qT]
  exact q
end
open PySem PySem.Spec PyProof.Rows L2 Wg
theorem jY {M:Model}{A:Around}{E:Value->EK->Prop}{s:EK}{a:EJ}{Q:Option Obj->EK->Prop}(h:Q (s.heap.get? a) s):Fp M A (loadIfAlive a) Q E s:=by
 intro Γ p hΓ
 show Sem.wp _ Γ (loadIfAlive a) _ _ p s
 unfold loadIfAlive
 rw[Sem.wp_loadIfAlive]
 first
  |exact h
  |(rw[Sem.wp_pure];exact h)
  |simpa using h
abbrev fq (h:Heap)(e it:EJ)(i:Int)(T:EJ)(b:Bool)(old:Value):Prop :=
 h.get? e=some { cls:=.type "enumerate",dict:=none,data:=.fields #[rawInt ((T:Nat):Int),.bool b,.ref it,rawInt i,.none,old],slots:=#[] }
section
variable  {prog:E8}{w:FL}{A:Around}{E:Value->EK->Prop}{s:EK}
theorem jx {e it l T:EJ}{b:Bool}{i:Nat}{items:Array Value}{x old:Value}{oT:Obj}{Q:Value->EK->Prop}
  (he:fq s.heap e it i T b old) (hT:s.heap.get? T=some oT) (hTe:T≠e) (hTi:T≠it) (hit:s.heap.IsListIter it l i) (hl:s.heap.IsList l items) (hx:items[i]? = some x) (hne:e≠it)
  (hQ:∀h',fq h' e it ((i:Int)+1) T true old->h'.IsListIter it l (i+1) ->
   h'.get? s.heap.objs.size=some { cls:=.type "tuple",data:=.seq #[.int i s.toks,x] }->h'.objs.size=s.heap.objs.size+1 ->
   (∀b o,b≠e->b≠it->s.heap.get? b=some o->h'.get? b=some o)->Q (.ref s.heap.objs.size) { s with heap:=h',toks:=s.toks+1 }) :
  Fp (FC prog w) A (Builtin.«enumerate.__next__» ⟨[.ref e],[]⟩) (λ fin s'=>∃v,fin=.done (.ret v)/\Q v s') E s:=by
 obtain⟨hp,g,d,tk,os⟩:=s
 show Fp _ _ (field (.ref e) 2 >>= _) _ _ _
 refine EI (wpAny_field he rfl (x:=.ref it) rfl ?_)
 refine EI (wpAny_nextOf_list_item hit hl hx λ h₁ hit₁ hs₁=>?_)
 replace hs₁:Heap.SameBut it hp h₁:=hs₁
 have he₁:fq h₁ e it i T b old:=(hs₁.2 e hne).trans he
 show Fp _ _ (field (.ref e) 3 >>= _) _ _ ⟨h₁,g,d,tk,os⟩
 refine EI (wpAny_field he₁ rfl (x:=rawInt i) rfl ?_)
 show Fp _ _ (field (.ref e) 4 >>= _) _ _ ⟨h₁,g,d,tk,os⟩
 refine EI (wpAny_field he₁ rfl (x:=.none) rfl ?_)
 show Fp _ _ (mkInt i >>= _) _ _ ⟨h₁,g,d,tk,os⟩
 refine EI (wpAny_mkInt ?_)
 show Fp _ _ (setField (.ref e) 3 (rawInt ((i:Int)+1)) >>= _) _ _ ⟨h₁,g,d,tk+1,os⟩
 refine EI (wpAny_setField_rec he₁ (by simp) λ h₂ he₂ hs₂=>?_)
 replace hs₂:Heap.SameBut e h₁ h₂:=hs₂
 replace he₂:fq h₂ e it ((i:Int)+1) T b old:=he₂
 show Fp _ _ (setField (.ref e) 4 .none >>= _) _ _ ⟨h₂,g,d,tk+1,os⟩
 refine EI (wpAny_setField_rec he₂ (by simp) λ h₃ he₃ hs₃=>?_)
 replace hs₃:Heap.SameBut e h₂ h₃:=hs₃
 replace he₃:fq h₃ e it ((i:Int)+1) T b old:=he₃
 show Fp _ _ (newTuple [.int i tk,x] >>= _) _ _ ⟨h₃,g,d,tk+1,os⟩
 refine EI (wpAny_newTuple ?_)
 have he₄:fq (h₃.push { cls:=.type "tuple",data:=.seq #[.int i tk,x] }) e it ((i:Int)+1) T b old:=EV _ he₃
 generalize hh₄:h₃.push { cls:=.type "tuple",data:=.seq #[.int i tk,x] }=h₄ at he₄
 have hsz:h₃.objs.size=hp.objs.size:=by rw[hs₃.1,hs₂.1,hs₁.1]
 have hel:e<hp.objs.size:=EX he
 have ht₄:h₄.get? hp.objs.size=some { cls:=.type "tuple",data:=.seq #[.int i tk,x] }:=by rw[<-hh₄,<-hsz];exact Fb _ rfl
 have hz₄:h₄.objs.size=hp.objs.size+1:=by rw[<-hh₄,F6,hsz]
 have hk₄:∀b o,b≠e->b≠it->hp.get? b=some o->h₄.get? b=some o:=λ b o hbe hbi hb=>by
  rw[<-hh₄];exact EV _ (hs₃.extBut b o hbe (hs₂.extBut b o hbe (hs₁.extBut b o hbi hb)))
 have hT₄:h₄.get? T=some oT:=hk₄ T oT hTe hTi hT
 have hit₄:h₄.IsListIter it l (i+1):=by
  rw[<-hh₄];obtain⟨o,ho,r⟩:=(hit₁.extBut hs₂.extBut (Fj hne)).extBut hs₃.extBut (Fj hne);exact⟨o,EV _ ho,r⟩
 show Fp _ _ (Iv (.ref e) >>= _) _ _ ⟨h₄,g,d,tk+1,os⟩
 rw[hsz]
 clear hh₄ he₃ hs₃ he₂ hs₂ he₁ hs₁ hit₁ hsz h₃ h₂ h₁
 refine EI ?_
 unfold Iv
 refine EI (wpAny_field he₄ rfl (x:=rawInt ((T:Nat):Int)) rfl ?_)
 show Fp _ _ (loadIfAlive ((T:Nat):Int).toNat >>= _) _ _ ⟨h₄,g,d,tk+1,os⟩
 rw[F0]
 refine EI (jY ?_)
 show Fp _ _ (if (Option.isNone (h₄.get? T))=true then _ else _) _ _ ⟨h₄,g,d,tk+1,os⟩
 rw[hT₄,EM (show ¬(Option.isNone (some oT))=true from EZ)]
 have fin:∀h₅,fq h₅ e it ((i:Int)+1) T true old->(∀b o,b≠e->h₄.get? b=some o->h₅.get? b=some o)->h₅.objs.size=h₄.objs.size ->
   ∃v,Fin.done (Flow.ret (FA hp.objs.size))=Fin.done (Flow.ret v)/\Q v ⟨h₅,g,d,tk+1,os⟩:=λ h₅ he₅ k5 z5=>by
  refine⟨_,rfl,hQ h₅ he₅ ?_ (k5 _ _ (GI hel) ht₄) (by rw[z5,hz₄]) λ b o hbe hbi hb=>k5 b o hbe (hk₄ b o hbe hbi hb)⟩
  obtain⟨o,ho,r⟩:=hit₄
  exact⟨o,k5 it o (Fj hne) ho,r⟩
 refine EI (wpAny_field he₄ rfl (x:=.bool b) rfl ?_)
 cases b with
 |true =>
  show Fp _ _ (pure false) _ _ ⟨h₄,g,d,tk+1,os⟩
  refine E5 ?_
  show Fp _ _ (pure (Fin.done (Flow.ret (FA hp.objs.size)))) _ _ ⟨h₄,g,d,tk+1,os⟩
  exact E5 (fin h₄ he₄ (λ _ _ _ q=>q) rfl)
 |false =>
  show Fp _ _ (setField (.ref e) 1 (.bool true) >>= λ _=>pure false) _ _ ⟨h₄,g,d,tk+1,os⟩
  refine EI (wpAny_setField_rec he₄ (by simp) λ h₅ he₅ hs₅=>?_)
  replace hs₅:Heap.SameBut e h₄ h₅:=hs₅
  replace he₅:fq h₅ e it ((i:Int)+1) T true old:=he₅
  refine E5 ?_
  show Fp _ _ (pure (Fin.done (Flow.ret (FA hp.objs.size)))) _ _ ⟨h₅,g,d,tk+1,os⟩
  exact E5 (fin h₅ he₅ (λ b o hb q=>hs₅.extBut b o hb q) hs₅.1)
end
open PySem PySem.Spec PyProof.Rows L2 Wg
theorem rB:typeLookup (.type "enumerate") "__len__"=pure none:=by rw[typeLookup_type,builtinLookup_eq_fast];kernel_rfl
theorem qj:typeLookup (.type "enumerate") "__length_hint__"=pure none:=by rw[typeLookup_type,builtinLookup_eq_fast];kernel_rfl
theorem m6:GW "list"=some (.type "list"):=by decide +kernel
def zh (h:Heap)(e it S:EJ)(i:Nat):Prop:=(i=0/\∃old,IsEnum h e it 0 old)\/∃T b old,fq h e it i T b old/\(∃o,h.get? T=some o)/\T≠e/\T≠it/\T≠S
def Prs (h:Heap)(items:Array Value)(B e it S:EJ)(ts:List EJ):Prop:=∀(j:Nat) (t:EJ),ts[j]? = some t->B<=t/\t≠e/\t≠it/\t≠S/\∃tok x,items[j]? = some x/\h.get? t=some { cls:=.type "tuple",data:=.seq #[.int j tok,x] }
section
variable  {prog:E8}{w:FL}{A:Around}{E:Value->EK->Prop}{s:EK}
theorem vj {e it l S:EJ}{i:Nat}{items:Array Value}{x:Value}{Q:Option Value->EK->Prop}
  (he:zh s.heap e it S i) (hit:s.heap.IsListIter it l i) (hl:s.heap.IsList l items) (hx:items[i]? = some x) (hne:e≠it) (hS:S<s.heap.objs.size)
  (hQ:∀h',zh h' e it S (i+1)->h'.IsListIter it l (i+1) ->
   h'.get? s.heap.objs.size=some { cls:=.type "tuple",data:=.seq #[.int i s.toks,x] }->h'.objs.size=s.heap.objs.size+1 ->
   (∀b o,b≠e->b≠it->s.heap.get? b=some o->h'.get? b=some o)->Q (some (.ref s.heap.objs.size)) { s with heap:=h',toks:=s.toks+1 }) :
  Fp (FC prog w) A (pyNext (.ref e)) Q E s:=by
 rcases he with⟨rfl,old,he⟩|⟨T,b,old,he,⟨o,hT⟩,hTe,hTi,hTS⟩
 ·have hel:e<s.heap.objs.size:=EX he
  have hil:it<s.heap.objs.size:=by obtain⟨_,q,_⟩:=hit;exact EX q
  refine wpAny_pyNext_enum_item he hit hl hx hne λ h' ho hit' hT hsz hk=>hQ h' (FV ⟨s.heap.objs.size,false,x,?_,⟨_,hT⟩,GI hel,GI hil,GI hS⟩) hit' hT hsz hk
  exact ho
 ·have hT':s.TypeIs (.ref e) "enumerate":=⟨_,he,rfl⟩
  unfold pyNext
  refine EI (wpAny_attempt (HA (name:=Str.ofString "__next__") hT' HV
   (HD HV hT' F.entry_enumerate_next
    (jx he hT hTe hTi hit hl hx hne λ h' a b c d k=>E5 (hQ h' (FV ⟨T,true,old,?_,⟨o,k T o hTe hTi hT⟩,hTe,hTi,hTS⟩) b c d k)) (F.args_enumerate_next_1 _))))
  have e1:((i+1:Nat):Int)=(i:Int)+1:=by omega
  rw[e1];exact a
theorem qd {e it l S:EJ}{i:Nat}{items:Array Value}{Q:Option Value->EK->Prop}(hh:A.handled=none)
  (he:zh s.heap e it S i) (hit:s.heap.IsListIter it l i) (hl:s.heap.IsList l items) (hx:items[i]? = none)
  (hQ:∀h',Heap.ExtBut it s.heap h'->Q none { s with heap:=h' }):Fp (FC prog w) A (pyNext (.ref e)) Q E s:=by
 have go:∀(f0 f1 fi fx:Value),s.heap.get? e=some { cls:=.type "enumerate",dict:=none,data:=.fields #[f0,f1,.ref it,fi,.none,fx],slots:=#[] }->Fp (FC prog w) A (pyNext (.ref e)) Q E s:=λ f0 f1 fi fx he=>by
  have hT:s.TypeIs (.ref e) "enumerate":=⟨_,he,rfl⟩
  unfold pyNext
  refine EI (wpAny_attempt (HA (name:=Str.ofString "__next__") hT HV
   (HD HV hT F.entry_enumerate_next ?_ (F.args_enumerate_next_1 _))))
  show Fp _ _ (field (.ref e) 2 >>= _) _ _ _
  refine EI (wpAny_field he rfl (x:=.ref it) rfl ?_)
  refine EI (wpAny_nextOf_list_end hh hit hl hx λ h' x he' hx'=>?_)
  obtain⟨o,ho,hc⟩:=hx'
  refine EI (wpAny_isInstance (T:="StopIteration") (b:=true) ⟨o,ho,hc⟩ isSubtype_stop ?_)
  exact E5 (hQ _ he')
 rcases he with⟨_,old,he⟩|⟨T,b,old,he,_⟩
 ·exact go _ _ _ _ he
 ·exact go _ _ _ _ he
theorem uQ {e it l S B:EJ}{items:Array Value}{R:Result->EK->Prop}(hh:A.handled=none)(hei:e≠it)(hle:l≠e)(hli:l≠it)(hlS:l≠S)(heS:e≠S)(hiS:it≠S)(hn:items.size<=EL)(res:Value) :
  ∀(k i:Nat) (s:EK) (ts:List EJ) (c:Nat),items.size-i=k->i<=items.size->B<=s.heap.objs.size->zh s.heap e it S i->s.heap.IsListIter it l i->s.heap.IsList l items ->
   s.heap.get? S=some { cls:=.type "list",dict:=none,data:=.seq (ts.map FA).toArray c,slots:=#[] }->ts.length=i->Prs s.heap items B e it S ts ->
   (∀h' tk ts' c',(∀b o,b≠e->b≠it->b≠S->s.heap.get? b=some o->h'.get? b=some o)->h'.get? S=some { cls:=.type "list",dict:=none,data:=.seq (ts'.map FA).toArray c',slots:=#[] } ->
    ts'.length=items.size->Prs h' items B e it S ts'->R (.ok (.ret res)) { s with heap:=h',toks:=tk }) ->
  codeAny (FC prog w) A (.builtin "list.extend.loop" ⟨[.ref S,.ref e,res],[]⟩) R s:=by
 intro k
 induction k with
 |zero =>
  intro i s ts c hk hi hB hst hit hl hS hlen hprs hR
  have hin:i=items.size:=by omega
  subst hin
  refine codeAny_builtin F.entry_extend_loop ?_
  rw[Around.under_plainId Iw _]
  show Fp _ A.in1 (pyNext (.ref e) >>= _) _ _ s
  refine EI (qd (A:=A.in1) hh hst hit hl (Array.getElem?_eq_none (nlr _)) λ h' hx=>?_)
  refine E5 (hR h' s.toks ts c (λ b o hbe hbi hbS q=>hx b o hbi q) (hx S _ (Fj hiS) hS) hlen λ j t ht=>?_)
  obtain⟨p1,p2,p3,p4,tok,x,p5,p6⟩:=hprs j t ht
  exact⟨p1,p2,p3,p4,tok,x,p5,hx t _ p3 p6⟩
 |succ k ih =>
  intro i s ts c hk hi hB hst hit hl hS hlen hprs hR
  have hlt:i<items.size:=by omega
  refine codeAny_builtin F.entry_extend_loop ?_
  rw[Around.under_plainId Iw _]
  show Fp _ A.in1 (pyNext (.ref e) >>= _) _ _ s
  have hSl:S<s.heap.objs.size:=EX hS
  have hx:items[i]? = some items[i]:=Il hlt
  refine EI (vj hst hit hl hx hei hSl λ h' hst' hit' hT hsz hkp=>?_)
  have hS':=hkp S _ (Fj heS) (Fj hiS) hS
  have hel:e<s.heap.objs.size:=by
   rcases hst with⟨_,_,q⟩|⟨_,_,_,q,_⟩
   ·exact EX q
   ·exact EX q
  have hil:it<s.heap.objs.size:=by obtain⟨_,q,_⟩:=hit;exact EX q
  show Fp _ A.in1 (updateSeq S (·.push (.ref s.heap.objs.size)) >>= _) _ _ _
  refine EI ?_
  have upS:∀b o,b≠S->h'.get? b=some o->(h'.update S (GM (·.push (FA s.heap.objs.size)))).get? b=some o:=λ b o hb q=>(GF _ _ (Fj hb)).trans q
  refine wpAny_updateSeq hS' rfl (E5 ⟨plainId_quiet Iw _,ih (i+1) _ (ts++[s.heap.objs.size]) (c+1) (by omega) hlt ?_ ?_ ?_ ?_ ?_ (by rw[EN,hlen];rfl) ?_ ?_⟩) ?_ ?_
  ·show B<=(h'.update S _).objs.size
   rw[Heap.size_update,hsz];exact Fw hB (Nat.le_succ _)
  ·rcases hst' with⟨q,_⟩|⟨T,b,old,h1,⟨o,h2⟩,h3,h4,h5⟩
   ·omega
   ·exact FV ⟨T,b,old,upS e _ heS h1,⟨o,upS T o h5 h2⟩,h3,h4,h5⟩
  ·obtain⟨o,ho,r⟩:=hit'
   exact⟨o,upS it o hiS ho,r⟩
  ·obtain⟨o,ho,r⟩:=hl
   exact⟨o,upS l o hlS (hkp l o hle hli ho),r⟩
  ·have q:=GJ (GM (·.push (FA s.heap.objs.size))) hS' rfl
   show(h'.update S _).get? S=_
   rw[q]
   simp[GM]
  ·intro j t ht
   by_cases hj:j<ts.length
   ·rw[Fd hj]at ht
    obtain⟨p1,p2,p3,p4,tok,x,p5,p6⟩:=hprs j t ht
    exact⟨p1,p2,p3,p4,tok,x,p5,upS t _ p4 (hkp t _ p2 p3 p6)⟩
   ·have hjl:j=ts.length:=by
     have:=(gsi ht).1
     rw[EN]at this
     simp at this
     omega
    subst hjl
    rw[E6 (nlr _),Gh]at ht
    have ht:s.heap.objs.size=t:=osi ht
    subst ht
    refine⟨hB,GI hel,GI hil,GI hSl,s.toks,items[i],by rw[hlen];exact hx,?_⟩
    rw[hlen]
    exact upS _ _ (GI hSl) hT
  ·intro h'' tk ts' c' hk2 hS2 hl2 hp2
   refine hR h'' tk ts' c' (λ b o hbe hbi hbS q=>hk2 b o hbe hbi hbS (upS b o hbS (hkp b o hbe hbi q))) hS2 hl2 hp2
  ·have:(ts.map FA).toArray.size=i:=by simp[hlen]
   rw[this];omega
  ·show((ts.map FA).toArray.push (FA s.heap.objs.size)).size<=EL+1
   rw[Array.size_push]
   have:(ts.map FA).toArray.size=i:=by simp[hlen]
   rw[this];omega
theorem rA {e it l S:EJ}{items:Array Value}{R:Result->EK->Prop}(hh:A.handled=none)(hei:e≠it)(hle:l≠e)(hli:l≠it)(hlS:l≠S)(heS:e≠S)(hiS:it≠S)(hn:items.size<=EL)(res:Value)(c₀:Nat)
  {old:Value} (he:IsEnum s.heap e it 0 old) (hit:s.heap.IsListIter it l 0) (hl:s.heap.IsList l items) (hS:s.heap.get? S=some { cls:=.type "list",data:=.seq #[] c₀ })
  (hR:∀h' tk ts' c',(∀b o,b≠e->b≠it->b≠S->s.heap.get? b=some o->h'.get? b=some o)->h'.get? S=some { cls:=.type "list",dict:=none,data:=.seq (ts'.map FA).toArray c',slots:=#[] } ->
    ts'.length=items.size->Prs h' items s.heap.objs.size e it S ts'->R (.ok (.ret res)) { s with heap:=h',toks:=tk }) :
  Fp (FC prog w) A.in1 (G5 (.ref S) (.ref e) res)
   (λ fin s'=>match fin with|.done f=>R (.ok f) s'|.again c'=>c'.quiet=true/\codeAny (FC prog w) A c' R s') (λ e s'=>R (.error e) s') s:=by
 have hT:s.TypeIs (.ref e) "enumerate":=⟨_,he,rfl⟩
 unfold G5
 refine EI (wpAny_typeOf hT ?_)
 have h1:Builtin.List.listSameRef (.ref S) (.ref e)=false:=by simp[Builtin.List.listSameRef,Fj heS]
 have h2:(Value.type "enumerate"==Value.type "list")=false:=by decide
 have h3:(Value.type "enumerate"==Value.type "tuple")=false:=by decide
 simp only[h1,h2,h3,Bool.or_false,Bool.false_eq_true,Ig]
 refine EI (wpAny_pyIter_enum he ?_)
 refine EI (wpAny_holding ?_)
 unfold Builtin.List.listLengthHint
 refine EI (wpAny_specialOf hT rB ?_)
 show Fp _ A.in1 (specialOf (FA e) (Str.ofString "__length_hint__") >>= _) _ _ _
 refine EI (wpAny_specialOf hT qj ?_)
 refine E5 ?_
 show Fp _ A.in1 (rule "list.extend.makes-room" >>= λ _=>Builtin.List.listTouch (.ref S) >>= λ _ =>
  again (.builtin "list.extend.loop" ⟨[.ref S,.ref e,res],[]⟩)) _ _ _
 refine EI (wpAny_rule ?_)
 refine EI ?_
 show Fp _ A.in1 (updateSeq S (·.push .none) >>= λ _=>updateSeq S (·.pop)) _ _ _
 refine EI (wpAny_updateSeq hS rfl ?_)
 have hS₂:=GJ (GM (·.push Ia)) hS rfl
 refine wpAny_updateSeq (hz:=by seq_fits) hS₂ rfl ?_
 have hS₃:=GJ (GM (·.pop)) hS₂ rfl
 have oth:∀b o,b≠S->s.heap.get? b=some o->((s.heap.update S (GM (·.push Ia))).update S (GM (·.pop))).get? b=some o :=
  λ b o hb e=>(GF _ _ (Fj hb)).trans ((GF _ _ (Fj hb)).trans e)
 refine E5 ⟨plainId_quiet Iw _,uQ (B:=s.heap.objs.size) hh hei hle hli hlS heS hiS hn res items.size 0 _ [] (c₀+1+1) (by omega) (FR _) ?_ (Go ⟨rfl,old,oth e _ heS he⟩) ?_ ?_ ?_ rfl ?_ ?_⟩
 ·show s.heap.objs.size<=((s.heap.update S _).update S _).objs.size
  rw[Heap.size_update,Heap.size_update]
  exact nlr _
 ·obtain⟨o,ho,r⟩:=hit
  exact⟨o,oth it o hiS ho,r⟩
 ·obtain⟨o,ho,r⟩:=hl
  exact⟨o,oth l o hlS ho,r⟩
 ·rw[hS₃]
  simp[GM]
 ·intro j t ht
  simp at ht
 ·intro h' tk ts' c' hk hS' hlen hprs
  exact hR h' tk ts' c' (λ b o hbe hbi hbS q=>hk b o hbe hbi hbS (oth b o hbS q)) hS' hlen hprs
theorem mx {e it l:EJ}{items:Array Value}{old:Value}{Q:Value->EK->Prop}(hh:A.handled=none)(hei:e≠it)(hle:l≠e)(hli:l≠it)(hn:items.size<=EL)
  (he:IsEnum s.heap e it 0 old) (hit:s.heap.IsListIter it l 0) (hl:s.heap.IsList l items)
  (hQ:∀h' tk ts c',(∀b o,b≠e->b≠it->s.heap.get? b=some o->h'.get? b=some o)->h'.get? s.heap.objs.size=some { cls:=.type "list",dict:=none,data:=.seq (ts.map FA).toArray c',slots:=#[] } ->
   ts.length=items.size->Prs h' items s.heap.objs.size e it s.heap.objs.size ts->Q (.ref s.heap.objs.size) { s with heap:=h',toks:=tk }) :
  Fp (FC prog w) A (call (.type "list") [.ref e]) Q E s:=by
 refine callType_codes (Q₁:=λ obj s₁=>obj=.ref s.heap.objs.size/\s₁={ s with heap:=s.heap.push { cls:=.type "list",data:=.seq #[] } }) F.called_list (F.typeCall_list_1 _) F.entry_list_init
  (code_list_new _ ⟨rfl,rfl⟩) λ obj s₁ h₁=>?_
 obtain⟨rfl,rfl⟩:=h₁
 have hS:(s.heap.push { cls:=.type "list",data:=.seq #[] }).get? s.heap.objs.size=some { cls:=.type "list",data:=.seq #[] }:=Fb _ rfl
 refine⟨⟨_,hS,rfl⟩,F.args_list_init_2 _ _,?_⟩
 have hel:e<s.heap.objs.size:=EX he
 have hil:it<s.heap.objs.size:=by obtain⟨_,q,_⟩:=hit;exact EX q
 have hll:l<s.heap.objs.size:=by obtain⟨_,q,_⟩:=hl;exact EX q
 show Fp _ A.in1.in1 (do let old <-Builtin.List.listItems (.ref s.heap.objs.size);Builtin.List.listUpdate (.ref s.heap.objs.size) (λ _=>#[]);letGo old.toList.reverse;G5 (.ref s.heap.objs.size) (.ref e) .none) _ _ _
 refine EI ?_
 unfold Builtin.List.listItems
 refine EI (wpAny_seqItems hS rfl (E5 ?_))
 show Fp _ _ (updateSeq s.heap.objs.size (λ _=>#[]) >>= λ _=>letGo (#[]:Array Value).toList.reverse >>= λ _=>G5 (.ref s.heap.objs.size) (.ref e) .none) _ _ _
 refine EI (wpAny_updateSeq hS rfl ?_)
 have hS₂:=GJ (GM (λ _=>(#[]:Array Value))) hS rfl
 have oth:∀b o,s.heap.get? b=some o->((s.heap.push { cls:=.type "list",data:=.seq #[] }).update s.heap.objs.size (GM (λ _=>(#[]:Array Value)))).get? b=some o :=
  λ b o q=>(GF _ _ (GI (EX q))).trans (EV _ q)
 refine EI (wpAny_letGo ?_)
 refine rA (A:=A.in1) (old:=old) hh hei hle hli (Fv hll) (Fv hel) (Fv hil) hn .none _ (oth e _ he) ?_ ?_ hS₂ λ h' tk ts c' hk hS' hlen hprs=>?_
 ·obtain⟨o,ho,r⟩:=hit
  exact⟨o,oth it o ho,r⟩
 ·obtain⟨o,ho,r⟩:=hl
  exact⟨o,oth l o ho,r⟩
 ·refine⟨rfl,hQ h' tk ts c' (λ b o hbe hbi q=>hk b o hbe hbi (Fv (EX q)) (oth b o q)) hS' hlen λ j t ht=>?_⟩
  obtain⟨p1,p2,p3,p4,r⟩:=hprs j t ht
  refine⟨Fw ?_ p1,p2,p3,p4,r⟩
  show s.heap.objs.size<=((s.heap.push _).update _ _).objs.size
  rw[Heap.size_update,F6]
  exact Nat.le_succ _
end
section
variable  {X:Cx}{pins:List (EJ×Obj)}{σ:L2.St}{H H':Hp}{s:EK}{h':Heap}
theorem xZ {t':Nat}(I:L2.Inv X pins σ H s)(k:∀b u,s.heap.get? b=some u->h'.get? b=some u)(sm:al H H')(fr:∀b o,H' b=some o->H b=some o\/(s.heap.objs.size<=b/\cf X.prog X.w H' h' b o)) :
  L2.Inv X pins σ H' { s with heap:=h',toks:=t' }:=by
 refine I.un ⟨λ b o q _ _ _=>k b o q,λ b o q _ _ _=>⟨o.slots,k b o q⟩,λ b o q n _=>?_,λ b o q _=>⟨o,k b o q⟩,λ b xs q=>sm b _ q,λ b o u q=>sm b _ q,λ b ps q=>⟨#[],by rw[sm b _ q];simp⟩⟩ ?_
 ·cases e:H' b with
  |none=>rfl
  |some u =>
   rcases fr b u e with q1|⟨q1,_⟩
   ·rw[n]at q1;cases q1
   ·exact absurd (E9 (EX q) q1) (Gx _)
 ·intro b o e
  rcases fr b o e with q|⟨_,q⟩
  ·exact(I.hok b o q).stay (λ c u _ r=>k c u r) (λ c r=>sm c _ r) λ c xs r=>sm c _ r
  ·exact q
def tLE (K:FQ)(ta:TA):TE:=λ σ H Q=>ta σ H λ vs H1=>∃(a:EJ) (xs:List V),vs=[.ref a]/\SqL K H1 a xs/\∀(H':Hp) (p:EJ) (ts:List EJ),al H1 H'->H' p=some (.lst (ts.map V.ref))->ts.length=xs.length ->
 (∀(i:Nat) (t:EJ) (x:V),ts[i]? = some t->xs[i]? = some x->H' t=some (.tup [.int (i:Nat),x]))->Q (.ref p) H'
theorem oF:∀ts:List EJ,aT (ts.map V.ref) (ts.map FA)
 |[]=>.nil
 |t :: ts=>.cons rfl (oF ts)
theorem rZ {e:Expr}{ta:TA}{p p2 pos pos2:Pos}(hc:X.calm=true) (hg:Gl X "list") (hm:X.mg "list"=none) (hg2:Gl X "enumerate") (hm2:X.mg "enumerate"=none) (ha:PA X [e] ta)
  (hs:Fo [e] X.env=[(false,Ik e X.env)]:=by rfl)
  (hs2:Fo [.Call (.Name "enumerate" p2) [e] [] pos2] X.env=[(false,Ik (.Call (.Name "enumerate" p2) [e] [] pos2) X.env)]:=by rfl) :
  PE X (.Call (.Name "list" p) [.Call (.Name "enumerate" p2) [e] [] pos2] [] pos) (tLE X.K ta):=by
 intro pins s σ H Q I h
 refine HM (gA I hg hm m6 ?_)
 refine FD ?_ hs2 rfl
 rw[hs2]
 show Fp _ _ (spliced ((false,Ik (.Call (.Name "enumerate" p2) [e] [] pos2) X.env) :: [])) _ _ s
 refine Calls.spliced_cons ?_
 refine Call_ (gA I hg2 hm2 boot_enumerate (FD (thn (ha pos2 pins s σ H _ I h) λ us s1 ⟨vs,H1,I1,r1,q1⟩=>?_) hs rfl))
 obtain⟨a,xs,ex,hq,q⟩:=q1
 subst ex
 cases r1 with
 |cons r rr =>
  cases rr
  cases r
  obtain⟨its,rv,p',hz⟩:=I1.list hq
  have hla:a<s1.heap.objs.size:=p'.lt
  refine call_enumerate_list p'.isList λ h1 he hit hsz hk=>Calls.spliced_nil ?_
  have hlen:=rv.length
  refine mx (items:=its.toArray) (I.ok.hd hc) (Nat.succ_ne_self _) (Fv (Ih hla)) (Fv hla) (by simp only[EW];omega) he hit (p'.isList.at λ o z=>hk a o z) λ h2 tk ts c' hk2 hS hl2 hprs=>?_
  have hsz2:s1.heap.objs.size+2=h1.objs.size:=hsz.symm
  let S:=h1.objs.size
  have inj:∀(i j:Nat) (t:EJ),ts[i]? = some t->ts[j]? = some t->i=j:=λ i j t e1 e2=>by
   obtain⟨_,_,_,_,tok1,x1,_,g1⟩:=hprs i t e1
   obtain⟨_,_,_,_,tok2,x2,_,g2⟩:=hprs j t e2
   rw[g1]at g2
   have:=Gy (λ o:Option Obj=>o.map (·.data)) g2
   simp only[Option.map_some]at this
   injection this with this
   injection this with this
   have:=Gy (λ a:Array Value=>a.toList.head?) this
   simp only[List.head?]at this
   injection this with this
   injection this with this
   omega
  have hidx:∀(i:Nat) (t:EJ),ts[i]? = some t->ts.idxOf t=i:=λ i t e1=>by
   have hm:t∈ts:=FG e1
   exact inj _ _ t (by rw[gge (G2 hm),List.getElem_idxOf]) e1
  let H2:Hp:=λ b=>if b=h1.objs.size then some (.lst (ts.map V.ref)) else if b∈ts then some (.tup [.int ((ts.idxOf b:Nat):Int),xs.getD (ts.idxOf b) .non]) else H1 b
  have old:∀b o,s1.heap.get? b=some o->b≠s1.heap.objs.size+1/\b≠s1.heap.objs.size/\b≠h1.objs.size/\b∉ts:=λ b o z=>by
   have hb:=EX z
   refine⟨Fv (Ih hb),Fv hb,Fv (E9 hb (by rw[<-hsz2];exact Gi _ _)),λ hm=>?_⟩
   obtain⟨i,hi⟩:=Hl.mp hm
   have:=(hprs i b hi).1
   rw[<-hsz2]at this
   exact absurd (E9 hb (Fw (Gi _ 2) this)) (Gx _)
  have kk:∀b o,s1.heap.get? b=some o->h2.get? b=some o:=λ b o z=>by
   obtain⟨n1,n2,_,_⟩:=old b o z
   exact hk2 b o n1 n2 (hk b o z)
  have sm:al H1 H2:=λ b o z=>by
   have hb:=I1.hok.lt z
   have n3:b≠h1.objs.size:=Fv (E9 hb (by rw[<-hsz2];exact Gi _ _))
   have n4:b∉ts:=λ hm=>by
    obtain⟨i,hi⟩:=Hl.mp hm
    have:=(hprs i b hi).1
    rw[<-hsz2]at this
    exact absurd (E9 hb (Fw (Gi _ 2) this)) (Gx _)
   show(if b=h1.objs.size then _ else if b∈ts then _ else H1 b)=_
   rw[EM n3,EM n4]
   exact z
  have hts:ts.length=xs.length:=by
   rw[hl2,EW,hlen]
  have I2:L2.Inv X pins σ H2 { s1 with heap:=h2,toks:=tk }:=by
   refine xZ I1 kk sm λ b o z=>?_
   by_cases c1:b=h1.objs.size
   ·right
    subst c1
    have z':some (HO.lst (ts.map V.ref))=some o:=by
     rw[<-z]
     show _=(if h1.objs.size=h1.objs.size then _ else _)
     rw[EU rfl]
    have z':=osi z'
    subst z'
    refine⟨by rw[<-hsz2];exact Gi _ _,?_⟩
    exact⟨by rw[lmp,hts];exact hz,_,c',oF ts,hS⟩
   ·by_cases c2:b∈ts
    ·right
     obtain⟨i,hi⟩:=Hl.mp c2
     obtain⟨p1,p2,p3,p4,tok,x',p5,p6⟩:=hprs i b hi
     have z':some (HO.tup [.int ((ts.idxOf b:Nat):Int),xs.getD (ts.idxOf b) .non])=some o:=by
      rw[<-z]
      show _=(if b=h1.objs.size then _ else if b∈ts then _ else H1 b)
      rw[EM c1,EU c2]
     have z':=osi z'
     subst z'
     rw[hidx i b hi]
     have hil:i<xs.length:=by rw[<-hts];exact(gsi hi).1
     have hxi:xs[i]? = some xs[i]:=gge hil
     obtain⟨u,hu,ru⟩:=rv.get hxi
     have hux:u=x':=by
      have:its[i]? = some x':=by simpa using p5
      exact osi (hu.symm.trans this)
     subst hux
     refine⟨Fw (by rw[<-hsz2];exact Gi _ _) p1,by show 2<=EL;decide,[.int i tok,u],.cons ⟨tok,rfl⟩ (.cons ?_ .nil),⟨_,p6,rfl,_,rfl⟩⟩
     rw[Fa,hxi]
     exact ru
    ·left
     rw[<-z]
     show _=(if b=h1.objs.size then _ else if b∈ts then _ else H1 b)
     rw[EM c1,EM c2]
  refine⟨.ref h1.objs.size,H2,I2,rfl,q H2 h1.objs.size ts sm ?_ hts λ i t x e1 e2=>?_⟩
  ·show(if h1.objs.size=h1.objs.size then _ else _)=_
   rw[EU rfl]
  ·obtain⟨p1,p2,p3,p4,_⟩:=hprs i t e1
   show(if t=h1.objs.size then _ else if t∈ts then _ else H1 t)=_
   rw[EM p4,EU (FG e1),hidx i t e1,Fa,e2]
   rfl
end
end Wx
end
section
namespace Wg
open PySem PySem.Spec PyProof.Rows L2
theorem zg {K:FQ}{a:EJ}{xs:List V}{g:TG}{tb:TS}{D:nU}{σ:L2.St}{H:Hp}(Pv:Nat->L2.St->Hp->Prop)(h0:Pv 0 σ H)(hl:∀i σ H,i<=xs.length->Pv i σ H->SqL K H a xs)
  (hs:∀i x σ H,i<xs.length->xs[xs.length-1-i]? = some x->Pv i σ H->g x σ H λ σ2 H2=>tb { D with nx:=Pv (i+1),ct:=Pv (i+1),bk:=D.nx } σ2 H2) (hd:∀σ H,Pv xs.length σ H->D.nx σ H) :
  ∃W:Nat->Nat->L2.St->Hp->Prop,(∃m,W 0 m σ H)/\∀i m σ H,W i m σ H ->
   ((Itv K a xs.length).stop i H/\D.nx σ H)\/((Itv K a xs.length).go i H/\∃N:L2.St->Hp->Prop,(∀σ' H',N σ' H'->∃m',m'<m/\W (i+1) m' σ' H')/\∀x H',(Itv K a xs.length).yld i H x H'->g x σ H' λ σ2 H2=>tb { D with nx:=N,ct:=N,bk:=D.nx } σ2 H2):=by
 refine⟨λ i m σ H=>m=xs.length-i/\i<=xs.length/\Pv i σ H,⟨xs.length,by simp,FR _,h0⟩,?_⟩
 rintro i m σ H ⟨rfl,hi,p⟩
 have q:=hl i σ H hi p
 by_cases hlt:i<xs.length
 ·refine .inr ⟨⟨hlt,xs,xs[xs.length-1-i],q,by simp⟩,Pv (i+1),λ σ' H' p'=>⟨xs.length-(i+1),by omega,rfl,hlt,p'⟩,λ x H' y=>?_⟩
  obtain⟨e,y⟩:=y
  subst e
  exact hs i x σ _ hlt (y xs q) p
 ·have e:i=xs.length:=by omega
  subst e
  exact .inl ⟨nlr _,hd σ H p⟩
theorem k9 {lo c:Int}{n:Nat}{g:TG}{tt:TT}{te:TE}{vs:List Nat}{σ:L2.St}{H1:Hp}{D:EJ}{Qd:Hp->Prop}(Pv:Nat->Hp->Prop)(h0:Pv 0 (upd H1 D (.lst [])))
  (hs:∀i H,i<n->Pv i H->g (.int (lo+(i:Nat)*c)) (bX σ vs) H λ σ2 H2=>bX σ2 vs=bX σ vs/\tt σ2 H2 λ b H3 =>
   if b=true then te σ2 H3 λ y H4=>∃acc,H4 D=some (.lst acc)/\acc.length<EL/\Pv (i+1) (upd H4 D (.lst (acc++[y]))) else Pv (i+1) H3) (hd:∀H,Pv n H->Qd H) :
  ∃W:Nat->Nat->Hp->Prop,(∃m,W 0 m (upd H1 D (.lst [])))/\∀i m H,W i m H ->
   ((Itc lo c n).stop i H/\Qd H)\/((Itc lo c n).go i H/\∃Nx:Hp->Prop,(∀H',Nx H'->∃m',m'<m/\W (i+1) m' H')/\∀x H',(Itc lo c n).yld i H x H'->g x (bX σ vs) H' λ σ2 H2=>bX σ2 vs=bX σ vs/\tt σ2 H2 λ b H3 =>
    if b=true then te σ2 H3 λ y H4=>∃acc,H4 D=some (.lst acc)/\acc.length<EL/\Nx (upd H4 D (.lst (acc++[y]))) else Nx H3):=by
 refine⟨λ i m H=>m=n-i/\i<=n/\Pv i H,⟨n,by simp,FR _,h0⟩,?_⟩
 rintro i m H ⟨rfl,hi,p⟩
 by_cases hlt:i<n
 ·refine .inr ⟨hlt,Pv (i+1),λ H' p'=>⟨n-(i+1),by omega,rfl,hlt,p'⟩,λ x H' y=>?_⟩
  obtain⟨e,y⟩:=y
  subst e y
  exact hs i _ hlt p
 ·have e:i=n:=by omega
  subst e
  exact .inl ⟨nlr _,hd H p⟩
def TL (H:Hp)(p:EJ)(rows:List (List Int)):Prop:=∃as:List EJ,H p=some (.lst (as.map V.ref))/\as.length=rows.length/\∀(i:Nat) (a:EJ) (r:List Int),as[i]? = some a->rows[i]? = some r->H a=some (.tup (iV r))
theorem TL.same {H H':Hp}{p:EJ}{rows:List (List Int)}(h:TL H p rows)(s:al H H'):TL H' p rows:=by
 obtain⟨as,h1,h2,h3⟩:=h
 exact⟨as,s _ _ h1,h2,λ i a r e1 e2=>s _ _ (h3 i a r e1 e2)⟩
theorem cu {as:List EJ}{i:Nat}{v:V}(h:(as.map V.ref)[i]? = some v):∃a,as[i]? = some a/\v=.ref a:=by
 rw[E2]at h
 cases e:as[i]? with
 |none=>rw[e]at h;cases h
 |some z=>rw[e]at h;exact⟨z,rfl,(osi h).symm⟩
theorem aP {as:List EJ}{i:Nat}{a:EJ}(h:as[i]? = some a):(as.map V.ref)[i]? = some (.ref a):=by
 rw[E2,h];rfl
def PvR (H0:Hp)(D:EJ)(rows:List (List Int))(i:Nat)(H:Hp):Prop:=∃as:List EJ,al H0 H/\H D=some (.lst (as.map V.ref))/\as.length=(rows.take i).length/\∀(j:Nat) (b:EJ) (x:List Int),as[j]? = some b->(rows.take i)[j]? = some x->b≠D/\H b=some (HO.tup (iV x))
theorem PvR.start {H0 H:Hp}{D:EJ}{rows:List (List Int)}(s:al H0 H)(hD:H D=none):PvR H0 D rows 0 (upd H D (.lst [])):=⟨[],aZ s hD,ag,rfl,λ j b x e=>by simp at e⟩
theorem PvR.same {H0 H:Hp}{D:EJ}{rows:List (List Int)}{i:Nat}(h:PvR H0 D rows i H):al H0 H:=by
 obtain⟨_,h1,_⟩:=h
 exact h1
theorem PvR.turn {H0 H H1:Hp}{D q:EJ}{rows:List (List Int)}{i:Nat}{r:List Int}(h:PvR H0 D rows i H)(hD0:H0 D=none)(hn:rows.length<=1000000)(hr:rows[i]? = some r)(s1:al H H1)(hq:H1 q=some (HO.tup (iV r)))(nq:q≠D) :
  ∃acc,H1 D=some (.lst acc)/\acc.length<EL/\PvR H0 D rows (i+1) (upd H1 D (.lst (acc++[.ref q]))):=by
 obtain⟨as,hS,hD,hl,hat⟩:=h
 have hD1:=s1 _ _ hD
 have hl':as.length=i:=by
  have:=(gsi hr).1
  rw[hl,FM]
  omega
 refine⟨as.map V.ref,hD1,?_,as++[q],aY (hS.trans s1) hD0,?_,?_,λ j a x e1 e2=>?_⟩
 ·rw[lmp,hl,FM]
  exact bG (by omega)
 ·rw[ag,Fi]
  rfl
 ·rw[bY hr,EN,EN,hl]
  rfl
 ·rw[bY hr]at e2
  by_cases c:j<as.length
  ·rw[Fd c]at e1
   rw[Fd (by rw[<-hl];exact c)]at e2
   obtain⟨n1,n2⟩:=hat j a x e1 e2
   exact⟨n1,by rw[ap n1];exact s1 _ _ n2⟩
  ·have hi:=(gsi e1).1
   rw[EN]at hi
   simp at hi
   have ei:j=as.length:=by omega
   subst ei
   rw[E6 (nlr _),Gh]at e1
   rw[hl,E6 (nlr _),Gh]at e2
   have e1:q=a:=osi e1
   have e2:r=x:=osi e2
   subst e1 e2
   exact⟨nq,by rw[ap nq];exact hq⟩
theorem PvR.done {H0 H:Hp}{D:EJ}{rows:List (List Int)}{n:Nat}(h:PvR H0 D rows n H)(hn:rows.length<=n):al H0 H/\TL H D rows:=by
 obtain⟨as,hS,hD,hl,hat⟩:=h
 rw[F9 hn]at hl hat
 exact⟨hS,as,hD,hl,λ i a r e1 e2=>(hat i a r e1 e2).2⟩
theorem db {f:Str}{v:V}:∀{fs:List (Str×V)} {n:Nat},fs.length<=n->(eY f v fs).length<=n+1
 |[],n,_=>Nat.succ_le_succ (FR n)
 |(g,x) :: r,n,h=>by
  unfold eY
  by_cases c:g=f
  ·rw[EU c]
   exact Fw h (Nat.le_succ _)
  ·rw[EM c]
   cases n with
   |zero=>simp at h
   |succ n =>
    have:=db (f:=f) (v:=v) (fs:=r) (n:=n) (by simpa using h)
    simp only[Ft]
    omega
def jF (K:FQ)(C:EJ)(m qual:Str)(st:G8)(ps:List Str):Prop:=∃f fd,Fun K m qual st f fd/\(∀us:List Value,us.length=ps.length->bindArgs fd ⟨us,[]⟩=pure (ps.zip us))/\vT K C m f
def Cm (P:E8)(w:FL)(K:FQ)(mg:Str->Option Value)(base:Heap)(k:Nat)(C:EJ)(m:Str)(ps:List Str)(sp:Sp):Prop :=
 ∃f fd,jw P w K mg base CX0 k f fd ps sp/\iO K fd ps []/\vT K C m f
section
variable  {P:E8}{w:FL}{K:FQ}{mg:Str->Option Value}{base:Heap}
theorem jF.cm {C:EJ}{m qual:Str}{st:G8}{N ps:List Str}{k:Nat}{sp:Sp}(F:jF K C m qual st ps)(S:aq N ps (ah st))(len:∀vs H Q E,sp vs H Q E->vs.length=ps.length)
  (hbody:∀(f:EJ) (cdv:Value) (A:Around) (outer:List Env) (s:EK) (H:Hp) (vs:List V) (Q:VK) (E:XK),bu k (A.deeper (envOfC qual (ah st) s.heap.objs.size f cdv))->sp vs H Q E ->
   ∃t,PSs (pI CX0 P w K mg base N qual (ah st) f cdv A outer s H E).nox (bP st) t/\t { nx:=λ _ H'=>Q .non H',rt:=Q } (start N vs) H):Cm P w K mg base (k+1) C m ps sp:=by
 obtain⟨f,fd,h1,h2,h3⟩:=F
 exact⟨f,fd,h1.ok S len (hbody f),.all h2,h3⟩
def qc (K:FQ)(C:EJ)(qual:Str)(st:G8)(ps:List Str):Prop:=∃f fd,Fun K "__init__" qual st f fd/\(∀us:List Value,us.length=ps.length->bindArgs fd ⟨us,[]⟩=pure (ps.zip us))/\Mk K C f
def Ci (P:E8)(w:FL)(K:FQ)(mg:Str->Option Value)(base:Heap)(k:Nat)(C:EJ)(ps:List Str)(sp:Sp):Prop :=
 ∃f fd,jw P w K mg base CX0 k f fd ps sp/\iO K fd ps []/\Mk K C f
theorem qc.ci {C:EJ}{qual:Str}{st:G8}{N ps:List Str}{k:Nat}{sp:Sp}(F:qc K C qual st ps)(S:aq N ps (ah st))(len:∀vs H Q E,sp vs H Q E->vs.length=ps.length)
  (hbody:∀(f:EJ) (cdv:Value) (A:Around) (outer:List Env) (s:EK) (H:Hp) (vs:List V) (Q:VK) (E:XK),bu k (A.deeper (envOfC qual (ah st) s.heap.objs.size f cdv))->sp vs H Q E ->
   ∃t,PSs (pI CX0 P w K mg base N qual (ah st) f cdv A outer s H E).nox (bP st) t/\t { nx:=λ _ H'=>Q .non H',rt:=Q } (start N vs) H):Ci P w K mg base (k+1) C ps sp:=by
 obtain⟨f,fd,h1,h2,h3⟩:=F
 exact⟨f,fd,h1.ok S len (hbody f),.all h2,h3⟩
theorem lV {C:EJ}{m qual:Str}{st:G8}{ps:List Str}{f:EJ}{oc:Value}{od an:Option EJ}{osl:Array (Option Value)}{kV doc pm cdv ct:Value}
  (bind:∀(kV doc pm:Value) (an:Option EJ) (cdv ct:Value) (us:List Value),us.length=ps.length->bindArgs (F7 m qual (cI st) (bP st) (ah st) .none kV doc pm an cdv ct) ⟨us,[]⟩=pure (ps.zip us))
  (a:Fn K (.ref C) m=some (some (.ref f))) (i:GX K (.ref f)=true) (l:K.lookup f=some ⟨oc,od,.func (F7 m qual (cI st) (bP st) (ah st) .none kV doc pm an cdv ct),osl⟩)
  (c:Gn K cdv qual=true) (kp:FK K (.ref f)=true):jF K C m qual st ps :=
 ⟨f,_,sr (st:=st) l c kp,bind kV doc pm an cdv ct,⟨a,i,kp⟩⟩
theorem uI {C:EJ}{qual:Str}{st:G8}{ps:List Str}{f:EJ}{oc:Value}{od an:Option EJ}{osl:Array (Option Value)}{kV doc pm cdv ct:Value}
  (bind:∀(kV doc pm:Value) (an:Option EJ) (cdv ct:Value) (us:List Value),us.length=ps.length->bindArgs (F7 "__init__" qual (cI st) (bP st) (ah st) .none kV doc pm an cdv ct) ⟨us,[]⟩=pure (ps.zip us))
  (mk:PySem.W.makesIn K C=true) (kc:FK K (.ref C)=true)
  (a:Fn K (.ref C) "__init__"=some (some (.ref f))) (i:GX K (.ref f)=true) (l:K.lookup f=some ⟨oc,od,.func (F7 "__init__" qual (cI st) (bP st) (ah st) .none kV doc pm an cdv ct),osl⟩)
  (c:Gn K cdv qual=true) (kp:FK K (.ref f)=true):qc K C qual st ps :=
 ⟨f,_,sr (st:=st) l c kp,bind kV doc pm an cdv ct,⟨mk,a,i,kc⟩⟩
end
theorem hG {X:Cx}{k:Nat}{C:EJ}{m:Str}{ps:List Str}{sp:Sp}{pos apos:Pos}{o e:Expr}{es:List Expr}{ta:TE}{t:TA}{pl:Sem Bool}(he:PE X o ta)(cl:Cls X.K C)(c:Cm X.prog X.w X.K X.mg X.base k C m ps sp)(hr:bu k X.A)(ha:PA X (e :: es) t)
  (hst:Fo (e :: es) X.env=(false,Ik e X.env) :: Fo es X.env:=by rfl) (hpl:(HL pos (Fo es X.env)).any (·.1)=false:=by rfl)
  (ht:Ik (.Call (.Attribute o m apos) (e :: es) [] pos) X.env=(do
   let ov <-Ik o X.env
   standAt apos.atName
   let (f,first) <-holding [ov] (getMethod ov m pl)
   callWith pos f first (HL pos (Fo (e :: es) X.env)) (backToKw pos (HN [] X.env))):=by rfl) :
  PE X (.Call (.Attribute o m apos) (e :: es) [] pos) (kj C m sp [] E0 ta t):=by
 obtain⟨f,fd,h1,h2,h3⟩:=c
 exact yy he cl h3 h1 hr h2 .nil tK ha hst hpl ht
theorem Be {X:Cx}{k:Nat}{C:EJ}{m:Str}{ps:List Str}{sp:Sp}{pos apos:Pos}{o:Expr}{ta:TE}{pl:Sem Bool}(he:PE X o ta)(cl:Cls X.K C)(c:Cm X.prog X.w X.K X.mg X.base k C m ps sp)(hr:bu k X.A)
  (ht:Ik (.Call (.Attribute o m apos) [] [] pos) X.env=(do
   let ov <-Ik o X.env
   standAt apos.atName
   let (f,first) <-holding [ov] (getMethod ov m pl)
   callWith pos f first (HL pos (Fo [] X.env)) (backToKw pos (HN [] X.env))):=by rfl) :
  PE X (.Call (.Attribute o m apos) [] [] pos) (kj C m sp [] E0 ta fY):=by
 obtain⟨f,fd,h1,h2,h3⟩:=c
 exact wc he cl h3 h1 hr h2 .nil tK ht
theorem oA {X:Cx}{k:Nat}{C:EJ}{x:Str}{ps:List Str}{sp:Sp}{p pos:Pos}{e:Expr}{es:List Expr}{t:TA}(c:Ci X.prog X.w X.K X.mg X.base k C ps sp)(hr:bu (k+1) X.A)(hm:X.mg x=some (.ref C))(ha:PA X (e :: es) t)(hg:Gl X x:=by rfl)
  (hdb:(x==("__debug__" : Str))=false:=by decide) (he:Fo (e :: es) X.env=(false,Ik e X.env) :: Fo es X.env:=by rfl) (hpl:(HL pos (Fo es X.env)).any (·.1)=false:=by rfl) :
  PE X (.Call (.Name x p) (e :: es) [] pos) (zE C sp [] E0 t):=by
 obtain⟨f,fd,h1,h2,h3⟩:=c
 exact yl h3 h1 hr hg hm h2 .nil tK ha hdb he hpl
end Wg
end
section
namespace Wl
open PySem PySem.Spec PyProof.Rows L2 Wg
open PySem.W (Codec)
def top (i:Nat):G8:=PySem.Challenge.pw_windowlight_s01_pane.main.body.getD i (.Pass ⟨0,0,0,0⟩)
abbrev gU:G8:=top 7
abbrev gx:G8:=top 8
abbrev eV:G8:=top 9
abbrev dD:G8:=top 10
abbrev fI:G8:=top 11
abbrev gw:G8:=top 12
abbrev gp:G8:=top 13
abbrev bT:G8:=top 14
abbrev qm:G8:=top 16
abbrev er:G8:=top 17
abbrev gh:G8:=top 18
abbrev lZ:G8:=top 19
abbrev fG:G8:=top 20
abbrev ij:G8:=top 21
abbrev fz:G8:=top 22
abbrev dw:G8:=top 23
abbrev gt:G8:=top 24
abbrev cY:G8:=top 26
abbrev dz:G8:=top 27
abbrev bV:G8:=top 28
abbrev bf:G8:=top 29
abbrev cU:G8:=top 30
abbrev cg:G8:=top 31
abbrev b8:G8:=top 32
abbrev cO:G8:=top 33
abbrev df:G8:=top 34
abbrev d3:G8:=top 35
abbrev dZ:G8:=top 36
abbrev cB:G8:=top 37
abbrev de:G8:=top 38
abbrev cV:G8:=top 39
abbrev dJ:G8:=top 40
abbrev cC:G8:=top 41
abbrev du:G8:=top 43
abbrev dC:G8:=top 44
abbrev fJ:G8:=top 45
abbrev eW:G8:=top 46
abbrev dR:G8:=top 47
abbrev vo:G8:=top 49
abbrev gk:G8:=top 50
abbrev cP:G8:=top 51
abbrev lX:G8:=top 52
abbrev fu:G8:=top 56
abbrev ig:G8:=top 57
abbrev fk:G8:=top 58
abbrev cZ:G8:=top 59
abbrev ii:G8:=top 60
abbrev cK:G8:=top 61
abbrev bo:G8:=top 63
abbrev fD:G8:=top 64
abbrev fH:G8:=top 65
abbrev cX:G8:=top 69
abbrev dc:G8:=top 70
abbrev bZ:G8:=top 71
abbrev cH:G8:=top 72
abbrev fw:G8:=top 73
abbrev pL:G8:=top 74
open CM
abbrev d4:G8:=ju gU 0
abbrev fT:G8:=ju gU 1
abbrev gb:G8:=ju gU 2
abbrev fQ:G8:=ju gU 3
abbrev fO:G8:=ju gU 4
def eX (w h:Int)(p l m:EJ):List (Str×V):=eY "marks" (.ref m) (eY "lines" (.ref l) (eY "points" (.ref p) (eY "height" (.int h) (eY "width" (.int w) []))))
section
variable  {w h:Int}{p l m:EJ}
theorem Ao:(eX w h p l m).lookup ("width" : Str)=some (.int w):=by
 unfold eX
 rw[aH,EM (by decide +kernel),aH,EM (by decide +kernel),aH,EM (by decide +kernel),aH,EM (by decide +kernel),aH,EU rfl]
theorem Al:(eX w h p l m).lookup ("height" : Str)=some (.int h):=by
 unfold eX
 rw[aH,EM (by decide +kernel),aH,EM (by decide +kernel),aH,EM (by decide +kernel),aH,EU rfl]
theorem iG:(eX w h p l m).lookup ("points" : Str)=some (.ref p):=by
 unfold eX
 rw[aH,EM (by decide +kernel),aH,EM (by decide +kernel),aH,EU rfl]
theorem pZ:(eX w h p l m).lookup ("lines" : Str)=some (.ref l):=by
 unfold eX
 rw[aH,EM (by decide +kernel),aH,EU rfl]
theorem xr:(eX w h p l m).lookup ("marks" : Str)=some (.ref m):=by
 unfold eX
 rw[aH,EU rfl]
theorem mY {f:Str} (h1:¬f="marks") (h2:¬f="lines") (h3:¬f="points") (h4:¬f="height") (h5:¬f="width"):(eX w h p l m).lookup f=none:=by
 unfold eX
 rw[aH,EM h1,aH,EM h2,aH,EM h3,aH,EM h4,aH,EM h5]
 rfl
end
structure DCl (K:FQ)(mg:Str->Option Value)(C:EJ):Prop where
 cl:Cls K C
 nW:eq K C "width"
 nH:eq K C "height"
 nP:eq K C "points"
 nL:eq K C "lines"
 nM:eq K C "marks"
 mgC:mg "Drawing"=some (.ref C)
def bz (C:EJ)(H:Hp)(a:EJ)(S:Gla.Plan):Prop:=∃dx p l m,H a=some (.ins C dx (eX S.w S.h p l m))/\TL H p (S.pts.map fR)/\TL H l (S.lines.map ug)/\TL H m (S.marks.map km)
theorem bz.same {C:EJ}{H H':Hp}{a:EJ}{S:Gla.Plan}(h:bz C H a S)(s:al H H'):bz C H' a S:=by
 obtain⟨dx,p,l,m,h1,h2,h3,h4⟩:=h
 exact⟨dx,p,l,m,s _ _ h1,h2.same s,h3.same s,h4.same s⟩
section
variable  {P:E8}{w:FL}{K:FQ}{mg:Str->Option Value}{base:Heap}{C:EJ}
def DP (C:EJ):Sp:=λ vs H Q _=>∃(x dx:EJ) (wi he:Int) (p l m:EJ),vs=[.ref x,.int wi,.int he,.ref p,.ref l,.ref m]/\H x=some (.ins C dx []) /\
 ∀H':Hp,H' x=some (.ins C dx (eX wi he p l m))->(∀b o,H b=some o->b≠x->H' b=some o)->Q .non H'
theorem Ed:aq ["self","width","height","points","lines","marks"] ["self","width","height","points","lines","marks"] (ah d4):=⟨rfl,rfl,rfl,by decide +kernel,rfl,by decide +kernel,by decide +kernel⟩
theorem yY (F:qc K C "Drawing.__init__" d4 ["self","width","height","points","lines","marks"]) (T:DCl K mg C):Ci P w K mg base 1 C ["self","width","height","points","lines","marks"] (DP C):=by
 refine F.ci Ed (λ vs H Q E h=>?_) (λ f cdv A outer s H vs Q E hr h=>?_)
 ·obtain⟨x,dx,wi,he,p,l,m,rfl,_⟩:=h
  rfl
 ·obtain⟨x,dx,wi,he,p,l,m,rfl,hx,k⟩:=h
  refine⟨_,ad (iJ (pv 0) (pv 1) rfl) (ad (iJ (pv 0) (pv 2) rfl) (ad (iJ (pv 0) (pv 3) rfl) (ad (iJ (pv 0) (pv 4) rfl) (ae (iJ (pv 0) (pv 5) rfl))))),?_⟩
  refine⟨_,rfl,_,rfl,x,C,dx,_,rfl,hx,T.cl,T.nW,(by show 0<1000;decide),?_⟩
  refine⟨_,rfl,_,rfl,x,C,dx,_,rfl,ag,T.cl,T.nH,(FE (db (n:=0) (nlr 0)) (by decide)),?_⟩
  refine⟨_,rfl,_,rfl,x,C,dx,_,rfl,ag,T.cl,T.nP,(FE (db (db (n:=0) (nlr 0))) (by decide)),?_⟩
  refine⟨_,rfl,_,rfl,x,C,dx,_,rfl,ag,T.cl,T.nL,(FE (db (db (db (n:=0) (nlr 0)))) (by decide)),?_⟩
  refine⟨_,rfl,_,rfl,x,C,dx,_,rfl,ag,T.cl,T.nM,(FE (db (db (db (db (n:=0) (nlr 0))))) (by decide)),?_⟩
  refine k _ ag λ b o e hb=>?_
  rw[ap hb,ap hb,ap hb,ap hb,ap hb]
  exact e
def pW:Sp:=λ vs H Q _=>∃(v:V) (k:Int),vs=[v,.int k]/\Q (.int (20+8*k)) H
theorem D9:aq ["self","k"] ["self","k"] (ah fT):=⟨rfl,rfl,rfl,by decide +kernel,rfl,by decide +kernel,by decide +kernel⟩
theorem BX (F:jF K C "place_of_point" "Drawing.place_of_point" fT ["self","k"]) (gHB:∃t,mg "HEAD_BYTES"=some (.int 20 t)) (gPB:∃t,mg "POINT_BYTES"=some (.int 8 t)):Cm P w K mg base 1 C "place_of_point" ["self","k"] pW:=by
 refine F.cm D9 (λ vs H Q E h=>?_) (λ f cdv A outer s H vs Q E hr h=>?_)
 ·obtain⟨v,k,rfl,_⟩:=h
  rfl
 ·obtain⟨v,i,rfl,k⟩:=h
  refine⟨_,ae (ak (aV dM (br gHB) (aV dP (br gPB) (pv 1)))),?_⟩
  exact⟨_,rfl,_,_,rfl,rfl,.inl ⟨by decide,by decide⟩,_,_,rfl,rfl,k⟩
def vD (C:EJ):Sp:=λ vs H Q _=>∃(a:EJ) (S:Gla.Plan) (k:Int),vs=[.ref a,.int k]/\bz C H a S/\Q (.int (20+8*(S.pts.length:Int)+4*k)) H
theorem DZ:aq ["self","k"] ["self","k"] (ah gb):=⟨rfl,rfl,rfl,by decide +kernel,rfl,by decide +kernel,by decide +kernel⟩
theorem De (F:jF K C "place_of_line" "Drawing.place_of_line" gb ["self","k"]) (T:DCl K mg C) (gl:mg "len"=none) (gLB:∃t,mg "LINE_BYTES"=some (.int 4 t)) (C1:Cm P w K mg base 1 C "place_of_point" ["self","k"] pW) :
  Cm P w K mg base 2 C "place_of_line" ["self","k"] (vD C):=by
 refine F.cm DZ (λ vs H Q E h=>?_) (λ f cdv A outer s H vs Q E hr h=>?_)
 ·obtain⟨a,S,k,rfl,_⟩:=h
  rfl
 ·obtain⟨a,S,i,rfl,hd,k⟩:=h
  obtain⟨dx,p,l,m,h1,⟨as,h2,h2l,_⟩,h3,h4⟩:=hd
  refine⟨_,ae (ak (aV dM (hG (pv 0) T.cl C1 hr (aa (aW aO (by rfl) gl FB (aa (aR (pv 0) rfl) ac)) ac)) (aV dP (br gLB) (pv 1)))),?_⟩
  refine⟨_,rfl,a,dx,_,rfl,h1,mY (by decide +kernel) (by decide +kernel) (by decide +kernel) (by decide +kernel) (by decide +kernel),_,rfl,a,C,dx,_,_,rfl,h1,T.cl,T.nP,iG,p,_,rfl,.inl (SqL.of h2),?_⟩
  refine⟨_,_,rfl,_,rfl,_,_,rfl,rfl,.inl ⟨by decide,by decide⟩,_,_,rfl,rfl,?_⟩
  rw[lmp,h2l,lmp]
  exact k
def xP (C:EJ):Sp:=λ vs H Q _=>∃(a:EJ) (S:Gla.Plan) (k:Int),vs=[.ref a,.int k]/\bz C H a S/\Q (.int (20+8*(S.pts.length:Int)+4*(S.lines.length:Int)+12*k)) H
theorem Er:aq ["self","k"] ["self","k"] (ah fQ):=⟨rfl,rfl,rfl,by decide +kernel,rfl,by decide +kernel,by decide +kernel⟩
theorem Db (F:jF K C "place_of_mark" "Drawing.place_of_mark" fQ ["self","k"]) (T:DCl K mg C) (gl:mg "len"=none) (gMB:∃t,mg "MARK_BYTES"=some (.int 12 t)) (C1:Cm P w K mg base 2 C "place_of_line" ["self","k"] (vD C)) :
  Cm P w K mg base 3 C "place_of_mark" ["self","k"] (xP C):=by
 refine F.cm Er (λ vs H Q E h=>?_) (λ f cdv A outer s H vs Q E hr h=>?_)
 ·obtain⟨a,S,k,rfl,_⟩:=h
  rfl
 ·obtain⟨a,S,i,rfl,hd,k⟩:=h
  have hd0:=hd
  obtain⟨dx,p,l,m,h1,h2,⟨as,h3,h3l,_⟩,h4⟩:=hd
  refine⟨_,ae (ak (aV dM (hG (pv 0) T.cl C1 hr (aa (aW aO (by rfl) gl FB (aa (aR (pv 0) rfl) ac)) ac)) (aV dP (br gMB) (pv 1)))),?_⟩
  refine⟨_,rfl,a,dx,_,rfl,h1,mY (by decide +kernel) (by decide +kernel) (by decide +kernel) (by decide +kernel) (by decide +kernel),_,rfl,a,C,dx,_,_,rfl,h1,T.cl,T.nL,pZ,l,_,rfl,.inl (SqL.of h3),?_⟩
  refine⟨a,S,_,rfl,hd0,_,rfl,_,_,rfl,rfl,.inl ⟨by decide,by decide⟩,_,_,rfl,rfl,?_⟩
  rw[lmp,h3l,lmp]
  exact k
def Dk (C:EJ):Sp:=λ vs H Q _=>∃(a:EJ) (S:Gla.Plan),vs=[.ref a]/\bz C H a S/\Q (.int (20+8*(S.pts.length:Int)+4*(S.lines.length:Int)+12*(S.marks.length:Int))) H
theorem ED:aq ["self"] ["self"] (ah fO):=⟨rfl,rfl,rfl,by decide +kernel,rfl,by decide +kernel,by decide +kernel⟩
theorem BA (F:jF K C "place_of_end" "Drawing.place_of_end" fO ["self"]) (T:DCl K mg C) (gl:mg "len"=none) (C1:Cm P w K mg base 3 C "place_of_mark" ["self","k"] (xP C)) :
  Cm P w K mg base 4 C "place_of_end" ["self"] (Dk C):=by
 refine F.cm ED (λ vs H Q E h=>?_) (λ f cdv A outer s H vs Q E hr h=>?_)
 ·obtain⟨a,S,rfl,_⟩:=h
  rfl
 ·obtain⟨a,S,rfl,hd,k⟩:=h
  have hd0:=hd
  obtain⟨dx,p,l,m,h1,h2,h3,⟨as,h4,h4l,_⟩⟩:=hd
  refine⟨_,ae (ak (hG (pv 0) T.cl C1 hr (aa (aW aO (by rfl) gl FB (aa (aR (pv 0) rfl) ac)) ac))),?_⟩
  refine⟨_,rfl,a,dx,_,rfl,h1,mY (by decide +kernel) (by decide +kernel) (by decide +kernel) (by decide +kernel) (by decide +kernel),_,rfl,a,C,dx,_,_,rfl,h1,T.cl,T.nM,xr,m,_,rfl,.inl (SqL.of h4),?_⟩
  refine⟨a,S,_,rfl,hd0,?_⟩
  rw[lmp,h4l,lmp]
  exact k
end
open PySem PySem.Spec PyProof.Rows L2 Wg Wx CM
open Gla (Pt)
section
variable  {P:E8}{w:FL}{K:FQ}{mg:Str->Option Value}{base:Heap}{C:EJ}
theorem Bu (ns:List Int)(p z:Nat):n9 (iV ns) (some (p:Int)) (some ((p:Int)+(z:Int)))=iV ((ns.drop p).take z):=by
 have e2:((p:Int)+(z:Int))=((p+z:Nat):Int):=by omega
 rw[e2]
 unfold n9
 rw[HT.sIx_nat,HT.sIx_nat,iV,<-Ii,<-Hk,lmp]
 congr 1
 by_cases c:p<=ns.length
 ·rw[Fg c]
  by_cases c2:p+z<=ns.length
  ·rw[Fg c2]
   congr 1
   omega
  ·rw[Ff (show ns.length<=p+z by omega)]
   rw[F9 (by rw[Fu];omega),F9 (by rw[Fu];omega)]
 ·rw[Ff (show ns.length<=p by omega),G7 (nlr _),G7 (show ns.length<=p by omega)]
  simp
theorem vg {l:List Int}{i:Nat}{z:Int}(hi:i<l.length)(h:l[l.length-1-i]? = some z):sS (l.drop (l.length-(i+1)))=256*sS (l.drop (l.length-i))+z:=by
 have e:l.length-(i+1)=l.length-1-i:=by omega
 have e2:l.length-i=l.length-1-i+1:=by omega
 rw[e,e2]
 obtain⟨hk,hz⟩:=gsi h
 rw[GH hk,hz]
 rfl
def oP (K:FQ):Sp:=λ vs H Q _=>∃(a:EJ) (ns:List Int) (p z:Nat),vs=[.ref a,.int (p:Int),.int (z:Int)]/\LI K H a ns/\∀H':Hp,al H H'->Q (.int (rd ns p z)) H'
theorem tP:aq ["cartoon","place","size","number","byte"] ["cartoon","place","size"] (ah gx):=⟨rfl,rfl,rfl,by decide +kernel,rfl,by decide +kernel,by decide +kernel⟩
theorem AB (F:Has K mg "number_at" gx ["cartoon","place","size"]) (grv:mg "reversed"=none):Cb P w K mg base 1 "number_at" ["cartoon","place","size"] (oP K):=by
 refine F.cb tP (λ vs H Q E h=>?_) (λ f cdv A outer s H vs Q E hr h=>?_)
 ·obtain⟨a,ns,p,z,rfl,_⟩:=h
  rfl
 ·obtain⟨a,ns,p,z,rfl,hl,k⟩:=h
  refine⟨_,ad (aB (i:=3) tP.nd rfl (.inl rfl) af)
   (ad (bw E4 rfl (qE rfl grv (aa (mL qb (pv 0) (ke (pv 1)) (ke (aV dM (pv 1) (pv 2)))) ac)) (au (i:=4) tP.nd rfl (.inl rfl))
    (ae (aB (i:=3) tP.nd rfl (.inl rfl) (aV dM (aV dP af (pv 3)) (pv 4)))))
   (ae (ak (pv 3)))),?_⟩
  refine⟨_,rfl,_,rfl,_,rfl,_,rfl,_,rfl,_,_,rfl,rfl,_,rfl,a,_,rfl,hl.1,λ q hq=>?_⟩
  rw[Bu ns p z]
  have s1:al H (upd H q (.lst (iV ((ns.drop p).take z)))):=aN hq
  refine⟨q,_,rfl,SqL.of ag,zg (K:=K) (a:=q) (xs:=iV ((ns.drop p).take z)) (λ i σ H'=>H'=upd H q (.lst (iV ((ns.drop p).take z)))/\∃v,σ=[some (.ref a),some (.int (p:Int)),some (.int (z:Int)),some (.int (sS (((ns.drop p).take z).drop (((ns.drop p).take z).length-i)))),v])
   ⟨rfl,none,?_⟩ (λ i σ H' _ h=>by rw[h.1];exact SqL.of ag) ?_ ?_⟩
  ·rw[Nat.sub_zero,List.drop_length]
   rfl
  ·rintro i y σ H' hi hy ⟨rfl,v,rfl⟩
   rw[lmp]at hi hy
   obtain⟨x,hx,rfl⟩:=pV hy
   refine⟨_,rfl,_,_,rfl,rfl,.inl ⟨by decide,by decide⟩,_,rfl,_,_,rfl,rfl,rfl,some (.int x),?_⟩
   rw[vg hi hx]
   rfl
  ·rintro σ H' ⟨rfl,v,rfl⟩
   refine⟨_,rfl,?_⟩
   have e:sS (((ns.drop p).take z).drop (((ns.drop p).take z).length-(iV ((ns.drop p).take z)).length))=rd ns p z:=by
    rw[lmp,Gh,List.drop_zero]
    rfl
   rw[e]
   exact k _ s1
def ye (K:FQ):Sp:=λ vs H Q _=>∃(a:EJ) (ns:List Int),vs=[.ref a]/\LI K H a ns/\∀H':Hp,al H H'->Q (.int (told ns)) H'
theorem qt:aq ["cartoon","points","lines","marks"] ["cartoon"] (ah eV):=⟨rfl,rfl,rfl,by decide +kernel,rfl,by decide +kernel,by decide +kernel⟩
theorem yM (F:Has K mg "told_length" eV ["cartoon"]) (gHB:∃t,mg "HEAD_BYTES"=some (.int 20 t)) (gPB:∃t,mg "POINT_BYTES"=some (.int 8 t)) (gLB:∃t,mg "LINE_BYTES"=some (.int 4 t)) (gMB:∃t,mg "MARK_BYTES"=some (.int 12 t))
  (C1:Cb P w K mg base 1 "number_at" ["cartoon","place","size"] (oP K)):Cb P w K mg base 2 "told_length" ["cartoon"] (ye K):=by
 refine F.cb qt (λ vs H Q E h=>?_) (λ f cdv A outer s H vs Q E hr h=>?_)
 ·obtain⟨a,ns,rfl,_⟩:=h
  rfl
 ·obtain⟨a,ns,rfl,hl,k⟩:=h
  refine⟨_,ad (aB (i:=1) qt.nd rfl (.inl rfl) (aF C1 hr (aa (pv 0) (aa af (aa af ac)))))
   (ad (aB (i:=2) qt.nd rfl (.inl rfl) (aF C1 hr (aa (pv 0) (aa af (aa af ac)))))
   (ad (aB (i:=3) qt.nd rfl (.inl rfl) (aF C1 hr (aa (pv 0) (aa af (aa af ac)))))
   (ae (ak (aV dM (aV dM (aV dM (br gHB) (aV dP (br gPB) (pv 1))) (aV dP (br gLB) (pv 2))) (aV dP (br gMB) (pv 3))))))),?_⟩
  refine⟨_,rfl,a,ns,12,2,rfl,hl,λ H1 s1=>?_⟩
  refine⟨_,rfl,a,ns,14,2,rfl,hl.same s1,λ H2 s2=>?_⟩
  refine⟨_,rfl,a,ns,16,2,rfl,hl.same (s1.trans s2),λ H3 s3=>?_⟩
  exact⟨_,rfl,_,_,rfl,rfl,.inl ⟨by decide,by decide⟩,_,_,rfl,rfl,_,rfl,_,_,rfl,rfl,.inl ⟨by decide,by decide⟩,_,_,rfl,rfl,_,rfl,_,_,rfl,rfl,.inl ⟨by decide,by decide⟩,_,_,rfl,rfl,k _ (s1.trans (s2.trans s3))⟩
def Ab (K:FQ)(mg:Str->Option Value)(x:Str)(r:List Int):Prop:=∃a,mg x=some (.ref a)/\∀H:Hp,SqT K H a (iV r)
def xR (K:FQ)(mg:Str->Option Value)(x:Str)(rows:List (List Int)):Prop:=∃(a:EJ) (bs:List EJ),mg x=some (.ref a)/\bs.length=rows.length/\(∀H:Hp,SqT K H a (bs.map V.ref))/\∀(H:Hp) (i:Nat) (b:EJ) (r:List Int),bs[i]? = some b->rows[i]? = some r->SqT K H b (iV r)
def dG (o:Option (Int×Int))(H:Hp)(Q:VK):Prop:=match o with
 |none=>∀H':Hp,al H H'->Q .non H'
 |some (r,p)=>∀(H':Hp) (q:EJ),al H H'->H' q=some (.tup [.int r,.int p])->Q (.ref q) H'
theorem dG.some' {H H1:Hp}{Q:VK}{r p:Int}(k:dG (some (r,p)) H Q)(s:al H H1):∀q,H1 q=none->Q (.ref q) (upd H1 q (.tup [.int r,.int p])):=λ q hq=>k _ q (aZ s hq) ag
theorem vM (r q:List Int):PyData.eqv (.list (r.map FH)) (.list (q.map FH))=decide (r=q):=iW r q
def DO (K:FQ):Sp:=λ vs H Q _=>∃(a:EJ) (ns:List Int),vs=[.ref a]/\LI K H a ns/\dG (dO ns) H Q
theorem xU:aq ["cartoon","place","size","least","greatest"] ["cartoon"] (ah dD):=⟨rfl,rfl,rfl,by decide +kernel,rfl,by decide +kernel,by decide +kernel⟩
theorem C0 (ns:List Int):n9 (iV ns) none (some 4)=iV (ns.take 4):=by
 unfold n9
 have e:(4:Int)=((4:Nat):Int):=rfl
 rw[HT.sIx_none,e,HT.sIx_nat,List.drop_zero,iV,Nat.sub_zero,<-Hk,lmp]
 congr 1
 by_cases c:4<=ns.length
 ·rw[Fg c]
 ·rw[Ff (by omega),F9 (by omega),F9 (by omega)]
theorem Cs (F:Has K mg "fault_of_bytes" dD ["cartoon"]) (gl:mg "len"=none) (gli:mg "list"=none) (gHB:∃t,mg "HEAD_BYTES"=some (.int 20 t)) (gS:Ab K mg "SIGN" jL) (gH:xR K mg "HEAD_NUMBERS" fg)
  (C1:Cb P w K mg base 1 "number_at" ["cartoon","place","size"] (oP K)) (C2:Cb P w K mg base 2 "told_length" ["cartoon"] (ye K)):Cb P w K mg base 3 "fault_of_bytes" ["cartoon"] (DO K):=by
 refine F.cb xU (λ vs H Q E h=>?_) (λ f cdv A outer s H vs Q E hr h=>?_)
 ·obtain⟨a,ns,rfl,_⟩:=h
  rfl
 ·obtain⟨a,ns,rfl,hl,k⟩:=h
  obtain⟨sa,gS1,gS2⟩:=gS
  obtain⟨ha,bs,gH1,gHl,gH2,gH3⟩:=gH
  have hr1:bu 1 _:=hr.mono (by decide)
  have hu:=hr.units
  refine⟨_,ad (a6 (aK gf (aW aO (by rfl) gl FB (aa (pv 0) ac)) (br gHB) (aI _)) (ae (ak (bA (aa af (aa (aW aO (by rfl) gl FB (aa (pv 0) ac)) ac))))) aJ)
   (ad (a6 (aK (Au hu) (mL qb (pv 0) yg (ke af)) (vd qo (by rfl) gli m6 (aa (qr (v:=.ref sa) (by rfl) gS1 rfl) ac)) (aI _)) (ae (ak (bA (aa af (aa af ac))))) aJ)
   (ad (bw E4 rfl (sU (qr (v:=.ref ha) (by rfl) gH1 rfl)) (cT (n:=4) rfl (aL (au (i:=1) xU.nd rfl (.inl rfl)) (aL (au (i:=2) xU.nd rfl (.inl rfl)) (aL (au (i:=3) xU.nd rfl (.inl rfl)) (aL (au (i:=4) xU.nd rfl (.inl rfl)) bU)))))
    (ae (a6 (ja (mG lq lq (pv 3) (aF C1 hr1 (aa (pv 0) (aa (pv 1) (aa (pv 2) ac)))) (pv 4))) (ae (ak (bA (aa af (aa (pv 1) ac))))) aJ)))
   (ad (a6 (aK xQ (aW aO (by rfl) gl FB (aa (pv 0) ac)) (aF C2 hr (aa (pv 0) ac)) (aI _)) (ae (ak (bA (aa af (aa (br gHB) ac))))) aJ)
   (ae (ak bc))))),?_⟩
  refine⟨_,rfl,a,_,rfl,.inl hl.1,_,_,rfl,rfl,_,rfl,aS (λ c=>?_) (λ c=>?_)⟩
  ·have c1:(((iV ns).length:Nat):Int)<20:=EH c
   rw[lmp]at c1
   have e:dO ns=some (1,(ns.length:Int)):=by
    unfold dO
    rw[EU (by omega)]
   rw[e]at k
   refine⟨_,rfl,a,_,rfl,.inl hl.1,(by show 2<=EL;decide),λ q hq=>?_⟩
   rw[lmp]
   exact k.some' (al.refl H) q hq
  ·have c1:¬(((iV ns).length:Nat):Int)<20:=λ q=>c (dqt q)
   rw[lmp]at c1
   refine⟨_,rfl,_,rfl,a,_,rfl,hl.1,λ q hq=>?_⟩
   rw[C0 ns]
   have s1:al H (upd H q (.lst (iV (ns.take 4)))):=aN hq
   refine⟨sa,_,rfl,.inr (gS2 _),λ q2 hq2=>?_⟩
   have s2:al H (upd (upd H q (.lst (iV (ns.take 4)))) q2 (.lst (iV jL))):=aZ s1 hq2
   have nq:q≠q2:=λ z=>by rw[<-z,ag]at hq2;cases hq2
   refine⟨.list ((ns.take 4).map FH),.list (jL.map FH),.lst (SqL.of (by rw[ap nq];exact ag)) (fS _),.lst (SqL.of ag) (fS _),?_,?_,?_⟩
   ·show(PyData.canLay0 (.list ((ns.take 4).map FH))&&decide ((PyData.list ((ns.take 4).map FH)).depth<=64))=true
    rw[show PyData.canLay0 (.list ((ns.take 4).map FH))=true from gj _,F4]
    refine dqt ?_
    show PyData.depthAll ((ns.take 4).map FH)+1<=64
    have:=jQ (ns.take 4)
    omega
   ·decide +kernel
   rw[vM]
   refine⟨_,rfl,aS (λ c2=>?_) (λ c2=>?_)⟩
   ·have c3:ns.take 4≠jL:=λ z=>by
     rw[dqt z]at c2
     exact absurd c2 (by decide)
    have e:dO ns=some (1,0):=by
     unfold dO
     rw[EM (by omega),EU c3]
    rw[e]at k
    exact⟨(by show 2<=EL;decide),λ q3 hq3=>k.some' s2 q3 hq3⟩
   ·have c3:ns.take 4=jL:=by
     by_cases z:ns.take 4=jL
     ·exact z
     ·rw[dqf z]at c2
      exact absurd rfl c2
    have e:dO ns=match fg.find? (λ r=>!eS ns r) with
      |some r=>some (2,r.getD 0 0)
      |none=>if (ns.length:Int)≠told ns then some (3,20) else none:=by
     unfold dO
     rw[EM (by omega),EM (λ z=>z c3)]<;>rfl
    generalize upd (upd H q (.lst (iV (ns.take 4)))) q2 (.lst (iV jL))=H2 at s2
    refine⟨ha,rfl,⟨_,gH2 _⟩,p9 (K:=K) (a:=ha) (xs:=bs.map V.ref) (λ i σ H'=>al H H'/\(∃v1 v2 v3 v4,σ=[some (.ref a),v1,v2,v3,v4])/\∀(j:Nat) (r:List Int),j<i->fg[j]? = some r->eS ns r=true)
     ⟨s2,⟨none,none,none,none,rfl⟩,λ j r h=>absurd h (FT _)⟩ (λ i σ H' _ _=>gH2 H') ?_ ?_⟩
    ·rintro i y σ H' hi ⟨hS,⟨v1,v2,v3,v4,rfl⟩,hok⟩
     obtain⟨b,hb,rfl⟩:=cu hi
     have hib:i<fg.length:=by rw[<-gHl];exact(gsi hb).1
     have h0:fg[i]? = some fg[i]:=gge hib
     have hrow:=gH3 H' i b fg[i] hb h0
     obtain⟨p0,z0,lo,hi0,e4⟩:∃(p0 z0:Nat) (lo hi0:Int),fg[i]=[(p0:Int),(z0:Int),lo,hi0]:=by
      have:i=0\/i=1\/i=2\/i=3\/i=4\/i=5:=by
       have:fg.length=6:=rfl
       omega
      rcases this with rfl|rfl|rfl|rfl|rfl|rfl
      ·exact⟨4,4,16,1048575,rfl⟩
      ·exact⟨8,4,16,1048575,rfl⟩
      ·exact⟨12,2,4,4096,rfl⟩
      ·exact⟨14,2,4,8192,rfl⟩
      ·exact⟨16,2,1,2048,rfl⟩
      ·exact⟨18,2,0,0,rfl⟩
     rw[e4]at hrow h0
     have hoke:eS ns [(p0:Int),(z0:Int),lo,hi0]=(decide (lo<=rd ns p0 z0)&&decide (rd ns p0 z0<=hi0)):=by
      show(decide (lo<=rd ns ((p0:Int)).toNat ((z0:Int)).toNat)&&decide (rd ns ((p0:Int)).toNat ((z0:Int)).toNat<=hi0))=_
      rw[F0,F0]
     have bad:eS ns [(p0:Int),(z0:Int),lo,hi0]=false->dO ns=some (2,(p0:Int)):=λ hb=>by
      have hf:fg.find? (λ r=>!eS ns r)=some [(p0:Int),(z0:Int),lo,hi0]:=by
       rw[Hz]
       refine⟨by rw[hb];rfl,i,hib,e4,λ j hj=>?_⟩
       have:=hok j fg[j] hj (gge (by omega))
       rw[this];rfl
      rw[e,hf]
      rfl
     refine⟨b,_,rfl,hrow,rfl,_,_,rfl,_,_,rfl,_,_,rfl,_,_,rfl,rfl,?_⟩
     refine⟨_,rfl,_,rfl,_,rfl,_,rfl,a,ns,p0,z0,rfl,hl.same hS,λ H3 s3=>?_⟩
     have hS3:=hS.trans s3
     refine⟨_,_,rfl,rfl,_,rfl,aS (λ d=>?_) (λ d=>?_)⟩
     ·refine⟨_,rfl,_,_,rfl,rfl,_,rfl,aS (λ d2=>?_) (λ d2=>?_)⟩
      ·have:decide (rd ns p0 z0<=hi0)=false:=by
        cases q4:decide (rd ns p0 z0<=hi0) with
        |false=>rfl
        |true=>rw[q4]at d2;exact absurd d2 (by decide)
       have hb2:=bad (by rw[hoke,this,Bool.and_false])
       rw[hb2]at k
       exact⟨_,rfl,(by show 2<=EL;decide),λ q3 hq3=>k.some' hS3 q3 hq3⟩
      ·have d2':decide (rd ns p0 z0<=hi0)=true:=by
        cases q4:decide (rd ns p0 z0<=hi0) with
        |true=>rfl
        |false=>rw[q4]at d2;exact absurd rfl d2
       refine⟨hS3,⟨_,_,_,_,rfl⟩,λ j r hj hjr=>?_⟩
       by_cases cj:j<i
       ·exact hok j r cj hjr
       ·have:j=i:=by omega
        subst this
        rw[h0]at hjr
        have hjr:=osi hjr
        rw[<-hjr,hoke,d,d2']
        rfl
     ·refine⟨_,rfl,?_⟩
      have d':decide (lo<=rd ns p0 z0)=false:=by
       cases q4:decide (lo<=rd ns p0 z0) with
       |false=>rfl
       |true=>exact absurd q4 d
      have hb2:=bad (by rw[hoke,d',FF])
      rw[hb2]at k
      refine eI ?_
      exact⟨_,rfl,(by show 2<=EL;decide),λ q3 hq3=>k.some' hS3 q3 hq3⟩
    ·rintro σ H' ⟨hS,⟨v1,v2,v3,v4,rfl⟩,hok⟩
     have hf:fg.find? (λ r=>!eS ns r)=none:=by
      rw[Ho]
      intro r hr2
      obtain⟨j,hj,rfl⟩:=Fh hr2
      rw[hok j fg[j] (by rw[lmp,gHl];exact hj) (gge hj)]
      decide
     rw[hf]at e
     simp only at e
     refine⟨_,rfl,a,_,rfl,.inl (hS.seq hl.1),_,rfl,a,ns,rfl,hl.same hS,λ H3 s3=>?_⟩
     have hS3:=hS.trans s3
     refine⟨rfl,_,rfl,aS (λ d=>?_) (λ d=>?_)⟩
     ·have d1:(ns.length:Int)≠told ns:=λ z=>by
       have:(decide (V.int (((iV ns).length:Nat):Int)=V.int (told ns)))=true:=dqt (by rw[lmp,z])
       rw[this]at d
       exact absurd d (by decide)
      rw[e,EU d1]at k
      exact⟨(by show 2<=EL;decide),λ q3 hq3=>k.some' hS3 q3 hq3⟩
     ·have d1:(ns.length:Int)=told ns:=by
       by_cases z:V.int (((iV ns).length:Nat):Int)=V.int (told ns)
       ·have:=V.int.inj z
        rw[lmp]at this
        exact this
       ·rw[dqf z]at d
        exact absurd rfl d
      rw[e,EM (λ z=>z d1)]at k
      exact k H3 hS3
end
open PySem PySem.Spec PyProof.Rows L2 Wg Wx CM
open Gla (Pt)
section
variable  {P:E8}{w:FL}{K:FQ}{mg:Str->Option Value}{base:Heap}{C:EJ}
def Bc (r:List Int)(H:Hp)(Q:VK):Prop:=∀(H':Hp) (q:EJ),al H H'->H' q=some (.tup (iV r))->Q (.ref q) H'
def Av (K:FQ):Sp:=λ vs H Q _=>∃(a:EJ) (ns:List Int) (p:Nat),vs=[.ref a,.int (p:Int)]/\LI K H a ns/\Bc [rd ns p 4,rd ns (p+4) 4] H Q
theorem D6:aq ["cartoon","place"] ["cartoon","place"] (ah fI):=⟨rfl,rfl,rfl,by decide +kernel,rfl,by decide +kernel,by decide +kernel⟩
theorem Dv (F:Has K mg "read_point" fI ["cartoon","place"]) (C1:Cb P w K mg base 1 "number_at" ["cartoon","place","size"] (oP K)):Cb P w K mg base 2 "read_point" ["cartoon","place"] (Av K):=by
 refine F.cb D6 (λ vs H Q E h=>?_) (λ f cdv A outer s H vs Q E hr h=>?_)
 ·obtain⟨a,ns,p,rfl,_⟩:=h
  rfl
 ·obtain⟨a,ns,p,rfl,hl,k⟩:=h
  refine⟨_,ae (ak (bA (aa (aF C1 hr (aa (pv 0) (aa (pv 1) (aa af ac)))) (aa (aF C1 hr (aa (pv 0) (aa (aV dM (pv 1) af) (aa af ac)))) ac)))),?_⟩
  refine⟨_,rfl,_,rfl,a,ns,p,4,rfl,hl,λ H1 s1=>?_⟩
  refine⟨_,rfl,_,rfl,_,_,rfl,rfl,a,ns,p+4,4,?_,hl.same s1,λ H2 s2=>?_⟩
  ·show [V.ref a,V.int ((p:Int)+4),V.int 4]=[V.ref a,V.int ((p+4:Nat):Int),V.int ((4:Nat):Int)]
   rw[Int.natCast_add]
   rfl
  exact⟨(by show 2<=EL;decide),λ q hq=>k _ q (aZ (s1.trans s2) hq) ag⟩
def AA (K:FQ):Sp:=λ vs H Q _=>∃(a:EJ) (ns:List Int) (p:Nat),vs=[.ref a,.int (p:Int)]/\LI K H a ns/\Bc [rd ns p 2,rd ns (p+2) 2] H Q
theorem Ep:aq ["cartoon","place"] ["cartoon","place"] (ah gw):=⟨rfl,rfl,rfl,by decide +kernel,rfl,by decide +kernel,by decide +kernel⟩
theorem Dd (F:Has K mg "read_line" gw ["cartoon","place"]) (C1:Cb P w K mg base 1 "number_at" ["cartoon","place","size"] (oP K)):Cb P w K mg base 2 "read_line" ["cartoon","place"] (AA K):=by
 refine F.cb Ep (λ vs H Q E h=>?_) (λ f cdv A outer s H vs Q E hr h=>?_)
 ·obtain⟨a,ns,p,rfl,_⟩:=h
  rfl
 ·obtain⟨a,ns,p,rfl,hl,k⟩:=h
  refine⟨_,ae (ak (bA (aa (aF C1 hr (aa (pv 0) (aa (pv 1) (aa af ac)))) (aa (aF C1 hr (aa (pv 0) (aa (aV dM (pv 1) af) (aa af ac)))) ac)))),?_⟩
  refine⟨_,rfl,_,rfl,a,ns,p,2,rfl,hl,λ H1 s1=>?_⟩
  refine⟨_,rfl,_,rfl,_,_,rfl,rfl,a,ns,p+2,2,?_,hl.same s1,λ H2 s2=>?_⟩
  ·show [V.ref a,V.int ((p:Int)+2),V.int 2]=[V.ref a,V.int ((p+2:Nat):Int),V.int ((2:Nat):Int)]
   rw[Int.natCast_add]
   rfl
  exact⟨(by show 2<=EL;decide),λ q hq=>k _ q (aZ (s1.trans s2) hq) ag⟩
def Cy (K:FQ):Sp:=λ vs H Q _=>∃(a:EJ) (ns:List Int) (p:Nat),vs=[.ref a,.int (p:Int)]/\LI K H a ns/\Bc [rd ns p 4,rd ns (p+4) 4,rd ns (p+8) 2,rd ns (p+10) 2] H Q
theorem Ew:aq ["cartoon","place"] ["cartoon","place"] (ah gp):=⟨rfl,rfl,rfl,by decide +kernel,rfl,by decide +kernel,by decide +kernel⟩
theorem BB (F:Has K mg "read_mark" gp ["cartoon","place"]) (C1:Cb P w K mg base 2 "read_point" ["cartoon","place"] (Av K)) (C2:Cb P w K mg base 2 "read_line" ["cartoon","place"] (AA K)):Cb P w K mg base 3 "read_mark" ["cartoon","place"] (Cy K):=by
 refine F.cb Ew (λ vs H Q E h=>?_) (λ f cdv A outer s H vs Q E hr h=>?_)
 ·obtain⟨a,ns,p,rfl,_⟩:=h
  rfl
 ·obtain⟨a,ns,p,rfl,hl,k⟩:=h
  refine⟨_,ae (ak (aV y8 (aF C1 hr (aa (pv 0) (aa (pv 1) ac))) (aF C2 hr (aa (pv 0) (aa (aV dM (pv 1) af) ac))))),?_⟩
  refine⟨_,rfl,_,rfl,a,ns,p,rfl,hl,λ H1 q1 s1 h1=>?_⟩
  refine⟨_,rfl,_,rfl,_,_,rfl,rfl,a,ns,p+8,?_,hl.same s1,λ H2 q2 s2 h2=>?_⟩
  ·show [V.ref a,V.int ((p:Int)+8)]=[V.ref a,V.int ((p+8:Nat):Int)]
   rw[Int.natCast_add]
   rfl
  refine⟨q1,q2,_,_,rfl,rfl,SqT.of (s2 _ _ h1),SqT.of h2,(by intro z;cases z),(by show 4<=EL;decide),λ z=>absurd z (by intro z;cases z),λ _ q hq=>?_⟩
  exact k _ q (aZ (s1.trans s2) hq) ag
theorem rgc {lo c:Int}{n:Nat}(hc:0<c)(hc2:c<=1000)(h0:0<=lo)(h1:lo<=1000000000)(hn:n<=1000000):RgC lo (lo+c*(n:Int)) c n:=by
 have hm:0<=c*(n:Int):=ER (by omega) (by omega)
 have hm2:c*(n:Int)<=1000*1000000:=Int.mul_le_mul (by omega) (by omega) (by omega) (by omega)
 have hs:GV lo (lo+c*(n:Int)) c=n:=by
  unfold GV
  rw[EU hc]
  by_cases hz:n=0
  ·subst hz
   rw[EM (by simp)]
   rfl
  ·have hp:0<c*(n:Int):=EY hc (by omega)
   rw[EU (by omega)]
   have e:lo+c*(n:Int)-lo-1=(c-1)+c*((n:Int)-1):=by grind
   rw[e,Int.add_mul_ediv_left _ _ (by omega:c≠0),Int.ediv_eq_zero_of_lt (by omega) (by omega)]
   omega
 refine⟨by omega,by omega,?_,hs⟩
 unfold Builtin.Range.small
 rw[hs]
 have e2:c > 0:=hc
 simp only[Builtin.Range.rangeFitsLong,EO,GK,ET,HI,e2,if_true]
 generalize c*(n:Int)=m at *
 omega
def B3 (K:FQ)(C:EJ):Sp:=λ vs H Q _=>∃(a:EJ) (ns:List Int),vs=[.ref a]/\LI K H a ns/\Byt ns/\(ns.length:Int)=told ns/\∀(H':Hp) (d:EJ),al H H'->bz C H' d (HH (toB ns))->Q (.ref d) H'
theorem qw:aq ["cartoon","first_line","first_mark","points","lines","marks","place"] ["cartoon"] (ah bT):=⟨rfl,rfl,rfl,by decide +kernel,rfl,by decide +kernel,by decide +kernel⟩
theorem CG (F:Has K mg "read_drawing" bT ["cartoon"]) (T:DCl K mg C) (gl:mg "len"=none) (gr:mg "range"=none) (gHB:∃t,mg "HEAD_BYTES"=some (.int 20 t)) (gPB:∃t,mg "POINT_BYTES"=some (.int 8 t)) (gLB:∃t,mg "LINE_BYTES"=some (.int 4 t)) (gMB:∃t,mg "MARK_BYTES"=some (.int 12 t))
  (C1:Cb P w K mg base 1 "number_at" ["cartoon","place","size"] (oP K)) (C2:Cb P w K mg base 2 "read_point" ["cartoon","place"] (Av K)) (C3:Cb P w K mg base 2 "read_line" ["cartoon","place"] (AA K)) (C4:Cb P w K mg base 3 "read_mark" ["cartoon","place"] (Cy K))
  (C5:Ci P w K mg base 1 C ["self","width","height","points","lines","marks"] (DP C)):Cb P w K mg base 4 "read_drawing" ["cartoon"] (B3 K C):=by
 refine F.cb qw (λ vs H Q E h=>?_) (λ f cdv A outer s H vs Q E hr h=>?_)
 ·obtain⟨a,ns,rfl,_⟩:=h
  rfl
 ·obtain⟨a,ns,rfl,hl,hb,hlen,k⟩:=h
  have hr1:bu 1 _:=hr.mono (by decide)
  have hr2:bu 2 _:=hr.mono (by decide)
  refine⟨_,ad (aB (i:=1) qw.nd rfl (.inl rfl) (aV dM (br gHB) (aV dP (br gPB) (aF C1 hr1 (aa (pv 0) (aa af (aa af ac)))))))
   (ad (aB (i:=2) qw.nd rfl (.inl rfl) (aV dM (pv 1) (aV dP (br gLB) (aF C1 hr1 (aa (pv 0) (aa af (aa af ac)))))))
   (ad (cw (i:=3) (own:=[("place",6)]) rfl qw.nd rfl rfl (dH rfl rfl rfl (by decide +kernel)) (kz rfl gr (aa (br gHB) (aa (pv 1) (aa (br gPB) ac)))) (bL (by show iH ["cartoon","first_line","first_mark","points","lines","marks","place"] (ah bT) _ _=true;decide +kernel))
    (λ _ _ _ _ _=>au (i:=6) qw.nd rfl (.inl rfl) (.inr rfl)) (λ _ _ _ _ _=>eU) (λ _ _ _ _ _=>aF C2 hr2 (aa (pv 0) (aa (pv 6) ac))))
   (ad (cw (i:=4) (own:=[("place",6)]) rfl qw.nd rfl rfl (dH rfl rfl rfl (by decide +kernel)) (kz rfl gr (aa (pv 1) (aa (pv 2) (aa (br gLB) ac)))) (bL (by show iH ["cartoon","first_line","first_mark","points","lines","marks","place"] (ah bT) _ _=true;decide +kernel))
    (λ _ _ _ _ _=>au (i:=6) qw.nd rfl (.inl rfl) (.inr rfl)) (λ _ _ _ _ _=>eU) (λ _ _ _ _ _=>aF C3 hr2 (aa (pv 0) (aa (pv 6) ac))))
   (ad (cw (i:=5) (own:=[("place",6)]) rfl qw.nd rfl rfl (dH rfl rfl rfl (by decide +kernel)) (kz rfl gr (aa (pv 2) (aa (aW aO (by rfl) gl FB (aa (pv 0) ac)) (aa (br gMB) ac)))) (bL (by show iH ["cartoon","first_line","first_mark","points","lines","marks","place"] (ah bT) _ _=true;decide +kernel))
    (λ _ _ _ _ _=>au (i:=6) qw.nd rfl (.inl rfl) (.inr rfl)) (λ _ _ _ _ _=>eU) (λ _ _ _ _ _=>aF C4 hr (aa (pv 0) (aa (pv 6) ac))))
   (ae (ak (oA C5 hr2 T.mgC (aa (aF C1 hr1 (aa (pv 0) (aa af (aa af ac)))) (aa (aF C1 hr1 (aa (pv 0) (aa af (aa af ac)))) (aa (pv 3) (aa (pv 4) (aa (pv 5) ac)))))))))))),?_⟩
  have b12:=sD hb 12
  have b14:=sD hb 14
  have b16:=sD hb 16
  have eP:rd ns 12 2=((P_ ns:Nat):Int):=by unfold P_;omega
  have eL:rd ns 14 2=((L_ ns:Nat):Int):=by unfold L_;omega
  have eM:rd ns 16 2=((M_ ns:Nat):Int):=by unfold M_;omega
  refine⟨_,rfl,a,ns,12,2,rfl,hl,λ H1 s1=>⟨_,_,rfl,rfl,.inl ⟨by decide,by decide⟩,_,_,rfl,rfl,?_⟩⟩
  refine⟨_,rfl,_,rfl,a,ns,14,2,rfl,hl.same s1,λ H2 s2=>⟨_,_,rfl,rfl,.inl ⟨by decide,by decide⟩,_,_,rfl,rfl,?_⟩⟩
  have sA:=s1.trans s2
  rw[eP,eL]
  have hP:(k8 ns).length=P_ ns:=by unfold k8;rw[lmp,F2]
  have hL:(kW ns).length=L_ ns:=by unfold kW;rw[lmp,F2]
  have hM:(kP ns).length=M_ ns:=by unfold kP;rw[lmp,F2]
  refine⟨_,rfl,_,_,_,P_ ns,rfl,rgc (by decide) (by decide) (by decide) (by decide) (by omega),λ D hD=>?_⟩
  have hD0:=sA.free hD
  refine k9 (λ i H'=>PvR H D (k8 ns) i H') (PvR.start sA hD) ?_ ?_
  ·intro i H' hi pv'
   refine⟨rfl,nS (eI ?_)⟩
   refine⟨_,rfl,_,rfl,a,ns,20+8*i,?_,hl.same pv'.same,λ H3 q s3 hq=>?_⟩
   ·show [V.ref a,V.int (20+(i:Nat)*8)]=[V.ref a,V.int ((20+8*i:Nat):Int)]
    rw[show(20:Int)+(i:Nat)*8=((20+8*i:Nat):Int) by omega]
   have hDq:∃acc,H3 D=some (.lst acc):=by
    obtain⟨as,_,h2,_⟩:=pv'
    exact⟨_,s3 _ _ h2⟩
   have nq:q≠D:=λ z=>by
    obtain⟨acc,h2⟩:=hDq
    rw[z,h2]at hq
    cases hq
   exact pv'.turn hD0 (by rw[hP];omega) (by unfold k8;rw[E2,G1 hi];rfl) s3 hq nq
  intro H3 pv3
  obtain⟨s3,t3⟩:=pv3.done (by rw[hP];exact nlr _)
  refine⟨_,rfl,_,rfl,_,_,_,L_ ns,rfl,rgc (by decide) (by decide) (by omega) (by omega) (by omega),λ D2 hD2=>?_⟩
  have hD20:=s3.free hD2
  refine k9 (λ i H'=>PvR H3 D2 (kW ns) i H') (PvR.start (al.refl H3) hD2) ?_ ?_
  ·intro i H' hi pv'
   refine⟨rfl,nS (eI ?_)⟩
   refine⟨_,rfl,_,rfl,a,ns,20+8*P_ ns+4*i,?_,hl.same (s3.trans pv'.same),λ H4 q s4 hq=>?_⟩
   ·show [V.ref a,V.int (20+8*((P_ ns:Nat):Int)+(i:Nat)*4)]=[V.ref a,V.int ((20+8*P_ ns+4*i:Nat):Int)]
    rw[show(20:Int)+8*((P_ ns:Nat):Int)+(i:Nat)*4=((20+8*P_ ns+4*i:Nat):Int) by omega]
   have nq:q≠D2:=λ z=>by
    obtain⟨as,_,h2,_⟩:=pv'
    have h2:=s4 _ _ h2
    rw[z,h2]at hq
    cases hq
   exact pv'.turn hD2 (by rw[hL];omega) (by unfold kW;rw[E2,G1 hi];rfl) s4 hq nq
  intro H4 pv4
  obtain⟨s4,t4⟩:=pv4.done (by rw[hL];exact nlr _)
  have hlM:(ns.length:Int)=20+8*((P_ ns:Nat):Int)+4*((L_ ns:Nat):Int)+12*((M_ ns:Nat):Int):=by
   rw[hlen]
   unfold told
   rw[eP,eL,eM]
  refine⟨_,rfl,_,rfl,a,_,rfl,.inl ((s3.trans s4).seq hl.1),_,_,_,M_ ns,rfl,?_,λ D5 hD5=>?_⟩
  ·rw[lmp,hlM]
   exact rgc (by decide) (by decide) (by omega) (by omega) (by omega)
  refine k9 (λ i H'=>PvR H4 D5 (kP ns) i H') (PvR.start (al.refl H4) hD5) ?_ ?_
  ·intro i H' hi pv'
   refine⟨rfl,nS (eI ?_)⟩
   refine⟨_,rfl,_,rfl,a,ns,20+8*P_ ns+4*L_ ns+12*i,?_,hl.same (s3.trans (s4.trans pv'.same)),λ H5 q s5 hq=>?_⟩
   ·show [V.ref a,V.int (20+8*((P_ ns:Nat):Int)+4*((L_ ns:Nat):Int)+(i:Nat)*12)]=[V.ref a,V.int ((20+8*P_ ns+4*L_ ns+12*i:Nat):Int)]
    rw[show(20:Int)+8*((P_ ns:Nat):Int)+4*((L_ ns:Nat):Int)+(i:Nat)*12=((20+8*P_ ns+4*L_ ns+12*i:Nat):Int) by omega]
   have nq:q≠D5:=λ z=>by
    obtain⟨as,_,h2,_⟩:=pv'
    have h2:=s5 _ _ h2
    rw[z,h2]at hq
    cases hq
   exact pv'.turn hD5 (by rw[hM];omega) (by unfold kP;rw[E2,G1 hi];rfl) s5 hq nq
  intro H5 pv5
  obtain⟨s5,t5⟩:=pv5.done (by rw[hM];exact nlr _)
  have sB:al H H5:=s3.trans (s4.trans s5)
  refine⟨_,rfl,a,ns,4,4,rfl,hl.same sB,λ H6 s6=>?_⟩
  refine⟨_,rfl,a,ns,8,4,rfl,hl.same (sB.trans s6),λ H7 s7=>?_⟩
  refine⟨_,rfl,_,rfl,_,rfl,λ x dx nx ndx nex=>?_⟩
  refine⟨x,dx,_,_,D,D2,D5,rfl,ag,λ H8 h8 kp=>⟨rfl,?_⟩⟩
  have s8:al H7 H8:=al.made nx ndx kp
  have sC:=s6.trans (s7.trans s8)
  refine k H8 x (sB.trans sC) ⟨dx,D,D2,D5,?_,?_,?_,?_⟩
  ·rw[h8]
   show some (HO.ins C dx (eX (rd ns 4 4) (rd ns 8 4) D D2 D5))=_
   rw[cS hb,cS hb]
   rfl
  ·rw[<-uU hb]
   exact t3.same (s4.trans (s5.trans sC))
  ·rw[<-vz hb]
   exact t4.same (s5.trans sC)
  ·rw[<-vQ hb]
   exact t5.same sC
end
open PySem PySem.Spec PyProof.Rows L2 Wg Wx CM
open Gla (Pt)
open Gla (Pt)
def cF (K:FQ)(H:Hp)(a:EJ)(p:Pt):Prop:=(∃gN:List Int,SqT K H a (iV ((p.x:Int) :: (p.y:Int) :: gN)))/\p.x<4294967296/\p.y<4294967296
theorem cF.same {K:FQ}{H H':Hp}{a:EJ}{p:Pt}(h:cF K H a p)(s:al H H'):cF K H' a p:=by
 obtain⟨⟨r,h1⟩,h2⟩:=h
 exact⟨⟨r,i7 s h1⟩,h2⟩
theorem aG {p:Prop}[Decidable p](h:¬decide p=true):¬p:=λ z=>h (dqt z)
theorem cJ {b:Bool}(h:b=true->False):b=false:=by
 cases b with
 |false=>rfl
 |true=>exact(h rfl).elim
section
variable  {P:E8}{w:FL}{K:FQ}{mg:Str->Option Value}{base:Heap}{C:EJ}
def kY (K:FQ):Sp:=λ vs H Q _=>∃(a b c:EJ) (p q r:Pt),vs=[.ref a,.ref b,.ref c]/\cF K H a p/\cF K H b q/\cF K H c r/\Q (.int (Gm p q r)) H
theorem Aw:aq ["p","q","r"] ["p","q","r"] (ah qm):=⟨rfl,rfl,rfl,by decide +kernel,rfl,by decide +kernel,by decide +kernel⟩
theorem zf (F:Has K mg "turn" qm ["p","q","r"]):Cb P w K mg base 1 "turn" ["p","q","r"] (kY K):=by
 refine F.cb Aw (λ vs H Q E h=>?_) (λ f cdv A outer s H vs Q E hr h=>?_)
 ·obtain⟨a,b,c,p,q,r,rfl,_⟩:=h
  rfl
 ·obtain⟨a,b,c,p,q,r,rfl,⟨⟨rp,hp⟩,b1⟩,⟨⟨rq,hq⟩,b2⟩,⟨⟨rr,hr'⟩,b3⟩,k⟩:=h
  refine⟨_,ae (ak (aV eO (aV dP (aV eO (aw aD (pv 1) af (λ _ _=>rfl)) (aw aD (pv 0) af (λ _ _=>rfl))) (aV eO (aw aD (pv 2) af (λ _ _=>rfl)) (aw aD (pv 1) af (λ _ _=>rfl)))) (aV dP (aV eO (aw aD (pv 1) af (λ _ _=>rfl)) (aw aD (pv 0) af (λ _ _=>rfl))) (aV eO (aw aD (pv 2) af (λ _ _=>rfl)) (aw aD (pv 1) af (λ _ _=>rfl)))))),?_⟩
  exact⟨_,rfl,b,_,_,_,rfl,rfl,hq,aA (j:=0) rfl rfl,_,rfl,a,_,_,_,rfl,rfl,hp,aA (j:=0) rfl rfl,_,_,rfl,rfl,_,rfl,c,_,_,_,rfl,rfl,hr',aA (j:=1) rfl rfl,_,rfl,b,_,_,_,rfl,rfl,hq,aA (j:=1) rfl rfl,_,_,rfl,rfl,_,_,rfl,rfl,.inl ⟨by omega,by omega⟩,_,rfl,b,_,_,_,rfl,rfl,hq,aA (j:=1) rfl rfl,_,rfl,a,_,_,_,rfl,rfl,hp,aA (j:=1) rfl rfl,_,_,rfl,rfl,_,rfl,c,_,_,_,rfl,rfl,hr',aA (j:=0) rfl rfl,_,rfl,b,_,_,_,rfl,rfl,hq,aA (j:=0) rfl rfl,_,_,rfl,rfl,_,_,rfl,rfl,.inl ⟨by omega,by omega⟩,_,_,rfl,rfl,k⟩
def wz (K:FQ):Sp:=λ vs H Q _=>∃(a b:EJ) (q p:Pt),vs=[.ref a,.ref b]/\cF K H a q/\cF K H b p/\∀H':Hp,al H H'->Q (.bl (p.below q)) H'
theorem El:aq ["q","p"] ["q","p"] (ah er):=⟨rfl,rfl,rfl,by decide +kernel,rfl,by decide +kernel,by decide +kernel⟩
theorem vq (p q:Pt):gT [(q.y:Int),(q.x:Int)] [(p.y:Int),(p.x:Int)]=p.below q:=by
 rw[jI,jI]
 unfold Pt.below
 have e0:gT [] []=false:=rfl
 rw[e0,Fy]
 by_cases c:(q.y:Int)=(p.y:Int)
 ·rw[EU c]
  by_cases d:(q.x:Int)=(p.x:Int)
  ·rw[EU d]
   simp
   omega
  ·rw[EM d]
   simp
   omega
 ·rw[EM c]
  simp
  omega
theorem Cl (F:Has K mg "comes_behind" er ["q","p"]):Cb P w K mg base 1 "comes_behind" ["q","p"] (wz K):=by
 refine F.cb El (λ vs H Q E h=>?_) (λ f cdv A outer s H vs Q E hr h=>?_)
 ·obtain⟨a,b,q,p,rfl,_⟩:=h
  rfl
 ·obtain⟨a,b,q,p,rfl,⟨⟨rq,hq⟩,_⟩,⟨⟨rp,hp⟩,_⟩,k⟩:=h
  refine⟨_,ae (ak (cp (Bh hr.units0) (bA (aa (aw aD (pv 0) af (λ _ _=>rfl)) (aa (aw aD (pv 0) af (λ _ _=>rfl)) ac))) (bA (aa (aw aD (pv 1) af (λ _ _=>rfl)) (aa (aw aD (pv 1) af (λ _ _=>rfl)) ac))) (aI _))),?_⟩
  refine⟨_,rfl,a,_,_,_,rfl,rfl,hq,aA (j:=1) rfl rfl,_,rfl,a,_,_,_,rfl,rfl,hq,aA (j:=0) rfl rfl,(by show 2<=EL;decide),λ t ht=>?_⟩
  have s1:al H (upd H t (.tup [.int (q.y:Int),.int (q.x:Int)])):=aN ht
  refine⟨_,rfl,b,_,_,_,rfl,rfl,(i7 s1 hp),aA (j:=1) rfl rfl,_,rfl,b,_,_,_,rfl,rfl,(i7 s1 hp),aA (j:=0) rfl rfl,(by show 2<=EL;decide),λ u hu=>?_⟩
  have s2:=aZ (o:=.tup [.int (p.y:Int),.int (p.x:Int)]) s1 hu
  have ntu:t≠u:=λ z=>by rw[<-z,ag]at hu;cases hu
  refine⟨t,u,[(q.y:Int),(q.x:Int)],[(p.y:Int),(p.x:Int)],rfl,rfl,SqT.of (by rw[ap ntu];exact ag),SqT.of ag,?_⟩
  rw[vq]
  exact k _ s2
def vk (p q r:Pt):Bool:=Gla.between p.x q.x r.x&&Gla.between p.y q.y r.y
theorem uG {p q r:Pt}:vk p q r=true↔(min p.x q.x<=r.x/\r.x<=max p.x q.x)/\(min p.y q.y<=r.y/\r.y<=max p.y q.y):=by
 unfold vk Gla.between
 simp only[EO,ET]
def zX (K:FQ):Sp:=λ vs H Q _=>∃(a b c:EJ) (p q r:Pt),vs=[.ref a,.ref b,.ref c]/\cF K H a p/\cF K H b q/\cF K H c r/\Q (.bl (vk p q r)) H
theorem BC:aq ["p","q","r"] ["p","q","r"] (ah gh):=⟨rfl,rfl,rfl,by decide +kernel,rfl,by decide +kernel,by decide +kernel⟩
theorem oK:GW "min"=some (.builtin "min"):=by decide +kernel
theorem ph:GW "max"=some (.builtin "max"):=by decide +kernel
theorem qi (a b:Nat):(if (b:Int)<(a:Int) then (b:Int) else (a:Int))=((min a b:Nat):Int):=by
 split<;>omega
theorem tI (a b:Nat):(if (b:Int) > (a:Int) then (b:Int) else (a:Int))=((max a b:Nat):Int):=by
 split<;>omega
theorem Ar (F:Has K mg "is_in_box" gh ["p","q","r"]) (gmi:mg "min"=none) (gma:mg "max"=none):Cb P w K mg base 1 "is_in_box" ["p","q","r"] (zX K):=by
 refine F.cb BC (λ vs H Q E h=>?_) (λ f cdv A outer s H vs Q E hr h=>?_)
 ·obtain⟨a,b,c,p,q,r,rfl,_⟩:=h
  rfl
 ·obtain⟨a,b,c,p,q,r,rfl,⟨⟨rp,hp⟩,b1⟩,⟨⟨rq,hq⟩,b2⟩,⟨⟨rr,hr'⟩,b3⟩,k⟩:=h
  refine⟨_,ae (ak (iQ
   (j4 lq lq (aW (oY rfl) (by rfl) gmi oK (aa (aw aD (pv 0) af (λ _ _=>rfl)) (aa (aw aD (pv 1) af (λ _ _=>rfl)) ac))) (aw aD (pv 2) af (λ _ _=>rfl)) (aW (oq rfl) (by rfl) gma ph (aa (aw aD (pv 0) af (λ _ _=>rfl)) (aa (aw aD (pv 1) af (λ _ _=>rfl)) ac))))
   (eC (j4 lq lq (aW (oY rfl) (by rfl) gmi oK (aa (aw aD (pv 0) af (λ _ _=>rfl)) (aa (aw aD (pv 1) af (λ _ _=>rfl)) ac))) (aw aD (pv 2) af (λ _ _=>rfl)) (aW (oq rfl) (by rfl) gma ph (aa (aw aD (pv 0) af (λ _ _=>rfl)) (aa (aw aD (pv 1) af (λ _ _=>rfl)) ac))))))),?_⟩
  have no:¬((min p.x q.x<=r.x/\r.x<=max p.x q.x)/\(min p.y q.y<=r.y/\r.y<=max p.y q.y))->Q (.bl false) H:=λ z=>by
   rw[cJ λ e=>z (uG.1 e)]at k
   exact k
  refine⟨_,rfl,a,_,_,_,rfl,rfl,hp,aA (j:=0) rfl rfl,_,rfl,b,_,_,_,rfl,rfl,hq,aA (j:=0) rfl rfl,_,_,rfl,_,rfl,c,_,_,_,rfl,rfl,hr',aA (j:=0) rfl rfl,_,_,rfl,rfl,_,rfl,aS (λ c1=>?_) (λ c1=>?_)⟩
  ·have c1:=EH c1
   rw[qi]at c1
   refine⟨_,rfl,a,_,_,_,rfl,rfl,hp,aA (j:=0) rfl rfl,_,rfl,b,_,_,_,rfl,rfl,hq,aA (j:=0) rfl rfl,_,_,rfl,_,_,rfl,rfl,_,rfl,aS (λ c2=>?_) (λ c2=>?_)⟩
   ·have c2:=EH c2
    rw[tI]at c2
    refine⟨_,rfl,a,_,_,_,rfl,rfl,hp,aA (j:=1) rfl rfl,_,rfl,b,_,_,_,rfl,rfl,hq,aA (j:=1) rfl rfl,_,_,rfl,_,rfl,c,_,_,_,rfl,rfl,hr',aA (j:=1) rfl rfl,_,_,rfl,rfl,_,rfl,aS (λ c3=>?_) (λ c3=>?_)⟩
    ·have c3:=EH c3
     rw[qi]at c3
     refine⟨_,rfl,a,_,_,_,rfl,rfl,hp,aA (j:=1) rfl rfl,_,rfl,b,_,_,_,rfl,rfl,hq,aA (j:=1) rfl rfl,_,_,rfl,_,_,rfl,rfl,?_⟩
     rw[tI]
     have e:vk p q r=decide ((r.y:Int)<=((max p.y q.y:Nat):Int)):=by
      rw[Fy,uG,ET]
      omega
     rw[e]at k
     exact k
    ·have c3:=aG c3
     rw[qi]at c3
     exact no (by omega)
   ·have c2:=aG c2
    rw[tI]at c2
    exact no (by omega)
  ·have c1:=aG c1
   rw[qi]at c1
   exact⟨_,rfl,jU (no (by omega))⟩
def Az (K:FQ):Sp:=λ vs H Q _=>∃(a b c:EJ) (p q r:Pt),vs=[.ref a,.ref b,.ref c]/\cF K H a p/\cF K H b q/\cF K H c r/\Q (.bl (Gla.isOn p q r)) H
theorem Ek:aq ["p","q","r"] ["p","q","r"] (ah lZ):=⟨rfl,rfl,rfl,by decide +kernel,rfl,by decide +kernel,by decide +kernel⟩
theorem B6 (F:Has K mg "is_on" lZ ["p","q","r"]) (C1:Cb P w K mg base 1 "turn" ["p","q","r"] (kY K)) (C2:Cb P w K mg base 1 "is_in_box" ["p","q","r"] (zX K)):Cb P w K mg base 2 "is_on" ["p","q","r"] (Az K):=by
 refine F.cb Ek (λ vs H Q E h=>?_) (λ f cdv A outer s H vs Q E hr h=>?_)
 ·obtain⟨a,b,c,p,q,r,rfl,_⟩:=h
  rfl
 ·obtain⟨a,b,c,p,q,r,rfl,hp,hq,hr',k⟩:=h
  refine⟨_,ae (ak (iQ (cp kq (aF C1 hr (aa (pv 0) (aa (pv 1) (aa (pv 2) ac)))) af (aI _)) (eC (aF C2 hr (aa (pv 0) (aa (pv 1) (aa (pv 2) ac))))))),?_⟩
  refine⟨_,rfl,_,rfl,_,rfl,a,b,c,p,q,r,rfl,hp,hq,hr',rfl,_,rfl,aS (λ c1=>?_) (λ c1=>?_)⟩
  ·have c1:=V.int.inj (EH c1)
   refine⟨_,rfl,_,rfl,_,rfl,a,b,c,p,q,r,rfl,hp,hq,hr',?_⟩
   have e:Gla.isOn p q r=vk p q r:=by
    unfold Gla.isOn vk
    rw[c1]
    rfl
   rw[e]at k
   exact k
  ·have e:Gla.isOn p q r=false:=by
    unfold Gla.isOn
    have:(Gm p q r==0)=false:=by
     rw[Gb]
     intro z
     exact c1 (dqt (by rw[z]))
    rw[this]
    rfl
   rw[e]at k
   exact k
def rj (p q r s:Pt):Bool:=decide (Gm p q r*Gm p q s<0)
theorem rW (a b:Int):a*b<0↔(a<0/\0<b)\/(0<a/\b<0):=by
 constructor
 ·intro h
  rcases Int.lt_trichotomy a 0 with c|c|c
  ·left
   refine⟨c,?_⟩
   apply bcn
   intro d
   have:0<=(-a)*(-b):=ER (by omega) (by omega)
   grind
  ·rw[c]at h
   simp at h
  ·right
   refine⟨c,?_⟩
   apply bcn
   intro d
   have:0<=a*b:=ER (by omega) (by omega)
   omega
 ·rintro(⟨h1,h2⟩|⟨h1,h2⟩)
  ·exact Int.mul_neg_of_neg_of_pos h1 h2
  ·exact Int.mul_neg_of_pos_of_neg h1 h2
def xN (K:FQ):Sp:=λ vs H Q _=>∃(a b c d:EJ) (p q r s:Pt),vs=[.ref a,.ref b,.ref c,.ref d]/\cF K H a p/\cF K H b q/\cF K H c r/\cF K H d s/\Q (.bl (rj p q r s)) H
theorem sE:aq ["p","q","r","s","one","other"] ["p","q","r","s"] (ah fG):=⟨rfl,rfl,rfl,by decide +kernel,rfl,by decide +kernel,by decide +kernel⟩
theorem yf (F:Has K mg "are_parted" fG ["p","q","r","s"]) (C1:Cb P w K mg base 1 "turn" ["p","q","r"] (kY K)):Cb P w K mg base 2 "are_parted" ["p","q","r","s"] (xN K):=by
 refine F.cb sE (λ vs H Q E h=>?_) (λ f cdv A outer s H vs Q E hr h=>?_)
 ·obtain⟨a,b,c,d,p,q,r,s,rfl,_⟩:=h
  rfl
 ·obtain⟨a,b,c,d,p,q,r,s',rfl,hp,hq,hr',hs,k⟩:=h
  refine⟨_,ad (aB (i:=4) sE.nd rfl (.inl rfl) (aF C1 hr (aa (pv 0) (aa (pv 1) (aa (pv 2) ac)))))
   (ad (aB (i:=5) sE.nd rfl (.inl rfl) (aF C1 hr (aa (pv 0) (aa (pv 1) (aa (pv 3) ac)))))
   (ae (ak (qU (iQ (cp gf (pv 4) af (aI _)) (eC (cp d6 (pv 5) af (aI _)))) (eC (iQ (cp d6 (pv 4) af (aI _)) (eC (cp gf (pv 5) af (aI _))))))))),?_⟩
  refine⟨_,rfl,_,rfl,_,rfl,a,b,c,p,q,r,rfl,hp,hq,hr',?_⟩
  refine⟨_,rfl,_,rfl,_,rfl,a,b,d,p,q,s',rfl,hp,hq,hs,?_⟩
  have yes:(Gm p q r<0/\0<Gm p q s')\/(0<Gm p q r/\Gm p q s'<0)->Q (.bl true) H:=λ z=>by
   have e:rj p q r s'=true:=dqt ((rW _ _).2 z)
   rw[e]at k
   exact k
  have no:¬((Gm p q r<0/\0<Gm p q s')\/(0<Gm p q r/\Gm p q s'<0))->Q (.bl false) H:=λ z=>by
   have e:rj p q r s'=false:=dqf (λ y=>z ((rW _ _).1 y))
   rw[e]at k
   exact k
  have second:¬(Gm p q r<0/\0<Gm p q s')->zT (tOp (rI0 λ i j=>.bl (decide (j<i))) (a8 4) (tC (.int 0))) (tOp (rI0 λ i j=>.bl (decide (i<j))) (a8 5) (tC (.int 0))) [some (.ref a),some (.ref b),some (.ref c),some (.ref d),some (.int (Gm p q r)),some (.int (Gm p q s'))] H Q:=λ z=>by
   refine⟨_,rfl,_,_,rfl,rfl,_,rfl,aS (λ c2=>?_) (λ c2=>?_)⟩
   ·have c2:=EH c2
    refine⟨_,rfl,_,_,rfl,rfl,?_⟩
    show Q (.bl (decide (Gm p q s'<0))) H
    by_cases d2:Gm p q s'<0
    ·rw[dqt d2]
     exact yes (FV ⟨c2,d2⟩)
    ·rw[dqf d2]
     exact no (by omega)
   ·have c2:=aG c2
    exact no (by omega)
  refine⟨_,rfl,_,_,rfl,rfl,_,rfl,aS (λ c1=>?_) (λ c1=>?_)⟩
  ·have c1:=EH c1
   refine⟨_,rfl,_,_,rfl,rfl,_,rfl,aS (λ c2=>?_) (λ c2=>?_)⟩
   ·have c2:=EH c2
    exact yes (Go ⟨c1,c2⟩)
   ·have c2:=aG c2
    exact second (by omega)
  ·have c1:=aG c1
   exact⟨_,rfl,jU (second (by omega))⟩
def tY (K:FQ):Sp:=λ vs H Q _=>∃(a b c d:EJ) (p q r s:Pt),vs=[.ref a,.ref b,.ref c,.ref d]/\cF K H a p/\cF K H b q/\cF K H c r/\cF K H d s/\Q (.bl (Gla.crosses p q r s)) H
theorem zp:aq ["p","q","r","s"] ["p","q","r","s"] (ah ij):=⟨rfl,rfl,rfl,by decide +kernel,rfl,by decide +kernel,by decide +kernel⟩
theorem wW (F:Has K mg "do_cross" ij ["p","q","r","s"]) (C1:Cb P w K mg base 2 "are_parted" ["p","q","r","s"] (xN K)):Cb P w K mg base 3 "do_cross" ["p","q","r","s"] (tY K):=by
 refine F.cb zp (λ vs H Q E h=>?_) (λ f cdv A outer s H vs Q E hr h=>?_)
 ·obtain⟨a,b,c,d,p,q,r,s,rfl,_⟩:=h
  rfl
 ·obtain⟨a,b,c,d,p,q,r,s',rfl,hp,hq,hr',hs,k⟩:=h
  refine⟨_,ae (ak (iQ (aF C1 hr (aa (pv 0) (aa (pv 1) (aa (pv 2) (aa (pv 3) ac))))) (eC (aF C1 hr (aa (pv 2) (aa (pv 3) (aa (pv 0) (aa (pv 1) ac)))))))),?_⟩
  have e:Gla.crosses p q r s'=(rj p q r s'&&rj r s' p q):=rfl
  rw[e]at k
  refine⟨_,rfl,_,rfl,_,rfl,_,rfl,a,b,c,d,p,q,r,s',rfl,hp,hq,hr',hs,_,rfl,aS (λ c1=>?_) (λ c1=>?_)⟩
  ·refine⟨_,rfl,_,rfl,_,rfl,_,rfl,c,d,a,b,r,s',p,q,rfl,hr',hs,hp,hq,?_⟩
   rw[c1,F4]at k
   exact k
  ·have c1:=cJ c1
   rw[c1,FF]at k
   exact k
end
open PySem PySem.Spec PyProof.Rows L2 Wg Wx CM
open Gla (Pt)
def PL (K:FQ)(H:Hp)(a:EJ)(ps:List Pt):Prop:=∃as:List EJ,SqL K H a (as.map V.ref)/\as.length=ps.length/\∀(i:Nat) (b:EJ) (p:Pt),as[i]? = some b->ps[i]? = some p->cF K H b p
def crs (a b:Pt):Int:=(a.x:Int)*(b.y:Int)-(a.y:Int)*(b.x:Int)
def dh:Pt->List Pt->Int
 |_,[]=>0
 |l,c :: r=>crs l c+dh c r
def c8 (p q r:Pt):Bool:=if p.y<=r.y/\r.y<q.y then decide (0<Gm p q r) else if q.y<=r.y/\r.y<p.y then decide (0<Gm q p r) else false
def fe (z:Pt):Pt->List Pt->Bool
 |_,[]=>false
 |l,c :: r=>c8 l c z^^fe z c r
theorem ka {α:Type}{ps:List α}(h:ps≠[]):∃(init:List α) (l:α),ps=init++[l]:=by
 rcases Hr ps with e|⟨i,l,e⟩
 ·exact absurd e h
 ·exact⟨i,l,by rw[e,HS]⟩
section
variable  {P:E8}{w:FL}{K:FQ}{mg:Str->Option Value}{base:Heap}{C:EJ}
theorem PL.last {H:Hp}{a:EJ}{ps init:List Pt}{l:Pt}(h:PL K H a ps)(e:ps=init++[l]):∃(as:List EJ) (la:EJ),SqL K H a (as.map V.ref)/\as.length=ps.length/\atI (as.map V.ref) (-1)=some (.ref la)/\cF K H la l /\
  ∀(i:Nat) (b:EJ) (p:Pt),as[i]? = some b->ps[i]? = some p->cF K H b p:=by
 obtain⟨as,h1,h2,h3⟩:=h
 have hne:as≠[]:=λ z=>by
  rw[z,e,EN]at h2
  simp at h2
 obtain⟨ai,la,ea⟩:=ka hne
 refine⟨as,la,h1,h2,?_,?_,h3⟩
 ·rw[ea,Fi]
  exact mz _ _
 ·have hl:ai.length=init.length:=by
   rw[ea,e,EN,EN]at h2
   simpa using h2
  refine h3 ai.length la l ?_ ?_
  ·rw[ea,E6 (nlr _),Gh]
   rfl
  ·rw[e,hl,E6 (nlr _),Gh]
   rfl
def xK (K:FQ):Sp:=λ vs H Q _=>∃(a:EJ) (ps init:List Pt) (l:Pt),vs=[.ref a]/\PL K H a ps/\ps=init++[l]/\Q (.int (dh l ps)) H
theorem kK:aq ["corners","total","last","corner"] ["corners"] (ah fz):=⟨rfl,rfl,rfl,by decide +kernel,rfl,by decide +kernel,by decide +kernel⟩
theorem y4 (F:Has K mg "twice_area" fz ["corners"]):Cb P w K mg base 1 "twice_area" ["corners"] (xK K):=by
 refine F.cb kK (λ vs H Q E h=>?_) (λ f cdv A outer s H vs Q E hr h=>?_)
 ·obtain⟨a,ps,init,l,rfl,_⟩:=h
  rfl
 ·obtain⟨a,ps,init,l,rfl,hl,ei,k⟩:=h
  obtain⟨as,la,h1,h2,h3,h4,h5⟩:=hl.last ei
  refine⟨_,ad (aB (i:=1) kK.nd rfl (.inl rfl) af)
   (ad (aB (i:=2) kK.nd rfl (.inl rfl) (aw aU (pv 0) (lJ iZ af) (λ _ _=>rfl)))
   (ad (bw E4 rfl (bQ (pv 0)) (au (i:=3) kK.nd rfl (.inl rfl))
    (ad (xS (i:=1) kK.nd rfl (.inl rfl) (aV eO (aV dP (aw aD (pv 2) af (λ _ _=>rfl)) (aw aD (pv 3) af (λ _ _=>rfl))) (aV dP (aw aD (pv 2) af (λ _ _=>rfl)) (aw aD (pv 3) af (λ _ _=>rfl)))) xA) (ae (aB (i:=2) kK.nd rfl (.inl rfl) (pv 3)))))
   (ae (ak (pv 1))))),?_⟩
  refine⟨_,rfl,_,rfl,a,_,_,_,rfl,rfl,h1,h3,?_⟩
  refine⟨_,rfl,a,rfl,⟨_,h1⟩,eh (K:=K) (a:=a) (xs:=as.map V.ref) (λ i σ H'=>H'=H/\∃(t:Int) (lb:EJ) (lp:Pt) (v:Option V),σ=[some (.ref a),some (.int t),some (.ref lb),v]/\cF K H lb lp/\t+dh lp (ps.drop i)=dh l ps)
   ⟨rfl,0,la,l,none,rfl,h4,by rw[List.drop_zero,Int.zero_add]⟩ (λ i σ H' _ h=>by rw[h.1];exact h1) ?_ ?_⟩
  ·rintro i y σ H' hi ⟨rfl,t,lb,lp,v,rfl,⟨⟨rl,hlb⟩,b1⟩,ht⟩
   obtain⟨c,hc,rfl⟩:=cu hi
   have hil:i<ps.length:=by rw[<-h2];exact(gsi hc).1
   have hp:ps[i]? = some ps[i]:=gge hil
   have hpt:=h5 i c ps[i] hc hp
   obtain⟨⟨rc,hcc⟩,b2⟩:=id hpt
   refine⟨_,rfl,_,rfl,lb,_,_,_,rfl,rfl,hlb,aA (j:=0) rfl rfl,_,rfl,c,_,_,_,rfl,rfl,hcc,aA (j:=1) rfl rfl,_,_,rfl,rfl,.inl ⟨by omega,by omega⟩,_,rfl,lb,_,_,_,rfl,rfl,hlb,aA (j:=1) rfl rfl,_,rfl,c,_,_,_,rfl,rfl,hcc,aA (j:=0) rfl rfl,_,_,rfl,rfl,.inl ⟨by omega,by omega⟩,_,_,rfl,rfl,_,_,rfl,rfl,_,rfl,?_⟩
   refine⟨rfl,_,c,ps[i],_,rfl,hpt,?_⟩
   rw[<-ht,GH hil]
   show t+crs lp ps[i]+dh ps[i] (ps.drop (i+1))=t+(crs lp ps[i]+dh ps[i] (ps.drop (i+1)))
   omega
  ·rintro σ H' ⟨rfl,t,lb,lp,v,rfl,_,ht⟩
   refine⟨_,rfl,?_⟩
   rw[lmp,h2,List.drop_length]at ht
   have e:t=dh l ps:=by
    rw[<-ht]
    show t=t+0
    omega
   rw[e]
   exact k
def zP (K:FQ):Sp:=λ vs H Q _=>∃(a b c:EJ) (p q r:Pt),vs=[.ref a,.ref b,.ref c]/\cF K H a p/\cF K H b q/\cF K H c r/\Q (.bl (c8 p q r)) H
theorem CS:aq ["p","q","r"] ["p","q","r"] (ah dw):=⟨rfl,rfl,rfl,by decide +kernel,rfl,by decide +kernel,by decide +kernel⟩
theorem AM (F:Has K mg "is_left_beside" dw ["p","q","r"]) (C1:Cb P w K mg base 1 "turn" ["p","q","r"] (kY K)):Cb P w K mg base 2 "is_left_beside" ["p","q","r"] (zP K):=by
 refine F.cb CS (λ vs H Q E h=>?_) (λ f cdv A outer s H vs Q E hr h=>?_)
 ·obtain⟨a,b,c,p,q,r,rfl,_⟩:=h
  rfl
 ·obtain⟨a,b,c,p,q,r,rfl,hp0,hq0,hr0,k⟩:=h
  obtain⟨⟨rp,hp⟩,b1⟩:=id hp0
  obtain⟨⟨rq,hq⟩,b2⟩:=id hq0
  obtain⟨⟨rr,hr'⟩,b3⟩:=id hr0
  refine⟨_,ad (a6 (mG lq gf (aw aD (pv 0) af (λ _ _=>rfl)) (aw aD (pv 2) af (λ _ _=>rfl)) (aw aD (pv 1) af (λ _ _=>rfl))) (ae (ak (cp d6 (aF C1 hr (aa (pv 0) (aa (pv 1) (aa (pv 2) ac)))) af (aI _)))) aJ)
   (ad (a6 (mG lq gf (aw aD (pv 1) af (λ _ _=>rfl)) (aw aD (pv 2) af (λ _ _=>rfl)) (aw aD (pv 0) af (λ _ _=>rfl))) (ae (ak (cp d6 (aF C1 hr (aa (pv 1) (aa (pv 0) (aa (pv 2) ac)))) af (aI _)))) aJ)
   (ae (ak el))),?_⟩
  have first:p.y<=r.y/\r.y<q.y->Q (.bl (decide (0<Gm p q r))) H:=λ z=>by
   unfold c8 at k
   rw[EU z]at k
   exact k
  have second:¬(p.y<=r.y/\r.y<q.y)->AL (sT (fh (tu (rI0 λ i j=>.bl (decide (i<=j))) (rI0 λ i j=>.bl (decide (i<j))) (tOp (pE K) (a8 1) (tC (.int 1))) (tOp (pE K) (a8 2) (tC (.int 1))) (tOp (pE K) (a8 0) (tC (.int 1)))))
    (mw (tOp (rI0 λ i j=>.bl (decide (j<i))) (lL (kY K) [] E0 (bD (a8 1) (bD (a8 0) (bD (a8 2) fY)))) (tC (.int 0)))) mf) (mw (tC (.bl false))) { nx:=λ _ H'=>Q .non H',rt:=Q } [some (.ref a),some (.ref b),some (.ref c)] H:=λ z=>by
   refine⟨_,rfl,b,_,_,_,rfl,rfl,hq,aA (j:=1) rfl rfl,_,rfl,c,_,_,_,rfl,rfl,hr',aA (j:=1) rfl rfl,_,_,rfl,rfl,_,rfl,aS (λ c1=>?_) (λ c1=>?_)⟩
   ·have c1:=EH c1
    refine⟨_,rfl,a,_,_,_,rfl,rfl,hp,aA (j:=1) rfl rfl,_,_,rfl,rfl,_,rfl,aS (λ c2=>?_) (λ c2=>?_)⟩
    ·have c2:=EH c2
     refine⟨_,rfl,_,rfl,_,rfl,b,a,c,q,p,r,rfl,hq0,hp0,hr0,_,_,rfl,rfl,?_⟩
     unfold c8 at k
     rw[EM z,EU (by omega)]at k
     exact k
    ·have c2:=aG c2
     unfold c8 at k
     rw[EM z,EM (by omega)]at k
     exact k
   ·have c1:=aG c1
    unfold c8 at k
    rw[EM z,EM (by omega)]at k
    exact⟨_,rfl,jU k⟩
  refine⟨_,rfl,a,_,_,_,rfl,rfl,hp,aA (j:=1) rfl rfl,_,rfl,c,_,_,_,rfl,rfl,hr',aA (j:=1) rfl rfl,_,_,rfl,rfl,_,rfl,aS (λ c1=>?_) (λ c1=>?_)⟩
  ·have c1:=EH c1
   refine⟨_,rfl,b,_,_,_,rfl,rfl,hq,aA (j:=1) rfl rfl,_,_,rfl,rfl,_,rfl,aS (λ c2=>?_) (λ c2=>?_)⟩
   ·have c2:=EH c2
    exact⟨_,rfl,_,rfl,_,rfl,a,b,c,p,q,r,rfl,hp0,hq0,hr0,_,_,rfl,rfl,first (by omega)⟩
   ·have c2:=aG c2
    exact second (by omega)
  ·have c1:=aG c1
   exact⟨_,rfl,jU (second (by omega))⟩
def DI (K:FQ):Sp:=λ vs H Q _=>∃(a c:EJ) (ps init:List Pt) (l z:Pt),vs=[.ref a,.ref c]/\PL K H a ps/\ps=init++[l]/\cF K H c z/\Q (.bl (fe z l ps)) H
theorem vt:aq ["corners","r","inside","last","corner"] ["corners","r"] (ah gt):=⟨rfl,rfl,rfl,by decide +kernel,rfl,by decide +kernel,by decide +kernel⟩
theorem CJ (F:Has K mg "is_inside" gt ["corners","r"]) (C1:Cb P w K mg base 2 "is_left_beside" ["p","q","r"] (zP K)):Cb P w K mg base 3 "is_inside" ["corners","r"] (DI K):=by
 refine F.cb vt (λ vs H Q E h=>?_) (λ f cdv A outer s H vs Q E hr h=>?_)
 ·obtain⟨a,c,ps,init,l,z,rfl,_⟩:=h
  rfl
 ·obtain⟨a,c,ps,init,l,z,rfl,hl,ei,hz,k⟩:=h
  obtain⟨as,la,h1,h2,h3,h4,h5⟩:=hl.last ei
  refine⟨_,ad (aB (i:=2) vt.nd rfl (.inl rfl) el)
   (ad (aB (i:=3) vt.nd rfl (.inl rfl) (aw aU (pv 0) (lJ iZ af) (λ _ _=>rfl)))
   (ad (bw E4 rfl (bQ (pv 0)) (au (i:=4) vt.nd rfl (.inl rfl))
    (ad (a6 (cG (aF C1 hr (aa (pv 3) (aa (pv 4) (aa (pv 1) ac))))) (ae (aB (i:=2) vt.nd rfl (.inl rfl) (wg (pv 2)))) aJ) (ae (aB (i:=3) vt.nd rfl (.inl rfl) (pv 4)))))
   (ae (ak (pv 2))))),?_⟩
  refine⟨_,rfl,_,rfl,a,_,_,_,rfl,rfl,h1,h3,?_⟩
  refine⟨_,rfl,a,rfl,⟨_,h1⟩,eh (K:=K) (a:=a) (xs:=as.map V.ref) (λ i σ H'=>H'=H/\∃(t:Bool) (lb:EJ) (lp:Pt) (v:Option V),σ=[some (.ref a),some (.ref c),some (.bl t),some (.ref lb),v]/\cF K H lb lp/\(t^^fe z lp (ps.drop i))=fe z l ps)
   ⟨rfl,false,la,l,none,rfl,h4,by rw[List.drop_zero,FW]⟩ (λ i σ H' _ h=>by rw[h.1];exact h1) ?_ ?_⟩
  ·rintro i y σ H' hi ⟨rfl,t,lb,lp,v,rfl,hlb,ht⟩
   obtain⟨cc,hc,rfl⟩:=cu hi
   have hil:i<ps.length:=by rw[<-h2];exact(gsi hc).1
   have hp:ps[i]? = some ps[i]:=gge hil
   have hpt:=h5 i cc ps[i] hc hp
   rw[GH hil]at ht
   have ht:(t^^(c8 lp ps[i] z^^fe z ps[i] (ps.drop (i+1))))=fe z l ps:=ht
   refine⟨_,rfl,_,rfl,_,rfl,lb,cc,c,lp,ps[i],z,rfl,hlb,hpt,hz,_,rfl,aS (λ c1=>?_) (λ c1=>?_)⟩
   ·refine⟨_,rfl,_,rfl,_,rfl,?_⟩
    refine⟨rfl,!t,cc,ps[i],_,rfl,hpt,?_⟩
    rw[<-ht,c1]
    cases t<;>cases fe z ps[i] (ps.drop (i+1))<;>rfl
   ·refine⟨_,rfl,?_⟩
    refine⟨rfl,t,cc,ps[i],_,rfl,hpt,?_⟩
    rw[<-ht,cJ c1,FW]
  ·rintro σ H' ⟨rfl,t,lb,lp,v,rfl,_,ht⟩
   refine⟨_,rfl,?_⟩
   rw[lmp,h2,List.drop_length]at ht
   have e:t=fe z l ps:=by
    rw[<-ht]
    show t=(t^^false)
    rw[Gj]
   rw[e]
   exact k
end
open PySem PySem.Spec PyProof.Rows L2 Wg Wx CM
open Gla (Pt)
structure SB (S:Gla.Plan):Prop where
 pts:∀p∈S.pts,p.x<4294967296/\p.y<4294967296
 mks:∀m∈S.marks,m.at_.x<4294967296/\m.at_.y<4294967296
 np:S.pts.length<=100000
 nl:S.lines.length<=100000
 nm:S.marks.length<=100000
structure Op (K:FQ)(C:EJ)(H:Hp)(a dx p l m:EJ)(S:Gla.Plan)(ps ls ms:List EJ):Prop where
 at_:H a=some (.ins C dx (eX S.w S.h p l m))
 pl:H p=some (.lst (ps.map V.ref))
 ll:H l=some (.lst (ls.map V.ref))
 ml:H m=some (.lst (ms.map V.ref))
 pn:ps.length=S.pts.length
 ln:ls.length=S.lines.length
 mn:ms.length=S.marks.length
 pt:∀(i:Nat) (b:EJ),ps[i]? = some b->H b=some (.tup (iV (fR (S.pt i))))
 li:∀(i:Nat) (b:EJ) (x:Nat×Nat),ls[i]? = some b->S.lines[i]? = some x->H b=some (.tup (iV (ug x)))
 ma:∀(i:Nat) (b:EJ) (x:Ir),ms[i]? = some b->S.marks[i]? = some x->H b=some (.tup (iV (km x)))
theorem bz.op {K:FQ}{C:EJ}{H:Hp}{a:EJ}{S:Gla.Plan}(h:bz C H a S):∃dx p l m ps ls ms,Op K C H a dx p l m S ps ls ms:=by
 obtain⟨dx,p,l,m,h1,⟨ps,p1,p2,p3⟩,⟨ls,l1,l2,l3⟩,⟨ms,m1,m2,m3⟩⟩:=h
 rw[lmp]at p2 l2 m2
 refine⟨dx,p,l,m,ps,ls,ms,h1,p1,l1,m1,p2,l2,m2,λ i b e=>?_,λ i b x e1 e2=>?_,λ i b x e1 e2=>?_⟩
 ·have hi:i<S.pts.length:=by rw[<-p2];exact(gsi e).1
  exact p3 i b _ e (by rw[E2,gge hi,WL.bK S hi];rfl)
 ·exact l3 i b _ e1 (by rw[E2,e2];rfl)
 ·exact m3 i b _ e1 (by rw[E2,e2];rfl)
theorem Op.same {K:FQ}{C:EJ}{H H':Hp}{a dx p l m:EJ}{S:Gla.Plan}{ps ls ms:List EJ}(o:Op K C H a dx p l m S ps ls ms)(s:al H H'):Op K C H' a dx p l m S ps ls ms :=
 ⟨s _ _ o.at_,s _ _ o.pl,s _ _ o.ll,s _ _ o.ml,o.pn,o.ln,o.mn,λ i b e=>s _ _ (o.pt i b e),λ i b x e1 e2=>s _ _ (o.li i b x e1 e2),λ i b x e1 e2=>s _ _ (o.ma i b x e1 e2)⟩
theorem Op.draw {K:FQ}{C:EJ}{H:Hp}{a dx p l m:EJ}{S:Gla.Plan}{ps ls ms:List EJ}(o:Op K C H a dx p l m S ps ls ms):bz C H a S:=by
 refine⟨dx,p,l,m,o.at_,⟨ps,o.pl,by rw[lmp,o.pn],λ i b r e1 e2=>?_⟩,⟨ls,o.ll,by rw[lmp,o.ln],λ i b r e1 e2=>?_⟩,⟨ms,o.ml,by rw[lmp,o.mn],λ i b r e1 e2=>?_⟩⟩
 ·have hi:i<S.pts.length:=by rw[<-o.pn];exact(gsi e1).1
  rw[E2,gge hi]at e2
  have e2:=osi e2
  rw[<-e2,<-WL.bK S hi]
  exact o.pt i b e1
 ·rw[E2]at e2
  cases e:S.lines[i]? with
  |none=>rw[e]at e2;cases e2
  |some x =>
   rw[e]at e2
   have e2:=osi e2
   rw[<-e2]
   exact o.li i b x e1 e
 ·rw[E2]at e2
  cases e:S.marks[i]? with
  |none=>rw[e]at e2;cases e2
  |some x =>
   rw[e]at e2
   have e2:=osi e2
   rw[<-e2]
   exact o.ma i b x e1 e
theorem SB.pt {S:Gla.Plan}(h:SB S)(i:Nat):(S.pt i).x<4294967296/\(S.pt i).y<4294967296:=by
 by_cases hi:i<S.pts.length
 ·rw[WL.bK S hi]
  exact h.pts _ (Fm hi)
 ·unfold Gla.Plan.pt
  rw[Fa,List.getElem?_eq_none (by omega)]
  decide
theorem Op.ptAt {K:FQ}{C:EJ}{H:Hp}{a dx p l m:EJ}{S:Gla.Plan}{ps ls ms:List EJ}(o:Op K C H a dx p l m S ps ls ms)(sb:SB S){i:Nat}{b:EJ}(e:ps[i]? = some b):cF K H b (S.pt i):=⟨⟨[],SqT.of (o.pt i b e)⟩,sb.pt i⟩
theorem Op.mkAt {K:FQ}{C:EJ}{H:Hp}{a dx p l m:EJ}{S:Gla.Plan}{ps ls ms:List EJ}(o:Op K C H a dx p l m S ps ls ms)(sb:SB S){i:Nat}{b:EJ}{x:Ir}(e:ms[i]? = some b)(e2:S.marks[i]? = some x):cF K H b x.at_ :=
 ⟨⟨_,SqT.of (o.ma i b x e e2)⟩,sb.mks x (FG e2)⟩
theorem Op.hasP {K:FQ}{C:EJ}{H:Hp}{a dx p l m:EJ}{S:Gla.Plan}{ps ls ms:List EJ}(o:Op K C H a dx p l m S ps ls ms){i:Nat}(hi:i<S.pts.length):∃b,ps[i]? = some b:=⟨_,gge (by rw[o.pn];exact hi)⟩
theorem Op.hasL {K:FQ}{C:EJ}{H:Hp}{a dx p l m:EJ}{S:Gla.Plan}{ps ls ms:List EJ}(o:Op K C H a dx p l m S ps ls ms){i:Nat}(hi:i<S.lines.length):∃b,ls[i]? = some b:=⟨_,gge (by rw[o.ln];exact hi)⟩
theorem b9 {wi he:Int}{p l m:EJ}{f:Str} (h:(f="place_of_point"\/f="place_of_line")\/f="place_of_mark"\/f="place_of_end"):(eX wi he p l m).lookup f=none:=by
 rcases h with(rfl|rfl)|rfl|rfl
 ·exact mY (by decide +kernel) (by decide +kernel) (by decide +kernel) (by decide +kernel) (by decide +kernel)
 ·exact mY (by decide +kernel) (by decide +kernel) (by decide +kernel) (by decide +kernel) (by decide +kernel)
 ·exact mY (by decide +kernel) (by decide +kernel) (by decide +kernel) (by decide +kernel) (by decide +kernel)
 ·exact mY (by decide +kernel) (by decide +kernel) (by decide +kernel) (by decide +kernel) (by decide +kernel)
section
variable  {P:E8}{w:FL}{K:FQ}{mg:Str->Option Value}{base:Heap}{C:EJ}
def jy (r:Int)(pl:Nat->Int)(o:Option Nat):Option (Int×Int):=o.map λ i=>(r,pl i)
def ok4 (S:Gla.Plan)(p:Pt):Bool:=decide (p.x<=S.w)&&decide (p.y<=S.h)
def Cv (C:EJ):Sp:=λ vs H Q _=>∃(a:EJ) (S:Gla.Plan),vs=[.ref a]/\bz C H a S/\SB S/\dG (jy 4 (λ i=>20+8*(i:Int)) (FX (ok4 S) Pt.below S.pts)) H Q
theorem zi:aq ["drawing","k","point","outside"] ["drawing"] (ah cY):=⟨rfl,rfl,rfl,by decide +kernel,rfl,by decide +kernel,by decide +kernel⟩
theorem BS (F:Has K mg "fault_of_points" cY ["drawing"]) (T:DCl K mg C) (ge:mg "enumerate"=none) (C1:Cm P w K mg base 1 C "place_of_point" ["self","k"] pW) (C2:Cb P w K mg base 1 "comes_behind" ["q","p"] (wz K)) :
  Cb P w K mg base 2 "fault_of_points" ["drawing"] (Cv C):=by
 refine F.cb zi (λ vs H Q E h=>?_) (λ f cdv A outer s H vs Q E hr h=>?_)
 ·obtain⟨a,S,rfl,_⟩:=h
  rfl
 ·obtain⟨a,S,rfl,hd,sb,k⟩:=h
  obtain⟨dx,p,l,m,ps,ls,ms,o⟩:=hd.op (K:=K)
  refine⟨_,ad (bw E4 rfl (dX rfl ge (aa (aR (pv 0) rfl) ac)) (cT (n:=2) rfl (aL (au (i:=1) zi.nd rfl (.inl rfl)) (aL (au (i:=2) zi.nd rfl (.inl rfl)) bU)))
    (ad (aB (i:=3) zi.nd rfl (.inl rfl) (qU (cp d6 (aw aD (pv 2) af (λ _ _=>rfl)) (aR (pv 0) rfl) (aI _)) (eC (cp d6 (aw aD (pv 2) af (λ _ _=>rfl)) (aR (pv 0) rfl) (aI _)))))
    (ae (a6 (mh (cG (pv 3)) (jB (jD (aK d6 (pv 1) af (aI _)) (io (ja (cG (aF C2 hr (aa (pv 2) (aa (aw aU (aR (pv 0) rfl) (aV eO (pv 1) af) (λ _ _=>rfl)) ac))))))).pt)).pt
     (ae (ak (bA (aa af (aa (hG (pv 0) T.cl C1 hr (aa (pv 1) ac)) ac))))) aJ))))
   (ae (ak bc)),?_⟩
  refine⟨_,rfl,a,C,dx,_,_,rfl,o.at_,T.cl,T.nP,iG,p,_,rfl,SqL.of o.pl,dt (K:=K) (a:=p) (xs:=ps.map V.ref) (λ i σ H'=>al H H'/\(∃v1 v2 v3,σ=[some (.ref a),v1,v2,v3])/\∀j (hj:j<S.pts.length),j<i->WL.b7 (ok4 S) Pt.below S.pts j S.pts[j]=false)
   ⟨al.refl H,⟨none,none,none,rfl⟩,λ j hj h=>absurd h (FT _)⟩ (λ i σ H' _ h=>SqL.of (h.1 _ _ o.pl)) ?_ ?_⟩
  ·rintro i y T' σ H' hi hT ⟨hS,⟨v1,v2,v3,rfl⟩,hok⟩
   obtain⟨b,hb,rfl⟩:=cu hi
   have hil:i<S.pts.length:=by rw[<-o.pn];exact(gsi hb).1
   have s2:al H (upd H' T' (.tup [.int (i:Nat),.ref b])):=aZ hS hT
   refine⟨T',_,rfl,SqT.of ag,rfl,_,_,rfl,_,_,rfl,rfl,?_⟩
   generalize upd H' T' (.tup [.int (i:Nat),.ref b])=H2 at s2
   have o2:=o.same s2
   have hpt:=o2.ptAt sb hb
   obtain⟨⟨rb,hbb⟩,_⟩:=id hpt
   have ep:S.pt i=S.pts[i]:=WL.bK S hil
   have bad:WL.b7 (ok4 S) Pt.below S.pts i S.pts[i]=true->∀H3,al H H3->∀q,H3 q=none->Q (.ref q) (upd H3 q (.tup [.int 4,.int (20+8*(i:Int))])):=λ z H3 s3 q hq=>by
    have e:FX (ok4 S) Pt.below S.pts=some i:=by
     rw[WL.d9]
     exact WL.em hil z λ j hj=>hok j (by omega) hj
    rw[e]at k
    exact dG.some' k s3 q hq
   have next:WL.b7 (ok4 S) Pt.below S.pts i S.pts[i]=false->∀j (hj:j<S.pts.length),j<i+1->WL.b7 (ok4 S) Pt.below S.pts j S.pts[j]=false:=λ z j hj h=>by
    by_cases c:j<i
    ·exact hok j hj c
    ·have:j=i:=by omega
     subst this
     exact z
   have cont:∀(t:Bool),t=(!ok4 S S.pts[i])->sT (tOr (tB (a8 3)) (yU (fh (tOp (rI0 λ i j=>.bl (decide (j<i))) (a8 1) (tC (.int 0)))) (AV (tB (lL (wz K) [] E0 (bD (a8 2) (bD (tOp (uR K) (xL K (a8 0) "points") (tOp (rI0 λ i j=>.int (i-j)) (a8 1) (tC (.int 1)))) fY)))))))
     (mw (uZ (bD (tC (.int 4)) (bD (kj C "place_of_point" pW [] E0 (a8 0) (bD (a8 1) fY)) fY)))) mf
     { nx:=λ σ H'=>al H H'/\(∃v1 v2 v3,σ=[some (.ref a),v1,v2,v3])/\∀j (hj:j<S.pts.length),j<i+1->WL.b7 (ok4 S) Pt.below S.pts j S.pts[j]=false,rt:=Q,bk:=λ σ H'=>Q .non H',ct:=λ σ H'=>al H H'/\(∃v1 v2 v3,σ=[some (.ref a),v1,v2,v3])/\∀j (hj:j<S.pts.length),j<i+1->WL.b7 (ok4 S) Pt.below S.pts j S.pts[j]=false }
     [some (.ref a),some (.int (i:Nat)),some (.ref b),some (.bl t)] H2:=λ t et=>by
    refine⟨_,rfl,_,rfl,aS (λ c1=>?_) (λ c1=>?_)⟩
    ·refine eI ?_
     refine⟨_,rfl,a,dx,_,rfl,o2.at_,b9 (.inl (.inl rfl)),_,rfl,_,_,rfl,(by show 2<=EL;decide),λ q hq=>?_⟩
     refine bad ?_ H2 s2 q hq
     unfold WL.b7
     rw[<-et,c1,IB]
    ·have okt:(!ok4 S S.pts[i])=false:=by rw[<-et];exact cJ c1
     refine⟨_,rfl,_,_,rfl,rfl,_,rfl,aS (λ c2=>?_) (λ c2=>?_)⟩
     ·have c2:(0:Int)<((i:Nat):Int):=EH c2
      obtain⟨i',rfl⟩:∃i',i=i'+1:=⟨i-1,by omega⟩
      obtain⟨b',hb'⟩:=o2.hasP (i:=i') (by omega)
      have hpt':=o2.ptAt sb hb'
      have ep':S.pt i'=S.pts[i']:=WL.bK S (by omega)
      refine⟨_,rfl,_,rfl,a,C,dx,_,_,rfl,o2.at_,T.cl,T.nP,iG,_,rfl,_,_,rfl,rfl,p,_,_,_,rfl,rfl,SqL.of o2.pl,aA (j:=i') (by omega) (aP hb'),b,b',S.pt (i'+1),S.pt i',rfl,hpt,hpt',λ H3 s3=>?_⟩
      have hbe:WL.b7 (ok4 S) Pt.below S.pts (i'+1) S.pts[i'+1]=!((S.pt i').below (S.pt (i'+1))):=by
       rw[WL.jO (by omega),okt,Bool.false_or,ep,ep']
      refine⟨_,rfl,?_⟩
      cases hc:(S.pt i').below (S.pt (i'+1)) with
      |true =>
       refine jU ?_
       exact⟨s2.trans s3,⟨_,_,_,rfl⟩,next (by rw[hbe,hc];rfl)⟩
      |false =>
       refine eI ?_
       refine⟨_,rfl,a,dx,_,rfl,(o2.same s3).at_,b9 (.inl (.inl rfl)),_,rfl,_,_,rfl,(by show 2<=EL;decide),λ q hq=>?_⟩
       exact bad (by rw[hbe,hc];rfl) H3 (s2.trans s3) q hq
     ·have c2:=aG c2
      have i0:i=0:=by omega
      subst i0
      exact⟨s2,⟨_,_,_,rfl⟩,next (by rw[WL.jC];exact okt)⟩
   refine⟨_,rfl,b,_,_,_,rfl,rfl,hbb,aA (j:=0) rfl rfl,_,rfl,a,C,dx,_,_,rfl,o2.at_,T.cl,T.nW,Ao,_,_,rfl,rfl,_,rfl,aS (λ c1=>?_) (λ c1=>?_)⟩
   ·have c1:(S.w:Int)<((S.pt i).x:Int):=EH c1
    refine cont true ?_
    rw[<-ep]
    unfold ok4
    rw[dqf (by omega),FF]
    rfl
   ·have c1:¬(S.w:Int)<((S.pt i).x:Int):=aG c1
    refine⟨_,rfl,b,_,_,_,rfl,rfl,hbb,aA (j:=1) rfl rfl,_,rfl,a,C,dx,_,_,rfl,o2.at_,T.cl,T.nH,Al,_,_,rfl,rfl,?_⟩
    refine cont _ ?_
    rw[<-ep]
    unfold ok4
    rw[dqt (by omega:(S.pt i).x<=S.w),F4,<-decide_not,E1]
    omega
  ·rintro σ H' ⟨hS,⟨v1,v2,v3,rfl⟩,hok⟩
   have e:FX (ok4 S) Pt.below S.pts=none:=by
    rw[WL.d9]
    refine WL.dU λ j hj=>hok j hj ?_
    rw[lmp,o.pn]
    exact hj
   rw[e]at k
   exact k H' hS
end
open PySem PySem.Spec PyProof.Rows L2 Wg Wx CM
open Gla (Pt)
section
variable  {P:E8}{w:FL}{K:FQ}{mg:Str->Option Value}{base:Heap}{C:EJ}
def ok5 (S:Gla.Plan)(l:Nat×Nat):Bool:=decide (l.1<l.2)&&decide (l.2<S.pts.length)
def pR (S:Gla.Plan)(i:Nat):Int:=20+8*(S.pts.length:Int)+4*(i:Int)
def DN (C:EJ):Sp:=λ vs H Q _=>∃(a:EJ) (S:Gla.Plan),vs=[.ref a]/\bz C H a S/\SB S/\dG (jy 5 (pR S) (FX (ok5 S) F5 S.lines)) H Q
theorem yA:aq ["drawing","k","line","wrong_ends"] ["drawing"] (ah dz):=⟨rfl,rfl,rfl,by decide +kernel,rfl,by decide +kernel,by decide +kernel⟩
theorem xM (l m:Nat×Nat):gR [(l.1:Int),(l.2:Int)] [(m.1:Int),(m.2:Int)]=!Gla.lineBelow m l:=by
 rw[jG,jG]
 unfold F5
 have e0:gR [] []=true:=rfl
 rw[e0,Fy]
 by_cases c:(l.1:Int)=(m.1:Int)
 ·rw[EU c]
  by_cases d:(l.2:Int)=(m.2:Int)
  ·rw[EU d]
   simp
   omega
  ·rw[EM d]
   simp
   omega
 ·rw[EM c]
  simp
  omega
theorem CO (F:Has K mg "fault_of_lines" dz ["drawing"]) (T:DCl K mg C) (ge:mg "enumerate"=none) (gl:mg "len"=none) (C1:Cm P w K mg base 2 C "place_of_line" ["self","k"] (vD C)) :
  Cb P w K mg base 3 "fault_of_lines" ["drawing"] (DN C):=by
 refine F.cb yA (λ vs H Q E h=>?_) (λ f cdv A outer s H vs Q E hr h=>?_)
 ·obtain⟨a,S,rfl,_⟩:=h
  rfl
 ·obtain⟨a,S,rfl,hd,sb,k⟩:=h
  obtain⟨dx,p,l,m,ps,ls,ms,o⟩:=hd.op (K:=K)
  refine⟨_,ad (bw E4 rfl (dX rfl ge (aa (aR (pv 0) rfl) ac)) (cT (n:=2) rfl (aL (au (i:=1) yA.nd rfl (.inl rfl)) (aL (au (i:=2) yA.nd rfl (.inl rfl)) bU)))
    (ad (aB (i:=3) yA.nd rfl (.inl rfl) (qU (cp t9 (aw aD (pv 2) af (λ _ _=>rfl)) (aw aD (pv 2) af (λ _ _=>rfl)) (aI _)) (eC (cp t9 (aw aD (pv 2) af (λ _ _=>rfl)) (aW aO (by rfl) gl FB (aa (aR (pv 0) rfl) ac)) (aI _)))))
    (ae (a6 (mh (cG (pv 3)) (jB (jD (aK d6 (pv 1) af (aI _)) (io (aK (AN hr.units0) (pv 2) (aw aU (aR (pv 0) rfl) (aV eO (pv 1) af) (λ _ _=>rfl)) (aI _)))).pt)).pt
     (ae (ak (bA (aa af (aa (hG (pv 0) T.cl C1 hr (aa (pv 1) ac)) ac))))) aJ))))
   (ae (ak bc)),?_⟩
  refine⟨_,rfl,a,C,dx,_,_,rfl,o.at_,T.cl,T.nL,pZ,l,_,rfl,SqL.of o.ll,dt (K:=K) (a:=l) (xs:=ls.map V.ref) (λ i σ H'=>al H H'/\(∃v1 v2 v3,σ=[some (.ref a),v1,v2,v3])/\∀j (hj:j<S.lines.length),j<i->WL.b7 (ok5 S) F5 S.lines j S.lines[j]=false)
   ⟨al.refl H,⟨none,none,none,rfl⟩,λ j hj h=>absurd h (FT _)⟩ (λ i σ H' _ h=>SqL.of (h.1 _ _ o.ll)) ?_ ?_⟩
  ·rintro i y T' σ H' hi hT ⟨hS,⟨v1,v2,v3,rfl⟩,hok⟩
   obtain⟨b,hb,rfl⟩:=cu hi
   have hil:i<S.lines.length:=by rw[<-o.ln];exact(gsi hb).1
   have s2:al H (upd H' T' (.tup [.int (i:Nat),.ref b])):=aZ hS hT
   refine⟨T',_,rfl,SqT.of ag,rfl,_,_,rfl,_,_,rfl,rfl,?_⟩
   generalize upd H' T' (.tup [.int (i:Nat),.ref b])=H2 at s2
   have o2:=o.same s2
   have hbb:SqT K H2 b (iV [(S.lines[i].1:Int),(S.lines[i].2:Int)]):=SqT.of (o2.li i b _ hb (gge hil))
   have bad:WL.b7 (ok5 S) F5 S.lines i S.lines[i]=true->∀H3,al H H3->∀q,H3 q=none->Q (.ref q) (upd H3 q (.tup [.int 5,.int (pR S i)])):=λ z H3 s3 q hq=>by
    have e:FX (ok5 S) F5 S.lines=some i:=by
     rw[WL.d9]
     exact WL.em hil z λ j hj=>hok j (by omega) hj
    rw[e]at k
    exact dG.some' k s3 q hq
   have next:WL.b7 (ok5 S) F5 S.lines i S.lines[i]=false->∀j (hj:j<S.lines.length),j<i+1->WL.b7 (ok5 S) F5 S.lines j S.lines[j]=false:=λ z j hj h=>by
    by_cases c:j<i
    ·exact hok j hj c
    ·have:j=i:=by omega
     subst this
     exact z
   have cont:∀(t:Bool),t=(!ok5 S S.lines[i])->sT (tOr (tB (a8 3)) (yU (fh (tOp (rI0 λ i j=>.bl (decide (j<i))) (a8 1) (tC (.int 0)))) (fh (tOp (DQ K) (a8 2) (tOp (uR K) (xL K (a8 0) "lines") (tOp (rI0 λ i j=>.int (i-j)) (a8 1) (tC (.int 1))))))))
     (mw (uZ (bD (tC (.int 5)) (bD (kj C "place_of_line" (vD C) [] E0 (a8 0) (bD (a8 1) fY)) fY)))) mf
     { nx:=λ σ H'=>al H H'/\(∃v1 v2 v3,σ=[some (.ref a),v1,v2,v3])/\∀j (hj:j<S.lines.length),j<i+1->WL.b7 (ok5 S) F5 S.lines j S.lines[j]=false,rt:=Q,bk:=λ σ H'=>Q .non H',ct:=λ σ H'=>al H H'/\(∃v1 v2 v3,σ=[some (.ref a),v1,v2,v3])/\∀j (hj:j<S.lines.length),j<i+1->WL.b7 (ok5 S) F5 S.lines j S.lines[j]=false }
     [some (.ref a),some (.int (i:Nat)),some (.ref b),some (.bl t)] H2:=λ t et=>by
    refine⟨_,rfl,_,rfl,aS (λ c1=>?_) (λ c1=>?_)⟩
    ·refine eI ?_
     refine⟨_,rfl,a,dx,_,rfl,o2.at_,b9 (.inl (.inr rfl)),_,rfl,a,S,_,rfl,o2.draw,(by show 2<=EL;decide),λ q hq=>?_⟩
     refine bad ?_ H2 s2 q hq
     unfold WL.b7
     rw[<-et,c1,IB]
    ·have okt:(!ok5 S S.lines[i])=false:=by rw[<-et];exact cJ c1
     refine⟨_,rfl,_,_,rfl,rfl,_,rfl,aS (λ c2=>?_) (λ c2=>?_)⟩
     ·have c2:(0:Int)<((i:Nat):Int):=EH c2
      obtain⟨i',rfl⟩:∃i',i=i'+1:=⟨i-1,by omega⟩
      obtain⟨b',hb'⟩:=o2.hasL (i:=i') (by omega)
      have hbb':SqT K H2 b' (iV [(S.lines[i'].1:Int),(S.lines[i'].2:Int)]):=SqT.of (o2.li i' b' _ hb' (gge (by omega)))
      refine⟨_,rfl,_,rfl,a,C,dx,_,_,rfl,o2.at_,T.cl,T.nL,pZ,_,rfl,_,_,rfl,rfl,l,_,_,_,rfl,rfl,SqL.of o2.ll,aA (j:=i') (by omega) (aP hb'),b,b',_,_,rfl,rfl,hbb,hbb',?_⟩
      have hbe:WL.b7 (ok5 S) F5 S.lines (i'+1) S.lines[i'+1]=!(F5 S.lines[i'] S.lines[i'+1]):=by
       rw[WL.jO (by omega),okt,Bool.false_or]
      rw[xM]
      refine⟨_,rfl,aS (λ c3=>?_) (λ c3=>?_)⟩
      ·refine⟨_,rfl,a,dx,_,rfl,o2.at_,b9 (.inl (.inr rfl)),_,rfl,a,S,_,rfl,o2.draw,(by show 2<=EL;decide),λ q hq=>?_⟩
       exact bad (by rw[hbe];exact c3) H2 s2 q hq
      ·exact⟨s2,⟨_,_,_,rfl⟩,next (by rw[hbe];exact cJ c3)⟩
     ·have c2:=aG c2
      have i0:i=0:=by omega
      subst i0
      exact⟨s2,⟨_,_,_,rfl⟩,next (by rw[WL.jC];exact okt)⟩
   refine⟨_,rfl,b,_,_,_,rfl,rfl,hbb,aA (j:=0) rfl rfl,_,rfl,b,_,_,_,rfl,rfl,hbb,aA (j:=1) rfl rfl,_,_,rfl,rfl,_,rfl,aS (λ c1=>?_) (λ c1=>?_)⟩
   ·have c1:(S.lines[i].2:Int)<=(S.lines[i].1:Int):=EH c1
    refine cont true ?_
    unfold ok5
    rw[dqf (by omega),FF]
    rfl
   ·have c1:¬(S.lines[i].2:Int)<=(S.lines[i].1:Int):=aG c1
    refine⟨_,rfl,b,_,_,_,rfl,rfl,hbb,aA (j:=1) rfl rfl,_,rfl,a,C,dx,_,_,rfl,o2.at_,T.cl,T.nP,iG,p,_,rfl,.inl (SqL.of o2.pl),_,_,rfl,rfl,?_⟩
    refine cont _ ?_
    unfold ok5
    rw[dqt (by omega:S.lines[i].1<S.lines[i].2),F4,<-decide_not,E1,lmp,o.pn]
    omega
  ·rintro σ H' ⟨hS,⟨v1,v2,v3,rfl⟩,hok⟩
   have e:FX (ok5 S) F5 S.lines=none:=by
    rw[WL.d9]
    refine WL.dU λ j hj=>hok j hj ?_
    rw[lmp,o.ln]
    exact hj
   rw[e]at k
   exact k H' hS
end
open PySem PySem.Spec PyProof.Rows L2 Wg Wx CM
open Gla (Pt)
section
variable  {P:E8}{w:FL}{K:FQ}{mg:Str->Option Value}{base:Heap}{C:EJ}
theorem vi {S:Gla.Plan}{x:Nat×Nat}{j:Nat}(h0:j<S.pts.length)(h1:x.1<j)(h2:j<x.2)(h:Gla.isOn (S.pt x.1) (S.pt x.2) (S.pt j)=true):WL.nE S x=true:=by
 unfold WL.nE
 rw[GS]
 exact⟨j,F3.2 h0,by rw[dqt h1,dqt h2,h];rfl⟩
theorem wq {S:Gla.Plan}{x:Nat×Nat}(h:∀j,x.1<j->j<x.2->Gla.isOn (S.pt x.1) (S.pt x.2) (S.pt j)=false):WL.nE S x=false:=by
 unfold WL.nE
 rw[Hu]
 intro j _ z
 rw[EO,EO]at z
 rw[h j (EH z.1) (EH z.2.1)]at z
 exact absurd z.2.2 (by decide)
def DR (K:FQ)(H:Hp)(b:EJ)(x:Nat×Nat):Prop:=SqT K H b (iV [(x.1:Int),(x.2:Int)])
theorem Op.lnAt {H:Hp}{a dx p l m:EJ}{S:Gla.Plan}{ps ls ms:List EJ}(o:Op K C H a dx p l m S ps ls ms){i:Nat}{b:EJ}(hi:i<S.lines.length)(e:ls[i]? = some b):DR K H b S.lines[i]:=SqT.of (o.li i b _ e (gge hi))
def Dg (K:FQ)(C:EJ):Sp:=λ vs H Q _=>∃(a b:EJ) (S:Gla.Plan) (x:Nat×Nat),vs=[.ref a,.ref b]/\bz C H a S/\SB S/\DR K H b x/\x.1<x.2/\x.2<S.pts.length/\Q (.bl (WL.nE S x)) H
theorem yP:aq ["drawing","line","p","q","k"] ["drawing","line"] (ah cU):=⟨rfl,rfl,rfl,by decide +kernel,rfl,by decide +kernel,by decide +kernel⟩
theorem DE (F:Has K mg "has_point_on_it" cU ["drawing","line"]) (T:DCl K mg C) (gr:mg "range"=none) (C1:Cb P w K mg base 2 "is_on" ["p","q","r"] (Az K)) :
  Cb P w K mg base 3 "has_point_on_it" ["drawing","line"] (Dg K C):=by
 refine F.cb yP (λ vs H Q E h=>?_) (λ f cdv A outer s H vs Q E hr h=>?_)
 ·obtain⟨a,b,S,x,rfl,_⟩:=h
  rfl
 ·obtain⟨a,b,S,x,rfl,hd,sb,hx,x1,x2,k⟩:=h
  obtain⟨dx,p,l,m,ps,ls,ms,o⟩:=hd.op (K:=K)
  have np:=sb.np
  have hx:SqT K H b (iV [(x.1:Int),(x.2:Int)]):=hx
  obtain⟨b1,hb1⟩:=o.hasP (i:=x.1) (by omega)
  obtain⟨b2,hb2⟩:=o.hasP (i:=x.2) (by omega)
  refine⟨_,ad (aB (i:=2) yP.nd rfl (.inl rfl) (aw aU (aR (pv 0) rfl) (aw aD (pv 1) af (λ _ _=>rfl)) (λ _ _=>rfl))) (ad (aB (i:=3) yP.nd rfl (.inl rfl) (aw aU (aR (pv 0) rfl) (aw aD (pv 1) af (λ _ _=>rfl)) (λ _ _=>rfl)))
   (ad (bw E4 rfl (oM rfl gr (aa (aV dM (aw aD (pv 1) af (λ _ _=>rfl)) af) (aa (aw aD (pv 1) af (λ _ _=>rfl)) ac))) (au (i:=4) yP.nd rfl (.inl rfl))
    (ae (a6 (cG (aF C1 hr (aa (pv 2) (aa (pv 3) (aa (aw aU (aR (pv 0) rfl) (pv 4) (λ _ _=>rfl)) ac))))) (ae (ak el)) aJ)))
   (ae (ak el)))),?_⟩
  refine⟨_,rfl,a,C,dx,_,_,rfl,o.at_,T.cl,T.nP,iG,_,rfl,b,_,_,_,rfl,rfl,hx,aA (j:=0) rfl rfl,p,_,_,_,rfl,rfl,SqL.of o.pl,aA (j:=x.1) rfl (aP hb1),?_⟩
  refine⟨_,rfl,a,C,dx,_,_,rfl,o.at_,T.cl,T.nP,iG,_,rfl,b,_,_,_,rfl,rfl,hx,aA (j:=1) rfl rfl,p,_,_,_,rfl,rfl,SqL.of o.pl,aA (j:=x.2) rfl (aP hb2),?_⟩
  refine⟨_,rfl,b,_,_,_,rfl,rfl,hx,aA (j:=0) rfl rfl,_,_,rfl,rfl,_,rfl,b,_,_,_,rfl,rfl,hx,aA (j:=1) rfl rfl,_,_,rfl,⟨by omega,by omega,by omega,by omega⟩,jt (λ t σ H'=>H'=H/\(∃v,σ=[some (.ref a),some (.ref b),some (.ref b1),some (.ref b2),v])/\∀j,x.1<j->j<x.1+1+t->Gla.isOn (S.pt x.1) (S.pt x.2) (S.pt j)=false)
   ⟨rfl,⟨none,rfl⟩,λ j h1 h2=>by omega⟩ ?_ ?_⟩
  ·rintro t σ H' ht ⟨rfl,⟨v,rfl⟩,hno⟩
   have et:((x.1:Int)+1+(t:Int))=((x.1+1+t:Nat):Int):=by omega
   rw[et]
   obtain⟨b3,hb3⟩:=o.hasP (i:=x.1+1+t) (by omega)
   refine⟨_,rfl,_,rfl,_,rfl,a,C,dx,_,_,rfl,o.at_,T.cl,T.nP,iG,_,rfl,p,_,_,_,rfl,rfl,SqL.of o.pl,aA (j:=x.1+1+t) rfl (aP hb3),b1,b2,b3,_,_,_,rfl,o.ptAt sb hb1,o.ptAt sb hb2,o.ptAt sb hb3,_,rfl,aS (λ c=>?_) (λ c=>?_)⟩
   ·show Q (.bl true) H'
    rw[vi (j:=x.1+1+t) (by omega) (by omega) (by omega) c]at k
    exact k
   ·refine⟨rfl,⟨_,rfl⟩,λ j h1 h2=>?_⟩
    by_cases d:j<x.1+1+t
    ·exact hno j h1 d
    ·have:j=x.1+1+t:=by omega
     subst this
     exact cJ c
  ·rintro σ H' ⟨rfl,⟨v,rfl⟩,hno⟩
   rw[wq λ j h1 h2=>hno j h1 (by omega)]at k
   exact k
def gv (S:Gla.Plan):Prop:=∀l∈S.lines,l.1<l.2/\l.2<S.pts.length
def B1 (C:EJ):Sp:=λ vs H Q _=>∃(a:EJ) (S:Gla.Plan) (i:Nat) (hi:i<S.lines.length),vs=[.ref a,.int (i:Int)]/\bz C H a S/\SB S/\gv S/\Q (.bl (WL.jE S i S.lines[i])) H
theorem uT:aq ["drawing","k","line","p","q","j","earlier"] ["drawing","k"] (ah cg):=⟨rfl,rfl,rfl,by decide +kernel,rfl,by decide +kernel,by decide +kernel⟩
theorem vG {S:Gla.Plan}{x:Nat×Nat}{i j:Nat}(hi:i<=S.lines.length)(hj:j<i)(h1:x.1<(S.lines[j]'(by omega)).2)(h:Gla.crosses (S.pt x.1) (S.pt x.2) (S.pt (S.lines[j]'(by omega)).1) (S.pt (S.lines[j]'(by omega)).2)=true):WL.jE S i x=true:=by
 unfold WL.jE
 rw[GS]
 refine⟨S.lines[j]'(by omega),?_,by rw[dqt h1,h];rfl⟩
 rw[GG]
 exact⟨j,by omega,rfl⟩
theorem wI {S:Gla.Plan}{x:Nat×Nat}{i:Nat}(h:∀j (hj:j<S.lines.length),j<i->(decide (x.1<(S.lines[j]).2)&&Gla.crosses (S.pt x.1) (S.pt x.2) (S.pt (S.lines[j]).1) (S.pt (S.lines[j]).2))=false):WL.jE S i x=false:=by
 unfold WL.jE
 rw[Hu]
 intro y hy z
 rw[GG]at hy
 obtain⟨j,hj,rfl⟩:=hy
 rw[h j (by omega) (by omega)]at z
 exact absurd z (by decide)
theorem CC (F:Has K mg "crosses_one_before" cg ["drawing","k"]) (T:DCl K mg C) (gr:mg "range"=none) (C1:Cb P w K mg base 3 "do_cross" ["p","q","r","s"] (tY K)) :
  Cb P w K mg base 4 "crosses_one_before" ["drawing","k"] (B1 C):=by
 refine F.cb uT (λ vs H Q E h=>?_) (λ f cdv A outer s H vs Q E hr h=>?_)
 ·obtain⟨a,S,i,hi,rfl,_⟩:=h
  rfl
 ·obtain⟨a,S,i,hi,rfl,hd,sb,hlo,k⟩:=h
  obtain⟨dx,p,l,m,ps,ls,ms,o⟩:=hd.op (K:=K)
  have np:=sb.np
  have nl:=sb.nl
  obtain⟨x1,x2⟩:=hlo _ (Fm hi)
  obtain⟨b,hb⟩:=o.hasL (i:=i) hi
  have hx:SqT K H b (iV [(S.lines[i].1:Int),(S.lines[i].2:Int)]):=o.lnAt hi hb
  obtain⟨b1,hb1⟩:=o.hasP (i:=S.lines[i].1) (by omega)
  obtain⟨b2,hb2⟩:=o.hasP (i:=S.lines[i].2) (by omega)
  refine⟨_,ad (aB (i:=2) uT.nd rfl (.inl rfl) (aw aU (aR (pv 0) rfl) (pv 1) (λ _ _=>rfl))) (ad (aB (i:=3) uT.nd rfl (.inl rfl) (aw aU (aR (pv 0) rfl) (aw aD (pv 2) af (λ _ _=>rfl)) (λ _ _=>rfl))) (ad (aB (i:=4) uT.nd rfl (.inl rfl) (aw aU (aR (pv 0) rfl) (aw aD (pv 2) af (λ _ _=>rfl)) (λ _ _=>rfl)))
   (ad (bw E4 rfl (oh rfl gr (aa (pv 1) ac)) (au (i:=5) uT.nd rfl (.inl rfl))
    (ad (aB (i:=6) uT.nd rfl (.inl rfl) (aw aU (aR (pv 0) rfl) (pv 5) (λ _ _=>rfl)))
    (ae (a6 (jD (aK d6 (aw aD (pv 6) af (λ _ _=>rfl)) (aw aD (pv 2) af (λ _ _=>rfl)) (aI _)) (io (cG (aF C1 hr (aa (pv 3) (aa (pv 4) (aa (aw aU (aR (pv 0) rfl) (aw aD (pv 6) af (λ _ _=>rfl)) (λ _ _=>rfl)) (aa (aw aU (aR (pv 0) rfl) (aw aD (pv 6) af (λ _ _=>rfl)) (λ _ _=>rfl)) ac)))))))).pt (ae (ak el)) aJ))))
   (ae (ak el))))),?_⟩
  refine⟨_,rfl,a,C,dx,_,_,rfl,o.at_,T.cl,T.nL,pZ,_,rfl,l,_,_,_,rfl,rfl,SqL.of o.ll,aA (j:=i) rfl (aP hb),?_⟩
  refine⟨_,rfl,a,C,dx,_,_,rfl,o.at_,T.cl,T.nP,iG,_,rfl,b,_,_,_,rfl,rfl,hx,aA (j:=0) rfl rfl,p,_,_,_,rfl,rfl,SqL.of o.pl,aA (j:=S.lines[i].1) rfl (aP hb1),?_⟩
  refine⟨_,rfl,a,C,dx,_,_,rfl,o.at_,T.cl,T.nP,iG,_,rfl,b,_,_,_,rfl,rfl,hx,aA (j:=1) rfl rfl,p,_,_,_,rfl,rfl,SqL.of o.pl,aA (j:=S.lines[i].2) rfl (aP hb2),?_⟩
  refine⟨_,rfl,_,rfl,by omega,by omega,jt (λ t σ H'=>H'=H/\(∃v1 v2,σ=[some (.ref a),some (.int (i:Int)),some (.ref b),some (.ref b1),some (.ref b2),v1,v2])/\∀j (hj:j<S.lines.length),j<t->(decide (S.lines[i].1<(S.lines[j]).2)&&Gla.crosses (S.pt S.lines[i].1) (S.pt S.lines[i].2) (S.pt (S.lines[j]).1) (S.pt (S.lines[j]).2))=false)
   ⟨rfl,⟨none,none,rfl⟩,λ j h1 h2=>by omega⟩ ?_ ?_⟩
  ·rintro t σ H' ht ⟨rfl,⟨v1,v2,rfl⟩,hno⟩
   rw[F0]at ht
   rw[Int.zero_add]
   have htl:t<S.lines.length:=by omega
   obtain⟨y1,y2⟩:=hlo _ (Fm htl)
   obtain⟨c,hc⟩:=o.hasL (i:=t) htl
   have hy:SqT K H' c (iV [(S.lines[t].1:Int),(S.lines[t].2:Int)]):=o.lnAt htl hc
   obtain⟨b3,hb3⟩:=o.hasP (i:=S.lines[t].1) (by omega)
   obtain⟨b4,hb4⟩:=o.hasP (i:=S.lines[t].2) (by omega)
   have next:(decide (S.lines[i].1<(S.lines[t]).2)&&Gla.crosses (S.pt S.lines[i].1) (S.pt S.lines[i].2) (S.pt (S.lines[t]).1) (S.pt (S.lines[t]).2))=false->∀j (hj:j<S.lines.length),j<t+1->(decide (S.lines[i].1<(S.lines[j]).2)&&Gla.crosses (S.pt S.lines[i].1) (S.pt S.lines[i].2) (S.pt (S.lines[j]).1) (S.pt (S.lines[j]).2))=false:=λ z j hj h=>by
    by_cases d:j<t
    ·exact hno j hj d
    ·have:j=t:=by omega
     subst this
     exact z
   refine⟨_,rfl,a,C,dx,_,_,rfl,o.at_,T.cl,T.nL,pZ,_,rfl,l,_,_,_,rfl,rfl,SqL.of o.ll,aA (j:=t) rfl (aP hc),?_⟩
   refine⟨_,rfl,c,_,_,_,rfl,rfl,hy,aA (j:=1) rfl rfl,_,rfl,b,_,_,_,rfl,rfl,hx,aA (j:=0) rfl rfl,_,_,rfl,rfl,_,rfl,aS (λ c1=>?_) (λ c1=>?_)⟩
   ·have c1:(S.lines[i].1:Int)<(S.lines[t].2:Int):=EH c1
    refine⟨_,rfl,_,rfl,_,rfl,a,C,dx,_,_,rfl,o.at_,T.cl,T.nP,iG,_,rfl,c,_,_,_,rfl,rfl,hy,aA (j:=0) rfl rfl,p,_,_,_,rfl,rfl,SqL.of o.pl,aA (j:=S.lines[t].1) rfl (aP hb3),_,rfl,a,C,dx,_,_,rfl,o.at_,T.cl,T.nP,iG,_,rfl,c,_,_,_,rfl,rfl,hy,aA (j:=1) rfl rfl,p,_,_,_,rfl,rfl,SqL.of o.pl,aA (j:=S.lines[t].2) rfl (aP hb4),b1,b2,b3,b4,_,_,_,_,rfl,o.ptAt sb hb1,o.ptAt sb hb2,o.ptAt sb hb3,o.ptAt sb hb4,_,rfl,aS (λ c2=>?_) (λ c2=>?_)⟩
    ·show Q (.bl true) H'
     rw[vG (j:=t) (by omega) ht (by omega) c2]at k
     exact k
    ·exact⟨rfl,⟨_,_,rfl⟩,next (by rw[cJ c2,Bool.and_false])⟩
   ·have c1:¬(S.lines[i].1:Int)<(S.lines[t].2:Int):=aG c1
    exact⟨rfl,⟨_,_,rfl⟩,next (by rw[dqf (by omega),FF])⟩
  ·rintro σ H' ⟨rfl,⟨v1,v2,rfl⟩,hno⟩
   rw[F0]at hno
   rw[wI hno]at k
   exact k
def Dc (C:EJ):Sp:=λ vs H Q _=>∃(a:EJ) (S:Gla.Plan),vs=[.ref a]/\bz C H a S/\SB S/\WL.R4 S/\WL.R5 S/\dG (jy 7 (pR S) (Gla.firstAt (HW S) S.lines)) H Q
theorem AO:aq ["drawing","k","line"] ["drawing"] (ah b8):=⟨rfl,rfl,rfl,by decide +kernel,rfl,by decide +kernel,by decide +kernel⟩
theorem BV (F:Has K mg "fault_of_crossings" b8 ["drawing"]) (T:DCl K mg C) (ge:mg "enumerate"=none) (C1:Cb P w K mg base 3 "has_point_on_it" ["drawing","line"] (Dg K C)) (C2:Cb P w K mg base 4 "crosses_one_before" ["drawing","k"] (B1 C)) (C3:Cm P w K mg base 2 C "place_of_line" ["self","k"] (vD C)) :
  Cb P w K mg base 5 "fault_of_crossings" ["drawing"] (Dc C):=by
 refine F.cb AO (λ vs H Q E h=>?_) (λ f cdv A outer s H vs Q E hr h=>?_)
 ·obtain⟨a,S,rfl,_⟩:=h
  rfl
 ·obtain⟨a,S,rfl,hd,sb,h4,h5,k⟩:=h
  obtain⟨dx,p,l,m,ps,ls,ms,o⟩:=hd.op (K:=K)
  have hr3:bu 3 _:=hr.mono (by decide)
  have hr2:bu 2 _:=hr.mono (by decide)
  have hlo:gv S:=λ l hl=>h5.line hl
  refine⟨_,ad (bw E4 rfl (dX rfl ge (aa (aR (pv 0) rfl) ac)) (cT (n:=2) rfl (aL (au (i:=1) AO.nd rfl (.inl rfl)) (aL (au (i:=2) AO.nd rfl (.inl rfl)) bU)))
    (ae (a6 (mh (cG (aF C1 hr3 (aa (pv 0) (aa (pv 2) ac)))) (jB (cG (aF C2 hr (aa (pv 0) (aa (pv 1) ac)))))).pt
     (ae (ak (bA (aa af (aa (hG (pv 0) T.cl C3 hr2 (aa (pv 1) ac)) ac))))) aJ)))
   (ae (ak bc)),?_⟩
  refine⟨_,rfl,a,C,dx,_,_,rfl,o.at_,T.cl,T.nL,pZ,l,_,rfl,SqL.of o.ll,dt (K:=K) (a:=l) (xs:=ls.map V.ref) (λ i σ H'=>al H H'/\(∃v1 v2,σ=[some (.ref a),v1,v2])/\∀j (hj:j<S.lines.length),j<i->HW S j S.lines[j]=false)
   ⟨al.refl H,⟨none,none,rfl⟩,λ j hj h=>absurd h (FT _)⟩ (λ i σ H' _ h=>SqL.of (h.1 _ _ o.ll)) ?_ ?_⟩
  ·rintro i y T' σ H' hi hT ⟨hS,⟨v1,v2,rfl⟩,hok⟩
   obtain⟨b,hb,rfl⟩:=cu hi
   have hil:i<S.lines.length:=by rw[<-o.ln];exact(gsi hb).1
   have s2:al H (upd H' T' (.tup [.int (i:Nat),.ref b])):=aZ hS hT
   refine⟨T',_,rfl,SqT.of ag,rfl,_,_,rfl,_,_,rfl,rfl,?_⟩
   generalize upd H' T' (.tup [.int (i:Nat),.ref b])=H2 at s2
   have o2:=o.same s2
   have te:=WL.wu h4 h5 i (Fm hil)
   have ret:HW S i S.lines[i]=true->mw (uZ (bD (tC (.int 7)) (bD (kj C "place_of_line" (vD C) [] E0 (a8 0) (bD (a8 1) fY)) fY)))
     { nx:=λ σ H'=>al H H'/\(∃v1 v2,σ=[some (.ref a),v1,v2])/\∀j (hj:j<S.lines.length),j<i+1->HW S j S.lines[j]=false,rt:=Q,bk:=λ σ H'=>Q .non H',ct:=λ σ H'=>al H H'/\(∃v1 v2,σ=[some (.ref a),v1,v2])/\∀j (hj:j<S.lines.length),j<i+1->HW S j S.lines[j]=false }
     [some (.ref a),some (.int (i:Nat)),some (.ref b)] H2:=λ z=>by
    refine⟨_,rfl,a,dx,_,rfl,o2.at_,b9 (.inl (.inr rfl)),_,rfl,a,S,_,rfl,o2.draw,(by show 2<=EL;decide),λ q hq=>?_⟩
    have e:Gla.firstAt (HW S) S.lines=some i:=WL.em hil z λ j hj=>hok j (by omega) hj
    rw[e]at k
    exact dG.some' k s2 q hq
   refine⟨_,rfl,_,rfl,a,b,S,S.lines[i],rfl,o2.draw,sb,o2.lnAt hil hb,(hlo _ (Fm hil)).1,(hlo _ (Fm hil)).2,_,rfl,aS (λ c1=>?_) (λ c1=>?_)⟩
   ·exact eI (ret (by rw[te,c1];rfl))
   ·refine⟨_,rfl,_,rfl,a,S,i,hil,rfl,o2.draw,sb,hlo,_,rfl,aS (λ c2=>?_) (λ c2=>?_)⟩
    ·exact ret (by rw[te,c2,Bool.or_true])
    ·refine⟨s2,⟨_,_,rfl⟩,λ j hj h=>?_⟩
     by_cases c:j<i
     ·exact hok j hj c
     ·have:j=i:=by omega
      subst this
      rw[te,cJ c1,cJ c2]
      rfl
  ·rintro σ H' ⟨hS,⟨v1,v2,rfl⟩,hok⟩
   have e:Gla.firstAt (HW S) S.lines=none:=by
    refine WL.dU λ j hj=>hok j hj ?_
    rw[lmp,o.ln]
    exact hj
   rw[e]at k
   exact k H' hS
end
open PySem PySem.Spec PyProof.Rows L2 Wg Wx CM
open Gla (Pt)
def nI (l:List Nat):List Int:=l.map λ(x:Nat)=>(x:Int)
def tM (i:Nat)(l:Nat×Nat):Option Nat:=if l.1=i then some l.2 else if l.2=i then some l.1 else none
def eE (S:Gla.Plan)(t i:Nat):List Nat:=(S.lines.take t).filterMap (tM i)
theorem tD (S:Gla.Plan)(i:Nat):eE S S.lines.length i=S.near i:=by
 unfold eE
 rw[GE]
 rfl
theorem nw (S:Gla.Plan)(t i:Nat):(eE S t i).length<=t:=by
 refine Fw (List.length_filterMap_le _ _) ?_
 rw[FM]
 omega
theorem rC {S:Gla.Plan}{t:Nat}(ht:t<S.lines.length)(i:Nat):eE S (t+1) i=eE S t i++(tM i S.lines[t]).toList:=by
 unfold eE
 rw[bY (gge ht),List.filterMap_append]
 congr 1
structure NbS (H0 H:Hp)(N:EJ)(as:List EJ)(f:Nat->List Nat):Prop where
 sm:al H0 H
 fr:H0 N=none
 at_:H N=some (.lst (as.map V.ref))
 nd:∀(i j:Nat) (b:EJ),as[i]? = some b->as[j]? = some b->i=j
 row:∀(i:Nat) (b:EJ),as[i]? = some b->b≠N/\H0 b=none/\H b=some (.lst (iV (nI (f i))))
theorem NbS.push {H0 H:Hp}{N:EJ}{as:List EJ}{f g:Nat->List Nat}(h:NbS H0 H N as f){i:Nat}{b:EJ}{z:Nat}(e:as[i]? = some b)(hg:∀j,j<as.length->g j=if j=i then f i++[z] else f j) :
  NbS H0 (upd H b (.lst (iV (nI (f i))++[.int (z:Int)]))) N as g:=by
 obtain⟨r1,r2,r3⟩:=h.row i b e
 refine⟨aY h.sm r2,h.fr,by rw[ap r1.symm];exact h.at_,h.nd,λ j c ec=>?_⟩
 obtain⟨q1,q2,q3⟩:=h.row j c ec
 refine⟨q1,q2,?_⟩
 have hj:=(gsi ec).1
 by_cases cj:j=i
 ·subst cj
  rw[e]at ec
  have ec:=osi ec
  subst ec
  rw[ag,hg j hj,EU rfl]
  unfold nI iV
  rw[Fi,Fi]
  rfl
 ·rw[hg j hj,EM cj]
  rw[ap (λ z=>cj (h.nd j i b (by rw[<-z];exact ec) e))]
  exact q3
section
variable  {P:E8}{w:FL}{K:FQ}{mg:Str->Option Value}{base:Heap}{C:EJ}
def As (C:EJ):Sp:=λ vs H Q _=>∃(a:EJ) (S:Gla.Plan),vs=[.ref a]/\bz C H a S/\SB S/\gv S/\∀(H':Hp) (N:EJ) (as:List EJ),NbS H H' N as S.near->as.length=S.pts.length->Q (.ref N) H'
theorem yL:aq ["drawing","neighbours","line","point"] ["drawing"] (ah cO):=⟨rfl,rfl,rfl,by decide +kernel,rfl,by decide +kernel,by decide +kernel⟩
theorem B8 (F:Has K mg "neighbours_of" cO ["drawing"]) (T:DCl K mg C):Cb P w K mg base 1 "neighbours_of" ["drawing"] (As C):=by
 refine F.cb yL (λ vs H Q E h=>?_) (λ f cdv A outer s H vs Q E hr h=>?_)
 ·obtain⟨a,S,rfl,_⟩:=h
  rfl
 ·obtain⟨a,S,rfl,hd,sb,hlo,k⟩:=h
  obtain⟨dx,p,l,m,ps,ls,ms,o⟩:=hd.op (K:=K)
  have np:=sb.np
  have nl:=sb.nl
  refine⟨_,ad (cw (i:=1) (own:=[("point",3)]) rfl yL.nd rfl rfl (dH rfl rfl rfl (by decide +kernel)) (bQ (aR (pv 0) rfl)) (bL (by show iH ["drawing","neighbours","line","point"] (ah cO) _ _=true;decide +kernel))
    (λ _ _ _ _ _=>au (i:=3) yL.nd rfl (.inl rfl) (.inr rfl)) (λ _ _ _ _ _=>eU) (λ _ _ _ _ _=>dL ac))
   (ad (bw E4 rfl (bQ (aR (pv 0) rfl)) (au (i:=2) yL.nd rfl (.inl rfl))
    (ad (jh (ly FU GO GP hU (aw aU (pv 1) (aw aD (pv 2) af (λ _ _=>rfl)) (λ _ _=>rfl)) (aa (aw aD (pv 2) af (λ _ _=>rfl)) ac)))
    (ae (jh (ly FU GO GP hU (aw aU (pv 1) (aw aD (pv 2) af (λ _ _=>rfl)) (λ _ _=>rfl)) (aa (aw aD (pv 2) af (λ _ _=>rfl)) ac))))))
   (ae (ak (pv 1)))),?_⟩
  refine⟨_,rfl,a,C,dx,_,_,rfl,o.at_,T.cl,T.nP,iG,p,rfl,⟨_,SqL.of o.pl⟩,λ D hD=>?_⟩
  refine ia (K:=K) (a:=p) (xs:=ps.map V.ref) (λ i H'=>∃as:List EJ,al H H'/\H' D=some (.lst (as.map V.ref))/\as.length=i/\(∀(i j:Nat) (b:EJ),as[i]? = some b->as[j]? = some b->i=j)/\∀(j:Nat) (b:EJ),as[j]? = some b->b≠D/\H b=none/\H' b=some (.lst []))
   ⟨[],aN hD,ag,rfl,λ i j b e=>by simp at e,λ j b e=>by simp at e⟩ (λ i H' _ h=>by obtain⟨as,h1,_⟩:=h;exact SqL.of (h1 _ _ o.pl)) ?_ ?_
  ·rintro i y H' hi ⟨as,hS,hDl,hlen,hnd,hat⟩
   have hil:i<ps.length:=by
    have:=(gsi hi).1
    rw[lmp]at this
    exact this
   have pn:=o.pn
   refine⟨rfl,nS (eI ?_)⟩
   refine⟨(by show 0<=EL;decide),λ q hq=>?_⟩
   have nqD:q≠D:=λ z=>by rw[z,hDl]at hq;cases hq
   refine⟨as.map V.ref,by rw[ap nqD.symm];exact hDl,by rw[lmp];exact bG (by omega),as++[q],aY (aZ hS hq) hD,?_,by rw[EN,hlen];rfl,?_,?_⟩
   ·rw[ag,Fi]
    rfl
   ·have old:∀(j:Nat),as[j]? = some q->False:=λ j e=>by
     have:=(hat j q e).2.2
     rw[hq]at this
     cases this
    intro j1 j2 b e1 e2
    by_cases c1:j1<as.length
    ·rw[Fd c1]at e1
     by_cases c2:j2<as.length
     ·rw[Fd c2]at e2
      exact hnd j1 j2 b e1 e2
     ·have h2:=(gsi e2).1
      rw[EN]at h2
      have ej:j2=as.length:=by simp at h2;omega
      subst ej
      rw[E6 (nlr _),Gh]at e2
      have e2:q=b:=osi e2
      subst e2
      exact(old j1 e1).elim
    ·have h1:=(gsi e1).1
     rw[EN]at h1
     have ej1:j1=as.length:=by simp at h1;omega
     by_cases c2:j2<as.length
     ·rw[Fd c2]at e2
      subst ej1
      rw[E6 (nlr _),Gh]at e1
      have e1:q=b:=osi e1
      subst e1
      exact(old j2 e2).elim
     ·have h2:=(gsi e2).1
      rw[EN]at h2
      have ej2:j2=as.length:=by simp at h2;omega
      omega
   ·intro j b e
    by_cases c:j<as.length
    ·rw[Fd c]at e
     obtain⟨n1,n2,n3⟩:=hat j b e
     refine⟨n1,n2,?_⟩
     rw[ap n1,ap (aQ n3 hq)]
     exact n3
    ·have h1:=(gsi e).1
     rw[EN]at h1
     have ej:j=as.length:=by simp at h1;omega
     subst ej
     rw[E6 (nlr _),Gh]at e
     have e:q=b:=osi e
     subst e
     refine⟨nqD,hS.free hq,?_⟩
     rw[ap nqD]
     exact ag
  rintro H1 ⟨as,hS,hDl,hlen,hnd,hat⟩
  rw[lmp,o.pn]at hlen
  have hb0:NbS H H1 D as (eE S 0):=⟨hS,hD,hDl,hnd,λ i b e=>hat i b e⟩
  have o1:=o.same hS
  refine⟨_,rfl,a,C,dx,_,_,rfl,o1.at_,T.cl,T.nL,pZ,l,rfl,⟨_,SqL.of o1.ll⟩,eh (K:=K) (a:=l) (xs:=ls.map V.ref) (λ i σ H'=>(∃v,σ=[some (.ref a),some (.ref D),v,none])/\NbS H H' D as (eE S i))
   ⟨⟨none,rfl⟩,hb0⟩ (λ i σ H' _ h=>SqL.of (h.2.sm _ _ o.ll)) ?_ ?_⟩
  ·rintro t y σ H' hi ⟨⟨v,rfl⟩,hb⟩
   obtain⟨b,hbl,rfl⟩:=cu hi
   have ht:t<S.lines.length:=by rw[<-o.ln];exact(gsi hbl).1
   obtain⟨x1,x2⟩:=hlo _ (Fm ht)
   obtain⟨c1,hc1⟩:∃c,as[S.lines[t].1]? = some c:=⟨as[S.lines[t].1]'(by omega),gge _⟩
   obtain⟨c2,hc2⟩:∃c,as[S.lines[t].2]? = some c:=⟨as[S.lines[t].2]'(by omega),gge _⟩
   have hx:SqT K H' b (iV [(S.lines[t].1:Int),(S.lines[t].2:Int)]):=(o.same hb.sm).lnAt ht hbl
   have hr1:=(hb.row _ _ hc1).2.2
   refine⟨_,rfl,_,rfl,b,_,_,_,rfl,rfl,hx,aA (j:=0) rfl rfl,D,_,_,_,rfl,rfl,SqL.of hb.at_,aA (j:=S.lines[t].1) rfl (aP hc1),.inl ⟨rfl,_,SqL.of hr1⟩,_,rfl,b,_,_,_,rfl,rfl,hx,aA (j:=1) rfl rfl,c1,_,_,rfl,rfl,hr1,?_,?_⟩
   ·unfold iV nI
    rw[lmp,lmp]
    have:=nw S t S.lines[t].1
    exact bG (by omega)
   have hb2:=hb.push (g:=λ j=>if j=S.lines[t].1 then eE S t S.lines[t].1++[S.lines[t].2] else eE S t j) hc1 (λ j _=>rfl)
   generalize upd H' c1 (.lst (iV (nI (eE S t S.lines[t].1))++[.int (S.lines[t].2:Int)]))=H2 at hb2
   have hx2:SqT K H2 b (iV [(S.lines[t].1:Int),(S.lines[t].2:Int)]):=(o.same hb2.sm).lnAt ht hbl
   have hr2:=(hb2.row _ _ hc2).2.2
   rw[EM (show ¬S.lines[t].2=S.lines[t].1 by omega)]at hr2
   refine⟨_,rfl,_,rfl,b,_,_,_,rfl,rfl,hx2,aA (j:=1) rfl rfl,D,_,_,_,rfl,rfl,SqL.of hb2.at_,aA (j:=S.lines[t].2) rfl (aP hc2),.inl ⟨rfl,_,SqL.of hr2⟩,_,rfl,b,_,_,_,rfl,rfl,hx2,aA (j:=0) rfl rfl,c2,_,_,rfl,rfl,hr2,?_,?_⟩
   ·unfold iV nI
    rw[lmp,lmp]
    have:=nw S t S.lines[t].2
    exact bG (by omega)
   refine⟨⟨_,rfl⟩,?_⟩
   have hb3:=hb2.push (g:=eE S (t+1)) hc2 (z:=S.lines[t].1) (λ j _=>by
    rw[rC ht,EM (show ¬S.lines[t].2=S.lines[t].1 by omega)]
    unfold tM
    by_cases e2:j=S.lines[t].2
    ·rw[EU e2,EM (by omega),EU e2.symm,e2]
     rfl
    ·rw[EM e2]
     by_cases e1:j=S.lines[t].1
     ·rw[EU e1.symm,EU e1,e1]
      rfl
     ·rw[EM (λ z=>e1 z.symm),EM (λ z=>e2 z.symm),EM e1]
      exact Gd _)
   rw[EM (show ¬S.lines[t].2=S.lines[t].1 by omega)]at hb3
   exact hb3
  ·rintro σ H' ⟨⟨v,rfl⟩,hb⟩
   refine⟨_,rfl,k H' D as ?_ hlen⟩
   rw[lmp,o.ln]at hb
   have e:eE S S.lines.length=S.near:=funext λ i=>tD S i
   rw[e]at hb
   exact hb
end
open PySem PySem.Spec PyProof.Rows L2 Wg Wx CM
open Gla (Pt)
def loV:Option Nat->V
 |none=>.non
 |some k=>.int (k:Int)
def mkS (lo:Option Nat)(l:List Bool):List Bool:=match lo with
 |none=>l
 |some k=>l.set k true
def fA (lo:Option Nat)(n:Nat):Array Bool:=match lo with
 |none=>IC n
 |some k=>(IC n).setIfInBounds k true
theorem xF {lo:Option Nat}{j:Nat}(h:lo≠some j)(l:List Bool):(mkS lo l)[j]? = l[j]?:=by
 cases lo with
 |none=>rfl
 |some k=>exact GT (λ z=>h (by rw[z]))
theorem Ck {j:Nat}{l:List Bool}(h:j<l.length):(mkS (some j) l)[j]? = some true:=HJ h
theorem sO {lo:Option Nat}{j:Nat}(h:lo≠some j)(l:List Bool):(mkS lo l).set j true=mkS lo (l.set j true):=by
 cases lo with
 |none=>rfl
 |some k=>exact List.set_comm _ _ (λ z=>h (by rw[z]))
theorem Ad (lo:Option Nat)(l:List Bool):(mkS lo l).length=l.length:=by
 cases lo with
 |none=>rfl
 |some k=>exact List.length_set
theorem pX {a:Array Bool}{j:Nat}{b:Bool}(h:a.toList[j]? = some b):a.getD j true=b:=by
 rw[Gg,<-Array.getElem?_toList,h]
 rfl
theorem iq (lo:Option Nat)(n:Nat):(fA lo n).toList=mkS lo (GY n false):=by
 cases lo with
 |none=>exact Array.toList_replicate
 |some k =>
  show((IC n).setIfInBounds k true).toList=_
  rw[G9]
  unfold IC
  rw[Array.toList_replicate]
  rfl
def RW (H:Hp)(N:EJ)(as:List EJ)(f:Nat->List Nat):Prop:=H N=some (.lst (as.map V.ref))/\∀(i:Nat) (b:EJ),as[i]? = some b->H b=some (.lst (iV (nI (f i))))
theorem RW.same {H H':Hp}{N:EJ}{as:List EJ}{f:Nat->List Nat}(h:RW H N as f)(s:al H H'):RW H' N as f:=⟨s _ _ h.1,λ i b e=>s _ _ (h.2 i b e)⟩
theorem NbS.rw {H0 H:Hp}{N:EJ}{as:List EJ}{f:Nat->List Nat}(h:NbS H0 H N as f):RW H N as f:=⟨h.at_,λ i b e=>(h.row i b e).2.2⟩
def nrs (n:Nat)(f:Nat->List Nat):Array (List Nat):=((Fe n).map f).toArray
theorem Ap {n:Nat}{f:Nat->List Nat}{k:Nat}(h:k<n):(nrs n f).getD k []=f k:=by
 unfold nrs
 rw[Gg,List.getElem?_toArray,E2,G1 h]
 rfl
structure RfS (H H':Hp)(R Wa:EJ)(n:Nat)(lo:Option Nat)(todo:List Nat)(seen:Array Bool)(Rl:List Bool):Prop where
 sm:al H H'
 r:H' R=some (.lst (Rl.map V.bl))
 w:H' Wa=some (.lst (iV (nI todo.reverse)))
 ln:Rl.length=n
 sk:seen.toList=mkS lo Rl
 lo:∀k,lo=some k->Rl[k]? = some false
 td:∀j∈todo,j<n
section
variable  {P:E8}{w:FL}{K:FQ}{mg:Str->Option Value}{base:Heap}{C:EJ}
def zn:Sp:=λ vs H Q _=>∃(st:Nat) (N:EJ) (as:List EJ) (f:Nat->List Nat) (lo:Option Nat) (n:Nat),vs=[.int (st:Int),.ref N,loV lo]/\RW H N as f/\as.length=n/\n<=100000/\st<n/\lo≠some st/\(∀k,lo=some k->k<n)/\(∀i,i<n->∀j∈f i,j<n) /\
 ∀(H':Hp) (R:EJ) (Rl:List Bool),al H H'->H' R=some (.lst (Rl.map V.bl))->Rl.length=n->(∀k,lo=some k->Rl[k]? = some false)->mkS lo Rl=(HX (nrs n f) n st (fA lo n)).toList->Q (.ref R) H'
theorem uS:aq ["start","neighbours","left_out","reached","waiting","here","there","row"] ["start","neighbours","left_out"] (ah df):=⟨rfl,rfl,rfl,by decide +kernel,rfl,by decide +kernel,by decide +kernel⟩
theorem ui {n k:Nat}(h:k<n):ixN n (k:Int)=some k:=by
 unfold ixN
 rw[EU (by omega),EU (by omega),F0]
theorem Cj {l:List Bool}{j:Nat}{b:Bool}(h:l[j]? = some b):(l.map V.bl)[j]? = some (.bl b):=by
 rw[E2,h]
 rfl
theorem lG {l:List Nat}{i:Nat}{v:V}(h:(iV (nI l))[i]? = some v):∃x,l[i]? = some x/\v=.int (x:Int):=by
 unfold iV nI at h
 rw[E2,E2]at h
 cases e:l[i]? with
 |none=>rw[e]at h;cases h
 |some x =>
  rw[e]at h
  exact⟨x,rfl,(osi h).symm⟩
theorem gm (l:List Nat)(k:Nat):iV (nI (l++[k]))=iV (nI l)++[.int (k:Int)]:=by
 unfold iV nI
 rw[Fi,Fi]
 rfl
theorem bS (l:List Nat):(iV (nI l)).length=l.length:=by
 unfold iV nI
 rw[lmp,lmp]
theorem zm (xs:List V)(v:V):(xs++[v])[(xs++[v]).length-1]? = some v:=by
 rw[EN,List.length_singleton,Nat.add_sub_cancel,E6 (nlr _),Gh]
 rfl
theorem CU (F:Has K mg "reached_from" df ["start","neighbours","left_out"]) (gl:mg "len"=none):Cb P w K mg base 1 "reached_from" ["start","neighbours","left_out"] zn:=by
 refine F.cb uS (λ vs H Q E h=>?_) (λ ff cdv A outer s H vs Q E hr h=>?_)
 ·obtain⟨st,N,as,f,lo,n,rfl,_⟩:=h
  rfl
 ·obtain⟨st,N,as,f,lo,n,rfl,hrw,hlen,hn,hst,hlost,hlon,hfn,k⟩:=h
  refine⟨_,ad (cw (i:=3) (own:=[("row",7)]) rfl uS.nd rfl rfl (dH rfl rfl rfl (by decide +kernel)) (bQ (pv 1)) (bL (by show iH ["start","neighbours","left_out","reached","waiting","here","there","row"] (ah df) _ _=true;decide +kernel))
    (λ _ _ _ _ _=>au (i:=7) uS.nd rfl (.inl rfl) (.inr rfl)) (λ _ _ _ _ _=>eU) (λ _ _ _ _ _=>el))
   (ad (xh el (wl (pv 3) (pv 0) rY))
   (ad (aB (i:=4) uS.nd rfl (.inl rfl) (dL (aa (pv 0) ac)))
   (ad (md E4 (aK d6 (aW aO (by rfl) gl FB (aa (pv 4) ac)) af (aI _))
    (ad (aB (i:=5) uS.nd rfl (.inl rfl) (Aa FU PySem.F.slot_list_pop PySem.F.type_list_pop AR (pv 4)))
    (ae (bw E4 rfl (bQ (aw aU (pv 1) (pv 5) (λ _ _=>rfl))) (au (i:=6) uS.nd rfl (.inl rfl))
     (ae (a6 (jD (aK xQ (pv 6) (pv 2) (aI _)) (io (ja (cG (aw aU (pv 3) (pv 6) (λ _ _=>rfl)))))).pt
      (ad (xh el (wl (pv 3) (pv 6) rY))
      (ae (jh (ly FU GO GP hU (pv 4) (aa (pv 6) ac))))) aJ))))))
   (ae (ak (pv 3)))))),?_⟩
  refine⟨_,rfl,N,rfl,⟨_,SqL.of hrw.1⟩,λ D hD=>?_⟩
  refine ia (K:=K) (a:=N) (xs:=as.map V.ref) (λ i H'=>H'=upd H D (.lst ((GY i false).map V.bl))) rfl (λ i H' _ h=>by rw[h];exact SqL.of (by rw[ap (aQ hrw.1 hD)];exact hrw.1)) ?_ ?_
  ·rintro i y H' hi rfl
   have hil:i<as.length:=by
    have:=(gsi hi).1
    rw[lmp]at this
    exact this
   refine⟨rfl,nS (eI ?_)⟩
   refine⟨_,ag,by rw[lmp,Hj];exact bG (by omega),?_⟩
   rw[uF,List.replicate_succ',Fi]
   rfl
  rintro H1 rfl
  rw[lmp,hlen]
  refine⟨_,rfl,_,rfl,D,_,_,st,rfl,rfl,ag,ui (by rw[lmp,Hj];exact hst),?_⟩
  rw[uF]
  have eset:((GY n false).map V.bl).set st (.bl true)=((GY n false).set st true).map V.bl:=by rw[List.map_set]
  rw[eset]
  refine⟨_,rfl,(by show 1<=EL;decide),λ Wa hWa=>?_⟩
  have nDW:D≠Wa:=λ z=>by rw[z,ag]at hWa;cases hWa
  have hW0:H Wa=none:=by rw[ap nDW.symm]at hWa;exact hWa
  have s1:al H (upd H D (.lst (((GY n false).set st true).map V.bl))):=aN hD
  have s2:al H (upd (upd H D (.lst (((GY n false).set st true).map V.bl))) Wa (.lst [.int (st:Int)])):=aY s1 hW0
  have z0:RfS H (upd (upd H D (.lst (((GY n false).set st true).map V.bl))) Wa (.lst [.int (st:Int)])) D Wa n lo [st] ((fA lo n).setIfInBounds st true) ((GY n false).set st true):=by
   refine⟨s2,?_,ag,?_,?_,?_,?_⟩
   ·rw[ap nDW]
    exact ag
   ·rw[List.length_set,Hj]
   ·rw[G9,iq,sO hlost]
   ·intro q hq
    rw[GT (λ z=>hlost (by rw[hq,z])),List.getElem?_replicate,EU (hlon q hq)]
   ·intro j hj
    rw[List.mem_singleton.1 hj]
    exact hst
  refine⟨λ mm σ H'=>mm<=n+1/\∃v5 v6 todo seen Rl,σ=[some (.int (st:Int)),some (.ref N),some (loV lo),some (.ref D),some (.ref Wa),v5,v6,none]/\RfS H H' D Wa n lo todo seen Rl/\todo.length+WL.eZ seen<=mm/\Gla.spread (nrs n f) mm todo seen=HX (nrs n f) n st (fA lo n),
   ⟨n+1,nlr _,none,none,[st],_,_,rfl,z0,?_,rfl⟩,?_⟩
  ·unfold WL.eZ
   rw[z0.sk,<-sO hlost,<-iq]
   have h1:(fA lo n).toList[st]? = some false:=by
    rw[iq,xF hlost,List.getElem?_replicate,EU hst]
   have h2:=WL.jv h1
   have h3:(fA lo n).toList.count false<=n:=by
    refine Fw List.count_le_length ?_
    rw[iq,Ad,Hj]
    exact nlr _
   show 1+_<=n+1
   omega
  rintro mm σ H' ⟨hmm,v5,v6,todo,seen,Rl,rfl,z,hmu,hfin⟩
  refine⟨_,rfl,Wa,_,rfl,.inl (SqL.of z.w),_,_,rfl,rfl,_,rfl,aS (λ c=>?_) (λ c=>?_)⟩
  ·have c:=EH c
   rw[bS,List.length_reverse]at c
   obtain⟨k0,r,rfl⟩:∃k0 r,todo=k0 :: r:=by
    cases todo with
    |nil=>simp at c
    |cons k0 r=>exact⟨k0,r,rfl⟩
   obtain⟨m',rfl⟩:∃m',mm=m'+1:=⟨mm-1,by simp at hmu;omega⟩
   have hk0:k0<n:=z.td k0 (E7)
   rw[WL.rS,Ap hk0]at hfin
   refine⟨λ σ' H'=>m'<=n+1/\∃v5 v6 todo seen Rl,σ'=[some (.int (st:Int)),some (.ref N),some (loV lo),some (.ref D),some (.ref Wa),v5,v6,none]/\RfS H H' D Wa n lo todo seen Rl/\todo.length+WL.eZ seen<=m'/\Gla.spread (nrs n f) m' todo seen=HX (nrs n f) n st (fA lo n),λ σ' H' h=>⟨m',by omega,h⟩,?_⟩
   have hw:=z.w
   rw[List.reverse_cons,gm]at hw
   refine⟨_,rfl,.inl ⟨rfl,_,SqL.of hw⟩,Wa,_,_,rfl,rfl,hw,zm _ _,?_⟩
   rw[List.dropLast_concat]
   have z2:RfS H (upd H' Wa (.lst (iV (nI r.reverse)))) D Wa n lo r seen Rl:=⟨aY z.sm hW0,by rw[ap nDW];exact z.r,ag,z.ln,z.sk,z.lo,λ j hj=>z.td j (EQ _ hj)⟩
   generalize upd H' Wa (.lst (iV (nI r.reverse)))=H2 at z2
   obtain⟨b,hb⟩:∃b,as[k0]? = some b:=⟨as[k0]'(by omega),gge _⟩
   have hrw2:=hrw.same z2.sm
   refine⟨_,rfl,_,rfl,N,_,_,_,rfl,rfl,SqL.of hrw2.1,aA (j:=k0) rfl (aP hb),b,rfl,⟨_,SqL.of (hrw2.2 k0 b hb)⟩,?_⟩
   refine eh (K:=K) (a:=b) (xs:=iV (nI (f k0))) (λ t σ H'=>∃v6 Rl,σ=[some (.int (st:Int)),some (.ref N),some (loV lo),some (.ref D),some (.ref Wa),some (.int (k0:Int)),v6,none]/\RfS H H' D Wa n lo (((f k0).take t).foldl WL.fj (r,seen)).1 (((f k0).take t).foldl WL.fj (r,seen)).2 Rl)
    ⟨v6,Rl,rfl,z2⟩ (λ t σ H' _ h=>by obtain⟨_,_,_,h⟩:=h;exact SqL.of ((hrw.same h.sm).2 k0 b hb)) ?_ ?_
   ·rintro t y σ H3 ht ⟨w6,Rl2,rfl,z3⟩
    obtain⟨j,hj,rfl⟩:=lG ht
    have hjn:j<n:=hfn k0 hk0 j (FG hj)
    have mu:=WL.k7 ((f k0).take t) (r,seen)
    rw[bY hj,List.foldl_append,G3,List.foldl_nil]
    generalize ((f k0).take t).foldl WL.fj (r,seen)=za at z3 mu
    obtain⟨za1,za2⟩:=za
    have hskip:za2.getD j true=true->WL.fj (za1,za2) j=(za1,za2):=λ e=>by
     unfold WL.fj
     rw[EU e]
    obtain⟨bj,hbj⟩:∃bj,Rl2[j]? = some bj:=⟨Rl2[j]'(by have:=z3.ln;omega),gge _⟩
    refine⟨_,rfl,_,rfl,(by cases lo<;>rfl),_,rfl,aS (λ c1=>?_) (λ c1=>?_)⟩
    ·have c1:lo≠some j:=λ e=>by
      rw[e]at c1
      have:decide (V.int (j:Int)=loV (some j))=true:=dqt rfl
      rw[this]at c1
      exact absurd c1 (by decide)
     refine⟨_,rfl,_,rfl,D,_,_,_,rfl,rfl,SqL.of z3.r,aA (j:=j) rfl (Cj hbj),_,rfl,?_⟩
     have hgs:za2.toList[j]? = some bj:=by rw[z3.sk,xF c1,hbj]
     cases bj with
     |true =>
      refine jU ?_
      refine⟨_,Rl2,rfl,?_⟩
      rw[hskip (pX hgs)]
      exact z3
     |false =>
      refine eI ?_
      refine⟨_,rfl,_,rfl,D,_,_,j,rfl,rfl,z3.r,ui (by rw[lmp,z3.ln];exact hjn),?_⟩
      have e3:(Rl2.map V.bl).set j (.bl true)=(Rl2.set j true).map V.bl:=by rw[List.map_set]
      rw[e3]
      have hw3:(upd H3 D (.lst ((Rl2.set j true).map V.bl))) Wa=some (.lst (iV (nI za1.reverse))):=by
       rw[ap nDW.symm]
       exact z3.w
      refine⟨_,rfl,.inl ⟨rfl,_,SqL.of hw3⟩,_,rfl,Wa,_,_,rfl,rfl,hw3,?_,?_⟩
      ·rw[bS,List.length_reverse]
       have e1:za1.length+WL.eZ za2=r.length+WL.eZ seen:=mu
       simp at hmu
       exact bG (by omega)
      refine⟨_,Rl2.set j true,rfl,?_⟩
      have hv:WL.fj (za1,za2) j=(j :: za1,za2.setIfInBounds j true):=by
       unfold WL.fj
       rw[EM (by rw[pX hgs];decide)]
      rw[hv]
      refine⟨aY (aY z3.sm hD) hW0,?_,?_,?_,?_,?_,?_⟩
      ·rw[ap nDW]
       exact ag
      ·rw[ag,List.reverse_cons,gm]
      ·rw[List.length_set]
       exact z3.ln
      ·rw[G9,z3.sk,sO c1]
      ·intro q hq
       rw[GT (λ e=>c1 (by rw[hq,e]))]
       exact z3.lo q hq
      ·intro i hi
       rcases ES.1 hi with rfl|hi
       ·exact hjn
       ·exact z3.td i hi
    ·have c1:lo=some j:=by
      cases lo with
      |none=>exact absurd rfl c1
      |some q =>
       by_cases e:q=j
       ·rw[e]
       ·exfalso
        refine c1 ?_
        have:decide (V.int (j:Int)=loV (some q))=false:=dqf (λ y=>e (by have:=V.int.inj y;omega))
        rw[this]
        rfl
     refine jU ?_
     refine⟨_,Rl2,rfl,?_⟩
     rw[hskip (pX (by rw[z3.sk,c1];exact Ck (by rw[z3.ln];exact hjn)))]
     exact z3
   ·rintro σ H3 ⟨w6,Rl2,rfl,z3⟩
    rw[bS,GE]at z3
    have mu:=WL.k7 (f k0) (r,seen)
    refine⟨by omega,_,_,_,_,Rl2,rfl,z3,?_,hfin⟩
    have e1:((f k0).foldl WL.fj (r,seen)).1.length+WL.eZ ((f k0).foldl WL.fj (r,seen)).2=r.length+WL.eZ seen:=mu
    simp at hmu
    omega
  ·have c:=aG c
   rw[bS,List.length_reverse]at c
   have e0:todo=[]:=List.eq_nil_of_length_eq_zero (by omega)
   subst e0
   rw[WL.sI]at hfin
   refine⟨_,rfl,k H' D Rl z.sm z.r z.ln z.lo ?_⟩
   rw[<-hfin,z.sk]
end
open PySem PySem.Spec PyProof.Rows L2 Wg Wx CM
open Gla (Pt)
section
variable  {P:E8}{w:FL}{K:FQ}{mg:Str->Option Value}{base:Heap}{C:EJ}
def kM (i:Nat):Int:=20+8*(i:Int)
def CD (C:EJ):Sp:=λ vs H Q _=>∃(a N:EJ) (as:List EJ) (S:Gla.Plan),vs=[.ref a,.ref N]/\bz C H a S/\RW H N as S.near/\as.length=S.pts.length/\dG (jy 8 kM ((Fe S.pts.length).find? λ i=>decide ((S.near i).length<2))) H Q
theorem AI:aq ["drawing","neighbours","k","row"] ["drawing","neighbours"] (ah d3):=⟨rfl,rfl,rfl,by decide +kernel,rfl,by decide +kernel,by decide +kernel⟩
theorem B0 (F:Has K mg "fault_of_ends" d3 ["drawing","neighbours"]) (T:DCl K mg C) (ge:mg "enumerate"=none) (gl:mg "len"=none) (C1:Cm P w K mg base 1 C "place_of_point" ["self","k"] pW) :
  Cb P w K mg base 2 "fault_of_ends" ["drawing","neighbours"] (CD C):=by
 refine F.cb AI (λ vs H Q E h=>?_) (λ f cdv A outer s H vs Q E hr h=>?_)
 ·obtain⟨a,N,as,S,rfl,_⟩:=h
  rfl
 ·obtain⟨a,N,as,S,rfl,hd,hrw,hlen,k⟩:=h
  obtain⟨dx,p,l,m,ps,ls,ms,o⟩:=hd.op (K:=K)
  refine⟨_,ad (bw E4 rfl (dX rfl ge (aa (pv 1) ac)) (cT (n:=2) rfl (aL (au (i:=2) AI.nd rfl (.inl rfl)) (aL (au (i:=3) AI.nd rfl (.inl rfl)) bU)))
    (ae (a6 (aK gf (aW aO (by rfl) gl FB (aa (pv 3) ac)) af (aI _))
     (ae (ak (bA (aa af (aa (hG (pv 0) T.cl C1 hr (aa (pv 2) ac)) ac))))) aJ)))
   (ae (ak bc)),?_⟩
  refine⟨_,rfl,N,_,rfl,SqL.of hrw.1,dt (K:=K) (a:=N) (xs:=as.map V.ref) (λ i σ H'=>al H H'/\(∃v1 v2,σ=[some (.ref a),some (.ref N),v1,v2])/\∀j,j<i->decide ((S.near j).length<2)=false)
   ⟨al.refl H,⟨none,none,rfl⟩,λ j h=>absurd h (FT _)⟩ (λ i σ H' _ h=>SqL.of (h.1 _ _ hrw.1)) ?_ ?_⟩
  ·rintro i y T' σ H' hi hT ⟨hS,⟨v1,v2,rfl⟩,hok⟩
   obtain⟨b,hb,rfl⟩:=cu hi
   have hil:i<S.pts.length:=by rw[<-hlen];exact(gsi hb).1
   have s2:al H (upd H' T' (.tup [.int (i:Nat),.ref b])):=aZ hS hT
   refine⟨T',_,rfl,SqT.of ag,rfl,_,_,rfl,_,_,rfl,rfl,?_⟩
   generalize upd H' T' (.tup [.int (i:Nat),.ref b])=H2 at s2
   have o2:=o.same s2
   refine⟨_,rfl,b,_,rfl,.inl (SqL.of ((hrw.same s2).2 i b hb)),_,_,rfl,rfl,_,rfl,?_⟩
   rw[bS]
   refine aS (λ c=>?_) (λ c=>?_)
   ·have c:=EH c
    refine⟨_,rfl,a,dx,_,rfl,o2.at_,b9 (.inl (.inl rfl)),_,rfl,_,_,rfl,(by show 2<=EL;decide),λ q hq=>?_⟩
    have e:(Fe S.pts.length).find? (λ i=>decide ((S.near i).length<2))=some i:=WL.jK hil (dqt (by omega)) hok
    rw[e]at k
    exact dG.some' k s2 q hq
   ·have c:=aG c
    refine⟨s2,⟨_,_,rfl⟩,λ j h=>?_⟩
    by_cases cc:j<i
    ·exact hok j cc
    ·have:j=i:=by omega
     subst this
     exact dqf (by omega)
  ·rintro σ H' ⟨hS,⟨v1,v2,rfl⟩,hok⟩
   have e:(Fe S.pts.length).find? (λ i=>decide ((S.near i).length<2))=none:=WL.je λ j hj=>hok j (by rw[lmp,hlen];exact hj)
   rw[e]at k
   exact k H' hS
def lH (S:Gla.Plan):Array Bool:=HX S.nears S.pts.length 0 (IC S.pts.length)
def wV (S:Gla.Plan):Prop:=∀i,i<S.pts.length->∀j∈S.near i,j<S.pts.length
def CT (C:EJ):Sp:=λ vs H Q _=>∃(a N:EJ) (as:List EJ) (S:Gla.Plan),vs=[.ref a,.ref N]/\bz C H a S/\SB S/\4<=S.pts.length/\wV S/\RW H N as S.near/\as.length=S.pts.length/\dG (jy 9 kM ((Fe S.pts.length).find? λ i=>!((lH S).getD i false))) H Q
theorem AX:aq ["drawing","neighbours","k","reached"] ["drawing","neighbours"] (ah dZ):=⟨rfl,rfl,rfl,by decide +kernel,rfl,by decide +kernel,by decide +kernel⟩
theorem wF {a:Array Bool}{j:Nat}{b:Bool}(h:a.toList[j]? = some b):a.getD j false=b:=by
 rw[Gg,<-Array.getElem?_toList,h]
 rfl
theorem Cr {l:List Bool}{i:Nat}{v:V}(h:(l.map V.bl)[i]? = some v):∃x,l[i]? = some x/\v=.bl x:=by
 rw[E2]at h
 cases e:l[i]? with
 |none=>rw[e]at h;cases h
 |some x =>
  rw[e]at h
  exact⟨x,rfl,(osi h).symm⟩
theorem BM (F:Has K mg "fault_of_ways" dZ ["drawing","neighbours"]) (T:DCl K mg C) (ge:mg "enumerate"=none) (C1:Cm P w K mg base 1 C "place_of_point" ["self","k"] pW) (C2:Cb P w K mg base 1 "reached_from" ["start","neighbours","left_out"] zn) :
  Cb P w K mg base 2 "fault_of_ways" ["drawing","neighbours"] (CT C):=by
 refine F.cb AX (λ vs H Q E h=>?_) (λ f cdv A outer s H vs Q E hr h=>?_)
 ·obtain⟨a,N,as,S,rfl,_⟩:=h
  rfl
 ·obtain⟨a,N,as,S,rfl,hd,sb,h4,hns,hrw,hlen,k⟩:=h
  obtain⟨dx,p,l,m,ps,ls,ms,o⟩:=hd.op (K:=K)
  have np:=sb.np
  refine⟨_,ad (bw E4 rfl (dX rfl ge (aa (aF C2 hr (aa af (aa (pv 1) (aa bc ac)))) ac)) (cT (n:=2) rfl (aL (au (i:=2) AX.nd rfl (.inl rfl)) (aL (au (i:=3) AX.nd rfl (.inl rfl)) bU)))
    (ae (a6 (ja (cG (pv 3)))
     (ae (ak (bA (aa af (aa (hG (pv 0) T.cl C1 hr (aa (pv 2) ac)) ac))))) aJ)))
   (ae (ak bc)),?_⟩
  refine⟨_,rfl,0,N,as,S.near,none,S.pts.length,rfl,hrw,hlen,np,by omega,(λ z=>by cases z),(λ q z=>by cases z),hns,λ H1 R Rl s1 hR hRl _ hmk=>?_⟩
  have hmk:Rl=(lH S).toList:=hmk
  have bit:∀j,Rl[j]? = some true->(!((lH S).getD j false))=false:=λ j e=>by rw[wF (by rw[<-hmk];exact e)];rfl
  refine⟨R,_,rfl,SqL.of hR,dt (K:=K) (a:=R) (xs:=Rl.map V.bl) (λ i σ H'=>al H1 H'/\(∃v1 v2,σ=[some (.ref a),some (.ref N),v1,v2])/\∀j,j<i->(!((lH S).getD j false))=false)
   ⟨al.refl H1,⟨none,none,rfl⟩,λ j h=>absurd h (FT _)⟩ (λ i σ H' _ h=>SqL.of (h.1 _ _ hR)) ?_ ?_⟩
  ·rintro i y T' σ H' hi hT ⟨hS,⟨v1,v2,rfl⟩,hok⟩
   obtain⟨b,hb,rfl⟩:=Cr hi
   have hil:i<S.pts.length:=by rw[<-hRl];exact(gsi hb).1
   have s2:al H1 (upd H' T' (.tup [.int (i:Nat),.bl b])):=aZ hS hT
   refine⟨T',_,rfl,SqT.of ag,rfl,_,_,rfl,_,_,rfl,rfl,?_⟩
   generalize upd H' T' (.tup [.int (i:Nat),.bl b])=H2 at s2
   have o2:=o.same (s1.trans s2)
   refine⟨_,rfl,_,rfl,?_⟩
   cases b with
   |true =>
    refine jU ?_
    refine⟨s2,⟨_,_,rfl⟩,λ j h=>?_⟩
    by_cases cc:j<i
    ·exact hok j cc
    ·have:j=i:=by omega
     subst this
     exact bit j hb
   |false =>
    refine eI ?_
    refine⟨_,rfl,a,dx,_,rfl,o2.at_,b9 (.inl (.inl rfl)),_,rfl,_,_,rfl,(by show 2<=EL;decide),λ q hq=>?_⟩
    have e:(Fe S.pts.length).find? (λ i=>!((lH S).getD i false))=some i:=WL.jK hil (by rw[wF (by rw[<-hmk];exact hb)];rfl) hok
    rw[e]at k
    exact dG.some' k (s1.trans s2) q hq
  ·rintro σ H' ⟨hS,⟨v1,v2,rfl⟩,hok⟩
   have e:(Fe S.pts.length).find? (λ i=>!((lH S).getD i false))=none:=WL.je λ j hj=>hok j (by rw[lmp,hRl];exact hj)
   rw[e]at k
   exact k H' (s1.trans hS)
def zU (C:EJ):Sp:=λ vs H Q _=>∃(a N:EJ) (as:List EJ) (S:Gla.Plan),vs=[.ref a,.ref N]/\bz C H a S/\SB S/\4<=S.pts.length/\wV S/\RW H N as S.near/\as.length=S.pts.length/\dG (jy 10 kM ((Fe S.pts.length).find? (Gla.cuts S.nears S.pts.length))) H Q
theorem xn:aq ["drawing","neighbours","k","start"] ["drawing","neighbours"] (ah cB):=⟨rfl,rfl,rfl,by decide +kernel,rfl,by decide +kernel,by decide +kernel⟩
theorem vn {l:List Bool}:false∈l↔0<l.count false:=by rw[List.count_pos_iff]
theorem y6 {S:Gla.Plan}{i:Nat}{Rl:List Bool}(h1:Rl[i]? = some false)(h2:mkS (some i) Rl=(HX S.nears S.pts.length (if i=0 then 1 else 0) (fA (some i) S.pts.length)).toList):Gla.cuts S.nears S.pts.length i=decide (1<(Rl.count false:Nat)):=by
 have e:Gla.cuts S.nears S.pts.length i=(HX S.nears S.pts.length (if i=0 then 1 else 0) (fA (some i) S.pts.length)).contains false:=rfl
 rw[e,Fy,Array.contains_iff_mem,<-Array.mem_toList_iff,<-h2,vn,ET]
 have h3:=WL.jv h1
 have h4:(mkS (some i) Rl).count false=(Rl.set i true).count false:=rfl
 omega
theorem AK (F:Has K mg "fault_of_narrows" cB ["drawing","neighbours"]) (T:DCl K mg C) (gr:mg "range"=none) (gl:mg "len"=none) (C1:Cm P w K mg base 1 C "place_of_point" ["self","k"] pW) (C2:Cb P w K mg base 1 "reached_from" ["start","neighbours","left_out"] zn) :
  Cb P w K mg base 2 "fault_of_narrows" ["drawing","neighbours"] (zU C):=by
 refine F.cb xn (λ vs H Q E h=>?_) (λ f cdv A outer s H vs Q E hr h=>?_)
 ·obtain⟨a,N,as,S,rfl,_⟩:=h
  rfl
 ·obtain⟨a,N,as,S,rfl,hd,sb,h4,hns,hrw,hlen,k⟩:=h
  obtain⟨dx,p,l,m,ps,ls,ms,o⟩:=hd.op (K:=K)
  have np:=sb.np
  refine⟨_,ad (bw E4 rfl (oh rfl gr (aa (aW aO (by rfl) gl FB (aa (pv 1) ac)) ac)) (au (i:=2) xn.nd rfl (.inl rfl))
    (ad (aB (i:=3) xn.nd rfl (.inl rfl) (xa (aK kq (pv 2) af (aI _)) af af))
    (ae (a6 (aK d6 (ly FU PySem.F.slot_list_count PySem.F.type_list_count uP (aF C2 hr (aa (pv 3) (aa (pv 1) (aa (pv 2) ac)))) (aa el ac)) af (aI _))
     (ae (ak (bA (aa af (aa (hG (pv 0) T.cl C1 hr (aa (pv 2) ac)) ac))))) aJ))))
   (ae (ak bc)),?_⟩
  refine⟨_,rfl,N,_,rfl,.inl (SqL.of hrw.1),_,rfl,by omega,by rw[lmp];omega,?_⟩
  rw[lmp,hlen,F0]
  refine jt (λ i σ H'=>al H H'/\(∃v1 v2,σ=[some (.ref a),some (.ref N),v1,v2])/\∀j,j<i->Gla.cuts S.nears S.pts.length j=false)
   ⟨al.refl H,⟨none,none,rfl⟩,λ j h=>absurd h (FT _)⟩ ?_ ?_
  ·rintro i σ H' hil ⟨hS,⟨v1,v2,rfl⟩,hok⟩
   rw[Int.zero_add]
   have body:∀st:Nat,st=(if i=0 then 1 else 0)->sT (fh (tOp (rI0 λ i j=>.bl (decide (j<i))) (tBM K "list" (tQ K) (lL zn [] E0 (bD (a8 3) (bD (a8 1) (bD (a8 2) fY)))) (bD (tC (.bl false)) fY)) (tC (.int 1))))
     (mw (uZ (bD (tC (.int 10)) (bD (kj C "place_of_point" pW [] E0 (a8 0) (bD (a8 2) fY)) fY)))) mf
     { nx:=λ σ H'=>al H H'/\(∃v1 v2,σ=[some (.ref a),some (.ref N),v1,v2])/\∀j,j<i+1->Gla.cuts S.nears S.pts.length j=false,rt:=Q,bk:=λ σ H'=>Q .non H',ct:=λ σ H'=>al H H'/\(∃v1 v2,σ=[some (.ref a),some (.ref N),v1,v2])/\∀j,j<i+1->Gla.cuts S.nears S.pts.length j=false }
     [some (.ref a),some (.ref N),some (.int (i:Int)),some (.int (st:Int))] H':=λ st est=>by
    refine⟨_,rfl,_,rfl,_,rfl,st,N,as,S.near,some i,S.pts.length,rfl,hrw.same hS,hlen,np,?_,?_,?_,hns,λ H1 R Rl s1 hR hRl hlo hmk=>?_⟩
    ·rw[est];split<;>omega
    ·intro z
     have z:=osi z
     rw[est]at z
     split at z<;>omega
    ·intro q z
     have z:=osi z
     omega
    rw[est]at hmk
    have ec:=y6 (hlo i rfl) hmk
    have s2:=hS.trans s1
    have o2:=o.same s2
    refine⟨.inl ⟨rfl,_,SqL.of hR⟩,R,Rl,false,rfl,rfl,SqL.of hR,_,_,rfl,rfl,_,rfl,aS (λ c=>?_) (λ c=>?_)⟩
    ·have c:=EH c
     refine⟨_,rfl,a,dx,_,rfl,o2.at_,b9 (.inl (.inl rfl)),_,rfl,_,_,rfl,(by show 2<=EL;decide),λ q hq=>?_⟩
     have e:(Fe S.pts.length).find? (Gla.cuts S.nears S.pts.length)=some i:=WL.jK hil (by rw[ec];exact dqt (by omega)) hok
     rw[e]at k
     exact dG.some' k s2 q hq
    ·have c:=aG c
     refine⟨s2,⟨_,_,rfl⟩,λ j h=>?_⟩
     by_cases cc:j<i
     ·exact hok j cc
     ·have:j=i:=by omega
      subst this
      rw[ec]
      exact dqf (by omega)
   refine⟨_,rfl,rfl,_,rfl,aS (λ c=>?_) (λ c=>?_)⟩
   ·have c:=V.int.inj (EH c)
    refine body 1 ?_
    rw[EU (by omega)]
   ·have c:¬i=0:=λ z=>c (dqt (by rw[z];rfl))
    refine body 0 ?_
    rw[EM c]
  ·rintro σ H' ⟨hS,⟨v1,v2,rfl⟩,hok⟩
   have e:(Fe S.pts.length).find? (Gla.cuts S.nears S.pts.length)=none:=WL.je λ j hj=>hok j hj
   rw[e]at k
   exact k H' hS
end
open PySem PySem.Spec PyProof.Rows L2 Wg Wx CM
open Gla (Pt)
section
variable  {P:E8}{w:FL}{K:FQ}{mg:Str->Option Value}{base:Heap}{C:EJ}
def rV (S:Gla.Plan)(z:Pt):Bool:=(decide (0<z.x)&&decide (z.x<S.w))&&(decide (0<z.y)&&decide (z.y<S.h))
theorem yd (S:Gla.Plan)(z:Pt):Gla.clear S z=(rV S z&&!Gla.onLines S z):=by
 unfold Gla.clear rV
 rw[Bool.and_assoc,Bool.and_assoc,Bool.and_assoc]
def CB (K:FQ)(C:EJ):Sp:=λ vs H Q _=>∃(a b:EJ) (S:Gla.Plan) (z:Pt),vs=[.ref a,.ref b]/\bz C H a S/\cF K H b z/\Q (.bl (rV S z)) H
theorem En:aq ["drawing","mark"] ["drawing","mark"] (ah de):=⟨rfl,rfl,rfl,by decide +kernel,rfl,by decide +kernel,by decide +kernel⟩
theorem Ch (F:Has K mg "is_within_frame" de ["drawing","mark"]) (T:DCl K mg C):Cb P w K mg base 1 "is_within_frame" ["drawing","mark"] (CB K C):=by
 refine F.cb En (λ vs H Q E h=>?_) (λ f cdv A outer s H vs Q E hr h=>?_)
 ·obtain⟨a,b,S,z,rfl,_⟩:=h
  rfl
 ·obtain⟨a,b,S,z,rfl,hd,⟨⟨rz,hz⟩,_⟩,k⟩:=h
  obtain⟨dx,p,l,m,ps,ls,ms,o⟩:=hd.op (K:=K)
  refine⟨_,ae (ak (iQ (j4 gf gf af (aw aD (pv 1) af (λ _ _=>rfl)) (aR (pv 0) rfl)) (eC (j4 gf gf af (aw aD (pv 1) af (λ _ _=>rfl)) (aR (pv 0) rfl))))),?_⟩
  have no:¬((0<z.x/\z.x<S.w)/\(0<z.y/\z.y<S.h))->Q (.bl false) H:=λ q=>by
   have e:rV S z=false:=cJ λ y=>q (by unfold rV at y;simp only[EO,ET]at y;exact y)
   rw[e]at k
   exact k
  refine⟨_,rfl,b,_,_,_,rfl,rfl,hz,aA (j:=0) rfl rfl,_,_,rfl,rfl,_,rfl,aS (λ c1=>?_) (λ c1=>?_)⟩
  ·have c1:=EH c1
   refine⟨_,rfl,a,C,dx,_,_,rfl,o.at_,T.cl,T.nW,Ao,_,_,rfl,rfl,_,rfl,aS (λ c2=>?_) (λ c2=>?_)⟩
   ·have c2:=EH c2
    refine⟨_,rfl,b,_,_,_,rfl,rfl,hz,aA (j:=1) rfl rfl,_,_,rfl,rfl,_,rfl,aS (λ c3=>?_) (λ c3=>?_)⟩
    ·have c3:=EH c3
     refine⟨_,rfl,a,C,dx,_,_,rfl,o.at_,T.cl,T.nH,Al,_,_,rfl,rfl,?_⟩
     have e:rV S z=decide ((z.y:Int)<(S.h:Int)):=by
      unfold rV
      rw[dqt (by omega:0<z.x),dqt (by omega:z.x<S.w),dqt (by omega:0<z.y),F4,F4,F4,E1]
      omega
     rw[e]at k
     exact k
    ·have c3:=aG c3
     exact no (by omega)
   ·have c2:=aG c2
    exact no (by omega)
  ·have c1:=aG c1
   exact⟨_,rfl,jU (no (by omega))⟩
def DG (K:FQ)(C:EJ):Sp:=λ vs H Q _=>∃(a b:EJ) (S:Gla.Plan) (z:Pt),vs=[.ref a,.ref b]/\bz C H a S/\SB S/\gv S/\cF K H b z/\Q (.bl (Gla.onLines S z)) H
theorem DB:aq ["drawing","mark","line"] ["drawing","mark"] (ah cV):=⟨rfl,rfl,rfl,by decide +kernel,rfl,by decide +kernel,by decide +kernel⟩
theorem DM (F:Has K mg "is_on_some_line" cV ["drawing","mark"]) (T:DCl K mg C) (C1:Cb P w K mg base 2 "is_on" ["p","q","r"] (Az K)):Cb P w K mg base 3 "is_on_some_line" ["drawing","mark"] (DG K C):=by
 refine F.cb DB (λ vs H Q E h=>?_) (λ f cdv A outer s H vs Q E hr h=>?_)
 ·obtain⟨a,b,S,z,rfl,_⟩:=h
  rfl
 ·obtain⟨a,b,S,z,rfl,hd,sb,hlo,hz,k⟩:=h
  obtain⟨dx,p,l,m,ps,ls,ms,o⟩:=hd.op (K:=K)
  refine⟨_,ad (bw E4 rfl (bQ (aR (pv 0) rfl)) (au (i:=2) DB.nd rfl (.inl rfl))
    (ae (a6 (cG (aF C1 hr (aa (aw aU (aR (pv 0) rfl) (aw aD (pv 2) af (λ _ _=>rfl)) (λ _ _=>rfl)) (aa (aw aU (aR (pv 0) rfl) (aw aD (pv 2) af (λ _ _=>rfl)) (λ _ _=>rfl)) (aa (pv 1) ac))))) (ae (ak el)) aJ)))
   (ae (ak el)),?_⟩
  refine⟨_,rfl,a,C,dx,_,_,rfl,o.at_,T.cl,T.nL,pZ,l,rfl,⟨_,SqL.of o.ll⟩,eh (K:=K) (a:=l) (xs:=ls.map V.ref) (λ i σ H'=>H'=H/\(∃v,σ=[some (.ref a),some (.ref b),v])/\∀j (hj:j<S.lines.length),j<i->Gla.isOn (S.pt S.lines[j].1) (S.pt S.lines[j].2) z=false)
   ⟨rfl,⟨none,rfl⟩,λ j hj h=>absurd h (FT _)⟩ (λ i σ H' _ h=>by rw[h.1];exact SqL.of o.ll) ?_ ?_⟩
  ·rintro t y σ H' hi ⟨rfl,⟨v,rfl⟩,hno⟩
   obtain⟨c,hc,rfl⟩:=cu hi
   have ht:t<S.lines.length:=by rw[<-o.ln];exact(gsi hc).1
   obtain⟨x1,x2⟩:=hlo _ (Fm ht)
   have hx:SqT K H' c (iV [(S.lines[t].1:Int),(S.lines[t].2:Int)]):=o.lnAt ht hc
   obtain⟨b1,hb1⟩:=o.hasP (i:=S.lines[t].1) (by omega)
   obtain⟨b2,hb2⟩:=o.hasP (i:=S.lines[t].2) (by omega)
   refine⟨_,rfl,a,C,dx,_,_,rfl,o.at_,T.cl,T.nP,iG,_,rfl,c,_,_,_,rfl,rfl,hx,aA (j:=0) rfl rfl,p,_,_,_,rfl,rfl,SqL.of o.pl,aA (j:=S.lines[t].1) rfl (aP hb1),_,rfl,a,C,dx,_,_,rfl,o.at_,T.cl,T.nP,iG,_,rfl,c,_,_,_,rfl,rfl,hx,aA (j:=1) rfl rfl,p,_,_,_,rfl,rfl,SqL.of o.pl,aA (j:=S.lines[t].2) rfl (aP hb2),_,rfl,b1,b2,b,_,_,_,rfl,o.ptAt sb hb1,o.ptAt sb hb2,hz,_,rfl,aS (λ c1=>?_) (λ c1=>?_)⟩
   ·show Q (.bl true) H'
    have e:Gla.onLines S z=true:=by
     unfold Gla.onLines
     rw[GS]
     exact⟨_,Fm ht,c1⟩
    rw[e]at k
    exact k
   ·refine⟨rfl,⟨_,rfl⟩,λ j hj h=>?_⟩
    by_cases d:j<t
    ·exact hno j hj d
    ·have:j=t:=by omega
     subst this
     exact cJ c1
  ·rintro σ H' ⟨rfl,⟨v,rfl⟩,hno⟩
   have e:Gla.onLines S z=false:=by
    unfold Gla.onLines
    rw[Hu]
    intro x hx q
    obtain⟨j,hj,rfl⟩:=Fh hx
    rw[hno j hj (by rw[lmp,o.ln];exact hj)]at q
    exact absurd q (by decide)
   rw[e]at k
   exact k
def mO (S:Gla.Plan)(i:Nat):Int:=20+8*(S.pts.length:Int)+4*(S.lines.length:Int)+12*(i:Int)
def zL (C:EJ):Sp:=λ vs H Q _=>∃(a:EJ) (S:Gla.Plan),vs=[.ref a]/\bz C H a S/\SB S/\gv S/\dG (jy 11 (mO S) (FX (Hh S) GB S.marks)) H Q
theorem uE:aq ["drawing","k","mark","misplaced"] ["drawing"] (ah dJ):=⟨rfl,rfl,rfl,by decide +kernel,rfl,by decide +kernel,by decide +kernel⟩
theorem Op.hasM {H:Hp}{a dx p l m:EJ}{S:Gla.Plan}{ps ls ms:List EJ}(o:Op K C H a dx p l m S ps ls ms){i:Nat}(hi:i<S.marks.length):∃b,ms[i]? = some b:=⟨_,gge (by rw[o.mn];exact hi)⟩
theorem Bo (F:Has K mg "fault_of_marks" dJ ["drawing"]) (T:DCl K mg C) (ge:mg "enumerate"=none) (C1:Cm P w K mg base 3 C "place_of_mark" ["self","k"] (xP C)) (C2:Cb P w K mg base 1 "comes_behind" ["q","p"] (wz K)) (C3:Cb P w K mg base 1 "is_within_frame" ["drawing","mark"] (CB K C)) (C4:Cb P w K mg base 3 "is_on_some_line" ["drawing","mark"] (DG K C)) :
  Cb P w K mg base 4 "fault_of_marks" ["drawing"] (zL C):=by
 refine F.cb uE (λ vs H Q E h=>?_) (λ f cdv A outer s H vs Q E hr h=>?_)
 ·obtain⟨a,S,rfl,_⟩:=h
  rfl
 ·obtain⟨a,S,rfl,hd,sb,hlo,k⟩:=h
  obtain⟨dx,p,l,m,ps,ls,ms,o⟩:=hd.op (K:=K)
  have hr1:bu 1 _:=hr.mono (by decide)
  refine⟨_,ad (bw E4 rfl (dX rfl ge (aa (aR (pv 0) rfl) ac)) (cT (n:=2) rfl (aL (au (i:=1) uE.nd rfl (.inl rfl)) (aL (au (i:=2) uE.nd rfl (.inl rfl)) bU)))
    (ad (aB (i:=3) uE.nd rfl (.inl rfl) (qU (wg (aF C3 hr1 (aa (pv 0) (aa (pv 2) ac)))) (eC (aF C4 hr (aa (pv 0) (aa (pv 2) ac))))))
    (ae (a6 (mh (cG (pv 3)) (jB (jD (aK d6 (pv 1) af (aI _)) (io (ja (cG (aF C2 hr1 (aa (pv 2) (aa (aw aU (aR (pv 0) rfl) (aV eO (pv 1) af) (λ _ _=>rfl)) ac))))))).pt)).pt
     (ae (ak (bA (aa af (aa (hG (pv 0) T.cl C1 hr (aa (pv 1) ac)) ac))))) aJ))))
   (ae (ak bc)),?_⟩
  refine⟨_,rfl,a,C,dx,_,_,rfl,o.at_,T.cl,T.nM,xr,m,_,rfl,SqL.of o.ml,dt (K:=K) (a:=m) (xs:=ms.map V.ref) (λ i σ H'=>al H H'/\(∃v1 v2 v3,σ=[some (.ref a),v1,v2,v3])/\∀j (hj:j<S.marks.length),j<i->WL.b7 (Hh S) GB S.marks j S.marks[j]=false)
   ⟨al.refl H,⟨none,none,none,rfl⟩,λ j hj h=>absurd h (FT _)⟩ (λ i σ H' _ h=>SqL.of (h.1 _ _ o.ml)) ?_ ?_⟩
  ·rintro i y T' σ H' hi hT ⟨hS,⟨v1,v2,v3,rfl⟩,hok⟩
   obtain⟨b,hb,rfl⟩:=cu hi
   have hil:i<S.marks.length:=by rw[<-o.mn];exact(gsi hb).1
   have s2:al H (upd H' T' (.tup [.int (i:Nat),.ref b])):=aZ hS hT
   refine⟨T',_,rfl,SqT.of ag,rfl,_,_,rfl,_,_,rfl,rfl,?_⟩
   generalize upd H' T' (.tup [.int (i:Nat),.ref b])=H2 at s2
   have o2:=o.same s2
   have hpt:cF K H2 b S.marks[i].at_:=o2.mkAt sb hb (gge hil)
   have bad:WL.b7 (Hh S) GB S.marks i S.marks[i]=true->∀H3,al H H3->∀q,H3 q=none->Q (.ref q) (upd H3 q (.tup [.int 11,.int (mO S i)])):=λ z H3 s3 q hq=>by
    have e:FX (Hh S) GB S.marks=some i:=by
     rw[WL.d9]
     exact WL.em hil z λ j hj=>hok j (by omega) hj
    rw[e]at k
    exact dG.some' k s3 q hq
   have next:WL.b7 (Hh S) GB S.marks i S.marks[i]=false->∀j (hj:j<S.marks.length),j<i+1->WL.b7 (Hh S) GB S.marks j S.marks[j]=false:=λ z j hj h=>by
    by_cases c:j<i
    ·exact hok j hj c
    ·have:j=i:=by omega
     subst this
     exact z
   have cont:∀(t:Bool),t=(!Gla.markOk S S.marks[i])->sT (tOr (tB (a8 3)) (yU (fh (tOp (rI0 λ i j=>.bl (decide (j<i))) (a8 1) (tC (.int 0)))) (AV (tB (lL (wz K) [] E0 (bD (a8 2) (bD (tOp (uR K) (xL K (a8 0) "marks") (tOp (rI0 λ i j=>.int (i-j)) (a8 1) (tC (.int 1)))) fY)))))))
     (mw (uZ (bD (tC (.int 11)) (bD (kj C "place_of_mark" (xP C) [] E0 (a8 0) (bD (a8 1) fY)) fY)))) mf
     { nx:=λ σ H'=>al H H'/\(∃v1 v2 v3,σ=[some (.ref a),v1,v2,v3])/\∀j (hj:j<S.marks.length),j<i+1->WL.b7 (Hh S) GB S.marks j S.marks[j]=false,rt:=Q,bk:=λ σ H'=>Q .non H',ct:=λ σ H'=>al H H'/\(∃v1 v2 v3,σ=[some (.ref a),v1,v2,v3])/\∀j (hj:j<S.marks.length),j<i+1->WL.b7 (Hh S) GB S.marks j S.marks[j]=false }
     [some (.ref a),some (.int (i:Nat)),some (.ref b),some (.bl t)] H2:=λ t et=>by
    refine⟨_,rfl,_,rfl,aS (λ c1=>?_) (λ c1=>?_)⟩
    ·refine eI ?_
     refine⟨_,rfl,a,dx,_,rfl,o2.at_,b9 (.inr (.inl rfl)),_,rfl,a,S,_,rfl,o2.draw,(by show 2<=EL;decide),λ q hq=>?_⟩
     refine bad ?_ H2 s2 q hq
     unfold WL.b7
     rw[<-et,c1,IB]
    ·have okt:(!Gla.markOk S S.marks[i])=false:=by rw[<-et];exact cJ c1
     refine⟨_,rfl,_,_,rfl,rfl,_,rfl,aS (λ c2=>?_) (λ c2=>?_)⟩
     ·have c2:(0:Int)<((i:Nat):Int):=EH c2
      obtain⟨i',rfl⟩:∃i',i=i'+1:=⟨i-1,by omega⟩
      obtain⟨b',hb'⟩:=o2.hasM (i:=i') (by omega)
      have hpt':cF K H2 b' S.marks[i'].at_:=o2.mkAt sb hb' (gge (by omega))
      refine⟨_,rfl,_,rfl,a,C,dx,_,_,rfl,o2.at_,T.cl,T.nM,xr,_,rfl,_,_,rfl,rfl,m,_,_,_,rfl,rfl,SqL.of o2.ml,aA (j:=i') (by omega) (aP hb'),b,b',_,_,rfl,hpt,hpt',λ H3 s3=>?_⟩
      have hbe:WL.b7 (Hh S) GB S.marks (i'+1) S.marks[i'+1]=!(S.marks[i'].at_.below S.marks[i'+1].at_):=by
       rw[WL.jO (by omega),okt,Bool.false_or]
       rfl
      refine⟨_,rfl,?_⟩
      cases hc:S.marks[i'].at_.below S.marks[i'+1].at_ with
      |true =>
       refine jU ?_
       exact⟨s2.trans s3,⟨_,_,_,rfl⟩,next (by rw[hbe,hc];rfl)⟩
      |false =>
       refine eI ?_
       refine⟨_,rfl,a,dx,_,rfl,(o2.same s3).at_,b9 (.inr (.inl rfl)),_,rfl,a,S,_,rfl,(o2.same s3).draw,(by show 2<=EL;decide),λ q hq=>?_⟩
       exact bad (by rw[hbe,hc];rfl) H3 (s2.trans s3) q hq
     ·have c2:=aG c2
      have i0:i=0:=by omega
      subst i0
      exact⟨s2,⟨_,_,_,rfl⟩,next (by rw[WL.jC];exact okt)⟩
   have ec:(!Gla.markOk S S.marks[i])=(!rV S S.marks[i].at_||Gla.onLines S S.marks[i].at_):=by
    unfold Hh
    rw[yd,Bool.not_and,Bool.not_not]
   refine⟨_,rfl,_,rfl,a,b,S,_,rfl,o2.draw,hpt,_,rfl,_,rfl,aS (λ c1=>?_) (λ c1=>?_)⟩
   ·refine cont true ?_
    rw[ec,c1,IB]
   ·refine⟨_,rfl,_,rfl,a,b,S,_,rfl,o2.draw,sb,hlo,hpt,?_⟩
    refine cont _ ?_
    rw[ec,cJ c1,Bool.false_or]
  ·rintro σ H' ⟨hS,⟨v1,v2,v3,rfl⟩,hok⟩
   have e:FX (Hh S) GB S.marks=none:=by
    rw[WL.d9]
    refine WL.dU λ j hj=>hok j hj ?_
    rw[lmp,o.mn]
    exact hj
   rw[e]at k
   exact k H' hS
end
open PySem PySem.Spec PyProof.Rows L2 Wg Wx CM
open Gla (Pt)
def lk (x:Nat×Nat):List L2.Key:=[Sum.inl (x.1:Int),Sum.inl (x.2:Int)]
theorem A1 {x y:Nat×Nat}(h:lk x=lk y):x=y:=by
 have h1:=List.cons.inj h
 have h2:=List.cons.inj h1.2
 have e1:=Sum.inl.inj h1.1
 have e2:=Sum.inl.inj h2.1
 exact Prod.ext (by omega) (by omega)
def LD (kvs:List (List L2.Key×V))(L:List (Nat×Nat)):Prop:=∀x:Nat×Nat,(fN kvs (lk x)).isSome=decide (x∈L)
theorem LD.put {kvs:List (List L2.Key×V)}{L:List (Nat×Nat)}(h:LD kvs L)(x:Nat×Nat)(v:V):LD (i8 kvs (lk x) v) (L++[x]):=λ y=>by
 rw[wU]
 by_cases e:lk y=lk x
 ·rw[EU e,A1 e]
  exact(dqt (by simp)).symm
 ·rw[EM e,h y,E1,Fk,List.mem_singleton]
  constructor
  ·exact .inl
  ·rintro(q|q)
   ·exact q
   ·exact absurd (by rw[q]) e
def eT (L:List (Nat×Nat))(es:List Nat):Bool:=(es.zip (es.drop 1)).all λ x=>decide (x∈L)
theorem so {L:List (Nat×Nat)}{es:List Nat}{t:Nat}(h:t+1<es.length)(hx:(es[t],es[t+1])∉L):eT L es=false:=by
 unfold eT
 rw[List.all_eq_false]
 refine⟨(es[t],es[t+1]),?_,by rw[dqf hx];decide⟩
 rw[List.mem_iff_getElem]
 refine⟨t,by rw[G4,Fu];omega,?_⟩
 rw[HG,Hy]
 congr 2
 omega
theorem qY {L:List (Nat×Nat)}{es:List Nat}(h:∀t (ht:t+1<es.length),(es[t],es[t+1])∈L):eT L es=true:=by
 unfold eT
 rw[FS]
 intro x hx
 obtain⟨t,ht,rfl⟩:=Fh hx
 rw[G4,Fu]at ht
 rw[HG,Hy]
 have:=h t (by omega)
 refine dqt ?_
 have e:1+t=t+1:=by omega
 simp only[e]
 exact this
section
variable  {P:E8}{w:FL}{K:FQ}{mg:Str->Option Value}{base:Heap}{C:EJ}
def Bx:Sp:=λ vs H Q _=>∃(n d:EJ) (es:List Nat) (kvs:List (List L2.Key×V)) (L:List (Nat×Nat)),vs=[.ref n,.ref d]/\H n=some (.lst (iV (nI es)))/\H d=some (.dT kvs)/\LD kvs L/\es.length<=100000/\∀H':Hp,al H H'->Q (.bl (eT L es)) H'
theorem B2:aq ["numbers","lines","k"] ["numbers","lines"] (ah bV):=⟨rfl,rfl,rfl,by decide +kernel,rfl,by decide +kernel,by decide +kernel⟩
theorem lg {l:List Nat}{i:Nat}(h:i<l.length):(iV (nI l))[i]? = some (.int (l[i]:Int)):=by
 unfold iV nI
 rw[E2,E2,gge h]
 rfl
theorem B7 (F:Has K mg "are_joined_in_a_row" bV ["numbers","lines"]) (gr:mg "range"=none) (gl:mg "len"=none):Cb P w K mg base 1 "are_joined_in_a_row" ["numbers","lines"] Bx:=by
 refine F.cb B2 (λ vs H Q E h=>?_) (λ f cdv A outer s H vs Q E hr h=>?_)
 ·obtain⟨n,d,es,kvs,L,rfl,_⟩:=h
  rfl
 ·obtain⟨n,d,es,kvs,L,rfl,hn,hd,hL,hlen,k⟩:=h
  have hu:=hr.units
  refine⟨_,ad (bw E4 rfl (oM rfl gr (aa af (aa (aW aO (by rfl) gl FB (aa (pv 0) ac)) ac))) (au (i:=2) B2.nd rfl (.inl rfl))
    (ae (a6 (sj (oX (FE (G6 (by decide) _) hu) (bA (aa (aw aU (pv 0) (aV eO (pv 2) af) (λ _ _=>rfl)) (aa (aw aU (pv 0) (pv 2) (λ _ _=>rfl)) ac))) (pv 1))) (ae (ak el)) aJ)))
   (ae (ak el)),?_⟩
  refine⟨_,rfl,n,_,rfl,.inl (SqL.of hn),_,_,rfl,?_,?_⟩
  ·rw[bS]
   omega
  rw[bS]
  refine jt (λ t σ H'=>al H H'/\(∃v,σ=[some (.ref n),some (.ref d),v])/\∀j (hj:j+1<es.length),j<t->(es[j],es[j+1])∈L)
   ⟨al.refl H,⟨none,rfl⟩,λ j hj h=>absurd h (FT _)⟩ ?_ ?_
  ·rintro t σ H' ht ⟨hS,⟨v,rfl⟩,hok⟩
   have et:((1:Int)+(t:Int))=((t+1:Nat):Int):=by omega
   rw[et]
   have htl:t+1<es.length:=by omega
   have hn':=hS _ _ hn
   refine⟨_,rfl,_,rfl,_,_,rfl,rfl,n,_,_,_,rfl,rfl,SqL.of hn',aA (j:=t) (by omega) (lg (by omega)),_,rfl,_,rfl,n,_,_,_,rfl,rfl,SqL.of hn',aA (j:=t+1) rfl (lg htl),(by show 2<=EL;decide),λ q hq=>?_⟩
   have s2:al H (upd H' q (.tup [.int (es[t]:Int),.int (es[t+1]:Int)])):=aZ hS hq
   refine⟨_,rfl,d,_,rfl,mK.t (k:=lk (es[t],es[t+1])) (s2 _ _ hd) ag,_,rfl,?_⟩
   rw[hL]
   refine aS (λ c=>?_) (λ c=>?_)
   ·have c:(es[t],es[t+1])∉L:=λ z=>by
     rw[dqt z]at c
     exact absurd c (by decide)
    rw[so htl c]at k
    exact k _ s2
   ·have c:(es[t],es[t+1])∈L:=bcn λ z=>c (by rw[dqf z];rfl)
    refine⟨s2,⟨_,rfl⟩,λ j hj h=>?_⟩
    by_cases e:j<t
    ·exact hok j hj e
    ·have:j=t:=by omega
     subst this
     exact c
  ·rintro σ H' ⟨hS,⟨v,rfl⟩,hok⟩
   rw[qY λ t ht=>hok t ht (by omega)]at k
   exact k H' hS
def dN (S:Gla.Plan)(on:Pt->Bool)(t:Nat):List Nat:=(Fe t).filter λ i=>on (S.pt i)
theorem lx (S:Gla.Plan)(on:Pt->Bool)(t:Nat):dN S on (t+1)=if on (S.pt t)=true then dN S on t++[t] else dN S on t:=by
 unfold dN
 rw[HR,List.filter_append]
 split
 ·rename_i h
  rw[List.filter_cons_of_pos (p:=λ i=>on (S.pt i)) h]
  rfl
 ·rename_i h
  rw[List.filter_cons_of_neg (p:=λ i=>on (S.pt i)) h]
  exact Gd _
theorem mJ (S:Gla.Plan)(on:Pt->Bool)(t:Nat):(dN S on t).length<=t:=by
 refine Fw (Hs _ _) ?_
 rw[F2]
 exact nlr _
theorem tH (S:Gla.Plan)(on:Pt->Bool):Gla.chained S (Gla.edgePts S on)=eT S.lines (dN S on S.pts.length):=by
 have e:Gla.edgePts S on=dN S on S.pts.length:=rfl
 rw[e]
 have pw:(dN S on S.pts.length).Pairwise (· < ·):=List.Pairwise.filter _ List.pairwise_lt_range
 generalize dN S on S.pts.length=es at pw
 have hlt:∀t (ht:t+1<es.length),es[t]<es[t+1]:=λ t ht=>Fs.1 pw t (t+1) (by omega) ht (by omega)
 unfold Gla.chained eT
 rw[Fy,FS,FS]
 have key:∀x∈es.zip (es.drop 1),S.joined x.1 x.2=decide (x∈S.lines):=by
  intro x hx
  obtain⟨t,ht,rfl⟩:=Fh hx
  rw[G4,Fu]at ht
  have h1:=hlt t (by omega)
  rw[HG,Hy]
  have e:1+t=t+1:=by omega
  simp only[e]
  unfold Gla.Plan.joined
  simp only[Fg (Iz h1),FO (Iz h1)]
  rw[Fy,Hq,ET]
 constructor
 ·intro h x hx
  rw[<-key x hx]
  exact h x hx
 ·intro h x hx
  rw[key x hx]
  exact h x hx
structure vX (H:Hp)(n:EJ)(ts ps:List EJ):Prop where
 at_:H n=some (.lst (ts.map V.ref))
 ln:ts.length=ps.length
 row:∀(i:Nat) (t b:EJ),ts[i]? = some t->ps[i]? = some b->H t=some (.tup [.int (i:Nat),.ref b])
theorem vX.same {H H':Hp}{n:EJ}{ts ps:List EJ}(h:vX H n ts ps)(s:al H H'):vX H' n ts ps:=⟨s _ _ h.at_,h.ln,λ i t b e1 e2=>s _ _ (h.row i t b e1 e2)⟩
theorem lW {H:Hp}{n D a dx p l m:EJ}{S:Gla.Plan}{ts ps ls ms:List EJ}{s0 s1 s2 s3 s4 s5 s6 s7 s8 s9 s10 s11 s12 s13:Option V}{Qd:Hp->Prop}(c:Nat)(pick:Pt->Int)(hpick:∀q:Pt,(fR q)[c]? = some (pick q))(on:Pt->Bool)(z:Int)(hon:∀q,on q=decide (pick q=z))(tz:TE)
  (htz:∀(v12 v13:Option V) (H:Hp) (Q:VK),Q (.int z) H->tz [s0,s1,s2,s3,s4,s5,s6,s7,s8,s9,s10,s11,v12,v13] H Q)
  (o:Op K C H a dx p l m S ps ls ms) (nl:vX H n ts ps) (hn:S.pts.length<=100000) (hD:H D=none) (hQ:∀H',al H H'->H' D=some (.lst (iV (nI (dN S on S.pts.length))))->Qd H') :
  ∃W:Nat->Nat->Hp->Prop,(∃m,W 0 m (upd H D (.lst [])))/\∀i m H,W i m H ->
   ((Itl K n).stop i H/\Qd H)\/((Itl K n).go i H/\∃Nx:Hp->Prop,(∀H',Nx H'->∃m',m'<m/\W (i+1) m' H')/\∀x H',(Itl K n).yld i H x H'->g2 K 12 13 x (bX [s0,s1,s2,s3,s4,s5,s6,s7,s8,s9,s10,s11,s12,s13] [12,13]) H' λ σ2 H2=>bX σ2 [12,13]=bX [s0,s1,s2,s3,s4,s5,s6,s7,s8,s9,s10,s11,s12,s13] [12,13]/\fh (tOp rEq (tOp (pE K) (a8 13) (tC (.int (c:Int)))) tz) σ2 H2 λ b H3 =>
    if b=true then a8 12 σ2 H3 λ y H4=>∃acc,H4 D=some (.lst acc)/\acc.length<EL/\Nx (upd H4 D (.lst (acc++[y]))) else Nx H3):=by
 refine ia (K:=K) (a:=n) (xs:=ts.map V.ref) (λ i H'=>al H H'/\H' D=some (.lst (iV (nI (dN S on i))))) ⟨aN hD,ag⟩ (λ i H' _ h=>SqL.of (h.1 _ _ nl.at_)) ?_ ?_
 ·rintro i y H' hi ⟨hS,hDl⟩
  obtain⟨t,ht,rfl⟩:=cu hi
  have hil:i<ps.length:=by rw[<-nl.ln];exact(gsi ht).1
  have pn:=o.pn
  obtain⟨b,hb⟩:∃b,ps[i]? = some b:=⟨ps[i],gge _⟩
  have hrow:=(nl.same hS).row i t b ht hb
  have hpt:SqT K H' b (iV (fR (S.pt i))):=SqT.of ((o.same hS).pt i b hb)
  refine⟨t,_,rfl,SqT.of hrow,rfl,_,_,rfl,_,_,rfl,rfl,rfl,?_⟩
  refine⟨_,rfl,b,_,_,_,rfl,rfl,hpt,aA (j:=c) rfl (v:=.int (pick (S.pt i))) ?_,htz _ _ _ _ ⟨rfl,_,rfl,?_⟩⟩
  ·unfold iV
   rw[E2,hpick]
   rfl
  have eon:decide (V.int (pick (S.pt i))=V.int z)=on (S.pt i):=by
   rw[hon,E1]
   exact⟨V.int.inj,λ q=>by rw[q]⟩
  rw[eon]
  refine aS (λ cc=>?_) (λ cc=>?_)
  ·refine⟨_,rfl,_,hDl,?_,aY hS hD,?_⟩
   ·rw[bS]
    have:=mJ S on i
    exact bG (by omega)
   ·rw[ag,lx,EU cc,gm]
  ·refine⟨hS,?_⟩
   rw[lx,EM cc]
   exact hDl
 ·rintro H' ⟨hS,hDl⟩
  rw[lmp,nl.ln,o.pn]at hDl
  exact hQ H' hS hDl
end
open PySem PySem.Spec PyProof.Rows L2 Wg Wx CM
open Gla (Pt)
section
variable  {P:E8}{w:FL}{K:FQ}{mg:Str->Option Value}{base:Heap}{C:EJ}
def eu (S:Gla.Plan):List Pt:=[⟨0,0⟩,⟨S.w,0⟩,⟨0,S.h⟩,⟨S.w,S.h⟩]
def ons (S:Gla.Plan):List (Pt->Bool):=[λ p=>p.y==0,λ p=>p.y==S.h,λ p=>p.x==0,λ p=>p.x==S.w]
theorem kF (S:Gla.Plan):Ix S=true↔(∀c∈eu S,c∈S.pts)/\∀on∈ons S,eT S.lines (dN S on S.pts.length)=true:=by
 unfold Ix eu ons
 simp only[EO,Hq,tH,List.forall_mem_cons,List.not_mem_nil,false_imp_iff,implies_true,and_true,and_assoc]
def DS (C:EJ):Sp:=λ vs H Q _=>∃(a:EJ) (S:Gla.Plan),vs=[.ref a]/\bz C H a S/\SB S/\dG (if Ix S=false then some (6,20) else none) H Q
theorem gE:aq ["drawing","width","height","corner","lines","line","numbered","bottom","top","left","right","edge","k","point"] ["drawing"] (ah bf):=⟨rfl,rfl,rfl,by decide +kernel,rfl,by decide +kernel,by decide +kernel⟩
theorem tL (S:Gla.Plan)(c:Pt):fR c∈S.pts.map fR↔c∈S.pts:=by
 rw[Fx]
 constructor
 ·rintro⟨q,hq,e⟩
  have h1:=List.cons.inj e
  have h2:=List.cons.inj h1.2
  have:q=c:=by
   cases q
   cases c
   have e1:((_:Nat):Int)=_:=h1.1
   have e2:((_:Nat):Int)=_:=h2.1
   simp only[Gla.Pt.mk.injEq]
   exact⟨by exact_mod_cast e1,by exact_mod_cast e2⟩
  rw[<-this]
  exact hq
 ·exact λ h=>⟨c,h,rfl⟩
theorem l6 (a b:Nat):(a==b)=decide ((a:Int)=(b:Int)):=by
 rw[Fy,HI,ET]
 omega
theorem BZ (F:Has K mg "fault_of_frame" bf ["drawing"]) (T:DCl K mg C) (ge:mg "enumerate"=none) (gli:mg "list"=none) (C1:Cm P w K mg base 1 C "place_of_point" ["self","k"] pW) (C2:Cb P w K mg base 1 "are_joined_in_a_row" ["numbers","lines"] Bx) :
  Cb P w K mg base 2 "fault_of_frame" ["drawing"] (DS C):=by
 refine F.cb gE (λ vs H Q E h=>?_) (λ f cdv A outer s H vs Q E hr h=>?_)
 ·obtain⟨a,S,rfl,_⟩:=h
  rfl
 ·obtain⟨a,S,rfl,hd,sb,k⟩:=h
  obtain⟨dx,p,l,m,ps,ls,ms,o⟩:=hd.op (K:=K)
  have hu:=hr.units
  have np:=sb.np
  have nl:=sb.nl
  refine⟨_,ad (aB (i:=1) gE.nd rfl (.inr rfl) (aR (pv 0) rfl)) (ad (aB (i:=2) gE.nd rfl (.inr rfl) (aR (pv 0) rfl))
   (ad (bw E4 rfl (sU (bA (aa (bA (aa af (aa af ac))) (aa (bA (aa (pv 1) (aa af ac))) (aa (bA (aa af (aa (pv 2) ac))) (aa (bA (aa (pv 1) (aa (pv 2) ac))) ac)))))) (au (i:=3) gE.nd rfl (.inl rfl))
    (ae (a6 (aK (vO hu) (pv 3) (aR (pv 0) rfl) (by rfl)) (ae (ak (bA (aa af (aa (hG (pv 0) T.cl C1 hr (aa af ac)) ac))))) aJ)))
   (ad (aB (i:=4) gE.nd rfl (.inl rfl) qD)
   (ad (bw E4 rfl (bQ (aR (pv 0) rfl)) (au (i:=5) gE.nd rfl (.inl rfl))
    (ae (pM (FE (G6 (by decide) _) hu) (pv 4) (pv 5) el rfl)))
   (ad (aB (i:=6) gE.nd rfl (.inl rfl) (rZ rfl rfl gli rfl ge (aa (aR (pv 0) rfl) ac)))
   (ad (cw (i:=7) (own:=[("k",12),("point",13)]) (g:=g2 K 12 13) (tt:=fh (tOp rEq (tOp (pE K) (a8 13) (tC (.int 1))) (tC (.int 0)))) rfl gE.nd rfl rfl (dH rfl rfl rfl (by decide +kernel)) (bQ (pv 6)) (bL (by show iH ["drawing","width","height","corner","lines","line","numbered","bottom","top","left","right","edge","k","point"] (ah bf) _ _=true;decide +kernel))
    (λ _ _ _ _ _=>cT (n:=2) rfl (aL (au (i:=12) gE.nd rfl (.inl rfl) (.inr rfl)) (aL (au (i:=13) gE.nd rfl (.inl rfl) (.inr rfl)) bU))) (λ _ _ _ _ _=>jo (aK kq (aw aD (pv 13) af (λ _ _=>rfl)) af (aI _))) (λ _ _ _ _ _=>pv 12))
   (ad (cw (i:=8) (own:=[("k",12),("point",13)]) (g:=g2 K 12 13) (tt:=fh (tOp rEq (tOp (pE K) (a8 13) (tC (.int 1))) (a8 2))) rfl gE.nd rfl rfl (dH rfl rfl rfl (by decide +kernel)) (bQ (pv 6)) (bL (by show iH ["drawing","width","height","corner","lines","line","numbered","bottom","top","left","right","edge","k","point"] (ah bf) _ _=true;decide +kernel))
    (λ _ _ _ _ _=>cT (n:=2) rfl (aL (au (i:=12) gE.nd rfl (.inl rfl) (.inr rfl)) (aL (au (i:=13) gE.nd rfl (.inl rfl) (.inr rfl)) bU))) (λ _ _ _ _ _=>jo (aK kq (aw aD (pv 13) af (λ _ _=>rfl)) (pv 2) (aI _))) (λ _ _ _ _ _=>pv 12))
   (ad (cw (i:=9) (own:=[("k",12),("point",13)]) (g:=g2 K 12 13) (tt:=fh (tOp rEq (tOp (pE K) (a8 13) (tC (.int 0))) (tC (.int 0)))) rfl gE.nd rfl rfl (dH rfl rfl rfl (by decide +kernel)) (bQ (pv 6)) (bL (by show iH ["drawing","width","height","corner","lines","line","numbered","bottom","top","left","right","edge","k","point"] (ah bf) _ _=true;decide +kernel))
    (λ _ _ _ _ _=>cT (n:=2) rfl (aL (au (i:=12) gE.nd rfl (.inl rfl) (.inr rfl)) (aL (au (i:=13) gE.nd rfl (.inl rfl) (.inr rfl)) bU))) (λ _ _ _ _ _=>jo (aK kq (aw aD (pv 13) af (λ _ _=>rfl)) af (aI _))) (λ _ _ _ _ _=>pv 12))
   (ad (cw (i:=10) (own:=[("k",12),("point",13)]) (g:=g2 K 12 13) (tt:=fh (tOp rEq (tOp (pE K) (a8 13) (tC (.int 0))) (a8 1))) rfl gE.nd rfl rfl (dH rfl rfl rfl (by decide +kernel)) (bQ (pv 6)) (bL (by show iH ["drawing","width","height","corner","lines","line","numbered","bottom","top","left","right","edge","k","point"] (ah bf) _ _=true;decide +kernel))
    (λ _ _ _ _ _=>cT (n:=2) rfl (aL (au (i:=12) gE.nd rfl (.inl rfl) (.inr rfl)) (aL (au (i:=13) gE.nd rfl (.inl rfl) (.inr rfl)) bU))) (λ _ _ _ _ _=>jo (aK kq (aw aD (pv 13) af (λ _ _=>rfl)) (pv 1) (aI _))) (λ _ _ _ _ _=>pv 12))
   (ad (bw E4 rfl (sU (bA (aa (pv 7) (aa (pv 8) (aa (pv 9) (aa (pv 10) ac)))))) (au (i:=11) gE.nd rfl (.inl rfl))
    (ae (a6 (ja (cG (aF C2 hr (aa (pv 11) (aa (pv 4) ac))))) (ae (ak (bA (aa af (aa (hG (pv 0) T.cl C1 hr (aa af ac)) ac))))) aJ)))
   (ae (ak bc)))))))))))),?_⟩
  have bad:Ix S=false->∀H3,al H H3->∀q,H3 q=none->Q (.ref q) (upd H3 q (.tup [.int 6,.int (20+8*0)])):=λ z H3 s3 q hq=>by
   rw[EU z]at k
   exact dG.some' k s3 q hq
  refine⟨_,rfl,a,C,dx,_,_,rfl,o.at_,T.cl,T.nW,Ao,?_⟩
  refine⟨_,rfl,a,C,dx,_,_,rfl,o.at_,T.cl,T.nH,Al,?_⟩
  refine⟨(by show 2<=EL;decide),λ t1 h1=>?_⟩
  have hs1:al H (upd H t1 (.tup [.int 0,.int 0])):=aN h1
  have g1:(upd H t1 (.tup [.int 0,.int 0])) t1=some (.tup (iV (fR ⟨0,0⟩))):=ag
  generalize upd H t1 (.tup [.int 0,.int 0])=Ha at hs1 g1
  refine⟨_,rfl,(by show 2<=EL;decide),λ t2 h2=>?_⟩
  have hs2:al Ha (upd Ha t2 (.tup [.int (S.w:Int),.int 0])):=aN h2
  have g2':(upd Ha t2 (.tup [.int (S.w:Int),.int 0])) t2=some (.tup (iV (fR ⟨S.w,0⟩))):=ag
  generalize upd Ha t2 (.tup [.int (S.w:Int),.int 0])=Hb at hs2 g2'
  refine⟨_,rfl,(by show 2<=EL;decide),λ t3 h3=>?_⟩
  have hs3:al Hb (upd Hb t3 (.tup [.int 0,.int (S.h:Int)])):=aN h3
  have g3:(upd Hb t3 (.tup [.int 0,.int (S.h:Int)])) t3=some (.tup (iV (fR ⟨0,S.h⟩))):=ag
  generalize upd Hb t3 (.tup [.int 0,.int (S.h:Int)])=Hc at hs3 g3
  refine⟨_,rfl,_,rfl,(by show 2<=EL;decide),λ t4 h4=>?_⟩
  have hs4:al Hc (upd Hc t4 (.tup [.int (S.w:Int),.int (S.h:Int)])):=aN h4
  have g4:(upd Hc t4 (.tup [.int (S.w:Int),.int (S.h:Int)])) t4=some (.tup (iV (fR ⟨S.w,S.h⟩))):=ag
  generalize upd Hc t4 (.tup [.int (S.w:Int),.int (S.h:Int)])=Hd at hs4 g4
  refine⟨(by show 4<=EL;decide),λ t5 h5=>?_⟩
  have hs5:al Hd (upd Hd t5 (.tup [.ref t1,.ref t2,.ref t3,.ref t4])):=aN h5
  have g5:(upd Hd t5 (.tup [.ref t1,.ref t2,.ref t3,.ref t4])) t5=some (.tup ([t1,t2,t3,t4].map V.ref)):=ag
  generalize upd Hd t5 (.tup [.ref t1,.ref t2,.ref t3,.ref t4])=He at hs5 g5
  have sHe:al H He:=hs1.trans (hs2.trans (hs3.trans (hs4.trans hs5)))
  have rows:∀(i:Nat) (b:EJ) (c:Pt),[t1,t2,t3,t4][i]? = some b->(eu S)[i]? = some c->He b=some (.tup (iV (fR c))):=by
   intro i b c e1 e2
   have hi:i<4:=(gsi e1).1
   rcases(by omega:i=0\/i=1\/i=2\/i=3) with rfl|rfl|rfl|rfl
   ·cases osi e1;cases osi e2
    exact hs5 _ _ (hs4 _ _ (hs3 _ _ (hs2 _ _ g1)))
   ·cases osi e1;cases osi e2
    exact hs5 _ _ (hs4 _ _ (hs3 _ _ g2'))
   ·cases osi e1;cases osi e2
    exact hs5 _ _ (hs4 _ _ g3)
   ·cases osi e1;cases osi e2
    exact hs5 _ _ g4
  refine⟨t5,rfl,⟨_,SqT.of g5⟩,p9 (K:=K) (a:=t5) (xs:=[t1,t2,t3,t4].map V.ref) (λ i σ H'=>al He H'/\(∃v,σ=[some (.ref a),some (.int (S.w:Int)),some (.int (S.h:Int)),v,none,none,none,none,none,none,none,none,none,none])/\∀(j:Nat) (c:Pt),j<i->(eu S)[j]? = some c->c∈S.pts)
   ⟨al.refl He,⟨none,rfl⟩,λ j c h=>absurd h (FT _)⟩ (λ i σ H' _ h=>SqT.of (h.1 _ _ g5)) ?_ ?_⟩
  ·rintro i y σ H' hi ⟨hS,⟨v,rfl⟩,hok⟩
   obtain⟨b,hb,rfl⟩:=cu hi
   have hi4:i<(eu S).length:=(gsi hb).1
   have hc:(eu S)[i]? = some (eu S)[i]:=gge hi4
   have o2:=o.same (sHe.trans hS)
   refine⟨_,rfl,_,rfl,a,C,dx,_,_,rfl,o2.at_,T.cl,T.nP,iG,b,p,fR (eu S)[i],ps,S.pts.map fR,rfl,rfl,SqT.of (hS _ _ (rows i b _ hb hc)),SqL.of o2.pl,by rw[lmp,o.pn],?_,_,rfl,aS (λ c=>?_) (λ c=>?_)⟩
   ·intro j a' q e1 e2
    have hj:j<S.pts.length:=by rw[<-o.pn];exact(gsi e1).1
    rw[E2,gge hj]at e2
    have e2:=osi e2
    rw[<-e2,<-WL.bK S hj]
    exact SqT.of (o2.pt j a' e1)
   ·have c:(eu S)[i]∉S.pts:=λ z=>by
     rw[dqt ((tL S _).2 z)]at c
     exact absurd c (by decide)
    refine⟨_,rfl,a,dx,_,rfl,o2.at_,b9 (.inl (.inl rfl)),_,_,rfl,(by show 2<=EL;decide),λ q hq=>?_⟩
    refine bad (cJ λ z=>c ?_) H' (sHe.trans hS) q hq
    exact((kF S).1 z).1 _ (Fm hi4)
   ·have c:(eu S)[i]∈S.pts:=bcn λ z=>c (by rw[dqf (λ y=>z ((tL S _).1 y))];rfl)
    refine⟨hS,⟨_,rfl⟩,λ j q h e=>?_⟩
    by_cases cc:j<i
    ·exact hok j q cc e
    ·have:j=i:=by omega
     subst this
     rw[hc]at e
     cases e
     exact c
  rintro σ H1 ⟨hS1,⟨v3,rfl⟩,hok1⟩
  have cor:∀c∈eu S,c∈S.pts:=λ c hc=>by
   obtain⟨j,hj,rfl⟩:=Fh hc
   exact hok1 j _ hj (gge hj)
  have s1:al H H1:=sHe.trans hS1
  clear hok1 rows g5 g4 g3 g2' g1
  refine λ d hd=>?_
  have hd0:H d=none:=s1.free hd
  have s2:al H (upd H1 d (.dT [])):=aZ s1 hd
  have o2:=o.same s2
  refine⟨_,rfl,a,C,dx,_,_,rfl,o2.at_,T.cl,T.nL,pZ,l,rfl,⟨_,SqL.of o2.ll⟩,eh (K:=K) (a:=l) (xs:=ls.map V.ref) (λ i σ H'=>al H H'/\(∃v,σ=[some (.ref a),some (.int (S.w:Int)),some (.int (S.h:Int)),v3,some (.ref d),v,none,none,none,none,none,none,none,none])/\∃kvs,H' d=some (.dT kvs)/\LD kvs (S.lines.take i)/\kvs.length<=i)
   ⟨s2,⟨none,rfl⟩,[],ag,λ x=>rfl,nlr _⟩ (λ i σ H' _ h=>SqL.of (h.1 _ _ o.ll)) ?_ ?_⟩
  ·rintro t y σ H' hi ⟨hS,⟨v,rfl⟩,kvs,hk,hL,hkl⟩
   obtain⟨b,hb,rfl⟩:=cu hi
   have ht:t<S.lines.length:=by rw[<-o.ln];exact(gsi hb).1
   have hx:H' b=some (.tup ((lk S.lines[t]).map kV)):=(o.same hS).li t b _ hb (gge ht)
   refine⟨_,rfl,_,rfl,d,_,rfl,pO.t (k:=lk S.lines[t]) hk hx (bG (by omega)),?_⟩
   refine⟨aY hS hd0,⟨_,rfl⟩,_,ag,?_,?_⟩
   ·rw[bY (gge ht)]
    exact hL.put _ _
   ·have:=gd kvs (lk S.lines[t]) (.bl true)
    omega
  rintro σ H2 ⟨hS2,⟨v5,rfl⟩,kvs,hk,hL,hkl⟩
  rw[lmp,o.ln,GE]at hL
  have o3:=o.same hS2
  refine⟨_,rfl,a,C,dx,_,_,rfl,o3.at_,T.cl,T.nP,iG,p,_,rfl,SqL.of o3.pl,λ H3 n ts s3 hn hnl hnr=>?_⟩
  rw[lmp]at hnl
  have nm:vX H3 n ts ps:=⟨hn,hnl,λ i t b e1 e2=>hnr i t _ e1 (aP e2)⟩
  have sH3:al H H3:=hS2.trans s3
  have hk3:=s3 _ _ hk
  clear hn hnr hnl
  refine⟨_,rfl,n,rfl,⟨_,SqL.of nm.at_⟩,λ D1 hD1=>?_⟩
  refine lW 1 (λ q=>(q.y:Int)) (λ q=>rfl) (λ p=>p.y==0) 0 (λ q=>l6 q.y 0) (tC (.int 0)) (λ _ _ _ _ h=>h) (o.same sH3) nm np hD1 λ H4 s4 e4=>?_
  have sH4:=sH3.trans s4
  have nm4:=nm.same s4
  refine⟨_,rfl,n,rfl,⟨_,SqL.of nm4.at_⟩,λ D2 hD2=>?_⟩
  refine lW 1 (λ q=>(q.y:Int)) (λ q=>rfl) (λ p=>p.y==S.h) (S.h:Int) (λ q=>l6 q.y S.h) (a8 2) (λ _ _ _ _ h=>⟨_,rfl,h⟩) (o.same sH4) nm4 np hD2 λ H5 s5 e5=>?_
  have sH5:=sH4.trans s5
  have nm5:=nm4.same s5
  refine⟨_,rfl,n,rfl,⟨_,SqL.of nm5.at_⟩,λ D3 hD3=>?_⟩
  refine lW 0 (λ q=>(q.x:Int)) (λ q=>rfl) (λ p=>p.x==0) 0 (λ q=>l6 q.x 0) (tC (.int 0)) (λ _ _ _ _ h=>h) (o.same sH5) nm5 np hD3 λ H6 s6 e6=>?_
  have sH6:=sH5.trans s6
  have nm6:=nm5.same s6
  refine⟨_,rfl,n,rfl,⟨_,SqL.of nm6.at_⟩,λ D4 hD4=>?_⟩
  refine lW 0 (λ q=>(q.x:Int)) (λ q=>rfl) (λ p=>p.x==S.w) (S.w:Int) (λ q=>l6 q.x S.w) (a8 1) (λ _ _ _ _ h=>⟨_,rfl,h⟩) (o.same sH6) nm6 np hD4 λ H7 s7 e7=>?_
  have sH7:=sH6.trans s7
  have s37:al H3 H7:=s4.trans (s5.trans (s6.trans s7))
  refine⟨_,rfl,_,rfl,_,rfl,_,rfl,(by show 4<=EL;decide),λ t8 h8=>?_⟩
  have s8:al H7 (upd H7 t8 (.tup [.ref D1,.ref D2,.ref D3,.ref D4])):=aN h8
  have g8:(upd H7 t8 (.tup [.ref D1,.ref D2,.ref D3,.ref D4])) t8=some (.tup ([D1,D2,D3,D4].map V.ref)):=ag
  generalize upd H7 t8 (.tup [.ref D1,.ref D2,.ref D3,.ref D4])=H8 at s8 g8
  have sH8:=sH7.trans s8
  have hk8:=s8 _ _ (s37 _ _ hk3)
  have edges:∀(i:Nat) (b:EJ) (on:Pt->Bool),[D1,D2,D3,D4][i]? = some b->(ons S)[i]? = some on->H8 b=some (.lst (iV (nI (dN S on S.pts.length)))):=by
   intro i b on e1 e2
   have hi:i<4:=(gsi e1).1
   rcases(by omega:i=0\/i=1\/i=2\/i=3) with rfl|rfl|rfl|rfl
   ·cases osi e1;cases osi e2
    exact s8 _ _ (s7 _ _ (s6 _ _ (s5 _ _ e4)))
   ·cases osi e1;cases osi e2
    exact s8 _ _ (s7 _ _ (s6 _ _ e5))
   ·cases osi e1;cases osi e2
    exact s8 _ _ (s7 _ _ e6)
   ·cases osi e1;cases osi e2
    exact s8 _ _ e7
  refine⟨t8,rfl,⟨_,SqT.of g8⟩,p9 (K:=K) (a:=t8) (xs:=[D1,D2,D3,D4].map V.ref) (λ i σ H'=>al H8 H'/\(∃v,σ=[some (.ref a),some (.int (S.w:Int)),some (.int (S.h:Int)),v3,some (.ref d),v5,some (.ref n),some (.ref D1),some (.ref D2),some (.ref D3),some (.ref D4),v,none,none])/\∀(j:Nat) (on:Pt->Bool),j<i->(ons S)[j]? = some on->eT S.lines (dN S on S.pts.length)=true)
   ⟨al.refl H8,⟨none,rfl⟩,λ j c h=>absurd h (FT _)⟩ (λ i σ H' _ h=>SqT.of (h.1 _ _ g8)) ?_ ?_⟩
  ·rintro i y σ H' hi ⟨hS,⟨v,rfl⟩,hok⟩
   obtain⟨b,hb,rfl⟩:=cu hi
   have hi4:i<(ons S).length:=(gsi hb).1
   have hc:(ons S)[i]? = some (ons S)[i]:=gge hi4
   refine⟨_,rfl,_,rfl,b,d,dN S (ons S)[i] S.pts.length,kvs,S.lines,rfl,hS _ _ (edges i b _ hb hc),hS _ _ hk8,hL,?_,λ H9 s9=>?_⟩
   ·have:=mJ S (ons S)[i] S.pts.length
    omega
   refine⟨_,rfl,?_⟩
   have o9:=o.same (sH8.trans (hS.trans s9))
   cases hj:eT S.lines (dN S (ons S)[i] S.pts.length) with
   |true =>
    refine jU ?_
    refine⟨hS.trans s9,⟨_,rfl⟩,λ j q h e=>?_⟩
    by_cases cc:j<i
    ·exact hok j q cc e
    ·have:j=i:=by omega
     subst this
     rw[hc]at e
     cases e
     exact hj
   |false =>
    refine eI ?_
    refine⟨_,rfl,a,dx,_,rfl,o9.at_,b9 (.inl (.inl rfl)),_,_,rfl,(by show 2<=EL;decide),λ q hq=>?_⟩
    refine bad (cJ λ z=>?_) H9 (sH8.trans (hS.trans s9)) q hq
    rw[((kF S).1 z).2 _ (Fm hi4)]at hj
    cases hj
  ·rintro σ H' ⟨hS,⟨v,rfl⟩,hok⟩
   have z:Ix S=true:=(kF S).2 ⟨cor,λ on hon=>by
    obtain⟨j,hj,rfl⟩:=Fh hon
    exact hok j _ hj (gge hj)⟩
   rw[z,EM (by decide)]at k
   exact k H' (sH8.trans hS)
end
open PySem PySem.Spec PyProof.Rows L2 Wg Wx CM
open Gla (Pt)
def kG (o:Option (Int×Int))(v:V)(H:Hp):Prop:=match o with
 |none=>v=.non
 |some (r,p)=>∃q,v=.ref q/\H q=some (.tup [.int r,.int p])
theorem dG.of {o:Option (Int×Int)}{H:Hp}{Q:VK}(h:∀v H',al H H'->kG o v H'->Q v H'):dG o H Q:=by
 cases o with
 |none=>exact λ H' s=>h .non H' s rfl
 |some x=>exact λ H' q s e=>h (.ref q) H' s ⟨q,rfl,e⟩
theorem dG.to {o:Option (Int×Int)}{H H':Hp}{Q:VK}{v:V}(k:dG o H Q)(s:al H H')(f:kG o v H'):Q v H':=by
 cases o with
 |none=>rw[show v=.non from f];exact k H' s
 |some x =>
  obtain⟨q,rfl,e⟩:=f
  exact k H' q s e
def o4 (S:Gla.Plan):Option (Int×Int):=jy 4 kM (FX (ok4 S) Pt.below S.pts)
def o5 (S:Gla.Plan):Option (Int×Int):=jy 5 (pR S) (FX (ok5 S) F5 S.lines)
def o6 (S:Gla.Plan):Option (Int×Int):=if Ix S=false then some (6,20) else none
def o7 (S:Gla.Plan):Option (Int×Int):=jy 7 (pR S) (Gla.firstAt (HW S) S.lines)
def o8 (S:Gla.Plan):Option (Int×Int):=jy 8 kM ((Fe S.pts.length).find? λ i=>decide ((S.near i).length<2))
def o9 (S:Gla.Plan):Option (Int×Int):=jy 9 kM ((Fe S.pts.length).find? λ i=>!((lH S).getD i false))
def o10 (S:Gla.Plan):Option (Int×Int):=jy 10 kM ((Fe S.pts.length).find? (Gla.cuts S.nears S.pts.length))
def o11 (S:Gla.Plan):Option (Int×Int):=jy 11 (mO S) (FX (Hh S) GB S.marks)
def kR (a b:Option (Int×Int)):Option (Int×Int):=match a with
 |some x=>some x
 |none=>b
def bN (S:Gla.Plan):Option (Int×Int):=kR (o4 S) (kR (o5 S) (kR (o6 S) (kR (o7 S) (kR (o8 S) (kR (o9 S) (kR (o10 S) (o11 S)))))))
theorem d5 {r:Int}{pl:Nat->Int}{o:Option Nat}(h:jy r pl o=none):o=none:=by
 cases o with
 |none=>rfl
 |some i=>cases h
theorem ng {S:Gla.Plan}(h:gv S):wV S:=λ i hi j hj=>by
 unfold Gla.Plan.near at hj
 rw[List.mem_filterMap]at hj
 obtain⟨l,hl,e⟩:=hj
 obtain⟨l1,l2⟩:=h l hl
 split at e
 ·have e:=osi e
  omega
 ·split at e
  ·have e:=osi e
   omega
  ·cases e
section
variable  {P:E8}{w:FL}{K:FQ}{mg:Str->Option Value}{base:Heap}{C:EJ}
theorem gZ {b:V}{q:EJ}{A B:Prop}(h:B)(e:b=.ref q):if decide (b=V.non)=true then A else B:=aS (λ c=>by rw[e]at c;exact absurd (EH c) (by intro z;cases z)) (λ _=>h)
theorem lF {A B:Prop}(h:A):if decide (V.non=V.non)=true then A else B:=aS (λ _=>h) (λ c=>absurd (dqt rfl) c)
def CL (C:EJ):Sp:=λ vs H Q _=>∃(a:EJ) (S:Gla.Plan),vs=[.ref a]/\bz C H a S/\SB S/\4<=S.pts.length/\dG (bN S) H Q
theorem nR:aq ["drawing","fault","neighbours"] ["drawing"] (ah cC):=⟨rfl,rfl,rfl,by decide +kernel,rfl,by decide +kernel,by decide +kernel⟩
theorem Cw (F:Has K mg "fault_of_drawing" cC ["drawing"]) (C4:Cb P w K mg base 2 "fault_of_points" ["drawing"] (Cv C)) (C5:Cb P w K mg base 3 "fault_of_lines" ["drawing"] (DN C)) (C6:Cb P w K mg base 2 "fault_of_frame" ["drawing"] (DS C)) (C7:Cb P w K mg base 5 "fault_of_crossings" ["drawing"] (Dc C))
  (CN:Cb P w K mg base 1 "neighbours_of" ["drawing"] (As C)) (C8:Cb P w K mg base 2 "fault_of_ends" ["drawing","neighbours"] (CD C)) (C9:Cb P w K mg base 2 "fault_of_ways" ["drawing","neighbours"] (CT C)) (C10:Cb P w K mg base 2 "fault_of_narrows" ["drawing","neighbours"] (zU C)) (C11:Cb P w K mg base 4 "fault_of_marks" ["drawing"] (zL C)) :
  Cb P w K mg base 6 "fault_of_drawing" ["drawing"] (CL C):=by
 refine F.cb nR (λ vs H Q E h=>?_) (λ f cdv A outer s H vs Q E hr h=>?_)
 ·obtain⟨a,S,rfl,_⟩:=h
  rfl
 ·obtain⟨a,S,rfl,hd,sb,h4,k⟩:=h
  have hr1:bu 1 _:=hr.mono (by decide)
  have hr2:bu 2 _:=hr.mono (by decide)
  have hr3:bu 3 _:=hr.mono (by decide)
  have hr4:bu 4 _:=hr.mono (by decide)
  refine⟨_,ad (aB (i:=1) nR.nd rfl (.inl rfl) (aF C4 hr2 (aa (pv 0) ac)))
   (ad (a6 (aK i6 (pv 1) bc (aI _)) (ae (aB (i:=1) nR.nd rfl (.inl rfl) (aF C5 hr3 (aa (pv 0) ac)))) aJ)
   (ad (a6 (aK i6 (pv 1) bc (aI _)) (ae (aB (i:=1) nR.nd rfl (.inl rfl) (aF C6 hr2 (aa (pv 0) ac)))) aJ)
   (ad (a6 (aK i6 (pv 1) bc (aI _)) (ae (aB (i:=1) nR.nd rfl (.inl rfl) (aF C7 hr (aa (pv 0) ac)))) aJ)
   (ad (a6 (aK jq (pv 1) bc (aI _)) (ae (ak (pv 1))) aJ)
   (ad (aB (i:=2) nR.nd rfl (.inl rfl) (aF CN hr1 (aa (pv 0) ac)))
   (ad (aB (i:=1) nR.nd rfl (.inl rfl) (aF C8 hr2 (aa (pv 0) (aa (pv 2) ac))))
   (ad (a6 (aK i6 (pv 1) bc (aI _)) (ae (aB (i:=1) nR.nd rfl (.inl rfl) (aF C9 hr2 (aa (pv 0) (aa (pv 2) ac))))) aJ)
   (ad (a6 (aK i6 (pv 1) bc (aI _)) (ae (aB (i:=1) nR.nd rfl (.inl rfl) (aF C10 hr2 (aa (pv 0) (aa (pv 2) ac))))) aJ)
   (ad (a6 (aK i6 (pv 1) bc (aI _)) (ae (aB (i:=1) nR.nd rfl (.inl rfl) (aF C11 hr4 (aa (pv 0) ac)))) aJ)
   (ae (ak (pv 1)))))))))))),?_⟩
  refine⟨_,rfl,a,S,rfl,hd,sb,dG.of λ v H1 s1 f4=>?_⟩
  have f4:kG (o4 S) v H1:=f4
  cases e4:o4 S with
  |some x =>
   rw[e4]at f4
   obtain⟨q,rfl,hq⟩:=id f4
   refine⟨_,rfl,rfl,_,rfl,gZ ?_ rfl⟩
   refine⟨_,rfl,rfl,_,rfl,gZ ?_ rfl⟩
   refine⟨_,rfl,rfl,_,rfl,gZ ?_ rfl⟩
   refine⟨_,rfl,rfl,_,rfl,aS (λ _=>⟨_,rfl,?_⟩) (λ c=>absurd (by rw[dqf (by intro z;cases z)];rfl) c)⟩
   have e:bN S=some x:=by unfold bN;rw[e4];rfl
   rw[e]at k
   exact k.to s1 f4
  |none =>
  rw[e4]at f4
  obtain rfl:v=.non:=f4
  have r4:WL.R4 S:=d5 e4
  refine⟨_,rfl,rfl,_,rfl,lF ?_⟩
  refine⟨_,rfl,a,S,rfl,hd.same s1,sb,dG.of λ v H2 s2 f5=>?_⟩
  have f5:kG (o5 S) v H2:=f5
  have s2:=s1.trans s2
  cases e5:o5 S with
  |some x =>
   rw[e5]at f5
   obtain⟨q,rfl,hq⟩:=id f5
   refine⟨_,rfl,rfl,_,rfl,gZ ?_ rfl⟩
   refine⟨_,rfl,rfl,_,rfl,gZ ?_ rfl⟩
   refine⟨_,rfl,rfl,_,rfl,aS (λ _=>⟨_,rfl,?_⟩) (λ c=>absurd (by rw[dqf (by intro z;cases z)];rfl) c)⟩
   have e:bN S=some x:=by unfold bN;rw[e4,e5];rfl
   rw[e]at k
   exact k.to s2 f5
  |none =>
  rw[e5]at f5
  obtain rfl:v=.non:=f5
  have r5:WL.R5 S:=d5 e5
  have hlo:gv S:=λ l hl=>r5.line hl
  refine⟨_,rfl,rfl,_,rfl,lF ?_⟩
  refine⟨_,rfl,a,S,rfl,hd.same s2,sb,dG.of λ v H3 s3 f6=>?_⟩
  have f6:kG (o6 S) v H3:=f6
  have s3:=s2.trans s3
  cases e6:o6 S with
  |some x =>
   rw[e6]at f6
   obtain⟨q,rfl,hq⟩:=id f6
   refine⟨_,rfl,rfl,_,rfl,gZ ?_ rfl⟩
   refine⟨_,rfl,rfl,_,rfl,aS (λ _=>⟨_,rfl,?_⟩) (λ c=>absurd (by rw[dqf (by intro z;cases z)];rfl) c)⟩
   have e:bN S=some x:=by unfold bN;rw[e4,e5,e6];rfl
   rw[e]at k
   exact k.to s3 f6
  |none =>
  rw[e6]at f6
  obtain rfl:v=.non:=f6
  refine⟨_,rfl,rfl,_,rfl,lF ?_⟩
  refine⟨_,rfl,a,S,rfl,hd.same s3,sb,r4,r5,dG.of λ v H4 s4 f7=>?_⟩
  have f7:kG (o7 S) v H4:=f7
  have s4:=s3.trans s4
  cases e7:o7 S with
  |some x =>
   rw[e7]at f7
   obtain⟨q,rfl,hq⟩:=id f7
   refine⟨_,rfl,rfl,_,rfl,aS (λ _=>⟨_,rfl,?_⟩) (λ c=>absurd (by rw[dqf (by intro z;cases z)];rfl) c)⟩
   have e:bN S=some x:=by unfold bN;rw[e4,e5,e6,e7];rfl
   rw[e]at k
   exact k.to s4 f7
  |none =>
  rw[e7]at f7
  obtain rfl:v=.non:=f7
  refine⟨_,rfl,rfl,_,rfl,aS (λ c=>absurd c (by decide)) (λ _=>?_)⟩
  refine⟨_,rfl,a,S,rfl,hd.same s4,sb,hlo,λ H5 N as hN hNl=>?_⟩
  have s5:=s4.trans hN.sm
  have rw5:=hN.rw
  refine⟨_,rfl,_,rfl,a,N,as,S,rfl,hd.same s5,rw5,hNl,dG.of λ v H6 s6 f8=>?_⟩
  have f8:kG (o8 S) v H6:=f8
  have rw6:=rw5.same s6
  have s6:=s5.trans s6
  cases e8:o8 S with
  |some x =>
   rw[e8]at f8
   obtain⟨q,rfl,hq⟩:=id f8
   refine⟨_,rfl,rfl,_,rfl,gZ ?_ rfl⟩
   refine⟨_,rfl,rfl,_,rfl,gZ ?_ rfl⟩
   refine⟨_,rfl,rfl,_,rfl,gZ ⟨_,rfl,?_⟩ rfl⟩
   have e:bN S=some x:=by unfold bN;rw[e4,e5,e6,e7,e8];rfl
   rw[e]at k
   exact k.to s6 f8
  |none =>
  rw[e8]at f8
  obtain rfl:v=.non:=f8
  refine⟨_,rfl,rfl,_,rfl,lF ?_⟩
  refine⟨_,rfl,_,rfl,a,N,as,S,rfl,hd.same s6,sb,h4,ng hlo,rw6,hNl,dG.of λ v H7 s7 f9=>?_⟩
  have f9:kG (o9 S) v H7:=f9
  have rw7:=rw6.same s7
  have s7:=s6.trans s7
  cases e9:o9 S with
  |some x =>
   rw[e9]at f9
   obtain⟨q,rfl,hq⟩:=id f9
   refine⟨_,rfl,rfl,_,rfl,gZ ?_ rfl⟩
   refine⟨_,rfl,rfl,_,rfl,gZ ⟨_,rfl,?_⟩ rfl⟩
   have e:bN S=some x:=by unfold bN;rw[e4,e5,e6,e7,e8,e9];rfl
   rw[e]at k
   exact k.to s7 f9
  |none =>
  rw[e9]at f9
  obtain rfl:v=.non:=f9
  refine⟨_,rfl,rfl,_,rfl,lF ?_⟩
  refine⟨_,rfl,_,rfl,a,N,as,S,rfl,hd.same s7,sb,h4,ng hlo,rw7,hNl,dG.of λ v H8 s8 f10=>?_⟩
  have f10:kG (o10 S) v H8:=f10
  have s8:=s7.trans s8
  cases e10:o10 S with
  |some x =>
   rw[e10]at f10
   obtain⟨q,rfl,hq⟩:=id f10
   refine⟨_,rfl,rfl,_,rfl,gZ ⟨_,rfl,?_⟩ rfl⟩
   have e:bN S=some x:=by unfold bN;rw[e4,e5,e6,e7,e8,e9,e10];rfl
   rw[e]at k
   exact k.to s8 f10
  |none =>
  rw[e10]at f10
  obtain rfl:v=.non:=f10
  refine⟨_,rfl,rfl,_,rfl,lF ?_⟩
  refine⟨_,rfl,a,S,rfl,hd.same s8,sb,hlo,dG.of λ v H9 s9 f11=>?_⟩
  refine⟨_,rfl,?_⟩
  have e:bN S=o11 S:=by unfold bN;rw[e4,e5,e6,e7,e8,e9,e10];rfl
  rw[e]at k
  exact k.to (s8.trans s9) f11
end
open PySem PySem.Spec PyProof.Rows L2 Wg Wx CM
open Gla (Pt)
def mC (K:FQ)(H:Hp)(p:EJ)(ps:List EJ)(S:Gla.Plan):Prop:=H p=some (.lst (ps.map V.ref))/\ps.length=S.pts.length/\∀(i:Nat) (b:EJ),ps[i]? = some b->cF K H b (S.pt i)
theorem mC.same {K:FQ}{H H':Hp}{p:EJ}{ps:List EJ}{S:Gla.Plan}(h:mC K H p ps S)(s:al H H'):mC K H' p ps S:=⟨s _ _ h.1,h.2.1,λ i b e=>(h.2.2 i b e).same s⟩
theorem mC.has {K:FQ}{H:Hp}{p:EJ}{ps:List EJ}{S:Gla.Plan}(h:mC K H p ps S){i:Nat}(hi:i<S.pts.length):∃b,ps[i]? = some b:=⟨ps[i]'(by rw[h.2.1];exact hi),gge _⟩
theorem Op.ptsL {K:FQ}{C:EJ}{H:Hp}{a dx p l m:EJ}{S:Gla.Plan}{ps ls ms:List EJ}(o:Op K C H a dx p l m S ps ls ms)(sb:SB S):mC K H p ps S:=⟨o.pl,o.pn,λ i b e=>o.ptAt sb e⟩
theorem pP {S:Gla.Plan}{m e:Nat}{l:List Nat}{t:Nat}(h:l.length<=t):WL.bh S m e (l.drop t)=e :: l.drop t:=by
 rw[G7 h]
 rfl
theorem xB {S:Gla.Plan}{m e:Nat}{l:List Nat}{t:Nat}(h:t<l.length)(ht:¬0<Gm (S.pt m) (S.pt l[t]) (S.pt e)):WL.bh S m e (l.drop t)=e :: l.drop t:=by
 rw[GH h]
 unfold WL.bh
 rw[EM ht]
theorem A0 {S:Gla.Plan}{m e:Nat}{l:List Nat}{t:Nat}(h:t<l.length)(ht:0<Gm (S.pt m) (S.pt l[t]) (S.pt e)):l.take t++WL.bh S m e (l.drop t)=l.take (t+1)++WL.bh S m e (l.drop (t+1)):=by
 rw[GH h,bY (gge h),List.append_assoc]
 conv=>lhs;unfold WL.bh
 rw[EU ht]
 rfl
theorem uO {S:Gla.Plan}{m:Nat}{l:List Nat}{i e:Nat}(h:l[i]? = some e):WL.sortTurn S m (l.take (i+1))=WL.bh S m e (WL.sortTurn S m (l.take i)):=by
 unfold WL.sortTurn
 rw[bY h,List.foldl_append]
 rfl
theorem mU (S:Gla.Plan)(m:Nat)(l:List Nat):(WL.sortTurn S m l).length=l.length:=(WL.cQ S m l).length_eq
theorem xb {S:Gla.Plan}{m:Nat}{l:List Nat}{x:Nat}(h:x∈WL.sortTurn S m l):x∈l:=(WL.cQ S m l).mem_iff.1 h
theorem yw (l:List Nat)(t:Nat):(iV (nI l)).take t=iV (nI (l.take t)):=by
 unfold iV nI
 rw[Hk,Hk]
theorem zr (l:List Nat)(t:Nat):(iV (nI l)).drop t=iV (nI (l.drop t)):=by
 unfold iV nI
 rw[Ii,Ii]
theorem wv (l r:List Nat):iV (nI (l++r))=iV (nI l)++iV (nI r):=by
 unfold iV nI
 rw[Fi,Fi]
section
variable  {P:E8}{w:FL}{K:FQ}{mg:Str->Option Value}{base:Heap}{C:EJ}
def BD (K:FQ):Sp:=λ vs H Q _=>∃(p ea:EJ) (ps:List EJ) (S:Gla.Plan) (m:Nat) (ends:List Nat),vs=[.ref p,.int (m:Int),.ref ea]/\mC K H p ps S/\m<S.pts.length/\H ea=some (.lst (iV (nI ends)))/\(∀x∈ends,x<S.pts.length)/\ends.length<=100000 /\
 ∀(H':Hp) (r:EJ),al H H'->H r=none->H' r=some (.lst (iV (nI (WL.sortTurn S m ends))))->Q (.ref r) H'
theorem xz:aq ["points","middle","ends","ring","end","place"] ["points","middle","ends"] (ah du):=⟨rfl,rfl,rfl,by decide +kernel,rfl,by decide +kernel,by decide +kernel⟩
theorem DH (F:Has K mg "sorted_by_turn" du ["points","middle","ends"]) (gl:mg "len"=none) (C1:Cb P w K mg base 1 "turn" ["p","q","r"] (kY K)):Cb P w K mg base 2 "sorted_by_turn" ["points","middle","ends"] (BD K):=by
 refine F.cb xz (λ vs H Q E h=>?_) (λ f cdv A outer s H vs Q E hr h=>?_)
 ·obtain⟨p,ea,ps,S,m,ends,rfl,_⟩:=h
  rfl
 ·obtain⟨p,ea,ps,S,m,ends,rfl,hp,hm,he,hen,hel,k⟩:=h
  refine⟨_,ad (aB (i:=3) xz.nd rfl (.inl rfl) (dL ac))
   (ad (bw E4 rfl (bQ (pv 2)) (au (i:=4) xz.nd rfl (.inl rfl))
    (ad (aB (i:=5) xz.nd rfl (.inl rfl) af)
    (ad (md E4 (jD (aK gf (pv 5) (aW aO (by rfl) gl FB (aa (pv 3) ac)) (aI _)) (io (aK d6 (aF C1 hr (aa (aw aU (pv 0) (pv 1) (λ _ _=>rfl)) (aa (aw aU (pv 0) (aw aU (pv 3) (pv 5) (λ _ _=>rfl)) (λ _ _=>rfl)) (aa (aw aU (pv 0) (pv 4) (λ _ _=>rfl)) ac)))) af (aI _)))).pt
     (ae (xS (i:=5) xz.nd rfl (.inl rfl) af xA)))
    (ae (jh (ly FU PySem.F.slot_list_insert PySem.F.type_list_insert uY (pv 3) (aa (pv 5) (aa (pv 4) ac))))))))
   (ae (ak (pv 3)))),?_⟩
  refine⟨(by show 0<=EL;decide),λ r hr0=>?_⟩
  have ner:ea≠r:=aQ he hr0
  refine⟨_,rfl,ea,rfl,⟨_,SqL.of (by rw[ap ner];exact he)⟩,eh (K:=K) (a:=ea) (xs:=iV (nI ends)) (λ i σ H'=>al H H'/\(∃v1 v2,σ=[some (.ref p),some (.int (m:Int)),some (.ref ea),some (.ref r),v1,v2])/\H' r=some (.lst (iV (nI (WL.sortTurn S m (ends.take i))))))
   ⟨aN hr0,⟨none,none,rfl⟩,ag⟩ (λ i σ H' _ h=>SqL.of (h.1 _ _ he)) ?_ ?_⟩
  ·rintro i y σ H' hi ⟨hS,⟨v1,v2,rfl⟩,hrr⟩
   obtain⟨e,hie,rfl⟩:=lG hi
   have hen':e<S.pts.length:=hen e (FG hie)
   have hp':=hp.same hS
   have hlt:(WL.sortTurn S m (ends.take i)).length<=i:=by
    rw[mU,FM]
    omega
   have hil:i<ends.length:=(gsi hie).1
   have hrn:∀x∈WL.sortTurn S m (ends.take i),x<S.pts.length:=λ x hx=>hen x (F8 (xb hx))
   rw[uO hie]
   generalize WL.sortTurn S m (ends.take i)=ring at hrr hlt hrn
   obtain⟨bm,hbm⟩:=hp'.has hm
   obtain⟨be,hbe⟩:=hp'.has hen'
   have fin:∀(t:Nat),t<=ring.length->ring.take t++WL.bh S m e (ring.drop t)=WL.bh S m e ring->WL.bh S m e (ring.drop t)=e :: ring.drop t ->
     zO (tBM K "list" tV (a8 3) (bD (a8 5) (bD (a8 4) fY))) { nx:=λ σ H'=>al H H'/\(∃v1 v2,σ=[some (.ref p),some (.int (m:Int)),some (.ref ea),some (.ref r),v1,v2])/\H' r=some (.lst (iV (nI (WL.bh S m e ring)))),rt:=Q,bk:=λ σ H'=>mw (a8 3) { nx:=λ _ H'=>Q .non H',rt:=Q } σ H',ct:=λ σ H'=>al H H'/\(∃v1 v2,σ=[some (.ref p),some (.int (m:Int)),some (.ref ea),some (.ref r),v1,v2])/\H' r=some (.lst (iV (nI (WL.bh S m e ring)))) }
      [some (.ref p),some (.int (m:Int)),some (.ref ea),some (.ref r),some (.int (e:Int)),some (.int (t:Int))] H':=λ t ht h1 h2=>by
    refine⟨_,rfl,.inl ⟨rfl,_,SqL.of hrr⟩,_,rfl,_,rfl,r,_,_,_,rfl,rfl,hrr,by omega,by rw[bS];omega,by rw[bS];exact bG (by omega),?_⟩
    refine⟨aY hS hr0,⟨_,_,rfl⟩,?_⟩
    rw[ag,F0,yw,zr,<-h1,h2,wv]
    rfl
   refine⟨λ mm σ H2=>H2=H'/\∃t,mm=ring.length-t/\t<=ring.length/\σ=[some (.ref p),some (.int (m:Int)),some (.ref ea),some (.ref r),some (.int (e:Int)),some (.int (t:Int))]/\ring.take t++WL.bh S m e (ring.drop t)=WL.bh S m e ring,
    ⟨ring.length,rfl,0,rfl,FR _,rfl,rfl⟩,?_⟩
   rintro mm σ H2 ⟨rfl,t,rfl,ht,rfl,hins⟩
   refine⟨_,rfl,_,rfl,r,_,rfl,.inl (SqL.of hrr),_,_,rfl,rfl,_,rfl,aS (λ c=>?_) (λ c=>jU ?_)⟩
   ·have c:=EH c
    rw[bS]at c
    have htl:t<ring.length:=by omega
    obtain⟨bt,hbt⟩:=hp'.has (hrn _ (Fm htl))
    refine⟨_,rfl,_,rfl,p,_,_,_,rfl,rfl,SqL.of hp'.1,aA (j:=m) rfl (aP hbm),_,rfl,_,rfl,_,rfl,r,_,_,_,rfl,rfl,SqL.of hrr,aA (j:=t) rfl (lg htl),p,_,_,_,rfl,rfl,SqL.of hp'.1,aA (j:=ring[t]) rfl (aP hbt),
     _,rfl,_,rfl,p,_,_,_,rfl,rfl,SqL.of hp'.1,aA (j:=e) rfl (aP hbe),bm,bt,be,_,_,_,rfl,hp'.2.2 _ _ hbm,hp'.2.2 _ _ hbt,hp'.2.2 _ _ hbe,_,_,rfl,rfl,_,rfl,aS (λ c2=>?_) (λ c2=>?_)⟩
    ·have c2:=EH c2
     refine⟨λ σ2 H3=>H3=H2/\σ2=[some (.ref p),some (.int (m:Int)),some (.ref ea),some (.ref r),some (.int (e:Int)),some (.int ((t+1:Nat):Int))],?_,?_⟩
     ·rintro σ2 H3 ⟨rfl,rfl⟩
      refine⟨ring.length-(t+1),by omega,rfl,t+1,rfl,htl,rfl,?_⟩
      rw[<-hins]
      exact(A0 htl c2).symm
     ·refine⟨_,rfl,_,_,rfl,rfl,rfl,?_⟩
      rfl
    ·have c2:=aG c2
     exact fin t ht hins (xB htl c2)
   ·have c:=aG c
    rw[bS]at c
    exact fin t ht hins (pP (by omega))
  ·rintro σ H' ⟨hS,⟨v1,v2,rfl⟩,hrr⟩
   rw[bS,GE]at hrr
   exact⟨_,rfl,k H' r hS hr0 hrr⟩
end
open PySem PySem.Spec PyProof.Rows L2 Wg Wx CM
open Gla (Pt)
theorem j0 {l:List Nat}{i x:Nat}{q:Nat->Bool}(h:l[i]? = some x):(l.take (i+1)).filter q=if q x=true then (l.take i).filter q++[x] else (l.take i).filter q:=by
 rw[bY h,List.filter_append]
 split
 ·rename_i c
  rw[List.filter_cons_of_pos c]
  rfl
 ·rename_i c
  rw[List.filter_cons_of_neg c]
  exact Gd _
theorem tR (l:List Nat)(i:Nat)(q:Nat->Bool):((l.take i).filter q).length<=l.length:=Fw (Hs _ _) (by rw[FM];omega)
section
variable  {P:E8}{w:FL}{K:FQ}{mg:Str->Option Value}{base:Heap}{C:EJ}
def D8 (S:Gla.Plan)(m:Nat)(ends:List Nat):List Nat:=WL.sortTurn S m (ends.filter λ e=>decide (m<e))++WL.sortTurn S m (ends.filter λ e=>decide (e<m))
def A4 (K:FQ):Sp:=λ vs H Q _=>∃(p ea:EJ) (ps:List EJ) (S:Gla.Plan) (m:Nat) (ends:List Nat),vs=[.ref p,.int (m:Int),.ref ea]/\mC K H p ps S/\m<S.pts.length/\H ea=some (.lst (iV (nI ends)))/\(∀x∈ends,x<S.pts.length)/\ends.length<=100000 /\
 ∀(H':Hp) (r:EJ),al H H'->H r=none->H' r=some (.lst (iV (nI (D8 S m ends))))->Q (.ref r) H'
theorem wa:aq ["points","middle","ends","higher","lower","end"] ["points","middle","ends"] (ah dC):=⟨rfl,rfl,rfl,by decide +kernel,rfl,by decide +kernel,by decide +kernel⟩
theorem Cd (F:Has K mg "ring_round" dC ["points","middle","ends"]) (C1:Cb P w K mg base 2 "sorted_by_turn" ["points","middle","ends"] (BD K)):Cb P w K mg base 3 "ring_round" ["points","middle","ends"] (A4 K):=by
 refine F.cb wa (λ vs H Q E h=>?_) (λ f cdv A outer s H vs Q E hr h=>?_)
 ·obtain⟨p,ea,ps,S,m,ends,rfl,_⟩:=h
  rfl
 ·obtain⟨p,ea,ps,S,m,ends,rfl,hp,hm,he,hen,hel,k⟩:=h
  refine⟨_,ad (cw (i:=3) (own:=[("end",5)]) (tt:=fh (tOp (rI0 λ i j=>.bl (decide (j<i))) (a8 5) (a8 1))) rfl wa.nd rfl rfl (dH rfl rfl rfl (by decide +kernel)) (bQ (pv 2)) (bL (by show iH ["points","middle","ends","higher","lower","end"] (ah dC) _ _=true;decide +kernel))
    (λ _ _ _ _ _=>au (i:=5) wa.nd rfl (.inl rfl) (.inr rfl)) (λ _ _ _ _ _=>jo (aK d6 (pv 5) (pv 1) (aI _))) (λ _ _ _ _ _=>pv 5))
   (ad (cw (i:=4) (own:=[("end",5)]) (tt:=fh (tOp (rI0 λ i j=>.bl (decide (i<j))) (a8 5) (a8 1))) rfl wa.nd rfl rfl (dH rfl rfl rfl (by decide +kernel)) (bQ (pv 2)) (bL (by show iH ["points","middle","ends","higher","lower","end"] (ah dC) _ _=true;decide +kernel))
    (λ _ _ _ _ _=>au (i:=5) wa.nd rfl (.inl rfl) (.inr rfl)) (λ _ _ _ _ _=>jo (aK gf (pv 5) (pv 1) (aI _))) (λ _ _ _ _ _=>pv 5))
   (ae (ak (aV xC (aF C1 hr (aa (pv 0) (aa (pv 1) (aa (pv 3) ac)))) (aF C1 hr (aa (pv 0) (aa (pv 1) (aa (pv 4) ac)))))))),?_⟩
  refine⟨_,rfl,ea,rfl,⟨_,SqL.of he⟩,λ D hD=>?_⟩
  refine ia (K:=K) (a:=ea) (xs:=iV (nI ends)) (λ i H'=>al H H'/\H' D=some (.lst (iV (nI ((ends.take i).filter λ e=>decide (m<e)))))) ⟨aN hD,ag⟩ (λ i H' _ h=>SqL.of (h.1 _ _ he)) ?_ ?_
  ·rintro i y H' hi ⟨hS,hDl⟩
   obtain⟨e,hie,rfl⟩:=lG hi
   refine⟨rfl,_,rfl,_,rfl,_,_,rfl,rfl,_,rfl,?_⟩
   have ec:decide ((m:Int)<(e:Int))=decide (m<e):=by rw[E1];omega
   rw[ec]
   refine aS (λ c=>?_) (λ c=>?_)
   ·refine⟨_,rfl,_,hDl,?_,aY hS hD,?_⟩
    ·rw[bS]
     have:=tR ends i (λ e=>decide (m<e))
     exact bG (by omega)
    ·rw[ag,j0 hie,EU c,gm]
   ·refine⟨hS,?_⟩
    rw[j0 hie,EM c]
    exact hDl
  rintro H1 ⟨s1,hD1⟩
  rw[bS,GE]at hD1
  refine⟨_,rfl,ea,rfl,⟨_,SqL.of (s1 _ _ he)⟩,λ D2 hD2=>?_⟩
  refine ia (K:=K) (a:=ea) (xs:=iV (nI ends)) (λ i H'=>al H1 H'/\H' D2=some (.lst (iV (nI ((ends.take i).filter λ e=>decide (e<m)))))) ⟨aN hD2,ag⟩ (λ i H' _ h=>SqL.of (h.1 _ _ (s1 _ _ he))) ?_ ?_
  ·rintro i y H' hi ⟨hS,hDl⟩
   obtain⟨e,hie,rfl⟩:=lG hi
   refine⟨rfl,_,rfl,_,rfl,_,_,rfl,rfl,_,rfl,?_⟩
   have ec:decide ((e:Int)<(m:Int))=decide (e<m):=by rw[E1];omega
   rw[ec]
   refine aS (λ c=>?_) (λ c=>?_)
   ·refine⟨_,rfl,_,hDl,?_,aY hS hD2,?_⟩
    ·rw[bS]
     have:=tR ends i (λ e=>decide (e<m))
     exact bG (by omega)
    ·rw[ag,j0 hie,EU c,gm]
   ·refine⟨hS,?_⟩
    rw[j0 hie,EM c]
    exact hDl
  rintro H2 ⟨s2,hD22⟩
  rw[bS,GE]at hD22
  have s12:=s1.trans s2
  have l1:(ends.filter λ e=>decide (m<e)).length<=ends.length:=Hs _ _
  have l2:(ends.filter λ e=>decide (e<m)).length<=ends.length:=Hs _ _
  refine⟨_,rfl,_,rfl,_,rfl,p,D,ps,S,m,_,rfl,hp.same s12,hm,s2 _ _ hD1,λ x hx=>hen x ((Fq.1 hx).1),by omega,λ H3 r1 s3 _ hr1=>?_⟩
  refine⟨_,rfl,_,rfl,_,rfl,p,D2,ps,S,m,_,rfl,hp.same (s12.trans s3),hm,s3 _ _ hD22,λ x hx=>hen x ((Fq.1 hx).1),by omega,λ H4 r2 s4 _ hr2=>?_⟩
  have s14:=s12.trans (s3.trans s4)
  refine⟨r1,r2,_,_,rfl,rfl,s4 _ _ hr1,hr2,?_,λ q hq=>?_⟩
  ·rw[bS,bS,mU,mU]
   exact Iz (bG (by omega))
  ·refine k _ q (aZ s14 hq) (s14.free hq) ?_
   rw[ag,<-wv]
   rfl
theorem kr (ring:Nat->List Nat)(e:Nat×Nat):∀n i j,j<n->(WL.seg ring e i n)[j]? = some (WL.aE ring e (i+j))
 |0,_,_,h=>absurd h (FT _)
 |n+1,i,0,_=>rfl
 |n+1,i,j+1,h=>by
  show(WL.seg ring e (i+1) n)[j]? = _
  rw[kr ring e n (i+1) j (by omega)]
  congr 2
  omega
theorem u7 {l:List Nat}{x:Nat}(h:x∈l):atI (iV (nI l)) (((l.idxOf x:Nat):Int)-1)=some (.int (WL.bE l x:Int)):=by
 unfold WL.bE
 by_cases c:l.idxOf x=0
 ·rw[EU c,c]
  obtain⟨init,z,e⟩:=ka (λ q:l=[]=>by rw[q]at h;cases h)
  rw[e,gm,List.getLast?_concat]
  exact mz _ _
 ·rw[EM c]
  have hlt:l.idxOf x-1<l.length:=by
   have:=List.idxOf_lt_length_iff.2 h
   omega
  have ez:((l.idxOf x:Nat):Int)-1=((l.idxOf x-1:Nat):Int):=by omega
  rw[ez]
  rw[Fa,gge hlt]
  exact pH (lg hlt)
def Bz:Sp:=λ vs H Q _=>∃(R:EJ) (as:List EJ) (S:Gla.Plan) (u v:Nat),vs=[.ref R,.int (u:Int),.int (v:Int)]/\RW H R as (WL.aj S)/\as.length=S.pts.length/\S.pts.length<=100000/\WL.dq S/\(WL.ab S).J u v /\
 ∀(H':Hp) (c:EJ),al H H'->H c=none->H' c=some (.lst (iV (nI (WL.rnd S (u,v)))))->Q (.ref c) H'
theorem rQ:aq ["rings","first","second","corners","last","here","ring","onward"] ["rings","first","second"] (ah fJ):=⟨rfl,rfl,rfl,by decide +kernel,rfl,by decide +kernel,by decide +kernel⟩
theorem tF {S:Gla.Plan}(k:WL.dq S){e:Nat×Nat}(he:(WL.ab S).J e.1 e.2):∀v∈WL.rnd S e,v<S.pts.length:=λ v hv=>by
 obtain⟨x,hx,rfl⟩:=WL.uD k.toKept he hv
 exact(WL.bn S k.toKept).lt (WL.fP k.toKept he hx)
theorem p7 {S:Gla.Plan}(k:WL.dq S){e:Nat×Nat}(he:(WL.ab S).J e.1 e.2):(WL.rnd S e).length<=S.pts.length:=by
 have h:=WL.bC (m:=Fe S.pts.length) (WL.kQ k he) λ x hx=>F3.2 (tF k he x hx)
 rw[F2]at h
 exact h
theorem eQ {S:Gla.Plan}(k:WL.Kept S){e:Nat×Nat}(he:(WL.ab S).J e.1 e.2):∀t,(WL.ab S).J (WL.aE (WL.aj S) e t).1 (WL.aE (WL.aj S) e t).2:=λ t =>
 WL.fP k he ((WL.dY k he).2 ⟨t,rfl⟩)
theorem BU (F:Has K mg "walk_round" fJ ["rings","first","second"]):Cb P w K mg base 1 "walk_round" ["rings","first","second"] Bz:=by
 refine F.cb rQ (λ vs H Q E h=>?_) (λ f cdv A outer s H vs Q E hr h=>?_)
 ·obtain⟨R,as,S,u,v,rfl,_⟩:=h
  rfl
 ·obtain⟨R,as,S,u,v,rfl,hrw,hlen,hn,kp,hJ,k⟩:=h
  refine⟨_,ad (aB (i:=3) rQ.nd rfl (.inl rfl) (dL (aa (pv 1) ac)))
   (ad (aB (i:=4) rQ.nd rfl (.inl rfl) (pv 1)) (ad (aB (i:=5) rQ.nd rfl (.inl rfl) (pv 2))
   (ad (md E4 (aK xQ (pv 5) (pv 1) (aI _))
    (ad (jh (ly FU GO GP hU (pv 3) (aa (pv 5) ac)))
    (ad (aB (i:=6) rQ.nd rfl (.inl rfl) (aw aU (pv 0) (pv 5) (λ _ _=>rfl)))
    (ad (aB (i:=7) rQ.nd rfl (.inl rfl) (aw aU (pv 6) (aV eO (ly FU PySem.F.slot_list_index PySem.F.type_list_index xf (pv 6) (aa (pv 4) ac)) af) (λ _ _=>rfl)))
    (ad (aB (i:=4) rQ.nd rfl (.inl rfl) (pv 5)) (ae (aB (i:=5) rQ.nd rfl (.inl rfl) (pv 7))))))))
   (ae (ak (pv 3)))))),?_⟩
  have per:=WL.di kp.toKept (e:=(u,v)) hJ
  have hNl:=p7 kp (e:=(u,v)) hJ
  have hnd:=WL.kQ kp (e:=(u,v)) hJ
  have hrnd:=per.rnd
  generalize hN:(WL.rnd S (u,v)).length=N at per hNl hrnd
  have g:=WL.bn S kp.toKept
  refine⟨_,rfl,(by show 1<=EL;decide),λ c hc=>?_⟩
  refine⟨_,rfl,_,rfl,?_⟩
  refine⟨λ mm σ H'=>al H H'/\∃t v6 v7,mm=N-t/\t<N/\σ=[some (.ref R),some (.int (u:Int)),some (.int (v:Int)),some (.ref c),some (.int ((WL.aE (WL.aj S) (u,v) t).1:Int)),some (.int ((WL.aE (WL.aj S) (u,v) t).2:Int)),v6,v7]/\H' c=some (.lst (iV (nI ((WL.seg (WL.aj S) (u,v) 0 (t+1)).map (·.1))))),
   ⟨N,aN hc,0,none,none,rfl,per.pos,rfl,ag⟩,?_⟩
  rintro mm σ H' ⟨hS,t,v6,v7,rfl,ht,rfl,hcc⟩
  refine⟨_,rfl,_,rfl,rfl,_,rfl,aS (λ c1=>?_) (λ c1=>?_)⟩
  ·have c1:(WL.aE (WL.aj S) (u,v) t).2≠u:=λ z=>by
    rw[z,dqt rfl]at c1
    exact absurd c1 (by decide)
   have ht2:t+1<N:=by
    refine bcn λ z=>c1 ?_
    have e:t+1=N:=by omega
    have:=per.back
    rw[<-e]at this
    have h2:=WL.dS (WL.aj S) (u,v) t
    rw[this]at h2
    exact h2.symm
   have hJt:=eQ kp.toKept (e:=(u,v)) hJ t
   generalize hxy:WL.aE (WL.aj S) (u,v) t=xy at c1 hJt
   obtain⟨x,y⟩:=xy
   have hy:y<S.pts.length:=(g.lt (g.symm hJt))
   obtain⟨b,hb⟩:∃b,as[y]? = some b:=⟨as[y]'(by omega),gge _⟩
   refine⟨λ σ' H'=>al H H'/\∃t' v6 v7,t+1=t'/\t'<N/\σ'=[some (.ref R),some (.int (u:Int)),some (.int (v:Int)),some (.ref c),some (.int ((WL.aE (WL.aj S) (u,v) t').1:Int)),some (.int ((WL.aE (WL.aj S) (u,v) t').2:Int)),v6,v7]/\H' c=some (.lst (iV (nI ((WL.seg (WL.aj S) (u,v) 0 (t'+1)).map (·.1))))),?_,?_⟩
   ·rintro σ' H2 ⟨hS2,t',w6,w7,rfl,h2,h3,h4⟩
    exact⟨N-(t+1),by omega,hS2,t+1,w6,w7,rfl,h2,h3,h4⟩
   refine⟨_,rfl,.inl ⟨rfl,_,SqL.of hcc⟩,_,rfl,c,_,_,rfl,rfl,hcc,?_,?_⟩
   ·rw[bS,lmp,WL.cE]
    exact bG (by omega)
   have s2:al H (upd H' c (.lst (iV (nI ((WL.seg (WL.aj S) (u,v) 0 (t+1)).map (·.1)))++[.int (y:Int)]))):=aY hS hc
   have hc2:(upd H' c (.lst (iV (nI ((WL.seg (WL.aj S) (u,v) 0 (t+1)).map (·.1)))++[.int (y:Int)]))) c=some (.lst (iV (nI ((WL.seg (WL.aj S) (u,v) 0 (t+1+1)).map (·.1))))):=by
    rw[ag,WL.eN _ _ (t+1) 1 0,Fi]
    have e1:(WL.seg (WL.aj S) (u,v) (0+(t+1)) 1).map (·.1)=[y]:=by
     show [(WL.aE (WL.aj S) (u,v) (0+(t+1))).1]=[y]
     rw[Gv,WL.dS,hxy]
    rw[e1,gm]
   generalize upd H' c (.lst (iV (nI ((WL.seg (WL.aj S) (u,v) 0 (t+1)).map (·.1)))++[.int (y:Int)]))=H2 at s2 hc2
   have rw2:=hrw.same s2
   have hbr:=rw2.2 y b hb
   have hmem:x∈WL.aj S y:=(WL.cD kp.toKept).mem.2 (g.symm hJt)
   have hidx:=List.idxOf_lt_length_iff.2 hmem
   refine⟨_,rfl,_,rfl,R,_,_,_,rfl,rfl,SqL.of rw2.1,aA (j:=y) rfl (aP hb),?_⟩
   refine⟨_,rfl,_,rfl,.inl ⟨rfl,_,SqL.of hbr⟩,_,rfl,b,_,_,(WL.aj S y).idxOf x,_,rfl,rfl,SqL.of hbr,rfl,?_,lg hidx,?_,?_,_,_,rfl,rfl,b,_,_,_,rfl,rfl,SqL.of hbr,u7 hmem,?_⟩
   ·rw[FS]
    intro z hz
    unfold iV nI at hz
    rw[Fx]at hz
    obtain⟨q,_,rfl⟩:=hz
    rfl
   ·show(((WL.aj S y)[(WL.aj S y).idxOf x]:Int)==(x:Int))=true
    rw[List.getElem_idxOf hidx]
    exact beq_self_eq_true _
   ·intro i z hi hz
    obtain⟨q,hq,rfl⟩:=lG hz
    show((q:Int)==(x:Int))=false
    rw[Gb]
    intro hqx
    have hqx:q=x:=by omega
    subst hqx
    obtain⟨hil,hq⟩:=gsi hq
    have h9:=List.not_of_lt_findIdx (p:=λ z=>z==q) (xs:=WL.aj S y) hi
    rw[hq]at h9
    simp at h9
   refine⟨_,rfl,_,rfl,s2,t+1,some (.ref b),some (.int (WL.bE (WL.aj S y) x:Int)),rfl,ht2,?_,hc2⟩
   have e1:WL.aE (WL.aj S) (u,v) (t+1)=(y,WL.bE (WL.aj S y) x):=by
    rw[WL.fK,hxy]
    rfl
   rw[e1]
   rfl
  ·have c1:(WL.aE (WL.aj S) (u,v) t).2=u:=bcn λ z=>c1 (by
    rw[dqf (λ y=>z (by have:=V.int.inj y;omega))]
    rfl)
   have e:t+1=N:=by
    refine bcn λ z=>?_
    have h0:(WL.rnd S (u,v))[0]? = some u:=by
     rw[hrnd,E2,kr _ _ N 0 0 per.pos]
     rfl
    have h1:(WL.rnd S (u,v))[t+1]? = some u:=by
     rw[hrnd,E2,kr _ _ N 0 (t+1) (by omega),Gv]
     show some (WL.aE (WL.aj S) (u,v) (t+1)).1=_
     rw[WL.dS,c1]
    obtain⟨l0,g0⟩:=gsi h0
    obtain⟨l1,g1⟩:=gsi h1
    exact Fs.1 hnd 0 (t+1) l0 l1 (by omega) (by rw[g0,g1])
   refine⟨_,rfl,k H' c hS hc ?_⟩
   rw[hcc,e,hrnd]
def lA (H:Hp)(r:EJ)(as ps:List EJ)(cs:List Nat):Prop:=H r=some (.lst (as.map V.ref))/\as.length=cs.length/\∀(i:Nat) (b:EJ) (x:Nat),as[i]? = some b->cs[i]? = some x->ps[x]? = some b
theorem lA.pl {H:Hp}{r p:EJ}{as ps:List EJ}{cs:List Nat}{S:Gla.Plan}(h:lA H r as ps cs)(hp:mC K H p ps S):PL K H r (cs.map S.pt):=by
 obtain⟨h1,h2,h3⟩:=h
 refine⟨as,SqL.of h1,by rw[lmp,h2],λ i b q e1 e2=>?_⟩
 have hil:i<cs.length:=by rw[<-h2];exact(gsi e1).1
 rw[E2,gge hil]at e2
 have e2:=osi e2
 rw[<-e2]
 exact hp.2.2 _ b (h3 i b _ e1 (gge hil))
def zz (K:FQ):Sp:=λ vs H Q _=>∃(p c:EJ) (ps:List EJ) (S:Gla.Plan) (cs:List Nat),vs=[.ref p,.ref c]/\mC K H p ps S/\H c=some (.lst (iV (nI cs)))/\(∀x∈cs,x<S.pts.length)/\cs.length<=100000 /\
 ∀(H':Hp) (r:EJ) (as:List EJ),al H H'->H r=none->lA H' r as ps cs->Q (.ref r) H'
theorem Bk:aq ["points","corners","corner"] ["points","corners"] (ah eW):=⟨rfl,rfl,rfl,by decide +kernel,rfl,by decide +kernel,by decide +kernel⟩
theorem Dn (F:Has K mg "points_at" eW ["points","corners"]):Cb P w K mg base 1 "points_at" ["points","corners"] (zz K):=by
 refine F.cb Bk (λ vs H Q E h=>?_) (λ f cdv A outer s H vs Q E hr h=>?_)
 ·obtain⟨p,c,ps,S,cs,rfl,_⟩:=h
  rfl
 ·obtain⟨p,c,ps,S,cs,rfl,hp,hc,hcn,hcl,k⟩:=h
  refine⟨_,ae (ak (xY (own:=[("corner",2)]) (te:=tOp (uR K) (a8 0) (a8 2)) rfl Bk.nd (bQ (pv 1)) (bL (by show iH ["points","corners","corner"] (ah eW) _ _=true;decide +kernel))
   (λ _ _ _ _ _=>au (i:=2) Bk.nd rfl (.inl rfl)) (λ _ _ _ _ _=>eU) (λ _ _ _ _ _=>aw aU (pv 0) (pv 2) (λ _ _=>rfl)))),?_⟩
  refine⟨_,rfl,c,rfl,⟨_,SqL.of hc⟩,λ D hD=>?_⟩
  refine ia (K:=K) (a:=c) (xs:=iV (nI cs)) (λ i H'=>∃as:List EJ,al H H'/\H' D=some (.lst (as.map V.ref))/\as.length=i/\∀(j:Nat) (b:EJ) (x:Nat),as[j]? = some b->cs[j]? = some x->ps[x]? = some b)
   ⟨[],aN hD,ag,rfl,λ j b x e=>by simp at e⟩ (λ i H' _ h=>by obtain⟨as,h1,_⟩:=h;exact SqL.of (h1 _ _ hc)) ?_ ?_
  ·rintro i y H' hi ⟨as,hS,hDl,hal,hat⟩
   obtain⟨x,hix,rfl⟩:=lG hi
   have hil:i<cs.length:=(gsi hix).1
   obtain⟨b,hb⟩:=hp.has (hcn x (FG hix))
   refine⟨rfl,nS (eI ?_)⟩
   refine⟨_,rfl,_,rfl,p,_,_,_,rfl,rfl,SqL.of (hp.same hS).1,aA (j:=x) rfl (aP hb),_,hDl,?_,as++[b],aY hS hD,?_,?_,?_⟩
   ·rw[lmp]
    exact bG (by omega)
   ·rw[ag,Fi]
    rfl
   ·rw[EN,hal]
    rfl
   ·intro j q z e1 e2
    by_cases cj:j<as.length
    ·rw[Fd cj]at e1
     exact hat j q z e1 e2
    ·have hj:=(gsi e1).1
     rw[EN]at hj
     have ej:j=as.length:=by simp at hj;omega
     subst ej
     rw[E6 (nlr _),Gh]at e1
     have e1:b=q:=osi e1
     rw[hal,hix]at e2
     have e2:=osi e2
     rw[<-e1,<-e2]
     exact hb
  rintro H' ⟨as,hS,hDl,hal,hat⟩
  rw[bS]at hal
  exact k H' D as hS hD ⟨hDl,hal,hat⟩
end
open PySem PySem.Spec PyProof.Rows L2 Wg Wx CM
open Gla (Pt)
def prF (S:Gla.Plan)(x:Nat×Nat):Int:=((S.pt x.1).x:Int)*((S.pt x.2).y:Int)-((S.pt x.2).x:Int)*((S.pt x.1).y:Int)
theorem uf (S:Gla.Plan)(x:Nat×Nat):prF S x=crs (S.pt x.1) (S.pt x.2):=by
 unfold prF crs
 rw[Gw ((S.pt x.2).x:Int)]
theorem mZ (S:Gla.Plan)(c:Nat):∀(r:List Nat) (a:Nat),((((a :: r).zip (r++[c])).map (prF S)).foldr (λ(a b:Int)=>a+b) 0)=dh (S.pt a) (r.map S.pt)+crs (S.pt ((a :: r).getLast (by simp))) (S.pt c)
 |[],a=>by
  show prF S (a,c)+0=0+crs (S.pt a) (S.pt c)
  rw[uf]
  show crs (S.pt a) (S.pt c)+0=_
  omega
 |b :: r,a=>by
  show prF S (a,b)+((((b :: r).zip (r++[c])).map (prF S)).foldr (λ(a b:Int)=>a+b) 0)=(crs (S.pt a) (S.pt b)+dh (S.pt b) (r.map S.pt))+crs (S.pt ((a :: b :: r).getLast (by simp))) (S.pt c)
  have e:(a :: b :: r).getLast (by simp)=(b :: r).getLast (by simp):=List.getLast_cons (by simp)
  rw[mZ S c r b,uf,e]
  show crs (S.pt a) (S.pt b)+_=_
  omega
theorem qJ {S:Gla.Plan}{a:Nat}{r:List Nat}{init:List Pt}{l:Pt}(h:(a :: r).map S.pt=init++[l]):l=S.pt ((a :: r).getLast (by simp)):=by
 have e1:((a :: r).map S.pt).getLast? = some l:=by rw[h,List.getLast?_concat]
 rw[List.getLast?_map,List.getLast?_eq_some_getLast (by simp)]at e1
 exact(osi e1).symm
theorem zl (S:Gla.Plan){cs:List Nat}{init:List Pt}{l:Pt}(h:cs.map S.pt=init++[l]):dh l (cs.map S.pt)=Gla.twiceArea S cs:=by
 cases cs with
 |nil=>simp at h
 |cons a r =>
  have e:Gla.twiceArea S (a :: r)=((((a :: r).zip (r++[a])).map (prF S)).foldr (λ(a b:Int)=>a+b) 0):=rfl
  rw[e,mZ,qJ h]
  show crs _ (S.pt a)+dh (S.pt a) (r.map S.pt)=_
  omega
def prB (S:Gla.Plan)(z:Pt)(x:Nat×Nat):Bool :=
 let p:=S.pt x.1
 let q:=S.pt x.2
 (decide (p.y<=z.y)&&(decide (z.y<q.y)&&decide (0<Gm p q z)))||(decide (q.y<=z.y)&&(decide (z.y<p.y)&&decide (Gm p q z<0)))
theorem vP (p q z:Pt):Gm q p z=- Gm p q z:=by
 unfold Gm Gla.dx Gla.dy
 grind
theorem tJ (S:Gla.Plan)(z:Pt)(x:Nat×Nat):prB S z x=c8 (S.pt x.1) (S.pt x.2) z:=by
 unfold prB c8
 have e:=vP (S.pt x.1) (S.pt x.2) z
 rw[e,Fy]
 simp only[GK,EO,ET]
 split
 ·rename_i h
  rw[ET]
  constructor
  ·rintro(h1|h1)
   ·exact h1.2.2
   ·omega
  ·exact λ h1=>.inl ⟨h.1,h.2,h1⟩
 ·rename_i h
  split
  ·rename_i h2
   rw[ET]
   constructor
   ·rintro(h1|h1)
    ·omega
    ·have:=h1.2.2
     omega
   ·exact λ h1=>.inr ⟨h2.1,h2.2,by omega⟩
  ·rename_i h2
   constructor
   ·rintro(h1|h1)
    ·omega
    ·omega
   ·intro h1
    cases h1
def ql (n:Nat):Bool:=decide (n % 2=1)
theorem xJ (n:Nat):ql (n+1)=!ql n:=by
 unfold ql
 rw[<-decide_not,E1]
 omega
theorem rM {α:Type}(q:α->Bool)(x:α)(l:List α):ql ((x :: l).filter q).length=(q x^^ql (l.filter q).length):=by
 by_cases c:q x=true
 ·rw[List.filter_cons_of_pos c,Ft,xJ,c,Bool.true_xor]
 ·rw[List.filter_cons_of_neg c,cJ c,FW]
theorem qM (S:Gla.Plan)(z:Pt)(c:Nat):∀(r:List Nat) (a:Nat),ql (((a :: r).zip (r++[c])).filter (prB S z)).length=(fe z (S.pt a) (r.map S.pt)^^c8 (S.pt ((a :: r).getLast (by simp))) (S.pt c) z)
 |[],a=>by
  show ql (((a,c) :: []).filter (prB S z)).length=(false^^c8 (S.pt a) (S.pt c) z)
  rw[rM,tJ]
  show(_^^false)=_
  rw[Gj,FW]
 |b :: r,a=>by
  show ql (((a,b) :: ((b :: r).zip (r++[c]))).filter (prB S z)).length=((c8 (S.pt a) (S.pt b) z^^fe z (S.pt b) (r.map S.pt))^^c8 (S.pt ((a :: b :: r).getLast (by simp))) (S.pt c) z)
  have e:(a :: b :: r).getLast (by simp)=(b :: r).getLast (by simp):=List.getLast_cons (by simp)
  rw[rM,qM S z c r b,tJ,e,Bool.xor_assoc]
theorem CY (S:Gla.Plan)(z:Pt){cs:List Nat}{init:List Pt}{l:Pt}(h:cs.map S.pt=init++[l]):fe z l (cs.map S.pt)=HY S cs z:=by
 cases cs with
 |nil=>simp at h
 |cons a r =>
  have e:HY S (a :: r) z=ql (((a :: r).zip (r++[a])).filter (prB S z)).length:=rfl
  rw[e,qM,qJ h]
  show(c8 _ (S.pt a) z^^fe z (S.pt a) (r.map S.pt))=_
  rw[Hm]
theorem vJ {S:Gla.Plan}(k:WL.Kept S){e:Nat×Nat}(he:(WL.ab S).J e.1 e.2):(WL.orb S e).Nodup:=by
 have per:=WL.di k he
 rw[per.orb]
 rw[List.Nodup,Fs]
 intro i j hi hj hij
 rw[WL.cE]at hi hj
 have e1:=(gsi (kr (WL.aj S) e _ 0 i hi)).2
 have e2:=(gsi (kr (WL.aj S) e _ 0 j hj)).2
 rw[e1,e2]
 exact per.dist (0+i) (0+j) (by omega) (by omega)
theorem pG {S:Gla.Plan}(k:WL.Kept S):∀{D:List (Nat×Nat)},(∀x∈D,(WL.ab S).J x.1 x.2)->(WL.bH S D).1.Nodup:=by
 intro D
 generalize hn:D.length=n
 induction n generalizing D with
 |zero =>
  intro _
  have:D=[]:=Gz.1 hn
  subst this
  exact List.nodup_nil
 |succ n ih =>
  intro hD
  rcases Hr D with h|⟨D',e,h⟩
  ·subst h;simp at hn
  ·rw[HS]at h
   subst h
   have hD':∀x∈D',(WL.ab S).J x.1 x.2:=λ x hx=>hD x (by simp[hx])
   have he:=hD e (by simp)
   have ok:=WL.kN k hD'
   have nd:=ih (by simpa using hn) hD'
   rw[WL.gi]
   unfold WL.kt
   by_cases hw:e∈(WL.bH S D').1
   ·rw[EU hw]
    exact nd
   ·rw[EM hw]
    show((WL.bH S D').1++WL.orb S e).Nodup
    rw[List.nodup_append]
    refine⟨nd,vJ k he,λ x hx y hy hxy=>hw ?_⟩
    subst hxy
    obtain⟨e',he',hx'⟩:=(ok.walked x).1 hx
    exact(ok.walked e).2 ⟨e',he',WL.fL k (hD' e' he') hx' (WL.eA k he hy)⟩
theorem nv {S:Gla.Plan}(k:WL.Kept S){D:List (Nat×Nat)}(hD:∀x∈D,(WL.ab S).J x.1 x.2):(WL.bH S D).1.length<=2*S.lines.length:=by
 rw[<-WL.lD]
 refine WL.bC (pG k hD) λ x hx=>?_
 obtain⟨e,he,hxe⟩:=((WL.kN k hD).walked x).1 hx
 exact WL.iT.2 (WL.fP k (hD e he) hxe)
def bef (cs:List Nat)(k:Nat):Nat:=if k=0 then cs.getLast?.getD 0 else cs.getD (k-1) 0
def sv (cs:List Nat)(k:Nat):List (Nat×Nat):=(Fe k).map λ i=>(bef cs i,cs.getD i 0)
theorem vK (cs:List Nat)(k:Nat):sv cs (k+1)=sv cs k++[(bef cs k,cs.getD k 0)]:=by
 unfold sv
 rw[HR,Fi]
 rfl
theorem pS {cs:List Nat}{j:Nat}(h:j<cs.length):(WL.prs cs)[j]? = some (cs.getD j 0,cs.getD (if j+1=cs.length then 0 else j+1) 0):=by
 unfold WL.prs
 have hl:(cs.drop 1++cs.take 1).length=cs.length:=by
  rw[EN,Fu,FM]
  omega
 rw[gge (by rw[G4,hl];omega),HG]
 congr 2
 ·rw[Fa,gge h]
  rfl
 ·split
  ·rename_i c
   rw[List.getElem_append_right (by rw[Fu];omega)]
   rw[List.getElem_take,Fa,gge (by omega)]
   simp only[Fu,Option.getD_some]
   congr 1
   omega
  ·rename_i c
   rw[List.getElem_append_left (by rw[Fu];omega),Hy,Fa,gge (by omega)]
   simp only[Option.getD_some]
   congr 1
   omega
theorem si (cs:List Nat):(WL.prs cs).length=cs.length:=by
 unfold WL.prs
 rw[G4,EN,Fu,FM]
 omega
theorem oB {cs:List Nat}:cs.getLast?.getD 0=cs.getD (cs.length-1) 0:=by
 rw[List.getLast?_eq_getElem?,Fa]
theorem wS (cs:List Nat)(x:Nat×Nat):x∈sv cs cs.length↔x∈WL.prs cs:=by
 unfold sv
 rw[Fx,Hl]
 constructor
 ·rintro⟨i,hi,rfl⟩
  have hi:=F3.1 hi
  by_cases c:i=0
  ·subst c
   refine⟨cs.length-1,?_⟩
   rw[pS (by omega),EU (by omega)]
   unfold bef
   rw[EU rfl,oB]
  ·refine⟨i-1,?_⟩
   rw[pS (by omega),EM (by omega),Nat.sub_add_cancel (by omega)]
   unfold bef
   rw[EM c]
 ·rintro⟨j,hj⟩
  have hjl:=(gsi hj).1
  rw[si]at hjl
  rw[pS hjl]at hj
  have hj:=osi hj
  by_cases c:j+1=cs.length
  ·refine⟨0,F3.2 (by omega),?_⟩
   rw[<-hj,EU c]
   unfold bef
   rw[EU rfl,oB]
   congr 2
   omega
  ·refine⟨j+1,F3.2 (by omega),?_⟩
   rw[<-hj,EM c]
   unfold bef
   rw[EM (by omega),Nat.add_sub_cancel]
theorem LD.same_mem {kvs:List (List L2.Key×V)}{L L':List (Nat×Nat)}(h:LD kvs L)(e:∀x,x∈L↔x∈L'):LD kvs L':=λ x=>by
 rw[h x,E1]
 exact e x
theorem yV {cs:List Nat}{k:Nat}(h:k<cs.length):atI (iV (nI cs)) ((k:Int)-1)=some (.int (bef cs k:Int)):=by
 unfold bef
 by_cases c:k=0
 ·subst c
  rw[EU rfl]
  obtain⟨init,z,e⟩:=ka (λ q:cs=[]=>by rw[q]at h;simp at h)
  rw[e,gm,List.getLast?_concat]
  exact mz _ _
 ·rw[EM c]
  have ez:((k:Int)-1)=((k-1:Nat):Int):=by omega
  rw[ez,Fa,gge (by omega)]
  exact pH (lg (by omega))
open PySem PySem.Spec PyProof.Rows L2 Wg Wx CM
open Gla (Pt)
def tG (S:Gla.Plan)(i:Nat):List (Nat×Nat):=(Fe i).flatMap λ i=>(WL.aj S i).map λ j=>(i,j)
def dTo (S:Gla.Plan)(i j:Nat):List (Nat×Nat):=tG S i++((WL.aj S i).take j).map λ j=>(i,j)
theorem xG (S:Gla.Plan)(i:Nat):dTo S i 0=tG S i:=by
 unfold dTo
 rw[List.take_zero]
 exact Gd _
theorem wn (S:Gla.Plan)(i:Nat):dTo S i (WL.aj S i).length=tG S (i+1):=by
 unfold dTo tG
 rw[GE,HR,List.flatMap_append]
 congr 1
 show _=_++[]
 rw[Gd]
theorem wD {S:Gla.Plan}{i j x:Nat}(h:(WL.aj S i)[j]? = some x):dTo S i (j+1)=dTo S i j++[(i,x)]:=by
 unfold dTo
 rw[bY h,Fi,List.append_assoc]
 rfl
theorem Dh {S:Gla.Plan}(k:WL.Kept S){i j:Nat}:∀x∈dTo S i j,(WL.ab S).J x.1 x.2:=by
 have r:=WL.cD k
 intro x hx
 unfold dTo tG at hx
 rw[Fk,Iq,Fx]at hx
 rcases hx with⟨q,_,hq⟩|⟨y,hy,rfl⟩
 ·rw[Fx]at hq
  obtain⟨y,hy,rfl⟩:=hq
  exact r.mem.1 hy
 ·exact r.mem.1 (F8 hy)
theorem tW {S:Gla.Plan}(k:WL.Kept S):∀{D:List (Nat×Nat)},(∀x∈D,(WL.ab S).J x.1 x.2)->(WL.bH S D).2.length<=(WL.bH S D).1.length:=by
 intro D
 generalize hn:D.length=n
 induction n generalizing D with
 |zero =>
  intro _
  have:D=[]:=Gz.1 hn
  subst this
  exact nlr _
 |succ n ih =>
  intro hD
  rcases Hr D with h|⟨D',e,h⟩
  ·subst h;simp at hn
  ·rw[HS]at h
   subst h
   have hD':∀x∈D',(WL.ab S).J x.1 x.2:=λ x hx=>hD x (by simp[hx])
   have he:=hD e (by simp)
   have le:=ih (by simpa using hn) hD'
   rw[WL.gi]
   unfold WL.kt
   split
   ·exact le
   ·have ho:0<(WL.orb S e).length:=List.length_pos_of_mem (WL.gW k he)
    show(if _ then _ else _:List (List Nat)).length<=((WL.bH S D').1++WL.orb S e).length
    rw[EN]
    split
    ·rw[EN,List.length_singleton]
     omega
    ·omega
def dQ (H:Hp)(O:EJ)(os:List EJ)(L:List (List Nat)):Prop:=H O=some (.lst (os.map V.ref))/\os.length=L.length/\∀(j:Nat) (b:EJ) (l:List Nat),os[j]? = some b->L[j]? = some l->b≠O/\H b=some (.lst (iV (nI l)))
theorem dQ.same {H H':Hp}{O:EJ}{os:List EJ}{L:List (List Nat)}(h:dQ H O os L)(s:al H H'):dQ H' O os L:=⟨s _ _ h.1,h.2.1,λ j b l e1 e2=>⟨(h.2.2 j b l e1 e2).1,s _ _ (h.2.2 j b l e1 e2).2⟩⟩
theorem dQ.updW {H:Hp}{O W:EJ}{os:List EJ}{L:List (List Nat)}{q q':List (List L2.Key×V)}(h:dQ H O os L)(hW:H W=some (.dT q)):dQ (upd H W (.dT q')) O os L:=by
 refine⟨?_,h.2.1,λ j b l e1 e2=>⟨(h.2.2 j b l e1 e2).1,?_⟩⟩
 ·rw[ap (λ z=>by have:=h.1;rw[z,hW]at this;cases this)]
  exact h.1
 ·have hb:=(h.2.2 j b l e1 e2).2
  rw[ap (λ z=>by rw[z,hW]at hb;cases hb)]
  exact hb
theorem dQ.push {H:Hp}{O c:EJ}{os:List EJ}{L:List (List Nat)}{l:List Nat}(h:dQ H O os L)(hc:H c=some (.lst (iV (nI l))))(nc:c≠O):dQ (upd H O (.lst (os.map V.ref++[.ref c]))) O (os++[c]) (L++[l]):=by
 refine⟨by rw[ag,Fi];rfl,by rw[EN,EN,h.2.1];rfl,λ j b l' e1 e2=>?_⟩
 by_cases cj:j<os.length
 ·rw[Fd cj]at e1
  rw[Fd (by rw[<-h.2.1];exact cj)]at e2
  obtain⟨n1,n2⟩:=h.2.2 j b l' e1 e2
  exact⟨n1,by rw[ap n1];exact n2⟩
 ·have hj:=(gsi e1).1
  rw[EN]at hj
  have ej:j=os.length:=by simp at hj;omega
  subst ej
  rw[E6 (nlr _),Gh]at e1
  rw[h.2.1,E6 (nlr _),Gh]at e2
  have e1:c=b:=osi e1
  have e2:l=l':=osi e2
  subst e1 e2
  exact⟨nc,by rw[ap nc];exact hc⟩
structure OSt (H H':Hp)(W O:EJ)(S:Gla.Plan)(D:List (Nat×Nat))(kvs:List (List L2.Key×V))(os:List EJ):Prop where
 sm:al H H'
 w:H' W=some (.dT kvs)
 ld:LD kvs (WL.bH S D).1
 ln:kvs.length<=(WL.bH S D).1.length
 o:dQ H' O os (WL.bH S D).2
theorem OSt.same {H H' H'':Hp}{W O:EJ}{S:Gla.Plan}{D:List (Nat×Nat)}{kvs:List (List L2.Key×V)}{os:List EJ}(h:OSt H H' W O S D kvs os)(s:al H' H''):OSt H H'' W O S D kvs os:=⟨h.sm.trans s,s _ _ h.w,h.ld,h.ln,h.o.same s⟩
section
variable  {P:E8}{w:FL}{K:FQ}{mg:Str->Option Value}{base:Heap}{C:EJ}
def zJ (C:EJ):Sp:=λ vs H Q _=>∃(a:EJ) (S:Gla.Plan),vs=[.ref a]/\bz C H a S/\SB S/\WL.dq S/\∀(H':Hp) (O:EJ) (os:List EJ),al H H'->dQ H' O os (WL.dI S)->Q (.ref O) H'
theorem gQ:aq ["drawing","points","rings","walked","outlines","first","ring","second","corners","k","corner","ends"] ["drawing"] (ah dR):=⟨rfl,rfl,rfl,by decide +kernel,rfl,by decide +kernel,by decide +kernel⟩
theorem AG (F:Has K mg "outlines_of" dR ["drawing"]) (T:DCl K mg C) (ge:mg "enumerate"=none) (CN:Cb P w K mg base 1 "neighbours_of" ["drawing"] (As C)) (CR:Cb P w K mg base 3 "ring_round" ["points","middle","ends"] (A4 K)) (CW:Cb P w K mg base 1 "walk_round" ["rings","first","second"] Bz) (CA:Cb P w K mg base 1 "twice_area" ["corners"] (xK K)) (CP:Cb P w K mg base 1 "points_at" ["points","corners"] (zz K)) :
  Cb P w K mg base 4 "outlines_of" ["drawing"] (zJ C):=by
 refine F.cb gQ (λ vs H Q E h=>?_) (λ f cdv A outer s H vs Q E hr h=>?_)
 ·obtain⟨a,S,rfl,_⟩:=h
  rfl
 ·obtain⟨a,S,rfl,hd,sb,kp,k⟩:=h
  obtain⟨dx,p,l,m,ps,ls,ms,o⟩:=hd.op (K:=K)
  have hr1:bu 1 _:=hr.mono (by decide)
  have hu:=hr.units
  have np:=sb.np
  have nl:=sb.nl
  have kk:=kp.toKept
  have hlo:gv S:=λ l hl=>kk.line hl
  refine⟨_,ad (aB (i:=1) gQ.nd rfl (.inr rfl) (aR (pv 0) rfl))
   (ad (cw (i:=2) (own:=[("k",9),("ends",11)]) (g:=g2 K 9 11) (te:=lL (A4 K) [] E0 (bD (a8 1) (bD (a8 9) (bD (a8 11) fY)))) rfl gQ.nd rfl rfl (dH rfl rfl rfl (by decide +kernel)) (dX rfl ge (aa (aF CN hr1 (aa (pv 0) ac)) ac)) (bL (by show iH ["drawing","points","rings","walked","outlines","first","ring","second","corners","k","corner","ends"] (ah dR) _ _=true;decide +kernel))
    (λ _ _ _ _ _=>cT (n:=2) rfl (aL (au (i:=9) gQ.nd rfl (.inl rfl) (.inr rfl)) (aL (au (i:=11) gQ.nd rfl (.inl rfl) (.inr rfl)) bU))) (λ _ _ _ _ _=>eU) (λ _ _ _ _ _=>aF CR hr (aa (pv 1) (aa (pv 9) (aa (pv 11) ac)))))
   (ad (aB (i:=3) gQ.nd rfl (.inl rfl) qD)
   (ad (aB (i:=4) gQ.nd rfl (.inl rfl) (dL ac))
   (ad (bw E4 rfl (dX rfl ge (aa (pv 2) ac)) (cT (n:=2) rfl (aL (au (i:=5) gQ.nd rfl (.inl rfl)) (aL (au (i:=6) gQ.nd rfl (.inl rfl)) bU)))
    (ae (bw E4 rfl (bQ (pv 6)) (au (i:=7) gQ.nd rfl (.inl rfl))
     (ae (a6 (sj (oX (FE (G6 (by decide) _) hu) (bA (aa (pv 5) (aa (pv 7) ac))) (pv 3)))
      (ad (aB (i:=8) gQ.nd rfl (.inl rfl) (aF CW hr1 (aa (pv 2) (aa (pv 5) (aa (pv 7) ac)))))
      (ad (bw E4 rfl (dX rfl ge (aa (pv 8) ac)) (cT (n:=2) rfl (aL (au (i:=9) gQ.nd rfl (.inl rfl)) (aL (au (i:=10) gQ.nd rfl (.inl rfl)) bU)))
       (ae (pM (FE (G6 (by decide) _) hu) (pv 3) (bA (aa (aw aU (pv 8) (aV eO (pv 9) af) (λ _ _=>rfl)) (aa (pv 10) ac))) el rfl)))
      (ae (a6 (aK d6 (aF CA hr1 (aa (aF CP hr1 (aa (pv 1) (aa (pv 8) ac))) ac)) af (aI _))
       (ae (jh (ly FU GO GP hU (pv 4) (aa (pv 8) ac)))) aJ))))
      aJ)))))
   (ae (ak (pv 4))))))),?_⟩
  refine⟨_,rfl,a,C,dx,_,_,rfl,o.at_,T.cl,T.nP,iG,?_⟩
  refine⟨_,rfl,a,S,rfl,hd,sb,hlo,λ H1 N nas hN hNl=>?_⟩
  have s1:=hN.sm
  have rw1:=hN.rw
  refine⟨N,_,rfl,SqL.of rw1.1,λ D hD=>?_⟩
  refine zu (K:=K) (a:=N) (xs:=nas.map V.ref) (λ i H'=>∃as:List EJ,al H1 H'/\H' D=some (.lst (as.map V.ref))/\as.length=i/\∀(j:Nat) (b:EJ),as[j]? = some b->b≠D/\H' b=some (.lst (iV (nI (WL.aj S j)))))
   ⟨[],aN hD,ag,rfl,λ j b e=>by simp at e⟩ (λ i H' _ h=>by obtain⟨as,h1,_⟩:=h;exact SqL.of (h1 _ _ rw1.1)) ?_ ?_
  ·rintro i y T' H' hi hT ⟨as,hS,hDl,hal,hat⟩
   obtain⟨b,hb,rfl⟩:=cu hi
   have hil:i<S.pts.length:=by rw[<-hNl];exact(gsi hb).1
   have s2:al H' (upd H' T' (.tup [.int (i:Nat),.ref b])):=aN hT
   refine⟨T',_,rfl,SqT.of ag,rfl,_,_,rfl,_,_,rfl,rfl,rfl,nS (eI ?_)⟩
   generalize upd H' T' (.tup [.int (i:Nat),.ref b])=H2 at s2
   have s12:=hS.trans s2
   refine⟨_,rfl,_,rfl,_,rfl,p,b,ps,S,i,S.near i,rfl,(o.same (s1.trans s12)).ptsL sb,hil,(rw1.same s12).2 i b hb,ng hlo i hil,?_,λ H3 r s3 hr0 hr3=>?_⟩
   ·have h9:(S.near i).length<=S.lines.length:=List.length_filterMap_le _ _
    omega
   have hD3:=s3 _ _ (s2 _ _ hDl)
   have nr:r≠D:=λ z=>by rw[z,s2 _ _ hDl]at hr0;cases hr0
   refine⟨as.map V.ref,hD3,by rw[lmp];exact bG (by omega),as++[r],aY (s12.trans s3) hD,?_,by rw[EN,hal];rfl,λ j c e=>?_⟩
   ·rw[ag,Fi]
    rfl
   ·by_cases cj:j<as.length
    ·rw[Fd cj]at e
     obtain⟨n1,n2⟩:=hat j c e
     exact⟨n1,by rw[ap n1];exact s3 _ _ (s2 _ _ n2)⟩
    ·have hj:=(gsi e).1
     rw[EN]at hj
     have ej:j=as.length:=by simp at hj;omega
     subst ej
     rw[E6 (nlr _),Gh]at e
     have e:r=c:=osi e
     subst e
     refine⟨nr,?_⟩
     rw[ap nr,hal]
     exact hr3
  rintro H2 ⟨as,hS2,hDl,hal,hat⟩
  rw[lmp,hNl]at hal
  have rwR:RW H2 D as (WL.aj S):=⟨hDl,λ i b e=>(hat i b e).2⟩
  have sH2:=s1.trans hS2
  clear hat hDl hS2
  refine λ W hW=>?_
  refine⟨(by show 0<=EL;decide),λ O hO=>?_⟩
  have nWO:W≠O:=λ z=>by rw[z,ag]at hO;cases hO
  have hO2:H2 O=none:=by rw[ap nWO.symm]at hO;exact hO
  have z0:OSt H2 (upd (upd H2 W (.dT [])) O (.lst [])) W O S (tG S 0) [] []:=⟨aY (aN hW) hO2,by rw[ap nWO];exact ag,λ x=>rfl,FR _,ag,rfl,λ j b l e=>by simp at e⟩
  generalize upd (upd H2 W (.dT [])) O (.lst [])=H3 at z0
  refine⟨_,rfl,D,_,rfl,SqL.of (rwR.same z0.sm).1,dt (K:=K) (a:=D) (xs:=as.map V.ref) (λ i σ H'=>(∃v5 v6 v7 v8 v9 v10,σ=[some (.ref a),some (.ref p),some (.ref D),some (.ref W),some (.ref O),v5,v6,v7,v8,v9,v10,none])/\∃kvs os,OSt H2 H' W O S (tG S i) kvs os)
   ⟨⟨none,none,none,none,none,none,rfl⟩,[],[],z0⟩ (λ i σ H' _ h=>by obtain⟨_,kvs,os,h⟩:=h;exact SqL.of (rwR.same h.sm).1) ?_ ?_⟩
  ·rintro i y T' σ H' hi hT ⟨⟨v5,v6,v7,v8,v9,v10,rfl⟩,kvs0,os0,z⟩
   obtain⟨b,hb,rfl⟩:=cu hi
   have hil:i<S.pts.length:=by rw[<-hal];exact(gsi hb).1
   have s2:al H' (upd H' T' (.tup [.int (i:Nat),.ref b])):=aN hT
   refine⟨T',_,rfl,SqT.of ag,rfl,_,_,rfl,_,_,rfl,rfl,?_⟩
   have z1:=z.same s2
   generalize upd H' T' (.tup [.int (i:Nat),.ref b])=H4 at z1
   rw[<-xG]at z1
   refine⟨_,rfl,b,rfl,⟨_,SqL.of ((rwR.same z1.sm).2 i b hb)⟩,eh (K:=K) (a:=b) (xs:=iV (nI (WL.aj S i))) (λ j σ H'=>(∃v7 v8 v9 v10,σ=[some (.ref a),some (.ref p),some (.ref D),some (.ref W),some (.ref O),some (.int (i:Int)),some (.ref b),v7,v8,v9,v10,none])/\∃kvs os,OSt H2 H' W O S (dTo S i j) kvs os)
    ⟨⟨_,_,_,_,rfl⟩,_,_,z1⟩ (λ j σ H' _ h=>by obtain⟨_,kvs,os,h⟩:=h;exact SqL.of ((rwR.same h.sm).2 i b hb)) ?_ ?_⟩
   ·rintro j y σ H5 hj ⟨⟨w7,w8,w9,w10,rfl⟩,kvs,os,z5⟩
    obtain⟨x,hjx,rfl⟩:=lG hj
    have hJ:(WL.ab S).J i x:=(WL.cD kk).mem.1 (FG hjx)
    have hDJ:=Dh kk (i:=i) (j:=j)
    have hwl:=nv kk hDJ
    have hol:=tW kk hDJ
    have e1:WL.bH S (dTo S i (j+1))=WL.kt S (WL.bH S (dTo S i j)) (i,x):=by rw[wD hjx,WL.gi]
    refine⟨_,rfl,_,rfl,(by show 2<=EL;decide),λ q hq=>?_⟩
    have s6:al H5 (upd H5 q (.tup [.int (i:Int),.int (x:Int)])):=aN hq
    have z6:=z5.same s6
    refine⟨_,rfl,W,_,rfl,mK.t (k:=lk (i,x)) z6.w ag,_,rfl,?_⟩
    generalize upd H5 q (.tup [.int (i:Int),.int (x:Int)])=H6 at z6
    rw[z6.ld]
    refine aS (λ c=>?_) (λ c=>?_)
    ·have c:(i,x)∉(WL.bH S (dTo S i j)).1:=λ z=>by
      rw[dqt z]at c
      exact absurd c (by decide)
     have e2:WL.bH S (dTo S i (j+1))=((WL.bH S (dTo S i j)).1++WL.orb S (i,x),if 0<Gla.twiceArea S (WL.rnd S (i,x)) then (WL.bH S (dTo S i j)).2++[WL.rnd S (i,x)] else (WL.bH S (dTo S i j)).2):=by
      rw[e1]
      unfold WL.kt
      rw[EM c]
     refine⟨_,rfl,_,rfl,_,rfl,D,as,S,i,x,rfl,rwR.same z6.sm,hal,np,kp,hJ,λ H7 c7 s7 hc6 hc7=>?_⟩
     have z7:=z6.same s7
     have ncO:c7≠O:=(aQ z6.o.1 hc6).symm
     have ncW:c7≠W:=(aQ z6.w hc6).symm
     have hlen:=p7 kp (e:=(i,x)) hJ
     have hcn:=tF kp (e:=(i,x)) hJ
     have hprs:=WL.iy kk (e:=(i,x)) hJ
     have hol2:(WL.orb S (i,x)).length=(WL.rnd S (i,x)).length:=WL.cE _ _ _ _
     obtain⟨tl,htl⟩:=WL.mD kk (e:=(i,x)) hJ
     have hne:WL.rnd S (i,x)≠[]:=by rw[htl];simp
     clear htl
     generalize hcs:WL.rnd S (i,x)=cs at hc7 hlen hcn hprs hol2 hne e2
     have zsm:=z7.sm
     have zw:=z7.w
     have zld:=z7.ld
     have zln:=z7.ln
     have zo:=z7.o
     generalize WL.bH S (dTo S i j)=st at c e2 hwl hol zld zln zo
     obtain⟨st1,st2⟩:=st
     have hwl:st1.length<=2*S.lines.length:=hwl
     have hol:st2.length<=st1.length:=hol
     have zld:LD kvs st1:=zld
     have zln:kvs.length<=st1.length:=zln
     have zo:dQ H7 O os st2:=zo
     refine⟨_,rfl,c7,_,rfl,SqL.of hc7,dt (K:=K) (a:=c7) (xs:=iV (nI cs)) (λ t σ H'=>(∃v9 v10,σ=[some (.ref a),some (.ref p),some (.ref D),some (.ref W),some (.ref O),some (.int (i:Int)),some (.ref b),some (.int (x:Int)),some (.ref c7),v9,v10,none])/\al H2 H'/\H' c7=some (.lst (iV (nI cs)))/\(∃kv,H' W=some (.dT kv)/\LD kv (st1++sv cs t)/\kv.length<=st1.length+t)/\dQ H' O os st2)
      ⟨⟨_,_,rfl⟩,zsm,hc7,⟨kvs,zw,zld.same_mem (λ y=>by rw[show st1++sv cs 0=st1 from Gd _]),zln⟩,zo⟩ (λ t σ H' _ h=>SqL.of h.2.2.1) ?_ ?_⟩
     ·rintro t y T2 σ H8 ht hT2 ⟨⟨u9,u10,rfl⟩,sm8,hc8,⟨kv,hw8,ld8,ln8⟩,o8⟩
      obtain⟨cx,htx,rfl⟩:=lG ht
      have htl:t<cs.length:=(gsi htx).1
      have ecx:cs.getD t 0=cx:=by rw[Fa,htx];rfl
      refine⟨T2,_,rfl,SqT.of ag,rfl,_,_,rfl,_,_,rfl,rfl,?_⟩
      have s9:al H8 (upd H8 T2 (.tup [.int (t:Nat),.int (cx:Int)])):=aN hT2
      generalize upd H8 T2 (.tup [.int (t:Nat),.int (cx:Int)])=H9 at s9
      refine⟨_,rfl,_,rfl,_,rfl,_,_,rfl,rfl,c7,_,_,_,rfl,rfl,SqL.of (s9 _ _ hc8),yV htl,_,rfl,(by show 2<=EL;decide),λ q2 hq2=>?_⟩
      have s10:al H9 (upd H9 q2 (.tup [.int (bef cs t:Int),.int (cx:Int)])):=aN hq2
      have s8:=s9.trans s10
      refine⟨W,_,rfl,pO.t (k:=lk (bef cs t,cx)) (s8 _ _ hw8) ag (bG (by omega)),?_⟩
      generalize upd H9 q2 (.tup [.int (bef cs t:Int),.int (cx:Int)])=H10 at s10 s8
      refine⟨⟨_,_,rfl⟩,aY (sm8.trans s8) hW,by rw[ap ncW];exact s8 _ _ hc8,⟨_,ag,?_,?_⟩,(o8.same s8).updW (s8 _ _ hw8)⟩
      ·rw[vK,ecx,<-List.append_assoc]
       exact ld8.put _ _
      ·have:=gd kv (lk (bef cs t,cx)) (.bl true)
       omega
     ·rintro σ H8 ⟨⟨u9,u10,rfl⟩,sm8,hc8,⟨kv,hw8,ld8,ln8⟩,o8⟩
      rw[bS]at ld8 ln8
      have ld9:LD kv (st1++WL.orb S (i,x)):=ld8.same_mem λ y=>by
       rw[Fk,Fk,wS,hprs]
      have hsm:al H H8:=sH2.trans sm8
      obtain⟨init,lz,einit⟩:=ka (show cs.map S.pt≠[] by simpa using hne)
      refine⟨_,rfl,_,rfl,p,c7,ps,S,cs,rfl,(o.same hsm).ptsL sb,hc8,hcn,by omega,λ H9 r as9 s9 _ hsh=>?_⟩
      refine⟨r,_,init,lz,rfl,hsh.pl ((o.same (hsm.trans s9)).ptsL sb),einit,?_⟩
      rw[zl S einit]
      refine⟨_,_,rfl,rfl,_,rfl,aS (λ c9=>?_) (λ c9=>?_)⟩
      ·have c9:=EH c9
       have o9:=o8.same s9
       refine⟨_,rfl,.inl ⟨rfl,_,SqL.of o9.1⟩,_,rfl,O,_,_,rfl,rfl,o9.1,?_,?_⟩
       ·rw[lmp,o9.2.1]
        exact bG (by have:st2.length<=st1.length:=hol;have:st1.length<=2*S.lines.length:=hwl;omega)
       ·refine⟨⟨_,_,_,_,rfl⟩,kv,os++[c7],aY (sm8.trans s9) hO2,?_,?_,?_,?_⟩
        ·rw[ap nWO]
         exact s9 _ _ hw8
        ·rw[e2]
         exact ld9
        ·rw[e2]
         show kv.length<=(st1++WL.orb S (i,x)).length
         rw[EN,hol2]
         exact ln8
        ·rw[e2]
         show dQ _ O (os++[c7]) (if 0<Gla.twiceArea S cs then st2++[cs] else st2)
         rw[EU c9]
         exact o9.push (s9 _ _ hc8) ncO
      ·have c9:=aG c9
       refine⟨⟨_,_,_,_,rfl⟩,kv,os,sm8.trans s9,s9 _ _ hw8,?_,?_,?_⟩
       ·rw[e2]
        exact ld9
       ·rw[e2]
        show kv.length<=(st1++WL.orb S (i,x)).length
        rw[EN,hol2]
        exact ln8
       ·rw[e2]
        show dQ _ O os (if 0<Gla.twiceArea S cs then st2++[cs] else st2)
        rw[EM c9]
        exact o8.same s9
    ·have c:(i,x)∈(WL.bH S (dTo S i j)).1:=bcn λ z=>c (by rw[dqf z];rfl)
     have e2:WL.bH S (dTo S i (j+1))=WL.bH S (dTo S i j):=by
      rw[e1]
      unfold WL.kt
      rw[EU c]
     exact⟨⟨_,_,_,_,rfl⟩,kvs,os,z6.sm,z6.w,by rw[e2];exact z6.ld,by rw[e2];exact z6.ln,by rw[e2];exact z6.o⟩
   ·rintro σ H5 ⟨⟨w7,w8,w9,w10,rfl⟩,kvs,os,z5⟩
    rw[bS,wn]at z5
    exact⟨⟨_,_,_,_,_,_,rfl⟩,kvs,os,z5⟩
  ·rintro σ H' ⟨⟨v5,v6,v7,v8,v9,v10,rfl⟩,kvs,os,z⟩
   rw[lmp,hal]at z
   exact⟨_,rfl,k H' O os (sH2.trans z.sm) z.o⟩
end
open PySem PySem.Spec PyProof.Rows L2 Wg Wx CM
open Gla (Pt)
abbrev eF:G8:=ju vo 0
def vE (f d o:V):List (Str×V):=eY "outlines" o (eY "drawing" d (eY "fault" f []))
theorem Ba {f d o:V}:(vE f d o).lookup ("fault" : Str)=some f:=by
 unfold vE
 rw[aH,EM (by decide +kernel),aH,EM (by decide +kernel),aH,EU rfl]
theorem Ej {f d o:V}:(vE f d o).lookup ("drawing" : Str)=some d:=by
 unfold vE
 rw[aH,EM (by decide +kernel),aH,EU rfl]
structure VCl (K:FQ)(mg:Str->Option Value)(C:EJ):Prop where
 cl:Cls K C
 nF:eq K C "fault"
 nD:eq K C "drawing"
 nO:eq K C "outlines"
 mgC:mg "Verdict"=some (.ref C)
def wE (CV:EJ)(H:Hp)(v:EJ)(fo:Option (Int×Int))(dv ov:V):Prop:=∃dx fv,H v=some (.ins CV dx (vE fv dv ov))/\kG fo fv H
theorem kG.same {o:Option (Int×Int)}{v:V}{H H':Hp}(h:kG o v H)(s:al H H'):kG o v H':=by
 cases o with
 |none=>exact h
 |some x =>
  obtain⟨q,e,h⟩:=h
  exact⟨q,e,s _ _ h⟩
theorem yu {d:EJ}{o:Obj}{kvs:List (L2.Key×V)}{g:TG}{tt:TT}{te:TE}{vs:List Nat}{σ:L2.St}{H1:Hp}{D:EJ}{Qd:Hp->Prop}(Pv:Nat->Hp->Prop)(h0:Pv 0 (upd H1 D (.lst [])))(hl:∀i H,i<=kvs.length->Pv i H->H d=some (.frz o (.dK kvs)))
  (hs:∀i k v H,kvs[i]? = some (k,v)->Pv i H->g (kV k) (bX σ vs) H λ σ2 H2=>bX σ2 vs=bX σ vs/\tt σ2 H2 λ b H3 =>
   if b=true then te σ2 H3 λ y H4=>∃acc,H4 D=some (.lst acc)/\acc.length<EL/\Pv (i+1) (upd H4 D (.lst (acc++[y]))) else Pv (i+1) H3) (hd:∀H,Pv kvs.length H->Qd H) :
  ∃W:Nat->Nat->Hp->Prop,(∃m,W 0 m (upd H1 D (.lst [])))/\∀i m H,W i m H ->
   ((Itk d o kvs).stop i H/\Qd H)\/((Itk d o kvs).go i H/\∃Nx:Hp->Prop,(∀H',Nx H'->∃m',m'<m/\W (i+1) m' H')/\∀x H',(Itk d o kvs).yld i H x H'->g x (bX σ vs) H' λ σ2 H2=>bX σ2 vs=bX σ vs/\tt σ2 H2 λ b H3 =>
    if b=true then te σ2 H3 λ y H4=>∃acc,H4 D=some (.lst acc)/\acc.length<EL/\Nx (upd H4 D (.lst (acc++[y]))) else Nx H3):=by
 refine⟨λ i m H=>m=kvs.length-i/\i<=kvs.length/\Pv i H,⟨kvs.length,by simp,FR _,h0⟩,?_⟩
 rintro i m H ⟨rfl,hi,p⟩
 have q:=hl i H hi p
 by_cases hlt:i<kvs.length
 ·refine .inr ⟨⟨q,hlt⟩,Pv (i+1),λ H' p'=>⟨kvs.length-(i+1),by omega,rfl,hlt,p'⟩,λ x H' y=>?_⟩
  obtain⟨e,k,v,y,rfl⟩:=y
  subst e
  exact hs i k v _ y p
 ·have e:i=kvs.length:=by omega
  subst e
  exact .inl ⟨⟨q,nlr _⟩,hd H p⟩
def kd (l:List Nat):List (L2.Key×V):=l.map λ(h:Nat)=>((Sum.inl (h:Int):L2.Key),V.bl true)
theorem zI (l:List Nat)(h:Nat):(fN (kd l) (Sum.inl (h:Int))).isSome=decide (h∈l):=by
 rw[<-gG,Fy,ET,GS]
 constructor
 ·rintro⟨x,hx,e⟩
  unfold kd at hx
  rw[Fx]at hx
  obtain⟨y,hy,rfl⟩:=hx
  have e:=Sum.inl.inj (EH e)
  have:y=h:=by omega
  rw[<-this]
  exact hy
 ·intro hh
  refine⟨(Sum.inl (h:Int),.bl true),?_,dqt rfl⟩
  unfold kd
  exact Fx.2 ⟨h,hh,rfl⟩
theorem AD {l:List Nat}{h:Nat}(hh:h∉l):i8 (kd l) (Sum.inl (h:Int)) (.bl true)=kd (l++[h]):=by
 unfold i8
 rw[gG,zI,dqf hh,EM (by decide)]
 unfold kd
 rw[Fi]
 rfl
theorem qB (l:List Nat):(kd l).length=l.length:=by unfold kd;rw[lmp]
section
variable  {P:E8}{w:FL}{K:FQ}{mg:Str->Option Value}{base:Heap}{C CV:EJ}
def Bs (C:EJ):Sp:=λ vs H Q _=>∃(x dx:EJ) (f d o:V),vs=[.ref x,f,d,o]/\H x=some (.ins C dx []) /\
 ∀H':Hp,H' x=some (.ins C dx (vE f d o))->(∀b u,H b=some u->b≠x->H' b=some u)->Q .non H'
theorem Ee:aq ["self","fault","drawing","outlines"] ["self","fault","drawing","outlines"] (ah eF):=⟨rfl,rfl,rfl,by decide +kernel,rfl,by decide +kernel,by decide +kernel⟩
theorem Bj (F:qc K CV "Verdict.__init__" eF ["self","fault","drawing","outlines"]) (T:VCl K mg CV):Ci P w K mg base 1 CV ["self","fault","drawing","outlines"] (Bs CV):=by
 refine F.ci Ee (λ vs H Q E h=>?_) (λ f cdv A outer s H vs Q E hr h=>?_)
 ·obtain⟨x,dx,f,d,o,rfl,_⟩:=h
  rfl
 ·obtain⟨x,dx,f,d,o,rfl,hx,k⟩:=h
  refine⟨_,ad (iJ (pv 0) (pv 1) rfl) (ad (iJ (pv 0) (pv 2) rfl) (ae (iJ (pv 0) (pv 3) rfl))),?_⟩
  refine⟨_,rfl,_,rfl,x,CV,dx,_,rfl,hx,T.cl,T.nF,(by show 0<1000;decide),?_⟩
  refine⟨_,rfl,_,rfl,x,CV,dx,_,rfl,ag,T.cl,T.nD,(FE (db (n:=0) (nlr 0)) (by decide)),?_⟩
  refine⟨_,rfl,_,rfl,x,CV,dx,_,rfl,ag,T.cl,T.nO,(FE (db (db (n:=0) (nlr 0))) (by decide)),?_⟩
  refine k _ ag λ b u e hb=>?_
  rw[ap hb,ap hb,ap hb]
  exact e
def ni (H:Hp)(D:EJ)(bs ps:List EJ)(L:List (List Nat)):Prop:=H D=some (.lst (bs.map V.ref))/\bs.length=L.length/\∀(j:Nat) (b:EJ) (l:List Nat),bs[j]? = some b->L[j]? = some l->b≠D/\∃as,lA H b as ps l
theorem lA.same {H H':Hp}{r:EJ}{as ps:List EJ}{cs:List Nat}(h:lA H r as ps cs)(s:al H H'):lA H' r as ps cs:=⟨s _ _ h.1,h.2.1,h.2.2⟩
theorem ni.same {H H':Hp}{D:EJ}{bs ps:List EJ}{L:List (List Nat)}(h:ni H D bs ps L)(s:al H H'):ni H' D bs ps L:=⟨s _ _ h.1,h.2.1,λ j b l e1 e2=>⟨(h.2.2 j b l e1 e2).1,by obtain⟨as,q⟩:=(h.2.2 j b l e1 e2).2;exact⟨as,q.same s⟩⟩⟩
def BT (K:FQ):Sp:=λ vs H Q _=>∃(ma s p:EJ) (bs ps:List EJ) (L:List (List Nat)) (S:Gla.Plan) (z:Pt) (h:Nat) (hh:h<L.length),vs=[.ref ma,.ref s]/\cF K H ma z/\mC K H p ps S/\ni H s bs ps L/\(∀l∈L,l≠[])/\HY S L[h] z=true/\(∀j (hj:j<L.length),j<h->HY S L[j] z=false)/\∀H':Hp,al H H'->Q (.int (h:Int)) H'
theorem z9:aq ["mark","shapes","k","shape"] ["mark","shapes"] (ah gk):=⟨rfl,rfl,rfl,by decide +kernel,rfl,by decide +kernel,by decide +kernel⟩
theorem yi (F:Has K mg "holder_of" gk ["mark","shapes"]) (ge:mg "enumerate"=none) (C1:Cb P w K mg base 3 "is_inside" ["corners","r"] (DI K)):Cb P w K mg base 4 "holder_of" ["mark","shapes"] (BT K):=by
 refine F.cb z9 (λ vs H Q E h=>?_) (λ f cdv A outer s H vs Q E hr h=>?_)
 ·obtain⟨ma,s,p,bs,ps,L,S,z,h,hh,rfl,_⟩:=h
  rfl
 ·obtain⟨ma,sa,p,bs,ps,L,S,z,h,hh,rfl,hz,hp,hs,hne,hin,hno,k⟩:=h
  refine⟨_,ad (bw E4 rfl (dX rfl ge (aa (pv 1) ac)) (cT (n:=2) rfl (aL (au (i:=2) z9.nd rfl (.inl rfl)) (aL (au (i:=3) z9.nd rfl (.inl rfl)) bU)))
    (ae (a6 (cG (aF C1 hr (aa (pv 3) (aa (pv 0) ac)))) (ae (ak (pv 2))) aJ)))
   (ae (ak bc)),?_⟩
  refine⟨_,rfl,sa,_,rfl,SqL.of hs.1,dt (K:=K) (a:=sa) (xs:=bs.map V.ref) (λ i σ H'=>al H H'/\i<=h/\∃v1 v2,σ=[some (.ref ma),some (.ref sa),v1,v2])
   ⟨al.refl H,FR _,none,none,rfl⟩ (λ i σ H' _ q=>SqL.of (q.1 _ _ hs.1)) ?_ ?_⟩
  ·rintro i y T' σ H' hi hT ⟨hS,hih,v1,v2,rfl⟩
   obtain⟨b,hb,rfl⟩:=cu hi
   have hil:i<L.length:=by rw[<-hs.2.1];exact(gsi hb).1
   have s2:al H (upd H' T' (.tup [.int (i:Nat),.ref b])):=aZ hS hT
   refine⟨T',_,rfl,SqT.of ag,rfl,_,_,rfl,_,_,rfl,rfl,?_⟩
   generalize upd H' T' (.tup [.int (i:Nat),.ref b])=H2 at s2
   obtain⟨_,as,hsh⟩:=(hs.same s2).2.2 i b L[i] hb (gge hil)
   have hl0:=hne _ (Fm hil)
   obtain⟨init,lz,einit⟩:=ka (show L[i].map S.pt≠[] by simpa using hl0)
   refine⟨_,rfl,_,rfl,b,ma,_,init,lz,z,rfl,hsh.pl (hp.same s2),einit,hz.same s2,?_⟩
   rw[CY S z einit]
   refine⟨_,rfl,aS (λ c=>?_) (λ c=>?_)⟩
   ·have e:i=h:=by
     refine bcn λ q=>?_
     rw[hno i hil (by omega)]at c
     exact absurd c (by decide)
    subst e
    exact⟨_,rfl,k H2 s2⟩
   ·refine⟨s2,?_,_,_,rfl⟩
    have e:i≠h:=λ q=>by
     subst q
     exact c hin
    omega
  ·rintro σ H' ⟨hS,hih,_⟩
   rw[lmp,hs.2.1]at hih
   omega
end
open PySem PySem.Spec PyProof.Rows L2 Wg Wx CM
open Gla (Pt)
def o12 (S:Gla.Plan):Option (Int×Int):=jy 12 (mO S) (Gla.twice S S.outlines 0 [] S.marks)
def o13 (S:Gla.Plan):Option (Int×Int):=if S.marks.length<S.outlines.length then some (13,mO S S.marks.length) else none
def eD (S:Gla.Plan):Option (Int×Int):=kR (o12 S) (o13 S)
def uu (H:Hp)(ov:V)(S:Gla.Plan):Prop:=∃(ol:EJ) (osl:List EJ),ov=.ref ol/\H ol=some (.lst (osl.map V.ref))/\osl.length=S.marks.length/\∀(i:Nat) (b:EJ) (m:Ir),osl[i]? = some b->S.marks[i]? = some m->∃l,S.among S.outlines m.at_=some l/\H b=some (.lst (iV (nI l)))
structure HF (S:Gla.Plan)(hf:Nat->Nat):Prop where
 lt:∀i,i<S.marks.length->hf i<(WL.dI S).length
 am:∀i (hi:i<S.marks.length),S.among S.outlines S.marks[i].at_=(WL.dI S)[hf i]?
 ins:∀i (hi:i<S.marks.length) (hh:hf i<(WL.dI S).length),HY S (WL.dI S)[hf i] S.marks[i].at_=true
 no:∀i (hi:i<S.marks.length) (j:Nat) (hj:j<(WL.dI S).length),j<hf i->HY S (WL.dI S)[j] S.marks[i].at_=false
theorem BL {S:Gla.Plan}(k:WL.dq S)(hm:∀m∈S.marks,Gla.clear S m.at_=true):∃hf,HF S hf:=by
 have ex:∀i,∃h,∀(hi:i<S.marks.length),∃(hh:h<(WL.dI S).length),S.among S.outlines S.marks[i].at_=some (WL.dI S)[h]/\HY S (WL.dI S)[h] S.marks[i].at_=true/\∀j (hj:j<(WL.dI S).length),HY S (WL.dI S)[j] S.marks[i].at_=true->j=h:=λ i=>by
  by_cases hi:i<S.marks.length
  ·obtain⟨h,hh,h1,h2,h3⟩:=WL.A8 k (hm _ (Fm hi))
   exact⟨h,λ _=>⟨hh,h1,h2,h3⟩⟩
  ·exact⟨0,λ h=>absurd h hi⟩
 refine⟨λ i=>Classical.choose (ex i),λ i hi=>?_,λ i hi=>?_,λ i hi hh=>?_,λ i hi j hj hlt=>?_⟩
 ·obtain⟨hh,_⟩:=HZ (ex i) hi
  exact hh
 ·obtain⟨hh,h1,_⟩:=HZ (ex i) hi
  rw[h1,gge hh]
 ·obtain⟨hh,_,h2,_⟩:=HZ (ex i) hi
  exact h2
 ·obtain⟨hh,_,_,h3⟩:=HZ (ex i) hi
  refine cJ λ z=>?_
  have:=h3 j hj z
  omega
theorem HF.eq_iff {S:Gla.Plan}{hf:Nat->Nat}(k:WL.Kept S)(h:HF S hf){i j:Nat}(hi:i<S.marks.length)(hj:j<S.marks.length):S.among S.outlines S.marks[i].at_=S.among S.outlines S.marks[j].at_↔hf i=hf j:=by
 rw[h.am i hi,h.am j hj]
 constructor
 ·intro e
  have l1:=h.lt i hi
  have l2:=h.lt j hj
  rw[gge l1,gge l2]at e
  have e:=osi e
  rcases Nat.lt_trichotomy (hf i) (hf j) with c|c|c
  ·exact absurd e (Fs.1 (WL.iu k) _ _ l1 l2 c)
  ·exact c
  ·exact absurd e.symm (Fs.1 (WL.iu k) _ _ l2 l1 c)
 ·intro e
  rw[e]
def gL (hf:Nat->Nat)(k:Nat):List Nat:=(Fe k).map hf
theorem vm (hf:Nat->Nat)(k:Nat):gL hf (k+1)=gL hf k++[hf k]:=by
 unfold gL
 rw[HR,Fi]
 rfl
theorem kg (hf:Nat->Nat)(k:Nat):(gL hf k).length=k:=by
 unfold gL
 rw[lmp,F2]
theorem sf {S:Gla.Plan}{hf:Nat->Nat}(k:WL.Kept S)(h:HF S hf){i:Nat}(hi:i<S.marks.length):((((S.marks.take i).map λ(m:Ir)=>S.among S.outlines m.at_).reverse++[]).contains (S.among S.outlines S.marks[i].at_))=decide (hf i∈gL hf i):=by
 rw[Gd,Fy,Hq,ET,List.mem_reverse,Fx]
 unfold gL
 rw[Fx]
 constructor
 ·rintro⟨m,hm,e⟩
  rw[GG]at hm
  obtain⟨j,hj,rfl⟩:=hm
  exact⟨j,F3.2 (by omega),(h.eq_iff k (by omega) hi).1 e⟩
 ·rintro⟨j,hj,e⟩
  have hj:=F3.1 hj
  refine⟨S.marks[j]'(by omega),GG.2 ⟨j,by omega,rfl⟩,(h.eq_iff k (by omega) hi).2 e⟩
section
variable  {P:E8}{w:FL}{K:FQ}{mg:Str->Option Value}{base:Heap}{C CV:EJ}
def DF (C CV:EJ):Sp:=λ vs H Q _=>∃(a O:EJ) (os:List EJ) (S:Gla.Plan),vs=[.ref a,.ref O]/\bz C H a S/\SB S/\WL.dq S/\(∀m∈S.marks,Gla.clear S m.at_=true)/\dQ H O os (WL.dI S)/\∀(H':Hp) (v:EJ) (ov:V),al H H'->wE CV H' v (eD S) (.ref a) ov->(eD S=none->uu H' ov S)->Q (.ref v) H'
theorem qk:aq ["drawing","outlines","shapes","marked","k","mark","holder","outline"] ["drawing","outlines"] (ah cP):=⟨rfl,rfl,rfl,by decide +kernel,rfl,by decide +kernel,by decide +kernel⟩
theorem BK (F:Has K mg "judge_marks" cP ["drawing","outlines"]) (T:DCl K mg C) (TV:VCl K mg CV) (ge:mg "enumerate"=none) (gl:mg "len"=none) (CI:Ci P w K mg base 1 CV ["self","fault","drawing","outlines"] (Bs CV)) (CP:Cb P w K mg base 1 "points_at" ["points","corners"] (zz K)) (CH:Cb P w K mg base 4 "holder_of" ["mark","shapes"] (BT K))
  (CM1:Cm P w K mg base 3 C "place_of_mark" ["self","k"] (xP C)) (CE:Cm P w K mg base 4 C "place_of_end" ["self"] (Dk C)):Cb P w K mg base 5 "judge_marks" ["drawing","outlines"] (DF C CV):=by
 refine F.cb qk (λ vs H Q E h=>?_) (λ f cdv A outer s H vs Q E hr h=>?_)
 ·obtain⟨a,O,os,S,rfl,_⟩:=h
  rfl
 ·obtain⟨a,O,os,S,rfl,hd,sb,kp,hclear,hO,k⟩:=h
  obtain⟨dx,p,l,m,ps,ls,ms,o⟩:=hd.op (K:=K)
  have hr1:bu 1 _:=hr.mono (by decide)
  have hr2:bu 2 _:=hr.mono (by decide)
  have hr3:bu 3 _:=hr.mono (by decide)
  have hu:=hr.units
  have kk:=kp.toKept
  have np:=sb.np
  have nl:=sb.nl
  have nm:=sb.nm
  obtain⟨hf,hF⟩:=BL kp hclear
  have hol:(WL.dI S).length<=2*S.lines.length:=Fw (tW kk λ x hx=>(WL.bv kk).1 hx) (nv kk λ x hx=>(WL.bv kk).1 hx)
  refine⟨_,ad (cw (i:=2) (own:=[("outline",7)]) (te:=lL (zz K) [] E0 (bD (xL K (a8 0) "points") (bD (a8 7) fY))) rfl qk.nd rfl rfl (dH rfl rfl rfl (by decide +kernel)) (bQ (pv 1)) (bL (by show iH ["drawing","outlines","shapes","marked","k","mark","holder","outline"] (ah cP) _ _=true;decide +kernel))
    (λ _ _ _ _ _=>au (i:=7) qk.nd rfl (.inl rfl) (.inr rfl)) (λ _ _ _ _ _=>eU) (λ _ _ _ _ _=>aF CP hr1 (aa (aR (pv 0) rfl) (aa (pv 7) ac))))
   (ad (aB (i:=3) qk.nd rfl (.inl rfl) wR)
   (ad (bw E4 rfl (dX rfl ge (aa (aR (pv 0) rfl) ac)) (cT (n:=2) rfl (aL (au (i:=4) qk.nd rfl (.inl rfl)) (aL (au (i:=5) qk.nd rfl (.inl rfl)) bU)))
    (ad (aB (i:=6) qk.nd rfl (.inl rfl) (aF CH hr (aa (pv 5) (aa (pv 2) ac))))
    (ad (a6 (sj (A5 (FE (G6 (by decide) _) hu) (pv 6) (pv 3))) (ae (ak (oA CI hr2 TV.mgC (aa (bA (aa af (aa (hG (pv 0) T.cl CM1 hr3 (aa (pv 4) ac)) ac))) (aa (pv 0) (aa (dL ac) ac)))))) aJ)
    (ae (pM (FE (G6 (by decide) _) hu) (pv 3) (pv 6) el rfl)))))
   (ad (a6 (aK gf (aW vf (by rfl) gl FB (aa (pv 3) ac)) (aW aO (by rfl) gl FB (aa (pv 1) ac)) (aI _)) (ae (ak (oA CI hr2 TV.mgC (aa (bA (aa af (aa (Be (pv 0) T.cl CE hr) ac))) (aa (pv 0) (aa (dL ac) ac)))))) aJ)
   (ae (ak (oA CI hr2 TV.mgC (aa bc (aa (pv 0) (aa (zb (xY (own:=[("holder",6)]) (te:=tOp (uR K) (a8 1) (a8 6)) rfl qk.nd (yG (pv 3)) (bL (by show iH ["drawing","outlines","shapes","marked","k","mark","holder","outline"] (ah cP) _ _=true;decide +kernel))
    (λ _ _ _ _ _=>au (i:=6) qk.nd rfl (.inl rfl) (.inr rfl)) (λ _ _ _ _ _=>eU) (λ _ _ _ _ _=>aw aU (pv 1) (pv 6) (λ _ _=>rfl)))) ac))))))))),?_⟩
  refine⟨_,rfl,O,rfl,⟨_,SqL.of hO.1⟩,λ D hD=>?_⟩
  refine ia (K:=K) (a:=O) (xs:=os.map V.ref) (λ i H'=>∃bs,al H H'/\H' D=some (.lst (bs.map V.ref))/\bs.length=i/\∀(j:Nat) (b:EJ) (l:List Nat),bs[j]? = some b->(WL.dI S)[j]? = some l->b≠D/\∃as,lA H' b as ps l)
   ⟨[],aN hD,ag,rfl,λ j b l e=>by simp at e⟩ (λ i H' _ h=>by obtain⟨bs,h1,_⟩:=h;exact SqL.of (h1 _ _ hO.1)) ?_ ?_
  ·rintro i y H' hi ⟨bs,hS,hDl,hbl,hat⟩
   obtain⟨c,hc,rfl⟩:=cu hi
   have hil:i<(WL.dI S).length:=by rw[<-hO.2.1];exact(gsi hc).1
   obtain⟨e,hJ,_,hle⟩:=WL.m7 kp (Fm hil)
   have o2:=o.same hS
   refine⟨rfl,nS (eI ?_)⟩
   refine⟨_,rfl,a,C,dx,_,_,rfl,o2.at_,T.cl,T.nP,iG,_,rfl,p,c,ps,S,(WL.dI S)[i],rfl,o2.ptsL sb,hS _ _ (hO.2.2 i c _ hc (gge hil)).2,?_,?_,λ H2 r as s2 hr0 hsh=>?_⟩
   ·rw[hle]
    exact tF kp hJ
   ·rw[hle]
    have:=p7 kp hJ
    omega
   have nr:r≠D:=λ z=>by rw[z,hDl]at hr0;cases hr0
   refine⟨_,s2 _ _ hDl,by rw[lmp];exact bG (by omega),bs++[r],aY (hS.trans s2) hD,by rw[ag,Fi];rfl,by rw[EN,hbl];rfl,λ j b l' e1 e2=>?_⟩
   by_cases cj:j<bs.length
   ·rw[Fd cj]at e1
    obtain⟨n1,as',q1,q2⟩:=hat j b l' e1 e2
    exact⟨n1,as',by rw[ap n1];exact s2 _ _ q1,q2⟩
   ·have hj:=(gsi e1).1
    rw[EN]at hj
    have ej:j=bs.length:=by simp at hj;omega
    subst ej
    rw[E6 (nlr _),Gh]at e1
    have e1:r=b:=osi e1
    subst e1
    rw[hbl,gge hil]at e2
    have e2:=osi e2
    subst e2
    exact⟨nr,as,by rw[ap nr];exact hsh.1,hsh.2⟩
  rintro H1 ⟨bs,s1,hDl,hbl,hat⟩
  rw[lmp,hO.2.1]at hbl
  have shp:ni H1 D bs ps (WL.dI S):=⟨hDl,hbl,hat⟩
  have hne:∀l∈WL.dI S,l≠[]:=λ l hl=>by
   obtain⟨e,hJ,_,rfl⟩:=WL.m7 kp hl
   obtain⟨t,ht⟩:=WL.mD kk hJ
   rw[ht]
   simp
  clear hat hDl hbl
  refine λ W hW=>?_
  have s2:al H1 (upd H1 W (.dK [])):=aN hW
  have hW2:(upd H1 W (.dK (kd (gL hf 0)))) W=some (.dK (kd (gL hf 0))):=ag
  have o2:=o.same (s1.trans s2)
  refine⟨_,rfl,a,C,dx,_,_,rfl,o2.at_,T.cl,T.nM,xr,m,_,rfl,SqL.of o2.ml,dt (K:=K) (a:=m) (xs:=ms.map V.ref) (λ i σ H'=>al H1 H'/\(∃v4 v5 v6,σ=[some (.ref a),some (.ref O),some (.ref D),some (.ref W),v4,v5,v6,none])/\H' W=some (.dK (kd (gL hf i)))/\∀j,j<i->hf j∉gL hf j)
   ⟨s2,⟨none,none,none,rfl⟩,hW2,λ j h=>absurd h (FT _)⟩ (λ i σ H' _ h=>SqL.of (h.1 _ _ (s1 _ _ o.ml))) ?_ ?_⟩
  ·rintro i y T' σ H' hi hT ⟨hS,⟨v4,v5,v6,rfl⟩,hWi,hok⟩
   obtain⟨b,hb,rfl⟩:=cu hi
   have hil:i<S.marks.length:=by rw[<-o.mn];exact(gsi hb).1
   have s3:al H' (upd H' T' (.tup [.int (i:Nat),.ref b])):=aN hT
   refine⟨T',_,rfl,SqT.of ag,rfl,_,_,rfl,_,_,rfl,rfl,?_⟩
   generalize upd H' T' (.tup [.int (i:Nat),.ref b])=H2 at s3
   have s13:=hS.trans s3
   have o3:=o.same (s1.trans s13)
   refine⟨_,rfl,_,rfl,b,D,p,bs,ps,WL.dI S,S,S.marks[i].at_,hf i,hF.lt i hil,rfl,o3.mkAt sb hb (gge hil),o3.ptsL sb,shp.same s13,hne,hF.ins i hil _,λ j hj hlt=>hF.no i hil j hj hlt,λ H3 s4=>?_⟩
   have hW3:=s4 _ _ (s3 _ _ hWi)
   have s14:=s13.trans s4
   have o4:=o.same (s1.trans s14)
   refine⟨_,rfl,_,rfl,W,_,rfl,mK.k (k:=Sum.inl (hf i:Int)) hW3,_,rfl,?_⟩
   rw[zI]
   refine aS (λ c=>?_) (λ c=>?_)
   ·have c:=EH c
    refine⟨_,rfl,a,dx,_,rfl,o4.at_,b9 (.inr (.inl rfl)),_,rfl,a,S,_,rfl,o4.draw,(by show 2<=EL;decide),λ q hq=>?_⟩
    refine⟨_,rfl,(by show 0<=EL;decide),λ q2 hq2=>?_⟩
    refine λ x xd nx ndx nex=>?_
    refine⟨x,xd,_,_,_,rfl,ag,λ H8 h8 kp8=>⟨rfl,?_⟩⟩
    have s8:al _ H8:=al.made nx ndx kp8
    have e12:eD S=some (12,mO S i):=by
     unfold eD o12
     rw[WL.mS (k:=i) hil (by rw[sf kk hF hil];exact dqt c) (λ j hj=>by rw[sf kk hF (by omega)];exact dqf (hok j hj)),Gv]
     rfl
    refine k H8 x (.ref q2) ((s1.trans s14).trans ((aN hq).trans ((aN hq2).trans s8))) ⟨xd,_,h8,?_⟩ (λ z=>by rw[e12]at z;cases z)
    rw[e12]
    exact⟨q,rfl,s8 _ _ ((aN hq2) _ _ ag)⟩
   ·have c:hf i∉gL hf i:=λ z=>c (dqt z)
    refine⟨_,rfl,_,rfl,W,_,rfl,pO.k (k:=Sum.inl (hf i:Int)) hW3 (by rw[qB,kg];exact bG (by omega)),?_⟩
    refine⟨aY s14 hW,⟨_,_,_,rfl⟩,by rw[ag,AD c,vm],λ j h=>?_⟩
    by_cases cc:j<i
    ·exact hok j cc
    ·have:j=i:=by omega
     subst this
     exact c
  rintro σ H2 ⟨hS,⟨v4,v5,v6,rfl⟩,hWn,hok⟩
  rw[lmp,o.mn]at hWn hok
  have sH:=s1.trans hS
  have o3:=o.same sH
  have hO2:=hO.same sH
  have e12:o12 S=none:=by
   unfold o12
   rw[WL.lK λ j hj=>by rw[sf kk hF hj];exact dqf (hok j hj)]
   rfl
  have eM:eD S=o13 S:=by unfold eD;rw[e12];rfl
  refine⟨_,rfl,W,_,rfl,hWn,_,rfl,O,_,rfl,.inl (SqL.of hO2.1),_,_,rfl,rfl,_,rfl,?_⟩
  rw[qB,kg,lmp,hO.2.1,WL.qZ kp]
  refine aS (λ c=>?_) (λ c=>?_)
  ·have c:=EH c
   refine⟨_,rfl,a,dx,_,rfl,o3.at_,b9 (.inr (.inr rfl)),a,S,rfl,o3.draw,(by show 2<=EL;decide),λ q hq=>?_⟩
   refine⟨_,rfl,(by show 0<=EL;decide),λ q2 hq2=>?_⟩
   refine λ x xd nx ndx nex=>?_
   refine⟨x,xd,_,_,_,rfl,ag,λ H8 h8 kp8=>⟨rfl,?_⟩⟩
   have s8:al _ H8:=al.made nx ndx kp8
   have e13:eD S=some (13,mO S S.marks.length):=by
    rw[eM]
    unfold o13
    rw[EU (by omega)]
   refine k H8 x (.ref q2) (sH.trans ((aN hq).trans ((aN hq2).trans s8))) ⟨xd,_,h8,?_⟩ (λ z=>by rw[e13]at z;cases z)
   rw[e13]
   exact⟨q,rfl,s8 _ _ ((aN hq2) _ _ ag)⟩
  ·have c:=aG c
   have e13:eD S=none:=by
    rw[eM]
    unfold o13
    rw[EM (by omega)]
   refine⟨_,rfl,W,_,hWn,trivial,λ od=>?_⟩
   have hWH:H W=none:=s1.free hW
   have sF:al H (upd H2 W (.frz od (.dK (kd (gL hf S.marks.length))))):=aY sH hWH
   refine⟨_,rfl,W,od,rfl,.inl ⟨_,ag,λ D2 hD2=>?_⟩⟩
   have hF0:(upd H2 W (.frz od (.dK (kd (gL hf S.marks.length))))) W=some (.frz od (.dK (kd (gL hf S.marks.length)))):=ag
   generalize upd H2 W (.frz od (.dK (kd (gL hf S.marks.length))))=H3 at sF hF0 hD2
   have nDW:D2≠W:=(aQ hF0 hD2).symm
   refine yu (λ i H'=>∃bs2,al H3 H'/\H' D2=some (.lst (bs2.map V.ref))/\bs2.length=i/\∀(j:Nat) (b:EJ),bs2[j]? = some b->os[hf j]? = some b)
    ⟨[],aN hD2,ag,rfl,λ j b e=>by simp at e⟩ (λ i H' _ h=>by obtain⟨bs2,h1,_⟩:=h;exact h1 _ _ hF0) ?_ ?_
   ·rintro i kx vx H' hi ⟨bs2,hS2,hDl2,hbl2,hat2⟩
    have hil:i<S.marks.length:=by
     have:=(gsi hi).1
     rw[qB,kg]at this
     exact this
    unfold kd gL at hi
    rw[E2,E2,G1 hil]at hi
    have hi:=osi hi
    obtain⟨rfl,rfl⟩:=Prod.mk.inj hi
    obtain⟨b,hb⟩:∃b,os[hf i]? = some b:=⟨os[hf i]'(by rw[hO.2.1];exact hF.lt i hil),gge _⟩
    refine⟨rfl,nS (eI ?_)⟩
    refine⟨_,rfl,_,rfl,O,_,_,_,rfl,rfl,SqL.of (hS2 _ _ (sF _ _ hO.1)),aA (j:=hf i) rfl (aP hb),_,hDl2,by rw[lmp];exact bG (by omega),bs2++[b],aY hS2 hD2,by rw[ag,Fi];rfl,by rw[EN,hbl2];rfl,λ j q e=>?_⟩
    by_cases cj:j<bs2.length
    ·rw[Fd cj]at e
     exact hat2 j q e
    ·have hj:=(gsi e).1
     rw[EN]at hj
     have ej:j=bs2.length:=by simp at hj;omega
     subst ej
     rw[E6 (nlr _),Gh]at e
     have e:b=q:=osi e
     rw[hbl2,<-e]
     exact hb
   ·rintro H4 ⟨bs2,hS2,hDl2,hbl2,hat2⟩
    rw[qB,kg]at hbl2
    refine⟨hS2 _ _ hF0,?_⟩
    have s5:al H (upd H4 W (.dK (kd (gL hf S.marks.length)))):=aY (sF.trans hS2) hWH
    have hD5:(upd H4 W (.dK (kd (gL hf S.marks.length)))) D2=some (.lst (bs2.map V.ref)):=by rw[ap nDW];exact hDl2
    generalize upd H4 W (.dK (kd (gL hf S.marks.length)))=H5 at s5 hD5
    refine λ x xd nx ndx nex=>?_
    refine⟨x,xd,_,_,_,rfl,ag,λ H8 h8 kp8=>⟨rfl,?_⟩⟩
    have s8:al H5 H8:=al.made nx ndx kp8
    refine k H8 x (.ref D2) (s5.trans s8) ⟨xd,_,h8,by rw[e13];rfl⟩ λ _=>?_
    refine⟨D2,bs2,rfl,s8 _ _ hD5,hbl2,λ i b mm e1 e2=>?_⟩
    have hil:i<S.marks.length:=(gsi e2).1
    rw[gge hil]at e2
    have e2:=osi e2
    subst e2
    have hlt:=hF.lt i hil
    refine⟨(WL.dI S)[hf i],by rw[hF.am i hil,gge hlt],?_⟩
    exact s8 _ _ (s5 _ _ (hO.2.2 (hf i) b _ (hat2 i b e1) (gge hlt)).2)
end
open PySem PySem.Spec PyProof.Rows L2 Wg Wx CM
open Gla (Pt)
def bB (ns:List Int):Gla.Plan:=HH (toB ns)
def dj (ns:List Int):Option (Int×Int):=kR (dO ns) (kR (bN (bB ns)) (eD (bB ns)))
theorem rk {ns:List Int}(h:Byt ns)(e:dO ns=none):(ns.length:Int)=told ns/\fX (toB ns)=none:=by
 refine⟨?_,?_⟩
 ·unfold dO at e
  split at e
  ·cases e
  ·split at e
   ·cases e
   ·split at e
    ·cases e
    ·split at e
     ·cases e
     ·rename_i h1
      exact bcn λ z=>h1 z
 ·rw[jp h]at e
  cases q:fX (toB ns) with
  |none=>rfl
  |some x=>rw[q]at e;cases e
theorem uj (ns:List Int):(bB ns).pts.length=Gla.num (toB ns) 12 2:=by
 unfold bB HH
 simp only[lmp,F2]
theorem uL (ns:List Int):(bB ns).lines.length=Gla.num (toB ns) 14 2:=by
 unfold bB HH
 simp only[lmp,F2]
theorem vR (ns:List Int):(bB ns).marks.length=Gla.num (toB ns) 16 2:=by
 unfold bB HH
 simp only[lmp,F2]
theorem Dj (ns:List Int):SB (bB ns):=by
 have n4:∀p,Gla.num (toB ns) p 4<4294967296:=λ p=>pU _ p 4
 have n2:∀p,Gla.num (toB ns) p 2<65536:=λ p=>pU _ p 2
 refine⟨λ p hp=>?_,λ m hm=>?_,?_,?_,?_⟩
 ·unfold bB HH at hp
  simp only[Fx]at hp
  obtain⟨i,_,rfl⟩:=hp
  exact⟨n4 _,n4 _⟩
 ·unfold bB HH at hm
  simp only[Fx]at hm
  obtain⟨i,_,rfl⟩:=hm
  exact⟨n4 _,n4 _⟩
 ·rw[uj]
  have:=n2 12
  omega
 ·rw[uL]
  have:=n2 14
  omega
 ·rw[vR]
  have:=n2 16
  omega
theorem wj {ns:List Int}(e:fX (toB ns)=none):4<=(bB ns).pts.length:=by
 rw[uj]
 refine bcn λ z=>?_
 have hw:Gla.within 4 Gla.POINTS (Gla.num (toB ns) 12 2)=false:=by
  unfold Gla.within
  rw[dqf z,FF]
 unfold fX at e
 rw[EU hw]at e
 repeat' split at e
 all_goals cases e
theorem d7 {a b:Option (Int×Int)}(h:kR a b=none):a=none/\b=none:=by
 cases a with
 |none=>exact⟨rfl,h⟩
 |some x=>cases h
theorem qX {S:Gla.Plan}(h4:4<=S.pts.length)(h:bN S=none):WL.dq S/\∀m∈S.marks,Gla.clear S m.at_=true:=by
 unfold bN at h
 obtain⟨e4,h⟩:=d7 h
 obtain⟨e5,h⟩:=d7 h
 obtain⟨e6,h⟩:=d7 h
 obtain⟨e7,h⟩:=d7 h
 obtain⟨e8,h⟩:=d7 h
 obtain⟨e9,h⟩:=d7 h
 obtain⟨e10,e11⟩:=d7 h
 refine⟨⟨⟨d5 e4,d5 e5,d5 e7⟩,h4,?_,d5 e9,d5 e10⟩,λ m hm=>?_⟩
 ·unfold o6 at e6
  split at e6
  ·cases e6
  ·rename_i c
   cases q:Ix S with
   |true=>rfl
   |false=>exact absurd q c
 ·exact(WL.ck (d5 e11)).1 m hm
section
variable  {P:E8}{w:FL}{K:FQ}{mg:Str->Option Value}{base:Heap}{C CV:EJ}
def spJ (K:FQ)(C CV:EJ):Sp:=λ vs H Q _=>∃(a:EJ) (ns:List Int),vs=[.ref a]/\LI K H a ns/\Byt ns/\∀(H':Hp) (v:EJ) (dv ov:V),al H H'->wE CV H' v (dj ns) dv ov->(dj ns=none->∃d,dv=.ref d/\bz C H' d (bB ns)/\uu H' ov (bB ns))->Q (.ref v) H'
theorem scJ:aq ["cartoon","fault","drawing"] ["cartoon"] (ah lX):=⟨rfl,rfl,rfl,by decide +kernel,rfl,by decide +kernel,by decide +kernel⟩
theorem D0 (F:Has K mg "judge" lX ["cartoon"]) (TV:VCl K mg CV) (CI:Ci P w K mg base 1 CV ["self","fault","drawing","outlines"] (Bs CV)) (C1:Cb P w K mg base 3 "fault_of_bytes" ["cartoon"] (DO K)) (C2:Cb P w K mg base 4 "read_drawing" ["cartoon"] (B3 K C)) (C3:Cb P w K mg base 6 "fault_of_drawing" ["drawing"] (CL C)) (C4:Cb P w K mg base 4 "outlines_of" ["drawing"] (zJ C)) (C5:Cb P w K mg base 5 "judge_marks" ["drawing","outlines"] (DF C CV)) :
  Cb P w K mg base 7 "judge" ["cartoon"] (spJ K C CV):=by
 refine F.cb scJ (λ vs H Q E h=>?_) (λ f cdv A outer s H vs Q E hr h=>?_)
 ·obtain⟨a,ns,rfl,_⟩:=h
  rfl
 ·obtain⟨a,ns,rfl,hl,hb,k⟩:=h
  have hr2:bu 2 _:=hr.mono (by decide)
  have hr3:bu 3 _:=hr.mono (by decide)
  have hr4:bu 4 _:=hr.mono (by decide)
  have hr5:bu 5 _:=hr.mono (by decide)
  refine⟨_,ad (aB (i:=1) scJ.nd rfl (.inl rfl) (aF C1 hr3 (aa (pv 0) ac)))
   (ad (a6 (aK jq (pv 1) bc (aI _)) (ae (ak (oA CI hr2 TV.mgC (aa (pv 1) (aa bc (aa (dL ac) ac)))))) aJ)
   (ad (aB (i:=2) scJ.nd rfl (.inl rfl) (aF C2 hr4 (aa (pv 0) ac)))
   (ad (aB (i:=1) scJ.nd rfl (.inl rfl) (aF C3 hr (aa (pv 2) ac)))
   (ad (a6 (aK jq (pv 1) bc (aI _)) (ae (ak (oA CI hr2 TV.mgC (aa (pv 1) (aa (pv 2) (aa (dL ac) ac)))))) aJ)
   (ae (ak (aF C5 hr5 (aa (pv 2) (aa (aF C4 hr4 (aa (pv 2) ac)) ac))))))))),?_⟩
  refine⟨_,rfl,a,ns,rfl,hl,dG.of λ v H1 s1 f1=>?_⟩
  cases e1:dO ns with
  |some x =>
   rw[e1]at f1
   have eJ:dj ns=some x:=by unfold dj;rw[e1];rfl
   obtain⟨q,rfl,hq⟩:=id f1
   refine⟨_,rfl,rfl,_,rfl,aS (λ _=>?_) (λ c=>absurd (by rw[dqf (by intro z;cases z)];rfl) c)⟩
   refine⟨_,rfl,(by show 0<=EL;decide),λ q2 hq2=>?_⟩
   refine λ y xd nx ndx nex=>?_
   refine⟨y,xd,_,_,_,rfl,ag,λ H8 h8 kp8=>⟨rfl,?_⟩⟩
   have s8:al _ H8:=al.made nx ndx kp8
   refine k H8 y .non (.ref q2) (s1.trans ((aN hq2).trans s8)) ⟨xd,_,h8,?_⟩ (λ z=>by rw[eJ]at z;cases z)
   rw[eJ]
   exact f1.same ((aN hq2).trans s8)
  |none =>
  rw[e1]at f1
  obtain rfl:v=.non:=f1
  obtain⟨hlen,hjB⟩:=rk hb e1
  refine⟨_,rfl,rfl,_,rfl,aS (λ c=>absurd c (by decide)) (λ _=>?_)⟩
  refine⟨_,rfl,a,ns,rfl,hl.same s1,hb,hlen,λ H2 d s2 hd=>?_⟩
  have hd:bz C H2 d (bB ns):=hd
  have sb:=Dj ns
  have h4:=wj hjB
  have s2:=s1.trans s2
  generalize hS:bB ns=S at hd sb h4
  refine⟨_,rfl,d,S,rfl,hd,sb,h4,dG.of λ v H3 s3 f2=>?_⟩
  have hd3:=hd.same s3
  have s3:=s2.trans s3
  cases e2:bN S with
  |some x =>
   rw[e2]at f2
   have eJ:dj ns=some x:=by unfold dj;rw[e1,hS,e2];rfl
   obtain⟨q,rfl,hq⟩:=id f2
   refine⟨_,rfl,rfl,_,rfl,aS (λ _=>?_) (λ c=>absurd (by rw[dqf (by intro z;cases z)];rfl) c)⟩
   refine⟨_,rfl,_,rfl,(by show 0<=EL;decide),λ q2 hq2=>?_⟩
   refine λ y xd nx ndx nex=>?_
   refine⟨y,xd,_,_,_,rfl,ag,λ H8 h8 kp8=>⟨rfl,?_⟩⟩
   have s8:al _ H8:=al.made nx ndx kp8
   refine k H8 y (.ref d) (.ref q2) (s3.trans ((aN hq2).trans s8)) ⟨xd,_,h8,?_⟩ (λ z=>by rw[eJ]at z;cases z)
   rw[eJ]
   exact f2.same ((aN hq2).trans s8)
  |none =>
  rw[e2]at f2
  obtain rfl:v=.non:=f2
  obtain⟨kp,hclear⟩:=qX h4 e2
  refine⟨_,rfl,rfl,_,rfl,aS (λ c=>absurd c (by decide)) (λ _=>?_)⟩
  refine⟨_,rfl,_,rfl,d,S,rfl,hd3,sb,kp,λ H4 O os s4 hO=>?_⟩
  have eJ:dj ns=eD S:=by unfold dj;rw[e1,hS,e2];rfl
  refine⟨d,O,os,S,rfl,hd3.same s4,sb,kp,hclear,hO,λ H5 v ov s5 hv hp=>?_⟩
  refine k H5 v (.ref d) ov (s3.trans (s4.trans s5)) (by rw[eJ];exact hv) λ z=>?_
  rw[eJ]at z
  rw[hS]
  exact⟨d,rfl,hd3.same (s4.trans s5),hp z⟩
end
open PySem PySem.Spec PyProof.Rows L2 Wg Wx CM
open Gla (Pt)
section
variable  {P:E8}{w:FL}{K:FQ}{mg:Str->Option Value}{base:Heap}
def lr (lo hi:Int)(ns:List Int):Bool:=ns.all λ x=>decide (lo<=x)&&decide (x<=hi)
theorem pD {lo hi:Int}{ns:List Int}:lr lo hi ns=true↔∀x∈ns,lo<=x/\x<=hi:=by
 unfold lr
 rw[FS]
 simp only[EO,ET]
theorem oa {lo hi:Int}{ns:List Int}{i:Nat}{z:Int}(h:lr lo hi (ns.take i)=true)(hz:ns[i]? = some z)(h0:¬z<lo)(h1:¬hi<z):lr lo hi (ns.take (i+1))=true:=by
 rw[pD]at h ⊢
 intro x hx
 rw[bY hz,Fk]at hx
 rcases hx with hx|hx
 ·exact h x hx
 ·have e:x=z:=by simpa using hx
  subst e
  omega
theorem oJ {lo hi:Int}{ns:List Int}{i:Nat}{z:Int}(hz:ns[i]? = some z)(h:z<lo\/hi<z):lr lo hi ns=false:=by
 cases e:lr lo hi ns with
 |false=>rfl
 |true =>
  have:=pD.mp e z (FG hz)
  omega
def wG (K:FQ):Sp:=λ vs H Q _=>∃(a:EJ) (ns:List Int) (lo hi:Int),vs=[.ref a,.int lo,.int hi]/\LI K H a ns/\Q (.bl (lr lo hi ns)) H
theorem zG:aq ["row","least","greatest","number"] ["row","least","greatest"] (ah fu):=⟨rfl,rfl,rfl,by decide +kernel,rfl,by decide +kernel,by decide +kernel⟩
theorem AQ (F:Has K mg "are_within" fu ["row","least","greatest"]):Cb P w K mg base 1 "are_within" ["row","least","greatest"] (wG K):=by
 refine F.cb zG (λ vs H Q E h=>?_) (λ f cdv A outer s H vs Q E hr h=>?_)
 ·obtain⟨a,ns,lo,hi,rfl,_⟩:=h
  rfl
 ·obtain⟨a,ns,lo,hi,rfl,hl,k⟩:=h
  refine⟨_,ad (bw E4 rfl (bQ (pv 0)) (au (i:=3) zG.nd rfl (.inl rfl))
   (ae (a6 (mh (aK gf (pv 3) (pv 1) (aI _)) (jB (aK d6 (pv 3) (pv 2) (aI _)))).pt (ae (ak el)) aJ)))
   (ae (ak el)),?_⟩
  refine⟨_,rfl,a,rfl,⟨_,hl.1⟩,eh (K:=K) (a:=a) (xs:=iV ns) (λ i σ H'=>H'=H/\(∃v,σ=[some (.ref a),some (.int lo),some (.int hi),v])/\lr lo hi (ns.take i)=true) ⟨rfl,⟨none,rfl⟩,rfl⟩ (λ i σ H' _ h=>by rw[h.1];exact hl.1) ?_ ?_⟩
  ·rintro i y σ H' hi' ⟨rfl,⟨v,rfl⟩,hb⟩
   obtain⟨z,hz,rfl⟩:=pV hi'
   refine⟨_,rfl,_,rfl,_,_,rfl,rfl,_,rfl,aS (λ c=>?_) (λ c=>?_)⟩
   ·refine eI ?_
    show Q (.bl false) H'
    rw[oJ hz (.inl (EH c))]at k
    exact k
   ·refine⟨_,rfl,_,rfl,_,_,rfl,rfl,_,rfl,aS (λ c2=>?_) (λ c2=>?_)⟩
    ·show Q (.bl false) H'
     rw[oJ hz (.inr (EH c2))]at k
     exact k
    ·exact⟨rfl,⟨_,rfl⟩,oa hb hz (λ q=>c (dqt q)) (λ q=>c2 (dqt q))⟩
  ·rintro σ H' ⟨rfl,⟨v,rfl⟩,hb⟩
   rw[lmp,GE]at hb
   show Q (.bl true) H'
   rw[hb]at k
   exact k
def zR (K:FQ):Sp:=λ vs H Q _=>∃(a:EJ) (ns:List Int),vs=[.ref a]/\LI K H a ns/\Q (.bl (LM.isL ns)) H
theorem BW:aq ["row"] ["row"] (ah ig):=⟨rfl,rfl,rfl,by decide +kernel,rfl,by decide +kernel,by decide +kernel⟩
theorem Ag (F:Has K mg "is_light" ig ["row"]) (gB:∃t,mg "BANDS"=some (.int 32 t)) (gl:mg "len"=none) (gF:∃t,mg "FULL"=some (.int 65535 t)) (C:Cb P w K mg base 1 "are_within" ["row","least","greatest"] (wG K)):Cb P w K mg base 2 "is_light" ["row"] (zR K):=by
 refine F.cb BW (λ vs H Q E h=>?_) (λ f cdv A outer s H vs Q E hr h=>?_)
 ·obtain⟨a,ns,rfl,_⟩:=h
  rfl
 ·obtain⟨a,ns,rfl,hl,k⟩:=h
  refine⟨_,ae (ak (iQ (cp kq (aW aO (by rfl) gl FB (aa (pv 0) ac)) (br gB) (aI _)) (eC (aF C hr (aa (pv 0) (aa af (aa (br gF) ac))))))),?_⟩
  refine⟨_,rfl,a,_,rfl,.inl hl.1,rfl,_,rfl,aS (λ c=>?_) (λ c=>?_)⟩
  ·refine⟨_,rfl,a,ns,0,65535,rfl,hl,?_⟩
   have e:LM.isL ns=LM.oV ns:=by
    unfold LM.isL
    rw[dqt (p:=ns.length=32) ?_,F4]
    have:=V.int.inj (EH c)
    rw[lmp]at this
    omega
   rw[e]at k
   exact k
  ·have e:LM.isL ns=false:=by
    unfold LM.isL
    rw[dqf (p:=ns.length=32) ?_,FF]
    intro q
    apply c
    apply dqt
    rw[lmp,q]
    rfl
   rw[e]at k
   exact k
end
section
variable  {P:E8}{w:FL}{K:FQ}{mg:Str->Option Value}{base:Heap}
def xE (K:FQ):Sp:=λ vs H Q _=>∃(a:EJ) (ns:List Int),vs=[.ref a]/\LI K H a ns/\Q (.bl (LM.cv ns)) H
theorem A3:aq ["row"] ["row"] (ah fk):=⟨rfl,rfl,rfl,by decide +kernel,rfl,by decide +kernel,by decide +kernel⟩
theorem yz (F:Has K mg "are_lights" fk ["row"]) (gB:∃t,mg "BANDS"=some (.int 32 t)) (gl:mg "len"=none) (gF:∃t,mg "FULL"=some (.int 65535 t)) (C:Cb P w K mg base 1 "are_within" ["row","least","greatest"] (wG K)):Cb P w K mg base 2 "are_lights" ["row"] (xE K):=by
 refine F.cb A3 (λ vs H Q E h=>?_) (λ f cdv A outer s H vs Q E hr h=>?_)
 ·obtain⟨a,ns,rfl,_⟩:=h
  rfl
 ·obtain⟨a,ns,rfl,hl,k⟩:=h
  refine⟨_,ae (ak (iQ (cp kq (aV Ay (aW aO (by rfl) gl FB (aa (pv 0) ac)) (br gB)) af (aI _)) (eC (aF C hr (aa (pv 0) (aa af (aa (br gF) ac))))))),?_⟩
  refine⟨_,rfl,a,_,rfl,.inl hl.1,_,_,rfl,rfl,(by show(0:Int)<32;decide),rfl,_,rfl,aS (λ c=>?_) (λ c=>?_)⟩
  ·refine⟨_,rfl,a,ns,0,65535,rfl,hl,?_⟩
   have e:LM.cv ns=LM.oV ns:=by
    unfold LM.cv
    rw[dqt (p:=ns.length % 32=0) ?_,F4]
    have:=V.int.inj (EH c)
    rw[lmp]at this
    omega
   rw[e]at k
   exact k
  ·have e:LM.cv ns=false:=by
    unfold LM.cv
    rw[dqf (p:=ns.length % 32=0) ?_,FF]
    intro q
    apply c
    apply dqt
    rw[lmp]
    show V.int ((ns.length:Int) % 32)=V.int 0
    rw[show(ns.length:Int) % 32=0 by omega]
   rw[e]at k
   exact k
def vY (K:FQ):Sp:=λ vs H Q _=>∃(a:EJ) (ns:List Int),vs=[.ref a]/\LI K H a ns/\Q (.int (LM.cnt ns)) H
theorem Ct:aq ["row"] ["row"] (ah cZ):=⟨rfl,rfl,rfl,by decide +kernel,rfl,by decide +kernel,by decide +kernel⟩
theorem AJ (F:Has K mg "how_many_lights" cZ ["row"]) (gB:∃t,mg "BANDS"=some (.int 32 t)) (gl:mg "len"=none):Cb P w K mg base 1 "how_many_lights" ["row"] (vY K):=by
 refine F.cb Ct (λ vs H Q E h=>?_) (λ f cdv A outer s H vs Q E hr h=>?_)
 ·obtain⟨a,ns,rfl,_⟩:=h
  rfl
 ·obtain⟨a,ns,rfl,hl,k⟩:=h
  refine⟨_,ae (ak (aV qe (aW aO (by rfl) gl FB (aa (pv 0) ac)) (br gB))),?_⟩
  refine⟨_,rfl,a,_,rfl,.inl hl.1,_,_,rfl,rfl,⟨by decide,by decide⟩,?_⟩
  have e:(((iV ns).length:Nat):Int) / 32=((LM.cnt ns:Nat):Int):=by
   rw[lmp]
   unfold LM.cnt
   omega
  show Q (.int ((((iV ns).length:Nat):Int) / 32)) H
  rw[e]
  exact k
theorem yF (ns:List Int)(k:Nat):n9 (iV ns) (some (32*(k:Int))) (some (32*((k:Int)+1)))=iV (LM.lat ns k):=by
 have e1:(32*(k:Int))=((32*k:Nat):Int):=by omega
 have e2:(32*((k:Int)+1))=((32*k+32:Nat):Int):=by omega
 rw[e1,e2]
 unfold n9 LM.lat
 rw[HT.sIx_nat,HT.sIx_nat,iV,<-Ii,<-Hk,lmp]
 congr 1
 by_cases c:32*k<=ns.length
 ·rw[Fg c]
  by_cases c2:32*k+32<=ns.length
  ·rw[Fg c2]
   congr 1
   omega
  ·rw[Ff (by omega)]
   rw[F9 (by rw[Fu];omega),F9 (by rw[Fu];omega)]
 ·rw[Ff (show ns.length<=32*k by omega),G7 (nlr _),G7 (show ns.length<=32*k by omega)]
  simp
def zS (K:FQ):Sp:=λ vs H Q _=>∃(a:EJ) (ns:List Int) (k:Nat),vs=[.ref a,.int k]/\LI K H a ns/\k<=1000000/\∀p,H p=none->Q (.ref p) (upd H p (.lst (iV (LM.lat ns k))))
theorem Co:aq ["row","k"] ["row","k"] (ah ii):=⟨rfl,rfl,rfl,by decide +kernel,rfl,by decide +kernel,by decide +kernel⟩
theorem zY (F:Has K mg "light_at" ii ["row","k"]) (gB:∃t,mg "BANDS"=some (.int 32 t)):Cb P w K mg base 1 "light_at" ["row","k"] (zS K):=by
 refine F.cb Co (λ vs H Q E h=>?_) (λ f cdv A outer s H vs Q E hr h=>?_)
 ·obtain⟨a,ns,k,rfl,_⟩:=h
  rfl
 ·obtain⟨a,ns,i,rfl,hl,hi,k⟩:=h
  refine⟨_,ae (ak (mL qb (pv 0) (ke (aV dP (br gB) (pv 1))) (ke (aV dP (br gB) (aV dM (pv 1) af))))),?_⟩
  refine⟨_,rfl,_,rfl,_,_,rfl,rfl,.inl ⟨by decide,by decide⟩,_,rfl,_,rfl,_,_,rfl,rfl,_,_,rfl,rfl,.inl ⟨by decide,by decide⟩,_,rfl,a,_,rfl,hl.1,λ p hp=>?_⟩
  rw[yF ns i]
  exact k p hp
end
def Sm (ns:List Int):Prop:=∀x∈ns,-8589934592<=x/\x<=8589934592
theorem Sm.at {ns:List Int}(h:Sm ns){i:Nat}{z:Int}(e:ns[i]? = some z):-8589934592<=z/\z<=8589934592:=h z (FG e)
section
variable  {P:E8}{w:FL}{K:FQ}{mg:Str->Option Value}{base:Heap}
def x5 (K:FQ):Sp:=λ vs H Q _=>∃(a b:EJ) (xs ys:List Int),vs=[.ref a,.ref b]/\LI K H a xs/\LI K H b ys/\Sm xs/\Sm ys/\∀(H':Hp) (p:EJ),al H H'->H' p=some (.lst (iV (LM.thI xs ys)))->Q (.ref p) H'
theorem tZ:aq ["one","other","a","b"] ["one","other"] (ah cK):=⟨rfl,rfl,rfl,by decide +kernel,rfl,by decide +kernel,by decide +kernel⟩
theorem AF (F:Has K mg "light_through" cK ["one","other"]) (gF:∃t,mg "FULL"=some (.int 65535 t)) (gz:mg "zip"=none):Cb P w K mg base 1 "light_through" ["one","other"] (x5 K):=by
 refine F.cb tZ (λ vs H Q E h=>?_) (λ f cdv A outer s H vs Q E hr h=>?_)
 ·obtain⟨a,b,xs,ys,rfl,_⟩:=h
  rfl
 ·obtain⟨a,b,xs,ys,rfl,hx,hy,sx,sy,k⟩:=h
  refine⟨_,ae (ak (xY (own:=[("a",2),("b",3)]) (g:=g2 K 2 3) rfl tZ.nd (Bv rfl gz (aa (pv 0) (aa (pv 1) ac))) (bL (by show iH ["one","other","a","b"] (ah cK) _ _=true;decide +kernel))
   (λ _ _ _ _ _=>cT (n:=2) rfl (aL (au (i:=2) tZ.nd rfl (.inl rfl) (.inr rfl)) (aL (au (i:=3) tZ.nd rfl (.inl rfl) (.inr rfl)) bU))) (λ _ _ _ _ _=>eU)
   (λ _ _ _ _ _=>aV qe (aV dM (aV dP (pv 2) (pv 3)) (aV qe (br gF) af)) (br gF)))),?_⟩
  refine⟨_,rfl,_,rfl,a,b,_,_,rfl,hx.1,hy.1,λ D hD=>?_⟩
  refine Aq (xs:=iV xs) (ys:=iV ys) (λ i H'=>al H H'/\H' D=some (.lst (iV (((xs.zip ys).take i).map λ p=>(p.1*p.2+32767) / 65535)))) ?_ ?_ ?_ ?_
  ·exact⟨aN hD,ag⟩
  ·rintro i H' _ ⟨hS,_⟩
   exact⟨hS.seq hx.1,hS.seq hy.1⟩
  ·rintro i x' y' T H' ex' ey' hT ⟨hS,hDl⟩
   obtain⟨x,ex,rfl⟩:=pV ex'
   obtain⟨y,ey,rfl⟩:=pV ey'
   refine⟨T,_,rfl,SqT.of ag,rfl,_,_,rfl,_,_,rfl,rfl,rfl,nS (eI ?_)⟩
   have nTD:D≠T:=aQ hDl hT
   have b1:=sx.at ex
   refine⟨_,rfl,_,rfl,_,_,rfl,rfl,.inl ⟨by omega,by omega⟩,_,_,rfl,rfl,⟨by decide,by decide⟩,_,_,rfl,rfl,_,_,rfl,rfl,⟨by decide,by decide⟩,_,by rw[ap nTD];exact hDl,?_,aY (aZ hS hT) hD,?_⟩
   ·rw[lmp,lmp,FM]
    have:=hx.2
    have:i<xs.length:=(gsi ex).1
    exact bG (by omega)
   ·rw[ag,bY (A7 ex ey)]
    simp only[iV,Fi,Fl,List.map_nil]
    rfl
  ·rintro H' ⟨hS,hDl⟩
   have e:(xs.zip ys).take (min (iV xs).length (iV ys).length)=xs.zip ys:=by
    rw[lmp,lmp,<-G4]
    exact GE
   rw[e]at hDl
   exact k H' D hS hDl
end
open PySem PySem.Spec PyProof.Rows L2 Wg Wx CM
open Gla (Pt)
def An (o:Option (List Int))(v:V)(H:Hp):Prop:=match o with
 |none=>v=.non
 |some r=>∃q,v=.ref q/\H q=some (.lst (iV r))
def qK (o:Option (List Int))(H:Hp)(Q:VK):Prop:=∀v H',al H H'->An o v H'->Q v H'
def Bd (ns:List Int):Prop:=∀x∈ns,0<=x/\x<=65535
theorem Bd.sm {ns:List Int}(h:Bd ns):Sm ns:=λ x hx=>by have:=h x hx;omega
theorem Bd.lat {ns:List Int}(h:Bd ns)(k:Nat):Bd (LM.lat ns k):=λ x hx=>h x (GU (F8 hx))
theorem Bd.th {xs ys:List Int}(hx:Bd xs)(hy:Bd ys):Bd (LM.thI xs ys):=λ z hz=>by
 unfold LM.thI at hz
 rw[Fx]at hz
 obtain⟨p,hp,rfl⟩:=hz
 have h1:=hx p.1 (List.of_mem_zip hp).1
 have h2:=hy p.2 (List.of_mem_zip hp).2
 have h3:0<=p.1*p.2:=ER h1.1 h2.1
 have h4:p.1*p.2<=65535*65535:=Int.mul_le_mul h1.2 h2.2 h2.1 (by decide)
 constructor
 ·omega
 ·omega
theorem ku (ns:List Int)(k:Nat):(LM.lat ns k).length<=32:=by
 unfold LM.lat
 rw[FM]
 omega
theorem xu (xs ys:List Int):(LM.thI xs ys).length<=xs.length:=by
 unfold LM.thI
 rw[lmp,G4]
 omega
def cM (gs qs:List Int)(S:Gla.Plan):Option Nat:=Gla.firstAt (λ(_:Nat) (m:Ir)=>!(decide (m.glass<LM.cnt gs)&&decide (m.painting<=LM.cnt qs))) S.marks
def plI (gs qs:List Int)(m:Ir):List Int:=if m.painting=0 then LM.lat gs m.glass else LM.thI (LM.lat gs m.glass) (LM.lat qs (m.painting-1))
def iX (cs gs qs ds:List Int):Option (List Int):=if (LM.isL ds&&(LM.cv gs&&LM.cv qs))=false then some [-1] else if (decide (131072<cs.length)||(decide (256<LM.cnt gs)||decide (256<LM.cnt qs)))=true then some [-6] else none
def MkL (H:Hp)(m:EJ)(ms:List EJ)(S:Gla.Plan):Prop:=H m=some (.lst (ms.map V.ref))/\ms.length=S.marks.length/\∀(i:Nat) (b:EJ) (x:Ir),ms[i]? = some b->S.marks[i]? = some x->H b=some (.tup (iV (km x)))
section
variable  {P:E8}{w:FL}{K:FQ}{mg:Str->Option Value}{base:Heap}{C CV:EJ}
def Ez (o:Option Nat):V:=match o with
 |none=>.non
 |some k=>.int (k:Int)
def CF (K:FQ):Sp:=λ vs H Q _=>∃(m ga qa:EJ) (ms:List EJ) (S:Gla.Plan) (gs qs:List Int),vs=[.ref m,.ref ga,.ref qa]/\MkL H m ms S/\LI K H ga gs/\LI K H qa qs/\∀H',al H H'->Q (Ez (cM gs qs S)) H'
theorem Bp:aq ["marks","glasses","paintings","k","mark"] ["marks","glasses","paintings"] (ah bo):=⟨rfl,rfl,rfl,by decide +kernel,rfl,by decide +kernel,by decide +kernel⟩
theorem CK (F:Has K mg "first_mark_without_light" bo ["marks","glasses","paintings"]) (ge:mg "enumerate"=none) (C1:Cb P w K mg base 1 "how_many_lights" ["row"] (vY K)):Cb P w K mg base 2 "first_mark_without_light" ["marks","glasses","paintings"] (CF K):=by
 refine F.cb Bp (λ vs H Q E h=>?_) (λ f cdv A outer s H vs Q E hr h=>?_)
 ·obtain⟨m,ga,qa,ms,S,gs,qs,rfl,_⟩:=h
  rfl
 ·obtain⟨m,ga,qa,ms,S,gs,qs,rfl,hm,hg,hq,k⟩:=h
  refine⟨_,ad (bw E4 rfl (dX rfl ge (aa (pv 0) ac)) (cT (n:=2) rfl (aL (au (i:=3) Bp.nd rfl (.inl rfl)) (aL (au (i:=4) Bp.nd rfl (.inl rfl)) bU)))
    (ae (a6 (mh (aK t9 (aw aD (pv 4) af (λ _ _=>rfl)) (aF C1 hr (aa (pv 1) ac)) (aI _)) (jB (aK d6 (aw aD (pv 4) af (λ _ _=>rfl)) (aF C1 hr (aa (pv 2) ac)) (aI _)))).pt (ae (ak (pv 3))) aJ)))
   (ae (ak bc)),?_⟩
  refine⟨_,rfl,m,_,rfl,SqL.of hm.1,dt (K:=K) (a:=m) (xs:=ms.map V.ref) (λ i σ H'=>al H H'/\(∃v1 v2,σ=[some (.ref m),some (.ref ga),some (.ref qa),v1,v2])/\∀j (hj:j<S.marks.length),j<i->(!(decide (S.marks[j].glass<LM.cnt gs)&&decide (S.marks[j].painting<=LM.cnt qs)))=false)
   ⟨al.refl H,⟨none,none,rfl⟩,λ j hj h=>absurd h (FT _)⟩ (λ i σ H' _ h=>SqL.of (h.1 _ _ hm.1)) ?_ ?_⟩
  ·rintro i y T' σ H' hi hT ⟨hS,⟨v1,v2,rfl⟩,hok⟩
   obtain⟨b,hb,rfl⟩:=cu hi
   have hil:i<S.marks.length:=by rw[<-hm.2.1];exact(gsi hb).1
   have s2:al H (upd H' T' (.tup [.int (i:Nat),.ref b])):=aZ hS hT
   refine⟨T',_,rfl,SqT.of ag,rfl,_,_,rfl,_,_,rfl,rfl,?_⟩
   generalize upd H' T' (.tup [.int (i:Nat),.ref b])=H2 at s2
   have hbb:SqT K H2 b (iV (km S.marks[i])):=SqT.of (s2 _ _ (hm.2.2 i b _ hb (gge hil)))
   have bad:(!(decide (S.marks[i].glass<LM.cnt gs)&&decide (S.marks[i].painting<=LM.cnt qs)))=true->Q (.int (i:Int)) H2:=λ z=>by
    have e:cM gs qs S=some i:=WL.em hil z λ j hj=>hok j (by omega) hj
    rw[e]at k
    exact k H2 s2
   refine⟨_,rfl,b,_,_,_,rfl,rfl,hbb,aA (j:=2) rfl rfl,_,rfl,ga,gs,rfl,hg.same s2,_,_,rfl,rfl,_,rfl,aS (λ c1=>?_) (λ c1=>?_)⟩
   ·have c1:=EH c1
    refine eI ⟨_,rfl,bad ?_⟩
    rw[dqf (by omega),FF]
    rfl
   ·have c1:=aG c1
    refine⟨_,rfl,b,_,_,_,rfl,rfl,hbb,aA (j:=3) rfl rfl,_,rfl,qa,qs,rfl,hq.same s2,_,_,rfl,rfl,_,rfl,aS (λ c2=>?_) (λ c2=>?_)⟩
    ·have c2:=EH c2
     refine⟨_,rfl,bad ?_⟩
     rw[dqf (show ¬S.marks[i].painting<=LM.cnt qs by omega),Bool.and_false]
     rfl
    ·have c2:=aG c2
     refine⟨s2,⟨_,_,rfl⟩,λ j hj h=>?_⟩
     by_cases c:j<i
     ·exact hok j hj c
     ·have:j=i:=by omega
      subst this
      rw[dqt (by omega:S.marks[j].glass<LM.cnt gs),dqt (by omega:S.marks[j].painting<=LM.cnt qs)]
      rfl
  ·rintro σ H' ⟨hS,⟨v1,v2,rfl⟩,hok⟩
   have e:cM gs qs S=none:=WL.dU λ j hj=>hok j hj (by rw[lmp,hm.2.1];exact hj)
   rw[e]at k
   exact k H' hS
def Da (K:FQ):Sp:=λ vs H Q _=>∃(b ga qa:EJ) (x:Ir) (gs qs:List Int),vs=[.ref b,.ref ga,.ref qa]/\SqT K H b (iV (km x))/\LI K H ga gs/\LI K H qa qs/\Bd gs/\Bd qs/\x.glass<=1000000/\x.painting<=1000000/\∀(H':Hp) (p:EJ),al H H'->H' p=some (.lst (iV (plI gs qs x)))->Q (.ref p) H'
theorem Ce:aq ["mark","glasses","paintings","glass"] ["mark","glasses","paintings"] (ah fD):=⟨rfl,rfl,rfl,by decide +kernel,rfl,by decide +kernel,by decide +kernel⟩
theorem Dz (F:Has K mg "pane_light" fD ["mark","glasses","paintings"]) (C1:Cb P w K mg base 1 "light_at" ["row","k"] (zS K)) (C2:Cb P w K mg base 1 "light_through" ["one","other"] (x5 K)):Cb P w K mg base 2 "pane_light" ["mark","glasses","paintings"] (Da K):=by
 refine F.cb Ce (λ vs H Q E h=>?_) (λ f cdv A outer s H vs Q E hr h=>?_)
 ·obtain⟨b,ga,qa,x,gs,qs,rfl,_⟩:=h
  rfl
 ·obtain⟨b,ga,qa,x,gs,qs,rfl,hb,hg,hq,bg,bq,xg,xp,k⟩:=h
  refine⟨_,ad (aB (i:=3) Ce.nd rfl (.inl rfl) (aF C1 hr (aa (pv 1) (aa (aw aD (pv 0) af (λ _ _=>rfl)) ac))))
   (ad (a6 (aK kq (aw aD (pv 0) af (λ _ _=>rfl)) af (aI _)) (ae (ak (pv 3))) aJ)
   (ae (ak (aF C2 hr (aa (pv 3) (aa (aF C1 hr (aa (pv 2) (aa (aV eO (aw aD (pv 0) af (λ _ _=>rfl)) af) ac))) ac)))))),?_⟩
  refine⟨_,rfl,_,rfl,b,_,_,_,rfl,rfl,hb,aA (j:=2) rfl rfl,ga,gs,x.glass,rfl,hg,xg,λ p hp=>?_⟩
  have s1:al H (upd H p (.lst (iV (LM.lat gs x.glass)))):=aN hp
  have h1:(upd H p (.lst (iV (LM.lat gs x.glass)))) p=some (.lst (iV (LM.lat gs x.glass))):=ag
  generalize upd H p (.lst (iV (LM.lat gs x.glass)))=H1 at s1 h1
  refine⟨_,rfl,b,_,_,_,rfl,rfl,(i7 s1 hb),aA (j:=3) rfl rfl,rfl,_,rfl,aS (λ c=>?_) (λ c=>?_)⟩
  ·have c:=V.int.inj (EH c)
   refine⟨_,rfl,k H1 p s1 ?_⟩
   unfold plI
   rw[EU (by omega)]
   exact h1
  ·have c:¬x.painting=0:=λ z=>c (dqt (by rw[z];rfl))
   refine⟨_,rfl,_,rfl,_,rfl,b,_,_,_,rfl,rfl,(i7 s1 hb),aA (j:=3) rfl rfl,_,_,rfl,rfl,qa,qs,x.painting-1,?_,hq.same s1,by omega,λ p2 hp2=>?_⟩
   ·show [V.ref qa,V.int ((x.painting:Int)-1)]=_
    rw[show((x.painting:Int)-1)=((x.painting-1:Nat):Int) by omega]
   have s2:al H1 (upd H1 p2 (.lst (iV (LM.lat qs (x.painting-1))))):=aN hp2
   have l1:=ku gs x.glass
   have l2:=ku qs (x.painting-1)
   refine⟨p,p2,_,_,rfl,⟨SqL.of (s2 _ _ h1),by omega⟩,⟨SqL.of ag,by omega⟩,(bg.lat _).sm,(bq.lat _).sm,λ H3 r s3 hr3=>?_⟩
   refine k H3 r (s1.trans (s2.trans s3)) ?_
   unfold plI
   rw[EM c]
   exact hr3
theorem wQ {gs qs:List Int}(bg:Bd gs)(bq:Bd qs)(x:Ir):Bd (plI gs qs x):=by
 unfold plI
 split
 ·exact bg.lat _
 ·exact(bg.lat _).th (bq.lat _)
theorem Bq (gs qs:List Int)(x:Ir):(plI gs qs x).length<=32:=by
 unfold plI
 split
 ·exact ku _ _
 ·exact Fw (xu _ _) (ku _ _)
def Cn:Sp:=λ vs H Q _=>∃(r:EJ) (ns:List Int),vs=[.ref r]/\H r=some (.lst (iV ns))/\ns.length<=1000000/\∀(H':Hp) (p:EJ),al H H'->H' p=some (.lst (iV (0 :: (ns.length:Int) :: ns)))->Q (.ref p) H'
theorem Eh:aq ["row"] ["row"] (ah fw):=⟨rfl,rfl,rfl,by decide +kernel,rfl,by decide +kernel,by decide +kernel⟩
theorem Dq (F:Has K mg "row_answer" fw ["row"]) (gl:mg "len"=none):Cb P w K mg base 1 "row_answer" ["row"] Cn:=by
 refine F.cb Eh (λ vs H Q E h=>?_) (λ f cdv A outer s H vs Q E hr h=>?_)
 ·obtain⟨r,ns,rfl,_⟩:=h
  rfl
 ·obtain⟨r,ns,rfl,hrr,hl,k⟩:=h
  refine⟨_,ae (ak (aV xC (dL (aa af (aa (aW aO (by rfl) gl FB (aa (pv 0) ac)) ac))) (pv 0))),?_⟩
  refine⟨_,rfl,r,_,rfl,.inl (SqL.of hrr),(by show 2<=EL;decide),λ p hp=>?_⟩
  have s1:al H (upd H p (.lst [.int 0,.int (((iV ns).length:Nat):Int)])):=aN hp
  refine⟨_,rfl,p,r,_,_,rfl,rfl,ag,s1 _ _ hrr,?_,λ q hq=>?_⟩
  ·rw[iV,lmp]
   have:ns.length+2<EL:=FE (Nat.add_le_add_right hl 2) (by decide)
   show 2+ns.length<=EL
   omega
  ·refine k _ q (aZ s1 hq) ?_
   rw[ag]
   show some (HO.lst (.int 0 :: .int (((iV ns).length:Nat):Int) :: iV ns))=_
   rw[iV,lmp]
   rfl
end
section
variable  {P:E8}{w:FL}{K:FQ}{mg:Str->Option Value}{base:Heap}{C CV:EJ}
def DA (K:FQ):Sp:=λ vs H Q _=>∃(b ga qa da:EJ) (x:Ir) (gs qs ds:List Int),vs=[.ref b,.ref ga,.ref qa,.ref da]/\SqT K H b (iV (km x))/\LI K H ga gs/\LI K H qa qs/\LI K H da ds/\Bd gs/\Bd qs/\Bd ds/\x.glass<=1000000/\x.painting<=1000000/\∀(H':Hp) (p:EJ),al H H'->H' p=some (.lst (iV (LM.thI ds (plI gs qs x))))->Q (.ref p) H'
theorem EC:aq ["mark","glasses","paintings","daylight"] ["mark","glasses","paintings","daylight"] (ah fH):=⟨rfl,rfl,rfl,by decide +kernel,rfl,by decide +kernel,by decide +kernel⟩
theorem Ca (F:Has K mg "seen_light" fH ["mark","glasses","paintings","daylight"]) (C1:Cb P w K mg base 2 "pane_light" ["mark","glasses","paintings"] (Da K)) (C2:Cb P w K mg base 1 "light_through" ["one","other"] (x5 K)):Cb P w K mg base 3 "seen_light" ["mark","glasses","paintings","daylight"] (DA K):=by
 refine F.cb EC (λ vs H Q E h=>?_) (λ f cdv A outer s H vs Q E hr h=>?_)
 ·obtain⟨b,ga,qa,da,x,gs,qs,ds,rfl,_⟩:=h
  rfl
 ·obtain⟨b,ga,qa,da,x,gs,qs,ds,rfl,hb,hg,hq,hd,bg,bq,bd,xg,xp,k⟩:=h
  have hr1:bu 1 _:=hr.mono (by decide)
  refine⟨_,ae (ak (aF C2 hr1 (aa (pv 3) (aa (aF C1 hr (aa (pv 0) (aa (pv 1) (aa (pv 2) ac)))) ac)))),?_⟩
  refine⟨_,rfl,_,rfl,_,rfl,_,rfl,b,ga,qa,x,gs,qs,rfl,hb,hg,hq,bg,bq,xg,xp,λ H1 p s1 hp=>?_⟩
  have l1:=Bq gs qs x
  exact⟨da,p,ds,_,rfl,hd.same s1,⟨SqL.of hp,by omega⟩,bd.sm,(wQ bg bq x).sm,λ H2 r s2 hr2=>k H2 r (s1.trans s2) hr2⟩
end
open PySem PySem.Spec PyProof.Rows L2 Wg Wx CM
open Gla (Pt)
section
variable  {P:E8}{w:FL}{K:FQ}{mg:Str->Option Value}{base:Heap}{C CV:EJ}
theorem qK.none' {o:Option (List Int)}{H H':Hp}{Q:VK}(k:qK o H Q)(e:o=none)(s:al H H'):Q .non H':=by
 subst e
 exact k .non H' s rfl
theorem qK.some' {o:Option (List Int)}{H H':Hp}{Q:VK}{r:List Int}(k:qK o H Q)(e:o=some r)(s:al H H'):∀q,H' q=none->Q (.ref q) (upd H' q (.lst (iV r))):=λ q hq=>by
 subst e
 exact k (.ref q) _ (aZ s hq) ⟨q,rfl,ag⟩
def oo (cs gs qs:List Int):Option (List Int):=if (LM.cv gs&&LM.cv qs)=false then some [-1] else if (decide (131072<cs.length)||(decide (256<LM.cnt gs)||decide (256<LM.cnt qs)))=true then some [-6] else none
def wL (K:FQ):Sp:=λ vs H Q _=>∃(ca ga qa:EJ) (cs gs qs:List Int),vs=[.ref ca,.ref ga,.ref qa]/\LI K H ca cs/\LI K H ga gs/\LI K H qa qs/\qK (oo cs gs qs) H Q
theorem wk:aq ["cartoon","glasses","paintings","too_many_lights"] ["cartoon","glasses","paintings"] (ah cX):=⟨rfl,rfl,rfl,by decide +kernel,rfl,by decide +kernel,by decide +kernel⟩
theorem zt (F:Has K mg "refusal_of_shop" cX ["cartoon","glasses","paintings"]) (gl:mg "len"=none) (gM:∃t,mg "MOST_LIGHTS"=some (.int 256 t)) (gY:∃t,mg "MOST_BYTES"=some (.int 131072 t)) (C2:Cb P w K mg base 2 "are_lights" ["row"] (xE K)) (C3:Cb P w K mg base 1 "how_many_lights" ["row"] (vY K)) :
  Cb P w K mg base 3 "refusal_of_shop" ["cartoon","glasses","paintings"] (wL K):=by
 refine F.cb wk (λ vs H Q E h=>?_) (λ f cdv A outer s H vs Q E hr h=>?_)
 ·obtain⟨ca,ga,qa,cs,gs,qs,rfl,_⟩:=h
  rfl
 ·obtain⟨ca,ga,qa,cs,gs,qs,rfl,hc,hg,hq,k⟩:=h
  have hr1:bu 1 _:=hr.mono (by decide)
  refine⟨_,ad (a6 (ja (jD (cG (aF C2 hr (aa (pv 1) ac))) (io (cG (aF C2 hr (aa (pv 2) ac))))).pt) (ae (ak (dL (aa (lJ iZ af) ac)))) aJ)
   (ad (aB (i:=3) wk.nd rfl (.inl rfl) (qU (cp d6 (aF C3 hr1 (aa (pv 1) ac)) (br gM) (aI _)) (eC (cp d6 (aF C3 hr1 (aa (pv 2) ac)) (br gM) (aI _)))))
   (ad (a6 (mh (aK d6 (aW aO (by rfl) gl FB (aa (pv 0) ac)) (br gY) (aI _)) (jB (cG (pv 3)))).pt (ae (ak (dL (aa (lJ iZ af) ac)))) aJ)
   (ae (ak bc)))),?_⟩
  have bad:(LM.cv gs&&LM.cv qs)=false->∀p,H p=none->Q (.ref p) (upd H p (.lst [.int (-1)])):=λ e p hp=>k.some' (r:=[-1]) (by unfold oo;rw[EU e]) (al.refl H) p hp
  have six:(LM.cv gs&&LM.cv qs)=true->(decide (131072<cs.length)||(decide (256<LM.cnt gs)||decide (256<LM.cnt qs)))=true->∀p,H p=none->Q (.ref p) (upd H p (.lst [.int (-6)])):=λ e e2 p hp=>k.some' (r:=[-6]) (by unfold oo;rw[e,EM (by decide),EU e2]) (al.refl H) p hp
  have non:(LM.cv gs&&LM.cv qs)=true->¬(decide (131072<cs.length)||(decide (256<LM.cnt gs)||decide (256<LM.cnt qs)))=true->Q .non H:=λ e e2=>k.none' (by unfold oo;rw[e,EM (by decide),EM e2]) (al.refl H)
  refine⟨_,rfl,ga,gs,rfl,hg,_,rfl,?_⟩
  cases h2:LM.cv gs with
  |false =>
   refine jU (eI ⟨_,rfl,(by show 1<=EL;decide),λ p hp=>bad (by rw[h2];rfl) p hp⟩)
  |true =>
  refine eI ?_
  refine⟨_,rfl,qa,qs,rfl,hq,_,rfl,?_⟩
  cases h3:LM.cv qs with
  |false =>
   refine eI ⟨_,rfl,(by show 1<=EL;decide),λ p hp=>bad (by rw[h2,h3];rfl) p hp⟩
  |true =>
  refine jU ?_
  have ok:(LM.cv gs&&LM.cv qs)=true:=by rw[h2,h3];rfl
  have cont:∀t:Bool,t=(decide (256<LM.cnt gs)||decide (256<LM.cnt qs))->AL (sT (tOr (fh (tOp (rI0 λ i j=>.bl (decide (j<i))) (tCB (λ xs H Q=>∃p ys,xs=[.ref p]/\(SqL K H p ys\/SqT K H p ys)/\Q (.int ys.length) H) (bD (a8 0) fY)) (tC (.int 131072)))) (tB (a8 3)))
    (mw (Dy (bD (tUn (rU λ i=>.int (-i)) (tC (.int 6))) fY))) mf) (mw (tC .non)) { nx:=λ _ H'=>Q .non H',rt:=Q } [some (.ref ca),some (.ref ga),some (.ref qa),some (.bl t)] H:=λ t et=>by
   refine⟨_,rfl,ca,_,rfl,.inl hc.1,_,_,rfl,rfl,_,rfl,?_⟩
   rw[iV,lmp]
   refine aS (λ c=>?_) (λ c=>?_)
   ·have c:=EH c
    refine eI ⟨_,rfl,(by show 1<=EL;decide),λ p hp=>six ok ?_ p hp⟩
    rw[dqt (by omega:131072<cs.length),IB]
   ·have c:=aG c
    refine⟨_,rfl,_,rfl,aS (λ c2=>?_) (λ c2=>?_)⟩
    ·refine⟨_,rfl,(by show 1<=EL;decide),λ p hp=>six ok ?_ p hp⟩
     rw[<-et,c2,Bool.or_true]
    ·refine non ok ?_
     rw[<-et,cJ c2,dqf (by omega)]
     decide
  refine⟨_,rfl,ga,gs,rfl,hg,_,_,rfl,rfl,_,rfl,aS (λ c=>?_) (λ c=>?_)⟩
  ·have c:=EH c
   refine cont true ?_
   rw[dqt (by omega:256<LM.cnt gs),IB]
  ·have c:=aG c
   refine⟨_,rfl,qa,qs,rfl,hq,_,_,rfl,rfl,?_⟩
   refine cont _ ?_
   rw[dqf (by omega:¬256<LM.cnt gs),Bool.false_or,E1]
   omega
def zQ (fo:Option (Int×Int)):Option (List Int):=fo.map λ x=>[-5,x.1,x.2]
def Df (CV:EJ):Sp:=λ vs H Q _=>∃(v:EJ) (fo:Option (Int×Int)) (dv ov:V),vs=[.ref v]/\wE CV H v fo dv ov/\qK (zQ fo) H Q
theorem EG:aq ["verdict"] ["verdict"] (ah bZ):=⟨rfl,rfl,rfl,by decide +kernel,rfl,by decide +kernel,by decide +kernel⟩
theorem BF (F:Has K mg "refusal_of_cartoon" bZ ["verdict"]) (TV:VCl K mg CV):Cb P w K mg base 1 "refusal_of_cartoon" ["verdict"] (Df CV):=by
 refine F.cb EG (λ vs H Q E h=>?_) (λ f cdv A outer s H vs Q E hr h=>?_)
 ·obtain⟨v,fo,dv,ov,rfl,_⟩:=h
  rfl
 ·obtain⟨v,fo,dv,ov,rfl,⟨dx,fv,hv,hf⟩,k⟩:=h
  refine⟨_,ad (a6 (aK i6 (aR (pv 0) rfl) bc (aI _)) (ae (ak bc)) aJ)
   (ae (ak (dL (aa (lJ iZ af) (aa (aw aD (aR (pv 0) rfl) af (λ _ _=>rfl)) (aa (aw aD (aR (pv 0) rfl) af (λ _ _=>rfl)) ac)))))),?_⟩
  refine⟨_,rfl,v,CV,dx,_,_,rfl,hv,TV.cl,TV.nF,Ba,rfl,_,rfl,?_⟩
  cases fo with
  |none =>
   obtain rfl:fv=.non:=hf
   exact lF (k.none' rfl (al.refl H))
  |some x =>
   obtain⟨q,rfl,hq⟩:=hf
   refine gZ ?_ rfl
   refine⟨_,rfl,_,rfl,v,CV,dx,_,_,rfl,hv,TV.cl,TV.nF,Ba,q,_,_,_,rfl,rfl,SqT.of hq,aA (j:=0) rfl rfl,_,rfl,v,CV,dx,_,_,rfl,hv,TV.cl,TV.nF,Ba,q,_,_,_,rfl,rfl,SqT.of hq,aA (j:=1) rfl rfl,(by show 3<=EL;decide),λ p hp=>?_⟩
   exact k.some' (r:=[-5,x.1,x.2]) rfl (al.refl H) p hp
def nJ (o:Option Nat):Option (List Int):=o.map λ k=>[-3,(k:Int)]
def zF (K:FQ):Sp:=λ vs H Q _=>∃(m ga qa:EJ) (ms:List EJ) (S:Gla.Plan) (gs qs:List Int),vs=[.ref m,.ref ga,.ref qa]/\MkL H m ms S/\LI K H ga gs/\LI K H qa qs/\qK (nJ (cM gs qs S)) H Q
theorem zK:aq ["marks","glasses","paintings","k"] ["marks","glasses","paintings"] (ah cH):=⟨rfl,rfl,rfl,by decide +kernel,rfl,by decide +kernel,by decide +kernel⟩
theorem Ac (F:Has K mg "refusal_of_marks" cH ["marks","glasses","paintings"]) (C1:Cb P w K mg base 2 "first_mark_without_light" ["marks","glasses","paintings"] (CF K)):Cb P w K mg base 3 "refusal_of_marks" ["marks","glasses","paintings"] (zF K):=by
 refine F.cb zK (λ vs H Q E h=>?_) (λ f cdv A outer s H vs Q E hr h=>?_)
 ·obtain⟨m,ga,qa,ms,S,gs,qs,rfl,_⟩:=h
  rfl
 ·obtain⟨m,ga,qa,ms,S,gs,qs,rfl,hm,hg,hq,k⟩:=h
  refine⟨_,ad (aB (i:=3) zK.nd rfl (.inl rfl) (aF C1 hr (aa (pv 0) (aa (pv 1) (aa (pv 2) ac)))))
   (ad (a6 (aK i6 (pv 3) bc (aI _)) (ae (ak bc)) aJ)
   (ae (ak (dL (aa (lJ iZ af) (aa (pv 3) ac)))))),?_⟩
  refine⟨_,rfl,_,rfl,_,rfl,m,ga,qa,ms,S,gs,qs,rfl,hm,hg,hq,λ H1 s1=>?_⟩
  cases e:cM gs qs S with
  |none =>
   exact⟨_,rfl,rfl,_,rfl,lF (k.none' (by rw[e];rfl) s1)⟩
  |some i =>
   refine⟨_,rfl,rfl,_,rfl,aS (λ c=>absurd (EH c) (by intro z;cases z)) (λ _=>?_)⟩
   exact⟨_,rfl,_,rfl,(by show 2<=EL;decide),λ p hp=>k.some' (r:=[-3,(i:Int)]) (by rw[e];rfl) s1 p hp⟩
theorem An.some {r:List Int}{v:V}{H:Hp}(h:An (some r) v H):∃q,v=.ref q/\H q=some (.lst (iV r)):=h
theorem um {cs gs qs ds:List Int}(h:iX cs gs qs ds=none):Bd gs/\Bd qs/\Bd ds:=by
 unfold iX at h
 split at h
 ·cases h
 ·rename_i c
  have c:(LM.isL ds&&(LM.cv gs&&LM.cv qs))=true:=by
   cases e:(LM.isL ds&&(LM.cv gs&&LM.cv qs)) with
   |true=>rfl
   |false=>exact absurd e c
  rw[EO,EO]at c
  unfold LM.isL LM.cv at c
  rw[EO,EO,EO]at c
  exact⟨LM.gP.1 c.2.1.2,LM.gP.1 c.2.2.2,LM.gP.1 c.1.2⟩
theorem yh {ns:List Int}{m:Ir}(h:m∈(bB ns).marks):m.glass<=1000000/\m.painting<=1000000:=by
 have n2:∀p,Gla.num (toB ns) p 2<65536:=λ p=>pU _ p 2
 unfold bB HH at h
 simp only[Fx]at h
 obtain⟨i,_,rfl⟩:=h
 exact⟨by have:=n2 (Gla.HEAD+8*Gla.num (toB ns) 12 2+4*Gla.num (toB ns) 14 2+12*i+8);show Gla.num _ _ _<=_;omega,by have:=n2 (Gla.HEAD+8*Gla.num (toB ns) 12 2+4*Gla.num (toB ns) 14 2+12*i+10);show Gla.num _ _ _<=_;omega⟩
end
section
variable  {P:E8}{w:FL}{K:FQ}{mg:Str->Option Value}{base:Heap}{C CV:EJ}
def zD (K:FQ):Sp:=λ vs H Q _=>∃(ca ga qa da:EJ) (cs gs qs ds:List Int),vs=[.ref ca,.ref ga,.ref qa,.ref da]/\LI K H ca cs/\LI K H ga gs/\LI K H qa qs/\LI K H da ds/\qK (iX cs gs qs ds) H Q
theorem Dx:aq ["cartoon","glasses","paintings","daylight"] ["cartoon","glasses","paintings","daylight"] (ah dc):=⟨rfl,rfl,rfl,by decide +kernel,rfl,by decide +kernel,by decide +kernel⟩
theorem Bi (F:Has K mg "refusal_of_rows" dc ["cartoon","glasses","paintings","daylight"]) (C1:Cb P w K mg base 2 "is_light" ["row"] (zR K)) (C2:Cb P w K mg base 3 "refusal_of_shop" ["cartoon","glasses","paintings"] (wL K)) :
  Cb P w K mg base 4 "refusal_of_rows" ["cartoon","glasses","paintings","daylight"] (zD K):=by
 refine F.cb Dx (λ vs H Q E h=>?_) (λ f cdv A outer s H vs Q E hr h=>?_)
 ·obtain⟨ca,ga,qa,da,cs,gs,qs,ds,rfl,_⟩:=h
  rfl
 ·obtain⟨ca,ga,qa,da,cs,gs,qs,ds,rfl,hc,hg,hq,hd,k⟩:=h
  have hr2:bu 2 _:=hr.mono (by decide)
  refine⟨_,ad (a6 (ja (cG (aF C1 hr2 (aa (pv 3) ac)))) (ae (ak (dL (aa (lJ iZ af) ac)))) aJ)
   (ae (ak (aF C2 hr (aa (pv 0) (aa (pv 1) (aa (pv 2) ac)))))),?_⟩
  refine⟨_,rfl,da,ds,rfl,hd,_,rfl,?_⟩
  cases h1:LM.isL ds with
  |false =>
   exact eI ⟨_,rfl,(by show 1<=EL;decide),λ p hp=>k.some' (r:=[-1]) (by unfold iX;rw[h1];rfl) (al.refl H) p hp⟩
  |true =>
   have e:iX cs gs qs ds=oo cs gs qs:=by
    unfold iX oo
    rw[h1,F4]
   rw[e]at k
   refine jU ?_
   exact⟨_,rfl,_,rfl,_,rfl,ca,ga,qa,cs,gs,qs,rfl,hc,hg,hq,k⟩
end
section
variable  {P:E8}{w:FL}{K:FQ}{mg:Str->Option Value}{base:Heap}{C CV:EJ}
def jA (i:Nat)(cs gs qs ds:List Int):List Int:=match iX cs gs qs ds with
 |some r=>r
 |none=>match zQ (dj cs) with
  |some r=>r
  |none=>match (bB cs).marks[i]? with
   |none=>[-2]
   |some m=>match nJ (cM gs qs (bB cs)) with
    |some r=>r
    |none=>0 :: ((LM.thI ds (plI gs qs m)).length:Int) :: LM.thI ds (plI gs qs m)
def sX (K:FQ):Sp:=λ vs H Q _=>∃(i:Nat) (ca ga qa da:EJ) (cs gs qs ds:List Int),vs=[.int (i:Int),.ref ca,.ref ga,.ref qa,.ref da]/\LI K H ca cs/\LI K H ga gs/\LI K H qa qs/\LI K H da ds/\Byt cs/\∀(H':Hp) (p:EJ),H' p=some (.lst (iV (jA i cs gs qs ds)))->Q (.ref p) H'
theorem lf:aq ["i","cartoon","glasses","paintings","daylight","refusal","verdict","marks"] ["i","cartoon","glasses","paintings","daylight"] (ah pL):=⟨rfl,rfl,rfl,by decide +kernel,rfl,by decide +kernel,by decide +kernel⟩
theorem yH (F:Has K mg "pane" pL ["i","cartoon","glasses","paintings","daylight"]) (T:DCl K mg C) (TV:VCl K mg CV) (gl:mg "len"=none) (C1:Cb P w K mg base 4 "refusal_of_rows" ["cartoon","glasses","paintings","daylight"] (zD K)) (C2:Cb P w K mg base 7 "judge" ["cartoon"] (spJ K C CV)) (C3:Cb P w K mg base 1 "refusal_of_cartoon" ["verdict"] (Df CV)) (C4:Cb P w K mg base 3 "refusal_of_marks" ["marks","glasses","paintings"] (zF K)) (C5:Cb P w K mg base 3 "seen_light" ["mark","glasses","paintings","daylight"] (DA K)) (C6:Cb P w K mg base 1 "row_answer" ["row"] Cn) :
  Cb P w K mg base 8 "pane" ["i","cartoon","glasses","paintings","daylight"] (sX K):=by
 refine F.cb lf (λ vs H Q E h=>?_) (λ f cdv A outer s H vs Q E hr h=>?_)
 ·obtain⟨i,ca,ga,qa,da,cs,gs,qs,ds,rfl,_⟩:=h
  rfl
 ·obtain⟨i,ca,ga,qa,da,cs,gs,qs,ds,rfl,hc,hg,hq,hd,hb,k⟩:=h
  have hr1:bu 1 _:=hr.mono (by decide)
  have hr3:bu 3 _:=hr.mono (by decide)
  have hr4:bu 4 _:=hr.mono (by decide)
  refine⟨_,ad (aB (i:=5) lf.nd rfl (.inl rfl) (aF C1 hr4 (aa (pv 1) (aa (pv 2) (aa (pv 3) (aa (pv 4) ac))))))
   (ad (a6 (aK jq (pv 5) bc (aI _)) (ae (ak (pv 5))) aJ)
   (ad (aB (i:=6) lf.nd rfl (.inl rfl) (aF C2 hr (aa (pv 1) ac)))
   (ad (aB (i:=5) lf.nd rfl (.inl rfl) (aF C3 hr1 (aa (pv 6) ac)))
   (ad (a6 (aK jq (pv 5) bc (aI _)) (ae (ak (pv 5))) aJ)
   (ad (aB (i:=7) lf.nd rfl (.inl rfl) (aR (aR (pv 6) rfl) rfl))
   (ad (a6 (aK t9 (pv 0) (aW aO (by rfl) gl FB (aa (pv 7) ac)) (aI _)) (ae (ak (dL (aa (lJ iZ af) ac)))) aJ)
   (ad (aB (i:=5) lf.nd rfl (.inl rfl) (aF C4 hr3 (aa (pv 7) (aa (pv 2) (aa (pv 3) ac)))))
   (ad (a6 (aK jq (pv 5) bc (aI _)) (ae (ak (pv 5))) aJ)
   (ae (ak (aF C6 hr1 (aa (aF C5 hr3 (aa (aw aU (pv 7) (pv 0) (λ _ _=>rfl)) (aa (pv 2) (aa (pv 3) (aa (pv 4) ac))))) ac)))))))))))),?_⟩
  refine⟨_,rfl,_,rfl,_,rfl,_,rfl,ca,ga,qa,da,cs,gs,qs,ds,rfl,hc,hg,hq,hd,λ v H1 s1 l1=>?_⟩
  cases e1:iX cs gs qs ds with
  |some r =>
   rw[e1]at l1
   obtain⟨q,rfl,hq1⟩:=l1.some
   refine⟨_,rfl,rfl,_,rfl,aS (λ _=>⟨_,rfl,k H1 q ?_⟩) (λ c=>absurd (by rw[dqf (by intro z;cases z)];rfl) c)⟩
   unfold jA
   rw[e1]
   exact hq1
  |none =>
  rw[e1]at l1
  obtain rfl:v=.non:=l1
  obtain⟨bg,bq,bd⟩:=um e1
  refine⟨_,rfl,rfl,_,rfl,aS (λ c=>absurd c (by decide)) (λ _=>?_)⟩
  refine⟨_,rfl,ca,cs,rfl,hc.same s1,hb,λ H2 ve dv ov s2 hve hdr=>?_⟩
  have s2:=s1.trans s2
  refine⟨_,rfl,ve,dj cs,dv,ov,rfl,hve,λ v H3 s3 l3=>?_⟩
  cases e2:dj cs with
  |some x =>
   rw[e2]at l3
   obtain⟨q,rfl,hq1⟩:=l3.some
   refine⟨_,rfl,rfl,_,rfl,aS (λ _=>⟨_,rfl,k H3 q ?_⟩) (λ c=>absurd (by rw[dqf (by intro z;cases z)];rfl) c)⟩
   unfold jA
   rw[e1,e2]
   exact hq1
  |none =>
  rw[e2]at l3
  obtain rfl:v=.non:=l3
  obtain⟨d,rfl,hD,_⟩:=hdr e2
  have hD:=hD.same s3
  obtain⟨vx,fv,hv,_⟩:=hve
  have hv:=s3 _ _ hv
  have s3:=s2.trans s3
  have mb:=@yh cs
  have epI:∀S,bB cs=S->jA i cs gs qs ds=match S.marks[i]? with
   |none=>[-2]
   |some m=>match nJ (cM gs qs S) with
    |some r=>r
    |none=>0 :: ((LM.thI ds (plI gs qs m)).length:Int) :: LM.thI ds (plI gs qs m):=λ S hS=>by
   unfold jA
   rw[e1,e2,hS]
   rfl
  refine⟨_,rfl,rfl,_,rfl,aS (λ c=>absurd c (by decide)) (λ _=>?_)⟩
  have epI:=epI _ rfl
  generalize bB cs=S at hD mb epI
  rw[epI]at k
  obtain⟨dx,p,l,m,ps,ls,ms,o⟩:=hD.op (K:=K)
  refine⟨_,rfl,ve,CV,vx,_,_,rfl,hv,TV.cl,TV.nD,Ej,d,C,dx,_,_,rfl,o.at_,T.cl,T.nM,xr,?_⟩
  refine⟨_,rfl,_,rfl,m,_,rfl,.inl (SqL.of o.ml),_,_,rfl,rfl,_,rfl,?_⟩
  rw[lmp,o.mn]
  refine aS (λ c=>?_) (λ c=>?_)
  ·have c:=EH c
   refine⟨_,rfl,(by show 1<=EL;decide),λ q hq1=>k _ q ?_⟩
   rw[List.getElem?_eq_none (by omega)]
   exact ag
  ·have c:=aG c
   have hi:i<S.marks.length:=by omega
   rw[gge hi]at k
   have hmk:MkL H3 m ms S:=⟨o.ml,o.mn,λ i b x e1 e2=>o.ma i b x e1 e2⟩
   refine⟨_,rfl,_,rfl,_,rfl,m,ga,qa,ms,S,gs,qs,rfl,hmk,hg.same s3,hq.same s3,λ v H4 s4 l4=>?_⟩
   cases e3:nJ (cM gs qs S) with
   |some r =>
    rw[e3]at l4
    obtain⟨q,rfl,hq1⟩:=l4.some
    refine⟨_,rfl,rfl,_,rfl,aS (λ _=>⟨_,rfl,k H4 q ?_⟩) (λ c=>absurd (by rw[dqf (by intro z;cases z)];rfl) c)⟩
    dsimp only
    rw[e3]
    exact hq1
   |none =>
   rw[e3]at l4
   obtain rfl:v=.non:=l4
   have s4':=s3.trans s4
   obtain⟨b,hbm⟩:=o.hasM hi
   have hrow:SqT K H4 b (iV (km S.marks[i])):=SqT.of (s4 _ _ (o.ma i b _ hbm (gge hi)))
   obtain⟨mb1,mb2⟩:=mb (Fm hi)
   refine⟨_,rfl,rfl,_,rfl,aS (λ c=>absurd c (by decide)) (λ _=>?_)⟩
   refine⟨_,rfl,_,rfl,m,_,_,_,rfl,rfl,SqL.of (s4 _ _ o.ml),aA (j:=i) rfl (aP hbm),_,rfl,_,rfl,_,rfl,b,ga,qa,da,S.marks[i],gs,qs,ds,rfl,hrow,hg.same s4',hq.same s4',hd.same s4',bg,bq,bd,mb1,mb2,λ H5 r s5 hr5=>?_⟩
   have tl:=xu ds (plI gs qs S.marks[i])
   have dl:=hd.2
   refine⟨r,_,rfl,hr5,by omega,λ H6 q s6 hq6=>k H6 q ?_⟩
   dsimp only
   rw[e3]
   exact hq6
end
open PySem PySem.Spec PyProof.Rows L2 Wg Wx CM
open Gla (Pt)
section
variable  {S:Gla.Plan}
def fp (e:Gla.Fault):Int×Int:=((e.rule:Int),(e.place:Int))
theorem tT (r:Nat)(i:Nat):fp ⟨r,Gla.ptPlace i⟩=((r:Int),kM i):=by
 unfold fp Gla.ptPlace Gla.HEAD kM
 simp
theorem zV (S:Gla.Plan)(r:Nat)(i:Nat):fp ⟨r,Gla.linePlace S i⟩=((r:Int),pR S i):=by
 unfold fp Gla.linePlace Gla.HEAD pR
 simp
theorem vZ (S:Gla.Plan)(r:Nat)(i:Nat):fp ⟨r,Gla.markPlace S i⟩=((r:Int),mO S i):=by
 unfold fp Gla.markPlace Gla.HEAD mO
 simp
theorem rP (S:Gla.Plan):S.fault.map fp=kR (bN S) (eD S):=by
 unfold Gla.Plan.fault bN
 cases h4:FX (ok4 S) Pt.below S.pts with
 |some i =>
  have e:o4 S=some (4,kM i):=by unfold o4;rw[h4];rfl
  have h4':FX (λ(p:Pt)=>decide (p.x<=S.w)&&decide (p.y<=S.h)) Pt.below S.pts=some i:=h4
  rw[h4',e]
  exact Gy some (tT 4 i)
 |none =>
 have e4:o4 S=none:=by unfold o4;rw[h4];rfl
 have h4':FX (λ(p:Pt)=>decide (p.x<=S.w)&&decide (p.y<=S.h)) Pt.below S.pts=none:=h4
 rw[h4',e4]
 dsimp only
 cases h5:FX (ok5 S) F5 S.lines with
 |some i =>
  have e:o5 S=some (5,pR S i):=by unfold o5;rw[h5];rfl
  have h5':FX (λ(l:Nat×Nat)=>decide (l.1<l.2)&&decide (l.2<S.pts.length)) F5 S.lines=some i:=h5
  rw[h5',e]
  exact Gy some (zV S 5 i)
 |none =>
 have e5:o5 S=none:=by unfold o5;rw[h5];rfl
 have h5':FX (λ(l:Nat×Nat)=>decide (l.1<l.2)&&decide (l.2<S.pts.length)) F5 S.lines=none:=h5
 rw[h5',e5]
 dsimp only
 cases h6:Ix S with
 |false =>
  have e:o6 S=some (6,20):=by unfold o6;rw[h6];rfl
  rw[EU rfl,e]
  rfl
 |true =>
 have e6:o6 S=none:=by unfold o6;rw[h6];rfl
 rw[EM (by decide),e6]
 cases h7:Gla.firstAt (HW S) S.lines with
 |some i =>
  have e:o7 S=some (7,pR S i):=by unfold o7;rw[h7];rfl
  rw[e]
  exact Gy some (zV S 7 i)
 |none =>
 have e7:o7 S=none:=by unfold o7;rw[h7];rfl
 rw[e7]
 dsimp only
 cases h8:(Fe S.pts.length).find? λ(i:Nat)=>decide ((S.near i).length<2) with
 |some i =>
  have e:o8 S=some (8,kM i):=by unfold o8;rw[h8];rfl
  rw[e]
  exact Gy some (tT 8 i)
 |none =>
 have e8:o8 S=none:=by unfold o8;rw[h8];rfl
 rw[e8]
 dsimp only
 cases h9:(Fe S.pts.length).find? λ(i:Nat)=>!((lH S).getD i false) with
 |some i =>
  have e:o9 S=some (9,kM i):=by unfold o9;rw[h9];rfl
  have h9':((Fe S.pts.length).find? λ(i:Nat)=>!((HX S.nears S.pts.length 0 (IC S.pts.length)).getD i false))=some i:=h9
  rw[h9',e]
  exact Gy some (tT 9 i)
 |none =>
 have e9:o9 S=none:=by unfold o9;rw[h9];rfl
 have h9':((Fe S.pts.length).find? λ(i:Nat)=>!((HX S.nears S.pts.length 0 (IC S.pts.length)).getD i false))=none:=h9
 rw[h9',e9]
 dsimp only
 cases h10:(Fe S.pts.length).find? (Gla.cuts S.nears S.pts.length) with
 |some i =>
  have e:o10 S=some (10,kM i):=by unfold o10;rw[h10];rfl
  rw[e]
  exact Gy some (tT 10 i)
 |none =>
 have e10:o10 S=none:=by unfold o10;rw[h10];rfl
 rw[e10]
 dsimp only
 cases h11:FX (Hh S) GB S.marks with
 |some i =>
  have e:o11 S=some (11,mO S i):=by unfold o11;rw[h11];rfl
  rw[e]
  exact Gy some (vZ S 11 i)
 |none =>
 have e11:o11 S=none:=by unfold o11;rw[h11];rfl
 rw[e11]
 dsimp only
 unfold eD
 cases h12:Gla.twice S S.outlines 0 [] S.marks with
 |some i =>
  have e:o12 S=some (12,mO S i):=by unfold o12;rw[h12];rfl
  rw[e]
  exact Gy some (vZ S 12 i)
 |none =>
 have e12:o12 S=none:=by unfold o12;rw[h12];rfl
 rw[e12]
 dsimp only
 show _=o13 S
 unfold o13
 by_cases c:S.marks.length<S.outlines.length
 ·rw[EU c,EU c]
  exact Gy some (vZ S 13 S.marks.length)
 ·rw[EM c,EM c]
  rfl
end
theorem uV {cs:List Int}(hb:Byt cs):Gla.judgePlan (toB cs)=match dj cs with
  |none=>.ok (bB cs)
  |some _=>Gla.judgePlan (toB cs):=by
 cases e:dj cs with
 |some x=>rfl
 |none =>
  unfold dj at e
  obtain⟨e1,e2⟩:=d7 e
  rw[<-rP]at e2
  rw[jp hb]at e1
  have h1:fX (toB cs)=none:=by
   cases q:fX (toB cs) with
   |none=>rfl
   |some x=>rw[q]at e1;cases e1
  have h2:(HH (toB cs)).fault=none:=by
   cases q:(HH (toB cs)).fault with
   |none=>rfl
   |some x =>
    have e2:(HH (toB cs)).fault.map fp=none:=e2
    rw[q]at e2
    cases e2
  rw[mT,h1,h2]
  rfl
theorem vb {cs:List Int}(hb:Byt cs){x:Int×Int}(e:dj cs=some x):∃ft,Gla.judgePlan (toB cs)=.error ft/\fp ft=x:=by
 unfold dj at e
 cases h1:fX (toB cs) with
 |some ft =>
  have e1:dO cs=some (fp ft):=by rw[jp hb,h1];rfl
  rw[e1]at e
  refine⟨ft,?_,osi e⟩
  rw[mT,h1]
 |none =>
  have e1:dO cs=none:=by rw[jp hb,h1];rfl
  rw[e1]at e
  have e:kR (bN (bB cs)) (eD (bB cs))=some x:=e
  rw[<-rP]at e
  have e:(HH (toB cs)).fault.map fp=some x:=e
  cases h2:(HH (toB cs)).fault with
  |none=>rw[h2]at e;cases e
  |some ft =>
   rw[h2]at e
   refine⟨ft,?_,osi e⟩
   rw[mT,h1,h2]
theorem xW {cs:List Int}(hb:Byt cs):LightNeutral.bytes cs=some (toB cs):=by
 unfold LightNeutral.bytes
 have e:NeutralIO.bytes cs=true:=by
  unfold NeutralIO.bytes
  rw[FS]
  intro z hz
  have:=hb z hz
  simp only[EO,ET]
  omega
 rw[EU e]
 rfl
theorem rg {gs qs:List Int}(hm:gs.length % 32=0)(hm2:qs.length % 32=0):GlaLits.many ⟨LM.aX gs,LM.aX qs⟩=(decide (256<LM.cnt gs)||decide (256<LM.cnt qs)):=by
 unfold GlaLits.many
 simp only[LM.ef hm,LM.ef hm2,lmp,F2]
 rfl
theorem wA {gs qs:List Int}(bg:Bd gs)(bq:Bd qs)(hm:gs.length % 32=0)(hm2:qs.length % 32=0){m:Ir}(h1:m.glass<LM.cnt gs)(h2:m.painting<=LM.cnt qs):Gla.lightOf ⟨LM.aX gs,LM.aX qs⟩ m=(plI gs qs m).map Gp:=by
 unfold Gla.lightOf plI
 dsimp only
 rw[LM.rN hm h1]
 by_cases c:m.painting=0
 ·rw[EU c,EU c]
 ·rw[EM c,EM c,LM.rN hm2 (by omega),LM.ow (λ x hx=>((bg.lat _) x hx).1) (λ x hx=>((bq.lat _) x hx).1)]
theorem uW {i:Nat}{cs gs qs ds:List Int}(hb:Byt cs)(hg:∀x∈gs,0<=x)(hq:∀x∈qs,0<=x)(hd:∀x∈ds,0<=x):PyYqglfa.pane (i:Int) cs gs qs ds=LightNeutral.told (GlaLits.answer (.pane (toB cs) ⟨LM.aX gs,LM.aX qs⟩ i (ds.map Gp))):=by
 have e:LightNeutral.callOf [[1,(i:Int)],cs,gs,qs,ds]=some (.pane (toB cs) ⟨LM.aX gs,LM.aX qs⟩ i (ds.map Gp)):=by
  show(do some (GlaLits.Call.pane (<-LightNeutral.bytes cs) (<-LightNeutral.shop gs qs) (<-HE (i:Int)) (<-ds.mapM HE)))=_
  unfold LightNeutral.shop
  rw[xW hb,LM.kE _ hg,LM.kE _ hq,LM.nu hd]
  unfold HE
  rw[EM (by omega),F0]
  rfl
 unfold PyYqglfa.pane LightNeutral.f
 rw[e]
theorem ym {i:Nat}{cs gs qs ds:List Int}(hb:Byt cs)(hg:∀x∈gs,0<=x)(hq:∀x∈qs,0<=x)(hd:∀x∈ds,0<=x):jA i cs gs qs ds=PyYqglfa.pane (i:Int) cs gs qs ds:=by
 rw[uW hb hg hq hd]
 have hask:GlaLits.asked (.pane (toB cs) ⟨LM.aX gs,LM.aX qs⟩ i (ds.map Gp))=((LM.cv gs&&LM.cv qs)&&LM.isL ds):=by
  show(GlaLits.shopOk _&&Gla.lightOk _)=_
  unfold GlaLits.shopOk
  rw[LM.uk hg,LM.uk hq,LM.nT hd]
 unfold GlaLits.answer
 rw[hask]
 cases e1:iX cs gs qs ds with
 |some r =>
  have ep:jA i cs gs qs ds=r:=by unfold jA;rw[e1]
  rw[ep]
  unfold iX at e1
  by_cases c:(LM.isL ds&&(LM.cv gs&&LM.cv qs))=false
  ·rw[EU c]at e1
   rw[EU (by rw[Bool.and_comm];exact c),<-osi e1]
   rfl
  ·rw[EM c]at e1
   rw[EM (by rw[Bool.and_comm];exact c)]
   by_cases c2:(decide (131072<cs.length)||(decide (256<LM.cnt gs)||decide (256<LM.cnt qs)))=true
   ·rw[EU c2]at e1
    have c:(LM.isL ds&&(LM.cv gs&&LM.cv qs))=true:=by
     cases q:(LM.isL ds&&(LM.cv gs&&LM.cv qs)) with
     |true=>rfl
     |false=>exact absurd q c
    rw[EO,EO]at c
    show r=LightNeutral.told (GlaLits.ofPlan _ _ _)
    unfold GlaLits.ofPlan
    rw[EU ?_,<-osi e1]
    ·rfl
    ·rw[rg (LM.kh c.2.1) (LM.kh c.2.2)]
     have hl:(toB cs).length=cs.length:=by unfold toB;rw[lmp]
     rw[hl]
     rw[GK,ET]at c2
     exact c2
   ·rw[EM c2]at e1
    cases e1
 |none =>
  obtain⟨bg,bq,bd⟩:=um e1
  have c:(LM.isL ds&&(LM.cv gs&&LM.cv qs))=true/\¬(decide (131072<cs.length)||(decide (256<LM.cnt gs)||decide (256<LM.cnt qs)))=true:=by
   unfold iX at e1
   split at e1
   ·cases e1
   ·rename_i q
    split at e1
    ·cases e1
    ·rename_i q2
     refine⟨?_,q2⟩
     cases z:(LM.isL ds&&(LM.cv gs&&LM.cv qs)) with
     |true=>rfl
     |false=>exact absurd z q
  obtain⟨c,c2⟩:=c
  rw[EM (by rw[Bool.and_comm,c];decide)]
  rw[EO,EO]at c
  have m1:=LM.kh c.2.1
  have m2:=LM.kh c.2.2
  show _=LightNeutral.told (GlaLits.ofPlan _ _ _)
  unfold GlaLits.ofPlan
  rw[EM ?_]
  ·cases e2:dj cs with
   |some x =>
    obtain⟨ft,hj,hx⟩:=vb hb e2
    rw[hj]
    unfold jA
    rw[e1,e2,<-hx]
    rfl
   |none =>
    have hj:=uV hb
    rw[e2]at hj
    have hj:Gla.judgePlan (toB cs)=.ok (bB cs):=hj
    rw[hj]
    unfold jA
    rw[e1,e2]
    generalize bB cs=S
    show(match S.marks[i]? with
     |none=>[-2]
     |some m=>match nJ (cM gs qs S) with
      |some r=>r
      |none=>0 :: ((LM.thI ds (plI gs qs m)).length:Int) :: LM.thI ds (plI gs qs m))=LightNeutral.told (match S.marks[i]? with
     |none=>GlaLits.NO
     |some m=>GlaLits.withShop ⟨LM.aX gs,LM.aX qs⟩ S (.row (Gla.seenOf ⟨LM.aX gs,LM.aX qs⟩ (ds.map Gp) m)))
    cases hm:S.marks[i]? with
    |none=>rfl
    |some m =>
     dsimp only
     have hst:Gla.strange ⟨LM.aX gs,LM.aX qs⟩ S=cM gs qs S:=by
      unfold Gla.strange cM Gla.goesWith
      simp only[LM.ef m1,LM.ef m2,lmp,F2]
     unfold GlaLits.withShop
     rw[hst]
     cases hs:cM gs qs S with
     |some kx=>rfl
     |none =>
      obtain⟨hi,hmi⟩:=gsi hm
      have hno:=WL.fB hs i hi
      rw[hmi]at hno
      have hno:(decide (m.glass<LM.cnt gs)&&decide (m.painting<=LM.cnt qs))=true:=by
       cases q:(decide (m.glass<LM.cnt gs)&&decide (m.painting<=LM.cnt qs)) with
       |true=>rfl
       |false=>rw[q]at hno;cases hno
      rw[EO,ET,ET]at hno
      show 0 :: _=0 :: LightNeutral.rowN (LightNeutral.ints (Gla.seenOf _ _ m))
      unfold Gla.seenOf
      rw[wA bg bq m1 m2 hno.1 hno.2,<-LM.ow (λ x hx=>(bd x hx).1) (λ x hx=>((wQ bg bq m) x hx).1)]
      have hnn:=(bd.th (wQ bg bq m))
      have ei:LightNeutral.ints ((LM.thI ds (plI gs qs m)).map Gp)=LM.thI ds (plI gs qs m):=LM.ir (λ x hx=>(hnn x hx).1)
      rw[ei]
      rfl
  ·rw[rg m1 m2]
   have hl:(toB cs).length=cs.length:=by unfold toB;rw[lmp]
   rw[hl]
   rw[GK,ET]at c2
   exact c2
open PySem PySem.Spec PyProof.Rows L2 Wg Wx CM
open Gla (Pt)
end Wl
open PySem PySem.W PyProof.Rows
theorem Wl.ji {lo hi:Int}{n m:Nat}{l:List Int}(h:(Codec.inLen n m l&&l.all (Iy lo hi))=true):l.length<=m/\∀x∈l,lo<=x/\x<=hi:=by
 rw[EO]at h
 refine⟨(Codec.inNat_iff.mp h.1).2,λ x hx=>?_⟩
 have q:=FS.mp h.2 x hx
 unfold Iy at q
 rw[EO,ET,ET]at q
 exact q
theorem Wl.zj {K:FQ}{mg:Str->Option Value}{h:Heap}{x:Str}{p:EJ}{od:Option EJ}{its:Array Value}{n:Nat}{osl:Array (Option Value)}{r:List Int}(X:K.In h)(G:h.Ns FI mg)(a:PySem.W.nsIn K FI x=some (some (.ref p)))
  (l:K.lookup p=some ⟨.type "tuple",od,.seq its n,osl⟩) (v:L2.aT (Wg.iV r) its.toList) (z:its.size<=EL):Wl.Ab K mg x r:=⟨p,PySem.W.mg_of X G a,λ H=>.inr ⟨_,its,n,l,rfl,rfl,z,v⟩⟩
def Wl.me (K:FQ)(b:EJ)(r:List Int):Prop:=∀H:L2.Hp,L2.SqT K H b (Wg.iV r)
theorem Wl.lc {K:FQ}{p:EJ}{od:Option EJ}{its:Array Value}{n:Nat}{osl:Array (Option Value)}{r:List Int} (l:K.lookup p=some ⟨.type "tuple",od,.seq its n,osl⟩) (v:L2.aT (Wg.iV r) its.toList) (z:its.size<=EL):Wl.me K p r:=λ H=>.inr ⟨_,its,n,l,rfl,rfl,z,v⟩
theorem Wl.xi {K:FQ}{mg:Str->Option Value}{h:Heap}{x:Str}{p b1 b2 b3 b4 b5 b6:EJ}{od:Option EJ}{n:Nat}{osl:Array (Option Value)}{r1 r2 r3 r4 r5 r6:List Int}(X:K.In h)(G:h.Ns FI mg)(a:PySem.W.nsIn K FI x=some (some (.ref p)))
  (l:K.lookup p=some ⟨.type "tuple",od,.seq #[.ref b1,.ref b2,.ref b3,.ref b4,.ref b5,.ref b6] n,osl⟩) (h1:Wl.me K b1 r1) (h2:Wl.me K b2 r2) (h3:Wl.me K b3 r3) (h4:Wl.me K b4 r4) (h5:Wl.me K b5 r5) (h6:Wl.me K b6 r6):Wl.xR K mg x [r1,r2,r3,r4,r5,r6]:=by
 refine⟨p,[b1,b2,b3,b4,b5,b6],PySem.W.mg_of X G a,rfl,λ H=>.inr ⟨_,_,n,l,rfl,rfl,(by show 6<=EL;decide),.cons rfl (.cons rfl (.cons rfl (.cons rfl (.cons rfl (.cons rfl .nil)))))⟩,λ H i b r e1 e2=>?_⟩
 have hi:i<6:=(gsi e1).1
 rcases(by omega:i=0\/i=1\/i=2\/i=3\/i=4\/i=5) with rfl|rfl|rfl|rfl|rfl|rfl
 ·cases osi e1;cases osi e2;exact h1 H
 ·cases osi e1;cases osi e2;exact h2 H
 ·cases osi e1;cases osi e2;exact h3 H
 ·cases osi e1;cases osi e2;exact h4 H
 ·cases osi e1;cases osi e2;exact h5 H
 ·cases osi e1;cases osi e2;exact h6 H
theorem Wl.wP {P:E8}{w:FL}{K:FQ}{mg:Str->Option Value}{base:Heap}{C CV:EJ}(T:Wl.DCl K mg C)(TV:Wl.VCl K mg CV)
  (g_HEAD_BYTES:∃t,mg "HEAD_BYTES"=some (.int 20 t)) (g_POINT_BYTES:∃t,mg "POINT_BYTES"=some (.int 8 t)) (g_LINE_BYTES:∃t,mg "LINE_BYTES"=some (.int 4 t)) (g_MARK_BYTES:∃t,mg "MARK_BYTES"=some (.int 12 t)) (g_MOST_LIGHTS:∃t,mg "MOST_LIGHTS"=some (.int 256 t)) (g_MOST_BYTES:∃t,mg "MOST_BYTES"=some (.int 131072 t)) (g_BANDS:∃t,mg "BANDS"=some (.int 32 t)) (g_FULL:∃t,mg "FULL"=some (.int 65535 t))
  (n_len:mg "len"=none) (n_range:mg "range"=none) (n_enumerate:mg "enumerate"=none) (n_list:mg "list"=none) (n_reversed:mg "reversed"=none) (n_min:mg "min"=none) (n_max:mg "max"=none) (n_zip:mg "zip"=none)
  (gS:Wl.Ab K mg "SIGN" CM.jL) (gH:Wl.xR K mg "HEAD_NUMBERS" CM.fg)
  (I1:Wg.qc K C "Drawing.__init__" Wl.d4 ["self","width","height","points","lines","marks"]) (I2:Wg.qc K CV "Verdict.__init__" Wl.eF ["self","fault","drawing","outlines"])
  (M1:Wg.jF K C "place_of_point" "Drawing.place_of_point" Wl.fT ["self","k"]) (M2:Wg.jF K C "place_of_line" "Drawing.place_of_line" Wl.gb ["self","k"]) (M3:Wg.jF K C "place_of_mark" "Drawing.place_of_mark" Wl.fQ ["self","k"]) (M4:Wg.jF K C "place_of_end" "Drawing.place_of_end" Wl.fO ["self"])
  (F_number_at:Wg.Has K mg "number_at" Wl.gx ["cartoon","place","size"])
  (F_told_length:Wg.Has K mg "told_length" Wl.eV ["cartoon"])
  (F_fault_of_bytes:Wg.Has K mg "fault_of_bytes" Wl.dD ["cartoon"])
  (F_read_point:Wg.Has K mg "read_point" Wl.fI ["cartoon","place"])
  (F_read_line:Wg.Has K mg "read_line" Wl.gw ["cartoon","place"])
  (F_read_mark:Wg.Has K mg "read_mark" Wl.gp ["cartoon","place"])
  (F_read_drawing:Wg.Has K mg "read_drawing" Wl.bT ["cartoon"])
  (F_turn:Wg.Has K mg "turn" Wl.qm ["p","q","r"])
  (F_comes_behind:Wg.Has K mg "comes_behind" Wl.er ["q","p"])
  (F_is_in_box:Wg.Has K mg "is_in_box" Wl.gh ["p","q","r"])
  (F_is_on:Wg.Has K mg "is_on" Wl.lZ ["p","q","r"])
  (F_are_parted:Wg.Has K mg "are_parted" Wl.fG ["p","q","r","s"])
  (F_do_cross:Wg.Has K mg "do_cross" Wl.ij ["p","q","r","s"])
  (F_twice_area:Wg.Has K mg "twice_area" Wl.fz ["corners"])
  (F_is_left_beside:Wg.Has K mg "is_left_beside" Wl.dw ["p","q","r"])
  (F_is_inside:Wg.Has K mg "is_inside" Wl.gt ["corners","r"])
  (F_fault_of_points:Wg.Has K mg "fault_of_points" Wl.cY ["drawing"])
  (F_fault_of_lines:Wg.Has K mg "fault_of_lines" Wl.dz ["drawing"])
  (F_are_joined_in_a_row:Wg.Has K mg "are_joined_in_a_row" Wl.bV ["numbers","lines"])
  (F_fault_of_frame:Wg.Has K mg "fault_of_frame" Wl.bf ["drawing"])
  (F_has_point_on_it:Wg.Has K mg "has_point_on_it" Wl.cU ["drawing","line"])
  (F_crosses_one_before:Wg.Has K mg "crosses_one_before" Wl.cg ["drawing","k"])
  (F_fault_of_crossings:Wg.Has K mg "fault_of_crossings" Wl.b8 ["drawing"])
  (F_neighbours_of:Wg.Has K mg "neighbours_of" Wl.cO ["drawing"])
  (F_reached_from:Wg.Has K mg "reached_from" Wl.df ["start","neighbours","left_out"])
  (F_fault_of_ends:Wg.Has K mg "fault_of_ends" Wl.d3 ["drawing","neighbours"])
  (F_fault_of_ways:Wg.Has K mg "fault_of_ways" Wl.dZ ["drawing","neighbours"])
  (F_fault_of_narrows:Wg.Has K mg "fault_of_narrows" Wl.cB ["drawing","neighbours"])
  (F_is_within_frame:Wg.Has K mg "is_within_frame" Wl.de ["drawing","mark"])
  (F_is_on_some_line:Wg.Has K mg "is_on_some_line" Wl.cV ["drawing","mark"])
  (F_fault_of_marks:Wg.Has K mg "fault_of_marks" Wl.dJ ["drawing"])
  (F_fault_of_drawing:Wg.Has K mg "fault_of_drawing" Wl.cC ["drawing"])
  (F_sorted_by_turn:Wg.Has K mg "sorted_by_turn" Wl.du ["points","middle","ends"])
  (F_ring_round:Wg.Has K mg "ring_round" Wl.dC ["points","middle","ends"])
  (F_walk_round:Wg.Has K mg "walk_round" Wl.fJ ["rings","first","second"])
  (F_points_at:Wg.Has K mg "points_at" Wl.eW ["points","corners"])
  (F_outlines_of:Wg.Has K mg "outlines_of" Wl.dR ["drawing"])
  (F_holder_of:Wg.Has K mg "holder_of" Wl.gk ["mark","shapes"])
  (F_judge_marks:Wg.Has K mg "judge_marks" Wl.cP ["drawing","outlines"])
  (F_judge:Wg.Has K mg "judge" Wl.lX ["cartoon"])
  (F_are_within:Wg.Has K mg "are_within" Wl.fu ["row","least","greatest"])
  (F_is_light:Wg.Has K mg "is_light" Wl.ig ["row"])
  (F_are_lights:Wg.Has K mg "are_lights" Wl.fk ["row"])
  (F_how_many_lights:Wg.Has K mg "how_many_lights" Wl.cZ ["row"])
  (F_light_at:Wg.Has K mg "light_at" Wl.ii ["row","k"])
  (F_light_through:Wg.Has K mg "light_through" Wl.cK ["one","other"])
  (F_first_mark_without_light:Wg.Has K mg "first_mark_without_light" Wl.bo ["marks","glasses","paintings"])
  (F_pane_light:Wg.Has K mg "pane_light" Wl.fD ["mark","glasses","paintings"])
  (F_seen_light:Wg.Has K mg "seen_light" Wl.fH ["mark","glasses","paintings","daylight"])
  (F_refusal_of_shop:Wg.Has K mg "refusal_of_shop" Wl.cX ["cartoon","glasses","paintings"])
  (F_refusal_of_rows:Wg.Has K mg "refusal_of_rows" Wl.dc ["cartoon","glasses","paintings","daylight"])
  (F_refusal_of_cartoon:Wg.Has K mg "refusal_of_cartoon" Wl.bZ ["verdict"])
  (F_refusal_of_marks:Wg.Has K mg "refusal_of_marks" Wl.cH ["marks","glasses","paintings"])
  (F_row_answer:Wg.Has K mg "row_answer" Wl.fw ["row"])
  (F_pane:Wg.Has K mg "pane" Wl.pL ["i","cartoon","glasses","paintings","daylight"]) :
  Wg.Cb P w K mg base 8 "pane" ["i","cartoon","glasses","paintings","daylight"] (Wl.sX K):=by
 have m1:=Wl.BX (P:=P) (w:=w) (base:=base) M1 g_HEAD_BYTES g_POINT_BYTES
 have m2:=Wl.De M2 T n_len g_LINE_BYTES m1
 have m3:=Wl.Db M3 T n_len g_MARK_BYTES m2
 have m4:=Wl.BA M4 T n_len m3
 have i1:=Wl.yY (P:=P) (w:=w) (base:=base) I1 T
 have i2:=Wl.Bj (P:=P) (w:=w) (base:=base) I2 TV
 have num:=Wl.AB (P:=P) (w:=w) (base:=base) F_number_at n_reversed
 have told:=Wl.yM F_told_length g_HEAD_BYTES g_POINT_BYTES g_LINE_BYTES g_MARK_BYTES num
 have fb:=Wl.Cs F_fault_of_bytes n_len n_list g_HEAD_BYTES gS gH num told
 have rp:=Wl.Dv F_read_point num
 have rl:=Wl.Dd F_read_line num
 have rm:=Wl.BB F_read_mark rp rl
 have rd:=Wl.CG F_read_drawing T n_len n_range g_HEAD_BYTES g_POINT_BYTES g_LINE_BYTES g_MARK_BYTES num rp rl rm i1
 have turn:=Wl.zf (P:=P) (w:=w) (base:=base) F_turn
 have beh:=Wl.Cl (P:=P) (w:=w) (base:=base) F_comes_behind
 have box:=Wl.Ar (P:=P) (w:=w) (base:=base) F_is_in_box n_min n_max
 have on_:=Wl.B6 F_is_on turn box
 have part:=Wl.yf F_are_parted turn
 have cross:=Wl.wW F_do_cross part
 have area:=Wl.y4 (P:=P) (w:=w) (base:=base) F_twice_area
 have bes:=Wl.AM F_is_left_beside turn
 have ins:=Wl.CJ F_is_inside bes
 have f4:=Wl.BS F_fault_of_points T n_enumerate m1 beh
 have f5:=Wl.CO F_fault_of_lines T n_enumerate n_len m2
 have jr:=Wl.B7 (P:=P) (w:=w) (base:=base) F_are_joined_in_a_row n_range n_len
 have f6:=Wl.BZ F_fault_of_frame T n_enumerate n_list m1 jr
 have ho:=Wl.DE F_has_point_on_it T n_range on_
 have xo:=Wl.CC F_crosses_one_before T n_range cross
 have f7:=Wl.BV F_fault_of_crossings T n_enumerate ho xo m2
 have nb:=Wl.B8 (P:=P) (w:=w) (base:=base) F_neighbours_of T
 have rf:=Wl.CU (P:=P) (w:=w) (base:=base) F_reached_from n_len
 have f8:=Wl.B0 F_fault_of_ends T n_enumerate n_len m1
 have f9:=Wl.BM F_fault_of_ways T n_enumerate m1 rf
 have f10:=Wl.AK F_fault_of_narrows T n_range n_len m1 rf
 have wf:=Wl.Ch (P:=P) (w:=w) (base:=base) F_is_within_frame T
 have ol:=Wl.DM F_is_on_some_line T on_
 have f11:=Wl.Bo F_fault_of_marks T n_enumerate m3 beh wf ol
 have fd:=Wl.Cw F_fault_of_drawing f4 f5 f6 f7 nb f8 f9 f10 f11
 have st:=Wl.DH F_sorted_by_turn n_len turn
 have rr:=Wl.Cd F_ring_round st
 have wr:=Wl.BU (P:=P) (w:=w) (base:=base) F_walk_round
 have pa:=Wl.Dn (P:=P) (w:=w) (base:=base) F_points_at
 have out:=Wl.AG F_outlines_of T n_enumerate nb rr wr area pa
 have hold:=Wl.yi F_holder_of n_enumerate ins
 have jm:=Wl.BK F_judge_marks T TV n_enumerate n_len i2 pa hold m3 m4
 have j:=Wl.D0 F_judge TV i2 fb rd fd out jm
 have wit:=Wl.AQ (P:=P) (w:=w) (base:=base) F_are_within
 have isl:=Wl.Ag F_is_light g_BANDS n_len g_FULL wit
 have arel:=Wl.yz F_are_lights g_BANDS n_len g_FULL wit
 have cnt:=Wl.AJ (P:=P) (w:=w) (base:=base) F_how_many_lights g_BANDS n_len
 have lat:=Wl.zY (P:=P) (w:=w) (base:=base) F_light_at g_BANDS
 have thr:=Wl.AF (P:=P) (w:=w) (base:=base) F_light_through g_FULL n_zip
 have fm:=Wl.CK F_first_mark_without_light n_enumerate cnt
 have pn:=Wl.Dz F_pane_light lat thr
 have sn:=Wl.Ca F_seen_light pn thr
 have ra:=Wl.Dq (P:=P) (w:=w) (base:=base) F_row_answer n_len
 have sh:=Wl.zt F_refusal_of_shop n_len g_MOST_LIGHTS g_MOST_BYTES arel cnt
 have r1:=Wl.Bi F_refusal_of_rows isl sh
 have rc:=Wl.BF (P:=P) (w:=w) (base:=base) F_refusal_of_cartoon TV
 have rm1:=Wl.Ac F_refusal_of_marks fm
 exact Wl.yH F_pane T TV n_len r1 j rc rm1 sn ra
theorem Wl.yJ {K:FQ}{mg:Str->Option Value}{h:Heap}{C:EJ}{f0:EJ}{od0 an0:Option EJ}{sl0:Array (Option Value)}{oc0 kV0 dc0 pm0 cd0 ct0:Value}{f1:EJ}{od1 an1:Option EJ}{sl1:Array (Option Value)}{oc1 kV1 dc1 pm1 cd1 ct1:Value}{f2:EJ}{od2 an2:Option EJ}{sl2:Array (Option Value)}{oc2 kV2 dc2 pm2 cd2 ct2:Value}{f3:EJ}{od3 an3:Option EJ}{sl3:Array (Option Value)}{oc3 kV3 dc3 pm3 cd3 ct3:Value}{f4:EJ}{od4 an4:Option EJ}{sl4:Array (Option Value)}{oc4 kV4 dc4 pm4 cd4 ct4:Value}(X:K.In h)(G:h.Ns FI mg)
  (aC:PySem.W.nsIn K FI "Drawing"=some (some (.ref C)))
  (pg:HC K C Str.empty=true) (hd:Ie K C=true) (po:PySem.W.plainOver K C=true) (sa:Fn K (.ref C) "__setattr__"=some (some (.builtin "object.__setattr__"))) (mk:PySem.W.makesIn K C=true) (kc:FK K (.ref C)=true)
  (n0:Fn K (.ref C) "width"=some none)
  (n1:Fn K (.ref C) "height"=some none)
  (n2:Fn K (.ref C) "points"=some none)
  (n3:Fn K (.ref C) "lines"=some none)
  (n4:Fn K (.ref C) "marks"=some none)
  (a0:Fn K (.ref C) "__init__"=some (some (.ref f0))) (i0:GX K (.ref f0)=true) (l0:K.lookup f0=some ⟨oc0,od0,.func (F7 "__init__" "Drawing.__init__" (L2.cI Wl.d4) (L2.bP Wl.d4) (L2.ah Wl.d4) .none kV0 dc0 pm0 an0 cd0 ct0),sl0⟩) (c0:Gn K cd0 "Drawing.__init__"=true) (k0:FK K (.ref f0)=true)
  (a1:Fn K (.ref C) "place_of_point"=some (some (.ref f1))) (i1:GX K (.ref f1)=true) (l1:K.lookup f1=some ⟨oc1,od1,.func (F7 "place_of_point" "Drawing.place_of_point" (L2.cI Wl.fT) (L2.bP Wl.fT) (L2.ah Wl.fT) .none kV1 dc1 pm1 an1 cd1 ct1),sl1⟩) (c1:Gn K cd1 "Drawing.place_of_point"=true) (k1:FK K (.ref f1)=true)
  (a2:Fn K (.ref C) "place_of_line"=some (some (.ref f2))) (i2:GX K (.ref f2)=true) (l2:K.lookup f2=some ⟨oc2,od2,.func (F7 "place_of_line" "Drawing.place_of_line" (L2.cI Wl.gb) (L2.bP Wl.gb) (L2.ah Wl.gb) .none kV2 dc2 pm2 an2 cd2 ct2),sl2⟩) (c2:Gn K cd2 "Drawing.place_of_line"=true) (k2:FK K (.ref f2)=true)
  (a3:Fn K (.ref C) "place_of_mark"=some (some (.ref f3))) (i3:GX K (.ref f3)=true) (l3:K.lookup f3=some ⟨oc3,od3,.func (F7 "place_of_mark" "Drawing.place_of_mark" (L2.cI Wl.fQ) (L2.bP Wl.fQ) (L2.ah Wl.fQ) .none kV3 dc3 pm3 an3 cd3 ct3),sl3⟩) (c3:Gn K cd3 "Drawing.place_of_mark"=true) (k3:FK K (.ref f3)=true)
  (a4:Fn K (.ref C) "place_of_end"=some (some (.ref f4))) (i4:GX K (.ref f4)=true) (l4:K.lookup f4=some ⟨oc4,od4,.func (F7 "place_of_end" "Drawing.place_of_end" (L2.cI Wl.fO) (L2.bP Wl.fO) (L2.ah Wl.fO) .none kV4 dc4 pm4 an4 cd4 ct4),sl4⟩) (c4:Gn K cd4 "Drawing.place_of_end"=true) (k4:FK K (.ref f4)=true) :
  ∃C:EJ,Wl.DCl K mg C/\Wg.qc K C "Drawing.__init__" Wl.d4 ["self","width","height","points","lines","marks"]/\Wg.jF K C "place_of_point" "Drawing.place_of_point" Wl.fT ["self","k"]/\Wg.jF K C "place_of_line" "Drawing.place_of_line" Wl.gb ["self","k"]/\Wg.jF K C "place_of_mark" "Drawing.place_of_mark" Wl.fQ ["self","k"]/\Wg.jF K C "place_of_end" "Drawing.place_of_end" Wl.fO ["self"] :=
 ⟨C,⟨⟨pg,hd,po,sa⟩,n0,n1,n2,n3,n4,PySem.W.mg_of X G aC⟩,Wg.uI (λ _ _ _ _ _ _ us hl=>match us,hl with|[_,_,_,_,_,_],_=>rfl) mk kc a0 i0 l0 c0 k0,Wg.lV (λ _ _ _ _ _ _ us hl=>match us,hl with|[_,_],_=>rfl) a1 i1 l1 c1 k1,Wg.lV (λ _ _ _ _ _ _ us hl=>match us,hl with|[_,_],_=>rfl) a2 i2 l2 c2 k2,Wg.lV (λ _ _ _ _ _ _ us hl=>match us,hl with|[_,_],_=>rfl) a3 i3 l3 c3 k3,Wg.lV (λ _ _ _ _ _ _ us hl=>match us,hl with|[_],_=>rfl) a4 i4 l4 c4 k4⟩
theorem Wl.Bl {K:FQ}{mg:Str->Option Value}{h:Heap}{C:EJ}{f0:EJ}{od0 an0:Option EJ}{sl0:Array (Option Value)}{oc0 kV0 dc0 pm0 cd0 ct0:Value}(X:K.In h)(G:h.Ns FI mg)
  (aC:PySem.W.nsIn K FI "Verdict"=some (some (.ref C)))
  (pg:HC K C Str.empty=true) (hd:Ie K C=true) (po:PySem.W.plainOver K C=true) (sa:Fn K (.ref C) "__setattr__"=some (some (.builtin "object.__setattr__"))) (mk:PySem.W.makesIn K C=true) (kc:FK K (.ref C)=true)
  (n0:Fn K (.ref C) "fault"=some none)
  (n1:Fn K (.ref C) "drawing"=some none)
  (n2:Fn K (.ref C) "outlines"=some none)
  (a0:Fn K (.ref C) "__init__"=some (some (.ref f0))) (i0:GX K (.ref f0)=true) (l0:K.lookup f0=some ⟨oc0,od0,.func (F7 "__init__" "Verdict.__init__" (L2.cI Wl.eF) (L2.bP Wl.eF) (L2.ah Wl.eF) .none kV0 dc0 pm0 an0 cd0 ct0),sl0⟩) (c0:Gn K cd0 "Verdict.__init__"=true) (k0:FK K (.ref f0)=true) :
  ∃C:EJ,Wl.VCl K mg C/\Wg.qc K C "Verdict.__init__" Wl.eF ["self","fault","drawing","outlines"] :=
 ⟨C,⟨⟨pg,hd,po,sa⟩,n0,n1,n2,PySem.W.mg_of X G aC⟩,Wg.uI (λ _ _ _ _ _ _ us hl=>match us,hl with|[_,_,_,_],_=>rfl) mk kc a0 i0 l0 c0 k0⟩
end
section
open PySem PySem.W PyProof.Rows
set_option maxRecDepth 100000 in
set_option maxHeartbeats 0 in
theorem PySem.Challenge.cw_windowlight_s01_pane_holds : PySem.Challenge.rw_windowlight_s01_pane.Holds := by
 w_on;k_headS;(case hw=>exact⟨[.int 0,.list [],.list [],.list [],.list []],by decide +kernel,by decide +kernel⟩)
 k_fillS
 refine L2.tf (r:=PySem.Challenge.rw_windowlight_s01_pane) (k:=8) (CX:=L2.CX0) (ps:=["i","cartoon","glasses","paintings","daylight"]) (sp:=Wl.sX) (by decide +kernel) rfl rfl ⟨rfl,by decide,by decide⟩ (λ w h Y=>PySem.W.kIn_of Y) ?F ?S (λ _ _ _ _ z=>z)
 case F =>
  intro w mg fa h Y KX G hmg
  have F_number_at:=by refine' Wg.aM (x:="number_at") (st:=Wl.gx) (ps:=["cartoon","place","size"]) KX G (λ _ _ _ _ _ _ us hl=>match us,hl with|[_,_,_],_=>rfl) ?a ?l ?c ?k;(case a=>k_is);(case l=>k_is);(case c=>k_is);(case k=>k_is)
  have F_told_length:=by refine' Wg.aM (x:="told_length") (st:=Wl.eV) (ps:=["cartoon"]) KX G (λ _ _ _ _ _ _ us hl=>match us,hl with|[_],_=>rfl) ?a ?l ?c ?k;(case a=>k_is);(case l=>k_is);(case c=>k_is);(case k=>k_is)
  have F_fault_of_bytes:=by refine' Wg.aM (x:="fault_of_bytes") (st:=Wl.dD) (ps:=["cartoon"]) KX G (λ _ _ _ _ _ _ us hl=>match us,hl with|[_],_=>rfl) ?a ?l ?c ?k;(case a=>k_is);(case l=>k_is);(case c=>k_is);(case k=>k_is)
  have F_read_point:=by refine' Wg.aM (x:="read_point") (st:=Wl.fI) (ps:=["cartoon","place"]) KX G (λ _ _ _ _ _ _ us hl=>match us,hl with|[_,_],_=>rfl) ?a ?l ?c ?k;(case a=>k_is);(case l=>k_is);(case c=>k_is);(case k=>k_is)
  have F_read_line:=by refine' Wg.aM (x:="read_line") (st:=Wl.gw) (ps:=["cartoon","place"]) KX G (λ _ _ _ _ _ _ us hl=>match us,hl with|[_,_],_=>rfl) ?a ?l ?c ?k;(case a=>k_is);(case l=>k_is);(case c=>k_is);(case k=>k_is)
  have F_read_mark:=by refine' Wg.aM (x:="read_mark") (st:=Wl.gp) (ps:=["cartoon","place"]) KX G (λ _ _ _ _ _ _ us hl=>match us,hl with|[_,_],_=>rfl) ?a ?l ?c ?k;(case a=>k_is);(case l=>k_is);(case c=>k_is);(case k=>k_is)
  have F_read_drawing:=by refine' Wg.aM (x:="read_drawing") (st:=Wl.bT) (ps:=["cartoon"]) KX G (λ _ _ _ _ _ _ us hl=>match us,hl with|[_],_=>rfl) ?a ?l ?c ?k;(case a=>k_is);(case l=>k_is);(case c=>k_is);(case k=>k_is)
  have F_turn:=by refine' Wg.aM (x:="turn") (st:=Wl.qm) (ps:=["p","q","r"]) KX G (λ _ _ _ _ _ _ us hl=>match us,hl with|[_,_,_],_=>rfl) ?a ?l ?c ?k;(case a=>k_is);(case l=>k_is);(case c=>k_is);(case k=>k_is)
  have F_comes_behind:=by refine' Wg.aM (x:="comes_behind") (st:=Wl.er) (ps:=["q","p"]) KX G (λ _ _ _ _ _ _ us hl=>match us,hl with|[_,_],_=>rfl) ?a ?l ?c ?k;(case a=>k_is);(case l=>k_is);(case c=>k_is);(case k=>k_is)
  have F_is_in_box:=by refine' Wg.aM (x:="is_in_box") (st:=Wl.gh) (ps:=["p","q","r"]) KX G (λ _ _ _ _ _ _ us hl=>match us,hl with|[_,_,_],_=>rfl) ?a ?l ?c ?k;(case a=>k_is);(case l=>k_is);(case c=>k_is);(case k=>k_is)
  have F_is_on:=by refine' Wg.aM (x:="is_on") (st:=Wl.lZ) (ps:=["p","q","r"]) KX G (λ _ _ _ _ _ _ us hl=>match us,hl with|[_,_,_],_=>rfl) ?a ?l ?c ?k;(case a=>k_is);(case l=>k_is);(case c=>k_is);(case k=>k_is)
  have F_are_parted:=by refine' Wg.aM (x:="are_parted") (st:=Wl.fG) (ps:=["p","q","r","s"]) KX G (λ _ _ _ _ _ _ us hl=>match us,hl with|[_,_,_,_],_=>rfl) ?a ?l ?c ?k;(case a=>k_is);(case l=>k_is);(case c=>k_is);(case k=>k_is)
  have F_do_cross:=by refine' Wg.aM (x:="do_cross") (st:=Wl.ij) (ps:=["p","q","r","s"]) KX G (λ _ _ _ _ _ _ us hl=>match us,hl with|[_,_,_,_],_=>rfl) ?a ?l ?c ?k;(case a=>k_is);(case l=>k_is);(case c=>k_is);(case k=>k_is)
  have F_twice_area:=by refine' Wg.aM (x:="twice_area") (st:=Wl.fz) (ps:=["corners"]) KX G (λ _ _ _ _ _ _ us hl=>match us,hl with|[_],_=>rfl) ?a ?l ?c ?k;(case a=>k_is);(case l=>k_is);(case c=>k_is);(case k=>k_is)
  have F_is_left_beside:=by refine' Wg.aM (x:="is_left_beside") (st:=Wl.dw) (ps:=["p","q","r"]) KX G (λ _ _ _ _ _ _ us hl=>match us,hl with|[_,_,_],_=>rfl) ?a ?l ?c ?k;(case a=>k_is);(case l=>k_is);(case c=>k_is);(case k=>k_is)
  have F_is_inside:=by refine' Wg.aM (x:="is_inside") (st:=Wl.gt) (ps:=["corners","r"]) KX G (λ _ _ _ _ _ _ us hl=>match us,hl with|[_,_],_=>rfl) ?a ?l ?c ?k;(case a=>k_is);(case l=>k_is);(case c=>k_is);(case k=>k_is)
  have F_fault_of_points:=by refine' Wg.aM (x:="fault_of_points") (st:=Wl.cY) (ps:=["drawing"]) KX G (λ _ _ _ _ _ _ us hl=>match us,hl with|[_],_=>rfl) ?a ?l ?c ?k;(case a=>k_is);(case l=>k_is);(case c=>k_is);(case k=>k_is)
  have F_fault_of_lines:=by refine' Wg.aM (x:="fault_of_lines") (st:=Wl.dz) (ps:=["drawing"]) KX G (λ _ _ _ _ _ _ us hl=>match us,hl with|[_],_=>rfl) ?a ?l ?c ?k;(case a=>k_is);(case l=>k_is);(case c=>k_is);(case k=>k_is)
  have F_are_joined_in_a_row:=by refine' Wg.aM (x:="are_joined_in_a_row") (st:=Wl.bV) (ps:=["numbers","lines"]) KX G (λ _ _ _ _ _ _ us hl=>match us,hl with|[_,_],_=>rfl) ?a ?l ?c ?k;(case a=>k_is);(case l=>k_is);(case c=>k_is);(case k=>k_is)
  have F_fault_of_frame:=by refine' Wg.aM (x:="fault_of_frame") (st:=Wl.bf) (ps:=["drawing"]) KX G (λ _ _ _ _ _ _ us hl=>match us,hl with|[_],_=>rfl) ?a ?l ?c ?k;(case a=>k_is);(case l=>k_is);(case c=>k_is);(case k=>k_is)
  have F_has_point_on_it:=by refine' Wg.aM (x:="has_point_on_it") (st:=Wl.cU) (ps:=["drawing","line"]) KX G (λ _ _ _ _ _ _ us hl=>match us,hl with|[_,_],_=>rfl) ?a ?l ?c ?k;(case a=>k_is);(case l=>k_is);(case c=>k_is);(case k=>k_is)
  have F_crosses_one_before:=by refine' Wg.aM (x:="crosses_one_before") (st:=Wl.cg) (ps:=["drawing","k"]) KX G (λ _ _ _ _ _ _ us hl=>match us,hl with|[_,_],_=>rfl) ?a ?l ?c ?k;(case a=>k_is);(case l=>k_is);(case c=>k_is);(case k=>k_is)
  have F_fault_of_crossings:=by refine' Wg.aM (x:="fault_of_crossings") (st:=Wl.b8) (ps:=["drawing"]) KX G (λ _ _ _ _ _ _ us hl=>match us,hl with|[_],_=>rfl) ?a ?l ?c ?k;(case a=>k_is);(case l=>k_is);(case c=>k_is);(case k=>k_is)
  have F_neighbours_of:=by refine' Wg.aM (x:="neighbours_of") (st:=Wl.cO) (ps:=["drawing"]) KX G (λ _ _ _ _ _ _ us hl=>match us,hl with|[_],_=>rfl) ?a ?l ?c ?k;(case a=>k_is);(case l=>k_is);(case c=>k_is);(case k=>k_is)
  have F_reached_from:=by refine' Wg.aM (x:="reached_from") (st:=Wl.df) (ps:=["start","neighbours","left_out"]) KX G (λ _ _ _ _ _ _ us hl=>match us,hl with|[_,_,_],_=>rfl) ?a ?l ?c ?k;(case a=>k_is);(case l=>k_is);(case c=>k_is);(case k=>k_is)
  have F_fault_of_ends:=by refine' Wg.aM (x:="fault_of_ends") (st:=Wl.d3) (ps:=["drawing","neighbours"]) KX G (λ _ _ _ _ _ _ us hl=>match us,hl with|[_,_],_=>rfl) ?a ?l ?c ?k;(case a=>k_is);(case l=>k_is);(case c=>k_is);(case k=>k_is)
  have F_fault_of_ways:=by refine' Wg.aM (x:="fault_of_ways") (st:=Wl.dZ) (ps:=["drawing","neighbours"]) KX G (λ _ _ _ _ _ _ us hl=>match us,hl with|[_,_],_=>rfl) ?a ?l ?c ?k;(case a=>k_is);(case l=>k_is);(case c=>k_is);(case k=>k_is)
  have F_fault_of_narrows:=by refine' Wg.aM (x:="fault_of_narrows") (st:=Wl.cB) (ps:=["drawing","neighbours"]) KX G (λ _ _ _ _ _ _ us hl=>match us,hl with|[_,_],_=>rfl) ?a ?l ?c ?k;(case a=>k_is);(case l=>k_is);(case c=>k_is);(case k=>k_is)
  have F_is_within_frame:=by refine' Wg.aM (x:="is_within_frame") (st:=Wl.de) (ps:=["drawing","mark"]) KX G (λ _ _ _ _ _ _ us hl=>match us,hl with|[_,_],_=>rfl) ?a ?l ?c ?k;(case a=>k_is);(case l=>k_is);(case c=>k_is);(case k=>k_is)
  have F_is_on_some_line:=by refine' Wg.aM (x:="is_on_some_line") (st:=Wl.cV) (ps:=["drawing","mark"]) KX G (λ _ _ _ _ _ _ us hl=>match us,hl with|[_,_],_=>rfl) ?a ?l ?c ?k;(case a=>k_is);(case l=>k_is);(case c=>k_is);(case k=>k_is)
  have F_fault_of_marks:=by refine' Wg.aM (x:="fault_of_marks") (st:=Wl.dJ) (ps:=["drawing"]) KX G (λ _ _ _ _ _ _ us hl=>match us,hl with|[_],_=>rfl) ?a ?l ?c ?k;(case a=>k_is);(case l=>k_is);(case c=>k_is);(case k=>k_is)
  have F_fault_of_drawing:=by refine' Wg.aM (x:="fault_of_drawing") (st:=Wl.cC) (ps:=["drawing"]) KX G (λ _ _ _ _ _ _ us hl=>match us,hl with|[_],_=>rfl) ?a ?l ?c ?k;(case a=>k_is);(case l=>k_is);(case c=>k_is);(case k=>k_is)
  have F_sorted_by_turn:=by refine' Wg.aM (x:="sorted_by_turn") (st:=Wl.du) (ps:=["points","middle","ends"]) KX G (λ _ _ _ _ _ _ us hl=>match us,hl with|[_,_,_],_=>rfl) ?a ?l ?c ?k;(case a=>k_is);(case l=>k_is);(case c=>k_is);(case k=>k_is)
  have F_ring_round:=by refine' Wg.aM (x:="ring_round") (st:=Wl.dC) (ps:=["points","middle","ends"]) KX G (λ _ _ _ _ _ _ us hl=>match us,hl with|[_,_,_],_=>rfl) ?a ?l ?c ?k;(case a=>k_is);(case l=>k_is);(case c=>k_is);(case k=>k_is)
  have F_walk_round:=by refine' Wg.aM (x:="walk_round") (st:=Wl.fJ) (ps:=["rings","first","second"]) KX G (λ _ _ _ _ _ _ us hl=>match us,hl with|[_,_,_],_=>rfl) ?a ?l ?c ?k;(case a=>k_is);(case l=>k_is);(case c=>k_is);(case k=>k_is)
  have F_points_at:=by refine' Wg.aM (x:="points_at") (st:=Wl.eW) (ps:=["points","corners"]) KX G (λ _ _ _ _ _ _ us hl=>match us,hl with|[_,_],_=>rfl) ?a ?l ?c ?k;(case a=>k_is);(case l=>k_is);(case c=>k_is);(case k=>k_is)
  have F_outlines_of:=by refine' Wg.aM (x:="outlines_of") (st:=Wl.dR) (ps:=["drawing"]) KX G (λ _ _ _ _ _ _ us hl=>match us,hl with|[_],_=>rfl) ?a ?l ?c ?k;(case a=>k_is);(case l=>k_is);(case c=>k_is);(case k=>k_is)
  have F_holder_of:=by refine' Wg.aM (x:="holder_of") (st:=Wl.gk) (ps:=["mark","shapes"]) KX G (λ _ _ _ _ _ _ us hl=>match us,hl with|[_,_],_=>rfl) ?a ?l ?c ?k;(case a=>k_is);(case l=>k_is);(case c=>k_is);(case k=>k_is)
  have F_judge_marks:=by refine' Wg.aM (x:="judge_marks") (st:=Wl.cP) (ps:=["drawing","outlines"]) KX G (λ _ _ _ _ _ _ us hl=>match us,hl with|[_,_],_=>rfl) ?a ?l ?c ?k;(case a=>k_is);(case l=>k_is);(case c=>k_is);(case k=>k_is)
  have F_judge:=by refine' Wg.aM (x:="judge") (st:=Wl.lX) (ps:=["cartoon"]) KX G (λ _ _ _ _ _ _ us hl=>match us,hl with|[_],_=>rfl) ?a ?l ?c ?k;(case a=>k_is);(case l=>k_is);(case c=>k_is);(case k=>k_is)
  have F_are_within:=by refine' Wg.aM (x:="are_within") (st:=Wl.fu) (ps:=["row","least","greatest"]) KX G (λ _ _ _ _ _ _ us hl=>match us,hl with|[_,_,_],_=>rfl) ?a ?l ?c ?k;(case a=>k_is);(case l=>k_is);(case c=>k_is);(case k=>k_is)
  have F_is_light:=by refine' Wg.aM (x:="is_light") (st:=Wl.ig) (ps:=["row"]) KX G (λ _ _ _ _ _ _ us hl=>match us,hl with|[_],_=>rfl) ?a ?l ?c ?k;(case a=>k_is);(case l=>k_is);(case c=>k_is);(case k=>k_is)
  have F_are_lights:=by refine' Wg.aM (x:="are_lights") (st:=Wl.fk) (ps:=["row"]) KX G (λ _ _ _ _ _ _ us hl=>match us,hl with|[_],_=>rfl) ?a ?l ?c ?k;(case a=>k_is);(case l=>k_is);(case c=>k_is);(case k=>k_is)
  have F_how_many_lights:=by refine' Wg.aM (x:="how_many_lights") (st:=Wl.cZ) (ps:=["row"]) KX G (λ _ _ _ _ _ _ us hl=>match us,hl with|[_],_=>rfl) ?a ?l ?c ?k;(case a=>k_is);(case l=>k_is);(case c=>k_is);(case k=>k_is)
  have F_light_at:=by refine' Wg.aM (x:="light_at") (st:=Wl.ii) (ps:=["row","k"]) KX G (λ _ _ _ _ _ _ us hl=>match us,hl with|[_,_],_=>rfl) ?a ?l ?c ?k;(case a=>k_is);(case l=>k_is);(case c=>k_is);(case k=>k_is)
  have F_light_through:=by refine' Wg.aM (x:="light_through") (st:=Wl.cK) (ps:=["one","other"]) KX G (λ _ _ _ _ _ _ us hl=>match us,hl with|[_,_],_=>rfl) ?a ?l ?c ?k;(case a=>k_is);(case l=>k_is);(case c=>k_is);(case k=>k_is)
  have F_first_mark_without_light:=by refine' Wg.aM (x:="first_mark_without_light") (st:=Wl.bo) (ps:=["marks","glasses","paintings"]) KX G (λ _ _ _ _ _ _ us hl=>match us,hl with|[_,_,_],_=>rfl) ?a ?l ?c ?k;(case a=>k_is);(case l=>k_is);(case c=>k_is);(case k=>k_is)
  have F_pane_light:=by refine' Wg.aM (x:="pane_light") (st:=Wl.fD) (ps:=["mark","glasses","paintings"]) KX G (λ _ _ _ _ _ _ us hl=>match us,hl with|[_,_,_],_=>rfl) ?a ?l ?c ?k;(case a=>k_is);(case l=>k_is);(case c=>k_is);(case k=>k_is)
  have F_seen_light:=by refine' Wg.aM (x:="seen_light") (st:=Wl.fH) (ps:=["mark","glasses","paintings","daylight"]) KX G (λ _ _ _ _ _ _ us hl=>match us,hl with|[_,_,_,_],_=>rfl) ?a ?l ?c ?k;(case a=>k_is);(case l=>k_is);(case c=>k_is);(case k=>k_is)
  have F_refusal_of_shop:=by refine' Wg.aM (x:="refusal_of_shop") (st:=Wl.cX) (ps:=["cartoon","glasses","paintings"]) KX G (λ _ _ _ _ _ _ us hl=>match us,hl with|[_,_,_],_=>rfl) ?a ?l ?c ?k;(case a=>k_is);(case l=>k_is);(case c=>k_is);(case k=>k_is)
  have F_refusal_of_rows:=by refine' Wg.aM (x:="refusal_of_rows") (st:=Wl.dc) (ps:=["cartoon","glasses","paintings","daylight"]) KX G (λ _ _ _ _ _ _ us hl=>match us,hl with|[_,_,_,_],_=>rfl) ?a ?l ?c ?k;(case a=>k_is);(case l=>k_is);(case c=>k_is);(case k=>k_is)
  have F_refusal_of_cartoon:=by refine' Wg.aM (x:="refusal_of_cartoon") (st:=Wl.bZ) (ps:=["verdict"]) KX G (λ _ _ _ _ _ _ us hl=>match us,hl with|[_],_=>rfl) ?a ?l ?c ?k;(case a=>k_is);(case l=>k_is);(case c=>k_is);(case k=>k_is)
  have F_refusal_of_marks:=by refine' Wg.aM (x:="refusal_of_marks") (st:=Wl.cH) (ps:=["marks","glasses","paintings"]) KX G (λ _ _ _ _ _ _ us hl=>match us,hl with|[_,_,_],_=>rfl) ?a ?l ?c ?k;(case a=>k_is);(case l=>k_is);(case c=>k_is);(case k=>k_is)
  have F_row_answer:=by refine' Wg.aM (x:="row_answer") (st:=Wl.fw) (ps:=["row"]) KX G (λ _ _ _ _ _ _ us hl=>match us,hl with|[_],_=>rfl) ?a ?l ?c ?k;(case a=>k_is);(case l=>k_is);(case c=>k_is);(case k=>k_is)
  have F_pane:=by refine' Wg.aM (x:="pane") (st:=Wl.pL) (ps:=["i","cartoon","glasses","paintings","daylight"]) KX G (λ _ _ _ _ _ _ us hl=>match us,hl with|[_,_,_,_,_],_=>rfl) ?a ?l ?c ?k;(case a=>k_is);(case l=>k_is);(case c=>k_is);(case k=>k_is)
  have g_HEAD_BYTES:=by refine' Wg.iL (x:="HEAD_BYTES") (n:=20) KX G ?a;(case a=>k_is)
  have g_POINT_BYTES:=by refine' Wg.iL (x:="POINT_BYTES") (n:=8) KX G ?a;(case a=>k_is)
  have g_LINE_BYTES:=by refine' Wg.iL (x:="LINE_BYTES") (n:=4) KX G ?a;(case a=>k_is)
  have g_MARK_BYTES:=by refine' Wg.iL (x:="MARK_BYTES") (n:=12) KX G ?a;(case a=>k_is)
  have g_MOST_LIGHTS:=by refine' Wg.iL (x:="MOST_LIGHTS") (n:=256) KX G ?a;(case a=>k_is)
  have g_MOST_BYTES:=by refine' Wg.iL (x:="MOST_BYTES") (n:=131072) KX G ?a;(case a=>k_is)
  have g_BANDS:=by refine' Wg.iL (x:="BANDS") (n:=32) KX G ?a;(case a=>k_is)
  have g_FULL:=by refine' Wg.iL (x:="FULL") (n:=65535) KX G ?a;(case a=>k_is)
  have n_len:=by refine' GC (n:="len") KX G ?a;(case a=>k_is)
  have n_range:=by refine' GC (n:="range") KX G ?a;(case a=>k_is)
  have n_enumerate:=by refine' GC (n:="enumerate") KX G ?a;(case a=>k_is)
  have n_list:=by refine' GC (n:="list") KX G ?a;(case a=>k_is)
  have n_reversed:=by refine' GC (n:="reversed") KX G ?a;(case a=>k_is)
  have n_min:=by refine' GC (n:="min") KX G ?a;(case a=>k_is)
  have n_max:=by refine' GC (n:="max") KX G ?a;(case a=>k_is)
  have n_zip:=by refine' GC (n:="zip") KX G ?a;(case a=>k_is)
  have gS:=by refine' Wl.zj (x:="SIGN") (r:=CM.jL) KX G ?a ?l ?v ?z;(case a=>k_is);(case l=>k_is);(case v=>exact .cons ⟨_,rfl⟩ (.cons ⟨_,rfl⟩ (.cons ⟨_,rfl⟩ (.cons ⟨_,rfl⟩ .nil))));(case z=>decide)
  have gH:=by
   refine' Wl.xi (x:="HEAD_NUMBERS") (r1:=[4,4,16,1048575]) (r2:=[8,4,16,1048575]) (r3:=[12,2,4,4096]) (r4:=[14,2,4,8192]) (r5:=[16,2,1,2048]) (r6:=[18,2,0,0]) KX G ?a ?l ?h1 ?h2 ?h3 ?h4 ?h5 ?h6
   (case a=>k_is);(case l=>k_is)
   (case h1=>(refine' Wl.lc ?l ?v ?z;(case l=>k_is);(case v=>exact .cons ⟨_,rfl⟩ (.cons ⟨_,rfl⟩ (.cons ⟨_,rfl⟩ (.cons ⟨_,rfl⟩ .nil))));(case z=>decide)))
   (case h2=>(refine' Wl.lc ?l ?v ?z;(case l=>k_is);(case v=>exact .cons ⟨_,rfl⟩ (.cons ⟨_,rfl⟩ (.cons ⟨_,rfl⟩ (.cons ⟨_,rfl⟩ .nil))));(case z=>decide)))
   (case h3=>(refine' Wl.lc ?l ?v ?z;(case l=>k_is);(case v=>exact .cons ⟨_,rfl⟩ (.cons ⟨_,rfl⟩ (.cons ⟨_,rfl⟩ (.cons ⟨_,rfl⟩ .nil))));(case z=>decide)))
   (case h4=>(refine' Wl.lc ?l ?v ?z;(case l=>k_is);(case v=>exact .cons ⟨_,rfl⟩ (.cons ⟨_,rfl⟩ (.cons ⟨_,rfl⟩ (.cons ⟨_,rfl⟩ .nil))));(case z=>decide)))
   (case h5=>(refine' Wl.lc ?l ?v ?z;(case l=>k_is);(case v=>exact .cons ⟨_,rfl⟩ (.cons ⟨_,rfl⟩ (.cons ⟨_,rfl⟩ (.cons ⟨_,rfl⟩ .nil))));(case z=>decide)))
   (case h6=>(refine' Wl.lc ?l ?v ?z;(case l=>k_is);(case v=>exact .cons ⟨_,rfl⟩ (.cons ⟨_,rfl⟩ (.cons ⟨_,rfl⟩ (.cons ⟨_,rfl⟩ .nil))));(case z=>decide)))
  have DD:=by
   refine' Wl.yJ KX G ?aC ?pg ?hd ?po ?sa ?mk ?kc ?n0 ?n1 ?n2 ?n3 ?n4 ?a0 ?i0 ?l0 ?c0 ?k0 ?a1 ?i1 ?l1 ?c1 ?k1 ?a2 ?i2 ?l2 ?c2 ?k2 ?a3 ?i3 ?l3 ?c3 ?k3 ?a4 ?i4 ?l4 ?c4 ?k4
   (case aC=>k_is);(case pg=>k_is);(case hd=>k_is);(case po=>k_is);(case sa=>k_is);(case mk=>k_is);(case kc=>k_is);(case n0=>k_is);(case n1=>k_is);(case n2=>k_is);(case n3=>k_is);(case n4=>k_is);(case a0=>k_is);(case i0=>k_is);(case l0=>k_is);(case c0=>k_is);(case k0=>k_is);(case a1=>k_is);(case i1=>k_is);(case l1=>k_is);(case c1=>k_is);(case k1=>k_is);(case a2=>k_is);(case i2=>k_is);(case l2=>k_is);(case c2=>k_is);(case k2=>k_is);(case a3=>k_is);(case i3=>k_is);(case l3=>k_is);(case c3=>k_is);(case k3=>k_is);(case a4=>k_is);(case i4=>k_is);(case l4=>k_is);(case c4=>k_is);(case k4=>k_is)
  have VV:=by
   refine' Wl.Bl KX G ?aC ?pg ?hd ?po ?sa ?mk ?kc ?n0 ?n1 ?n2 ?a0 ?i0 ?l0 ?c0 ?k0
   (case aC=>k_is);(case pg=>k_is);(case hd=>k_is);(case po=>k_is);(case sa=>k_is);(case mk=>k_is);(case kc=>k_is);(case n0=>k_is);(case n1=>k_is);(case n2=>k_is);(case a0=>k_is);(case i0=>k_is);(case l0=>k_is);(case c0=>k_is);(case k0=>k_is)
  obtain⟨C,T,I1,M1,M2,M3,M4⟩:=DD
  obtain⟨CV,TV,I2⟩:=VV
  exact F_pane.top hmg λ base _ _=>Wl.wP T TV g_HEAD_BYTES g_POINT_BYTES g_LINE_BYTES g_MARK_BYTES g_MOST_LIGHTS g_MOST_BYTES g_BANDS g_FULL n_len n_range n_enumerate n_list n_reversed n_min n_max n_zip gS gH I1 I2 M1 M2 M3 M4 F_number_at F_told_length F_fault_of_bytes F_read_point F_read_line F_read_mark F_read_drawing F_turn F_comes_behind F_is_in_box F_is_on F_are_parted F_do_cross F_twice_area F_is_left_beside F_is_inside F_fault_of_points F_fault_of_lines F_are_joined_in_a_row F_fault_of_frame F_has_point_on_it F_crosses_one_before F_fault_of_crossings F_neighbours_of F_reached_from F_fault_of_ends F_fault_of_ways F_fault_of_narrows F_is_within_frame F_is_on_some_line F_fault_of_marks F_fault_of_drawing F_sorted_by_turn F_ring_round F_walk_round F_points_at F_outlines_of F_holder_of F_judge_marks F_judge F_are_within F_is_light F_are_lights F_how_many_lights F_light_at F_light_through F_first_mark_without_light F_pane_light F_seen_light F_refusal_of_shop F_refusal_of_rows F_refusal_of_cartoon F_refusal_of_marks F_row_answer F_pane
 case S =>
  intro K H xs a hO hwi hask hx
  cases hx with
  |cons h0 r0 =>
  cases r0 with
  |cons h1 r1 =>
  cases r1 with
  |cons h2 r2 =>
  cases r2 with
  |cons h3 r3 =>
  cases r3 with
  |cons h4 r4 =>
  cases r4
  cases h0
  cases h1 with
  |lst hs1 ha1 =>
  cases h2 with
  |lst hs2 ha2 =>
  cases h3 with
  |lst hs3 ha3 =>
  cases h4 with
  |lst hs4 ha4 =>
  have e1:=L2.jW a.2.1 _ ha1
  subst e1
  have e2:=L2.jW a.2.2.1 _ ha2
  subst e2
  have e3:=L2.jW a.2.2.2.1 _ ha3
  subst e3
  have e4:=L2.jW a.2.2.2.2.1 _ ha4
  subst e4
  have q:(Iy 0 4294967295 a.1&&((Codec.inLen 0 100000 a.2.1&&a.2.1.all (Iy 0 255))&&((Codec.inLen 0 9000 a.2.2.1&&a.2.2.1.all (Iy 0 4294967295))&&((Codec.inLen 0 9000 a.2.2.2.1&&a.2.2.2.1.all (Iy 0 4294967295))&&((Codec.inLen 0 100 a.2.2.2.2.1&&a.2.2.2.2.1.all (Iy 0 4294967295))&&true)))))=true:=hwi
  obtain⟨q0,q⟩:=GD.mp q
  obtain⟨q1,q⟩:=GD.mp q
  obtain⟨q2,q⟩:=GD.mp q
  obtain⟨q3,q⟩:=GD.mp q
  obtain⟨q4,q⟩:=GD.mp q
  obtain⟨l1,b1⟩:=Wl.ji q1
  obtain⟨l2,b2⟩:=Wl.ji q2
  obtain⟨l3,b3⟩:=Wl.ji q3
  obtain⟨l4,b4⟩:=Wl.ji q4
  unfold Iy at q0
  rw[EO,ET,ET]at q0
  have e0:((a.1.toNat:Nat):Int)=a.1:=by omega
  refine⟨a.1.toNat,_,_,_,_,a.2.1,a.2.2.1,a.2.2.2.1,a.2.2.2.2.1,by rw[e0],⟨hs1,by omega⟩,⟨hs2,by omega⟩,⟨hs3,by omega⟩,⟨hs4,by omega⟩,b1,λ H' p hp=>?_⟩
  rw[Wl.ym b1 (λ x hx=>(b2 x hx).1) (λ x hx=>(b3 x hx).1) (λ x hx=>(b4 x hx).1),e0]at hp
  exact .lst (L2.SqL.of hp) (L2.uA _)
end
