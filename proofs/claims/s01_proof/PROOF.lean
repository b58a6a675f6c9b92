import PyProof.Rows.All
import Wide.All
import OpenK.AllK
import Wide.FinOn
import PyProof.EqAt
import PyProof.EqKinds
import PyProof.TupleCall
import KE.BitLaws
import Open.SpecLaws
import KE.OsHead
import KE.OsGo
import PySem.Challenge.RW_windowlight_s01_pane
set_option Elab.async false
set_option linter.all false
set_option maxRecDepth 100000
set_option maxHeartbeats 4000000
open PySem.W (Frag)
theorem bcn {p : Prop} (h : ¬p → False) : p := Classical.byContradiction h
theorem osi {α : Type} {a b : α} (h : some a = some b) : a = b := Option.some.inj h
theorem dqf {p : Prop} [Decidable p] (h : ¬p) : decide p = false := decide_eq_false h
theorem dqt {p : Prop} [Decidable p] (h : p) : decide p = true := decide_eq_true h
theorem nlr (n : Nat) : n ≤ n := Nat.le_refl n
theorem gsi {α : Type} {l : List α} {i : Nat} {a : α} (h : l[i]? = some a) : ∃ h : i < l.length, l[i] = a := List.getElem?_eq_some_iff.mp h
theorem gge {α : Type} {l : List α} {i : Nat} (h : i < l.length) : l[i]? = some l[i] := List.getElem?_eq_getElem h
theorem lmp {α β : Type} {l : List α} (f : α → β) : (l.map f).length = l.length := List.length_map f
namespace L2
open PySem PySem.Spec PyProof.Rows
abbrev Key:=Sum Int Str
def lu:Key→Value→Bool
 |.inl k,v=>Value.isInt k v
 |.inr x,v=>Value.isStrOf x v
def DL (w:World):Key→Int
 |.inl k=>hashInt k
 |.inr x=>hashStr w x
theorem bR:∀{k:Key} {v:Value},lu k v=true→(∃i t,k=Sum.inl i∧v=Value.int i t)∨(∃x t,k=Sum.inr x∧v=Value.str x t)
 |.inl i,v,h=>by
  obtain⟨t,e⟩:=Value.isInt_shape (k:=i) (v:=v) h
  exact .inl ⟨i,t,rfl,e⟩
 |.inr x,v,h=>by
  obtain⟨t,e⟩:=Value.isStrOf_shape (x:=x) (v:=v) h
  exact .inr ⟨x,t,rfl,e⟩
theorem u5 (i:Int)(t:Tok):lu (.inl i) (.int i t)=true:=by simp[lu,Value.isInt]
theorem vp (x:Str)(t:Tok):lu (.inr x) (.str x t)=true:=by simp[lu,Value.isStrOf]
theorem AQ (a b:Int):decide ((Sum.inl a:Key)=Sum.inl b)=(a==b):=by
 by_cases e:a=b
 ·subst e;simp
 ·have h:¬(Sum.inl a:Key)=Sum.inl b:=fun q=>e (Sum.inl.inj q)
  rw[dqf h]
  exact(beq_eq_false_iff_ne.mpr e).symm
theorem As (a b:Str):decide ((Sum.inr a:Key)=Sum.inr b)=decide (a=b):=by
 by_cases e:a=b
 ·subst e;simp
 ·have h:¬(Sum.inr a:Key)=Sum.inr b:=fun q=>e (Sum.inr.inj q)
  rw[dqf h,dqf e]
theorem Ag (a:Int)(b:Str):decide ((Sum.inl a:Key)=Sum.inr b)=false:=dqf (fun q=>nomatch q)
theorem Aj (a:Str)(b:Int):decide ((Sum.inr a:Key)=Sum.inl b)=false:=dqf (fun q=>nomatch q)
def cZ (prog:Program)(w:World):PySem.KeyKind prog w Key where
 is:=lu
 hash:=DL w
 inj:=fun v a b ha hb=>by
  rcases bR ha with⟨i,t,rfl,rfl⟩|⟨x,t,rfl,rfl⟩
  ·rcases bR hb with⟨j,u,rfl,e⟩|⟨y,u,rfl,e⟩
   ·injection e with e1 _;rw[e1]
   ·exact nomatch e
  ·rcases bR hb with⟨j,u,rfl,e⟩|⟨y,u,rfl,e⟩
   ·exact nomatch e
   ·injection e with e1 _;rw[e1]
 byValue:=fun k v h=>by
  rcases bR h with⟨i,t,rfl,rfl⟩|⟨x,t,rfl,rfl⟩<;>rfl
 pyHash:=fun hv h=>by
  rcases bR hv with⟨i,t,rfl,rfl⟩|⟨x,t,rfl,rfl⟩
  ·exact wpAny_pyHash_int h
  ·exact wpAny_pyHash_str h
 eqBool:=fun hu hv h=>by
  rcases bR hu with⟨i,t,rfl,rfl⟩|⟨x,t,rfl,rfl⟩
  ·rcases bR hv with⟨j,u,rfl,rfl⟩|⟨y,u,rfl,rfl⟩
   ·rw[AQ]at h;exact wpAny_eqBool_int h
   ·rw[Ag]at h;exact SeqAt.EqAt.int_str i t y u _ _ _ _ h
  ·rcases bR hv with⟨j,u,rfl,rfl⟩|⟨y,u,rfl,rfl⟩
   ·rw[Aj]at h;exact SeqAt.EqAt.str_int x t j u _ _ _ _ h
   ·rw[As]at h;exact wpAny_eqBool_str h
 «strs»:=fun k x t v h=>by
  rcases bR h with⟨i,u,rfl,e⟩|⟨y,u,rfl,e⟩
  ·exact nomatch e
  ·injection e with e1 _
   subst e1
   cases v<;>rfl
theorem rJ (prog:Program)(w:World)(i:Int)(t:Tok):(cZ prog w).is (.inl i) (.int i t)=true:=u5 i t
theorem qU (prog:Program)(w:World)(x:Str)(t:Tok):(cZ prog w).is (.inr x) (.str x t)=true:=vp x t
end L2
namespace L2
open PySem PySem.Spec PyProof.Rows
inductive V where
 |non|bl (b:Bool)|int (i:Int)|str (x:Str)|byt (b:Array UInt8)|flt (b:UInt64)|ref (a:Addr)|ty (n:String)
 deriving DecidableEq
def aZ:V→Value→Prop
 |.non,u=>u=Value.none
 |.bl b,u=>u=Value.bool b
 |.int i,u=>∃t,u=Value.int i t
 |.str x,u=>∃t,u=Value.str x t
 |.byt b,u=>∃t,u=Value.bytes b t
 |.flt b,u=>∃t,u=Value.float b t
 |.ref a,u=>u=Value.ref a
 |.ty n,u=>u=Value.type n
abbrev aT:List V→List Value→Prop:=Paired aZ
theorem aT.length {xs:List V}{us:List Value}(r:aT xs us):xs.length=us.length:=Paired.length r
theorem aT.get:∀{xs:List V} {us:List Value} {i:Nat} {x:V},aT xs us→xs[i]? = some x→∃u,us[i]? = some u∧aZ x u
 |_,_,_,_,.nil,e=>by simp at e
 |_,_,0,_,.cons r _,e=>by simp at e;subst e;exact⟨_,rfl,r⟩
 |_,_,i+1,x,.cons _ t,e=>by
  obtain⟨u,h1,h2⟩:=aT.get (i:=i) (x:=x) t (by simpa using e)
  exact⟨u,by simpa using h1,h2⟩
theorem aT.set {x:V}{u:Value}(r:aZ x u):∀{xs:List V} {us:List Value} (i:Nat),aT xs us→aT (xs.set i x) (us.set i u)
 |_,_,_,.nil=>.nil
 |_,_,0,.cons _ t=>.cons r t
 |_,_,i+1,.cons q t=>.cons q (aT.set r i t)
theorem aT.append:∀{xs ys:List V} {us ws:List Value},aT xs us→aT ys ws→aT (xs++ys) (us++ws)
 |_,_,_,_,.nil,s=>s
 |_,_,_,_,.cons r t,s=>.cons r (aT.append t s)
theorem aT.take:∀{xs:List V} {us:List Value} (n:Nat),aT xs us→aT (xs.take n) (us.take n)
 |_,_,0,_=>.nil
 |_,_,_+1,.nil=>.nil
 |_,_,n+1,.cons r t=>.cons r (aT.take n t)
theorem aT.drop:∀{xs:List V} {us:List Value} (n:Nat),aT xs us→aT (xs.drop n) (us.drop n)
 |_,_,0,r=>r
 |_,_,_+1,.nil=>.nil
 |_,_,n+1,.cons _ t=>aT.drop n t
def kh:Option V→Option Value→Prop
 |some v,some u=>aZ v u
 |none,none=>True
 |_,_=>False
def KV {κ:Type}:List (κ×V)→List (κ×Value)→Prop:=Paired fun (p:κ×V) (q:κ×Value)=>p.1=q.1∧aZ p.2 q.2
def kV:Key→V
 |.inl i=>.int i
 |.inr x=>.str x
inductive HO where
 |lst (xs:List V)
 |tup (xs:List V)
 |dK (kvs:List (Key×V))|dT (kvs:List (List Key×V))
 |set (S:Int→Bool) (n:Nat)
 |ins (C dx:Addr) (fs:List (Str×V))
 |own (x:Addr)
 |xd (fs:List (Str×V))
 |met (f x:Addr)
 |rng (lo hi:Int)
 |frz (o:Obj) (u:HO)
 |tbl (ps:Array Value)
 |ext (φ:Heap→Prop)
abbrev Hp:=Addr→Option HO
def upd (H:Hp)(a:Addr)(o:HO):Hp:=fun b=>if b=a then some o else H b
theorem af {H:Hp}{a:Addr}{o:HO}:upd H a o a=some o:=by unfold upd;rw[if_pos rfl]
theorem ap {H:Hp}{a b:Addr}{o:HO}(h:b≠a):upd H a o b=H b:=by unfold upd;rw[if_neg h]
theorem tF {H:Hp}{a:Addr}{o u:HO}:upd (upd H a o) a u=upd H a u:=by
 funext b;unfold upd;split<;>rfl
theorem Cu {H:Hp}{a b:Addr}{o u:HO}(h:H a=some o)(h':H b=some u)(d:o≠u):a≠b:=by
 intro e;subst e;rw[h]at h';exact d (osi h')
theorem aQ {H:Hp}{a b:Addr}{o:HO}(h:H a=some o)(h':H b=none):a≠b:=by
 intro e;subst e;rw[h]at h';cases h'
section
variable  (P:Program)(w:World)
def b7 (H:Hp)(h:Heap)(a:Addr):HO→Prop
 |.lst xs=>xs.length≤sizeLine∧∃(its:List Value) (n:Nat),aT xs its∧h.get? a=some { cls:=.type "list",data:=.seq its.toArray n }
 |.tup xs=>xs.length≤sizeLine∧∃its:List Value,aT xs its∧IsTup h a its.toArray
 |.dK kvs=>kvs.length≤sizeLine∧(a==sysModules)=false∧∃vs,KV kvs vs∧h.DictOf (cZ P w) a vs
 |.dT kvs=>kvs.length≤sizeLine∧(a==sysModules)=false∧∃xs:List (List Key×Addr×Value),
   Paired (fun (p:List Key×V) (q:List Key×Addr×Value)=>p.1=q.1∧H q.2.1=some (.tup (p.1.map kV))∧aZ p.2 q.2.2) kvs xs ∧
   ∃o es ep,h.get? a=some o∧o.ExactDict∧o.data=.dict es ep∧es.toList=xs.map (entryOfKey (tupleKind (cZ P w)))∧(xs.map (·.1)).Nodup
 |.set S n=>h.SetOf (intKind P w) a S n
 |.ins C dx fs=>H dx=some (.own a)∧fs.length≤1000∧dx≠a∧h.get? a=some (PySem.W.instObj C dx) ∧
   ∃mA,h.Ns1 dx mA∧(∀f,kh (fs.lookup f) (mA f))∧PySem.Within mA (fs.map (·.1))
 |.own _=>∃o,h.get? a=some o
 |.xd fs=>∃mA,h.Ns1 a mA∧∀f,kh (fs.lookup f) (mA f)
 |.rng lo hi=>∃t u v,h.get? a=some { cls:=.type "range",data:=.fields #[.int lo t,.int hi u,.int 1 v] }
 |.frz o u=>h.get? a=some o∧b7 H h a u
 |.tbl ps=>h.get? a=some { cls:=.none,data:=.fields ps }
 |.met f x=>h.get? a=some (PySem.W.methodObj (.ref f) (.ref x))
 |.ext φ=>φ h∧(∃o,h.get? a=some o)∧∀h1 h2:Heap,φ h1→(∀o,h1.get? a=some o→h2.get? a=some o)→φ h2
def HOk (H:Hp)(h:Heap):Prop:=∀a o,H a=some o→b7 P w H h a o
end
section
variable  {P:Program}{w:World}{H H':Hp}{h h':Heap}{a:Addr}{o:HO}
theorem b7.lt (x:b7 P w H h a o):a<h.objs.size:=by
 cases o with
 |lst xs=>obtain⟨_,_,_,_,e⟩:=x;exact Heap.lt_size e
 |tup xs=>obtain⟨_,_,_,p⟩:=x;exact p.lt
 |dK kvs=>obtain⟨_,_,_,_,o,_,_,e,_⟩:=x;exact Heap.lt_size e
 |dT kvs=>obtain⟨_,_,_,_,o,_,_,e,_⟩:=x;exact Heap.lt_size e
 |set S n=>obtain⟨o,_,_,_,e,_⟩:=x;exact Heap.lt_size e
 |ins C dx fs=>obtain⟨_,_,_,e,_⟩:=x;exact Heap.lt_size e
 |own y=>obtain⟨_,e⟩:=x;exact Heap.lt_size e
 |xd fs=>obtain⟨_,⟨_,_,_,e,_⟩,_⟩:=x;exact Heap.lt_size e
 |rng lo hi=>obtain⟨_,_,_,e⟩:=x;exact Heap.lt_size e
 |frz ob u=>obtain⟨e,_⟩:=x;exact Heap.lt_size e
 |tbl ps=>exact Heap.lt_size (show h.get? a=some _ from x)
 |met f y=>exact Heap.lt_size (show h.get? a=some _ from x)
 |ext φ=>obtain⟨_,⟨_,e⟩,_⟩:=x;exact Heap.lt_size e
theorem Paired.mapP {α β:Type}{F G:α→β→Prop}:∀{l₁:List α} {l₂:List β},Paired F l₁ l₂→(∀a b,F a b→G a b)→Paired G l₁ l₂
 |_,_,.nil,_=>.nil
 |_,_,.cons r t,f=>.cons (f _ _ r) (Paired.mapP t f)
theorem b7.stay (x:b7 P w H h a o)(k:∀b u,(b=a∨H b=some (.own a))→h.get? b=some u→h'.get? b=some u)
  (ho:∀b,H b=some (.own a)→H' b=some (.own a)) (ht:∀b xs,H b=some (.tup xs)→H' b=some (.tup xs)):b7 P w H' h' a o:=by
 induction o with
 |lst xs=>obtain⟨z,its,n,r,e⟩:=x;exact⟨z,its,n,r,k _ _ (.inl rfl) e⟩
 |tup xs=>obtain⟨z,its,r,ob,e,c⟩:=x;exact⟨z,its,r,ob,k _ _ (.inl rfl) e,c⟩
 |dK kvs=>obtain⟨z,y,vs,r,ob,es,ep,e,c⟩:=x;exact⟨z,y,vs,r,ob,es,ep,k _ _ (.inl rfl) e,c⟩
 |dT kvs =>
  obtain⟨z,y,xs,r,ob,es,ep,e,c⟩:=x
  exact⟨z,y,xs,Paired.mapP r fun p q z=>⟨z.1,ht _ _ z.2.1,z.2.2⟩,ob,es,ep,k _ _ (.inl rfl) e,c⟩
 |set S n=>obtain⟨ob,es,ep,t,e,c⟩:=x;exact⟨ob,es,ep,t,k _ _ (.inl rfl) e,c⟩
 |ins C dx fs =>
  obtain⟨d,z,ne,e,mA,⟨od,es,ep,e2,c⟩,r⟩:=x
  exact⟨ho _ d,z,ne,k _ _ (.inl rfl) e,mA,⟨od,es,ep,k _ _ (.inr d) e2,c⟩,r⟩
 |own y=>obtain⟨ob,e⟩:=x;exact⟨ob,k _ _ (.inl rfl) e⟩
 |xd fs=>obtain⟨mA,⟨od,es,ep,e,c⟩,r⟩:=x;exact⟨mA,⟨od,es,ep,k _ _ (.inl rfl) e,c⟩,r⟩
 |rng lo hi=>obtain⟨t,u,v,e⟩:=x;exact⟨t,u,v,k _ _ (.inl rfl) e⟩
 |frz ob u ih=>obtain⟨e,q⟩:=x;exact⟨k _ _ (.inl rfl) e,ih q⟩
 |tbl ps =>
  have e:h.get? a=some { cls:=.none,data:=.fields ps }:=x
  show h'.get? a=some { cls:=.none,data:=.fields ps }
  exact k a _ (.inl rfl) e
 |met f y =>
  have e:h.get? a=some (PySem.W.methodObj (.ref f) (.ref y)):=x
  show h'.get? a=some (PySem.W.methodObj (.ref f) (.ref y))
  exact k a _ (.inl rfl) e
 |ext φ=>obtain⟨p,⟨o,e⟩,st⟩:=x;exact⟨st _ _ p fun o q=>k _ _ (.inl rfl) q,⟨o,k _ _ (.inl rfl) e⟩,st⟩
theorem HOk.lt (x:HOk P w H h)(e:H a=some o):a<h.objs.size:=(x a o e).lt
theorem HOk.fresh (x:HOk P w H h)(e:h.objs.size≤a):H a=none:=by
 cases q:H a with
 |none=>rfl
 |some u=>exact absurd (Nat.lt_of_lt_of_le (x.lt q) e) (Nat.lt_irrefl _)
theorem HOk.kept (x:HOk P w H h)(k:∀b u,h.get? b=some u→h'.get? b=some u):HOk P w H h':=fun a o e =>
 (x a o e).stay (fun b u _ q=>k b u q) (fun _ q=>q) fun _ _ q=>q
theorem HOk.laid (x:HOk P w H h)(k:∀b u,h.get? b=some u→h'.get? b=some u)(hp:h.objs.size≤a)(new:b7 P w (upd H a o) h' a o):HOk P w (upd H a o) h':=fun b u e=>by
 have hn:=x.fresh hp
 by_cases hb:b=a
 ·subst hb;rw[af]at e;cases e;exact new
 ·rw[ap hb]at e
  exact(x b u e).stay (fun c v _ q=>k c v q) (fun c q=>by rw[ap (aQ q hn)];exact q) fun c xs q=>by rw[ap (aQ q hn)];exact q
end
def Rd (H:Hp)(a:Addr)(u:HO):Prop:=H a=some u∨∃o,H a=some (.frz o u)
theorem Rd.ok {P:Program}{w:World}{H:Hp}{h:Heap}{a:Addr}{u:HO}(r:Rd H a u)(x:HOk P w H h):b7 P w H h a u:=by
 rcases r with r|⟨o,r⟩
 ·exact x a u r
 ·obtain⟨_,q⟩:=x a _ r
  exact q
def Mut:Option HO→Prop
 |some (.lst _)=>True
 |some (.dK _)=>True
 |some (.dT _)=>True
 |some (.set _ _)=>True
 |some (.ins _ _ _)=>True
 |some (.ext _)=>True
 |_=>False
section
variable  {P:Program}{w:World}{H:Hp}{h h':Heap}{x e:Addr}{o':HO}
theorem HOk.write (ok:HOk P w H h)(mu:Mut (H x))(he:e=x∨H e=some (.own x))(k:∀b u,b≠e→h.get? b=some u→h'.get? b=some u)(heo:∃u,h'.get? e=some u)
  (new:b7 P w (upd H x o') h' x o'):HOk P w (upd H x o') h':=fun b u q=>by
 have nown:∀c y,H c=some (.own y)→c≠x:=fun c y r z=>by subst z;rw[r]at mu;exact mu
 have ntup:∀c xs,H c=some (.tup xs)→c≠x:=fun c xs r z=>by subst z;rw[r]at mu;exact mu
 by_cases hb:b=x
 ·subst hb;rw[af]at q;cases q;exact new
 ·rw[ap hb]at q
  by_cases hbe:b=e
  ·have q':H b=some (.own x):=by
    rcases he with z|z
    ·exact absurd (hbe.trans z) hb
    ·rw[hbe];exact z
   rw[q]at q';cases q'
   obtain⟨v,hv⟩:=heo
   exact⟨v,by rw[hbe];exact hv⟩
  ·refine(ok b u q).stay (fun c v hc r=>k c v ?_ r) (fun c r=>by rw[ap (nown c b r)];exact r) fun c xs r=>by rw[ap (ntup c xs r)];exact r
   rcases hc with rfl|hc
   ·exact hbe
   ·rintro rfl
    rcases he with z|z
    ·exact nown c b hc z
    ·rw[hc]at z;cases z;exact hb rfl
end
structure Un (fs ex:List Addr)(H H':Hp)(h h':Heap):Prop where
 keep:∀b o,h.get? b=some o→H b=none→b∉fs→b∉ex→h'.get? b=some o
 slot:∀b o,h.get? b=some o→H b=none→b∈fs→b∉ex→∃sl,h'.get? b=some { o with slots:=sl }
 free:∀b o,h.get? b=some o→H b=none→b∉ex→H' b=none
 there:∀b o,h.get? b=some o→b∉ex→∃o',h'.get? b=some o'
 tups:∀b xs,H b=some (.tup xs)→H' b=some (.tup xs)
 frzs:∀b o u,H b=some (.frz o u)→H' b=some (.frz o u)
 tbls:∀b ps,H b=some (.tbl ps)→∃more,H' b=some (.tbl (ps++more))
section
variable  {fs fs' ex ex':List Addr}{H H1 H2:Hp}{h h1 h2 h':Heap}{a x e:Addr}{o:HO}
theorem Un.any (u:Un fs ex H H1 h h1){b:Addr}{ob:Obj}(q:h.get? b=some ob)(n:H b=none)(hx:b∉ex):∃sl,h1.get? b=some { ob with slots:=sl }:=by
 by_cases hb:b∈fs
 ·exact u.slot b ob q n hb hx
 ·exact⟨ob.slots,u.keep b ob q n hb hx⟩
theorem Un.kept (k:∀b u,h.get? b=some u→h'.get? b=some u):Un fs ex H H h h' :=
 ⟨fun b ob q _ _ _=>k b ob q,fun b ob q _ _ _=>⟨ob.slots,k b ob q⟩,fun _ _ _ n _=>n,fun b ob q _=>⟨ob,k b ob q⟩,fun _ _ q=>q,fun _ _ _ q=>q,fun _ ps q=>⟨#[],by rw[q];simp⟩⟩
theorem Un.refl:Un fs ex H H h h:=Un.kept fun _ _ q=>q
theorem Un.laid (k:∀b u,h.get? b=some u→h'.get? b=some u)(hp:h.objs.size≤a)(hn:H a=none):Un fs ex H (upd H a o) h h' where
 keep:=fun b u q _ _ _=>k b u q
 slot:=fun b u q _ _ _=>⟨u.slots,k b u q⟩
 free:=fun b u q n _=>by rw[ap (Nat.ne_of_lt (Nat.lt_of_lt_of_le (Heap.lt_size q) hp))];exact n
 there:=fun b u q _=>⟨u,k b u q⟩
 tups:=fun b xs q=>by rw[ap (aQ q hn)];exact q
 frzs:=fun b u xs q=>by rw[ap (aQ q hn)];exact q
 tbls:=fun b ps q=>⟨#[],by rw[ap (aQ q hn),q];simp⟩
theorem Un.write (mu:Mut (H x))(he:e=x∨H e=some (.own x))(k:∀b u,b≠e→h.get? b=some u→h'.get? b=some u)(heo:∃u,h'.get? e=some u):Un fs ex H (upd H x o) h h':=by
 have hx:∀b,H b=none→b≠x:=fun b n z=>by subst z;rw[n]at mu;exact mu
 have hb:∀b,H b=none→b≠e:=fun b n z=>by
  subst z
  rcases he with r|r
  ·exact hx b n r
  ·rw[n]at r;cases r
 have hm:∀b u,H b=some u→¬Mut (some u)→b≠x:=fun b u q nm z=>by subst z;rw[q]at mu;exact nm mu
 refine⟨fun b u q n _ _=>k b u (hb b n) q,fun b u q n _ _=>⟨u.slots,k b u (hb b n) q⟩,fun b u q n _=>by rw[ap (hx b n)];exact n,fun b u q _=>?_,
  fun b xs q=>by rw[ap (hm b _ q fun z=>z)];exact q,fun b u xs q=>by rw[ap (hm b _ q fun z=>z)];exact q,fun b ps q=>⟨#[],by rw[ap (hm b _ q fun z=>z),q];simp⟩⟩
 by_cases hbe:b=e
 ·subst hbe;exact heo
 ·exact⟨u,k b u hbe q⟩
end
def trk (h:Heap)(H:Hp):List Addr:=(List.range h.objs.size).filter fun a=>(H a).isSome
def j7 (h:Heap)(H:Hp):Heap:=PySem.W.hideAll h (trk h H)
theorem pk (h:Heap)(H:Hp):(j7 h H).objs.size=h.objs.size:=PySem.W.hideAll_size _ _
theorem qR {h:Heap}{H:Hp}{b:Addr}{o:Obj}(e:h.get? b=some o)(n:H b=none):(j7 h H).get? b=some o :=
 PySem.W.hideAll_get _ e fun hm=>by
  have q:(H b).isSome=true:=(List.mem_filter.mp hm).2
  rw[n]at q;simp at q
theorem tS {h:Heap}{H:Hp}{b:Addr}{o:Obj}(e:(j7 h H).get? b=some o):h.get? b=some o∧H b=none:=by
 have e':h.get? b=some o:=PySem.W.of_hideAll (trk h H) e
 refine⟨e',?_⟩
 cases q:H b with
 |none=>rfl
 |some x =>
  have hm:b∈trk h H:=List.mem_filter.mpr ⟨List.mem_range.mpr (Heap.lt_size e'),by simp[q]⟩
  have z:(j7 h H).get? b=none:=PySem.W.hideAll_none (trk h H) hm
  rw[z]at e;cases e
def y8 (g h:Heap)(L:Addr):List (Addr×Obj):=(List.range h.objs.size).filterMap fun a=>if a=L∨(g.get? a).isSome=true then none else (h.get? a).map fun o=>(a,o)
def gK (g h:Heap)(L d:Addr):List (Addr×Obj):=(y8 g h L).filter fun p=>decide (p.1≠d)
end L2
namespace L2
open PySem PySem.Spec PyProof.Rows
structure Mod (K:Frag)(mg:Str→Option Value)(base:Heap):Prop where
 kin:K.In base
 glob:base.Ns mainGlobals mg
 blt:∃mb,base.Ns builtinsNs mb∧∀x:Str,x≠"__name__"→mb x=bootBuiltins x
 nolimit:base.NoLimit
structure Cx where
 prog:Program
 w:World
 K:Frag
 mg:Str→Option Value
 base:Heap
 A:Around
 N:List Str
 s_0:Shared
 H_0:Hp
 env:Env
 outer:List Env
 stack:List Env
 ex:List Addr
 fn:Str→Bool
 calm:Bool
 pn:List (Addr×Obj)
 xe:Value→Shared→Prop
def frs (l:List Env):List Addr:=l.filterMap (·.frame)
abbrev Cx.fs (X:Cx):List Addr:=frs X.outer
def Vis (sc:Scope)(x:Str):Prop:=sc.names.lookup x=some .local∨sc.names.lookup x=some .cell∨sc.names.lookup x=some .free
def Loc (sc:Scope)(x:Str):Prop:=sc.names.lookup x=some .local∨sc.names.lookup x=some .cell
def Ee (env:Env)(h:Heap)(m:Str→Option Value)(x:Str)(u:Value):Prop :=
 (env.kindOf x=some .local∧m x=some u)∨((env.kindOf x=some .cell∨env.kindOf x=some .free)∧∃c,env.cells.lookup x=some c∧h.IsCell c (some u))
structure Cx.Ok (X:Cx):Prop where
 mod:Mod X.K X.mg X.base
 kind:X.env.scope.kind=.function
 glob:X.env.globals=mainGlobals
 blt:X.env.builtins=builtinsNs
 above:X.s_0.heap.objs.size≤X.env.locals
 inj:∀x y c,X.env.cells.lookup x=some c→X.env.cells.lookup y=some c→x=y
 has:∀x,(X.env.kindOf x=some .cell∨X.env.kindOf x=some .free)→∃c,X.env.cells.lookup x=some c
 cab:∀x c,X.fn x=true→X.env.cells.lookup x=some c→X.s_0.heap.objs.size≤c
 hd:X.calm=true→X.A.handled=none
 frames:X.A.frames=some X.stack
 stk:X.stack=X.outer∨(X.stack=X.env :: X.outer∧X.env.frame=some X.env.locals)
 exf:∀b∈X.ex,b≠X.env.locals∧∀x c,X.env.cells.lookup x=some c→c≠b
 bs:∀b o,X.base.get? b=some o→X.s_0.heap.get? b=some o∧X.H_0 b=none
 bsz:X.base.objs.size≤X.s_0.heap.objs.size
 noex:∀b o,X.base.get? b=some o→b∉X.ex
 exfs:∀b∈X.ex,b∉X.fs
 funs:X.s_0.heap.FunFrames X.base X.outer
 frf:∀b∈X.fs,X.H_0 b=none
structure Inv (X:Cx)(pins:List (Addr×Obj))(σ:List (Option V))(H:Hp)(s:Shared):Prop where
 ok:X.Ok
 os:s.os=X.s_0.os
 bare:AllBare s.gens
 base:Un X.fs X.ex X.H_0 H X.s_0.heap s.heap
 loc:∃m,s.heap.Ns X.env.locals m∧∀(i:Nat) (x:Str) (v:V),X.N[i]? = some x→σ[i]? = some (some v)→Vis X.env.scope x→∃u,aZ v u∧Ee X.env s.heap m x u
 cell:∀x c,X.env.cells.lookup x=some c→∃v,s.heap.IsCell c v
 free:H X.env.locals=none
 freeC:∀x c,X.env.cells.lookup x=some c→H c=none
 pin:∀p∈X.pn++pins,s.heap.get? p.1=some p.2∧H p.1=none∧p.1≠X.env.locals∧p.1∉X.fs∧∀v,p.2.data≠.cell v
 hok:HOk X.prog X.w H s.heap
 len:σ.length=X.N.length
section
variable  {X:Cx}{pins:List (Addr×Obj)}{σ:List (Option V)}{H H':Hp}{s:Shared}{h':Heap}
theorem Cx.Ok.nofr (ok:X.Ok){b:Addr}{o:Obj}(e:X.base.get? b=some o):b∉X.fs:=fun hb=>by
 have:=(ok.funs.mem hb).1
 rw[e]at this;cases this
theorem Inv.bs (I:Inv X pins σ H s):∀b o,X.base.get? b=some o→s.heap.get? b=some o∧H b=none:=fun b o e =>
 ⟨I.base.keep b o (I.ok.bs b o e).1 (I.ok.bs b o e).2 (I.ok.nofr e) (I.ok.noex b o e),I.base.free b o (I.ok.bs b o e).1 (I.ok.bs b o e).2 (I.ok.noex b o e)⟩
theorem Inv.bk (I:Inv X pins σ H s):∀b o,X.base.get? b=some o→s.heap.get? b=some o:=fun b o e=>(I.bs b o e).1
theorem Inv.mod (I:Inv X pins σ H s):Mod X.K X.mg X.base:=I.ok.mod
theorem Inv.kIn (I:Inv X pins σ H s):X.K.In s.heap:=I.ok.mod.kin.keeps I.bk
theorem Inv.fr (I:Inv X pins σ H s):∃m,Fr X.base X.env.locals s.heap m :=
 let ⟨m,hn,_⟩:=I.loc
 ⟨m,hn,I.bk,Nat.le_trans I.ok.bsz I.ok.above⟩
theorem Inv.lt (I:Inv X pins σ H s):X.env.locals<s.heap.objs.size:=let ⟨_,hn,_⟩:=I.loc;hn.lt
theorem Inv.sz (I:Inv X pins σ H s):X.s_0.heap.objs.size≤s.heap.objs.size:=Nat.le_trans I.ok.above (Nat.le_of_lt I.lt)
theorem Inv.nofs (I:Inv X pins σ H s){a:Addr}(h:s.heap.objs.size≤a):a∉X.fs:=fun hb=>by
 obtain⟨_,o,ho,_⟩:=I.ok.funs.mem hb
 exact absurd (Nat.lt_of_lt_of_le (Heap.lt_size ho) (Nat.le_trans I.sz h)) (Nat.lt_irrefl _)
theorem Inv.cne (I:Inv X pins σ H s):∀x c,X.env.cells.lookup x=some c→c≠X.env.locals:=fun x c e z=>by
 obtain⟨v,o,ho,hd⟩:=I.cell x c e
 obtain⟨m,⟨o',es,ep,ho',hd',_⟩,_⟩:=I.loc
 rw[z,ho']at ho;cases ho;rw[hd']at hd;cases hd
theorem Inv.funs (I:Inv X pins σ H s):s.heap.FunFrames X.base X.outer:=by
 have all:∀(l:List Env),(∀b∈frs l,b∈X.fs)→X.s_0.heap.FunFrames X.base l→s.heap.FunFrames X.base l:=by
  intro l
  induction l with
  |nil=>intro _ _;trivial
  |cons env r ih =>
   intro hs hl
   obtain⟨hk,⟨L,o,hf,hn,ho,hd⟩,hr⟩:=hl
   have hL:L∈X.fs:=hs L (by unfold frs;rw[List.filterMap_cons,hf];exact List.mem_cons_self)
   obtain⟨sl,e⟩:=I.base.slot L o ho (I.ok.frf L hL) hL fun z=>I.ok.exfs L z hL
   exact⟨hk,⟨L,_,hf,hn,e,hd⟩,ih (fun b hb=>hs b (by unfold frs;rw[List.filterMap_cons,hf];exact List.mem_cons_of_mem _ hb)) hr⟩
 exact all X.outer (fun _ hb=>hb) I.ok.funs
theorem Inv.stack (I:Inv X pins σ H s):s.heap.FunFrames X.base X.stack:=by
 rcases I.ok.stk with e|⟨e,hf⟩
 ·rw[e];exact I.funs
 ·rw[e]
  obtain⟨m,hn,_⟩:=I.loc
  refine .cons (by rw[I.ok.kind];decide) hf hn ?_ I.funs
  exact Heap.get?_none_of_le (Nat.le_trans I.ok.bsz I.ok.above)
theorem Inv.stkSub (I:Inv X pins σ H s):∀b∈frs X.stack,b∈X.env.locals :: X.fs:=fun b hb=>by
 rcases I.ok.stk with e|⟨e,hf⟩
 ·rw[e]at hb;exact List.mem_cons_of_mem _ hb
 ·rw[e]at hb
  unfold frs at hb
  rw[List.filterMap_cons,hf]at hb
  exact hb
theorem Inv.stkFree (I:Inv X pins σ H s):∀b∈frs X.stack,H b=none:=fun b hb=>by
 rcases List.mem_cons.mp (I.stkSub b hb) with e|hb
 ·rw[e];exact I.free
 ·obtain⟨_,o,ho,_⟩:=I.ok.funs.mem hb
  exact I.base.free b o ho (I.ok.frf b hb) fun z=>I.ok.exfs b z hb
theorem Inv.step {g':Array GenState}{t':Nat}{d':Drawn}{ch:List Addr}(I:Inv X pins σ H s)
  (hch:∀b∈ch,(b∈X.ex∨X.s_0.heap.objs.size≤b)∧b≠X.env.locals∧(∀x c,X.env.cells.lookup x=some c→c≠b)∧∀p∈X.pn++pins,p.1≠b)
  (keep:∀b o,b≠X.env.locals→b∉X.fs→b∉ch→s.heap.get? b=some o→H b=none→h'.get? b=some o)
  (slot:∀b o,b≠X.env.locals→b∈X.fs→b∉ch→s.heap.get? b=some o→H b=none→∃sl,h'.get? b=some { o with slots:=sl }) (free:∀b o,b∉ch→s.heap.get? b=some o→H b=none→H' b=none)
  (there:∀b o,b∉ch→s.heap.get? b=some o→∃o',h'.get? b=some o')
  (tups:∀b xs,H b=some (.tup xs)→H' b=some (.tup xs)) (frzs:∀b o u,H b=some (.frz o u)→H' b=some (.frz o u)) (tbls:∀b ps,H b=some (.tbl ps)→∃more,H' b=some (.tbl (ps++more)))
  (ns:∀m,s.heap.Ns X.env.locals m→h'.Ns X.env.locals m) (hok:HOk X.prog X.w H' h') (hg:AllBare g') :
  Inv X pins σ H' { s with heap:=h',gens:=g',drawn:=d',toks:=t' }:=by
 have neL:∀b o,X.s_0.heap.get? b=some o→b≠X.env.locals:=fun b o e=>Nat.ne_of_lt (Nat.lt_of_lt_of_le (Heap.lt_size e) I.ok.above)
 have neC:∀b o,X.s_0.heap.get? b=some o→b∉X.ex→b∉ch:=fun b o e hx hb=>by
  rcases(hch b hb).1 with z|z
  ·exact hx z
  ·exact absurd (Nat.lt_of_lt_of_le (Heap.lt_size e) z) (Nat.lt_irrefl _)
 have cellK:∀x c,X.env.cells.lookup x=some c→∀v,s.heap.IsCell c v→h'.IsCell c v:=fun x c e v ⟨o,ho,hd⟩=>by
  have nch:c∉ch:=fun z=>(hch c z).2.2.1 x c e rfl
  by_cases hc:c∈X.fs
  ·obtain⟨sl,q⟩:=slot c o (I.cne x c e) hc nch ho (I.freeC x c e)
   exact⟨_,q,hd⟩
  ·exact⟨o,keep c o (I.cne x c e) hc nch ho (I.freeC x c e),hd⟩
 refine⟨I.ok,I.os,hg,⟨fun b o e n hb hx=>?_,fun b o e n hb hx=>?_,fun b o e n hx=>?_,fun b o e hx=>?_,fun b xs e=>tups b xs (I.base.tups b xs e),fun b o xs e=>frzs b o xs (I.base.frzs b o xs e),fun b ps e=>?_⟩,?_,fun x c e=>?_,?_,fun x c e=>?_,fun p hp=>?_,hok,I.len⟩
 ·exact keep b o (neL b o e) hb (neC b o e hx) (I.base.keep b o e n hb hx) (I.base.free b o e n hx)
 ·obtain⟨sl,e1⟩:=I.base.slot b o e n hb hx
  obtain⟨sl',e2⟩:=slot b _ (neL b o e) hb (neC b o e hx) e1 (I.base.free b o e n hx)
  exact⟨sl',e2⟩
 ·obtain⟨o',e1⟩:=I.base.there b o e hx
  exact free b o' (neC b o e hx) e1 (I.base.free b o e n hx)
 ·obtain⟨o',e1⟩:=I.base.there b o e hx
  exact there b o' (neC b o e hx) e1
 ·obtain⟨m1,e1⟩:=I.base.tbls b ps e
  obtain⟨m2,e2⟩:=tbls b _ e1
  exact⟨m1++m2,by rw[e2,Array.append_assoc]⟩
 ·obtain⟨m,hn,hl⟩:=I.loc
  refine⟨m,ns m hn,fun i x v e1 e2 e3=>?_⟩
  obtain⟨u,r,l⟩:=hl i x v e1 e2 e3
  refine⟨u,r,?_⟩
  rcases l with l|⟨k,c,e,z⟩
  ·exact .inl l
  ·exact .inr ⟨k,c,e,cellK x c e _ z⟩
 ·obtain⟨v,z⟩:=I.cell x c e
  exact⟨v,cellK x c e v z⟩
 ·obtain⟨m,⟨o,_,_,ho,_⟩,_⟩:=I.loc
  exact free _ o (fun z=>(hch _ z).2.1 rfl) ho I.free
 ·obtain⟨v,o,ho,hd⟩:=I.cell x c e
  exact free c o (fun z=>(hch c z).2.2.1 x c e rfl) ho (I.freeC x c e)
 ·obtain⟨e,n,ne,nf,d⟩:=I.pin p hp
  have nch:p.1∉ch:=fun z=>(hch p.1 z).2.2.2 p hp rfl
  exact⟨keep p.1 p.2 ne nf nch e n,free p.1 p.2 nch e n,ne,nf,d⟩
theorem Inv.un {t':Nat}(I:Inv X pins σ H s)(u:Un X.fs [] H H' s.heap h')(hok:HOk X.prog X.w H' h'):Inv X pins σ H' { s with heap:=h',toks:=t' }:=by
 obtain⟨m,⟨o,es,ep,ho,r⟩,_⟩:=id I.loc
 obtain⟨sl,hL⟩:=u.any ho I.free (by simp)
 exact I.step (g':=s.gens) (d':=s.drawn) (ch:=[]) (fun _ z=>nomatch z) (fun b o _ hb _ e n=>u.keep b o e n hb (by simp)) (fun b o _ hb _ e n=>u.slot b o e n hb (by simp)) (fun b o _ e n=>u.free b o e n (by simp)) (fun b o _ e=>u.there b o e (by simp)) u.tups u.frzs u.tbls (fun m' hm=>by
  obtain⟨o',es',ep',ho',r'⟩:=hm
  rw[ho]at ho';cases ho'
  exact⟨_,es',ep',hL,r'⟩) hok I.bare
theorem Inv.call {g':Array GenState}{t':Nat}{d':Drawn}{ch:List Addr}(I:Inv X pins σ H s)(u:Un (frs X.stack) ch H H' s.heap h')(hok:HOk X.prog X.w H' h')(hg:AllBare g')
  (hch:∀b∈ch,(b∈X.ex∨X.s_0.heap.objs.size≤b)∧b≠X.env.locals∧(∀x c,X.env.cells.lookup x=some c→c≠b)∧∀p∈X.pn++pins,p.1≠b) :
  Inv X pins σ H' { s with heap:=h',gens:=g',drawn:=d',toks:=t' }:=by
 obtain⟨m,⟨o,es,ep,ho,r⟩,_⟩:=id I.loc
 obtain⟨sl,hL⟩:=u.any ho I.free fun z=>(hch _ z).2.1 rfl
 exact I.step (ch:=ch) hch (fun b o hL hb hc e n=>u.keep b o e n (fun z=>(List.mem_cons.mp (I.stkSub b z)).elim hL hb) hc) (fun b o _ _ hc e n=>u.any e n hc) (fun b o hc e n=>u.free b o e n hc) (fun b o hc e=>u.there b o e hc) u.tups u.frzs u.tbls (fun m' hm=>by
  obtain⟨o',es',ep',ho',r'⟩:=hm
  rw[ho]at ho';cases ho'
  exact⟨_,es',ep',hL,r'⟩) hok hg
theorem Inv.turned {t':Nat}{it:Addr}(I:Inv X pins σ H s)(k:∀b o,b≠it→s.heap.get? b=some o→h'.get? b=some o)(hn:H it=none)(hL:it≠X.env.locals)
  (h1:it∈X.ex∨X.s_0.heap.objs.size≤it) (h2:∀x c,X.env.cells.lookup x=some c→c≠it) (h3:∀p∈X.pn++pins,p.1≠it):Inv X pins σ H { s with heap:=h',toks:=t' }:=by
 have nit:∀b u,H b=some u→b≠it:=fun b u e z=>by rw[z,hn]at e;cases e
 refine I.step (g':=s.gens) (d':=s.drawn) (ch:=[it]) (fun b hb=>?_) (fun b o _ _ hc e _=>k b o (fun z=>hc (by simp[z])) e) (fun b o _ _ hc e _=>⟨o.slots,k b o (fun z=>hc (by simp[z])) e⟩) (fun _ _ _ _ n=>n)
  (fun b o hc e=>⟨o,k b o (fun z=>hc (by simp[z])) e⟩) (fun _ _ e=>e) (fun _ _ _ e=>e) (fun b ps e=>⟨#[],by rw[e];simp⟩) (fun m hm=>?_) (fun b u e=>?_) I.bare
 ·have e:b=it:=by simpa using hb
  subst e
  exact⟨h1,hL,h2,h3⟩
 ·obtain⟨o,es,ep,ho,r⟩:=hm
  exact⟨o,es,ep,k _ o (Ne.symm hL) ho,r⟩
 ·refine(I.hok b u e).stay (fun c v hc q=>k c v ?_ q) (fun _ q=>q) fun _ _ q=>q
  rcases hc with z|z
  ·rw[z];exact nit b u e
  ·exact nit c _ z
theorem Inv.tok (I:Inv X pins σ H s)(t:Nat):Inv X pins σ H { s with toks:=t }:=I.un (h':=s.heap) (t':=t) Un.refl I.hok
theorem Inv.kept {t':Nat}(I:Inv X pins σ H s)(k:∀b u,s.heap.get? b=some u→h'.get? b=some u):Inv X pins σ H { s with heap:=h',toks:=t' }:=I.un (Un.kept k) (I.hok.kept k)
theorem Inv.laid {a:Addr}{o:HO}{t':Nat}(I:Inv X pins σ H s)(k:∀b u,s.heap.get? b=some u→h'.get? b=some u)(hp:s.heap.objs.size≤a)(new:b7 X.prog X.w (upd H a o) h' a o) :
  Inv X pins σ (upd H a o) { s with heap:=h',toks:=t' }:=I.un (Un.laid k hp (I.hok.fresh hp)) (I.hok.laid k hp new)
theorem Inv.write {x e:Addr}{o:HO}{t':Nat}(I:Inv X pins σ H s)(mu:Mut (H x))(he:e=x∨H e=some (.own x))(k:∀b u,b≠e→s.heap.get? b=some u→h'.get? b=some u)(heo:∃u,h'.get? e=some u)
  (new:b7 X.prog X.w (upd H x o) h' x o):Inv X pins σ (upd H x o) { s with heap:=h',toks:=t' }:=I.un (Un.write mu he k heo) (I.hok.write mu he k heo new)
theorem Inv.weak {σ':List (Option V)}(I:Inv X pins σ H s)(hl:σ'.length=σ.length)(w:∀(i:Nat) v,σ'[i]? = some (some v)→σ[i]? = some (some v)):Inv X pins σ' H s :=
 ⟨I.ok,I.os,I.bare,I.base,let ⟨m,hn,hl'⟩:=I.loc;⟨m,hn,fun i x v e1 e2 e3=>hl' i x v e1 (w i v e2) e3⟩,I.cell,I.free,I.freeC,I.pin,I.hok,hl.trans I.len⟩
theorem Inv.pins_of {pins':List (Addr×Obj)}(I:Inv X pins σ H s)(h:∀p∈pins',s.heap.get? p.1=some p.2∧H p.1=none∧p.1≠X.env.locals∧p.1∉X.fs∧∀v,p.2.data≠.cell v):Inv X pins' σ H s :=
 ⟨I.ok,I.os,I.bare,I.base,I.loc,I.cell,I.free,I.freeC,fun p hp=>(List.mem_append.mp hp).elim (fun z=>I.pin p (List.mem_append_left _ z)) (h p),I.hok,I.len⟩
theorem m7 {N:List Str}(hN:N.Nodup){i j:Nat}{x:Str}(a:N[i]? = some x)(b:N[j]? = some x):i=j:=by
 obtain⟨h1,e1⟩:=gsi a
 obtain⟨h2,e2⟩:=gsi b
 exact(List.getElem_inj hN).mp (e1.trans e2.symm)
theorem store_ok2 {M:Model}{A:Around}{E:Value→Shared→Prop}{i:Nat}{x:Str}{v:V}{u:Value}{Q:Unit→Shared→Prop}(I:Inv X pins σ H s)(hN:X.N.Nodup)(hi:X.N[i]? = some x)(hx:Loc X.env.scope x)(r:aZ v u)
  (h:∀s',Inv X pins (σ.set i (some v)) H s'→(∃a,Heap.SameBut a s.heap s'.heap∧(a=X.env.locals∨X.env.cells.lookup x=some a))→Q () s') (hf:X.fn x=true∨X.env.scope.names.lookup x=some .local:=by first|exact .inl rfl|exact .inr rfl|assumption):wpAny M A (storeName X.env x u) Q E s:=by
 obtain⟨m,hn,hl⟩:=id I.loc
 have hcls:(X.env.scope.kind==.class||(X.env.scope.kind==.module&&X.env.locals != X.env.globals))=false:=by rw[I.ok.kind];rfl
 have hiσ:i<σ.length:=by rw[I.len];exact(gsi hi).1
 have cne:=I.cne
 have tracked:∀{a:Addr} {h':Heap},(∃o,s.heap.get? a=some o∧H a=none)→Heap.SameBut a s.heap h'→HOk X.prog X.w H h':=fun {a h'} ha hs b ob e=>by
  obtain⟨_,_,hfree⟩:=ha
  refine(I.hok b ob e).stay (fun c w' hc q=>(hs.2 c ?_).trans q) (fun _ q=>q) fun _ _ q=>q
  rintro rfl
  rcases hc with rfl|hc
  ·rw[hfree]at e;cases e
  ·rw[hfree]at hc;cases hc
 rcases hx with hk|hk
 ·refine wpAny_storeName_local hk hn (fun h' hn' hs=>?_) hcls
  obtain⟨oL,_,_,hoL,_⟩:=id hn
  refine h _ ⟨I.ok,I.os,I.bare,⟨fun b o e n hb hx=>?_,fun b o e n hb hx=>?_,I.base.free,fun b o e hx=>?_,I.base.tups,I.base.frzs,I.base.tbls⟩,⟨_,hn',fun j y v' e1 e2 e3=>?_⟩,fun y c e=>?_,I.free,I.freeC,fun p hp=>?_,tracked ⟨oL,hoL,I.free⟩ hs,by simpa using I.len⟩ ⟨_,hs,.inl rfl⟩
  ·exact(hs.2 b (Nat.ne_of_lt (Nat.lt_of_lt_of_le (Heap.lt_size e) I.ok.above))).trans (I.base.keep b o e n hb hx)
  ·obtain⟨sl,e1⟩:=I.base.slot b o e n hb hx
   exact⟨sl,(hs.2 b (Nat.ne_of_lt (Nat.lt_of_lt_of_le (Heap.lt_size e) I.ok.above))).trans e1⟩
  ·obtain⟨o',e1⟩:=I.base.there b o e hx
   exact⟨o',(hs.2 b (Nat.ne_of_lt (Nat.lt_of_lt_of_le (Heap.lt_size e) I.ok.above))).trans e1⟩
  ·by_cases hj:j=i
   ·subst hj
    rw[hi]at e1;cases e1
    rw[List.getElem?_set_self hiσ]at e2
    cases e2
    exact⟨u,r,.inl ⟨hk,by simp⟩⟩
   ·rw[List.getElem?_set_ne (Ne.symm hj)]at e2
    obtain⟨u',r',q⟩:=hl j y v' e1 e2 e3
    refine⟨u',r',?_⟩
    rcases q with⟨k,e⟩|⟨k,c,e,z⟩
    ·refine .inl ⟨k,?_⟩
     have:y≠x:=fun e=>hj (m7 hN e1 (e▸hi))
     simp[this,e]
    ·exact .inr ⟨k,c,e,z.sameBut hs (cne y c e)⟩
  ·obtain⟨w',z⟩:=I.cell y c e
   exact⟨w',z.sameBut hs (cne y c e)⟩
  ·obtain⟨e,n,ne,nf,d⟩:=I.pin p hp
   exact⟨(hs.2 p.1 ne).trans e,n,ne,nf,d⟩
 ·have hfn:X.fn x=true:=by
   rcases hf with z|z
   ·exact z
   ·rw[z]at hk;cases hk
  obtain⟨c,hc⟩:=I.ok.has x (.inl hk)
  obtain⟨w',z⟩:=I.cell x c hc
  refine wpAny_storeName_cell I.ok.kind hk hc z (fun h' hc' hs=>?_)
  obtain⟨oc,hoc,hocd⟩:=id z
  refine h { s with heap:=h' } ⟨I.ok,I.os,I.bare,⟨fun b o e n hb hx=>?_,fun b o e n hb hx=>?_,I.base.free,fun b o e hx=>?_,I.base.tups,I.base.frzs,I.base.tbls⟩,⟨m,hn.sameBut hs (Ne.symm (cne x c hc)),fun j y v' e1 e2 e3=>?_⟩,fun y c' e=>?_,I.free,I.freeC,fun p hp=>?_,tracked ⟨oc,hoc,I.freeC x c hc⟩ hs,by simpa using I.len⟩ ⟨c,hs,.inr hc⟩
  ·exact(hs.2 b (Nat.ne_of_lt (Nat.lt_of_lt_of_le (Heap.lt_size e) (I.ok.cab x c hfn hc)))).trans (I.base.keep b o e n hb hx)
  ·obtain⟨sl,e1⟩:=I.base.slot b o e n hb hx
   exact⟨sl,(hs.2 b (Nat.ne_of_lt (Nat.lt_of_lt_of_le (Heap.lt_size e) (I.ok.cab x c hfn hc)))).trans e1⟩
  ·obtain⟨o',e1⟩:=I.base.there b o e hx
   exact⟨o',(hs.2 b (Nat.ne_of_lt (Nat.lt_of_lt_of_le (Heap.lt_size e) (I.ok.cab x c hfn hc)))).trans e1⟩
  ·by_cases hj:j=i
   ·subst hj
    rw[hi]at e1;cases e1
    rw[List.getElem?_set_self hiσ]at e2
    cases e2
    exact⟨u,r,.inr ⟨.inl hk,c,hc,hc'⟩⟩
   ·rw[List.getElem?_set_ne (Ne.symm hj)]at e2
    obtain⟨u',r',q⟩:=hl j y v' e1 e2 e3
    refine⟨u',r',?_⟩
    rcases q with q|⟨k,c',e,z'⟩
    ·exact .inl q
    ·refine .inr ⟨k,c',e,z'.sameBut hs ?_⟩
     rintro rfl
     exact hj (m7 hN e1 (I.ok.inj _ _ _ e hc▸hi))
  ·by_cases hcc:c'=c
   ·subst hcc;exact⟨_,hc'⟩
   ·obtain⟨w2,z2⟩:=I.cell y c' e
    exact⟨w2,z2.sameBut hs hcc⟩
  ·obtain⟨e,n,ne,nf,d⟩:=I.pin p hp
   refine⟨(hs.2 p.1 ?_).trans e,n,ne,nf,d⟩
   intro q
   rw[q,hoc]at e
   have q':oc=p.2:=osi e
   exact d w' (by rw[←q'];exact hocd)
theorem mJ {M:Model}{A:Around}{E:Value→Shared→Prop}{i:Nat}{x:Str}{v:V}{u:Value}{Q:Unit→Shared→Prop}(I:Inv X pins σ H s)(hN:X.N.Nodup)(hi:X.N[i]? = some x)(hx:Loc X.env.scope x)(r:aZ v u)
  (h:∀s',Inv X pins (σ.set i (some v)) H s'→Q () s') (hf:X.fn x=true∨X.env.scope.names.lookup x=some .local:=by first|exact .inl rfl|exact .inr rfl|assumption):wpAny M A (storeName X.env x u) Q E s :=
 store_ok2 I hN hi hx r (fun s' I' _=>h s' I') hf
theorem Inv.call' {s':Shared}{ch:List Addr}(I:Inv X pins σ H s)(ho:s'.os=s.os)(u:Un (frs X.stack) ch H H' s.heap s'.heap)(hok:HOk X.prog X.w H' s'.heap)(hg:AllBare s'.gens)
  (hch:∀b∈ch,(b∈X.ex∨X.s_0.heap.objs.size≤b)∧b≠X.env.locals∧(∀x c,X.env.cells.lookup x=some c→c≠b)∧∀p∈X.pn++pins,p.1≠b):Inv X pins σ H' s':=by
 obtain⟨h',g',d',t',o'⟩:=s'
 have e:o'=s.os:=ho
 subst e
 exact I.call (g':=g') (t':=t') (d':=d') u hok hg hch
end
abbrev XK:=Value→Option Addr→Hp→Prop
abbrev St:=List (Option V)
abbrev VK:=V→Hp→Prop
abbrev TE:=St→Hp→VK→Prop
abbrev TT:=St→Hp→(Bool→Hp→Prop)→Prop
abbrev TA:=St→Hp→(List V→Hp→Prop)→Prop
structure nR where
 nx:St→Hp→Prop
 rt:VK
 bk:St→Hp→Prop:=fun _ _=>False
 ct:St→Hp→Prop:=fun _ _=>False
abbrev TS:=nR→St→Hp→Prop
def EP (X:Cx)(pins:List (Addr×Obj))(σ:St)(Q:VK)(u:Value)(s':Shared):Prop:=∃v H',Inv X pins σ H' s'∧aZ v u∧Q v H'
def TP (X:Cx)(pins:List (Addr×Obj))(σ:St)(Q:Bool→Hp→Prop)(b:Bool)(s':Shared):Prop:=∃H',Inv X pins σ H' s'∧Q b H'
def AP (X:Cx)(pins:List (Addr×Obj))(σ:St)(Q:List V→Hp→Prop)(us:List Value)(s':Shared):Prop:=∃vs H',Inv X pins σ H' s'∧aT vs us∧Q vs H'
def SP (X:Cx)(pins:List (Addr×Obj))(D:nR)(f:Flow)(s':Shared):Prop :=
 match f with
 |.next=>∃σ' H',Inv X pins σ' H' s'∧D.nx σ' H'
 |.brk=>∃σ' H',Inv X pins σ' H' s'∧D.bk σ' H'
 |.cont=>∃σ' H',Inv X pins σ' H' s'∧D.ct σ' H'
 |.ret u=>∃v σ' H',Inv X pins σ' H' s'∧aZ v u∧D.rt v H'
def PE (X:Cx)(e:Expr)(t:TE):Prop :=
 ∀(pins:List (Addr×Obj)) (s:Shared) (σ:St) (H:Hp) (Q:VK),Inv X pins σ H s→t σ H Q→wpAny (model X.prog X.w) X.A (eval e X.env) (EP X pins σ Q) X.xe s
def PT (X:Cx)(e:Expr)(t:TT):Prop :=
 ∀(pins:List (Addr×Obj)) (s:Shared) (σ:St) (H:Hp) (Q:Bool→Hp→Prop),Inv X pins σ H s→t σ H Q→wpAny (model X.prog X.w) X.A (isTrue e X.env (eval e X.env)) (TP X pins σ Q) X.xe s
def PW (X:Cx)(e:Expr)(t:TT):Prop :=
 ∀(whole:Sem Value) (pins:List (Addr×Obj)) (s:Shared) (σ:St) (H:Hp) (Q:Bool→Hp→Prop),Inv X pins σ H s→t σ H Q→wpAny (model X.prog X.w) X.A (isTrue e X.env whole) (TP X pins σ Q) X.xe s
theorem PW.pt {X:Cx}{e:Expr}{t:TT}(h:PW X e t):PT X e t:=h _
def PA (X:Cx)(es:List Expr)(t:TA):Prop :=
 ∀(pos:Pos) (pins:List (Addr×Obj)) (s:Shared) (σ:St) (H:Hp) (Q:List V→Hp→Prop),Inv X pins σ H s→t σ H Q→wpAny (model X.prog X.w) X.A (spliced (backTo pos (starEach es X.env))) (AP X pins σ Q) X.xe s
def PS (X:Cx)(st:Stmt)(t:TS):Prop :=
 ∀(pins:List (Addr×Obj)) (s:Shared) (σ:St) (H:Hp) (D:nR),Inv X pins σ H s→t D σ H→wpAny (model X.prog X.w) X.A (exec st X.env) (SP X pins D) X.xe s
def PSs (X:Cx)(st:List Stmt)(t:TS):Prop :=
 ∀(pins:List (Addr×Obj)) (s:Shared) (σ:St) (H:Hp) (D:nR),Inv X pins σ H s→t D σ H→wpAny (model X.prog X.w) X.A (execs st X.env) (SP X pins D) X.xe s
theorem thn {α:Type}{t:Sem α}{Q Q':α→Shared→Prop}{M:Model}{A:Around}{E:Value→Shared→Prop}{s:Shared}(h:wpAny M A t Q E s)(hQ:∀a s,Q a s→Q' a s):wpAny M A t Q' E s:=wpAny_mono h hQ fun _ _ x=>x
end L2
namespace L2
open PySem PySem.Spec PyProof.Rows
section
variable  {X:Cx}
theorem bin {a b:Expr}{ta tb:TE}(ha:PE X a ta)(hb:PE X b tb){pins:List (Addr×Obj)}{s:Shared}{σ:St}{H:Hp}{R:V→V→Hp→Prop}(I:Inv X pins σ H s)(h:ta σ H fun x H1=>tb σ H1 fun y H2=>R x y H2)
  {α:Type} {Q:α→Shared→Prop} {f:Value→Value→Sem α}
  (hf:∀v u s2 x y H2,Inv X pins σ H2 s2→aZ x v→aZ y u→R x y H2→wpAny (model X.prog X.w) X.A (f v u) Q X.xe s2) :
  wpAny (model X.prog X.w) X.A (eval a X.env) (fun v s₁=>wpAny (model X.prog X.w) X.A (eval b X.env) (fun u s₂=>wpAny (model X.prog X.w) X.A (f v u) Q X.xe s₂) X.xe s₁) X.xe s:=by
 refine thn (ha pins s σ H _ I h) fun v s1 ⟨x,H1,I1,r1,q1⟩=>?_
 refine thn (hb pins s1 σ H1 _ I1 q1) fun u s2 ⟨y,H2,I2,r2,q2⟩=>?_
 exact hf v u s2 x y H2 I2 r1 r2 q2
def a8 (i:Nat):TE:=fun σ H Q=>∃v,σ[i]? = some (some v)∧Q v H
def tC (v:V):TE:=fun _ H Q=>Q v H
theorem AD {i:Nat}{x:Str}{pos:Pos}(hN:X.N[i]? = some x)(hv:Vis X.env.scope x) (hd:(x==("__debug__" : Str))=false:=by decide) (hcd:(x==("__classdict__" : Str))=false:=by decide):PE X (.Name x pos) (a8 i):=by
 intro pins s σ H Q I h
 obtain⟨v,e,h⟩:=h
 obtain⟨m,hn,hl⟩:=I.loc
 obtain⟨u,r,l⟩:=hl i x v hN e hv
 have fin:EP X pins σ Q u s:=⟨v,H,I,r,h⟩
 rcases l with⟨hk,hm⟩|⟨hk,c,hc,hcell⟩
 ·exact wpAny_Name (wpAny_loadName_local I.ok.kind hk hn hm fin) hd
 ·rcases hk with hk|hk
  ·exact wpAny_Name (wpAny_loadName_cell I.ok.kind hk hc hcell fin) hd
  ·exact wpAny_Name (wpAny_loadName_free I.ok.kind hk hc hcell fin hcd) hd
theorem ag {i j pos}:PE X (.Constant (.int i) j pos) (tC (.int i)):=fun _ _ _ H _ I h=>wpAny_Constant_int ⟨.int i,H,I.tok _,⟨_,rfl⟩,h⟩
theorem el {b j pos}:PE X (.Constant (.bool b) j pos) (tC (.bl b)):=fun _ _ _ H _ I h=>Constant_bool ⟨.bl b,H,I,rfl,h⟩
theorem bc {j pos}:PE X (.Constant .none j pos) (tC .non):=fun _ _ _ H _ I h=>Constant_none ⟨.non,H,I,rfl,h⟩
def Gl (X:Cx)(x:Str):Prop:=X.env.kindOf x=some .globalImplicit
theorem qb {E:Value→Shared→Prop}{pins:List (Addr×Obj)}{s:Shared}{σ:St}{H:Hp}{x:Str}{u:Value}{pos:Pos}{Q:Value→Shared→Prop}(I:Inv X pins σ H s)(hg:Gl X x)(hm:X.mg x=some u)(h:Q u s)
  (hd:(x==("__debug__" : Str))=false:=by decide):wpAny (model X.prog X.w) X.A (eval (.Name x pos) X.env) Q E s :=
 Calls.Name_function_global I.ok.kind hg (Calls.loadGlobal_global (by rw[I.ok.glob];exact I.mod.glob.keeps I.bk) hm h) hd
theorem gC {E:Value→Shared→Prop}{pins:List (Addr×Obj)}{s:Shared}{σ:St}{H:Hp}{x:Str}{u:Value}{pos:Pos}{Q:Value→Shared→Prop}(I:Inv X pins σ H s)(hg:Gl X x)(hm:X.mg x=none)(hv:bootBuiltins x=some u)(h:Q u s)
  (hn:x≠"__name__":=by decide) (hd:(x==("__debug__" : Str))=false:=by decide):wpAny (model X.prog X.w) X.A (eval (.Name x pos) X.env) Q E s:=by
 obtain⟨mb,h1,h2⟩:=I.mod.blt
 exact Calls.Name_function_global I.ok.kind hg (Calls.loadGlobal_builtin (by rw[I.ok.glob];exact I.mod.glob.keeps I.bk) hm (by rw[I.ok.blt];exact h1.keeps I.bk) ((h2 x hn).trans hv) h) hd
theorem pX {x:Str}{v:V}{u:Value}{pos:Pos}(hg:Gl X x)(hm:X.mg x=some u)(r:aZ v u) (hd:(x==("__debug__" : Str))=false:=by decide):PE X (.Name x pos) (tC v) :=
 fun _ _ _ H _ I h=>qb I hg hm ⟨v,H,I,r,h⟩ hd
variable  {a b:Expr}{ta tb:TE}{pos:Pos}
def PC (X:Cx)(op:CmpOp)(a b:Expr)(t:TE):Prop :=
 ∀(pins:List (Addr×Obj)) (s:Shared) (σ:St) (H:Hp) (Q:VK),Inv X pins σ H s→t σ H Q →
  wpAny (model X.prog X.w) X.A (eval a X.env) (fun v s₁=>wpAny (model X.prog X.w) X.A (eval b X.env) (fun u s₂=>wpAny (model X.prog X.w) X.A (compareOp op v u) (EP X pins σ Q) X.xe s₂) X.xe s₁) X.xe s
theorem wR (b:Expr){op:CmpOp}(h:op≠.In)(h2:op≠.NotIn):behindInMarks op b=false:=by
 have e1:(op==CmpOp.In)=false:=by cases op<;>first|rfl|exact absurd rfl h
 have e2:(op==CmpOp.NotIn)=false:=by cases op<;>first|rfl|exact absurd rfl h2
 cases b<;>simp[behindInMarks,e1,e2]
def tB (t:TE):TT:=fun σ H Q=>t σ H fun x H1=>∃c,x=.bl c∧Q c H1
theorem sK {op:CmpOp}{t:TE}(h:PC X op a b t)(h1:behindInMarks op b=false:=by first|exact wR _ (by decide) (by decide)|rfl):PT X (.Compare a [op] [b] pos) (tB t):=by
 intro pins s σ H Q I hw
 refine wpAny_isTrue_Compare1 (thn (h pins s σ H _ I hw) fun v s1 h1=>thn h1 fun u s2 h2=>thn h2 fun c s3 ⟨x,H1,I1,r1,q1⟩=>?_) h1
 obtain⟨d,rfl,q⟩:=q1
 cases r1
 exact wpAny_truthy_bool ⟨H1,I1,q⟩
theorem cI {e:Expr}{t:TE}(h:PE X e t)(he:∀whole,isTrue e X.env whole=(do let v ←whole;standAt e.pos;holding [v] (truthy v)):=by intro _;rfl):PT X e (tB t):=by
 intro pins s σ H Q I hw
 refine isTrue_plain (thn (h pins s σ H _ I hw) fun v s1 ⟨x,H1,I1,r1,q1⟩=>?_) (he _)
 obtain⟨d,rfl,q⟩:=q1
 cases r1
 exact wpAny_truthy_bool ⟨H1,I1,q⟩
variable  {tA tB':TT}{gK:List Expr}
def zk (t u:TT):TT:=fun σ H Q=>t σ H fun c H1=>if c=true then u σ H1 Q else Q false H1
def tOr (t u:TT):TT:=fun σ H Q=>t σ H fun c H1=>if c=true then Q true H1 else u σ H1 Q
def A2 (t:TT):TT:=fun σ H Q=>t σ H fun c H1=>Q (!c) H1
theorem ij (ha:PT X a tA):PW X (.BoolOp .And [a] pos) tA:=by
 intro wh pins s σ H Q I h
 refine isTrue_and (thn (ha pins s σ H Q I h) fun c s1 e=>?_)
 cases c with
 |true=>exact isTrue_and_nil e
 |false=>exact e
theorem jN (ha:PT X a tA):PW X (.BoolOp .Or [a] pos) tA:=by
 intro wh pins s σ H Q I h
 refine isTrue_or (thn (ha pins s σ H Q I h) fun c s1 e=>?_)
 cases c with
 |false=>exact isTrue_or_nil e
 |true=>exact e
theorem iQ (ha:PT X a tA)(hb:PW X (.BoolOp .And (b :: gK) pos) tB'):PW X (.BoolOp .And (a :: b :: gK) pos) (zk tA tB'):=by
 intro wh pins s σ H Q I h
 refine isTrue_and (thn (ha pins s σ H _ I h) fun c s1 ⟨H1,I1,q1⟩=>?_)
 cases c with
 |true=>exact hb wh pins s1 σ H1 Q I1 q1
 |false=>exact⟨H1,I1,q1⟩
theorem mZ (ha:PT X a tA)(hb:PW X (.BoolOp .Or (b :: gK) pos) tB'):PW X (.BoolOp .Or (a :: b :: gK) pos) (tOr tA tB'):=by
 intro wh pins s σ H Q I h
 refine isTrue_or (thn (ha pins s σ H _ I h) fun c s1 ⟨H1,I1,q1⟩=>?_)
 cases c with
 |true=>exact⟨H1,I1,q1⟩
 |false=>exact hb wh pins s1 σ H1 Q I1 q1
theorem jM (ha:PT X a tA):PT X (.UnaryOp .Not a pos) (A2 tA):=by
 intro pins s σ H Q I h
 exact isTrue_not (ha pins s σ H (fun c H1=>Q (!c) H1) I h)
def zO (ta tb:TE):TE:=fun σ H Q=>ta σ H fun x H1=>∃c,x=.bl c∧if c=true then tb σ H1 Q else Q (.bl false) H1
def Ei (ta tb:TE):TE:=fun σ H Q=>ta σ H fun x H1=>∃c,x=.bl c∧if c=true then Q (.bl true) H1 else tb σ H1 Q
def CD (ta:TE):TE:=fun σ H Q=>ta σ H fun x H1=>∃c,x=.bl c∧Q (.bl (!c)) H1
theorem eQ {op}{t:TE}(h:PE X a t):PE X (.BoolOp op [a] pos) t:=fun pins s σ H Q I hw=>BoolOp_one (h pins s σ H Q I hw)
theorem iI (ha:PE X a ta)(hb:PE X (.BoolOp .And (b :: gK) pos) tb):PE X (.BoolOp .And (a :: b :: gK) pos) (zO ta tb):=by
 intro pins s σ H Q I h
 refine BoolOp_and (thn (ha pins s σ H _ I h) fun v s1 ⟨x,H1,I1,r1,q1⟩=>?_)
 obtain⟨c,rfl,q1⟩:=q1
 cases r1
 refine wpAny_truthy_bool ?_
 cases c with
 |true=>exact hb pins s1 σ H1 Q I1 q1
 |false=>exact⟨.bl false,H1,I1,rfl,q1⟩
theorem qG (ha:PE X a ta)(hb:PE X (.BoolOp .Or (b :: gK) pos) tb):PE X (.BoolOp .Or (a :: b :: gK) pos) (Ei ta tb):=by
 intro pins s σ H Q I h
 refine BoolOp_or (thn (ha pins s σ H _ I h) fun v s1 ⟨x,H1,I1,r1,q1⟩=>?_)
 obtain⟨c,rfl,q1⟩:=q1
 cases r1
 refine wpAny_truthy_bool ?_
 cases c with
 |false=>exact hb pins s1 σ H1 Q I1 q1
 |true=>exact⟨.bl true,H1,I1,rfl,q1⟩
theorem wF (ha:PE X a ta):PE X (.UnaryOp .Not a pos) (CD ta):=by
 intro pins s σ H Q I h
 refine UnaryOp_ (thn (ha pins s σ H _ I h) fun v s1 ⟨x,H1,I1,r1,q1⟩=>?_)
 obtain⟨c,rfl,q1⟩:=q1
 cases r1
 exact not_of (wpAny_truthy_bool ⟨.bl (!c),H1,I1,rfl,q1⟩)
def tIf (t:TT)(ta tb:TE):TE:=fun σ H Q=>t σ H fun c H1=>if c=true then ta σ H1 Q else tb σ H1 Q
theorem xz {c:Expr}(hc:PT X c tA)(ha:PE X a ta)(hb:PE X b tb):PE X (.IfExp c a b pos) (tIf tA ta tb):=by
 intro pins s σ H Q I h
 refine wpAny_IfExp (thn (hc pins s σ H _ I h) fun d s1 ⟨H1,I1,q1⟩=>?_)
 cases d with
 |true=>exact ha pins s1 σ H1 Q I1 q1
 |false=>exact hb pins s1 σ H1 Q I1 q1
end
end L2
namespace L2
open PySem PySem.Spec PyProof.Rows
def SqL (K:Frag)(H:Hp)(a:Addr)(xs:List V):Prop :=
 Rd H a (.lst xs) ∨
  ∃(o:Obj) (its:Array Value) (n:Nat),K.lookup a=some o∧o.cls=.type "list"∧o.dict=none∧o.data=.seq its n∧its.size≤sizeLine∧aT xs its.toList
def SqT (K:Frag)(H:Hp)(a:Addr)(xs:List V):Prop :=
 Rd H a (.tup xs) ∨
  ∃(o:Obj) (its:Array Value) (n:Nat),K.lookup a=some o∧o.cls=.type "tuple"∧o.data=.seq its n∧its.size≤sizeLine∧aT xs its.toList
def DS:Value→Option V
 |.none=>some .non
 |.bool b=>some (.bl b)
 |.int i _=>some (.int i)
 |.str x _=>some (.str x)
 |.bytes b _=>some (.byt b)
 |.float b _=>some (.flt b)
 |.ref a=>some (.ref a)
 |.type n=>some (.ty n)
 |_=>none
theorem aZ.abs {x:V}{u:Value}(r:aZ x u):DS u=some x:=by
 cases x with
 |non=>cases r;rfl
 |bl _=>cases r;rfl
 |int _=>obtain⟨t,rfl⟩:=r;rfl
 |str _=>obtain⟨t,rfl⟩:=r;rfl
 |byt _=>obtain⟨t,rfl⟩:=r;rfl
 |flt _=>obtain⟨t,rfl⟩:=r;rfl
 |ref _=>cases r;rfl
 |ty _=>cases r;rfl
theorem aZ.inj {x y:V}{u:Value}(r:aZ x u)(q:aZ y u):x=y:=osi (r.abs.symm.trans q.abs)
theorem aT.inj:∀{xs ys:List V} {us:List Value},aT xs us→aT ys us→xs=ys
 |_,_,_,.nil,.nil=>rfl
 |_,_,_,.cons r t,.cons r' t'=>by rw[r.inj r',aT.inj t t']
section
variable  {X:Cx}{pins:List (Addr×Obj)}{σ:St}{H:Hp}{s:Shared}{a:Addr}{xs ys:List V}
theorem SqL.of {K:Frag}(h:H a=some (.lst xs)):SqL K H a xs:=.inl (.inl h)
theorem SqT.of {K:Frag}(h:H a=some (.tup xs)):SqT K H a xs:=.inl (.inl h)
theorem Inv.list (I:Inv X pins σ H s)(h:SqL X.K H a xs):∃its:List Value,aT xs its∧PlainL s.heap a its.toArray∧xs.length≤sizeLine:=by
 rcases h with h|⟨o,its,n,hk,hc,hd,hs,hz,r⟩
 ·obtain⟨z,its,n,r,e⟩:=h.ok I.hok
  exact⟨its,r,⟨_,n,e,rfl,rfl,rfl⟩,z⟩
 ·refine⟨its.toList,r,⟨o,n,I.kIn a o hk,hc,hd,by simpa using hs⟩,?_⟩
  have e:=r.length
  simp only[Array.length_toList]at e
  omega
theorem Inv.tuple (I:Inv X pins σ H s)(h:SqT X.K H a xs):∃its:List Value,aT xs its∧IsTup s.heap a its.toArray∧xs.length≤sizeLine:=by
 rcases h with h|⟨o,its,n,hk,hc,hs,hz,r⟩
 ·obtain⟨z,its,r,p⟩:=h.ok I.hok
  exact⟨its,r,p,z⟩
 ·refine⟨its.toList,r,⟨o,I.kIn a o hk,hc,n,by simpa using hs⟩,?_⟩
  have e:=r.length
  simp only[Array.length_toList]at e
  omega
theorem Inv.list_inj (I:Inv X pins σ H s)(h:SqL X.K H a xs)(h':SqL X.K H a ys):xs=ys:=by
 obtain⟨its,r,⟨o,n,e,_,_,d⟩,_⟩:=I.list h
 obtain⟨its',r',⟨o',n',e',_,_,d'⟩,_⟩:=I.list h'
 rw[e]at e';cases e'
 rw[d]at d'
 injection d' with d1 _
 have:its=its':=by simpa using congrArg Array.toList d1
 subst this
 exact r.inj r'
theorem Inv.tuple_inj (I:Inv X pins σ H s)(h:SqT X.K H a xs)(h':SqT X.K H a ys):xs=ys:=by
 obtain⟨its,r,⟨o,e,_,n,d⟩,_⟩:=I.tuple h
 obtain⟨its',r',⟨o',e',_,n',d'⟩,_⟩:=I.tuple h'
 rw[e]at e';cases e'
 rw[d]at d'
 injection d' with d1 _
 have:its=its':=by simpa using congrArg Array.toList d1
 subst this
 exact r.inj r'
end
abbrev Cx.wish (X:Cx)(E:Value→Shared→Prop):Cx:={ X with xe:=E }
abbrev Cx.nox (X:Cx):Cx:=X.wish fun _ _=>False
theorem Cx.Ok.wish {X:Cx}(ok:X.Ok)(E:Value→Shared→Prop):(X.wish E).Ok :=
 ⟨ok.mod,ok.kind,ok.glob,ok.blt,ok.above,ok.inj,ok.has,ok.cab,ok.hd,ok.frames,ok.stk,ok.exf,ok.bs,ok.bsz,ok.noex,ok.exfs,ok.funs,ok.frf⟩
theorem Cx.Ok.unwish {X:Cx}{E:Value→Shared→Prop}(ok:(X.wish E).Ok):X.Ok :=
 ⟨ok.mod,ok.kind,ok.glob,ok.blt,ok.above,ok.inj,ok.has,ok.cab,ok.hd,ok.frames,ok.stk,ok.exf,ok.bs,ok.bsz,ok.noex,ok.exfs,ok.funs,ok.frf⟩
section
variable  {X:Cx}{pins:List (Addr×Obj)}{σ:St}{H:Hp}{s:Shared}{E:Value→Shared→Prop}
theorem Inv.wish (I:Inv X pins σ H s)(E:Value→Shared→Prop):Inv (X.wish E) pins σ H s:=⟨I.ok.wish E,I.os,I.bare,I.base,I.loc,I.cell,I.free,I.freeC,I.pin,I.hok,I.len⟩
theorem Inv.unwish (I:Inv (X.wish E) pins σ H s):Inv X pins σ H s:=⟨I.ok.unwish,I.os,I.bare,I.base,I.loc,I.cell,I.free,I.freeC,I.pin,I.hok,I.len⟩
theorem SP.unwish {D:nR}{f:Flow}{s':Shared}(h:SP (X.wish E) pins D f s'):SP X pins D f s':=by
 cases f with
 |next=>obtain⟨σ',H',I,q⟩:=h;exact⟨σ',H',I.unwish,q⟩
 |brk=>obtain⟨σ',H',I,q⟩:=h;exact⟨σ',H',I.unwish,q⟩
 |cont=>obtain⟨σ',H',I,q⟩:=h;exact⟨σ',H',I.unwish,q⟩
 |ret u=>obtain⟨v,σ',H',I,r,q⟩:=h;exact⟨v,σ',H',I.unwish,r,q⟩
theorem PSs.nox {st:List Stmt}{t:TS}(h:PSs X.nox st t):PSs X st t:=fun pins s σ H D I hw =>
 wpAny_mono (h pins s σ H D (I.wish _) hw) (fun _ _ q=>q.unwish) fun _ _ z=>False.elim z
end
section
variable  {X:Cx}{st:Stmt}{gK:List Stmt}{t u:TS}{e:Expr}{te:TE}{pos:Pos}
def mX:TS:=fun D σ H=>D.nx σ H
def Av (t u:TS):TS:=fun D σ H=>t { D with nx:=u D } σ H
theorem aJ:PSs X [] mX:=fun _ _ σ H _ I h=>wpAny_execs_nil ⟨σ,H,I,h⟩
theorem ad (h1:PS X st t)(h2:PSs X gK u):PSs X (st :: gK) (Av t u):=by
 intro pins s σ H D I h
 refine wpAny_execs_cons (thn (h1 pins s σ H { D with nx:=u D } I h) fun f s1 q=>?_)
 cases f with
 |next =>
  obtain⟨σ',H',I',q⟩:=q
  exact h2 pins s1 σ' H' D I' q
 |ret v=>exact q
 |brk=>exact q
 |cont=>exact q
theorem ae (h1:PS X st t):PSs X [st] t:=by
 intro pins s σ H D I h
 refine wpAny_execs_cons (thn (h1 pins s σ H D I h) fun f s1 q=>?_)
 cases f with
 |next=>exact wpAny_execs_nil q
 |ret v=>exact q
 |brk=>exact q
 |cont=>exact q
theorem Inv.quiet {pins:List (Addr×Obj)}{σ:St}{H:Hp}{s:Shared}(I:Inv X pins σ H s):interactive X.env=false:=by simp[interactive,I.ok.kind]
def zB (te:TE):TS:=fun D σ H=>te σ H fun _ H1=>D.nx σ H1
theorem jp (he:PE X e te)(hs:swapsWith e none pos.line X.env=pure false:=by rfl):PS X (.Expr e pos) (zB te):=by
 intro pins s σ H D I h
 exact wpAny_Expr_any (thn (he pins s σ H _ I h) fun v s1 ⟨x,H1,I1,r1,q1⟩=>⟨σ,H1,I1,q1⟩) I.quiet hs
def my (te:TE):TS:=fun D σ H=>te σ H D.rt
theorem al (he:PE X e te):PS X (.Return (some e) pos) (my te):=by
 intro pins s σ H D I h
 exact wpAny_Return_some (thn (he pins s σ H _ I h) fun v s1 ⟨x,H1,I1,r1,q1⟩=>⟨x,σ,H1,I1,r1,q1⟩)
def sW (c:TT)(t u:TS):TS:=fun D σ H=>c σ H fun b H1=>if b=true then t D σ H1 else u D σ H1
theorem a6 {c:Expr}{a b:List Stmt}{tc:TT}(hc:PT X c tc)(ha:PSs X a t)(hb:PSs X b u):PS X (.If c a b pos) (sW tc t u):=by
 intro pins s σ H D I h
 refine wpAny_If (thn (hc pins s σ H _ I h) fun d s1 ⟨H1,I1,q1⟩=>?_)
 cases d with
 |true=>exact ha pins s1 σ H1 D I1 q1
 |false=>exact hb pins s1 σ H1 D I1 q1
end
abbrev TG:=V→St→Hp→(St→Hp→Prop)→Prop
abbrev TGs:=List V→St→Hp→(St→Hp→Prop)→Prop
def PG (X:Cx)(target:Expr)(t:TG):Prop :=
 ∀(pins:List (Addr×Obj)) (s:Shared) (σ:St) (H:Hp) (v:V) (u:Value) (Q:St→Hp→Prop),Inv X pins σ H s→aZ v u→t v σ H Q →
  wpAny (model X.prog X.w) X.A (assign target X.env u) (fun _ s'=>∃σ' H',Inv X pins σ' H' s'∧Q σ' H') X.xe s
def PGs (X:Cx)(ts:List Expr)(t:TGs):Prop :=
 ∀(pins:List (Addr×Obj)) (s:Shared) (σ:St) (H:Hp) (vs:List V) (us:List Value) (Q:St→Hp→Prop),Inv X pins σ H s→aT vs us→t vs σ H Q →
  wpAny (model X.prog X.w) X.A (assignInOrder ((assignEach ts X.env).map (·.2)) us) (fun _ s'=>∃σ' H',Inv X pins σ' H' s'∧Q σ' H') X.xe s
abbrev AM:=V→V→V→Hp→(Hp→Prop)→Prop
def Dc (X:Cx)(t:AM):Prop :=
 ∀(pins:List (Addr×Obj)) (s:Shared) (σ:St) (H:Hp) (o i v:V) (ov iv u:Value) (Q:Hp→Prop),Inv X pins σ H s→aZ o ov→aZ i iv→aZ v u→t o i v H Q →
  wpAny (model X.prog X.w) X.A (setItem ov iv u) (fun _ s'=>∃H',Inv X pins σ H' s'∧Q H') X.xe s
abbrev TIp:=V→V→Hp→VK→Prop
def PIp (X:Cx)(op:Operator)(t:TIp):Prop :=
 ∀(pins:List (Addr×Obj)) (s:Shared) (σ:St) (H:Hp) (x y:V) (v u:Value) (Q:VK),Inv X pins σ H s→aZ x v→aZ y u→t x y H Q →
  wpAny (model X.prog X.w) X.A (inplaceOp op v u) (EP X pins σ Q) X.xe s
section
variable  {X:Cx}{pos:Pos}
def pf (i:Nat):TG:=fun v σ H Q=>Q (σ.set i (some v)) H
theorem au {i:Nat}{x:Str}(hN:X.N.Nodup)(hi:X.N[i]? = some x)(hx:Loc X.env.scope x)(hf:X.fn x=true∨X.env.scope.names.lookup x=some .local:=by first|exact .inl rfl|exact .inr rfl|assumption):PG X (.Name x pos) (pf i):=by
 intro pins s σ H v u Q I r h
 exact wpAny_assign_Name (mJ I hN hi hx r (fun s' I'=>⟨_,H,I',h⟩) hf)
def Dy:TGs:=fun vs σ H Q=>vs=[]∧Q σ H
def wg (t:TG)(u:TGs):TGs:=fun vs σ H Q=>∃v r,vs=v :: r∧t v σ H fun σ' H'=>u r σ' H' Q
theorem bW:PGs X [] Dy:=by
 intro pins s σ H vs us Q I r h
 obtain⟨e,h⟩:=h
 subst e
 cases r
 exact assignInOrder_nil ⟨σ,H,I,h⟩
theorem aL {e:Expr}{es:List Expr}{t:TG}{u:TGs}(h1:PG X e t)(h2:PGs X es u)
  (hs:(assignEach (e :: es) X.env).map (·.2)=assign e X.env :: (assignEach es X.env).map (·.2):=by rfl):PGs X (e :: es) (wg t u):=by
 intro pins s σ H vs us Q I r h
 obtain⟨v,vr,e1,h⟩:=h
 subst e1
 cases r with
 |cons r rr =>
  rw[hs]
  refine assignInOrder_cons (thn (h1 pins s σ H _ _ _ I r h) fun _ s1 ⟨σ1,H1,I1,q1⟩=>?_)
  exact h2 pins s1 σ1 H1 _ _ Q I1 rr q1
def CY (K:Frag)(n:Nat)(t:TGs):TG:=fun v σ H Q=>∃a xs,v=.ref a∧SqT K H a xs∧xs.length=n∧t xs σ H Q
theorem cS {es:List Expr}{k:Nat}{t:TGs}{n:Nat}(hc:X.calm=true)(h:PGs X es t)
  (hn:(assignEach es X.env).length=n:=by rfl) (hst:(assignEach es X.env).findIdx? (·.1)=none:=by rfl):PG X (.Tuple es k pos) (CY X.K n t):=by
 intro pins s σ H v u Q I r hw
 obtain⟨a,xs,e1,hq,hl,hw⟩:=hw
 subst e1
 cases r
 obtain⟨its,rv,ht,hz⟩:=I.tuple hq
 refine assign_Tuple_tuple (I.ok.hd hc) ht (by simp[hn,←hl,rv.length]) hst fun h' hx=>?_
 have I1:Inv X pins σ H { s with heap:=h' }:=I.kept (t':=s.toks) fun b o e=>hx b o (Nat.ne_of_lt (Heap.lt_size e)) e
 exact h pins _ σ H xs _ Q I1 (by simpa using rv) hw
def Es (to ti:TE)(t:AM):TG:=fun v σ H Q=>to σ H fun o H1=>ti σ H1 fun i H2=>t o i v H2 fun H3=>Q σ H3
theorem xX {o i:Expr}{to ti:TE}{t:AM}(ho:PE X o to)(hi:PE X i ti)(hs:Dc X t)
  (ha:∀v,assign (.Subscript o i pos) X.env v=(do
   let ov ←holding [v] (eval o X.env)
   let iv ←holding [v,ov] (eval i X.env)
   standAt pos
   holding [v,ov,iv] (setItem ov iv v)
   release [v,ov,iv] []):=by intro _;rfl):PG X (.Subscript o i pos) (Es to ti t):=by
 intro pins s σ H v u Q I r h
 rw[ha]
 refine wpAny_bind (wpAny_holding (thn (ho pins s σ H _ I h) fun ov s1 ⟨x,H1,I1,r1,q1⟩=>?_))
 refine wpAny_bind (wpAny_holding (thn (hi pins s1 σ H1 _ I1 q1) fun iv s2 ⟨y,H2,I2,r2,q2⟩=>?_))
 refine wpAny_bind (wpAny_standAt (wpAny_bind (wpAny_holding (thn (hs pins s2 σ H2 x y v ov iv u _ I2 r1 r2 r q2) fun _ s3 ⟨H3,I3,q3⟩=>?_))))
 exact wpAny_release ⟨σ,H3,I3,q3⟩
def Az (te:TE)(g:TG):TS:=fun D σ H=>te σ H fun x H1=>g x σ H1 D.nx
theorem wE {tg e:Expr}{te:TE}{g:TG}(he:PE X e te)(hg:PG X tg g)(hs:swapsWithSole [tg] e pos.line X.env=pure false:=by rfl)(hw:swappedStores [tg] e X.env=pure none:=by rfl)
  (h1:(assignEach [tg] X.env).map (·.2)=[assign tg X.env]:=by rfl):PS X (.Assign [tg] e pos) (Az te g):=by
 intro pins s σ H D I h
 refine wpAny_Assign_stores (thn (he pins s σ H _ I h) fun v s1 ⟨x,H1,I1,r1,q1⟩=>?_) hs hw
 rw[h1]
 exact thn (hg pins s1 σ H1 x v _ I1 r1 q1) fun _ s2 q=>q
theorem aB {i:Nat}{x:Str}{e:Expr}{te:TE}{pos':Pos}(hN:X.N.Nodup)(hi:X.N[i]? = some x)(hx:Loc X.env.scope x)(he:PE X e te)(hs:swapsWith e (some (.Name x pos')) pos.line X.env=pure false:=by rfl)(hf:X.fn x=true∨X.env.scope.names.lookup x=some .local:=by first|exact .inl rfl|exact .inr rfl|assumption) :
  PS X (.Assign [.Name x pos'] e pos) (Az te (pf i)):=by
 intro pins s σ H D I h
 refine wpAny_Assign_Name (thn (he pins s σ H _ I h) fun v s1 ⟨y,H1,I1,r1,q1⟩=>?_) hs
 exact mJ I1 hN hi hx r1 (fun s2 I2=>⟨_,H1,I2,q1⟩) hf
def Ej (i:Nat)(te:TE)(ti:TIp):TS:=fun D σ H=>∃x,σ[i]? = some (some x)∧te σ H fun y H1=>ti x y H1 fun z H2=>D.nx (σ.set i (some z)) H2
theorem xc {i:Nat}{x:Str}{e:Expr}{te:TE}{op:Operator}{ti:TIp}{pos':Pos}(hN:X.N.Nodup)(hi:X.N[i]? = some x)(hx:Loc X.env.scope x)(he:PE X e te)(ho:PIp X op ti)(hf:X.fn x=true∨X.env.scope.names.lookup x=some .local:=by first|exact .inl rfl|exact .inr rfl|assumption) :
  PS X (.AugAssign (.Name x pos') op e pos) (Ej i te ti):=by
 intro pins s σ H D I h
 obtain⟨v,e1,h⟩:=h
 obtain⟨m,hn,hl⟩:=I.loc
 have vis:Vis X.env.scope x:=by rcases hx with k|k;exact .inl k;exact .inr (.inl k)
 obtain⟨u,r,l⟩:=hl i x v hi e1 vis
 refine wpAny_AugAssign_Name ?_
 have go:wpAny (model X.prog X.w) X.A (eval e X.env) (fun w s₂=>wpAny (model X.prog X.w) X.A (inplaceOp op u w) (fun r s₃=>wpAny (model X.prog X.w) X.A (storeName X.env x r) (fun _=>SP X pins D .next) X.xe s₃) X.xe s₂) X.xe s:=by
  refine thn (he pins s σ H _ I h) fun w s1 ⟨y,H1,I1,r1,q1⟩=>?_
  refine thn (ho pins s1 σ H1 v y u w _ I1 r r1 q1) fun z s2 ⟨zv,H2,I2,r2,q2⟩=>?_
  exact mJ I2 hN hi hx r2 (fun s3 I3=>⟨_,H2,I3,q2⟩) hf
 rcases l with⟨hk,hm⟩|⟨hk,c,hc,hcell⟩
 ·exact wpAny_loadName_local I.ok.kind hk hn hm go
 ·rcases hk with hk|hk
  ·exact wpAny_loadName_cell I.ok.kind hk hc hcell go
  ·rcases hx with k|k
   ·have:X.env.scope.names.lookup x=some .free:=hk
    rw[k]at this;cases this
   ·have:X.env.scope.names.lookup x=some .free:=hk
    rw[k]at this;cases this
def ipI (f:Int→Int→Int):TIp:=fun x y H Q=>∃i j,x=.int i∧y=.int j∧Q (.int (f i j)) H
theorem wD:PIp X .Add (ipI fun i j=>i+j):=by
 intro pins s σ H x y v u Q I r1 r2 h
 obtain⟨i,j,e1,e2,q⟩:=h
 subst e1;subst e2
 obtain⟨t,rfl⟩:=r1
 obtain⟨t',rfl⟩:=r2
 exact iadd_int ⟨.int _,H,I.tok _,⟨_,rfl⟩,q⟩
end
section
variable  {X:Cx}{pos:Pos}
def Bm (c:TT)(tb:TS):TS:=fun D σ H=>∃W:Nat→St→Hp→Prop,(∃m,W m σ H)∧∀m σ H,W m σ H →
 c σ H fun b H1=>if b=true then ∃N:St→Hp→Prop,(∀σ' H',N σ' H'→∃m',m'<m∧W m' σ' H')∧tb { D with nx:=N,ct:=N,bk:=D.nx } σ H1 else D.nx σ H1
theorem m8 {c:Expr}{body:List Stmt}{tc:TT}{tb:TS}(hp:PassesOwn (model X.prog X.w) X.A X.env X.xe)(hc:PT X c tc)(hb:PSs X body tb):PS X (.While c body [] pos) (Bm tc tb):=by
 intro pins s σ H D I h
 obtain⟨W,⟨m0,w0⟩,turn⟩:=h
 refine wpAny_While (codeAny_whileLoop (fun n s'=>∃σ' H',Inv X pins σ' H' s'∧W n σ' H') ?_ m0 ⟨σ,H,I,w0⟩)
 rintro n s1 ⟨σ1,H1,I1,w1⟩
 refine wpAny_passesOwn hp (thn (hc pins s1 σ1 H1 _ I1 (turn n σ1 H1 w1)) fun b s2 ⟨H2,I2,q2⟩=>?_)
 cases b with
 |true =>
  obtain⟨N,hN,q2⟩:=q2
  rw[if_pos rfl]
  refine wpAny_passesOwn hp (thn (hb pins s2 σ1 H2 _ I2 q2) fun f s3 q3=>?_)
  cases f with
  |next =>
   obtain⟨σ3,H3,I3,n3⟩:=q3
   obtain⟨m',hm,w3⟩:=hN σ3 H3 n3
   exact⟨m',hm,σ3,H3,I3,w3⟩
  |cont =>
   obtain⟨σ3,H3,I3,n3⟩:=q3
   obtain⟨m',hm,w3⟩:=hN σ3 H3 n3
   exact⟨m',hm,σ3,H3,I3,w3⟩
  |brk=>exact q3
  |ret v=>exact q3
 |false =>
  rw[if_neg Bool.false_ne_true]
  exact wpAny_execs_nil ⟨σ1,H2,I2,q2⟩
end
structure It where
 go:Nat→Hp→Prop
 yld:Nat→Hp→V→Hp→Prop
 stop:Nat→Hp→Prop
def lP (X:Cx)(pins:List (Addr×Obj))(H:Hp)(b:Addr):Prop :=
 H b=none∧b≠X.env.locals∧b∉X.fs∧(b∈X.ex∨X.s_0.heap.objs.size≤b)∧(∀x c,X.env.cells.lookup x=some c→c≠b)∧∀p∈X.pn++pins,p.1≠b
theorem Inv.fpOk {X:Cx}{pins:List (Addr×Obj)}{σ:St}{H H':Hp}{s:Shared}{b:Addr}(I:Inv X pins σ H s)(hb:s.heap.objs.size≤b)(hn:H' b=none):lP X pins H' b:=by
 refine⟨hn,Nat.ne_of_gt (Nat.lt_of_lt_of_le I.lt hb),I.nofs hb,.inr (Nat.le_trans I.sz hb),fun x c e z=>?_,fun p hp z=>?_⟩
 ·obtain⟨v,q⟩:=I.cell x c e
  exact absurd (Nat.lt_of_lt_of_le q.lt (by rw[z];exact hb)) (Nat.lt_irrefl _)
 ·exact absurd (Nat.lt_of_lt_of_le (Heap.lt_size (I.pin p hp).1) (by rw[z];exact hb)) (Nat.lt_irrefl _)
structure nt (P:Program)(w:World)(K:Frag)(tg:Expr)(J:It)(fp:List Addr)(it:Addr)(tn:Nat→Heap→Prop):Prop where
 mem:it∈fp
 obj:∀i h,tn i h→∀b∈fp,∃o,h.get? b=some o∧∀v,o.data≠.cell v
 keep:∀i h h',tn i h→(∀b∈fp,∀o,h.get? b=some o→h'.get? b=some o)→tn i h'
 item:∀(X:Cx),X.prog=P→X.w=w→X.K=K→X.calm=true→∀(i:Nat) (pins:List (Addr×Obj)) (s:Shared) (σ:St) (H:Hp) (E:Value→Shared→Prop),Inv X pins σ H s→(∀b∈fp,lP X pins H b)→tn i s.heap→J.go i H →
  wpAny (model P w) X.A (pyNext (.ref it)) (fun r s1=>∃u,r=some u ∧
   wpAny (model P w) X.A (letOwnedTupleGo tg (.ref it) u) (fun _ s2=>∃x H',Inv X pins σ H' s2∧aZ x u∧J.yld i H x H'∧tn (i+1) s2.heap∧∀b∈fp,H' b=none) E s1) E s
 done:∀(X:Cx),X.prog=P→X.w=w→X.K=K→X.calm=true→∀(i:Nat) (pins:List (Addr×Obj)) (s:Shared) (σ:St) (H:Hp) (E:Value→Shared→Prop),Inv X pins σ H s→(∀b∈fp,lP X pins H b)→tn i s.heap→J.stop i H →
  wpAny (model P w) X.A (pyNext (.ref it)) (fun r s1=>r=none∧Inv X pins σ H s1) E s
 self:∀(A:Around) (i:Nat) (s:Shared) (Q:Value→Shared→Prop) (E:Value→Shared→Prop),tn i s.heap→Q (.ref it) s→wpAny (model P w) A (pyIter (.ref it)) Q E s
abbrev TI:=St→Hp→(It→Hp→Prop)→Prop
def PIE (X:Cx)(pins:List (Addr×Obj))(σ:St)(tg:Expr)(R:It→Hp→Prop)(itv:Value)(s2:Shared):Prop :=
 ∃(it:Addr) (fp:List Addr) (tn:Nat→Heap→Prop) (J:It) (H':Hp),itv=.ref it∧Inv X pins σ H' s2∧nt X.prog X.w X.K tg J fp it tn∧tn 0 s2.heap∧(∀b∈fp,lP X pins H' b)∧R J H'
def PI (X:Cx)(tg aE:Expr)(wi:TI):Prop :=
 ∀(pins:List (Addr×Obj)) (s:Shared) (σ:St) (H:Hp) (R:It→Hp→Prop),Inv X pins σ H s→wi σ H R →
  wpAny (model X.prog X.w) X.A (eval aE X.env) (fun v s1=>wpAny (model X.prog X.w) X.A (pyIter v) (PIE X pins σ tg R) X.xe s1) X.xe s
theorem na {M:Model}{A:Around}{E:Value→Shared→Prop}{s:Shared}{tg:Expr}{it:Addr}{u:Value}{o:Obj}{n:String}{vs:Array Value}{Q:Unit→Shared→Prop}(ho:s.heap.get? it=some o)(hc:o.cls=.type n)(hd:o.data=.fields vs)
  (hn:["enumerate","zip","dict_itemiterator","dict_reverseitemiterator","odict_iterator","itertools.zip_longest","itertools.pairwise"].contains n=false) (hQ:Q () s):wpAny M A (letOwnedTupleGo tg (.ref it) u) Q E s:=by
 unfold letOwnedTupleGo
 cases tg<;>first
  |exact wpAny_pure hQ
  |(cases u<;>first
    |exact wpAny_pure hQ
    |(refine wpAny_bind (wpAny_load ho ?_)
      rw[hc,hd]
      show wpAny M A (if (["enumerate","zip","dict_itemiterator","dict_reverseitemiterator","odict_iterator","itertools.zip_longest","itertools.pairwise"].contains n&&vs[0]?==some (rawInt _))=true then _ else _) Q E s
      rw[if_neg (by intro h;rw[hn,Bool.false_and]at h;cases h)]
      exact wpAny_pure hQ))
def Itl (K:Frag)(a:Addr):It :=
 ⟨fun i H=>∃xs x,SqL K H a xs∧xs[i]? = some x,fun i H x H'=>H'=H∧∀xs,SqL K H a xs→xs[i]? = some x,fun i H=>∃xs,SqL K H a xs∧xs.length≤i⟩
def Itt (K:Frag)(a:Addr):It :=
 ⟨fun i H=>∃xs x,SqT K H a xs∧xs[i]? = some x,fun i H x H'=>H'=H∧∀xs,SqT K H a xs→xs[i]? = some x,fun i H=>∃xs,SqT K H a xs∧xs.length≤i⟩
def Itr (lo:Int)(n:Nat):It:=⟨fun i _=>i<n,fun i H x H'=>H'=H∧x=.int (lo+i),fun i _=>n≤i⟩
theorem vG {P:Program}{w:World}{K:Frag}{tg:Expr}(a it:Addr):nt P w K tg (Itl K a) [it] it (fun i h=>h.IsListIter it a i) where
 mem:=by simp
 obj:=fun i h st b hb=>by
  have e:b=it:=by simpa using hb
  subst e
  obtain⟨o,e,c,d⟩:=st
  exact⟨o,e,fun v z=>by rw[d]at z;cases z⟩
 keep:=fun i h h' st k=>st.at fun o e=>k it (by simp) o e
 item:=by
  intro X hP hw hK hc i pins s σ H E I hf st hg
  subst hP hw hK
  obtain⟨xs,x,hq,hx⟩:=hg
  obtain⟨its,rv,p,hz⟩:=I.list hq
  obtain⟨u,hu,ru⟩:=rv.get hx
  obtain⟨f0,f1,f2,f3,f4,f5⟩:=hf it (by simp)
  refine wpAny_pyNext_list_item st p.isList (x:=u) (by simpa using hu) fun h' st' sb=>?_
  have I1:Inv X pins σ H { s with heap:=h' }:=I.turned (t':=s.toks) (fun b o hb e=>(sb.2 b hb).trans e) f0 f1 f3 f4 f5
  obtain⟨o,e,c,d⟩:=id st'
  exact⟨u,rfl,na (s:={ s with heap:=h' }) e c d (by decide) ⟨x,H,I1,ru,⟨rfl,fun ys hy=>by rw[I.list_inj hy hq];exact hx⟩,st',fun b hb=>(hf b hb).1⟩⟩
 done:=by
  intro X hP hw hK hc i pins s σ H E I hf st hg
  subst hP hw hK
  obtain⟨xs,hq,hx⟩:=hg
  obtain⟨its,rv,p,hz⟩:=I.list hq
  obtain⟨f0,f1,f2,f3,f4,f5⟩:=hf it (by simp)
  have hl:=rv.length
  exact wpAny_pyNext_list_end (I.ok.hd hc) st p.isList (by simp;omega) fun h' eb=>⟨rfl,I.turned (t':=s.toks) (fun b o hb e=>eb b o hb e) f0 f1 f3 f4 f5⟩
 self:=fun _ _ _ _ _ st h=>wpAny_pyIter_listiter st h
theorem sQ {P:Program}{w:World}{K:Frag}{tg:Expr}(a it:Addr):nt P w K tg (Itt K a) [it] it (fun i h=>h.IsTupleIter it a i) where
 mem:=by simp
 obj:=fun i h st b hb=>by
  have e:b=it:=by simpa using hb
  subst e
  obtain⟨o,e,c,d⟩:=st
  exact⟨o,e,fun v z=>by rw[d]at z;cases z⟩
 keep:=fun i h h' st k=>st.at fun o e=>k it (by simp) o e
 item:=by
  intro X hP hw hK hc i pins s σ H E I hf st hg
  subst hP hw hK
  obtain⟨xs,x,hq,hx⟩:=hg
  obtain⟨its,rv,p,hz⟩:=I.tuple hq
  obtain⟨u,hu,ru⟩:=rv.get hx
  obtain⟨f0,f1,f2,f3,f4,f5⟩:=hf it (by simp)
  refine wpAny_pyNext_tuple_item st (show s.heap.IsTuple a its.toArray from p) (x:=u) (by simpa using hu) fun h' st' sb=>?_
  have I1:Inv X pins σ H { s with heap:=h' }:=I.turned (t':=s.toks) (fun b o hb e=>(sb.2 b hb).trans e) f0 f1 f3 f4 f5
  obtain⟨o,e,c,d⟩:=id st'
  exact⟨u,rfl,na (s:={ s with heap:=h' }) e c d (by decide) ⟨x,H,I1,ru,⟨rfl,fun ys hy=>by rw[I.tuple_inj hy hq];exact hx⟩,st',fun b hb=>(hf b hb).1⟩⟩
 done:=by
  intro X hP hw hK hc i pins s σ H E I hf st hg
  subst hP hw hK
  obtain⟨xs,hq,hx⟩:=hg
  obtain⟨its,rv,p,hz⟩:=I.tuple hq
  obtain⟨f0,f1,f2,f3,f4,f5⟩:=hf it (by simp)
  have hl:=rv.length
  exact wpAny_pyNext_tuple_end (I.ok.hd hc) st (show s.heap.IsTuple a its.toArray from p) (by simp;omega) fun h' eb=>⟨rfl,I.turned (t':=s.toks) (fun b o hb e=>eb b o hb e) f0 f1 f3 f4 f5⟩
 self:=fun _ _ _ _ _ st h=>wpAny_pyIter_tupleiter st h
theorem sr {P:Program}{w:World}{K:Frag}{tg:Expr}(it:Addr)(lo:Int)(n:Nat):nt P w K tg (Itr lo n) [it] it (fun i h=>IsRangeIter h it (lo+(i:Nat)*1) ((n:Int)-(i:Nat)) 1) where
 mem:=by simp
 obj:=fun i h st b hb=>by
  have e:b=it:=by simpa using hb
  subst e
  exact⟨_,st,fun v z=>by
   have z':Data.fields _=Data.cell v:=z
   cases z'⟩
 keep:=fun i h h' st k=>k it (by simp) _ st
 item:=by
  intro X hP hw hK hc i pins s σ H E I hf st hg
  subst hP hw hK
  obtain⟨f0,f1,f2,f3,f4,f5⟩:=hf it (by simp)
  have W:=Walks.range (prog:=X.prog) (w:=X.w) (I.ok.hd hc) it lo 1 n
  refine W.item i s _ _ hg st fun v h' tk hv st' kk=>?_
  obtain⟨t,rfl⟩:=hv
  have I1:Inv X pins σ H { s with heap:=h',toks:=tk }:=I.turned (fun b o hb e=>kk b o (by simpa using hb) e) f0 f1 f3 f4 f5
  refine⟨_,rfl,na (s:={ s with heap:=h',toks:=tk }) (n:="range_iterator") st' rfl rfl (by decide) ⟨.int (lo+i),H,I1,⟨t,?_⟩,⟨rfl,rfl⟩,st',fun b hb=>(hf b hb).1⟩⟩
  rw[Int.mul_one]
 done:=by
  intro X hP hw hK hc i pins s σ H E I hf st hg
  subst hP hw hK
  obtain⟨f0,f1,f2,f3,f4,f5⟩:=hf it (by simp)
  exact wpAny_pyNext_range_end (I.ok.hd hc) st (by have:n≤i:=hg;omega) fun h' eb=>⟨rfl,I.turned (t':=s.toks) (fun b o hb e=>eb b o hb e) f0 f1 f3 f4 f5⟩
 self:=fun _ _ _ _ _ st h=>wpAny_pyIter_rangeiter st h
end L2
namespace L2
open PySem PySem.Spec PyProof.Rows
section
variable  {X:Cx}{tg:Expr}
def Cz (K:Frag)(tl:TE):TI:=fun σ H R=>tl σ H fun x H1=>∃a,x=.ref a∧(∃xs,SqL K H1 a xs)∧R (Itl K a) H1
def Ek (K:Frag)(tl:TE):TI:=fun σ H R=>tl σ H fun x H1=>∃a,x=.ref a∧(∃xs,SqT K H1 a xs)∧R (Itt K a) H1
theorem bQ {l:Expr}{tl:TE}(hl:PE X l tl):PI X tg l (Cz X.K tl):=by
 intro pins s σ H R I h
 refine thn (hl pins s σ H _ I h) fun v s1 ⟨x,H1,I1,r1,q1⟩=>?_
 obtain⟨a,e,⟨xs,hq⟩,q⟩:=q1
 subst e
 cases r1
 obtain⟨its,rv,p,hz⟩:=I1.list hq
 refine wpAny_pyIter_list p.isList ?_
 refine⟨s1.heap.objs.size,[s1.heap.objs.size],_,_,H1,rfl,I1.kept (t':=s1.toks) fun b o e=>Heap.get?_push_of_some _ e,vG a _,⟨_,Heap.get?_push_size _ rfl,rfl,rfl⟩,fun b hb=>?_,q⟩
 have e:b=s1.heap.objs.size:=by simpa using hb
 subst e
 exact I1.fpOk (nlr _) (I1.hok.fresh (nlr _))
theorem sV {l:Expr}{tl:TE}(hl:PE X l tl):PI X tg l (Ek X.K tl):=by
 intro pins s σ H R I h
 refine thn (hl pins s σ H _ I h) fun v s1 ⟨x,H1,I1,r1,q1⟩=>?_
 obtain⟨a,e,⟨xs,hq⟩,q⟩:=q1
 subst e
 cases r1
 obtain⟨its,rv,p,hz⟩:=I1.tuple hq
 refine wpAny_pyIter_tuple (show s1.heap.IsTuple a its.toArray from p) ?_
 refine⟨s1.heap.objs.size,[s1.heap.objs.size],_,_,H1,rfl,I1.kept (t':=s1.toks) fun b o e=>Heap.get?_push_of_some _ e,sQ a _,⟨_,Heap.get?_push_size _ rfl,rfl,rfl⟩,fun b hb=>?_,q⟩
 have e:b=s1.heap.objs.size:=by simpa using hb
 subst e
 exact I1.fpOk (nlr _) (I1.hok.fresh (nlr _))
theorem qI {pins:List (Addr×Obj)}{σ:St}{H:Hp}{s:Shared}{R:It→Hp→Prop}{E:Value→Shared→Prop}{lo hi:Int}{t u v:Tok}{tk:Nat}(I:Inv X pins σ H s)(h1:-(2 ^ 62)≤lo)(h2:lo<2 ^ 62)(h3:-(2 ^ 62)≤hi)(h4:hi<2 ^ 62)
  (q:R (Itr lo (hi-lo).toNat) H):wpAny (model X.prog X.w) X.A (pyIter (.ref s.heap.objs.size)) (PIE X pins σ tg R) E { s with heap:=s.heap.push { cls:=.type "range",data:=.fields #[.int lo t,.int hi u,.int 1 v] },toks:=tk }:=by
 refine wpAny_pyIter_range (IsRange.new ..) (small_one h1 h2 h3 h4) ?_
 have I1:Inv X pins σ H { s with heap:=s.heap.push { cls:=.type "range",data:=.fields #[.int lo t,.int hi u,.int 1 v] },toks:=tk }:=I.kept fun b o e=>Heap.get?_push_of_some _ e
 refine⟨(s.heap.push { cls:=.type "range",data:=.fields #[.int lo t,.int hi u,.int 1 v] }).objs.size,[(s.heap.push { cls:=.type "range",data:=.fields #[.int lo t,.int hi u,.int 1 v] }).objs.size],_,_,H,rfl,
  I1.kept (t':=tk) fun b o e=>Heap.get?_push_of_some _ e,sr _ lo (hi-lo).toNat,?_,fun b hb=>?_,q⟩
 ·have e1:lo+((0:Nat):Int)*1=lo:=by simp
  have e2:(((hi-lo).toNat:Nat):Int)-((0:Nat):Int)=Builtin.Range.rangeSize lo hi 1:=by rw[rangeSize_one];split<;>omega
  show IsRangeIter _ _ (lo+((0:Nat):Int)*1) ((((hi-lo).toNat:Nat):Int)-((0:Nat):Int)) 1
  rw[e1,e2]
  exact Heap.get?_push_size _ rfl
 ·have e:b=(s.heap.push { cls:=.type "range",data:=.fields #[.int lo t,.int hi u,.int 1 v] }).objs.size:=by simpa using hb
  subst e
  exact I1.fpOk (nlr _) (I1.hok.fresh (nlr _))
def Dt (ta:TA):TI:=fun σ H R=>ta σ H fun vs H1=>∃j:Int,vs=[.int j]∧-(2 ^ 62)≤j∧j<2 ^ 62∧R (Itr 0 j.toNat) H1
def CU (ta:TA):TI:=fun σ H R=>ta σ H fun vs H1=>∃i j:Int,vs=[.int i,.int j]∧(-(2 ^ 62)≤i∧i<2 ^ 62∧-(2 ^ 62)≤j∧j<2 ^ 62)∧R (Itr i (j-i).toNat) H1
theorem oo {a:Expr}{ta:TA}{p pos:Pos} (hg:Gl X "range") (hm:X.mg "range"=none) (ha:PA X [a] ta) (hs:starEach [a] X.env=[(false,eval a X.env)]:=by rfl):PI X tg (.Call (.Name "range" p) [a] [] pos) (Dt ta):=by
 intro pins s σ H R I h
 refine Call_ (gC I hg hm boot_range (PyProof.Rows.callWith_type1 (thn (ha pos pins s σ H _ I h) fun us s1 ⟨vs,H1,I1,r1,q1⟩=>?_) hs rfl))
 obtain⟨j,e,q1,q2,q⟩:=q1
 subst e
 cases r1 with
 |cons r rr =>
  cases rr
  obtain⟨t,rfl⟩:=r
  exact call_range_1 (qI I1 (by omega) (by omega) q1 q2 (by simpa using q))
theorem pd {a b:Expr}{ta:TA}{p pos:Pos} (hg:Gl X "range") (hm:X.mg "range"=none) (ha:PA X [a,b] ta) (hs:starEach [a,b] X.env=[(false,eval a X.env),(false,eval b X.env)]:=by rfl) (hs2:starEach [b] X.env=[(false,eval b X.env)]:=by rfl) :
  PI X tg (.Call (.Name "range" p) [a,b] [] pos) (CU ta):=by
 intro pins s σ H R I h
 refine Call_ (gC I hg hm boot_range (PyProof.Rows.callWith_type1 (thn (ha pos pins s σ H _ I h) fun us s1 ⟨vs,H1,I1,r1,q1⟩=>?_) (by rw[hs,hs2]) (by rw[hs2];rfl)))
 obtain⟨i,j,e,⟨q1,q2,q3,q4⟩,q⟩:=q1
 subst e
 cases r1 with
 |cons r rr =>
  cases rr with
  |cons r' rr =>
   cases rr
   obtain⟨t,rfl⟩:=r
   obtain⟨t',rfl⟩:=r'
   exact call_range_2 (qI I1 q1 q2 q3 q4 q)
def Ea (wi:TI)(g:TG)(tb:TS):TS:=fun D σ H=>wi σ H fun J H1=>∃W:Nat→Nat→St→Hp→Prop,(∃m,W 0 m σ H1)∧∀i m σ H,W i m σ H →
 (J.stop i H∧D.nx σ H)∨(J.go i H∧∃N:St→Hp→Prop,(∀σ' H',N σ' H'→∃m',m'<m∧W (i+1) m' σ' H')∧∀x H',J.yld i H x H'→g x σ H' fun σ2 H2=>tb { D with nx:=N,ct:=N,bk:=D.nx } σ2 H2)
def mO (fp:List Addr)(h:Heap):List (Addr×Obj):=fp.filterMap fun b=>(h.get? b).map fun o=>(b,o)
theorem jK {fp:List Addr}{h:Heap}{b:Addr}{o:Obj}(hb:b∈fp)(e:h.get? b=some o):(b,o)∈mO fp h:=List.mem_filterMap.mpr ⟨b,hb,by rw[e];rfl⟩
theorem vt {fp:List Addr}{h:Heap}{p:Addr×Obj}(hp:p∈mO fp h):p.1∈fp∧h.get? p.1=some p.2:=by
 obtain⟨b,hb,e⟩:=List.mem_filterMap.mp hp
 cases q:h.get? b with
 |none=>rw[q]at e;cases e
 |some o =>
  rw[q]at e
  have e':(b,o)=p:=osi e
  subst e'
  exact⟨hb,q⟩
theorem Inv.pinned {pins:List (Addr×Obj)}{σ:St}{H:Hp}{s:Shared}{fp:List Addr}(I:Inv X pins σ H s)(hf:∀b∈fp,lP X pins H b)(ho:∀b∈fp,∃o,s.heap.get? b=some o∧∀v,o.data≠.cell v):Inv X (pins++mO fp s.heap) σ H s :=
 I.pins_of fun p hp=>(List.mem_append.mp hp).elim (fun z=>I.pin p (List.mem_append_right _ z)) fun z=>by
  obtain⟨hb,e⟩:=vt z
  obtain⟨f0,f1,f2,_⟩:=hf p.1 hb
  obtain⟨o,e',d⟩:=ho p.1 hb
  rw[e]at e';cases e'
  exact⟨e,f0,f1,f2,d⟩
theorem Inv.unpinned {pins pl:List (Addr×Obj)}{σ:St}{H:Hp}{s:Shared}(I:Inv X (pins++pl) σ H s):Inv X pins σ H s:=I.pins_of fun p hp=>I.pin p (List.mem_append_right _ (List.mem_append_left _ hp))
theorem bw {aE:Expr}{body:List Stmt}{wi:TI}{g:TG}{tb:TS}{pos:Pos}(hp:PassesOwn (model X.prog X.w) X.A X.env X.xe)(hc:X.calm=true)(hi:PI X tg aE wi)(hg:PG X tg g)(hb:PSs X body tb)
  (hs:∀x,foldedSetIterable aE X.env x=pure x:=by intro _;rfl):PS X (.For tg aE body [] pos) (Ea wi g tb):=by
 intro pins s σ H D I h
 refine wpAny_For (thn (hi pins s σ H _ I h) fun v s1 h1=>thn h1 fun itv s2 h2=>?_) hs
 obtain⟨it,fp,tn,J,H2,e,I2,T,st2,f2,W,⟨m0,w0⟩,turn⟩:=h2
 subst e
 have stat:∀{H':Hp},(∀b∈fp,H' b=none)→∀b∈fp,lP X pins H' b:=fun hn b hb=>⟨hn b hb,(f2 b hb).2⟩
 refine codeAny_forLoop_any (fun n s'=>∃i σ' H',Inv X pins σ' H' s'∧tn i s'.heap∧(∀b∈fp,H' b=none)∧W i n σ' H') ?_ m0 ⟨0,σ,H2,I2,st2,fun b hb=>(f2 b hb).1,w0⟩
 rintro n s3 ⟨i,σ3,H3,I3,st3,fr3,w3⟩
 rcases turn i n σ3 H3 w3 with⟨stop,qn⟩|⟨go,N,hN,step⟩
 ·refine wpAny_passesOwn hp (thn (T.done X rfl rfl rfl hc i pins s3 σ3 H3 X.xe I3 (stat fr3) st3 stop) fun r s4 ⟨hr,I4⟩=>?_)
  subst hr
  exact wpAny_execs_nil ⟨σ3,H3,I4,qn⟩
 ·refine wpAny_passesOwn hp (thn (T.item X rfl rfl rfl hc i pins s3 σ3 H3 X.xe I3 (stat fr3) st3 go) fun r s4 ⟨u,hr,h4⟩=>?_)
  subst hr
  refine wpAny_passesOwn hp (thn h4 fun _ s5 ⟨x,H5,I5,r5,y5,st5,fr5⟩=>?_)
  have I5':=I5.pinned (stat fr5) (T.obj _ _ st5)
  refine wpAny_passesOwn hp (thn (hg _ s5 σ3 H5 x u _ I5' r5 (step x H5 y5)) fun _ s6 ⟨σ6,H6,I6,q6⟩=>?_)
  refine wpAny_passesOwn hp (thn (hb _ s6 σ6 H6 _ I6 q6) fun f s7 q7=>?_)
  have again:∀{σ7:St} {H7:Hp},Inv X (pins++mO fp s5.heap) σ7 H7 s7→N σ7 H7→∃m,m<n∧∃i σ' H',Inv X pins σ' H' s7∧tn i s7.heap∧(∀b∈fp,H' b=none)∧W i m σ' H':=fun {σ7 H7} I7 n7=>by
   obtain⟨m',hm,w7⟩:=hN σ7 H7 n7
   refine⟨m',hm,i+1,σ7,H7,I7.unpinned,T.keep _ _ _ st5 fun b hb o e=>(I7.pin (b,o) (List.mem_append_right _ (List.mem_append_right _ (jK hb e)))).1,fun b hb=>?_,w7⟩
   obtain⟨o,e,d⟩:=T.obj _ _ st5 b hb
   exact(I7.pin (b,o) (List.mem_append_right _ (List.mem_append_right _ (jK hb e)))).2.1
  cases f with
  |next=>obtain⟨σ7,H7,I7,n7⟩:=q7;exact again I7 n7
  |cont=>obtain⟨σ7,H7,I7,n7⟩:=q7;exact again I7 n7
  |brk=>obtain⟨σ7,H7,I7,q7⟩:=q7;exact⟨σ7,H7,I7.unpinned,q7⟩
  |ret v=>obtain⟨x7,σ7,H7,I7,r7,q7⟩:=q7;exact⟨x7,σ7,H7,I7.unpinned,r7,q7⟩
end
theorem er {K:Frag}{a:Addr}{xs:List V}{g:TG}{tb:TS}{D:nR}{σ:St}{H:Hp}(Pv:Nat→St→Hp→Prop)(h0:Pv 0 σ H)(hl:∀i σ H,i≤xs.length→Pv i σ H→SqL K H a xs)
  (hs:∀i x σ H,xs[i]? = some x→Pv i σ H→g x σ H fun σ2 H2=>tb { D with nx:=Pv (i+1),ct:=Pv (i+1),bk:=D.nx } σ2 H2) (hd:∀σ H,Pv xs.length σ H→D.nx σ H) :
  ∃W:Nat→Nat→St→Hp→Prop,(∃m,W 0 m σ H)∧∀i m σ H,W i m σ H →
   ((Itl K a).stop i H∧D.nx σ H)∨((Itl K a).go i H∧∃N:St→Hp→Prop,(∀σ' H',N σ' H'→∃m',m'<m∧W (i+1) m' σ' H')∧∀x H',(Itl K a).yld i H x H'→g x σ H' fun σ2 H2=>tb { D with nx:=N,ct:=N,bk:=D.nx } σ2 H2):=by
 refine⟨fun i m σ H=>m=xs.length-i∧i≤xs.length∧Pv i σ H,⟨xs.length,by simp,Nat.zero_le _,h0⟩,?_⟩
 rintro i m σ H ⟨rfl,hi,p⟩
 have q:=hl i σ H hi p
 by_cases hlt:i<xs.length
 ·refine .inr ⟨⟨xs,xs[i],q,by simp[hlt]⟩,Pv (i+1),fun σ' H' p'=>⟨xs.length-(i+1),by omega,rfl,hlt,p'⟩,fun x H' y=>?_⟩
  obtain⟨e,y⟩:=y
  subst e
  exact hs i x σ _ (y xs q) p
 ·have e:i=xs.length:=by omega
  subst e
  exact .inl ⟨⟨xs,q,nlr _⟩,hd σ H p⟩
theorem qr {K:Frag}{a:Addr}{xs:List V}{g:TG}{tb:TS}{D:nR}{σ:St}{H:Hp}(Pv:Nat→St→Hp→Prop)(h0:Pv 0 σ H)(hl:∀i σ H,i≤xs.length→Pv i σ H→SqT K H a xs)
  (hs:∀i x σ H,xs[i]? = some x→Pv i σ H→g x σ H fun σ2 H2=>tb { D with nx:=Pv (i+1),ct:=Pv (i+1),bk:=D.nx } σ2 H2) (hd:∀σ H,Pv xs.length σ H→D.nx σ H) :
  ∃W:Nat→Nat→St→Hp→Prop,(∃m,W 0 m σ H)∧∀i m σ H,W i m σ H →
   ((Itt K a).stop i H∧D.nx σ H)∨((Itt K a).go i H∧∃N:St→Hp→Prop,(∀σ' H',N σ' H'→∃m',m'<m∧W (i+1) m' σ' H')∧∀x H',(Itt K a).yld i H x H'→g x σ H' fun σ2 H2=>tb { D with nx:=N,ct:=N,bk:=D.nx } σ2 H2):=by
 refine⟨fun i m σ H=>m=xs.length-i∧i≤xs.length∧Pv i σ H,⟨xs.length,by simp,Nat.zero_le _,h0⟩,?_⟩
 rintro i m σ H ⟨rfl,hi,p⟩
 have q:=hl i σ H hi p
 by_cases hlt:i<xs.length
 ·refine .inr ⟨⟨xs,xs[i],q,by simp[hlt]⟩,Pv (i+1),fun σ' H' p'=>⟨xs.length-(i+1),by omega,rfl,hlt,p'⟩,fun x H' y=>?_⟩
  obtain⟨e,y⟩:=y
  subst e
  exact hs i x σ _ (y xs q) p
 ·have e:i=xs.length:=by omega
  subst e
  exact .inl ⟨⟨xs,q,nlr _⟩,hd σ H p⟩
theorem js {lo:Int}{n:Nat}{g:TG}{tb:TS}{D:nR}{σ:St}{H:Hp}(Pv:Nat→St→Hp→Prop)(h0:Pv 0 σ H)
  (hs:∀i σ H,i<n→Pv i σ H→g (.int (lo+i)) σ H fun σ2 H2=>tb { D with nx:=Pv (i+1),ct:=Pv (i+1),bk:=D.nx } σ2 H2) (hd:∀σ H,Pv n σ H→D.nx σ H) :
  ∃W:Nat→Nat→St→Hp→Prop,(∃m,W 0 m σ H)∧∀i m σ H,W i m σ H →
   ((Itr lo n).stop i H∧D.nx σ H)∨((Itr lo n).go i H∧∃N:St→Hp→Prop,(∀σ' H',N σ' H'→∃m',m'<m∧W (i+1) m' σ' H')∧∀x H',(Itr lo n).yld i H x H'→g x σ H' fun σ2 H2=>tb { D with nx:=N,ct:=N,bk:=D.nx } σ2 H2):=by
 refine⟨fun i m σ H=>m=n-i∧i≤n∧Pv i σ H,⟨n,by simp,Nat.zero_le _,h0⟩,?_⟩
 rintro i m σ H ⟨rfl,hi,p⟩
 by_cases hlt:i<n
 ·refine .inr ⟨hlt,Pv (i+1),fun σ' H' p'=>⟨n-(i+1),by omega,rfl,hlt,p'⟩,fun x H' y=>?_⟩
  obtain⟨e,y⟩:=y
  subst e y
  exact hs i σ _ hlt p
 ·have e:i=n:=by omega
  subst e
  exact .inl ⟨nlr _,hd σ H p⟩
end L2
namespace L2
open PySem PySem.Spec PyProof.Rows
abbrev R2:=V→V→Hp→VK→Prop
def OpR (X:Cx)(f:Value→Value→Sem Value)(r:R2):Prop :=
 ∀(pins:List (Addr×Obj)) (s:Shared) (σ:St) (H:Hp) (x y:V) (v u:Value) (Q:VK),Inv X pins σ H s→aZ x v→aZ y u→r x y H Q →
  wpAny (model X.prog X.w) X.A (f v u) (EP X pins σ Q) X.xe s
def UnR (X:Cx)(f:Value→Sem Value)(r:V→Hp→VK→Prop):Prop :=
 ∀(pins:List (Addr×Obj)) (s:Shared) (σ:St) (H:Hp) (x:V) (v:Value) (Q:VK),Inv X pins σ H s→aZ x v→r x H Q →
  wpAny (model X.prog X.w) X.A (f v) (EP X pins σ Q) X.xe s
def m5 (X:Cx)(f:Value)(r:List V→Hp→VK→Prop):Prop :=
 ∀(pins:List (Addr×Obj)) (s:Shared) (σ:St) (H:Hp) (xs:List V) (us:List Value) (Q:VK),Inv X pins σ H s→aT xs us→r xs H Q →
  wpAny (model X.prog X.w) X.A (call f us) (EP X pins σ Q) X.xe s
def tOp (r:R2)(ta tb:TE):TE:=fun σ H Q=>ta σ H fun x H1=>tb σ H1 fun y H2=>r x y H2 Q
def tUn (r:V→Hp→VK→Prop)(ta:TE):TE:=fun σ H Q=>ta σ H fun x H1=>r x H1 Q
def rI (C:Int→Int→Prop)(g:Int→Int→V):R2:=fun x y H Q=>∃i j,x=.int i∧y=.int j∧C i j∧Q (g i j) H
def rI0 (g:Int→Int→V):R2:=fun x y H Q=>∃i j,x=.int i∧y=.int j∧Q (g i j) H
def rU (g:Int→V):V→Hp→VK→Prop:=fun x H Q=>∃i,x=.int i∧Q (g i) H
section
variable  {X:Cx}{a b c:Expr}{ta tb tc:TE}{pos:Pos}
theorem Aa (ha:PE X a ta)(hb:PE X b tb){pins:List (Addr×Obj)}{s:Shared}{σ:St}{H:Hp}{R:V→V→Hp→Prop}(I:Inv X pins σ H s)
  (h:ta σ H fun x H1=>tb σ H1 fun y H2=>R x y H2) {Q:Value→Shared→Prop} {f:Value→Value→Sem Value}
  (hf:∀v u s2 x y H2,Inv X pins σ H2 s2→aZ x v→aZ y u→R x y H2→wpAny (model X.prog X.w) X.A (f v u) Q X.xe s2) :
  wpAny (model X.prog X.w) X.A (eval a X.env) (fun v s₁=>wpAny (model X.prog X.w) X.A (eval b X.env) (fun u s₂=>wpAny (model X.prog X.w) X.A (f v u) Q X.xe s₂) X.xe s₁) X.xe s:=by
 refine thn (ha pins s σ H _ I h) fun v s1 ⟨x,H1,I1,r1,q1⟩=>?_
 refine thn (hb pins s1 σ H1 _ I1 q1) fun u s2 ⟨y,H2,I2,r2,q2⟩=>?_
 exact hf v u s2 x y H2 I2 r1 r2 q2
theorem aV {op:Operator}{r:R2}(ho:OpR X (binaryOp op) r)(ha:PE X a ta)(hb:PE X b tb):PE X (.BinOp a op b pos) (tOp r ta tb):=by
 intro pins s σ H Q I h
 exact wpAny_BinOp (Aa ha hb I h fun v u s2 x y H2 I2 rx ry q=>ho pins s2 σ H2 x y v u Q I2 rx ry q)
theorem mE {op:UnaryOp}{r:V→Hp→VK→Prop}(ho:UnR X (unaryOp op) r)(ha:PE X a ta):PE X (.UnaryOp op a pos) (tUn r ta):=by
 intro pins s σ H Q I h
 exact UnaryOp_ (thn (ha pins s σ H _ I h) fun v s1 ⟨x,H1,I1,r1,q1⟩=>ho pins s1 σ H1 x v Q I1 r1 q1)
theorem opI {f:Value→Value→Sem Value}{C:Int→Int→Prop}{g:Int→Int→Int}
  (rule:∀(i j:Int) (t u:Tok) (s:Shared) (Q:Value→Shared→Prop) (E:Value→Shared→Prop),C i j→Q (.int (g i j) s.toks) { s with toks:=s.toks+1 }→wpAny (model X.prog X.w) X.A (f (.int i t) (.int j u)) Q E s) :
  OpR X f (rI C fun i j=>.int (g i j)):=by
 intro pins s σ H x y v u Q I rx ry h
 obtain⟨i,j,rfl,rfl,hc,q⟩:=h
 obtain⟨t,rfl⟩:=rx
 obtain⟨t',rfl⟩:=ry
 exact rule i j t t' s _ _ hc ⟨.int (g i j),H,I.tok _,⟨_,rfl⟩,q⟩
theorem B0 {f:Value→Value→Sem Value}{g:Int→Int→Int}
  (rule:∀(i j:Int) (t u:Tok) (s:Shared) (Q:Value→Shared→Prop) (E:Value→Shared→Prop),Q (.int (g i j) s.toks) { s with toks:=s.toks+1 }→wpAny (model X.prog X.w) X.A (f (.int i t) (.int j u)) Q E s) :
  OpR X f (rI0 fun i j=>.int (g i j)):=by
 intro pins s σ H x y v u Q I rx ry h
 obtain⟨i,j,rfl,rfl,q⟩:=h
 obtain⟨t,rfl⟩:=rx
 obtain⟨t',rfl⟩:=ry
 exact rule i j t t' s _ _ ⟨.int (g i j),H,I.tok _,⟨_,rfl⟩,q⟩
theorem yF {f:Value→Value→Sem Value}{g:Int→Int→Bool}
  (rule:∀(i j:Int) (t u:Tok) (s:Shared) (Q:Value→Shared→Prop) (E:Value→Shared→Prop),Q (.bool (g i j)) s→wpAny (model X.prog X.w) X.A (f (.int i t) (.int j u)) Q E s) :
  OpR X f (rI0 fun i j=>.bl (g i j)):=by
 intro pins s σ H x y v u Q I rx ry h
 obtain⟨i,j,rfl,rfl,q⟩:=h
 obtain⟨t,rfl⟩:=rx
 obtain⟨t',rfl⟩:=ry
 exact rule i j t t' s _ _ ⟨.bl (g i j),H,I,rfl,q⟩
def DO (i j:Int):Prop:=0<j∧j<1073741824
def AZ (i j:Int):Prop:=(-(2 ^ 64)<i∧i<2 ^ 64)∨(-(2 ^ 64)<j∧j<2 ^ 64)
theorem AZ.ok {i j:Int}(h:AZ i j):IntMulOk i j:=by
 rcases h with⟨h1,h2⟩|⟨h1,h2⟩
 ·exact .of_left (intBits_le_64 h1 h2)
 ·exact .of_right (intBits_le_64 h1 h2)
theorem dJ:OpR X (binaryOp .Add) (rI0 fun i j=>.int (i+j)):=B0 fun _ _ _ _ _ _ _ q=>add_int q
theorem eG:OpR X (binaryOp .Sub) (rI0 fun i j=>.int (i-j)):=B0 fun _ _ _ _ _ _ _ q=>sub_int q
theorem dN:OpR X (binaryOp .Mult) (rI AZ fun i j=>.int (i*j)):=opI fun _ _ _ _ _ _ _ hc q=>mul_int q hc.ok
theorem pR:OpR X (binaryOp .FloorDiv) (rI DO fun i j=>.int (i / j)):=opI fun i j _ _ _ _ _ hc q=>by
 have h1:(0:Int)<j:=hc.1
 have h2:j<1073741824:=hc.2
 exact floordiv_int (by omega) (by rw[Int.fdiv_eq_ediv_of_nonneg i (by omega)];exact q) (.inl (PyProof.noPylong_small (by omega)))
theorem Ae:OpR X (binaryOp .Mod) (rI (fun _ j=>0<j) fun i j=>.int (i % j)):=opI fun i j _ _ _ _ _ hc q=>by
 have h1:(0:Int)<j:=hc
 exact mod_int' (by omega) (by rw[Int.fmod_eq_emod_of_nonneg i (by omega)];exact q)
theorem unI {f:Value→Sem Value}{g:Int→Int}
  (rule:∀(i:Int) (t:Tok) (s:Shared) (Q:Value→Shared→Prop) (E:Value→Shared→Prop),Q (.int (g i) s.toks) { s with toks:=s.toks+1 }→wpAny (model X.prog X.w) X.A (f (.int i t)) Q E s) :
  UnR X f (rU fun i=>.int (g i)):=by
 intro pins s σ H x v Q I rx h
 obtain⟨i,rfl,q⟩:=h
 obtain⟨t,rfl⟩:=rx
 exact rule i t s _ _ ⟨.int (g i),H,I.tok _,⟨_,rfl⟩,q⟩
theorem jJ:UnR X (unaryOp .USub) (rU fun i=>.int (-i)):=unI fun _ _ _ _ _ q=>neg_int q
end
def Cc:V→V→Bool
 |.non,.non=>true|.non,.int _=>true|.int _,.non=>true|.non,.bl _=>true|.bl _,.non=>true|.non,.str _=>true|.str _,.non=>true
 |.int _,.int _=>true|.bl _,.bl _=>true|.str _,.str _=>true|.byt _,.byt _=>true
 |.int _,.str _=>true|.str _,.int _=>true|.bl _,.str _=>true|.str _,.bl _=>true
 |_,_=>false
def rEq:R2:=fun x y H Q=>Cc x y=true∧Q (.bl (decide (x=y))) H
def rNe:R2:=fun x y H Q=>Cc x y=true∧Q (.bl (!decide (x=y))) H
theorem uz {i j:Int}:decide (V.int i=V.int j)=(i==j):=by
 rw[Bool.eq_iff_iff]
 simp
theorem vV {i j:Bool}:decide (V.bl i=V.bl j)=(i==j):=by
 rw[Bool.eq_iff_iff]
 simp
theorem uq {i j:Str}:decide (V.str i=V.str j)=(i==j):=by
 rw[Bool.eq_iff_iff]
 simp
theorem tY {i j:Array UInt8}:decide (V.byt i=V.byt j)=(i.toList==j.toList):=by
 rw[Bool.eq_iff_iff]
 cases i
 cases j
 simp
section
variable  {X:Cx}{a b c:Expr}{ta tb tc:TE}{pos:Pos}
theorem ba {pins:List (Addr×Obj)}{σ:St}{H:Hp}{s:Shared}{Q:VK}{k k':Bool}(I:Inv X pins σ H s)(q:Q (.bl k) H)(e:k=k'):EP X pins σ Q (.bool k') s:=by
 subst e
 exact⟨.bl k,H,I,rfl,q⟩
theorem ki:OpR X (compareOp .Eq) rEq:=by
 intro pins s σ H x y v u Q I rx ry h
 obtain⟨hs,q⟩:=h
 cases x with
 |non =>
  cases rx
  cases y with
  |non=>cases ry;exact PySem.EqNone.eq_none_none (ba I q (by simp))
  |bl j=>cases ry;exact PySem.EqNone.eq_none_bool (ba I q (by simp))
  |int j=>obtain⟨t',rfl⟩:=ry;exact PySem.EqNone.eq_none_int (ba I q (by simp))
  |str j=>obtain⟨t',rfl⟩:=ry;exact PySem.EqNone.eq_none_str (ba I q (by simp))
  |_=>exact absurd (show false=true from hs) Bool.false_ne_true
 |bl i =>
  cases rx
  cases y with
  |non=>cases ry;exact PySem.EqNone.eq_bool_none (ba I q (by simp))
  |bl j=>cases ry;exact eq_bool (ba I q vV)
  |str j=>obtain⟨t',rfl⟩:=ry;exact PySem.EqMixed.eq_bool_str (ba I q (by simp))
  |_=>exact absurd (show false=true from hs) Bool.false_ne_true
 |int i =>
  obtain⟨t,rfl⟩:=rx
  cases y with
  |non=>cases ry;exact PySem.EqNone.eq_int_none (ba I q (by simp))
  |int j=>obtain⟨t',rfl⟩:=ry;exact eq_int (ba I q uz)
  |str j=>obtain⟨t',rfl⟩:=ry;exact PySem.EqMixed.eq_int_str (ba I q (by simp))
  |_=>exact absurd (show false=true from hs) Bool.false_ne_true
 |str i =>
  obtain⟨t,rfl⟩:=rx
  cases y with
  |non=>cases ry;exact PySem.EqNone.eq_str_none (ba I q (by simp))
  |bl j=>cases ry;exact PySem.EqMixed.eq_str_bool (ba I q (by simp))
  |int j=>obtain⟨t',rfl⟩:=ry;exact PySem.EqMixed.eq_str_int (ba I q (by simp))
  |str j=>obtain⟨t',rfl⟩:=ry;exact eq_str (ba I q uq)
  |_=>exact absurd (show false=true from hs) Bool.false_ne_true
 |byt i =>
  obtain⟨t,rfl⟩:=rx
  cases y with
  |byt j=>obtain⟨t',rfl⟩:=ry;exact PySem.W.eq_bytes (ba I q tY)
  |_=>exact absurd (show false=true from hs) Bool.false_ne_true
 |_=>cases y<;>exact absurd (show false=true from hs) Bool.false_ne_true
theorem xJ:OpR X (compareOp .NotEq) rNe:=by
 intro pins s σ H x y v u Q I rx ry h
 obtain⟨hs,q⟩:=h
 cases x with
 |non =>
  cases rx
  cases y with
  |non=>cases ry;exact PySem.EqNone.ne_none_none (ba I q (by simp))
  |bl j=>cases ry;exact PySem.EqNone.ne_none_bool (ba I q (by simp))
  |int j=>obtain⟨t',rfl⟩:=ry;exact PySem.EqNone.ne_none_int (ba I q (by simp))
  |str j=>obtain⟨t',rfl⟩:=ry;exact PySem.EqNone.ne_none_str (ba I q (by simp))
  |_=>exact absurd (show false=true from hs) Bool.false_ne_true
 |bl i =>
  cases rx
  cases y with
  |non=>cases ry;exact PySem.EqNone.ne_bool_none (ba I q (by simp))
  |bl j=>cases ry;exact ne_bool (ba I q (congrArg not vV))
  |str j=>obtain⟨t',rfl⟩:=ry;exact PySem.EqMixed.ne_bool_str (ba I q (by simp))
  |_=>exact absurd (show false=true from hs) Bool.false_ne_true
 |int i =>
  obtain⟨t,rfl⟩:=rx
  cases y with
  |non=>cases ry;exact PySem.EqNone.ne_int_none (ba I q (by simp))
  |int j=>obtain⟨t',rfl⟩:=ry;exact ne_int (ba I q (congrArg not uz))
  |str j=>obtain⟨t',rfl⟩:=ry;exact PySem.EqMixed.ne_int_str (ba I q (by simp))
  |_=>exact absurd (show false=true from hs) Bool.false_ne_true
 |str i =>
  obtain⟨t,rfl⟩:=rx
  cases y with
  |non=>cases ry;exact PySem.EqNone.ne_str_none (ba I q (by simp))
  |bl j=>cases ry;exact PySem.EqMixed.ne_str_bool (ba I q (by simp))
  |int j=>obtain⟨t',rfl⟩:=ry;exact PySem.EqMixed.ne_str_int (ba I q (by simp))
  |str j=>obtain⟨t',rfl⟩:=ry;exact ne_str (ba I q (congrArg not uq))
  |_=>exact absurd (show false=true from hs) Bool.false_ne_true
 |byt i =>
  obtain⟨t,rfl⟩:=rx
  cases y with
  |byt j=>obtain⟨t',rfl⟩:=ry;exact PySem.W.ne_bytes (ba I q (congrArg not tY))
  |_=>exact absurd (show false=true from hs) Bool.false_ne_true
 |_=>cases y<;>exact absurd (show false=true from hs) Bool.false_ne_true
theorem gq:OpR X (compareOp .Lt) (rI0 fun i j=>.bl (decide (i<j))):=yF fun _ _ _ _ _ _ _ q=>lt_int q
theorem ly:OpR X (compareOp .LtE) (rI0 fun i j=>.bl (decide (i≤j))):=yF fun _ _ _ _ _ _ _ q=>le_int q
theorem d5:OpR X (compareOp .Gt) (rI0 fun i j=>.bl (decide (j<i))):=yF fun _ _ _ _ _ _ _ q=>gt_int q
theorem tO:OpR X (compareOp .GtE) (rI0 fun i j=>.bl (decide (j≤i))):=yF fun _ _ _ _ _ _ _ q=>ge_int q
theorem iL:OpR X (compareOp .Is) (fun x y H Q=>y=.non∧Q (.bl (decide (x=.non))) H):=by
 intro pins s σ H x y v u Q I rx ry h
 obtain⟨rfl,q⟩:=h
 cases ry
 refine is_none_gen (ba I q ?_)
 cases x<;>first
  |(cases rx;rfl)
  |(obtain⟨t,rfl⟩:=rx;rfl)
theorem ju:OpR X (compareOp .IsNot) (fun x y H Q=>y=.non∧Q (.bl (!decide (x=.non))) H):=by
 intro pins s σ H x y v u Q I rx ry h
 obtain⟨rfl,q⟩:=h
 cases ry
 refine isnot_none_gen (ba I q ?_)
 cases x<;>first
  |(cases rx;rfl)
  |(obtain⟨t,rfl⟩:=rx;rfl)
theorem aI (b:Expr){op:CmpOp}(h:op≠.In:=by decide)(h2:op≠.NotIn:=by decide):behindInMarks op b=false:=by
 have e1:(op==CmpOp.In)=false:=by cases op<;>first|rfl|exact absurd rfl h
 have e2:(op==CmpOp.NotIn)=false:=by cases op<;>first|rfl|exact absurd rfl h2
 cases b<;>simp[behindInMarks,e1,e2]
theorem cp {op:CmpOp}{r:R2}(ho:OpR X (compareOp op) r)(ha:PE X a ta)(hb:PE X b tb)(hm:behindInMarks op b=false):PE X (.Compare a [op] [b] pos) (tOp r ta tb):=by
 intro pins s σ H Q I h
 exact wpAny_Compare1 (Aa ha hb I h fun v u s2 x y H2 I2 rx ry q=>ho pins s2 σ H2 x y v u Q I2 rx ry q) hm
def fj (t:TE):TT:=fun σ H Q=>t σ H fun x H'=>∃k,x=.bl k∧Q k H'
theorem aK {op:CmpOp}{r:R2}(ho:OpR X (compareOp op) r)(ha:PE X a ta)(hb:PE X b tb)(hm:behindInMarks op b=false):PT X (.Compare a [op] [b] pos) (fj (tOp r ta tb)):=by
 intro pins s σ H Q I h
 refine wpAny_isTrue_Compare1 (thn (ha pins s σ H _ I h) fun v s1 ⟨x,H1,I1,r1,q1⟩=>thn (hb pins s1 σ H1 _ I1 q1) fun u s2 ⟨y,H2,I2,r2,q2⟩ =>
  thn (ho pins s2 σ H2 x y v u _ I2 r1 r2 q2) fun c s3 ⟨z,H3,I3,r3,k,e,q3⟩=>?_) hm
 subst e
 cases r3
 exact wpAny_truthy_bool ⟨H3,I3,q3⟩
def tf (r r':R2)(ta tb tc:TE):TE:=fun σ H Q=>ta σ H fun x H1=>tb σ H1 fun y H2=>r x y H2 fun z H3=>∃k,z=.bl k ∧
 (if k=true then tc σ H3 fun w' H4=>r' y w' H4 Q else Q (.bl false) H3)
theorem kt {op op':CmpOp}{r r':R2}(ho:OpR X (compareOp op) r)(ho':OpR X (compareOp op') r')(ha:PE X a ta)(hb:PE X b tb)(hc:PE X c tc)
  (hm:lastMarks [op,op'] [b,c]=false:=by with_unfolding_all rfl):PE X (.Compare a [op,op'] [b,c] pos) (tf r r' ta tb tc):=by
 intro pins s σ H Q I h
 refine Compare_chain (thn (ha pins s σ H _ I h) fun v s1 ⟨x,H1,I1,r1,q1⟩=>chain_link (thn (hb pins s1 σ H1 _ I1 q1) fun u s2 ⟨y,H2,I2,r2,q2⟩ =>
  thn (ho pins s2 σ H2 x y v u _ I2 r1 r2 q2) fun d s3 ⟨z,H3,I3,r3,k,e,q3⟩=>?_)) hm
 subst e
 cases r3
 refine wpAny_truthy_bool ?_
 cases k with
 |false=>exact ite_ff ⟨.bl false,H3,I3,rfl,q3⟩
 |true=>exact ite_tt (chain_last (thn (hc pins s3 σ H3 _ I3 q3) fun w' s4 ⟨z',H4,I4,r4,q4⟩=>ho' pins s4 σ H4 y z' u w' Q I4 r2 r4 q4))
theorem md {op op':CmpOp}{r r':R2}(ho:OpR X (compareOp op) r)(ho':OpR X (compareOp op') r')(ha:PE X a ta)(hb:PE X b tb)(hc:PE X c tc)
  (hm:lastMarks [op,op'] [b,c]=false:=by with_unfolding_all rfl):PT X (.Compare a [op,op'] [b,c] pos) (fj (tf r r' ta tb tc)):=by
 intro pins s σ H Q I h
 refine isTrue_chain (thn (ha pins s σ H _ I h) fun v s1 ⟨x,H1,I1,r1,q1⟩=>test_link (thn (hb pins s1 σ H1 _ I1 q1) fun u s2 ⟨y,H2,I2,r2,q2⟩ =>
  thn (ho pins s2 σ H2 x y v u _ I2 r1 r2 q2) fun d s3 ⟨z,H3,I3,r3,k,e,q3⟩=>?_)) hm
 subst e
 cases r3
 refine wpAny_truthy_bool ?_
 cases k with
 |false =>
  obtain⟨k',e',q'⟩:=q3
  cases e'
  exact ite_ff ⟨H3,I3,q'⟩
 |true =>
  refine ite_tt (test_last (thn (hc pins s3 σ H3 _ I3 q3) fun w' s4 ⟨z',H4,I4,r4,q4⟩=>thn (ho' pins s4 σ H4 y z' u w' _ I4 r2 r4 q4) fun d' s5 ⟨z2,H5,I5,r5,k2,e2,q5⟩=>?_))
  subst e2
  cases r5
  exact wpAny_truthy_bool ⟨H5,I5,q5⟩
theorem qi:(sizeLine:Nat)<2 ^ 63:=by rw[sizeLine_eq];decide
theorem wk {x:V}{us:List Value}(r:aT [x] us):∃u,us=[u]∧aZ x u:=by
 cases r with
 |cons r1 r2=>cases r2;exact⟨_,rfl,r1⟩
theorem zF {x y:V}{us:List Value}(r:aT [x,y] us):∃u w',us=[u,w']∧aZ x u∧aZ y w':=by
 cases r with
 |cons r1 r2 =>
  cases r2 with
  |cons r3 r4=>cases r4;exact⟨_,_,rfl,r1,r3⟩
theorem oW (hc:X.calm=true):m5 X (.builtin "max") (fun xs H Q=>∃i j,xs=[.int i,.int j]∧Q (.int (if j > i then j else i)) H):=by
 intro pins s σ H xs us Q I r h
 obtain⟨i,j,rfl,q⟩:=h
 obtain⟨u,w',rfl,⟨t,rfl⟩,⟨t',rfl⟩⟩:=zF r
 refine max_two_ints (I.ok.hd hc) fun h' tk k=>⟨_,H,I.kept k,?_,q⟩
 by_cases hj:j > i
 ·rw[if_pos hj,if_pos hj];exact⟨_,rfl⟩
 ·rw[if_neg hj,if_neg hj];exact⟨_,rfl⟩
theorem oZ (hc:X.calm=true):m5 X (.builtin "min") (fun xs H Q=>∃i j,xs=[.int i,.int j]∧Q (.int (if j<i then j else i)) H):=by
 intro pins s σ H xs us Q I r h
 obtain⟨i,j,rfl,q⟩:=h
 obtain⟨u,w',rfl,⟨t,rfl⟩,⟨t',rfl⟩⟩:=zF r
 refine min_two_ints (I.ok.hd hc) fun h' tk k=>⟨_,H,I.kept k,?_,q⟩
 by_cases hj:j<i
 ·rw[if_pos hj,if_pos hj];exact⟨_,rfl⟩
 ·rw[if_neg hj,if_neg hj];exact⟨_,rfl⟩
end
end L2
namespace L2
open PySem PySem.Spec PyProof.Rows
structure tw (h:Heap)(x dx C:Addr)(mA:Str→Option Value):Prop where
 obj:h.get? x=some (PySem.W.instObj C dx)
 ns:h.Ns1 dx mA
 ne:dx≠x
theorem vH {h:Heap}{dx:Addr}{mA:Str→Option Value}(n:h.Ns1 dx mA):∃od,h.get? dx=some od∧∀name,PySem.W.lookIn name od=some (mA name):=by
 obtain⟨o,es,ep,ho,hd,hk,_,hm⟩:=n
 refine⟨o,ho,fun name=>?_⟩
 have e:=hm name
 unfold nsFind findBy at e
 rw[←Array.find?_toList]at e
 unfold PySem.W.lookIn
 rw[hd]
 dsimp only
 split
 ·rename_i y q
  rw[q]at e
  exact congrArg some e
 ·rename_i q
  rw[q]at e
  have a:es.toList.any (·.refKey)=false:=by
   rw[List.any_eq_false]
   intro y hy
   obtain⟨z,t,hkey⟩:=hk y (Array.mem_toList_iff.mp hy)
   simp[DictEntry.refKey,hkey]
  have a':¬es.toList.any (·.refKey)=true:=by rw[a];exact Bool.false_ne_true
  rw[if_neg a']
  exact congrArg some e
theorem tw.look {h:Heap}{x dx C:Addr}{mA:Str→Option Value}(I:tw h x dx C mA):∃od,PySem.W.InstAt h x (PySem.W.instObj C dx) C (some od)∧∀name,PySem.W.lookIn name od=some (mA name) :=
 let ⟨od,ho,hl⟩:=vH I.ns
 ⟨od,⟨I.obj,rfl,rfl,ho⟩,hl⟩
section
variable  {prog:Program}{w:World}{A:Around}{E:Value→Shared→Prop}{s:Shared}{K:Frag}{x dx C f:Addr}{mA:Str→Option Value}{name:Str}{v:Value}
theorem yC {expr:Bool}{Q:Value→Shared→Prop}(X:K.In s.heap)(I:tw s.heap x dx C mA)(hg:PySem.W.plainGet K C name=true)(hh:PySem.W.hasDictIn K C=true)
  (ha:PySem.W.findIn K (.ref C) name=some none) (hv:mA name=some v) (hv':PySem.W.handedIn v=true) (h:Q v { s with toks:=s.toks+1 }) :
  wpAny (model prog w) A (getAttr (.ref x) name expr) Q E s:=by
 obtain⟨od,J,hl⟩:=I.look
 exact PySem.W.get_value X J (PySem.W.plainGet_of hg).1 (PySem.W.findObj_own hh ha rfl (by rw[hl,hv])) hv' h
theorem xV {pl:Sem Bool}{Q:Value×List Value→Shared→Prop}(X:K.In s.heap)(I:tw s.heap x dx C mA)(hg:PySem.W.plainGet K C name=true)
  (hf:PySem.W.findIn K (.ref C) name=some (some (.ref f))) (ht:PySem.W.isFn K (.ref f)=true) (hv:mA name=none) (h:Q (.ref f,[.ref x]) s) :
  wpAny (model prog w) A (getMethod (.ref x) name pl) Q E s:=by
 obtain⟨od,J,hl⟩:=I.look
 exact PySem.W.method_fn X J (PySem.W.plainGet_of hg).1 (PySem.W.plainGet_of hg).2 hf (beq_iff_eq.mp ht) (by show(PySem.W.lookIn name od).map (·.isSome)=some false;rw[hl,hv];rfl) h
theorem yI {ns:List Str}{Q:Unit→Shared→Prop}(X:K.In s.heap)(I:tw s.heap x dx C mA)
  (hs:PySem.W.findIn K (.ref C) "__setattr__"=some (some (.builtin "object.__setattr__"))) (hp:PySem.W.plainOver K C=true) (ht:PySem.W.takerIn K C name=some none) (hh:PySem.W.hasDictIn K C=true)
  (hw:PySem.Within mA ns) (hsz:ns.length≤sizeLine)
  (h:∀h',tw h' x dx C (fun y=>if y=name then some v else mA y)→Heap.SameBut dx s.heap h'→Q () { s with heap:=h',toks:=s.toks+2 }) :
  wpAny (model prog w) A (setAttr (.ref x) name v) Q E s:=by
 obtain⟨od,J,hl⟩:=I.look
 refine PySem.W.set_plain X J hs (PySem.W.osa_open (s:={ s with toks:=s.toks+1 }) (r:=none) X J hp ht fun b=>?_)
 obtain⟨cd,hc,hd'⟩:=PySem.W.any_some hh
 have hx:s.heap.get? x=some ⟨.ref C,some dx,.plain,#[]⟩:=I.obj
 refine wpAny_bind (wpAny_pure (wpAny_bind (wpAny_bind (wpAny_loadPart hx (wpAny_bind (PySem.W.Looks.here (s:={ s with toks:=s.toks+1 }) (PySem.W.looks_clsIn X hc) ?_))))))
 rw[hd']
 refine wpAny_pure (a:=some dx) (wpAny_bind (wpAny_pure (wpAny_bind ?_)))
 refine wpAny_nsSet1 (s:={ s with toks:=s.toks+1 }) I.ns fun h' hn2 hs2=>?_
 obtain⟨oD,esD,epD,hoD,hdD,hcD⟩:=hn2.count (PySem.Within.cons name v hw)
 refine wpAny_bind (wpAny_lookBehind hoD (by rw[hdD];exact pastItsLine_dict (Nat.le_trans hcD (by rw[List.length_cons];omega))) ?_)
 exact wpAny_pure (h _ ⟨(hs2.2 _ (Ne.symm I.ne)).trans I.obj,hn2,I.ne⟩ hs2)
theorem wX {R:Result→Shared→Prop}{vs:List Value}{kw:List (Str×Value)}(X:K.In s.heap)(hm:PySem.W.makesIn K C=true)
  (hi:PySem.W.findIn K (.ref C) "__init__"=some (some (.ref f))) (hf:PySem.W.typeIn K (.ref f)=some (.type "function"))
  (h:codeAny (model prog w) (A.under (.builtin "type.__call__" ⟨.ref C :: vs,kw⟩)) (.call (.ref f) ⟨.ref (s.heap.objs.size+1) :: vs,kw⟩) (PySem.W.InitBack (s.heap.objs.size+1) R)
   { s with heap:=(s.heap.push PySem.W.emptyDict).push (PySem.W.instObj C s.heap.objs.size) }) :
  codeAny (model prog w) A (.call (.ref C) ⟨vs,kw⟩) R s:=by
 obtain⟨hh,g,d,t,os⟩:=s
 exact PySem.W.make_core (PySem.W.makes_of X hm) (PySem.W.looks_findIn X hi) (fun self=>PySem.W.bind_fn X self hf) (.inl rfl) h
end
def eX (f:Str)(v:V):List (Str×V)→List (Str×V)
 |[]=>[(f,v)]
 |(g,x) :: r=>if g=f then (g,v) :: r else (g,x) :: eX f v r
theorem aH (f g:Str)(v:V):∀fs:List (Str×V),(eX f v fs).lookup g=if g=f then some v else fs.lookup g
 |[]=>by
  show List.lookup g [(f,v)]=_
  by_cases h:g=f
  ·have hb:(g==f)=true:=beq_iff_eq.mpr h
   simp only[List.lookup,hb,if_pos h]
  ·have hb:(g==f)=false:=beq_eq_false_iff_ne.mpr h
   simp only[List.lookup,hb,if_neg h]
 |(k,x) :: r=>by
  have ih:=aH f g v r
  rw[show eX f v ((k,x) :: r)=(if k=f then (k,v) :: r else (k,x) :: eX f v r) from rfl]
  by_cases hk:k=f
  ·rw[if_pos hk]
   by_cases h:g=k
   ·have hb:(g==k)=true:=beq_iff_eq.mpr h
    simp only[List.lookup,hb,if_pos (h.trans hk)]
   ·have hb:(g==k)=false:=beq_eq_false_iff_ne.mpr h
    simp only[List.lookup,hb,if_neg (fun e:g=f=>h (e.trans hk.symm))]
  ·rw[if_neg hk]
   by_cases h:g=k
   ·have hb:(g==k)=true:=beq_iff_eq.mpr h
    simp only[List.lookup,hb,if_neg (fun e:g=f=>hk (h.symm.trans e))]
   ·have hb:(g==k)=false:=beq_eq_false_iff_ne.mpr h
    simp only[List.lookup,hb]
    exact ih
theorem kK (f:Str)(v:V):∀fs:List (Str×V),f∈(eX f v fs).map (·.1)∧∀g,g∈fs.map (·.1)→g∈(eX f v fs).map (·.1)
 |[]=>⟨by simp[eX],fun g h=>by simp at h⟩
 |(k,x) :: r=>by
  obtain⟨i1,i2⟩:=kK f v r
  rw[show eX f v ((k,x) :: r)=(if k=f then (k,v) :: r else (k,x) :: eX f v r) from rfl]
  by_cases hk:k=f
  ·rw[if_pos hk]
   subst hk
   exact⟨by simp,fun g h=>by simpa using h⟩
  ·rw[if_neg hk]
   refine⟨?_,fun g h=>?_⟩
   ·rw[List.map_cons]
    exact List.mem_cons_of_mem _ i1
   ·rw[List.map_cons]at h ⊢
    rcases List.mem_cons.mp h with e|e
    ·exact List.mem_cons.mpr (.inl e)
    ·exact List.mem_cons_of_mem _ (i2 g e)
theorem lC (f:Str)(v:V):∀fs:List (Str×V),(eX f v fs).length≤fs.length+1
 |[]=>by simp[eX]
 |(k,x) :: r=>by
  have ih:=lC f v r
  rw[show eX f v ((k,x) :: r)=(if k=f then (k,v) :: r else (k,x) :: eX f v r) from rfl]
  by_cases hk:k=f
  ·rw[if_pos hk,List.length_cons,List.length_cons];omega
  ·rw[if_neg hk,List.length_cons,List.length_cons];omega
theorem kh.some_of {v:V}{o:Option Value}(r:kh (some v) o):∃u,o=some u∧aZ v u:=by
 cases o with
 |none=>exact(show False from r).elim
 |some u=>exact⟨u,rfl,r⟩
theorem kh.none_of {o:Option Value}(r:kh none o):o=none:=by
 cases o with
 |none=>rfl
 |some u=>exact(show False from r).elim
theorem vc {v:V}{u:Value}(r:aZ v u):PySem.W.handedIn u=true:=by
 cases v with
 |non=>cases (show u=Value.none from r);rfl
 |bl b=>cases (show u=Value.bool b from r);rfl
 |int i=>obtain⟨t,e⟩:=(show ∃t,u=Value.int i t from r);cases e;rfl
 |str x=>obtain⟨t,e⟩:=(show ∃t,u=Value.str x t from r);cases e;rfl
 |byt b=>obtain⟨t,e⟩:=(show ∃t,u=Value.bytes b t from r);cases e;rfl
 |flt b=>obtain⟨t,e⟩:=(show ∃t,u=Value.float b t from r);cases e;rfl
 |ref a=>cases (show u=Value.ref a from r);rfl
 |ty n=>cases (show u=Value.type n from r);rfl
section
variable  {P:Program}{w:World}{H H':Hp}{h h':Heap}{a C dx:Addr}{fs fs':List (Str×V)}
theorem qk (hok:HOk P w H h)(e:H a=some (.ins C dx fs)):∃mA,tw h a dx C mA∧(∀f,kh (fs.lookup f) (mA f))∧PySem.Within mA (fs.map (·.1))∧fs.length≤1000∧H dx=some (.own a):=by
 obtain⟨d,z,ne,ob,mA,n,r,q⟩:=(show b7 P w H h a (.ins C dx fs) from hok a _ e)
 exact⟨mA,⟨ob,n,ne⟩,r,q,z,d⟩
end
structure Cls (K:Frag)(C:Addr):Prop where
 pg:PySem.W.plainGet K C Str.empty=true
 hd:PySem.W.hasDictIn K C=true
 po:PySem.W.plainOver K C=true
 sa:PySem.W.findIn K (.ref C) "__setattr__"=some (some (.builtin "object.__setattr__"))
theorem Cls.get {K:Frag}{C:Addr}(c:Cls K C)(f:Str):PySem.W.plainGet K C f=true:=c.pg
def eu (K:Frag)(C:Addr)(f:Str):Prop:=PySem.W.findIn K (.ref C) f=some none
theorem eu.taker {K:Frag}{C:Addr}{f:Str}(n:eu K C f):PySem.W.takerIn K C f=some none:=by
 unfold PySem.W.takerIn
 rw[show PySem.W.findIn K (.ref C) f=some none from n]
 rfl
structure vM (K:Frag)(C:Addr)(m:Str)(f:Addr):Prop where
 at_:PySem.W.findIn K (.ref C) m=some (some (.ref f))
 fn:PySem.W.isFn K (.ref f)=true
 kp:PySem.W.keepIn K (.ref f)=true
section
variable  {X:Cx}{pins:List (Addr×Obj)}{σ:St}{H:Hp}{s:Shared}{a C dx:Addr}{fs:List (Str×V)}{f:Str}{v:V}{A:Around}{E:Value→Shared→Prop}
theorem sL {b:Bool}{Q:Value→Shared→Prop}(I:Inv X pins σ H s)(e:H a=some (.ins C dx fs))(c:Cls X.K C)(n:eu X.K C f)(l:fs.lookup f=some v)
  (h:∀u s',Inv X pins σ H s'→aZ v u→Q u s'):wpAny (model X.prog X.w) A (getAttr (.ref a) f b) Q E s:=by
 obtain⟨mA,O,r,_,_,_⟩:=qk I.hok e
 obtain⟨u,hu,ru⟩:=kh.some_of (v:=v) (o:=mA f) (by rw[←l];exact r f)
 exact yC I.kIn O (c.get f) c.hd n hu (vc ru) (h u _ (I.tok _) ru)
theorem jI {m:Str}{g:Addr}{pl:Sem Bool}{Q:Value×List Value→Shared→Prop}(I:Inv X pins σ H s)(e:H a=some (.ins C dx fs))(c:Cls X.K C)(k:vM X.K C m g)(l:fs.lookup m=none)
  (h:Q (.ref g,[.ref a]) s):wpAny (model X.prog X.w) A (getMethod (.ref a) m pl) Q E s:=by
 obtain⟨mA,O,r,_,_,_⟩:=qk I.hok e
 have hn:mA m=none:=kh.none_of (by rw[←l];exact r m)
 exact xV I.kIn O (c.get m) k.at_ k.fn hn h
theorem tD {y:V}{u:Value}{Q:Unit→Shared→Prop}(I:Inv X pins σ H s)(e:H a=some (.ins C dx fs))(c:Cls X.K C)(n:eu X.K C f)(hl:fs.length<1000)(ry:aZ y u)
  (h:∀s',Inv X pins σ (upd H a (.ins C dx (eX f y fs))) s'→Q () s'):wpAny (model X.prog X.w) A (setAttr (.ref a) f u) Q E s:=by
 obtain⟨mA,O,r,wi,_,ho⟩:=qk I.hok e
 have hz:(fs.map (·.1)).length≤sizeLine:=by rw[lmp,sizeLine_eq];omega
 refine yI I.kIn O c.sa c.po n.taker c.hd wi hz fun h' O' sb=>h _ ?_
 have hd:∃o,h'.get? dx=some o:=let ⟨o,_,_,e',_⟩:=O'.ns;⟨o,e'⟩
 refine I.write (x:=a) (e:=dx) (by rw[e];exact True.intro) (.inr ho) (fun b q hb z=>(sb.2 b hb).trans z) hd ?_
 refine⟨by rw[ap O.ne];exact ho,?_,O.ne,O'.obj,_,O'.ns,fun g=>?_,fun g hg=>?_⟩
 ·have:=lC f y fs;omega
 ·show kh ((eX f y fs).lookup g) (if g=f then some u else mA g)
  rw[aH]
  by_cases q:g=f
  ·rw[if_pos q,if_pos q];exact ry
  ·rw[if_neg q,if_neg q];exact r g
 ·by_cases q:g=f
  ·rw[q];exact(kK f y fs).1
  ·refine(kK f y fs).2 g (wi g fun z=>hg ?_)
   show(if g=f then some u else mA g)=none
   rw[if_neg q];exact z
theorem Inv.made (I:Inv X pins σ H s):Inv X pins σ (upd (upd H s.heap.objs.size (.own (s.heap.objs.size+1))) (s.heap.objs.size+1) (.ins C s.heap.objs.size []))
  { s with heap:=(s.heap.push PySem.W.emptyDict).push (PySem.W.instObj C s.heap.objs.size) }:=by
 have e1:(s.heap.push PySem.W.emptyDict).get? s.heap.objs.size=some PySem.W.emptyDict:=Heap.get?_push_size s.heap rfl
 have e2:((s.heap.push PySem.W.emptyDict).push (PySem.W.instObj C s.heap.objs.size)).get? (s.heap.objs.size+1)=some (PySem.W.instObj C s.heap.objs.size):=by
  have:=Heap.get?_push_size (s.heap.push PySem.W.emptyDict) (o:=PySem.W.instObj C s.heap.objs.size) rfl
  rwa [Heap.size_push]at this
 have e3:(s.heap.push PySem.W.emptyDict).Ns s.heap.objs.size (fun _=>none):=⟨PySem.W.emptyDict,#[],_,e1,rfl,(fun e he=>absurd he (by simp)),fun _=>rfl⟩
 have I1:=I.laid (a:=s.heap.objs.size) (o:=.own (s.heap.objs.size+1)) (h':=s.heap.push PySem.W.emptyDict) (t':=s.toks) (fun b u q=>Heap.get?_push_of_some _ q) (nlr _) ⟨_,e1⟩
 refine I1.laid (a:=s.heap.objs.size+1) (o:=.ins C s.heap.objs.size []) (t':=s.toks) (fun b u q=>Heap.get?_push_of_some _ q) (Nat.le_of_eq (Heap.size_push _ _)) ?_
 have ne:s.heap.objs.size≠s.heap.objs.size+1:=Nat.ne_of_lt (Nat.lt_succ_self _)
 refine⟨by rw[ap ne,af],Nat.zero_le _,ne,e2,fun _=>none,(Heap.Ns1.of_empty e3).at fun o q=>Heap.get?_push_of_some _ q,fun _=>True.intro,fun y hy=>absurd rfl hy⟩
theorem zf {prog:Program}{w:World}{env:Env}{e:Expr}{f:Str}{pos:Pos}{s:Shared}{Q:Value→Shared→Prop}(hb:attributeBase e f env (eval e env)=eval e env)
  (h:wpAny (model prog w) A (eval e env) (fun o s₁=>wpAny (model prog w) A (getAttr o f true) Q E s₁) E s):wpAny (model prog w) A (eval (.Attribute e f pos) env) Q E s :=
 Attribute_any_ h (by rw[arm_eval_Attribute,hb])
end
def xw (K:Frag)(ta:TE)(f:Str):TE:=fun σ H Q=>ta σ H fun x H1=>∃a C dx fs v,x=.ref a∧H1 a=some (.ins C dx fs)∧Cls K C∧eu K C f∧fs.lookup f=some v∧Q v H1
def Em (K:Frag)(ta tv:TE)(f:Str):TS:=fun D σ H=>tv σ H fun y H1=>ta σ H1 fun x H2=>∃a C dx fs,x=.ref a∧H2 a=some (.ins C dx fs)∧Cls K C∧eu K C f∧fs.length<1000 ∧
 D.nx σ (upd H2 a (.ins C dx (eX f y fs)))
section
variable  {X:Cx}{o e value:Expr}{f:Str}{pos pos' tpos:Pos}{ta tv:TE}
theorem aR (he:PE X e ta)(hb:attributeBase e f X.env (eval e X.env)=eval e X.env):PE X (.Attribute e f pos) (xw X.K ta f):=by
 intro pins s σ H Q I h
 refine zf hb (thn (he pins s σ H _ I h) fun u s1 ⟨x,H1,I1,rx,a,C,dx,fs,v,ex,ea,c,n,l,q⟩=>?_)
 subst ex
 obtain rfl:u=Value.ref a:=rx
 exact sL I1 ea c n l fun u' s2 I2 ru=>⟨v,H1,I2,ru,q⟩
theorem iW (ha:PE X o ta)(hv:PE X value tv)(hs:swapsWith value (some (.Attribute o f pos')) pos.line X.env=pure false):PS X (.Assign [.Attribute o f pos'] value pos) (Em X.K ta tv f):=by
 intro pins s σ H D I h
 refine plainObj_wpAny_Assign_Attribute (thn (hv pins s σ H _ I h) fun u s1 ⟨y,H1,I1,ry,q⟩=>thn (ha pins s1 σ H1 _ I1 q) fun ov s2 ⟨x,H2,I2,rx,a,C,dx,fs,ex,ea,c,n,l,q2⟩=>?_) hs
 subst ex
 obtain rfl:ov=Value.ref a:=rx
 exact tD I2 ea c n l ry fun s3 I3=>⟨σ,_,I3,q2⟩
theorem zG {pl:Sem Bool}{m:Str}{apos:Pos}{args:List Expr}{pins:List (Addr×Obj)}{s:Shared}{σ:St}{H:Hp}{Q:Value→Shared→Prop}{te:TE}(he:PE X e te)(I:Inv X pins σ H s)
  (h:te σ H fun x H1=>∃a C dx fs g,x=.ref a∧H1 a=some (.ins C dx fs)∧Cls X.K C∧vM X.K C m g∧fs.lookup m=none ∧
   ∀s1,Inv X pins σ H1 s1→wpAny (model X.prog X.w) X.A (callWith pos (.ref g) [.ref a] (backTo pos (starEach args X.env)) (backToKw pos (keywordEach [] X.env))) Q X.xe s1)
  (ht:eval (.Call (.Attribute e m apos) args [] pos) X.env=(do
   let ov ←eval e X.env
   standAt apos.atName
   let (f,first) ←holding [ov] (getMethod ov m pl)
   callWith pos f first (backTo pos (starEach args X.env)) (backToKw pos (keywordEach [] X.env)))) :
  wpAny (model X.prog X.w) X.A (eval (.Call (.Attribute e m apos) args [] pos) X.env) Q X.xe s:=by
 refine PySem.W.methodCall_KW (pl:=pl) (thn (he pins s σ H _ I h) fun u s1 ⟨x,H1,I1,rx,a,C,dx,fs,g,ex,ea,c,k,l,q⟩=>?_) ht
 subst ex
 obtain rfl:u=Value.ref a:=rx
 exact jI I1 ea c k l (q s1 I1)
end
section
variable  {X:Cx}{pins:List (Addr×Obj)}{σ:St}{H:Hp}{s:Shared}{A:Around}{E:Value→Shared→Prop}{Q:Value→Shared→Prop}{c:Value}{b:Bool}
end
end L2
namespace L2
open PySem PySem.Spec PyProof.Rows
structure bu (k:Nat)(A:Around):Prop where
 hd:A.handled=none
 dp:A.depth+3*k+5<recursionLimit
 un:A.units+16*k+200<cLine
theorem bu.mono {j k:Nat}{A:Around}(r:bu k A)(h:j≤k):bu j A:=⟨r.hd,by have:=r.dp;omega,by have:=r.un;omega⟩
theorem bu.deeper {k:Nat}{A:Around}(r:bu (k+1) A)(env:Env):bu k (A.deeper env) :=
 ⟨r.hd,by have:=r.dp;show A.depth+1+3*k+5<_;omega,by have:=r.un;show A.units+3+16*k+200<_;omega⟩
theorem sv {A:Around}{C:Addr}{us:List Value}{kw:List (Str×Value)}:(A.under (.builtin "type.__call__" ⟨.ref C :: us,kw⟩)).depth=A.depth+1:=by
 first|rfl|simp[Around.under,Code.weight,Code.isCreation,Code.isGuard,Code.isCaller,Code.frames,Code.isFrame,guardIds]
theorem r8 {A:Around}{C:Addr}{us:List Value}{kw:List (Str×Value)}:(A.under (.builtin "type.__call__" ⟨.ref C :: us,kw⟩)).units=A.units+1:=by
 first|rfl|simp[Around.under,Code.cUnits,Code.frames,Code.isFrame]
theorem bu.make {k:Nat}{A:Around}(r:bu (k+1) A)(C:Addr)(us:List Value)(kw:List (Str×Value)):bu k (A.under (.builtin "type.__call__" ⟨.ref C :: us,kw⟩)) :=
 ⟨r.hd,by have:=r.dp;rw[sv];omega,by have:=r.un;rw[r8];omega⟩
theorem bu.depth {k:Nat}{A:Around}(r:bu k A):A.depth<recursionLimit:=by have:=r.dp;omega
theorem bu.units {k:Nat}{A:Around}(r:bu k A):A.units+64<cLine:=by have:=r.un;omega
theorem bu.units0 {k:Nat}{A:Around}(r:bu k A):A.units<cLine:=by have:=r.un;omega
def fS:TA:=fun _ H Q=>Q [] H
def bD (ta:TE)(tr:TA):TA:=fun σ H Q=>ta σ H fun x H1=>tr σ H1 fun xs H2=>Q (x :: xs) H2
section
variable  {X:Cx}{e:Expr}{es:List Expr}{te:TE}{t:TA}{pos:Pos}
theorem ac:PA X [] fS:=fun _ _ _ _ H Q I h=>Calls.spliced_nil ⟨[],H,I,.nil,h⟩
theorem aa (ha:PE X e te)(hr:PA X es t)(hs:starEach (e :: es) X.env=(false,eval e X.env) :: starEach es X.env:=by rfl):PA X (e :: es) (bD te t):=by
 intro pos pins s σ H Q I h
 rw[hs]
 show wpAny _ _ (spliced ((false,eval e X.env) :: backTo pos (starEach es X.env))) _ _ s
 refine Calls.spliced_cons (thn (ha pins s σ H _ I h) fun u s1 ⟨x,H1,I1,r1,q1⟩=>?_)
 exact thn (hr pos pins s1 σ H1 _ I1 q1) fun us s2 ⟨xs,H2,I2,r2,q2⟩=>⟨x :: xs,H2,I2,.cons r1 r2,q2⟩
def vf (t:TA):TE:=fun σ H Q=>t σ H fun xs H1=>xs.length≤sizeLine∧∀p,H1 p=none→Q (.ref p) (upd H1 p (.tup xs))
def Dn (t:TA):TE:=fun σ H Q=>t σ H fun xs H1=>xs.length≤sizeLine∧∀p,H1 p=none→Q (.ref p) (upd H1 p (.lst xs))
theorem bA {x1}(h:PA X es t):PE X (.Tuple es x1 pos) (vf t):=by
 intro pins s σ H Q I hq
 refine wpAny_Tuple_spliced (thn (h pos pins s σ H _ I hq) fun us s1 ⟨xs,H1,I1,r,z,q⟩=>⟨by rw[←r.length];exact z,?_⟩)
 have hf:H1 s1.heap.objs.size=none:=I1.hok.fresh (nlr _)
 refine⟨.ref s1.heap.objs.size,upd H1 s1.heap.objs.size (.tup xs),I1.laid (t':=s1.toks) (fun b u e=>Heap.get?_push_of_some _ e) (nlr _) ?_,rfl,q _ hf⟩
 exact⟨z,us,r,⟨_,Heap.get?_push_size _ rfl,rfl,_,rfl⟩⟩
theorem d3 (h:PA X es t):PE X (.List es pos) (Dn t):=by
 intro pins s σ H Q I hq
 refine wpAny_List_spliced (thn (h pos pins s σ H _ I hq) fun us s1 ⟨xs,H1,I1,r,z,q⟩=>⟨by rw[←r.length];exact z,?_⟩)
 have hf:H1 s1.heap.objs.size=none:=I1.hok.fresh (nlr _)
 refine⟨.ref s1.heap.objs.size,upd H1 s1.heap.objs.size (.lst xs),I1.laid (t':=s1.toks) (fun b u e=>Heap.get?_push_of_some _ e) (nlr _) ?_,rfl,q _ hf⟩
 exact⟨z,us,0,r,Heap.get?_push_size _ rfl⟩
end
abbrev Sp:=List V→Hp→VK→XK→Prop
abbrev CXT:=List Env→Hp→Shared→XK→Value→Shared→Prop
structure qN (P:Program)(w:World)(K:Frag)(mg:Str→Option Value)(base:Heap)(A:Around)(outer:List Env)(s:Shared)(H:Hp):Prop where
 frames:A.frames=some outer
 mod:Mod K mg base
 bs:∀b o,base.get? b=some o→s.heap.get? b=some o∧H b=none
 bsz:base.objs.size≤s.heap.objs.size
 funs:s.heap.FunFrames base outer
 frf:∀b∈frs outer,H b=none
 hok:HOk P w H s.heap
 bare:AllBare s.gens
def CE (outer:List Env)(P:Program)(w:World)(H:Hp)(s:Shared)(Q:VK)(u:Value)(s':Shared):Prop :=
 ∃v H',s'.os=s.os∧AllBare s'.gens∧Un (frs outer) [] H H' s.heap s'.heap∧HOk P w H' s'.heap∧aZ v u∧Q v H'
def CR (CX:CXT)(outer:List Env)(P:Program)(w:World)(H:Hp)(s:Shared)(Q:VK)(E:XK)(r:Result)(s':Shared):Prop :=
 match r with
 |.ok (.ret u)=>CE outer P w H s Q u s'
 |.ok _=>False
 |.error e=>CX outer H s E e s'
structure jw (P:Program)(w:World)(K:Frag)(mg:Str→Option Value)(base:Heap)(CX:CXT)(k:Nat)(f:Addr)(fd:FuncData)(ps:List Str)(sp:Sp):Prop where
 len:∀vs H Q E,sp vs H Q E→vs.length=ps.length
 run:∀(A:Around) (outer:List Env) (s:Shared) (H:Hp) (args:Args) (us:List Value) (vs:List V) (Q:VK) (E:XK),bu k A→qN P w K mg base A outer s H→BindsTo s fd args (ps.zip us)→aT vs us→sp vs H Q E →
  codeAny (model P w) A (.call (.ref f) args) (CR CX outer P w H s Q E) s
theorem qN.make {P:Program}{w:World}{K:Frag}{mg:Str→Option Value}{base:Heap}{A:Around}{outer:List Env}{s:Shared}{H:Hp}(e:qN P w K mg base A outer s H)(C:Addr)(us:List Value)(kw:List (Str×Value)) :
  qN P w K mg base (A.under (.builtin "type.__call__" ⟨.ref C :: us,kw⟩)) outer s H:=⟨by first|exact e.frames|(simpa [Around.under,Code.envs,Code.isFrame,pushEnvs] using e.frames),e.mod,e.bs,e.bsz,e.funs,e.frf,e.hok,e.bare⟩
section
variable  {X:Cx}{pins:List (Addr×Obj)}{σ:St}{H:Hp}{s s':Shared}
theorem Inv.env0 (I:Inv X pins σ H s):qN X.prog X.w X.K X.mg X.base X.A X.stack s H :=
 ⟨I.ok.frames,I.ok.mod,I.bs,Nat.le_trans I.ok.bsz I.sz,I.stack,I.stkFree,I.hok,I.bare⟩
theorem Inv.after {Q:VK}{u:Value}(I:Inv X pins σ H s)(h:CE X.stack X.prog X.w H s Q u s'):EP X pins σ Q u s':=by
 obtain⟨v,H',os,bare,un,hok,r,q⟩:=h
 obtain⟨hh,g,d,t,os'⟩:=s'
 obtain rfl:os'=s.os:=os
 exact⟨v,H',I.call (h':=hh) (g':=g) (d':=d) (t':=t) (ch:=[]) un hok bare (fun b z=>absurd z (by simp)),r,q⟩
end
def lJ (sp:Sp)(dvs:List V)(E:XK)(t:TA):TE:=fun σ H Q=>t σ H fun vs H1=>sp (vs++dvs) H1 Q E
def jY (C:Addr)(m:Str)(sp:Sp)(dvs:List V)(E:XK)(ta:TE)(t:TA):TE:=fun σ H Q=>ta σ H fun x H1=>∃a dx fs,x=.ref a∧H1 a=some (.ins C dx fs)∧fs.lookup m=none ∧
 t σ H1 fun vs H2=>sp (x :: (vs++dvs)) H2 Q E
def zM (C:Addr)(sp:Sp)(dvs:List V)(E:XK)(t:TA):TE:=fun σ H Q=>t σ H fun vs H1=>∀x dx,H1 x=none→H1 dx=none→dx≠x →
 sp (.ref x :: (vs++dvs)) (upd (upd H1 dx (.own x)) x (.ins C dx [])) (fun v H2=>v=.non∧Q (.ref x) H2) E
def jd (K:Frag)(fd:FuncData)(ps:List Str)(ds:List Value):Prop :=
 ∀(s:Shared) (us:List Value),K.In s.heap→(us++ds).length=ps.length→BindsTo s fd ⟨us,[]⟩ (ps.zip (us++ds))
theorem jd.all {K:Frag}{fd:FuncData}{ps:List Str}(h:∀us:List Value,us.length=ps.length→bindArgs fd ⟨us,[]⟩=pure (ps.zip us)):jd K fd ps []:=fun s us _ hl=>by
 rw[List.append_nil]at hl ⊢
 exact .of_eq (h us hl)
def jA (CX:CXT)(X:Cx)(E:XK):Prop:=∀(pins:List (Addr×Obj)) (σ:St) (H:Hp) (s:Shared) (e:Value) (s':Shared),Inv X pins σ H s→CX X.stack H s E e s'→X.xe e s'
section
variable  {X:Cx}{CX:CXT}{k:Nat}{f C:Addr}{fd:FuncData}{ps:List Str}{sp:Sp}{dvs:List V}{ds:List Value}{E:XK}{x m:Str}{p pos apos:Pos}{e o:Expr}{es:List Expr}{ta:TE}{t:TA}
theorem sY {pins:List (Addr×Obj)}{σ:St}{H:Hp}{s:Shared}{Q:VK}{us:List Value}{vs:List V}(F:jw X.prog X.w X.K X.mg X.base CX k f fd ps sp)(hr:bu k X.A)(hb:jd X.K fd ps ds)(hd:aT dvs ds)(hx:jA CX X E)
  (I:Inv X pins σ H s) (r:aT vs us) (h:sp (vs++dvs) H Q E):wpAny (model X.prog X.w) X.A (call (.ref f) us) (EP X pins σ Q) X.xe s:=by
 have r2:aT (vs++dvs) (us++ds):=r.append hd
 have hl:(us++ds).length=ps.length:=by rw[←r2.length];exact F.len _ _ _ _ h
 refine wpAny_call (codeAny_mono (F.run X.A X.stack s H ⟨us,[]⟩ (us++ds) (vs++dvs) Q E hr I.env0 (hb s us I.kIn hl) r2 h) fun r s' hq=>?_)
 cases r with
 |error e=>exact hx pins σ H s e s' I hq
 |ok fl =>
  cases fl with
  |ret u=>exact I.after hq
  |next=>exact False.elim hq
  |brk=>exact False.elim hq
  |cont=>exact False.elim hq
theorem yz (F:jw X.prog X.w X.K X.mg X.base CX k f fd ps sp)(hr:bu k X.A)(hg:Gl X x)(hm:X.mg x=some (.ref f))(hk:PySem.W.keepIn X.K (.ref f)=true)(hb:jd X.K fd ps ds)(hd:aT dvs ds)(hx:jA CX X E)
  (ha:PA X (e :: es) t) (hdb:(x==("__debug__" : Str))=false:=by decide) (he:starEach (e :: es) X.env=(false,eval e X.env) :: starEach es X.env:=by rfl) (hpl:(backTo pos (starEach es X.env)).any (·.1)=false:=by rfl) :
  PE X (.Call (.Name x p) (e :: es) [] pos) (lJ sp dvs E t):=by
 intro pins s σ H Q I h
 refine wpAny_Call_Name_kw (qb I hg hm ?_ hdb)
 refine PySem.W.callWith_K (h₀:=X.base) I.ok.mod.kin hk (thn (ha pos pins s σ H _ I h) fun us s1 ⟨vs,H1,I1,r,q⟩=>⟨I1.kIn,?_⟩) he hpl
 exact sY F hr hb hd hx I1 r q
theorem yg {pl:Sem Bool}(he:PE X o ta)(c:Cls X.K C)(hm:vM X.K C m f)(F:jw X.prog X.w X.K X.mg X.base CX k f fd ps sp)(hr:bu k X.A)(hb:jd X.K fd ps ds)(hd:aT dvs ds)(hx:jA CX X E)(ha:PA X (e :: es) t)
  (hst:starEach (e :: es) X.env=(false,eval e X.env) :: starEach es X.env:=by rfl) (hpl:(backTo pos (starEach es X.env)).any (·.1)=false:=by rfl)
  (ht:eval (.Call (.Attribute o m apos) (e :: es) [] pos) X.env=(do
   let ov ←eval o X.env
   standAt apos.atName
   let (f,first) ←holding [ov] (getMethod ov m pl)
   callWith pos f first (backTo pos (starEach (e :: es) X.env)) (backToKw pos (keywordEach [] X.env))):=by rfl) :
  PE X (.Call (.Attribute o m apos) (e :: es) [] pos) (jY C m sp dvs E ta t):=by
 intro pins s σ H Q I h
 refine PySem.W.methodCall_KW (pl:=pl) (thn (he pins s σ H _ I h) fun u s1 ⟨x,H1,I1,rx,a,dx,fs,ex,ea,l,q⟩=>?_) ht
 subst ex
 obtain rfl:u=Value.ref a:=rx
 refine jI I1 ea c hm l ?_
 refine PySem.W.callWith_K (first:=[.ref a]) (h₀:=X.base) I.ok.mod.kin hm.kp (thn (ha pos pins s1 σ H1 _ I1 q) fun us s2 ⟨vs,H2,I2,r,q2⟩=>⟨I2.kIn,?_⟩) hst hpl
 exact sY (us:=.ref a :: us) (vs:=.ref a :: vs) F hr hb hd hx I2 (.cons rfl r) q2
theorem wq {pl:Sem Bool}(he:PE X o ta)(c:Cls X.K C)(hm:vM X.K C m f)(F:jw X.prog X.w X.K X.mg X.base CX k f fd ps sp)(hr:bu k X.A)(hb:jd X.K fd ps ds)(hd:aT dvs ds)(hx:jA CX X E)
  (ht:eval (.Call (.Attribute o m apos) [] [] pos) X.env=(do
   let ov ←eval o X.env
   standAt apos.atName
   let (f,first) ←holding [ov] (getMethod ov m pl)
   callWith pos f first (backTo pos (starEach [] X.env)) (backToKw pos (keywordEach [] X.env))):=by rfl) :
  PE X (.Call (.Attribute o m apos) [] [] pos) (jY C m sp dvs E ta fS):=by
 intro pins s σ H Q I h
 refine PySem.W.methodCall_KW (pl:=pl) (thn (he pins s σ H _ I h) fun u s1 ⟨x,H1,I1,rx,a,dx,fs,ex,ea,l,q⟩=>?_) ht
 subst ex
 obtain rfl:u=Value.ref a:=rx
 refine jI I1 ea c hm l ?_
 exact PySem.W.callWith_K0 (first:=[.ref a]) I1.kIn hm.kp (sY (us:=[.ref a]) (vs:=[.ref a]) F hr hb hd hx I1 (.cons rfl .nil) q)
structure Mk (K:Frag)(C f:Addr):Prop where
 makes:PySem.W.makesIn K C=true
 init:PySem.W.findIn K (.ref C) "__init__"=some (some (.ref f))
 fn:PySem.W.isFn K (.ref f)=true
 kp:PySem.W.keepIn K (.ref C)=true
theorem wG {pins:List (Addr×Obj)}{σ:St}{H:Hp}{s:Shared}{Q:VK}{us:List Value}{vs:List V}(M:Mk X.K C f)(F:jw X.prog X.w X.K X.mg X.base CX k f fd ps sp)(hr:bu (k+1) X.A)(hb:jd X.K fd ps ds)(hd:aT dvs ds)
  (hx:jA CX X E) (I:Inv X pins σ H s) (r:aT vs us)
  (h:∀x dx,H x=none→H dx=none→dx≠x→sp (.ref x :: (vs++dvs)) (upd (upd H dx (.own x)) x (.ins C dx [])) (fun v H2=>v=.non∧Q (.ref x) H2) E) :
  wpAny (model X.prog X.w) X.A (call (.ref C) us) (EP X pins σ Q) X.xe s:=by
 have hq:=h (s.heap.objs.size+1) s.heap.objs.size (I.hok.fresh (Nat.le_succ _)) (I.hok.fresh (nlr _)) (Nat.ne_of_lt (Nat.lt_succ_self _))
 have I2:=Inv.made (C:=C) I
 have r2:aT (V.ref (s.heap.objs.size+1) :: (vs++dvs)) (Value.ref (s.heap.objs.size+1) :: (us++ds)):=.cons rfl (r.append hd)
 have hl:(Value.ref (s.heap.objs.size+1) :: us++ds).length=ps.length:=by
  have e:=r2.length
  rw[F.len _ _ _ _ hq]at e
  exact e.symm
 refine wpAny_call (wX (f:=f) I.kIn M.makes M.init (beq_iff_eq.mp M.fn) (codeAny_mono (F.run _ X.stack _ _ ⟨Value.ref (s.heap.objs.size+1) :: us,[]⟩ (Value.ref (s.heap.objs.size+1) :: (us++ds)) _ _ E (hr.make C us [])
  (I2.env0.make C us []) (hb _ (Value.ref (s.heap.objs.size+1) :: us) I2.kIn hl) r2 hq) fun r s' hq'=>?_))
 cases r with
 |error e=>exact hx pins σ _ _ e s' I2 hq'
 |ok fl =>
  cases fl with
  |ret u =>
   obtain⟨v,H',I3,rv,ev,q3⟩:=I2.after hq'
   subst ev
   exact⟨rv,⟨V.ref (s.heap.objs.size+1),H',I3,rfl,q3⟩⟩
  |next=>exact False.elim hq'
  |brk=>exact False.elim hq'
  |cont=>exact False.elim hq'
theorem yT (M:Mk X.K C f)(F:jw X.prog X.w X.K X.mg X.base CX k f fd ps sp)(hr:bu (k+1) X.A)(hg:Gl X x)(hm:X.mg x=some (.ref C))(hb:jd X.K fd ps ds)(hd:aT dvs ds)(hx:jA CX X E)
  (ha:PA X (e :: es) t) (hdb:(x==("__debug__" : Str))=false:=by decide) (he:starEach (e :: es) X.env=(false,eval e X.env) :: starEach es X.env:=by rfl) (hpl:(backTo pos (starEach es X.env)).any (·.1)=false:=by rfl) :
  PE X (.Call (.Name x p) (e :: es) [] pos) (zM C sp dvs E t):=by
 intro pins s σ H Q I h
 refine wpAny_Call_Name_kw (qb I hg hm ?_ hdb)
 refine PySem.W.callWith_K (h₀:=X.base) I.ok.mod.kin M.kp (thn (ha pos pins s σ H _ I h) fun us s1 ⟨vs,H1,I1,r,q⟩=>⟨I1.kIn,?_⟩) he hpl
 exact wG M F hr hb hd hx I1 r q
end
section
variable  {X:Cx}{CX:CXT}{k:Nat}{f C:Addr}{fd:FuncData}{ps ks:List Str}{sp:Sp}{E:XK}{x m:Str}{p pos apos kpos:Pos}{e o:Expr}{es:List Expr}{kws:List Keyword}{te ta:TE}{t tk:TA}{nm:Option Str}
variable  {g:List Value→List Value→List Value}{gV:List V→List V→List V}
end
structure aq (N P:List Str)(sc:Scope):Prop where
 kind:sc.kind=.function
 co:sc.isCoroutine=false
 gen:sc.isGenerator=false
 nd:N.Nodup
 pre:N.take P.length=P
 par:∀x∈P,sc.names.lookup x=some .local∨sc.names.lookup x=some .cell
 nofree:∀y∈sc.names,y.2≠.free
theorem oB {kindOf:Str→Option NameKind}{x:Str}:∀{binds:List (Str×Value)} {m:Str→Option Value},(∀v,(x,v)∉binds)→bindL kindOf binds m x=m x
 |[],_,_=>rfl
 |(n,v) :: r,m,h=>by
  unfold bindL
  rw[oB fun w hw=>h w (List.mem_cons_of_mem _ hw)]
  split
  ·have:x≠n:=by rintro rfl;exact h v List.mem_cons_self
   simp[this]
  ·rfl
theorem oA {kindOf:Str→Option NameKind}{x:Str}:∀{binds:List (Str×Value)} {m:Str→Option Value},(∀v,(x,v)∉binds)→bindC kindOf binds m x=m x
 |[],_,_=>rfl
 |(n,v) :: r,m,h=>by
  unfold bindC
  rw[oA fun w hw=>h w (List.mem_cons_of_mem _ hw)]
  split
  ·rfl
  ·have:x≠n:=by rintro rfl;exact h v List.mem_cons_self
   simp[this]
theorem ph {kindOf:Str→Option NameKind}{x:Str}{v:Value}:∀{P:List Str} {vs:List Value} {i:Nat} {m:Str→Option Value},P.Nodup→P[i]? = some x→vs[i]? = some v→kindOf x=some .local →
  bindL kindOf (P.zip vs) m x=some v
 |[],_,_,_,_,h,_,_=>by simp at h
 |_ :: _,[],_,_,_,_,h,_=>by simp at h
 |p :: P,w :: vs,0,m,nd,h1,h2,hk=>by
  simp at h1 h2;subst h1;subst h2
  show bindL kindOf ((p,w) :: P.zip vs) m p=_
  unfold bindL
  rw[oB fun v hv=>(List.nodup_cons.mp nd).1 (List.of_mem_zip hv).1,if_pos hk]
  simp
 |p :: P,w :: vs,i+1,m,nd,h1,h2,hk=>by
  show bindL kindOf ((p,w) :: P.zip vs) m x=_
  unfold bindL
  exact ph (i:=i) (List.nodup_cons.mp nd).2 (by simpa using h1) (by simpa using h2) hk
theorem oR {kindOf:Str→Option NameKind}{x:Str}{v:Value}:∀{P:List Str} {vs:List Value} {i:Nat} {m:Str→Option Value},P.Nodup→P[i]? = some x→vs[i]? = some v→kindOf x≠some .local →
  bindC kindOf (P.zip vs) m x=some v
 |[],_,_,_,_,h,_,_=>by simp at h
 |_ :: _,[],_,_,_,_,h,_=>by simp at h
 |p :: P,w :: vs,0,m,nd,h1,h2,hk=>by
  simp at h1 h2;subst h1;subst h2
  show bindC kindOf ((p,w) :: P.zip vs) m p=_
  unfold bindC
  rw[oA fun v hv=>(List.nodup_cons.mp nd).1 (List.of_mem_zip hv).1,if_neg hk]
  simp
 |p :: P,w :: vs,i+1,m,nd,h1,h2,hk=>by
  show bindC kindOf ((p,w) :: P.zip vs) m x=_
  unfold bindC
  exact oR (i:=i) (List.nodup_cons.mp nd).2 (by simpa using h1) (by simpa using h2) hk
def start (N:List Str)(vs:List V):St:=vs.map some++List.replicate (N.length-vs.length) none
def qg (CX:CXT)(P:Program)(w:World)(K:Frag)(mg:Str→Option Value)(base:Heap)(N:List Str)(qual:Str)(scope:Scope)(f:Addr)(cd:Value)(A:Around)(outer:List Env)(s:Shared)(H:Hp)(E:XK):Cx where
 prog:=P
 w:=w
 K:=K
 mg:=mg
 base:=base
 A:=A.deeper (envOfC qual scope s.heap.objs.size f cd)
 N:=N
 s_0:=s
 H_0:=H
 env:=envOfC qual scope s.heap.objs.size f cd
 outer:=outer
 stack:=envOfC qual scope s.heap.objs.size f cd :: outer
 ex:=[]
 calm:=true
 fn:=fun _=>true
 pn:=[]
 xe:=fun e s'=>wpAny (model P w) (A.deeper (envOfC qual scope s.heap.objs.size f cd)) (leaving (envOfC qual scope s.heap.objs.size f cd) e) (fun _ s''=>CX outer H s E e s'') (fun e' s''=>CX outer H s E e' s'') s'
theorem qX {sc:Scope}{n:Nat}{x:Str}(h:sc.names.lookup x=some .cell):∃c,(cellsFrom n sc.names []).lookup x=some c:=by
 have q:=PySem.W.cellsFrom_some sc.names n [] (.inl h)
 exact Option.isSome_iff_exists.mp q
theorem vK {CX:CXT}{P:Program}{w:World}{K:Frag}{mg:Str→Option Value}{base:Heap}{N ps:List Str}{qual:Str}{scope:Scope}{f:Addr}{cd:Value}{A:Around}{outer:List Env}{s s1:Shared}{H:Hp}{E:XK}{us:List Value}{vs:List V}
  (S:aq N ps scope) (hd:A.handled=none) (e0:qN P w K mg base A outer s H) (hl:vs.length=ps.length) (r:aT vs us)
  (x:InCallC s s.heap.objs.size (bindL (envOfC qual scope s.heap.objs.size f cd).kindOf (ps.zip us) fun _=>none) (cellsFrom (s.heap.objs.size+1) scope.names []) (bindC (envOfC qual scope s.heap.objs.size f cd).kindOf (ps.zip us) fun _=>none) s1) :
  Inv (qg CX P w K mg base N qual scope f cd A outer s H E) [] (start N vs) H s1:=by
 have hpl:ps.length≤N.length:=by have:=congrArg List.length S.pre;rw[List.length_take]at this;omega
 obtain⟨h1,tk,rfl,hk⟩:=x.done
 have noA:∀b:Addr,b∉(qg CX P w K mg base N qual scope f cd A outer s H E).ex:=fun b z=>absurd (show b∈([]:List Addr) from z) (by simp)
 refine⟨⟨e0.mod,S.kind,rfl,rfl,nlr _,fun y z c h1 h2=>?_,fun y hy=>?_,fun y c _ h=>?_,fun _=>hd,Around.frames_deeper e0.frames,.inr ⟨rfl,rfl⟩,fun b z=>absurd z (noA b),e0.bs,e0.bsz,fun b _ _=>noA b,fun b z=>absurd z (noA b),e0.funs,e0.frf⟩,
  rfl,e0.bare,Un.kept hk,⟨_,x.toInCall.ns,fun i y v h1 h2 h3=>?_⟩,fun y c h=>⟨_,x.cell y c h⟩,e0.hok.fresh (nlr _),fun y c h=>?_,fun p hp=>absurd (show p∈([]:List (Addr×Obj)) from hp) (by simp),e0.hok.kept hk,?_⟩
 ·exact name_of_addr x.apart (PySem.mem_of_lookup h1) (PySem.mem_of_lookup h2)
 ·have hy:scope.names.lookup y=some .cell∨scope.names.lookup y=some .free:=hy
  rcases hy with hy|hy
  ·exact qX hy
  ·exact absurd rfl (S.nofree _ (PySem.mem_of_lookup hy))
 ·exact Nat.le_of_lt (x.above y c (PySem.mem_of_lookup h))
 ·have hi:i<vs.length:=by
   unfold start at h2
   by_cases hi:i<vs.length
   ·exact hi
   ·rw[List.getElem?_append_right (by simpa using hi)]at h2
    rw[List.getElem?_replicate]at h2
    split at h2<;>cases h2
  have ha:vs[i]? = some v:=by
   unfold start at h2
   rw[List.getElem?_append_left (by simpa using hi),List.getElem?_map]at h2
   cases e:vs[i]? with
   |none=>rw[e]at h2;cases h2
   |some a=>rw[e]at h2;cases h2;rfl
  obtain⟨u,hu,rv⟩:=r.get ha
  have hp:ps[i]? = some y:=by
   rw[←S.pre,List.getElem?_take_of_lt (by omega)];exact h1
  have ndP:ps.Nodup:=by rw[←S.pre];exact S.nd.sublist (List.take_sublist _ _)
  refine⟨u,rv,?_⟩
  rcases S.par y (List.mem_of_getElem? hp) with k|k
  ·exact .inl ⟨k,ph ndP hp hu k⟩
  ·obtain⟨c,e⟩:=qX (n:=s.heap.objs.size+1) k
   refine .inr ⟨.inl k,c,e,?_⟩
   have q:=x.cell y c e
   rw[oR ndP hp hu (by show scope.names.lookup y≠_;rw[k];decide)]at q
   exact q
 ·exact e0.hok.fresh (Nat.le_of_lt (x.above y c (PySem.mem_of_lookup h)))
 ·unfold start
  show _=N.length
  rw[List.length_append,lmp,List.length_replicate]
  omega
theorem CB {CX:CXT}{P:Program}{w:World}{K:Frag}{mg:Str→Option Value}{base:Heap}{k:Nat}{f:Addr}{name qual:Str}{params:Arguments}{body:List Stmt}{scope:Scope}{dV kV doc pm cdv ct oc:Value}{an od:Option Addr}
  {osl:Array (Option Value)} {N ps:List Str} {sp:Sp} (lk:K.lookup f=some ⟨oc,od,.func (PySem.W.fnOf name qual params body scope dV kV doc pm an cdv ct),osl⟩) (hcd:PySem.W.codeIn K cdv qual=true) (S:aq N ps scope)
  (len:∀vs H Q E,sp vs H Q E→vs.length=ps.length)
  (hbody:∀(A:Around) (outer:List Env) (s:Shared) (H:Hp) (vs:List V) (Q:VK) (E:XK),bu k (A.deeper (envOfC qual scope s.heap.objs.size f cdv))→sp vs H Q E →
   ∃t,PSs (qg CX P w K mg base N qual scope f cdv A outer s H E) body t∧t { nx:=fun _ H'=>Q .non H',rt:=Q } (start N vs) H) :
  jw P w K mg base CX (k+1) f (PySem.W.fnOf name qual params body scope dV kV doc pm an cdv ct) ps sp:=by
 refine⟨len,fun A outer s H args us vs Q E hr e0 hb r hsp=>?_⟩
 have hl:=len _ _ _ _ hsp
 have KX:K.In s.heap:=e0.mod.kin.keeps fun b o e=>(e0.bs b o e).1
 have lim:s.heap.NoLimit:=e0.mod.nolimit.keeps fun b o e=>(e0.bs b o e).1
 have hkind:∀y∈ps.zip us,scope.names.lookup y.1=some .local∨(scope.names.lookup y.1=some .cell∧((cellsFrom (s.heap.objs.size+1) scope.names []).lookup y.1).isSome=true):=fun ⟨n,v⟩ hy=>by
  rcases S.par n (List.of_mem_zip hy).1 with q|q
  ·exact .inl q
  ·exact .inr ⟨q,PySem.W.cellsFrom_some _ _ _ (.inl q)⟩
 refine codeAny_call_function hr.depth (KX _ _ lk) rfl S.co S.gen rfl (PySem.W.codeRec_of KX hcd) (hb _ _ _ _ ?_)
 refine wpAny_newFunctionEnv_cells S.kind hkind fun env he s1 x=>?_
 subst he
 refine⟨lim.keeps x.toInCall.keep,codeAny_func ?_⟩
 obtain⟨t,ht,hq⟩:=hbody A outer s H vs Q E (hr.deeper _) hsp
 have I:Inv (qg CX P w K mg base N qual scope f cdv A outer s H E) [] (start N vs) H s1:=vK S hr.hd e0 hl r x
 refine wpAny_mono (ht [] s1 (start N vs) H _ I hq) (fun fl s' hs=>?_) fun e s' hs=>hs
 have fin:∀{σ':St} {H':Hp} {v:V} {u:Value},Inv (qg CX P w K mg base N qual scope f cdv A outer s H E) [] σ' H' s'→aZ v u→Q v H'→CE outer P w H s Q u s' :=
  fun {σ' H' v u} J rv q=>⟨v,H',J.os,J.bare,J.base,J.hok,rv,q⟩
 cases fl with
 |ret u =>
  obtain⟨v,σ',H',J,rv,q⟩:=hs
  exact fin J rv q
 |next =>
  obtain⟨σ',H',J,q⟩:=hs
  exact fin (v:=V.non) (u:=Value.none) J rfl q
 |brk =>
  obtain⟨_,_,_,q⟩:=hs
  exact False.elim q
 |cont =>
  obtain⟨_,_,_,q⟩:=hs
  exact False.elim q
end L2
namespace L2
open PySem PySem.Spec PyProof.Rows
section
variable  {X:Cx}{x:Str}{p pos:Pos}{e:Expr}{es:List Expr}{t:TA}{id T:String}{r:List V→Hp→VK→Prop}
def tCB (r:List V→Hp→VK→Prop)(t:TA):TE:=fun σ H Q=>t σ H fun vs H1=>r vs H1 Q
theorem aW (hc:m5 X (.builtin id) r)(hg:Gl X x)(hm:X.mg x=none)(hv:bootBuiltins x=some (.builtin id))(ha:PA X (e :: es) t) (hn:x≠"__name__":=by decide) (hdb:(x==("__debug__" : Str))=false:=by decide)
  (he:starEach (e :: es) X.env=(false,eval e X.env) :: starEach es X.env:=by rfl) (hpl:(backTo pos (starEach es X.env)).any (·.1)=false:=by rfl):PE X (.Call (.Name x p) (e :: es) [] pos) (tCB r t):=by
 intro pins s σ H Q I h
 refine wpAny_Call_Name_kw (gC I hg hm hv ?_ hn hdb)
 exact PyProof.Rows.callWith_builtin1 (thn (ha pos pins s σ H _ I h) fun us s1 ⟨vs,H1,I1,r1,q1⟩=>hc pins s1 σ H1 vs us Q I1 r1 q1) he hpl
theorem vh (hc:m5 X (.type T) r)(hg:Gl X x)(hm:X.mg x=none)(hv:bootBuiltins x=some (.type T))(ha:PA X (e :: es) t) (hn:x≠"__name__":=by decide) (hdb:(x==("__debug__" : Str))=false:=by decide)
  (he:starEach (e :: es) X.env=(false,eval e X.env) :: starEach es X.env:=by rfl) (hpl:(backTo pos (starEach es X.env)).any (·.1)=false:=by rfl):PE X (.Call (.Name x p) (e :: es) [] pos) (tCB r t):=by
 intro pins s σ H Q I h
 refine wpAny_Call_Name_kw (gC I hg hm hv ?_ hn hdb)
 exact PyProof.Rows.callWith_type1 (thn (ha pos pins s σ H _ I h) fun us s1 ⟨vs,H1,I1,r1,q1⟩=>hc pins s1 σ H1 vs us Q I1 r1 q1) he hpl
end
end L2
namespace HT
open PySem PyProof.Rows
def lexLt:List Int→List Int→Bool
 |[],[]=>false
 |[],_ :: _=>true
 |_ :: _,[]=>false
 |x :: xs,y :: ys=>if x=y then lexLt xs ys else decide (x<y)
theorem lexLt_cons (x y:Int)(xs ys:List Int):lexLt (x :: xs) (y :: ys)=if x=y then lexLt xs ys else decide (x<y):=rfl
theorem lexLt_nil_nil:lexLt [] []=false:=rfl
theorem lexLt_nil_cons (y:Int)(ys:List Int):lexLt [] (y :: ys)=true:=rfl
theorem lexLt_cons_nil (x:Int)(xs:List Int):lexLt (x :: xs) []=false:=rfl
theorem eqAt_int (A:Around)(s:Shared)(a:Int)(t:Tok)(c:Int)(u:Tok):∃e,SeqAt.EqAt A s (.int a t) (.int c u) e∧(e=true↔a=c) :=
 ⟨(a==c),SeqAt.EqAt.int_int a t c u,by simp⟩
section
open PySem.SeqAt
open PySem.AutoSeq1 (wpAny_loadPart')
open PySem.MeetsSeq PySem.MeetsSeq2 PySem.MeetsSeq3
end
section
variable  {prog:Program}{w:World}{A:Around}{E:Value→Shared→Prop}{s:Shared}
theorem cat_tup {t b:Addr}{vs ws:List Value}{Q:Value→Shared→Prop}(ht:IsTup s.heap t vs.toArray)(hb:IsTup s.heap b ws.toArray)(hv:vs≠[])
  (h1:ws=[]→Q (.ref t) s) (h2:ws≠[]→Q (.ref s.heap.objs.size) { s with heap:=s.heap.push { cls:=.type "tuple",data:=.seq (vs++ws).toArray } })
  (hsz:vs.length+ws.length≤sizeLine):wpAny (model prog w) A (binaryOp .Add (.ref t) (.ref b)) Q E s:=by
 obtain⟨⟨cls,dd,data,sl⟩,ho,hc,n,hd⟩:=id ht
 obtain⟨⟨cls2,dd2,data2,sl2⟩,ho2,hc2,n2,hd2⟩:=id hb
 simp only at hc hd hc2 hd2
 subst hc hd hc2 hd2
 have e:vs.toArray++ws.toArray=(vs++ws).toArray:=by simp
 by_cases hw:ws=[]
 ·exact concat_meets ⟨_,ho,rfl⟩ ⟨_,ho2,rfl⟩ noFill_tuple_add seq_tuple_add PySem.F.slot_tuple_add PySem.F.entry_tuple_add (PySem.F.args_tuple_add_2 _ _)
   (tuple_addW1 t b vs.toArray ws.toArray n n2 dd dd2 sl sl2 (by simpa using hv) (by simp[hw])) ⟨ho,ho2,h1 hw⟩
 ·refine concat_meets ⟨_,ho,rfl⟩ ⟨_,ho2,rfl⟩ noFill_tuple_add seq_tuple_add PySem.F.slot_tuple_add PySem.F.entry_tuple_add (PySem.F.args_tuple_add_2 _ _)
   (tuple_addW2 t b vs.toArray ws.toArray n n2 dd dd2 sl sl2 (by simpa using hv) (by simpa using hw) (by rw[List.size_toArray,List.size_toArray];exact hsz)) ⟨ho,ho2,?_⟩
  rw[e]
  exact h2 hw
def sIx (n d:Nat):Option Int→Nat
 |none=>d
 |some v=>if v<0 then (v+(n:Int)).toNat else min v.toNat n
theorem sIx_none (n d:Nat):sIx n d none=d:=rfl
theorem sIx_nat (n d k:Nat):sIx n d (some (k:Int))=min k n:=by
 show(if (k:Int)<0 then ((k:Int)+(n:Int)).toNat else min (k:Int).toNat n)=min k n
 rw[if_neg (by omega),Int.toNat_natCast]
end
end HT
namespace L2
open PySem PySem.Spec PyProof.Rows
abbrev TO:=St→Hp→(Option Int→Hp→Prop)→Prop
def PO (X:Cx)(e:Option Expr)(t:TO):Prop :=
 ∀(pins:List (Addr×Obj)) (s:Shared) (σ:St) (H:Hp) (Q:Option Int→Hp→Prop),Inv X pins σ H s→t σ H Q →
  wpAny (model X.prog X.w) X.A (evalPart e X.env) (fun u s'=>∃o H',Inv X pins σ H' s'∧IsPart u o∧Q o H') X.xe s
def yq:TO:=fun _ H Q=>Q none H
def BU (t:TE):TO:=fun σ H Q=>t σ H fun x H1=>∃i,x=.int i∧Q (some i) H1
theorem iq {ns:List Int}:∀{us:List Value},aT (ns.map V.int) us→IntsAre us ns:=by
 induction ns with
 |nil=>intro us r;rw[List.map_nil]at r;cases r;exact .nil
 |cons n ns ih =>
  intro us r
  rw[List.map_cons]at r
  cases r with
  |cons r1 r2 =>
   obtain⟨t,e⟩:=r1
   subst e
   exact .cons n t (ih r2)
section
variable  {X:Cx}{e:Expr}{te:TE}{lo hi:Option Expr}{tl th:TO}{pos p2:Pos}
theorem yD:PO X none yq:=by
 intro pins s σ H Q I h
 rw[evalPart_none]
 exact wpAny_pure ⟨none,H,I,.none,h⟩
theorem j3 (h:PE X e te):PO X (some e) (BU te):=by
 intro pins s σ H Q I hw
 rw[evalPart_some]
 refine thn (h pins s σ H _ I hw) fun u s1 ⟨x,H1,I1,r1,q1⟩=>?_
 obtain⟨i,rfl,q⟩:=q1
 obtain⟨t,rfl⟩:=r1
 exact⟨some i,H1,I1,.int i t,q⟩
def SlR (X:Cx)(r:V→Option Int→Option Int→Hp→VK→Prop):Prop :=
 ∀(pins:List (Addr×Obj)) (s:Shared) (σ:St) (H:Hp) (x:V) (v vl vu:Value) (lo hi:Option Int) (sl:Addr) (Q:VK),Inv X pins σ H s→aZ x v→s.heap.IsSliceOf sl vl vu .none→IsPart vl lo→IsPart vu hi→r x lo hi H Q →
  ∃T id,typeLookup (.type T) "__getitem__"=pure (some (.builtin id))∧s.TypeIs v T∧wpAny (model X.prog X.w) X.A (getItem v (.ref sl)) (EP X pins σ Q) X.xe s
def tSl (r:V→Option Int→Option Int→Hp→VK→Prop)(te:TE)(tl th:TO):TE:=fun σ H Q=>te σ H fun x H1=>tl σ H1 fun l H2=>th σ H2 fun u H3=>r x l u H3 Q
theorem mR {r:V→Option Int→Option Int→Hp→VK→Prop}(hr:SlR X r)(he:PE X e te)(hl:PO X lo tl)(hu:PO X hi th):PE X (.Subscript e (.Slice lo hi none p2) pos) (tSl r te tl th):=by
 intro pins s σ H Q I h
 refine Subscript_ (thn (he pins s σ H _ I h) fun v s1 ⟨x,H1,I1,r1,q1⟩=>?_)
 refine wpAny_Slice (thn (hl pins s1 σ H1 _ I1 q1) fun vl s2 ⟨l,H2,I2,pl,q2⟩=>thn (hu pins s2 σ H2 _ I2 q2) fun vu s3 ⟨u,H3,I3,pu,q3⟩=>?_)
 rw[evalPart_none]
 refine wpAny_pure ?_
 have I4:Inv X pins σ H3 { s3 with heap:=s3.heap.push { cls:=.type "slice",data:=.fields #[vl,vu,.none] } }:=I3.kept (t':=s3.toks) fun b ob q=>Heap.get?_push_of_some _ q
 obtain⟨T,id,hT,ht,hg⟩:=hr pins { s3 with heap:=s3.heap.push { cls:=.type "slice",data:=.fields #[vl,vu,.none] } } σ H3 x v vl vu l u s3.heap.objs.size Q I4 r1 (Heap.IsSliceOf.new ..) pl pu q3
 show wpAny (model X.prog X.w) X.A (subscriptTail e (.Slice lo hi none p2) v (.ref s3.heap.objs.size)) (EP X pins σ Q) X.xe { s3 with heap:=s3.heap.push { cls:=.type "slice",data:=.fields #[vl,vu,.none] } }
 exact tail_any (ops:=[.ref s3.heap.objs.size,v]) ht hT hg (by with_unfolding_all rfl)
def oa (xs:List V)(lo hi:Option Int):List V:=(xs.drop (HT.sIx xs.length 0 lo)).take (HT.sIx xs.length xs.length hi-HT.sIx xs.length 0 lo)
theorem qB (xs:List V)(lo hi:Option Int):(oa xs lo hi).length≤xs.length:=by
 unfold oa
 rw[List.length_take,List.length_drop]
 omega
def BE (K:Frag):R2:=fun x y H Q=>∃a b xs ys,x=.ref a∧y=.ref b∧SqT K H a xs∧SqT K H b ys∧xs≠[]∧xs.length+ys.length≤sizeLine ∧
 (ys=[]→Q (.ref a) H)∧(ys≠[]→∀p,H p=none→Q (.ref p) (upd H p (.tup (xs++ys))))
theorem aT.nil_iff {xs:List V}{us:List Value}(r:aT xs us):us=[]↔xs=[]:=by
 cases r with
 |nil=>simp
 |cons _ _=>simp
theorem yO:OpR X (binaryOp .Add) (BE X.K):=by
 intro pins s σ H x y v u Q I rx ry h
 obtain⟨a,b,xs,ys,rfl,rfl,ha,hb,hx,hz,q1,q2⟩:=h
 cases rx
 cases ry
 obtain⟨its,r1,p1,_⟩:=I.tuple ha
 obtain⟨its2,r2,p2,_⟩:=I.tuple hb
 refine HT.cat_tup p1 p2 (fun z=>hx (r1.nil_iff.mp z)) (fun z=>⟨.ref a,H,I,rfl,q1 (r2.nil_iff.mp z)⟩) (fun z=>?_) (by rw[←r1.length,←r2.length];exact hz)
 refine⟨.ref s.heap.objs.size,_,I.laid (t':=s.toks) (o:=.tup (xs++ys)) (fun b ob q=>Heap.get?_push_of_some _ q) (nlr _) ?_,rfl,q2 (fun w=>z (r2.nil_iff.mpr w)) _ (I.hok.fresh (nlr _))⟩
 exact⟨by rw[List.length_append];exact hz,_,r1.append r2,IsTup.new _ _⟩
end
end L2
namespace L2
open PySem PySem.Spec PyProof.Rows
def ixN (n:Nat)(i:Int):Option Nat:=if 0≤i then (if i<n then some i.toNat else none) else if -(n:Int)≤i then some (i+n).toNat else none
def atI {α:Type}(xs:List α)(i:Int):Option α:=(ixN xs.length i).bind fun j=>xs[j]?
theorem um {n:Nat}{i:Int}{j:Nat}(h:ixN n i=some j):seqIndex? i n=some j∧j<n∧-(n:Int)≤i∧i<n:=by
 unfold ixN at h
 by_cases h0:0≤i
 ·rw[if_pos h0]at h
  by_cases h1:i<n
  ·rw[if_pos h1]at h
   have e:i.toNat=j:=osi h
   exact⟨by rw[seqIndex_of h0 h1,e],by omega,by omega,h1⟩
  ·rw[if_neg h1]at h;cases h
 ·rw[if_neg h0]at h
  by_cases h1:-(n:Int)≤i
  ·rw[if_pos h1]at h
   have e:(i+n).toNat=j:=osi h
   exact⟨by rw[seqIndex_neg (by omega) h1,e],by omega,h1,by omega⟩
  ·rw[if_neg h1]at h;cases h
theorem uD {α:Type}{xs:List α}{i:Int}{v:α}(h:atI xs i=some v):∃j,seqIndex? i xs.length=some j∧xs[j]? = some v∧j<xs.length∧-(xs.length:Int)≤i∧i<xs.length:=by
 unfold atI at h
 cases e:ixN xs.length i with
 |none=>rw[e]at h;cases h
 |some j =>
  rw[e]at h
  obtain⟨h1,h2,h3,h4⟩:=um e
  exact⟨j,h1,h,h2,h3,h4⟩
theorem qp {α:Type}{xs:List α}{j:Nat}{v:α}(h:xs[j]? = some v):atI xs (j:Int)=some v:=by
 have hj:j<xs.length:=(gsi h).1
 have e:ixN xs.length (j:Int)=some j:=by
  unfold ixN
  rw[if_pos (by omega),if_pos (by omega)];simp
 unfold atI;rw[e];exact h
theorem nE {α:Type}(xs:List α)(v:α):atI (xs++[v]) (-1)=some v:=by
 have hl:(xs++[v]).length=xs.length+1:=by simp
 have e:ixN (xs++[v]).length (-1)=some xs.length:=by
  unfold ixN
  rw[hl,if_neg (by decide),if_pos (by omega)]
  congr 1
  omega
 unfold atI
 rw[e]
 show(xs++[v])[xs.length]? = some v
 simp
def yr (b:Expr):Prop:=∀o i,subscripted b false o i=operate [o,i] (getItem o i)
def IxR (X:Cx)(r:R2):Prop :=
 ∀(value slice:Expr) (pins:List (Addr×Obj)) (s:Shared) (σ:St) (H:Hp) (x y:V) (v u:Value) (Q:VK),Inv X pins σ H s→aZ x v→aZ y u→r x y H Q →
  subscripted slice false v u=operate [v,u] (getItem v u)→wpAny (model X.prog X.w) X.A (subscriptTail value slice v u) (EP X pins σ Q) X.xe s
def MtR (X:Cx)(id:String)(r:V→List V→Hp→VK→Prop):Prop :=
 ∀(pins:List (Addr×Obj)) (s:Shared) (σ:St) (H:Hp) (x:V) (xs:List V) (v:Value) (us:List Value) (Q:VK),Inv X pins σ H s→aZ x v→aT xs us→r x xs H Q →
  wpAny (model X.prog X.w) X.A (call (.builtin id) (v :: us)) (EP X pins σ Q) X.xe s
section
variable  {X:Cx}{a b:Expr}{ta tb:TE}{pos:Pos}
theorem aw {r:R2}(hr:IxR X r)(ha:PE X a ta)(hb:PE X b tb)(hs:yr b):PE X (.Subscript a b pos) (tOp r ta tb):=by
 intro pins s σ H Q I h
 exact Subscript_ (Aa ha hb I h fun v u s2 x y H2 I2 rx ry q=>hr a b pins s2 σ H2 x y v u Q I2 rx ry q (hs _ _))
def vv (K:Frag):R2:=fun x y H Q=>∃p xs i v,x=.ref p∧y=.int i∧SqL K H p xs∧atI xs i=some v∧Q v H
def pG (K:Frag):R2:=fun x y H Q=>∃p xs i v,x=.ref p∧y=.int i∧SqT K H p xs∧atI xs i=some v∧Q v H
theorem aU:IxR X (vv X.K):=by
 intro value slice pins s σ H x y v u Q I rx ry h hs
 obtain⟨p,xs,i,z,rfl,rfl,hq,he,q⟩:=h
 cases rx
 obtain⟨t,rfl⟩:=ry
 obtain⟨its,r,pl,hz⟩:=I.list hq
 obtain⟨j,h1,h2,h3,h4,h5⟩:=uD he
 obtain⟨w,ew,rw'⟩:=r.get h2
 have hl:=r.length
 have hn:=qi
 have fin:EP X pins σ Q w s:=⟨z,H,I,rw',q⟩
 by_cases h0:0≤i
 ·have hj:i.toNat=j:=by
   rw[seqIndex_of h0 h5]at h1
   exact osi h1
  exact item_listR pl.isList h0 (by omega) (by rw[hj];simpa using ew) fin hs
 ·have hj:(i+(its.toArray.size:Int)).toNat=j:=by
   rw[seqIndex_neg (by omega) h4]at h1
   rw[List.size_toArray,←hl]
   exact osi h1
  exact subscriptTail_builtinR (x:=w) pl.isList.typeIs slot_list_getitem.lookup
   (wpAny_getItem_list_neg (Q:=fun r s'=>r=w∧EP X pins σ Q r s') pl.isList (by omega) (by rw[List.size_toArray]<;>omega) (by omega) (by rw[hj];simpa using ew) ⟨rfl,fin⟩) hs
theorem aD:IxR X (pG X.K):=by
 intro value slice pins s σ H x y v u Q I rx ry h hs
 obtain⟨p,xs,i,z,rfl,rfl,hq,he,q⟩:=h
 cases rx
 obtain⟨t,rfl⟩:=ry
 obtain⟨its,r,pl,hz⟩:=I.tuple hq
 obtain⟨j,h1,h2,h3,h4,h5⟩:=uD he
 obtain⟨w,ew,rw'⟩:=r.get h2
 have hl:=r.length
 have hn:=qi
 have fin:EP X pins σ Q w s:=⟨z,H,I,rw',q⟩
 exact subscriptTail_builtinR (x:=w) pl.typeIs slot_tuple_getitem.lookup
  (getItem_tuple (j:=j) (Q:=fun r s'=>r=w∧EP X pins σ Q r s') pl (by omega) (by omega) (by rw[List.size_toArray,←hl];exact h1) (by simpa using ew) ⟨rfl,fin⟩) hs
theorem su (its:List Value)(n j:Nat)(u:Value):Obj.mapSeq (·.setIfInBounds j u) { cls:=.type "list",data:=.seq its.toArray n }={ cls:=.type "list",data:=.seq (its.set j u).toArray n }:=by
 simp[Obj.mapSeq]
theorem Inv.lst {pins:List (Addr×Obj)}{σ:St}{H:Hp}{s:Shared}{p:Addr}{xs:List V}(I:Inv X pins σ H s)(h:H p=some (.lst xs)) :
  ∃(its:List Value) (n:Nat),aT xs its∧s.heap.get? p=some { cls:=.type "list",data:=.seq its.toArray n }∧xs.length≤sizeLine:=by
 obtain⟨z,its,n,r,e⟩:=I.hok p _ h
 exact⟨its,n,r,e,z⟩
theorem Inv.lstUpd {pins:List (Addr×Obj)}{σ:St}{H:Hp}{s:Shared}{p:Addr}{xs ys:List V}{its its':List Value}{n n':Nat}{f:Obj→Obj}(I:Inv X pins σ H s)(h:H p=some (.lst xs))
  (ho:s.heap.get? p=some { cls:=.type "list",data:=.seq its.toArray n }) (hf:f { cls:=.type "list",data:=.seq its.toArray n }={ cls:=.type "list",data:=.seq its'.toArray n' }) (r:aT ys its') (hz:ys.length≤sizeLine) (t:Nat) :
  Inv X pins σ (upd H p (.lst ys)) { s with heap:=s.heap.update p f,toks:=t }:=by
 have e:(s.heap.update p f).get? p=some { cls:=.type "list",data:=.seq its'.toArray n' }:=by
  rw[Heap.get?_update_self f ho (by rw[hf]<;>rfl),hf]
 refine I.write (x:=p) (e:=p) (by rw[h];trivial) (.inl rfl) (fun b u hb q=>(Heap.get?_update_other _ _ (Ne.symm hb)).trans q) ⟨_,e⟩ ?_
 exact⟨hz,its',n',r,e⟩
def DE:V→V→V→Hp→(Hp→Prop)→Prop:=fun o i v H Q=>∃p xs k j,o=.ref p∧i=.int k∧H p=some (.lst xs)∧ixN xs.length k=some j∧Q (upd H p (.lst (xs.set j v)))
theorem rB:Dc X DE:=by
 intro pins s σ H o i v ov iv u Q I ro ri rv h
 obtain⟨p,xs,k,j,rfl,rfl,hp,hj,q⟩:=h
 cases ro
 obtain⟨t,rfl⟩:=ri
 obtain⟨its,n,r,ho,hz⟩:=I.lst hp
 obtain⟨h1,h2,h3,h4⟩:=um hj
 have hl:=r.length
 have hn:=qi
 have I':Inv X pins σ (upd H p (.lst (xs.set j v))) { s with heap:=s.heap.update p (Obj.mapSeq (·.setIfInBounds j u)) } :=
  I.lstUpd hp ho (su its n j u) (r.set rv j) (by rw[List.length_set];exact hz) s.toks
 by_cases h0:0≤k
 ·have hk:k.toNat=j:=by
   rw[seqIndex_of h0 h4]at h1
   exact osi h1
  exact PySem.W.ki_setAt ho h0 (by omega) (by rw[List.size_toArray,←hl];exact h4) (by rw[hk];exact⟨_,I',q⟩)
 ·have hk:(k+(its.toArray.size:Int)).toNat=j:=by
   rw[seqIndex_neg (by omega) h3]at h1
   rw[List.size_toArray,←hl]
   exact osi h1
  exact PySem.W.ki_setBack ho (by omega) (by rw[List.size_toArray,←hl];exact h3) (by omega) (by rw[hk];exact⟨_,I',q⟩)
theorem qc (lo hi:Option Int)(n:Nat):(sliceBounds lo hi none n).1=((HT.sIx n 0 lo:Nat):Int)∧(sliceBounds lo hi none n).2.1=((HT.sIx n n hi:Nat):Int)∧(sliceBounds lo hi none n).2.2=1:=by
 refine⟨?_,?_,rfl⟩
 ·cases lo with
  |none=>simp[sliceBounds,HT.sIx]
  |some i =>
   simp only[sliceBounds,HT.sIx,Option.getD_none,show(1:Int) > 0 by decide,if_true]
   by_cases h:i<0
   ·simp only[h,if_true]<;>omega
   ·simp only[h,if_false]<;>omega
 ·cases hi with
  |none=>simp[sliceBounds,HT.sIx]
  |some i =>
   simp only[sliceBounds,HT.sIx,Option.getD_none,show(1:Int) > 0 by decide,if_true]
   by_cases h:i<0
   ·simp only[h,if_true]<;>omega
   ·simp only[h,if_false]<;>omega
theorem nU (its:List Value)(lo hi:Option Int):slicePick its.toArray lo hi none=((its.drop (HT.sIx its.length 0 lo)).take (HT.sIx its.length its.length hi-HT.sIx its.length 0 lo)).toArray:=by
 obtain⟨h1,h2,h3⟩:=qc lo hi its.toArray.size
 unfold slicePick
 rw[h1,h2,h3]
 simp only[sliceRange_one,pick_run,List.size_toArray]<;>rfl
def DZ (K:Frag):V→Option Int→Option Int→Hp→VK→Prop:=fun x lo hi H Q=>∃a xs,x=.ref a∧SqL K H a xs∧∀p,H p=none→Q (.ref p) (upd H p (.lst (oa xs lo hi)))
theorem p9:SlR X (DZ X.K):=by
 intro pins s σ H x v vl vu lo hi sl Q I rx hs pl pu h
 obtain⟨a,xs,rfl,hx,q⟩:=h
 cases rx
 obtain⟨its,r,ht,hz⟩:=I.list hx
 have hlen:=r.length
 refine⟨"list",_,slot_list_getitem.lookup,ht.isList.typeIs,?_⟩
 refine wpAny_getItem_list_slice ht.isList hs pl pu .none (by simp) ?_ (by rw[List.size_toArray]<;>omega)
 rw[nU,←hlen]
 refine⟨.ref s.heap.objs.size,_,I.laid (t':=s.toks) (o:=.lst (oa xs lo hi)) (fun b ob q=>Heap.get?_push_of_some _ q) (nlr _) ?_,rfl,q _ (I.hok.fresh (nlr _))⟩
 exact⟨Nat.le_trans (qB xs lo hi) hz,_,0,(r.drop (HT.sIx xs.length 0 lo)).take (HT.sIx xs.length xs.length hi-HT.sIx xs.length 0 lo),Heap.get?_push_size _ rfl⟩
def j4:V→Bool
 |.non=>true
 |.bl _=>true
 |.int _=>true
 |.str _=>true
 |_=>false
def eqV:V→V→Bool
 |.non,.non=>true
 |.bl a,.bl b=>a==b
 |.bl a,.int b=>(if a then 1 else 0)==b
 |.int a,.bl b=>a==(if b then 1 else 0)
 |.int a,.int b=>a==b
 |.str a,.str b=>a==b
 |_,_=>false
theorem Aw {A:Around}{s:Shared}{y x:V}{u v:Value}(ry:aZ y u)(rx:aZ x v)(fy:j4 y=true)(fx:j4 x=true):SeqAt.EqAt A s u v (eqV y x):=by
 cases y with
 |non =>
  cases ry
  cases x with
  |non=>cases rx;exact SeqAt.EqAt.same _
  |bl b=>cases rx;exact SeqAt.EqAt.none_bool b
  |int b=>obtain⟨t,rfl⟩:=rx;exact SeqAt.EqAt.none_int b t
  |str b=>obtain⟨t,rfl⟩:=rx;exact SeqAt.EqAt.none_str b t
  |_=>exact absurd (show false=true from fx) Bool.false_ne_true
 |bl a =>
  cases ry
  cases x with
  |non=>cases rx;exact SeqAt.EqAt.bool_none a
  |bl b=>cases rx;exact SeqAt.EqAt.bool_bool a b
  |int b=>obtain⟨t,rfl⟩:=rx;exact SeqAt.EqAt.bool_int a b t
  |str b=>obtain⟨t,rfl⟩:=rx;exact SeqAt.EqAt.bool_str a b t
  |_=>exact absurd (show false=true from fx) Bool.false_ne_true
 |int a =>
  obtain⟨t',rfl⟩:=ry
  cases x with
  |non=>cases rx;exact SeqAt.EqAt.int_none a t'
  |bl b=>cases rx;exact SeqAt.EqAt.int_bool a t' b
  |int b=>obtain⟨t,rfl⟩:=rx;exact SeqAt.EqAt.int_int a t' b t
  |str b=>obtain⟨t,rfl⟩:=rx;exact SeqAt.EqAt.int_str a t' b t
  |_=>exact absurd (show false=true from fx) Bool.false_ne_true
 |str a =>
  obtain⟨t',rfl⟩:=ry
  cases x with
  |non=>cases rx;exact SeqAt.EqAt.str_none a t'
  |bl b=>cases rx;exact SeqAt.EqAt.str_bool a t' b
  |int b=>obtain⟨t,rfl⟩:=rx;exact SeqAt.EqAt.str_int a t' b t
  |str b=>obtain⟨t,rfl⟩:=rx;exact SeqAt.EqAt.str_str a t' b t
  |_=>exact absurd (show false=true from fx) Bool.false_ne_true
 |_=>exact absurd (show false=true from fy) Bool.false_ne_true
def eqU (x:V)(u:Value):Bool:=match u with
 |.none=>eqV .non x
 |.bool b=>eqV (.bl b) x
 |.int i _=>eqV (.int i) x
 |.str z _=>eqV (.str z) x
 |_=>false
theorem tp {x y:V}{u:Value}(r:aZ y u)(f:j4 y=true):eqU x u=eqV y x:=by
 cases y with
 |non=>cases r;rfl
 |bl b=>cases r;rfl
 |int i=>obtain⟨t,rfl⟩:=r;rfl
 |str z=>obtain⟨t,rfl⟩:=r;rfl
 |_=>exact absurd (show false=true from f) Bool.false_ne_true
theorem rh {A:Around}{s:Shared}{x:V}{v:Value}(rx:aZ x v)(fx:j4 x=true):∀{xs:List V} {us:List Value},aT xs us→xs.all j4=true→∀u∈us,SeqAt.EqAt A s u v (eqU x u)
 |_,_,.nil,_=>fun u hu=>by cases hu
 |y :: xs,u :: us,.cons r t,f=>fun u' hu=>by
  rw[List.all_cons,Bool.and_eq_true]at f
  rcases List.mem_cons.mp hu with rfl|hu
  ·rw[tp r f.1];exact Aw r rx f.1 fx
  ·exact rh rx fx t f.2 u' hu
theorem aO:m5 X (.builtin "len") (fun xs H Q=>∃p ys,xs=[.ref p]∧(SqL X.K H p ys∨SqT X.K H p ys)∧Q (.int ys.length) H):=by
 intro pins s σ H xs us Q I r h
 obtain⟨p,ys,rfl,hq,q⟩:=h
 obtain⟨u,rfl,rx⟩:=wk r
 cases rx
 have hn:=qi
 rcases hq with hq|hq
 ·obtain⟨its,r',pl,hz⟩:=I.list hq
  have hlen:=r'.length
  exact Calls.call_len_list pl.isList (by simp only[List.size_toArray]<;>omega) ⟨.int ys.length,H,I.tok _,⟨s.toks+1,by rw[List.size_toArray,hlen]⟩,q⟩
 ·obtain⟨its,r',pl,hz⟩:=I.tuple hq
  have hlen:=r'.length
  exact len_tuple pl (by simp only[List.size_toArray]<;>omega) ⟨.int ys.length,H,I.tok _,⟨s.toks+1,by rw[List.size_toArray,hlen]⟩,q⟩
theorem p7:m5 X (.type "list") (fun xs H Q=>∃p ys,xs=[.ref p]∧(SqL X.K H p ys∨SqT X.K H p ys)∧∀l,H l=none→Q (.ref l) (upd H l (.lst ys))):=by
 intro pins s σ H xs us Q I r h
 obtain⟨p,ys,rfl,hq,q⟩:=h
 obtain⟨u,rfl,rx⟩:=wk r
 cases rx
 have fin:∀(its:List Value),aT ys its→ys.length≤sizeLine→∀(h':Heap) (c':Nat),(∀b o',s.heap.get? b=some o'→h'.get? b=some o') →
   h'.get? s.heap.objs.size=some { cls:=.type "list",dict:=none,data:=.seq its.toArray c',slots:=#[] }→EP X pins σ Q (.ref s.heap.objs.size) { s with heap:=h' }:=fun its r' hz h' c' kp e =>
  ⟨.ref s.heap.objs.size,_,I.laid (t':=s.toks) kp (nlr _) (show b7 X.prog X.w _ h' _ (.lst ys) from⟨hz,its,c',r',e⟩),rfl,q _ (I.hok.fresh (nlr _))⟩
 rcases hq with hq|hq
 ·obtain⟨its,r',pl,hz⟩:=I.list hq
  have hlen:=r'.length
  obtain⟨o,ho,hc,n,hd⟩:=pl.isList
  exact call_list_seq p (.inl rfl) ho hc hd (fun h' c' kp e=>fin its r' hz h' c' kp e) (by simp only[List.size_toArray]<;>omega)
 ·obtain⟨its,r',pl,hz⟩:=I.tuple hq
  have hlen:=r'.length
  obtain⟨o,ho,hc,n,hd⟩:=pl
  exact call_list_seq p (.inr rfl) ho hc hd (fun h' c' kp e=>fin its r' hz h' c' kp e) (by simp only[List.size_toArray]<;>omega)
def tyV (K:Frag)(T:String)(x:V)(H:Hp):Prop:=match x with
 |.str _=>T="str"
 |.int _=>T="int"
 |.ref p=>(T="list"∧∃xs,SqL K H p xs)∨(T="tuple"∧∃o,K.lookup p=some o∧o.cls=.type "tuple"∧o.dict=none) ∨
   (T="dict"∧((∃kvs,H p=some (.dK kvs))∨∃kvs,H p=some (.dT kvs)))∨(T="set"∧∃S n,H p=some (.set S n))
 |_=>False
theorem xE {pins:List (Addr×Obj)}{σ:St}{H:Hp}{s:Shared}{T:String}{x:V}{v:Value}(I:Inv X pins σ H s)(r:aZ x v)(ty:tyV X.K T x H) :
  s.TypeIs v T∧∀a,v=.ref a→∃ob,s.heap.get? a=some ob∧ob.dict=none:=by
 cases x with
 |str z =>
  obtain⟨t,rfl⟩:=r
  cases (show T="str" from ty)
  exact⟨typeIs_str s z t,fun _ e=>nomatch e⟩
 |int i =>
  obtain⟨t,rfl⟩:=r
  cases (show T="int" from ty)
  exact⟨typeIs_int s i t,fun _ e=>nomatch e⟩
 |ref p =>
  cases r
  rcases ty with⟨rfl,xs,hq⟩|⟨rfl,o,hk,hc,hd⟩|⟨rfl,hk⟩|⟨rfl,S,n,hk⟩
  ·obtain⟨its,_,pl,_⟩:=I.list hq
   refine⟨pl.isList.typeIs,fun a e=>?_⟩
   cases e
   obtain⟨o,n,e,c,hd,_⟩:=pl
   exact⟨o,e,hd⟩
  ·refine⟨⟨o,I.kIn p o hk,hc⟩,fun a e=>?_⟩
   cases e
   exact⟨o,I.kIn _ o hk,hd⟩
  ·have z:∃o,s.heap.get? p=some o∧o.ExactDict:=by
    rcases hk with⟨kvs,hk⟩|⟨kvs,hk⟩
    ·obtain⟨_,_,_,_,o,_,_,e,ex,_⟩:=I.hok p _ hk
     exact⟨o,e,ex⟩
    ·obtain⟨_,_,_,_,o,_,_,e,ex,_⟩:=I.hok p _ hk
     exact⟨o,e,ex⟩
   obtain⟨o,e,ex⟩:=z
   refine⟨⟨o,e,ex.1⟩,fun a e2=>?_⟩
   cases e2
   exact⟨o,e,ex.2.1⟩
  ·obtain⟨o,_,_,_,e,ex,_⟩:=I.hok p _ hk
   refine⟨⟨o,e,ex.1⟩,fun a e2=>?_⟩
   cases e2
   exact⟨o,e,ex.2.1⟩
 |_=>exact False.elim ty
def DY (K:Frag)(T:String)(r:V→List V→Hp→VK→Prop)(to:TE):TE:=fun σ H Q=>to σ H fun x H1=>tyV K T x H1∧r x [] H1 Q
def tBM (K:Frag)(T:String)(r:V→List V→Hp→VK→Prop)(to:TE)(t:TA):TE:=fun σ H Q=>to σ H fun x H1=>tyV K T x H1∧t σ H1 fun xs H2=>r x xs H2 Q
variable  {o e:Expr}{es:List Expr}{to:TE}{t:TA}{name:Str}{apos cpos:Pos}{T id:String}{r:V→List V→Hp→VK→Prop}
theorem AA (pa:PlainAttrs T)(slot:Slot T name id) (hty:typeOf (.builtin id)=pure (.type "method_descriptor")) (hm:MtR X id r) (ho:PE X o to)
  (hbase:attributeBase o name X.env (eval o X.env)=eval o X.env:=by rfl) (hline:(apos.endLine==cpos.line)=true:=by rfl):PE X (.Call (.Attribute o name apos) [] [] cpos) (DY X.K T r to):=by
 intro pins s σ H Q I h
 refine wpAny_Call_method0_late hbase hline (thn (ho pins s σ H _ I h) fun v s1 ⟨x,H1,I1,r1,ty,q1⟩=>?_)
 obtain⟨h1,h2⟩:=xE I1 r1 ty
 exact⟨T,id,pa,slot,hty,h1,h2,Calls.callWith_builtin rfl (PySem.evalArgs_none (hm pins s1 σ H1 x [] v [] Q I1 r1 .nil q1))⟩
theorem lD (pa:PlainAttrs T)(slot:Slot T name id) (hty:typeOf (.builtin id)=pure (.type "method_descriptor")) (hm:MtR X id r) (ho:PE X o to) (ha:PA X (e :: es) t)
  (hbase:attributeBase o name X.env (eval o X.env)=eval o X.env:=by rfl)
  (hfew:((backTo cpos (starEach (e :: es) X.env)).all (fun x=>!x.1)&&(backToKw cpos (keywordEach [] X.env)).all (fun x=>x.1.isSome)
   &&decide ((e :: es).length+([]:List Keyword).length+(if ([]:List Keyword).isEmpty then 0 else 1)<30))=true:=by rfl)
  (hline:(apos.endLine==cpos.line)=true:=by rfl) (hs:starEach (e :: es) X.env=(false,eval e X.env) :: starEach es X.env:=by rfl) (hplain:(backTo cpos (starEach es X.env)).any (·.1)=false:=by rfl) :
  PE X (.Call (.Attribute o name apos) (e :: es) [] cpos) (tBM X.K T r to t):=by
 intro pins s σ H Q I h
 refine wpAny_Call_method_late hbase hfew hline rfl (thn (ho pins s σ H _ I h) fun v s1 ⟨x,H1,I1,r1,ty,q1⟩=>?_)
 obtain⟨h1,h2⟩:=xE I1 r1 ty
 refine⟨T,id,pa,slot,hty,h1,h2,?_⟩
 have hA:=ha cpos pins s1 σ H1 _ I1 q1
 rw[hs]at hA ⊢
 refine Calls.callWith_builtin (by show(false||(backTo cpos (starEach es X.env)).any (·.1))=false;rw[hplain]<;>rfl) (Calls.evalArgs_plain ?_)
 exact thn hA fun us s2 ⟨vs,H2,I2,r2,q2⟩=>hm pins s2 σ H2 x vs v us Q I2 r1 r2 q2
end
end L2
namespace L2
open PySem PySem.Spec PyProof.Rows
def MtM (X:Cx)(id:String)(r:V→List V→Hp→VK→Prop):Prop :=
 ∀(pins:List (Addr×Obj)) (s:Shared) (σ:St) (H:Hp) (x:V) (xs:List V) (v:Value) (us:List Value) (Q:VK),Inv X pins σ H s→aZ x v→aT xs us→r x xs H Q →
  wpAny (model X.prog X.w) X.A (call (.builtin id) (v :: us)) (EP X pins σ Q) X.xe s
theorem aT.one:∀{x:V} {us:List Value},aT [x] us→∃u,us=[u]∧aZ x u
 |_,_,.cons r .nil=>⟨_,rfl,r⟩
theorem aT.two:∀{x y:V} {us:List Value},aT [x,y] us→∃u v,us=[u,v]∧aZ x u∧aZ y v
 |_,_,_,.cons r (.cons q .nil)=>⟨_,_,rfl,r,q⟩
theorem aT.zero:∀{us:List Value},aT [] us→us=[]
 |_,.nil=>rfl
theorem aT.dropLast {xs:List V}{us:List Value}(h:aT xs us):aT xs.dropLast us.dropLast:=by
 induction h with
 |nil=>exact .nil
 |cons r t ih =>
  cases t with
  |nil=>exact .nil
  |cons q t'=>exact .cons r ih
theorem sj {α:Type}(l:List α):l.eraseIdx (l.length-1)=l.dropLast:=by
 induction l with
 |nil=>rfl
 |cons a r ih =>
  cases r with
  |nil=>rfl
  |cons b r =>
   have e:(a :: b :: r).length-1=((b :: r).length-1)+1:=by
    have h1:(a :: b :: r).length=r.length+2:=rfl
    have h2:(b :: r).length=r.length+1:=rfl
    omega
   rw[e,List.eraseIdx_cons_succ,ih]
   all_goals rfl
section
variable  {X:Cx}{pins:List (Addr×Obj)}{σ:St}{H:Hp}{s:Shared}{l b:Addr}{xs ys zs:List V}
theorem Inv.lset {its its':List Value}{n:Nat}{f:Array Value→Array Value}{t':Nat}(I:Inv X pins σ H s)(hH:H l=some (.lst xs))
  (e:s.heap.get? l=some { cls:=.type "list",data:=.seq its.toArray n }) (hf:f its.toArray=its'.toArray) (hv:aT ys its') (hz:ys.length≤sizeLine) :
  Inv X pins σ (upd H l (.lst ys)) { s with heap:=s.heap.update l (Obj.mapSeq f),toks:=t' }:=by
 have q:=PySem.IsL.update e f
 rw[hf]at q
 refine I.write (x:=l) (e:=l) (by rw[hH];exact trivial) (.inl rfl) (fun b' u hb hu=>(Heap.get?_update_other s.heap (Obj.mapSeq f) (Ne.symm hb)).trans hu) ⟨_,q⟩ ?_
 exact⟨hz,its',_,hv,q⟩
theorem Inv.lnew {its:List Value}{t':Nat}(I:Inv X pins σ H s)(hv:aT ys its)(hz:ys.length≤sizeLine) :
  Inv X pins σ (upd H s.heap.objs.size (.lst ys)) { s with heap:=s.heap.push { cls:=.type "list",data:=.seq its.toArray },toks:=t' } :=
 I.laid (fun _ _ q=>Heap.get?_push_of_some _ q) (nlr _) ⟨hz,its,0,hv,Heap.get?_push_size _ rfl⟩
theorem Inv.fresh (I:Inv X pins σ H s):H s.heap.objs.size=none:=I.hok.fresh (nlr _)
theorem Inv.lstM (I:Inv X pins σ H s)(hH:H l=some (.lst xs)):xs.length≤sizeLine∧∃(its:List Value) (n:Nat),aT xs its∧xs.length=its.length∧s.heap.get? l=some { cls:=.type "list",data:=.seq its.toArray n }:=by
 obtain⟨z,its,n,r,e⟩:=I.hok l _ hH
 exact⟨z,its,n,r,r.length,e⟩
theorem xh {n:Nat}(h:n≤sizeLine):Builtin.List.listTooLong n=false:=by
 unfold Builtin.List.listTooLong
 exact dqf (by omega)
end
section
variable  {X:Cx}
def yL:V→List V→Hp→VK→Prop:=fun x vs H Q=>∃l xs y,x=.ref l∧vs=[y]∧H l=some (.lst xs)∧xs.length<sizeLine∧Q .non (upd H l (.lst (xs++[y])))
theorem gR:MtM X "list.append" yL:=by
 intro pins s σ H x vs v us Q I rx rv h
 obtain⟨l,xs,y,rfl,rfl,hH,hz,q⟩:=h
 cases rx
 obtain⟨u,rfl,ru⟩:=rv.one
 obtain⟨z,its,n,r,hl,e⟩:=I.lstM hH
 refine call_meets F.slot_list_append ⟨_,e,rfl⟩ F.entry_list_append (F.args_list_append_2 _ _) (PySem.list_append l its.toArray n u (by rw[List.size_toArray];omega)) ⟨e,?_⟩
 refine⟨.non,_,I.lset (its':=its++[u]) hH e (by simp) (r.append (.cons ru .nil)) ?_,rfl,q⟩
 rw[List.length_append,List.length_singleton]
 omega
def yH:V→List V→Hp→VK→Prop:=fun x vs H Q=>∃l b xs zs,x=.ref l∧vs=[.ref b]∧H l=some (.lst xs)∧H b=some (.lst zs)∧xs.length+zs.length≤sizeLine∧Q .non (upd H l (.lst (xs++zs)))
theorem Bp:MtM X "list.extend" yH:=by
 intro pins s σ H x vs v us Q I rx rv h
 obtain⟨l,b,xs,zs,rfl,rfl,hH,hB,hz,q⟩:=h
 cases rx
 obtain⟨u,rfl,ru⟩:=rv.one
 cases ru
 obtain⟨z,its,n,r,hl,e⟩:=I.lstM hH
 obtain⟨z2,its2,n2,r2,hl2,e2⟩:=I.lstM hB
 have hsz:its.toArray.size+its2.toArray.size≤sizeLine:=by rw[List.size_toArray,List.size_toArray];omega
 have hlong:¬(!its.toArray.isEmpty&&Builtin.List.listTooLong (its.toArray.size+its2.toArray.size))=true:=by
  rw[xh hsz,Bool.and_false]
  exact Bool.false_ne_true
 refine call_meets F.slot_list_extend ⟨_,e,rfl⟩ F.entry_list_extend (F.args_list_extend_2 _ _)
  (AutoSeq1.list_extend_list_list_0 l its.toArray n b its2.toArray n2 hlong (by rw[List.size_toArray];omega) (by omega)) ⟨e,e2,?_⟩
 refine⟨.non,_,I.lset (its':=its++its2) hH e (by simp) (r.append r2) ?_,rfl,q⟩
 rw[List.length_append]
 omega
def Eu:V→List V→Hp→VK→Prop:=fun x vs H Q=>∃l xs y,x=.ref l∧vs=[]∧H l=some (.lst xs)∧xs[xs.length-1]? = some y∧Q y (upd H l (.lst xs.dropLast))
theorem Au:MtM X "list.pop" Eu:=by
 intro pins s σ H x vs v us Q I rx rv h
 obtain⟨l,xs,y,rfl,rfl,hH,hy,q⟩:=h
 cases rx
 have hus:=rv.zero
 subst hus
 obtain⟨z,its,n,r,hl,e⟩:=I.lstM hH
 obtain⟨u,hu,ru⟩:=r.get hy
 have hy':its.toArray[its.toArray.size-1]? = some u:=by
  show its.toArray[its.length-1]? = some u
  rw[←Array.getElem?_toList,←hl]
  exact hu
 refine call_meets F.slot_list_pop ⟨_,e,rfl⟩ F.entry_list_pop (F.args_list_pop_1 _) (MeetsSeq.list_pop_last l its.toArray n u hy' (by rw[List.size_toArray];omega)) ⟨e,?_⟩
 refine⟨y,_,I.lset (its':=its.dropLast) hH e ?_ r.dropLast ?_,ru,q⟩
 ·show its.toArray.eraseIdxIfInBounds (its.toArray.size-1)=its.dropLast.toArray
  rw[List.size_toArray,List.eraseIdxIfInBounds_toArray,sj]
 ·rw[List.length_dropLast]
  omega
def Ef:R2:=fun x y H Q=>∃l b xs zs,x=.ref l∧y=.ref b∧H l=some (.lst xs)∧H b=some (.lst zs)∧xs.length+zs.length≤sizeLine∧∀p,H p=none→Q (.ref p) (upd H p (.lst (xs++zs)))
theorem xP:OpR X (binaryOp .Add) Ef:=by
 intro pins s σ H x y v u Q I rx ry h
 obtain⟨l,b,xs,zs,rfl,rfl,hH,hB,hz,q⟩:=h
 cases rx
 cases ry
 obtain⟨z,its,n,r,hl,e⟩:=I.lstM hH
 obtain⟨z2,its2,n2,r2,hl2,e2⟩:=I.lstM hB
 refine PySem.P.add_list e e2 ?_ (by rw[List.size_toArray,List.size_toArray];omega)
 have ea:its.toArray++its2.toArray=(its++its2).toArray:=by simp
 rw[ea]
 exact⟨.ref _,_,I.lnew (t':=s.toks) (r.append r2) (by rw[List.length_append];omega),rfl,q _ I.fresh⟩
end
section
variable  {prog:Program}{w:World}{A:Around}{E:Value→Shared→Prop}{s:Shared}
end
section
variable  {X:Cx}
end
end L2
namespace L2
open PySem PySem.Spec PyProof.Rows
theorem aT.bls:∀{bs:List Bool} {us:List Value},aT (bs.map V.bl) us→us=bs.map Value.bool
 |[],us,h=>by
  rw[List.map_nil]at h
  cases h
  rfl
 |b :: bs,us,h=>by
  rw[List.map_cons]at h
  cases h with
  |cons r t =>
   cases r
   rw[aT.bls t,List.map_cons]
section
variable  {prog:Program}{w:World}{A:Around}{E:Value→Shared→Prop}{s:Shared}{l:Addr}{its:List Value}{ns:List Int}{Q:Value→Shared→Prop}
end
section
variable  {X:Cx}
end
section
variable  {X:Cx}
def Bl (K:Frag):V→List V→Hp→VK→Prop:=fun x xs H Q=>∃(a:Addr) (ys:List V) (y:V) (j:Nat) (z:V),x=V.ref a∧xs=[y]∧SqL K H a ys∧j4 y=true∧ys.all j4=true∧ys[j]? = some z∧eqV z y=true ∧
 (∀(m:Nat) (z':V),m<j→ys[m]? = some z'→eqV z' y=false)∧Q (.int (j:Nat)) H
theorem uc {ys:List V}(f:ys.all j4=true){j:Nat}{z:V}(h:ys[j]? = some z):j4 z=true:=List.all_eq_true.mp f z (List.mem_of_getElem? h)
theorem vW:MtR X "list.index" (Bl X.K):=by
 intro pins s σ H x xs v us Q I rx rxs h
 obtain⟨a,ys,y,j,z,rfl,rfl,hs,fy,fys,hz,hzj,hno,q⟩:=h
 cases rx
 cases rxs with
 |cons ry rt =>
  rename_i uy ut
  cases rt
  obtain⟨its,rv,⟨⟨cls,dd,data,sl⟩,n,ho,hc,hdn,hd⟩,hlen⟩:=I.list hs
  simp only at hc hd
  subst hc hd
  obtain⟨u,hu,ru⟩:=rv.get hz
  obtain⟨hjl,hje⟩:=gsi hu
  have hvl:=rv.length
  have hj:j<its.toArray.size:=by simpa using hjl
  have hsl:=sizeLine_eq
  refine call_meets PySem.F.slot_list_index ⟨_,ho,rfl⟩ PySem.F.entry_list_index (PySem.F.args_list_index_2 _ _)
   (SeqAt.list_indexAt a its.toArray n dd sl uy (eqU y) j hj (by omega) ?_ ?_) ⟨ho,fun u' hu'=>rh ry fy rv fys u' (by simpa using hu'),?_⟩
  ·have e1:its.toArray[j]=u:=by simpa using hje
   rw[e1,tp ru (uc fys hz)]
   exact hzj
  ·intro m hm hmj
   have hml:m<its.length:=by simpa using hm
   have hmy:m<ys.length:=by omega
   have hy':ys[m]? = some ys[m]:=gge hmy
   obtain⟨u2,hu2,ru2⟩:=rv.get hy'
   obtain⟨_,hme⟩:=gsi hu2
   have e1:its.toArray[m]=u2:=by simpa using hme
   rw[e1,tp ru2 (uc fys hy')]
   exact hno m _ hmj hy'
  ·exact⟨.int (j:Nat),H,I.tok _,⟨_,rfl⟩,q⟩
end
section
variable  {X:Cx}
end
section
variable  {X:Cx}
end
mutual
inductive Dp (K:Frag)(H:Hp):V→PyData→Prop
 |non:Dp K H .non .none
 |bl (b:Bool):Dp K H (.bl b) (.bool b)
 |int (i:Int):Dp K H (.int i) (.int i)
 |str (x:Str):Dp K H (.str x) (.str x)
 |lst {a:Addr} {xs:List V} {ds:List PyData}:SqL K H a xs→lL K H xs ds→Dp K H (.ref a) (.list ds)
 |tup {a:Addr} {xs:List V} {ds:List PyData}:SqT K H a xs→lL K H xs ds→Dp K H (.ref a) (.tuple ds)
inductive lL (K:Frag)(H:Hp):List V→List PyData→Prop
 |nil:lL K H [] []
 |cons {v:V} {vs:List V} {d:PyData} {ds:List PyData}:Dp K H v d→lL K H vs ds→lL K H (v :: vs) (d :: ds)
end
section
variable  {X:Cx}{pins:List (Addr×Obj)}{σ:St}{H:Hp}{s:Shared}
mutual
theorem Dp.reads (I:Inv X pins σ H s):∀(d:PyData) (v:V) (u:Value),Dp X.K H v d→aZ v u→∃as,Reads s.heap u d as
 |.none,_,_,h,r=>by
  cases h
  cases r
  exact⟨_,Reads.none⟩
 |.bool b,_,_,h,r=>by
  cases h
  cases r
  exact⟨_,Reads.bool b⟩
 |.int i,_,_,h,r=>by
  cases h
  obtain⟨t,rfl⟩:=r
  exact⟨_,Reads.int i t⟩
 |.str x,_,_,h,r=>by
  cases h
  obtain⟨t,rfl⟩:=r
  exact⟨_,Reads.str x t⟩
 |.list ds,_,_,h,r=>by
  cases h with
  |lst hs ha =>
   cases r
   obtain⟨its,rv,⟨o,n,ho,hc,_,hd⟩,_⟩:=I.list hs
   obtain⟨as,hr⟩:=Dp.readsAll I ds _ its ha rv
   exact⟨_,Reads.list ho hc hd hr⟩
 |.tuple ds,_,_,h,r=>by
  cases h with
  |tup hs ha =>
   cases r
   obtain⟨its,rv,⟨o,ho,hc,n,hd⟩,_⟩:=I.tuple hs
   obtain⟨as,hr⟩:=Dp.readsAll I ds _ its ha rv
   exact⟨_,Reads.tuple ho hc hd hr⟩
 |.dict _,_,_,h,_=>by cases h
theorem Dp.readsAll (I:Inv X pins σ H s):∀(ds:List PyData) (vs:List V) (us:List Value),lL X.K H vs ds→aT vs us→∃as,ReadsAll s.heap us ds as
 |[],_,_,h,r=>by
  cases h
  cases r
  exact⟨_,ReadsAll.nil⟩
 |d :: ds,_,_,h,r=>by
  cases h with
  |cons h1 h2 =>
   cases r with
   |cons r1 r2 =>
    obtain⟨as,q1⟩:=Dp.reads I d _ _ h1 r1
    obtain⟨bs,q2⟩:=Dp.readsAll I ds _ _ h2 r2
    exact⟨_,ReadsAll.cons q1 q2⟩
end
end
section
variable  {X:Cx}
def DT (K:Frag):R2:=fun x y H Q=>∃d e,Dp K H x d∧Dp K H y e∧SeqAt.shaped d=true∧SeqAt.shaped e=true∧Q (.bl (!PyData.eqv d e)) H
theorem AK (hu:X.A.units+64<cLine):OpR X (compareOp .NotEq) (DT X.K):=by
 intro pins s σ H x y v u Q I rx ry h
 obtain⟨d,e,hd,he,sd,se,q⟩:=h
 obtain⟨as,r1⟩:=Dp.reads I d x v hd rx
 obtain⟨bs,r2⟩:=Dp.reads I e y u he ry
 exact SeqAt.compareNe_shaped r1 r2 sd se hu ⟨.bl _,H,I,rfl,q⟩
end
end L2
namespace L2
open PySem PySem.Spec PyProof.Rows
abbrev wm (h:Heap)(c:Addr)(v:Option Value):Prop:=h.IsCell c v
def DW (scope sc:Scope):Scope :=
 { scope with names:=scope.names.map fun (n,k)=>if (k==.free&&sc.kind==.function&&sc.names.lookup n==some .cell) then (n,.cell) else (n,k) }
def bG (cells:List (Str×Addr)):List (Str×NameKind)→List (Str×Addr)→List (Str×Addr)
 |[],acc=>acc
 |(n,k) :: r,acc=>if k==.free then bG cells r ((n,(cells.lookup n).getD 0) :: acc) else bG cells r acc
theorem j0 (env:Env)(f:Str×NameKind→List (Str×Addr)→Sem (ForInStep (List (Str×Addr))))
  (hf:∀n k c,f (n,k) c=if k==.free then (do let a ←cellOf env n;pure (.yield ((n,a) :: c))) else pure (.yield c)) :
  ∀(names:List (Str×NameKind)) (acc:List (Str×Addr)),(∀y∈names,y.2=.free→∃c,env.cells.lookup y.1=some c)→forIn names acc f=pure (bG env.cells names acc)
 |[],acc,_=>by rw[List.forIn_nil];rfl
 |(n,k) :: r,acc,h=>by
  rw[List.forIn_cons,hf]
  have ih:=fun acc=>j0 env f hf r acc fun y hy=>h y (List.mem_cons_of_mem _ hy)
  unfold bG
  by_cases hk:(k==NameKind.free)=true
  ·rw[if_pos hk,if_pos hk]
   obtain⟨c,hc⟩:=h (n,k) List.mem_cons_self (by simpa using hk)
   have e:cellOf env n=pure c:=by unfold cellOf;rw[hc]
   rw[e]
   have e2:(env.cells.lookup n).getD 0=c:=by rw[hc];rfl
   rw[e2]
   exact ih _
  ·rw[if_neg hk,if_neg hk]
   exact ih _
theorem tq {scope:Scope}{env:Env}(h:∀y∈scope.names,y.2=.free→∃c,env.cells.lookup y.1=some c):closureFor scope env=pure (bG env.cells scope.names []):=by
 simp only[closureFor]
 rw[j0 env _ (fun n k c=>rfl) scope.names [] h]
 rfl
theorem jP {α:Type}:∀{l:List (Str×α)} {n:Str} {c:α},(n,c)∈l→∃c',l.lookup n=some c'
 |(k,v) :: r,n,c,h=>by
  rw[List.lookup_cons]
  cases hb:n==k with
  |true=>exact⟨_,rfl⟩
  |false =>
   rcases List.mem_cons.mp h with e|h
   ·cases e;simp at hb
   ·exact jP h
theorem gu {cells:List (Str×Addr)}:∀{names:List (Str×NameKind)} {acc:List (Str×Addr)} {n:Str} {c:Addr},(n,c)∈bG cells names acc→(n,c)∈acc∨((n,.free)∈names∧c=(cells.lookup n).getD 0)
 |[],_,_,_,h=>.inl h
 |(m,k) :: r,acc,n,c,h=>by
  unfold bG at h
  split at h
  ·rename_i hk
   have hk:k=.free:=by simpa using hk
   rcases gu h with h|⟨h1,h2⟩
   ·rcases List.mem_cons.mp h with e|h
    ·cases e;exact .inr ⟨hk▸List.mem_cons_self,rfl⟩
    ·exact .inl h
   ·exact .inr ⟨List.mem_cons_of_mem _ h1,h2⟩
  ·rcases gu h with h|⟨h1,h2⟩
   ·exact .inl h
   ·exact .inr ⟨List.mem_cons_of_mem _ h1,h2⟩
theorem i5 {cells:List (Str×Addr)}:∀{names:List (Str×NameKind)} {acc:List (Str×Addr)} {p:Str×Addr},p∈acc→p∈bG cells names acc
 |[],_,_,h=>h
 |(m,k) :: r,acc,p,h=>by
  unfold bG
  split
  ·exact i5 (List.mem_cons_of_mem _ h)
  ·exact i5 h
theorem iX {cells:List (Str×Addr)}:∀{names:List (Str×NameKind)} {acc:List (Str×Addr)} {n:Str},(n,.free)∈names→(n,(cells.lookup n).getD 0)∈bG cells names acc
 |(m,k) :: r,acc,n,h=>by
  unfold bG
  rcases List.mem_cons.mp h with e|h
  ·cases e
   exact i5 List.mem_cons_self
  ·split
   ·exact iX h
   ·exact iX h
theorem gG:∀{names:List (Str×NameKind)} {h:Heap} {acc:List (Str×Addr)} {x:Str} {c:Addr},(x,c)∈cellsFrom h.objs.size names acc →
  (x,c)∈acc∨((x,.cell)∈names∧h.objs.size≤c∧wm (pushCells h names) c none)
 |[],_,_,_,_,h=>.inl h
 |(n,k) :: r,h,acc,x,c,hm=>by
  unfold cellsFrom at hm
  unfold pushCells
  split at hm
  ·rename_i hk
   rw[if_pos hk]
   have hk:k=.cell:=by simpa using hk
   rw[←Heap.size_push h { cls:=.type "cell",data:=.cell none }]at hm
   rcases gG hm with hm|⟨h1,h2,h3⟩
   ·rcases List.mem_cons.mp hm with e|hm
    ·cases e
     exact .inr ⟨hk▸List.mem_cons_self,nlr _,_,pushCells_keeps r _ _ _ (Heap.get?_push_size _ rfl),rfl⟩
    ·exact .inl hm
   ·rw[Heap.size_push]at h2
    exact .inr ⟨List.mem_cons_of_mem _ h1,Nat.le_of_succ_le h2,h3⟩
  ·rename_i hk
   rw[if_neg hk]
   rcases gG hm with hm|⟨h1,h2,h3⟩
   ·exact .inl hm
   ·exact .inr ⟨List.mem_cons_of_mem _ h1,h2,h3⟩
theorem jg:∀{names:List (Str×NameKind)} {n:Nat} {acc:List (Str×Addr)} {p:Str×Addr},p∈acc→p∈cellsFrom n names acc
 |[],_,_,_,h=>h
 |(m,k) :: r,n,acc,p,h=>by
  unfold cellsFrom
  split
  ·exact jg (List.mem_cons_of_mem _ h)
  ·exact jg h
theorem kO:∀{names:List (Str×NameKind)} {n:Nat} {acc:List (Str×Addr)} {x:Str},(x,.cell)∈names→∃c,(x,c)∈cellsFrom n names acc
 |(m,k) :: r,n,acc,x,h=>by
  unfold cellsFrom
  rcases List.mem_cons.mp h with e|h
  ·cases e
   exact⟨n,jg List.mem_cons_self⟩
  ·split
   ·exact kO h
   ·exact kO h
theorem kJ:∀{names:List (Str×NameKind)} {h:Heap} {acc:List (Str×Addr)} {x y:Str} {c:Addr},(∀p∈acc,p.2<h.objs.size)→(∀x y c,(x,c)∈acc→(y,c)∈acc→x=y) →
  (x,c)∈cellsFrom h.objs.size names acc→(y,c)∈cellsFrom h.objs.size names acc→x=y
 |[],_,_,_,_,_,_,hi,h1,h2=>hi _ _ _ h1 h2
 |(n,k) :: r,h,acc,x,y,c,hl,hi,h1,h2=>by
  unfold cellsFrom at h1 h2
  split at h1
  ·rename_i hk
   rw[if_pos hk]at h2
   rw[←Heap.size_push h { cls:=.type "cell",data:=.cell none }]at h1 h2
   refine kJ (h:=h.push _) (fun p hp=>?_) (fun x y c a b=>?_) h1 h2
   ·rw[Heap.size_push]
    rcases List.mem_cons.mp hp with rfl|hp
    ·exact Nat.lt_succ_self _
    ·exact Nat.lt_succ_of_lt (hl p hp)
   ·rcases List.mem_cons.mp a with e|a<;>rcases List.mem_cons.mp b with e'|b
    ·cases e;cases e';rfl
    ·cases e;exact absurd (hl _ b) (Nat.lt_irrefl _)
    ·cases e';exact absurd (hl _ a) (Nat.lt_irrefl _)
    ·exact hi _ _ _ a b
  ·rename_i hk
   rw[if_neg hk]at h2
   exact kJ hl hi h1 h2
theorem qY {M:Model}{A:Around}{E:Value→Shared→Prop}{s:Shared}{scope:Scope}{globals:Addr}{closure:List (Str×Addr)}{qual:Str}{func:Option Addr}{code:Value}{around:Env}{builtins:Addr}{Q:Env→Shared→Prop}
  (h:Q (newEnv scope s.heap.objs.size globals (cellsFrom (s.heap.objs.size+1) scope.names closure) qual func code (some around) builtins)
   { s with heap:=pushCells (s.heap.push { cls:=.type "dict",data:=.dict #[] }) scope.names }) :
  wpAny M A (newFunctionEnv scope globals closure [] qual func code (some around) builtins) Q E s:=by
 simp only[newFunctionEnv,Option.isSome_some,if_true]
 refine wpAny_bind (wpAny_alloc ?_)
 refine wpAny_bind (wpAny_layCells _ (fun n k c=>rfl) scope.names closure _ _ ?_)
 rw[show({ s with heap:=s.heap.push { cls:=.type "dict",data:=.dict #[] } }:Shared).heap.objs.size=s.heap.objs.size+1 from Heap.size_push ..]
 rw[List.forIn_nil]
 exact wpAny_bind (wpAny_pure (wpAny_pure h))
theorem iU {sc:Scope}:∀{names:List (Str×NameKind)} {x:Str} {k:NameKind},
  (names.map fun (n,k)=>if (k==NameKind.free&&sc.kind==.function&&sc.names.lookup n==some .cell) then (n,NameKind.cell) else (n,k)).lookup x=some k →
  ∃k',names.lookup x=some k'∧(k=k'∨(k'=.free∧k=.cell))
 |[],_,_,h=>by simp at h
 |(n,k₀) :: r,x,k,h=>by
  have ih:=@iU sc r x k
  have h':List.lookup x ((if (k₀==NameKind.free&&sc.kind==.function&&sc.names.lookup n==some .cell)=true then (n,NameKind.cell) else (n,k₀)) :: (r.map _))=some k:=h
  cases hx:x==n with
  |true =>
   simp only[List.lookup_cons,hx]
   by_cases hc:(k₀==NameKind.free&&sc.kind==.function&&sc.names.lookup n==some .cell)=true
   ·rw[if_pos hc]at h'
    simp only[List.lookup_cons,hx]at h'
    cases h'
    simp only[Bool.and_eq_true,beq_iff_eq]at hc
    exact⟨k₀,rfl,.inr ⟨hc.1.1,rfl⟩⟩
   ·rw[if_neg hc]at h'
    simp only[List.lookup_cons,hx]at h'
    cases h'
    exact⟨_,rfl,.inl rfl⟩
  |false =>
   simp only[List.lookup_cons,hx]
   by_cases hc:(k₀==NameKind.free&&sc.kind==.function&&sc.names.lookup n==some .cell)=true
   ·rw[if_pos hc]at h'
    simp only[List.lookup_cons,hx]at h'
    exact ih h'
   ·rw[if_neg hc]at h'
    simp only[List.lookup_cons,hx]at h'
    exact ih h'
structure qK (N:List Str)(sc scope:Scope)(own:List (Str×Nat)):Prop where
 kind:scope.kind=.function
 uniq:∀y∈scope.names,scope.names.lookup y.1=some y.2
 ix:∀p∈own,N[p.2]? = some p.1
 free:∀y∈scope.names,y.2=.free→sc.names.lookup y.1=some .cell∨sc.names.lookup y.1=some .free
 own:∀y∈scope.names,y.2=.local∨y.2=.cell→y.1∈own.map (·.1)∨y.1∉N
def bX (σ:St):List Nat→St
 |[]=>σ
 |v :: vs=>(bX σ vs).set v none
theorem iJ (σ:St):∀vs:List Nat,(bX σ vs).length=σ.length
 |[]=>rfl
 |v :: vs=>by unfold bX;rw[List.length_set,iJ σ vs]
theorem kz {σ:St}{i:Nat}{x:V}:∀{vs:List Nat},(bX σ vs)[i]? = some (some x)→σ[i]? = some (some x)∧i∉vs
 |[],h=>⟨h,by simp⟩
 |v :: vs,h=>by
  unfold bX at h
  by_cases hi:v=i
  ·subst hi
   by_cases hv:v<(bX σ vs).length
   ·rw[List.getElem?_set_self hv]at h;cases h
   ·rw[List.getElem?_eq_none (by simpa using hv)]at h;cases h
  ·rw[List.getElem?_set_ne hi]at h
   obtain⟨h1,h2⟩:=kz h
   exact⟨h1,by simp only[List.mem_cons,not_or];exact⟨fun e=>hi e.symm,h2⟩⟩
abbrev Cx.blk (X:Cx)(s:Shared)(H:Hp)(scope:Scope)(cenv:Env)(fp:List Addr):Cx:={ X with s_0:=s,H_0:=H,env:=cenv,outer:=X.stack,ex:=fp,fn:=fun x=>scope.names.lookup x==some .cell,pn:=[],xe:=fun _ _=>False }
section
variable  {X:Cx}{pins:List (Addr×Obj)}{σ:St}{H:Hp}{s:Shared}
theorem rM {scope:Scope}{own:List (Str×Nat)}{fp:List Addr}(I:Inv X pins σ H s)(ok:qK X.N X.env.scope scope own)(hN:X.N.Nodup)(hfp:∀b∈fp,lP X pins H b∧b<s.heap.objs.size) :
  Inv (X.blk s H scope (compEnvC scope (cellsFrom (s.heap.objs.size+1) scope.names (bG X.env.cells scope.names [])) s.heap.objs.size X.env) fp) [] (bX σ (own.map (·.2))) H { s with heap:=pushCells (s.heap.push { cls:=.type "dict",data:=.dict #[] }) scope.names }:=by
 have hfree:∀y∈scope.names,y.2=.free→∃c,X.env.cells.lookup y.1=some c:=fun y hy e=>by
  rcases ok.free y hy e with k|k
  ·exact I.ok.has _ (.inl k)
  ·exact I.ok.has _ (.inr k)
 generalize hcenv:compEnvC scope (cellsFrom (s.heap.objs.size+1) scope.names (bG X.env.cells scope.names [])) s.heap.objs.size X.env=cenv
 have kp:∀b o,s.heap.get? b=some o→(pushCells (s.heap.push { cls:=.type "dict",data:=.dict #[] }) scope.names).get? b=some o:=fun b o e=>pushCells_keeps _ _ _ _ (Heap.get?_push_of_some _ e)
 have hL:cenv.locals=s.heap.objs.size:=by rw[←hcenv];rfl
 have hcl:cenv.cells=cellsFrom (s.heap.objs.size+1) scope.names (bG X.env.cells scope.names []):=by rw[←hcenv];rfl
 have hsc:cenv.scope=DW scope X.env.scope:=by rw[←hcenv];rfl
 rw[←Heap.size_push s.heap { cls:=.type "dict",data:=.dict #[] }]at hcl
 have cm:∀{y c},(y,c)∈bG X.env.cells scope.names []→X.env.cells.lookup y=some c∧c<s.heap.objs.size:=fun {y c} hm=>by
  rcases gu hm with hm|⟨h1,rfl⟩
  ·cases hm
  ·obtain⟨c,hc⟩:=hfree _ h1 rfl
   rw[hc]
   obtain⟨w,z⟩:=I.cell _ _ hc
   exact⟨rfl,z.lt⟩
 have mem:∀{y c},cenv.cells.lookup y=some c→(X.env.cells.lookup y=some c∧c<s.heap.objs.size)∨(s.heap.objs.size+1≤c∧wm (pushCells (s.heap.push { cls:=.type "dict",data:=.dict #[] }) scope.names) c none):=fun {y c} e=>by
  rw[hcl]at e
  rcases gG (PySem.mem_of_lookup e) with hm|⟨_,h2,h3⟩
  ·exact .inl (cm hm)
  ·rw[Heap.size_push]at h2;exact .inr ⟨h2,h3⟩
 have look:∀{y},scope.names.lookup y=some .free→∃c,cenv.cells.lookup y=some c∧X.env.cells.lookup y=some c:=fun {y} hl=>by
  have hy:(y,NameKind.free)∈scope.names:=PySem.mem_of_lookup hl
  obtain⟨c',e'⟩:=jP (jg (names:=scope.names) (n:=(s.heap.push { cls:=.type "dict",data:=.dict #[] }).objs.size) (iX (cells:=X.env.cells) (acc:=[]) hy))
  rw[←hcl]at e'
  refine⟨c',e',?_⟩
  rw[hcl]at e'
  rcases gG (PySem.mem_of_lookup e') with hm|⟨h1,_,_⟩
  ·exact(cm hm).1
  ·have:=ok.uniq _ h1
   rw[hl]at this;cases this
 have okB:(X.blk s H scope cenv fp).Ok:=by
  refine⟨I.ok.mod,by show cenv.scope.kind=_;rw[hsc];exact ok.kind,by show cenv.globals=_;rw[←hcenv];exact I.ok.glob,by show cenv.builtins=_;rw[←hcenv];exact I.ok.blt,by show s.heap.objs.size≤cenv.locals;rw[hL];exact nlr _,
   fun y z c e1 e2=>?_,fun y hy=>?_,fun y c z e=>?_,I.ok.hd,I.ok.frames,.inl rfl,fun b hb=>⟨?_,fun y c e z=>?_⟩,I.bs,Nat.le_trans I.ok.bsz I.sz,fun b o e hb=>?_,fun b hb z=>?_,I.stack,I.stkFree⟩
  ·have e1:cenv.cells.lookup y=some c:=e1
   have e2:cenv.cells.lookup z=some c:=e2
   rw[hcl]at e1 e2
   refine kJ (fun p hp=>?_) (fun y z c a b=>I.ok.inj y z c (cm a).1 (cm b).1) (PySem.mem_of_lookup e1) (PySem.mem_of_lookup e2)
   rw[Heap.size_push]
   exact Nat.lt_succ_of_lt (cm (y:=p.1) (c:=p.2) hp).2
  ·show ∃c,cenv.cells.lookup y=some c
   have key:∀k,cenv.kindOf y=some k→(k=.cell∨k=.free)→∃c,cenv.cells.lookup y=some c:=fun k hk hk'=>by
    unfold Env.kindOf at hk
    rw[hsc]at hk
    obtain⟨k',e,r⟩:=iU hk
    have:k'=.cell∨k'=.free:=by
     rcases r with rfl|⟨rfl,_⟩
     ·exact hk'
     ·exact .inr rfl
    rcases this with rfl|rfl
    ·obtain⟨c,hm⟩:=kO (n:=(s.heap.push { cls:=.type "dict",data:=.dict #[] }).objs.size) (acc:=bG X.env.cells scope.names []) (PySem.mem_of_lookup e)
     obtain⟨c',e'⟩:=jP hm
     exact⟨c',by rw[hcl];exact e'⟩
    ·obtain⟨c,h1,_⟩:=look e
     exact⟨c,h1⟩
   rcases hy with hy|hy
   ·exact key _ hy (.inl rfl)
   ·exact key _ hy (.inr rfl)
  ·have z:(scope.names.lookup y==some NameKind.cell)=true:=z
   have z:scope.names.lookup y=some .cell:=by simpa using z
   have e:cenv.cells.lookup y=some c:=e
   rw[hcl]at e
   rcases gG (PySem.mem_of_lookup e) with hm|⟨_,h2,_⟩
   ·rcases gu hm with hm|⟨h1,_⟩
    ·cases hm
    ·have q:=ok.uniq _ h1
     rw[z]at q;cases q
   ·rw[Heap.size_push]at h2
    exact Nat.le_of_succ_le h2
  ·show b≠cenv.locals
   rw[hL];exact Nat.ne_of_lt (hfp b hb).2
  ·have e:cenv.cells.lookup y=some c:=e
   rcases mem e with⟨h1,_⟩|⟨h1,_⟩
   ·exact(hfp b hb).1.2.2.2.2.1 y c h1 z
   ·have h2:s.heap.objs.size+1≤b:=by rw[←z];exact h1
    exact absurd (Nat.lt_of_lt_of_le (hfp b hb).2 (Nat.le_of_succ_le h2)) (Nat.lt_irrefl _)
  ·rcases(hfp b hb).1.2.2.2.1 with z|z
   ·exact I.ok.noex b o e z
   ·exact absurd (Nat.lt_of_lt_of_le (Heap.lt_size e) (Nat.le_trans I.ok.bsz z)) (Nat.lt_irrefl _)
  ·rcases List.mem_cons.mp (I.stkSub b z) with z|z
   ·exact(hfp b hb).1.2.1 z
   ·exact(hfp b hb).1.2.2.1 z
 refine⟨okB,rfl,I.bare,Un.kept kp,⟨fun _=>none,?_,fun i y av e1 e2 e3=>?_⟩,fun y c e=>?_,?_,fun y c e=>?_,fun p hp=>?_,I.hok.kept kp,by rw[iJ];exact I.len⟩
 ·show Heap.Ns _ cenv.locals _
  rw[hL]
  exact Heap.Ns.keeps (Heap.Ns.new ..) fun b o e=>pushCells_keeps _ _ _ _ e
 ·obtain⟨e2,hne⟩:=kz e2
  have hfr:scope.names.lookup y=some .free∧(cenv.kindOf y=some .cell∨cenv.kindOf y=some .free):=by
   have key:∀k,cenv.scope.names.lookup y=some k→k=.local∨k=.cell∨k=.free→scope.names.lookup y=some .free∧(cenv.kindOf y=some .cell∨cenv.kindOf y=some .free):=fun k hk hk'=>by
    have hk0:=hk
    rw[hsc]at hk
    obtain⟨k',e,r⟩:=iU hk
    have no:¬(k'=.local∨k'=.cell):=fun hh=>by
     rcases ok.own _ (PySem.mem_of_lookup e) hh with e'|e'
     ·obtain⟨p,hp,hpy⟩:=List.mem_map.mp e'
      have e3:=ok.ix p hp
      have:p.1=y:=hpy
      rw[this]at e3
      exact hne (List.mem_map.mpr ⟨p,hp,m7 hN e3 e1⟩)
     ·exact e' (List.mem_of_getElem? e1)
    rcases r with rfl|⟨rfl,rfl⟩
    ·rcases hk' with rfl|rfl|rfl
     ·exact absurd (.inl rfl) no
     ·exact absurd (.inr rfl) no
     ·exact⟨e,.inr hk0⟩
    ·exact⟨e,.inl hk0⟩
   have e3:Vis cenv.scope y:=e3
   rcases e3 with e3|e3|e3
   ·exact key _ e3 (.inl rfl)
   ·exact key _ e3 (.inr (.inl rfl))
   ·exact key _ e3 (.inr (.inr rfl))
  obtain⟨m,hn,hl⟩:=I.loc
  have hvis:Vis X.env.scope y:=(ok.free _ (PySem.mem_of_lookup hfr.1) rfl).elim (fun k=>.inr (.inl k)) (fun k=>.inr (.inr k))
  obtain⟨w,r,q⟩:=hl i y av e1 e2 hvis
  refine⟨w,r,.inr ⟨hfr.2,?_⟩⟩
  obtain⟨c,h1,h2⟩:=look hfr.1
  rcases q with⟨k,_⟩|⟨_,c',e',z⟩
  ·have k:X.env.scope.names.lookup y=some .local:=k
   rcases ok.free _ (PySem.mem_of_lookup hfr.1) rfl with k'|k'<;>rw[show X.env.scope.names.lookup y=_ from k']at k<;>cases k
  ·rw[h2]at e';cases e'
   exact⟨c,h1,z.keeps kp⟩
 ·have e:cenv.cells.lookup y=some c:=e
  rcases mem e with⟨h1,_⟩|⟨_,z⟩
  ·obtain⟨w,z⟩:=I.cell y c h1
   exact⟨w,z.keeps kp⟩
  ·exact⟨_,z⟩
 ·show H cenv.locals=none
  rw[hL];exact I.hok.fresh (nlr _)
 ·have e:cenv.cells.lookup y=some c:=e
  rcases mem e with⟨h1,_⟩|⟨h1,_⟩
  ·exact I.freeC y c h1
  ·exact I.hok.fresh (Nat.le_of_succ_le h1)
 ·exact absurd (show p∈([]:List (Addr×Obj))++[] from hp) (by simp)
theorem Ak {E:Value→Shared→Prop}{D:Addr}{xs:List V}{y:V}{v:Value}{Q:Value→Shared→Prop}(I:Inv X pins σ H s)(hD:H D=some (.lst xs))(hz:xs.length<sizeLine)(r:aZ y v)
  (h:∀s',Inv X pins σ (upd H D (.lst (xs++[y]))) s'→Q .none s'):wpAny (model X.prog X.w) X.A (call (.builtin "list.append") [.ref D,v]) Q E s:=by
 obtain⟨hz',its,n,ri,e⟩:=I.hok D _ hD
 have hl:=ri.length
 refine append_at (hsz:=by rw[List.size_toArray];omega) e fun h' sb ho'=>?_
 refine h { s with heap:=h' } (I.write (t':=s.toks) (by rw[hD];trivial) (.inl rfl) (fun b u hb q=>(sb.2 b hb).trans q) ⟨_,ho'⟩ ⟨by rw[List.length_append];exact hz,its++[v],n+1,ri.append (.cons r .nil),?_⟩)
 rw[ho']
 simp
def PTs (X:Cx)(ifs:List Expr)(t:TT):Prop :=
 ∀(pins:List (Addr×Obj)) (s:Shared) (σ:St) (H:Hp) (Q:Bool→Hp→Prop),Inv X pins σ H s→t σ H Q →
  wpAny (model X.prog X.w) X.A (forIn ifs true fun c r=>if r=true then do let ok ←isTrue c X.env (eval c X.env);pure (ForInStep.yield ok) else pure (ForInStep.yield r)) (TP X pins σ Q) X.xe s
def CK:TT:=fun _ H Q=>Q true H
theorem eV:PTs X [] CK:=fun _ _ _ H _ I h=>wpAny_tests_nil ⟨H,I,h⟩
theorem jh {c:Expr}{t:TT}(h:PT X c t):PTs X [c] t:=fun pins s σ H Q I hw=>wpAny_tests_one (h pins s σ H Q I hw)
end
theorem u4 {α:Type}{t:Sem α}{Q Q':α→Shared→Prop}{M:Model}{A:Around}{E:Value→Shared→Prop}{s:Shared}(h:wpAny M A t Q (fun _ _=>False) s)(hQ:∀a s,Q a s→Q' a s):wpAny M A t Q' E s:=wpAny_mono h hQ fun _ _ z=>False.elim z
theorem pY {prog:Program}{w:World}{A:Around}{R:Result→Shared→Prop}{s:Shared}{elt target aE:Expr}{ifs:List Expr}{scope:Scope}{pos:Pos}{it acc:Value}{env:Env}(I:Nat→Shared→Prop)
  (turn:∀n s,I n s→wpAny (model prog w) A (pyNext it) (fun r s₁=>match r with
   |none=>R (.ok .next) s₁
   |some v=>wpAny (model prog w) A (letOwnedTupleGo target it v) (fun _ s₁'=>wpAny (model prog w) A (assign target env v) (fun _ s₂ =>
     wpAny (model prog w) A (forIn ifs true fun c r=>if r=true then do let ok ←isTrue c env (eval c env);pure (ForInStep.yield ok) else pure (ForInStep.yield r)) (fun ok s₃ =>
      if ok=true then wpAny (model prog w) A (eval elt env) (fun x s₄ =>
       wpAny (model prog w) A (call (.builtin "list.append") [acc,x]) (fun _ s₅=>∃m,m<n∧I m s₅) (notedBy (model prog w) A env fun e s'=>R (.error e) s') s₄) (notedBy (model prog w) A env fun e s'=>R (.error e) s') s₃
      else ∃m,m<n∧I m s₃) (notedBy (model prog w) A env fun e s'=>R (.error e) s') s₂) (notedBy (model prog w) A env fun e s'=>R (.error e) s') s₁') (notedBy (model prog w) A env fun e s'=>R (.error e) s') s₁) (notedBy (model prog w) A env fun e s'=>R (.error e) s') s)
  (n:Nat) (h:I n s) :
  codeAny (model prog w) A (.compLoop (.ListComp elt [⟨target,aE,ifs,0⟩] scope pos) 0 it acc env) R s:=by
 refine codeAny_loop rfl I (fun n s hI=>?_) n h
 show wpAny _ A ((compTurn (.ListComp elt [⟨target,aE,ifs,0⟩] scope pos) 0 it acc env).onRaise (fun x=>do noteFrame x env;theTreesLotGoes x)) _ _ s
 refine wpAny_noted ?_
 rw[compTurn_list]
 refine wpAny_bind (wpAny_standAt (wpAny_bind (wpAny_mono (turn n s hI) (fun r s₁ h₁=>?_) fun _ _ h'=>h')))
 cases r with
 |none=>exact wpAny_pure h₁
 |some v =>
  refine wpAny_bind (wpAny_mono h₁ (fun _ s₁' h₁'=>?_) fun _ _ h'=>h')
  refine wpAny_bind (wpAny_mono h₁' (fun _ s₂ h₂=>wpAny_bind (wpAny_mono h₂ (fun ok s₃ h₃=>?_) fun _ _ h'=>h')) fun _ _ h'=>h')
  cases ok with
  |false=>exact wpAny_pure ⟨rfl,h₃⟩
  |true =>
   exact wpAny_bind (wpAny_bind (wpAny_mono h₃ (fun x s₄ h₄=>wpAny_bind (wpAny_mono h₄ (fun _ s₅ h₅=>wpAny_pure (wpAny_pure ⟨rfl,h₅⟩)) fun _ _ h'=>h')) fun _ _ h'=>h'))
section
variable  {X:Cx}
def tLc (wi:TI)(g:TG)(tt:TT)(te:TE)(vs:List Nat):TE:=fun σ H Q=>wi σ H fun J H1=>∀D,H1 D=none→∃W:Nat→Nat→Hp→Prop,(∃m,W 0 m (upd H1 D (.lst [])))∧∀i m H,W i m H →
 (J.stop i H∧Q (.ref D) H)∨(J.go i H∧∃Nx:Hp→Prop,(∀H',Nx H'→∃m',m'<m∧W (i+1) m' H')∧∀x H',J.yld i H x H'→g x (bX σ vs) H' fun σ2 H2=>bX σ2 vs=bX σ vs∧tt σ2 H2 fun b H3 =>
  if b=true then te σ2 H3 fun y H4=>∃acc,H4 D=some (.lst acc)∧acc.length<sizeLine∧Nx (upd H4 D (.lst (acc++[y]))) else Nx H3)
theorem ua {pins:List (Addr×Obj)}{s:Shared}{σ:St}{H:Hp}{Q:VK}{elt tg aE:Expr}{ifs:List Expr}{scope:Scope}{own:List (Str×Nat)}{pos pos':Pos}{wi:TI}{g:TG}{tt:TT}{te:TE}{use:Option (Value→Sem Unit)}{Qf:Value→Shared→Prop}
  (hc:X.calm=true) (hN:X.N.Nodup) (I:Inv X pins σ H s) (hi:PI X tg aE wi) (ok:qK X.N X.env.scope scope own)
  (hg:∀(s:Shared) (H:Hp) (C:Addr) (cl:List (Str×Addr)) (fp:List Addr),PG (X.blk s H scope (compEnvC scope cl C X.env) fp) tg g) (ht:∀(s:Shared) (H:Hp) (C:Addr) (cl:List (Str×Addr)) (fp:List Addr),PTs (X.blk s H scope (compEnvC scope cl C X.env) fp) ifs tt)
  (he:∀(s:Shared) (H:Hp) (C:Addr) (cl:List (Str×Addr)) (fp:List Addr),PE (X.blk s H scope (compEnvC scope cl C X.env) fp) elt te) (hs:∀x,foldedSetIterable aE X.env x=pure x)
  (h:tLc wi g tt te (own.map (·.2)) σ H Q)
  (hRR:∀D C s' m H',Inv X pins σ H' s'→Q (.ref D) H'→s'.heap.Ns C m→lP X pins H' C→compPost (model X.prog X.w) X.A X.xe use Qf (.ref D) C (.ok .next) s') :
  wpAny (model X.prog X.w) X.A (comprehension (.ListComp elt [⟨tg,aE,ifs,0⟩] scope pos) scope X.env pos' (newList []) false (eval aE X.env) use) Qf X.xe s:=by
 have hfree:∀y∈scope.names,y.2=.free→∃c,X.env.cells.lookup y.1=some c:=fun y hy e=>by
  rcases ok.free y hy e with k|k
  ·exact I.ok.has _ (.inl k)
  ·exact I.ok.has _ (.inr k)
 refine wpAny_comprehension_free (use:=use) rfl hs (tq hfree) ok.kind (fun y hy e=>by rw[ok.uniq y hy,e])
  (thn (hi pins s σ H _ I h) fun xv s1 hx=>thn hx fun itv s2 h2=>?_)
 obtain⟨it,fp,tn,J,H2,e,I2,T,st2,f2,q⟩:=h2
 subst e
 refine wpAny_newObj_type (qY ?_) (by show 0≤sizeLine;decide)
 generalize hD:s2.heap.objs.size=D
 have hDn:H2 D=none:=I2.hok.fresh (Nat.le_of_eq hD)
 obtain⟨W,⟨m0,w0⟩,turn⟩:=q D hDn
 generalize hs3:({ s2 with heap:=s2.heap.push { cls:=.type "list",data:=.seq ([]:List Value).toArray } }:Shared)=s3
 have I3:Inv X pins σ (upd H2 D (.lst [])) s3:=by
  rw[←hs3]
  refine I2.laid (t':=s2.toks) (fun b o e=>Heap.get?_push_of_some _ e) (Nat.le_of_eq hD) ⟨Nat.zero_le _,[],0,.nil,?_⟩
  rw[←hD]
  exact Heap.get?_push_size _ rfl
 have h3:s3.heap=s2.heap.push { cls:=.type "list",data:=.seq ([]:List Value).toArray }:=by rw[←hs3]
 have sz:∀b∈fp,b<s2.heap.objs.size:=fun b hb=>by
  obtain⟨o,e,_⟩:=T.obj _ _ st2 b hb
  exact Heap.lt_size e
 have f3:∀b∈fp,lP X pins (upd H2 D (.lst [])) b∧b<s3.heap.objs.size:=fun b hb=>by
  have hlt:=sz b hb
  refine⟨⟨?_,(f2 b hb).2⟩,by rw[h3,Heap.size_push];exact Nat.lt_succ_of_lt hlt⟩
  rw[ap (by rw[←hD];exact Nat.ne_of_lt hlt)]
  exact(f2 b hb).1
 have st3:tn 0 s3.heap:=T.keep _ _ _ st2 fun b _ o e=>by rw[h3];exact Heap.get?_push_of_some _ e
 have I4:=rM I3 ok hN f3
 have pg:=hg s3 (upd H2 D (.lst [])) s3.heap.objs.size (cellsFrom (s3.heap.objs.size+1) scope.names (bG X.env.cells scope.names [])) fp
 have pt:=ht s3 (upd H2 D (.lst [])) s3.heap.objs.size (cellsFrom (s3.heap.objs.size+1) scope.names (bG X.env.cells scope.names [])) fp
 have pe:=he s3 (upd H2 D (.lst [])) s3.heap.objs.size (cellsFrom (s3.heap.objs.size+1) scope.names (bG X.env.cells scope.names [])) fp
 show codeAny _ _ (.compStart (.ListComp elt [⟨tg,aE,ifs,0⟩] scope pos) 0 (.ref it) (.ref D) (compEnvC scope (cellsFrom (s3.heap.objs.size+1) scope.names (bG X.env.cells scope.names [])) s3.heap.objs.size X.env)) (compPost (model X.prog X.w) X.A X.xe use Qf (.ref D) s3.heap.objs.size) { s3 with heap:=pushCells (s3.heap.push { cls:=.type "dict",data:=.dict #[] }) scope.names }
 have nfp:∀b∈fp,(upd H2 D (.lst [])) b=none:=fun b hb=>(f3 b hb).1.1
 generalize hce:compEnvC scope (cellsFrom (s3.heap.objs.size+1) scope.names (bG X.env.cells scope.names [])) s3.heap.objs.size X.env=ce at I4 pg pt pe ⊢
 have cL:ce.locals=s3.heap.objs.size:=by subst hce;rfl
 generalize hH3:upd H2 D (.lst [])=H3 at I3 I4 pg pt pe w0 nfp f3
 generalize hs4:({ s3 with heap:=pushCells (s3.heap.push { cls:=.type "dict",data:=.dict #[] }) scope.names }:Shared)=s4 at I4 ⊢
 have st4:tn 0 s4.heap:=T.keep _ _ _ st3 fun b _ o e=>by rw[←hs4];exact pushCells_keeps _ _ _ _ (Heap.get?_push_of_some _ e)
 have stat:∀{σ':St} {H':Hp} {s':Shared},Inv (X.blk s3 H3 scope ce fp) [] σ' H' s'→(∀b∈fp,H' b=none)→∀b∈fp,lP (X.blk s3 H3 scope ce fp) [] H' b:=fun {σ' H' s'} I' hn b hb =>
  ⟨hn b hb,(I'.ok.exf b hb).1,I'.ok.exfs b hb,.inl hb,fun x c e=>(I'.ok.exf b hb).2 x c e,fun p hp=>absurd (show p∈([]:List (Addr×Obj))++[] from hp) (by simp)⟩
 have loop:codeAny (model X.prog X.w) X.A (.compLoop (.ListComp elt [⟨tg,aE,ifs,0⟩] scope pos) 0 (.ref it) (.ref D) ce) (compPost (model X.prog X.w) X.A X.xe use Qf (.ref D) s3.heap.objs.size) s4:=by
  refine pY (fun n s'=>∃i H',Inv (X.blk s3 H3 scope ce fp) [] (bX σ (own.map (·.2))) H' s'∧tn i s'.heap∧(∀b∈fp,H' b=none)∧W i n H') ?_ m0 ⟨0,H3,I4,st4,nfp,w0⟩
  rintro n s5 ⟨i,H5,I5,st5,n5,w5⟩
  rcases turn i n H5 w5 with⟨stop,qq⟩|⟨go,Nx,hNx,step⟩
  ·have td:=T.done (X.blk s3 H3 scope ce fp) rfl rfl rfl hc i [] s5 _ H5 (fun _ _=>False) I5 (stat I5 n5) st5 stop
   refine u4 td fun r s6 ⟨hr,I6⟩=>?_
   subst hr
   have I7:Inv X pins σ H5 s6:=I3.call' (ch:=fp) I6.os I6.base I6.hok I6.bare fun b hb=>⟨(f3 b hb).1.2.2.2.1,(f3 b hb).1.2.1,(f3 b hb).1.2.2.2.2.1,(f3 b hb).1.2.2.2.2.2⟩
   have nC:H5 s3.heap.objs.size=none:=by
    have z:H5 ce.locals=none:=I6.free
    rw[cL]at z
    exact z
   obtain⟨m,hn,_⟩:=I6.loc
   have hn:s6.heap.Ns ce.locals m:=hn
   rw[cL]at hn
   exact hRR D s3.heap.objs.size s6 m H5 I7 qq hn (I3.fpOk (nlr _) nC)
  ·have ti:=T.item (X.blk s3 H3 scope ce fp) rfl rfl rfl hc i [] s5 _ H5 (fun _ _=>False) I5 (stat I5 n5) st5 go
   refine u4 ti fun r s6 ⟨u,hr,h6⟩=>?_
   subst hr
   refine u4 h6 fun _ s7 ⟨x,H7,I7,r7,y7,st7,n7⟩=>?_
   have I7':=I7.pinned (stat I7 n7) (T.obj _ _ st7)
   refine u4 (pg _ s7 _ H7 x u _ I7' r7 (step x H7 y7)) fun _ s8 ⟨σ8,H8,I8,hw8,q8⟩=>?_
   refine u4 (pt _ s8 σ8 H8 _ I8 q8) fun b s9 ⟨H9,I9,q9⟩=>?_
   have fin:∀{s':Shared} {H':Hp},Inv (X.blk s3 H3 scope ce fp) ([]++mO fp s7.heap) σ8 H' s'→Nx H'→∃m,m<n∧∃i H',Inv (X.blk s3 H3 scope ce fp) [] (bX σ (own.map (·.2))) H' s'∧tn i s'.heap∧(∀b∈fp,H' b=none)∧W i m H':=fun {s' H'} I' nx=>by
    obtain⟨m',hm,w'⟩:=hNx H' nx
    have pin':∀b∈fp,∀o,s7.heap.get? b=some o→s'.heap.get? b=some o∧H' b=none:=fun b hb o e =>
     let z:=I'.pin (b,o) (List.mem_append_right _ (List.mem_append_right _ (jK hb e)))
     ⟨z.1,z.2.1⟩
    have hl:(bX σ (own.map (·.2))).length=σ8.length:=by rw[←hw8,iJ]
    refine⟨m',hm,i+1,H',(I'.unpinned (pins:=[])).weak hl (fun j v e=>?_),T.keep _ _ _ st7 fun b hb o e=>(pin' b hb o e).1,fun b hb=>?_,w'⟩
    ·rw[←hw8]at e
     exact(kz e).1
    ·obtain⟨o,e,_⟩:=T.obj _ _ st7 b hb
     exact(pin' b hb o e).2
   cases b with
   |false =>
    simp only[Bool.false_eq_true,if_false]at q9 ⊢
    exact fin I9 q9
   |true =>
    simp only[if_true]at q9 ⊢
    refine u4 (pe _ s9 σ8 H9 _ I9 q9) fun z s10 ⟨yv,H10,I10,r10,acc,hD10,hz10,nx⟩=>?_
    exact Ak (X:=X.blk s3 H3 scope ce fp) I10 hD10 hz10 r10 fun s11 I11=>fin I11 nx
 exact codeAny_compStart_list loop (T.self X.A 0 _ _ _ st4 loop)
theorem xC {elt tg aE:Expr}{ifs:List Expr}{scope:Scope}{own:List (Str×Nat)}{pos:Pos}{wi:TI}{g:TG}{tt:TT}{te:TE}(hc:X.calm=true)(hN:X.N.Nodup)(hi:PI X tg aE wi)(ok:qK X.N X.env.scope scope own)
  (hg:∀(s:Shared) (H:Hp) (C:Addr) (cl:List (Str×Addr)) (fp:List Addr),PG (X.blk s H scope (compEnvC scope cl C X.env) fp) tg g) (ht:∀(s:Shared) (H:Hp) (C:Addr) (cl:List (Str×Addr)) (fp:List Addr),PTs (X.blk s H scope (compEnvC scope cl C X.env) fp) ifs tt)
  (he:∀(s:Shared) (H:Hp) (C:Addr) (cl:List (Str×Addr)) (fp:List Addr),PE (X.blk s H scope (compEnvC scope cl C X.env) fp) elt te) (hs:∀x,foldedSetIterable aE X.env x=pure x:=by intro _;rfl) :
  PE X (.ListComp elt [⟨tg,aE,ifs,0⟩] scope pos) (tLc wi g tt te (own.map (·.2))):=by
 intro pins s σ H Q I h
 rw[eval_ListComp]
 refine ua hc hN I hi ok hg ht he hs h fun D C s' m H' I' q hn f=>⟨m,hn,fun h'' sb=>?_⟩
 obtain⟨f0,f1,f2,f3,f4,f5⟩:=f
 exact⟨.ref D,H',I'.turned (t':=s'.toks) (fun b o hb e=>(sb.2 b hb).trans e) f0 f1 f3 f4 f5,rfl,q⟩
theorem cv {i:Nat}{y:Str}{py:Pos}{elt tg aE:Expr}{ifs:List Expr}{scope:Scope}{own:List (Str×Nat)}{pos spos:Pos}{wi:TI}{g:TG}{tt:TT}{te:TE}(hc:X.calm=true)(hN:X.N.Nodup)(hy:X.N[i]? = some y)(hyl:X.env.scope.names.lookup y=some .local)
  (hsw:swapsWith (.ListComp elt [⟨tg,aE,ifs,0⟩] scope pos) (some (.Name y py)) spos.line X.env=pure true) (hi:PI X tg aE wi) (ok:qK X.N X.env.scope scope own)
  (hg:∀(s:Shared) (H:Hp) (C:Addr) (cl:List (Str×Addr)) (fp:List Addr),PG (X.blk s H scope (compEnvC scope cl C X.env) fp) tg g) (ht:∀(s:Shared) (H:Hp) (C:Addr) (cl:List (Str×Addr)) (fp:List Addr),PTs (X.blk s H scope (compEnvC scope cl C X.env) fp) ifs tt)
  (he:∀(s:Shared) (H:Hp) (C:Addr) (cl:List (Str×Addr)) (fp:List Addr),PE (X.blk s H scope (compEnvC scope cl C X.env) fp) elt te) (hs:∀x,foldedSetIterable aE X.env x=pure x:=by intro _;rfl) :
  PS X (.Assign [.Name y py] (.ListComp elt [⟨tg,aE,ifs,0⟩] scope pos) spos) (Az (tLc wi g tt te (own.map (·.2))) (pf i)):=by
 intro pins s σ H D I h
 rw[exec_Assign_Name_used _ _ _ _ hsw]
 refine wpAny_bind (wpAny_standAt (wpAny_bind ?_))
 show wpAny _ X.A (do let _ ←comprehension (.ListComp elt [⟨tg,aE,ifs,0⟩] scope pos) scope X.env (firstIterPos [⟨tg,aE,ifs,0⟩] pos) (newList []) false (eval aE X.env) (some (assign (.Name y py) X.env))) _ _ s
 have h:tLc wi g tt te (own.map (·.2)) σ H (fun x H1=>pf i x σ H1 D.nx):=h
 refine wpAny_bind (thn (ua (Qf:=fun _ s'=>SP X pins D .next s') hc hN I hi ok hg ht he hs h fun L C s' m H' I' q hn f=>?_) fun _ s' hq=>wpAny_pure (wpAny_pure hq))
 show wpAny _ _ (assign (.Name y py) X.env (.ref L)) _ _ _
 refine wpAny_assign_Name (store_ok2 (v:=V.ref L) I' hN hy (.inl hyl) rfl (fun s2 I2 ⟨a,sb,ha⟩=>?_) (.inr hyl))
 obtain⟨f0,f1,f2,f3,f4,f5⟩:=f
 have haC:C≠a:=by
  rcases ha with z|z
  ·rw[z];exact f1
  ·exact fun e=>f4 y a z e.symm
 refine⟨m,hn.sameBut sb haC,fun h3 sb3=>?_⟩
 exact⟨_,H',I2.turned (t':=s2.toks) (fun b o hb e=>(sb3.2 b hb).trans e) f0 f1 f3 f4 f5,q⟩
theorem dD {elt:Expr}{gs:List Comprehension}{scope:Scope}{pos py:Pos}{y:Str}{l:Nat}{env:Env}(hk:env.scope.kind=.function)(hy:env.scope.names.lookup y=some .local)(hl:(py.line==pos.line)=true)
  (ha:(scope.names.any fun (n,k)=>n==y&&(k==.local||k==.cell))=false):swapsWith (.ListComp elt gs scope pos) (some (.Name y py)) l env=pure true:=by
 have ky:env.kindOf y=some .local:=hy
 have hb:env.blockKind=.function:=by unfold Env.blockKind;rw[hk];rfl
 unfold swapsWith
 simp only[hb,ky,ha,Expr.pos,hl]
 rfl
end
theorem hZ {K:Frag}{a:Addr}{xs:List V}{g:TG}{tt:TT}{te:TE}{vs:List Nat}{σ:St}{H1:Hp}{D:Addr}{Qd:Hp→Prop}(Pv:Nat→Hp→Prop)(h0:Pv 0 (upd H1 D (.lst [])))(hl:∀i H,i≤xs.length→Pv i H→SqL K H a xs)
  (hs:∀i x H,xs[i]? = some x→Pv i H→g x (bX σ vs) H fun σ2 H2=>bX σ2 vs=bX σ vs∧tt σ2 H2 fun b H3 =>
   if b=true then te σ2 H3 fun y H4=>∃acc,H4 D=some (.lst acc)∧acc.length<sizeLine∧Pv (i+1) (upd H4 D (.lst (acc++[y]))) else Pv (i+1) H3) (hd:∀H,Pv xs.length H→Qd H) :
  ∃W:Nat→Nat→Hp→Prop,(∃m,W 0 m (upd H1 D (.lst [])))∧∀i m H,W i m H →
   ((Itl K a).stop i H∧Qd H)∨((Itl K a).go i H∧∃Nx:Hp→Prop,(∀H',Nx H'→∃m',m'<m∧W (i+1) m' H')∧∀x H',(Itl K a).yld i H x H'→g x (bX σ vs) H' fun σ2 H2=>bX σ2 vs=bX σ vs∧tt σ2 H2 fun b H3 =>
    if b=true then te σ2 H3 fun y H4=>∃acc,H4 D=some (.lst acc)∧acc.length<sizeLine∧Nx (upd H4 D (.lst (acc++[y]))) else Nx H3):=by
 refine⟨fun i m H=>m=xs.length-i∧i≤xs.length∧Pv i H,⟨xs.length,by simp,Nat.zero_le _,h0⟩,?_⟩
 rintro i m H ⟨rfl,hi,p⟩
 have q:=hl i H hi p
 by_cases hlt:i<xs.length
 ·refine .inr ⟨⟨xs,xs[i],q,by simp[hlt]⟩,Pv (i+1),fun H' p'=>⟨xs.length-(i+1),by omega,rfl,hlt,p'⟩,fun x H' y=>?_⟩
  obtain⟨e,y⟩:=y
  subst e
  exact hs i x _ (y xs q) p
 ·have e:i=xs.length:=by omega
  subst e
  exact .inl ⟨⟨xs,q,nlr _⟩,hd H p⟩
def iG (N:List Str)(sc scope:Scope)(own:List (Str×Nat)):Bool :=
 (match scope.kind with|.function=>true|_=>false)&&(scope.names.all fun y=>decide (scope.names.lookup y.1=some y.2))&&(own.all fun p=>decide (N[p.2]? = some p.1)) &&
  (scope.names.all fun y=>match y.2 with
   |.free=>(match sc.names.lookup y.1 with|some .cell=>true|some .free=>true|_=>false)
   |.local=>decide (y.1∈own.map (·.1))||decide (y.1∉N)
   |.cell=>decide (y.1∈own.map (·.1))||decide (y.1∉N)
   |_=>true)
theorem bL {N:List Str}{sc scope:Scope}{own:List (Str×Nat)}(h:iG N sc scope own=true):qK N sc scope own:=by
 unfold iG at h
 simp only[Bool.and_eq_true,List.all_eq_true,decide_eq_true_eq]at h
 obtain⟨⟨⟨h1,h2⟩,h3⟩,h4⟩:=h
 refine⟨?_,h2,h3,fun y hy e=>?_,fun y hy e=>?_⟩
 ·split at h1
  ·assumption
  ·cases h1
 ·have q:=h4 y hy
  simp only[e]at q
  split at q<;>first|exact .inl (by assumption)|exact .inr (by assumption)|cases q
 ·have q:=h4 y hy
  rcases e with e|e<;>(simp only[e,Bool.or_eq_true,decide_eq_true_eq]at q;exact q)
end L2
namespace L2
open PySem PySem.Spec PyProof.Rows
section
variable  {prog:Program}{w:World}{A:Around}{R:Result→Shared→Prop}{s:Shared}{elt t0 i0 t1 i1:Expr}{ifs0 ifs1:List Expr}{scope:Scope}{pos:Pos}{it acc:Value}{env:Env}
end
section
variable  {X:Cx}
end
end L2
namespace L2
open PySem PySem.Spec PyProof.Rows
section
variable  {κ:Type}[DecidableEq κ]
def fM (kvs:List (κ×V))(k:κ):Option V:=(kvs.find? fun kv=>decide (kv.1=k)).map (·.2)
def iR (kvs:List (κ×V))(k:κ)(v:V):List (κ×V) :=
 if (kvs.any fun kv=>decide (kv.1=k))=true then kvs.map (fun kv=>if kv.1=k then (kv.1,v) else kv) else kvs++[(k,v)]
theorem dm {p:κ×V}{r:List (κ×V)}{k:κ}(e:p.1=k):fM (p :: r) k=some p.2:=by simp[fM,List.find?_cons,e]
theorem dq {p:κ×V}{r:List (κ×V)}{k:κ}(e:¬p.1=k):fM (p :: r) k=fM r k:=by simp[fM,List.find?_cons,e]
theorem gO (k:κ):∀kvs:List (κ×V),(kvs.any fun kv=>decide (kv.1=k))=(fM kvs k).isSome
 |[]=>rfl
 |p :: r=>by
  rw[List.any_cons]
  by_cases e:p.1=k
  ·simp only[dm e,dqt e,Bool.true_or,Option.isSome_some]
  ·rw[dq e,dqf e,Bool.false_or];exact gO k r
theorem rV (k j:κ)(y:V):∀kvs:List (κ×V),fM (kvs.map fun kv=>if kv.1=k then (kv.1,y) else kv) j=(fM kvs j).map fun x=>if j=k then y else x
 |[]=>rfl
 |p :: r=>by
  have ih:=rV k j y r
  rw[List.map_cons]
  by_cases h:p.1=k
  ·rw[if_pos h]
   by_cases e:p.1=j
   ·rw[dm (p:=(p.1,y)) e,dm e,Option.map_some,if_pos (e.symm.trans h)]
   ·rw[dq (p:=(p.1,y)) e,dq e,ih]
  ·rw[if_neg h]
   by_cases e:p.1=j
   ·rw[dm (p:=p) e,dm e,Option.map_some,if_neg (fun z=>h (e.trans z))]
   ·rw[dq (p:=p) e,dq e,ih]
theorem oX (k j:κ)(y:V):∀kvs:List (κ×V),fM kvs k=none→fM (kvs++[(k,y)]) j=if j=k then some y else fM kvs j
 |[],_=>by
  by_cases e:k=j
  ·rw[if_pos e.symm];exact dm (p:=(k,y)) e
  ·rw[if_neg (fun z=>e z.symm)];exact dq (p:=(k,y)) e
 |p :: r,hn=>by
  rw[List.cons_append]
  have hk:¬p.1=k:=fun z=>by rw[dm z]at hn;cases hn
  rw[dq hk]at hn
  have ih:=oX k j y r hn
  by_cases e:p.1=j
  ·rw[dm e,dm e,if_neg (fun z=>hk (e.trans z))]
  ·rw[dq e,dq e,ih]
theorem xD (kvs:List (κ×V))(k j:κ)(y:V):fM (iR kvs k y) j=if j=k then some y else fM kvs j:=by
 unfold iR
 by_cases a:(kvs.any fun kv=>decide (kv.1=k))=true
 ·rw[if_pos a,rV]
  rw[gO]at a
  by_cases e:j=k
  ·obtain⟨x,hx⟩:=Option.isSome_iff_exists.mp a
   rw[if_pos e,e,hx,Option.map_some,if_pos rfl]
  ·rw[if_neg e]
   cases fM kvs j with
   |none=>rfl
   |some x=>rw[Option.map_some,if_neg e]
 ·rw[if_neg a]
  refine oX k j y kvs ?_
  rw[gO]at a
  cases q:fM kvs k with
  |none=>rfl
  |some x=>rw[q]at a;exact(a rfl).elim
theorem gw (kvs:List (κ×V))(k:κ)(v:V):(iR kvs k v).length≤kvs.length+1:=by
 unfold iR
 split
 ·rw[lmp];omega
 ·rw[List.length_append,List.length_cons,List.length_nil];omega
theorem kh.isSome_eq {o:Option V}{u:Option Value}(r:kh o u):o.isSome=u.isSome:=by
 cases o with
 |none=>cases u with
  |none=>rfl
  |some _=>exact(show False from r).elim
 |some _=>cases u with
  |none=>exact(show False from r).elim
  |some _=>rfl
theorem KV.val {kvs:List (κ×V)}{vs:List (κ×Value)}(r:KV kvs vs)(k:κ):kh (fM kvs k) (valueAt vs k):=by
 unfold KV at r
 induction r with
 |nil=>exact True.intro
 |@cons p q ps qs h t ih =>
  obtain⟨h1,h2⟩:=h
  by_cases e:p.1=k
  ·have e':q.1=k:=h1.symm.trans e
   have b:valueAt (q :: qs) k=some q.2:=by simp[valueAt,List.find?_cons,e']
   rw[dm e,b];exact h2
  ·have e':¬q.1=k:=fun z=>e (h1.trans z)
   have b:valueAt (q :: qs) k=valueAt qs k:=by simp[valueAt,List.find?_cons,e']
   rw[dq e,b];exact ih
theorem KV.any {kvs:List (κ×V)}{vs:List (κ×Value)}(r:KV kvs vs)(k:κ):(kvs.any fun kv=>decide (kv.1=k))=vs.any fun kv=>decide (kv.1=k):=by
 unfold KV at r
 induction r with
 |nil=>rfl
 |cons h t ih=>rw[List.any_cons,List.any_cons,ih,h.1]
theorem KV.repl {kvs:List (κ×V)}{vs:List (κ×Value)}(r:KV kvs vs)(k:κ){y:V}{u:Value}(ry:aZ y u) :
  KV (kvs.map fun kv=>if kv.1=k then (kv.1,y) else kv) (vs.map fun kv=>if kv.1=k then (kv.1,u) else kv):=by
 unfold KV at r ⊢
 induction r with
 |nil=>exact .nil
 |@cons p q ps qs h t ih =>
  rw[List.map_cons,List.map_cons]
  refine .cons ?_ ih
  obtain⟨h1,h2⟩:=h
  by_cases e:p.1=k
  ·rw[if_pos e,if_pos (h1.symm.trans e)];exact⟨h1,ry⟩
  ·rw[if_neg e,if_neg (fun z=>e (h1.trans z))];exact⟨h1,h2⟩
theorem KV.put {kvs:List (κ×V)}{vs:List (κ×Value)}(r:KV kvs vs)(k:κ){y:V}{u:Value}(ry:aZ y u):KV (iR kvs k y) (stored vs k u):=by
 unfold iR stored
 rw[r.any k]
 by_cases e:(vs.any fun kv=>decide (kv.1=k))=true
 ·rw[if_pos e,if_pos e];exact r.repl k ry
 ·rw[if_neg e,if_neg e];exact Paired.snoc r ⟨rfl,ry⟩
theorem KV.length {kvs:List (κ×V)}{vs:List (κ×Value)}(r:KV kvs vs):kvs.length=vs.length:=Paired.length r
end
theorem tZ {P:Program}{w:World}{k:Key}{u:Value}(r:aZ (kV k) u):(cZ P w).is k u=true:=by
 cases k with
 |inl i=>obtain⟨t,e⟩:=(show ∃t,u=Value.int i t from r);subst e;exact rJ P w i t
 |inr x=>obtain⟨t,e⟩:=(show ∃t,u=Value.str x t from r);subst e;exact qU P w x t
theorem pq {P:Program}{w:World}:∀{ks:List Key} {us:List Value},aT (ks.map kV) us→ItemsAre (cZ P w) ks us
 |[],_,r=>by rw[List.map_nil]at r;cases r;exact .nil
 |k :: ks,_,r=>by
  rw[List.map_cons]at r
  cases r with
  |cons h t=>exact .cons (tZ h) (pq t)
abbrev KT (H:Hp):List (List Key×V)→List (List Key×Addr×Value)→Prop:=Paired fun p q=>p.1=q.1∧H q.2.1=some (.tup (p.1.map kV))∧aZ p.2 q.2.2
theorem KT.val {H:Hp}{kvs:List (List Key×V)}{xs:List (List Key×Addr×Value)}(r:KT H kvs xs)(k:List Key):kh (fM kvs k) ((atKey xs k).map (·.2)):=by
 induction r with
 |nil=>exact True.intro
 |@cons p q ps qs h t ih =>
  obtain⟨h1,_,h2⟩:=h
  by_cases e:p.1=k
  ·have e':q.1=k:=h1.symm.trans e
   have b:atKey (q :: qs) k=some q.2:=by simp[atKey,List.find?_cons,e']
   rw[dm e,b];exact h2
  ·have e':¬q.1=k:=fun z=>e (h1.trans z)
   have b:atKey (q :: qs) k=atKey qs k:=by simp[atKey,List.find?_cons,e']
   rw[dq e,b];exact ih
theorem KT.repl {H:Hp}{kvs:List (List Key×V)}{xs:List (List Key×Addr×Value)}(r:KT H kvs xs)(k:List Key){y:V}{u:Value}(ry:aZ y u) :
  KT H (kvs.map fun kv=>if kv.1=k then (kv.1,y) else kv) (xs.map (putAt k u)):=by
 induction r with
 |nil=>exact .nil
 |@cons p q ps qs h t ih =>
  rw[List.map_cons,List.map_cons]
  refine .cons ?_ ih
  obtain⟨h1,h2,h3⟩:=h
  unfold putAt
  by_cases e:p.1=k
  ·rw[if_pos e,if_pos (h1.symm.trans e)];exact⟨h1,h2,ry⟩
  ·rw[if_neg e,if_neg (fun z=>e (h1.trans z))];exact⟨h1,h2,h3⟩
theorem KT.put {H:Hp}{kvs:List (List Key×V)}{xs:List (List Key×Addr×Value)}(r:KT H kvs xs)(k:List Key){b:Addr}{y:V}{u:Value}(hb:H b=some (.tup (k.map kV)))(ry:aZ y u) :
  KT H (iR kvs k y) (storedH xs k b u):=by
 have e:(kvs.any fun kv=>decide (kv.1=k))=(atKey xs k).isSome:=by
  rw[gO,(r.val k).isSome_eq,Option.isSome_map]
 unfold iR storedH
 rw[e]
 by_cases q:(atKey xs k).isSome=true
 ·rw[if_pos q,if_pos q];exact r.repl k ry
 ·rw[if_neg q,if_neg q];exact Paired.snoc r ⟨rfl,hb,ry⟩
theorem KT.keeps {H H':Hp}{kvs:List (List Key×V)}{xs:List (List Key×Addr×Value)}(r:KT H kvs xs)(ht:∀b ys,H b=some (.tup ys)→H' b=some (.tup ys)):KT H' kvs xs :=
 Paired.mapP r fun _ _ z=>⟨z.1,ht _ _ z.2.1,z.2.2⟩
section
variable  {P:Program}{w:World}{H:Hp}{h:Heap}{a:Addr}
theorem zN {u:HO}(ok:HOk P w H h)(e:Rd H a u):b7 P w H h a u:=e.ok ok
theorem uB {kvs:List (Key×V)}(ok:HOk P w H h)(e:Rd H a (.dK kvs)):kvs.length≤sizeLine∧(a==sysModules)=false∧∃vs,KV kvs vs∧h.DictOf (cZ P w) a vs :=
 show b7 P w H h a (.dK kvs) from zN ok e
theorem BX {kvs:List (Key×V)}(ok:HOk P w H h)(e:H a=some (.dK kvs)):kvs.length≤sizeLine∧(a==sysModules)=false∧∃vs,KV kvs vs∧h.DictOf (cZ P w) a vs:=uB ok (.inl e)
theorem pC {ks:List Key}(ok:HOk P w H h)(e:H a=some (.tup (ks.map kV))):(tupleKind (cZ P w)).is h ks a:=by
 obtain⟨_,its,r,o,h1,h2,n,h3⟩:=(show b7 P w H h a (.tup (ks.map kV)) from ok a _ e)
 exact⟨o,its.toArray,n,h1,h2,h3,by simpa using pq r⟩
theorem wL {kvs:List (List Key×V)}(ok:HOk P w H h)(e:Rd H a (.dT kvs)):kvs.length≤sizeLine∧(a==sysModules)=false ∧
  ∃xs,KT H kvs xs∧h.DictOfH (tupleKind (cZ P w)) a xs:=by
 obtain⟨z,y,xs,r,o,es,ep,h1,h2,h3,h4,h5⟩:=(show b7 P w H h a (.dT kvs) from zN ok e)
 refine⟨z,y,xs,r,o,es,ep,h1,h2,h3,h4,fun x hx=>?_,h5⟩
 have all:∀{l:List (List Key×V)} {m:List (List Key×Addr×Value)},KT H l m→∀x∈m,(tupleKind (cZ P w)).is h x.1 x.2.1:=by
  intro l m q
  induction q with
  |nil=>intro x hx;exact nomatch hx
  |@cons p q ps qs hq t ih =>
   intro x hx
   rcases List.mem_cons.mp hx with e|hx
   ·subst e
    exact pC ok (by rw[←hq.1];exact hq.2.1)
   ·exact ih x hx
 exact all r x hx
theorem BV {kvs:List (List Key×V)}(ok:HOk P w H h)(e:H a=some (.dT kvs)):kvs.length≤sizeLine∧(a==sysModules)=false ∧
  ∃xs,KT H kvs xs∧h.DictOfH (tupleKind (cZ P w)) a xs:=wL ok (.inl e)
end
def l9 (H:Hp)(a:Addr)(y:V)(r:Option V):Prop :=
 (∃kvs k,Rd H a (.dK kvs)∧y=kV k∧r=fM kvs k)∨∃kvs k b,Rd H a (.dT kvs)∧y=.ref b∧H b=some (.tup (k.map kV))∧r=fM kvs k
def qd (H:Hp)(a:Addr)(y v:V)(H':Hp):Prop :=
 (∃kvs k,H a=some (.dK kvs)∧y=kV k∧kvs.length<sizeLine∧H'=upd H a (.dK (iR kvs k v))) ∨
 ∃kvs k b,H a=some (.dT kvs)∧y=.ref b∧H b=some (.tup (k.map kV))∧kvs.length<sizeLine∧H'=upd H a (.dT (iR kvs k v))
theorem l9.k {H:Hp}{a:Addr}{kvs:List (Key×V)}{k:Key}(e:H a=some (.dK kvs)):l9 H a (kV k) (fM kvs k):=.inl ⟨kvs,k,.inl e,rfl,rfl⟩
theorem l9.t {H:Hp}{a b:Addr}{kvs:List (List Key×V)}{k:List Key}(e:H a=some (.dT kvs))(eb:H b=some (.tup (k.map kV))):l9 H a (.ref b) (fM kvs k):=.inr ⟨kvs,k,b,.inl e,rfl,eb,rfl⟩
theorem qd.k {H:Hp}{a:Addr}{kvs:List (Key×V)}{k:Key}{v:V}(e:H a=some (.dK kvs))(hl:kvs.length<sizeLine):qd H a (kV k) v (upd H a (.dK (iR kvs k v))):=.inl ⟨kvs,k,e,rfl,hl,rfl⟩
theorem qd.t {H:Hp}{a b:Addr}{kvs:List (List Key×V)}{k:List Key}{v:V}(e:H a=some (.dT kvs))(eb:H b=some (.tup (k.map kV)))(hl:kvs.length<sizeLine) :
  qd H a (.ref b) v (upd H a (.dT (iR kvs k v))):=.inr ⟨kvs,k,b,e,rfl,eb,hl,rfl⟩
section
variable  {X:Cx}{pins:List (Addr×Obj)}{σ:St}{H:Hp}{s:Shared}{a:Addr}{y v:V}{u r:Value}{o:Option V}{A:Around}{E:Value→Shared→Prop}
theorem Inv.big (I:Inv X pins σ H s):sysModules<s.heap.objs.size:=by
 have h:mainGlobals<s.heap.objs.size:=(I.mod.glob.keeps I.bk).lt
 exact Nat.lt_trans (by decide) h
theorem Ec {Q:Value→Shared→Prop}(hu:A.units+1<cLine)(I:Inv X pins σ H s)(g:l9 H a y o)(ry:aZ y u)(h:∀s',Inv X pins σ H s'→Q (.bool o.isSome) s') :
  wpAny (model X.prog X.w) A (compareOp .In u (.ref a)) Q E s:=by
 rcases g with⟨kvs,k,e,ey,l⟩|⟨kvs,k,b,e,ey,eb,l⟩
 ·subst ey
  obtain⟨z,hd,vs,rel,dd⟩:=uB I.hok e
  refine wpAny_in_of (tZ ry) hd dd.mapOf ?_
  rw[←(rel.val k).isSome_eq,←l]
  exact h _ (I.tok _)
 ·subst ey
  cases (show u=Value.ref b from ry)
  obtain⟨z,hd,xs,rel,dd⟩:=wL I.hok e
  refine wpAny_in_heap (tupleKind_room_in1 hu) (pC I.hok eb) hd dd ?_
  have q:=(rel.val k).isSome_eq
  rw[Option.isSome_map]at q
  rw[←q,←l]
  exact h _ (I.tok _)
theorem yl {Q:Value→Shared→Prop}(hu:A.units+1<cLine)(I:Inv X pins σ H s)(g:l9 H a y o)(ry:aZ y u)(h:∀s',Inv X pins σ H s'→Q (.bool (!o.isSome)) s') :
  wpAny (model X.prog X.w) A (compareOp .NotIn u (.ref a)) Q E s:=by
 rcases g with⟨kvs,k,e,ey,l⟩|⟨kvs,k,b,e,ey,eb,l⟩
 ·subst ey
  obtain⟨z,hd,vs,rel,dd⟩:=uB I.hok e
  refine wpAny_notIn_of (tZ ry) hd dd.mapOf ?_
  rw[←(rel.val k).isSome_eq,←l]
  exact h _ (I.tok _)
 ·subst ey
  cases (show u=Value.ref b from ry)
  obtain⟨z,hd,xs,rel,dd⟩:=wL I.hok e
  refine wpAny_notIn_heap (tupleKind_room_in1 hu) (pC I.hok eb) hd dd ?_
  have q:=(rel.val k).isSome_eq
  rw[Option.isSome_map]at q
  rw[←q,←l]
  exact h _ (I.tok _)
theorem uj {h':Heap}{t':Nat}{ob:HO}(I:Inv X pins σ H s)(mu:Mut (H a))(hs:Heap.SameBut a s.heap h')(he:∃q,h'.get? a=some q)(new:b7 X.prog X.w (upd H a ob) h' a ob) :
  Inv X pins σ (upd H a ob) { s with heap:=h',toks:=t' } :=
 I.write (x:=a) (e:=a) mu (.inl rfl) (fun b q hb z=>(hs.2 b hb).trans z) he new
theorem AN {P:Program}{w:World}{H':Hp}{h':Heap}{kvs:List (Key×V)}{vs:List (Key×Value)}(z:kvs.length≤sizeLine)(hd:(a==sysModules)=false)(rel:KV kvs vs)(dd:h'.DictOf (cZ P w) a vs) :
  b7 P w H' h' a (.dK kvs):=⟨z,hd,vs,rel,dd⟩
theorem u7 {H':Hp}{Q:Unit→Shared→Prop}(hu:A.units+1<cLine)(I:Inv X pins σ H s)(g:qd H a y v H')(ry:aZ y u)(rv:aZ v r)(h:∀s',Inv X pins σ H' s'→Q () s') :
  wpAny (model X.prog X.w) A (setItem (.ref a) u r) Q E s:=by
 rcases g with⟨kvs,k,e,ey,l,eH⟩|⟨kvs,k,b,e,ey,eb,l,eH⟩
 ·subst ey eH
  obtain⟨z,hd,vs,rel,dd⟩:=BX I.hok e
  have hz:vs.length≤sizeLine:=by rw[←rel.length];exact z
  have hl:(iR kvs k v).length≤sizeLine:=by have:=gw kvs k v;omega
  refine wpAny_setItem_pairs (hsz:=hz) (tZ ry) dd fun h' dd' hs=>h _ ?_
  have he:∃q,h'.get? a=some q:=let ⟨q,_,_,hq,_⟩:=dd';⟨q,hq⟩
  exact uj I (by rw[e];exact True.intro) hs he (AN hl hd (rel.put k rv) dd')
 ·subst ey eH
  cases (show u=Value.ref b from ry)
  obtain⟨z,hd,xs,rel,dd⟩:=BV I.hok e
  have hz:xs.length≤sizeLine:=by rw[←Paired.length rel];exact z
  have hl:(iR kvs k v).length≤sizeLine:=by have:=gw kvs k v;omega
  refine wpAny_setItem_heap (hsz:=hz) (tupleKind_room_in1 hu) (pC I.hok eb) dd fun h' dd' hs=>h _ ?_
  obtain⟨q,es,ep,hq,h2,h3,h4,_,h5⟩:=dd'
  refine uj I (by rw[e];exact True.intro) hs ⟨q,hq⟩ ⟨hl,hd,_,(rel.put k eb rv).keeps fun c ys ec=>?_,q,es,ep,hq,h2,h3,h4,h5⟩
  rw[ap (Cu ec e (fun z=>nomatch z))]
  exact ec
end
section
variable  {X:Cx}{pins:List (Addr×Obj)}{σ:St}{H:Hp}{s:Shared}{a:Addr}{kvs:List (Key×V)}{k:Key}{u:Value}{A:Around}{E:Value→Shared→Prop}
theorem Cg {Q:Value→Shared→Prop}(I:Inv X pins σ H s)(e:Rd H a (.dK kvs))(h:∀t s',Inv X pins σ H s'→Q (.int kvs.length t) s'):wpAny (model X.prog X.w) A (call (.builtin "len") [.ref a]) Q E s:=by
 obtain⟨z,hd,vs,rel,dd⟩:=uB I.hok e
 refine call_len_dict hd dd (by rw[←rel.length];rw[sizeLine_eq]at z;omega) ?_
 rw[←rel.length]
 exact h _ _ (I.tok _)
end
def DQ (ty td:TE):TE:=fun σ H Q=>ty σ H fun y H1=>td σ H1 fun x H2=>∃a o,x=.ref a∧l9 H2 a y o∧Q (.bl o.isSome) H2
def yJ (ty td:TE):TE:=fun σ H Q=>ty σ H fun y H1=>td σ H1 fun x H2=>∃a o,x=.ref a∧l9 H2 a y o∧Q (.bl (!o.isSome)) H2
def Di (td ty tv:TE):TS:=fun D σ H=>tv σ H fun v H1=>td σ H1 fun x H2=>ty σ H2 fun y H3=>∃a H4,x=.ref a∧qd H3 a y v H4∧D.nx σ H4
section
variable  {X:Cx}{o i e value:Expr}{pos pos' tpos:Pos}{td ty tv:TE}
theorem zU (hu:X.A.units+1<cLine)(hi:PE X i ty)(ho:PE X o td):PC X .In i o (DQ ty td):=by
 intro pins s σ H Q I h
 refine thn (hi pins s σ H _ I h) fun iv s1 ⟨y,H1,I1,ry,q1⟩=>thn (ho pins s1 σ H1 _ I1 q1) fun u s2 ⟨x,H2,I2,rx,a,ov,ex,g,q2⟩=>?_
 subst ex
 obtain rfl:u=Value.ref a:=rx
 exact Ec hu I2 g ry fun s3 I3=>⟨.bl ov.isSome,H2,I3,rfl,q2⟩
theorem oY (hu:X.A.units+1<cLine)(hi:PE X i ty)(ho:PE X o td):PC X .NotIn i o (yJ ty td):=by
 intro pins s σ H Q I h
 refine thn (hi pins s σ H _ I h) fun iv s1 ⟨y,H1,I1,ry,q1⟩=>thn (ho pins s1 σ H1 _ I1 q1) fun u s2 ⟨x,H2,I2,rx,a,ov,ex,g,q2⟩=>?_
 subst ex
 obtain rfl:u=Value.ref a:=rx
 exact yl hu I2 g ry fun s3 I3=>⟨.bl (!ov.isSome),H2,I3,rfl,q2⟩
theorem qw (hu:X.A.units+1<cLine)(ho:PE X o td)(hi:PE X i ty)(hv:PE X value tv)(hs:swapsWith value (some (.Subscript o i pos')) pos.line X.env=pure false) :
  PS X (.Assign [.Subscript o i pos'] value pos) (Di td ty tv):=by
 intro pins s σ H D I h
 refine wpAny_Assign_Subscript (thn (hv pins s σ H _ I h) fun r s1 ⟨v,H1,I1,rv,q1⟩=>thn (ho pins s1 σ H1 _ I1 q1) fun u s2 ⟨x,H2,I2,rx,q2⟩=>thn (hi pins s2 σ H2 _ I2 q2) fun iv s3 ⟨y,H3,I3,ry,a,H4,ex,g,q3⟩=>?_) hs
 subst ex
 obtain rfl:u=Value.ref a:=rx
 exact u7 hu I3 g ry rv fun s4 I4=>⟨σ,H4,I4,q3⟩
end
theorem xu {P:Program}{w:World}{H:Hp}(h:Heap)(hb:sysModules<h.objs.size):b7 P w H (h.push { cls:=.type "dict",data:=.dict #[] }) h.objs.size (.dK []) :=
 ⟨Nat.zero_le _,beq_eq_false_iff_ne.mpr (Ne.symm (Nat.ne_of_lt hb)),[],.nil,Heap.DictOf.new h⟩
theorem wz {P:Program}{w:World}{H:Hp}(h:Heap)(hb:sysModules<h.objs.size):b7 P w H (h.push { cls:=.type "dict",data:=.dict #[] }) h.objs.size (.dT []) :=
 ⟨Nat.zero_le _,beq_eq_false_iff_ne.mpr (Ne.symm (Nat.ne_of_lt hb)),[],.nil,_,#[],0,Heap.get?_push_size _ rfl,⟨rfl,rfl,rfl⟩,rfl,rfl,List.nodup_nil⟩
def AG:TE:=fun _ H Q=>∀p,H p=none→Q (.ref p) (upd H p (.dK []))
def zZ:TE:=fun _ H Q=>∀p,H p=none→Q (.ref p) (upd H p (.dT []))
section
variable  {X:Cx}{pos:Pos}
theorem xO:PE X (.Dict [] [] pos) AG:=fun pins s σ H Q I h =>
 wpAny_Dict_empty ⟨.ref s.heap.objs.size,_,I.laid (a:=s.heap.objs.size) (o:=.dK []) (t':=s.toks) (fun _ _ q=>Heap.get?_push_of_some _ q) (nlr _) (xu s.heap I.big),rfl,h _ (I.hok.fresh (nlr _))⟩
theorem rP:PE X (.Dict [] [] pos) zZ:=fun pins s σ H Q I h =>
 wpAny_Dict_empty ⟨.ref s.heap.objs.size,_,I.laid (a:=s.heap.objs.size) (o:=.dT []) (t':=s.toks) (fun _ _ q=>Heap.get?_push_of_some _ q) (nlr _) (wz s.heap I.big),rfl,h _ (I.hok.fresh (nlr _))⟩
end
abbrev VV:List (V×V)→List (Value×Value)→Prop:=Paired fun p q=>aZ p.1 q.1∧aZ p.2 q.2
structure M1 (X:Cx)(o:Expr)(m:Str)(apos:Pos)(e:Expr)(cpos:Pos):Prop where
 base:attributeBase o m X.env (eval o X.env)=eval o X.env
 few:((backTo cpos (starEach [e] X.env)).all (fun x=>!x.1)&&(backToKw cpos (keywordEach [] X.env)).all (fun x=>x.1.isSome)
  &&decide (([e]:List Expr).length+([]:List Keyword).length+(if ([]:List Keyword).isEmpty then 0 else 1)<30))=true
 line:(apos.endLine==cpos.line)=true
 trees:backTo cpos (starEach [e] X.env)=[(false,eval e X.env)]
structure M2 (X:Cx)(o:Expr)(m:Str)(apos:Pos)(e f:Expr)(cpos:Pos):Prop where
 base:attributeBase o m X.env (eval o X.env)=eval o X.env
 few:((backTo cpos (starEach [e,f] X.env)).all (fun x=>!x.1)&&(backToKw cpos (keywordEach [] X.env)).all (fun x=>x.1.isSome)
  &&decide (([e,f]:List Expr).length+([]:List Keyword).length+(if ([]:List Keyword).isEmpty then 0 else 1)<30))=true
 line:(apos.endLine==cpos.line)=true
 trees:backTo cpos (starEach [e,f] X.env)=[(false,eval e X.env),(false,eval f X.env)]
section
variable  {X:Cx}{pins:List (Addr×Obj)}{σ:St}{H:Hp}{s:Shared}{a:Addr}{y d:V}{u r:Value}{o:Option V}{A:Around}{E:Value→Shared→Prop}
end
section
variable  {X:Cx}{o e f:Expr}{apos cpos:Pos}{td ty tx:TE}
end
section
variable  {X:Cx}{pins:List (Addr×Obj)}{σ:St}{H:Hp}{s:Shared}{a:Addr}{kvs:List (Key×V)}{A:Around}{E:Value→Shared→Prop}
end
section
variable  {X:Cx}{pins:List (Addr×Obj)}{σ:St}{H:Hp}{s:Shared}{a:Addr}{y:V}{u:Value}{A:Around}{E:Value→Shared→Prop}
end
end L2
namespace L2
open PySem PySem.Spec PyProof.Rows
section
variable  {prog:Program}{w:World}{A:Around}{E:Value→Shared→Prop}
end
section
variable  {X:Cx}
end
end L2
namespace L2
open PySem PySem.Spec PyProof.Rows
theorem nu:bootBuiltins "reversed"=some (.type "reversed"):=by decide +kernel
section
variable  {X:Cx}{pins:List (Addr×Obj)}{σ:St}{H:Hp}{s:Shared}{h':Heap}
theorem Inv.turnedL {t':Nat}{ch:List Addr}(I:Inv X pins σ H s)(k:∀b o,b∉ch→s.heap.get? b=some o→h'.get? b=some o)(hf:∀b∈ch,lP X pins H b):Inv X pins σ H { s with heap:=h',toks:=t' }:=by
 have nit:∀b u,H b=some u→b∉ch:=fun b u e z=>by
  have q:=(hf b z).1
  rw[q]at e;cases e
 refine I.step (g':=s.gens) (d':=s.drawn) (ch:=ch) (fun b hb=>⟨(hf b hb).2.2.2.1,(hf b hb).2.1,(hf b hb).2.2.2.2.1,(hf b hb).2.2.2.2.2⟩) (fun b o _ _ hc e _=>k b o hc e) (fun b o _ _ hc e _=>⟨o.slots,k b o hc e⟩)
  (fun _ _ _ _ n=>n) (fun b o hc e=>⟨o,k b o hc e⟩) (fun _ _ e=>e) (fun _ _ _ e=>e) (fun b ps e=>⟨#[],by rw[e];simp⟩) (fun m hm=>?_) (fun b u e=>?_) I.bare
 ·obtain⟨o,es,ep,ho,r⟩:=hm
  exact⟨o,es,ep,k _ o (fun z=>(hf _ z).2.1 rfl) ho,r⟩
 ·refine(I.hok b u e).stay (fun c v hc q=>k c v ?_ q) (fun _ q=>q) fun _ _ q=>q
  rcases hc with z|z
  ·rw[z];exact nit b u e
  ·exact nit c _ z
theorem Inv.turnedNew {t':Nat}{ch:List Addr}{T:Addr}{ob:HO}(I:Inv X pins σ H s)(k:∀b o,b∉ch→s.heap.get? b=some o→h'.get? b=some o)(hf:∀b∈ch,lP X pins H b)(hT:s.heap.objs.size≤T)
  (new:b7 X.prog X.w (upd H T ob) h' T ob):Inv X pins σ (upd H T ob) { s with heap:=h',toks:=t' }:=by
 have hn:H T=none:=I.hok.fresh hT
 have nit:∀b u,H b=some u→b∉ch:=fun b u e z=>by
  have q:=(hf b z).1
  rw[q]at e;cases e
 refine I.step (g':=s.gens) (d':=s.drawn) (ch:=ch) (fun b hb=>⟨(hf b hb).2.2.2.1,(hf b hb).2.1,(hf b hb).2.2.2.2.1,(hf b hb).2.2.2.2.2⟩) (fun b o _ _ hc e _=>k b o hc e) (fun b o _ _ hc e _=>⟨o.slots,k b o hc e⟩)
  (fun b o _ e n=>?_) (fun b o hc e=>⟨o,k b o hc e⟩) (fun b xs e=>?_) (fun b o u e=>?_) (fun b ps e=>⟨#[],?_⟩) (fun m hm=>?_) (fun b u e=>?_) I.bare
 ·rw[ap (Nat.ne_of_lt (Nat.lt_of_lt_of_le (Heap.lt_size e) hT))];exact n
 ·rw[ap (aQ e hn)];exact e
 ·rw[ap (aQ e hn)];exact e
 ·rw[ap (aQ e hn),e];simp
 ·obtain⟨o,es,ep,ho,r⟩:=hm
  exact⟨o,es,ep,k _ o (fun z=>(hf _ z).2.1 rfl) ho,r⟩
 ·by_cases hb:b=T
  ·subst hb
   rw[af]at e
   cases e
   exact new
  ·rw[ap hb]at e
   refine(I.hok b u e).stay (fun c v hc q=>k c v ?_ q) (fun c q=>by rw[ap (aQ q hn)];exact q) fun c xs q=>by rw[ap (aQ q hn)];exact q
   rcases hc with z|z
   ·rw[z];exact nit b u e
   ·exact nit c _ z
theorem Inv.lock {d:Addr}{u:HO}(I:Inv X pins σ H s)(h:H d=some u)(mu:Mut (some u)):∃od,Inv X pins σ (upd H d (.frz od u)) s:=by
 have x:=I.hok d u h
 have ex:∃od,s.heap.get? d=some od:=by
  cases u with
  |lst xs=>obtain⟨_,_,_,_,e⟩:=x;exact⟨_,e⟩
  |dK kvs=>obtain⟨_,_,_,_,o,_,_,e,_⟩:=x;exact⟨o,e⟩
  |dT kvs=>obtain⟨_,_,_,_,o,_,_,e,_⟩:=x;exact⟨o,e⟩
  |set S n=>obtain⟨o,_,_,_,e,_⟩:=x;exact⟨o,e⟩
  |ins C dx fs=>obtain⟨_,_,_,e,_⟩:=x;exact⟨_,e⟩
  |ext φ=>obtain⟨_,⟨_,e⟩,_⟩:=x;exact⟨_,e⟩
  |_=>exact False.elim mu
 obtain⟨od,e⟩:=ex
 have new:b7 X.prog X.w (upd H d (.frz od u)) s.heap d (.frz od u):=by
  refine⟨e,x.stay (fun b v _ q=>q) (fun b q=>?_) fun b xs q=>?_⟩
  ·rw[ap (fun z=>by rw[z,h]at q;cases q;exact mu)];exact q
  ·rw[ap (fun z=>by rw[z,h]at q;cases q;exact mu)];exact q
 exact⟨od,I.write (x:=d) (e:=d) (t':=s.toks) (h':=s.heap) (by rw[h];exact mu) (.inl rfl) (fun b v _ q=>q) ⟨od,e⟩ new⟩
theorem Inv.nofrz {d:Addr}{u:HO}(I:Inv X pins σ H s)(h:H d=some u)(mu:Mut (some u)):∀o' u',X.H_0 d≠some (.frz o' u'):=fun o' u' e=>by
 have q:=I.base.frzs d o' u' e
 rw[h]at q
 cases q
 exact mu
theorem Inv.unlock {d:Addr}{od:Obj}{u:HO}(I:Inv X pins σ H s)(h:H d=some (.frz od u))(hn:∀o' u',X.H_0 d≠some (.frz o' u')):Inv X pins σ (upd H d u) s:=by
 have neH:∀b o,H b=some o→(∀o' u',o≠.frz o' u')→b≠d:=fun b o e hne z=>by
  rw[z,h]at e
  cases e
  exact hne _ _ rfl
 have neN:∀b,H b=none→b≠d:=fun b e z=>by rw[z,h]at e;cases e
 refine⟨I.ok,I.os,I.bare,⟨I.base.keep,I.base.slot,fun b o e n hx=>?_,I.base.there,fun b xs e=>?_,fun b o x e=>?_,fun b ps e=>?_⟩,I.loc,I.cell,?_,fun x c e=>?_,fun p hp=>?_,fun b o e=>?_,I.len⟩
 ·rw[ap (neN b (I.base.free b o e n hx))];exact I.base.free b o e n hx
 ·have q:=I.base.tups b xs e
  rw[ap (neH b _ q (fun _ _ z=>nomatch z))];exact q
 ·have q:=I.base.frzs b o x e
  rw[ap (fun z=>by rw[z]at e;exact hn _ _ e)];exact q
 ·obtain⟨m,q⟩:=I.base.tbls b ps e
  exact⟨m,by rw[ap (neH b _ q (fun _ _ z=>nomatch z))];exact q⟩
 ·rw[ap (neN _ I.free)];exact I.free
 ·rw[ap (neN c (I.freeC x c e))];exact I.freeC x c e
 ·obtain⟨e,n,r⟩:=I.pin p hp
  exact⟨e,by rw[ap (neN _ n)];exact n,r⟩
 ·by_cases hb:b=d
  ·rw[hb,af]at e
   cases e
   rw[hb]
   obtain⟨_,x⟩:=I.hok d _ h
   exact x.stay (fun c v _ q=>q) (fun c q=>by rw[ap (neH c _ q (fun _ _ z=>nomatch z))];exact q) fun c xs q=>by rw[ap (neH c _ q (fun _ _ z=>nomatch z))];exact q
  ·rw[ap hb]at e
   exact(I.hok b o e).stay (fun c v _ q=>q) (fun c q=>by rw[ap (neH c _ q (fun _ _ z=>nomatch z))];exact q) fun c xs q=>by rw[ap (neH c _ q (fun _ _ z=>nomatch z))];exact q
end
def AE (t:TE):TE:=fun σ H Q=>∃d u,H d=some u∧Mut (some u)∧∀od,t σ (upd H d (.frz od u)) fun v H'=>H' d=some (.frz od u)∧Q v (upd H' d u)
section
variable  {X:Cx}
theorem y4 {e:Expr}{t:TE}(h:PE X e t):PE X e (AE t):=by
 intro pins s σ H Q I hw
 obtain⟨d,u,hd,mu,hw⟩:=hw
 obtain⟨od,I1⟩:=I.lock hd mu
 refine thn (h pins s σ _ _ I1 (hw od)) fun v s1 ⟨x,H1,I2,r,e2,q⟩=>?_
 exact⟨x,_,I2.unlock e2 (I.nofrz hd mu),r,q⟩
theorem qf {tg:Expr}{pins:List (Addr×Obj)}{σ:St}{H:Hp}{s:Shared}{R:It→Hp→Prop}{J:It}{tn:Nat→Heap→Prop}{tk:Nat}(I:Inv X pins σ H s)(o:Obj)
  (T:nt X.prog X.w X.K tg J [s.heap.objs.size] s.heap.objs.size tn) (st:tn 0 (s.heap.push o)) (q:R J H):PIE X pins σ tg R (.ref s.heap.objs.size) { s with heap:=s.heap.push o,toks:=tk }:=by
 refine⟨s.heap.objs.size,[s.heap.objs.size],tn,J,H,rfl,I.kept fun b ob e=>Heap.get?_push_of_some _ e,T,st,fun b hb=>?_,q⟩
 have e:b=s.heap.objs.size:=by simpa using hb
 subst e
 exact I.fpOk (nlr _) (I.hok.fresh (nlr _))
end
def Itc (lo c:Int)(n:Nat):It:=⟨fun i _=>i<n,fun i H x H'=>H'=H∧x=.int (lo+(i:Nat)*c),fun i _=>n≤i⟩
theorem rD {P:Program}{w:World}{K:Frag}{tg:Expr}(it:Addr)(lo c:Int)(n:Nat):nt P w K tg (Itc lo c n) [it] it (fun i h=>IsRangeIter h it (lo+(i:Nat)*c) ((n:Int)-(i:Nat)) c) where
 mem:=by simp
 obj:=fun i h st b hb=>by
  have e:b=it:=by simpa using hb
  subst e
  exact⟨_,st,fun v z=>nomatch z⟩
 keep:=fun i h h' st k=>k it (by simp) _ st
 item:=by
  intro X hP hw hK hc i pins s σ H E I hf st hg
  subst hP hw hK
  obtain⟨f0,f1,f2,f3,f4,f5⟩:=hf it (by simp)
  have W:=Walks.range (prog:=X.prog) (w:=X.w) (I.ok.hd hc) it lo c n
  refine W.item i s _ _ hg st fun v h' tk hv st' kk=>?_
  obtain⟨t,rfl⟩:=hv
  have I1:Inv X pins σ H { s with heap:=h',toks:=tk }:=I.turned (fun b o hb e=>kk b o (by simpa using hb) e) f0 f1 f3 f4 f5
  exact⟨_,rfl,na (s:={ s with heap:=h',toks:=tk }) (n:="range_iterator") st' rfl rfl (by decide) ⟨.int (lo+(i:Nat)*c),H,I1,⟨t,rfl⟩,⟨rfl,rfl⟩,st',fun b hb=>(hf b hb).1⟩⟩
 done:=by
  intro X hP hw hK hc i pins s σ H E I hf st hg
  subst hP hw hK
  obtain⟨f0,f1,f2,f3,f4,f5⟩:=hf it (by simp)
  exact wpAny_pyNext_range_end (I.ok.hd hc) st (by have:n≤i:=hg;omega) fun h' eb=>⟨rfl,I.turned (t':=s.toks) (fun b o hb e=>eb b o hb e) f0 f1 f3 f4 f5⟩
 self:=fun A i s Q E st h=>wpAny_pyIter_rangeiter st h
def RgC (i j c:Int)(n:Nat):Prop:=c≠0∧c.natAbs<1073741824∧Builtin.Range.small i j c=true∧Builtin.Range.rangeSize i j c=n
def Cd (ta:TA):TI:=fun σ H R=>ta σ H fun vs H1=>∃(i j c:Int) (n:Nat),vs=[.int i,.int j,.int c]∧RgC i j c n∧R (Itc i c n) H1
section
variable  {X:Cx}{tg:Expr}
theorem lf {a b c:Expr}{ta:TA}{p pos:Pos} (hg:Gl X "range") (hm:X.mg "range"=none) (ha:PA X [a,b,c] ta)
  (hs:starEach [a,b,c] X.env=(false,eval a X.env) :: starEach [b,c] X.env:=by rfl) (hpl:(backTo pos (starEach [b,c] X.env)).any (·.1)=false:=by rfl) :
  PI X tg (.Call (.Name "range" p) [a,b,c] [] pos) (Cd ta):=by
 intro pins s σ H R I h
 refine Call_ (gC I hg hm boot_range (PyProof.Rows.callWith_type1 (thn (ha pos pins s σ H _ I h) fun us s1 ⟨vs,H1,I1,r1,q1⟩=>?_) hs hpl))
 obtain⟨i,j,k,n,e,⟨c0,c1,c2,c3⟩,q⟩:=q1
 subst e
 cases r1 with
 |cons r rr =>
  cases rr with
  |cons r' rr =>
   cases rr with
   |cons r'' rr =>
    cases rr
    obtain⟨t,rfl⟩:=r
    obtain⟨t',rfl⟩:=r'
    obtain⟨t'',rfl⟩:=r''
    refine call_range_3 c0 ?_ (.inl (PyProof.noPylong_small c1))
    refine wpAny_pyIter_range (IsRange.new ..) c2 ?_
    have I2:Inv X pins σ H1 { s1 with heap:=s1.heap.push { cls:=.type "range",data:=.fields #[.int i t,.int j t',.int k t''] } }:=I1.kept (t':=s1.toks) fun b o e=>Heap.get?_push_of_some _ e
    refine qf (tk:=s1.toks) I2 _ (rD _ i k n) ?_ q
    have e1:i+((0:Nat):Int)*k=i:=by simp
    have e2:(n:Int)-((0:Nat):Int)=Builtin.Range.rangeSize i j k:=by rw[c3];simp
    show IsRangeIter _ _ (i+((0:Nat):Int)*k) ((n:Int)-((0:Nat):Int)) k
    rw[e1,e2]
    exact Heap.get?_push_size _ rfl
end
def Itv (K:Frag)(a:Addr)(n:Nat):It :=
 ⟨fun i H=>i<n∧∃(xs:List V) (x:V),SqL K H a xs∧xs[n-1-i]? = some x,fun i H x H'=>H'=H∧∀xs,SqL K H a xs→xs[n-1-i]? = some x,fun i _=>n≤i⟩
theorem wa {P:Program}{w:World}{K:Frag}{tg:Expr}(a it:Addr)(n:Nat):nt P w K tg (Itv K a n) [it] it (fun i h=>i≤n∧h.IsRevIter it a ((n:Int)-1-(i:Nat))) where
 mem:=by simp
 obj:=fun i h st b hb=>by
  have e:b=it:=by simpa using hb
  subst e
  obtain⟨_,o,e,c,d⟩:=st
  exact⟨o,e,fun v z=>by rw[d]at z;cases z⟩
 keep:=fun i h h' st k=>⟨st.1,st.2.at fun o e=>k it (by simp) o e⟩
 item:=by
  intro X hP hw hK hc i pins s σ H E I hf st hg
  subst hP hw hK
  obtain⟨hin,xs,x,hq,hx⟩:=hg
  obtain⟨its,rv,p,hz⟩:=I.list hq
  obtain⟨u,hu,ru⟩:=rv.get hx
  obtain⟨f0,f1,f2,f3,f4,f5⟩:=hf it (by simp)
  obtain⟨_,hit⟩:=st
  have e1:(n:Int)-1-((i:Nat):Int)=((n-1-i:Nat):Int):=by omega
  rw[e1]at hit
  refine wpAny_pyNext_rev_item hit p.isList (x:=u) (by simpa using hu) fun h' st' sb=>?_
  have e2:((n-1-i:Nat):Int)-1=(n:Int)-1-((i+1:Nat):Int):=by omega
  rw[e2]at st'
  have I1:Inv X pins σ H { s with heap:=h' }:=I.turned (t':=s.toks) (fun b o hb e=>(sb.2 b hb).trans e) f0 f1 f3 f4 f5
  obtain⟨o,e,c,d⟩:=id st'
  exact⟨u,rfl,na (s:={ s with heap:=h' }) e c d (by decide) ⟨x,H,I1,ru,⟨rfl,fun ys hy=>by rw[I.list_inj hy hq];exact hx⟩,⟨hin,st'⟩,fun b hb=>(hf b hb).1⟩⟩
 done:=by
  intro X hP hw hK hc i pins s σ H E I hf st hg
  subst hP hw hK
  obtain⟨f0,f1,f2,f3,f4,f5⟩:=hf it (by simp)
  obtain⟨hin,hit⟩:=st
  have hge:n≤i:=hg
  have e1:(n:Int)-1-((i:Nat):Int)=-1:=by omega
  rw[e1]at hit
  exact wpAny_pyNext_rev_end (I.ok.hd hc) hit fun h' eb=>⟨rfl,I.turned (t':=s.toks) (fun b o hb e=>eb b o hb e) f0 f1 f3 f4 f5⟩
 self:=fun A i s Q E st h=>wpAny_pyIter_revIter st.2 h
def DR (K:Frag)(ta:TA):TI:=fun σ H R=>ta σ H fun vs H1=>∃(a:Addr) (xs:List V),vs=[.ref a]∧SqL K H1 a xs∧R (Itv K a xs.length) H1
section
variable  {X:Cx}{tg:Expr}
theorem rK {e:Expr}{ta:TA}{p pos:Pos} (hg:Gl X "reversed") (hm:X.mg "reversed"=none) (ha:PA X [e] ta) (hs:starEach [e] X.env=[(false,eval e X.env)]:=by rfl):PI X tg (.Call (.Name "reversed" p) [e] [] pos) (DR X.K ta):=by
 intro pins s σ H R I h
 refine Call_ (gC I hg hm nu (PyProof.Rows.callWith_type1 (thn (ha pos pins s σ H _ I h) fun us s1 ⟨vs,H1,I1,r1,q1⟩=>?_) hs rfl))
 obtain⟨a,xs,e,hq,q⟩:=q1
 subst e
 cases r1 with
 |cons r rr =>
  cases rr
  cases r
  obtain⟨its,rv,p',hz⟩:=I1.list hq
  have hl:=rv.length
  have e1:((its.toArray.size:Nat):Int)-1=(xs.length:Int)-1-((0:Nat):Int):=by simp only[List.size_toArray];omega
  refine call_reversed_list p'.isList (wpAny_pyIter_revIter (l:=a) (i:=((its.toArray.size:Nat):Int)-1) ⟨_,Heap.get?_push_size _ rfl,rfl,rfl⟩ ?_)
  refine qf (tk:=s1.toks) I1 _ (wa a _ xs.length) ⟨Nat.zero_le _,?_⟩ q
  rw[←e1]
  exact⟨_,Heap.get?_push_size _ rfl,rfl,rfl⟩
end
section
variable  {prog:Program}{w:World}{A:Around}{E:Value→Shared→Prop}{s:Shared}
theorem ow {d:Addr}{o:Obj}{es:Array DictEntry}{ep:Nat}{Q:Value→Shared→Prop}(hd:(d==sysModules)=false)(ho:s.heap.get? d=some o)(hc:o.ExactDict)(hdat:o.data=.dict es ep)
  (hQ:Q (.ref s.heap.objs.size) { s with heap:=s.heap.push { cls:=.type "dict_keyiterator",data:=.fields #[.ref d,.int 0 0,.int es.size 0,.int ep 0] } }) :
  wpAny (model prog w) A (pyIter (.ref d)) Q E s:=by
 have hT:s.TypeIs (.ref d) "dict":=⟨o,ho,hc.1⟩
 refine wpAny_pyIter_slot hT F.slot_dict_iter (wpAny_call_entry F.slot_dict_iter hT F.entry_dict_iter ?_ (F.args_dict_iter_1 _))
 unfold Builtin.«dict.__iter__»
 refine wpAny_bind ?_
 unfold Builtin.Dict.dictSlotNone
 refine wpAny_bind (wpAny_notOrdered_dict hT ?_)
 show wpAny _ _ (pure (Value.ref d)) _ _ s
 refine wpAny_pure ?_
 show wpAny _ _ (Builtin.Dict.showsAll d >>= _) _ _ s
 unfold Builtin.Dict.showsAll
 rw[if_neg (by rw[hd];exact Bool.false_ne_true)]
 refine wpAny_bind (wpAny_pure ?_)
 refine wpAny_bind (wpAny_dictEntries ho hdat ?_)
 refine wpAny_bind (wpAny_dictEpoch ho hdat ?_)
 refine wpAny_bind (wpAny_newObj_type (wpAny_pure ⟨_,rfl,"dict_keyiterator",_,⟨_,Heap.get?_push_size _ rfl,rfl⟩,F.slot_dict_keyiterator_next.lookup,?_⟩))
 simpa [rawInt] using hQ
theorem nT {it d:Addr}{i n ep:Nat}{od:Obj}{es:Array DictEntry}{en:DictEntry}{Q:Option Value→Shared→Prop}(hit:s.heap.IsKeyIter it d i n ep)(hod:s.heap.get? d=some od)(hdd:od.data=.dict es ep)
  (hsz:es.size=n) (hx:es[i]? = some en) (hQ:∀h',h'.IsKeyIter it d (i+1) n ep→Heap.SameBut it s.heap h'→Q (some en.key) { s with heap:=h' }):wpAny (model prog w) A (pyNext (.ref it)) Q E s:=by
 obtain⟨o,ho,hc,hd⟩:=id hit
 unfold pyNext
 refine wpAny_bind (wpAny_attempt (wpAny_callSpecial?_slot (name:=Str.ofString "__next__") hit.typeIs F.slot_dict_keyiterator_next
  (wpAny_call_entry F.slot_dict_keyiterator_next hit.typeIs F.entry_dict_keyiterator_next ?_ (F.args_dict_keyiterator_next_1 _))))
 refine wpAny_bind (wpAny_pure ?_)
 refine wpAny_bind ?_
 refine wpAny_bind ?_
 first|refine wpAny_bind (wpAny_typeNameOfWhole_keyiter hit.typeIs (wpAny_pure ?_))|refine wpAny_bind (wpAny_typeNameOf_keyiter hit.typeIs (wpAny_pure ?_))
 refine wpAny_bind (wpAny_fieldsOf ho hd ?_)
 have hown:Builtin.Dict_items.ownsTuple "dict_keyiterator"=false:=by decide
 simp only[hown,Bool.false_eq_true,if_false]
 show wpAny _ _ (if (Value.ref d==Value.none)=true then _ else _) _ _ s
 rw[if_neg (show ¬((Value.ref d==Value.none)=true) from Bool.false_ne_true)]
 refine wpAny_bind (wpAny_pure ?_)
 refine wpAny_bind (wpAny_dictEntries hod hdd ?_)
 rw[if_neg (by rw[hsz];simp)]
 refine wpAny_bind (wpAny_pure ?_)
 refine wpAny_bind (wpAny_dictEpoch hod hdd ?_)
 rw[if_neg (by simp)]
 refine wpAny_pure ?_
 obtain⟨hlt',hen⟩:=Array.getElem?_eq_some_iff.mp hx
 simp only[show ¬((i:Int)<0) from by omega,if_false,Int.toNat_natCast,Array.getElem?_eq_getElem hlt']
 refine wpAny_bind ?_
 first|refine wpAny_bind (wpAny_typeNameOfWhole_keyiter hit.typeIs (wpAny_pure ?_))|refine wpAny_bind (wpAny_typeNameOf_keyiter hit.typeIs (wpAny_pure ?_))
 refine wpAny_bind (wpAny_isOneOf_keyiter hit.typeIs ?_)
 show wpAny _ _ (setField (.ref it) 1 (rawInt ((i:Int)+1)) >>= _) _ _ s
 refine wpAny_bind (wpAny_setField ho hd (by simp) ?_)
 have hit':(s.heap.update it (Obj.mapFields (·.setIfInBounds 1 (rawInt ((i:Int)+1))))).IsKeyIter it d (i+1) n ep :=
  ⟨_,Heap.get?_update_self _ ho (Obj.isFreed_of_fields (Obj.data_mapFields hd _)),(Obj.cls_mapFields ..).trans hc,by rw[Obj.data_mapFields hd];simp[rawInt]⟩
 refine wpAny_bind (wpAny_holding ?_)
 refine wpAny_bind (wpAny_isOneOf_keyiter (s:={ s with heap:=s.heap.update it (Obj.mapFields (·.setIfInBounds 1 (rawInt ((i:Int)+1)))) }) hit'.typeIs ?_)
 show wpAny _ _ (pure es[i].key) _ _ _
 rw[hen]
 exact wpAny_pure (wpAny_pure ⟨_,rfl,wpAny_pure (hQ _ hit' (Heap.SameBut.update ..))⟩)
theorem kf {it d:Addr}{i n ep:Nat}{od:Obj}{es:Array DictEntry}{Q:Option Value→Shared→Prop}(hh:A.handled=none)(hit:s.heap.IsKeyIter it d i n ep)(hod:s.heap.get? d=some od)(hdd:od.data=.dict es ep)
  (hsz:es.size=n) (hge:n≤i) (hQ:∀h',Heap.ExtBut it s.heap h'→Q none { s with heap:=h' }):wpAny (model prog w) A (pyNext (.ref it)) Q E s:=by
 obtain⟨o,ho,hc,hd⟩:=id hit
 unfold pyNext
 refine wpAny_bind (wpAny_attempt (wpAny_callSpecial?_slot (name:=Str.ofString "__next__") hit.typeIs F.slot_dict_keyiterator_next
  (wpAny_call_entry F.slot_dict_keyiterator_next hit.typeIs F.entry_dict_keyiterator_next ?_ (F.args_dict_keyiterator_next_1 _))))
 refine wpAny_bind (wpAny_pure ?_)
 refine wpAny_bind ?_
 refine wpAny_bind ?_
 first|refine wpAny_bind (wpAny_typeNameOfWhole_keyiter hit.typeIs (wpAny_pure ?_))|refine wpAny_bind (wpAny_typeNameOf_keyiter hit.typeIs (wpAny_pure ?_))
 refine wpAny_bind (wpAny_fieldsOf ho hd ?_)
 have hown:Builtin.Dict_items.ownsTuple "dict_keyiterator"=false:=by decide
 simp only[hown,Bool.false_eq_true,if_false]
 show wpAny _ _ (if (Value.ref d==Value.none)=true then _ else _) _ _ s
 rw[if_neg (show ¬((Value.ref d==Value.none)=true) from Bool.false_ne_true)]
 refine wpAny_bind (wpAny_pure ?_)
 refine wpAny_bind (wpAny_dictEntries hod hdd ?_)
 rw[if_neg (by rw[hsz];simp)]
 refine wpAny_bind (wpAny_pure ?_)
 refine wpAny_bind (wpAny_dictEpoch hod hdd ?_)
 rw[if_neg (by simp)]
 refine wpAny_pure ?_
 have hge':es.size≤i:=by rw[hsz];exact hge
 simp only[show ¬((i:Int)<0) from by omega,if_false,Int.toNat_natCast,Array.getElem?_eq_none hge']
 refine wpAny_bind ?_
 first|refine wpAny_bind (wpAny_typeNameOfWhole_keyiter hit.typeIs (wpAny_pure ?_))|refine wpAny_bind (wpAny_typeNameOf_keyiter hit.typeIs (wpAny_pure ?_))
 show wpAny _ _ (setField (.ref it) 0 .none >>= _) _ _ s
 refine wpAny_bind (wpAny_setField ho hd (by simp) ?_)
 show wpAny _ _ (newExc (.type "StopIteration") [] >>= _) _ _ _
 refine wpAny_bind ?_
 simp only[newExc,newTuple]
 refine wpAny_bind (wpAny_newObj_type ?_ (by size_fits))
 refine wpAny_bind (m:=firstArgMember _ _) (wpAny_of_eq (a:=Value.none) (by first|rfl|(simp only[firstArgMember];rfl)) ?_)
 refine wpAny_newObj_type ?_ (by size_fits)
 simp only[raiseNew]
 refine wpAny_bind (wpAny_handled ?_)
 rw[show A.in1.handled=none from hh]
 refine wpAny_bind (wpAny_pure (wpAny_throw ?_))
 refine wpAny_bind (wpAny_isInstance (T:="StopIteration") (b:=true) ⟨_,Heap.get?_push_size _ rfl,rfl⟩ isSubtype_stop ?_)
 exact wpAny_pure (hQ _ (((Heap.SameBut.update ..).extBut.push _).push _))
end
theorem A3 {κ:Type}{kvs:List (κ×V)}{vs:List (κ×Value)}(h:KV kvs vs):∀{i:Nat} {k:κ} {v:V},kvs[i]? = some (k,v)→∃u,vs[i]? = some (k,u)∧aZ v u:=by
 unfold KV at h
 induction h with
 |nil=>intro i k v e;simp at e
 |@cons a b l₁ l₂ r t ih =>
  intro i k v e
  cases i with
  |zero =>
   simp only[List.getElem?_cons_zero,Option.some.injEq]at e
   subst e
   refine⟨b.2,?_,r.2⟩
   simp only[List.getElem?_cons_zero]
   exact congrArg some (Prod.ext r.1.symm rfl)
  |succ j =>
   simp only[List.getElem?_cons_succ]at e ⊢
   exact ih e
theorem tm {α β:Type}{G:α→β→Prop}{l₁:List α}{l₂:List β}(h:Paired G l₁ l₂):∀{i:Nat} {a:α},l₁[i]? = some a→∃b,l₂[i]? = some b∧G a b:=by
 induction h with
 |nil=>intro i a e;simp at e
 |@cons a b l₁ l₂ r t ih =>
  intro i a' e
  cases i with
  |zero =>
   simp only[List.getElem?_cons_zero,Option.some.injEq]at e
   subst e
   exact⟨b,rfl,r⟩
  |succ j =>
   simp only[List.getElem?_cons_succ]at e ⊢
   exact ih e
theorem xR {k:Key}{u:Value}(h:lu k u=true):aZ (kV k) u:=by
 rcases bR h with⟨i,t,rfl,rfl⟩|⟨x,t,rfl,rfl⟩
 ·exact⟨t,rfl⟩
 ·exact⟨t,rfl⟩
section
variable  {X:Cx}{pins:List (Addr×Obj)}{σ:St}{H:Hp}{s:Shared}{d:Addr}{o:Obj}
theorem Inv.frzK {kvs:List (Key×V)}(I:Inv X pins σ H s)(h:H d=some (.frz o (.dK kvs))) :
  (d==sysModules)=false∧s.heap.get? d=some o∧o.ExactDict∧∃(es:Array DictEntry) (ep:Nat) (vs:List (Key×Value)),o.data=.dict es ep∧es.size=kvs.length∧KV kvs vs∧s.heap.DictAt (cZ X.prog X.w) d vs ep:=by
 obtain⟨hd,z,hs,vs,kv,o',es,ep,ho,hx,hdt,r⟩:=I.hok d _ h
 rw[hd]at ho
 cases ho
 refine⟨hs,hd,hx,es,ep,vs,hdt,?_,kv,o,es,hd,hx,hdt,r⟩
 have l1:=r.2.1.length
 have l2:kvs.length=vs.length:=Paired.length kv
 rw[Array.length_toList]at l1
 omega
theorem Inv.frzT {kvs:List (List Key×V)}(I:Inv X pins σ H s)(h:H d=some (.frz o (.dT kvs))) :
  (d==sysModules)=false∧s.heap.get? d=some o∧o.ExactDict∧∃(es:Array DictEntry) (ep:Nat),o.data=.dict es ep∧es.size=kvs.length ∧
   ∀(i:Nat) (k:List Key) (v:V),kvs[i]? = some (k,v)→∃(en:DictEntry) (q:Addr),es[i]? = some en∧en.key=.ref q∧H q=some (.tup (k.map kV)):=by
 obtain⟨hd,z,hs,xs,pr,o',es,ep,ho,hx,hdt,he,_⟩:=I.hok d _ h
 rw[hd]at ho
 cases ho
 refine⟨hs,hd,hx,es,ep,hdt,?_,fun i k v e=>?_⟩
 ·have l1:es.size=xs.length:=size_of_entries he
  have l2:kvs.length=xs.length:=Paired.length pr
  omega
 ·obtain⟨b,hb,e1,e2,_⟩:=tm pr e
  have q:=entry_at he i
  rw[hb]at q
  exact⟨_,b.2.1,q,rfl,e2⟩
end
def Itk (d:Addr)(o:Obj)(kvs:List (Key×V)):It :=
 ⟨fun i H=>H d=some (.frz o (.dK kvs))∧i<kvs.length,fun i H x H'=>H'=H∧∃k v,kvs[i]? = some (k,v)∧x=kV k,fun i H=>H d=some (.frz o (.dK kvs))∧kvs.length≤i⟩
def BA (d:Addr)(o:Obj)(kvs:List (List Key×V)):It :=
 ⟨fun i H=>H d=some (.frz o (.dT kvs))∧i<kvs.length,fun i H x H'=>H'=H∧∃(k:List Key) (v:V) (q:Addr),kvs[i]? = some (k,v)∧x=.ref q∧H q=some (.tup (k.map kV)),fun i H=>H d=some (.frz o (.dT kvs))∧kvs.length≤i⟩
theorem lU {o:Obj}{es es':Array DictEntry}{ep ep':Nat}(h:o.data=.dict es ep)(h':o.data=.dict es' ep'):es'=es∧ep'=ep:=by
 rw[h]at h'
 cases h'
 exact⟨rfl,rfl⟩
section
variable  {P:Program}{w:World}{K:Frag}{tg:Expr}{d:Addr}{o:Obj}{es:Array DictEntry}{ep:Nat}
theorem vA {kvs:List (Key×V)}(it:Addr)(hod:o.data=.dict es ep):nt P w K tg (Itk d o kvs) [it] it (fun i h=>h.IsKeyIter it d i kvs.length ep) where
 mem:=by simp
 obj:=fun i h st b hb=>by
  have e:b=it:=by simpa using hb
  subst e
  obtain⟨oi,e,c,dd⟩:=st
  exact⟨oi,e,fun v z=>by rw[dd]at z;cases z⟩
 keep:=fun i h h' st k=>st.at fun oi e=>k it (by simp) oi e
 item:=by
  intro X hP hw hK hc i pins s σ H E I hf st hg
  subst hP hw hK
  obtain⟨hd,hi⟩:=hg
  obtain⟨f0,f1,f2,f3,f4,f5⟩:=hf it (by simp)
  obtain⟨hs,hgd,hx,es',ep',vs,hdt,hsz,kv,hm⟩:=I.frzK hd
  obtain⟨rfl,rfl⟩:=lU hod hdt
  obtain⟨⟨k,v⟩,hkv⟩:∃p,kvs[i]? = some p:=⟨kvs[i],gge hi⟩
  obtain⟨u,hu,ru⟩:=A3 kv hkv
  have hl:kvs.length=vs.length:=Paired.length kv
  rw[hl]at st
  refine wpAny_pyNext_dict_item st hm hu fun key h' hkey st' sb=>?_
  have I1:Inv X pins σ H { s with heap:=h' }:=I.turned (t':=s.toks) (fun b ob hb e=>(sb.2 b hb).trans e) f0 f1 f3 f4 f5
  obtain⟨oi,e,c,dd⟩:=id st'
  refine⟨key,rfl,na (s:={ s with heap:=h' }) e c dd (by decide) ⟨kV k,H,I1,xR (show lu k key=true from hkey),⟨rfl,k,v,hkv,rfl⟩,?_,fun b hb=>(hf b hb).1⟩⟩
  show h'.IsKeyIter it d (i+1) kvs.length _
  rw[hl]
  exact st'
 done:=by
  intro X hP hw hK hc i pins s σ H E I hf st hg
  subst hP hw hK
  obtain⟨hd,hi⟩:=hg
  obtain⟨f0,f1,f2,f3,f4,f5⟩:=hf it (by simp)
  obtain⟨hs,hgd,hx,es',ep',vs,hdt,hsz,kv,hm⟩:=I.frzK hd
  obtain⟨rfl,rfl⟩:=lU hod hdt
  exact kf (I.ok.hd hc) st hgd hdt hsz hi fun h' eb=>⟨rfl,I.turned (t':=s.toks) (fun b ob hb e=>eb b ob hb e) f0 f1 f3 f4 f5⟩
 self:=fun A i s Q E st h=>wpAny_pyIter_keyiter st h
theorem sU {kvs:List (List Key×V)}(it:Addr)(hod:o.data=.dict es ep):nt P w K tg (BA d o kvs) [it] it (fun i h=>h.IsKeyIter it d i kvs.length ep) where
 mem:=by simp
 obj:=fun i h st b hb=>by
  have e:b=it:=by simpa using hb
  subst e
  obtain⟨oi,e,c,dd⟩:=st
  exact⟨oi,e,fun v z=>by rw[dd]at z;cases z⟩
 keep:=fun i h h' st k=>st.at fun oi e=>k it (by simp) oi e
 item:=by
  intro X hP hw hK hc i pins s σ H E I hf st hg
  subst hP hw hK
  obtain⟨hd,hi⟩:=hg
  obtain⟨f0,f1,f2,f3,f4,f5⟩:=hf it (by simp)
  obtain⟨hs,hgd,hx,es',ep',hdt,hsz,ent⟩:=I.frzT hd
  obtain⟨rfl,rfl⟩:=lU hod hdt
  obtain⟨⟨k,v⟩,hkv⟩:∃p,kvs[i]? = some p:=⟨kvs[i],gge hi⟩
  obtain⟨en,q,hen,hkey,hq⟩:=ent i k v hkv
  refine nT st hgd hdt hsz hen fun h' st' sb=>?_
  have I1:Inv X pins σ H { s with heap:=h' }:=I.turned (t':=s.toks) (fun b ob hb e=>(sb.2 b hb).trans e) f0 f1 f3 f4 f5
  obtain⟨oi,e,c,dd⟩:=id st'
  exact⟨en.key,rfl,na (s:={ s with heap:=h' }) e c dd (by decide) ⟨.ref q,H,I1,hkey,⟨rfl,k,v,q,hkv,rfl,hq⟩,st',fun b hb=>(hf b hb).1⟩⟩
 done:=by
  intro X hP hw hK hc i pins s σ H E I hf st hg
  subst hP hw hK
  obtain⟨hd,hi⟩:=hg
  obtain⟨f0,f1,f2,f3,f4,f5⟩:=hf it (by simp)
  obtain⟨hs,hgd,hx,es',ep',hdt,hsz,ent⟩:=I.frzT hd
  obtain⟨rfl,rfl⟩:=lU hod hdt
  exact kf (I.ok.hd hc) st hgd hdt hsz hi fun h' eb=>⟨rfl,I.turned (t':=s.toks) (fun b ob hb e=>eb b ob hb e) f0 f1 f3 f4 f5⟩
 self:=fun A i s Q E st h=>by
  refine wpAny_pyIter_slot st.typeIs F.slot_dict_keyiterator_iter (wpAny_call_entry F.slot_dict_keyiterator_iter st.typeIs F.entry_dict_keyiterator_iter ?_ (F.args_dict_keyiterator_iter_1 _))
  show wpAny _ _ (ret (.ref it)) _ _ s
  exact wpAny_pure ⟨_,rfl,"dict_keyiterator",_,st.typeIs,F.slot_dict_keyiterator_next.lookup,h⟩
end
def Cp (td:TE):TI:=fun σ H R=>td σ H fun x H1=>∃d o,x=.ref d∧((∃kvs,H1 d=some (.frz o (.dK kvs))∧R (Itk d o kvs) H1)∨∃kvs,H1 d=some (.frz o (.dT kvs))∧R (BA d o kvs) H1)
section
variable  {X:Cx}{tg e:Expr}{td:TE}{apos cpos:Pos}
theorem ya (he:PE X e td):PI X tg e (Cp td):=by
 intro pins s σ H R I h
 refine thn (he pins s σ H _ I h) fun u s1 ⟨x,H1,I1,rx,d,o,ex,q⟩=>?_
 subst ex
 obtain rfl:u=Value.ref d:=rx
 rcases q with⟨kvs,hd,q⟩|⟨kvs,hd,q⟩
 ·obtain⟨hs,hgd,hx,es,ep,vs,hdt,hsz,kv,hm⟩:=I1.frzK hd
  refine ow hs hgd hx hdt (qf (tk:=s1.toks) I1 _ (vA _ hdt) ⟨_,Heap.get?_push_size _ rfl,rfl,?_⟩ q)
  rw[hsz]<;>rfl
 ·obtain⟨hs,hgd,hx,es,ep,hdt,hsz,ent⟩:=I1.frzT hd
  refine ow hs hgd hx hdt (qf (tk:=s1.toks) I1 _ (sU _ hdt) ⟨_,Heap.get?_push_size _ rfl,rfl,?_⟩ q)
  rw[hsz]<;>rfl
end
def Ite (K:Frag)(a:Addr):It :=
 ⟨fun i H=>∃(xs:List V) (x:V),SqL K H a xs∧xs[i]? = some x,fun i H v H'=>∃T x,v=.ref T∧H T=none∧H'=upd H T (.tup [.int (i:Nat),x])∧∀xs,SqL K H a xs→xs[i]? = some x,fun i H=>∃xs:List V,SqL K H a xs∧xs.length≤i⟩
theorem vF {P:Program}{w:World}{K:Frag}{elts:List Expr}{kk:Nat}{tpos:Pos}(a e it:Addr) :
  nt P w K (.Tuple elts kk tpos) (Ite K a) [e,it] e (fun i h=>(∃old,IsEnum h e it ((i:Nat):Int) old)∧h.IsListIter it a i∧e≠it) where
 mem:=by simp
 obj:=fun i h st b hb=>by
  obtain⟨⟨old,he⟩,⟨o,ho,hc,hd⟩,_⟩:=st
  have e':b=e∨b=it:=by simpa using hb
  rcases e' with z|z
  ·rw[z];exact⟨_,he,fun v q=>nomatch q⟩
  ·rw[z];exact⟨o,ho,fun v q=>by rw[hd]at q;cases q⟩
 keep:=fun i h h' st k=>let ⟨⟨old,he⟩,hi,hne⟩:=st;⟨⟨old,k e (by simp) _ he⟩,hi.at fun o q=>k it (by simp) o q,hne⟩
 item:=by
  intro X hP hw hK hc i pins s σ H E I hf st hg
  subst hP hw hK
  obtain⟨⟨old,he⟩,hit,hne⟩:=st
  obtain⟨xs,x,hq,hx⟩:=hg
  obtain⟨its,rv,p,hz⟩:=I.list hq
  obtain⟨u,hu,ru⟩:=rv.get hx
  have hel:e<s.heap.objs.size:=Heap.lt_size he
  have hil:it<s.heap.objs.size:=by obtain⟨_,q,_⟩:=hit;exact Heap.lt_size q
  refine wpAny_pyNext_enum_item he hit p.isList (x:=u) (by simpa using hu) hne fun h' ho hit' hT hsz hk=>?_
  refine⟨_,rfl,wpAny_letOwnedTupleGo_enum (s:={ s with heap:=h',toks:=s.toks+1 }) ho fun h'' he' sb=>?_⟩
  have hT2:h''.get? s.heap.objs.size=some { cls:=.type "tuple",data:=.seq #[.int i s.toks,u] }:=(sb.2 _ (Nat.ne_of_gt hel)).trans hT
  have new:b7 X.prog X.w (upd H s.heap.objs.size (.tup [.int (i:Nat),x])) h'' s.heap.objs.size (.tup [.int (i:Nat),x]) :=
   ⟨by show 2≤sizeLine;decide,[.int i s.toks,u],.cons ⟨_,rfl⟩ (.cons ru .nil),⟨_,hT2,rfl,_,rfl⟩⟩
  have I1:Inv X pins σ (upd H s.heap.objs.size (.tup [.int (i:Nat),x])) { s with heap:=h'',toks:=s.toks+1 } :=
   I.turnedNew (ch:=[e,it]) (fun b ob hb q=>(sb.2 b (fun z=>hb (by simp[z]))).trans (hk b ob (fun z=>hb (by simp[z])) (fun z=>hb (by simp[z])) q)) hf (nlr _) new
  refine⟨.ref s.heap.objs.size,_,I1,rfl,⟨_,x,rfl,I.hok.fresh (nlr _),rfl,fun ys hy=>by rw[I.list_inj hy hq];exact hx⟩,⟨⟨u,?_⟩,hit'.at fun o q=>(sb.2 it (Ne.symm hne)).trans q,hne⟩,fun b hb=>?_⟩
  ·have e1:((i+1:Nat):Int)=(i:Int)+1:=by omega
   rw[e1];exact he'
  ·have hb':b<s.heap.objs.size:=by
    have e':b=e∨b=it:=by simpa using hb
    rcases e' with z|z
    ·rw[z];exact hel
    ·rw[z];exact hil
   rw[ap (Nat.ne_of_lt hb')]
   exact(hf b hb).1
 done:=by
  intro X hP hw hK hc i pins s σ H E I hf st hg
  subst hP hw hK
  obtain⟨⟨old,he⟩,hit,hne⟩:=st
  obtain⟨xs,hq,hx⟩:=hg
  obtain⟨its,rv,p,hz⟩:=I.list hq
  obtain⟨f0,f1,f2,f3,f4,f5⟩:=hf it (by simp)
  have hl:=rv.length
  exact wpAny_pyNext_enum_end (I.ok.hd hc) he hit p.isList (by simp;omega) fun h' eb=>⟨rfl,I.turned (t':=s.toks) (fun b o hb q=>eb b o hb q) f0 f1 f3 f4 f5⟩
 self:=fun A i s Q E st h=>let ⟨⟨_,he⟩,_⟩:=st;wpAny_pyIter_enum he h
def DG (K:Frag)(ta:TA):TI:=fun σ H R=>ta σ H fun vs H1=>∃a xs,vs=[.ref a]∧SqL K H1 a xs∧R (Ite K a) H1
theorem dU {X:Cx}{e:Expr}{ta:TA}{p pos tpos:Pos}{elts:List Expr}{kk:Nat} (hg:Gl X "enumerate") (hm:X.mg "enumerate"=none) (ha:PA X [e] ta) (hs:starEach [e] X.env=[(false,eval e X.env)]:=by rfl) :
  PI X (.Tuple elts kk tpos) (.Call (.Name "enumerate" p) [e] [] pos) (DG X.K ta):=by
 intro pins s σ H R I h
 refine Call_ (gC I hg hm boot_enumerate (PyProof.Rows.callWith_type1 (thn (ha pos pins s σ H _ I h) fun us s1 ⟨vs,H1,I1,r1,q1⟩=>?_) hs rfl))
 obtain⟨a,xs,ex,hq,q⟩:=q1
 subst ex
 cases r1 with
 |cons r rr =>
  cases rr
  cases r
  obtain⟨its,rv,p',hz⟩:=I1.list hq
  refine call_enumerate_list p'.isList fun h' he hit hsz hk=>wpAny_pyIter_enum he ?_
  have I2:Inv X pins σ H1 { s1 with heap:=h' }:=I1.kept (t':=s1.toks) hk
  refine⟨s1.heap.objs.size+1,[s1.heap.objs.size+1,s1.heap.objs.size],_,_,H1,rfl,I2,vF a (s1.heap.objs.size+1) s1.heap.objs.size,⟨⟨.none,he⟩,hit,Nat.succ_ne_self _⟩,fun b hb=>?_,q⟩
  have e':b=s1.heap.objs.size+1∨b=s1.heap.objs.size:=by simpa using hb
  have hle:s1.heap.objs.size≤b:=by
   rcases e' with z|z
   ·rw[z];exact Nat.le_add_right _ _
   ·rw[z];exact nlr _
  exact I1.fpOk hle (I1.hok.fresh hle)
theorem va:bootBuiltins "zip"=some (.type "zip"):=by decide +kernel
def Itz (K:Frag)(a b:Addr):It :=
 ⟨fun i H=>∃(xs ys:List V) (x y:V),SqL K H a xs∧SqL K H b ys∧xs[i]? = some x∧ys[i]? = some y,
  fun i H v H'=>∃T x y,v=.ref T∧H T=none∧H'=upd H T (.tup [x,y])∧(∀xs,SqL K H a xs→xs[i]? = some x)∧∀ys,SqL K H b ys→ys[i]? = some y,
  fun i H=>∃xs ys:List V,SqL K H a xs∧SqL K H b ys∧(xs.length≤i∨ys.length≤i)⟩
theorem xY {P:Program}{w:World}{K:Frag}{elts:List Expr}{kk:Nat}{tpos:Pos}{a b z TI TO i1 i2:Addr}(D:ZipApart z TI TO i1 i2 a b) :
  nt P w K (.Tuple elts kk tpos) (Itz K a b) [z,TI,TO,i1,i2] z (fun i h=>IsZip h z TI TO .none∧IsPair h TI (.ref i1) (.ref i2)∧(∃x y,IsPair h TO x y)∧h.IsListIter i1 a i∧h.IsListIter i2 b i) where
 mem:=by simp
 obj:=fun i h st c hc=>by
  obtain⟨hz,hTI,⟨x,y,hTO⟩,⟨o1,e1,_,d1⟩,⟨o2,e2,_,d2⟩⟩:=st
  have e':c=z∨c=TI∨c=TO∨c=i1∨c=i2:=by simpa using hc
  rcases e' with q|q|q|q|q
  ·rw[q];exact⟨_,hz,fun v q=>nomatch q⟩
  ·rw[q];exact⟨_,hTI,fun v q=>nomatch q⟩
  ·rw[q];exact⟨_,hTO,fun v q=>nomatch q⟩
  ·rw[q];exact⟨o1,e1,fun v q=>by rw[d1]at q;cases q⟩
  ·rw[q];exact⟨o2,e2,fun v q=>by rw[d2]at q;cases q⟩
 keep:=fun i h h' st k=>by
  obtain⟨hz,hTI,⟨x,y,hTO⟩,h1,h2⟩:=st
  exact⟨k z (by simp) _ hz,k TI (by simp) _ hTI,⟨x,y,k TO (by simp) _ hTO⟩,h1.at fun o q=>k i1 (by simp) o q,h2.at fun o q=>k i2 (by simp) o q⟩
 item:=by
  intro X hP hw hK hc i pins s σ H E I hf st hg
  subst hP hw hK
  obtain⟨hz,hTI,⟨x0,y0,hTO⟩,h1,h2⟩:=st
  obtain⟨xs,ys,x,y,hqx,hqy,hx,hy⟩:=hg
  obtain⟨its,rv,p,_⟩:=I.list hqx
  obtain⟨its2,rv2,p2,_⟩:=I.list hqy
  obtain⟨u,hu,ru⟩:=rv.get hx
  obtain⟨u2,hu2,ru2⟩:=rv2.get hy
  have hzl:z<s.heap.objs.size:=Heap.lt_size hz
  refine wpAny_pyNext_zip_item D hz hTI hTO h1 h2 p.isList p2.isList (x:=u) (y:=u2) (by simpa using hu) (by simpa using hu2) fun h' z' TO' h1' h2' hT hsz hk=>?_
  refine⟨_,rfl,wpAny_letOwnedTupleGo_zip (s:={ s with heap:=h' }) z' fun h'' z'' sb=>?_⟩
  have hT2:h''.get? s.heap.objs.size=some { cls:=.type "tuple",data:=.seq #[u,u2] }:=(sb.2 _ (Nat.ne_of_gt hzl)).trans hT
  have new:b7 X.prog X.w (upd H s.heap.objs.size (.tup [x,y])) h'' s.heap.objs.size (.tup [x,y]) :=
   ⟨by show 2≤sizeLine;decide,[u,u2],.cons ru (.cons ru2 .nil),⟨_,hT2,rfl,_,rfl⟩⟩
  have I1:Inv X pins σ (upd H s.heap.objs.size (.tup [x,y])) { s with heap:=h'' } :=
   I.turnedNew (t':=s.toks) (ch:=[z,TI,TO,i1,i2]) (fun c o hb q=>(sb.2 c (fun q'=>hb (by simp[q']))).trans (hk c o (fun q'=>hb (by simp[q'])) (fun q'=>hb (by simp[q'])) (fun q'=>hb (by simp[q'])) (fun q'=>hb (by simp[q'])) q)) hf (nlr _) new
  refine⟨.ref s.heap.objs.size,_,I1,rfl,⟨_,x,y,rfl,I.hok.fresh (nlr _),rfl,fun l hl=>by rw[I.list_inj hl hqx];exact hx,fun l hl=>by rw[I.list_inj hl hqy];exact hy⟩,⟨z'',?_,⟨u,u2,?_⟩,?_,?_⟩,fun c hcm=>?_⟩
  ·exact(sb.2 _ D.TIz).trans (hk _ _ D.TIz D.TITO D.TIi1 D.TIi2 hTI)
  ·exact(sb.2 _ D.TOz).trans TO'
  ·exact h1'.at fun o q=>(sb.2 _ D.i1z).trans q
  ·exact h2'.at fun o q=>(sb.2 _ D.i2z).trans q
  ·have hlt:c<s.heap.objs.size:=by
    have e':c=z∨c=TI∨c=TO∨c=i1∨c=i2:=by simpa using hcm
    rcases e' with q|q|q|q|q
    ·rw[q];exact hzl
    ·rw[q];exact Heap.lt_size hTI
    ·rw[q];exact Heap.lt_size hTO
    ·rw[q];obtain⟨_,e1,_⟩:=h1;exact Heap.lt_size e1
    ·rw[q];obtain⟨_,e2,_⟩:=h2;exact Heap.lt_size e2
   rw[ap (Nat.ne_of_lt hlt)]
   exact(hf c hcm).1
 done:=by
  intro X hP hw hK hc i pins s σ H E I hf st hg
  subst hP hw hK
  obtain⟨hz,hTI,⟨x0,y0,hTO⟩,h1,h2⟩:=st
  obtain⟨xs,ys,hqx,hqy,hend⟩:=hg
  obtain⟨its,rv,p,_⟩:=I.list hqx
  obtain⟨its2,rv2,p2,_⟩:=I.list hqy
  have l1:=rv.length
  have l2:=rv2.length
  have he:its.toArray[i]? = none∨its2.toArray[i]? = none:=by
   rcases hend with q|q
   ·exact .inl (by simp;omega)
   ·exact .inr (by simp;omega)
  exact wpAny_pyNext_zip_end (I.ok.hd hc) D hz hTI hTO h1 h2 p.isList p2.isList he fun h' hk=>⟨rfl,I.turnedL (t':=s.toks) (ch:=[z,TI,TO,i1,i2]) (fun c o hb q =>
   hk c o (fun q'=>hb (by simp[q'])) (fun q'=>hb (by simp[q'])) (fun q'=>hb (by simp[q'])) (fun q'=>hb (by simp[q'])) q) hf⟩
 self:=fun A i s Q E st h=>wpAny_pyIter_zip st.1 h
def D8 (K:Frag)(ta:TA):TI:=fun σ H R=>ta σ H fun vs H1=>∃a b xs ys,vs=[.ref a,.ref b]∧SqL K H1 a xs∧SqL K H1 b ys∧R (Itz K a b) H1
theorem A9 {X:Cx}{e e2:Expr}{ta:TA}{p pos tpos:Pos}{elts:List Expr}{kk:Nat} (hg:Gl X "zip") (hm:X.mg "zip"=none) (ha:PA X [e,e2] ta)
  (hs:starEach [e,e2] X.env=(false,eval e X.env) :: starEach [e2] X.env:=by rfl) (hpl:(backTo pos (starEach [e2] X.env)).any (·.1)=false:=by rfl) :
  PI X (.Tuple elts kk tpos) (.Call (.Name "zip" p) [e,e2] [] pos) (D8 X.K ta):=by
 intro pins s σ H R I h
 refine Call_ (gC I hg hm va (PyProof.Rows.callWith_type1 (thn (ha pos pins s σ H _ I h) fun us s1 ⟨vs,H1,I1,r1,q1⟩=>?_) hs hpl))
 obtain⟨a,b,xs,ys,ex,hqx,hqy,q⟩:=q1
 subst ex
 cases r1 with
 |cons r rr =>
  cases rr with
  |cons r' rr =>
   cases rr
   cases r
   cases r'
   obtain⟨its,rv,p1,_⟩:=I1.list hqx
   obtain⟨its2,rv2,p2,_⟩:=I1.list hqy
   have la:a<s1.heap.objs.size:=p1.lt
   have lb:b<s1.heap.objs.size:=p2.lt
   refine call_zip_2 p1.isList p2.isList fun h' hz hTI hTO h1 h2 hsz hk=>wpAny_pyIter_zip hz ?_
   have I2:Inv X pins σ H1 { s1 with heap:=h' }:=I1.kept (t':=s1.toks) hk
   refine⟨s1.heap.objs.size+4,[s1.heap.objs.size+4,s1.heap.objs.size+2,s1.heap.objs.size+3,s1.heap.objs.size,s1.heap.objs.size+1],_,_,H1,rfl,I2,xY (PySem.W.ktu_apart s1.heap.objs.size a b la lb),⟨hz,hTI,⟨_,_,hTO⟩,h1,h2⟩,fun c hcm=>?_,q⟩
   have e':c=s1.heap.objs.size+4∨c=s1.heap.objs.size+2∨c=s1.heap.objs.size+3∨c=s1.heap.objs.size∨c=s1.heap.objs.size+1:=by simpa using hcm
   have hle:s1.heap.objs.size≤c:=by
    rcases e' with z|z|z|z|z
    ·rw[z];exact Nat.le_add_right _ _
    ·rw[z];exact Nat.le_add_right _ _
    ·rw[z];exact Nat.le_add_right _ _
    ·rw[z];exact nlr _
    ·rw[z];exact Nat.le_add_right _ _
   exact I1.fpOk hle (I1.hok.fresh hle)
end L2
section
namespace Bits
open PySem PyProof.Rows
end Bits
end
section
namespace TL
open PySem PySem.Builtin PySem.Builtin.Str PySem.StrLaws
abbrev tl (x:Str):List Nat:=x.cps.toList
def pre (S l:List Nat):Bool:=l.take S.length==S
def par (S:List Nat):List Nat→List Nat→Option (List Nat×List Nat)
 |_,[]=>none
 |acc,c :: r=>if pre S (c :: r)=true then some (acc,(c :: r).drop S.length) else par S (acc++[c]) r
end TL
end
namespace L2
open PySem PySem.Spec PyProof.Rows
section
variable  {X:Cx}{pins:List (Addr×Obj)}{σ:St}{H:Hp}{s:Shared}{Q:VK}
end
section
variable  {X:Cx}
end
section
variable  {X:Cx}{o e:Expr}{to te:TE}
end
end L2
namespace L2
open PySem PySem.Spec PyProof.Rows
section
variable  {X:Cx}
end
end L2
namespace Att
open PySem PySem.W PySem.Calls PyProof.Rows
section
variable  {prog:Program}{w:World}{A:Around}{E:Value→Shared→Prop}{s:Shared}{K:Frag}
end
end Att
namespace L2
open PySem PySem.Spec PyProof.Rows
theorem oO:∀{vs:List Value} {ns:List Int},IntsAre vs ns→aT (ns.map V.int) vs
 |_,_,.nil=>.nil
 |_,_,.cons n t h=>.cons ⟨t,rfl⟩ (oO h)
def BC (H:Hp):Prop:=∀b,H b=none∨∃o xs,H b=some (.frz o (.lst xs))
theorem Du {P:Program}{w:World}{K:Frag}{mg mb:Str→Option Value}{CX:CXT}{k:Nat}{fa a:Addr}{fd:FuncData}{x:Str}{sp:Sp}{s₁:Shared}{vs:List Value}{ns:List Int}
  (KX:K.In s₁.heap) (hns:s₁.heap.Ns mainGlobals mg) (hb:s₁.heap.Ns builtinsNs mb) (hbb:∀x:Str,x≠"__name__"→mb x=bootBuiltins x) (hlim:s₁.heap.NoLimit) (hg:s₁.gens=#[])
  (ha:s₁.heap.get? a=some { cls:=.type "list",data:=.seq vs.toArray }) (hi:IntsAre vs ns) (hl:ns.length≤sizeLine) (hr:bu k callerA)
  (F:∀base:Heap,K.In base→base.Ns mainGlobals mg→jw P w K mg base CX k fa fd [x] sp) (hbind:∀(s:Shared) (u:Value),BindsTo s fd ⟨[u],[]⟩ [(x,u)])
  (hsp:∀H:Hp,BC H→SqL K H a (ns.map V.int)→sp [.ref a] H (fun v _=>v=.bl true) fun _ _ _=>False)
  (hCX:∀H e s',CX [] H s₁ (fun _ _ _=>False) e s'→False) :
  codeAny (model P w) callerA (.call (.ref fa) ⟨[.ref a],[]⟩) (fun r s'=>r=.ok (.ret (.bool true))∧OldK s₁.heap s'.heap∧s'.os=s₁.os∧AllBare s'.gens) s₁:=by
 have rv:=oO hi
 have lenV:=hi.length
 have xk:∀H:Hp,BC H→SqL K H a (ns.map V.int)→HOk P w H s₁.heap→(∀b,H b≠none→b=a)→(H a≠none→K.lookup a=none) →
   codeAny (model P w) callerA (.call (.ref fa) ⟨[.ref a],[]⟩) (fun r s'=>r=.ok (.ret (.bool true))∧OldK s₁.heap s'.heap∧s'.os=s₁.os∧AllBare s'.gens) s₁:=by
  intro H hO hS hok hA hK
  have base_of:∀{b:Addr} {o:Obj},s₁.heap.get? b=some o→H b=none→(j7 s₁.heap H).get? b=some o:=fun e n=>qR e n
  have noA:∀{b:Addr} {o:Obj} {es:Array DictEntry} {ep:Nat},s₁.heap.get? b=some o→o.data=.dict es ep→H b=none:=fun {b o es ep} e d=>by
   cases q:H b with
   |none=>rfl
   |some u =>
    have e':b=a:=hA b (by rw[q];simp)
    subst e'
    rw[ha]at e;cases e
    have d':Data.seq vs.toArray _=Data.dict es ep:=d
    cases d'
  have nsK:∀{b:Addr} {m:Str→Option Value},s₁.heap.Ns b m→(j7 s₁.heap H).Ns b m:=fun {b m} ⟨o,es,ep,e,d,r⟩=>⟨o,es,ep,base_of e (noA e d),d,r⟩
  have hKb:K.In (j7 s₁.heap H):=fun b o e=>base_of (KX b o e) (by
   cases q:H b with
   |none=>rfl
   |some u =>
    have e':b=a:=hA b (by rw[q];simp)
    subst e'
    rw[hK (by rw[q];simp)]at e;cases e)
  have hM:Mod K mg (j7 s₁.heap H):=⟨hKb,nsK hns,⟨mb,nsK hb,hbb⟩,let ⟨mc,h1,h2⟩:=hlim;⟨mc,nsK h1,h2⟩⟩
  have e0:qN P w K mg (j7 s₁.heap H) callerA [] s₁ H:=⟨rfl,hM,fun b o e=>tS e,Nat.le_of_eq (pk _ _),trivial,fun b hb=>absurd (show b∈([]:List Addr) from hb) (by simp),hok,.of_eq hg⟩
  refine codeAny_mono ((F _ hKb (nsK hns)).run callerA [] s₁ H ⟨[.ref a],[]⟩ [.ref a] [.ref a] _ _ hr e0 (hbind s₁ (.ref a)) (.cons rfl .nil) (hsp H hO hS)) fun r s' h=>?_
  cases r with
  |error e=>exact(hCX H e s' h).elim
  |ok fl =>
   cases fl with
   |next=>exact False.elim h
   |brk=>exact False.elim h
   |cont=>exact False.elim h
   |ret u =>
    obtain⟨v,H',os,bare,un,hok',r',q⟩:=h
    have q':v=.bl true:=q
    subst q'
    obtain rfl:u=Value.bool true:=r'
    refine⟨rfl,OldK.of_keep fun b o e=>?_,os,bare⟩
    cases q:H b with
    |none=>exact un.keep b o e q (by intro z;exact absurd (show b∈([]:List Addr) from z) (by simp)) (by simp)
    |some u =>
     rcases hO b with z|⟨ob,xs,z⟩
     ·rw[q]at z;cases z
     ·have z2:=un.frzs b ob _ z
      obtain⟨e1,_⟩:=hok b _ z
      obtain⟨e2,_⟩:=hok' b _ z2
      rw[e]at e1;cases e1
      exact e2
 cases hk:K.lookup a with
 |some o =>
  have e:=KX a o hk
  rw[ha]at e
  cases e
  refine xk (fun _=>none) (fun _=>.inl rfl) (.inr ⟨_,vs.toArray,_,hk,rfl,rfl,rfl,by rw[List.size_toArray,lenV];exact hl,by simpa using rv⟩) (fun b u z=>by have z':(none:Option HO)=some u:=z;cases z') (fun b z=>absurd rfl z) fun z=>absurd rfl z
 |none =>
  refine xk (fun b=>if b=a then some (.frz { cls:=.type "list",data:=.seq vs.toArray } (.lst (ns.map V.int))) else none) (fun b=>?_) (.inl (.inr ⟨{ cls:=.type "list",data:=.seq vs.toArray },if_pos rfl⟩)) (fun b u z=>?_) (fun b z=>?_) fun _=>hk
  ·by_cases hb:b=a
   ·exact .inr ⟨_,_,if_pos hb⟩
   ·exact .inl (if_neg hb)
  ·by_cases hb:b=a
   ·have z':=(if_pos hb).symm.trans z
    cases z'
    subst hb
    exact⟨ha,by rw[lmp];exact hl,vs,_,rv,ha⟩
   ·have z':=(if_neg hb).symm.trans z
    cases z'
  ·by_cases hb:b=a
   ·exact hb
   ·exact absurd (if_neg hb) z
end L2
namespace L2
open PySem PySem.Spec PyProof.Rows
end L2
namespace L2
open PySem PySem.Spec PyProof.Rows
open PySem.W (WData Codec OpenSpec Well WellAll ReadsW ReadsAllW)
mutual
inductive Dw (K:Frag)(H:Hp):V→WData→Prop
 |non:Dw K H .non .none
 |bl (b:Bool):Dw K H (.bl b) (.bool b)
 |int (i:Int):Dw K H (.int i) (.int i)
 |str (x:Str):Dw K H (.str x) (.str x)
 |byt (b:Array UInt8):Dw K H (.byt b) (.bytes b.toList)
 |lst {a:Addr} {xs:List V} {ds:List WData}:SqL K H a xs→iC K H xs ds→Dw K H (.ref a) (.list ds)
 |tup {a:Addr} {xs:List V} {ds:List WData}:SqT K H a xs→iC K H xs ds→Dw K H (.ref a) (.tuple ds)
inductive iC (K:Frag)(H:Hp):List V→List WData→Prop
 |nil:iC K H [] []
 |cons {v:V} {vs:List V} {d:WData} {ds:List WData}:Dw K H v d→iC K H vs ds→iC K H (v :: vs) (d :: ds)
end
theorem tN {K:Frag}{H:Hp}:∀ns:List Int,iC K H (ns.map V.int) (ns.map WData.int)
 |[]=>.nil
 |n :: r=>.cons (.int n) (tN r)
theorem ku {K:Frag}{H:Hp}:∀(ns:List Int) (xs:List V),iC K H xs (ns.map WData.int)→xs=ns.map V.int
 |[],xs,h=>by
  cases h
  rfl
 |n :: r,xs,h=>by
  cases h with
  |cons h1 h2 =>
   cases h1
   rw[ku r _ h2]<;>rfl
section
variable  {P:Program}{w:World}{K:Frag}{H:Hp}{h:Heap}{R:PySem.W.WRecords}{cl:Str→Option Addr}
theorem Bo {a:Addr}{xs:List V}(hok:HOk P w H h)(KX:K.In h)(q:SqL K H a xs):∃(its:List Value) (o:Obj) (n:Nat),aT xs its∧h.get? a=some o∧o.cls=.type "list"∧o.data=.seq its.toArray n:=by
 rcases q with q|⟨o,its,n,e,hc,_,hd,_,hv⟩
 ·obtain⟨_,its,n,hv,e⟩:=(show b7 P w H h a (.lst xs) from q.ok hok)
  exact⟨its,_,n,hv,e,rfl,rfl⟩
 ·exact⟨its.toList,o,n,hv,KX _ _ e,hc,by simp[hd]⟩
theorem AC {a:Addr}{xs:List V}(hok:HOk P w H h)(KX:K.In h)(q:SqT K H a xs):∃(its:List Value) (o:Obj) (n:Nat),aT xs its∧h.get? a=some o∧o.cls=.type "tuple"∧o.data=.seq its.toArray n:=by
 rcases q with q|⟨o,its,n,e,hc,hd,_,hv⟩
 ·obtain⟨_,its,hv,o,e,hc,n,hd⟩:=(show b7 P w H h a (.tup xs) from q.ok hok)
  exact⟨its,o,n,hv,e,hc,hd⟩
 ·exact⟨its.toList,o,n,hv,KX _ _ e,hc,by simp[hd]⟩
mutual
theorem Dw.reads (hok:HOk P w H h)(KX:K.In h):∀(d:WData) (v:V) (u:Value),Dw K H v d→aZ v u→∃as,ReadsW R cl h u d as
 |.none,_,_,x,r=>by
  cases x
  cases r
  exact⟨_,ReadsW.none⟩
 |.bool b,_,_,x,r=>by
  cases x
  cases r
  exact⟨_,ReadsW.bool b⟩
 |.int i,_,_,x,r=>by
  cases x
  obtain⟨t,rfl⟩:=r
  exact⟨_,ReadsW.int i t⟩
 |.str s,_,_,x,r=>by
  cases x
  obtain⟨t,rfl⟩:=r
  exact⟨_,ReadsW.str s t⟩
 |.bytes b,_,_,x,r=>by
  cases x
  obtain⟨t,rfl⟩:=r
  exact⟨_,ReadsW.bytes _ t⟩
 |.list ds,_,_,x,r=>by
  cases x with
  |lst hs ha =>
   cases r
   obtain⟨its,o,n,rv,ho,hc,hd⟩:=Bo hok KX hs
   obtain⟨as,hr⟩:=Dw.readsAll hok KX ds _ its ha rv
   exact⟨_,ReadsW.list ho hc hd hr⟩
 |.tuple ds,_,_,x,r=>by
  cases x with
  |tup hs ha =>
   cases r
   obtain⟨its,o,n,rv,ho,hc,hd⟩:=AC hok KX hs
   obtain⟨as,hr⟩:=Dw.readsAll hok KX ds _ its ha rv
   exact⟨_,ReadsW.tuple ho hc hd hr⟩
 |.float _,_,_,x,_=>by cases x
 |.dict _,_,_,x,_=>by cases x
 |.bytearray _,_,_,x,_=>by cases x
 |.set _,_,_,x,_=>by cases x
 |.frozenset _,_,_,x,_=>by cases x
 |.obj _ _,_,_,x,_=>by cases x
theorem Dw.readsAll (hok:HOk P w H h)(KX:K.In h):∀(ds:List WData) (vs:List V) (us:List Value),iC K H vs ds→aT vs us→∃as,ReadsAllW R cl h us ds as
 |[],_,_,x,r=>by
  cases x
  cases r
  exact⟨_,ReadsAllW.nil⟩
 |d :: ds,_,_,x,r=>by
  cases x with
  |cons h1 h2 =>
   cases r with
   |cons r1 r2 =>
    obtain⟨as,q1⟩:=Dw.reads hok KX d _ _ h1 r1
    obtain⟨bs,q2⟩:=Dw.readsAll hok KX ds _ _ h2 r2
    exact⟨_,ReadsAllW.cons q1 q2⟩
end
end
mutual
def plW:WData→Bool
 |.none=>true
 |.bool _=>true
 |.int _=>true
 |.str _=>true
 |.bytes _=>true
 |.list xs=>lN xs
 |.tuple xs=>lN xs
 |_=>false
def lN:List WData→Bool
 |[]=>true
 |x :: r=>plW x&&lN r
end
theorem rg {α:Type}{f:α→WData}(h:∀a,plW (f a)=true):∀l:List α,lN (l.map f)=true
 |[]=>rfl
 |x :: r=>by
  show(plW (f x)&&lN (r.map f))=true
  rw[h x,rg h r]<;>rfl
theorem i8:∀(c:Codec) (a:c.denote),plW (c.enc a)=true
 |.unit,_=>rfl
 |.bool,_=>rfl
 |.int _ _,_=>rfl
 |.nat _ _,_=>rfl
 |.u8,_=>rfl
 |.bytes _ _,_=>rfl
 |.text _ _ _ _,_=>rfl
 |.list _ _ c,a=>rg (fun x=>i8 c x) a
 |.pair c d,a=>by
  show(plW (c.enc a.1)&&(plW (d.enc a.2)&&true))=true
  rw[i8 c a.1,i8 d a.2]<;>rfl
 |.triple c d e,a=>by
  show(plW (c.enc a.1)&&(plW (d.enc a.2.1)&&(plW (e.enc a.2.2)&&true)))=true
  rw[i8 c a.1,i8 d a.2.1,i8 e a.2.2]<;>rfl
 |.option c,none=>rfl
 |.option c,some x=>i8 c x
theorem oP:∀(cs:List Codec) (a:Codec.denoteAll cs),lN (Codec.encAll cs a)=true
 |[],_=>rfl
 |c :: cs,a=>by
  show(plW (c.enc a.1)&&lN (Codec.encAll cs a.2))=true
  rw[i8 c a.1,oP cs a.2]<;>rfl
theorem jE:∀{xs:List WData} {d:WData},d∈xs→d.weight≤WData.weightAll xs
 |[],d,h=>absurd h (by simp)
 |x :: r,d,h=>by
  show d.weight≤x.weight+1+WData.weightAll r
  rcases List.mem_cons.mp h with e|m
  ·rw[e]
   omega
  ·have z:=jE m
   omega
def toV:Value→V
 |.none=>.non
 |.bool b=>.bl b
 |.int i _=>.int i
 |.str x _=>.str x
 |.bytes b _=>.byt b
 |.ref a=>.ref a
 |_=>.non
def OkU (A:List Addr):Value→Prop
 |.none=>True
 |.bool _=>True
 |.int _ _=>True
 |.str _ _=>True
 |.bytes _ _=>True
 |.ref a=>a∈A
 |_=>False
theorem OkU.mono {A B:List Addr}(h:∀a∈A,a∈B):∀{u:Value},OkU A u→OkU B u:=fun {u} x=>by
 cases u with
 |ref a=>exact h a x
 |none=>trivial
 |bool b=>trivial
 |int i t=>trivial
 |str s t=>trivial
 |bytes b t=>trivial
 |_=>exact False.elim x
theorem x6 {A:List Addr}{u:Value}(x:OkU A u):aZ (toV u) u:=by
 cases u with
 |ref a=>rfl
 |none=>rfl
 |bool b=>rfl
 |int i t=>exact⟨t,rfl⟩
 |str s t=>exact⟨t,rfl⟩
 |bytes b t=>exact⟨t,rfl⟩
 |_=>exact False.elim x
theorem gQ {A:List Addr}:∀{vs:List Value},(∀u∈vs,OkU A u)→aT (vs.map toV) vs
 |[],_=>.nil
 |u :: r,h=>.cons (x6 (h u (List.mem_cons_self ..))) (gQ fun x hx=>h x (List.mem_cons_of_mem _ hx))
def iF (h:Heap)(A:List Addr)(a:Addr):Prop:=∃vs:List Value,vs.length≤sizeLine∧(∀u∈vs,OkU A u) ∧
 (h.get? a=some { cls:=.type "list",data:=.seq vs.toArray }∨h.get? a=some { cls:=.type "tuple",data:=.seq vs.toArray })
theorem iF.mono {h:Heap}{A B:List Addr}{a:Addr}(k:∀a∈A,a∈B)(x:iF h A a):iF h B a:=by
 obtain⟨vs,h1,h2,h3⟩:=x
 exact⟨vs,h1,fun u hu=>(h2 u hu).mono k,h3⟩
theorem gy {P:Params}{h:Heap}:∀{vs:List Value} {ds:List WData},WellAll P h vs ds→vs.length=ds.length
 |_,_,.nil=>rfl
 |_,_,.cons _ b=>by
  show _+1=_+1
  rw[gy b]
theorem oU {P:Params}{h:Heap}{v:Value}{ds:List WData}(x:Well P h v (.list ds)):∃(a:Addr) (vs:List Value),v=.ref a∧h.get? a=some { cls:=.type "list",data:=.seq vs.toArray }∧WellAll P h vs ds:=by
 cases x with
 |list ho hall=>exact⟨_,_,rfl,ho,hall⟩
theorem nN {P:Params}{h:Heap}{v:Value}{ds:List WData}(x:Well P h v (.tuple ds)):∃(a:Addr) (vs:List Value),v=.ref a∧h.get? a=some { cls:=.type "tuple",data:=.seq vs.toArray }∧WellAll P h vs ds:=by
 cases x with
 |tuple ho hall=>exact⟨_,_,rfl,ho,hall⟩
theorem o0 {P:Params}{h:Heap}{us:List Value}{d:WData}{ds:List WData}(x:WellAll P h us (d :: ds)):∃(v:Value) (vs:List Value),us=v :: vs∧Well P h v d∧WellAll P h vs ds:=by
 cases x with
 |cons a b=>exact⟨_,_,rfl,a,b⟩
theorem pJ {n:Nat}(h:n≤1048576):n≤sizeLine:=Nat.le_trans h (by decide)
section
variable  {P:Params}{h:Heap}
mutual
theorem wQ:∀(d:WData) (v:Value),Well P h v d→plW d=true→d.weight≤1048576→∃A:List Addr,OkU A v∧∀a∈A,iF h A a
 |.none,_,x,_,_=>by
  cases x
  exact⟨[],trivial,fun a m=>absurd m (by simp)⟩
 |.bool b,_,x,_,_=>by
  cases x
  exact⟨[],trivial,fun a m=>absurd m (by simp)⟩
 |.int i,_,x,_,_=>by
  cases x
  exact⟨[],trivial,fun a m=>absurd m (by simp)⟩
 |.str s,_,x,_,_=>by
  cases x
  exact⟨[],trivial,fun a m=>absurd m (by simp)⟩
 |.bytes b,_,x,_,_=>by
  cases x
  exact⟨[],trivial,fun a m=>absurd m (by simp)⟩
 |.list ds,_,x,p,z=>by
  obtain⟨a,vs,rfl,ho,hall⟩:=oU x
  have z2:WData.weightAll ds≤1048576:=z
  obtain⟨A,h1,h2⟩:=ke ds _ hall p fun d hd=>Nat.le_trans (jE hd) z2
  have k:∀b∈A,b∈a :: A:=fun b hb=>List.mem_cons_of_mem _ hb
  refine⟨a :: A,List.mem_cons_self ..,fun b hb=>?_⟩
  rcases List.mem_cons.mp hb with e|m
  ·rw[e]
   exact⟨vs,pJ (by rw[gy hall];exact Nat.le_trans (PySem.W.length_le_weightAllW ds) z2),fun u hu=>(h1 u hu).mono k,.inl ho⟩
  ·exact(h2 b m).mono k
 |.tuple ds,_,x,p,z=>by
  obtain⟨a,vs,rfl,ho,hall⟩:=nN x
  have z2:WData.weightAll ds≤1048576:=z
  obtain⟨A,h1,h2⟩:=ke ds _ hall p fun d hd=>Nat.le_trans (jE hd) z2
  have k:∀b∈A,b∈a :: A:=fun b hb=>List.mem_cons_of_mem _ hb
  refine⟨a :: A,List.mem_cons_self ..,fun b hb=>?_⟩
  rcases List.mem_cons.mp hb with e|m
  ·rw[e]
   exact⟨vs,pJ (by rw[gy hall];exact Nat.le_trans (PySem.W.length_le_weightAllW ds) z2),fun u hu=>(h1 u hu).mono k,.inr ho⟩
  ·exact(h2 b m).mono k
 |.float _,_,_,p,_=>Bool.noConfusion (show false=true from p)
 |.dict _,_,_,p,_=>Bool.noConfusion (show false=true from p)
 |.bytearray _,_,_,p,_=>Bool.noConfusion (show false=true from p)
 |.set _,_,_,p,_=>Bool.noConfusion (show false=true from p)
 |.frozenset _,_,_,p,_=>Bool.noConfusion (show false=true from p)
 |.obj _ _,_,_,p,_=>Bool.noConfusion (show false=true from p)
theorem ke:∀(ds:List WData) (vs:List Value),WellAll P h vs ds→lN ds=true→(∀d∈ds,d.weight≤1048576)→∃A:List Addr,(∀u∈vs,OkU A u)∧∀a∈A,iF h A a
 |[],_,x,_,_=>by
  cases x
  exact⟨[],fun u m=>absurd m (by simp),fun a m=>absurd m (by simp)⟩
 |d :: ds,_,x,p,z=>by
  obtain⟨v,vs,rfl,x1,x2⟩:=o0 x
  have q:plW d=true∧lN ds=true:=Bool.and_eq_true_iff.mp p
  obtain⟨A,a1,a2⟩:=wQ d v x1 q.1 (z d (List.mem_cons_self ..))
  obtain⟨B,b1,b2⟩:=ke ds vs x2 q.2 fun e he=>z e (List.mem_cons_of_mem _ he)
  have kA:∀b∈A,b∈A++B:=fun b hb=>List.mem_append.mpr (.inl hb)
  have kB:∀b∈B,b∈A++B:=fun b hb=>List.mem_append.mpr (.inr hb)
  refine⟨A++B,fun u hu=>?_,fun b hb=>?_⟩
  ·rcases List.mem_cons.mp hu with e|m
   ·rw[e]
    exact a1.mono kA
   ·exact(b1 u m).mono kB
  ·rcases List.mem_append.mp hb with m|m
   ·exact(a2 b m).mono kA
   ·exact(b2 b m).mono kB
end
end
def ym (o:Obj):Option HO:=match o.data with
 |.seq vs _=>if (o.cls==Value.type "list")=true then some (.frz o (.lst (vs.toList.map toV))) else some (.frz o (.tup (vs.toList.map toV)))
 |_=>none
def ia (K:Frag)(h:Heap)(A:List Addr):Hp:=fun b=>if b∈A then (if (K.lookup b).isNone=true then (h.get? b).bind ym else none) else none
def rL (H:Hp):Prop:=∀b,H b=none∨∃o u,H b=some (.frz o u)
theorem rk (vs:List Value):ym { cls:=.type "list",data:=.seq vs.toArray }=some (.frz { cls:=.type "list",data:=.seq vs.toArray } (.lst (vs.map toV))):=by
 show(if (Value.type "list"==Value.type "list")=true then some (HO.frz { cls:=.type "list",data:=.seq vs.toArray } (.lst (vs.toArray.toList.map toV))) else some (HO.frz { cls:=.type "list",data:=.seq vs.toArray } (.tup (vs.toArray.toList.map toV))))=_
 rw[if_pos (beq_self_eq_true _)]
theorem qz (vs:List Value):ym { cls:=.type "tuple",data:=.seq vs.toArray }=some (.frz { cls:=.type "tuple",data:=.seq vs.toArray } (.tup (vs.map toV))):=by
 show(if (Value.type "tuple"==Value.type "list")=true then some (HO.frz { cls:=.type "tuple",data:=.seq vs.toArray } (.lst (vs.toArray.toList.map toV))) else some (HO.frz { cls:=.type "tuple",data:=.seq vs.toArray } (.tup (vs.toArray.toList.map toV))))=_
 rw[if_neg (by decide)]
section
variable  {P:Program}{w:World}{K:Frag}{h:Heap}{A:List Addr}
theorem lY {b:Addr}{o:Obj}(hb:b∈A)(hk:K.lookup b=none)(e:h.get? b=some o):ia K h A b=ym o:=by
 unfold ia
 rw[if_pos hb,hk,if_pos (show(none:Option Obj).isNone=true from rfl),e]<;>rfl
theorem zb {b:Addr}{u:HO}(q:ia K h A b=some u):b∈A∧K.lookup b=none:=by
 unfold ia at q
 by_cases hb:b∈A
 ·rw[if_pos hb]at q
  cases hk:K.lookup b with
  |none=>exact⟨hb,rfl⟩
  |some o =>
   rw[hk,if_neg (by simp)]at q
   cases q
 ·rw[if_neg hb]at q
  cases q
theorem l6 (ar:∀a∈A,iF h A a){b:Addr}{u:HO}(q:ia K h A b=some u):K.lookup b=none∧∃vs:List Value,vs.length≤sizeLine∧(∀u∈vs,OkU A u) ∧
  ((h.get? b=some { cls:=.type "list",data:=.seq vs.toArray }∧u=.frz { cls:=.type "list",data:=.seq vs.toArray } (.lst (vs.map toV))) ∨
   (h.get? b=some { cls:=.type "tuple",data:=.seq vs.toArray }∧u=.frz { cls:=.type "tuple",data:=.seq vs.toArray } (.tup (vs.map toV)))):=by
 obtain⟨hb,hk⟩:=zb q
 obtain⟨vs,h1,h2,h3⟩:=ar b hb
 refine⟨hk,vs,h1,h2,?_⟩
 rcases h3 with e|e
 ·rw[lY hb hk e,rk]at q
  exact .inl ⟨e,(osi q).symm⟩
 ·rw[lY hb hk e,qz]at q
  exact .inr ⟨e,(osi q).symm⟩
theorem vN (ar:∀a∈A,iF h A a):rL (ia K h A):=fun b=>by
 cases q:ia K h A b with
 |none=>exact .inl rfl
 |some u =>
  obtain⟨_,vs,_,_,⟨_,e⟩|⟨_,e⟩⟩:=l6 ar q
  ·exact .inr ⟨_,_,by rw[e]⟩
  ·exact .inr ⟨_,_,by rw[e]⟩
theorem y6 (ar:∀a∈A,iF h A a):HOk P w (ia K h A) h:=fun b u q=>by
 obtain⟨_,vs,h1,h2,⟨e,rfl⟩|⟨e,rfl⟩⟩:=l6 ar q
 ·exact⟨e,by rw[lmp];exact h1,vs,_,gQ h2,e⟩
 ·exact⟨e,by rw[lmp];exact h1,vs,gQ h2,_,e,rfl,_,rfl⟩
theorem lT {c c':Value}{vs us:List Value}(e:(some { cls:=c,data:=.seq vs.toArray }:Option Obj)=some { cls:=c',data:=.seq us.toArray }):c=c'∧vs=us:=by
 have e1:=osi e
 have e2:c=c':=congrArg Obj.cls e1
 have e3:Data.seq vs.toArray=Data.seq us.toArray:=congrArg Obj.data e1
 injection e3 with e4
 refine⟨e2,?_⟩
 have e5:=congrArg Array.toList e4
 simpa using e5
theorem Eb (KX:K.In h)(ar:∀a∈A,iF h A a){a:Addr}{vs:List Value}(ha:a∈A) (e:h.get? a=some { cls:=.type "list",data:=.seq vs.toArray }):(∀u∈vs,OkU A u)∧SqL K (ia K h A) a (vs.map toV):=by
 obtain⟨us,h1,h2,h3⟩:=ar a ha
 have hu:us=vs:=by
  rcases h3 with q|q
  ·rw[e]at q
   exact(lT q).2.symm
  ·rw[e]at q
   exact absurd (Value.type.inj (lT q).1) (by decide)
 subst hu
 refine⟨h2,?_⟩
 cases hk:K.lookup a with
 |none=>exact .inl (.inr ⟨_,by rw[lY ha hk e,rk]⟩)
 |some o =>
  have e2:=KX a o hk
  rw[e]at e2
  obtain rfl:=osi e2
  exact .inr ⟨_,us.toArray,_,hk,rfl,rfl,rfl,by rw[List.size_toArray];exact h1,by simpa using gQ h2⟩
theorem DM (KX:K.In h)(ar:∀a∈A,iF h A a){a:Addr}{vs:List Value}(ha:a∈A) (e:h.get? a=some { cls:=.type "tuple",data:=.seq vs.toArray }):(∀u∈vs,OkU A u)∧SqT K (ia K h A) a (vs.map toV):=by
 obtain⟨us,h1,h2,h3⟩:=ar a ha
 have hu:us=vs:=by
  rcases h3 with q|q
  ·rw[e]at q
   exact absurd (Value.type.inj (lT q).1) (by decide)
  ·rw[e]at q
   exact(lT q).2.symm
 subst hu
 refine⟨h2,?_⟩
 cases hk:K.lookup a with
 |none=>exact .inl (.inr ⟨_,by rw[lY ha hk e,qz]⟩)
 |some o =>
  have e2:=KX a o hk
  rw[e]at e2
  obtain rfl:=osi e2
  exact .inr ⟨_,us.toArray,_,hk,rfl,rfl,by rw[List.size_toArray];exact h1,by simpa using gQ h2⟩
mutual
theorem Aq {Pm:Params}(KX:K.In h)(ar:∀a∈A,iF h A a):∀(d:WData) (v:Value),Well Pm h v d→plW d=true→OkU A v→Dw K (ia K h A) (toV v) d
 |.none,_,x,_,_=>by
  cases x
  exact .non
 |.bool b,_,x,_,_=>by
  cases x
  exact .bl b
 |.int i,_,x,_,_=>by
  cases x
  exact .int i
 |.str s,_,x,_,_=>by
  cases x
  exact .str s
 |.bytes b,_,x,_,_=>by
  cases x
  have z:=Dw.byt (K:=K) (H:=ia K h A) b.toArray
  exact z
 |.list ds,_,x,p,hu=>by
  obtain⟨a,vs,rfl,ho,hall⟩:=oU x
  obtain⟨h2,hs⟩:=Eb KX ar hu ho
  exact .lst hs (pM KX ar ds _ hall p h2)
 |.tuple ds,_,x,p,hu=>by
  obtain⟨a,vs,rfl,ho,hall⟩:=nN x
  obtain⟨h2,hs⟩:=DM KX ar hu ho
  exact .tup hs (pM KX ar ds _ hall p h2)
 |.float _,_,_,p,_=>Bool.noConfusion (show false=true from p)
 |.dict _,_,_,p,_=>Bool.noConfusion (show false=true from p)
 |.bytearray _,_,_,p,_=>Bool.noConfusion (show false=true from p)
 |.set _,_,_,p,_=>Bool.noConfusion (show false=true from p)
 |.frozenset _,_,_,p,_=>Bool.noConfusion (show false=true from p)
 |.obj _ _,_,_,p,_=>Bool.noConfusion (show false=true from p)
theorem pM {Pm:Params}(KX:K.In h)(ar:∀a∈A,iF h A a):∀(ds:List WData) (vs:List Value),WellAll Pm h vs ds→lN ds=true→(∀u∈vs,OkU A u)→iC K (ia K h A) (vs.map toV) ds
 |[],_,x,_,_=>by
  cases x
  exact .nil
 |d :: ds,_,x,p,hu=>by
  obtain⟨v,vs,rfl,x1,x2⟩:=o0 x
  have q:plW d=true∧lN ds=true:=Bool.and_eq_true_iff.mp p
  exact .cons (Aq KX ar d v x1 q.1 (hu _ (List.mem_cons_self ..))) (pM KX ar ds vs x2 q.2 fun u m=>hu u (List.mem_cons_of_mem _ m))
end
end
theorem vQ {P:Program}{w:World}{K:Frag}{mg mb:Str→Option Value}{CX:CXT}{k:Nat}{fa:Addr}{fd:FuncData}{ps:List Str}{sp:Sp}{s₁:Shared}{vals:List Value}{ds:List WData}{R:PySem.W.WRecords}{cl:Str→Option Addr}{d0:WData}
  (KX:K.In s₁.heap) (hns:s₁.heap.Ns mainGlobals mg) (hb:s₁.heap.Ns builtinsNs mb) (hbb:∀x:Str,x≠"__name__"→mb x=bootBuiltins x) (hlim:s₁.heap.NoLimit) (hg:s₁.gens=#[])
  (hwl:WellAll w.params s₁.heap vals ds) (hpl:lN ds=true) (hwt:∀d∈ds,d.weight≤1048576) (hr:bu k callerA)
  (F:∀base:Heap,K.In base→base.Ns mainGlobals mg→jw P w K mg base CX k fa fd ps sp) (hbind:∀(s:Shared) (us:List Value),us.length=ps.length→BindsTo s fd ⟨us,[]⟩ (ps.zip us)) (hlen:ds.length=ps.length)
  (hsp:∀(H:Hp) (xs:List V),rL H→iC K H xs ds→sp xs H (fun v H'=>Dw K H' v d0) fun _ _ _=>False)
  (hCX:∀H e s',CX [] H s₁ (fun _ _ _=>False) e s'→False) :
  codeAny (model P w) callerA (.call (.ref fa) ⟨vals,[]⟩) (fun r s'=>∃u as,r=.ok (.ret u)∧ReadsW R cl s'.heap u d0 as∧OldK s₁.heap s'.heap∧s'.os=s₁.os∧AllBare s'.gens) s₁:=by
 obtain⟨A,ho,ar⟩:=ke ds vals hwl hpl hwt
 have hO:rL (ia K s₁.heap A):=vN ar
 have hok:HOk P w (ia K s₁.heap A) s₁.heap:=y6 ar
 have hS:=pM KX ar ds vals hwl hpl ho
 have hV:=gQ ho
 have hK:∀b u,ia K s₁.heap A b=some u→K.lookup b=none:=fun b u q=>(l6 ar q).1
 have noA:∀{b:Addr} {o:Obj} {es:Array DictEntry} {ep:Nat},s₁.heap.get? b=some o→o.data=.dict es ep→ia K s₁.heap A b=none:=fun {b o es ep} e d=>by
  cases q:ia K s₁.heap A b with
  |none=>rfl
  |some u =>
   obtain⟨_,vs,_,_,⟨e2,_⟩|⟨e2,_⟩⟩:=l6 ar q
   ·rw[e2]at e
    cases e
    have d':Data.seq vs.toArray _=Data.dict es ep:=d
    cases d'
   ·rw[e2]at e
    cases e
    have d':Data.seq vs.toArray _=Data.dict es ep:=d
    cases d'
 generalize ia K s₁.heap A=H at hO hok hS hK noA
 have base_of:∀{b:Addr} {o:Obj},s₁.heap.get? b=some o→H b=none→(j7 s₁.heap H).get? b=some o:=fun e n=>qR e n
 have nsK:∀{b:Addr} {m:Str→Option Value},s₁.heap.Ns b m→(j7 s₁.heap H).Ns b m:=fun {b m} ⟨o,es,ep,e,d,r⟩=>⟨o,es,ep,base_of e (noA e d),d,r⟩
 have nK:∀b o,K.lookup b=some o→H b=none:=fun b o e=>by
  cases q:H b with
  |none=>rfl
  |some u =>
   rw[hK b u q]at e
   cases e
 have hKb:K.In (j7 s₁.heap H):=fun b o e=>base_of (KX b o e) (nK b o e)
 have hM:Mod K mg (j7 s₁.heap H):=⟨hKb,nsK hns,⟨mb,nsK hb,hbb⟩,let ⟨mc,h1,h2⟩:=hlim;⟨mc,nsK h1,h2⟩⟩
 have e0:qN P w K mg (j7 s₁.heap H) callerA [] s₁ H:=⟨rfl,hM,fun b o e=>tS e,Nat.le_of_eq (pk _ _),trivial,fun b hb=>absurd (show b∈([]:List Addr) from hb) (by simp),hok,.of_eq hg⟩
 have hl:vals.length=ps.length:=by rw[gy hwl];exact hlen
 refine codeAny_mono ((F _ hKb (nsK hns)).run callerA [] s₁ H ⟨vals,[]⟩ vals (vals.map toV) _ _ hr e0 (hbind s₁ vals hl) hV (hsp H _ hO hS)) fun r s' x=>?_
 cases r with
 |error e=>exact(hCX H e s' x).elim
 |ok fl =>
  cases fl with
  |next=>exact False.elim x
  |brk=>exact False.elim x
  |cont=>exact False.elim x
  |ret u =>
   obtain⟨v,H',os,bare,un,hok',r',q⟩:=x
   have kept:∀b o,s₁.heap.get? b=some o→s'.heap.get? b=some o:=fun b o e=>by
    cases q2:H b with
    |none=>exact un.keep b o e q2 (by intro z;exact absurd (show b∈([]:List Addr) from z) (by simp)) (by simp)
    |some u2 =>
     rcases hO b with z|⟨ob,u3,z⟩
     ·rw[q2]at z
      cases z
     ·have z2:=un.frzs b ob _ z
      obtain⟨e1,_⟩:=hok b _ z
      obtain⟨e2,_⟩:=hok' b _ z2
      rw[e]at e1
      cases e1
      exact e2
   have KX':K.In s'.heap:=fun b o e=>kept b o (KX b o e)
   obtain⟨as,hrd⟩:=Dw.reads (R:=R) (cl:=cl) hok' KX' d0 v u q r'
   exact⟨u,as,rfl,hrd,OldK.of_keep kept,os,bare⟩
theorem nJ {ds:List WData}(h:WData.layableAll ds=true):∀d∈ds,d.weight≤1048576:=fun d hd =>
 (PySem.W.layableW_iff.mp (List.all_eq_true.mp h d hd)).2.2
theorem mq:∀(cs:List Codec) (a:Codec.denoteAll cs),(Codec.encAll cs a).length=cs.length
 |[],_=>rfl
 |c :: cs,a=>by
  show(Codec.encAll cs a.2).length+1=cs.length+1
  rw[mq cs a.2]
theorem walk_spec {r:OpenSpec}{k:Nat}{q:Program}{loose:List Str}{XP:(Str→Option Value)→Heap→Prop}{YP:World→Heap→Prop}{d:DefRec}{K:Params→Frag}{CX:World→CXT}{ps:List Str}{sp:World→Sp}
  (hwell:r.wellSaid=true) (hdf:d.params.defaults=[]) (hlen:r.args.length=ps.length) (hr:bu k callerA)
  (hY:∀(w:World) (h:Heap),YP w h→(K w.params).In h)
  (F:∀(w:World) (mg:Str→Option Value) (fa:Addr) (h:Heap),YP w h→(K w.params).In h→h.Ns mainGlobals mg→mg d.name=some (.ref fa) →
   ∃fd:FuncData,(∀(s:Shared) (us:List Value),us.length=ps.length→BindsTo s fd ⟨us,[]⟩ (ps.zip us)) ∧
    ∀base:Heap,(K w.params).In base→base.Ns mainGlobals mg→jw r.prog w (K w.params) mg base (CX w) k fa fd ps (sp w))
  (hsp:∀(w:World) (H:Hp) (xs:List V) (a:Codec.denoteAll r.args),rL H→Codec.withinAll r.args a=true→Codec.app r.args r.asked a=true→iC (K w.params) H xs (Codec.encAll r.args a) →
   sp w xs H (fun v H'=>Dw (K w.params) H' v (r.ret.enc (Codec.app r.args r.f a))) fun _ _ _=>False)
  (hCX:∀(w:World) (H:Hp) (s:Shared) (e:Value) (s':Shared),CX w [] H s (fun _ _ _=>False) e s'→False) :
  PySem.W.WalkOS q loose XP YP r d [] (fun f vs=>PySem.call f vs):=by
 intro w s_0 s₁ mg mb G Y fa o pm cd doc dV kV ho hd hcd hD hmg hg args vals as hpre hlay hrd hwl hlo
 obtain⟨a,e1,e2⟩:=PySem.W.os_pre_some hpre
 obtain⟨e3,hwi⟩:=Codec.encAll_of_decAll r.args args a e1
 subst e3
 have KX:=hY w _ Y
 obtain⟨fd,hb,hF⟩:=F w mg fa _ Y KX G.T.g hmg
 refine PySem.W.enter_call (codeAny_mono (vQ (R:=[]) (cl:=classAt s_0.heap) (d0:=r.ret.enc (Codec.app r.args r.f a)) KX G.T.g G.T.b G.T.builtins G.T.nolimit hg hwl (oP _ _) (nJ hlay) hr hF hb (by rw[mq];exact hlen)
  (fun H xs hO hS=>hsp w H xs a hO hwi e2 hS) fun H e s'=>hCX w H s₁ e s') fun r' s' hq=>?_)
 obtain⟨u,as',rfl,h1,h2,h3,h4⟩:=hq
 exact⟨.inl ⟨u,_,as',rfl,fun _=>rfl,h1,(OpenSpec.post_iff hwell hwi _ _).mpr rfl,fun z=>Bool.noConfusion (show false=true from z)⟩,h2,h3,h4⟩
theorem sX {r:OpenSpec}{k:Nat}{q:Program}{loose:List Str}{XP:(Str→Option Value)→Heap→Prop}{YP:World→Heap→Prop}{d:DefRec}{K:Params→Frag}{CX:CXT}{ps:List Str}{sp:Frag→Sp}
  (hwell:r.wellSaid=true) (hdf:d.params.defaults=[]) (hlen:r.args.length=ps.length) (hr:bu k callerA)
  (hY:∀(w:World) (h:Heap),YP w h→(K w.params).In h)
  (F:∀(w:World) (mg:Str→Option Value) (fa:Addr) (h:Heap),YP w h→(K w.params).In h→h.Ns mainGlobals mg→mg d.name=some (.ref fa) →
   ∃fd:FuncData,(∀(s:Shared) (us:List Value),us.length=ps.length→BindsTo s fd ⟨us,[]⟩ (ps.zip us)) ∧
    ∀base:Heap,(K w.params).In base→base.Ns mainGlobals mg→jw r.prog w (K w.params) mg base CX k fa fd ps (sp (K w.params)))
  (hsp:∀(K:Frag) (H:Hp) (xs:List V) (a:Codec.denoteAll r.args),rL H→Codec.withinAll r.args a=true→Codec.app r.args r.asked a=true→iC K H xs (Codec.encAll r.args a) →
   sp K xs H (fun v H'=>Dw K H' v (r.ret.enc (Codec.app r.args r.f a))) fun _ _ _=>False)
  (hCX:∀(H:Hp) (s:Shared) (e:Value) (s':Shared),CX [] H s (fun _ _ _=>False) e s'→False) :
  PySem.W.WalkOS q loose XP YP r d [] (fun f vs=>PySem.call f vs) :=
 walk_spec (K:=K) (CX:=fun _=>CX) (sp:=fun w=>sp (K w.params)) hwell hdf hlen hr hY F (fun w H xs a h1 h2 h3 h4=>hsp (K w.params) H xs a h1 h2 h3 h4) fun _ H s e s'=>hCX H s e s'
end L2
namespace L2
open PySem PySem.Spec PyProof.Rows
def jn (s:Stmt)(j:Nat):Stmt:=match s with
 |.ClassDef _ _ _ body _ _ _ _ _ _ _=>body.getD j (.Pass ⟨0,0,0,0⟩)
 |_=>.Pass ⟨0,0,0,0⟩
def cD (s:Stmt):Arguments:=match s with
 |.FunctionDef _ a _ _ _ _ _ _ _ _=>a
 |_=>{ posonlyargs:=[],args:=[],vararg:=none,kwonlyargs:=[],kw_defaults:=[],kwarg:=none,defaults:=[] }
def bM (s:Stmt):List Stmt:=match s with
 |.FunctionDef _ _ b _ _ _ _ _ _ _=>b
 |_=>[]
def ah (s:Stmt):Scope:=match s with
 |.FunctionDef _ _ _ _ _ _ sc _ _ _=>sc
 |_=>{ kind:=.function,names:=[],isGenerator:=false,isCoroutine:=false }
abbrev CX0:CXT:=fun _ _ _ _ _ _=>False
abbrev E0:XK:=fun _ _ _=>False
theorem tV {X:Cx}:jA CX0 X E0:=fun _ _ _ _ _ _ _ h=>h.elim
structure Fun (K:Frag)(x qual:Str)(st:Stmt)(f:Addr)(fd:FuncData):Prop where
 ex:∃(oc:Value) (od:Option Addr) (kV doc pm:Value) (an:Option Addr) (cdv ct:Value) (osl:Array (Option Value)),
  fd=PySem.W.fnOf x qual (cD st) (bM st) (ah st) .none kV doc pm an cdv ct∧K.lookup f=some ⟨oc,od,.func fd,osl⟩∧PySem.W.codeIn K cdv qual=true
 kp:PySem.W.keepIn K (.ref f)=true
section
variable  {P:Program}{w:World}{K:Frag}{mg:Str→Option Value}{base:Heap}
theorem Fun.ok {x qual:Str}{st:Stmt}{f:Addr}{fd:FuncData}{N ps:List Str}{k:Nat}{sp:Sp}(F:Fun K x qual st f fd)(S:aq N ps (ah st))(len:∀vs H Q E,sp vs H Q E→vs.length=ps.length)
  (hbody:∀(cdv:Value) (A:Around) (outer:List Env) (s:Shared) (H:Hp) (vs:List V) (Q:VK) (E:XK),bu k (A.deeper (envOfC qual (ah st) s.heap.objs.size f cdv))→sp vs H Q E →
   ∃t,PSs (qg CX0 P w K mg base N qual (ah st) f cdv A outer s H E).nox (bM st) t∧t { nx:=fun _ H'=>Q .non H',rt:=Q } (start N vs) H):jw P w K mg base CX0 (k+1) f fd ps sp:=by
 obtain⟨oc,od,kV,doc,pm,an,cdv,ct,osl,rfl,lk,hcd⟩:=F.ex
 refine CB lk hcd S len fun A outer s H vs Q E hr hsp=>?_
 obtain⟨t,h,q⟩:=hbody cdv A outer s H vs Q E hr hsp
 exact⟨t,h.nox,q⟩
theorem sD {x qual:Str}{st:Stmt}{f:Addr}{oc:Value}{od an:Option Addr}{osl:Array (Option Value)}{kV doc pm cdv ct:Value}(l:K.lookup f=some ⟨oc,od,.func (PySem.W.fnOf x qual (cD st) (bM st) (ah st) .none kV doc pm an cdv ct),osl⟩)
  (c:PySem.W.codeIn K cdv qual=true) (k:PySem.W.keepIn K (.ref f)=true):Fun K x qual st f (PySem.W.fnOf x qual (cD st) (bM st) (ah st) .none kV doc pm an cdv ct):=⟨⟨oc,od,kV,doc,pm,an,cdv,ct,osl,rfl,l,c⟩,k⟩
end
section
variable  {X:Cx}
theorem pv (i:Nat){x:Str}{pos:Pos}(hN:X.N[i]? = some x:=by rfl)(hv:Vis X.env.scope x:=by first|exact Or.inl rfl|exact Or.inr (.inl rfl)|exact Or.inr (.inr rfl)) (hd:(x==("__debug__" : Str))=false:=by decide)
  (hcd:(x==("__classdict__" : Str))=false:=by decide):PE X (.Name x pos) (a8 i):=AD hN hv hd hcd
theorem uN:m5 X (.builtin "len") (fun xs H Q=>∃a kvs,xs=[V.ref a]∧H a=some (.dK kvs)∧Q (.int kvs.length) H):=by
 intro pins s σ H xs us Q I r h
 obtain⟨a,kvs,rfl,ha,q⟩:=h
 obtain⟨u,rfl,ru⟩:=wk r
 cases ru
 exact Cg I (.inl ha) fun t s' I'=>⟨.int kvs.length,H,I',⟨t,rfl⟩,q⟩
end
theorem jL {A B:Prop}(h:B):if false=true then A else B:=by
 rw[if_neg Bool.false_ne_true]
 exact h
theorem eA {A B:Prop}(h:A):if true=true then A else B:=by
 rw[if_pos rfl]
 exact h
theorem aS {c A B:Prop}[Decidable c](h1:c→A)(h2:¬c→B):if c then A else B:=by
 by_cases h:c
 ·rw[if_pos h]
  exact h1 h
 ·rw[if_neg h]
  exact h2 h
def ak (H H':Hp):Prop:=∀b o,H b=some o→H' b=some o
theorem ak.refl (H:Hp):ak H H:=fun _ _ h=>h
theorem ak.trans {H H1 H2:Hp}(a:ak H H1)(b:ak H1 H2):ak H H2:=fun c o h=>b c o (a c o h)
theorem ak.free {H H':Hp}(e:ak H H'){l:Addr}(h:H' l=Option.none):H l=Option.none:=by
 cases q:H l with
 |none=>rfl
 |some o =>
  rw[e l o q]at h
  cases h
theorem ak.seq {K:Frag}{H H':Hp}{a:Addr}{xs:List V}(e:ak H H')(h:SqL K H a xs):SqL K H' a xs:=by
 rcases h with(h|⟨o,h⟩)|h
 ·exact .inl (.inl (e _ _ h))
 ·exact .inl (.inr ⟨o,e _ _ h⟩)
 ·exact .inr h
section
variable  {κ:Type}[DecidableEq κ]
end
theorem aA {xs:List V}{z:Int}{j:Nat}{v:V}(e:z=(j:Int))(h:xs[j]? = some v):atI xs z=some v:=by
 rw[e]
 exact qp h
theorem ak.made {H H1:Hp}{x dx C:Addr}(nx:H x=Option.none)(nd:H dx=Option.none)(k:∀b o,(upd (upd H dx (.own x)) x (.ins C dx [])) b=some o→b≠x→H1 b=some o):ak H H1:=fun b o e =>
 k b o (by rw[ap (aQ e nx),ap (aQ e nd)];exact e) (aQ e nx)
end L2
section
namespace LM
open Gla
def fQ (ns:List Int):Bool:=ns.all fun x=>decide (0≤x)&&decide (x≤65535)
def isL (ns:List Int):Bool:=decide (ns.length=32)&&fQ ns
def cF (ns:List Int):Bool:=decide (ns.length % 32=0)&&fQ ns
def cnt (ns:List Int):Nat:=ns.length / 32
def lat (ns:List Int)(k:Nat):List Int:=(ns.drop (32*k)).take 32
def apI (xs ys:List Int):Int:=((xs.zip ys).map fun p=>(p.1-p.2)*(p.1-p.2)).sum
def thI (xs ys:List Int):List Int:=(xs.zip ys).map fun p=>(p.1*p.2+32767) / 65535
def BK {α:Type}(f:α→Int):List α→Option α
 |[]=>none
 |x :: r=>match BK f r with
  |none=>some x
  |some y=>if f y<f x then some y else some x
theorem io:∀{l:List Int},(∀x∈l,0≤x)→(l.map Int.toNat).map (fun n:Nat=>(n:Int))=l
 |[],_=>rfl
 |x :: r,h=>by
  have h1:=h x List.mem_cons_self
  show((x.toNat:Nat):Int) :: (r.map Int.toNat).map (fun n:Nat=>(n:Int))=x :: r
  rw[io fun y hy=>h y (List.mem_cons_of_mem _ hy)]
  congr 1
  omega
theorem mL:∀{l:List Int},(∀x∈l,0≤x)→l.mapM LightNeutral.nat=some (l.map Int.toNat)
 |[],_=>rfl
 |x :: r,h=>by
  have h1:=h x List.mem_cons_self
  rw[List.mapM_cons,mL fun y hy=>h y (List.mem_cons_of_mem _ hy)]
  have e:LightNeutral.nat x=some x.toNat:=by
   unfold LightNeutral.nat
   rw[if_neg (by omega)]
  rw[e]
  rfl
def i9:Nat→List Nat→List (List Nat)
 |0,_=>[]
 |k+1,l=>if l.isEmpty=true then [] else l.take 32 :: i9 k (l.drop 32)
theorem kS:∀(k:Nat) {l:List Int},(∀x∈l,0≤x)→LightNeutral.lights k l=some (i9 k (l.map Int.toNat))
 |0,_,_=>rfl
 |k+1,l,h=>by
  unfold LightNeutral.lights i9
  cases l with
  |nil=>rfl
  |cons a r =>
   rw[if_neg (by simp),if_neg (by simp)]
   rw[mL fun x hx=>h x (List.mem_of_mem_take hx),kS k fun x hx=>h x (List.mem_of_mem_drop hx)]
   rw[List.map_take,List.map_drop]
   rfl
theorem mQ:∀(n k:Nat) (l:List Nat),l.length=32*n→n<k→i9 k l=(List.range n).map fun i=>(l.drop (32*i)).take 32
 |_,0,_,_,h=>absurd h (by omega)
 |0,k+1,l,e,_=>by
  have:l=[]:=List.length_eq_zero_iff.mp (by omega)
  subst this
  rfl
 |n+1,k+1,l,e,h=>by
  unfold i9
  have ne:l.isEmpty=false:=by
   cases l with
   |nil=>simp at e
   |cons a r=>rfl
  rw[ne,if_neg (by decide),mQ n k (l.drop 32) (by rw[List.length_drop];omega) (by omega),List.range_succ_eq_map,List.map_cons,List.map_map]
  congr 1
  apply List.map_congr_left
  intro i _
  simp only[Function.comp]
  rw[List.drop_drop,show 32+32*i=32*(i+1) by omega]
theorem mB:∀(k:Nat) (l:List Nat),l.length<k→¬l.length % 32=0→(i9 k l).all lightOk=false
 |0,_,h,_=>absurd h (by omega)
 |k+1,l,h,hm=>by
  unfold i9
  have ne:l.isEmpty=false:=by
   cases l with
   |nil=>exact absurd rfl hm
   |cons a r=>rfl
  rw[ne,if_neg (by decide),List.all_cons]
  by_cases c:l.length<32
  ·have:lightOk (l.take 32)=false:=by
    unfold lightOk
    have:((l.take 32).length==BANDS)=false:=by
     rw[List.length_take]
     simp only[BANDS,beq_eq_false_iff_ne,ne_eq]
     intro e
     have:l.length≠0:=by intro z;rw[z]at hm;exact hm rfl
     omega
    rw[this]
    rfl
   rw[this]
   rfl
  ·rw[mB k (l.drop 32) (by rw[List.length_drop];omega) (by rw[List.length_drop];omega),Bool.and_false]
theorem eE {ns:List Int}:fQ ns=true↔∀x∈ns,0≤x∧x≤65535:=by
 unfold fQ
 rw[List.all_eq_true]
 constructor
 ·intro h x hx
  have:=h x hx
  simp only[Bool.and_eq_true,decide_eq_true_eq]at this
  exact this
 ·intro h x hx
  simp only[Bool.and_eq_true,decide_eq_true_eq]
  exact h x hx
theorem iM {l:List Nat}:lightOk l=true↔l.length=32∧∀x∈l,x≤65535:=by
 unfold lightOk
 simp only[Bool.and_eq_true,beq_iff_eq,List.all_eq_true,BANDS,FULL]
 exact and_congr Iff.rfl ⟨fun h x hx=>of_decide_eq_true (h x hx),fun h x hx=>dqt (h x hx)⟩
theorem uC {a b:Bool}(h:a=true↔b=true):a=b:=by
 cases a<;>cases b<;>simp_all
theorem nV {ws:List Int}(h:∀x∈ws,0≤x):lightOk (ws.map Int.toNat)=isL ws:=by
 apply uC
 rw[iM]
 unfold isL
 rw[Bool.and_eq_true,eE,decide_eq_true_eq,lmp]
 constructor
 ·rintro⟨h1,h2⟩
  refine⟨h1,fun x hx=>⟨h x hx,?_⟩⟩
  have:=h2 x.toNat (List.mem_map_of_mem hx)
  have:=h x hx
  omega
 ·rintro⟨h1,h2⟩
  refine⟨h1,fun y hy=>?_⟩
  obtain⟨x,hx,rfl⟩:=List.mem_map.mp hy
  have:=h2 x hx
  omega
def aX (gs:List Int):List (List Nat):=i9 (gs.length+1) (gs.map Int.toNat)
theorem d7 {gs:List Int}(hm:gs.length % 32=0):aX gs=(List.range (cnt gs)).map fun i=>(lat gs i).map Int.toNat:=by
 unfold aX
 rw[mQ (cnt gs) _ _ (by rw[lmp];unfold cnt;omega) (by unfold cnt;omega)]
 apply List.map_congr_left
 intro i _
 unfold lat
 rw[List.map_take,List.map_drop]
theorem uu {gs:List Int}(h:∀x∈gs,0≤x):(aX gs).all lightOk=cF gs:=by
 by_cases hm:gs.length % 32=0
 ·rw[d7 hm]
  apply uC
  unfold cF
  rw[Bool.and_eq_true,eE,decide_eq_true_eq,List.all_eq_true]
  constructor
  ·intro q
   refine⟨hm,fun x hx=>⟨h x hx,?_⟩⟩
   obtain⟨j,hj,e⟩:=List.mem_iff_getElem.mp hx
   have q1:=q ((lat gs (j / 32)).map Int.toNat) (List.mem_map_of_mem (List.mem_range.mpr (by unfold cnt;omega)))
   have q2:=(iM.mp q1).2 x.toNat (List.mem_map_of_mem ?_)
   ·have:=h x hx
    omega
   ·unfold lat
    rw[List.mem_iff_getElem?]
    refine⟨j % 32,?_⟩
    rw[List.getElem?_take,if_pos (by omega),List.getElem?_drop,show 32*(j / 32)+j % 32=j by omega,gge hj,e]
  ·rintro⟨_,q⟩ l hl
   obtain⟨i,hi,rfl⟩:=List.mem_map.mp hl
   have hi:=List.mem_range.mp hi
   rw[iM,lmp]
   refine⟨?_,fun y hy=>?_⟩
   ·unfold lat
    rw[List.length_take,List.length_drop]
    unfold cnt at hi
    omega
   ·obtain⟨x,hx,rfl⟩:=List.mem_map.mp hy
    have:=q x (List.mem_of_mem_drop (List.mem_of_mem_take hx))
    omega
 ·unfold aX
  rw[mB _ _ (by rw[lmp];omega) (by rw[lmp];exact hm)]
  unfold cF
  rw[dqf hm]
  rfl
theorem yY (a b:Nat):((bandThrough a b:Nat):Int)=((a:Int)*b+32767) / 65535:=by
 unfold bandThrough FULL
 have e:((a:Int)*b)=((a*b:Nat):Int):=(Int.natCast_mul a b).symm
 rw[e,Nat.mul_assoc]
 generalize a*b=m
 omega
theorem mG:∀(a b:List Nat),(throughBoth a b).map (fun n:Nat=>(n:Int))=thI (a.map fun n:Nat=>(n:Int)) (b.map fun n:Nat=>(n:Int))
 |[],_=>by unfold throughBoth thI;simp
 |_ :: _,[]=>by unfold throughBoth thI;simp
 |x :: r,y :: t=>by
  have ih:=mG r t
  unfold throughBoth thI at ih ⊢
  simp only[List.zipWith_cons_cons,List.map_cons,List.zip_cons_cons]
  rw[←ih,yY]
theorem nS {xs ys:List Int}(hx:∀x∈xs,0≤x)(hy:∀y∈ys,0≤y):(throughBoth (xs.map Int.toNat) (ys.map Int.toNat)).map (fun n:Nat=>(n:Int))=thI xs ys:=by
 rw[mG,io hx,io hy]
theorem oM {xs ys:List Int}(hx:∀x∈xs,0≤x)(hy:∀y∈ys,0≤y):(thI xs ys).map Int.toNat=throughBoth (xs.map Int.toNat) (ys.map Int.toNat):=by
 rw[←nS hx hy,List.map_map]
 conv=>rhs;rw[←List.map_id (throughBoth (xs.map Int.toNat) (ys.map Int.toNat))]
 apply List.map_congr_left
 intro n _
 simp
def tR (gs ws:List Int)(i:Nat):Int:=apI (lat gs i) ws
theorem rQ {gs:List Int}(hm:gs.length % 32=0){i:Nat}(hi:i<cnt gs):(aX gs).getD i []=(lat gs i).map Int.toNat:=by
 rw[d7 hm,List.getD_eq_getElem?_getD,List.getElem?_map,List.getElem?_range hi]
 rfl
theorem j9 {gs:List Int}(h:cF gs=true):gs.length % 32=0:=by
 unfold cF at h
 rw[Bool.and_eq_true,decide_eq_true_eq]at h
 exact h.1
end LM
end
section
namespace WL
def tr6 (ax ay bx by' cx cy:Int):Int:=(bx-ax)*(cy-by')-(by'-ay)*(cx-bx)
theorem idA (ux uy wx wy px py qx qy:Int) :
 -(qy-py)*tr6 ux uy wx wy px py=(wy-uy)*tr6 px py qx qy ux uy+(tr6 px py qx qy wx wy-tr6 px py qx qy ux uy)*(py-uy):=by
 unfold tr6;grind
theorem idB (ux uy wx wy px py qx qy:Int) :
 -(qy-py)*tr6 ux uy wx wy qx qy=(wy-uy)*tr6 px py qx qy ux uy+(tr6 px py qx qy wx wy-tr6 px py qx qy ux uy)*(qy-uy):=by
 unfold tr6;grind
theorem rF (a b A B C D K py qy uy wy:Int)(ha:a=wy-uy)(hb:b=qy-py)(hK:K=D-C)
 (h1:-b*A=a*C+K*(py-uy)) (h2:-b*B=a*C+K*(qy-uy)) (ha0:0<a) (hb0:0<b)
 (hp:py≤uy) (hq:uy<qy) (hw:qy≤wy) (hC:0<C) (hB:0<B):A<0∧D<0:=by
 have e1:0<a*C:=Int.mul_pos ha0 hC
 have e2:0<b*B:=Int.mul_pos hb0 hB
 have e3:K*(qy-uy)<0:=by grind
 have e4:K<0:=by
  apply bcn;intro h
  have:0≤K*(qy-uy):=Int.mul_nonneg (by omega) (by omega)
  omega
 have e5:0≤K*(py-uy):=by
  have:0≤(-K)*(uy-py):=Int.mul_nonneg (by omega) (by omega)
  grind
 have e6:0 < -b*A:=by omega
 constructor
 ·apply bcn;intro h
  have:0≤b*A:=Int.mul_nonneg (by omega) (by omega)
  grind
 ·have e7:a*D=a*C+K*(qy-uy)+K*(wy-qy):=by grind
  have e8:K*(wy-qy)≤0:=by
   have:0≤(-K)*(wy-qy):=Int.mul_nonneg (by omega) (by omega)
   grind
  have e9:a*D<0:=by grind
  apply bcn;intro h
  have:0≤a*D:=Int.mul_nonneg (by omega) (by omega)
  omega
structure Dr where
 n:Nat
 X:Nat→Int
 Y:Nat→Int
 J:Nat→Nat→Prop
def Dr.tr (d:Dr)(i j k:Nat):Int:=tr6 (d.X i) (d.Y i) (d.X j) (d.Y j) (d.X k) (d.Y k)
def Dr.on (d:Dr)(i j k:Nat):Prop :=
 d.tr i j k=0∧min (d.X i) (d.X j)≤d.X k∧d.X k≤max (d.X i) (d.X j)∧min (d.Y i) (d.Y j)≤d.Y k∧d.Y k≤max (d.Y i) (d.Y j)
structure eR (d:Dr):Prop where
 symm:∀{i j},d.J i j→d.J j i
 lt:∀{i j},d.J i j→i<d.n
 ne:∀{i j},d.J i j→i≠j
 ord:∀{i j},i<j→j<d.n→d.Y i<d.Y j∨(d.Y i=d.Y j∧d.X i<d.X j)
 nocross:∀{i j k l},d.J i j→d.J k l→¬(d.tr i j k*d.tr i j l<0∧d.tr k l i*d.tr k l j<0)
 nopt:∀{i j k},d.J i j→k<d.n→k≠i→k≠j→¬d.on i j k
theorem az (a b:Int)(ha:0<a)(hb:b<0):a*b<0:=Int.mul_neg_of_pos_of_neg ha hb
theorem cw (a b:Int)(ha:a<0)(hb:0<b):a*b<0:=Int.mul_neg_of_neg_of_pos ha hb
theorem cu (d:Dr){i j k}(h0:d.tr i j k=0)(h:d.Y i<d.Y j)(h1:d.Y i≤d.Y k)(h2:d.Y k≤d.Y j):d.on i j k:=by
 refine⟨h0,?_,?_,by omega,by omega⟩
 ·apply bcn;intro hc
  have c1:d.X k<d.X i:=by omega
  have c2:d.X k<d.X j:=by omega
  have e:(d.Y j-d.Y k)*(d.X k-d.X i)+(d.Y k-d.Y i)*(d.X k-d.X j)=0:=by
   unfold Dr.tr tr6 at h0;grind
  by_cases hz:d.Y k=d.Y i
  ·have:(d.Y j-d.Y k)*(d.X k-d.X i)<0:=az _ _ (by omega) (by omega)
   have:(d.Y k-d.Y i)*(d.X k-d.X j)=0:=by rw[hz];simp
   omega
  ·have t1:(d.Y k-d.Y i)*(d.X k-d.X j)<0:=az _ _ (by omega) (by omega)
   have t2:0≤(d.Y j-d.Y k)*(d.X i-d.X k):=Int.mul_nonneg (by omega) (by omega)
   grind
 ·apply bcn;intro hc
  have c1:d.X k > d.X i:=by omega
  have c2:d.X k > d.X j:=by omega
  have e:(d.Y j-d.Y k)*(d.X k-d.X i)+(d.Y k-d.Y i)*(d.X k-d.X j)=0:=by
   unfold Dr.tr tr6 at h0;grind
  by_cases hz:d.Y k=d.Y i
  ·have:0<(d.Y j-d.Y k)*(d.X k-d.X i):=Int.mul_pos (by omega) (by omega)
   have:(d.Y k-d.Y i)*(d.X k-d.X j)=0:=by rw[hz];simp
   omega
  ·have t1:0<(d.Y k-d.Y i)*(d.X k-d.X j):=Int.mul_pos (by omega) (by omega)
   have t2:0≤(d.Y j-d.Y k)*(d.X k-d.X i):=Int.mul_nonneg (by omega) (by omega)
   grind
theorem j8 (d:Dr)(i j k:Nat):d.tr j i k=- d.tr i j k:=by unfold Dr.tr tr6;grind
theorem de (d:Dr)(i j k:Nat):d.tr i k j=- d.tr i j k:=by unfold Dr.tr tr6;grind
theorem k7 (d:Dr)(i j k:Nat):d.tr j k i=d.tr i j k:=by unfold Dr.tr tr6;grind
theorem jZ (d:Dr)(i j:Nat):d.tr i j i=0:=by unfold Dr.tr tr6;grind
theorem cK (d:Dr)(i j:Nat):d.tr i j j=0:=by unfold Dr.tr tr6;grind
theorem yE (d:Dr){i j k}(h:d.on i j k):d.on j i k:=by
 obtain⟨h0,h1,h2,h3,h4⟩:=h
 refine⟨by rw[j8];omega,by omega,by omega,by omega,by omega⟩
variable  {d:Dr}
theorem L1 (g:eR d){u w p q:Nat}(huw:d.J u w)(hpq:d.J p q)(h1:d.Y p≤d.Y u)(h2:d.Y u<d.Y q)(h3:d.Y q≤d.Y w)
  (hpu:p≠u) (hqw:q≠w):(d.tr u w q<0∧0<d.tr p q u)∨(0<d.tr u w q∧d.tr p q u<0):=by
 have hun:u<d.n:=g.lt huw
 have hqn:q<d.n:=g.lt (g.symm hpq)
 have nB:d.tr u w q≠0:=by
  intro h
  refine g.nopt huw hqn ?_ hqw (cu d h (by omega) (by omega) h3)
  intro e;subst e;omega
 have nC:d.tr p q u≠0:=by
  intro h
  refine g.nopt hpq hun (Ne.symm hpu) ?_ (cu d h (by omega) (by omega) (by omega))
  intro e;subst e;omega
 have i1:=idA (d.X u) (d.Y u) (d.X w) (d.Y w) (d.X p) (d.Y p) (d.X q) (d.Y q)
 have i2:=idB (d.X u) (d.Y u) (d.X w) (d.Y w) (d.X p) (d.Y p) (d.X q) (d.Y q)
 have n1:=g.nocross huw hpq
 by_cases hB:0<d.tr u w q
 ·by_cases hC:0<d.tr p q u
  ·exfalso
   obtain⟨a1,a2⟩:=rF (d.Y w-d.Y u) (d.Y q-d.Y p) (d.tr u w p) (d.tr u w q) (d.tr p q u) (d.tr p q w) _ (d.Y p) (d.Y q) (d.Y u) (d.Y w) rfl rfl rfl i1 i2 (by omega) (by omega) h1 h2 h3 hC hB
   exact n1 ⟨cw _ _ a1 hB,az _ _ hC a2⟩
  ·right;exact⟨hB,by omega⟩
 ·by_cases hC:0<d.tr p q u
  ·left;exact⟨by omega,hC⟩
  ·exfalso
   have j1:-(d.Y q-d.Y p)*(- d.tr u w p)=(d.Y w-d.Y u)*(- d.tr p q u)+((- d.tr p q w)-(- d.tr p q u))*(d.Y p-d.Y u):=by
    unfold Dr.tr;grind
   have j2:-(d.Y q-d.Y p)*(- d.tr u w q)=(d.Y w-d.Y u)*(- d.tr p q u)+((- d.tr p q w)-(- d.tr p q u))*(d.Y q-d.Y u):=by
    unfold Dr.tr;grind
   obtain⟨a1,a2⟩:=rF (d.Y w-d.Y u) (d.Y q-d.Y p) (- d.tr u w p) (- d.tr u w q) (- d.tr p q u) (- d.tr p q w) _ (d.Y p) (d.Y q) (d.Y u) (d.Y w) rfl rfl rfl j1 j2 (by omega) (by omega) h1 h2 h3 (by omega) (by omega)
   exact n1 ⟨az _ _ (by omega) (by omega),cw _ _ (by omega) (by omega)⟩
theorem oG (a b A B C D K py qy uy wy:Int)(ha:a=wy-uy)(hb:b=qy-py)(hK:K=D-C)
 (h1:-b*A=a*C+K*(py-uy)) (h2:-b*B=a*C+K*(qy-uy)) (ha0:0<a) (hb0:0<b)
 (hp:py≤uy) (hw:wy≤qy) (hC:0<C) (hD:D<0):A<0∧0<B:=by
 have e1:0<a*C:=Int.mul_pos ha0 hC
 have e4:K<0:=by omega
 have e5:0≤K*(py-uy):=by
  have:0≤(-K)*(uy-py):=Int.mul_nonneg (by omega) (by omega)
  grind
 have e7:a*D<0:=az _ _ ha0 hD
 have e8:a*D=a*C+K*(wy-uy):=by grind
 have e9:K*(qy-wy)≤0:=by
  have:0≤(-K)*(qy-wy):=Int.mul_nonneg (by omega) (by omega)
  grind
 have e10:-b*B<0:=by grind
 constructor
 ·apply bcn;intro h
  have:0≤b*A:=Int.mul_nonneg (by omega) (by omega)
  grind
 ·apply bcn;intro h
  have:0≤b*(-B):=Int.mul_nonneg (by omega) (by omega)
  grind
theorem L2 (g:eR d){u w p q:Nat}(huw:d.J u w)(hpq:d.J p q)(h1:d.Y p≤d.Y u)(h2:d.Y u<d.Y w)(h3:d.Y w≤d.Y q)
  (hpu:p≠u) (hqw:q≠w):(d.tr p q u<0∧d.tr p q w<0)∨(0<d.tr p q u∧0<d.tr p q w):=by
 have hun:u<d.n:=g.lt huw
 have hwn:w<d.n:=g.lt (g.symm huw)
 have nC:d.tr p q u≠0:=by
  intro h
  refine g.nopt hpq hun (Ne.symm hpu) ?_ (cu d h (by omega) (by omega) (by omega))
  intro e;subst e;omega
 have nD:d.tr p q w≠0:=by
  intro h
  refine g.nopt hpq hwn ?_ (Ne.symm hqw) (cu d h (by omega) (by omega) (by omega))
  intro e;subst e;omega
 have i1:=idA (d.X u) (d.Y u) (d.X w) (d.Y w) (d.X p) (d.Y p) (d.X q) (d.Y q)
 have i2:=idB (d.X u) (d.Y u) (d.X w) (d.Y w) (d.X p) (d.Y p) (d.X q) (d.Y q)
 have n1:=g.nocross huw hpq
 by_cases hC:0<d.tr p q u
 ·by_cases hD:0<d.tr p q w
  ·right;exact⟨hC,hD⟩
  ·exfalso
   obtain⟨a1,a2⟩:=oG (d.Y w-d.Y u) (d.Y q-d.Y p) (d.tr u w p) (d.tr u w q) (d.tr p q u) (d.tr p q w) _ (d.Y p) (d.Y q) (d.Y u) (d.Y w) rfl rfl rfl i1 i2 (by omega) (by omega) h1 h3 hC (by omega)
   exact n1 ⟨cw _ _ a1 a2,az _ _ hC (by omega)⟩
 ·by_cases hD:0<d.tr p q w
  ·exfalso
   have j1:-(d.Y q-d.Y p)*(- d.tr u w p)=(d.Y w-d.Y u)*(- d.tr p q u)+((- d.tr p q w)-(- d.tr p q u))*(d.Y p-d.Y u):=by
    unfold Dr.tr;grind
   have j2:-(d.Y q-d.Y p)*(- d.tr u w q)=(d.Y w-d.Y u)*(- d.tr p q u)+((- d.tr p q w)-(- d.tr p q u))*(d.Y q-d.Y u):=by
    unfold Dr.tr;grind
   obtain⟨a1,a2⟩:=oG (d.Y w-d.Y u) (d.Y q-d.Y p) (- d.tr u w p) (- d.tr u w q) (- d.tr p q u) (- d.tr p q w) _ (d.Y p) (d.Y q) (d.Y u) (d.Y w) rfl rfl rfl j1 j2 (by omega) (by omega) h1 h3 (by omega) (by omega)
   exact n1 ⟨az _ _ (by omega) (by omega),cw _ _ (by omega) (by omega)⟩
  ·left;exact⟨by omega,by omega⟩
def Dr.base (d:Dr)(u p q:Nat):Bool:=decide (u≠p∧u≠q∧d.Y p≤d.Y u∧d.Y u<d.Y q∧0<d.tr p q u)
def Dr.pre (d:Dr)(u b w:Nat):Bool:=decide (b=w∨(u<b∧w<u)∨(((u<b∧u<w)∨(b<u∧w<u))∧0<d.tr u b w))
def Dr.Om (d:Dr)(u w p q:Nat):Bool :=
 (d.base u p q^^decide (p=u∧d.Y q=d.Y u))^^((decide (p=u)&&d.pre u q w)^^(decide (q=u)&&d.pre u p w))
def Dr.Psi (d:Dr)(u w v:Nat):Bool :=
 if d.Y u<d.Y w then decide (d.Y u<d.Y v∧d.Y v≤d.Y w∧d.tr u w v<0)^^decide (v=w) else false
variable  {d:Dr}
theorem jV (d:Dr)(i j k:Nat)(h:d.Y k=d.Y i):d.tr i j k=(d.Y j-d.Y i)*(d.X i-d.X k):=by
 unfold Dr.tr tr6;grind
theorem oh (d:Dr)(i j k:Nat)(h:d.Y k=d.Y j):d.tr i j k=(d.Y j-d.Y i)*(d.X j-d.X k):=by
 unfold Dr.tr tr6;grind
theorem eq (d:Dr)(i j k:Nat)(h:d.Y i=d.Y j):d.tr i j k=(d.X j-d.X i)*(d.Y k-d.Y j):=by
 unfold Dr.tr tr6;grind
theorem bb {a b:Int}(ha:0<a):(0<a*b↔0<b):=by
 constructor
 ·intro h;apply bcn;intro hb
  have:0≤a*(-b):=Int.mul_nonneg (by omega) (by omega)
  grind
 ·intro h;exact Int.mul_pos ha h
theorem eh {a b:Int}(ha:0<a):(a*b<0↔b<0):=by
 constructor
 ·intro h;apply bcn;intro hb
  have:0≤a*b:=Int.mul_nonneg (by omega) (by omega)
  omega
 ·intro h;exact az _ _ ha h
theorem nz (g:eR d){u w v:Nat}(huw:d.J u w)(hv:v<d.n)(h:d.Y u<d.Y w)(h1:d.Y u≤d.Y v)(h2:d.Y v≤d.Y w)
  (hu:v≠u) (hw:v≠w):d.tr u w v≠0:=by
 intro h0
 exact g.nopt huw hv hu hw (cu d h0 h h1 h2)
theorem qm (g:eR d){u w p q:Nat}(huw:d.J u w)(hpq:d.J p q)(h1:u<w)(h2:p<q)(hy:d.Y u<d.Y w)(hf:d.Y p=d.Y q) :
  ((d.Om u w p q^^d.Om w u p q)^^decide (p=u∧q=w))=(d.Psi u w p^^d.Psi u w q):=by
 have hpn:=g.lt hpq
 have hqn:=g.lt (g.symm hpq)
 have hwn:=g.lt (g.symm huw)
 have hun:=g.lt huw
 have hx:d.X p<d.X q:=by rcases g.ord h2 hqn with h|h<;>omega
 have sA:∀k,d.Y k=d.Y w→(d.tr u w k<0↔d.X w<d.X k):=by
  intro k hk;rw[oh d u w k hk,eh (by omega)];omega
 have mv:d.tr u w q<d.tr u w p:=by
  have:d.tr u w p-d.tr u w q=(d.Y w-d.Y u)*(d.X q-d.X p):=by unfold Dr.tr tr6;grind
  have:0<(d.Y w-d.Y u)*(d.X q-d.X p):=Int.mul_pos (by omega) (by omega)
  omega
 have c1:=de d u q w
 have c2:=k7 d u w p
 have c3:=k7 d w p u
 have base1:d.base u p q=false:=by simp[Dr.base];intros;omega
 have base2:d.base w p q=false:=by simp[Dr.base];intros;omega
 simp only[Dr.Om,base1,base2,Dr.Psi,hy,if_true]
 by_cases hpu:p=u
 ·subst hpu
  have t1:0<d.tr p q w:=by
   rw[eq d p q w hf];exact Int.mul_pos (by omega) (by omega)
  have n1:q≠w:=by intro e;subst e;omega
  have n2:p≠w:=by omega
  have n3:q≠p:=by omega
  simp[Dr.pre,n1,n2,n3,hf,t1,h1,h2]
 by_cases hqu:q=u
 ·subst hqu
  have n1:q≠w:=by omega
  have n2:p≠w:=by omega
  have n3:p≠q:=by omega
  have n4:¬q<p:=by omega
  have n5:¬w<q:=by omega
  have n6:¬q<q:=by omega
  simp[Dr.pre,n1,n2,n3,n4,n5,n6]
  omega
 by_cases hpw:p=w
 ·subst hpw
  have n1:q≠p:=by omega
  have:d.tr u p q<0:=(sA q (by omega)).2 hx
  have z:d.tr u p p=0:=cK d u p
  simp[Dr.pre,n1,hqu,hpu,hf,h2,h1,this,z,hy]
  rw[←hf];simp[hy]
 by_cases hqw:q=w
 ·subst hqw
  have n1:p≠q:=by omega
  have z:d.tr u q q=0:=cK d u q
  have a1:¬d.tr u q p<0:=by rw[sA p hf];omega
  have a2:=nz g huw hpn hy (by omega) (by omega) hpu hpw
  have a3:0<d.tr q p u:=by
   have:=k7 d u q p;omega
  simp[Dr.pre,n1,hpu,hqu,hpw,a1,z,a3]
  omega
 ·
  have goal:(d.Y u<d.Y p∧d.Y p≤d.Y w∧d.tr u w p<0)↔(d.Y u<d.Y q∧d.Y q≤d.Y w∧d.tr u w q<0):=by
   rw[hf]
   by_cases hr:d.Y u<d.Y q∧d.Y q≤d.Y w
   ·obtain⟨r1,r2⟩:=hr
    simp only[r1,r2,true_and]
    constructor
    ·intro h;omega
    ·intro h
     apply bcn;intro hn
     have a2:=nz g huw hpn hy (by omega) (by omega) hpu hpw
     have a3:0<d.tr u w p:=by omega
     by_cases he:d.Y q=d.Y w
     ·have b1:=(sA q he).1 h
      have b2:¬d.X w<d.X p:=by rw[←sA p (by omega)];omega
      refine g.nopt hpq hwn (Ne.symm hpw) (Ne.symm hqw) ⟨?_,by omega,by omega,by omega,by omega⟩
      rw[eq d p q w hf,he];simp
     ·refine g.nocross huw hpq ⟨az _ _ a3 h,?_⟩
      rw[eq d p q u hf,eq d p q w hf]
      have e1:(d.X q-d.X p)*(d.Y u-d.Y q)<0:=az _ _ (by omega) (by omega)
      have e2:0<(d.X q-d.X p)*(d.Y w-d.Y q):=Int.mul_pos (by omega) (by omega)
      exact cw _ _ e1 e2
   ·constructor
    ·intro h;exact absurd ⟨h.1,h.2.1⟩ hr
    ·intro h;exact absurd ⟨h.1,h.2.1⟩ hr
  simp only[hpu,hqu,hpw,hqw,goal,false_and,decide_false,Bool.false_and,Bool.xor_false,Bool.xor_self]
theorem sO (g:eR d){u w p q:Nat}(huw:d.J u w)(hpq:d.J p q)(h1:u<w)(h2:p<q)(hy:d.Y u<d.Y w)(hf:d.Y p<d.Y q) :
  ((d.Om u w p q^^d.Om w u p q)^^decide (p=u∧q=w))=(d.Psi u w p^^d.Psi u w q):=by
 have hpn:=g.lt hpq
 have hqn:=g.lt (g.symm hpq)
 have hwn:=g.lt (g.symm huw)
 have hun:=g.lt huw
 have o1:∀{i j},i<j→j<d.n→d.Y i≤d.Y j:=by
  intro i j h h';rcases g.ord h h' with h|h<;>omega
 simp only[Dr.Om,Dr.base,Dr.Psi,hy,if_true]
 by_cases hpu:p=u
 ·subst hpu
  have s1:=de d p q w
  have n3:q≠p:=by omega
  have n4:p≠w:=by omega
  have hYq:d.Y q≠d.Y p:=by omega
  by_cases hqw:q=w
  ·subst hqw
   have z:d.tr p q q=0:=cK d p q
   simp[Dr.pre,n3,n4,z,hYq]
  ·have a2:d.Y q≤d.Y w→d.tr p w q≠0:=fun hh=>nz g huw hqn hy (by omega) hh n3 hqw
   simp[Dr.pre,n3,n4,hqw,h1,h2,hYq,hf]
   by_cases hh:d.Y q≤d.Y w
   ·have b1:¬d.Y w<d.Y q:=by omega
    simp[hh,b1];grind
   ·have b1:d.Y w<d.Y q:=by omega
    have b2:d.Y p≤d.Y w:=by omega
    simp[hh,b1,b2,Ne.symm n4,Ne.symm hqw]
    omega
 by_cases hqu:q=u
 ·subst hqu
  have n1:q≠w:=by omega
  have n2:p≠w:=by omega
  have n3:p≠q:=by omega
  have n4:¬q<p:=by omega
  have n5:¬w<q:=by omega
  have n6:¬q<q:=by omega
  have n7:¬d.Y w<d.Y q:=by omega
  have n8:¬d.Y q<d.Y p:=by omega
  simp[Dr.pre,n1,n2,n3,n4,n5,n6,n7,n8]
 by_cases hpw:p=w
 ·subst hpw
  have n1:q≠p:=by omega
  have z:d.tr u p p=0:=cK d u p
  have n2:¬d.Y p≤d.Y u:=by omega
  have n3:¬d.Y q=d.Y p:=by omega
  have n4:¬d.Y q≤d.Y p:=by omega
  simp[Dr.pre,n1,hqu,hpu,h2,h1,z,n2,n3,n4]
 by_cases hqw:q=w
 ·subst hqw
  have n1:p≠q:=by omega
  have z:d.tr u q q=0:=cK d u q
  have s1:=k7 d u q p
  have s2:=j8 d p q u
  have s3:=k7 d p u q
  have n2:¬q<p:=by omega
  simp[Dr.pre,n1,hpu,hqu,hpw,Ne.symm hpu,Ne.symm hqu,z,n2,h1,h2]
  by_cases hh:d.Y p≤d.Y u
  ·have b1:¬d.Y u<d.Y p:=by omega
   simp[hh,b1,hy];
   have t:d.tr p q u≠0:=nz g hpq hun hf hh (by omega) (Ne.symm hpu) (Ne.symm hqu)
   grind
  ·have b1:d.Y u<d.Y p:=by omega
   have t:d.tr u q p≠0:=nz g huw hpn hy (by omega) (by omega) hpu hpw
   have b2:d.Y p≤d.Y q:=by omega
   simp[hh,b1,b2]
   grind
 ·simp only[hpu,hqu,hpw,hqw,Ne.symm hpu,Ne.symm hqu,Ne.symm hpw,Ne.symm hqw,false_and,decide_false,Bool.false_and,Bool.xor_false,ne_eq,not_false_eq_true,true_and]
  by_cases c1:d.Y q≤d.Y u
  ·have b1:¬d.Y u<d.Y q:=by omega
   have b2:¬d.Y w<d.Y q:=by omega
   have b3:¬d.Y u<d.Y p:=by omega
   simp[b1,b2,b3]
  by_cases c2:d.Y w<d.Y p
  ·have b1:¬d.Y p≤d.Y u:=by omega
   have b2:¬d.Y q≤d.Y w:=by omega
   have b3:¬d.Y p≤d.Y w:=by omega
   simp[b1,b2,b3]
  have c1':d.Y u<d.Y q:=by omega
  have c2':d.Y p≤d.Y w:=by omega
  by_cases c3:d.Y p≤d.Y u
  ·have c3':¬d.Y u<d.Y p:=by omega
   by_cases c4:d.Y q≤d.Y w
   ·have c4':¬d.Y w<d.Y q:=by omega
    have:=L1 g huw hpq c3 c1' c4 hpu hqw
    simp[c3,c3',c4,c4',c1',c2']
    grind
   ·have c4':d.Y w<d.Y q:=by omega
    have:=L2 g huw hpq c3 hy (by omega) hpu hqw
    simp[c3,c3',c4,c4',c1',c2']
    grind
  ·have c3':d.Y u<d.Y p:=by omega
   by_cases c4:d.Y q≤d.Y w
   ·have c4':¬d.Y w<d.Y q:=by omega
    have:=L2 g hpq huw (by omega) hf c4 (Ne.symm hpu) (Ne.symm hqw)
    simp[c3,c3',c4,c4',c1',c2']
    grind
   ·have c4':d.Y w<d.Y q:=by omega
    simp[c3,c3',c4,c4',c1',c2']
    by_cases c5:d.Y p=d.Y w
    ·have e1:=oh d u w p c5
     have e2:=jV d p q w c5.symm
     rw[e1,e2]
     have e3:=@eh (d.Y w-d.Y u) (d.X w-d.X p) (by omega)
     have e4:=@bb (d.Y q-d.Y p) (d.X p-d.X w) (by omega)
     rw[e3,e4];omega
    ·have:=L1 g hpq huw (by omega) (by omega) (by omega) (Ne.symm hpu) (Ne.symm hqw)
     grind
theorem vd (g:eR d){u w p q:Nat}(huw:d.J u w)(hpq:d.J p q)(h1:u<w)(h2:p<q)(hy:d.Y u=d.Y w) :
  ((d.Om u w p q^^d.Om w u p q)^^decide (p=u∧q=w))=(d.Psi u w p^^d.Psi u w q):=by
 have hpn:=g.lt hpq
 have hqn:=g.lt (g.symm hpq)
 have hwn:=g.lt (g.symm huw)
 have hun:=g.lt huw
 have hx:d.X u<d.X w:=by rcases g.ord h1 hwn with h|h<;>omega
 have hnn:¬d.Y u<d.Y w:=by omega
 have fl:=fun k=>eq d u w k hy
 have onrow:∀k,k<d.n→d.Y k=d.Y u→d.X u≤d.X k→d.X k≤d.X w→k=u∨k=w:=by
  intro k hk e x1 x2
  apply bcn;intro hc
  refine g.nopt huw hk (by omega) (by omega) ⟨?_,by omega,by omega,by omega,by omega⟩
  rw[fl,e,hy];simp
 have ordX:∀{i j},i<j→j<d.n→d.Y i=d.Y j→d.X i<d.X j:=by
  intro i j h h' e;rcases g.ord h h' with h|h<;>omega
 have ordY:∀{i j},i<j→j<d.n→d.Y i≤d.Y j:=by
  intro i j h h';rcases g.ord h h' with h|h<;>omega
 simp only[Dr.Om,Dr.base,Dr.Psi,hnn,if_false,Bool.xor_false]
 by_cases hpu:p=u
 ·subst hpu
  have n3:q≠p:=by omega
  have n4:p≠w:=by omega
  have preE:d.pre p q w=decide (q=w):=by
   unfold Dr.pre
   rw[decide_eq_decide]
   constructor
   ·rintro(h|h|h)
    ·exact h
    ·omega
    ·exfalso
     by_cases e:d.Y q=d.Y p
     ·have:=onrow q hqn e (by have:=ordX h2 hqn e.symm;omega)
      have t:=h.2
      rw[de d p w q,fl,e,hy]at t;simp at t
     ·have t:=h.2
      have:=ordY h2 hqn
      rw[de d p w q,fl]at t
      have:0<(d.X w-d.X p)*(d.Y q-d.Y w):=Int.mul_pos (by omega) (by omega)
      omega
   ·intro h;exact Or.inl h
  by_cases e:d.Y q=d.Y p
  ·have xq:=ordX h2 hqn e.symm
   have hqw:q=w:=by
    apply bcn;intro hc
    by_cases hl:d.X q≤d.X w
    ·rcases onrow q hqn e (by omega) hl with h|h<;>omega
    ·refine g.nopt hpq hwn (by omega) (Ne.symm hc) ⟨?_,by omega,by omega,by omega,by omega⟩
     rw[eq d p q w e.symm,e,hy];simp
   subst hqw
   have nn:¬q<q:=by omega
   simp[n3,n4,preE,e]
   simp[Dr.pre]
  ·have hqw:q≠w:=by intro h;subst h;omega
   have:=ordY h2 hqn
   have hf:d.Y p<d.Y q:=by omega
   have t:¬0<d.tr p q w:=by
    rw[de d p w q,fl]
    have:0<(d.X w-d.X p)*(d.Y q-d.Y w):=Int.mul_pos (by omega) (by omega)
    omega
   simp[n3,n4,preE,e,hqw,t]
 by_cases hqu:q=u
 ·subst hqu
  have n1:q≠w:=by omega
  have n2:p≠w:=by omega
  have n3:p≠q:=by omega
  have n4:¬q<p:=by omega
  have n5:¬w<q:=by omega
  have n6:¬q<q:=by omega
  have n7:¬d.Y w<d.Y q:=by omega
  simp[Dr.pre,n1,n2,n3,n4,n5,n6,n7]
 by_cases hpw:p=w
 ·subst hpw
  have n1:q≠p:=by omega
  have oy:=ordY h2 hqn
  by_cases e:d.Y q=d.Y p
  ·have n3:¬d.Y u<d.Y q:=by omega
   simp[Dr.pre,n1,hqu,hpu,h2,h1,e]
   omega
  ·have n3:d.Y u<d.Y q:=by omega
   have n4:d.Y p≤d.Y u:=by omega
   have t:0<d.tr p q u:=by
    rw[jV d p q u hy];exact Int.mul_pos (by omega) (by omega)
   simp[Dr.pre,n1,hqu,hpu,Ne.symm hpu,Ne.symm hqu,h2,h1,n3,n4,e,t]
 by_cases hqw:q=w
 ·subst hqw
  have n1:p≠q:=by omega
  have n2:¬q<p:=by omega
  have oy:=ordY h2 hqn
  have n5:¬d.Y u<d.Y q:=by omega
  have n6:¬q<q:=by omega
  have t:¬0<d.tr q p u:=by
   rw[k7 d u q p,fl]
   have:0≤(d.X q-d.X u)*(d.Y q-d.Y p):=Int.mul_nonneg (by omega) (by omega)
   grind
  simp[Dr.pre,n1,hpu,hqu,n5,n2,t]
 ·simp only[hpu,hqu,hpw,hqw,Ne.symm hpu,Ne.symm hqu,Ne.symm hpw,Ne.symm hqw,false_and,decide_false,Bool.false_and,Bool.xor_false,ne_eq,not_false_eq_true,true_and]
  by_cases c:d.Y p≤d.Y u∧d.Y u<d.Y q
  ·obtain⟨c1,c2⟩:=c
   have c3:d.Y p≤d.Y w:=by omega
   have c4:d.Y w<d.Y q:=by omega
   have mv:d.tr p q u-d.tr p q w=(d.Y q-d.Y p)*(d.X w-d.X u):=by unfold Dr.tr tr6;grind
   have mv2:0<(d.Y q-d.Y p)*(d.X w-d.X u):=Int.mul_pos (by omega) (by omega)
   have nD:d.tr p q w≠0:=nz g hpq hwn (by omega) c3 (by omega) (Ne.symm hpw) (Ne.symm hqw)
   have key:0<d.tr p q u→0<d.tr p q w:=by
    intro h
    apply bcn;intro hn
    by_cases e:d.Y p=d.Y u
    ·have e1:=jV d p q u e.symm
     have e2:=jV d p q w (by omega)
     have f1:=(@bb (d.Y q-d.Y p) (d.X p-d.X u) (by omega)).1 (by omega)
     have f2:=(@eh (d.Y q-d.Y p) (d.X p-d.X w) (by omega)).1 (by omega)
     rcases onrow p hpn e (by omega) (by omega) with h|h<;>omega
    ·refine g.nocross huw hpq ⟨?_,az _ _ h (by omega)⟩
     rw[fl,fl]
     exact cw _ _ (az _ _ (by omega) (by omega)) (Int.mul_pos (by omega) (by omega))
   simp only[c1,c2,c3,c4,true_and]
   have:decide (0<d.tr p q u)=decide (0<d.tr p q w):=by
    rw[decide_eq_decide]
    constructor
    ·exact key
    ·intro h;omega
   rw[this];simp
  ·have c':¬(d.Y p≤d.Y w∧d.Y w<d.Y q):=by omega
   have e1:¬(d.Y p≤d.Y u∧d.Y u<d.Y q∧0<d.tr p q u):=fun h=>c ⟨h.1,h.2.1⟩
   have e2:¬(d.Y p≤d.Y w∧d.Y w<d.Y q∧0<d.tr p q w):=fun h=>c' ⟨h.1,h.2.1⟩
   simp[e1,e2]
theorem xk (g:eR d){u w p q:Nat}(huw:d.J u w)(hpq:d.J p q)(h1:u<w)(h2:p<q) :
  ((d.Om u w p q^^d.Om w u p q)^^decide (p=u∧q=w))=(d.Psi u w p^^d.Psi u w q):=by
 have hqn:=g.lt (g.symm hpq)
 have hwn:=g.lt (g.symm huw)
 rcases g.ord h1 hwn with a|a
 ·rcases g.ord h2 hqn with b|b
  ·exact sO g huw hpq h1 h2 a b
  ·exact qm g huw hpq h1 h2 a b.1
 ·exact vd g huw hpq h1 h2 a.1
variable  {d:Dr}
abbrev ao:=Nat×Nat
def xs (f:ao→Bool):List ao→Bool
 |[]=>false
 |e :: r=>f e^^xs f r
theorem ip (f g:ao→Bool):∀E,xs (fun e=>f e^^g e) E=(xs f E^^xs g E)
 |[]=>rfl
 |e :: r=>by simp only[xs,ip f g r];cases f e<;>cases g e<;>cases xs f r<;>cases xs g r<;>rfl
theorem bo {f g:ao→Bool}:∀{E:List ao},(∀e∈E,f e=g e)→xs f E=xs g E
 |[],_=>rfl
 |e :: r,h=>by
  simp only[xs,h e (by simp),bo (fun x hx=>h x (List.mem_cons_of_mem _ hx))]
def cR (E:List ao):Prop:=∀Q:Nat→Bool,xs (fun e=>Q e.1^^Q e.2) E=false
def Dr.om (d:Dr)(E:List ao)(u w:Nat):Bool:=xs (fun e=>d.Om u w (min e.1 e.2) (max e.1 e.2)) E
def ce (E:List ao)(u w:Nat):Bool:=xs (fun e=>decide ((e.1=u∧e.2=w)∨(e.1=w∧e.2=u))) E
theorem zg (E:List ao)(u w:Nat):ce E u w=ce E w u:=by
 apply bo;intro e _;rw[decide_eq_decide];exact Or.comm
theorem zK (g:eR d){u w:Nat}(huw:d.J u w)(h1:u<w){E:List ao}(hE:∀e∈E,d.J e.1 e.2)(hc:cR E) :
  (d.om E u w^^d.om E w u)=ce E u w:=by
 have h:xs (fun e=>((d.Om u w (min e.1 e.2) (max e.1 e.2)^^d.Om w u (min e.1 e.2) (max e.1 e.2)) ^^
   decide ((e.1=u∧e.2=w)∨(e.1=w∧e.2=u)))) E=false:=by
  rw[←hc (d.Psi u w)]
  apply bo
  intro e he
  have hj:=hE e he
  have hne:=g.ne hj
  rcases Nat.lt_or_gt_of_ne hne with hl|hl
  ·have:=xk g huw hj h1 hl
   rw[Nat.min_eq_left (by omega),Nat.max_eq_right (by omega),←this]
   congr 1
   rw[decide_eq_decide];omega
  ·have:=xk g huw (g.symm hj) h1 hl
   rw[Nat.min_eq_right (by omega),Nat.max_eq_left (by omega),Bool.xor_comm (d.Psi u w e.1),←this]
   congr 1
   rw[decide_eq_decide];omega
 rw[ip,ip]at h
 unfold Dr.om ce
 revert h
 generalize xs _ E=a;generalize xs _ E=b;generalize xs _ E=c
 cases a<;>cases b<;>cases c<;>simp
theorem zL (g:eR d){u w:Nat}(huw:d.J u w){E:List ao}(hE:∀e∈E,d.J e.1 e.2)(hc:cR E) :
  (d.om E u w^^d.om E w u)=ce E u w:=by
 rcases Nat.lt_or_gt_of_ne (g.ne huw) with h|h
 ·exact zK g huw h hE hc
 ·rw[Bool.xor_comm,zg];exact zK g (g.symm huw) h hE hc
def bE (l:List Nat)(x:Nat):Nat:=if l.idxOf x=0 then l.getLast?.getD 0 else l.getD (l.idxOf x-1) 0
theorem jb {l:List Nat}{x:Nat}(h:x∈l):∃l1 l2,l=l1++x :: l2∧x∉l1:=by
 induction l with
 |nil=>cases h
 |cons a r ih =>
  by_cases e:a=x
  ·exact⟨[],r,by simp[e],by simp⟩
  ·have:x∈r:=by
    rcases List.mem_cons.1 h with h|h
    ·exact absurd h.symm e
    ·exact h
   obtain⟨l1,l2,e1,e2⟩:=ih this
   exact⟨a :: l1,l2,by simp[e1],by simp[e2];omega⟩
theorem lF {l1 l2:List Nat}{x:Nat}(h:x∉l1):(l1++x :: l2).idxOf x=l1.length:=by
 induction l1 with
 |nil=>simp
 |cons a r ih =>
  have h1:a≠x:=by intro e;apply h;simp[e]
  have h2:x∉r:=by intro e;apply h;simp[e]
  have h3:(a==x)=false:=by simpa using h1
  rw[List.cons_append,List.idxOf_cons,ih h2,h3];rfl
theorem iS (x:Nat)(l2:List Nat):bE (x :: l2) x=(x :: l2).getLast (by simp):=by
 unfold bE
 simp[List.getLast?_eq_some_getLast]
theorem iK {l1 l2:List Nat}{x:Nat}(h:x∉l1)(hn:l1≠[]):bE (l1++x :: l2) x=l1.getLast hn:=by
 unfold bE
 rw[lF h]
 have:l1.length≠0:=by intro e;exact hn (List.length_eq_zero_iff.1 e)
 rw[if_neg this,List.getD_eq_getElem?_getD,List.getElem?_append_left (by omega)]
 rw[List.getLast_eq_getElem]
 rw[gge (by omega)];rfl
structure lM (d:Dr)(ring:Nat→List Nat):Prop where
 mem:∀{u w},w∈ring u↔d.J u w
 sorted:∀u,(ring u).Pairwise (fun b w=>d.pre u b w=true∧d.pre u w b=false∧b≠w)
theorem kg (d:Dr)(u b:Nat):d.pre u b b=true:=by simp[Dr.pre]
theorem kI {l:List Nat}{x:Nat}(h:x∈l):bE l x∈l:=by
 obtain⟨l1,l2,e,hn⟩:=jb h
 subst e
 by_cases h1:l1=[]
 ·subst h1;rw[List.nil_append,iS];exact List.getLast_mem _
 ·rw[iK hn h1]
  exact List.mem_append_left _ (List.getLast_mem _)
theorem At (g:eR d){ring:Nat→List Nat}(r:lM d ring){u v:Nat}(huv:d.J u v){E:List ao}(hE:∀e∈E,d.J e.1 e.2)(hc:cR E) :
  d.om E v (bE (ring v) u)=(d.om E v u^^ce E u v):=by
 have hm:u∈ring v:=r.mem.2 (g.symm huv)
 obtain⟨l1,l2,e,hn⟩:=jb hm
 have hs:=r.sorted v
 rw[e]at hs
 rw[List.pairwise_append]at hs
 obtain⟨s1,s2,s3⟩:=hs
 rw[List.pairwise_cons]at s2
 have key:∃Q:Nat→Bool,∀b,d.J v b→(d.pre v b (bE (ring v) u)^^d.pre v b u)=(decide (b=u)^^Q v):=by
  by_cases h1:l1=[]
  ·subst h1
   refine⟨fun _=>true,fun b hb=>?_⟩
   have hb':b∈ring v:=r.mem.2 hb
   rw[e,List.nil_append,iS]
   rw[e,List.nil_append]at hb'
   have t1:d.pre v b ((u :: l2).getLast (by simp))=true:=by
    by_cases hbl:b=(u :: l2).getLast (by simp)
    ·rw[←hbl];exact kg _ _ _
    ·have hall:((u :: l2).dropLast++[(u :: l2).getLast (by simp)]).Pairwise (fun b w=>d.pre v b w=true∧d.pre v w b=false∧b≠w):=by
      rw[List.dropLast_concat_getLast];exact List.pairwise_cons.2 s2
     rw[List.pairwise_append]at hall
     have:b∈(u :: l2).dropLast:=by
      have hx:b∈(u :: l2).dropLast++[(u :: l2).getLast (by simp)]:=by
       rw[List.dropLast_concat_getLast];exact hb'
      rcases List.mem_append.1 hx with hx|hx
      ·exact hx
      ·simp at hx;exact absurd hx (by simpa using hbl)
     exact(hall.2.2 b this _ (by simp)).1
   rw[t1]
   rcases List.mem_cons.1 hb' with hb2|hb2
   ·subst hb2;simp[kg]
   ·have:=s2.1 b hb2
    rw[this.2.1]
    have:b≠u:=Ne.symm this.2.2
    simp[this]
  ·refine⟨fun _=>false,fun b hb=>?_⟩
   have hb':b∈ring v:=r.mem.2 hb
   rw[e,iK hn h1]
   rw[e]at hb'
   rcases List.mem_append.1 hb' with hb2|hb2
   ·have a1:=(s3 b hb2 u (by simp))
    have a2:d.pre v b (l1.getLast h1)=true:=by
     by_cases hbl:b=l1.getLast h1
     ·rw[←hbl];exact kg _ _ _
     ·have hall:(l1.dropLast++[l1.getLast h1]).Pairwise (fun b w=>d.pre v b w=true∧d.pre v w b=false∧b≠w):=by
       rw[List.dropLast_concat_getLast];exact s1
      rw[List.pairwise_append]at hall
      have:b∈l1.dropLast:=by
       have hx:b∈l1.dropLast++[l1.getLast h1]:=by
        rw[List.dropLast_concat_getLast];exact hb2
       rcases List.mem_append.1 hx with hx|hx
       ·exact hx
       ·simp at hx;exact absurd hx hbl
      exact(hall.2.2 b this _ (by simp)).1
    rw[a2,a1.1];simp[a1.2.2]
   ·rcases List.mem_cons.1 hb2 with hb3|hb3
    ·subst hb3
     have a1:=s3 (l1.getLast h1) (List.getLast_mem _) b (by simp)
     rw[a1.2.1,kg];simp
    ·have a1:=s3 (l1.getLast h1) (List.getLast_mem _) b (List.mem_cons_of_mem _ hb3)
     have a2:=s2.1 b hb3
     rw[a1.2.1,a2.2.1];simp[Ne.symm a2.2.2]
 obtain⟨Q,hQ⟩:=key
 have hcl:=hc (fun x=>decide (x=v)&&Q v)
 have h:xs (fun e=>((d.Om v (bE (ring v) u) (min e.1 e.2) (max e.1 e.2)^^d.Om v u (min e.1 e.2) (max e.1 e.2)) ^^
   decide ((e.1=u∧e.2=v)∨(e.1=v∧e.2=u)))) E=false:=by
  rw[←hcl]
  apply bo
  intro e he
  have hj:=hE e he
  have hne:=g.ne hj
  have aux:∀p q,d.J p q→p<q→((d.Om v (bE (ring v) u) p q^^d.Om v u p q)^^decide ((p=u∧q=v)∨(p=v∧q=u)))
    = ((decide (p=v)&&Q v)^^(decide (q=v)&&Q v)):=by
   intro p q hpq hl
   unfold Dr.Om
   generalize hB:(d.base v p q^^decide (p=v∧d.Y q=d.Y v))=B
   by_cases hp:p=v
   ·subst hp
    have hq:q≠p:=by omega
    have:=hQ q hpq
    have h3:decide ((p=u∧q=p)∨(p=p∧q=u))=decide (q=u):=by
     rw[decide_eq_decide];constructor
     ·rintro(h|h)
      ·omega
      ·exact h.2
     ·intro h;exact Or.inr ⟨rfl,h⟩
    rw[h3]
    simp only[hq,decide_true,decide_false,Bool.true_and,Bool.false_and,Bool.xor_false]
    revert this
    generalize d.pre p q (bE (ring p) u)=x1;generalize d.pre p q u=x2;generalize decide (q=u)=x3;generalize Q p=x4
    cases x1<;>cases x2<;>cases x3<;>cases x4<;>cases B<;>simp
   ·by_cases hq:q=v
    ·subst hq
     have:=hQ p (g.symm hpq)
     have h3:decide ((p=u∧q=q)∨(p=q∧q=u))=decide (p=u):=by
      rw[decide_eq_decide];constructor
      ·rintro(h|h)
       ·exact h.1
       ·exact absurd h.1 hp
      ·intro h;exact Or.inl ⟨h,rfl⟩
     rw[h3]
     simp only[hp,decide_true,decide_false,Bool.true_and,Bool.false_and,Bool.false_xor]
     revert this
     generalize d.pre q p (bE (ring q) u)=x1;generalize d.pre q p u=x2;generalize decide (p=u)=x3;generalize Q q=x4
     cases x1<;>cases x2<;>cases x3<;>cases x4<;>cases B<;>simp
    ·have h3:¬((p=u∧q=v)∨(p=v∧q=u)):=by omega
     rw[dqf h3]
     simp only[hp,hq,decide_false,Bool.false_and,Bool.xor_false,Bool.xor_self]
  rcases Nat.lt_or_gt_of_ne hne with hl|hl
  ·have:=aux e.1 e.2 hj hl
   rw[Nat.min_eq_left (by omega),Nat.max_eq_right (by omega),←this]
  ·have:=aux e.2 e.1 (g.symm hj) hl
   rw[Nat.min_eq_right (by omega),Nat.max_eq_left (by omega),Bool.xor_comm (decide (e.1=v)&&Q v),←this]
   congr 1
   rw[decide_eq_decide];omega
 rw[ip,ip]at h
 unfold Dr.om ce
 revert h
 generalize xs _ E=a;generalize xs _ E=b;generalize xs _ E=c
 cases a<;>cases b<;>cases c<;>simp
theorem uE (g:eR d){ring:Nat→List Nat}(r:lM d ring){u v:Nat}(huv:d.J u v){E:List ao}(hE:∀e∈E,d.J e.1 e.2)(hc:cR E) :
  d.om E v (bE (ring v) u)=d.om E u v:=by
 rw[At g r huv hE hc,←zL g huv hE hc]
 cases d.om E v u<;>cases d.om E u v<;>rfl
variable  {d:Dr}
def nxt (ring:Nat→List Nat)(e:ao):ao:=(e.2,bE (ring e.2) e.1)
def aE (ring:Nat→List Nat)(e:ao):Nat→ao
 |0=>e
 |k+1=>nxt ring (aE ring e k)
theorem fJ (ring:Nat→List Nat)(e:ao)(k:Nat):aE ring e (k+1)=nxt ring (aE ring e k):=rfl
theorem dQ (ring:Nat→List Nat)(e:ao)(k:Nat):(aE ring e (k+1)).1=(aE ring e k).2:=rfl
theorem lM.nodup {ring:Nat→List Nat}(r:lM d ring)(u:Nat):(ring u).Nodup :=
 (r.sorted u).imp (fun h=>h.2.2)
theorem gi {l:List Nat}(hl:l.Nodup){a b:Nat}(ha:a<l.length)(hb:b<l.length)(h:l[a]=l[b]):a=b:=by
 have hp:=List.pairwise_iff_getElem.1 hl
 rcases Nat.lt_trichotomy a b with hlt|heq|hgt
 ·exact absurd h (hp a b ha hb hlt)
 ·exact heq
 ·exact absurd h.symm (hp b a hb ha hgt)
theorem uO {l:List Nat}(hl:l.Nodup){x y:Nat}(hx:x∈l)(hy:y∈l)(h:bE l x=bE l y):x=y:=by
 have key:∀z∈l,∃k,∃hk:k<l.length,l[k]=z∧bE l z=(if k=0 then l[l.length-1]'(by omega) else l[k-1]'(by omega)):=by
  intro z hz
  refine⟨l.idxOf z,List.idxOf_lt_length_of_mem hz,List.getElem_idxOf _,?_⟩
  unfold bE
  have hlt:=List.idxOf_lt_length_of_mem hz
  split
  ·rename_i h0
   rw[List.getLast?_eq_getElem?,gge (by omega)];rfl
  ·rename_i h0
   rw[List.getD_eq_getElem?_getD,gge (by omega)];rfl
 obtain⟨i,hi,ei,pi⟩:=key x hx
 obtain⟨j,hj,ej,pj⟩:=key y hy
 have inj:∀a b (ha:a<l.length) (hb:b<l.length),l[a]=l[b]→a=b:=by
  intro a b ha hb e
  exact gi hl ha hb e
 rw[pi,pj]at h
 have:i=j:=by
  by_cases h1:i=0<;>by_cases h2:j=0
  ·omega
  ·rw[if_pos h1,if_neg h2]at h
   have:=inj _ _ _ _ h;omega
  ·rw[if_neg h1,if_pos h2]at h
   have:=inj _ _ _ _ h;omega
  ·rw[if_neg h1,if_neg h2]at h
   have:=inj _ _ _ _ h;omega
 subst this
 rw[←ei,←ej]
theorem Do (g:eR d){ring:Nat→List Nat}(r:lM d ring){e:ao}(h:d.J e.1 e.2):d.J (nxt ring e).1 (nxt ring e).2 :=
 r.mem.1 (kI (r.mem.2 (g.symm h)))
theorem lR (g:eR d){ring:Nat→List Nat}(r:lM d ring){a b:ao}(ha:d.J a.1 a.2)(hb:d.J b.1 b.2)(h:nxt ring a=nxt ring b):a=b:=by
 unfold nxt at h
 have h1:a.2=b.2:=(Prod.mk.inj h).1
 have h2:=(Prod.mk.inj h).2
 rw[h1]at h2
 have:=uO (r.nodup b.2) (r.mem.2 (by rw[←h1];exact g.symm ha)) (r.mem.2 (g.symm hb)) h2
 exact Prod.ext this h1
theorem eN (g:eR d){ring:Nat→List Nat}(r:lM d ring){e:ao}(h:d.J e.1 e.2):∀k,d.J (aE ring e k).1 (aE ring e k).2
 |0=>h
 |k+1=>Do g r (eN g r h k)
theorem mP {l:List Nat}(hl:l.Nodup){F:Nat→Bool}(h:∀x∈l,F (bE l x)=F x):∀x∈l,∀y∈l,F x=F y:=by
 have key:∀k (hk:k<l.length),F l[k]=F (l[0]'(by omega)):=by
  intro k
  induction k with
  |zero=>intro _;rfl
  |succ k ih =>
   intro hk
   rw[←ih (by omega)]
   have hm:l[k+1]∈l:=List.getElem_mem _
   rw[←h _ hm]
   congr 1
   unfold bE
   have:l.idxOf l[k+1]=k+1:=by
    have h1:=List.idxOf_lt_length_of_mem hm
    have h2:=List.getElem_idxOf h1
    exact gi hl _ _ h2
   rw[this,if_neg (by omega),List.getD_eq_getElem?_getD]
   simp only[Nat.add_sub_cancel]
   rw[gge (by omega)];rfl
 intro x hx y hy
 obtain⟨i,hi,e1⟩:=List.getElem_of_mem hx
 obtain⟨j,hj,e2⟩:=List.getElem_of_mem hy
 rw[←e1,←e2,key i hi,key j hj]
def sS (d:Dr)(ok:Nat→Prop):Prop :=
 ∀m:Nat→Bool,(∀a b,d.J a b→ok a→ok b→m a=m b)→∀a b,a<d.n→b<d.n→ok a→ok b→m a=m b
theorem wV {E:List ao}(hn:E.Nodup){u w:Nat}(huw:u≠w):ce E u w=(decide ((u,w)∈E)^^decide ((w,u)∈E)):=by
 induction E with
 |nil=>simp[ce,xs]
 |cons e r ih =>
  rw[List.nodup_cons]at hn
  have:=ih hn.2
  unfold ce at this ⊢
  rw[xs,this]
  obtain⟨a,b⟩:=e
  simp only[List.mem_cons,Prod.mk.injEq]
  by_cases h1:a=u∧b=w
  ·obtain⟨rfl,rfl⟩:=h1
   have h2:(a,b)∉r:=hn.1
   simp[h2,huw]
  ·by_cases h2:a=w∧b=u
   ·obtain⟨rfl,rfl⟩:=h2
    have h3:(a,b)∉r:=hn.1
    simp[h3,huw]
   ·have t1:¬((a=u∧b=w)∨(a=w∧b=u)):=by omega
    have t2:¬(u=a∧w=b):=by omega
    have t3:¬(w=a∧u=b):=by omega
    simp only[t1,t2,t3,decide_false,Bool.false_xor,false_or]
theorem j6 (g:eR d){ring:Nat→List Nat}(r:lM d ring){E:List ao}(hE:∀e∈E,d.J e.1 e.2)(hc:cR E)(hn:E.Nodup)
  (ok:Nat→Prop) (hk:sS d ok) (hnx:∀a b,d.J a b→ok b→((a,b)∈E↔nxt ring (a,b)∈E)) :
  ∀a b a' b',d.J a b→d.J a' b'→ok a→ok a' →
   (d.om E a b^^decide ((a,b)∈E))=(d.om E a' b'^^decide ((a',b')∈E)):=by
 have rev:∀a b,d.J a b→(d.om E a b^^decide ((a,b)∈E))=(d.om E b a^^decide ((b,a)∈E)):=by
  intro a b h
  have h1:=zL g h hE hc
  rw[wV hn (g.ne h)]at h1
  revert h1
  generalize d.om E a b=x1;generalize d.om E b a=x2;generalize decide ((a,b)∈E)=x3;generalize decide ((b,a)∈E)=x4
  cases x1<;>cases x2<;>cases x3<;>cases x4<;>simp
 have rot:∀u,ok u→∀x∈ring u,∀y∈ring u,(d.om E u x^^decide ((u,x)∈E))=(d.om E u y^^decide ((u,y)∈E)):=by
  intro u hu
  refine mP (F:=fun x=>d.om E u x^^decide ((u,x)∈E)) (r.nodup u) ?_
  intro x hx
  have hj:d.J u x:=r.mem.1 hx
  show(d.om E u (bE (ring u) x)^^decide ((u,bE (ring u) x)∈E))=_
  rw[uE g r (g.symm hj) hE hc,rev u x hj]
  have:=hnx x u (g.symm hj) hu
  have e:decide ((u,bE (ring u) x)∈E)=decide ((x,u)∈E):=by
   rw[decide_eq_decide];exact this.symm
  rw[e]
 intro a b a' b' h h' ha ha'
 have hm:=hk (fun u=>match ring u with|[]=>false|x :: _=>d.om E u x^^decide ((u,x)∈E))
 have val:∀u x,ok u→x∈ring u→(match ring u with|[]=>false|x :: _=>d.om E u x^^decide ((u,x)∈E))=(d.om E u x^^decide ((u,x)∈E)):=by
  intro u x hu hx
  have:=rot u hu
  cases hr:ring u with
  |nil=>rw[hr]at hx;cases hx
  |cons y l =>
   rw[hr]at this hx
   simp only
   exact this y (by simp) x hx
 have:=hm (by
  intro p q hpq hp hq
  rw[val p q hp (r.mem.2 hpq),val q p hq (r.mem.2 (g.symm hpq))]
  exact rev p q hpq) a a' (g.lt h) (g.lt h') ha ha'
 rw[val a b ha (r.mem.2 h),val a' b' ha' (r.mem.2 h')]at this
 exact this
def seg (ring:Nat→List Nat)(e:ao)(i:Nat):Nat→List ao
 |0=>[]
 |k+1=>aE ring e i :: seg ring e (i+1) k
theorem bN (ring:Nat→List Nat)(e x:ao):∀k i,x∈seg ring e i k↔∃j,i≤j∧j<i+k∧x=aE ring e j
 |0,i=>by simp[seg];omega
 |k+1,i=>by
  rw[seg,List.mem_cons,bN ring e x k (i+1)]
  constructor
  ·rintro(h|⟨j,h1,h2,h3⟩)
   ·exact⟨i,by omega,by omega,h⟩
   ·exact⟨j,by omega,by omega,h3⟩
  ·rintro⟨j,h1,h2,h3⟩
   by_cases h:j=i
   ·subst h;exact Or.inl h3
   ·exact Or.inr ⟨j,by omega,by omega,h3⟩
theorem fK (ring:Nat→List Nat)(e:ao):∀k i,(∀a b,i≤a→a<b→b<i+k→aE ring e a≠aE ring e b)→(seg ring e i k).Nodup
 |0,_,_=>by simp[seg]
 |k+1,i,h=>by
  rw[seg,List.nodup_cons]
  constructor
  ·rw[bN]
   rintro⟨j,h1,h2,h3⟩
   exact h i j (by omega) (by omega) (by omega) h3
  ·exact fK ring e k (i+1) (fun a b h1 h2 h3=>h a b (by omega) h2 (by omega))
theorem qE (ring:Nat→List Nat)(e:ao)(Q:Nat→Bool):∀k i,xs (fun e=>Q e.1^^Q e.2) (seg ring e i k)=(Q (aE ring e i).1^^Q (aE ring e (i+k)).1)
 |0,i=>by simp[seg,xs]
 |k+1,i=>by
  rw[seg,xs,qE ring e Q k (i+1),dQ]
  have:i+1+k=i+(k+1):=by omega
  rw[this]
  generalize Q (aE ring e i).1=a;generalize Q (aE ring e i).2=b;generalize Q (aE ring e (i+(k+1))).1=c
  cases a<;>cases b<;>cases c<;>rfl
theorem fX (ring:Nat→List Nat)(e:ao){i k:Nat}(h:(aE ring e i).1=(aE ring e (i+k)).1):cR (seg ring e i k):=by
 intro Q
 rw[qE,h];simp
theorem lW (g:eR d){ring:Nat→List Nat}(r:lM d ring){E:List ao}(hE:∀e∈E,d.J e.1 e.2)(hc:cR E){e:ao}(he:d.J e.1 e.2) :
  ∀k,d.om E (aE ring e k).1 (aE ring e k).2=d.om E e.1 e.2
 |0=>rfl
 |k+1=>by
  rw[←lW g r hE hc he k]
  exact uE g r (eN g r he k) hE hc
theorem re (g:eR d){ring:Nat→List Nat}(r:lM d ring){e:ao}(he:d.J e.1 e.2){N:Nat}
  (hN:aE ring e N=e) (hd:∀a b,a<b→b<N→aE ring e a≠aE ring e b)
  (hk:∀v,v<d.n→sS d (fun u=>u≠v)) {i j:Nat} (hij:i<j) (hj:j<N):(aE ring e i).1≠(aE ring e j).1:=by
 intro hv
 have hEJ:=eN g r he
 let E:=seg ring e i (j-i)
 have hE:∀x∈E,d.J x.1 x.2:=by
  intro x hx
  obtain⟨k,_,_,rfl⟩:=(bN ring e x _ _).1 hx
  exact hEJ k
 have hc:cR E:=fX ring e (by rw[hv];congr 2;omega)
 have hn:E.Nodup:=fK ring e _ _ (fun a b _ h2 h3=>hd a b h2 (by omega))
 let v:=(aE ring e i).1
 have nx1:(aE ring e i).2≠v:=Ne.symm (g.ne (hEJ i))
 have nx2:(aE ring e j).2≠v:=by
  show _≠(aE ring e i).1
  rw[hv];exact Ne.symm (g.ne (hEJ j))
 have hlt:i+1<j:=by
  apply bcn;intro hc'
  have:j=i+1:=by omega
  subst this
  rw[dQ]at hv
  exact g.ne (hEJ i) hv
 have sc:=j6 g r hE hc hn (fun u=>u≠v) (hk v (g.lt (hEJ i))) (by
  intro a b hab hb
  constructor
  ·intro h
   obtain⟨k,h1,h2,h3⟩:=(bN ring e _ _ _).1 h
   rw[h3]
   refine(bN ring e _ _ _).2 ⟨k+1,by omega,?_,rfl⟩
   apply bcn;intro hn'
   have:k+1=j:=by omega
   have hb2:(aE ring e (k+1)).1=b:=by rw[dQ,←h3]
   rw[this,←hv]at hb2
   exact hb hb2.symm
  ·intro h
   obtain⟨k,h1,h2,h3⟩:=(bN ring e _ _ _).1 h
   have hki:k≠i:=by
    intro e';subst e'
    have:b=(aE ring e k).1:=by rw[←h3];rfl
    exact hb this
   obtain⟨k',rfl⟩:∃k',k=k'+1:=⟨k-1,by omega⟩
   have:=lR g r hab (hEJ k') h3
   rw[this]
   exact(bN ring e _ _ _).2 ⟨k',by omega,by omega,rfl⟩)
 have f1:=sc _ _ _ _ (hEJ (i+1)) (hEJ (j+1)) (by rw[dQ];exact nx1) (by rw[dQ];exact nx2)
 have m1:((aE ring e (i+1)).1,(aE ring e (i+1)).2)∈E:=(bN ring e _ _ _).2 ⟨i+1,by omega,by omega,rfl⟩
 have m2:((aE ring e (j+1)).1,(aE ring e (j+1)).2)∉E:=by
  intro h
  obtain⟨k,h1,h2,h3⟩:=(bN ring e _ _ _).1 h
  have h3':aE ring e (j+1)=aE ring e k:=h3
  by_cases hjn:j+1<N
  ·exact hd k (j+1) (by omega) hjn h3'.symm
  ·have hjN:j+1=N:=by omega
   rw[hjN,hN]at h3'
   have:k=0:=by
    apply bcn;intro hk0
    exact hd 0 k (by omega) (by omega) h3'
   have hi0:i=0:=by omega
   have:(aE ring e (j+1)).1=v:=by
    show _=(aE ring e i).1
    rw[hjN,hN,hi0];rfl
   rw[dQ]at this
   exact nx2 this
 rw[lW g r hE hc he,lW g r hE hc he,dqt m1,dqf m2]at f1
 revert f1
 cases d.om E e.1 e.2<;>simp
theorem oV (g:eR d){ring:Nat→List Nat}(r:lM d ring){e:ao}(he:d.J e.1 e.2){N:Nat}(hN0:0<N)
  (hN:aE ring e N=e) (hd:∀a b,a<b→b<N→aE ring e a≠aE ring e b)
  (hk:sS d (fun _=>True)) {o:ao} (ho:d.J o.1 o.2) (hoz:d.om (seg ring e 0 N) o.1 o.2=false) (hoN:o∉seg ring e 0 N)
  {x:ao} (hx:d.J x.1 x.2):d.om (seg ring e 0 N) x.1 x.2=decide (x∈seg ring e 0 N):=by
 have hEJ:=eN g r he
 have hE:∀x∈seg ring e 0 N,d.J x.1 x.2:=by
  intro x hx
  obtain⟨k,_,_,rfl⟩:=(bN ring e x _ _).1 hx
  exact hEJ k
 have hc:cR (seg ring e 0 N):=fX ring e (by rw[Nat.zero_add,hN];rfl)
 have hn:(seg ring e 0 N).Nodup:=fK ring e _ _ (fun a b _ h2 h3=>hd a b h2 (by omega))
 have sc:=j6 g r hE hc hn (fun _=>True) hk (by
  intro a b hab _
  constructor
  ·intro h
   obtain⟨k,h1,h2,h3⟩:=(bN ring e _ _ _).1 h
   rw[h3]
   by_cases hkN:k+1<N
   ·exact(bN ring e _ _ _).2 ⟨k+1,by omega,by omega,rfl⟩
   ·have:k+1=N:=by omega
    refine(bN ring e _ _ _).2 ⟨0,by omega,by omega,?_⟩
    rw[←fJ,this,hN];rfl
  ·intro h
   obtain⟨k,h1,h2,h3⟩:=(bN ring e _ _ _).1 h
   by_cases hk0:k=0
   ·have:nxt ring (a,b)=nxt ring (aE ring e (N-1)):=by
     rw[h3,hk0,←fJ]
     have:N-1+1=N:=by omega
     rw[this,hN];rfl
    rw[lR g r hab (hEJ _) this]
    exact(bN ring e _ _ _).2 ⟨N-1,by omega,by omega,rfl⟩
   ·obtain⟨k',rfl⟩:∃k',k=k'+1:=⟨k-1,by omega⟩
    rw[lR g r hab (hEJ k') h3]
    exact(bN ring e _ _ _).2 ⟨k',by omega,by omega,rfl⟩)
 have:=sc _ _ _ _ hx ho trivial trivial
 rw[hoz,dqf (show(o.1,o.2)∉_ from hoN)]at this
 revert this
 show(d.om (seg ring e 0 N) x.1 x.2^^decide (x∈seg ring e 0 N))=_→_
 generalize d.om (seg ring e 0 N) x.1 x.2=a;generalize decide (x∈seg ring e 0 N)=b
 cases a<;>cases b<;>simp
variable  {d:Dr}
def Dr.trz (d:Dr)(p q:Nat)(zx zy:Int):Int:=tr6 (d.X p) (d.Y p) (d.X q) (d.Y q) zx zy
def Dr.cz (d:Dr)(zx zy:Int)(p q:Nat):Bool:=decide (d.Y p≤zy∧zy<d.Y q∧0<d.trz p q zx zy)
def Dr.num (d:Dr)(zx zy:Int)(p q:Nat):Int:=2*d.trz p q zx zy+(d.X q-d.X p)
def Dr.den (d:Dr)(p q:Nat):Int:=d.Y q-d.Y p
theorem xl (g:eR d){u w p q:Nat}(huw:d.J u w)(hpq:d.J p q)(h1:u<w)(h2:p<q)(hy:d.Y u<d.Y w) :
  d.Om u w p q=if p=u then decide (q=w∨(d.Y u<d.Y q∧d.tr u w q<0)) else decide (d.Y p≤d.Y u∧d.Y u<d.Y q∧0<d.tr p q u):=by
 have hqn:=g.lt (g.symm hpq)
 unfold Dr.Om Dr.base
 by_cases hpu:p=u
 ·subst hpu
  have n1:q≠p:=by omega
  have s1:=de d p q w
  have hp2:d.pre p q w=decide (q=w∨0<d.tr p q w):=by
   unfold Dr.pre;rw[decide_eq_decide];constructor
   ·rintro(h|h|h)
    ·exact Or.inl h
    ·omega
    ·exact Or.inr h.2
   ·rintro(h|h)
    ·exact Or.inl h
    ·exact Or.inr (Or.inr ⟨Or.inl ⟨h2,h1⟩,h⟩)
  rcases g.ord h2 hqn with hf|hf
  ·have e1:¬d.Y q=d.Y p:=by omega
   simp only[ne_eq,not_true_eq_false,false_and,decide_false,e1,and_false,Bool.xor_false,decide_true,Bool.true_and,n1,Bool.false_and,hp2,if_true,Bool.false_xor,hf,true_and,decide_eq_decide]
   omega
  ·have t1:0<d.tr p q w:=by
    rw[eq d p q w hf.1];exact Int.mul_pos (by omega) (by omega)
   have e1:d.Y q=d.Y p:=by omega
   have e2:¬d.Y p<d.Y q:=by omega
   have e3:q≠w:=by intro e;subst e;omega
   simp[n1,hp2,t1,e1,e3]
 ·rw[if_neg hpu]
  by_cases hqu:q=u
  ·subst hqu
   have e1:d.pre q p w=false:=by
    simp[Dr.pre];omega
   simp[e1,hpu]
  ·simp[hpu,hqu,Ne.symm hpu,Ne.symm hqu]
theorem Ew (ux uy wx wy px py qx qy zx zy:Int) :
 (wy-uy)*tr6 px py qx qy zx zy-(qy-py)*tr6 ux uy wx wy zx zy=(wy-uy)*tr6 px py qx qy ux uy+(tr6 px py qx qy wx wy-tr6 px py qx qy ux uy)*(zy-uy):=by
 unfold tr6;grind
theorem wU (ux uy wx wy px py qx qy zx zy:Int) :
 (wy-uy)*(2*tr6 px py qx qy zx zy+(qx-px))-(qy-py)*(2*tr6 ux uy wx wy zx zy+(wx-ux))
  = 2*((wy-uy)*tr6 px py qx qy ux uy)+(tr6 px py qx qy wx wy-tr6 px py qx qy ux uy)*(2*zy+1-2*uy):=by
 unfold tr6;grind
theorem Dz (ux uy wx wy px py qx qy:Int) :
 (wy-uy)*tr6 px py qx qy wx wy=(wy-uy)*tr6 px py qx qy ux uy+(tr6 px py qx qy wx wy-tr6 px py qx qy ux uy)*(wy-uy):=by
 grind
theorem qF (c K s z m v0:Int)(hs:0<v0+K*(s-c))(hm:0≤v0+K*(m-c))(h1:s≤z)(h2:z<m):0<v0+K*(z-c):=by
 by_cases hK:0≤K
 ·have:0≤K*(z-s):=Int.mul_nonneg hK (by omega)
  have e:v0+K*(z-c)=(v0+K*(s-c))+K*(z-s):=by grind
  omega
 ·have:0<(-K)*(m-z):=Int.mul_pos (by omega) (by omega)
  have e:v0+K*(z-c)=(v0+K*(m-c))+(-K)*(m-z):=by grind
  omega
theorem kE (c K s z m v0:Int)(hs:0<v0+K*(s-c))(hm:0≤v0+K*(m-c))(h1:s≤z)(h2:z<m):0<2*v0+K*(2*z+1-2*c):=by
 by_cases hK:0≤K
 ·have:0≤K*(2*z+1-2*s):=Int.mul_nonneg hK (by omega)
  have e:2*v0+K*(2*z+1-2*c)=2*(v0+K*(s-c))+K*(2*z+1-2*s):=by grind
  omega
 ·have:0<(-K)*(2*m-2*z-1):=Int.mul_pos (by omega) (by omega)
  have e:2*v0+K*(2*z+1-2*c)=2*(v0+K*(m-c))+(-K)*(2*m-2*z-1):=by grind
  omega
theorem jo (c K s z m v0:Int)(hs:v0+K*(s-c)<0)(hm:v0+K*(m-c)≤0)(h1:s≤z)(h2:z<m):2*v0+K*(2*z+1-2*c)<0:=by
 have:=kE c (-K) s z m (-v0) (by grind) (by grind) h1 h2
 grind
theorem xf {a b zA zC v:Int}(ha:0<a)(hb:0<b)(hA:0<zA)(h:a*zC-b*zA=v)(hv:0≤v):0<zC:=by
 have h1:0<b*zA:=Int.mul_pos hb hA
 exact(bb ha).1 (by omega)
theorem y9 (g:eR d){u w p q:Nat}{zx zy:Int}(huw:d.J u w)(hpq:d.J p q)(hu:d.Y u≤zy)(hw:zy<d.Y w)(hp:d.Y p≤zy)(hq:zy<d.Y q)
  (hA:0<d.trz u w zx zy) (hne:¬(p=u∧q=w))
  (hmin:0<d.trz p q zx zy→d.num zx zy u w*d.den p q≤d.num zx zy p q*d.den u w) :
  (0<d.trz p q zx zy↔if p=u then d.tr u w q<0 else if d.Y p≤d.Y u then 0<d.tr p q u else d.tr u w p<0):=by
 have hun:=g.lt huw
 have hwn:=g.lt (g.symm huw)
 have hpn:=g.lt hpq
 have hqn:=g.lt (g.symm hpq)
 have iA:=idA (d.X u) (d.Y u) (d.X w) (d.Y w) (d.X p) (d.Y p) (d.X q) (d.Y q)
 have iB:=idB (d.X u) (d.Y u) (d.X w) (d.Y w) (d.X p) (d.Y p) (d.X q) (d.Y q)
 have iD:=Dz (d.X u) (d.Y u) (d.X w) (d.Y w) (d.X p) (d.Y p) (d.X q) (d.Y q)
 have iz:=Ew (d.X u) (d.Y u) (d.X w) (d.Y w) (d.X p) (d.Y p) (d.X q) (d.Y q) zx zy
 have iN:=wU (d.X u) (d.Y u) (d.X w) (d.Y w) (d.X p) (d.Y p) (d.X q) (d.Y q) zx zy
 change -(d.Y q-d.Y p)*d.tr u w p=(d.Y w-d.Y u)*d.tr p q u+(d.tr p q w-d.tr p q u)*(d.Y p-d.Y u) at iA
 change -(d.Y q-d.Y p)*d.tr u w q=(d.Y w-d.Y u)*d.tr p q u+(d.tr p q w-d.tr p q u)*(d.Y q-d.Y u) at iB
 change (d.Y w-d.Y u)*d.tr p q w=(d.Y w-d.Y u)*d.tr p q u+(d.tr p q w-d.tr p q u)*(d.Y w-d.Y u) at iD
 change (d.Y w-d.Y u)*d.trz p q zx zy-(d.Y q-d.Y p)*d.trz u w zx zy=(d.Y w-d.Y u)*d.tr p q u+(d.tr p q w-d.tr p q u)*(zy-d.Y u) at iz
 change (d.Y w-d.Y u)*d.num zx zy p q-(d.Y q-d.Y p)*d.num zx zy u w=2*((d.Y w-d.Y u)*d.tr p q u)+(d.tr p q w-d.tr p q u)*(2*zy+1-2*d.Y u) at iN
 have hmin':0<d.trz p q zx zy→0≤(d.Y w-d.Y u)*d.num zx zy p q-(d.Y q-d.Y p)*d.num zx zy u w:=by
  intro h
  have:=hmin h
  unfold Dr.den at this
  rw[Int.mul_comm (d.Y w-d.Y u),Int.mul_comm (d.Y q-d.Y p)]
  omega
 rw[iN]at hmin'
 have a0:0<d.Y w-d.Y u:=by omega
 have b0:0<d.Y q-d.Y p:=by omega
 have nb:∀x:Int,-(d.Y q-d.Y p)*x=(d.Y q-d.Y p)*(-x):=by intro x;grind
 rw[nb]at iA iB
 generalize hv0:(d.Y w-d.Y u)*d.tr p q u=v0 at *
 generalize hK:d.tr p q w-d.tr p q u=K at *
 by_cases hpu:p=u
 ·subst hpu
  rw[if_pos rfl]
  have hqw:q≠w:=fun e=>hne ⟨rfl,e⟩
  have hC:d.tr p q p=0:=jZ d p q
  have v00:v0=0:=by rw[←hv0,hC];simp
  have nB:d.tr p w q≠0:=by
   by_cases hh:d.Y q≤d.Y w
   ·exact nz g huw hqn (by omega) (by omega) hh (by intro e;subst e;omega) hqw
   ·have:=nz g hpq hwn (by omega) (by omega) (by omega) (by intro e;subst e;omega) (Ne.symm hqw)
    have:=de d p q w
    omega
  constructor
  ·intro h
   apply bcn;intro hn
   have hB:0<d.tr p w q:=by omega
   have e1:K*(d.Y q-d.Y p)<0:=by
    have:(d.Y q-d.Y p)*(- d.tr p w q)<0:=az _ _ b0 (by omega)
    omega
   have e2:K<0:=by
    rw[Int.mul_comm]at e1;exact(eh b0).1 e1
   have e3:=hmin' h
   have:0<(-K)*(2*zy+1-2*d.Y p):=Int.mul_pos (by omega) (by omega)
   have e:(-K)*(2*zy+1-2*d.Y p)=- (K*(2*zy+1-2*d.Y p)):=by grind
   omega
  ·intro h
   have e1:0<K*(d.Y q-d.Y p):=by
    have:0<(d.Y q-d.Y p)*(- d.tr p w q):=Int.mul_pos b0 (by omega)
    omega
   have e2:0<K:=by
    rw[Int.mul_comm]at e1;exact(bb b0).1 e1
   have:0≤K*(zy-d.Y p):=Int.mul_nonneg (by omega) (by omega)
   exact xf a0 b0 hA iz (by omega)
 ·rw[if_neg hpu]
  by_cases hpy:d.Y p≤d.Y u
  ·rw[if_pos hpy]
   have nC:d.tr p q u≠0:=nz g hpq hun (by omega) hpy (by omega) (Ne.symm hpu) (by intro e;subst e;omega)
   have sC:0<d.tr p q u∨d.tr p q u<0:=by omega
   have up:(0<d.tr p q u→∃m,zy<m∧0≤v0+K*(m-d.Y u))∧(d.tr p q u<0→∃m,zy<m∧v0+K*(m-d.Y u)≤0):=by
    by_cases hqw:q=w
    ·subst hqw
     have hD:d.tr p q q=0:=cK d p q
     rw[hD]at iD
     simp at iD
     exact⟨fun _=>⟨_,hw,by omega⟩,fun _=>⟨_,hw,by omega⟩⟩
    ·by_cases hh:d.Y q≤d.Y w
     ·have l:=L1 g huw hpq hpy (by omega) hh hpu hqw
      constructor
      ·intro h;exact⟨d.Y q,hq,by rw[←iB];exact Int.mul_nonneg (by omega) (by omega)⟩
      ·intro h;exact⟨d.Y q,hq,by
        rw[←iB]
        have:=az (d.Y q-d.Y p) (- d.tr u w q) b0 (by omega)
        omega⟩
     ·have l:=L2 g huw hpq hpy (by omega) (by omega) hpu hqw
      constructor
      ·intro h;exact⟨d.Y w,hw,by rw[←iD];exact Int.mul_nonneg (by omega) (by omega)⟩
      ·intro h;exact⟨d.Y w,hw,by
        rw[←iD]
        have:=az (d.Y w-d.Y u) (d.tr p q w) a0 (by omega)
        omega⟩
   constructor
   ·intro h
    apply bcn;intro hn
    have hC:d.tr p q u<0:=sC.resolve_left hn
    obtain⟨m,m1,m2⟩:=up.2 hC
    have v0n:v0<0:=by rw[←hv0];exact az _ _ a0 hC
    have t:=jo (d.Y u) K (d.Y u) zy m v0 (by simpa using v0n) m2 hu m1
    exact absurd (hmin' h) (Int.not_le.2 t)
   ·intro hC
    obtain⟨m,m1,m2⟩:=up.1 hC
    have v0p:0<v0:=by rw[←hv0];exact Int.mul_pos a0 hC
    have t:=qF (d.Y u) K (d.Y u) zy m v0 (by simpa using v0p) m2 hu m1
    exact xf a0 b0 hA iz (Int.le_of_lt t)
  ·rw[if_neg hpy]
   have nA:d.tr u w p≠0:=nz g huw hpn (by omega) (by omega) (by omega) hpu (by intro e;subst e;omega)
   have sA:d.tr u w p<0∨0<d.tr u w p:=by omega
   have up:(d.tr u w p<0→∃m,zy<m∧0≤v0+K*(m-d.Y u))∧(0<d.tr u w p→∃m,zy<m∧v0+K*(m-d.Y u)≤0):=by
    by_cases hqw:q=w
    ·subst hqw
     have hD:d.tr p q q=0:=cK d p q
     rw[hD]at iD
     simp at iD
     exact⟨fun _=>⟨_,hw,by omega⟩,fun _=>⟨_,hw,by omega⟩⟩
    ·by_cases hh:d.Y q≤d.Y w
     ·have l:=L2 g hpq huw (by omega) (by omega) hh (Ne.symm hpu) (Ne.symm hqw)
      constructor
      ·intro h;exact⟨d.Y q,hq,by rw[←iB];exact Int.mul_nonneg (by omega) (by omega)⟩
      ·intro h;exact⟨d.Y q,hq,by
        rw[←iB]
        have:=az (d.Y q-d.Y p) (- d.tr u w q) b0 (by omega)
        omega⟩
     ·have l:=L1 g hpq huw (by omega) (by omega) (by omega) (Ne.symm hpu) (Ne.symm hqw)
      constructor
      ·intro h;exact⟨d.Y w,hw,by rw[←iD];exact Int.mul_nonneg (by omega) (by omega)⟩
      ·intro h;exact⟨d.Y w,hw,by
        rw[←iD]
        have:=az (d.Y w-d.Y u) (d.tr p q w) a0 (by omega)
        omega⟩
   constructor
   ·intro h
    apply bcn;intro hn
    have hA':0<d.tr u w p:=sA.resolve_left hn
    obtain⟨m,m1,m2⟩:=up.2 hA'
    have v0n:v0+K*(d.Y p-d.Y u)<0:=by rw[←iA];exact az _ _ b0 (by omega)
    have t:=jo (d.Y u) K (d.Y p) zy m v0 v0n m2 hp m1
    exact absurd (hmin' h) (Int.not_le.2 t)
   ·intro hC
    obtain⟨m,m1,m2⟩:=up.1 hC
    have v0p:0<v0+K*(d.Y p-d.Y u):=by rw[←iA];exact Int.mul_pos b0 (by omega)
    have t:=qF (d.Y u) K (d.Y p) zy m v0 v0p m2 hp m1
    exact xf a0 b0 hA iz (Int.le_of_lt t)
def Dr.Pz (d:Dr)(zy:Int)(u w v:Nat):Bool:=decide (d.Y u<d.Y v∧d.Y v≤zy∧d.tr u w v<0)
theorem xm (g:eR d){u w p q:Nat}{zx zy:Int}(huw:d.J u w)(hpq:d.J p q)(h1:u<w)(h2:p<q)
  (hz:d.cz zx zy u w=true) (hmin:d.cz zx zy p q=true→d.num zx zy u w*d.den p q≤d.num zx zy p q*d.den u w) :
  (d.cz zx zy p q^^d.Om u w p q)=(d.Pz zy u w p^^d.Pz zy u w q):=by
 have hpn:=g.lt hpq
 have hqn:=g.lt (g.symm hpq)
 have hwn:=g.lt (g.symm huw)
 have hun:=g.lt huw
 unfold Dr.cz at hz
 have hz:=of_decide_eq_true hz
 obtain⟨hu,hw,hA⟩:=hz
 have hy:d.Y u<d.Y w:=by omega
 rw[xl g huw hpq h1 h2 hy]
 have hpqy:d.Y p≤d.Y q:=by rcases g.ord h2 hqn with h|h<;>omega
 by_cases he:p=u∧q=w
 ·obtain⟨rfl,rfl⟩:=he
  have e1:d.cz zx zy p q=true:=by unfold Dr.cz;exact dqt ⟨hu,hw,hA⟩
  have e2:d.Pz zy p q p=false:=by unfold Dr.Pz;exact dqf (by omega)
  have e3:d.Pz zy p q q=false:=by unfold Dr.Pz;exact dqf (by omega)
  rw[e1,e2,e3];simp
 have pz1:∀v,¬(d.Y u<d.Y v∧d.Y v≤zy)→d.Pz zy u w v=false:=by
  intro v h;unfold Dr.Pz;exact dqf (fun x=>h ⟨x.1,x.2.1⟩)
 have pz2:∀v,d.Y u<d.Y v→d.Y v≤zy→d.Pz zy u w v=decide (d.tr u w v<0):=by
  intro v h h';unfold Dr.Pz;simp[h,h']
 by_cases hcz:d.Y p≤zy∧zy<d.Y q
 ·
  obtain⟨c1,c2⟩:=hcz
  have czE:d.cz zx zy p q=decide (0<d.trz p q zx zy):=by unfold Dr.cz;simp[c1,c2]
  have zo:=y9 g huw hpq hu hw c1 c2 hA he (fun h=>hmin (by rw[czE];exact dqt h))
  rw[pz1 q (by omega),Bool.xor_false,czE]
  by_cases hpu:p=u
  ·subst hpu
   rw[if_pos rfl]at zo ⊢
   rw[pz1 p (by omega)]
   have hqw:q≠w:=fun e=>he ⟨rfl,e⟩
   have:(q=w∨(d.Y p<d.Y q∧d.tr p w q<0))↔0<d.trz p q zx zy:=by
    rw[zo];constructor
    ·rintro(h|h)
     ·exact absurd h hqw
     ·exact h.2
    ·intro h;exact Or.inr ⟨by omega,h⟩
   simp only[this,Bool.xor_self]
  ·rw[if_neg hpu]at zo ⊢
   by_cases hpy:d.Y p≤d.Y u
   ·rw[if_pos hpy]at zo
    rw[pz1 p (by omega)]
    have:(d.Y p≤d.Y u∧d.Y u<d.Y q∧0<d.tr p q u)↔0<d.trz p q zx zy:=by
     rw[zo];constructor
     ·exact fun h=>h.2.2
     ·exact fun h=>⟨hpy,by omega,h⟩
    simp only[this,Bool.xor_self]
   ·rw[if_neg hpy]at zo
    rw[pz2 p (by omega) c1]
    have:¬(d.Y p≤d.Y u∧d.Y u<d.Y q∧0<d.tr p q u):=fun h=>hpy h.1
    rw[dqf this,Bool.xor_false,decide_eq_decide.2 zo]
 ·have czE:d.cz zx zy p q=false:=by unfold Dr.cz;exact dqf (fun h=>hcz ⟨h.1,h.2.1⟩)
  rw[czE,Bool.false_xor]
  by_cases c1:zy<d.Y p
  ·rw[pz1 p (by omega),pz1 q (by omega)]
   by_cases hpu:p=u
   ·subst hpu;omega
   ·rw[if_neg hpu]
    have:¬(d.Y p≤d.Y u∧d.Y u<d.Y q∧0<d.tr p q u):=by omega
    rw[dqf this];rfl
  ·have c2:d.Y q≤zy:=by omega
   by_cases hpu:p=u
   ·subst hpu
    rw[if_pos rfl,pz1 p (by omega),Bool.false_xor]
    have hqw:q≠w:=fun e=>he ⟨rfl,e⟩
    unfold Dr.Pz
    rw[decide_eq_decide]
    constructor
    ·rintro(h|h)
     ·exact absurd h hqw
     ·exact⟨h.1,c2,h.2⟩
    ·intro h;exact Or.inr ⟨h.1,h.2.2⟩
   ·rw[if_neg hpu]
    have hqw:q≠w:=by intro e;subst e;omega
    have hpw:p≠w:=by intro e;subst e;omega
    by_cases c3:d.Y p≤d.Y u
    ·rw[pz1 p (by omega),Bool.false_xor]
     unfold Dr.Pz
     rw[decide_eq_decide]
     by_cases c4:d.Y u<d.Y q
     ·have l:=L1 g huw hpq c3 c4 (by omega) hpu hqw
      constructor
      ·intro h;exact⟨c4,c2,by omega⟩
      ·intro h;exact⟨c3,c4,by omega⟩
     ·constructor
      ·intro h;exact absurd h.2.1 c4
      ·intro h;exact absurd h.1 c4
    ·have:¬(d.Y p≤d.Y u∧d.Y u<d.Y q∧0<d.tr p q u):=fun h=>c3 h.1
     rw[dqf this,pz2 p (by omega) (by omega),pz2 q (by omega) c2]
     have:d.tr u w p<0↔d.tr u w q<0:=by
      rcases g.ord h2 hqn with hf|hf
      ·have l:=L2 g hpq huw (by omega) hf (by omega) (Ne.symm hpu) (Ne.symm hqw)
       omega
      ·have mv:d.tr u w q<d.tr u w p:=by
        have:d.tr u w p-d.tr u w q=(d.Y w-d.Y u)*(d.X q-d.X p):=by
         have:=hf.1;unfold Dr.tr tr6;grind
        have:0<(d.Y w-d.Y u)*(d.X q-d.X p):=Int.mul_pos (by omega) (by omega)
        omega
       constructor
       ·intro h;omega
       ·intro h
        apply bcn;intro hn
        have a2:=nz g huw hpn hy (by omega) (by omega) hpu hpw
        refine g.nocross huw hpq ⟨az _ _ (by omega) h,?_⟩
        rw[eq d p q u hf.1,eq d p q w hf.1]
        exact cw _ _ (az _ _ (by omega) (by omega)) (Int.mul_pos (by omega) (by omega))
     simp only[this,Bool.xor_self]
theorem jG {α:Type}(N D:α→Int):∀l:List α,l≠[]→(∀x∈l,0<D x)→∃x∈l,∀y∈l,N x*D y≤N y*D x
 |[],h,_=>absurd rfl h
 |[a],_,_=>⟨a,by simp,by simp⟩
 |a :: b :: r,_,hD=>by
  obtain⟨x,hx,hm⟩:=jG N D (b :: r) (by simp) (fun y hy=>hD y (List.mem_cons_of_mem _ hy))
  by_cases h:N a*D x≤N x*D a
  ·refine⟨a,by simp,fun y hy=>?_⟩
   rcases List.mem_cons.1 hy with e|e
   ·subst e;omega
   ·have h1:=hm y e
    have dx:=hD x (List.mem_cons_of_mem _ hx)
    have dy:=hD y (List.mem_cons_of_mem _ e)
    have da:=hD a (by simp)
    have p1:N a*D x*D y≤N x*D a*D y:=Int.mul_le_mul_of_nonneg_right h (by omega)
    have p2:N x*D y*D a≤N y*D x*D a:=Int.mul_le_mul_of_nonneg_right h1 (by omega)
    have p3:(N a*D y)*D x≤(N y*D a)*D x:=by
     have e1:N a*D x*D y=(N a*D y)*D x:=by grind
     have e2:N x*D a*D y=N x*D y*D a:=by grind
     have e3:N y*D x*D a=(N y*D a)*D x:=by grind
     omega
    exact Int.le_of_mul_le_mul_right p3 dx
  ·refine⟨x,List.mem_cons_of_mem _ hx,fun y hy=>?_⟩
   rcases List.mem_cons.1 hy with e|e
   ·subst e;omega
   ·exact hm y e
def lh (f:Nat→Nat→Bool)(e:ao):Bool:=f (min e.1 e.2) (max e.1 e.2)
theorem Bi (g:eR d)(edges:List ao)(hed:∀p q,d.J p q→p<q→(p,q)∈edges)(hed2:∀e∈edges,d.J e.1 e.2∧e.1<e.2)(zx zy:Int) :
  (∀E:List ao,(∀e∈E,d.J e.1 e.2)→xs (lh (d.cz zx zy)) E=false) ∨
  ∃u w,d.J u w∧∀E:List ao,(∀e∈E,d.J e.1 e.2)→cR E→xs (lh (d.cz zx zy)) E=d.om E u w:=by
 have side:∀(F:Nat→Nat→Prop),(∀p q,d.J p q→p<q→F p q)→∀e:ao,d.J e.1 e.2→F (min e.1 e.2) (max e.1 e.2):=by
  intro F hF e he
  rcases Nat.lt_or_gt_of_ne (g.ne he) with h|h
  ·rw[Nat.min_eq_left (by omega),Nat.max_eq_right (by omega)];exact hF _ _ he h
  ·rw[Nat.min_eq_right (by omega),Nat.max_eq_left (by omega)];exact hF _ _ (g.symm he) h
 by_cases hall:(edges.filter (fun e=>d.cz zx zy e.1 e.2))=[]
 ·left
  intro E hE
  have:xs (lh (d.cz zx zy)) E=xs (fun _=>false) E:=by
   apply bo
   intro e he
   refine side (fun p q=>d.cz zx zy p q=false) ?_ e (hE e he)
   intro p q hpq hlt
   have hm:=hed p q hpq hlt
   cases h:d.cz zx zy p q with
   |false=>rfl
   |true =>
    have:(p,q)∈edges.filter (fun e=>d.cz zx zy e.1 e.2):=List.mem_filter.2 ⟨hm,h⟩
    rw[hall]at this;cases this
  rw[this]
  clear this hE
  induction E with
  |nil=>rfl
  |cons a r ih=>rw[xs,ih];rfl
 ·right
  obtain⟨⟨u,w⟩,hx,hm⟩:=jG (fun e:ao=>d.num zx zy e.1 e.2) (fun e:ao=>d.den e.1 e.2) _ hall (by
   intro x hx
   have:=of_decide_eq_true (List.mem_filter.1 hx).2
   unfold Dr.den;omega)
  obtain⟨hx1,hx2⟩:=List.mem_filter.1 hx
  obtain⟨huw,hlt⟩:=hed2 _ hx1
  refine⟨u,w,huw,fun E hE hc=>?_⟩
  have h:xs (fun e=>lh (d.cz zx zy) e^^d.Om u w (min e.1 e.2) (max e.1 e.2)) E=false:=by
   rw[←hc (d.Pz zy u w)]
   apply bo
   intro e he
   have ze:∀p q,d.J p q→p<q→(d.cz zx zy p q^^d.Om u w p q)=(d.Pz zy u w p^^d.Pz zy u w q):=by
    intro p q hpq hlt'
    exact xm g huw hpq hlt hlt' hx2 (fun h=>hm (p,q) (List.mem_filter.2 ⟨hed p q hpq hlt',h⟩))
   have hj:=hE e he
   unfold lh
   rcases Nat.lt_or_gt_of_ne (g.ne hj) with h|h
   ·rw[Nat.min_eq_left (by omega),Nat.max_eq_right (by omega)];exact ze _ _ hj h
   ·rw[Nat.min_eq_right (by omega),Nat.max_eq_left (by omega),Bool.xor_comm (d.Pz zy u w e.1)];exact ze _ _ (g.symm hj) h
  rw[ip]at h
  unfold Dr.om
  revert h
  generalize xs (lh (d.cz zx zy)) E=a;generalize xs _ E=b
  cases a<;>cases b<;>simp
open Gla
theorem gT {α:Type}{p:α×Nat→Bool}:∀{l:List α} {k:Nat},(l.zipIdx k).find? p=none→∀i (h:i<l.length),p (l[i],k+i)=false
 |[],_,_,i,h=>absurd h (by simp)
 |a :: r,k,hf,i,h=>by
  rw[List.zipIdx_cons,List.find?_cons]at hf
  cases hp:p (a,k) with
  |true=>rw[hp]at hf;simp at hf
  |false =>
   rw[hp]at hf
   cases i with
   |zero=>simpa using hp
   |succ i =>
    have:=gT (l:=r) (k:=k+1) hf i (by simpa using h)
    simp only[List.getElem_cons_succ]
    rw[←this];congr 2;omega
theorem fw {α:Type}{p:Nat→α→Bool}{l:List α}(h:firstAt p l=none):∀i (hi:i<l.length),p i l[i]=false:=by
 intro i hi
 unfold firstAt at h
 rw[Option.map_eq_none_iff]at h
 have:=gT h i hi
 simpa using this
theorem cn {α:Type}{ok:α→Bool}{before:α→α→Bool}{l:List α}(h:firstBad ok before l=none) :
  (∀x∈l,ok x=true)∧∀i (hi:i+1<l.length),before l[i] l[i+1]=true:=by
 have h':=fw h
 constructor
 ·intro x hx
  obtain⟨i,hi,e⟩:=List.getElem_of_mem hx
  have:=h' i hi
  rw[e]at this
  cases hk:ok x with
  |true=>rfl
  |false=>rw[hk]at this;simp at this
 ·intro i hi
  have:=h' (i+1) hi
  rw[gge (show i+1-1<l.length by omega)]at this
  simp at this
  exact this.2
theorem eB (p q:Pt):p.below q=true↔p.y<q.y∨(p.y=q.y∧p.x<q.x):=by
 unfold Pt.below;simp
theorem lK {p q r:Pt}(h1:p.below q=true)(h2:q.below r=true):p.below r=true:=by
 rw[eB]at *;omega
theorem gD (p q:Nat×Nat):lineBelow p q=true↔p.1<q.1∨(p.1=q.1∧p.2<q.2):=by
 unfold lineBelow;simp
theorem lO {p q r:Nat×Nat}(h1:lineBelow p q=true)(h2:lineBelow q r=true):lineBelow p r=true:=by
 rw[gD]at *;omega
theorem chain_lt {α:Type}{R:α→α→Bool}(ht:∀{a b c},R a b=true→R b c=true→R a c=true){l:List α}
  (h:∀i (hi:i+1<l.length),R l[i] l[i+1]=true):∀i j (hi:i<j) (hj:j<l.length),R (l[i]'(by omega)) l[j]=true:=by
 intro i j hi
 induction j with
 |zero=>omega
 |succ j ih =>
  intro hj
  by_cases e:i=j
  ·subst e;exact h i hj
  ·exact ht (ih (by omega) (by omega)) (h j hj)
structure Kept (S:Plan):Prop where
 r4:firstBad (fun (p:Pt)=>decide (p.x≤S.w)&&decide (p.y≤S.h)) Pt.below S.pts=none
 r5:firstBad (fun (l:Nat×Nat)=>decide (l.1<l.2)&&decide (l.2<S.pts.length)) lineBelow S.lines=none
 r7:firstAt (touches S) S.lines=none
def ab (S:Plan):Dr:=⟨S.pts.length,fun i=>((S.pt i).x:Int),fun i=>((S.pt i).y:Int),fun i j=>(i,j)∈S.lines∨(j,i)∈S.lines⟩
theorem lS (S:Plan)(i j k:Nat):turn (S.pt i) (S.pt j) (S.pt k)=(ab S).tr i j k:=by
 unfold turn Dr.tr tr6 dx dy ab;rfl
theorem bJ (S:Plan){i:Nat}(h:i<S.pts.length):S.pt i=S.pts[i]:=by
 unfold Plan.pt;rw[List.getD_eq_getElem?_getD,gge h];rfl
theorem wJ (S:Plan)(i j k:Nat):isOn (S.pt i) (S.pt j) (S.pt k)=true↔(ab S).on i j k:=by
 unfold isOn Dr.on between
 rw[lS]
 simp only[ab,Bool.and_eq_true,beq_iff_eq,decide_eq_true_eq]
 omega
theorem Kept.ord {S:Plan}(k:Kept S){i j:Nat}(h:i<j)(hj:j<S.pts.length):(S.pt i).below (S.pt j)=true:=by
 have:=chain_lt (R:=Pt.below) (l:=S.pts) lK (cn k.r4).2 i j h hj
 rw[bJ S (by omega),bJ S hj];exact this
theorem Kept.line {S:Plan}(k:Kept S){l:Nat×Nat}(h:l∈S.lines):l.1<l.2∧l.2<S.pts.length:=by
 have:=(cn k.r5).1 l h
 simpa using this
theorem Kept.lines_lt {S:Plan}(k:Kept S):∀i j (_:i<j) (hj:j<S.lines.length),lineBelow (S.lines[i]'(by omega)) S.lines[j]=true :=
 chain_lt (R:=lineBelow) (l:=S.lines) lO (cn k.r5).2
theorem qh (p q r s:Pt):crosses p q r s=crosses r s p q:=by unfold crosses;rw[Bool.and_comm]
theorem jk (d:Dr)(i j k l:Nat):d.tr j i k*d.tr j i l=d.tr i j k*d.tr i j l:=by
 rw[j8 d i j k,j8 d i j l];grind
theorem bh (S:Plan)(k:Kept S):eR (ab S) where
 symm:=fun h=>h.elim Or.inr Or.inl
 lt:=by
  intro i j h
  rcases h with h|h
  ·have:=k.line h;show i<S.pts.length;omega
  ·have:=k.line h;exact this.2
 ne:=by
  intro i j h
  rcases h with h|h<;>(have:=k.line h;omega)
 ord:=by
  intro i j h hj
  have:=k.ord h hj
  rw[eB]at this
  simp only[ab];omega
 nocross:=by
  have main:∀e f,e∈S.lines→f∈S.lines→¬((ab S).tr e.1 e.2 f.1*(ab S).tr e.1 e.2 f.2<0∧(ab S).tr f.1 f.2 e.1*(ab S).tr f.1 f.2 e.2<0):=by
   intro e f he hf hc
   obtain⟨a,ha,ea⟩:=List.getElem_of_mem he
   obtain⟨b,hb,eb⟩:=List.getElem_of_mem hf
   have hcr:crosses (S.pt e.1) (S.pt e.2) (S.pt f.1) (S.pt f.2)=true:=by
    unfold crosses;simp only[lS,Bool.and_eq_true,decide_eq_true_eq];exact hc
   have one:∀a b (ha:a<S.lines.length) (hb:b<S.lines.length),b<a→crosses (S.pt S.lines[a].1) (S.pt S.lines[a].2) (S.pt S.lines[b].1) (S.pt S.lines[b].2)=false:=by
    intro a b ha hb hlt
    have:=fw k.r7 a ha
    unfold touches at this
    rw[Bool.or_eq_false_iff]at this
    have h2:=this.2
    rw[List.any_eq_false]at h2
    have hm:S.lines[b]∈S.lines.take a:=by
     rw[List.mem_take_iff_getElem]
     exact⟨b,by omega,rfl⟩
    have:=h2 _ hm
    simpa using this
   rcases Nat.lt_trichotomy a b with h|h|h
   ·have:=one b a hb ha h
    rw[ea,eb,qh,hcr]at this;cases this
   ·subst h
    rw[ea]at eb;subst eb
    rw[jZ]at hc;simp at hc
   ·have:=one a b ha hb h
    rw[ea,eb,hcr]at this;cases this
  intro i j p q hij hpq
  rcases hij with h1|h1<;>rcases hpq with h2|h2
  ·exact main (i,j) (p,q) h1 h2
  ·have:=main (i,j) (q,p) h1 h2
   simp only at this
   rw[jk (ab S) p q,Int.mul_comm ((ab S).tr i j q)]at this;exact this
  ·have:=main (j,i) (p,q) h1 h2
   simp only at this
   rw[jk (ab S) i j,Int.mul_comm ((ab S).tr p q j)]at this;exact this
  ·have:=main (j,i) (q,p) h1 h2
   simp only at this
   rw[jk (ab S) p q,jk (ab S) i j,Int.mul_comm ((ab S).tr i j q),Int.mul_comm ((ab S).tr p q j)]at this;exact this
 nopt:=by
  have main:∀e,e∈S.lines→∀c,c<S.pts.length→c≠e.1→c≠e.2→¬(ab S).on e.1 e.2 c:=by
   intro e he c hc h1 h2 hon
   obtain⟨a,ha,ea⟩:=List.getElem_of_mem he
   have:=fw k.r7 a ha
   unfold touches at this
   rw[Bool.or_eq_false_iff]at this
   have h3:=this.1
   rw[List.any_eq_false]at h3
   have:=h3 c (by simpa using hc)
   rw[ea]at this
   apply this
   rw[(wJ S _ _ _).2 hon]
   simp[h1,h2]
  intro i j c hij hc h1 h2 hon
  rcases hij with h|h
  ·exact main (i,j) h c hc h1 h2 hon
  ·exact main (j,i) h c hc h2 h1 (yE _ hon)
open Gla
def cr (a b:Int×Int):Int:=a.1*b.2-a.2*b.1
def Hi (a:Int×Int):Prop:=0<a.2∨(a.2=0∧0<a.1)
def Lo (a:Int×Int):Prop:=a.2<0∨(a.2=0∧a.1<0)
theorem km (a b:Int×Int):cr b a=- cr a b:=by unfold cr;grind
theorem uo (a b c:Int×Int):a.2*cr b c-b.2*cr a c+c.2*cr a b=0:=by unfold cr;grind
theorem mW {a b:Int×Int}(ha:Hi a)(hb:Hi b)(h:0<cr a b):0<b.2:=by
 rcases hb with h1|h1
 ·exact h1
 ·exfalso
  unfold cr at h
  rw[h1.1]at h
  have:0≤a.2*b.1:=Int.mul_nonneg (by unfold Hi at ha;omega) (by omega)
  simp at h;omega
theorem ng {a b:Int×Int}(ha:Lo a)(hb:Lo b)(h:0<cr a b):b.2<0:=by
 rcases hb with h1|h1
 ·exact h1
 ·exfalso
  unfold cr at h
  rw[h1.1]at h
  have:0≤(-a.2)*(-b.1):=Int.mul_nonneg (by unfold Lo at ha;omega) (by omega)
  have e:(-a.2)*(-b.1)=a.2*b.1:=by grind
  simp at h;omega
theorem mz {a b c:Int×Int}(ha:Hi a)(hb:Hi b)(hc:Hi c)(h1:0<cr a b)(h2:0<cr b c):0<cr a c:=by
 have yb:=mW ha hb h1
 have yc:=mW hb hc h2
 have p:=uo a b c
 have t1:0<c.2*cr a b:=Int.mul_pos yc h1
 have t2:0≤a.2*cr b c:=Int.mul_nonneg (by unfold Hi at ha;omega) (by omega)
 have t3:0<b.2*cr a c:=by omega
 exact(bb yb).1 t3
theorem mY {a b c:Int×Int}(ha:Lo a)(hb:Lo b)(hc:Lo c)(h1:0<cr a b)(h2:0<cr b c):0<cr a c:=by
 have yb:=ng ha hb h1
 have yc:=ng hb hc h2
 have p:=uo a b c
 have t1:0<(-c.2)*cr a b:=Int.mul_pos (by omega) h1
 have t2:0≤(-a.2)*cr b c:=Int.mul_nonneg (by unfold Lo at ha;omega) (by omega)
 have t3:0<(-b.2)*cr a c:=by grind
 exact(bb (show 0 < -b.2 by omega)).1 t3
theorem hhl {i j k:Int×Int}(hi:Hi i)(hj:Hi j)(hk:Lo k)(h:0<cr i j)(h2:0≤cr i k):0<cr j k:=by
 have yj:=mW hi hj h
 have p:=uo i j k
 by_cases hk0:k.2=0
 ·have:k.1<0:=by unfold Lo at hk;omega
  unfold cr;rw[hk0]
  have:0<j.2*(-k.1):=Int.mul_pos yj (by omega)
  grind
 ·have hk1:k.2<0:=by unfold Lo at hk;omega
  have t1:0<(-k.2)*cr i j:=Int.mul_pos (by omega) h
  have t2:0≤j.2*cr i k:=Int.mul_nonneg (by omega) h2
  by_cases hi0:i.2=0
  ·exfalso
   have:0<i.1:=by unfold Hi at hi;omega
   have:0<i.1*(-k.2):=Int.mul_pos this (by omega)
   unfold cr at h2;rw[hi0]at h2
   grind
  ·have:0<i.2*cr j k:=by grind
   exact(bb (show 0<i.2 by unfold Hi at hi;omega)).1 this
theorem hll {i j k:Int×Int}(hi:Hi i)(hj:Lo j)(hk:Lo k)(h:0<cr j k)(h2:0≤cr i k):0<cr i j:=by
 have yk:=ng hj hk h
 have p:=uo i j k
 by_cases hi0:i.2=0
 ·exfalso
  have:0<i.1:=by unfold Hi at hi;omega
  have:0<i.1*(-k.2):=Int.mul_pos this (by omega)
  unfold cr at h2;rw[hi0]at h2
  grind
 ·have t1:0<i.2*cr j k:=Int.mul_pos (by unfold Hi at hi;omega) h
  have t2:0≤(-j.2)*cr i k:=Int.mul_nonneg (by unfold Lo at hj;omega) h2
  have:0<(-k.2)*cr i j:=by grind
  exact(bb (show 0 < -k.2 by omega)).1 this
theorem sum_sq_neg {a b c e:Int}(h:a*e=b*c)(h1:0<b∨(b=0∧0<a))(h2:e<0∨(e=0∧c<0)):a*c+b*e<0:=by
 by_cases hb:b=0
 ·subst hb
  have ha:0<a:=by omega
  have he:e=0:=by
   have:a*e=0:=by simpa using h
   rcases Int.mul_eq_zero.1 this with h|h<;>omega
  subst he
  have:a*c<0:=az _ _ ha (by omega)
  simpa using this
 ·have hb':0<b:=by omega
  have he:e<0:=by
   rcases h2 with h2|h2
   ·exact h2
   ·exfalso
    rw[h2.1]at h
    have:b*c<0:=az _ _ hb' h2.2
    simp at h;omega
  have t:b*e<0:=az _ _ hb' he
  have t2:b*(a*c)=a*a*e:=by grind
  have t3:a*a*e≤0:=by
   have:0≤a*a:=by
    rcases Int.le_total 0 a with h|h
    ·exact Int.mul_nonneg h h
    ·have:=Int.mul_nonneg (show 0≤-a by omega) (show 0≤-a by omega);grind
   have:0≤(a*a)*(-e):=Int.mul_nonneg this (by omega)
   grind
  have t4:a*c≤0:=by
   apply bcn;intro hn
   have:0<b*(a*c):=Int.mul_pos hb' (by omega)
   omega
  omega
theorem zi {a b:Int×Int}(ha:Hi a)(hb:Lo b)(h:cr a b=0):a.1*b.1+a.2*b.2<0 :=
 sum_sq_neg (by unfold cr at h;omega) ha hb
theorem dF {r e:Int×Int}(h:0<cr e r):half r e=0:=by
 have:r.1*e.2-r.2*e.1<0:=by unfold cr at h;grind
 unfold half;simp[this]
theorem bH {r e:Int×Int}(h:0<cr r e):half r e=2:=by
 have h1:¬r.1*e.2-r.2*e.1<0:=by unfold cr at h;omega
 have h2:0<r.1*e.2-r.2*e.1:=h
 unfold half;simp only[h1,h2,if_true,if_false]
theorem mo {r e:Int×Int}(h:cr r e=0)(hd:r.1*e.1+r.2*e.2<0):half r e=1:=by
 have h1:¬r.1*e.2-r.2*e.1<0:=by unfold cr at h;omega
 have h2:¬0<r.1*e.2-r.2*e.1:=by unfold cr at h;omega
 unfold half;simp only[h1,h2,hd,if_true,if_false]
theorem jU (r a b:Int×Int):sooner r a b=true↔half r a<half r b∨(half r a=half r b∧cr a b<0):=by
 unfold sooner cr;simp
theorem dE (r a b:Int×Int):sooner r a b=false↔¬(half r a<half r b∨(half r a=half r b∧cr a b<0)):=by
 rw[←jU];simp
def Bef (a b:Int×Int):Prop:=(Hi a∧Lo b)∨(Hi a∧Hi b∧0<cr a b)∨(Lo a∧Lo b∧0<cr a b)
def sZ (r a b:Int×Int):Prop:=sooner r a b=true∧sooner r b a=false
theorem bK {r a b:Int×Int}(h:half r a<half r b):sZ r a b :=
 ⟨(jU r a b).2 (Or.inl h),(dE r b a).2 (by omega)⟩
theorem ck {r a b:Int×Int}(h:half r a≤half r b)(hc:cr a b<0):sZ r a b:=by
 refine⟨(jU r a b).2 ?_,(dE r b a).2 ?_⟩
 ·omega
 ·have:=km a b;omega
theorem gm {a b:Int×Int}(ha:Hi a)(hb:Lo b) :
  (0<cr a b∧half a b=2∧half b a=0)∨(cr a b=0∧half a b=1∧half b a=1)∨(cr a b<0∧half a b=0∧half b a=2):=by
 have s:=km a b
 rcases Int.lt_trichotomy (cr a b) 0 with h|h|h
 ·exact Or.inr (Or.inr ⟨h,dF (by omega),bH (by omega)⟩)
 ·have dd:=zi ha hb h
  refine Or.inr (Or.inl ⟨h,mo h dd,mo (by omega) ?_⟩)
  rw[Int.mul_comm b.1,Int.mul_comm b.2];exact dd
 ·exact Or.inl ⟨h,bH h,dF h⟩
theorem BF {i j k:Int×Int}(hij:Bef i j)(hjk:Bef j k)(hik:Bef i k)(nh:∀a,¬(Hi a∧Lo a)):sZ k j i:=by
 have s1:=km i j
 rcases hij with⟨a,b⟩|⟨a,b,c⟩|⟨a,b,c⟩
 ·rcases hjk with⟨a',b'⟩|⟨a',b',c'⟩|⟨a',b',c'⟩
  ·exact absurd ⟨a',b⟩ (nh j)
  ·exact absurd ⟨a',b⟩ (nh j)
  ·
   have h1:half k j=0:=dF c'
   rcases gm a b' with h|h|h
   ·have:=hll a b b' c' (by omega)
    exact ck (by omega) (by omega)
   ·exact bK (by omega)
   ·exact bK (by omega)
 ·rcases hjk with⟨a',b'⟩|⟨a',b',c'⟩|⟨a',b',c'⟩
  ·
   refine ck ?_ (by omega)
   rcases gm a b' with h|h|h
   ·have:=hhl a b b' c (by omega)
    rw[dF this];omega
   ·have:=hhl a b b' c (by omega)
    rw[dF this];omega
   ·rcases gm a' b' with h'|h'|h'<;>omega
  ·have:=mz a b b' c c'
   exact ck (by rw[dF c',dF this];omega) (by omega)
  ·exact absurd ⟨b,a'⟩ (nh j)
 ·rcases hjk with⟨a',b'⟩|⟨a',b',c'⟩|⟨a',b',c'⟩
  ·exact absurd ⟨a',b⟩ (nh j)
  ·exact absurd ⟨a',b⟩ (nh j)
  ·have:=mY a b b' c c'
   exact ck (by rw[dF c',dF this];omega) (by omega)
theorem Co {i j k:Int×Int}(hij:Bef i j)(hjk:Bef j k)(hik:Bef i k)(nh:∀a,¬(Hi a∧Lo a)):sZ j i k:=by
 have s1:=km i j
 rcases hij with⟨a,b⟩|⟨a,b,c⟩|⟨a,b,c⟩
 ·rcases hjk with⟨a',b'⟩|⟨a',b',c'⟩|⟨a',b',c'⟩
  ·exact absurd ⟨a',b⟩ (nh j)
  ·exact absurd ⟨a',b⟩ (nh j)
  ·have h1:half j k=2:=bH c'
   rcases gm a b with h|h|h
   ·exact bK (by omega)
   ·exact bK (by omega)
   ·refine ck (by omega) ?_
    apply bcn;intro hn
    have:=hll a b b' c' (by omega)
    omega
 ·have h0:half j i=0:=dF c
  rcases hjk with⟨a',b'⟩|⟨a',b',c'⟩|⟨a',b',c'⟩
  ·rcases gm a' b' with h|h|h
   ·exact bK (by omega)
   ·exact bK (by omega)
   ·refine ck (by omega) ?_
    apply bcn;intro hn
    have:=hhl a b b' c (by omega)
    omega
  ·exact bK (by rw[h0,bH c'];omega)
  ·exact absurd ⟨b,a'⟩ (nh j)
 ·rcases hjk with⟨a',b'⟩|⟨a',b',c'⟩|⟨a',b',c'⟩
  ·exact absurd ⟨a',b⟩ (nh j)
  ·exact absurd ⟨a',b⟩ (nh j)
  ·exact bK (by rw[dF c,bH c'];omega)
theorem BQ {i j k:Int×Int}(hij:Bef i j)(hjk:Bef j k)(hik:Bef i k)(nh:∀a,¬(Hi a∧Lo a)):sZ i k j:=by
 have s1:=km j k
 rcases hij with⟨a,b⟩|⟨a,b,c⟩|⟨a,b,c⟩
 ·rcases hjk with⟨a',b'⟩|⟨a',b',c'⟩|⟨a',b',c'⟩
  ·exact absurd ⟨a',b⟩ (nh j)
  ·exact absurd ⟨a',b⟩ (nh j)
  ·refine ck ?_ (by omega)
   rcases gm a b' with h|h|h
   ·have:=hll a b b' c' (by omega)
    rw[bH this];omega
   ·have:=hll a b b' c' (by omega)
    rw[bH this];omega
   ·omega
 ·rcases hjk with⟨a',b'⟩|⟨a',b',c'⟩|⟨a',b',c'⟩
  ·have h2:half i j=2:=bH c
   rcases gm a b' with h|h|h
   ·have:=hhl a b b' c (by omega)
    exact ck (by omega) (by omega)
   ·exact bK (by omega)
   ·exact bK (by omega)
  ·have:=mz a b b' c c'
   exact ck (by rw[bH c,bH this];omega) (by omega)
  ·exact absurd ⟨b,a'⟩ (nh j)
 ·rcases hjk with⟨a',b'⟩|⟨a',b',c'⟩|⟨a',b',c'⟩
  ·exact absurd ⟨a',b⟩ (nh j)
  ·exact absurd ⟨a',b⟩ (nh j)
  ·have:=mY a b b' c c'
   exact ck (by rw[bH c,bH this];omega) (by omega)
theorem ny (a:Int×Int):¬(Hi a∧Lo a):=by unfold Hi Lo;omega
theorem ot {r:Int×Int}(h:Hi r∨Lo r):half r r=3:=by
 have e:r.1*r.2-r.2*r.1=0:=by grind
 have sq:∀x:Int,0≤x*x:=by
  intro x
  rcases Int.le_total 0 x with h|h
  ·exact Int.mul_nonneg h h
  ·have:=Int.mul_nonneg (show 0≤-x by omega) (show 0≤-x by omega);grind
 have:¬r.1*r.1+r.2*r.2<0:=by have:=sq r.1;have:=sq r.2;omega
 unfold half;simp only[e,this];simp
theorem jX {a b:Int×Int}(h:Bef a b):half a b<3∧half b a<3:=by
 rcases h with⟨x,y⟩|⟨x,y,c⟩|⟨x,y,c⟩
 ·rcases gm x y with h|h|h<;>omega
 ·rw[bH c,dF c];omega
 ·rw[bH c,dF c];omega
open Gla
def bn (S:Plan)(m e:Nat):List Nat→List Nat
 |[]=>[e]
 |a :: r=>if 0<turn (S.pt m) (S.pt a) (S.pt e) then a :: bn S m e r else e :: a :: r
def sortTurn (S:Plan)(m:Nat)(ends:List Nat):List Nat:=ends.foldl (fun ring e=>bn S m e ring) []
def aj (S:Plan)(k:Nat):List Nat :=
 sortTurn S k ((S.near k).filter fun e=>decide (k<e))++sortTurn S k ((S.near k).filter fun e=>decide (e<k))
theorem fu (S:Plan)(m e:Nat):∀l,(bn S m e l).Perm (e :: l)
 |[]=>List.Perm.refl _
 |a :: r=>by
  rw[bn];split
  ·exact((fu S m e r).cons a).trans (List.Perm.swap e a r)
  ·exact List.Perm.refl _
theorem ja (S:Plan)(m:Nat):∀(l acc:List Nat),(l.foldl (fun ring e=>bn S m e ring) acc).Perm (acc++l)
 |[],acc=>by simp
 |e :: r,acc=>by
  rw[List.foldl_cons]
  refine(ja S m r _).trans ?_
  refine((fu S m e acc).append_right r).trans ?_
  exact(List.perm_middle (a:=e) (l₁:=acc) (l₂:=r)).symm
theorem cQ (S:Plan)(m:Nat)(l:List Nat):(sortTurn S m l).Perm l:=by
 have:=ja S m l []
 simpa [sortTurn] using this
theorem fO {S:Plan}(k:Kept S){i j:Nat}:j∈S.near i↔(ab S).J i j:=by
 unfold Plan.near
 rw[List.mem_filterMap]
 constructor
 ·rintro⟨l,hl,h⟩
  have:=k.line hl
  split at h
  ·rename_i e
   cases h
   left;rw[←e];exact hl
  ·split at h
   ·rename_i e' e
    cases h
    right;rw[←e];exact hl
   ·cases h
 ·rintro(h|h)
  ·exact⟨(i,j),h,by simp⟩
  ·have:=k.line h
   refine⟨(j,i),h,?_⟩
   simp only
   rw[if_neg (by simp only at this;omega)];simp
theorem lines_nodup {S:Plan}(k:Kept S):S.lines.Nodup:=by
 rw[List.Nodup,List.pairwise_iff_getElem]
 intro i j hi hj hlt e
 have:=k.lines_lt i j hlt hj
 rw[e,gD]at this;omega
theorem mC {S:Plan}(k:Kept S)(i:Nat):(S.near i).Nodup:=by
 unfold Plan.near
 rw[List.Nodup,List.pairwise_filterMap]
 refine List.Pairwise.imp_of_mem ?_ (lines_nodup k)
 intro a b ha hb hab x hx y hy e
 subst e
 have la:=k.line ha
 have lb:=k.line hb
 apply hab
 split at hx
 ·cases hx
  split at hy
  ·simp at hy;exact Prod.ext (by omega) (by omega)
  ·split at hy
   ·simp at hy;omega
   ·cases hy
 ·split at hx
  ·cases hx
   split at hy
   ·simp at hy;omega
   ·split at hy
    ·simp at hy;exact Prod.ext (by omega) (by omega)
    ·cases hy
  ·cases hx
theorem a9 (S:Plan)(i j:Nat):dir S i j=((ab S).X j-(ab S).X i,(ab S).Y j-(ab S).Y i):=rfl
theorem ug (S:Plan)(m a b:Nat):(ab S).tr m a b=cr (dir S m a) (dir S m b):=by
 rw[a9,a9];unfold Dr.tr tr6 cr;grind
theorem oI {S:Plan}(k:Kept S){m a:Nat}(h:(ab S).J m a)(hlt:m<a):Hi (dir S m a):=by
 have g:=bh S k
 rcases g.ord hlt (g.lt (g.symm h)) with h|h
 ·left;rw[a9];simp only;omega
 ·right;rw[a9];simp only;omega
theorem oQ {S:Plan}(k:Kept S){m a:Nat}(h:(ab S).J m a)(hlt:a<m):Lo (dir S m a):=by
 have g:=bh S k
 rcases g.ord hlt (g.lt h) with h|h
 ·left;rw[a9];simp only;omega
 ·right;rw[a9];simp only;omega
theorem oN {S:Plan}(k:Kept S){m a b:Nat}(ha:(ab S).J m a)(hb:(ab S).J m b)(hab:a≠b)(hs:(m<a∧m<b)∨(a<m∧b<m)) :
  (ab S).tr m a b≠0:=by
 have g:=bh S k
 have up:∀x y,(ab S).J m x→(ab S).J m y→m<x→x<y→(ab S).tr m y x=0→False:=by
  intro x y hx hy h1 h2 h0
  have hyn:=g.lt (g.symm hy)
  have hxn:=g.lt (g.symm hx)
  refine g.nopt hy hxn (by omega) (by omega) ?_
  rcases g.ord h1 hxn with o1|o1<;>rcases g.ord h2 hyn with o2|o2
  ·exact cu _ h0 (by omega) (by omega) (by omega)
  ·exact cu _ h0 (by omega) (by omega) (by omega)
  ·exact cu _ h0 (by omega) (by omega) (by omega)
  ·exact⟨h0,by omega,by omega,by omega,by omega⟩
 have dn:∀x y,(ab S).J m x→(ab S).J m y→x<m→y<x→(ab S).tr m y x=0→False:=by
  intro x y hx hy h1 h2 h0
  have hmn:=g.lt hx
  have hxn:=g.lt (g.symm hx)
  refine g.nopt (g.symm hy) hxn (by omega) (by omega) ?_
  have h0':(ab S).tr y m x=0:=by rw[j8];omega
  rcases g.ord h1 hmn with o1|o1<;>rcases g.ord h2 hxn with o2|o2
  ·exact cu _ h0' (by omega) (by omega) (by omega)
  ·exact cu _ h0' (by omega) (by omega) (by omega)
  ·exact cu _ h0' (by omega) (by omega) (by omega)
  ·exact⟨h0',by omega,by omega,by omega,by omega⟩
 intro h0
 have h0':(ab S).tr m b a=0:=by rw[de];omega
 rcases hs with⟨h1,h2⟩|⟨h1,h2⟩
 ·rcases Nat.lt_or_gt_of_ne hab with h|h
  ·exact up a b ha hb h1 h h0'
  ·exact up b a hb ha h2 h h0
 ·rcases Nat.lt_or_gt_of_ne hab with h|h
  ·exact dn b a hb ha h2 h h0
  ·exact dn a b ha hb h1 h h0'
theorem iT {S:Plan}(k:Kept S){m:Nat}(up:Bool){e:Nat} :
  ∀(l:List Nat),(∀a∈e :: l,(ab S).J m a∧if up then m<a else a<m)→e∉l →
  l.Pairwise (fun a b=>0<(ab S).tr m a b)→(bn S m e l).Pairwise (fun a b=>0<(ab S).tr m a b)
 |[],_,_,_=>by simp[bn]
 |a :: r,hm,hn,hp=>by
  rw[List.pairwise_cons]at hp
  have ha:=hm a (by simp)
  have he:=hm e (by simp)
  rw[bn]
  split
  ·rename_i ht
   rw[lS]at ht
   rw[List.pairwise_cons]
   refine⟨?_,iT k up r (fun x hx=>hm x ?_) (fun h=>hn (List.mem_cons_of_mem _ h)) hp.2⟩
   ·intro x hx
    rcases List.mem_cons.1 ((fu S m e r).mem_iff.1 hx) with h|h
    ·subst h;exact ht
    ·exact hp.1 x h
   ·rcases List.mem_cons.1 hx with h|h
    ·subst h;simp
    ·simp[h]
  ·rename_i ht
   rw[lS]at ht
   have hne:a≠e:=fun h=>hn (by simp[h])
   have hz:(ab S).tr m a e≠0:=oN k ha.1 he.1 hne (by cases up<;>simp at ha he<;>omega)
   have t1:0<(ab S).tr m e a:=by rw[de];omega
   rw[List.pairwise_cons]
   refine⟨?_,List.pairwise_cons.2 hp⟩
   intro x hx
   rcases List.mem_cons.1 hx with h|h
   ·subst h;exact t1
   ·have t2:=hp.1 x h
    have hx':=hm x (by simp[h])
    rw[ug]at t1 t2 ⊢
    cases up with
    |true =>
     simp at ha he hx'
     exact mz (oI k he.1 he.2) (oI k ha.1 ha.2) (oI k hx'.1 hx'.2) t1 t2
    |false =>
     simp at ha he hx'
     exact mY (oQ k he.1 he.2) (oQ k ha.1 ha.2) (oQ k hx'.1 hx'.2) t1 t2
theorem eZ {S:Plan}(k:Kept S){m:Nat}(up:Bool):∀(l acc:List Nat),(∀a∈acc++l,(ab S).J m a∧if up then m<a else a<m)→(acc++l).Nodup →
  acc.Pairwise (fun a b=>0<(ab S).tr m a b)→(l.foldl (fun ring e=>bn S m e ring) acc).Pairwise (fun a b=>0<(ab S).tr m a b)
 |[],acc,_,_,h=>h
 |e :: r,acc,hm,hn,hp=>by
  rw[List.foldl_cons]
  have pm:=fu S m e acc
  have hen:e∉acc:=by
   intro h
   rw[List.nodup_append]at hn
   exact hn.2.2 e h e (by simp) rfl
  have pm2:(bn S m e acc++r).Perm (acc++e :: r) :=
   (pm.append_right r).trans (List.perm_middle (a:=e) (l₁:=acc) (l₂:=r)).symm
  refine eZ k up r _ ?_ ?_ ?_
  ·intro a ha
   exact hm a (pm2.mem_iff.1 ha)
  ·exact pm2.nodup_iff.2 hn
  ·refine iT k up acc ?_ hen hp
   intro a ha
   apply hm
   rcases List.mem_cons.1 ha with h|h
   ·simp[h]
   ·simp[h]
theorem lG {S:Plan}(k:Kept S)(m:Nat):(aj S m).Perm (S.near m):=by
 unfold aj
 refine((cQ S m _).append (cQ S m _)).trans ?_
 have h:(S.near m).filter (fun e=>decide (e<m))=(S.near m).filter (fun e=>!decide (m<e)):=by
  apply List.filter_congr
  intro x hx
  have:=(bh S k).ne ((fO k).1 hx)
  by_cases h:m<x
  ·simp[h];omega
  ·simp[h];omega
 rw[h]
 exact List.filter_append_perm _ _
theorem lq {S:Plan}(k:Kept S)(m:Nat):(aj S m).Pairwise (fun b w=>Bef (dir S m b) (dir S m w) ∧
  ((m<b∧w<m)∨(((m<b∧m<w)∨(b<m∧w<m))∧0<(ab S).tr m b w))):=by
 unfold aj
 rw[List.pairwise_append]
 have m1:∀x∈sortTurn S m ((S.near m).filter fun e=>decide (m<e)),(ab S).J m x∧m<x:=by
  intro x hx
  have:=List.mem_filter.1 ((cQ S m _).mem_iff.1 hx)
  exact⟨(fO k).1 this.1,by simpa using this.2⟩
 have m2:∀x∈sortTurn S m ((S.near m).filter fun e=>decide (e<m)),(ab S).J m x∧x<m:=by
  intro x hx
  have:=List.mem_filter.1 ((cQ S m _).mem_iff.1 hx)
  exact⟨(fO k).1 this.1,by simpa using this.2⟩
 refine⟨?_,?_,?_⟩
 ·have h:=eZ k (m:=m) true ((S.near m).filter fun e=>decide (m<e)) [] (by
   intro a ha
   simp only[List.nil_append]at ha
   have:=List.mem_filter.1 ha
   exact⟨(fO k).1 this.1,by simpa using this.2⟩) (by rw[List.nil_append];exact(mC k m).filter _) List.Pairwise.nil
  refine List.Pairwise.imp_of_mem ?_ h
  intro a b ha hb hab
  have h1:=m1 a ha
  have h2:=m1 b hb
  refine⟨Or.inr (Or.inl ⟨oI k h1.1 h1.2,oI k h2.1 h2.2,?_⟩),Or.inr ⟨Or.inl ⟨h1.2,h2.2⟩,hab⟩⟩
  rw[←ug];exact hab
 ·have h:=eZ k (m:=m) false ((S.near m).filter fun e=>decide (e<m)) [] (by
   intro a ha
   simp only[List.nil_append]at ha
   have:=List.mem_filter.1 ha
   exact⟨(fO k).1 this.1,by simpa using this.2⟩) (by rw[List.nil_append];exact(mC k m).filter _) List.Pairwise.nil
  refine List.Pairwise.imp_of_mem ?_ h
  intro a b ha hb hab
  have h1:=m2 a ha
  have h2:=m2 b hb
  refine⟨Or.inr (Or.inr ⟨oQ k h1.1 h1.2,oQ k h2.1 h2.2,?_⟩),Or.inr ⟨Or.inr ⟨h1.2,h2.2⟩,hab⟩⟩
  rw[←ug];exact hab
 ·intro a ha b hb
  have h1:=m1 a ha
  have h2:=m2 b hb
  exact⟨Or.inl ⟨oI k h1.1 h1.2,oQ k h2.1 h2.2⟩,Or.inl ⟨h1.2,h2.2⟩⟩
theorem cG {S:Plan}(k:Kept S):lM (ab S) (aj S) where
 mem:=by
  intro u w
  rw[(lG k u).mem_iff,fO k]
 sorted:=by
  intro u
  refine(lq k u).imp ?_
  intro b w h
  have hne:b≠w:=by
   intro e;subst e
   rcases h.2 with h|h
   ·omega
   ·rw[cK]at h;omega
  refine⟨?_,?_,hne⟩
  ·unfold Dr.pre
   apply dqt
   exact Or.inr h.2
  ·unfold Dr.pre
   apply dqf
   have:=de (ab S) u b w
   omega
theorem gI {f:Nat→Int×Int}{R:Int×Int}{y:Nat}:∀(l:List Nat) (a:Nat),(∀b∈a :: l,b≠y→sZ R (f y) (f b))→y∈a :: l →
  l.foldl (fun (a b:Nat)=>if sooner R (f b) (f a)=true then b else a) a=y
 |[],a,h,hy=>by
  simp at hy;simp[hy]
 |b :: r,a,h,hy=>by
  rw[List.foldl_cons]
  by_cases ha:a=y
  ·subst ha
   by_cases hb:b=a
   ·subst hb
    simp only[ite_self]
    exact gI r b (fun c hc=>h c (by rcases List.mem_cons.1 hc with h|h<;>simp[h])) (by simp)
   ·have:=(h b (by simp) hb).2
    rw[if_neg (by rw[this];simp)]
    exact gI r a (fun c hc=>h c (by rcases List.mem_cons.1 hc with h|h<;>simp[h])) (by simp)
  ·by_cases hb:b=y
   ·subst hb
    have:=(h a (by simp) ha).1
    rw[if_pos this]
    exact gI r b (fun c hc=>h c (by rcases List.mem_cons.1 hc with h|h<;>simp[h])) (by simp)
   ·have hr:y∈r:=by
     rcases List.mem_cons.1 hy with h1|h1
     ·exact absurd h1.symm ha
     ·rcases List.mem_cons.1 h1 with h2|h2
      ·exact absurd h2.symm hb
      ·exact h2
    refine gI r _ ?_ (by simp[hr])
    intro c hc
    apply h
    rcases List.mem_cons.1 hc with h1|h1
    ·subst h1;split<;>simp
    ·simp[h1]
theorem mD {S:Plan}(k:Kept S){u v:Nat}(hu:u∈aj S v):∀b∈aj S v,b≠bE (aj S v) u→sZ (dir S v u) (dir S v (bE (aj S v) u)) (dir S v b):=by
 intro b hb hne
 obtain⟨l1,l2,e,hn⟩:=jb hu
 have hp:=(lq k v).imp (fun h=>h.1)
 rw[e]at hp hb hne ⊢
 by_cases h1:l1=[]
 ·subst h1
  simp only[List.nil_append]at *
  rw[iS]at hne ⊢
  by_cases h2:l2=[]
  ·subst h2;simp at *;exact absurd hb hne
  ·have hy:(u :: l2).getLast (by simp)=l2.getLast h2:=List.getLast_cons h2
   rw[hy]at hne ⊢
   rw[List.pairwise_cons]at hp
   rcases List.mem_cons.1 hb with h3|h3
   ·subst h3
    have:=hp.1 _ (List.getLast_mem h2)
    have h4:=jX this
    refine bK ?_
    rw[ot]
    ·omega
    ·rcases this with x|x|x
     ·exact Or.inl x.1
     ·exact Or.inl x.1
     ·exact Or.inr x.1
   ·have hall:(l2.dropLast++[l2.getLast h2]).Pairwise (fun b w=>Bef (dir S v b) (dir S v w)):=by
     rw[List.dropLast_concat_getLast];exact hp.2
    rw[List.pairwise_append]at hall
    have hb':b∈l2.dropLast:=by
     have hx:b∈l2.dropLast++[l2.getLast h2]:=by
      rw[List.dropLast_concat_getLast];exact h3
     rcases List.mem_append.1 hx with hx|hx
     ·exact hx
     ·simp at hx;exact absurd hx hne
    exact BQ (hp.1 b h3) (hall.2.2 b hb' _ (by simp)) (hp.1 _ (List.getLast_mem h2)) ny
 ·rw[iK hn h1]at hne ⊢
  rw[List.pairwise_append,List.pairwise_cons]at hp
  obtain⟨p1,p2,p3⟩:=hp
  have hyu:=p3 _ (List.getLast_mem h1) u (by simp)
  rcases List.mem_append.1 hb with h3|h3
  ·have hall:(l1.dropLast++[l1.getLast h1]).Pairwise (fun b w=>Bef (dir S v b) (dir S v w)):=by
    rw[List.dropLast_concat_getLast];exact p1
   rw[List.pairwise_append]at hall
   have hb':b∈l1.dropLast:=by
    have hx:b∈l1.dropLast++[l1.getLast h1]:=by
     rw[List.dropLast_concat_getLast];exact h3
    rcases List.mem_append.1 hx with hx|hx
    ·exact hx
    ·simp at hx;exact absurd hx hne
   exact BF (hall.2.2 b hb' _ (by simp)) hyu (p3 b h3 u (by simp)) ny
  ·rcases List.mem_cons.1 h3 with h4|h4
   ·subst h4
    have h5:=jX hyu
    refine bK ?_
    rw[ot (r:=dir S v b)]
    ·omega
    ·rcases hyu with x|x|x
     ·exact Or.inr x.2
     ·exact Or.inl x.2.1
     ·exact Or.inr x.2.1
   ·exact Co hyu (p2.1 b h4) (p3 _ (List.getLast_mem h1) b (by simp[h4])) ny
theorem yR {S:Plan}(k:Kept S){u v:Nat}(h:(ab S).J u v):S.next u v=bE (aj S v) u:=by
 have g:=bh S k
 have r:=cG k
 have hu:u∈aj S v:=r.mem.2 (g.symm h)
 have hs:=mD k hu
 have hm:=kI hu
 have pm:=lG k v
 unfold Plan.next
 cases hn:S.near v with
 |nil =>
  rw[hn]at pm
  have:=pm.mem_iff.1 hu;cases this
 |cons a l =>
  rw[hn]at pm
  exact gI (f:=fun x=>dir S v x) l a (fun b hb hne=>hs b (pm.mem_iff.2 hb) hne) (pm.mem_iff.1 hm)
open Gla
theorem bC {α:Type}[DecidableEq α]:∀{l m:List α},l.Nodup→(∀x∈l,x∈m)→l.length≤m.length
 |[],_,_,_=>by simp
 |a :: r,m,hn,hs=>by
  rw[List.nodup_cons]at hn
  have ha:a∈m:=hs a (by simp)
  have:=bC (l:=r) (m:=m.erase a) hn.2 (by
   intro x hx
   have hne:x≠a:=by intro e;subst e;exact hn.1 hx
   exact(List.mem_erase_of_ne hne).2 (hs x (by simp[hx])))
  rw[List.length_erase_of_mem ha]at this
  have:0<m.length:=List.length_pos_of_mem ha
  simp;omega
theorem jc {S:Plan}{a b:Nat}:(a,b)∈ways S↔(ab S).J a b:=by
 unfold ways
 rw[List.mem_flatMap]
 constructor
 ·rintro⟨l,hl,h⟩
  simp at h
  rcases h with h|h
  ·left;rw[h];exact hl
  ·right;rw[h.1,h.2];exact hl
 ·rintro(h|h)
  ·exact⟨_,h,by simp⟩
  ·exact⟨_,h,by simp⟩
theorem lm (S:Plan):(ways S).length=2*S.lines.length:=by
 unfold ways
 induction S.lines with
 |nil=>rfl
 |cons a r ih=>rw[List.flatMap_cons,List.length_append,ih];simp;omega
section
variable  {S:Plan}(k:Kept S)
include k
theorem kM {e:ao}(he:(ab S).J e.1 e.2):∀i j,aE (aj S) e i=aE (aj S) e (i+j)→aE (aj S) e j=e
 |0,j,h=>by rw[Nat.zero_add]at h;exact h.symm
 |i+1,j,h=>by
  have g:=bh S k
  have r:=cG k
  have e1:i+1+j=(i+j)+1:=by omega
  rw[e1,fJ,fJ]at h
  exact kM he i j (lR g r (eN g r he _) (eN g r he _) h)
theorem qV {e:ao}(he:(ab S).J e.1 e.2):∃N,0<N∧N≤2*S.lines.length∧aE (aj S) e N=e:=by
 have g:=bh S k
 have r:=cG k
 apply bcn
 intro hno
 have hd:∀a b,0≤a→a<b→b<0+(2*S.lines.length+1)→aE (aj S) e a≠aE (aj S) e b:=by
  intro a b _ hab hb heq
  apply hno
  refine⟨b-a,by omega,by omega,kM k he a (b-a) ?_⟩
  have:a+(b-a)=b:=by omega
  rw[this];exact heq
 have nd:=fK (aj S) e (2*S.lines.length+1) 0 hd
 have hl:=bC nd (m:=ways S) (by
  intro x hx
  obtain⟨j,_,_,rfl⟩:=(bN _ _ _ _ _).1 hx
  exact jc.2 (eN g r he j))
 have seg_len:∀n i,(seg (aj S) e i n).length=n:=by
  intro n;induction n with
  |zero=>intro i;rfl
  |succ n ih=>intro i;rw[seg,List.length_cons,ih]
 rw[seg_len,lm]at hl
 omega
theorem pV {e:ao}(he:(ab S).J e.1 e.2):∃N,0<N∧N≤2*S.lines.length∧aE (aj S) e N=e ∧
  ∀m,0<m→m<N→aE (aj S) e m≠e:=by
 have step:∀n,(∃N,0<N∧N≤n∧aE (aj S) e N=e)→∃N,0<N∧N≤n∧aE (aj S) e N=e∧∀m,0<m→m<N→aE (aj S) e m≠e:=by
  intro n
  induction n with
  |zero=>rintro⟨N,h1,h2,_⟩;omega
  |succ n ih =>
   rintro⟨N,h1,h2,h3⟩
   by_cases hx:∃N,0<N∧N≤n∧aE (aj S) e N=e
   ·obtain⟨N,a,b,c,d⟩:=ih hx
    exact⟨N,a,by omega,c,d⟩
   ·refine⟨N,h1,h2,h3,fun m m1 m2 m3=>hx ⟨m,m1,by omega,m3⟩⟩
 exact step _ (qV k he)
end
theorem cA (ring:Nat→List Nat)(e:ao):∀n i,(seg ring e i n).length=n
 |0,_=>rfl
 |n+1,i=>by rw[seg,List.length_cons,cA ring e n]
theorem oq {S:Plan}(k:Kept S){e:ao}(he:(ab S).J e.1 e.2){N:Nat}(h0:0<N)(hN:aE (aj S) e N=e)
  (hm:∀m,0<m→m<N→aE (aj S) e m≠e):∀n i,i<N→N≤i+n→S.round n e (aE (aj S) e i)=(seg (aj S) e i (N-i)).map (·.1)
 |0,i,h1,h2=>by omega
 |n+1,i,h1,h2=>by
  have g:=bh S k
  have r:=cG k
  have hj:=eN g r he i
  rw[Plan.round]
  have e1:((aE (aj S) e i).2,S.next (aE (aj S) e i).1 (aE (aj S) e i).2)=aE (aj S) e (i+1):=by
   rw[yR k hj];rfl
  simp only[e1]
  have e2:N-i=(N-(i+1))+1:=by omega
  rw[e2,seg,List.map_cons]
  congr 1
  by_cases h:i+1=N
  ·rw[if_pos (by rw[h,hN]),h];simp[seg]
  ·rw[if_neg (hm (i+1) (by omega) (by omega))]
   exact oq k he h0 hN hm n (i+1) (by omega) (by omega)
def rnd (S:Plan)(e:ao):List Nat:=S.round (2*S.lines.length+1) e e
def orb (S:Plan)(e:ao):List ao:=seg (aj S) e 0 (rnd S e).length
structure Per (S:Plan)(e:ao)(N:Nat):Prop where
 pos:0<N
 back:aE (aj S) e N=e
 dist:∀a b,a<b→b<N→aE (aj S) e a≠aE (aj S) e b
 rnd:rnd S e=(seg (aj S) e 0 N).map (·.1)
 len:(WL.rnd S e).length=N
 orb:orb S e=seg (aj S) e 0 N
theorem dj {S:Plan}(k:Kept S){e:ao}(he:(ab S).J e.1 e.2):Per S e (rnd S e).length:=by
 obtain⟨N,h0,hL,hN,hm⟩:=pV k he
 have hr:rnd S e=(seg (aj S) e 0 N).map (·.1):=by
  have:=oq k he h0 hN hm (2*S.lines.length+1) 0 h0 (by omega)
  simpa [rnd,aE] using this
 have hl:(rnd S e).length=N:=by rw[hr,lmp,cA]
 rw[hl]
 refine⟨h0,hN,?_,hr,hl,?_⟩
 ·intro a b hab hb heq
  have:=kM k he a (b-a) (by rw[heq];congr 1;omega)
  exact hm (b-a) (by omega) (by omega) this
 ·unfold orb;rw[hl]
theorem fY (ring:Nat→List Nat)(e:ao)(i:Nat):∀j,aE ring e (i+j)=aE ring (aE ring e i) j
 |0=>rfl
 |j+1=>by rw[←Nat.add_assoc,fJ,fY ring e i j];rfl
theorem rH {ring:Nat→List Nat}{e:ao}{N:Nat}(hN:aE ring e N=e):∀m,aE ring e (N*m)=e
 |0=>rfl
 |m+1=>by rw[Nat.mul_succ,fY,rH hN m,hN]
theorem ql {ring:Nat→List Nat}{e:ao}{N:Nat}(hN:aE ring e N=e)(h0:0<N)(j:Nat):aE ring e j=aE ring e (j % N):=by
 have:j=N*(j / N)+j % N:=(Nat.div_add_mod j N).symm
 conv=>lhs;rw[this]
 rw[fY,rH hN]
theorem dY {S:Plan}(k:Kept S){e x:ao}(he:(ab S).J e.1 e.2):x∈orb S e↔∃j,x=aE (aj S) e j:=by
 have p:=dj k he
 rw[p.orb,bN]
 constructor
 ·rintro⟨j,_,_,h⟩;exact⟨j,h⟩
 ·rintro⟨j,h⟩
  refine⟨j % (rnd S e).length,Nat.zero_le _,?_,?_⟩
  ·rw[Nat.zero_add];exact Nat.mod_lt _ p.pos
  ·rw[h];exact ql p.back p.pos j
theorem hG {S:Plan}(k:Kept S){e:ao}(he:(ab S).J e.1 e.2):e∈orb S e:=(dY k he).2 ⟨0,rfl⟩
theorem fU {S:Plan}(k:Kept S){e x:ao}(he:(ab S).J e.1 e.2)(h:x∈orb S e):(ab S).J x.1 x.2:=by
 obtain⟨j,rfl⟩:=(dY k he).1 h
 exact eN (bh S k) (cG k) he j
theorem em {S:Plan}(k:Kept S){e x:ao}(he:(ab S).J e.1 e.2)(h:x∈orb S e):e∈orb S x:=by
 have hx:=fU k he h
 have p:=dj k he
 rw[p.orb,bN]at h
 obtain⟨j,_,h2,rfl⟩:=h
 refine(dY k hx).2 ⟨(rnd S e).length-j,?_⟩
 rw[←fY]
 have:j+((rnd S e).length-j)=(rnd S e).length:=by omega
 rw[this,p.back]
theorem fL {S:Plan}(k:Kept S){e x y:ao}(he:(ab S).J e.1 e.2)(h:x∈orb S e)(h2:y∈orb S x):y∈orb S e:=by
 have hx:=fU k he h
 obtain⟨i,rfl⟩:=(dY k he).1 h
 obtain⟨j,rfl⟩:=(dY k hx).1 h2
 exact(dY k he).2 ⟨i+j,by rw[fY]⟩
def prs (l:List Nat):List ao:=l.zip (l.drop 1++l.take 1)
theorem rS (ring:Nat→List Nat)(e:ao):∀n i,((seg ring e i (n+1)).map (·.1)).zip (((seg ring e i (n+1)).map (·.1)).drop 1++[(aE ring e (i+n+1)).1])=seg ring e i (n+1)
 |0,i=>by
  simp[seg]
  exact Prod.ext rfl (dQ ring e i)
 |n+1,i=>by
  have ih:=rS ring e n (i+1)
  rw[seg,List.map_cons,List.drop_one,List.tail_cons]
  have e0:(seg ring e (i+1) (n+1)).map (·.1)=(aE ring e (i+1)).1 :: ((seg ring e (i+1) (n+1)).map (·.1)).drop 1:=by
   rw[seg];rfl
  have e1:i+1+n+1=i+(n+1)+1:=by omega
  rw[e1]at ih
  conv=>lhs;rw[e0]
  rw[List.cons_append,List.zip_cons_cons,←e0,ih]
  congr 1
theorem ir {S:Plan}(k:Kept S){e:ao}(he:(ab S).J e.1 e.2):prs (rnd S e)=orb S e:=by
 have p:=dj k he
 obtain⟨n,hn⟩:∃n,(rnd S e).length=n+1:=⟨(rnd S e).length-1,by have:=p.pos;omega⟩
 have hr:=p.rnd
 have hb:=p.back
 rw[hn]at hr hb
 unfold prs
 have ht:(rnd S e).take 1=[(aE (aj S) e (0+n+1)).1]:=by
  rw[hr,Nat.zero_add,hb,seg];rfl
 rw[ht,hr,rS,p.orb,hn]
theorem eK (ring:Nat→List Nat)(e:ao):∀a b i,seg ring e i (a+b)=seg ring e i a++seg ring e (i+a) b
 |0,b,i=>by simp[seg]
 |a+1,b,i=>by
  have:a+1+b=(a+b)+1:=by omega
  rw[this,seg,seg,eK ring e a b (i+1),List.cons_append]
  congr 2;congr 1;omega
theorem kT (ring:Nat→List Nat)(e:ao)(j:Nat):∀n i,seg ring (aE ring e j) i n=seg ring e (j+i) n
 |0,i=>rfl
 |n+1,i=>by
  rw[seg,seg,kT ring e j n (i+1),←fY];rfl
theorem mN {ring:Nat→List Nat}{e:ao}{N:Nat}(hN:aE ring e N=e):∀n i,seg ring e (N+i) n=seg ring e i n
 |0,i=>rfl
 |n+1,i=>by
  have:N+i+1=N+(i+1):=by omega
  rw[seg,seg,this,mN hN n (i+1),fY,hN]
theorem mj {S:Plan}(k:Kept S){e x:ao}(he:(ab S).J e.1 e.2)(h:x∈orb S e):(rnd S x).length=(rnd S e).length:=by
 have le:∀{a b:ao},(ab S).J a.1 a.2→b∈orb S a→(orb S b).length≤(orb S a).length:=by
  intro a b ha hb
  have hbj:=fU k ha hb
  have pb:=dj k hbj
  apply bC
  ·rw[pb.orb];exact fK _ _ _ _ (fun x y _ h1 h2=>pb.dist x y h1 (by omega))
  ·intro y hy;exact fL k ha hb hy
 have hx:=fU k he h
 have l1:=le he h
 have l2:=le hx (em k he h)
 unfold orb at l1 l2
 rw[cA,cA]at l1 l2
 omega
theorem yP {S:Plan}(k:Kept S){e:ao}(he:(ab S).J e.1 e.2){j:Nat}(hj:j<(rnd S e).length) :
  rnd S (aE (aj S) e j)=(rnd S e).drop j++(rnd S e).take j:=by
 have g:=bh S k
 have r:=cG k
 have p:=dj k he
 have hx:=eN g r he j
 have hm:aE (aj S) e j∈orb S e:=(dY k he).2 ⟨j,rfl⟩
 have px:=dj k hx
 have hl:=mj k he hm
 rw[px.rnd,hl,kT]
 obtain⟨m,hm'⟩:∃m,(rnd S e).length=j+m:=⟨(rnd S e).length-j,by omega⟩
 have e1:seg (aj S) e (j+0) (rnd S e).length=seg (aj S) e j m++seg (aj S) e 0 j:=by
  rw[hm']
  have:j+m=m+j:=by omega
  rw[this,Nat.add_zero,eK]
  congr 1
  have h2:=mN p.back j 0
  rw[Nat.add_zero,hm']at h2;exact h2
 have e2:rnd S e=(seg (aj S) e 0 j).map (·.1)++(seg (aj S) e j m).map (·.1):=by
  rw[p.rnd,hm',eK,List.map_append,Nat.zero_add]
 have hl1:((seg (aj S) e 0 j).map (·.1)).length=j:=by rw[lmp,cA]
 rw[e1,List.map_append]
 conv=>rhs;rw[e2]
 rw[List.drop_left' hl1,List.take_left' hl1]
open Gla
structure AS (S:Plan)(ok:Nat→Prop)(m:Nat→Bool)(c:Bool)(todo:List Nat)(seen:Array Bool):Prop where
 t:∀x∈todo,ok x∧m x=c
 s:∀j,seen[j]? = some true→ok j→m j=c
 f:∀j,seen[j]? = some false→ok j
theorem sG {S:Plan}{i:Nat}{j:Nat}(h:j∈S.nears.getD i []):j∈S.near i:=by
 unfold Plan.nears at h
 rw[Array.getD_eq_getD_getElem?]at h
 simp only[List.getElem?_toArray,List.getElem?_map]at h
 cases hr:(List.range S.pts.length)[i]? with
 |none=>rw[hr]at h;simp at h
 |some x =>
  rw[hr]at h
  have:x=i:=by
   have:=List.getElem?_eq_some_iff.1 hr
   obtain⟨a,b⟩:=this
   rw[List.getElem_range]at b;exact b.symm
  subst this;simpa using h
theorem ox {S:Plan}{ok:Nat→Prop}{m:Nat→Bool}{c:Bool}(he:∀a b,(ab S).J a b→ok a→ok b→m a=m b){i:Nat}(hi:ok i∧m i=c) :
  ∀(l:List Nat),(∀j∈l,(ab S).J i j)→∀(z:List Nat×Array Bool),AS S ok m c z.1 z.2 →
  AS S ok m c (l.foldl (fun (a:List Nat×Array Bool) (j:Nat)=>if a.2.getD j true=true then a else (j :: a.1,a.2.setIfInBounds j true)) z).1
   (l.foldl (fun (a:List Nat×Array Bool) (j:Nat)=>if a.2.getD j true=true then a else (j :: a.1,a.2.setIfInBounds j true)) z).2
 |[],_,z,h=>h
 |j :: r,hl,z,h=>by
  rw[List.foldl_cons]
  refine ox he hi r (fun x hx=>hl x (by simp[hx])) _ ?_
  split
  ·exact h
  ·rename_i hs
   have hjf:z.2[j]? = some false:=by
    rw[Array.getD_eq_getD_getElem?]at hs
    cases hz:z.2[j]? with
    |none=>rw[hz]at hs;simp at hs
    |some b=>cases b with
     |true=>rw[hz]at hs;simp at hs
     |false=>rfl
   have hok:=h.f j hjf
   have hm:m j=c:=by rw[←he i j (hl j (by simp)) hi.1 hok];exact hi.2
   constructor
   ·intro x hx
    rcases List.mem_cons.1 hx with e|e
    ·subst e;exact⟨hok,hm⟩
    ·exact h.t x e
   ·intro x hx hokx
    by_cases e:j=x
    ·subst e;exact hm
    ·rw[Array.getElem?_setIfInBounds_ne e]at hx
     exact h.s x hx hokx
   ·intro x hx
    by_cases e:j=x
    ·subst e;exact hok
    ·rw[Array.getElem?_setIfInBounds_ne e]at hx
     exact h.f x hx
theorem jf {S:Plan}(k:Kept S){ok:Nat→Prop}{m:Nat→Bool}{c:Bool}(he:∀a b,(ab S).J a b→ok a→ok b→m a=m b) :
  ∀(n:Nat) (todo:List Nat) (seen:Array Bool),AS S ok m c todo seen→∀j,(spread S.nears n todo seen)[j]? = some true→ok j→m j=c
 |0,todo,seen,h=>by intro j;rw[spread];exact h.s j
 |n+1,todo,seen,h=>by
  cases todo with
  |nil=>exact h.s
  |cons x r =>
   have hx:=h.t x (by simp)
   refine jf k he n _ _ (ox he hx _ (fun j hj=>(fO k).1 (sG hj)) (r,seen) ⟨?_,h.s,h.f⟩)
   intro y hy;exact h.t y (by simp[hy])
theorem pz:∀(l:List Nat) (z:List Nat×Array Bool),
  (l.foldl (fun (a:List Nat×Array Bool) (j:Nat)=>if a.2.getD j true=true then a else (j :: a.1,a.2.setIfInBounds j true)) z).2.size=z.2.size
 |[],z=>rfl
 |j :: r,z=>by
  rw[List.foldl_cons,pz r];split
  ·rfl
  ·simp
theorem lB {near:Array (List Nat)}:∀(n:Nat) (todo:List Nat) (seen:Array Bool),(spread near n todo seen).size=seen.size
 |0,_,_=>rfl
 |n+1,todo,seen=>by
  cases todo with
  |nil=>rfl
  |cons x r=>exact(lB n _ _).trans (pz _ _)
theorem wW {S:Plan}(k:Kept S)(h0:0<S.pts.length)
  (h9:(List.range S.pts.length).find? (fun (i:Nat)=>!((seenFrom S.nears S.pts.length 0 (noneSeen S.pts.length)).getD i false))=none):sS (ab S) (fun _=>True):=by
 intro m he
 have key:∀a,a<S.pts.length→m a=m 0:=by
  intro a ha
  have:=List.find?_eq_none.1 h9 a (by simpa using ha)
  have hs:(seenFrom S.nears S.pts.length 0 (noneSeen S.pts.length))[a]? = some true:=by
   rw[Array.getD_eq_getD_getElem?]at this
   cases hz:(seenFrom S.nears S.pts.length 0 (noneSeen S.pts.length))[a]? with
   |none=>rw[hz]at this;simp at this
   |some b=>cases b with
    |true=>rfl
    |false=>rw[hz]at this;simp at this
  refine jf k (ok:=fun _=>True) (c:=m 0) he _ _ _ ⟨?_,?_,?_⟩ a hs trivial
  ·intro x hx;simp at hx;subst hx;exact⟨trivial,rfl⟩
  ·intro j hj _
   by_cases e:0=j
   ·subst e;rfl
   ·rw[Array.getElem?_setIfInBounds_ne e]at hj
    unfold noneSeen at hj
    rw[Array.getElem?_replicate]at hj
    split at hj<;>simp at hj
  ·intro _ _;trivial
 intro a b ha hb _ _
 rw[key a ha,key b hb]
theorem xN {S:Plan}(k:Kept S)(h0:4≤S.pts.length){v:Nat}(hv:v<S.pts.length)
  (h10:cuts S.nears S.pts.length v=false):sS (ab S) (fun u=>u≠v):=by
 intro m he
 let s:=if v=0 then 1 else 0
 have hsv:s≠v:=by show(if v=0 then 1 else 0)≠v;split<;>omega
 have key:∀a,a<S.pts.length→a≠v→m a=m s:=by
  intro a ha hav
  unfold cuts at h10
  have hsz:(seenFrom S.nears S.pts.length (if v=0 then 1 else 0) ((noneSeen S.pts.length).setIfInBounds v true)).size=S.pts.length:=by
   unfold seenFrom;rw[lB];simp[noneSeen]
  have hs:(seenFrom S.nears S.pts.length (if v=0 then 1 else 0) ((noneSeen S.pts.length).setIfInBounds v true))[a]? = some true:=by
   have hlt:a<(seenFrom S.nears S.pts.length (if v=0 then 1 else 0) ((noneSeen S.pts.length).setIfInBounds v true)).size:=by rw[hsz];exact ha
   rw[Array.getElem?_eq_getElem hlt]
   cases hz:(seenFrom S.nears S.pts.length (if v=0 then 1 else 0) ((noneSeen S.pts.length).setIfInBounds v true))[a] with
   |true=>rfl
   |false =>
    exfalso
    have:(seenFrom S.nears S.pts.length (if v=0 then 1 else 0) ((noneSeen S.pts.length).setIfInBounds v true)).contains false=true:=by
     rw[Array.contains_iff_mem]
     rw[←hz];exact Array.getElem_mem hlt
    rw[h10]at this;cases this
  refine jf k (ok:=fun u=>u≠v) (c:=m s) he _ _ _ ⟨?_,?_,?_⟩ a hs hav
  ·intro x hx
   have hx:x=s:=by simpa using hx
   subst hx;exact⟨hsv,rfl⟩
  ·intro j hj hjv
   by_cases e:s=j
   ·subst e;rfl
   ·rw[Array.getElem?_setIfInBounds_ne e,Array.getElem?_setIfInBounds_ne (Ne.symm hjv)]at hj
    unfold noneSeen at hj
    rw[Array.getElem?_replicate]at hj
    split at hj<;>simp at hj
  ·intro j hj e
   subst e
   rw[Array.getElem?_setIfInBounds_ne hsv,Array.getElem?_setIfInBounds_self]at hj
   split at hj<;>simp at hj
 intro a b ha hb hav hbv
 rw[key a ha hav,key b hb hbv]
theorem iy:∀(r:List Nat) (a m:Nat),m∈a :: r→(∀x∈a :: r,m≤x)→r.foldl min a=m
 |[],a,m,h,_=>by simp at h;simp[h]
 |b :: r,a,m,h,hm=>by
  rw[List.foldl_cons]
  apply iy r
  ·have h1:=hm a (by simp)
   have h2:=hm b (by simp)
   rcases List.mem_cons.1 h with e|e
   ·subst e;simp;left;omega
   ·rcases List.mem_cons.1 e with e|e
    ·subst e;simp;left;omega
    ·simp[e]
  ·intro x hx
   rcases List.mem_cons.1 hx with e|e
   ·have h1:=hm a (by simp)
    have h2:=hm b (by simp)
    omega
   ·exact hm x (by simp[e])
theorem dP {m:Nat}{t:List Nat}(hm:∀x∈t,m<x){j:Nat}(hj:j<(m :: t).length) :
  fromLeast ((m :: t).drop j++(m :: t).take j)=m :: t:=by
 have hmem:∀x,x∈(m :: t).drop j++(m :: t).take j→x∈m :: t:=by
  intro x hx
  rcases List.mem_append.1 hx with h|h
  ·exact List.mem_of_mem_drop h
  ·exact List.mem_of_mem_take h
 have hge:∀x,x∈(m :: t).drop j++(m :: t).take j→m≤x:=by
  intro x hx
  rcases List.mem_cons.1 (hmem x hx) with e|e
  ·omega
  ·exact Nat.le_of_lt (hm x e)
 by_cases h0:j=0
 ·subst h0
  simp only[List.drop_zero,List.take_zero,List.append_nil]at *
  unfold fromLeast
  simp only
  rw[iy t m m (by simp) hge]
  simp
 ·obtain⟨i,rfl⟩:∃i,j=i+1:=⟨j-1,by omega⟩
  have hin:m∈(m :: t).drop (i+1)++(m :: t).take (i+1):=by simp
  have hno:m∉(m :: t).drop (i+1):=by
   intro h
   simp only[List.drop_succ_cons]at h
   have:=hm m (List.mem_of_mem_drop h);omega
  have hidx:((m :: t).drop (i+1)++(m :: t).take (i+1)).idxOf m=((m :: t).drop (i+1)).length:=by
   rw[List.take_succ_cons];exact lF hno
  generalize hL:(m :: t).drop (i+1)++(m :: t).take (i+1)=L at *
  unfold fromLeast
  cases L with
  |nil=>simp at hin
  |cons a r =>
   simp only
   rw[iy r a m hin hge,hidx,←hL,List.drop_left,List.take_left,List.take_append_drop]
structure df (S:Plan):Prop extends Kept S where
 pts4:4≤S.pts.length
 r6:frameOk S=true
 r9:(List.range S.pts.length).find? (fun (i:Nat)=>!((seenFrom S.nears S.pts.length 0 (noneSeen S.pts.length)).getD i false))=none
 r10:(List.range S.pts.length).find? (cuts S.nears S.pts.length)=none
theorem df.conn {S:Plan}(k:df S):sS (ab S) (fun _=>True):=wW k.toKept (by have:=k.pts4;omega) k.r9
theorem df.but {S:Plan}(k:df S):∀v,v<(ab S).n→sS (ab S) (fun u=>u≠v):=by
 intro v hv
 have:=List.find?_eq_none.1 k.r10 v (by simpa [ab] using hv)
 exact xN k.toKept k.pts4 hv (by simpa using this)
theorem kF {S:Plan}(k:df S){e:ao}(he:(ab S).J e.1 e.2):(rnd S e).Nodup:=by
 have p:=dj k.toKept he
 have g:=bh S k.toKept
 have r:=cG k.toKept
 rw[p.rnd,List.Nodup,List.pairwise_map,List.pairwise_iff_getElem]
 have get:∀n i a (h:a<(seg (aj S) e i n).length),(seg (aj S) e i n)[a]=aE (aj S) e (i+a):=by
  intro n
  induction n with
  |zero=>intro i a h;simp[seg]at h
  |succ n ih =>
   intro i a h
   cases a with
   |zero=>rfl
   |succ a =>
    simp only[seg,List.getElem_cons_succ]
    rw[ih];congr 1;omega
 intro a b ha hb hab
 rw[get,get]
 rw[cA]at hb
 simpa using re g r he p.back p.dist k.but hab hb
open Gla
theorem lg {S:Plan}{l:List Nat}(hc:chained S l=true){i:Nat}(hi:i+1<l.length):(ab S).J l[i] l[i+1]:=by
 unfold chained at hc
 rw[List.all_eq_true]at hc
 have hm:(l[i],l[i+1])∈l.zip (l.drop 1):=by
  rw[List.mem_iff_getElem]
  refine⟨i,by simp;omega,?_⟩
  rw[List.getElem_zip,List.getElem_drop]
  congr 2;omega
 have:=hc _ hm
 unfold Plan.joined at this
 rw[List.contains_iff_mem]at this
 simp only at this
 rcases Nat.le_total l[i] l[i+1] with h|h
 ·rw[Nat.min_eq_left h,Nat.max_eq_right h]at this;exact Or.inl this
 ·rw[Nat.min_eq_right h,Nat.max_eq_left h]at this;exact Or.inr this
theorem a7 {S:Plan}{on:Pt→Bool}{b:Nat}:b∈edgePts S on↔b<S.pts.length∧on (S.pt b)=true:=by
 unfold edgePts;rw[List.mem_filter];simp
theorem ig {S:Plan}{on:Pt→Bool}:(edgePts S on).Pairwise (· < ·):=by
 unfold edgePts;exact List.pairwise_lt_range.filter _
theorem nQ {S:Plan}{on:Pt→Bool}(hc:chained S (edgePts S on)=true){b c:Nat}(hb:b∈edgePts S on)(hcm:c∈edgePts S on)(h:c<b) :
  ∃k,k∈edgePts S on∧k<b∧(ab S).J k b:=by
 obtain⟨i,hi,ei⟩:=List.getElem_of_mem hb
 obtain⟨j,hj,ej⟩:=List.getElem_of_mem hcm
 have hlt:=List.pairwise_iff_getElem.1 (ig (S:=S) (on:=on))
 have hji:j<i:=by
  apply bcn;intro hn
  rcases Nat.lt_or_eq_of_le (Nat.le_of_not_lt hn) with h'|h'
  ·have:=hlt i j hi hj h';omega
  ·subst h';omega
 obtain⟨i',rfl⟩:∃i',i=i'+1:=⟨i-1,by omega⟩
 refine⟨(edgePts S on)[i'],List.getElem_mem _,?_,?_⟩
 ·have:=hlt i' (i'+1) (by omega) hi (by omega);omega
 ·have:=lg hc hi
  rw[ei]at this;exact this
theorem mw {S:Plan}{on:Pt→Bool}(hc:chained S (edgePts S on)=true){b c:Nat}(hb:b∈edgePts S on)(hcm:c∈edgePts S on)(h:b<c) :
  ∃k,k∈edgePts S on∧b<k∧(ab S).J b k:=by
 obtain⟨i,hi,ei⟩:=List.getElem_of_mem hb
 obtain⟨j,hj,ej⟩:=List.getElem_of_mem hcm
 have hlt:=List.pairwise_iff_getElem.1 (ig (S:=S) (on:=on))
 have hji:i<j:=by
  apply bcn;intro hn
  rcases Nat.lt_or_eq_of_le (Nat.le_of_not_lt hn) with h'|h'
  ·have:=hlt j i hj hi h';omega
  ·subst h';omega
 refine⟨(edgePts S on)[i+1],List.getElem_mem _,?_,?_⟩
 ·have:=hlt i (i+1) (by omega) (by omega) (by omega);omega
 ·have:=lg hc (i:=i) (by omega)
  rw[ei]at this;exact this
structure tM (S:Plan):Prop where
 inw:∀{i},i<S.pts.length→(S.pt i).x≤S.w∧(S.pt i).y≤S.h
 bot:∀{b},b<S.pts.length→(S.pt b).y=0→(S.pt b).x≠0→∃k,(ab S).J b k∧(S.pt k).y=0∧(S.pt k).x<(S.pt b).x
 lef:∀{b},b<S.pts.length→(S.pt b).x=0→(S.pt b).y≠S.h→∃k,(ab S).J b k∧(S.pt k).x=0∧(S.pt b).y<(S.pt k).y
 top:∀{b},b<S.pts.length→(S.pt b).y=S.h→(S.pt b).x≠S.w→∃k,(ab S).J b k∧(S.pt k).y=S.h∧(S.pt b).x<(S.pt k).x
 rig:∀{b},b<S.pts.length→(S.pt b).x=S.w→(S.pt b).y≠0→∃k,(ab S).J b k∧(S.pt k).x=S.w∧(S.pt k).y<(S.pt b).y
 last:∃c,c+1=S.pts.length∧(S.pt c).x=S.w∧(S.pt c).y=S.h
theorem d8 {S:Plan}{p:Pt}(h:S.pts.contains p=true):∃c,c<S.pts.length∧S.pt c=p:=by
 rw[List.contains_iff_mem]at h
 obtain⟨i,hi,e⟩:=List.getElem_of_mem h
 exact⟨i,hi,by rw[bJ S hi];exact e⟩
theorem iY {S:Plan}(k:Kept S)(h6:frameOk S=true):tM S:=by
 have hin:∀{i},i<S.pts.length→(S.pt i).x≤S.w∧(S.pt i).y≤S.h:=by
  intro i hi
  have:=(cn k.r4).1 (S.pt i) (by rw[bJ S hi];exact List.getElem_mem _)
  simpa using this
 unfold frameOk at h6
 simp only[Bool.and_eq_true]at h6
 obtain⟨c00,cw0,c0h,cwh,e1,e2,e3,e4⟩:=h6
 obtain⟨a0,a1,a2⟩:=d8 c00
 obtain⟨b0,b1,b2⟩:=d8 cw0
 obtain⟨c0,c1,c2⟩:=d8 c0h
 obtain⟨d0,d1,d2⟩:=d8 cwh
 have lt_of:∀{i j},i<S.pts.length→j<S.pts.length→((S.pt i).y<(S.pt j).y∨((S.pt i).y=(S.pt j).y∧(S.pt i).x<(S.pt j).x))→i<j:=by
  intro i j hi hj h
  rcases Nat.lt_trichotomy i j with h'|h'|h'
  ·exact h'
  ·subst h';omega
  ·have:=k.ord h' hi
   rw[eB]at this;omega
 have lt_to:∀{i j},i<j→j<S.pts.length→((S.pt i).y<(S.pt j).y∨((S.pt i).y=(S.pt j).y∧(S.pt i).x<(S.pt j).x)):=by
  intro i j h hj
  have:=k.ord h hj
  rw[eB]at this;exact this
 have g:=bh S k
 refine⟨hin,?_,?_,?_,?_,?_⟩
 ·intro b hb hy hx
  obtain⟨j,h1,h2,h3⟩:=nQ e1 (b:=b) (c:=a0) (a7.2 ⟨hb,by simpa using hy⟩) (a7.2 ⟨a1,by rw[a2];rfl⟩)
   (lt_of a1 hb (by rw[a2];simp only;omega))
  have h1':=(a7.1 h1).2
  have:=lt_to h2 hb
  exact⟨j,g.symm h3,by simpa using h1',by simp at h1';omega⟩
 ·intro b hb hx hy
  have:=hin hb
  obtain⟨j,h1,h2,h3⟩:=mw e3 (b:=b) (c:=c0) (a7.2 ⟨hb,by simpa using hx⟩) (a7.2 ⟨c1,by rw[c2];rfl⟩)
   (lt_of hb c1 (by rw[c2];simp only;omega))
  have h1':=(a7.1 h1)
  have:=lt_to h2 h1'.1
  have h1'':=h1'.2
  exact⟨j,h3,by simpa using h1'',by simp at h1'';omega⟩
 ·intro b hb hy hx
  have:=hin hb
  obtain⟨j,h1,h2,h3⟩:=mw e2 (b:=b) (c:=d0) (a7.2 ⟨hb,by simpa using hy⟩) (a7.2 ⟨d1,by rw[d2];simp⟩)
   (lt_of hb d1 (by rw[d2];simp only;omega))
  have h1':=(a7.1 h1)
  have:=lt_to h2 h1'.1
  have h1'':=h1'.2
  exact⟨j,h3,by simpa using h1'',by simp at h1'';omega⟩
 ·intro b hb hx hy
  have:=hin hb
  obtain⟨j,h1,h2,h3⟩:=nQ e4 (b:=b) (c:=b0) (a7.2 ⟨hb,by simpa using hx⟩) (a7.2 ⟨b1,by rw[b2];simp⟩)
   (lt_of b1 hb (by rw[b2];simp only;omega))
  have h1':=(a7.1 h1).2
  have:=lt_to h2 hb
  exact⟨j,g.symm h3,by simpa using h1',by simp at h1';omega⟩
 ·refine⟨d0,?_,by rw[d2],by rw[d2]⟩
  apply bcn;intro hn
  have hl:d0+1<S.pts.length:=by omega
  have h1:=lt_to (show d0<d0+1 by omega) hl
  have h2:=hin hl
  rw[d2]at h1;simp only at h1;omega
theorem gk {R k c:Int×Int}(h1:cr R k=0)(h2:R.1*k.1+R.2*k.2<0)(h3:0≤cr R c)(h4:cr R c=0→cr c k=0):sooner R c k=false:=by
 rw[dE,mo h1 h2]
 by_cases h:cr R c=0
 ·have:=h4 h
  have:half R c≠0:=by
   have e:¬R.1*c.2-R.2*c.1<0:=by unfold cr at h;omega
   unfold half;simp only[e,if_false];split
   ·omega
   ·split<;>omega
  omega
 ·rw[bH (by omega)];omega
theorem gv {R k c:Int×Int}(h1:0<cr R k)(h2:0≤cr R c)(h3:0≤cr c k)(h4:cr R c=0→0≤R.1*c.1+R.2*c.2):sooner R c k=false:=by
 rw[dE,bH h1]
 by_cases h:cr R c=0
 ·have h5:=h4 h
  have:half R c=3:=by
   have e:¬R.1*c.2-R.2*c.1<0:=by unfold cr at h;omega
   have e2:¬0<R.1*c.2-R.2*c.1:=by unfold cr at h;omega
   have e3:¬R.1*c.1+R.2*c.2<0:=by omega
   unfold half;simp only[e,e2,e3,if_false]
  omega
 ·rw[bH (by omega)];omega
def Fc (S:Plan)(a b:Nat):Prop :=
 ((S.pt a).y=0∧(S.pt b).y=0∧(S.pt b).x<(S.pt a).x)∨((S.pt a).x=0∧(S.pt b).x=0∧(S.pt a).y<(S.pt b).y) ∨
 ((S.pt a).y=S.h∧(S.pt b).y=S.h∧(S.pt a).x<(S.pt b).x)∨((S.pt a).x=S.w∧(S.pt b).x=S.w∧(S.pt b).y<(S.pt a).y)
theorem yw {S:Plan}(k:Kept S)(f:tM S)(hw:0<S.w)(hh:0<S.h){a b:Nat}(hab:(ab S).J a b)(h:Fc S a b) :
  Fc S b (bE (aj S b) a):=by
 have g:=bh S k
 have r:=cG k
 have hb:b<S.pts.length:=g.lt (g.symm hab)
 have ha:=r.mem.2 (g.symm hab)
 have soon:=mD k ha
 have key:∀j,(ab S).J b j→sooner (dir S b a) (dir S b (bE (aj S b) a)) (dir S b j)=false→Fc S b j→Fc S b (bE (aj S b) a):=by
  intro j hj hs hf
  by_cases e:j=bE (aj S b) a
  ·rw[←e];exact hf
  ·have:=(soon j (r.mem.2 hj) e).1
   rw[hs]at this;cases this
 have hc:(ab S).J b (bE (aj S b) a):=r.mem.1 (kI ha)
 have hcn:bE (aj S b) a<S.pts.length:=g.lt (g.symm hc)
 have ic:=f.inw hcn
 have ib:=f.inw hb
 generalize bE (aj S b) a=c at *
 have mn:∀{x y:Int},0≤x→0≤y→0≤x*y:=fun h1 h2=>Int.mul_nonneg h1 h2
 rcases h with⟨y1,y2,y3⟩|⟨y1,y2,y3⟩|⟨y1,y2,y3⟩|⟨y1,y2,y3⟩
 ·
  by_cases e:(S.pt b).x=0
  ·obtain⟨j,hj,j1,j2⟩:=f.lef hb e (by omega)
   refine key j hj ?_ (Or.inr (Or.inl ⟨e,j1,j2⟩))
   rw[a9,a9,a9]
   have r1:(0:Int)<(ab S).X a-(ab S).X b:=by simp only[ab];omega
   have r2:(ab S).Y a-(ab S).Y b=0:=by simp only[ab];omega
   have k1:(ab S).X j-(ab S).X b=0:=by simp only[ab];omega
   have k2:(0:Int)<(ab S).Y j-(ab S).Y b:=by simp only[ab];omega
   have c1:(0:Int)≤(ab S).X c-(ab S).X b:=by simp only[ab];omega
   have c2:(0:Int)≤(ab S).Y c-(ab S).Y b:=by simp only[ab];omega
   rw[r2,k1]
   generalize (ab S).X a-(ab S).X b=rx at *
   generalize (ab S).Y j-(ab S).Y b=ky at *
   generalize (ab S).X c-(ab S).X b=cx at *
   generalize (ab S).Y c-(ab S).Y b=cy at *
   apply gv
   ·have:=Int.mul_pos r1 k2;simpa [cr] using this
   ·have:=mn (Int.le_of_lt r1) c2;simpa [cr] using this
   ·have:=mn c1 (Int.le_of_lt k2);simpa [cr] using this
   ·intro _;have:=mn (Int.le_of_lt r1) c1;simpa using this
  ·obtain⟨j,hj,j1,j2⟩:=f.bot hb y2 e
   refine key j hj ?_ (Or.inl ⟨y2,j1,j2⟩)
   rw[a9,a9,a9]
   have r1:(0:Int)<(ab S).X a-(ab S).X b:=by simp only[ab];omega
   have r2:(ab S).Y a-(ab S).Y b=0:=by simp only[ab];omega
   have k1:(ab S).X j-(ab S).X b<0:=by simp only[ab];omega
   have k2:(ab S).Y j-(ab S).Y b=0:=by simp only[ab];omega
   have c2:(0:Int)≤(ab S).Y c-(ab S).Y b:=by simp only[ab];omega
   rw[r2,k2]
   generalize (ab S).X a-(ab S).X b=rx at *
   generalize (ab S).X j-(ab S).X b=kx at *
   generalize (ab S).X c-(ab S).X b=cx at *
   generalize (ab S).Y c-(ab S).Y b=cy at *
   apply gk
   ·simp[cr]
   ·have:=az _ _ r1 k1;simpa using this
   ·have:=mn (Int.le_of_lt r1) c2;simpa [cr] using this
   ·intro h
    simp[cr]at h ⊢
    rcases Int.mul_eq_zero.1 h with h|h
    ·omega
    ·rw[h];simp
 ·
  by_cases e:(S.pt b).y=S.h
  ·obtain⟨j,hj,j1,j2⟩:=f.top hb e (by omega)
   refine key j hj ?_ (Or.inr (Or.inr (Or.inl ⟨e,j1,j2⟩)))
   rw[a9,a9,a9]
   have r1:(ab S).X a-(ab S).X b=0:=by simp only[ab];omega
   have r2:(ab S).Y a-(ab S).Y b<0:=by simp only[ab];omega
   have k1:(0:Int)<(ab S).X j-(ab S).X b:=by simp only[ab];omega
   have k2:(ab S).Y j-(ab S).Y b=0:=by simp only[ab];omega
   have c1:(0:Int)≤(ab S).X c-(ab S).X b:=by simp only[ab];omega
   have c2:(ab S).Y c-(ab S).Y b≤0:=by simp only[ab];omega
   rw[r1,k2]
   generalize (ab S).Y a-(ab S).Y b=ry at *
   generalize (ab S).X j-(ab S).X b=kx at *
   generalize (ab S).X c-(ab S).X b=cx at *
   generalize (ab S).Y c-(ab S).Y b=cy at *
   apply gv
   ·have:=Int.mul_pos (show 0 < -ry by omega) k1;simp[cr];grind
   ·have:=mn (show 0≤-ry by omega) c1;simp[cr];grind
   ·have:=mn (show 0≤-cy by omega) (Int.le_of_lt k1);simp[cr];grind
   ·intro _;have:=mn (show 0≤-ry by omega) (show 0≤-cy by omega);simp;grind
  ·obtain⟨j,hj,j1,j2⟩:=f.lef hb y2 e
   refine key j hj ?_ (Or.inr (Or.inl ⟨y2,j1,j2⟩))
   rw[a9,a9,a9]
   have r1:(ab S).X a-(ab S).X b=0:=by simp only[ab];omega
   have r2:(ab S).Y a-(ab S).Y b<0:=by simp only[ab];omega
   have k1:(ab S).X j-(ab S).X b=0:=by simp only[ab];omega
   have k2:(0:Int)<(ab S).Y j-(ab S).Y b:=by simp only[ab];omega
   have c1:(0:Int)≤(ab S).X c-(ab S).X b:=by simp only[ab];omega
   rw[r1,k1]
   generalize (ab S).Y a-(ab S).Y b=ry at *
   generalize (ab S).Y j-(ab S).Y b=ky at *
   generalize (ab S).X c-(ab S).X b=cx at *
   generalize (ab S).Y c-(ab S).Y b=cy at *
   apply gk
   ·simp[cr]
   ·have:=Int.mul_pos (show 0 < -ry by omega) k2;simp;grind
   ·have:=mn (show 0≤-ry by omega) c1;simp[cr];grind
   ·intro h
    simp[cr]at h ⊢
    rcases Int.mul_eq_zero.1 h with h|h
    ·omega
    ·rw[h];simp
 ·
  by_cases e:(S.pt b).x=S.w
  ·obtain⟨j,hj,j1,j2⟩:=f.rig hb e (by omega)
   refine key j hj ?_ (Or.inr (Or.inr (Or.inr ⟨e,j1,j2⟩)))
   rw[a9,a9,a9]
   have r1:(ab S).X a-(ab S).X b<0:=by simp only[ab];omega
   have r2:(ab S).Y a-(ab S).Y b=0:=by simp only[ab];omega
   have k1:(ab S).X j-(ab S).X b=0:=by simp only[ab];omega
   have k2:(ab S).Y j-(ab S).Y b<0:=by simp only[ab];omega
   have c1:(ab S).X c-(ab S).X b≤0:=by simp only[ab];omega
   have c2:(ab S).Y c-(ab S).Y b≤0:=by simp only[ab];omega
   rw[r2,k1]
   generalize (ab S).X a-(ab S).X b=rx at *
   generalize (ab S).Y j-(ab S).Y b=ky at *
   generalize (ab S).X c-(ab S).X b=cx at *
   generalize (ab S).Y c-(ab S).Y b=cy at *
   apply gv
   ·have:=Int.mul_pos (show 0 < -rx by omega) (show 0 < -ky by omega);simp[cr];grind
   ·have:=mn (show 0≤-rx by omega) (show 0≤-cy by omega);simp[cr];grind
   ·have:=mn (show 0≤-cx by omega) (show 0≤-ky by omega);simp[cr];grind
   ·intro _;have:=mn (show 0≤-rx by omega) (show 0≤-cx by omega);simp;grind
  ·obtain⟨j,hj,j1,j2⟩:=f.top hb y2 e
   refine key j hj ?_ (Or.inr (Or.inr (Or.inl ⟨y2,j1,j2⟩)))
   rw[a9,a9,a9]
   have r1:(ab S).X a-(ab S).X b<0:=by simp only[ab];omega
   have r2:(ab S).Y a-(ab S).Y b=0:=by simp only[ab];omega
   have k1:(0:Int)<(ab S).X j-(ab S).X b:=by simp only[ab];omega
   have k2:(ab S).Y j-(ab S).Y b=0:=by simp only[ab];omega
   have c2:(ab S).Y c-(ab S).Y b≤0:=by simp only[ab];omega
   rw[r2,k2]
   generalize (ab S).X a-(ab S).X b=rx at *
   generalize (ab S).X j-(ab S).X b=kx at *
   generalize (ab S).X c-(ab S).X b=cx at *
   generalize (ab S).Y c-(ab S).Y b=cy at *
   apply gk
   ·simp[cr]
   ·have:=Int.mul_pos (show 0 < -rx by omega) k1;simp;grind
   ·have:=mn (show 0≤-rx by omega) (show 0≤-cy by omega);simp[cr];grind
   ·intro h
    simp[cr]at h ⊢
    rcases Int.mul_eq_zero.1 h with h|h
    ·omega
    ·rw[h];simp
 ·
  by_cases e:(S.pt b).y=0
  ·obtain⟨j,hj,j1,j2⟩:=f.bot hb e (by omega)
   refine key j hj ?_ (Or.inl ⟨e,j1,j2⟩)
   rw[a9,a9,a9]
   have r1:(ab S).X a-(ab S).X b=0:=by simp only[ab];omega
   have r2:(0:Int)<(ab S).Y a-(ab S).Y b:=by simp only[ab];omega
   have k1:(ab S).X j-(ab S).X b<0:=by simp only[ab];omega
   have k2:(ab S).Y j-(ab S).Y b=0:=by simp only[ab];omega
   have c1:(ab S).X c-(ab S).X b≤0:=by simp only[ab];omega
   have c2:(0:Int)≤(ab S).Y c-(ab S).Y b:=by simp only[ab];omega
   rw[r1,k2]
   generalize (ab S).Y a-(ab S).Y b=ry at *
   generalize (ab S).X j-(ab S).X b=kx at *
   generalize (ab S).X c-(ab S).X b=cx at *
   generalize (ab S).Y c-(ab S).Y b=cy at *
   apply gv
   ·have:=Int.mul_pos r2 (show 0 < -kx by omega);simp[cr];grind
   ·have:=mn (Int.le_of_lt r2) (show 0≤-cx by omega);simp[cr];grind
   ·have:=mn c2 (show 0≤-kx by omega);simp[cr];grind
   ·intro _;have:=mn (Int.le_of_lt r2) c2;simpa using this
  ·obtain⟨j,hj,j1,j2⟩:=f.rig hb y2 e
   refine key j hj ?_ (Or.inr (Or.inr (Or.inr ⟨y2,j1,j2⟩)))
   rw[a9,a9,a9]
   have r1:(ab S).X a-(ab S).X b=0:=by simp only[ab];omega
   have r2:(0:Int)<(ab S).Y a-(ab S).Y b:=by simp only[ab];omega
   have k1:(ab S).X j-(ab S).X b=0:=by simp only[ab];omega
   have k2:(ab S).Y j-(ab S).Y b<0:=by simp only[ab];omega
   have c1:(ab S).X c-(ab S).X b≤0:=by simp only[ab];omega
   rw[r1,k1]
   generalize (ab S).Y a-(ab S).Y b=ry at *
   generalize (ab S).Y j-(ab S).Y b=ky at *
   generalize (ab S).X c-(ab S).X b=cx at *
   generalize (ab S).Y c-(ab S).Y b=cy at *
   apply gk
   ·simp[cr]
   ·have:=az _ _ r2 k2;simpa using this
   ·have:=mn (Int.le_of_lt r2) (show 0≤-cx by omega);simp[cr];grind
   ·intro h
    simp[cr]at h ⊢
    rcases Int.mul_eq_zero.1 h with h|h
    ·omega
    ·rw[h];simp
theorem lx:∀(l:List Int),(∀x∈l,x≤0)→l.foldr (fun (a b:Int)=>a+b) 0≤0
 |[],_=>by simp
 |a :: r,h=>by
  rw[List.foldr_cons]
  have:=lx r (fun x hx=>h x (by simp[hx]))
  have:=h a (by simp);omega
theorem outer {S:Plan}(k:Kept S)(f:tM S)(hw:0<S.w)(hh:0<S.h):∃o:ao,(ab S).J o.1 o.2 ∧
  (∀E:List ao,(∀e∈E,(ab S).J e.1 e.2)→cR E→(ab S).om E o.1 o.2=false)∧twiceArea S (rnd S o)≤0:=by
 have g:=bh S k
 have r:=cG k
 obtain⟨v,hv,vx,vy⟩:=f.last
 obtain⟨j,hj,j1,j2⟩:=f.rig (b:=v) (by omega) vx (by omega)
 have hjv:j<v:=by
  have h1:j<S.pts.length:=g.lt (g.symm hj)
  have h2:=g.ne hj
  omega
 refine⟨(v,j),hj,?_,?_⟩
 ·intro E hE hc
  rw[←hc (fun x=>decide (x=v))]
  unfold Dr.om
  apply bo
  intro e he
  have hje:=hE e he
  have aux:∀p q,(ab S).J p q→p<q→(ab S).Om v j p q=(decide (p=v)^^decide (q=v)):=by
   intro p q hpq hlt
   have hq:q<S.pts.length:=g.lt (g.symm hpq)
   have hpv:p≠v:=by omega
   have hb:(ab S).base v p q=false:=by
    unfold Dr.base
    apply dqf
    intro h
    have h1:=f.inw hq
    have h2:=h.2.2.2.1
    simp only[ab]at h2;omega
   unfold Dr.Om
   rw[hb]
   by_cases hqv:q=v
   ·subst hqv
    have hpre:(ab S).pre q p j=true:=by
     unfold Dr.pre
     apply dqt
     by_cases e:p=j
     ·exact Or.inl e
     ·refine Or.inr (Or.inr ⟨Or.inr ⟨hlt,hjv⟩,?_⟩)
      have hz:=oN k (g.symm hpq) hj e (Or.inr ⟨hlt,hjv⟩)
      have:0≤(ab S).tr q p j:=by
       rw[ug,a9,a9]
       have k1:(ab S).X j-(ab S).X q=0:=by simp only[ab];omega
       have k2:(ab S).Y j-(ab S).Y q<0:=by simp only[ab];omega
       have i1:=f.inw (show p<S.pts.length by omega)
       have c1:(ab S).X p-(ab S).X q≤0:=by simp only[ab];omega
       rw[k1]
       have:=Int.mul_nonneg (show 0≤-((ab S).X p-(ab S).X q) by omega) (show 0≤-((ab S).Y j-(ab S).Y q) by omega)
       simp only[cr];grind
      omega
    simp[hpv,hpre]
   ·simp[hpv,hqv]
  rcases Nat.lt_or_gt_of_ne (g.ne hje) with h|h
  ·rw[Nat.min_eq_left (by omega),Nat.max_eq_right (by omega)];exact aux _ _ hje h
  ·rw[Nat.min_eq_right (by omega),Nat.max_eq_left (by omega),Bool.xor_comm];exact aux _ _ (g.symm hje) h
 ·have hall:∀i,Fc S (aE (aj S) (v,j) i).1 (aE (aj S) (v,j) i).2:=by
   intro i
   induction i with
   |zero=>exact Or.inr (Or.inr (Or.inr ⟨vx,j1,j2⟩))
   |succ i ih=>exact yw k f hw hh (eN g r hj i) ih
  unfold twiceArea
  apply lx
  intro x hx
  rw[List.mem_map]at hx
  obtain⟨e,he,rfl⟩:=hx
  have he:e∈prs (rnd S (v,j)):=he
  rw[ir k hj,dY k hj]at he
  obtain⟨i,rfl⟩:=he
  rcases hall i with⟨h1,h2,h3⟩|⟨h1,h2,h3⟩|⟨h1,h2,h3⟩|⟨h1,h2,h3⟩
  ·rw[h1,h2];simp
  ·rw[h1,h2];simp
  ·rw[h1,h2]
   have:=Int.mul_nonneg (show(0:Int)≤((S.pt (aE (aj S) (v,j) i).2).x:Int)-((S.pt (aE (aj S) (v,j) i).1).x:Int) by omega) (show(0:Int)≤(S.h:Int) by omega)
   grind
  ·rw[h1,h2]
   have:=Int.mul_nonneg (show(0:Int)≤((S.pt (aE (aj S) (v,j) i).1).y:Int)-((S.pt (aE (aj S) (v,j) i).2).y:Int) by omega) (show(0:Int)≤(S.w:Int) by omega)
   grind
theorem oJ (f:ao→Bool):∀E:List ao,xs f E=decide ((E.filter f).length % 2=1)
 |[]=>by simp[xs]
 |e :: r=>by
  rw[xs,oJ f r,List.filter_cons]
  cases f e with
  |false=>simp
  |true =>
   simp only[if_true,List.length_cons,Bool.true_xor]
   by_cases h:(r.filter f).length % 2=1
   ·have:¬((r.filter f).length+1) % 2=1:=by omega
    simp[h,this]
   ·have:((r.filter f).length+1) % 2=1:=by omega
    simp[h,this]
theorem kW {S:Plan}(k:Kept S){e:ao}(he:(ab S).J e.1 e.2)(z:Pt):insideOf S (rnd S e) z=xs (lh ((ab S).cz z.x z.y)) (orb S e):=by
 have g:=bh S k
 rw[oJ]
 unfold insideOf
 have h1:(rnd S e).zip ((rnd S e).drop 1++(rnd S e).take 1)=orb S e:=ir k he
 rw[h1]
 have:∀x∈orb S e,(let p:=S.pt x.1
   let q:=S.pt x.2
   (decide (p.y≤z.y)&&(decide (z.y<q.y)&&decide (0<turn p q z)))||(decide (q.y≤z.y)&&(decide (z.y<p.y)&&decide (turn p q z<0))))=lh ((ab S).cz z.x z.y) x:=by
  intro x hx
  have hj:=fU k he hx
  have ord:∀{i j},(ab S).J i j→i<j→(S.pt i).y≤(S.pt j).y:=by
   intro i j h hlt
   rcases g.ord hlt (g.lt (g.symm h)) with h|h<;>(simp only[ab]at h;omega)
  have trz:∀p q,turn (S.pt p) (S.pt q) z=(ab S).trz p q z.x z.y:=by intro p q;rfl
  have trs:∀p q,(ab S).trz q p z.x z.y=- (ab S).trz p q z.x z.y:=by intro p q;unfold Dr.trz tr6;grind
  unfold lh
  rcases Nat.lt_or_gt_of_ne (g.ne hj) with h|h
  ·rw[Nat.min_eq_left (by omega),Nat.max_eq_right (by omega)]
   have o:=ord hj h
   simp only[trz]
   unfold Dr.cz
   rw[Bool.eq_iff_iff]
   simp only[Bool.or_eq_true,Bool.and_eq_true,decide_eq_true_eq]
   simp only[ab]at *
   omega
  ·rw[Nat.min_eq_right (by omega),Nat.max_eq_left (by omega)]
   have o:=ord (g.symm hj) h
   simp only[trz]
   rw[trs x.2 x.1]
   unfold Dr.cz
   rw[Bool.eq_iff_iff]
   simp only[Bool.or_eq_true,Bool.and_eq_true,decide_eq_true_eq]
   simp only[ab]at *
   omega
 rw[List.filter_congr this]
theorem one_pane {S:Plan}(k:df S)(hw:0<S.w)(hh:0<S.h){e e':ao}(he:(ab S).J e.1 e.2)(he':(ab S).J e'.1 e'.2)
  (a:0<twiceArea S (rnd S e)) (a':0<twiceArea S (rnd S e')) {z:Pt} (i:insideOf S (rnd S e) z=true) (i':insideOf S (rnd S e') z=true)
  (hrot:∀{x y:ao},(ab S).J x.1 x.2→y∈orb S x→twiceArea S (rnd S y)=twiceArea S (rnd S x)):e'∈orb S e:=by
 have kk:=k.toKept
 have g:=bh S kk
 have r:=cG kk
 obtain⟨o,ho,hoz,hoa⟩:=outer kk (iY kk k.r6) hw hh
 rw[kW kk he]at i
 rw[kW kk he']at i'
 have oE:∀{e:ao},(ab S).J e.1 e.2→∀x∈orb S e,(ab S).J x.1 x.2:=fun h x hx=>fU kk h hx
 have oC:∀{e:ao},(ab S).J e.1 e.2→cR (orb S e):=by
  intro e h
  have p:=dj kk h
  rw[p.orb]
  exact fX _ _ (by rw[Nat.zero_add,p.back];rfl)
 have sees:∀{e:ao},(ab S).J e.1 e.2→0<twiceArea S (rnd S e)→∀{x:ao},(ab S).J x.1 x.2→(ab S).om (orb S e) x.1 x.2=decide (x∈orb S e):=by
  intro e h ha x hx
  have p:=dj kk h
  have hno:o∉orb S e:=by
   intro hm
   have:=hrot h hm
   omega
  have hz:=hoz (orb S e) (oE h) (oC h)
  rw[p.orb]at hno hz ⊢
  exact oV g r h p.pos p.back p.dist k.conn ho hz hno hx
 rcases Bi g S.lines (by
   intro p q hpq hlt
   rcases hpq with h|h
   ·exact h
   ·have:=kk.line h;simp only at this;omega) (by
   intro l hl
   have:=kk.line hl
   exact⟨Or.inl hl,this.1⟩) z.x z.y with h|⟨u,w,huw,h⟩
 ·rw[h _ (oE he)]at i;cases i
 ·rw[h _ (oE he) (oC he)]at i
  rw[h _ (oE he') (oC he')]at i'
  have s1:=sees he a (x:=(u,w)) huw
  have s2:=sees he' a' (x:=(u,w)) huw
  simp only at s1 s2
  rw[i]at s1
  rw[i']at s2
  have m1:=of_decide_eq_true s1.symm
  have m2:=of_decide_eq_true s2.symm
  exact fL kk he m1 (em kk he' m2)
open Gla
def sm (l:List Int):Int:=l.foldr (fun (a b:Int)=>a+b) 0
theorem bV (a:Int)(l:List Int):sm (a :: l)=a+sm l:=rfl
theorem jq:∀l m:List Int,sm (l++m)=sm l+sm m
 |[],m=>by show sm m=0+sm m;omega
 |a :: l,m=>by
  show a+sm (l++m)=a+sm l+sm m
  rw[jq l m];omega
theorem tU {l m:List Int}(h:l.Perm m):sm l=sm m:=by
 induction h with
 |nil=>rfl
 |cons x _ ih=>rw[bV,bV,ih]
 |swap x y l=>rw[bV,bV,bV,bV];omega
 |trans _ _ h1 h2=>rw[h1,h2]
theorem ik {α:Type}(f g:α→Int):∀l:List α,sm (l.map fun x=>f x+g x)=sm (l.map f)+sm (l.map g)
 |[]=>rfl
 |a :: l=>by
  simp only[List.map_cons,bV]
  rw[ik f g l];omega
theorem eC {α:Type}(c:Int)(f:α→Int):∀l:List α,sm (l.map fun x=>c*f x)=c*sm (l.map f)
 |[]=>by simp[sm]
 |a :: l=>by
  simp only[List.map_cons,bV]
  rw[eC c f l,Int.mul_add]
theorem dr {α:Type}{f g:α→Int}{l:List α}(h:∀x∈l,f x=g x):sm (l.map f)=sm (l.map g):=by
 rw[List.map_congr_left h]
theorem qt {α:Type}:∀l:List α,sm (l.map fun _=>0)=0
 |[]=>rfl
 |a :: l=>by
  simp only[List.map_cons,bV]
  rw[qt l];rfl
theorem pL {α β:Type}(f:α→β→Int)(m:List β):∀l:List α,sm (l.map fun x=>sm (m.map fun y=>f x y))=sm (m.map fun y=>sm (l.map fun x=>f x y))
 |[]=>by
  show(0:Int)=sm (m.map fun _=>0)
  rw[qt]
 |a :: l=>by
  simp only[List.map_cons,bV]
  rw[pL f m l,←ik]
theorem og:∀{l:List Int},(∀x∈l,0≤x)→0≤sm l
 |[],_=>Int.le_refl 0
 |a :: l,h=>by
  have h1:=h a List.mem_cons_self
  have h2:=og (l:=l) fun x hx=>h x (List.mem_cons_of_mem _ hx)
  rw[bV];omega
theorem Am {l:List Int}(h:∀x∈l,0≤x){y:Int}(hy:y∈l)(hp:0<y):0<sm l:=by
 induction l with
 |nil=>cases hy
 |cons a l ih =>
  rw[bV]
  have h1:=h a List.mem_cons_self
  have h2:=og (l:=l) fun x hx=>h x (List.mem_cons_of_mem _ hx)
  rcases List.mem_cons.1 hy with e|e
  ·subst e;omega
  ·have:=ih (fun x hx=>h x (List.mem_cons_of_mem _ hx)) e
   omega
def cr2 (S:Plan)(x:ao):Int:=((S.pt x.1).x:Int)*((S.pt x.2).y:Int)-((S.pt x.2).x:Int)*((S.pt x.1).y:Int)
theorem nj {S:Plan}(k:Kept S){e:ao}(he:(ab S).J e.1 e.2):twiceArea S (rnd S e)=sm ((orb S e).map (cr2 S)):=by
 unfold twiceArea
 rw[show(rnd S e).zip ((rnd S e).drop 1++(rnd S e).take 1)=prs (rnd S e) from rfl,ir k he]
 rfl
theorem yy {S:Plan}(k:Kept S){e x:ao}(he:(ab S).J e.1 e.2)(hx:x∈orb S e):∃a b,orb S e=a++b∧orb S x=b++a:=by
 have p:=dj k he
 obtain⟨j,hj⟩:=(dY k he).1 hx
 rw[ql p.back p.pos]at hj
 have hjl:j % (rnd S e).length<(rnd S e).length:=Nat.mod_lt _ p.pos
 generalize j % (rnd S e).length=i at hj hjl
 have hl:=mj k he hx
 obtain⟨m,hm⟩:∃m,(rnd S e).length=i+m:=⟨(rnd S e).length-i,by omega⟩
 refine⟨seg (aj S) e 0 i,seg (aj S) e i m,?_,?_⟩
 ·rw[p.orb,hm,eK,Nat.zero_add]
 ·unfold orb
  rw[hl,hj,kT,hm]
  have:i+m=m+i:=by omega
  rw[this,Nat.add_zero,eK]
  congr 1
  have h2:=mN p.back i 0
  rw[Nat.add_zero,hm]at h2;exact h2
theorem rT {S:Plan}(k:Kept S){x y:ao}(hx:(ab S).J x.1 x.2)(hy:y∈orb S x):twiceArea S (rnd S y)=twiceArea S (rnd S x):=by
 obtain⟨a,b,h1,h2⟩:=yy k hx hy
 rw[nj k hx,nj k (fU k hx hy),h1,h2,List.map_append,List.map_append,jq,jq,Int.add_comm]
variable  {d:Dr}
def Dr.ahead (d:Dr)(c:Int)(u w p q:Nat):Int:=d.den u w*d.num 0 c p q-d.den p q*d.num 0 c u w
theorem uH (g:eR d){u w p q:Nat}{c:Int}(huw:d.J u w)(hpq:d.J p q)(hu:d.Y u≤c)(hw:c<d.Y w)(hp:d.Y p≤c)(hq:c<d.Y q)(hne:¬(p=u∧q=w)) :
  (0<d.ahead c u w p q↔if p=u then d.tr u w q<0 else if d.Y p≤d.Y u then 0<d.tr p q u else d.tr u w p<0)∧d.ahead c u w p q≠0:=by
 have hun:=g.lt huw
 have hwn:=g.lt (g.symm huw)
 have hpn:=g.lt hpq
 have hqn:=g.lt (g.symm hpq)
 have iA:=idA (d.X u) (d.Y u) (d.X w) (d.Y w) (d.X p) (d.Y p) (d.X q) (d.Y q)
 have iB:=idB (d.X u) (d.Y u) (d.X w) (d.Y w) (d.X p) (d.Y p) (d.X q) (d.Y q)
 have iD:=Dz (d.X u) (d.Y u) (d.X w) (d.Y w) (d.X p) (d.Y p) (d.X q) (d.Y q)
 have iN:=wU (d.X u) (d.Y u) (d.X w) (d.Y w) (d.X p) (d.Y p) (d.X q) (d.Y q) 0 c
 change -(d.Y q-d.Y p)*d.tr u w p=(d.Y w-d.Y u)*d.tr p q u+(d.tr p q w-d.tr p q u)*(d.Y p-d.Y u) at iA
 change -(d.Y q-d.Y p)*d.tr u w q=(d.Y w-d.Y u)*d.tr p q u+(d.tr p q w-d.tr p q u)*(d.Y q-d.Y u) at iB
 change (d.Y w-d.Y u)*d.tr p q w=(d.Y w-d.Y u)*d.tr p q u+(d.tr p q w-d.tr p q u)*(d.Y w-d.Y u) at iD
 change d.ahead c u w p q=2*((d.Y w-d.Y u)*d.tr p q u)+(d.tr p q w-d.tr p q u)*(2*c+1-2*d.Y u) at iN
 rw[iN]
 have a0:0<d.Y w-d.Y u:=by omega
 have b0:0<d.Y q-d.Y p:=by omega
 have nb:∀x:Int,-(d.Y q-d.Y p)*x=(d.Y q-d.Y p)*(-x):=by intro x;grind
 rw[nb]at iA iB
 generalize hv0:(d.Y w-d.Y u)*d.tr p q u=v0 at *
 generalize hK:d.tr p q w-d.tr p q u=K at *
 have fin:∀{P:Prop} {D:Int},(P→0<D)→(¬P→D<0)→((0<D↔P)∧D≠0):=by
  intro P D h1 h2
  by_cases hP:P
  ·have:=h1 hP
   exact⟨⟨fun _=>hP,fun _=>this⟩,by omega⟩
  ·have:=h2 hP
   exact⟨⟨fun h=>by omega,fun h=>absurd h hP⟩,by omega⟩
 apply fin
 ·intro hc
  by_cases hpu:p=u
  ·subst hpu
   rw[if_pos rfl]at hc
   have hC:d.tr p q p=0:=jZ d p q
   have v00:v0=0:=by rw[←hv0,hC];simp
   have e1:0<K*(d.Y q-d.Y p):=by
    have:0<(d.Y q-d.Y p)*(- d.tr p w q):=Int.mul_pos b0 (by omega)
    omega
   have e2:0<K:=by
    rw[Int.mul_comm]at e1;exact(bb b0).1 e1
   have:0<K*(2*c+1-2*d.Y p):=Int.mul_pos e2 (by omega)
   omega
  ·rw[if_neg hpu]at hc
   by_cases hpy:d.Y p≤d.Y u
   ·rw[if_pos hpy]at hc
    have up:∃m,c<m∧0≤v0+K*(m-d.Y u):=by
     by_cases hqw:q=w
     ·subst hqw
      have hD:d.tr p q q=0:=cK d p q
      rw[hD]at iD
      simp at iD
      exact⟨_,hw,by omega⟩
     ·by_cases hh:d.Y q≤d.Y w
      ·have l:=L1 g huw hpq hpy (by omega) hh hpu hqw
       exact⟨d.Y q,hq,by rw[←iB];exact Int.mul_nonneg (by omega) (by omega)⟩
      ·have l:=L2 g huw hpq hpy (by omega) (by omega) hpu hqw
       exact⟨d.Y w,hw,by rw[←iD];exact Int.mul_nonneg (by omega) (by omega)⟩
    obtain⟨m,m1,m2⟩:=up
    have v0p:0<v0:=by rw[←hv0];exact Int.mul_pos a0 hc
    exact kE (d.Y u) K (d.Y u) c m v0 (by simpa using v0p) m2 hu m1
   ·rw[if_neg hpy]at hc
    have up:∃m,c<m∧0≤v0+K*(m-d.Y u):=by
     by_cases hqw:q=w
     ·subst hqw
      have hD:d.tr p q q=0:=cK d p q
      rw[hD]at iD
      simp at iD
      exact⟨_,hw,by omega⟩
     ·by_cases hh:d.Y q≤d.Y w
      ·have l:=L2 g hpq huw (by omega) (by omega) hh (Ne.symm hpu) (Ne.symm hqw)
       exact⟨d.Y q,hq,by rw[←iB];exact Int.mul_nonneg (by omega) (by omega)⟩
      ·have l:=L1 g hpq huw (by omega) (by omega) (by omega) (Ne.symm hpu) (Ne.symm hqw)
       exact⟨d.Y w,hw,by rw[←iD];exact Int.mul_nonneg (by omega) (by omega)⟩
    obtain⟨m,m1,m2⟩:=up
    have v0p:0<v0+K*(d.Y p-d.Y u):=by rw[←iA];exact Int.mul_pos b0 (by omega)
    exact kE (d.Y u) K (d.Y p) c m v0 v0p m2 hp m1
 ·intro hc
  by_cases hpu:p=u
  ·subst hpu
   rw[if_pos rfl]at hc
   have hqw:q≠w:=fun e=>hne ⟨rfl,e⟩
   have hC:d.tr p q p=0:=jZ d p q
   have v00:v0=0:=by rw[←hv0,hC];simp
   have nB:d.tr p w q≠0:=by
    by_cases hh:d.Y q≤d.Y w
    ·exact nz g huw hqn (by omega) (by omega) hh (by intro e;subst e;omega) hqw
    ·have:=nz g hpq hwn (by omega) (by omega) (by omega) (by intro e;subst e;omega) (Ne.symm hqw)
     have:=de d p q w
     omega
   have e1:K*(d.Y q-d.Y p)<0:=by
    have:(d.Y q-d.Y p)*(- d.tr p w q)<0:=az _ _ b0 (by omega)
    omega
   have e2:K<0:=by
    rw[Int.mul_comm]at e1;exact(eh b0).1 e1
   have:0<(-K)*(2*c+1-2*d.Y p):=Int.mul_pos (by omega) (by omega)
   have e:(-K)*(2*c+1-2*d.Y p)=- (K*(2*c+1-2*d.Y p)):=by grind
   omega
  ·rw[if_neg hpu]at hc
   by_cases hpy:d.Y p≤d.Y u
   ·rw[if_pos hpy]at hc
    have nC:d.tr p q u≠0:=nz g hpq hun (by omega) hpy (by omega) (Ne.symm hpu) (by intro e;subst e;omega)
    have hC:d.tr p q u<0:=by omega
    have up:∃m,c<m∧v0+K*(m-d.Y u)≤0:=by
     by_cases hqw:q=w
     ·subst hqw
      have hD:d.tr p q q=0:=cK d p q
      rw[hD]at iD
      simp at iD
      exact⟨_,hw,by omega⟩
     ·by_cases hh:d.Y q≤d.Y w
      ·have l:=L1 g huw hpq hpy (by omega) hh hpu hqw
       exact⟨d.Y q,hq,by
        rw[←iB]
        have:=az (d.Y q-d.Y p) (- d.tr u w q) b0 (by omega)
        omega⟩
      ·have l:=L2 g huw hpq hpy (by omega) (by omega) hpu hqw
       exact⟨d.Y w,hw,by
        rw[←iD]
        have:=az (d.Y w-d.Y u) (d.tr p q w) a0 (by omega)
        omega⟩
    obtain⟨m,m1,m2⟩:=up
    have v0n:v0<0:=by rw[←hv0];exact az _ _ a0 hC
    exact jo (d.Y u) K (d.Y u) c m v0 (by simpa using v0n) m2 hu m1
   ·rw[if_neg hpy]at hc
    have nA:d.tr u w p≠0:=nz g huw hpn (by omega) (by omega) (by omega) hpu (by intro e;subst e;omega)
    have hA':0<d.tr u w p:=by omega
    have up:∃m,c<m∧v0+K*(m-d.Y u)≤0:=by
     by_cases hqw:q=w
     ·subst hqw
      have hD:d.tr p q q=0:=cK d p q
      rw[hD]at iD
      simp at iD
      exact⟨_,hw,by omega⟩
     ·by_cases hh:d.Y q≤d.Y w
      ·have l:=L2 g hpq huw (by omega) (by omega) hh (Ne.symm hpu) (Ne.symm hqw)
       exact⟨d.Y q,hq,by
        rw[←iB]
        have:=az (d.Y q-d.Y p) (- d.tr u w q) b0 (by omega)
        omega⟩
      ·have l:=L1 g hpq huw (by omega) (by omega) (by omega) (Ne.symm hpu) (Ne.symm hqw)
       exact⟨d.Y w,hw,by
        rw[←iD]
        have:=az (d.Y w-d.Y u) (d.tr p q w) a0 (by omega)
        omega⟩
    obtain⟨m,m1,m2⟩:=up
    have v0n:v0+K*(d.Y p-d.Y u)<0:=by rw[←iA];exact az _ _ b0 (by omega)
    exact jo (d.Y u) K (d.Y p) c m v0 v0n m2 hp m1
def Dr.sl (d:Dr)(c:Int)(u w p q:Nat):Bool:=decide (d.Y p≤c∧c<d.Y q∧((p=u∧q=w)∨0<d.ahead c u w p q))
theorem An (g:eR d){u w p q:Nat}{c:Int}(huw:d.J u w)(hpq:d.J p q)(h1:u<w)(h2:p<q)(hu:d.Y u≤c)(hw:c<d.Y w) :
  (d.sl c u w p q^^d.Om u w p q)=(d.Pz c u w p^^d.Pz c u w q):=by
 have hpn:=g.lt hpq
 have hqn:=g.lt (g.symm hpq)
 have hwn:=g.lt (g.symm huw)
 have hun:=g.lt huw
 have hy:d.Y u<d.Y w:=by omega
 rw[xl g huw hpq h1 h2 hy]
 have hpqy:d.Y p≤d.Y q:=by rcases g.ord h2 hqn with h|h<;>omega
 by_cases he:p=u∧q=w
 ·obtain⟨rfl,rfl⟩:=he
  have e1:d.sl c p q p q=true:=by unfold Dr.sl;exact dqt ⟨hu,hw,Or.inl ⟨rfl,rfl⟩⟩
  have e2:d.Pz c p q p=false:=by unfold Dr.Pz;exact dqf (by omega)
  have e3:d.Pz c p q q=false:=by unfold Dr.Pz;exact dqf (by omega)
  rw[e1,e2,e3];simp
 have pz1:∀v,¬(d.Y u<d.Y v∧d.Y v≤c)→d.Pz c u w v=false:=by
  intro v h;unfold Dr.Pz;exact dqf (fun x=>h ⟨x.1,x.2.1⟩)
 have pz2:∀v,d.Y u<d.Y v→d.Y v≤c→d.Pz c u w v=decide (d.tr u w v<0):=by
  intro v h h';unfold Dr.Pz;simp[h,h']
 by_cases hcz:d.Y p≤c∧c<d.Y q
 ·obtain⟨c1,c2⟩:=hcz
  have czE:d.sl c u w p q=decide (0<d.ahead c u w p q):=by unfold Dr.sl;simp[c1,c2,he]
  have zo:=(uH g huw hpq hu hw c1 c2 he).1
  rw[pz1 q (by omega),Bool.xor_false,czE]
  by_cases hpu:p=u
  ·subst hpu
   rw[if_pos rfl]at zo ⊢
   rw[pz1 p (by omega)]
   have hqw:q≠w:=fun e=>he ⟨rfl,e⟩
   have:(q=w∨(d.Y p<d.Y q∧d.tr p w q<0))↔0<d.ahead c p w p q:=by
    rw[zo];constructor
    ·rintro(h|h)
     ·exact absurd h hqw
     ·exact h.2
    ·intro h;exact Or.inr ⟨by omega,h⟩
   simp only[this,Bool.xor_self]
  ·rw[if_neg hpu]at zo ⊢
   by_cases hpy:d.Y p≤d.Y u
   ·rw[if_pos hpy]at zo
    rw[pz1 p (by omega)]
    have:(d.Y p≤d.Y u∧d.Y u<d.Y q∧0<d.tr p q u)↔0<d.ahead c u w p q:=by
     rw[zo];constructor
     ·exact fun h=>h.2.2
     ·exact fun h=>⟨hpy,by omega,h⟩
    simp only[this,Bool.xor_self]
   ·rw[if_neg hpy]at zo
    rw[pz2 p (by omega) c1]
    have:¬(d.Y p≤d.Y u∧d.Y u<d.Y q∧0<d.tr p q u):=fun h=>hpy h.1
    rw[dqf this,Bool.xor_false,decide_eq_decide.2 zo]
 ·have czE:d.sl c u w p q=false:=by unfold Dr.sl;exact dqf (fun h=>hcz ⟨h.1,h.2.1⟩)
  rw[czE,Bool.false_xor]
  by_cases c1:c<d.Y p
  ·rw[pz1 p (by omega),pz1 q (by omega)]
   by_cases hpu:p=u
   ·subst hpu;omega
   ·rw[if_neg hpu]
    have:¬(d.Y p≤d.Y u∧d.Y u<d.Y q∧0<d.tr p q u):=by omega
    rw[dqf this];rfl
  ·have c2:d.Y q≤c:=by omega
   by_cases hpu:p=u
   ·subst hpu
    rw[if_pos rfl,pz1 p (by omega),Bool.false_xor]
    have hqw:q≠w:=fun e=>he ⟨rfl,e⟩
    unfold Dr.Pz
    rw[decide_eq_decide]
    constructor
    ·rintro(h|h)
     ·exact absurd h hqw
     ·exact⟨h.1,c2,h.2⟩
    ·intro h;exact Or.inr ⟨h.1,h.2.2⟩
   ·rw[if_neg hpu]
    have hqw:q≠w:=by intro e;subst e;omega
    have hpw:p≠w:=by intro e;subst e;omega
    by_cases c3:d.Y p≤d.Y u
    ·rw[pz1 p (by omega),Bool.false_xor]
     unfold Dr.Pz
     rw[decide_eq_decide]
     by_cases c4:d.Y u<d.Y q
     ·have l:=L1 g huw hpq c3 c4 (by omega) hpu hqw
      constructor
      ·intro h;exact⟨c4,c2,by omega⟩
      ·intro h;exact⟨c3,c4,by omega⟩
     ·constructor
      ·intro h;exact absurd h.2.1 c4
      ·intro h;exact absurd h.1 c4
    ·have:¬(d.Y p≤d.Y u∧d.Y u<d.Y q∧0<d.tr p q u):=fun h=>c3 h.1
     rw[dqf this,pz2 p (by omega) (by omega),pz2 q (by omega) c2]
     have:d.tr u w p<0↔d.tr u w q<0:=by
      rcases g.ord h2 hqn with hf|hf
      ·have l:=L2 g hpq huw (by omega) hf (by omega) (Ne.symm hpu) (Ne.symm hqw)
       omega
      ·have mv:d.tr u w q<d.tr u w p:=by
        have:d.tr u w p-d.tr u w q=(d.Y w-d.Y u)*(d.X q-d.X p):=by
         have:=hf.1;unfold Dr.tr tr6;grind
        have:0<(d.Y w-d.Y u)*(d.X q-d.X p):=Int.mul_pos (by omega) (by omega)
        omega
       constructor
       ·intro h;omega
       ·intro h
        apply bcn;intro hn
        have a2:=nz g huw hpn hy (by omega) (by omega) hpu hpw
        refine g.nocross huw hpq ⟨az _ _ (by omega) h,?_⟩
        rw[eq d p q u hf.1,eq d p q w hf.1]
        exact cw _ _ (az _ _ (by omega) (by omega)) (Int.mul_pos (by omega) (by omega))
     simp only[this,Bool.xor_self]
theorem Bj (g:eR d){u w:Nat}{c:Int}(huw:d.J u w)(hlt:u<w)(hu:d.Y u≤c)(hw:c<d.Y w){E:List ao}(hE:∀e∈E,d.J e.1 e.2)(hc:cR E) :
  xs (lh (d.sl c u w)) E=d.om E u w:=by
 have h:xs (fun e=>lh (d.sl c u w) e^^d.Om u w (min e.1 e.2) (max e.1 e.2)) E=false:=by
  rw[←hc (d.Pz c u w)]
  apply bo
  intro e he
  have ze:∀p q,d.J p q→p<q→(d.sl c u w p q^^d.Om u w p q)=(d.Pz c u w p^^d.Pz c u w q):=fun p q hpq hlt'=>An g huw hpq hlt hlt' hu hw
  have hj:=hE e he
  unfold lh
  rcases Nat.lt_or_gt_of_ne (g.ne hj) with h|h
  ·rw[Nat.min_eq_left (by omega),Nat.max_eq_right (by omega)];exact ze _ _ hj h
  ·rw[Nat.min_eq_right (by omega),Nat.max_eq_left (by omega),Bool.xor_comm (d.Pz c u w e.1)];exact ze _ _ (g.symm hj) h
 rw[ip]at h
 unfold Dr.om
 revert h
 generalize xs (lh (d.sl c u w)) E=a;generalize xs _ E=b
 cases a<;>cases b<;>simp
open Gla
theorem gN (L:List ao):xs (fun _=>false) L=false:=by
 induction L with
 |nil=>rfl
 |cons a r ih=>rw[xs,ih];rfl
theorem d9 (f:ao→Bool):∀l m:List ao,xs f (l++m)=(xs f l^^xs f m)
 |[],m=>by simp[xs]
 |a :: l,m=>by
  rw[List.cons_append,xs,xs,d9 f l m,Bool.xor_assoc]
theorem tT {f:ao→Bool}{l m:List ao}(h:l.Perm m):xs f l=xs f m:=by
 induction h with
 |nil=>rfl
 |cons x _ ih=>rw[xs,xs,ih]
 |swap x y l =>
  rw[xs,xs,xs,xs]
  cases f x<;>cases f y<;>cases xs f l<;>rfl
 |trans _ _ h1 h2=>rw[h1,h2]
theorem tP (F:ao→Bool)(G:ao→ao→Bool)(E:List ao):∀L:List ao,xs (fun l=>F l&&xs (fun e=>G l e) E) L=xs (fun e=>xs (fun l=>F l&&G l e) L) E
 |[]=>by
  show false=xs (fun _=>false) E
  rw[gN]
 |a :: L=>by
  rw[xs,tP F G E L]
  have:xs (fun e=>xs (fun l=>F l&&G l e) (a :: L)) E=xs (fun e=>(F a&&G a e)^^xs (fun l=>F l&&G l e) L) E:=rfl
  rw[this,ip]
  congr 1
  cases F a with
  |true=>simp
  |false=>simp[gN]
theorem pp (F:ao→Bool)(a:ao):∀{L:List ao},L.Nodup→a∈L→xs (fun l=>F l&&decide (l=a)) L=F a
 |[],_,h=>by cases h
 |b :: L,hn,h=>by
  rw[List.nodup_cons]at hn
  rw[xs]
  by_cases e:b=a
  ·subst e
   have:xs (fun l=>F l&&decide (l=b)) L=xs (fun _=>false) L:=by
    apply bo
    intro l hl
    have:¬l=b:=fun q=>hn.1 (q▸hl)
    simp[this]
   rw[this,gN]
   simp
  ·have h2:a∈L:=(List.mem_cons.1 h).resolve_left (fun q=>e q.symm)
   rw[pp F a hn.2 h2]
   simp[e]
structure Lns (L E:List ao):Prop where
 nd:L.Nodup
 lt:∀l∈L,l.1<l.2
 has:∀e∈E,(min e.1 e.2,max e.1 e.2)∈L
 ne:∀e∈E,e.1≠e.2
theorem rO {L E:List ao}(h:Lns L E)(F:Nat→Nat→Bool):xs (lh F) E=xs (fun l=>F l.1 l.2&&ce E l.1 l.2) L:=by
 unfold ce
 rw[tP (fun l=>F l.1 l.2) (fun l e=>decide ((e.1=l.1∧e.2=l.2)∨(e.1=l.2∧e.2=l.1))) E L]
 apply bo
 intro e he
 have hh:=h.has e he
 have hn:=h.ne e he
 have:xs (fun l=>F l.1 l.2&&decide ((e.1=l.1∧e.2=l.2)∨(e.1=l.2∧e.2=l.1))) L=xs (fun l=>F l.1 l.2&&decide (l=(min e.1 e.2,max e.1 e.2))) L:=by
  apply bo
  intro l hl
  have:=h.lt l hl
  congr 1
  rw[decide_eq_decide]
  obtain⟨a,b⟩:=l
  simp only[Prod.mk.injEq]at *
  omega
 rw[this,pp (fun l=>F l.1 l.2) _ h.nd hh]
 rfl
def bi (b:Bool):Int:=if b=true then 1 else 0
theorem AB:bi true=1:=rfl
theorem xU:bi false=0:=rfl
theorem kC (F:ao→Int)(a:ao):∀{L:List ao},L.Nodup→sm (L.map fun l=>F l*bi (decide (l=a)))=if a∈L then F a else 0
 |[],_=>by simp[sm]
 |b :: L,hn=>by
  rw[List.nodup_cons]at hn
  rw[List.map_cons,bV,kC F a hn.2]
  by_cases e:b=a
  ·subst e
   rw[if_neg hn.1,if_pos List.mem_cons_self,dqt rfl,AB]
   omega
  ·rw[dqf e,xU]
   by_cases h2:a∈L
   ·rw[if_pos h2,if_pos (List.mem_cons_of_mem _ h2)];omega
   ·rw[if_neg h2,if_neg (fun q=>h2 ((List.mem_cons.1 q).resolve_left (fun z=>e z.symm)))];omega
theorem wK {L E:List ao}(h:Lns L E)(hE:E.Nodup)(F:Nat→Nat→Int)(hF:∀a b,F b a=- F a b) :
  sm (E.map fun e=>F e.1 e.2)=sm (L.map fun l=>F l.1 l.2*(bi (decide (l∈E))-bi (decide ((l.2,l.1)∈E)))):=by
 have e1:sm (E.map fun e=>F e.1 e.2)=sm (E.map fun e=>sm (L.map fun l=>F l.1 l.2*(bi (decide (e=l))-bi (decide (e=(l.2,l.1)))))):=by
  apply dr
  intro e he
  have hh:=h.has e he
  have hn:=h.ne e he
  have:sm (L.map fun l=>F l.1 l.2*(bi (decide (e=l))-bi (decide (e=(l.2,l.1)))))=sm (L.map fun l=>F e.1 e.2*bi (decide (l=(min e.1 e.2,max e.1 e.2)))):=by
   apply dr
   intro l hl
   have:=h.lt l hl
   obtain⟨a,b⟩:=l
   obtain⟨p,q⟩:=e
   simp only[Prod.mk.injEq]at *
   by_cases c1:p=a∧q=b
   ·obtain⟨rfl,rfl⟩:=c1
    have n1:¬(p=q∧q=p):=by omega
    have n2:p=min p q∧q=max p q:=by omega
    rw[dqt ⟨rfl,rfl⟩,dqf n1,dqt n2,AB,xU]
    omega
   ·by_cases c2:p=b∧q=a
    ·obtain⟨rfl,rfl⟩:=c2
     have n2:q=min p q∧p=max p q:=by omega
     rw[dqf c1,dqt ⟨rfl,rfl⟩,dqt n2,AB,xU,hF]
     omega
    ·have n2:¬(a=min p q∧b=max p q):=by omega
     rw[dqf c1,dqf c2,dqf n2,xU]
     simp
  rw[this,kC (fun _=>F e.1 e.2) _ h.nd,if_pos hh]
 rw[e1,pL]
 apply dr
 intro l hl
 have e2:sm (E.map fun e=>F l.1 l.2*(bi (decide (e=l))-bi (decide (e=(l.2,l.1)))))=F l.1 l.2*sm (E.map fun e=>bi (decide (e=l))-bi (decide (e=(l.2,l.1)))):=eC _ _ _
 rw[e2]
 congr 1
 have cnt:∀a:ao,sm (E.map fun e=>bi (decide (e=a)))=bi (decide (a∈E)):=by
  intro a
  have:=kC (fun _=>1) a hE
  simp only[Int.one_mul]at this
  rw[this]
  by_cases q:a∈E
  ·rw[if_pos q,dqt q];rfl
  ·rw[if_neg q,dqf q];rfl
 have e3:sm (E.map fun e=>bi (decide (e=l))-bi (decide (e=(l.2,l.1))))=sm (E.map fun e=>bi (decide (e=l))+(-1)*bi (decide (e=(l.2,l.1)))):=by
  apply dr
  intro e _
  omega
 rw[e3,ik,eC,cnt,cnt]
 omega
theorem Dl {V:ao→Int}{up mm:ao→Bool}:∀(L:List ao) (p:Bool),L.Pairwise (fun a b=>V b<V a)→(∀a l b,L=a++l :: b→up l=(p^^(xs mm a^^mm l)))→(p^^xs mm L)=false →
  ∀B,(∀l∈L,V l≤B)→- (B*bi p)≤sm (L.map fun l=>V l*(bi (up l)-bi (up l^^mm l)))∧(p=false→(∃l∈L,up l=true)→0<sm (L.map fun l=>V l*(bi (up l)-bi (up l^^mm l))))
 |[],p,_,_,hp,B,_=>by
  have:p=false:=by simpa [xs] using hp
  subst this
  refine⟨by simp[bi,sm],fun _ h=>?_⟩
  obtain⟨l,hl,_⟩:=h
  cases hl
 |l :: r,p,hw,hup,hp,B,hB=>by
  rw[List.pairwise_cons]at hw
  have u0:=hup [] l r rfl
  simp only[xs,Bool.false_xor]at u0
  have ih:=Dl (V:=V) (up:=up) (mm:=mm) r (p^^mm l) hw.2 (fun a x b e=>by
   have:=hup (l :: a) x b (by rw[e];rfl)
   rw[this,xs]
   cases p<;>cases mm l<;>cases xs mm a<;>cases mm x<;>rfl) (by
   rw[xs]at hp
   rw[←hp]
   cases p<;>cases mm l<;>cases xs mm r<;>rfl) (V l-1) (fun x hx=>by
   have:=hw.1 x hx
   omega)
  have hl:=hB l List.mem_cons_self
  rw[List.map_cons,bV,u0]
  have e0:((p^^mm l)^^mm l)=p:=by cases p<;>cases mm l<;>rfl
  rw[e0]
  obtain⟨i1,i2⟩:=ih
  generalize sm (r.map fun l=>V l*(bi (up l)-bi (up l^^mm l)))=s at *
  constructor
  ·clear i2 u0 e0 hup hp
   generalize mm l=m at *
   cases p<;>cases m<;>simp[bi]at i1 ⊢<;>omega
  ·intro hpf hex
   subst hpf
   cases hm:mm l with
   |true =>
    rw[hm]at i1
    simp[bi]at i1 ⊢
    omega
   |false =>
    rw[hm]at i1 i2 u0
    obtain⟨x,hx,hxu⟩:=hex
    rcases List.mem_cons.1 hx with e|e
    ·subst e
     rw[u0]at hxu
     simp at hxu
    ·have:=i2 rfl ⟨x,e,hxu⟩
     simp[bi]
     omega
theorem Dh (G:Nat→Int)(a b:Nat)(hab:a≤b):∀H:Nat,sm ((List.range H).map fun c=>if a≤c∧c<b then G (c+1)-G c else 0)=G (min H b)-G (min H a)
 |0=>by simp[sm]
 |H+1=>by
  rw[List.range_succ,List.map_append,jq,Dh G a b hab H]
  simp only[List.map_cons,List.map_nil,bV]
  show _+(_+0)=_
  by_cases c:a≤H∧H<b
  ·rw[if_pos c,Nat.min_eq_left (by omega:H≤b),Nat.min_eq_right (by omega:a≤H),Nat.min_eq_left (by omega:H+1≤b),Nat.min_eq_right (by omega:a≤H+1)]
   omega
  ·rw[if_neg c]
   by_cases c2:H<a
   ·rw[Nat.min_eq_left (by omega:H≤b),Nat.min_eq_left (by omega:H≤a),Nat.min_eq_left (by omega:H+1≤b),Nat.min_eq_left (by omega:H+1≤a)]
    omega
   ·rw[Nat.min_eq_right (by omega:b≤H),Nat.min_eq_right (by omega:a≤H),Nat.min_eq_right (by omega:b≤H+1),Nat.min_eq_right (by omega:a≤H+1)]
    omega
open Gla
theorem Kept.lines_nodup {S:Plan}(k:Kept S):S.lines.Nodup:=by
 rw[List.Nodup,List.pairwise_iff_getElem]
 intro i j hi hj hij e
 have:=k.lines_lt i j hij hj
 rw[e,gD]at this
 omega
theorem wH {S:Plan}(k:Kept S){E:List ao}(hE:∀e∈E,(ab S).J e.1 e.2):Lns S.lines E:=by
 have g:=bh S k
 refine⟨k.lines_nodup,fun l hl=>(k.line hl).1,fun e he=>?_,fun e he=>g.ne (hE e he)⟩
 rcases hE e he with h|h
 ·have:=(k.line h).1
  simp only at this
  rw[Nat.min_eq_left (by omega),Nat.max_eq_right (by omega)]
  exact h
 ·have:=(k.line h).1
  simp only at this
  rw[Nat.min_eq_right (by omega),Nat.max_eq_left (by omega)]
  exact h
def gL (d:Dr):List ao→Int
 |[]=>1
 |l :: r=>(if d.Y l.1<d.Y l.2 then 2*d.den l.1 l.2 else 1)*gL d r
theorem ni (d:Dr):∀L:List ao,0<gL d L
 |[]=>by show(0:Int)<1;decide
 |l :: r=>by
  unfold gL
  refine Int.mul_pos ?_ (ni d r)
  by_cases h:d.Y l.1<d.Y l.2
  ·rw[if_pos h];unfold Dr.den;omega
  ·rw[if_neg h];decide
theorem mU (d:Dr){l:ao}(h:d.Y l.1<d.Y l.2):∀{L:List ao},l∈L→(2*d.den l.1 l.2) ∣ gL d L
 |[],hl=>by cases hl
 |a :: r,hl=>by
  unfold gL
  rcases List.mem_cons.1 hl with e|e
  ·subst e
   rw[if_pos h]
   exact⟨_,rfl⟩
  ·obtain⟨q,hq⟩:=mU d h e
   exact⟨(if d.Y a.1<d.Y a.2 then 2*d.den a.1 a.2 else 1)*q,by rw[hq];grind⟩
def Vs (d:Dr)(L:List ao)(c:Int)(l:ao):Int:=gL d L / (2*d.den l.1 l.2)*d.num 0 c l.1 l.2
theorem xt (d:Dr){L:List ao}{l:ao}(hl:l∈L)(h:d.Y l.1<d.Y l.2)(c:Int):Vs d L c l*(2*d.den l.1 l.2)=gL d L*d.num 0 c l.1 l.2:=by
 have q:=Int.ediv_mul_cancel (mU d h hl)
 unfold Vs
 generalize gL d L / (2*d.den l.1 l.2)=m at q ⊢
 rw[←q]
 grind
theorem t7 (d:Dr){L:List ao}{a b:ao}(ha:a∈L)(hb:b∈L)(h1:d.Y a.1<d.Y a.2)(h2:d.Y b.1<d.Y b.2)(c:Int):0<d.ahead c a.1 a.2 b.1 b.2↔Vs d L c a<Vs d L c b:=by
 have e1:=xt d ha h1 c
 have e2:=xt d hb h2 c
 have dA:0<d.den a.1 a.2:=by unfold Dr.den;omega
 have dB:0<d.den b.1 b.2:=by unfold Dr.den;omega
 have hM:=ni d L
 have e3:(Vs d L c b-Vs d L c a)*(2*(d.den a.1 a.2*d.den b.1 b.2))=gL d L*d.ahead c a.1 a.2 b.1 b.2:=by
  unfold Dr.ahead
  have:(Vs d L c b-Vs d L c a)*(2*(d.den a.1 a.2*d.den b.1 b.2))=(Vs d L c b*(2*d.den b.1 b.2))*d.den a.1 a.2-(Vs d L c a*(2*d.den a.1 a.2))*d.den b.1 b.2:=by grind
  rw[this,e1,e2]
  grind
 have dd:0<2*(d.den a.1 a.2*d.den b.1 b.2):=by
  have:=Int.mul_pos dA dB
  omega
 constructor
 ·intro h
  have:0<(Vs d L c b-Vs d L c a)*(2*(d.den a.1 a.2*d.den b.1 b.2)):=by rw[e3];exact Int.mul_pos hM h
  rw[Int.mul_comm]at this
  have:=(bb dd).1 this
  omega
 ·intro h
  have:0<gL d L*d.ahead c a.1 a.2 b.1 b.2:=by rw[←e3];exact Int.mul_pos (by omega) dd
  exact(bb hM).1 this
theorem jS (P g:ao→Bool):∀L:List ao,xs (fun x=>P x&&g x) L=xs g (L.filter P)
 |[]=>rfl
 |a :: r=>by
  rw[xs,jS P g r,List.filter_cons]
  cases h:P a with
  |true=>rw[if_pos rfl,xs,Bool.true_and]
  |false=>rw[if_neg (by decide),Bool.false_and,Bool.false_xor]
theorem oK (P:ao→Bool)(f:ao→Int):∀L:List ao,sm (L.map fun x=>if P x=true then f x else 0)=sm ((L.filter P).map f)
 |[]=>rfl
 |a :: r=>by
  rw[List.map_cons,bV,oK P f r,List.filter_cons]
  cases h:P a with
  |true=>rw[if_pos rfl,if_pos rfl,List.map_cons,bV]
  |false=>rw[if_neg (by decide),if_neg (by decide)];omega
section
variable  {S:Plan}
def eD (S:Plan)(c:Int)(l:ao):Bool:=decide ((ab S).Y l.1≤c∧c<(ab S).Y l.2)
theorem BR (k:Kept S){E:List ao}(hE:∀e∈E,(ab S).J e.1 e.2)(hc:cR E)(hn:E.Nodup)(hs:∀x:ao,(ab S).J x.1 x.2→(ab S).om E x.1 x.2=decide (x∈E))(c:Int) :
  0≤sm ((S.lines.filter (eD S c)).map fun l=>Vs (ab S) S.lines c l*(bi (decide (l∈E))-bi (decide ((l.2,l.1)∈E)))) ∧
  ((∃l∈S.lines.filter (eD S c),l∈E)→0<sm ((S.lines.filter (eD S c)).map fun l=>Vs (ab S) S.lines c l*(bi (decide (l∈E))-bi (decide ((l.2,l.1)∈E))))):=by
 have g:=bh S k
 have hL:=wH k hE
 have hP:∀{l},l∈S.lines.filter (eD S c)→l∈S.lines∧(ab S).Y l.1≤c∧c<(ab S).Y l.2:=by
  intro l hl
  obtain⟨h1,h2⟩:=List.mem_filter.1 hl
  exact⟨h1,of_decide_eq_true h2⟩
 let le:ao→ao→Bool:=fun a b=>decide (Vs (ab S) S.lines c b≤Vs (ab S) S.lines c a)
 have hperm:((S.lines.filter (eD S c)).mergeSort le).Perm (S.lines.filter (eD S c)):=List.mergeSort_perm _ _
 have hsort:((S.lines.filter (eD S c)).mergeSort le).Pairwise (fun a b=>le a b=true):=by
  apply List.pairwise_mergeSort
  ·intro a b c h1 h2
   have h1:=of_decide_eq_true h1
   have h2:=of_decide_eq_true h2
   exact dqt (by omega)
  ·intro a b
   show(decide _||decide _)=true
   rw[Bool.or_eq_true,decide_eq_true_eq,decide_eq_true_eq]
   omega
 have hnd:((S.lines.filter (eD S c)).mergeSort le).Nodup:=hperm.nodup_iff.2 (k.lines_nodup.filter _)
 have hstr:((S.lines.filter (eD S c)).mergeSort le).Pairwise (fun a b=>Vs (ab S) S.lines c b<Vs (ab S) S.lines c a):=by
  refine List.Pairwise.imp_of_mem ?_ (hsort.and hnd)
  intro a b ha hb h
  obtain⟨h1,h2⟩:=h
  have h1:=of_decide_eq_true h1
  obtain⟨a1,a2,a3⟩:=hP (hperm.mem_iff.1 ha)
  obtain⟨b1,b2,b3⟩:=hP (hperm.mem_iff.1 hb)
  have q:=(uH g (u:=a.1) (w:=a.2) (p:=b.1) (q:=b.2) (c:=c) (Or.inl a1) (Or.inl b1) a2 a3 b2 b3 (fun z=>h2 (Prod.ext z.1.symm z.2.symm))).2
  have q1:=t7 (ab S) a1 b1 (by omega) (by omega) c
  have q2:=t7 (ab S) b1 a1 (by omega) (by omega) c
  have q3:(ab S).ahead c b.1 b.2 a.1 a.2=- (ab S).ahead c a.1 a.2 b.1 b.2:=by unfold Dr.ahead;omega
  omega
 have hsum:sm ((S.lines.filter (eD S c)).map fun l=>Vs (ab S) S.lines c l*(bi (decide (l∈E))-bi (decide ((l.2,l.1)∈E)))) =
   sm (((S.lines.filter (eD S c)).mergeSort le).map fun l=>Vs (ab S) S.lines c l*(bi (decide (l∈E))-bi (decide (l∈E)^^ce E l.1 l.2))):=by
  rw[←tU (hperm.map _)]
  apply dr
  intro l hl
  obtain⟨l1,_,_⟩:=hP (hperm.mem_iff.1 hl)
  have hlt:=(k.line l1).1
  rw[wV hn (by omega:l.1≠l.2)]
  have:(l.1,l.2)=l:=rfl
  rw[this]
  congr 2
  cases decide (l∈E)<;>cases decide ((l.2,l.1)∈E)<;>rfl
 rw[hsum]
 generalize hM:(S.lines.filter (eD S c)).mergeSort le=M at *
 have key:=Dl (V:=Vs (ab S) S.lines c) (up:=fun l=>decide (l∈E)) (mm:=fun l=>ce E l.1 l.2) M false hstr ?_ ?_
 ·obtain⟨B,hB⟩:∃B,∀l∈M,Vs (ab S) S.lines c l≤B:=by
   clear key hperm hsort hnd hstr hsum hM
   induction M with
   |nil=>exact⟨0,fun l hl=>by cases hl⟩
   |cons a r ih =>
    obtain⟨B,hB⟩:=ih
    refine⟨max B (Vs (ab S) S.lines c a),fun l hl=>?_⟩
    rcases List.mem_cons.1 hl with e|e
    ·subst e;omega
    ·have:=hB l e;omega
  obtain⟨k1,k2⟩:=key B hB
  rw[xU,Int.mul_zero]at k1
  refine⟨by simpa using k1,fun ⟨l,hl,hlE⟩=>k2 rfl ⟨l,hperm.mem_iff.2 hl,dqt hlE⟩⟩
 ·intro a l b e
  have hlM:l∈M:=by rw[e];simp
  obtain⟨l1,l2,l3⟩:=hP (hperm.mem_iff.1 hlM)
  have hlt:=(k.line l1).1
  have s1:=hs l (Or.inl l1)
  rw[←Bj g (Or.inl l1) hlt l2 l3 hE hc,rO hL]at s1
  have s2:xs (fun x=>(ab S).sl c l.1 l.2 x.1 x.2&&ce E x.1 x.2) S.lines=xs (fun x=>eD S c x&&(decide (x=l∨0<(ab S).ahead c l.1 l.2 x.1 x.2)&&ce E x.1 x.2)) S.lines:=by
   apply bo
   intro x hx
   rw[←Bool.and_assoc]
   congr 1
   unfold Dr.sl eD
   rw[←Bool.decide_and,decide_eq_decide]
   have:(x.1=l.1∧x.2=l.2)↔x=l:=by
    constructor
    ·intro h;exact Prod.ext h.1 h.2
    ·intro h;rw[h];exact⟨rfl,rfl⟩
   rw[this]
   exact and_assoc.symm
  rw[s2,jS,←tT hperm,e,d9,xs]at s1
  rw[e,List.pairwise_append,List.pairwise_cons]at hstr
  rw[e,List.nodup_append,List.nodup_cons]at hnd
  have memM:∀x,x∈a∨x∈b→x∈S.lines∧(ab S).Y x.1≤c∧c<(ab S).Y x.2:=by
   intro x hx
   refine hP (hperm.mem_iff.1 ?_)
   rw[e]
   rcases hx with h|h
   ·simp[h]
   ·simp[h]
  have ta:xs (fun x=>decide (x=l∨0<(ab S).ahead c l.1 l.2 x.1 x.2)&&ce E x.1 x.2) a=xs (fun x=>ce E x.1 x.2) a:=by
   apply bo
   intro x hx
   obtain⟨x1,x2,x3⟩:=memM x (Or.inl hx)
   have:=hstr.2.2 x hx l (by simp)
   have:=(t7 (ab S) l1 x1 (by omega) (by omega) c).2 this
   rw[dqt (Or.inr this),Bool.true_and]
  have tb:xs (fun x=>decide (x=l∨0<(ab S).ahead c l.1 l.2 x.1 x.2)&&ce E x.1 x.2) b=xs (fun _=>false) b:=by
   apply bo
   intro x hx
   obtain⟨x1,x2,x3⟩:=memM x (Or.inr hx)
   have h1:=hstr.2.1.1 x hx
   have h2:¬0<(ab S).ahead c l.1 l.2 x.1 x.2:=fun q=>by
    have:=(t7 (ab S) l1 x1 (by omega) (by omega) c).1 q
    omega
   have h3:¬x=l:=fun q=>by subst q;omega
   rw[dqf (fun q=>q.elim h3 h2),Bool.false_and]
  rw[ta,tb,gN]at s1
  show decide (l∈E)=_
  rw[←s1]
  simp
 ·
  have h0:=hc (fun v=>decide ((ab S).Y v≤c))
  have h1:xs (fun e=>decide ((ab S).Y e.1≤c)^^decide ((ab S).Y e.2≤c)) E=xs (lh fun p q=>decide ((ab S).Y p≤c∧c<(ab S).Y q)) E:=by
   apply bo
   intro e he
   have hj:=hE e he
   have hord:∀{i j},(ab S).J i j→i<j→(ab S).Y i≤(ab S).Y j:=by
    intro i j h hlt
    rcases g.ord hlt (g.lt (g.symm h)) with h|h<;>omega
   have fin:∀{i j:Int},i≤j→(decide (i≤c)^^decide (j≤c))=decide (i≤c∧c<j):=by
    intro i j hij
    by_cases a:i≤c
    ·by_cases b:j≤c
     ·rw[dqt a,dqt b,dqf (by omega)];rfl
     ·rw[dqt a,dqf b,dqt (by omega)];rfl
    ·rw[dqf a,dqf (by omega:¬j≤c),dqf (by omega)];rfl
   unfold lh
   rcases Nat.lt_or_gt_of_ne (g.ne hj) with h|h
   ·rw[Nat.min_eq_left (by omega),Nat.max_eq_right (by omega)]
    exact fin (hord hj h)
   ·rw[Nat.min_eq_right (by omega),Nat.max_eq_left (by omega),Bool.xor_comm]
    exact fin (hord (g.symm hj) h)
  rw[h1,rO hL]at h0
  rw[Bool.false_xor,tT hperm,←jS]
  exact h0
theorem ko {c:Nat}{l:ao}:eD S (c:Int) l=true↔(S.pt l.1).y≤c∧c<(S.pt l.2).y:=by
 unfold eD
 rw[decide_eq_true_eq]
 show(((S.pt l.1).y:Int)≤(c:Int)∧(c:Int)<((S.pt l.2).y:Int))↔_
 omega
def Gt (m x1 x2 y2 n:Int)(c:Nat):Int:=(2*m)*((x2-x1)*((c:Int)*c-2*y2*c)+2*n*x2*c)
theorem uP (k:Kept S)(f:tM S){l:ao}(hl:l∈S.lines):gL (ab S) S.lines*(((ab S).X l.1+(ab S).X l.2)*((ab S).Y l.2-(ab S).Y l.1)) =
  sm ((List.range S.h).map fun c:Nat=>if eD S (c:Int) l=true then 2*Vs (ab S) S.lines (c:Int) l else 0):=by
 have g:=bh S k
 obtain⟨hlt,hlp⟩:=k.line hl
 have hin:=(f.inw hlp).2
 have hyy:(S.pt l.1).y≤(S.pt l.2).y:=by
  rcases g.ord hlt hlp with h|h<;>(simp only[ab]at h;omega)
 by_cases hy:(S.pt l.1).y=(S.pt l.2).y
 ·have e1:∀c∈List.range S.h,(if eD S (c:Int) l=true then 2*Vs (ab S) S.lines (c:Int) l else 0)=0:=by
   intro c _
   rw[if_neg]
   rw[ko]
   omega
  rw[dr e1,qt]
  have:(ab S).Y l.2-(ab S).Y l.1=0:=by simp only[ab];omega
  rw[this];simp
 ·have hY:(ab S).Y l.1<(ab S).Y l.2:=by simp only[ab];omega
  have q:=Int.ediv_mul_cancel (mU (ab S) hY hl)
  have e2:sm ((List.range S.h).map fun c:Nat=>if eD S (c:Int) l=true then 2*Vs (ab S) S.lines (c:Int) l else 0) =
    sm ((List.range S.h).map fun c:Nat=>if (S.pt l.1).y≤c∧c<(S.pt l.2).y then
     Gt (gL (ab S) S.lines / (2*(ab S).den l.1 l.2)) ((ab S).X l.1) ((ab S).X l.2) ((ab S).Y l.2) ((ab S).den l.1 l.2) (c+1) -
     Gt (gL (ab S) S.lines / (2*(ab S).den l.1 l.2)) ((ab S).X l.1) ((ab S).X l.2) ((ab S).Y l.2) ((ab S).den l.1 l.2) c else 0):=by
   apply dr
   intro c _
   by_cases hc:(S.pt l.1).y≤c∧c<(S.pt l.2).y
   ·rw[if_pos hc,if_pos (ko.2 hc)]
    unfold Vs Dr.num Dr.trz tr6 Gt
    have:((c+1:Nat):Int)=(c:Int)+1:=by omega
    simp only[this]
    unfold Dr.den
    generalize gL (ab S) S.lines / (2*((ab S).Y l.2-(ab S).Y l.1))=m
    generalize (ab S).X l.1=x1
    generalize (ab S).X l.2=x2
    generalize (ab S).Y l.1=y1
    generalize (ab S).Y l.2=y2
    generalize (c:Int)=z
    grind
   ·rw[if_neg hc,if_neg (fun q=>hc (ko.1 q))]
  rw[e2,Dh _ _ _ hyy,Nat.min_eq_right hin,Nat.min_eq_right (by omega:(S.pt l.1).y≤S.h)]
  have q':gL (ab S) S.lines=gL (ab S) S.lines / (2*(ab S).den l.1 l.2)*(2*(ab S).den l.1 l.2):=q.symm
  generalize gL (ab S) S.lines / (2*(ab S).den l.1 l.2)=m at q' ⊢
  rw[q']
  show _*(((ab S).X l.1+(ab S).X l.2)*((ab S).Y l.2-(ab S).Y l.1))=2*m*(((ab S).X l.2-(ab S).X l.1)*((ab S).Y l.2*(ab S).Y l.2-2*(ab S).Y l.2*(ab S).Y l.2)+2*(ab S).den l.1 l.2*(ab S).X l.2*(ab S).Y l.2) -
   2*m*(((ab S).X l.2-(ab S).X l.1)*((ab S).Y l.1*(ab S).Y l.1-2*(ab S).Y l.2*(ab S).Y l.1)+2*(ab S).den l.1 l.2*(ab S).X l.2*(ab S).Y l.1)
  unfold Dr.den
  generalize (ab S).X l.1=x1
  generalize (ab S).X l.2=x2
  generalize (ab S).Y l.1=y1
  generalize (ab S).Y l.2=y2
  grind
end
open Gla
section
variable  {S:Plan}
theorem vT (f:Nat→Int):∀{l m:List Nat},l.length=m.length→sm ((l.zip m).map fun x=>f x.1-f x.2)=sm (l.map f)-sm (m.map f)
 |[],[],_=>rfl
 |[],_ :: _,h=>by simp at h
 |_ :: _,[],h=>by simp at h
 |a :: l,b :: m,h=>by
  simp only[List.zip_cons_cons,List.map_cons,bV]
  rw[vT f (by simpa using h)]
  omega
theorem vi (f:Nat→Int)(l:List Nat):sm ((prs l).map fun x=>f x.1-f x.2)=0:=by
 have hp:(l.drop 1++l.take 1).Perm l:=List.perm_append_comm.trans (by rw[List.take_append_drop])
 unfold prs
 rw[vT f (by rw[hp.length_eq]),tU (hp.map f)]
 omega
theorem xG (k:df S){e:ao}(he:(ab S).J e.1 e.2)(hs:∀x:ao,(ab S).J x.1 x.2→(ab S).om (orb S e) x.1 x.2=decide (x∈orb S e))
  {l:ao} (hl:l∈S.lines) (hy:(S.pt l.1).y<(S.pt l.2).y) (hm:l∈orb S e):0<twiceArea S (rnd S e):=by
 have kk:=k.toKept
 have g:=bh S kk
 have f:=iY kk k.r6
 have p:=dj kk he
 have hE:∀x∈orb S e,(ab S).J x.1 x.2:=fun x hx=>fU kk he hx
 have hc:cR (orb S e):=by
  rw[p.orb]
  exact fX _ _ (by rw[Nat.zero_add,p.back];rfl)
 have hn:(orb S e).Nodup:=by
  rw[p.orb]
  exact fK _ _ _ _ (fun x y _ h1 h2=>p.dist x y h1 (by omega))
 have hL:=wH kk hE
 have e1:twiceArea S (rnd S e)=sm ((orb S e).map fun x=>((ab S).X x.1+(ab S).X x.2)*((ab S).Y x.2-(ab S).Y x.1)):=by
  rw[nj kk he]
  have:sm ((orb S e).map (cr2 S))=sm ((orb S e).map fun x=>((ab S).X x.1+(ab S).X x.2)*((ab S).Y x.2-(ab S).Y x.1)+((fun i=>(ab S).X i*(ab S).Y i) x.1-(fun i=>(ab S).X i*(ab S).Y i) x.2)):=by
   apply dr
   intro x _
   unfold cr2
   show(ab S).X x.1*(ab S).Y x.2-(ab S).X x.2*(ab S).Y x.1=_
   grind
  rw[this,ik (fun x:ao=>((ab S).X x.1+(ab S).X x.2)*((ab S).Y x.2-(ab S).Y x.1)) (fun x:ao=>(fun i=>(ab S).X i*(ab S).Y i) x.1-(fun i=>(ab S).X i*(ab S).Y i) x.2)]
  rw[←ir kk he,vi (fun i=>(ab S).X i*(ab S).Y i)]
  omega
 have hM:=ni (ab S) S.lines
 have e2:gL (ab S) S.lines*twiceArea S (rnd S e)=sm ((List.range S.h).map fun c:Nat=>2*sm ((S.lines.filter (eD S (c:Int))).map fun l=>Vs (ab S) S.lines (c:Int) l*(bi (decide (l∈orb S e))-bi (decide ((l.2,l.1)∈orb S e))))):=by
  rw[e1,wK hL hn (fun a b=>((ab S).X a+(ab S).X b)*((ab S).Y b-(ab S).Y a)) (by intro a b;grind),←eC]
  have e3:∀x∈S.lines,gL (ab S) S.lines*(((ab S).X x.1+(ab S).X x.2)*((ab S).Y x.2-(ab S).Y x.1)*(bi (decide (x∈orb S e))-bi (decide ((x.2,x.1)∈orb S e)))) =
    sm ((List.range S.h).map fun c:Nat=>if eD S (c:Int) x=true then 2*(Vs (ab S) S.lines (c:Int) x*(bi (decide (x∈orb S e))-bi (decide ((x.2,x.1)∈orb S e)))) else 0):=by
   intro x hx
   have q:=uP kk f hx
   have:sm ((List.range S.h).map fun c:Nat=>if eD S (c:Int) x=true then 2*(Vs (ab S) S.lines (c:Int) x*(bi (decide (x∈orb S e))-bi (decide ((x.2,x.1)∈orb S e)))) else 0) =
     sm ((List.range S.h).map fun c:Nat=>(bi (decide (x∈orb S e))-bi (decide ((x.2,x.1)∈orb S e)))*(if eD S (c:Int) x=true then 2*Vs (ab S) S.lines (c:Int) x else 0)):=by
    apply dr
    intro c _
    by_cases hp:eD S (c:Int) x=true
    ·rw[if_pos hp,if_pos hp];grind
    ·rw[if_neg hp,if_neg hp];simp
   rw[this,eC,←q]
   grind
  rw[dr e3,pL (fun (x:ao) (c:Nat)=>if eD S (c:Int) x=true then 2*(Vs (ab S) S.lines (c:Int) x*(bi (decide (x∈orb S e))-bi (decide ((x.2,x.1)∈orb S e)))) else 0)]
  apply dr
  intro c _
  rw[oK (eD S (c:Int)) (fun x=>2*(Vs (ab S) S.lines (c:Int) x*(bi (decide (x∈orb S e))-bi (decide ((x.2,x.1)∈orb S e))))),eC]
 have hpos:0<gL (ab S) S.lines*twiceArea S (rnd S e):=by
  rw[e2]
  have hin:=(f.inw (kk.line hl).2).2
  refine Am (y:=2*sm ((S.lines.filter (eD S (((S.pt l.1).y:Nat):Int))).map fun x=>Vs (ab S) S.lines (((S.pt l.1).y:Nat):Int) x*(bi (decide (x∈orb S e))-bi (decide ((x.2,x.1)∈orb S e))))) ?_ (List.mem_map.2 ⟨(S.pt l.1).y,List.mem_range.2 (by omega),rfl⟩) ?_
  ·intro x hx
   obtain⟨c,_,rfl⟩:=List.mem_map.1 hx
   have:=(BR kk hE hc hn hs (c:Int)).1
   omega
  ·have:=(BR kk hE hc hn hs (((S.pt l.1).y:Nat):Int)).2 ⟨l,List.mem_filter.2 ⟨hl,ko.2 ⟨by omega,hy⟩⟩,hm⟩
   omega
 exact(bb hM).1 hpos
def fd (l:List Nat):List ao:=l.zip (l.drop 1)
theorem qv (Q:Nat→Bool):∀{l:List Nat} {a z:Nat},l.head? = some a→l.getLast? = some z→xs (fun e=>Q e.1^^Q e.2) (fd l)=(Q a^^Q z)
 |[],_,_,h,_=>by simp at h
 |[x],a,z,h1,h2=>by
  simp at h1 h2
  subst h1 h2
  simp[fd,xs]
 |x :: y :: r,a,z,h1,h2=>by
  have h1:x=a:=by simpa using h1
  subst h1
  have ih:=qv Q (l:=y :: r) (a:=y) (z:=z) rfl (by rw[List.getLast?_cons_cons]at h2;exact h2)
  show xs _ ((x,y) :: fd (y :: r))=_
  rw[xs,ih]
  cases Q x<;>cases Q y<;>cases Q z<;>rfl
theorem mt {l:List Nat}(h:l.Pairwise (· < ·)){a:Nat}(ha:a∈l)(hm:∀b∈l,a≤b):l.head? = some a:=by
 cases l with
 |nil=>cases ha
 |cons x r =>
  rw[List.pairwise_cons]at h
  rcases List.mem_cons.1 ha with e|e
  ·rw[e];rfl
  ·have:=h.1 a e
   have:=hm x List.mem_cons_self
   omega
theorem kN:∀{l:List Nat},l.Pairwise (· < ·)→∀{z:Nat},z∈l→(∀b∈l,b≤z)→l.getLast? = some z
 |[],_,_,h,_=>by cases h
 |[x],_,z,h,_=>by
  have:z=x:=by simpa using h
  rw[this];rfl
 |x :: y :: r,hp,z,h,hm=>by
  rw[List.getLast?_cons_cons]
  rw[List.pairwise_cons]at hp
  refine kN hp.2 ?_ (fun b hb=>hm b (List.mem_cons_of_mem _ hb))
  rcases List.mem_cons.1 h with e|e
  ·have h1:=hp.1 y List.mem_cons_self
   have h2:=hm y (List.mem_cons_of_mem _ List.mem_cons_self)
   omega
  ·exact e
theorem wP {l:List Nat}{e:ao}(h:e∈fd l):∃i,∃(hi:i+1<l.length),e=(l[i],l[i+1]):=by
 unfold fd at h
 obtain⟨i,hi,he⟩:=List.getElem_of_mem h
 rw[List.getElem_zip]at he
 have hl:i<(l.zip (l.drop 1)).length:=hi
 rw[List.length_zip,List.length_drop]at hl
 refine⟨i,by omega,?_⟩
 rw[←he]
 congr 1
 rw[List.getElem_drop]
 congr 1
 omega
def frm (S:Plan):List ao:=fd (edgePts S fun p=>p.y==0)++(fd (edgePts S fun p=>p.x==S.w)++(fd (edgePts S fun p=>p.y==S.h)++fd (edgePts S fun p=>p.x==0)))
structure yn (S:Plan)(a b c d:Nat):Prop where
 ha:a<S.pts.length∧S.pt a=⟨0,0⟩
 hb:b<S.pts.length∧S.pt b=⟨S.w,0⟩
 hc:c<S.pts.length∧S.pt c=⟨0,S.h⟩
 hd:d<S.pts.length∧S.pt d=⟨S.w,S.h⟩
theorem mh (h6:frameOk S=true):∃a b c d,yn S a b c d:=by
 unfold frameOk at h6
 simp only[Bool.and_eq_true]at h6
 obtain⟨a,ha⟩:=d8 h6.1
 obtain⟨b,hb⟩:=d8 h6.2.1
 obtain⟨c,hc⟩:=d8 h6.2.2.1
 obtain⟨d,hd⟩:=d8 h6.2.2.2.1
 exact⟨a,b,c,d,ha,hb,hc,hd⟩
theorem gE (k:Kept S){i j:Nat}(hi:i<S.pts.length)(hj:j<S.pts.length)(h:(S.pt i).y<(S.pt j).y∨((S.pt i).y=(S.pt j).y∧(S.pt i).x≤(S.pt j).x)):i≤j:=by
 apply bcn
 intro hn
 have:=(eB _ _).1 (k.ord (i:=j) (j:=i) (by omega) hi)
 omega
theorem uY (k:df S):(∀e∈frm S,(ab S).J e.1 e.2)∧cR (frm S):=by
 have kk:=k.toKept
 have f:=iY kk k.r6
 have h6:=k.r6
 obtain⟨a,b,c,d,C⟩:=mh h6
 unfold frameOk at h6
 simp only[Bool.and_eq_true]at h6
 obtain⟨_,_,_,_,c1,c2,c3,c4⟩:=h6
 have jj:∀{on:Pt→Bool},chained S (edgePts S on)=true→∀e∈fd (edgePts S on),(ab S).J e.1 e.2:=by
  intro on hc e he
  obtain⟨i,hi,rfl⟩:=wP he
  exact lg hc hi
 constructor
 ·intro e he
  unfold frm at he
  rcases List.mem_append.1 he with h|h
  ·exact jj c1 e h
  ·rcases List.mem_append.1 h with h|h
   ·exact jj c4 e h
   ·rcases List.mem_append.1 h with h|h
    ·exact jj c2 e h
    ·exact jj c3 e h
 ·intro Q
  have tel:∀{on:Pt→Bool} {u v:Nat},u<S.pts.length→v<S.pts.length→on (S.pt u)=true→on (S.pt v)=true→(∀i,i<S.pts.length→on (S.pt i)=true→u≤i∧i≤v) →
    xs (fun e=>Q e.1^^Q e.2) (fd (edgePts S on))=(Q u^^Q v):=by
   intro on u v hu hv ou ov hm
   refine qv Q (mt ig (a7.2 ⟨hu,ou⟩) fun x hx=>?_) (kN ig (a7.2 ⟨hv,ov⟩) fun x hx=>?_)
   ·obtain⟨h1,h2⟩:=a7.1 hx
    exact(hm x h1 h2).1
   ·obtain⟨h1,h2⟩:=a7.1 hx
    exact(hm x h1 h2).2
  obtain⟨ha,ea⟩:=C.ha
  obtain⟨hb,eb⟩:=C.hb
  obtain⟨hc,ec⟩:=C.hc
  obtain⟨hd,ed⟩:=C.hd
  unfold frm
  rw[d9,d9,d9]
  rw[tel (u:=a) (v:=b) ha hb (by rw[ea];rfl) (by rw[eb];rfl) (fun i hi h=>?_),tel (u:=b) (v:=d) hb hd (by rw[eb];simp) (by rw[ed];simp) (fun i hi h=>?_),
   tel (u:=c) (v:=d) hc hd (by rw[ec];simp) (by rw[ed];simp) (fun i hi h=>?_),tel (u:=a) (v:=c) ha hc (by rw[ea];rfl) (by rw[ec];rfl) (fun i hi h=>?_)]
  ·cases Q a<;>cases Q b<;>cases Q c<;>cases Q d<;>rfl
  ·have h:(S.pt i).x=0:=by simpa using h
   have hi2:=f.inw hi
   constructor
   ·apply gE kk ha hi;rw[ea];simp only;omega
   ·apply gE kk hi hc;rw[ec];simp only;omega
  ·have h:(S.pt i).y=S.h:=by simpa using h
   have hi2:=f.inw hi
   constructor
   ·apply gE kk hc hi;rw[ec];simp only;omega
   ·apply gE kk hi hd;rw[ed];simp only;omega
  ·have h:(S.pt i).x=S.w:=by simpa using h
   have hi2:=f.inw hi
   constructor
   ·apply gE kk hb hi;rw[eb];simp only;omega
   ·apply gE kk hi hd;rw[ed];simp only;omega
  ·have h:(S.pt i).y=0:=by simpa using h
   have hi2:=f.inw hi
   constructor
   ·apply gE kk ha hi;rw[ea];simp only;omega
   ·apply gE kk hi hb;rw[eb];simp only;omega
theorem z9 (k:df S){z:Pt}(hx0:0<z.x)(hxw:z.x<S.w)(hyh:z.y<S.h):xs (lh ((ab S).cz z.x z.y)) (frm S)=true:=by
 have kk:=k.toKept
 have f:=iY kk k.r6
 obtain⟨a,b,c,d,C⟩:=mh k.r6
 have edge:∀{on:Pt→Bool} {e:ao},e∈fd (edgePts S on)→e.1<e.2∧e.1<S.pts.length∧e.2<S.pts.length∧on (S.pt e.1)=true∧on (S.pt e.2)=true:=by
  intro on e he
  obtain⟨i,hi,rfl⟩:=wP he
  have h1:=List.pairwise_iff_getElem.1 (ig (S:=S) (on:=on)) i (i+1) (by omega) hi (by omega)
  obtain⟨m1,m2⟩:=a7.1 (List.getElem_mem (l:=edgePts S on) (n:=i) (by omega))
  obtain⟨m3,m4⟩:=a7.1 (List.getElem_mem (l:=edgePts S on) (n:=i+1) hi)
  exact⟨h1,m1,m3,m2,m4⟩
 have none:∀{on:Pt→Bool},(∀i j,i<j→i<S.pts.length→j<S.pts.length→on (S.pt i)=true→on (S.pt j)=true→(ab S).cz z.x z.y i j=false)→xs (lh ((ab S).cz z.x z.y)) (fd (edgePts S on))=false:=by
  intro on h
  have:xs (lh ((ab S).cz z.x z.y)) (fd (edgePts S on))=xs (fun _=>false) (fd (edgePts S on)):=by
   apply bo
   intro e he
   obtain⟨h1,h2,h3,h4,h5⟩:=edge he
   unfold lh
   rw[Nat.min_eq_left (by omega),Nat.max_eq_right (by omega)]
   exact h _ _ h1 h2 h3 h4 h5
  rw[this,gN]
 have ord:∀{i j},i<j→j<S.pts.length→(S.pt i).y≤(S.pt j).y:=by
  intro i j h hj
  have:=(eB _ _).1 (kk.ord h hj)
  omega
 unfold frm
 rw[d9,d9,d9]
 rw[none (on:=fun p=>p.y==0) (fun i j _ _ _ h1 h2=>?_),none (on:=fun p=>p.y==S.h) (fun i j _ _ _ h1 h2=>?_),none (on:=fun p=>p.x==0) (fun i j hij hi hj h1 h2=>?_)]
 ·have hr:xs (lh ((ab S).cz z.x z.y)) (fd (edgePts S fun p=>p.x==S.w))=xs (fun e=>decide ((S.pt e.1).y≤z.y)^^decide ((S.pt e.2).y≤z.y)) (fd (edgePts S fun p=>p.x==S.w)):=by
   apply bo
   intro e he
   obtain⟨h1,h2,h3,h4,h5⟩:=edge he
   have h4:(S.pt e.1).x=S.w:=by simpa using h4
   have h5:(S.pt e.2).x=S.w:=by simpa using h5
   have ho:=ord h1 h3
   unfold lh
   rw[Nat.min_eq_left (by omega),Nat.max_eq_right (by omega)]
   unfold Dr.cz Dr.trz tr6
   show decide (((S.pt e.1).y:Int)≤(z.y:Int)∧(z.y:Int)<((S.pt e.2).y:Int)∧0<(((S.pt e.2).x:Int)-((S.pt e.1).x:Int))*((z.y:Int)-((S.pt e.2).y:Int))-(((S.pt e.2).y:Int)-((S.pt e.1).y:Int))*((z.x:Int)-((S.pt e.2).x:Int)))=_
   rw[h4,h5]
   by_cases c1:(S.pt e.1).y≤z.y
   ·by_cases c2:(S.pt e.2).y≤z.y
    ·rw[dqt c1,dqt c2,dqf (by omega)];rfl
    ·rw[dqt c1,dqf c2]
     have:0<(((S.pt e.2).y:Int)-((S.pt e.1).y:Int))*((S.w:Int)-(z.x:Int)):=Int.mul_pos (by omega) (by omega)
     rw[dqt ⟨by omega,by omega,by grind⟩];rfl
   ·rw[dqf c1,dqf (by omega:¬(S.pt e.2).y≤z.y),dqf (by omega)];rfl
  obtain⟨hb,eb⟩:=C.hb
  obtain⟨hd,ed⟩:=C.hd
  have ht:=qv (fun v=>decide ((S.pt v).y≤z.y)) (l:=edgePts S fun p=>p.x==S.w) (a:=b) (z:=d)
   (mt ig (a7.2 ⟨hb,by rw[eb];simp⟩) fun x hx=>by
    obtain⟨h1,h2⟩:=a7.1 hx
    have h2:(S.pt x).x=S.w:=by simpa using h2
    have:=f.inw h1
    apply gE kk hb h1;rw[eb];simp only;omega)
   (kN ig (a7.2 ⟨hd,by rw[ed];simp⟩) fun x hx=>by
    obtain⟨h1,h2⟩:=a7.1 hx
    have h2:(S.pt x).x=S.w:=by simpa using h2
    have:=f.inw h1
    apply gE kk h1 hd;rw[ed];simp only;omega)
  rw[hr,ht,eb,ed,dqt (by simp only;omega:({ x:=S.w,y:=0 }:Pt).y≤z.y),dqf (by simp only;omega:¬({ x:=S.w,y:=S.h }:Pt).y≤z.y)]
  rfl
 ·have h1:(S.pt i).x=0:=by simpa using h1
  have h2:(S.pt j).x=0:=by simpa using h2
  have ho:=ord hij hj
  unfold Dr.cz Dr.trz tr6
  refine dqf ?_
  show ¬(((S.pt i).y:Int)≤(z.y:Int)∧(z.y:Int)<((S.pt j).y:Int)∧0<(((S.pt j).x:Int)-((S.pt i).x:Int))*((z.y:Int)-((S.pt j).y:Int))-(((S.pt j).y:Int)-((S.pt i).y:Int))*((z.x:Int)-((S.pt j).x:Int)))
  rw[h1,h2]
  rintro⟨q1,q2,q3⟩
  have:0<(((S.pt j).y:Int)-((S.pt i).y:Int))*(z.x:Int):=Int.mul_pos (by omega) (by omega)
  grind
 ·have h1:(S.pt i).y=S.h:=by simpa using h1
  have h2:(S.pt j).y=S.h:=by simpa using h2
  unfold Dr.cz
  refine dqf ?_
  show ¬(((S.pt i).y:Int)≤(z.y:Int)∧(z.y:Int)<((S.pt j).y:Int)∧_)
  omega
 ·have h1:(S.pt i).y=0:=by simpa using h1
  have h2:(S.pt j).y=0:=by simpa using h2
  unfold Dr.cz
  refine dqf ?_
  show ¬(((S.pt i).y:Int)≤(z.y:Int)∧(z.y:Int)<((S.pt j).y:Int)∧_)
  omega
end
open Gla
section
variable  {d:Dr}
theorem yt (g:eR d)(edges:List ao)(hed:∀p q,d.J p q→p<q→(p,q)∈edges)(hed2:∀e∈edges,d.J e.1 e.2∧e.1<e.2)(zx zy:Int) :
  (∀E:List ao,(∀e∈E,d.J e.1 e.2)→xs (lh (d.cz zx zy)) E=false) ∨
  ∃u w,d.J u w∧u<w∧d.Y u<d.Y w∧∀E:List ao,(∀e∈E,d.J e.1 e.2)→cR E→xs (lh (d.cz zx zy)) E=d.om E u w:=by
 have side:∀(F:Nat→Nat→Prop),(∀p q,d.J p q→p<q→F p q)→∀e:ao,d.J e.1 e.2→F (min e.1 e.2) (max e.1 e.2):=by
  intro F hF e he
  rcases Nat.lt_or_gt_of_ne (g.ne he) with h|h
  ·rw[Nat.min_eq_left (by omega),Nat.max_eq_right (by omega)];exact hF _ _ he h
  ·rw[Nat.min_eq_right (by omega),Nat.max_eq_left (by omega)];exact hF _ _ (g.symm he) h
 by_cases hall:(edges.filter (fun e=>d.cz zx zy e.1 e.2))=[]
 ·left
  intro E hE
  have:xs (lh (d.cz zx zy)) E=xs (fun _=>false) E:=by
   apply bo
   intro e he
   refine side (fun p q=>d.cz zx zy p q=false) ?_ e (hE e he)
   intro p q hpq hlt
   have hm:=hed p q hpq hlt
   cases h:d.cz zx zy p q with
   |false=>rfl
   |true =>
    have:(p,q)∈edges.filter (fun e=>d.cz zx zy e.1 e.2):=List.mem_filter.2 ⟨hm,h⟩
    rw[hall]at this;cases this
  rw[this,gN]
 ·right
  obtain⟨⟨u,w⟩,hx,hm⟩:=jG (fun e:ao=>d.num zx zy e.1 e.2) (fun e:ao=>d.den e.1 e.2) _ hall (by
   intro x hx
   have:=of_decide_eq_true (List.mem_filter.1 hx).2
   unfold Dr.den;omega)
  obtain⟨hx1,hx2⟩:=List.mem_filter.1 hx
  obtain⟨huw,hlt⟩:=hed2 _ hx1
  have hcz:d.cz zx zy u w=true:=hx2
  refine⟨u,w,huw,hlt,?_,fun E hE hc=>?_⟩
  ·have:=of_decide_eq_true hcz
   omega
  have h:xs (fun e=>lh (d.cz zx zy) e^^d.Om u w (min e.1 e.2) (max e.1 e.2)) E=false:=by
   rw[←hc (d.Pz zy u w)]
   apply bo
   intro e he
   have ze:∀p q,d.J p q→p<q→(d.cz zx zy p q^^d.Om u w p q)=(d.Pz zy u w p^^d.Pz zy u w q):=by
    intro p q hpq hlt'
    exact xm g huw hpq hlt hlt' hx2 (fun h=>hm (p,q) (List.mem_filter.2 ⟨hed p q hpq hlt',h⟩))
   have hj:=hE e he
   unfold lh
   rcases Nat.lt_or_gt_of_ne (g.ne hj) with h|h
   ·rw[Nat.min_eq_left (by omega),Nat.max_eq_right (by omega)];exact ze _ _ hj h
   ·rw[Nat.min_eq_right (by omega),Nat.max_eq_left (by omega),Bool.xor_comm (d.Pz zy u w e.1)];exact ze _ _ (g.symm hj) h
  rw[ip]at h
  unfold Dr.om
  revert h
  generalize xs (lh (d.cz zx zy)) E=a;generalize xs _ E=b
  cases a<;>cases b<;>simp
end
section
variable  {S:Plan}
theorem uW (k:df S){z:Pt}(hx0:0<z.x)(hxw:z.x<S.w)(hyh:z.y<S.h):∃e:ao,(ab S).J e.1 e.2∧0<twiceArea S (rnd S e)∧insideOf S (rnd S e) z=true:=by
 have kk:=k.toKept
 have g:=bh S kk
 have r:=cG kk
 have hw:0<S.w:=by omega
 have hh:0<S.h:=by omega
 obtain⟨o,ho,hoz,hoa⟩:=outer kk (iY kk k.r6) hw hh
 obtain⟨fE,fC⟩:=uY k
 have fin:=z9 k hx0 hxw hyh
 rcases yt g S.lines (by
   intro p q hpq hlt
   rcases hpq with h|h
   ·exact h
   ·have:=kk.line h;simp only at this;omega) (by
   intro l hl
   have:=kk.line hl
   exact⟨Or.inl hl,this.1⟩) z.x z.y with h|⟨u,w,huw,hlt,hyy,h⟩
 ·rw[h _ fE]at fin;cases fin
 ·rw[h _ fE fC]at fin
  have hl:(u,w)∈S.lines:=by
   rcases huw with q|q
   ·exact q
   ·have:=kk.line q;simp only at this;omega
  have oE:∀x∈orb S (u,w),(ab S).J x.1 x.2:=fun x hx=>fU kk huw hx
  have p:=dj kk (e:=(u,w)) huw
  have oC:cR (orb S (u,w)):=by
   rw[p.orb]
   exact fX _ _ (by rw[Nat.zero_add,p.back];rfl)
  have hno:o∉orb S (u,w):=by
   intro hm
   have hm2:=em kk (e:=(u,w)) huw hm
   obtain⟨j,hj⟩:=(dY kk ho).1 hm2
   have q:=lW g r fE fC ho j
   rw[←hj,hoz _ fE fC]at q
   simp only at q
   rw[q]at fin
   cases fin
  have sees:∀x:ao,(ab S).J x.1 x.2→(ab S).om (orb S (u,w)) x.1 x.2=decide (x∈orb S (u,w)):=by
   intro x hx
   have hz:=hoz (orb S (u,w)) oE oC
   rw[p.orb]at hno hz ⊢
   exact oV g r huw p.pos p.back p.dist k.conn ho hz hno hx
  refine⟨(u,w),huw,xG k huw sees hl ?_ (hG kk huw),?_⟩
  ·simp only[ab]at hyy;simp only;omega
  ·rw[kW kk (e:=(u,w)) huw,h _ oE oC,sees (u,w) huw]
   exact dqt (hG kk huw)
theorem vD (k:df S){z:Pt}(hw:0<S.w)(hh:0<S.h){e e':ao}(he:(ab S).J e.1 e.2)(he':(ab S).J e'.1 e'.2)
  (a:0<twiceArea S (rnd S e)) (a':0<twiceArea S (rnd S e')) (i:insideOf S (rnd S e) z=true) (i':insideOf S (rnd S e') z=true):e'∈orb S e :=
 one_pane k hw hh he he' a a' i i' (fun hx hy=>rT k.toKept hx hy)
end
open Gla
section
variable  {S:Plan}
def bO (S:Plan):List ao:=(List.range S.pts.length).flatMap fun i=>(aj S i).map fun j=>(i,j)
theorem br (k:Kept S){e:ao}:e∈bO S↔(ab S).J e.1 e.2:=by
 have g:=bh S k
 have r:=cG k
 unfold bO
 rw[List.mem_flatMap]
 constructor
 ·rintro⟨i,hi,h⟩
  obtain⟨j,hj,rfl⟩:=List.mem_map.1 h
  exact r.mem.1 hj
 ·intro h
  exact⟨e.1,List.mem_range.2 (g.lt h),List.mem_map.2 ⟨e.2,r.mem.2 h,rfl⟩⟩
def ka (S:Plan)(st:List ao×List (List Nat))(e:ao):List ao×List (List Nat) :=
 if e∈st.1 then st else (st.1++orb S e,if 0<twiceArea S (rnd S e) then st.2++[rnd S e] else st.2)
def bI (S:Plan)(D:List ao):List ao×List (List Nat):=D.foldl (ka S) ([],[])
def dt (S:Plan):List (List Nat):=(bI S (bO S)).2
theorem gn (S:Plan)(D:List ao)(e:ao):bI S (D++[e])=ka S (bI S D) e:=by
 unfold bI
 rw[List.foldl_append]
 rfl
def Fst (S:Plan)(D:List ao)(e:ao):Prop:=∃a b,D=a++e :: b∧∀x∈a,e∉orb S x
structure wn (S:Plan)(D:List ao)(st:List ao×List (List Nat)):Prop where
 walked:∀x,x∈st.1↔∃e∈D,x∈orb S e
 mem:∀l,l∈st.2↔∃e,Fst S D e∧0<twiceArea S (rnd S e)∧l=rnd S e
 nd:st.2.Nodup
theorem fW {D:List ao}{e x:ao}:Fst S (D++[e]) x↔Fst S D x∨(x=e∧∀y∈D,e∉orb S y):=by
 constructor
 ·rintro⟨a,b,h,hn⟩
  rcases List.eq_nil_or_concat b with hb|⟨b',y,hb⟩
  ·subst hb
   have:=List.append_inj' h rfl
   obtain⟨h1,h2⟩:=this
   have h2:e=x:=by simpa using h2
   subst h2 h1
   exact Or.inr ⟨rfl,hn⟩
  ·left
   subst hb
   have h':D++[e]=(a++x :: b')++[y]:=by rw[h];simp
   have:=List.append_inj' h' rfl
   exact⟨a,b',this.1,hn⟩
 ·rintro(⟨a,b,h,hn⟩|⟨rfl,hn⟩)
  ·exact⟨a,b++[e],by rw[h];simp,hn⟩
  ·exact⟨D,[],rfl,hn⟩
theorem wB (k:Kept S){D:List ao}{st:List ao×List (List Nat)}(h:wn S D st)(hD:∀x∈D,(ab S).J x.1 x.2){e:ao}(he:(ab S).J e.1 e.2):wn S (D++[e]) (ka S st e):=by
 unfold ka
 by_cases hw:e∈st.1
 ·rw[if_pos hw]
  obtain⟨y,hy,hey⟩:=(h.walked e).1 hw
  refine⟨fun x=>?_,fun l=>?_,h.nd⟩
  ·rw[h.walked x]
   constructor
   ·rintro⟨z,hz,hx⟩;exact⟨z,by simp[hz],hx⟩
   ·rintro⟨z,hz,hx⟩
    rcases List.mem_append.1 hz with q|q
    ·exact⟨z,q,hx⟩
    ·have:z=e:=by simpa using q
     subst this
     exact⟨y,hy,fL k (hD y hy) hey hx⟩
  ·rw[h.mem l]
   constructor
   ·rintro⟨x,hx,q⟩;exact⟨x,fW.2 (Or.inl hx),q⟩
   ·rintro⟨x,hx,q⟩
    rcases fW.1 hx with q1|⟨rfl,q1⟩
    ·exact⟨x,q1,q⟩
    ·exact absurd hey (q1 y hy)
 ·rw[if_neg hw]
  have hn:∀y∈D,e∉orb S y:=fun y hy q=>hw ((h.walked e).2 ⟨y,hy,q⟩)
  refine⟨fun x=>?_,fun l=>?_,?_⟩
  ·rw[List.mem_append,h.walked x]
   constructor
   ·rintro(⟨z,hz,hx⟩|hx)
    ·exact⟨z,by simp[hz],hx⟩
    ·exact⟨e,by simp,hx⟩
   ·rintro⟨z,hz,hx⟩
    rcases List.mem_append.1 hz with q|q
    ·exact Or.inl ⟨z,q,hx⟩
    ·have:z=e:=by simpa using q
     subst this
     exact Or.inr hx
  ·by_cases ha:0<twiceArea S (rnd S e)
   ·rw[if_pos ha,List.mem_append,h.mem l]
    constructor
    ·rintro(⟨x,hx,q⟩|q)
     ·exact⟨x,fW.2 (Or.inl hx),q⟩
     ·exact⟨e,fW.2 (Or.inr ⟨rfl,hn⟩),ha,by simpa using q⟩
    ·rintro⟨x,hx,q⟩
     rcases fW.1 hx with q1|⟨rfl,q1⟩
     ·exact Or.inl ⟨x,q1,q⟩
     ·exact Or.inr (by simpa using q.2)
   ·rw[if_neg ha,h.mem l]
    constructor
    ·rintro⟨x,hx,q⟩;exact⟨x,fW.2 (Or.inl hx),q⟩
    ·rintro⟨x,hx,q⟩
     rcases fW.1 hx with q1|⟨rfl,q1⟩
     ·exact⟨x,q1,q⟩
     ·exact absurd q.1 ha
  ·by_cases ha:0<twiceArea S (rnd S e)
   ·rw[if_pos ha,List.nodup_append]
    refine⟨h.nd,by simp,fun l hl m hm q=>?_⟩
    have hm:m=rnd S e:=by simpa using hm
    subst hm q
    obtain⟨x,⟨a,b,hx,_⟩,_,e1⟩:=(h.mem _).1 hl
    have hxD:x∈D:=by rw[hx];simp
    have e2:orb S e=orb S x:=by rw[←ir k he,←ir k (hD x hxD),e1]
    exact hn x hxD (by rw[←e2];exact hG k he)
   ·rw[if_neg ha];exact h.nd
theorem k9 (k:Kept S):∀{D:List ao},(∀x∈D,(ab S).J x.1 x.2)→wn S D (bI S D):=by
 intro D
 generalize hn:D.length=n
 induction n generalizing D with
 |zero =>
  intro _
  have:D=[]:=List.length_eq_zero_iff.1 hn
  subst this
  refine⟨fun x=>?_,fun l=>?_,List.nodup_nil⟩
  ·constructor
   ·intro h;cases h
   ·rintro⟨e,he,_⟩;cases he
  ·constructor
   ·intro h;cases h
   ·rintro⟨e,⟨a,b,h,_⟩,_⟩
    simp at h
 |succ n ih =>
  intro hD
  rcases List.eq_nil_or_concat D with h|⟨D',e,h⟩
  ·subst h;simp at hn
  ·rw[List.concat_eq_append]at h
   subst h
   rw[gn]
   exact wB k (ih (by simpa using hn) fun x hx=>hD x (by simp[hx])) (fun x hx=>hD x (by simp[hx])) (hD e (by simp))
theorem iE {α:Type}[BEq α][LawfulBEq α]:∀(n:Nat) (l:List α),l.length≤n→l.eraseDups.Nodup
 |0,l,h=>by
  have:l=[]:=List.length_eq_zero_iff.1 (by omega)
  subst this
  simp
 |n+1,[],_=>by simp
 |n+1,a :: l,h=>by
  rw[List.eraseDups_cons,List.nodup_cons]
  refine⟨fun q=>?_,iE n _ (by have:=List.length_filter_le (fun b=>!b==a) l;simp at h;omega)⟩
  rw[List.mem_eraseDups,List.mem_filter]at q
  simp at q
theorem qA:(bO S).Pairwise (fun x y=>x.1≤y.1):=by
 unfold bO
 generalize S.pts.length=n
 induction n with
 |zero=>exact List.Pairwise.nil
 |succ n ih =>
  rw[List.range_succ,List.flatMap_append,List.pairwise_append]
  refine⟨ih,?_,?_⟩
  ·rw[List.flatMap_cons,List.flatMap_nil,List.append_nil,List.pairwise_map]
   exact List.pairwise_of_forall (fun _ _=>nlr _)
  ·intro x hx y hy
   obtain⟨i,hi,h⟩:=List.mem_flatMap.1 hx
   obtain⟨j,hj,rfl⟩:=List.mem_map.1 h
   obtain⟨i',hi',h'⟩:=List.mem_flatMap.1 hy
   obtain⟨j',hj',rfl⟩:=List.mem_map.1 h'
   have:=List.mem_range.1 hi
   have:i'=n:=by simpa using hi'
   simp only
   omega
theorem nv (k:Kept S){e:ao}(he:(ab S).J e.1 e.2):∃t,rnd S e=e.1 :: t:=by
 have p:=dj k he
 obtain⟨n,hn⟩:∃n,(rnd S e).length=n+1:=⟨(rnd S e).length-1,by have:=p.pos;omega⟩
 rw[p.rnd,hn]
 exact⟨_,rfl⟩
theorem tG (k:Kept S){e:ao}(he:(ab S).J e.1 e.2){v:Nat}(h:v∈rnd S e):∃x∈orb S e,x.1=v:=by
 have p:=dj k he
 rw[p.rnd,←p.orb]at h
 obtain⟨x,hx,e⟩:=List.mem_map.1 h
 exact⟨x,hx,e⟩
theorem hU (k:df S){e:ao}(h:Fst S (bO S) e):∃t,rnd S e=e.1 :: t∧∀x∈t,e.1<x:=by
 have kk:=k.toKept
 obtain⟨a,b,hD,hn⟩:=h
 have he:(ab S).J e.1 e.2:=(br kk).1 (by rw[hD];simp)
 obtain⟨t,ht⟩:=nv kk he
 refine⟨t,ht,fun v hv=>?_⟩
 have nd:=kF k he
 rw[ht,List.nodup_cons]at nd
 have hne:v≠e.1:=fun q=>nd.1 (q▸hv)
 obtain⟨x,hx,hxv⟩:=tG kk he (v:=v) (by rw[ht];simp[hv])
 apply bcn
 intro hlt
 have hxD:x∈bO S:=(br kk).2 (fU kk he hx)
 have ord:=qA (S:=S)
 rw[hD,List.pairwise_append,List.pairwise_cons]at ord
 rw[hD]at hxD
 rcases List.mem_append.1 hxD with q|q
 ·exact hn x q (em kk he hx)
 ·rcases List.mem_cons.1 q with q|q
  ·subst q;omega
  ·have:=ord.2.1.1 x q
   omega
theorem so (k:Kept S){e x:ao}(he:(ab S).J e.1 e.2)(hx:x∈orb S e):∃j,j<(rnd S e).length∧rnd S x=(rnd S e).drop j++(rnd S e).take j:=by
 have p:=dj k he
 obtain⟨j,hj⟩:=(dY k he).1 hx
 rw[ql p.back p.pos]at hj
 refine⟨j % (rnd S e).length,Nat.mod_lt _ p.pos,?_⟩
 rw[hj]
 exact yP k he (Nat.mod_lt _ p.pos)
theorem i7 (k:df S)(l:List Nat):l∈dt S↔l∈S.outlines:=by
 have kk:=k.toKept
 have ok:=k9 kk (D:=bO S) (fun x hx=>(br kk).1 hx)
 unfold dt
 rw[ok.mem]
 unfold Plan.outlines
 rw[List.mem_filter,List.mem_eraseDups,List.mem_map]
 constructor
 ·rintro⟨e,hf,ha,rfl⟩
  obtain⟨t,ht,hm⟩:=hU k hf
  obtain⟨a,b,hD,_⟩:=hf
  have he:(ab S).J e.1 e.2:=(br kk).1 (by rw[hD];simp)
  refine⟨⟨e,jc.2 he,?_⟩,dqt ha⟩
  show fromLeast (rnd S e)=rnd S e
  have:=dP hm (j:=0) (by simp)
  rw[ht]
  simpa using this
 ·rintro⟨⟨e',hw,rfl⟩,ha⟩
  have he':(ab S).J e'.1 e'.2:=jc.1 (by obtain⟨x,y⟩:=e';exact hw)
  have ha:0<twiceArea S (fromLeast (rnd S e')):=of_decide_eq_true ha
  obtain⟨a,e,b,hD,he,hn⟩:∃a e b,bO S=a++e :: b∧e∈orb S e'∧∀x∈a,x∉orb S e':=by
   have h0:e'∈bO S:=(br kk).2 he'
   have h1:=hG kk he'
   generalize bO S=D at h0
   induction D with
   |nil=>cases h0
   |cons y r ih =>
    by_cases hy:y∈orb S e'
    ·exact⟨[],y,r,rfl,hy,fun x hx=>by cases hx⟩
    ·have:e'∈r:=(List.mem_cons.1 h0).resolve_left (fun q=>hy (q▸h1))
     obtain⟨a,e,b,h2,h3,h4⟩:=ih this
     refine⟨y :: a,e,b,by rw[h2];rfl,h3,fun x hx=>?_⟩
     rcases List.mem_cons.1 hx with q|q
     ·rw[q];exact hy
     ·exact h4 x q
  have hej:=fU kk he' he
  have hf:Fst S (bO S) e:=⟨a,b,hD,fun x hx q=>by
   have hxj:(ab S).J x.1 x.2:=(br kk).1 (by rw[hD];simp[hx])
   exact hn x hx (fL kk he' he (em kk hxj q))⟩
  obtain⟨t,ht,hm⟩:=hU k hf
  obtain⟨j,hj,hr⟩:=so kk hej (em kk he' he)
  have e1:fromLeast (rnd S e')=rnd S e:=by
   rw[hr,ht]
   exact dP hm (by rw[←ht];exact hj)
  have e1':fromLeast (S.round (2*S.lines.length+1) e' e')=rnd S e:=e1
  exact⟨e,hf,by rw[←e1];exact ha,e1'⟩
theorem hX (k:Kept S):(dt S).Nodup:=(k9 k (D:=bO S) (fun x hx=>(br k).1 hx)).nd
theorem mi (S:Plan):S.outlines.Nodup:=(iE _ _ (nlr _)).filter _
theorem qZ (k:df S):(dt S).length=S.outlines.length:=by
 have h1:=bC (hX k.toKept) (fun x hx=>(i7 k x).1 hx)
 have h2:=bC (mi S) (fun x hx=>(i7 k x).2 hx)
 omega
theorem nG (k:df S){l:List Nat}(h:l∈dt S):∃e:ao,(ab S).J e.1 e.2∧0<twiceArea S (rnd S e)∧l=rnd S e:=by
 have kk:=k.toKept
 have ok:=k9 kk (D:=bO S) (fun x hx=>(br kk).1 hx)
 obtain⟨e,⟨a,b,hD,_⟩,ha,hl⟩:=(ok.mem l).1 h
 exact⟨e,(br kk).1 (by rw[hD];simp),ha,hl⟩
theorem Ba (k:df S){z:Pt}(hz:clear S z=true):∃h,∃(hh:h<(dt S).length),S.among S.outlines z=some (dt S)[h]∧insideOf S (dt S)[h] z=true ∧
  ∀j (hj:j<(dt S).length),insideOf S (dt S)[j] z=true→j=h:=by
 have kk:=k.toKept
 have hz':=hz
 unfold clear at hz'
 simp only[Bool.and_eq_true,decide_eq_true_eq]at hz'
 obtain⟨z1,z2,z3,z4,_⟩:=hz'
 have hw:0<S.w:=by omega
 have hh:0<S.h:=by omega
 obtain⟨e,he,ha,hi⟩:=uW k z1 z2 z4
 have uniq:∀l∈dt S,∀m∈dt S,insideOf S l z=true→insideOf S m z=true→l=m:=by
  intro l hl m hm il im
  have ok:=k9 kk (D:=bO S) (fun x hx=>(br kk).1 hx)
  obtain⟨x,hx,ax,rfl⟩:=(ok.mem l).1 hl
  obtain⟨y,hy,ay,rfl⟩:=(ok.mem m).1 hm
  obtain⟨t1,h1,m1⟩:=hU k hx
  obtain⟨t2,h2,m2⟩:=hU k hy
  obtain⟨a1,b1,d1,n1⟩:=hx
  obtain⟨a2,b2,d2,n2⟩:=hy
  have xj:(ab S).J x.1 x.2:=(br kk).1 (by rw[d1];simp)
  have yj:(ab S).J y.1 y.2:=(br kk).1 (by rw[d2];simp)
  have hm:=vD k hw hh xj yj ax ay il im
  obtain⟨j,hj,hr⟩:=so kk xj hm
  have:fromLeast (rnd S y)=rnd S x:=by
   rw[hr,h1]
   exact dP m1 (by rw[←h1];exact hj)
  have e2:=dP m2 (j:=0) (by simp)
  rw[h2]at this
  rw[←this,h2]
  have e3:fromLeast (y.1 :: t2)=y.1 :: t2:=by simpa using e2
  exact e3
 have ex:∃l∈dt S,insideOf S l z=true:=by
  have hl:fromLeast (rnd S e)∈S.outlines:=by
   unfold Plan.outlines
   rw[List.mem_filter,List.mem_eraseDups,List.mem_map]
   refine⟨⟨e,jc.2 he,rfl⟩,?_⟩
   have q:∃x∈orb S e,fromLeast (rnd S e)=rnd S x:=by
    obtain⟨a,x,b,hD,hx,hn⟩:∃a x b,bO S=a++x :: b∧x∈orb S e∧∀y∈a,y∉orb S e:=by
     have h0:e∈bO S:=(br kk).2 he
     have h1:=hG kk he
     generalize bO S=D at h0
     induction D with
     |nil=>cases h0
     |cons y r ih =>
      by_cases hy:y∈orb S e
      ·exact⟨[],y,r,rfl,hy,fun x hx=>by cases hx⟩
      ·have:e∈r:=(List.mem_cons.1 h0).resolve_left (fun q=>hy (q▸h1))
       obtain⟨a,x,b,h2,h3,h4⟩:=ih this
       refine⟨y :: a,x,b,by rw[h2];rfl,h3,fun v hv=>?_⟩
       rcases List.mem_cons.1 hv with q|q
       ·rw[q];exact hy
       ·exact h4 v q
    have hxj:=fU kk he hx
    have hf:Fst S (bO S) x:=⟨a,b,hD,fun y hy q=>by
     have hyj:(ab S).J y.1 y.2:=(br kk).1 (by rw[hD];simp[hy])
     exact hn y hy (fL kk he hx (em kk hyj q))⟩
    obtain⟨t,ht,hm⟩:=hU k hf
    obtain⟨j,hj,hr⟩:=so kk hxj (em kk he hx)
    refine⟨x,hx,?_⟩
    rw[hr,ht]
    exact dP hm (by rw[←ht];exact hj)
   obtain⟨x,hx,hq⟩:=q
   rw[hq,rT kk he hx]
   exact dqt ha
  have hlo:=(i7 k _).2 hl
  refine⟨_,hlo,?_⟩
  obtain⟨x,xj,ax,hx⟩:=nG k hlo
  have q:x∈orb S e∨True:=Or.inr trivial
  have hrot:∃a b,rnd S e=a++b∧fromLeast (rnd S e)=b++a:=by
   generalize rnd S e=r
   cases r with
   |nil=>exact⟨[],[],rfl,rfl⟩
   |cons a r =>
    refine⟨(a :: r).take ((a :: r).idxOf (r.foldl min a)),(a :: r).drop ((a :: r).idxOf (r.foldl min a)),(List.take_append_drop _ _).symm,rfl⟩
  obtain⟨a,b,h1,h2⟩:=hrot
  rw[h2]
  rw[h1]at hi
  have pr:∀(a b:List Nat),(prs (a++b)).Perm (prs (b++a)):=by
   intro a b
   unfold prs
   cases a with
   |nil=>rw[List.nil_append,List.append_nil]
   |cons x a =>
    cases b with
    |nil=>rw[List.nil_append,List.append_nil]
    |cons y b =>
     have c1:((x :: a)++(y :: b)).zip (((x :: a)++(y :: b)).drop 1++((x :: a)++(y :: b)).take 1)=(x :: a).zip (a++[y])++(y :: b).zip (b++[x]):=by
      have:((x :: a)++(y :: b)).drop 1++((x :: a)++(y :: b)).take 1=(a++[y])++(b++[x]):=by simp
      rw[this,List.zip_append (by simp)]
     have c2:((y :: b)++(x :: a)).zip (((y :: b)++(x :: a)).drop 1++((y :: b)++(x :: a)).take 1)=(y :: b).zip (b++[x])++(x :: a).zip (a++[y]):=by
      have:((y :: b)++(x :: a)).drop 1++((y :: b)++(x :: a)).take 1=(b++[x])++(a++[y]):=by simp
      rw[this,List.zip_append (by simp)]
     rw[c1,c2]
     exact List.perm_append_comm
  have ins:∀l m:List Nat,(prs l).Perm (prs m)→insideOf S l z=insideOf S m z:=by
   intro l m hp
   unfold insideOf
   have:(l.zip (l.drop 1++l.take 1)).Perm (m.zip (m.drop 1++m.take 1)):=hp
   rw[(this.filter _).length_eq]
  rw[ins _ _ (pr b a)]
  exact hi
 obtain⟨l,hl,hin⟩:=ex
 obtain⟨h,hh,hlh⟩:=List.getElem_of_mem hl
 refine⟨h,hh,?_,by rw[hlh];exact hin,fun j hj q=>?_⟩
 ·unfold Plan.among
  rw[if_pos hz,hlh]
  cases hf:S.outlines.find? fun (l:List Nat)=>insideOf S l z with
  |none =>
   have:=List.find?_eq_none.1 hf l ((i7 k l).1 hl)
   rw[hin]at this
   exact absurd rfl this
  |some m =>
   have h1:=List.find?_some hf
   have h2:=List.mem_of_find?_eq_some hf
   rw[uniq m ((i7 k m).2 h2) l hl h1 hin]
 ·have e:=uniq _ (List.getElem_mem hj) _ hl q hin
  have nd:=hX kk
  exact(List.getElem_inj nd).1 (e.trans hlh.symm)
end
open Gla
theorem eg {α:Type}{p:Nat→α→Bool}{l:List α}{k:Nat}(hk:k<l.length)(h:p k l[k]=true)(hb:∀j (hj:j<k),p j (l[j]'(by omega))=false):firstAt p l=some k:=by
 unfold firstAt
 have:(l.zipIdx.find? fun (x:α×Nat)=>p x.2 x.1)=some (l[k],k):=by
  rw[List.find?_eq_some_iff_getElem]
  refine⟨h,k,by rw[List.length_zipIdx];exact hk,by rw[List.getElem_zipIdx];simp,fun j hj=>?_⟩
  rw[List.getElem_zipIdx]
  simp only[Nat.zero_add]
  rw[hb j hj]
  rfl
 rw[this]
 rfl
theorem dR {α:Type}{p:Nat→α→Bool}{l:List α}(hb:∀j (hj:j<l.length),p j l[j]=false):firstAt p l=none:=by
 unfold firstAt
 rw[Option.map_eq_none_iff,List.find?_eq_none]
 intro x hx
 obtain⟨i,hi,rfl⟩:=List.getElem_of_mem hx
 rw[List.getElem_zipIdx]
 simp only[Nat.zero_add]
 rw[List.length_zipIdx]at hi
 rw[hb i hi]
 simp
theorem jQ {p:Nat→Bool}{n k:Nat}(hk:k<n)(h:p k=true)(hb:∀j,j<k→p j=false):(List.range n).find? p=some k:=by
 rw[List.find?_eq_some_iff_getElem]
 refine⟨h,k,by rw[List.length_range];exact hk,by rw[List.getElem_range],fun j hj=>?_⟩
 rw[List.getElem_range,hb j hj]
 rfl
theorem i6 {p:Nat→Bool}{n:Nat}(hb:∀j,j<n→p j=false):(List.range n).find? p=none:=by
 rw[List.find?_eq_none]
 intro x hx
 rw[hb x (List.mem_range.1 hx)]
 simp
def b9 {α:Type}(ok:α→Bool)(before:α→α→Bool)(l:List α)(i:Nat)(x:α):Bool:=!ok x||(decide (0<i)&&(match l[i-1]? with
 |some y=>!before y x
 |none=>false))
theorem d6 {α:Type}(ok:α→Bool)(before:α→α→Bool)(l:List α):firstBad ok before l=firstAt (b9 ok before l) l:=rfl
theorem jF {α:Type}{ok:α→Bool}{before:α→α→Bool}{l:List α}{x:α}:b9 ok before l 0 x=!ok x:=by
 unfold b9
 simp
theorem jR {α:Type}{ok:α→Bool}{before:α→α→Bool}{l:List α}{i:Nat}(hi:i<l.length){x:α}:b9 ok before l (i+1) x=(!ok x||!before l[i] x):=by
 unfold b9
 rw[dqt (by omega),Bool.true_and,show i+1-1=i by omega,gge hi]
section
variable  {S:Plan}
def R4 (S:Plan):Prop:=firstBad (fun (p:Pt)=>decide (p.x≤S.w)&&decide (p.y≤S.h)) Pt.below S.pts=none
def R5 (S:Plan):Prop:=firstBad (fun (l:Nat×Nat)=>decide (l.1<l.2)&&decide (l.2<S.pts.length)) lineBelow S.lines=none
theorem R4.ord (h:R4 S){i j:Nat}(hij:i<j)(hj:j<S.pts.length):(S.pt i).y<(S.pt j).y∨((S.pt i).y=(S.pt j).y∧(S.pt i).x<(S.pt j).x):=by
 have q:=chain_lt (R:=Pt.below) (fun h1 h2=>lK h1 h2) (cn h).2 i j hij hj
 rw[bJ S hj,bJ S (by omega:i<S.pts.length)]
 exact(eB _ _).1 q
theorem R5.line (h:R5 S){l:Nat×Nat}(hl:l∈S.lines):l.1<l.2∧l.2<S.pts.length:=by
 have:=(cn h).1 l hl
 simpa using this
theorem rY (h4:R4 S){p q j:Nat}(hpq:p<q)(hq:q<S.pts.length)(hj:j<S.pts.length)(h1:j≠p)(h2:j≠q)(hon:isOn (S.pt p) (S.pt q) (S.pt j)=true):p<j∧j<q:=by
 unfold isOn between at hon
 simp only[Bool.and_eq_true,beq_iff_eq,decide_eq_true_eq]at hon
 obtain⟨ht,⟨hx1,hx2⟩,hy1,hy2⟩:=hon
 have o:=h4.ord hpq hq
 unfold turn dx dy at ht
 constructor
 ·apply bcn
  intro hn
  have oj:=h4.ord (i:=j) (j:=p) (by omega) (by omega)
  have ey:(S.pt j).y=(S.pt p).y:=by omega
  have exl:(S.pt j).x<(S.pt p).x:=by omega
  rcases o with o|o
  ·rw[ey]at ht
   have:(((S.pt q).y:Int)-((S.pt p).y:Int))*(((S.pt p).x:Int)-((S.pt j).x:Int))=0:=by grind
   have:0<(((S.pt q).y:Int)-((S.pt p).y:Int))*(((S.pt p).x:Int)-((S.pt j).x:Int)):=Int.mul_pos (by omega) (by omega)
   omega
  ·omega
 ·apply bcn
  intro hn
  have oj:=h4.ord (i:=q) (j:=j) (by omega) hj
  have ey:(S.pt j).y=(S.pt q).y:=by omega
  have exl:(S.pt q).x<(S.pt j).x:=by omega
  rcases o with o|o
  ·rw[ey]at ht
   have:(((S.pt q).y:Int)-((S.pt p).y:Int))*(((S.pt j).x:Int)-((S.pt q).x:Int))=0:=by grind
   have:0<(((S.pt q).y:Int)-((S.pt p).y:Int))*(((S.pt j).x:Int)-((S.pt q).x:Int)):=Int.mul_pos (by omega) (by omega)
   omega
  ·omega
theorem uL (h4:R4 S){p q r s:Nat}(hpq:p<q)(hq:q<S.pts.length)(hrs:r<s)(hs:s<S.pts.length)(hc:crosses (S.pt p) (S.pt q) (S.pt r) (S.pt s)=true):p<s:=by
 apply bcn
 intro hn
 have o1:=h4.ord hpq hq
 have o2:=h4.ord hrs hs
 have o3:(S.pt s).y≤(S.pt p).y:=by
  by_cases e:s=p
  ·rw[e];exact nlr _
  ·have:=h4.ord (i:=s) (j:=p) (by omega) (by omega)
   omega
 unfold crosses at hc
 simp only[Bool.and_eq_true,decide_eq_true_eq]at hc
 obtain⟨c1,c2⟩:=hc
 unfold turn dx dy at c1 c2
 have y1:(S.pt p).y≤(S.pt q).y:=by omega
 have y2:(S.pt r).y≤(S.pt s).y:=by omega
 generalize hpx:((S.pt p).x:Int)=px at *
 generalize hqx:((S.pt q).x:Int)=qx at *
 generalize hrx:((S.pt r).x:Int)=rx at *
 generalize hsx:((S.pt s).x:Int)=sx at *
 have y1':((S.pt p).y:Int)≤((S.pt q).y:Int):=by omega
 have y2':((S.pt r).y:Int)≤((S.pt s).y:Int):=by omega
 have y3':((S.pt s).y:Int)≤((S.pt p).y:Int):=by omega
 generalize ((S.pt p).y:Int)=py at *
 generalize ((S.pt q).y:Int)=qy at *
 generalize ((S.pt r).y:Int)=ry at *
 generalize ((S.pt s).y:Int)=sy at *
 have fin:∀(fr fs hp hq:Int),fr=(qx-px)*(ry-qy)-(qy-py)*(rx-qx)→fs=(qx-px)*(sy-qy)-(qy-py)*(sx-qx)→hp=(sx-rx)*(py-sy)-(sy-ry)*(px-sx)→hq=(sx-rx)*(qy-sy)-(sy-ry)*(qx-sx)→fr*fs<0→hp*hq<0→False:=by
  intro fr fs hp hq e1 e2 e3 e4 m1 m2
  have i1:fs*ry-fr*sy=hp*qy-hq*py:=by rw[e1,e2,e3,e4];grind
  have i2:fs-fr=hp-hq:=by rw[e1,e2,e3,e4];grind
  have i3:fs-fr=(qx-px)*(sy-ry)-(qy-py)*(sx-rx):=by rw[e1,e2];grind
  have sg:(0<fs∧fr<0∧0<hp∧hq<0)∨(fs<0∧0<fr∧hp<0∧0<hq):=by
   have s1:(0<fs∧fr<0)∨(fs<0∧0<fr):=by
    rcases Int.lt_trichotomy fs 0 with h|h|h
    ·right
     refine⟨h,?_⟩
     apply bcn;intro q
     have:0≤(-fr)*(-fs):=Int.mul_nonneg (by omega) (by omega)
     grind
    ·rw[h]at m1;simp at m1
    ·left
     refine⟨h,?_⟩
     apply bcn;intro q
     have:0≤fr*fs:=Int.mul_nonneg (by omega) (by omega)
     omega
   have s2:(0<hp∧hq<0)∨(hp<0∧0<hq):=by
    rcases Int.lt_trichotomy hp 0 with h|h|h
    ·right
     refine⟨h,?_⟩
     apply bcn;intro q
     have:0≤(-hp)*(-hq):=Int.mul_nonneg (by omega) (by omega)
     grind
    ·rw[h]at m2;simp at m2
    ·left
     refine⟨h,?_⟩
     apply bcn;intro q
     have:0≤hp*hq:=Int.mul_nonneg (by omega) (by omega)
     omega
   rcases s1 with s1|s1<;>rcases s2 with s2|s2
   ·exact Or.inl ⟨s1.1,s1.2,s2.1,s2.2⟩
   ·omega
   ·omega
   ·exact Or.inr ⟨s1.1,s1.2,s2.1,s2.2⟩
  have j1:fs*(sy-ry)+hp*(qy-py)+(fs-fr)*(py-sy)=0:=by grind
  rcases sg with⟨g1,g2,g3,g4⟩|⟨g1,g2,g3,g4⟩
  ·have a1:0≤fs*(sy-ry):=Int.mul_nonneg (by omega) (by omega)
   have a2:0≤hp*(qy-py):=Int.mul_nonneg (by omega) (by omega)
   have a3:0≤(fs-fr)*(py-sy):=Int.mul_nonneg (by omega) (by omega)
   have z1:sy-ry=0:=by
    rcases Int.mul_eq_zero.1 (by omega:fs*(sy-ry)=0) with h|h<;>omega
   have z2:qy-py=0:=by
    rcases Int.mul_eq_zero.1 (by omega:hp*(qy-py)=0) with h|h<;>omega
   rw[z1,z2]at i3
   simp at i3
   omega
  ·have a1:0≤(-fs)*(sy-ry):=Int.mul_nonneg (by omega) (by omega)
   have a2:0≤(-hp)*(qy-py):=Int.mul_nonneg (by omega) (by omega)
   have a3:0≤(-(fs-fr))*(py-sy):=Int.mul_nonneg (by omega) (by omega)
   have b1:(-fs)*(sy-ry)=- (fs*(sy-ry)):=by grind
   have b2:(-hp)*(qy-py)=- (hp*(qy-py)):=by grind
   have b3:(-(fs-fr))*(py-sy)=- ((fs-fr)*(py-sy)):=by grind
   have z1:sy-ry=0:=by
    rcases Int.mul_eq_zero.1 (by omega:fs*(sy-ry)=0) with h|h<;>omega
   have z2:qy-py=0:=by
    rcases Int.mul_eq_zero.1 (by omega:hp*(qy-py)=0) with h|h<;>omega
   rw[z1,z2]at i3
   simp at i3
   omega
 exact fin _ _ _ _ rfl rfl rfl rfl c1 c2
def m9 (S:Plan)(l:Nat×Nat):Bool:=(List.range S.pts.length).any fun k=>decide (l.1<k)&&(decide (k<l.2)&&isOn (S.pt l.1) (S.pt l.2) (S.pt k))
def jO (S:Plan)(i:Nat)(l:Nat×Nat):Bool:=(S.lines.take i).any fun m=>decide (l.1<m.2)&&crosses (S.pt l.1) (S.pt l.2) (S.pt m.1) (S.pt m.2)
theorem xT (h4:R4 S)(h5:R5 S)(i:Nat){l:Nat×Nat}(hl:l∈S.lines):touches S i l=(m9 S l||jO S i l):=by
 obtain⟨l1,l2⟩:=h5.line hl
 unfold touches m9 jO
 congr 1
 ·rw[Bool.eq_iff_iff,List.any_eq_true,List.any_eq_true]
  constructor
  ·rintro⟨k,hk,h⟩
   simp only[Bool.and_eq_true,bne_iff_ne,ne_eq]at h
   obtain⟨a,b⟩:=rY h4 l1 l2 (List.mem_range.1 hk) h.1 h.2.1 h.2.2
   exact⟨k,hk,by simp[a,b,h.2.2]⟩
  ·rintro⟨k,hk,h⟩
   simp only[Bool.and_eq_true,decide_eq_true_eq]at h
   exact⟨k,hk,by simp only[Bool.and_eq_true,bne_iff_ne,ne_eq];exact⟨by omega,by omega,h.2.2⟩⟩
 ·rw[Bool.eq_iff_iff,List.any_eq_true,List.any_eq_true]
  constructor
  ·rintro⟨m,hm,h⟩
   obtain⟨m1,m2⟩:=h5.line (List.mem_of_mem_take hm)
   exact⟨m,hm,by rw[Bool.and_eq_true];exact⟨dqt (uL h4 l1 l2 m1 m2 h),h⟩⟩
  ·rintro⟨m,hm,h⟩
   rw[Bool.and_eq_true]at h
   exact⟨m,hm,h.2⟩
end
def fh (a:List Nat×Array Bool)(j:Nat):List Nat×Array Bool:=if a.2.getD j true=true then a else (j :: a.1,a.2.setIfInBounds j true)
theorem rW (near:Array (List Nat))(m:Nat)(seen:Array Bool):spread near m [] seen=seen:=by
 cases m<;>rfl
theorem rj (near:Array (List Nat))(m k:Nat)(r:List Nat)(seen:Array Bool):spread near (m+1) (k :: r) seen=spread near m ((near.getD k []).foldl fh (r,seen)).1 ((near.getD k []).foldl fh (r,seen)).2:=rfl
def fe (a:Array Bool):Nat:=a.toList.count false
theorem jt:∀{l:List Bool} {j:Nat},l[j]? = some false→(l.set j true).count false+1=l.count false
 |[],_,h=>by simp at h
 |a :: l,0,h=>by
  have:a=false:=by simpa using h
  subst this
  simp
 |a :: l,j+1,h=>by
  have ih:=jt (l:=l) (j:=j) (by simpa using h)
  rw[List.set_cons_succ,List.count_cons,List.count_cons]
  omega
theorem sf {a:Array Bool}{j:Nat}(h:¬a.getD j true=true):a.toList[j]? = some false∧j<a.size:=by
 unfold Array.getD at h
 by_cases c:j<a.size
 ·rw[dif_pos c]at h
  refine⟨?_,c⟩
  rw[gge (by simpa using c)]
  simp only[Array.getElem_toList]
  congr 1
  cases q:a[j] with
  |false=>rfl
  |true=>exact absurd q h
 ·rw[dif_neg c]at h
  exact absurd rfl h
theorem vU (a:List Nat×Array Bool)(j:Nat):(fh a j).1.length+fe (fh a j).2=a.1.length+fe a.2:=by
 unfold fh
 by_cases h:a.2.getD j true=true
 ·rw[if_pos h]
 ·rw[if_neg h]
  obtain⟨h1,h2⟩:=sf h
  have:=jt h1
  unfold fe
  rw[Array.toList_setIfInBounds]
  simp only[List.length_cons]
  omega
theorem kY:∀(l:List Nat) (a:List Nat×Array Bool),(l.foldl fh a).1.length+fe (l.foldl fh a).2=a.1.length+fe a.2
 |[],_=>rfl
 |j :: l,a=>by rw[List.foldl_cons,kY l,vU]
section
variable  {S:Plan}
theorem nw {all:List (List Nat)}:∀{l:List Mark} {i:Nat} {had:List (Option (List Nat))} {k:Nat} (hk:k<l.length),((((l.take k).map fun m=>S.among all m.at_).reverse++had).contains (S.among all (l[k]).at_)=true) →
  (∀j (hj:j<k),(((l.take j).map fun m=>S.among all m.at_).reverse++had).contains (S.among all (l[j]'(by omega)).at_)=false)→twice S all i had l=some (i+k)
 |[],_,_,_,hk,_,_=>by simp at hk
 |m :: r,i,had,0,hk,h,_=>by
  unfold twice
  have h:had.contains (S.among all m.at_)=true:=by simpa using h
  simp only
  rw[if_pos h]
  rfl
 |m :: r,i,had,k+1,hk,h,hb=>by
  have h0:had.contains (S.among all m.at_)=false:=by simpa using hb 0 (by omega)
  unfold twice
  simp only
  rw[if_neg (by rw[h0];decide)]
  have:=nw (l:=r) (i:=i+1) (had:=S.among all m.at_ :: had) (k:=k) (by simpa using hk) (by simpa using h) (fun j hj=>by
   have:=hb (j+1) (by omega)
   simpa using this)
  rw[this]
  congr 1
  omega
theorem lv {all:List (List Nat)}:∀{l:List Mark} {i:Nat} {had:List (Option (List Nat))},
  (∀j (hj:j<l.length),(((l.take j).map fun m=>S.among all m.at_).reverse++had).contains (S.among all (l[j]).at_)=false)→twice S all i had l=none
 |[],_,_,_=>rfl
 |m :: r,i,had,hb=>by
  have h0:had.contains (S.among all m.at_)=false:=hb 0 (Nat.zero_lt_succ _)
  unfold twice
  simp only
  rw[if_neg (by rw[h0];decide)]
  exact lv (l:=r) (fun j hj=>by
   have:=hb (j+1) (by simpa using hj)
   simpa using this)
end
end WL
end
section
namespace CM
open Gla
def sw (l:List Int):Int:=l.foldr (fun b n=>256*n+b) 0
def rd (ns:List Int)(p w:Nat):Int:=sw ((ns.drop p).take w)
def toB (ns:List Int):List UInt8:=ns.map fun z=>UInt8.ofNat z.toNat
def Byt (ns:List Int):Prop:=∀z∈ns,0≤z∧z≤255
theorem tK {z:Int}(h:0≤z∧z≤255):(((UInt8.ofNat z.toNat).toNat:Nat):Int)=z:=by
 have:(UInt8.ofNat z.toNat).toNat=z.toNat:=by
  rw[UInt8.toNat_ofNat']
  omega
 rw[this]
 omega
theorem uw:∀{l:List Int},Byt l→sw l=((numLe (toB l):Nat):Int)
 |[],_=>rfl
 |z :: l,h=>by
  have ih:=uw (l:=l) fun y hy=>h y (List.mem_cons_of_mem _ hy)
  have hz:=tK (h z List.mem_cons_self)
  show 256*sw l+z=(((UInt8.ofNat z.toNat).toNat+256*numLe (toB l):Nat):Int)
  rw[ih,Int.natCast_add,hz,Int.natCast_mul]
  omega
theorem Byt.sub {ns:List Int}(h:Byt ns)(p w:Nat):Byt ((ns.drop p).take w):=fun z hz=>h z (List.mem_of_mem_drop (List.mem_of_mem_take hz))
theorem cT {ns:List Int}(h:Byt ns)(p w:Nat):rd ns p w=((num (toB ns) p w:Nat):Int):=by
 unfold rd num
 rw[uw (h.sub p w)]
 unfold toB
 rw[List.map_take,List.map_drop]
theorem qM:∀(l:List UInt8),numLe l<256 ^ l.length
 |[]=>by simp[numLe]
 |c :: r=>by
  have:=qM r
  have hc:=c.toNat_lt
  rw[numLe,List.length_cons,Nat.pow_succ]
  have:c.toNat+256*numLe r<256*(numLe r+1):=by omega
  have:256*(numLe r+1)≤256*256 ^ r.length:=Nat.mul_le_mul_left _ (by omega)
  omega
theorem pA (b:List UInt8)(p w:Nat):num b p w<256 ^ w:=by
 unfold num
 have h:=qM ((b.drop p).take w)
 have:((b.drop p).take w).length≤w:=by rw[List.length_take];omega
 exact Nat.lt_of_lt_of_le h (Nat.pow_le_pow_right (by omega) this)
theorem sE {ns:List Int}(h:Byt ns)(p:Nat):0≤rd ns p 2∧rd ns p 2<65536:=by
 have:=pA (toB ns) p 2
 rw[cT h]
 omega
def jT:List Int:=[71,76,65,49]
def fg:List (List Int):=[[4,4,16,1048575],[8,4,16,1048575],[12,2,4,4096],[14,2,4,8192],[16,2,1,2048],[18,2,0,0]]
def eO (ns:List Int)(r:List Int):Bool:=decide (r.getD 2 0≤rd ns (r.getD 0 0).toNat (r.getD 1 0).toNat)&&decide (rd ns (r.getD 0 0).toNat (r.getD 1 0).toNat≤r.getD 3 0)
def told (ns:List Int):Int:=20+8*rd ns 12 2+4*rd ns 14 2+12*rd ns 16 2
def dM (ns:List Int):Option (Int×Int):=if ns.length<20 then some (1,(ns.length:Int)) else if ns.take 4≠jT then some (1,0) else match fg.find? (fun r=>!eO ns r) with
 |some r=>some (2,r.getD 0 0)
 |none=>if (ns.length:Int)≠told ns then some (3,20) else none
theorem uf {ns:List Int}(h:Byt ns):(toB ns).take 4=MAGIC↔ns.take 4=jT:=by
 have e:(toB ns).take 4=toB (ns.take 4):=by unfold toB;rw[List.map_take]
 have hb:Byt (ns.take 4):=fun z hz=>h z (List.mem_of_mem_take hz)
 rw[e]
 constructor
 ·intro q
  have:((toB (ns.take 4)).map fun c:UInt8=>((c.toNat:Nat):Int))=jT:=by rw[q];rfl
  rw[←this]
  unfold toB
  rw[List.map_map]
  conv=>lhs;rw[←List.map_id (ns.take 4)]
  apply List.map_congr_left
  intro z hz
  exact(tK (hb z hz)).symm
 ·intro q
  rw[q]
  rfl
def fT (b:List UInt8):Option Fault :=
 if b.length<HEAD then some ⟨1,b.length⟩
 else if b.take 4≠MAGIC then some ⟨1,0⟩
 else if within SMALLEST LARGEST (num b 4 4)=false then some ⟨2,4⟩
 else if within SMALLEST LARGEST (num b 8 4)=false then some ⟨2,8⟩
 else if within 4 POINTS (num b 12 2)=false then some ⟨2,12⟩
 else if within 4 LINES (num b 14 2)=false then some ⟨2,14⟩
 else if within 1 MARKS (num b 16 2)=false then some ⟨2,16⟩
 else if num b 18 2≠0 then some ⟨2,18⟩
 else if b.length≠HEAD+8*num b 12 2+4*num b 14 2+12*num b 16 2 then some ⟨3,HEAD⟩ else none
theorem nk (b:List UInt8):judgePlan b=match fT b with
  |some e=>.error e
  |none=>match (parts b).fault with
   |some e=>.error e
   |none=>.ok (parts b):=by
 unfold judgePlan fT
 repeat' split
 all_goals first|rfl|simp_all
theorem ef {a c n:Nat}{z:Int}(hz:z=(n:Int)):within a c n=(decide ((a:Int)≤z)&&decide (z≤(c:Int))):=by
 unfold within
 subst hz
 congr 1
 ·rw[decide_eq_decide];omega
 ·rw[decide_eq_decide];omega
theorem jl {ns:List Int}(h:Byt ns):dM ns=(fT (toB ns)).map fun e=>((e.rule:Int),(e.place:Int)):=by
 have hl:(toB ns).length=ns.length:=by unfold toB;rw[lmp]
 unfold dM fT
 rw[hl]
 by_cases c1:ns.length<20
 ·rw[if_pos c1,if_pos (show ns.length<HEAD from c1)]
  rfl
 ·rw[if_neg c1,if_neg (show ¬ns.length<HEAD from c1)]
  by_cases c2:ns.take 4=jT
  ·rw[if_neg (show ¬ns.take 4≠jT from fun q=>q c2),if_neg (show ¬(toB ns).take 4≠MAGIC from fun q=>q ((uf h).2 c2))]
   have w1:=ef (a:=SMALLEST) (c:=LARGEST) (cT h 4 4)
   have w2:=ef (a:=SMALLEST) (c:=LARGEST) (cT h 8 4)
   have w3:=ef (a:=4) (c:=POINTS) (cT h 12 2)
   have w4:=ef (a:=4) (c:=LINES) (cT h 14 2)
   have w5:=ef (a:=1) (c:=MARKS) (cT h 16 2)
   have o1:eO ns [4,4,16,1048575]=within SMALLEST LARGEST (num (toB ns) 4 4):=by rw[w1];rfl
   have o2:eO ns [8,4,16,1048575]=within SMALLEST LARGEST (num (toB ns) 8 4):=by rw[w2];rfl
   have o3:eO ns [12,2,4,4096]=within 4 POINTS (num (toB ns) 12 2):=by rw[w3];rfl
   have o4:eO ns [14,2,4,8192]=within 4 LINES (num (toB ns) 14 2):=by rw[w4];rfl
   have o5:eO ns [16,2,1,2048]=within 1 MARKS (num (toB ns) 16 2):=by rw[w5];rfl
   have o6:eO ns [18,2,0,0]=decide (num (toB ns) 18 2=0):=by
    show(decide ((0:Int)≤rd ns 18 2)&&decide (rd ns 18 2≤0))=_
    rw[cT h,←Bool.decide_and,decide_eq_decide]
    omega
   unfold fg
   simp only[List.find?_cons,List.find?_nil,o1,o2,o3,o4,o5,o6]
   cases within SMALLEST LARGEST (num (toB ns) 4 4) with
   |false=>rfl
   |true =>
    cases within SMALLEST LARGEST (num (toB ns) 8 4) with
    |false=>rfl
    |true =>
     cases within 4 POINTS (num (toB ns) 12 2) with
     |false=>rfl
     |true =>
      cases within 4 LINES (num (toB ns) 14 2) with
      |false=>rfl
      |true =>
       cases within 1 MARKS (num (toB ns) 16 2) with
       |false=>rfl
       |true =>
        by_cases c6:num (toB ns) 18 2=0
        ·simp only[c6,decide_true,Bool.not_true,ne_eq,not_true_eq_false,if_false,Bool.true_eq_false]
         have e:told ns=((HEAD+8*num (toB ns) 12 2+4*num (toB ns) 14 2+12*num (toB ns) 16 2:Nat):Int):=by
          unfold told HEAD
          rw[cT h,cT h,cT h]
          omega
         rw[e]
         by_cases c7:ns.length=HEAD+8*num (toB ns) 12 2+4*num (toB ns) 14 2+12*num (toB ns) 16 2
         ·rw[if_neg (by omega),if_neg (by omega)];rfl
         ·rw[if_pos (by omega),if_pos (by omega)];rfl
        ·simp[c6]
  ·rw[if_pos (show ns.take 4≠jT from c2),if_pos (show(toB ns).take 4≠MAGIC from fun q=>c2 ((uf h).1 q))]
   rfl
def fP (p:Pt):List Int:=[(p.x:Int),(p.y:Int)]
def t9 (l:Nat×Nat):List Int:=[(l.1:Int),(l.2:Int)]
def kl (m:Mark):List Int:=[(m.at_.x:Int),(m.at_.y:Int),(m.glass:Int),(m.painting:Int)]
def P_ (ns:List Int):Nat:=(rd ns 12 2).toNat
def L_ (ns:List Int):Nat:=(rd ns 14 2).toNat
def M_ (ns:List Int):Nat:=(rd ns 16 2).toNat
def kU (ns:List Int):List (List Int):=(List.range (P_ ns)).map fun i=>[rd ns (20+8*i) 4,rd ns (20+8*i+4) 4]
def kD (ns:List Int):List (List Int):=(List.range (L_ ns)).map fun i=>[rd ns (20+8*P_ ns+4*i) 2,rd ns (20+8*P_ ns+4*i+2) 2]
def k8 (ns:List Int):List (List Int):=(List.range (M_ ns)).map fun i=>[rd ns (20+8*P_ ns+4*L_ ns+12*i) 4,rd ns (20+8*P_ ns+4*L_ ns+12*i+4) 4,rd ns (20+8*P_ ns+4*L_ ns+12*i+8) 2,rd ns (20+8*P_ ns+4*L_ ns+12*i+10) 2]
theorem zS {ns:List Int}(h:Byt ns):P_ ns=num (toB ns) 12 2:=by unfold P_;rw[cT h];omega
theorem Dg {ns:List Int}(h:Byt ns):L_ ns=num (toB ns) 14 2:=by unfold L_;rw[cT h];omega
theorem Er {ns:List Int}(h:Byt ns):M_ ns=num (toB ns) 16 2:=by unfold M_;rw[cT h];omega
theorem uU {ns:List Int}(h:Byt ns):kU ns=(parts (toB ns)).pts.map fP:=by
 unfold kU parts
 simp only[List.map_map,zS h]
 apply List.map_congr_left
 intro i _
 simp only[Function.comp,fP,HEAD,cT h]
theorem uQ {ns:List Int}(h:Byt ns):kD ns=(parts (toB ns)).lines.map t9:=by
 unfold kD parts
 simp only[List.map_map,zS h,Dg h]
 apply List.map_congr_left
 intro i _
 simp only[Function.comp,t9,HEAD,cT h]
theorem uR {ns:List Int}(h:Byt ns):k8 ns=(parts (toB ns)).marks.map kl:=by
 unfold k8 parts
 simp only[List.map_map,zS h,Dg h,Er h]
 apply List.map_congr_left
 intro i _
 simp only[Function.comp,kl,HEAD,cT h]
end CM
end
section
namespace Wg
open PySem PySem.Spec PyProof.Rows L2
theorem a5 {H0 H:Hp}{T:Addr}{o:HO}(s:ak H0 H)(h:H T=none):ak H0 (upd H T o):=fun b u e=>by
 have e1:=s b u e
 rw[ap (aQ e1 h)]
 exact e1
theorem aY {H0 H:Hp}{T:Addr}{o:HO}(s:ak H0 H)(h:H0 T=none):ak H0 (upd H T o):=fun b u e=>by
 have e1:=s b u e
 rw[ap (aQ e h)]
 exact e1
theorem aN {H:Hp}{T:Addr}{o:HO}(h:H T=none):ak H (upd H T o):=a5 (ak.refl H) h
theorem iZ {K:Frag}{H H':Hp}{a:Addr}{xs:List V}(e:ak H H')(h:SqT K H a xs):SqT K H' a xs:=by
 rcases h with(h|⟨o,h⟩)|h
 ·exact .inl (.inl (e _ _ h))
 ·exact .inl (.inr ⟨o,e _ _ h⟩)
 ·exact .inr h
section
variable  {K:Frag}{a b:Addr}{xs ys:List V}
theorem Ao {g:TG}{tt:TT}{te:TE}{vs:List Nat}{σ:L2.St}{H1:Hp}{D:Addr}{Qd:Hp→Prop}(Pv:Nat→Hp→Prop)(h0:Pv 0 (upd H1 D (.lst [])))
  (hl:∀i H,i≤min xs.length ys.length→Pv i H→SqL K H a xs∧SqL K H b ys)
  (hs:∀i x y T H,xs[i]? = some x→ys[i]? = some y→H T=none→Pv i H→g (.ref T) (bX σ vs) (upd H T (.tup [x,y])) fun σ2 H2=>bX σ2 vs=bX σ vs∧tt σ2 H2 fun b H3 =>
   if b=true then te σ2 H3 fun y H4=>∃acc,H4 D=some (.lst acc)∧acc.length<sizeLine∧Pv (i+1) (upd H4 D (.lst (acc++[y]))) else Pv (i+1) H3) (hd:∀H,Pv (min xs.length ys.length) H→Qd H) :
  ∃W:Nat→Nat→Hp→Prop,(∃m,W 0 m (upd H1 D (.lst [])))∧∀i m H,W i m H →
   ((Itz K a b).stop i H∧Qd H)∨((Itz K a b).go i H∧∃Nx:Hp→Prop,(∀H',Nx H'→∃m',m'<m∧W (i+1) m' H')∧∀x H',(Itz K a b).yld i H x H'→g x (bX σ vs) H' fun σ2 H2=>bX σ2 vs=bX σ vs∧tt σ2 H2 fun b H3 =>
    if b=true then te σ2 H3 fun y H4=>∃acc,H4 D=some (.lst acc)∧acc.length<sizeLine∧Nx (upd H4 D (.lst (acc++[y]))) else Nx H3):=by
 refine⟨fun i m H=>m=min xs.length ys.length-i∧i≤min xs.length ys.length∧Pv i H,⟨min xs.length ys.length,by simp,Nat.zero_le _,h0⟩,?_⟩
 rintro i m H ⟨rfl,hi,p⟩
 obtain⟨q1,q2⟩:=hl i H hi p
 by_cases hlt:i<min xs.length ys.length
 ·have hx:i<xs.length:=by omega
  have hy:i<ys.length:=by omega
  refine .inr ⟨⟨xs,ys,xs[i],ys[i],q1,q2,by simp[hx],by simp[hy]⟩,Pv (i+1),fun H' p'=>⟨min xs.length ys.length-(i+1),by omega,rfl,hlt,p'⟩,fun x H' y=>?_⟩
  obtain⟨T,x1,y1,e1,e2,e3,e4,e5⟩:=y
  subst e1 e3
  exact hs i x1 y1 T H (e4 xs q1) (e5 ys q2) e2 p
 ·have e:i=min xs.length ys.length:=by omega
  subst e
  exact .inl ⟨⟨xs,ys,q1,q2,by omega⟩,hd H p⟩
theorem di {g:TG}{tb:TS}{D:nR}{σ:L2.St}{H:Hp}(Pv:Nat→L2.St→Hp→Prop)(h0:Pv 0 σ H)(hl:∀i σ H,i≤xs.length→Pv i σ H→SqL K H a xs)
  (hs:∀i x T σ H,xs[i]? = some x→H T=none→Pv i σ H→g (.ref T) σ (upd H T (.tup [.int (i:Nat),x])) fun σ2 H2=>tb { D with nx:=Pv (i+1),ct:=Pv (i+1),bk:=D.nx } σ2 H2) (hd:∀σ H,Pv xs.length σ H→D.nx σ H) :
  ∃W:Nat→Nat→L2.St→Hp→Prop,(∃m,W 0 m σ H)∧∀i m σ H,W i m σ H →
   ((Ite K a).stop i H∧D.nx σ H)∨((Ite K a).go i H∧∃N:L2.St→Hp→Prop,(∀σ' H',N σ' H'→∃m',m'<m∧W (i+1) m' σ' H')∧∀x H',(Ite K a).yld i H x H'→g x σ H' fun σ2 H2=>tb { D with nx:=N,ct:=N,bk:=D.nx } σ2 H2):=by
 refine⟨fun i m σ H=>m=xs.length-i∧i≤xs.length∧Pv i σ H,⟨xs.length,by simp,Nat.zero_le _,h0⟩,?_⟩
 rintro i m σ H ⟨rfl,hi,p⟩
 have q:=hl i σ H hi p
 by_cases hlt:i<xs.length
 ·refine .inr ⟨⟨xs,xs[i],q,by simp[hlt]⟩,Pv (i+1),fun σ' H' p'=>⟨xs.length-(i+1),by omega,rfl,hlt,p'⟩,fun x H' y=>?_⟩
  obtain⟨T,x1,e1,e2,e3,e4⟩:=y
  subst e1 e3
  exact hs i x1 T σ H (e4 xs q) e2 p
 ·have e:i=xs.length:=by omega
  subst e
  exact .inl ⟨⟨xs,q,nlr _⟩,hd σ H p⟩
theorem yQ {g:TG}{tt:TT}{te:TE}{vs:List Nat}{σ:L2.St}{H1:Hp}{D:Addr}{Qd:Hp→Prop}(Pv:Nat→Hp→Prop)(h0:Pv 0 (upd H1 D (.lst [])))
  (hl:∀i H,i≤xs.length→Pv i H→SqL K H a xs)
  (hs:∀i x T H,xs[i]? = some x→H T=none→Pv i H→g (.ref T) (bX σ vs) (upd H T (.tup [.int (i:Nat),x])) fun σ2 H2=>bX σ2 vs=bX σ vs∧tt σ2 H2 fun b H3 =>
   if b=true then te σ2 H3 fun y H4=>∃acc,H4 D=some (.lst acc)∧acc.length<sizeLine∧Pv (i+1) (upd H4 D (.lst (acc++[y]))) else Pv (i+1) H3) (hd:∀H,Pv xs.length H→Qd H) :
  ∃W:Nat→Nat→Hp→Prop,(∃m,W 0 m (upd H1 D (.lst [])))∧∀i m H,W i m H →
   ((Ite K a).stop i H∧Qd H)∨((Ite K a).go i H∧∃Nx:Hp→Prop,(∀H',Nx H'→∃m',m'<m∧W (i+1) m' H')∧∀x H',(Ite K a).yld i H x H'→g x (bX σ vs) H' fun σ2 H2=>bX σ2 vs=bX σ vs∧tt σ2 H2 fun b H3 =>
    if b=true then te σ2 H3 fun y H4=>∃acc,H4 D=some (.lst acc)∧acc.length<sizeLine∧Nx (upd H4 D (.lst (acc++[y]))) else Nx H3):=by
 refine⟨fun i m H=>m=xs.length-i∧i≤xs.length∧Pv i H,⟨xs.length,by simp,Nat.zero_le _,h0⟩,?_⟩
 rintro i m H ⟨rfl,hi,p⟩
 have q:=hl i H hi p
 by_cases hlt:i<xs.length
 ·refine .inr ⟨⟨xs,xs[i],q,by simp[hlt]⟩,Pv (i+1),fun H' p'=>⟨xs.length-(i+1),by omega,rfl,hlt,p'⟩,fun x H' y=>?_⟩
  obtain⟨T,x1,e1,e2,e3,e4⟩:=y
  subst e1 e3
  exact hs i x1 T H (e4 xs q) e2 p
 ·have e:i=xs.length:=by omega
  subst e
  exact .inl ⟨⟨xs,q,nlr _⟩,hd H p⟩
end
def Has (K:Frag)(mg:Str→Option Value)(x:Str)(st:Stmt)(ps:List Str):Prop:=∃f fd,Fun K x x st f fd∧(∀us:List Value,us.length=ps.length→bindArgs fd ⟨us,[]⟩=pure (ps.zip us))∧mg x=some (.ref f)
def Cb (P:Program)(w:World)(K:Frag)(mg:Str→Option Value)(base:Heap)(k:Nat)(x:Str)(ps:List Str)(sp:Sp):Prop :=
 ∃f fd,jw P w K mg base CX0 k f fd ps sp∧jd K fd ps []∧mg x=some (.ref f)∧PySem.W.keepIn K (.ref f)=true∧∃o,K.lookup f=some o∧o.data=.func fd
section
variable  {P:Program}{w:World}{K:Frag}{mg:Str→Option Value}{base:Heap}
theorem rA {x:Str}{st:Stmt}{f:Addr}{fd:FuncData}(F:Fun K x x st f fd):∃o,K.lookup f=some o∧o.data=.func fd:=by
 obtain⟨oc,od,kV,doc,pm,an,cdv,ct,osl,e,lk,_⟩:=F.ex
 exact⟨_,lk,by rw[e]⟩
theorem Has.cb {x:Str}{st:Stmt}{N ps:List Str}{k:Nat}{sp:Sp}(F:Has K mg x st ps)(S:aq N ps (ah st))(len:∀vs H Q E,sp vs H Q E→vs.length=ps.length)
  (hbody:∀(f:Addr) (cdv:Value) (A:Around) (outer:List Env) (s:Shared) (H:Hp) (vs:List V) (Q:VK) (E:XK),bu k (A.deeper (envOfC x (ah st) s.heap.objs.size f cdv))→sp vs H Q E →
   ∃t,PSs (qg CX0 P w K mg base N x (ah st) f cdv A outer s H E).nox (bM st) t∧t { nx:=fun _ H'=>Q .non H',rt:=Q } (start N vs) H):Cb P w K mg base (k+1) x ps sp:=by
 obtain⟨f,fd,h1,h2,h3⟩:=F
 exact⟨f,fd,h1.ok S len (hbody f),.all h2,h3,h1.kp,rA h1⟩
theorem aM {h:Heap}{x:Str}{st:Stmt}{ps:List Str}{f:Addr}{oc:Value}{od an:Option Addr}{osl:Array (Option Value)}{kV doc pm cdv ct:Value}(X:K.In h)(G:h.Ns mainGlobals mg)
  (bind:∀(kV doc pm:Value) (an:Option Addr) (cdv ct:Value) (us:List Value),us.length=ps.length→bindArgs (PySem.W.fnOf x x (cD st) (bM st) (ah st) .none kV doc pm an cdv ct) ⟨us,[]⟩=pure (ps.zip us))
  (a:PySem.W.nsIn K mainGlobals x=some (some (.ref f))) (l:K.lookup f=some ⟨oc,od,.func (PySem.W.fnOf x x (cD st) (bM st) (ah st) .none kV doc pm an cdv ct),osl⟩)
  (c:PySem.W.codeIn K cdv x=true) (kp:PySem.W.keepIn K (.ref f)=true):Has K mg x st ps :=
 ⟨f,_,sD (st:=st) l c kp,bind kV doc pm an cdv ct,PySem.W.mg_of X G a⟩
theorem Has.top {x:Str}{st:Stmt}{ps:List Str}{k:Nat}{sp:Sp}{fa:Addr}(F:Has K mg x st ps)(hfa:mg x=some (.ref fa))(C:∀base:Heap,K.In base→base.Ns mainGlobals mg→Cb P w K mg base k x ps sp) :
  ∃fd:FuncData,(∀(s:Shared) (us:List Value),us.length=ps.length→BindsTo s fd ⟨us,[]⟩ (ps.zip us))∧∀base:Heap,K.In base→base.Ns mainGlobals mg→jw P w K mg base CX0 k fa fd ps sp:=by
 obtain⟨f,fd,h1,h2,h3⟩:=F
 have e:fa=f:=by
  have q:=hfa.symm.trans h3
  injection q with q
  injection q
 subst e
 refine⟨fd,fun s us hu=>.of_eq (h2 us hu),fun base kb nb=>?_⟩
 obtain⟨f',fd',g1,g2,g3,g4,o,g5,g6⟩:=C base kb nb
 have e':fa=f':=by
  have q:=h3.symm.trans g3
  injection q with q
  injection q
 subst e'
 obtain⟨o2,e5,e6⟩:=rA h1
 rw[g5]at e5
 cases e5
 rw[g6]at e6
 injection e6 with e6
 rw[←e6]
 exact g1
theorem iO {h:Heap}{x:Str}{n:Int}{t:Tok}(X:K.In h)(G:h.Ns mainGlobals mg)(a:PySem.W.nsIn K mainGlobals x=some (some (.int n t))):∃t,mg x=some (.int n t):=⟨t,PySem.W.mg_of X G a⟩
end
theorem aF {X:Cx}{k:Nat}{x:Str}{ps:List Str}{sp:Sp}{p pos:Pos}{e:Expr}{es:List Expr}{t:TA}(C:Cb X.prog X.w X.K X.mg X.base k x ps sp)(hr:bu k X.A)(ha:PA X (e :: es) t)(hg:Gl X x:=by rfl)
  (hdb:(x==("__debug__" : Str))=false:=by decide) (he:starEach (e :: es) X.env=(false,eval e X.env) :: starEach es X.env:=by rfl) (hpl:(backTo pos (starEach es X.env)).any (·.1)=false:=by rfl) :
  PE X (.Call (.Name x p) (e :: es) [] pos) (lJ sp [] E0 t):=by
 obtain⟨f,fd,h1,h2,h3,h4,_⟩:=C
 exact yz h1 hr hg h3 h4 h2 .nil tV ha hdb he hpl
theorem bv {X:Cx}{x:Str}{n:Int}{pos:Pos}(hm:∃t,X.mg x=some (.int n t))(hg:Gl X x:=by rfl) (hd:(x==("__debug__" : Str))=false:=by decide):PE X (.Name x pos) (tC (.int n)):=by
 obtain⟨t,h⟩:=hm
 exact pX hg h ⟨t,rfl⟩ hd
theorem nY {σ:L2.St}{H:Hp}{Q:Bool→Hp→Prop}(h:Q true H):CK σ H Q:=h
abbrev g2 (K:Frag)(i j:Nat):TG:=CY K 2 (wg (pf i) (wg (pf j) Dy))
abbrev iV (ns:List Int):List V:=ns.map V.int
def LI (K:Frag)(H:Hp)(a:Addr)(ns:List Int):Prop:=SqL K H a (iV ns)∧ns.length≤1000000
theorem LI.same {K:Frag}{H H':Hp}{a:Addr}{ns:List Int}(h:LI K H a ns)(s:ak H H'):LI K H' a ns:=⟨s.seq h.1,h.2⟩
theorem pJ {n:Nat}(h:n≤1000000):n≤sizeLine:=Nat.le_trans h (by decide)
theorem bF {n:Nat}(h:n≤1000000):n<sizeLine:=Nat.lt_of_le_of_lt h (by decide)
theorem qu {ns:List Int}{i:Nat}{v:V}(h:(iV ns)[i]? = some v):∃z,ns[i]? = some z∧v=.int z:=by
 rw[List.getElem?_map]at h
 cases e:ns[i]? with
 |none=>rw[e]at h;cases h
 |some z=>rw[e]at h;exact⟨z,rfl,(osi h).symm⟩
theorem bY {α:Type}:∀{l:List α} {i:Nat} {x:α},l[i]? = some x→l.take (i+1)=l.take i++[x]
 |[],i,x,h=>by simp at h
 |a :: l,0,x,h=>by
  have e:a=x:=osi h
  subst e
  rfl
 |a :: l,i+1,x,h=>by
  have ih:=bY (l:=l) (i:=i) (x:=x) h
  show a :: l.take (i+1)=a :: l.take i++[x]
  rw[ih]
  rfl
theorem AX {α β:Type}{l:List α}{k:List β}{i:Nat}{x:α}{y:β}(h1:l[i]? = some x)(h2:k[i]? = some y):(l.zip k)[i]? = some (x,y):=by
 rw[List.getElem?_zip_eq_some]
 exact⟨h1,h2⟩
end Wg
end
section
namespace Wx
open PySem PySem.Spec PyProof.Rows L2 Wg
def gX (a b:List Int):Bool:=HT.lexLt b a
def gU:List Int→List Int→Bool
 |[],[]=>true
 |[],_ :: _=>true
 |_ :: _,[]=>false
 |x :: xs,y :: ys=>if x=y then gU xs ys else decide (x≤y)
theorem jH (x y:Int)(xs ys:List Int):gX (x :: xs) (y :: ys)=if x=y then gX xs ys else decide (y<x):=by
 unfold gX
 rw[HT.lexLt_cons]
 by_cases h:x=y
 ·rw[if_pos h,if_pos h.symm]
 ·rw[if_neg h,if_neg (fun q=>h q.symm)]
theorem jC (x y:Int)(xs ys:List Int):gU (x :: xs) (y :: ys)=if x=y then gU xs ys else decide (x≤y):=rfl
theorem xi (A:Around)(s:Shared)(a:Int)(t:Tok)(c:Int)(u:Tok)(prog:Program)(w:World)(E:Value→Shared→Prop)(Q:Value→Shared→Prop)(h:Q (.bool (decide (c<a))) s) :
  wpAny (model prog w) A (richCompare .Gt (.int a t) (.int c u)) Q E s :=
 (PyProof.Rows.gt_int h:wpAny (model prog w) A (compareOp .Gt (.int a t) (.int c u)) Q E s)
theorem vZ (A:Around)(s:Shared)(a:Int)(t:Tok)(c:Int)(u:Tok)(prog:Program)(w:World)(E:Value→Shared→Prop)(Q:Value→Shared→Prop)(h:Q (.bool (decide (a≤c))) s) :
  wpAny (model prog w) A (richCompare .LtE (.int a t) (.int c u)) Q E s :=
 (PyProof.Rows.le_int h:wpAny (model prog w) A (compareOp .LtE (.int a t) (.int c u)) Q E s)
section
open PySem.SeqAt
open PySem.AutoSeq1 (wpAny_loadPart')
open PySem.MeetsSeq PySem.MeetsSeq2 PySem.MeetsSeq3
theorem nZ (l b:Addr)(items items2:Array Value)(n n2:Nat)(dd dd2:Option Addr)(sl sl2:Array (Option Value))(ns ms:List Int)(hi:IntsAre items.toList ns)(hj:IntsAre items2.toList ms) :
  Meets (Builtin.«tuple.__gt__» ⟨[.ref l,.ref b],[]⟩)
   (fun _ R s=>s.heap.get? l=some { cls:=.type "tuple",dict:=dd,data:=.seq items n,slots:=sl }∧s.heap.get? b=some { cls:=.type "tuple",dict:=dd2,data:=.seq items2 n2,slots:=sl2 } ∧
    R (.ok (.ret (.bool (gX ns ms)))) s) :=
 .of_wp fun prog w A R s h=>by
  obtain⟨hp,g,d,tk,os⟩:=s;obtain⟨hl,hb,h⟩:=h
  have f2:=AutoSeq1.sub_tuple_tuple
  have z1:items.size=ns.length:=by rw[←hi.length];simp
  have z2:items2.size=ms.length:=by rw[←hj.length];simp
  wp_walk using wpAny_loadPart' hl,wpAny_loadPart' hb,wpAny_forIn_list _ (fun gK b s'=>b.1=none∧s'=⟨hp,g,d,tk,os⟩∧∃(vs ws:List Value) (ns' ms':List Int),gK=vs.zip ws ∧
   IntsAre vs ns'∧IntsAre ws ms'∧ns'.length+items2.size=ms'.length+items.size∧R (.ok (.ret (.bool (gX ns' ms')))) ⟨hp,g,d,tk,os⟩) _
  case turn =>
   rintro⟨y,x⟩ gK b s' ⟨hb',rfl,vs,ws,ns',ms',hz,hvi,hwi,hlen,hR⟩
   cases hvi with
   |nil=>rw[List.zip_nil_left]at hz;cases hz
   |cons a t hvi' =>
    cases hwi with
    |nil=>rw[List.zip_nil_right]at hz;cases hz
    |cons c u hwi' =>
     rw[List.zip_cons_cons]at hz
     injection hz with hyx hrest
     injection hyx with hy hx
     subst hy hx
     rw[jH]at hR
     simp only[List.length_cons]at hlen
     obtain⟨e,he,hiff⟩:=HT.eqAt_int A.in1 ⟨hp,g,d,tk,os⟩ a t c u
     refine wpAny_bind (he prog w _ _ ?_)
     cases e with
     |true =>
      rw[if_pos (hiff.mp rfl)]at hR
      wp_walk
      exact⟨rfl,rfl,_,_,_,_,hrest,hvi',hwi',by omega,hR⟩
     |false =>
      rw[if_neg (fun q=>absurd (hiff.mpr q) Bool.false_ne_true)]at hR
      have hri:=xi A.in1 ⟨hp,g,d,tk,os⟩ a t c u prog w
      wp_walk using hri
      exact⟨_,rfl,by simpa using hR⟩
  case fin =>
   rintro⟨b1,b2⟩ s' ⟨hb',rfl,vs,ws,ns',ms',hz,hvi,hwi,hlen,hR⟩
   simp only at hb'
   subst hb'
   have hv:gX ns' ms'=decide (items2.size<items.size):=by
    cases hvi with
    |nil =>
     cases hwi with
     |nil =>
      simp only[List.length_nil]at hlen
      show HT.lexLt [] []=_
      rw[HT.lexLt_nil_nil]
      exact(dqf (by omega)).symm
     |cons c u hw =>
      simp only[List.length_nil,List.length_cons]at hlen
      show HT.lexLt (_ :: _) []=_
      rw[HT.lexLt_cons_nil]
      exact(dqf (by omega)).symm
    |cons a t hv =>
     cases hwi with
     |nil =>
      simp only[List.length_nil,List.length_cons]at hlen
      show HT.lexLt [] (_ :: _)=_
      rw[HT.lexLt_nil_cons]
      exact(dqt (by omega)).symm
     |cons c u hw =>
      rw[List.zip_cons_cons]at hz
      cases hz
   rw[hv]at hR
   wp_walk
   exact⟨_,rfl,by simpa [Builtin.Tuple.tupleCompareSizes] using hR⟩
  case h =>
   exact⟨rfl,rfl,items.toList,items2.toList,ns,ms,rfl,hi,hj,by omega,h⟩
theorem n9 (l b:Addr)(items items2:Array Value)(n n2:Nat)(dd dd2:Option Addr)(sl sl2:Array (Option Value))(ns ms:List Int)(hi:IntsAre items.toList ns)(hj:IntsAre items2.toList ms) :
  Meets (Builtin.«tuple.__le__» ⟨[.ref l,.ref b],[]⟩)
   (fun _ R s=>s.heap.get? l=some { cls:=.type "tuple",dict:=dd,data:=.seq items n,slots:=sl }∧s.heap.get? b=some { cls:=.type "tuple",dict:=dd2,data:=.seq items2 n2,slots:=sl2 } ∧
    R (.ok (.ret (.bool (gU ns ms)))) s) :=
 .of_wp fun prog w A R s h=>by
  obtain⟨hp,g,d,tk,os⟩:=s;obtain⟨hl,hb,h⟩:=h
  have f2:=AutoSeq1.sub_tuple_tuple
  have z1:items.size=ns.length:=by rw[←hi.length];simp
  have z2:items2.size=ms.length:=by rw[←hj.length];simp
  wp_walk using wpAny_loadPart' hl,wpAny_loadPart' hb,wpAny_forIn_list _ (fun gK b s'=>b.1=none∧s'=⟨hp,g,d,tk,os⟩∧∃(vs ws:List Value) (ns' ms':List Int),gK=vs.zip ws ∧
   IntsAre vs ns'∧IntsAre ws ms'∧ns'.length+items2.size=ms'.length+items.size∧R (.ok (.ret (.bool (gU ns' ms')))) ⟨hp,g,d,tk,os⟩) _
  case turn =>
   rintro⟨y,x⟩ gK b s' ⟨hb',rfl,vs,ws,ns',ms',hz,hvi,hwi,hlen,hR⟩
   cases hvi with
   |nil=>rw[List.zip_nil_left]at hz;cases hz
   |cons a t hvi' =>
    cases hwi with
    |nil=>rw[List.zip_nil_right]at hz;cases hz
    |cons c u hwi' =>
     rw[List.zip_cons_cons]at hz
     injection hz with hyx hrest
     injection hyx with hy hx
     subst hy hx
     rw[jC]at hR
     simp only[List.length_cons]at hlen
     obtain⟨e,he,hiff⟩:=HT.eqAt_int A.in1 ⟨hp,g,d,tk,os⟩ a t c u
     refine wpAny_bind (he prog w _ _ ?_)
     cases e with
     |true =>
      rw[if_pos (hiff.mp rfl)]at hR
      wp_walk
      exact⟨rfl,rfl,_,_,_,_,hrest,hvi',hwi',by omega,hR⟩
     |false =>
      rw[if_neg (fun q=>absurd (hiff.mpr q) Bool.false_ne_true)]at hR
      have hri:=vZ A.in1 ⟨hp,g,d,tk,os⟩ a t c u prog w
      wp_walk using hri
      exact⟨_,rfl,by simpa using hR⟩
  case fin =>
   rintro⟨b1,b2⟩ s' ⟨hb',rfl,vs,ws,ns',ms',hz,hvi,hwi,hlen,hR⟩
   simp only at hb'
   subst hb'
   have hv:gU ns' ms'=decide (items.size≤items2.size):=by
    cases hvi with
    |nil =>
     cases hwi with
     |nil =>
      simp only[List.length_nil]at hlen
      exact(dqt (by omega)).symm
     |cons c u hw =>
      simp only[List.length_nil,List.length_cons]at hlen
      exact(dqt (by omega)).symm
    |cons a t hv =>
     cases hwi with
     |nil =>
      simp only[List.length_nil,List.length_cons]at hlen
      exact(dqf (by omega)).symm
     |cons c u hw =>
      rw[List.zip_cons_cons]at hz
      cases hz
   rw[hv]at hR
   wp_walk
   exact⟨_,rfl,by simpa [Builtin.Tuple.tupleCompareSizes] using hR⟩
  case h =>
   exact⟨rfl,rfl,items.toList,items2.toList,ns,ms,rfl,hi,hj,by omega,h⟩
end
section
variable  {prog:Program}{w:World}{A:Around}{E:Value→Shared→Prop}{s:Shared}
theorem rX {l b:Addr}{items items2:Array Value}{ns ms:List Int}{Q:Value→Shared→Prop}(hl:IsTup s.heap l items)(hb:IsTup s.heap b items2)(hi:IntsAre items.toList ns)(hj:IntsAre items2.toList ms)
  (hu:A.units<cLine) (h:Q (.bool (gX ns ms)) s):wpAny (model prog w) A (compareOp .Gt (.ref l) (.ref b)) Q E s:=by
 obtain⟨⟨cls,dd,data,sl⟩,ho,hc,n,hd⟩:=id hl
 obtain⟨⟨cls2,dd2,data2,sl2⟩,ho2,hc2,n2,hd2⟩:=id hb
 simp only at hc hd hc2 hd2
 subst hc hd hc2 hd2
 exact richCompare_meets_room (op:=.Gt) ⟨_,ho,rfl⟩ ⟨_,ho2,rfl⟩ PySem.F.slot_tuple_gt PySem.F.entry_tuple_gt (PySem.F.args_tuple_gt_2 _ _) (nZ l b items items2 n n2 dd dd2 sl sl2 ns ms hi hj)
  ⟨ho,ho2,show Value.bool (gX ns ms)≠Value.notImplemented∧Q (.bool (gX ns ms)) s from⟨(fun x=>nomatch x),h⟩⟩ hu
theorem sN {l b:Addr}{items items2:Array Value}{ns ms:List Int}{Q:Value→Shared→Prop}(hl:IsTup s.heap l items)(hb:IsTup s.heap b items2)(hi:IntsAre items.toList ns)(hj:IntsAre items2.toList ms)
  (hu:A.units<cLine) (h:Q (.bool (gU ns ms)) s):wpAny (model prog w) A (compareOp .LtE (.ref l) (.ref b)) Q E s:=by
 obtain⟨⟨cls,dd,data,sl⟩,ho,hc,n,hd⟩:=id hl
 obtain⟨⟨cls2,dd2,data2,sl2⟩,ho2,hc2,n2,hd2⟩:=id hb
 simp only at hc hd hc2 hd2
 subst hc hd hc2 hd2
 exact richCompare_meets_room (op:=.LtE) ⟨_,ho,rfl⟩ ⟨_,ho2,rfl⟩ PySem.F.slot_tuple_le PySem.F.entry_tuple_le (PySem.F.args_tuple_le_2 _ _) (n9 l b items items2 n n2 dd dd2 sl sl2 ns ms hi hj)
  ⟨ho,ho2,show Value.bool (gU ns ms)≠Value.notImplemented∧Q (.bool (gU ns ms)) s from⟨(fun x=>nomatch x),h⟩⟩ hu
end
section
variable  {X:Cx}
def Ed (K:Frag):R2:=fun x y H Q=>∃a b ns ms,x=.ref a∧y=.ref b∧SqT K H a (ns.map V.int)∧SqT K H b (ms.map V.int)∧Q (.bl (gX ns ms)) H
theorem AV (hu:X.A.units<cLine):OpR X (compareOp .Gt) (Ed X.K):=by
 intro pins s σ H x y v u Q I rx ry h
 obtain⟨a,b,ns,ms,rfl,rfl,ha,hb,q⟩:=h
 cases rx
 cases ry
 obtain⟨its,r1,p1,_⟩:=I.tuple ha
 obtain⟨its2,r2,p2,_⟩:=I.tuple hb
 have i1:IntsAre its.toArray.toList ns:=iq r1
 have i2:IntsAre its2.toArray.toList ms:=iq r2
 exact rX p1 p2 i1 i2 hu ⟨.bl (gX ns ms),H,I,rfl,q⟩
def B6 (K:Frag):R2:=fun x y H Q=>∃a b ns ms,x=.ref a∧y=.ref b∧SqT K H a (ns.map V.int)∧SqT K H b (ms.map V.int)∧Q (.bl (gU ns ms)) H
theorem Ac (hu:X.A.units<cLine):OpR X (compareOp .LtE) (B6 X.K):=by
 intro pins s σ H x y v u Q I rx ry h
 obtain⟨a,b,ns,ms,rfl,rfl,ha,hb,q⟩:=h
 cases rx
 cases ry
 obtain⟨its,r1,p1,_⟩:=I.tuple ha
 obtain⟨its2,r2,p2,_⟩:=I.tuple hb
 have i1:IntsAre its.toArray.toList ns:=iq r1
 have i2:IntsAre its2.toArray.toList ms:=iq r2
 exact sN p1 p2 i1 i2 hu ⟨.bl (gU ns ms),H,I,rfl,q⟩
def tI:V→List V→Hp→VK→Prop:=fun x vs H Q=>∃(l:Addr) (xs:List V) (k:Int) (y:V),x=.ref l∧vs=[.int k,y]∧H l=some (.lst xs)∧0≤k∧k≤(xs.length:Int)∧xs.length<sizeLine∧Q .non (upd H l (.lst (xs.take k.toNat++y :: xs.drop k.toNat)))
theorem vn:MtM X "list.insert" tI:=by
 intro pins s σ H x vs v us Q I rx rv h
 obtain⟨l,xs,k,y,rfl,rfl,hH,k0,hk,hz,q⟩:=h
 cases rx
 obtain⟨u1,u2,rfl,ru1,ru2⟩:=rv.two
 obtain⟨t,rfl⟩:=ru1
 obtain⟨z,its,n,r,hl,e⟩:=I.lstM hH
 have hsl:=sizeLine_eq
 have hfit:¬(!Builtin.List.listFitsIndex k)=true:=by
  rw[hsl]at hz
  have k1:-(2 ^ 63)≤k:=by omega
  have k2:k<2 ^ 63:=by omega
  have:Builtin.List.listFitsIndex k=true:=fitsIndex_both k1 k2
  rw[this]
  decide
 have hs1:its.toArray.size≤sizeLine:=by rw[List.size_toArray];omega
 have M:=AutoSeq1.list_insert_list_int_val_1 l its.toArray n k t u2 hfit hs1
 refine call_meets F.slot_list_insert ⟨_,e,rfl⟩ F.entry_list_insert (F.args_list_insert_3 _ _ _) M ⟨e,?_⟩
 refine⟨.non,_,I.lset (its':=its.take k.toNat++u2 :: its.drop k.toNat) hH e ?_ ((r.take k.toNat).append (.cons ru2 (r.drop k.toNat))) ?_,rfl,q⟩
 ·have hk2:k.toNat≤its.length:=by omega
  dsimp only
  rw[if_neg (by omega),List.size_toArray,Nat.min_eq_left hk2]
  apply Array.ext'
  simp
  rw[List.take_of_length_le (by rw[List.length_drop];exact nlr _)]
 ·rw[List.length_append,List.length_take,List.length_cons,List.length_drop]
  omega
def tQ (K:Frag):V→List V→Hp→VK→Prop:=fun x vs H Q=>∃(a:Addr) (bs:List Bool) (b:Bool),x=.ref a∧vs=[.bl b]∧SqL K H a (bs.map V.bl)∧Q (.int (bs.count b:Nat)) H
theorem jy (b:Bool):∀bs:List Bool,countIn (.bool b) (bs.map PyData.bool)=((bs.count b:Nat):Int)
 |[]=>rfl
 |c :: bs=>by
  rw[List.map_cons,countIn,jy b bs,List.count_cons]
  cases b<;>cases c<;>simp[same]<;>omega
theorem lA {hp:Heap}:∀bs:List Bool,∃as,ReadsAll hp (bs.map Value.bool) (bs.map PyData.bool) as
 |[]=>⟨_,ReadsAll.nil⟩
 |b :: bs=>by
  obtain⟨as,h⟩:=lA (hp:=hp) bs
  exact⟨_,ReadsAll.cons (Reads.bool b) h⟩
theorem uK:MtR X "list.count" (tQ X.K):=by
 intro pins s σ H x vs v us Q I rx rv h
 obtain⟨a,bs,b,rfl,rfl,hs,q⟩:=h
 cases rx
 obtain⟨u,rfl,ru⟩:=rv.one
 cases ru
 obtain⟨its,r,pl,_⟩:=I.list hs
 have e:its=bs.map Value.bool:=r.bls
 subst e
 obtain⟨as,ra⟩:=lA (hp:=s.heap) bs
 refine count_list_bools pl.isList ra (by simp[Shape.has]) ⟨.int _,H,I.tok _,⟨s.toks,?_⟩,q⟩
 rw[jy]
def yx (K:Frag):R2:=fun x y H Q=>∃(b p:Addr) (r:List Int) (as:List Addr) (rows:List (List Int)),x=.ref b∧y=.ref p∧SqT K H b (iV r)∧SqL K H p (as.map V.ref)∧as.length=rows.length∧(∀(i:Nat) (a:Addr) (q:List Int),as[i]? = some a→rows[i]? = some q→SqT K H a (iV q)) ∧
 Q (.bl (!decide (r∈rows))) H
theorem fR {K:Frag}{H:Hp}:∀r:List Int,lL K H (iV r) (r.map PyData.int)
 |[]=>.nil
 |i :: r=>.cons (.int i) (fR r)
theorem je:∀(r q:List Int),PyData.eqvAll (r.map PyData.int) (q.map PyData.int)=decide (r=q)
 |[],[]=>by simp[PyData.eqvAll]
 |[],_ :: _=>by simp[PyData.eqvAll]
 |_ :: _,[]=>by simp[PyData.eqvAll]
 |a :: r,b :: q=>by
  rw[List.map_cons,List.map_cons,PyData.eqvAll,je r q,PyData.eqv]
  rw[Bool.eq_iff_iff]
  simp
theorem gf:∀r:List Int,PyData.canLayAll0 (r.map PyData.int)=true
 |[]=>rfl
 |a :: r=>by
  show(PyData.canLay0 (.int a)&&PyData.canLayAll0 (r.map PyData.int))=true
  rw[gf r]
  rfl
theorem jD:∀r:List Int,PyData.depthAll (r.map PyData.int)≤1
 |[]=>Nat.zero_le _
 |a :: r=>by
  show max (PyData.depth (.int a)) (PyData.depthAll (r.map PyData.int))≤1
  refine Nat.max_le.2 ⟨?_,jD r⟩
  first|exact Nat.zero_le _|exact nlr _|simp[PyData.depth]
theorem qQ (r:List Int):∀rows:List (List Int),((rows.map fun q=>PyData.tuple (q.map PyData.int)).any fun y=>PyData.eqv y (.tuple (r.map PyData.int)))=decide (r∈rows)
 |[]=>by simp
 |q :: rows=>by
  rw[List.map_cons,List.any_cons,qQ r rows]
  show(PyData.eqvAll (q.map PyData.int) (r.map PyData.int)||_)=_
  rw[je,Bool.eq_iff_iff]
  simp only[Bool.or_eq_true,decide_eq_true_eq,List.mem_cons]
  constructor
  ·rintro(h|h)
   ·exact Or.inl h.symm
   ·exact Or.inr h
  ·rintro(h|h)
   ·exact Or.inl h.symm
   ·exact Or.inr h
theorem rN:∀rows:List (List Int),PyData.canLayAll0 (rows.map fun q=>PyData.tuple (q.map PyData.int))=true
 |[]=>rfl
 |q :: rows=>by
  show(PyData.canLayAll0 (q.map PyData.int)&&PyData.canLayAll0 (rows.map fun q=>PyData.tuple (q.map PyData.int)))=true
  rw[rN rows,gf q]
  rfl
theorem ui {K:Frag}{H:Hp}:∀(as:List Addr) (rows:List (List Int)),as.length=rows.length→(∀(i:Nat) (a:Addr) (q:List Int),as[i]? = some a→rows[i]? = some q→SqT K H a (iV q))→lL K H (as.map V.ref) (rows.map fun q=>PyData.tuple (q.map PyData.int))
 |[],[],_,_=>.nil
 |[],_ :: _,h,_=>by simp at h
 |_ :: _,[],h,_=>by simp at h
 |a :: as,q :: rows,h,hat=>.cons (.tup (hat 0 a q rfl rfl) (fR q)) (ui as rows (by simpa using h) fun i b r e1 e2=>hat (i+1) b r (by simpa using e1) (by simpa using e2))
theorem vJ (hu:X.A.units+64<cLine):OpR X (compareOp .NotIn) (yx X.K):=by
 intro pins s σ H x y v u Q I rx ry h
 obtain⟨b,p,r,as,rows,rfl,rfl,hb,hp,hlen,hat,q⟩:=h
 obtain⟨bs,rb⟩:=Dp.reads I (.tuple (r.map PyData.int)) (.ref b) v (.tup hb (fR r)) rx
 obtain⟨cs,rc⟩:=Dp.reads I (.list (rows.map fun q=>PyData.tuple (q.map PyData.int))) (.ref p) u (.lst hp (ui as rows hlen hat)) ry
 refine SeqAt.notIn_list_reads rc rb (rN rows) (gf r) ?_ ⟨.bl _,H,I,rfl,?_⟩
 ·have h1:(PyData.tuple (r.map PyData.int)).depth≤2:=by
   show PyData.depthAll (r.map PyData.int)+1≤2
   have:=jD r
   omega
  have h2:=Nat.min_le_right (PyData.depthAll (rows.map fun q=>PyData.tuple (q.map PyData.int))) (PyData.tuple (r.map PyData.int)).depth
  omega
 ·rw[qQ]
  exact q
end
open PySem PySem.Spec PyProof.Rows L2 Wg
theorem kj {M:Model}{A:Around}{E:Value→Shared→Prop}{s:Shared}{a:Addr}{Q:Option Obj→Shared→Prop}(h:Q (s.heap.get? a) s):wpAny M A (loadIfAlive a) Q E s:=by
 intro Γ p hΓ
 show Sem.wp _ Γ (loadIfAlive a) _ _ p s
 unfold loadIfAlive
 rw[Sem.wp_loadIfAlive]
 first
  |exact h
  |(rw[Sem.wp_pure];exact h)
  |simpa using h
abbrev fF (h:Heap)(e it:Addr)(i:Int)(T:Addr)(b:Bool)(old:Value):Prop :=
 h.get? e=some { cls:=.type "enumerate",dict:=none,data:=.fields #[rawInt ((T:Nat):Int),.bool b,.ref it,rawInt i,.none,old],slots:=#[] }
section
variable  {prog:Program}{w:World}{A:Around}{E:Value→Shared→Prop}{s:Shared}
theorem jx {e it l T:Addr}{b:Bool}{i:Nat}{items:Array Value}{x old:Value}{oT:Obj}{Q:Value→Shared→Prop}
  (he:fF s.heap e it i T b old) (hT:s.heap.get? T=some oT) (hTe:T≠e) (hTi:T≠it) (hit:s.heap.IsListIter it l i) (hl:s.heap.IsList l items) (hx:items[i]? = some x) (hne:e≠it)
  (hQ:∀h',fF h' e it ((i:Int)+1) T true old→h'.IsListIter it l (i+1) →
   h'.get? s.heap.objs.size=some { cls:=.type "tuple",data:=.seq #[.int i s.toks,x] }→h'.objs.size=s.heap.objs.size+1 →
   (∀b o,b≠e→b≠it→s.heap.get? b=some o→h'.get? b=some o)→Q (.ref s.heap.objs.size) { s with heap:=h',toks:=s.toks+1 }) :
  wpAny (model prog w) A (Builtin.«enumerate.__next__» ⟨[.ref e],[]⟩) (fun fin s'=>∃v,fin=.done (.ret v)∧Q v s') E s:=by
 obtain⟨hp,g,d,tk,os⟩:=s
 show wpAny _ _ (field (.ref e) 2 >>= _) _ _ _
 refine wpAny_bind (wpAny_field he rfl (x:=.ref it) rfl ?_)
 refine wpAny_bind (wpAny_nextOf_list_item hit hl hx fun h₁ hit₁ hs₁=>?_)
 replace hs₁:Heap.SameBut it hp h₁:=hs₁
 have he₁:fF h₁ e it i T b old:=(hs₁.2 e hne).trans he
 show wpAny _ _ (field (.ref e) 3 >>= _) _ _ ⟨h₁,g,d,tk,os⟩
 refine wpAny_bind (wpAny_field he₁ rfl (x:=rawInt i) rfl ?_)
 show wpAny _ _ (field (.ref e) 4 >>= _) _ _ ⟨h₁,g,d,tk,os⟩
 refine wpAny_bind (wpAny_field he₁ rfl (x:=.none) rfl ?_)
 show wpAny _ _ (mkInt i >>= _) _ _ ⟨h₁,g,d,tk,os⟩
 refine wpAny_bind (wpAny_mkInt ?_)
 show wpAny _ _ (setField (.ref e) 3 (rawInt ((i:Int)+1)) >>= _) _ _ ⟨h₁,g,d,tk+1,os⟩
 refine wpAny_bind (wpAny_setField_rec he₁ (by simp) fun h₂ he₂ hs₂=>?_)
 replace hs₂:Heap.SameBut e h₁ h₂:=hs₂
 replace he₂:fF h₂ e it ((i:Int)+1) T b old:=he₂
 show wpAny _ _ (setField (.ref e) 4 .none >>= _) _ _ ⟨h₂,g,d,tk+1,os⟩
 refine wpAny_bind (wpAny_setField_rec he₂ (by simp) fun h₃ he₃ hs₃=>?_)
 replace hs₃:Heap.SameBut e h₂ h₃:=hs₃
 replace he₃:fF h₃ e it ((i:Int)+1) T b old:=he₃
 show wpAny _ _ (newTuple [.int i tk,x] >>= _) _ _ ⟨h₃,g,d,tk+1,os⟩
 refine wpAny_bind (wpAny_newTuple ?_)
 have he₄:fF (h₃.push { cls:=.type "tuple",data:=.seq #[.int i tk,x] }) e it ((i:Int)+1) T b old:=Heap.get?_push_of_some _ he₃
 generalize hh₄:h₃.push { cls:=.type "tuple",data:=.seq #[.int i tk,x] }=h₄ at he₄
 have hsz:h₃.objs.size=hp.objs.size:=by rw[hs₃.1,hs₂.1,hs₁.1]
 have hel:e<hp.objs.size:=Heap.lt_size he
 have ht₄:h₄.get? hp.objs.size=some { cls:=.type "tuple",data:=.seq #[.int i tk,x] }:=by rw[←hh₄,←hsz];exact Heap.get?_push_size _ rfl
 have hz₄:h₄.objs.size=hp.objs.size+1:=by rw[←hh₄,Heap.size_push,hsz]
 have hk₄:∀b o,b≠e→b≠it→hp.get? b=some o→h₄.get? b=some o:=fun b o hbe hbi hb=>by
  rw[←hh₄];exact Heap.get?_push_of_some _ (hs₃.extBut b o hbe (hs₂.extBut b o hbe (hs₁.extBut b o hbi hb)))
 have hT₄:h₄.get? T=some oT:=hk₄ T oT hTe hTi hT
 have hit₄:h₄.IsListIter it l (i+1):=by
  rw[←hh₄];obtain⟨o,ho,r⟩:=(hit₁.extBut hs₂.extBut (Ne.symm hne)).extBut hs₃.extBut (Ne.symm hne);exact⟨o,Heap.get?_push_of_some _ ho,r⟩
 show wpAny _ _ (Builtin.SmallTypes.ownedTupleIsFree (.ref e) >>= _) _ _ ⟨h₄,g,d,tk+1,os⟩
 rw[hsz]
 clear hh₄ he₃ hs₃ he₂ hs₂ he₁ hs₁ hit₁ hsz h₃ h₂ h₁
 refine wpAny_bind ?_
 unfold Builtin.SmallTypes.ownedTupleIsFree
 refine wpAny_bind (wpAny_field he₄ rfl (x:=rawInt ((T:Nat):Int)) rfl ?_)
 show wpAny _ _ (loadIfAlive ((T:Nat):Int).toNat >>= _) _ _ ⟨h₄,g,d,tk+1,os⟩
 rw[Int.toNat_natCast]
 refine wpAny_bind (kj ?_)
 show wpAny _ _ (if (Option.isNone (h₄.get? T))=true then _ else _) _ _ ⟨h₄,g,d,tk+1,os⟩
 rw[hT₄,if_neg (show ¬(Option.isNone (some oT))=true from Bool.false_ne_true)]
 have fin:∀h₅,fF h₅ e it ((i:Int)+1) T true old→(∀b o,b≠e→h₄.get? b=some o→h₅.get? b=some o)→h₅.objs.size=h₄.objs.size →
   ∃v,Fin.done (Flow.ret (Value.ref hp.objs.size))=Fin.done (Flow.ret v)∧Q v ⟨h₅,g,d,tk+1,os⟩:=fun h₅ he₅ k5 z5=>by
  refine⟨_,rfl,hQ h₅ he₅ ?_ (k5 _ _ (Nat.ne_of_gt hel) ht₄) (by rw[z5,hz₄]) fun b o hbe hbi hb=>k5 b o hbe (hk₄ b o hbe hbi hb)⟩
  obtain⟨o,ho,r⟩:=hit₄
  exact⟨o,k5 it o (Ne.symm hne) ho,r⟩
 refine wpAny_bind (wpAny_field he₄ rfl (x:=.bool b) rfl ?_)
 cases b with
 |true =>
  show wpAny _ _ (pure false) _ _ ⟨h₄,g,d,tk+1,os⟩
  refine wpAny_pure ?_
  show wpAny _ _ (pure (Fin.done (Flow.ret (Value.ref hp.objs.size)))) _ _ ⟨h₄,g,d,tk+1,os⟩
  exact wpAny_pure (fin h₄ he₄ (fun _ _ _ q=>q) rfl)
 |false =>
  show wpAny _ _ (setField (.ref e) 1 (.bool true) >>= fun _=>pure false) _ _ ⟨h₄,g,d,tk+1,os⟩
  refine wpAny_bind (wpAny_setField_rec he₄ (by simp) fun h₅ he₅ hs₅=>?_)
  replace hs₅:Heap.SameBut e h₄ h₅:=hs₅
  replace he₅:fF h₅ e it ((i:Int)+1) T true old:=he₅
  refine wpAny_pure ?_
  show wpAny _ _ (pure (Fin.done (Flow.ret (Value.ref hp.objs.size)))) _ _ ⟨h₅,g,d,tk+1,os⟩
  exact wpAny_pure (fin h₅ he₅ (fun b o hb q=>hs₅.extBut b o hb q) hs₅.1)
end
open PySem PySem.Spec PyProof.Rows L2 Wg
theorem qT:typeLookup (.type "enumerate") "__len__"=pure none:=by rw[typeLookup_type,builtinLookup_eq_fast];kernel_rfl
theorem pZ:typeLookup (.type "enumerate") "__length_hint__"=pure none:=by rw[typeLookup_type,builtinLookup_eq_fast];kernel_rfl
theorem mI:bootBuiltins "list"=some (.type "list"):=by decide +kernel
def yN (h:Heap)(e it S:Addr)(i:Nat):Prop:=(i=0∧∃old,IsEnum h e it 0 old)∨∃T b old,fF h e it i T b old∧(∃o,h.get? T=some o)∧T≠e∧T≠it∧T≠S
def Prs (h:Heap)(items:Array Value)(B e it S:Addr)(ts:List Addr):Prop:=∀(j:Nat) (t:Addr),ts[j]? = some t→B≤t∧t≠e∧t≠it∧t≠S∧∃tok x,items[j]? = some x∧h.get? t=some { cls:=.type "tuple",data:=.seq #[.int j tok,x] }
section
variable  {prog:Program}{w:World}{A:Around}{E:Value→Shared→Prop}{s:Shared}
theorem vO {e it l S:Addr}{i:Nat}{items:Array Value}{x:Value}{Q:Option Value→Shared→Prop}
  (he:yN s.heap e it S i) (hit:s.heap.IsListIter it l i) (hl:s.heap.IsList l items) (hx:items[i]? = some x) (hne:e≠it) (hS:S<s.heap.objs.size)
  (hQ:∀h',yN h' e it S (i+1)→h'.IsListIter it l (i+1) →
   h'.get? s.heap.objs.size=some { cls:=.type "tuple",data:=.seq #[.int i s.toks,x] }→h'.objs.size=s.heap.objs.size+1 →
   (∀b o,b≠e→b≠it→s.heap.get? b=some o→h'.get? b=some o)→Q (some (.ref s.heap.objs.size)) { s with heap:=h',toks:=s.toks+1 }) :
  wpAny (model prog w) A (pyNext (.ref e)) Q E s:=by
 rcases he with⟨rfl,old,he⟩|⟨T,b,old,he,⟨o,hT⟩,hTe,hTi,hTS⟩
 ·have hel:e<s.heap.objs.size:=Heap.lt_size he
  have hil:it<s.heap.objs.size:=by obtain⟨_,q,_⟩:=hit;exact Heap.lt_size q
  refine wpAny_pyNext_enum_item he hit hl hx hne fun h' ho hit' hT hsz hk=>hQ h' (Or.inr ⟨s.heap.objs.size,false,x,?_,⟨_,hT⟩,Nat.ne_of_gt hel,Nat.ne_of_gt hil,Nat.ne_of_gt hS⟩) hit' hT hsz hk
  exact ho
 ·have hT':s.TypeIs (.ref e) "enumerate":=⟨_,he,rfl⟩
  unfold pyNext
  refine wpAny_bind (wpAny_attempt (wpAny_callSpecial?_slot (name:=Str.ofString "__next__") hT' F.slot_enumerate_next
   (wpAny_call_entry F.slot_enumerate_next hT' F.entry_enumerate_next
    (jx he hT hTe hTi hit hl hx hne fun h' a b c d k=>wpAny_pure (hQ h' (Or.inr ⟨T,true,old,?_,⟨o,k T o hTe hTi hT⟩,hTe,hTi,hTS⟩) b c d k)) (F.args_enumerate_next_1 _))))
  have e1:((i+1:Nat):Int)=(i:Int)+1:=by omega
  rw[e1];exact a
theorem pU {e it l S:Addr}{i:Nat}{items:Array Value}{Q:Option Value→Shared→Prop}(hh:A.handled=none)
  (he:yN s.heap e it S i) (hit:s.heap.IsListIter it l i) (hl:s.heap.IsList l items) (hx:items[i]? = none)
  (hQ:∀h',Heap.ExtBut it s.heap h'→Q none { s with heap:=h' }):wpAny (model prog w) A (pyNext (.ref e)) Q E s:=by
 have go:∀(f0 f1 fi fx:Value),s.heap.get? e=some { cls:=.type "enumerate",dict:=none,data:=.fields #[f0,f1,.ref it,fi,.none,fx],slots:=#[] }→wpAny (model prog w) A (pyNext (.ref e)) Q E s:=fun f0 f1 fi fx he=>by
  have hT:s.TypeIs (.ref e) "enumerate":=⟨_,he,rfl⟩
  unfold pyNext
  refine wpAny_bind (wpAny_attempt (wpAny_callSpecial?_slot (name:=Str.ofString "__next__") hT F.slot_enumerate_next
   (wpAny_call_entry F.slot_enumerate_next hT F.entry_enumerate_next ?_ (F.args_enumerate_next_1 _))))
  show wpAny _ _ (field (.ref e) 2 >>= _) _ _ _
  refine wpAny_bind (wpAny_field he rfl (x:=.ref it) rfl ?_)
  refine wpAny_bind (wpAny_nextOf_list_end hh hit hl hx fun h' x he' hx'=>?_)
  obtain⟨o,ho,hc⟩:=hx'
  refine wpAny_bind (wpAny_isInstance (T:="StopIteration") (b:=true) ⟨o,ho,hc⟩ isSubtype_stop ?_)
  exact wpAny_pure (hQ _ he')
 rcases he with⟨_,old,he⟩|⟨T,b,old,he,_⟩
 ·exact go _ _ _ _ he
 ·exact go _ _ _ _ he
theorem uX {e it l S B:Addr}{items:Array Value}{R:Result→Shared→Prop}(hh:A.handled=none)(hei:e≠it)(hle:l≠e)(hli:l≠it)(hlS:l≠S)(heS:e≠S)(hiS:it≠S)(hn:items.size≤sizeLine)(res:Value) :
  ∀(k i:Nat) (s:Shared) (ts:List Addr) (c:Nat),items.size-i=k→i≤items.size→B≤s.heap.objs.size→yN s.heap e it S i→s.heap.IsListIter it l i→s.heap.IsList l items →
   s.heap.get? S=some { cls:=.type "list",dict:=none,data:=.seq (ts.map Value.ref).toArray c,slots:=#[] }→ts.length=i→Prs s.heap items B e it S ts →
   (∀h' tk ts' c',(∀b o,b≠e→b≠it→b≠S→s.heap.get? b=some o→h'.get? b=some o)→h'.get? S=some { cls:=.type "list",dict:=none,data:=.seq (ts'.map Value.ref).toArray c',slots:=#[] } →
    ts'.length=items.size→Prs h' items B e it S ts'→R (.ok (.ret res)) { s with heap:=h',toks:=tk }) →
  codeAny (model prog w) A (.builtin "list.extend.loop" ⟨[.ref S,.ref e,res],[]⟩) R s:=by
 intro k
 induction k with
 |zero =>
  intro i s ts c hk hi hB hst hit hl hS hlen hprs hR
  have hin:i=items.size:=by omega
  subst hin
  refine codeAny_builtin F.entry_extend_loop ?_
  rw[Around.under_plainId F.plain_extend_loop _]
  show wpAny _ A.in1 (pyNext (.ref e) >>= _) _ _ s
  refine wpAny_bind (pU (A:=A.in1) hh hst hit hl (Array.getElem?_eq_none (nlr _)) fun h' hx=>?_)
  refine wpAny_pure (hR h' s.toks ts c (fun b o hbe hbi hbS q=>hx b o hbi q) (hx S _ (Ne.symm hiS) hS) hlen fun j t ht=>?_)
  obtain⟨p1,p2,p3,p4,tok,x,p5,p6⟩:=hprs j t ht
  exact⟨p1,p2,p3,p4,tok,x,p5,hx t _ p3 p6⟩
 |succ k ih =>
  intro i s ts c hk hi hB hst hit hl hS hlen hprs hR
  have hlt:i<items.size:=by omega
  refine codeAny_builtin F.entry_extend_loop ?_
  rw[Around.under_plainId F.plain_extend_loop _]
  show wpAny _ A.in1 (pyNext (.ref e) >>= _) _ _ s
  have hSl:S<s.heap.objs.size:=Heap.lt_size hS
  have hx:items[i]? = some items[i]:=Array.getElem?_eq_getElem hlt
  refine wpAny_bind (vO hst hit hl hx hei hSl fun h' hst' hit' hT hsz hkp=>?_)
  have hS':=hkp S _ (Ne.symm heS) (Ne.symm hiS) hS
  have hel:e<s.heap.objs.size:=by
   rcases hst with⟨_,_,q⟩|⟨_,_,_,q,_⟩
   ·exact Heap.lt_size q
   ·exact Heap.lt_size q
  have hil:it<s.heap.objs.size:=by obtain⟨_,q,_⟩:=hit;exact Heap.lt_size q
  show wpAny _ A.in1 (updateSeq S (·.push (.ref s.heap.objs.size)) >>= _) _ _ _
  refine wpAny_bind ?_
  have upS:∀b o,b≠S→h'.get? b=some o→(h'.update S (Obj.mapSeq (·.push (Value.ref s.heap.objs.size)))).get? b=some o:=fun b o hb q=>(Heap.get?_update_other _ _ (Ne.symm hb)).trans q
  refine wpAny_updateSeq hS' rfl (wpAny_pure ⟨plainId_quiet F.plain_extend_loop _,ih (i+1) _ (ts++[s.heap.objs.size]) (c+1) (by omega) hlt ?_ ?_ ?_ ?_ ?_ (by rw[List.length_append,hlen];rfl) ?_ ?_⟩) ?_ ?_
  ·show B≤(h'.update S _).objs.size
   rw[Heap.size_update,hsz];exact Nat.le_trans hB (Nat.le_succ _)
  ·rcases hst' with⟨q,_⟩|⟨T,b,old,h1,⟨o,h2⟩,h3,h4,h5⟩
   ·omega
   ·exact Or.inr ⟨T,b,old,upS e _ heS h1,⟨o,upS T o h5 h2⟩,h3,h4,h5⟩
  ·obtain⟨o,ho,r⟩:=hit'
   exact⟨o,upS it o hiS ho,r⟩
  ·obtain⟨o,ho,r⟩:=hl
   exact⟨o,upS l o hlS (hkp l o hle hli ho),r⟩
  ·have q:=Heap.get?_update_self (Obj.mapSeq (·.push (Value.ref s.heap.objs.size))) hS' rfl
   show(h'.update S _).get? S=_
   rw[q]
   simp[Obj.mapSeq]
  ·intro j t ht
   by_cases hj:j<ts.length
   ·rw[List.getElem?_append_left hj]at ht
    obtain⟨p1,p2,p3,p4,tok,x,p5,p6⟩:=hprs j t ht
    exact⟨p1,p2,p3,p4,tok,x,p5,upS t _ p4 (hkp t _ p2 p3 p6)⟩
   ·have hjl:j=ts.length:=by
     have:=(gsi ht).1
     rw[List.length_append]at this
     simp at this
     omega
    subst hjl
    rw[List.getElem?_append_right (nlr _),Nat.sub_self]at ht
    have ht:s.heap.objs.size=t:=osi ht
    subst ht
    refine⟨hB,Nat.ne_of_gt hel,Nat.ne_of_gt hil,Nat.ne_of_gt hSl,s.toks,items[i],by rw[hlen];exact hx,?_⟩
    rw[hlen]
    exact upS _ _ (Nat.ne_of_gt hSl) hT
  ·intro h'' tk ts' c' hk2 hS2 hl2 hp2
   refine hR h'' tk ts' c' (fun b o hbe hbi hbS q=>hk2 b o hbe hbi hbS (upS b o hbS (hkp b o hbe hbi q))) hS2 hl2 hp2
  ·have:(ts.map Value.ref).toArray.size=i:=by simp[hlen]
   rw[this];omega
  ·show((ts.map Value.ref).toArray.push (Value.ref s.heap.objs.size)).size≤sizeLine+1
   rw[Array.size_push]
   have:(ts.map Value.ref).toArray.size=i:=by simp[hlen]
   rw[this];omega
theorem qP {e it l S:Addr}{items:Array Value}{R:Result→Shared→Prop}(hh:A.handled=none)(hei:e≠it)(hle:l≠e)(hli:l≠it)(hlS:l≠S)(heS:e≠S)(hiS:it≠S)(hn:items.size≤sizeLine)(res:Value)(c₀:Nat)
  {old:Value} (he:IsEnum s.heap e it 0 old) (hit:s.heap.IsListIter it l 0) (hl:s.heap.IsList l items) (hS:s.heap.get? S=some { cls:=.type "list",data:=.seq #[] c₀ })
  (hR:∀h' tk ts' c',(∀b o,b≠e→b≠it→b≠S→s.heap.get? b=some o→h'.get? b=some o)→h'.get? S=some { cls:=.type "list",dict:=none,data:=.seq (ts'.map Value.ref).toArray c',slots:=#[] } →
    ts'.length=items.size→Prs h' items s.heap.objs.size e it S ts'→R (.ok (.ret res)) { s with heap:=h',toks:=tk }) :
  wpAny (model prog w) A.in1 (Builtin.List.listExtendWith (.ref S) (.ref e) res)
   (fun fin s'=>match fin with|.done f=>R (.ok f) s'|.again c'=>c'.quiet=true∧codeAny (model prog w) A c' R s') (fun e s'=>R (.error e) s') s:=by
 have hT:s.TypeIs (.ref e) "enumerate":=⟨_,he,rfl⟩
 unfold Builtin.List.listExtendWith
 refine wpAny_bind (wpAny_typeOf hT ?_)
 have h1:Builtin.List.listSameRef (.ref S) (.ref e)=false:=by simp[Builtin.List.listSameRef,Ne.symm heS]
 have h2:(Value.type "enumerate"==Value.type "list")=false:=by decide
 have h3:(Value.type "enumerate"==Value.type "tuple")=false:=by decide
 simp only[h1,h2,h3,Bool.or_false,Bool.false_eq_true,if_false]
 refine wpAny_bind (wpAny_pyIter_enum he ?_)
 refine wpAny_bind (wpAny_holding ?_)
 unfold Builtin.List.listLengthHint
 refine wpAny_bind (wpAny_specialOf hT qT ?_)
 show wpAny _ A.in1 (specialOf (Value.ref e) (Str.ofString "__length_hint__") >>= _) _ _ _
 refine wpAny_bind (wpAny_specialOf hT pZ ?_)
 refine wpAny_pure ?_
 show wpAny _ A.in1 (rule "list.extend.makes-room" >>= fun _=>Builtin.List.listTouch (.ref S) >>= fun _ =>
  again (.builtin "list.extend.loop" ⟨[.ref S,.ref e,res],[]⟩)) _ _ _
 refine wpAny_bind (wpAny_rule ?_)
 refine wpAny_bind ?_
 show wpAny _ A.in1 (updateSeq S (·.push .none) >>= fun _=>updateSeq S (·.pop)) _ _ _
 refine wpAny_bind (wpAny_updateSeq hS rfl ?_)
 have hS₂:=Heap.get?_update_self (Obj.mapSeq (·.push Value.none)) hS rfl
 refine wpAny_updateSeq (hz:=by seq_fits) hS₂ rfl ?_
 have hS₃:=Heap.get?_update_self (Obj.mapSeq (·.pop)) hS₂ rfl
 have oth:∀b o,b≠S→s.heap.get? b=some o→((s.heap.update S (Obj.mapSeq (·.push Value.none))).update S (Obj.mapSeq (·.pop))).get? b=some o :=
  fun b o hb e=>(Heap.get?_update_other _ _ (Ne.symm hb)).trans ((Heap.get?_update_other _ _ (Ne.symm hb)).trans e)
 refine wpAny_pure ⟨plainId_quiet F.plain_extend_loop _,uX (B:=s.heap.objs.size) hh hei hle hli hlS heS hiS hn res items.size 0 _ [] (c₀+1+1) (by omega) (Nat.zero_le _) ?_ (Or.inl ⟨rfl,old,oth e _ heS he⟩) ?_ ?_ ?_ rfl ?_ ?_⟩
 ·show s.heap.objs.size≤((s.heap.update S _).update S _).objs.size
  rw[Heap.size_update,Heap.size_update]
  exact nlr _
 ·obtain⟨o,ho,r⟩:=hit
  exact⟨o,oth it o hiS ho,r⟩
 ·obtain⟨o,ho,r⟩:=hl
  exact⟨o,oth l o hlS ho,r⟩
 ·rw[hS₃]
  simp[Obj.mapSeq]
 ·intro j t ht
  simp at ht
 ·intro h' tk ts' c' hk hS' hlen hprs
  exact hR h' tk ts' c' (fun b o hbe hbi hbS q=>hk b o hbe hbi hbS (oth b o hbS q)) hS' hlen hprs
theorem mf {e it l:Addr}{items:Array Value}{old:Value}{Q:Value→Shared→Prop}(hh:A.handled=none)(hei:e≠it)(hle:l≠e)(hli:l≠it)(hn:items.size≤sizeLine)
  (he:IsEnum s.heap e it 0 old) (hit:s.heap.IsListIter it l 0) (hl:s.heap.IsList l items)
  (hQ:∀h' tk ts c',(∀b o,b≠e→b≠it→s.heap.get? b=some o→h'.get? b=some o)→h'.get? s.heap.objs.size=some { cls:=.type "list",dict:=none,data:=.seq (ts.map Value.ref).toArray c',slots:=#[] } →
   ts.length=items.size→Prs h' items s.heap.objs.size e it s.heap.objs.size ts→Q (.ref s.heap.objs.size) { s with heap:=h',toks:=tk }) :
  wpAny (model prog w) A (call (.type "list") [.ref e]) Q E s:=by
 refine callType_codes (Q₁:=fun obj s₁=>obj=.ref s.heap.objs.size∧s₁={ s with heap:=s.heap.push { cls:=.type "list",data:=.seq #[] } }) F.called_list (F.typeCall_list_1 _) F.entry_list_init
  (code_list_new _ ⟨rfl,rfl⟩) fun obj s₁ h₁=>?_
 obtain⟨rfl,rfl⟩:=h₁
 have hS:(s.heap.push { cls:=.type "list",data:=.seq #[] }).get? s.heap.objs.size=some { cls:=.type "list",data:=.seq #[] }:=Heap.get?_push_size _ rfl
 refine⟨⟨_,hS,rfl⟩,F.args_list_init_2 _ _,?_⟩
 have hel:e<s.heap.objs.size:=Heap.lt_size he
 have hil:it<s.heap.objs.size:=by obtain⟨_,q,_⟩:=hit;exact Heap.lt_size q
 have hll:l<s.heap.objs.size:=by obtain⟨_,q,_⟩:=hl;exact Heap.lt_size q
 show wpAny _ A.in1.in1 (do let old ←Builtin.List.listItems (.ref s.heap.objs.size);Builtin.List.listUpdate (.ref s.heap.objs.size) (fun _=>#[]);letGo old.toList.reverse;Builtin.List.listExtendWith (.ref s.heap.objs.size) (.ref e) .none) _ _ _
 refine wpAny_bind ?_
 unfold Builtin.List.listItems
 refine wpAny_bind (wpAny_seqItems hS rfl (wpAny_pure ?_))
 show wpAny _ _ (updateSeq s.heap.objs.size (fun _=>#[]) >>= fun _=>letGo (#[]:Array Value).toList.reverse >>= fun _=>Builtin.List.listExtendWith (.ref s.heap.objs.size) (.ref e) .none) _ _ _
 refine wpAny_bind (wpAny_updateSeq hS rfl ?_)
 have hS₂:=Heap.get?_update_self (Obj.mapSeq (fun _=>(#[]:Array Value))) hS rfl
 have oth:∀b o,s.heap.get? b=some o→((s.heap.push { cls:=.type "list",data:=.seq #[] }).update s.heap.objs.size (Obj.mapSeq (fun _=>(#[]:Array Value)))).get? b=some o :=
  fun b o q=>(Heap.get?_update_other _ _ (Nat.ne_of_gt (Heap.lt_size q))).trans (Heap.get?_push_of_some _ q)
 refine wpAny_bind (wpAny_letGo ?_)
 refine qP (A:=A.in1) (old:=old) hh hei hle hli (Nat.ne_of_lt hll) (Nat.ne_of_lt hel) (Nat.ne_of_lt hil) hn .none _ (oth e _ he) ?_ ?_ hS₂ fun h' tk ts c' hk hS' hlen hprs=>?_
 ·obtain⟨o,ho,r⟩:=hit
  exact⟨o,oth it o ho,r⟩
 ·obtain⟨o,ho,r⟩:=hl
  exact⟨o,oth l o ho,r⟩
 ·refine⟨rfl,hQ h' tk ts c' (fun b o hbe hbi q=>hk b o hbe hbi (Nat.ne_of_lt (Heap.lt_size q)) (oth b o q)) hS' hlen fun j t ht=>?_⟩
  obtain⟨p1,p2,p3,p4,r⟩:=hprs j t ht
  refine⟨Nat.le_trans ?_ p1,p2,p3,p4,r⟩
  show s.heap.objs.size≤((s.heap.push _).update _ _).objs.size
  rw[Heap.size_update,Heap.size_push]
  exact Nat.le_succ _
end
section
variable  {X:Cx}{pins:List (Addr×Obj)}{σ:L2.St}{H H':Hp}{s:Shared}{h':Heap}
theorem xa {t':Nat}(I:L2.Inv X pins σ H s)(k:∀b u,s.heap.get? b=some u→h'.get? b=some u)(sm:ak H H')(fr:∀b o,H' b=some o→H b=some o∨(s.heap.objs.size≤b∧b7 X.prog X.w H' h' b o)) :
  L2.Inv X pins σ H' { s with heap:=h',toks:=t' }:=by
 refine I.un ⟨fun b o q _ _ _=>k b o q,fun b o q _ _ _=>⟨o.slots,k b o q⟩,fun b o q n _=>?_,fun b o q _=>⟨o,k b o q⟩,fun b xs q=>sm b _ q,fun b o u q=>sm b _ q,fun b ps q=>⟨#[],by rw[sm b _ q];simp⟩⟩ ?_
 ·cases e:H' b with
  |none=>rfl
  |some u =>
   rcases fr b u e with q1|⟨q1,_⟩
   ·rw[n]at q1;cases q1
   ·exact absurd (Nat.lt_of_lt_of_le (Heap.lt_size q) q1) (Nat.lt_irrefl _)
 ·intro b o e
  rcases fr b o e with q|⟨_,q⟩
  ·exact(I.hok b o q).stay (fun c u _ r=>k c u r) (fun c r=>sm c _ r) fun c xs r=>sm c _ r
  ·exact q
def tLE (K:Frag)(ta:TA):TE:=fun σ H Q=>ta σ H fun vs H1=>∃(a:Addr) (xs:List V),vs=[.ref a]∧SqL K H1 a xs∧∀(H':Hp) (p:Addr) (ts:List Addr),ak H1 H'→H' p=some (.lst (ts.map V.ref))→ts.length=xs.length →
 (∀(i:Nat) (t:Addr) (x:V),ts[i]? = some t→xs[i]? = some x→H' t=some (.tup [.int (i:Nat),x]))→Q (.ref p) H'
theorem oH:∀ts:List Addr,aT (ts.map V.ref) (ts.map Value.ref)
 |[]=>.nil
 |t :: ts=>.cons rfl (oH ts)
theorem qO {e:Expr}{ta:TA}{p p2 pos pos2:Pos}(hc:X.calm=true) (hg:Gl X "list") (hm:X.mg "list"=none) (hg2:Gl X "enumerate") (hm2:X.mg "enumerate"=none) (ha:PA X [e] ta)
  (hs:starEach [e] X.env=[(false,eval e X.env)]:=by rfl)
  (hs2:starEach [.Call (.Name "enumerate" p2) [e] [] pos2] X.env=[(false,eval (.Call (.Name "enumerate" p2) [e] [] pos2) X.env)]:=by rfl) :
  PE X (.Call (.Name "list" p) [.Call (.Name "enumerate" p2) [e] [] pos2] [] pos) (tLE X.K ta):=by
 intro pins s σ H Q I h
 refine wpAny_Call_Name_kw (gC I hg hm mI ?_)
 refine PyProof.Rows.callWith_type1 ?_ hs2 rfl
 rw[hs2]
 show wpAny _ _ (spliced ((false,eval (.Call (.Name "enumerate" p2) [e] [] pos2) X.env) :: [])) _ _ s
 refine Calls.spliced_cons ?_
 refine Call_ (gC I hg2 hm2 boot_enumerate (PyProof.Rows.callWith_type1 (thn (ha pos2 pins s σ H _ I h) fun us s1 ⟨vs,H1,I1,r1,q1⟩=>?_) hs rfl))
 obtain⟨a,xs,ex,hq,q⟩:=q1
 subst ex
 cases r1 with
 |cons r rr =>
  cases rr
  cases r
  obtain⟨its,rv,p',hz⟩:=I1.list hq
  have hla:a<s1.heap.objs.size:=p'.lt
  refine call_enumerate_list p'.isList fun h1 he hit hsz hk=>Calls.spliced_nil ?_
  have hlen:=rv.length
  refine mf (items:=its.toArray) (I.ok.hd hc) (Nat.succ_ne_self _) (Nat.ne_of_lt (Nat.lt_succ_of_lt hla)) (Nat.ne_of_lt hla) (by simp only[List.size_toArray];omega) he hit (p'.isList.at fun o z=>hk a o z) fun h2 tk ts c' hk2 hS hl2 hprs=>?_
  have hsz2:s1.heap.objs.size+2=h1.objs.size:=hsz.symm
  let S:=h1.objs.size
  have inj:∀(i j:Nat) (t:Addr),ts[i]? = some t→ts[j]? = some t→i=j:=fun i j t e1 e2=>by
   obtain⟨_,_,_,_,tok1,x1,_,g1⟩:=hprs i t e1
   obtain⟨_,_,_,_,tok2,x2,_,g2⟩:=hprs j t e2
   rw[g1]at g2
   have:=congrArg (fun o:Option Obj=>o.map (·.data)) g2
   simp only[Option.map_some]at this
   injection this with this
   injection this with this
   have:=congrArg (fun a:Array Value=>a.toList.head?) this
   simp only[List.head?]at this
   injection this with this
   injection this with this
   omega
  have hidx:∀(i:Nat) (t:Addr),ts[i]? = some t→ts.idxOf t=i:=fun i t e1=>by
   have hm:t∈ts:=List.mem_of_getElem? e1
   exact inj _ _ t (by rw[gge (List.idxOf_lt_length_of_mem hm),List.getElem_idxOf]) e1
  let H2:Hp:=fun b=>if b=h1.objs.size then some (.lst (ts.map V.ref)) else if b∈ts then some (.tup [.int ((ts.idxOf b:Nat):Int),xs.getD (ts.idxOf b) .non]) else H1 b
  have old:∀b o,s1.heap.get? b=some o→b≠s1.heap.objs.size+1∧b≠s1.heap.objs.size∧b≠h1.objs.size∧b∉ts:=fun b o z=>by
   have hb:=Heap.lt_size z
   refine⟨Nat.ne_of_lt (Nat.lt_succ_of_lt hb),Nat.ne_of_lt hb,Nat.ne_of_lt (Nat.lt_of_lt_of_le hb (by rw[←hsz2];exact Nat.le_add_right _ _)),fun hm=>?_⟩
   obtain⟨i,hi⟩:=List.mem_iff_getElem?.mp hm
   have:=(hprs i b hi).1
   rw[←hsz2]at this
   exact absurd (Nat.lt_of_lt_of_le hb (Nat.le_trans (Nat.le_add_right _ 2) this)) (Nat.lt_irrefl _)
  have kk:∀b o,s1.heap.get? b=some o→h2.get? b=some o:=fun b o z=>by
   obtain⟨n1,n2,_,_⟩:=old b o z
   exact hk2 b o n1 n2 (hk b o z)
  have sm:ak H1 H2:=fun b o z=>by
   have hb:=I1.hok.lt z
   have n3:b≠h1.objs.size:=Nat.ne_of_lt (Nat.lt_of_lt_of_le hb (by rw[←hsz2];exact Nat.le_add_right _ _))
   have n4:b∉ts:=fun hm=>by
    obtain⟨i,hi⟩:=List.mem_iff_getElem?.mp hm
    have:=(hprs i b hi).1
    rw[←hsz2]at this
    exact absurd (Nat.lt_of_lt_of_le hb (Nat.le_trans (Nat.le_add_right _ 2) this)) (Nat.lt_irrefl _)
   show(if b=h1.objs.size then _ else if b∈ts then _ else H1 b)=_
   rw[if_neg n3,if_neg n4]
   exact z
  have hts:ts.length=xs.length:=by
   rw[hl2,List.size_toArray,hlen]
  have I2:L2.Inv X pins σ H2 { s1 with heap:=h2,toks:=tk }:=by
   refine xa I1 kk sm fun b o z=>?_
   by_cases c1:b=h1.objs.size
   ·right
    subst c1
    have z':some (HO.lst (ts.map V.ref))=some o:=by
     rw[←z]
     show _=(if h1.objs.size=h1.objs.size then _ else _)
     rw[if_pos rfl]
    have z':=osi z'
    subst z'
    refine⟨by rw[←hsz2];exact Nat.le_add_right _ _,?_⟩
    exact⟨by rw[lmp,hts];exact hz,_,c',oH ts,hS⟩
   ·by_cases c2:b∈ts
    ·right
     obtain⟨i,hi⟩:=List.mem_iff_getElem?.mp c2
     obtain⟨p1,p2,p3,p4,tok,x',p5,p6⟩:=hprs i b hi
     have z':some (HO.tup [.int ((ts.idxOf b:Nat):Int),xs.getD (ts.idxOf b) .non])=some o:=by
      rw[←z]
      show _=(if b=h1.objs.size then _ else if b∈ts then _ else H1 b)
      rw[if_neg c1,if_pos c2]
     have z':=osi z'
     subst z'
     rw[hidx i b hi]
     have hil:i<xs.length:=by rw[←hts];exact(gsi hi).1
     have hxi:xs[i]? = some xs[i]:=gge hil
     obtain⟨u,hu,ru⟩:=rv.get hxi
     have hux:u=x':=by
      have:its[i]? = some x':=by simpa using p5
      exact osi (hu.symm.trans this)
     subst hux
     refine⟨Nat.le_trans (by rw[←hsz2];exact Nat.le_add_right _ _) p1,by show 2≤sizeLine;decide,[.int i tok,u],.cons ⟨tok,rfl⟩ (.cons ?_ .nil),⟨_,p6,rfl,_,rfl⟩⟩
     rw[List.getD_eq_getElem?_getD,hxi]
     exact ru
    ·left
     rw[←z]
     show _=(if b=h1.objs.size then _ else if b∈ts then _ else H1 b)
     rw[if_neg c1,if_neg c2]
  refine⟨.ref h1.objs.size,H2,I2,rfl,q H2 h1.objs.size ts sm ?_ hts fun i t x e1 e2=>?_⟩
  ·show(if h1.objs.size=h1.objs.size then _ else _)=_
   rw[if_pos rfl]
  ·obtain⟨p1,p2,p3,p4,_⟩:=hprs i t e1
   show(if t=h1.objs.size then _ else if t∈ts then _ else H1 t)=_
   rw[if_neg p4,if_pos (List.mem_of_getElem? e1),hidx i t e1,List.getD_eq_getElem?_getD,e2]
   rfl
end
end Wx
end
section
namespace Wg
open PySem PySem.Spec PyProof.Rows L2
theorem yM {K:Frag}{a:Addr}{xs:List V}{g:TG}{tb:TS}{D:nR}{σ:L2.St}{H:Hp}(Pv:Nat→L2.St→Hp→Prop)(h0:Pv 0 σ H)(hl:∀i σ H,i≤xs.length→Pv i σ H→SqL K H a xs)
  (hs:∀i x σ H,i<xs.length→xs[xs.length-1-i]? = some x→Pv i σ H→g x σ H fun σ2 H2=>tb { D with nx:=Pv (i+1),ct:=Pv (i+1),bk:=D.nx } σ2 H2) (hd:∀σ H,Pv xs.length σ H→D.nx σ H) :
  ∃W:Nat→Nat→L2.St→Hp→Prop,(∃m,W 0 m σ H)∧∀i m σ H,W i m σ H →
   ((Itv K a xs.length).stop i H∧D.nx σ H)∨((Itv K a xs.length).go i H∧∃N:L2.St→Hp→Prop,(∀σ' H',N σ' H'→∃m',m'<m∧W (i+1) m' σ' H')∧∀x H',(Itv K a xs.length).yld i H x H'→g x σ H' fun σ2 H2=>tb { D with nx:=N,ct:=N,bk:=D.nx } σ2 H2):=by
 refine⟨fun i m σ H=>m=xs.length-i∧i≤xs.length∧Pv i σ H,⟨xs.length,by simp,Nat.zero_le _,h0⟩,?_⟩
 rintro i m σ H ⟨rfl,hi,p⟩
 have q:=hl i σ H hi p
 by_cases hlt:i<xs.length
 ·refine .inr ⟨⟨hlt,xs,xs[xs.length-1-i],q,by simp⟩,Pv (i+1),fun σ' H' p'=>⟨xs.length-(i+1),by omega,rfl,hlt,p'⟩,fun x H' y=>?_⟩
  obtain⟨e,y⟩:=y
  subst e
  exact hs i x σ _ hlt (y xs q) p
 ·have e:i=xs.length:=by omega
  subst e
  exact .inl ⟨nlr _,hd σ H p⟩
theorem kP {lo c:Int}{n:Nat}{g:TG}{tt:TT}{te:TE}{vs:List Nat}{σ:L2.St}{H1:Hp}{D:Addr}{Qd:Hp→Prop}(Pv:Nat→Hp→Prop)(h0:Pv 0 (upd H1 D (.lst [])))
  (hs:∀i H,i<n→Pv i H→g (.int (lo+(i:Nat)*c)) (bX σ vs) H fun σ2 H2=>bX σ2 vs=bX σ vs∧tt σ2 H2 fun b H3 =>
   if b=true then te σ2 H3 fun y H4=>∃acc,H4 D=some (.lst acc)∧acc.length<sizeLine∧Pv (i+1) (upd H4 D (.lst (acc++[y]))) else Pv (i+1) H3) (hd:∀H,Pv n H→Qd H) :
  ∃W:Nat→Nat→Hp→Prop,(∃m,W 0 m (upd H1 D (.lst [])))∧∀i m H,W i m H →
   ((Itc lo c n).stop i H∧Qd H)∨((Itc lo c n).go i H∧∃Nx:Hp→Prop,(∀H',Nx H'→∃m',m'<m∧W (i+1) m' H')∧∀x H',(Itc lo c n).yld i H x H'→g x (bX σ vs) H' fun σ2 H2=>bX σ2 vs=bX σ vs∧tt σ2 H2 fun b H3 =>
    if b=true then te σ2 H3 fun y H4=>∃acc,H4 D=some (.lst acc)∧acc.length<sizeLine∧Nx (upd H4 D (.lst (acc++[y]))) else Nx H3):=by
 refine⟨fun i m H=>m=n-i∧i≤n∧Pv i H,⟨n,by simp,Nat.zero_le _,h0⟩,?_⟩
 rintro i m H ⟨rfl,hi,p⟩
 by_cases hlt:i<n
 ·refine .inr ⟨hlt,Pv (i+1),fun H' p'=>⟨n-(i+1),by omega,rfl,hlt,p'⟩,fun x H' y=>?_⟩
  obtain⟨e,y⟩:=y
  subst e y
  exact hs i _ hlt p
 ·have e:i=n:=by omega
  subst e
  exact .inl ⟨nlr _,hd H p⟩
def TL (H:Hp)(p:Addr)(rows:List (List Int)):Prop:=∃as:List Addr,H p=some (.lst (as.map V.ref))∧as.length=rows.length∧∀(i:Nat) (a:Addr) (r:List Int),as[i]? = some a→rows[i]? = some r→H a=some (.tup (iV r))
theorem TL.same {H H':Hp}{p:Addr}{rows:List (List Int)}(h:TL H p rows)(s:ak H H'):TL H' p rows:=by
 obtain⟨as,h1,h2,h3⟩:=h
 exact⟨as,s _ _ h1,h2,fun i a r e1 e2=>s _ _ (h3 i a r e1 e2)⟩
theorem cq {as:List Addr}{i:Nat}{v:V}(h:(as.map V.ref)[i]? = some v):∃a,as[i]? = some a∧v=.ref a:=by
 rw[List.getElem?_map]at h
 cases e:as[i]? with
 |none=>rw[e]at h;cases h
 |some z=>rw[e]at h;exact⟨z,rfl,(osi h).symm⟩
theorem aP {as:List Addr}{i:Nat}{a:Addr}(h:as[i]? = some a):(as.map V.ref)[i]? = some (.ref a):=by
 rw[List.getElem?_map,h];rfl
def PvR (H0:Hp)(D:Addr)(rows:List (List Int))(i:Nat)(H:Hp):Prop:=∃as:List Addr,ak H0 H∧H D=some (.lst (as.map V.ref))∧as.length=(rows.take i).length∧∀(j:Nat) (b:Addr) (x:List Int),as[j]? = some b→(rows.take i)[j]? = some x→b≠D∧H b=some (HO.tup (iV x))
theorem PvR.start {H0 H:Hp}{D:Addr}{rows:List (List Int)}(s:ak H0 H)(hD:H D=none):PvR H0 D rows 0 (upd H D (.lst [])):=⟨[],a5 s hD,af,rfl,fun j b x e=>by simp at e⟩
theorem PvR.same {H0 H:Hp}{D:Addr}{rows:List (List Int)}{i:Nat}(h:PvR H0 D rows i H):ak H0 H:=by
 obtain⟨_,h1,_⟩:=h
 exact h1
theorem PvR.turn {H0 H H1:Hp}{D q:Addr}{rows:List (List Int)}{i:Nat}{r:List Int}(h:PvR H0 D rows i H)(hD0:H0 D=none)(hn:rows.length≤1000000)(hr:rows[i]? = some r)(s1:ak H H1)(hq:H1 q=some (HO.tup (iV r)))(nq:q≠D) :
  ∃acc,H1 D=some (.lst acc)∧acc.length<sizeLine∧PvR H0 D rows (i+1) (upd H1 D (.lst (acc++[.ref q]))):=by
 obtain⟨as,hS,hD,hl,hat⟩:=h
 have hD1:=s1 _ _ hD
 have hl':as.length=i:=by
  have:=(gsi hr).1
  rw[hl,List.length_take]
  omega
 refine⟨as.map V.ref,hD1,?_,as++[q],aY (hS.trans s1) hD0,?_,?_,fun j a x e1 e2=>?_⟩
 ·rw[lmp,hl,List.length_take]
  exact bF (by omega)
 ·rw[af,List.map_append]
  rfl
 ·rw[bY hr,List.length_append,List.length_append,hl]
  rfl
 ·rw[bY hr]at e2
  by_cases c:j<as.length
  ·rw[List.getElem?_append_left c]at e1
   rw[List.getElem?_append_left (by rw[←hl];exact c)]at e2
   obtain⟨n1,n2⟩:=hat j a x e1 e2
   exact⟨n1,by rw[ap n1];exact s1 _ _ n2⟩
  ·have hi:=(gsi e1).1
   rw[List.length_append]at hi
   simp at hi
   have ei:j=as.length:=by omega
   subst ei
   rw[List.getElem?_append_right (nlr _),Nat.sub_self]at e1
   rw[hl,List.getElem?_append_right (nlr _),Nat.sub_self]at e2
   have e1:q=a:=osi e1
   have e2:r=x:=osi e2
   subst e1 e2
   exact⟨nq,by rw[ap nq];exact hq⟩
theorem PvR.done {H0 H:Hp}{D:Addr}{rows:List (List Int)}{n:Nat}(h:PvR H0 D rows n H)(hn:rows.length≤n):ak H0 H∧TL H D rows:=by
 obtain⟨as,hS,hD,hl,hat⟩:=h
 rw[List.take_of_length_le hn]at hl hat
 exact⟨hS,as,hD,hl,fun i a r e1 e2=>(hat i a r e1 e2).2⟩
theorem cV {f:Str}{v:V}:∀{fs:List (Str×V)} {n:Nat},fs.length≤n→(eX f v fs).length≤n+1
 |[],n,_=>Nat.succ_le_succ (Nat.zero_le n)
 |(g,x) :: r,n,h=>by
  unfold eX
  by_cases c:g=f
  ·rw[if_pos c]
   exact Nat.le_trans h (Nat.le_succ _)
  ·rw[if_neg c]
   cases n with
   |zero=>simp at h
   |succ n =>
    have:=cV (f:=f) (v:=v) (fs:=r) (n:=n) (by simpa using h)
    simp only[List.length_cons]
    omega
def jB (K:Frag)(C:Addr)(m qual:Str)(st:Stmt)(ps:List Str):Prop:=∃f fd,Fun K m qual st f fd∧(∀us:List Value,us.length=ps.length→bindArgs fd ⟨us,[]⟩=pure (ps.zip us))∧vM K C m f
def Cm (P:Program)(w:World)(K:Frag)(mg:Str→Option Value)(base:Heap)(k:Nat)(C:Addr)(m:Str)(ps:List Str)(sp:Sp):Prop :=
 ∃f fd,jw P w K mg base CX0 k f fd ps sp∧jd K fd ps []∧vM K C m f
section
variable  {P:Program}{w:World}{K:Frag}{mg:Str→Option Value}{base:Heap}
theorem jB.cm {C:Addr}{m qual:Str}{st:Stmt}{N ps:List Str}{k:Nat}{sp:Sp}(F:jB K C m qual st ps)(S:aq N ps (ah st))(len:∀vs H Q E,sp vs H Q E→vs.length=ps.length)
  (hbody:∀(f:Addr) (cdv:Value) (A:Around) (outer:List Env) (s:Shared) (H:Hp) (vs:List V) (Q:VK) (E:XK),bu k (A.deeper (envOfC qual (ah st) s.heap.objs.size f cdv))→sp vs H Q E →
   ∃t,PSs (qg CX0 P w K mg base N qual (ah st) f cdv A outer s H E).nox (bM st) t∧t { nx:=fun _ H'=>Q .non H',rt:=Q } (start N vs) H):Cm P w K mg base (k+1) C m ps sp:=by
 obtain⟨f,fd,h1,h2,h3⟩:=F
 exact⟨f,fd,h1.ok S len (hbody f),.all h2,h3⟩
def pP (K:Frag)(C:Addr)(qual:Str)(st:Stmt)(ps:List Str):Prop:=∃f fd,Fun K "__init__" qual st f fd∧(∀us:List Value,us.length=ps.length→bindArgs fd ⟨us,[]⟩=pure (ps.zip us))∧Mk K C f
def Ci (P:Program)(w:World)(K:Frag)(mg:Str→Option Value)(base:Heap)(k:Nat)(C:Addr)(ps:List Str)(sp:Sp):Prop :=
 ∃f fd,jw P w K mg base CX0 k f fd ps sp∧jd K fd ps []∧Mk K C f
theorem pP.ci {C:Addr}{qual:Str}{st:Stmt}{N ps:List Str}{k:Nat}{sp:Sp}(F:pP K C qual st ps)(S:aq N ps (ah st))(len:∀vs H Q E,sp vs H Q E→vs.length=ps.length)
  (hbody:∀(f:Addr) (cdv:Value) (A:Around) (outer:List Env) (s:Shared) (H:Hp) (vs:List V) (Q:VK) (E:XK),bu k (A.deeper (envOfC qual (ah st) s.heap.objs.size f cdv))→sp vs H Q E →
   ∃t,PSs (qg CX0 P w K mg base N qual (ah st) f cdv A outer s H E).nox (bM st) t∧t { nx:=fun _ H'=>Q .non H',rt:=Q } (start N vs) H):Ci P w K mg base (k+1) C ps sp:=by
 obtain⟨f,fd,h1,h2,h3⟩:=F
 exact⟨f,fd,h1.ok S len (hbody f),.all h2,h3⟩
theorem lV {C:Addr}{m qual:Str}{st:Stmt}{ps:List Str}{f:Addr}{oc:Value}{od an:Option Addr}{osl:Array (Option Value)}{kV doc pm cdv ct:Value}
  (bind:∀(kV doc pm:Value) (an:Option Addr) (cdv ct:Value) (us:List Value),us.length=ps.length→bindArgs (PySem.W.fnOf m qual (cD st) (bM st) (ah st) .none kV doc pm an cdv ct) ⟨us,[]⟩=pure (ps.zip us))
  (a:PySem.W.findIn K (.ref C) m=some (some (.ref f))) (i:PySem.W.isFn K (.ref f)=true) (l:K.lookup f=some ⟨oc,od,.func (PySem.W.fnOf m qual (cD st) (bM st) (ah st) .none kV doc pm an cdv ct),osl⟩)
  (c:PySem.W.codeIn K cdv qual=true) (kp:PySem.W.keepIn K (.ref f)=true):jB K C m qual st ps :=
 ⟨f,_,sD (st:=st) l c kp,bind kV doc pm an cdv ct,⟨a,i,kp⟩⟩
theorem uh {C:Addr}{qual:Str}{st:Stmt}{ps:List Str}{f:Addr}{oc:Value}{od an:Option Addr}{osl:Array (Option Value)}{kV doc pm cdv ct:Value}
  (bind:∀(kV doc pm:Value) (an:Option Addr) (cdv ct:Value) (us:List Value),us.length=ps.length→bindArgs (PySem.W.fnOf "__init__" qual (cD st) (bM st) (ah st) .none kV doc pm an cdv ct) ⟨us,[]⟩=pure (ps.zip us))
  (mk:PySem.W.makesIn K C=true) (kc:PySem.W.keepIn K (.ref C)=true)
  (a:PySem.W.findIn K (.ref C) "__init__"=some (some (.ref f))) (i:PySem.W.isFn K (.ref f)=true) (l:K.lookup f=some ⟨oc,od,.func (PySem.W.fnOf "__init__" qual (cD st) (bM st) (ah st) .none kV doc pm an cdv ct),osl⟩)
  (c:PySem.W.codeIn K cdv qual=true) (kp:PySem.W.keepIn K (.ref f)=true):pP K C qual st ps :=
 ⟨f,_,sD (st:=st) l c kp,bind kV doc pm an cdv ct,⟨mk,a,i,kc⟩⟩
end
theorem g9 {X:Cx}{k:Nat}{C:Addr}{m:Str}{ps:List Str}{sp:Sp}{pos apos:Pos}{o e:Expr}{es:List Expr}{ta:TE}{t:TA}{pl:Sem Bool}(he:PE X o ta)(cl:Cls X.K C)(c:Cm X.prog X.w X.K X.mg X.base k C m ps sp)(hr:bu k X.A)(ha:PA X (e :: es) t)
  (hst:starEach (e :: es) X.env=(false,eval e X.env) :: starEach es X.env:=by rfl) (hpl:(backTo pos (starEach es X.env)).any (·.1)=false:=by rfl)
  (ht:eval (.Call (.Attribute o m apos) (e :: es) [] pos) X.env=(do
   let ov ←eval o X.env
   standAt apos.atName
   let (f,first) ←holding [ov] (getMethod ov m pl)
   callWith pos f first (backTo pos (starEach (e :: es) X.env)) (backToKw pos (keywordEach [] X.env))):=by rfl) :
  PE X (.Call (.Attribute o m apos) (e :: es) [] pos) (jY C m sp [] E0 ta t):=by
 obtain⟨f,fd,h1,h2,h3⟩:=c
 exact yg he cl h3 h1 hr h2 .nil tV ha hst hpl ht
theorem Be {X:Cx}{k:Nat}{C:Addr}{m:Str}{ps:List Str}{sp:Sp}{pos apos:Pos}{o:Expr}{ta:TE}{pl:Sem Bool}(he:PE X o ta)(cl:Cls X.K C)(c:Cm X.prog X.w X.K X.mg X.base k C m ps sp)(hr:bu k X.A)
  (ht:eval (.Call (.Attribute o m apos) [] [] pos) X.env=(do
   let ov ←eval o X.env
   standAt apos.atName
   let (f,first) ←holding [ov] (getMethod ov m pl)
   callWith pos f first (backTo pos (starEach [] X.env)) (backToKw pos (keywordEach [] X.env))):=by rfl) :
  PE X (.Call (.Attribute o m apos) [] [] pos) (jY C m sp [] E0 ta fS):=by
 obtain⟨f,fd,h1,h2,h3⟩:=c
 exact wq he cl h3 h1 hr h2 .nil tV ht
theorem oF {X:Cx}{k:Nat}{C:Addr}{x:Str}{ps:List Str}{sp:Sp}{p pos:Pos}{e:Expr}{es:List Expr}{t:TA}(c:Ci X.prog X.w X.K X.mg X.base k C ps sp)(hr:bu (k+1) X.A)(hm:X.mg x=some (.ref C))(ha:PA X (e :: es) t)(hg:Gl X x:=by rfl)
  (hdb:(x==("__debug__" : Str))=false:=by decide) (he:starEach (e :: es) X.env=(false,eval e X.env) :: starEach es X.env:=by rfl) (hpl:(backTo pos (starEach es X.env)).any (·.1)=false:=by rfl) :
  PE X (.Call (.Name x p) (e :: es) [] pos) (zM C sp [] E0 t):=by
 obtain⟨f,fd,h1,h2,h3⟩:=c
 exact yT h3 h1 hr hg hm h2 .nil tV ha hdb he hpl
end Wg
end
section
namespace Wl
open PySem PySem.Spec PyProof.Rows L2 Wg
open PySem.W (Codec)
def top (i:Nat):Stmt:=PySem.Challenge.pw_windowlight_s01_pane.main.body.getD i (.Pass ⟨0,0,0,0⟩)
abbrev gW:Stmt:=top 7
abbrev gA:Stmt:=top 8
abbrev eT:Stmt:=top 9
abbrev dH:Stmt:=top 10
abbrev fk:Stmt:=top 11
abbrev gd:Stmt:=top 12
abbrev gt:Stmt:=top 13
abbrev bT:Stmt:=top 14
abbrev pQ:Stmt:=top 16
abbrev eo:Stmt:=top 17
abbrev gc:Stmt:=top 18
abbrev l5:Stmt:=top 19
abbrev fq:Stmt:=top 20
abbrev iu:Stmt:=top 21
abbrev fB:Stmt:=top 22
abbrev dz:Stmt:=top 23
abbrev gg:Stmt:=top 24
abbrev c8:Stmt:=top 26
abbrev dw:Stmt:=top 27
abbrev bU:Stmt:=top 28
abbrev bf:Stmt:=top 29
abbrev cX:Stmt:=top 30
abbrev cf:Stmt:=top 31
abbrev cg:Stmt:=top 32
abbrev cN:Stmt:=top 33
abbrev dg:Stmt:=top 34
abbrev dX:Stmt:=top 35
abbrev dW:Stmt:=top 36
abbrev cJ:Stmt:=top 37
abbrev cY:Stmt:=top 38
abbrev dc:Stmt:=top 39
abbrev du:Stmt:=top 40
abbrev cB:Stmt:=top 41
abbrev dC:Stmt:=top 43
abbrev dI:Stmt:=top 44
abbrev fG:Stmt:=top 45
abbrev eW:Stmt:=top 46
abbrev dS:Stmt:=top 47
abbrev vI:Stmt:=top 49
abbrev gx:Stmt:=top 50
abbrev cP:Stmt:=top 51
abbrev lZ:Stmt:=top 52
abbrev gh:Stmt:=top 56
abbrev ii:Stmt:=top 57
abbrev fA:Stmt:=top 58
abbrev cW:Stmt:=top 59
abbrev ie:Stmt:=top 60
abbrev cM:Stmt:=top 61
abbrev bp:Stmt:=top 63
abbrev fz:Stmt:=top 64
abbrev fI:Stmt:=top 65
abbrev db:Stmt:=top 69
abbrev b8:Stmt:=top 70
abbrev cE:Stmt:=top 71
abbrev fD:Stmt:=top 72
abbrev qo:Stmt:=top 73
open CM
abbrev dZ:Stmt:=jn gW 0
abbrev fZ:Stmt:=jn gW 1
abbrev fN:Stmt:=jn gW 2
abbrev fV:Stmt:=jn gW 3
abbrev gb:Stmt:=jn gW 4
def eY (w h:Int)(p l m:Addr):List (Str×V):=eX "marks" (.ref m) (eX "lines" (.ref l) (eX "points" (.ref p) (eX "height" (.int h) (eX "width" (.int w) []))))
section
variable  {w h:Int}{p l m:Addr}
theorem A0:(eY w h p l m).lookup ("width" : Str)=some (.int w):=by
 unfold eY
 rw[aH,if_neg (by decide +kernel),aH,if_neg (by decide +kernel),aH,if_neg (by decide +kernel),aH,if_neg (by decide +kernel),aH,if_pos rfl]
theorem Ay:(eY w h p l m).lookup ("height" : Str)=some (.int h):=by
 unfold eY
 rw[aH,if_neg (by decide +kernel),aH,if_neg (by decide +kernel),aH,if_neg (by decide +kernel),aH,if_pos rfl]
theorem iH:(eY w h p l m).lookup ("points" : Str)=some (.ref p):=by
 unfold eY
 rw[aH,if_neg (by decide +kernel),aH,if_neg (by decide +kernel),aH,if_pos rfl]
theorem p8:(eY w h p l m).lookup ("lines" : Str)=some (.ref l):=by
 unfold eY
 rw[aH,if_neg (by decide +kernel),aH,if_pos rfl]
theorem wN:(eY w h p l m).lookup ("marks" : Str)=some (.ref m):=by
 unfold eY
 rw[aH,if_pos rfl]
theorem mx {f:Str} (h1:¬f="marks") (h2:¬f="lines") (h3:¬f="points") (h4:¬f="height") (h5:¬f="width"):(eY w h p l m).lookup f=none:=by
 unfold eY
 rw[aH,if_neg h1,aH,if_neg h2,aH,if_neg h3,aH,if_neg h4,aH,if_neg h5]
 rfl
end
structure DCl (K:Frag)(mg:Str→Option Value)(C:Addr):Prop where
 cl:Cls K C
 nW:eu K C "width"
 nH:eu K C "height"
 nP:eu K C "points"
 nL:eu K C "lines"
 nM:eu K C "marks"
 mgC:mg "Drawing"=some (.ref C)
def bz (C:Addr)(H:Hp)(a:Addr)(S:Gla.Plan):Prop:=∃dx p l m,H a=some (.ins C dx (eY S.w S.h p l m))∧TL H p (S.pts.map fP)∧TL H l (S.lines.map t9)∧TL H m (S.marks.map kl)
theorem bz.same {C:Addr}{H H':Hp}{a:Addr}{S:Gla.Plan}(h:bz C H a S)(s:ak H H'):bz C H' a S:=by
 obtain⟨dx,p,l,m,h1,h2,h3,h4⟩:=h
 exact⟨dx,p,l,m,s _ _ h1,h2.same s,h3.same s,h4.same s⟩
section
variable  {P:Program}{w:World}{K:Frag}{mg:Str→Option Value}{base:Heap}{C:Addr}
def Bv (C:Addr):Sp:=fun vs H Q _=>∃(x dx:Addr) (wi he:Int) (p l m:Addr),vs=[.ref x,.int wi,.int he,.ref p,.ref l,.ref m]∧H x=some (.ins C dx []) ∧
 ∀H':Hp,H' x=some (.ins C dx (eY wi he p l m))→(∀b o,H b=some o→b≠x→H' b=some o)→Q .non H'
theorem El:aq ["self","width","height","points","lines","marks"] ["self","width","height","points","lines","marks"] (ah dZ):=⟨rfl,rfl,rfl,by decide +kernel,rfl,by decide +kernel,by decide +kernel⟩
theorem yS (F:pP K C "Drawing.__init__" dZ ["self","width","height","points","lines","marks"]) (T:DCl K mg C):Ci P w K mg base 1 C ["self","width","height","points","lines","marks"] (Bv C):=by
 refine F.ci El (fun vs H Q E h=>?_) (fun f cdv A outer s H vs Q E hr h=>?_)
 ·obtain⟨x,dx,wi,he,p,l,m,rfl,_⟩:=h
  rfl
 ·obtain⟨x,dx,wi,he,p,l,m,rfl,hx,k⟩:=h
  refine⟨_,ad (iW (pv 0) (pv 1) rfl) (ad (iW (pv 0) (pv 2) rfl) (ad (iW (pv 0) (pv 3) rfl) (ad (iW (pv 0) (pv 4) rfl) (ae (iW (pv 0) (pv 5) rfl))))),?_⟩
  refine⟨_,rfl,_,rfl,x,C,dx,_,rfl,hx,T.cl,T.nW,(by show 0<1000;decide),?_⟩
  refine⟨_,rfl,_,rfl,x,C,dx,_,rfl,af,T.cl,T.nH,(Nat.lt_of_le_of_lt (cV (n:=0) (nlr 0)) (by decide)),?_⟩
  refine⟨_,rfl,_,rfl,x,C,dx,_,rfl,af,T.cl,T.nP,(Nat.lt_of_le_of_lt (cV (cV (n:=0) (nlr 0))) (by decide)),?_⟩
  refine⟨_,rfl,_,rfl,x,C,dx,_,rfl,af,T.cl,T.nL,(Nat.lt_of_le_of_lt (cV (cV (cV (n:=0) (nlr 0)))) (by decide)),?_⟩
  refine⟨_,rfl,_,rfl,x,C,dx,_,rfl,af,T.cl,T.nM,(Nat.lt_of_le_of_lt (cV (cV (cV (cV (n:=0) (nlr 0))))) (by decide)),?_⟩
  refine k _ af fun b o e hb=>?_
  rw[ap hb,ap hb,ap hb,ap hb,ap hb]
  exact e
def pD:Sp:=fun vs H Q _=>∃(v:V) (k:Int),vs=[v,.int k]∧Q (.int (20+8*k)) H
theorem En:aq ["self","k"] ["self","k"] (ah fZ):=⟨rfl,rfl,rfl,by decide +kernel,rfl,by decide +kernel,by decide +kernel⟩
theorem BG (F:jB K C "place_of_point" "Drawing.place_of_point" fZ ["self","k"]) (gHB:∃t,mg "HEAD_BYTES"=some (.int 20 t)) (gPB:∃t,mg "POINT_BYTES"=some (.int 8 t)):Cm P w K mg base 1 C "place_of_point" ["self","k"] pD:=by
 refine F.cm En (fun vs H Q E h=>?_) (fun f cdv A outer s H vs Q E hr h=>?_)
 ·obtain⟨v,k,rfl,_⟩:=h
  rfl
 ·obtain⟨v,i,rfl,k⟩:=h
  refine⟨_,ae (al (aV dJ (bv gHB) (aV dN (bv gPB) (pv 1)))),?_⟩
  exact⟨_,rfl,_,_,rfl,rfl,.inl ⟨by decide,by decide⟩,_,_,rfl,rfl,k⟩
def uT (C:Addr):Sp:=fun vs H Q _=>∃(a:Addr) (S:Gla.Plan) (k:Int),vs=[.ref a,.int k]∧bz C H a S∧Q (.int (20+8*(S.pts.length:Int)+4*k)) H
theorem Et:aq ["self","k"] ["self","k"] (ah fN):=⟨rfl,rfl,rfl,by decide +kernel,rfl,by decide +kernel,by decide +kernel⟩
theorem Dj (F:jB K C "place_of_line" "Drawing.place_of_line" fN ["self","k"]) (T:DCl K mg C) (gl:mg "len"=none) (gLB:∃t,mg "LINE_BYTES"=some (.int 4 t)) (C1:Cm P w K mg base 1 C "place_of_point" ["self","k"] pD) :
  Cm P w K mg base 2 C "place_of_line" ["self","k"] (uT C):=by
 refine F.cm Et (fun vs H Q E h=>?_) (fun f cdv A outer s H vs Q E hr h=>?_)
 ·obtain⟨a,S,k,rfl,_⟩:=h
  rfl
 ·obtain⟨a,S,i,rfl,hd,k⟩:=h
  obtain⟨dx,p,l,m,h1,⟨as,h2,h2l,_⟩,h3,h4⟩:=hd
  refine⟨_,ae (al (aV dJ (g9 (pv 0) T.cl C1 hr (aa (aW aO (by rfl) gl PySem.boot_len (aa (aR (pv 0) rfl) ac)) ac)) (aV dN (bv gLB) (pv 1)))),?_⟩
  refine⟨_,rfl,a,dx,_,rfl,h1,mx (by decide +kernel) (by decide +kernel) (by decide +kernel) (by decide +kernel) (by decide +kernel),_,rfl,a,C,dx,_,_,rfl,h1,T.cl,T.nP,iH,p,_,rfl,.inl (SqL.of h2),?_⟩
  refine⟨_,_,rfl,_,rfl,_,_,rfl,rfl,.inl ⟨by decide,by decide⟩,_,_,rfl,rfl,?_⟩
  rw[lmp,h2l,lmp]
  exact k
def wT (C:Addr):Sp:=fun vs H Q _=>∃(a:Addr) (S:Gla.Plan) (k:Int),vs=[.ref a,.int k]∧bz C H a S∧Q (.int (20+8*(S.pts.length:Int)+4*(S.lines.length:Int)+12*k)) H
theorem D9:aq ["self","k"] ["self","k"] (ah fV):=⟨rfl,rfl,rfl,by decide +kernel,rfl,by decide +kernel,by decide +kernel⟩
theorem Ct (F:jB K C "place_of_mark" "Drawing.place_of_mark" fV ["self","k"]) (T:DCl K mg C) (gl:mg "len"=none) (gMB:∃t,mg "MARK_BYTES"=some (.int 12 t)) (C1:Cm P w K mg base 2 C "place_of_line" ["self","k"] (uT C)) :
  Cm P w K mg base 3 C "place_of_mark" ["self","k"] (wT C):=by
 refine F.cm D9 (fun vs H Q E h=>?_) (fun f cdv A outer s H vs Q E hr h=>?_)
 ·obtain⟨a,S,k,rfl,_⟩:=h
  rfl
 ·obtain⟨a,S,i,rfl,hd,k⟩:=h
  have hd0:=hd
  obtain⟨dx,p,l,m,h1,h2,⟨as,h3,h3l,_⟩,h4⟩:=hd
  refine⟨_,ae (al (aV dJ (g9 (pv 0) T.cl C1 hr (aa (aW aO (by rfl) gl PySem.boot_len (aa (aR (pv 0) rfl) ac)) ac)) (aV dN (bv gMB) (pv 1)))),?_⟩
  refine⟨_,rfl,a,dx,_,rfl,h1,mx (by decide +kernel) (by decide +kernel) (by decide +kernel) (by decide +kernel) (by decide +kernel),_,rfl,a,C,dx,_,_,rfl,h1,T.cl,T.nL,p8,l,_,rfl,.inl (SqL.of h3),?_⟩
  refine⟨a,S,_,rfl,hd0,_,rfl,_,_,rfl,rfl,.inl ⟨by decide,by decide⟩,_,_,rfl,rfl,?_⟩
  rw[lmp,h3l,lmp]
  exact k
def BI (C:Addr):Sp:=fun vs H Q _=>∃(a:Addr) (S:Gla.Plan),vs=[.ref a]∧bz C H a S∧Q (.int (20+8*(S.pts.length:Int)+4*(S.lines.length:Int)+12*(S.marks.length:Int))) H
theorem DX:aq ["self"] ["self"] (ah gb):=⟨rfl,rfl,rfl,by decide +kernel,rfl,by decide +kernel,by decide +kernel⟩
theorem Db (F:jB K C "place_of_end" "Drawing.place_of_end" gb ["self"]) (T:DCl K mg C) (gl:mg "len"=none) (C1:Cm P w K mg base 3 C "place_of_mark" ["self","k"] (wT C)) :
  Cm P w K mg base 4 C "place_of_end" ["self"] (BI C):=by
 refine F.cm DX (fun vs H Q E h=>?_) (fun f cdv A outer s H vs Q E hr h=>?_)
 ·obtain⟨a,S,rfl,_⟩:=h
  rfl
 ·obtain⟨a,S,rfl,hd,k⟩:=h
  have hd0:=hd
  obtain⟨dx,p,l,m,h1,h2,h3,⟨as,h4,h4l,_⟩⟩:=hd
  refine⟨_,ae (al (g9 (pv 0) T.cl C1 hr (aa (aW aO (by rfl) gl PySem.boot_len (aa (aR (pv 0) rfl) ac)) ac))),?_⟩
  refine⟨_,rfl,a,dx,_,rfl,h1,mx (by decide +kernel) (by decide +kernel) (by decide +kernel) (by decide +kernel) (by decide +kernel),_,rfl,a,C,dx,_,_,rfl,h1,T.cl,T.nM,wN,m,_,rfl,.inl (SqL.of h4),?_⟩
  refine⟨a,S,_,rfl,hd0,?_⟩
  rw[lmp,h4l,lmp]
  exact k
end
open PySem PySem.Spec PyProof.Rows L2 Wg Wx CM
section
variable  {P:Program}{w:World}{K:Frag}{mg:Str→Option Value}{base:Heap}{C:Addr}
theorem Ap (ns:List Int)(p z:Nat):oa (iV ns) (some (p:Int)) (some ((p:Int)+(z:Int)))=iV ((ns.drop p).take z):=by
 have e2:((p:Int)+(z:Int))=((p+z:Nat):Int):=by omega
 rw[e2]
 unfold oa
 rw[HT.sIx_nat,HT.sIx_nat,iV,←List.map_drop,←List.map_take,lmp]
 congr 1
 by_cases c:p≤ns.length
 ·rw[Nat.min_eq_left c]
  by_cases c2:p+z≤ns.length
  ·rw[Nat.min_eq_left c2]
   congr 1
   omega
  ·rw[Nat.min_eq_right (show ns.length≤p+z by omega)]
   rw[List.take_of_length_le (by rw[List.length_drop];omega),List.take_of_length_le (by rw[List.length_drop];omega)]
 ·rw[Nat.min_eq_right (show ns.length≤p by omega),List.drop_eq_nil_of_le (nlr _),List.drop_eq_nil_of_le (show ns.length≤p by omega)]
  simp
theorem vC {l:List Int}{i:Nat}{z:Int}(hi:i<l.length)(h:l[l.length-1-i]? = some z):sw (l.drop (l.length-(i+1)))=256*sw (l.drop (l.length-i))+z:=by
 have e:l.length-(i+1)=l.length-1-i:=by omega
 have e2:l.length-i=l.length-1-i+1:=by omega
 rw[e,e2]
 obtain⟨hk,hz⟩:=gsi h
 rw[List.drop_eq_getElem_cons hk,hz]
 rfl
def pc (K:Frag):Sp:=fun vs H Q _=>∃(a:Addr) (ns:List Int) (p z:Nat),vs=[.ref a,.int (p:Int),.int (z:Int)]∧LI K H a ns∧∀H':Hp,ak H H'→Q (.int (rd ns p z)) H'
theorem tJ:aq ["cartoon","place","size","number","byte"] ["cartoon","place","size"] (ah gA):=⟨rfl,rfl,rfl,by decide +kernel,rfl,by decide +kernel,by decide +kernel⟩
theorem AI (F:Has K mg "number_at" gA ["cartoon","place","size"]) (grv:mg "reversed"=none):Cb P w K mg base 1 "number_at" ["cartoon","place","size"] (pc K):=by
 refine F.cb tJ (fun vs H Q E h=>?_) (fun f cdv A outer s H vs Q E hr h=>?_)
 ·obtain⟨a,ns,p,z,rfl,_⟩:=h
  rfl
 ·obtain⟨a,ns,p,z,rfl,hl,k⟩:=h
  refine⟨_,ad (aB (i:=3) tJ.nd rfl (.inl rfl) ag)
   (ad (bw PassesOwn.never rfl (rK rfl grv (aa (mR p9 (pv 0) (j3 (pv 1)) (j3 (aV dJ (pv 1) (pv 2)))) ac)) (au (i:=4) tJ.nd rfl (.inl rfl))
    (ae (aB (i:=3) tJ.nd rfl (.inl rfl) (aV dJ (aV dN ag (pv 3)) (pv 4)))))
   (ae (al (pv 3)))),?_⟩
  refine⟨_,rfl,_,rfl,_,rfl,_,rfl,_,rfl,_,_,rfl,rfl,_,rfl,a,_,rfl,hl.1,fun q hq=>?_⟩
  rw[Ap ns p z]
  have s1:ak H (upd H q (.lst (iV ((ns.drop p).take z)))):=aN hq
  refine⟨q,_,rfl,SqL.of af,yM (K:=K) (a:=q) (xs:=iV ((ns.drop p).take z)) (fun i σ H'=>H'=upd H q (.lst (iV ((ns.drop p).take z)))∧∃v,σ=[some (.ref a),some (.int (p:Int)),some (.int (z:Int)),some (.int (sw (((ns.drop p).take z).drop (((ns.drop p).take z).length-i)))),v])
   ⟨rfl,none,?_⟩ (fun i σ H' _ h=>by rw[h.1];exact SqL.of af) ?_ ?_⟩
  ·rw[Nat.sub_zero,List.drop_length]
   rfl
  ·rintro i y σ H' hi hy ⟨rfl,v,rfl⟩
   rw[lmp]at hi hy
   obtain⟨x,hx,rfl⟩:=qu hy
   refine⟨_,rfl,_,_,rfl,rfl,.inl ⟨by decide,by decide⟩,_,rfl,_,_,rfl,rfl,rfl,some (.int x),?_⟩
   rw[vC hi hx]
   rfl
  ·rintro σ H' ⟨rfl,v,rfl⟩
   refine⟨_,rfl,?_⟩
   have e:sw (((ns.drop p).take z).drop (((ns.drop p).take z).length-(iV ((ns.drop p).take z)).length))=rd ns p z:=by
    rw[lmp,Nat.sub_self,List.drop_zero]
    rfl
   rw[e]
   exact k _ s1
def wO (K:Frag):Sp:=fun vs H Q _=>∃(a:Addr) (ns:List Int),vs=[.ref a]∧LI K H a ns∧∀H':Hp,ak H H'→Q (.int (told ns)) H'
theorem pE:aq ["cartoon","points","lines","marks"] ["cartoon"] (ah eT):=⟨rfl,rfl,rfl,by decide +kernel,rfl,by decide +kernel,by decide +kernel⟩
theorem yu (F:Has K mg "told_length" eT ["cartoon"]) (gHB:∃t,mg "HEAD_BYTES"=some (.int 20 t)) (gPB:∃t,mg "POINT_BYTES"=some (.int 8 t)) (gLB:∃t,mg "LINE_BYTES"=some (.int 4 t)) (gMB:∃t,mg "MARK_BYTES"=some (.int 12 t))
  (C1:Cb P w K mg base 1 "number_at" ["cartoon","place","size"] (pc K)):Cb P w K mg base 2 "told_length" ["cartoon"] (wO K):=by
 refine F.cb pE (fun vs H Q E h=>?_) (fun f cdv A outer s H vs Q E hr h=>?_)
 ·obtain⟨a,ns,rfl,_⟩:=h
  rfl
 ·obtain⟨a,ns,rfl,hl,k⟩:=h
  refine⟨_,ad (aB (i:=1) pE.nd rfl (.inl rfl) (aF C1 hr (aa (pv 0) (aa ag (aa ag ac)))))
   (ad (aB (i:=2) pE.nd rfl (.inl rfl) (aF C1 hr (aa (pv 0) (aa ag (aa ag ac)))))
   (ad (aB (i:=3) pE.nd rfl (.inl rfl) (aF C1 hr (aa (pv 0) (aa ag (aa ag ac)))))
   (ae (al (aV dJ (aV dJ (aV dJ (bv gHB) (aV dN (bv gPB) (pv 1))) (aV dN (bv gLB) (pv 2))) (aV dN (bv gMB) (pv 3))))))),?_⟩
  refine⟨_,rfl,a,ns,12,2,rfl,hl,fun H1 s1=>?_⟩
  refine⟨_,rfl,a,ns,14,2,rfl,hl.same s1,fun H2 s2=>?_⟩
  refine⟨_,rfl,a,ns,16,2,rfl,hl.same (s1.trans s2),fun H3 s3=>?_⟩
  exact⟨_,rfl,_,_,rfl,rfl,.inl ⟨by decide,by decide⟩,_,_,rfl,rfl,_,rfl,_,_,rfl,rfl,.inl ⟨by decide,by decide⟩,_,_,rfl,rfl,_,rfl,_,_,rfl,rfl,.inl ⟨by decide,by decide⟩,_,_,rfl,rfl,k _ (s1.trans (s2.trans s3))⟩
def Af (K:Frag)(mg:Str→Option Value)(x:Str)(r:List Int):Prop:=∃a,mg x=some (.ref a)∧∀H:Hp,SqT K H a (iV r)
def wo (K:Frag)(mg:Str→Option Value)(x:Str)(rows:List (List Int)):Prop:=∃(a:Addr) (bs:List Addr),mg x=some (.ref a)∧bs.length=rows.length∧(∀H:Hp,SqT K H a (bs.map V.ref))∧∀(H:Hp) (i:Nat) (b:Addr) (r:List Int),bs[i]? = some b→rows[i]? = some r→SqT K H b (iV r)
def dG (o:Option (Int×Int))(H:Hp)(Q:VK):Prop:=match o with
 |none=>∀H':Hp,ak H H'→Q .non H'
 |some (r,p)=>∀(H':Hp) (q:Addr),ak H H'→H' q=some (.tup [.int r,.int p])→Q (.ref q) H'
theorem dG.some' {H H1:Hp}{Q:VK}{r p:Int}(k:dG (some (r,p)) H Q)(s:ak H H1):∀q,H1 q=none→Q (.ref q) (upd H1 q (.tup [.int r,.int p])):=fun q hq=>k _ q (a5 s hq) af
theorem vR (r q:List Int):PyData.eqv (.list (r.map PyData.int)) (.list (q.map PyData.int))=decide (r=q):=je r q
def C0 (K:Frag):Sp:=fun vs H Q _=>∃(a:Addr) (ns:List Int),vs=[.ref a]∧LI K H a ns∧dG (dM ns) H Q
theorem we:aq ["cartoon","place","size","least","greatest"] ["cartoon"] (ah dH):=⟨rfl,rfl,rfl,by decide +kernel,rfl,by decide +kernel,by decide +kernel⟩
theorem B2 (ns:List Int):oa (iV ns) none (some 4)=iV (ns.take 4):=by
 unfold oa
 have e:(4:Int)=((4:Nat):Int):=rfl
 rw[HT.sIx_none,e,HT.sIx_nat,List.drop_zero,iV,Nat.sub_zero,←List.map_take,lmp]
 congr 1
 by_cases c:4≤ns.length
 ·rw[Nat.min_eq_left c]
 ·rw[Nat.min_eq_right (by omega),List.take_of_length_le (by omega),List.take_of_length_le (by omega)]
theorem BD (F:Has K mg "fault_of_bytes" dH ["cartoon"]) (gl:mg "len"=none) (gli:mg "list"=none) (gHB:∃t,mg "HEAD_BYTES"=some (.int 20 t)) (gS:Af K mg "SIGN" jT) (gH:wo K mg "HEAD_NUMBERS" fg)
  (C1:Cb P w K mg base 1 "number_at" ["cartoon","place","size"] (pc K)) (C2:Cb P w K mg base 2 "told_length" ["cartoon"] (wO K)):Cb P w K mg base 3 "fault_of_bytes" ["cartoon"] (C0 K):=by
 refine F.cb we (fun vs H Q E h=>?_) (fun f cdv A outer s H vs Q E hr h=>?_)
 ·obtain⟨a,ns,rfl,_⟩:=h
  rfl
 ·obtain⟨a,ns,rfl,hl,k⟩:=h
  obtain⟨sa,gS1,gS2⟩:=gS
  obtain⟨ha,bs,gH1,gHl,gH2,gH3⟩:=gH
  have hr1:bu 1 _:=hr.mono (by decide)
  have hu:=hr.units
  refine⟨_,ad (a6 (aK gq (aW aO (by rfl) gl PySem.boot_len (aa (pv 0) ac)) (bv gHB) (aI _)) (ae (al (bA (aa ag (aa (aW aO (by rfl) gl PySem.boot_len (aa (pv 0) ac)) ac))))) aJ)
   (ad (a6 (aK (AK hu) (mR p9 (pv 0) yD (j3 ag)) (vh p7 (by rfl) gli mI (aa (pX (v:=.ref sa) (by rfl) gS1 rfl) ac)) (aI _)) (ae (al (bA (aa ag (aa ag ac))))) aJ)
   (ad (bw PassesOwn.never rfl (sV (pX (v:=.ref ha) (by rfl) gH1 rfl)) (cS (n:=4) rfl (aL (au (i:=1) we.nd rfl (.inl rfl)) (aL (au (i:=2) we.nd rfl (.inl rfl)) (aL (au (i:=3) we.nd rfl (.inl rfl)) (aL (au (i:=4) we.nd rfl (.inl rfl)) bW)))))
    (ae (a6 (jM (md ly ly (pv 3) (aF C1 hr1 (aa (pv 0) (aa (pv 1) (aa (pv 2) ac)))) (pv 4))) (ae (al (bA (aa ag (aa (pv 1) ac))))) aJ)))
   (ad (a6 (aK xJ (aW aO (by rfl) gl PySem.boot_len (aa (pv 0) ac)) (aF C2 hr (aa (pv 0) ac)) (aI _)) (ae (al (bA (aa ag (aa (bv gHB) ac))))) aJ)
   (ae (al bc))))),?_⟩
  refine⟨_,rfl,a,_,rfl,.inl hl.1,_,_,rfl,rfl,_,rfl,aS (fun c=>?_) (fun c=>?_)⟩
  ·have c1:(((iV ns).length:Nat):Int)<20:=of_decide_eq_true c
   rw[lmp]at c1
   have e:dM ns=some (1,(ns.length:Int)):=by
    unfold dM
    rw[if_pos (by omega)]
   rw[e]at k
   refine⟨_,rfl,a,_,rfl,.inl hl.1,(by show 2≤sizeLine;decide),fun q hq=>?_⟩
   rw[lmp]
   exact k.some' (ak.refl H) q hq
  ·have c1:¬(((iV ns).length:Nat):Int)<20:=fun q=>c (dqt q)
   rw[lmp]at c1
   refine⟨_,rfl,_,rfl,a,_,rfl,hl.1,fun q hq=>?_⟩
   rw[B2 ns]
   have s1:ak H (upd H q (.lst (iV (ns.take 4)))):=aN hq
   refine⟨sa,_,rfl,.inr (gS2 _),fun q2 hq2=>?_⟩
   have s2:ak H (upd (upd H q (.lst (iV (ns.take 4)))) q2 (.lst (iV jT))):=a5 s1 hq2
   have nq:q≠q2:=fun z=>by rw[←z,af]at hq2;cases hq2
   refine⟨.list ((ns.take 4).map PyData.int),.list (jT.map PyData.int),.lst (SqL.of (by rw[ap nq];exact af)) (fR _),.lst (SqL.of af) (fR _),?_,?_,?_⟩
   ·show(PyData.canLay0 (.list ((ns.take 4).map PyData.int))&&decide ((PyData.list ((ns.take 4).map PyData.int)).depth≤64))=true
    rw[show PyData.canLay0 (.list ((ns.take 4).map PyData.int))=true from gf _,Bool.true_and]
    refine dqt ?_
    show PyData.depthAll ((ns.take 4).map PyData.int)+1≤64
    have:=jD (ns.take 4)
    omega
   ·decide +kernel
   rw[vR]
   refine⟨_,rfl,aS (fun c2=>?_) (fun c2=>?_)⟩
   ·have c3:ns.take 4≠jT:=fun z=>by
     rw[dqt z]at c2
     exact absurd c2 (by decide)
    have e:dM ns=some (1,0):=by
     unfold dM
     rw[if_neg (by omega),if_pos c3]
    rw[e]at k
    exact⟨(by show 2≤sizeLine;decide),fun q3 hq3=>k.some' s2 q3 hq3⟩
   ·have c3:ns.take 4=jT:=by
     by_cases z:ns.take 4=jT
     ·exact z
     ·rw[dqf z]at c2
      exact absurd rfl c2
    have e:dM ns=match fg.find? (fun r=>!eO ns r) with
      |some r=>some (2,r.getD 0 0)
      |none=>if (ns.length:Int)≠told ns then some (3,20) else none:=by
     unfold dM
     rw[if_neg (by omega),if_neg (fun z=>z c3)]<;>rfl
    generalize upd (upd H q (.lst (iV (ns.take 4)))) q2 (.lst (iV jT))=H2 at s2
    refine⟨ha,rfl,⟨_,gH2 _⟩,qr (K:=K) (a:=ha) (xs:=bs.map V.ref) (fun i σ H'=>ak H H'∧(∃v1 v2 v3 v4,σ=[some (.ref a),v1,v2,v3,v4])∧∀(j:Nat) (r:List Int),j<i→fg[j]? = some r→eO ns r=true)
     ⟨s2,⟨none,none,none,none,rfl⟩,fun j r h=>absurd h (Nat.not_lt_zero _)⟩ (fun i σ H' _ _=>gH2 H') ?_ ?_⟩
    ·rintro i y σ H' hi ⟨hS,⟨v1,v2,v3,v4,rfl⟩,hok⟩
     obtain⟨b,hb,rfl⟩:=cq hi
     have hib:i<fg.length:=by rw[←gHl];exact(gsi hb).1
     have h0:fg[i]? = some fg[i]:=gge hib
     have hrow:=gH3 H' i b fg[i] hb h0
     obtain⟨p0,z0,lo,hi0,e4⟩:∃(p0 z0:Nat) (lo hi0:Int),fg[i]=[(p0:Int),(z0:Int),lo,hi0]:=by
      have:i=0∨i=1∨i=2∨i=3∨i=4∨i=5:=by
       have:fg.length=6:=rfl
       omega
      rcases this with rfl|rfl|rfl|rfl|rfl|rfl
      ·exact⟨4,4,16,1048575,rfl⟩
      ·exact⟨8,4,16,1048575,rfl⟩
      ·exact⟨12,2,4,4096,rfl⟩
      ·exact⟨14,2,4,8192,rfl⟩
      ·exact⟨16,2,1,2048,rfl⟩
      ·exact⟨18,2,0,0,rfl⟩
     rw[e4]at hrow h0
     have hoke:eO ns [(p0:Int),(z0:Int),lo,hi0]=(decide (lo≤rd ns p0 z0)&&decide (rd ns p0 z0≤hi0)):=by
      show(decide (lo≤rd ns ((p0:Int)).toNat ((z0:Int)).toNat)&&decide (rd ns ((p0:Int)).toNat ((z0:Int)).toNat≤hi0))=_
      rw[Int.toNat_natCast,Int.toNat_natCast]
     have bad:eO ns [(p0:Int),(z0:Int),lo,hi0]=false→dM ns=some (2,(p0:Int)):=fun hb=>by
      have hf:fg.find? (fun r=>!eO ns r)=some [(p0:Int),(z0:Int),lo,hi0]:=by
       rw[List.find?_eq_some_iff_getElem]
       refine⟨by rw[hb];rfl,i,hib,e4,fun j hj=>?_⟩
       have:=hok j fg[j] hj (gge (by omega))
       rw[this];rfl
      rw[e,hf]
      rfl
     refine⟨b,_,rfl,hrow,rfl,_,_,rfl,_,_,rfl,_,_,rfl,_,_,rfl,rfl,?_⟩
     refine⟨_,rfl,_,rfl,_,rfl,_,rfl,a,ns,p0,z0,rfl,hl.same hS,fun H3 s3=>?_⟩
     have hS3:=hS.trans s3
     refine⟨_,_,rfl,rfl,_,rfl,aS (fun d=>?_) (fun d=>?_)⟩
     ·refine⟨_,rfl,_,_,rfl,rfl,_,rfl,aS (fun d2=>?_) (fun d2=>?_)⟩
      ·have:decide (rd ns p0 z0≤hi0)=false:=by
        cases q4:decide (rd ns p0 z0≤hi0) with
        |false=>rfl
        |true=>rw[q4]at d2;exact absurd d2 (by decide)
       have hb2:=bad (by rw[hoke,this,Bool.and_false])
       rw[hb2]at k
       exact⟨_,rfl,(by show 2≤sizeLine;decide),fun q3 hq3=>k.some' hS3 q3 hq3⟩
      ·have d2':decide (rd ns p0 z0≤hi0)=true:=by
        cases q4:decide (rd ns p0 z0≤hi0) with
        |true=>rfl
        |false=>rw[q4]at d2;exact absurd rfl d2
       refine⟨hS3,⟨_,_,_,_,rfl⟩,fun j r hj hjr=>?_⟩
       by_cases cj:j<i
       ·exact hok j r cj hjr
       ·have:j=i:=by omega
        subst this
        rw[h0]at hjr
        have hjr:=osi hjr
        rw[←hjr,hoke,d,d2']
        rfl
     ·refine⟨_,rfl,?_⟩
      have d':decide (lo≤rd ns p0 z0)=false:=by
       cases q4:decide (lo≤rd ns p0 z0) with
       |false=>rfl
       |true=>exact absurd q4 d
      have hb2:=bad (by rw[hoke,d',Bool.false_and])
      rw[hb2]at k
      refine eA ?_
      exact⟨_,rfl,(by show 2≤sizeLine;decide),fun q3 hq3=>k.some' hS3 q3 hq3⟩
    ·rintro σ H' ⟨hS,⟨v1,v2,v3,v4,rfl⟩,hok⟩
     have hf:fg.find? (fun r=>!eO ns r)=none:=by
      rw[List.find?_eq_none]
      intro r hr2
      obtain⟨j,hj,rfl⟩:=List.getElem_of_mem hr2
      rw[hok j fg[j] (by rw[lmp,gHl];exact hj) (gge hj)]
      decide
     rw[hf]at e
     simp only at e
     refine⟨_,rfl,a,_,rfl,.inl (hS.seq hl.1),_,rfl,a,ns,rfl,hl.same hS,fun H3 s3=>?_⟩
     have hS3:=hS.trans s3
     refine⟨rfl,_,rfl,aS (fun d=>?_) (fun d=>?_)⟩
     ·have d1:(ns.length:Int)≠told ns:=fun z=>by
       have:(decide (V.int (((iV ns).length:Nat):Int)=V.int (told ns)))=true:=dqt (by rw[lmp,z])
       rw[this]at d
       exact absurd d (by decide)
      rw[e,if_pos d1]at k
      exact⟨(by show 2≤sizeLine;decide),fun q3 hq3=>k.some' hS3 q3 hq3⟩
     ·have d1:(ns.length:Int)=told ns:=by
       by_cases z:V.int (((iV ns).length:Nat):Int)=V.int (told ns)
       ·have:=V.int.inj z
        rw[lmp]at this
        exact this
       ·rw[dqf z]at d
        exact absurd rfl d
      rw[e,if_neg (fun z=>z d1)]at k
      exact k H3 hS3
end
open PySem PySem.Spec PyProof.Rows L2 Wg Wx CM
section
variable  {P:Program}{w:World}{K:Frag}{mg:Str→Option Value}{base:Heap}{C:Addr}
def Bg (r:List Int)(H:Hp)(Q:VK):Prop:=∀(H':Hp) (q:Addr),ak H H'→H' q=some (.tup (iV r))→Q (.ref q) H'
def AH (K:Frag):Sp:=fun vs H Q _=>∃(a:Addr) (ns:List Int) (p:Nat),vs=[.ref a,.int (p:Int)]∧LI K H a ns∧Bg [rd ns p 4,rd ns (p+4) 4] H Q
theorem D6:aq ["cartoon","place"] ["cartoon","place"] (ah fk):=⟨rfl,rfl,rfl,by decide +kernel,rfl,by decide +kernel,by decide +kernel⟩
theorem B5 (F:Has K mg "read_point" fk ["cartoon","place"]) (C1:Cb P w K mg base 1 "number_at" ["cartoon","place","size"] (pc K)):Cb P w K mg base 2 "read_point" ["cartoon","place"] (AH K):=by
 refine F.cb D6 (fun vs H Q E h=>?_) (fun f cdv A outer s H vs Q E hr h=>?_)
 ·obtain⟨a,ns,p,rfl,_⟩:=h
  rfl
 ·obtain⟨a,ns,p,rfl,hl,k⟩:=h
  refine⟨_,ae (al (bA (aa (aF C1 hr (aa (pv 0) (aa (pv 1) (aa ag ac)))) (aa (aF C1 hr (aa (pv 0) (aa (aV dJ (pv 1) ag) (aa ag ac)))) ac)))),?_⟩
  refine⟨_,rfl,_,rfl,a,ns,p,4,rfl,hl,fun H1 s1=>?_⟩
  refine⟨_,rfl,_,rfl,_,_,rfl,rfl,a,ns,p+4,4,?_,hl.same s1,fun H2 s2=>?_⟩
  ·show [V.ref a,V.int ((p:Int)+4),V.int 4]=[V.ref a,V.int ((p+4:Nat):Int),V.int ((4:Nat):Int)]
   rw[Int.natCast_add]
   rfl
  exact⟨(by show 2≤sizeLine;decide),fun q hq=>k _ q (a5 (s1.trans s2) hq) af⟩
def zY (K:Frag):Sp:=fun vs H Q _=>∃(a:Addr) (ns:List Int) (p:Nat),vs=[.ref a,.int (p:Int)]∧LI K H a ns∧Bg [rd ns p 2,rd ns (p+2) 2] H Q
theorem Ev:aq ["cartoon","place"] ["cartoon","place"] (ah gd):=⟨rfl,rfl,rfl,by decide +kernel,rfl,by decide +kernel,by decide +kernel⟩
theorem BJ (F:Has K mg "read_line" gd ["cartoon","place"]) (C1:Cb P w K mg base 1 "number_at" ["cartoon","place","size"] (pc K)):Cb P w K mg base 2 "read_line" ["cartoon","place"] (zY K):=by
 refine F.cb Ev (fun vs H Q E h=>?_) (fun f cdv A outer s H vs Q E hr h=>?_)
 ·obtain⟨a,ns,p,rfl,_⟩:=h
  rfl
 ·obtain⟨a,ns,p,rfl,hl,k⟩:=h
  refine⟨_,ae (al (bA (aa (aF C1 hr (aa (pv 0) (aa (pv 1) (aa ag ac)))) (aa (aF C1 hr (aa (pv 0) (aa (aV dJ (pv 1) ag) (aa ag ac)))) ac)))),?_⟩
  refine⟨_,rfl,_,rfl,a,ns,p,2,rfl,hl,fun H1 s1=>?_⟩
  refine⟨_,rfl,_,rfl,_,_,rfl,rfl,a,ns,p+2,2,?_,hl.same s1,fun H2 s2=>?_⟩
  ·show [V.ref a,V.int ((p:Int)+2),V.int 2]=[V.ref a,V.int ((p+2:Nat):Int),V.int ((2:Nat):Int)]
   rw[Int.natCast_add]
   rfl
  exact⟨(by show 2≤sizeLine;decide),fun q hq=>k _ q (a5 (s1.trans s2) hq) af⟩
def DI (K:Frag):Sp:=fun vs H Q _=>∃(a:Addr) (ns:List Int) (p:Nat),vs=[.ref a,.int (p:Int)]∧LI K H a ns∧Bg [rd ns p 4,rd ns (p+4) 4,rd ns (p+8) 2,rd ns (p+10) 2] H Q
theorem Eg:aq ["cartoon","place"] ["cartoon","place"] (ah gt):=⟨rfl,rfl,rfl,by decide +kernel,rfl,by decide +kernel,by decide +kernel⟩
theorem CG (F:Has K mg "read_mark" gt ["cartoon","place"]) (C1:Cb P w K mg base 2 "read_point" ["cartoon","place"] (AH K)) (C2:Cb P w K mg base 2 "read_line" ["cartoon","place"] (zY K)):Cb P w K mg base 3 "read_mark" ["cartoon","place"] (DI K):=by
 refine F.cb Eg (fun vs H Q E h=>?_) (fun f cdv A outer s H vs Q E hr h=>?_)
 ·obtain⟨a,ns,p,rfl,_⟩:=h
  rfl
 ·obtain⟨a,ns,p,rfl,hl,k⟩:=h
  refine⟨_,ae (al (aV yO (aF C1 hr (aa (pv 0) (aa (pv 1) ac))) (aF C2 hr (aa (pv 0) (aa (aV dJ (pv 1) ag) ac))))),?_⟩
  refine⟨_,rfl,_,rfl,a,ns,p,rfl,hl,fun H1 q1 s1 h1=>?_⟩
  refine⟨_,rfl,_,rfl,_,_,rfl,rfl,a,ns,p+8,?_,hl.same s1,fun H2 q2 s2 h2=>?_⟩
  ·show [V.ref a,V.int ((p:Int)+8)]=[V.ref a,V.int ((p+8:Nat):Int)]
   rw[Int.natCast_add]
   rfl
  refine⟨q1,q2,_,_,rfl,rfl,SqT.of (s2 _ _ h1),SqT.of h2,(by intro z;cases z),(by show 4≤sizeLine;decide),fun z=>absurd z (by intro z;cases z),fun _ q hq=>?_⟩
  exact k _ q (a5 (s1.trans s2) hq) af
theorem rgc {lo c:Int}{n:Nat}(hc:0<c)(hc2:c≤1000)(h0:0≤lo)(h1:lo≤1000000000)(hn:n≤1000000):RgC lo (lo+c*(n:Int)) c n:=by
 have hm:0≤c*(n:Int):=Int.mul_nonneg (by omega) (by omega)
 have hm2:c*(n:Int)≤1000*1000000:=Int.mul_le_mul (by omega) (by omega) (by omega) (by omega)
 have hs:Builtin.Range.rangeSize lo (lo+c*(n:Int)) c=n:=by
  unfold Builtin.Range.rangeSize
  rw[if_pos hc]
  by_cases hz:n=0
  ·subst hz
   rw[if_neg (by simp)]
   rfl
  ·have hp:0<c*(n:Int):=Int.mul_pos hc (by omega)
   rw[if_pos (by omega)]
   have e:lo+c*(n:Int)-lo-1=(c-1)+c*((n:Int)-1):=by grind
   rw[e,Int.add_mul_ediv_left _ _ (by omega:c≠0),Int.ediv_eq_zero_of_lt (by omega) (by omega)]
   omega
 refine⟨by omega,by omega,?_,hs⟩
 unfold Builtin.Range.small
 rw[hs]
 have e2:c > 0:=hc
 simp only[Builtin.Range.rangeFitsLong,Bool.and_eq_true,Bool.or_eq_true,decide_eq_true_eq,beq_iff_eq,e2,if_true]
 generalize c*(n:Int)=m at *
 omega
def CS (K:Frag)(C:Addr):Sp:=fun vs H Q _=>∃(a:Addr) (ns:List Int),vs=[.ref a]∧LI K H a ns∧Byt ns∧(ns.length:Int)=told ns∧∀(H':Hp) (d:Addr),ak H H'→bz C H' d (Gla.parts (toB ns))→Q (.ref d) H'
theorem pI:aq ["cartoon","first_line","first_mark","points","lines","marks","place"] ["cartoon"] (ah bT):=⟨rfl,rfl,rfl,by decide +kernel,rfl,by decide +kernel,by decide +kernel⟩
theorem Ch (F:Has K mg "read_drawing" bT ["cartoon"]) (T:DCl K mg C) (gl:mg "len"=none) (gr:mg "range"=none) (gHB:∃t,mg "HEAD_BYTES"=some (.int 20 t)) (gPB:∃t,mg "POINT_BYTES"=some (.int 8 t)) (gLB:∃t,mg "LINE_BYTES"=some (.int 4 t)) (gMB:∃t,mg "MARK_BYTES"=some (.int 12 t))
  (C1:Cb P w K mg base 1 "number_at" ["cartoon","place","size"] (pc K)) (C2:Cb P w K mg base 2 "read_point" ["cartoon","place"] (AH K)) (C3:Cb P w K mg base 2 "read_line" ["cartoon","place"] (zY K)) (C4:Cb P w K mg base 3 "read_mark" ["cartoon","place"] (DI K))
  (C5:Ci P w K mg base 1 C ["self","width","height","points","lines","marks"] (Bv C)):Cb P w K mg base 4 "read_drawing" ["cartoon"] (CS K C):=by
 refine F.cb pI (fun vs H Q E h=>?_) (fun f cdv A outer s H vs Q E hr h=>?_)
 ·obtain⟨a,ns,rfl,_⟩:=h
  rfl
 ·obtain⟨a,ns,rfl,hl,hb,hlen,k⟩:=h
  have hr1:bu 1 _:=hr.mono (by decide)
  have hr2:bu 2 _:=hr.mono (by decide)
  refine⟨_,ad (aB (i:=1) pI.nd rfl (.inl rfl) (aV dJ (bv gHB) (aV dN (bv gPB) (aF C1 hr1 (aa (pv 0) (aa ag (aa ag ac)))))))
   (ad (aB (i:=2) pI.nd rfl (.inl rfl) (aV dJ (pv 1) (aV dN (bv gLB) (aF C1 hr1 (aa (pv 0) (aa ag (aa ag ac)))))))
   (ad (cv (i:=3) (own:=[("place",6)]) rfl pI.nd rfl rfl (dD rfl rfl rfl (by decide +kernel)) (lf rfl gr (aa (bv gHB) (aa (pv 1) (aa (bv gPB) ac)))) (bL (by show iG ["cartoon","first_line","first_mark","points","lines","marks","place"] (ah bT) _ _=true;decide +kernel))
    (fun _ _ _ _ _=>au (i:=6) pI.nd rfl (.inl rfl) (.inr rfl)) (fun _ _ _ _ _=>eV) (fun _ _ _ _ _=>aF C2 hr2 (aa (pv 0) (aa (pv 6) ac))))
   (ad (cv (i:=4) (own:=[("place",6)]) rfl pI.nd rfl rfl (dD rfl rfl rfl (by decide +kernel)) (lf rfl gr (aa (pv 1) (aa (pv 2) (aa (bv gLB) ac)))) (bL (by show iG ["cartoon","first_line","first_mark","points","lines","marks","place"] (ah bT) _ _=true;decide +kernel))
    (fun _ _ _ _ _=>au (i:=6) pI.nd rfl (.inl rfl) (.inr rfl)) (fun _ _ _ _ _=>eV) (fun _ _ _ _ _=>aF C3 hr2 (aa (pv 0) (aa (pv 6) ac))))
   (ad (cv (i:=5) (own:=[("place",6)]) rfl pI.nd rfl rfl (dD rfl rfl rfl (by decide +kernel)) (lf rfl gr (aa (pv 2) (aa (aW aO (by rfl) gl PySem.boot_len (aa (pv 0) ac)) (aa (bv gMB) ac)))) (bL (by show iG ["cartoon","first_line","first_mark","points","lines","marks","place"] (ah bT) _ _=true;decide +kernel))
    (fun _ _ _ _ _=>au (i:=6) pI.nd rfl (.inl rfl) (.inr rfl)) (fun _ _ _ _ _=>eV) (fun _ _ _ _ _=>aF C4 hr (aa (pv 0) (aa (pv 6) ac))))
   (ae (al (oF C5 hr2 T.mgC (aa (aF C1 hr1 (aa (pv 0) (aa ag (aa ag ac)))) (aa (aF C1 hr1 (aa (pv 0) (aa ag (aa ag ac)))) (aa (pv 3) (aa (pv 4) (aa (pv 5) ac)))))))))))),?_⟩
  have b12:=sE hb 12
  have b14:=sE hb 14
  have b16:=sE hb 16
  have eP:rd ns 12 2=((P_ ns:Nat):Int):=by unfold P_;omega
  have eL:rd ns 14 2=((L_ ns:Nat):Int):=by unfold L_;omega
  have eM:rd ns 16 2=((M_ ns:Nat):Int):=by unfold M_;omega
  refine⟨_,rfl,a,ns,12,2,rfl,hl,fun H1 s1=>⟨_,_,rfl,rfl,.inl ⟨by decide,by decide⟩,_,_,rfl,rfl,?_⟩⟩
  refine⟨_,rfl,_,rfl,a,ns,14,2,rfl,hl.same s1,fun H2 s2=>⟨_,_,rfl,rfl,.inl ⟨by decide,by decide⟩,_,_,rfl,rfl,?_⟩⟩
  have sA:=s1.trans s2
  rw[eP,eL]
  have hP:(kU ns).length=P_ ns:=by unfold kU;rw[lmp,List.length_range]
  have hL:(kD ns).length=L_ ns:=by unfold kD;rw[lmp,List.length_range]
  have hM:(k8 ns).length=M_ ns:=by unfold k8;rw[lmp,List.length_range]
  refine⟨_,rfl,_,_,_,P_ ns,rfl,rgc (by decide) (by decide) (by decide) (by decide) (by omega),fun D hD=>?_⟩
  have hD0:=sA.free hD
  refine kP (fun i H'=>PvR H D (kU ns) i H') (PvR.start sA hD) ?_ ?_
  ·intro i H' hi pv'
   refine⟨rfl,nY (eA ?_)⟩
   refine⟨_,rfl,_,rfl,a,ns,20+8*i,?_,hl.same pv'.same,fun H3 q s3 hq=>?_⟩
   ·show [V.ref a,V.int (20+(i:Nat)*8)]=[V.ref a,V.int ((20+8*i:Nat):Int)]
    rw[show(20:Int)+(i:Nat)*8=((20+8*i:Nat):Int) by omega]
   have hDq:∃acc,H3 D=some (.lst acc):=by
    obtain⟨as,_,h2,_⟩:=pv'
    exact⟨_,s3 _ _ h2⟩
   have nq:q≠D:=fun z=>by
    obtain⟨acc,h2⟩:=hDq
    rw[z,h2]at hq
    cases hq
   exact pv'.turn hD0 (by rw[hP];omega) (by unfold kU;rw[List.getElem?_map,List.getElem?_range hi];rfl) s3 hq nq
  intro H3 pv3
  obtain⟨s3,t3⟩:=pv3.done (by rw[hP];exact nlr _)
  refine⟨_,rfl,_,rfl,_,_,_,L_ ns,rfl,rgc (by decide) (by decide) (by omega) (by omega) (by omega),fun D2 hD2=>?_⟩
  have hD20:=s3.free hD2
  refine kP (fun i H'=>PvR H3 D2 (kD ns) i H') (PvR.start (ak.refl H3) hD2) ?_ ?_
  ·intro i H' hi pv'
   refine⟨rfl,nY (eA ?_)⟩
   refine⟨_,rfl,_,rfl,a,ns,20+8*P_ ns+4*i,?_,hl.same (s3.trans pv'.same),fun H4 q s4 hq=>?_⟩
   ·show [V.ref a,V.int (20+8*((P_ ns:Nat):Int)+(i:Nat)*4)]=[V.ref a,V.int ((20+8*P_ ns+4*i:Nat):Int)]
    rw[show(20:Int)+8*((P_ ns:Nat):Int)+(i:Nat)*4=((20+8*P_ ns+4*i:Nat):Int) by omega]
   have nq:q≠D2:=fun z=>by
    obtain⟨as,_,h2,_⟩:=pv'
    have h2:=s4 _ _ h2
    rw[z,h2]at hq
    cases hq
   exact pv'.turn hD2 (by rw[hL];omega) (by unfold kD;rw[List.getElem?_map,List.getElem?_range hi];rfl) s4 hq nq
  intro H4 pv4
  obtain⟨s4,t4⟩:=pv4.done (by rw[hL];exact nlr _)
  have hlM:(ns.length:Int)=20+8*((P_ ns:Nat):Int)+4*((L_ ns:Nat):Int)+12*((M_ ns:Nat):Int):=by
   rw[hlen]
   unfold told
   rw[eP,eL,eM]
  refine⟨_,rfl,_,rfl,a,_,rfl,.inl ((s3.trans s4).seq hl.1),_,_,_,M_ ns,rfl,?_,fun D5 hD5=>?_⟩
  ·rw[lmp,hlM]
   exact rgc (by decide) (by decide) (by omega) (by omega) (by omega)
  refine kP (fun i H'=>PvR H4 D5 (k8 ns) i H') (PvR.start (ak.refl H4) hD5) ?_ ?_
  ·intro i H' hi pv'
   refine⟨rfl,nY (eA ?_)⟩
   refine⟨_,rfl,_,rfl,a,ns,20+8*P_ ns+4*L_ ns+12*i,?_,hl.same (s3.trans (s4.trans pv'.same)),fun H5 q s5 hq=>?_⟩
   ·show [V.ref a,V.int (20+8*((P_ ns:Nat):Int)+4*((L_ ns:Nat):Int)+(i:Nat)*12)]=[V.ref a,V.int ((20+8*P_ ns+4*L_ ns+12*i:Nat):Int)]
    rw[show(20:Int)+8*((P_ ns:Nat):Int)+4*((L_ ns:Nat):Int)+(i:Nat)*12=((20+8*P_ ns+4*L_ ns+12*i:Nat):Int) by omega]
   have nq:q≠D5:=fun z=>by
    obtain⟨as,_,h2,_⟩:=pv'
    have h2:=s5 _ _ h2
    rw[z,h2]at hq
    cases hq
   exact pv'.turn hD5 (by rw[hM];omega) (by unfold k8;rw[List.getElem?_map,List.getElem?_range hi];rfl) s5 hq nq
  intro H5 pv5
  obtain⟨s5,t5⟩:=pv5.done (by rw[hM];exact nlr _)
  have sB:ak H H5:=s3.trans (s4.trans s5)
  refine⟨_,rfl,a,ns,4,4,rfl,hl.same sB,fun H6 s6=>?_⟩
  refine⟨_,rfl,a,ns,8,4,rfl,hl.same (sB.trans s6),fun H7 s7=>?_⟩
  refine⟨_,rfl,_,rfl,_,rfl,fun x dx nx ndx nex=>?_⟩
  refine⟨x,dx,_,_,D,D2,D5,rfl,af,fun H8 h8 kp=>⟨rfl,?_⟩⟩
  have s8:ak H7 H8:=ak.made nx ndx kp
  have sC:=s6.trans (s7.trans s8)
  refine k H8 x (sB.trans sC) ⟨dx,D,D2,D5,?_,?_,?_,?_⟩
  ·rw[h8]
   show some (HO.ins C dx (eY (rd ns 4 4) (rd ns 8 4) D D2 D5))=_
   rw[cT hb,cT hb]
   rfl
  ·rw[←uU hb]
   exact t3.same (s4.trans (s5.trans sC))
  ·rw[←uQ hb]
   exact t4.same (s5.trans sC)
  ·rw[←uR hb]
   exact t5.same sC
end
open PySem PySem.Spec PyProof.Rows L2 Wg Wx CM
open Gla (Pt)
def cH (K:Frag)(H:Hp)(a:Addr)(p:Pt):Prop:=(∃gK:List Int,SqT K H a (iV ((p.x:Int) :: (p.y:Int) :: gK)))∧p.x<4294967296∧p.y<4294967296
theorem cH.same {K:Frag}{H H':Hp}{a:Addr}{p:Pt}(h:cH K H a p)(s:ak H H'):cH K H' a p:=by
 obtain⟨⟨r,h1⟩,h2⟩:=h
 exact⟨⟨r,iZ s h1⟩,h2⟩
theorem aG {p:Prop}[Decidable p](h:¬decide p=true):¬p:=fun z=>h (dqt z)
theorem cC {b:Bool}(h:b=true→False):b=false:=by
 cases b with
 |false=>rfl
 |true=>exact(h rfl).elim
section
variable  {P:Program}{w:World}{K:Frag}{mg:Str→Option Value}{base:Heap}{C:Addr}
def kR (K:Frag):Sp:=fun vs H Q _=>∃(a b c:Addr) (p q r:Pt),vs=[.ref a,.ref b,.ref c]∧cH K H a p∧cH K H b q∧cH K H c r∧Q (.int (Gla.turn p q r)) H
theorem Ai:aq ["p","q","r"] ["p","q","r"] (ah pQ):=⟨rfl,rfl,rfl,by decide +kernel,rfl,by decide +kernel,by decide +kernel⟩
theorem yd (F:Has K mg "turn" pQ ["p","q","r"]):Cb P w K mg base 1 "turn" ["p","q","r"] (kR K):=by
 refine F.cb Ai (fun vs H Q E h=>?_) (fun f cdv A outer s H vs Q E hr h=>?_)
 ·obtain⟨a,b,c,p,q,r,rfl,_⟩:=h
  rfl
 ·obtain⟨a,b,c,p,q,r,rfl,⟨⟨rp,hp⟩,b1⟩,⟨⟨rq,hq⟩,b2⟩,⟨⟨rr,hr'⟩,b3⟩,k⟩:=h
  refine⟨_,ae (al (aV eG (aV dN (aV eG (aw aD (pv 1) ag (fun _ _=>rfl)) (aw aD (pv 0) ag (fun _ _=>rfl))) (aV eG (aw aD (pv 2) ag (fun _ _=>rfl)) (aw aD (pv 1) ag (fun _ _=>rfl)))) (aV dN (aV eG (aw aD (pv 1) ag (fun _ _=>rfl)) (aw aD (pv 0) ag (fun _ _=>rfl))) (aV eG (aw aD (pv 2) ag (fun _ _=>rfl)) (aw aD (pv 1) ag (fun _ _=>rfl)))))),?_⟩
  exact⟨_,rfl,b,_,_,_,rfl,rfl,hq,aA (j:=0) rfl rfl,_,rfl,a,_,_,_,rfl,rfl,hp,aA (j:=0) rfl rfl,_,_,rfl,rfl,_,rfl,c,_,_,_,rfl,rfl,hr',aA (j:=1) rfl rfl,_,rfl,b,_,_,_,rfl,rfl,hq,aA (j:=1) rfl rfl,_,_,rfl,rfl,_,_,rfl,rfl,.inl ⟨by omega,by omega⟩,_,rfl,b,_,_,_,rfl,rfl,hq,aA (j:=1) rfl rfl,_,rfl,a,_,_,_,rfl,rfl,hp,aA (j:=1) rfl rfl,_,_,rfl,rfl,_,rfl,c,_,_,_,rfl,rfl,hr',aA (j:=0) rfl rfl,_,rfl,b,_,_,_,rfl,rfl,hq,aA (j:=0) rfl rfl,_,_,rfl,rfl,_,_,rfl,rfl,.inl ⟨by omega,by omega⟩,_,_,rfl,rfl,k⟩
def wY (K:Frag):Sp:=fun vs H Q _=>∃(a b:Addr) (q p:Pt),vs=[.ref a,.ref b]∧cH K H a q∧cH K H b p∧∀H':Hp,ak H H'→Q (.bl (p.below q)) H'
theorem Ep:aq ["q","p"] ["q","p"] (ah eo):=⟨rfl,rfl,rfl,by decide +kernel,rfl,by decide +kernel,by decide +kernel⟩
theorem vP (p q:Pt):gX [(q.y:Int),(q.x:Int)] [(p.y:Int),(p.x:Int)]=p.below q:=by
 rw[jH,jH]
 unfold Pt.below
 have e0:gX [] []=false:=rfl
 rw[e0,Bool.eq_iff_iff]
 by_cases c:(q.y:Int)=(p.y:Int)
 ·rw[if_pos c]
  by_cases d:(q.x:Int)=(p.x:Int)
  ·rw[if_pos d]
   simp
   omega
  ·rw[if_neg d]
   simp
   omega
 ·rw[if_neg c]
  simp
  omega
theorem CT (F:Has K mg "comes_behind" eo ["q","p"]):Cb P w K mg base 1 "comes_behind" ["q","p"] (wY K):=by
 refine F.cb Ep (fun vs H Q E h=>?_) (fun f cdv A outer s H vs Q E hr h=>?_)
 ·obtain⟨a,b,q,p,rfl,_⟩:=h
  rfl
 ·obtain⟨a,b,q,p,rfl,⟨⟨rq,hq⟩,_⟩,⟨⟨rp,hp⟩,_⟩,k⟩:=h
  refine⟨_,ae (al (cp (AV hr.units0) (bA (aa (aw aD (pv 0) ag (fun _ _=>rfl)) (aa (aw aD (pv 0) ag (fun _ _=>rfl)) ac))) (bA (aa (aw aD (pv 1) ag (fun _ _=>rfl)) (aa (aw aD (pv 1) ag (fun _ _=>rfl)) ac))) (aI _))),?_⟩
  refine⟨_,rfl,a,_,_,_,rfl,rfl,hq,aA (j:=1) rfl rfl,_,rfl,a,_,_,_,rfl,rfl,hq,aA (j:=0) rfl rfl,(by show 2≤sizeLine;decide),fun t ht=>?_⟩
  have s1:ak H (upd H t (.tup [.int (q.y:Int),.int (q.x:Int)])):=aN ht
  refine⟨_,rfl,b,_,_,_,rfl,rfl,(iZ s1 hp),aA (j:=1) rfl rfl,_,rfl,b,_,_,_,rfl,rfl,(iZ s1 hp),aA (j:=0) rfl rfl,(by show 2≤sizeLine;decide),fun u hu=>?_⟩
  have s2:=a5 (o:=.tup [.int (p.y:Int),.int (p.x:Int)]) s1 hu
  have ntu:t≠u:=fun z=>by rw[←z,af]at hu;cases hu
  refine⟨t,u,[(q.y:Int),(q.x:Int)],[(p.y:Int),(p.x:Int)],rfl,rfl,SqT.of (by rw[ap ntu];exact af),SqT.of af,?_⟩
  rw[vP]
  exact k _ s2
def vB (p q r:Pt):Bool:=Gla.between p.x q.x r.x&&Gla.between p.y q.y r.y
theorem tH {p q r:Pt}:vB p q r=true↔(min p.x q.x≤r.x∧r.x≤max p.x q.x)∧(min p.y q.y≤r.y∧r.y≤max p.y q.y):=by
 unfold vB Gla.between
 simp only[Bool.and_eq_true,decide_eq_true_eq]
def zp (K:Frag):Sp:=fun vs H Q _=>∃(a b c:Addr) (p q r:Pt),vs=[.ref a,.ref b,.ref c]∧cH K H a p∧cH K H b q∧cH K H c r∧Q (.bl (vB p q r)) H
theorem By:aq ["p","q","r"] ["p","q","r"] (ah gc):=⟨rfl,rfl,rfl,by decide +kernel,rfl,by decide +kernel,by decide +kernel⟩
theorem oe:bootBuiltins "min"=some (.builtin "min"):=by decide +kernel
theorem oS:bootBuiltins "max"=some (.builtin "max"):=by decide +kernel
theorem pK (a b:Nat):(if (b:Int)<(a:Int) then (b:Int) else (a:Int))=((min a b:Nat):Int):=by
 split<;>omega
theorem ss (a b:Nat):(if (b:Int) > (a:Int) then (b:Int) else (a:Int))=((max a b:Nat):Int):=by
 split<;>omega
theorem Ax (F:Has K mg "is_in_box" gc ["p","q","r"]) (gmi:mg "min"=none) (gma:mg "max"=none):Cb P w K mg base 1 "is_in_box" ["p","q","r"] (zp K):=by
 refine F.cb By (fun vs H Q E h=>?_) (fun f cdv A outer s H vs Q E hr h=>?_)
 ·obtain⟨a,b,c,p,q,r,rfl,_⟩:=h
  rfl
 ·obtain⟨a,b,c,p,q,r,rfl,⟨⟨rp,hp⟩,b1⟩,⟨⟨rq,hq⟩,b2⟩,⟨⟨rr,hr'⟩,b3⟩,k⟩:=h
  refine⟨_,ae (al (iI
   (kt ly ly (aW (oZ rfl) (by rfl) gmi oe (aa (aw aD (pv 0) ag (fun _ _=>rfl)) (aa (aw aD (pv 1) ag (fun _ _=>rfl)) ac))) (aw aD (pv 2) ag (fun _ _=>rfl)) (aW (oW rfl) (by rfl) gma oS (aa (aw aD (pv 0) ag (fun _ _=>rfl)) (aa (aw aD (pv 1) ag (fun _ _=>rfl)) ac))))
   (eQ (kt ly ly (aW (oZ rfl) (by rfl) gmi oe (aa (aw aD (pv 0) ag (fun _ _=>rfl)) (aa (aw aD (pv 1) ag (fun _ _=>rfl)) ac))) (aw aD (pv 2) ag (fun _ _=>rfl)) (aW (oW rfl) (by rfl) gma oS (aa (aw aD (pv 0) ag (fun _ _=>rfl)) (aa (aw aD (pv 1) ag (fun _ _=>rfl)) ac))))))),?_⟩
  have no:¬((min p.x q.x≤r.x∧r.x≤max p.x q.x)∧(min p.y q.y≤r.y∧r.y≤max p.y q.y))→Q (.bl false) H:=fun z=>by
   rw[cC fun e=>z (tH.1 e)]at k
   exact k
  refine⟨_,rfl,a,_,_,_,rfl,rfl,hp,aA (j:=0) rfl rfl,_,rfl,b,_,_,_,rfl,rfl,hq,aA (j:=0) rfl rfl,_,_,rfl,_,rfl,c,_,_,_,rfl,rfl,hr',aA (j:=0) rfl rfl,_,_,rfl,rfl,_,rfl,aS (fun c1=>?_) (fun c1=>?_)⟩
  ·have c1:=of_decide_eq_true c1
   rw[pK]at c1
   refine⟨_,rfl,a,_,_,_,rfl,rfl,hp,aA (j:=0) rfl rfl,_,rfl,b,_,_,_,rfl,rfl,hq,aA (j:=0) rfl rfl,_,_,rfl,_,_,rfl,rfl,_,rfl,aS (fun c2=>?_) (fun c2=>?_)⟩
   ·have c2:=of_decide_eq_true c2
    rw[ss]at c2
    refine⟨_,rfl,a,_,_,_,rfl,rfl,hp,aA (j:=1) rfl rfl,_,rfl,b,_,_,_,rfl,rfl,hq,aA (j:=1) rfl rfl,_,_,rfl,_,rfl,c,_,_,_,rfl,rfl,hr',aA (j:=1) rfl rfl,_,_,rfl,rfl,_,rfl,aS (fun c3=>?_) (fun c3=>?_)⟩
    ·have c3:=of_decide_eq_true c3
     rw[pK]at c3
     refine⟨_,rfl,a,_,_,_,rfl,rfl,hp,aA (j:=1) rfl rfl,_,rfl,b,_,_,_,rfl,rfl,hq,aA (j:=1) rfl rfl,_,_,rfl,_,_,rfl,rfl,?_⟩
     rw[ss]
     have e:vB p q r=decide ((r.y:Int)≤((max p.y q.y:Nat):Int)):=by
      rw[Bool.eq_iff_iff,tH,decide_eq_true_eq]
      omega
     rw[e]at k
     exact k
    ·have c3:=aG c3
     rw[pK]at c3
     exact no (by omega)
   ·have c2:=aG c2
    rw[ss]at c2
    exact no (by omega)
  ·have c1:=aG c1
   rw[pK]at c1
   exact⟨_,rfl,jL (no (by omega))⟩
def zV (K:Frag):Sp:=fun vs H Q _=>∃(a b c:Addr) (p q r:Pt),vs=[.ref a,.ref b,.ref c]∧cH K H a p∧cH K H b q∧cH K H c r∧Q (.bl (Gla.isOn p q r)) H
theorem Eh:aq ["p","q","r"] ["p","q","r"] (ah l5):=⟨rfl,rfl,rfl,by decide +kernel,rfl,by decide +kernel,by decide +kernel⟩
theorem Cf (F:Has K mg "is_on" l5 ["p","q","r"]) (C1:Cb P w K mg base 1 "turn" ["p","q","r"] (kR K)) (C2:Cb P w K mg base 1 "is_in_box" ["p","q","r"] (zp K)):Cb P w K mg base 2 "is_on" ["p","q","r"] (zV K):=by
 refine F.cb Eh (fun vs H Q E h=>?_) (fun f cdv A outer s H vs Q E hr h=>?_)
 ·obtain⟨a,b,c,p,q,r,rfl,_⟩:=h
  rfl
 ·obtain⟨a,b,c,p,q,r,rfl,hp,hq,hr',k⟩:=h
  refine⟨_,ae (al (iI (cp ki (aF C1 hr (aa (pv 0) (aa (pv 1) (aa (pv 2) ac)))) ag (aI _)) (eQ (aF C2 hr (aa (pv 0) (aa (pv 1) (aa (pv 2) ac))))))),?_⟩
  refine⟨_,rfl,_,rfl,_,rfl,a,b,c,p,q,r,rfl,hp,hq,hr',rfl,_,rfl,aS (fun c1=>?_) (fun c1=>?_)⟩
  ·have c1:=V.int.inj (of_decide_eq_true c1)
   refine⟨_,rfl,_,rfl,_,rfl,a,b,c,p,q,r,rfl,hp,hq,hr',?_⟩
   have e:Gla.isOn p q r=vB p q r:=by
    unfold Gla.isOn vB
    rw[c1]
    rfl
   rw[e]at k
   exact k
  ·have e:Gla.isOn p q r=false:=by
    unfold Gla.isOn
    have:(Gla.turn p q r==0)=false:=by
     rw[beq_eq_false_iff_ne]
     intro z
     exact c1 (dqt (by rw[z]))
    rw[this]
    rfl
   rw[e]at k
   exact k
def rR (p q r s:Pt):Bool:=decide (Gla.turn p q r*Gla.turn p q s<0)
theorem rE (a b:Int):a*b<0↔(a<0∧0<b)∨(0<a∧b<0):=by
 constructor
 ·intro h
  rcases Int.lt_trichotomy a 0 with c|c|c
  ·left
   refine⟨c,?_⟩
   apply bcn
   intro d
   have:0≤(-a)*(-b):=Int.mul_nonneg (by omega) (by omega)
   grind
  ·rw[c]at h
   simp at h
  ·right
   refine⟨c,?_⟩
   apply bcn
   intro d
   have:0≤a*b:=Int.mul_nonneg (by omega) (by omega)
   omega
 ·rintro(⟨h1,h2⟩|⟨h1,h2⟩)
  ·exact Int.mul_neg_of_neg_of_pos h1 h2
  ·exact Int.mul_neg_of_pos_of_neg h1 h2
def xx (K:Frag):Sp:=fun vs H Q _=>∃(a b c d:Addr) (p q r s:Pt),vs=[.ref a,.ref b,.ref c,.ref d]∧cH K H a p∧cH K H b q∧cH K H c r∧cH K H d s∧Q (.bl (rR p q r s)) H
theorem tu:aq ["p","q","r","s","one","other"] ["p","q","r","s"] (ah fq):=⟨rfl,rfl,rfl,by decide +kernel,rfl,by decide +kernel,by decide +kernel⟩
theorem yf (F:Has K mg "are_parted" fq ["p","q","r","s"]) (C1:Cb P w K mg base 1 "turn" ["p","q","r"] (kR K)):Cb P w K mg base 2 "are_parted" ["p","q","r","s"] (xx K):=by
 refine F.cb tu (fun vs H Q E h=>?_) (fun f cdv A outer s H vs Q E hr h=>?_)
 ·obtain⟨a,b,c,d,p,q,r,s,rfl,_⟩:=h
  rfl
 ·obtain⟨a,b,c,d,p,q,r,s',rfl,hp,hq,hr',hs,k⟩:=h
  refine⟨_,ad (aB (i:=4) tu.nd rfl (.inl rfl) (aF C1 hr (aa (pv 0) (aa (pv 1) (aa (pv 2) ac)))))
   (ad (aB (i:=5) tu.nd rfl (.inl rfl) (aF C1 hr (aa (pv 0) (aa (pv 1) (aa (pv 3) ac)))))
   (ae (al (qG (iI (cp gq (pv 4) ag (aI _)) (eQ (cp d5 (pv 5) ag (aI _)))) (eQ (iI (cp d5 (pv 4) ag (aI _)) (eQ (cp gq (pv 5) ag (aI _))))))))),?_⟩
  refine⟨_,rfl,_,rfl,_,rfl,a,b,c,p,q,r,rfl,hp,hq,hr',?_⟩
  refine⟨_,rfl,_,rfl,_,rfl,a,b,d,p,q,s',rfl,hp,hq,hs,?_⟩
  have yes:(Gla.turn p q r<0∧0<Gla.turn p q s')∨(0<Gla.turn p q r∧Gla.turn p q s'<0)→Q (.bl true) H:=fun z=>by
   have e:rR p q r s'=true:=dqt ((rE _ _).2 z)
   rw[e]at k
   exact k
  have no:¬((Gla.turn p q r<0∧0<Gla.turn p q s')∨(0<Gla.turn p q r∧Gla.turn p q s'<0))→Q (.bl false) H:=fun z=>by
   have e:rR p q r s'=false:=dqf (fun y=>z ((rE _ _).1 y))
   rw[e]at k
   exact k
  have second:¬(Gla.turn p q r<0∧0<Gla.turn p q s')→zO (tOp (rI0 fun i j=>.bl (decide (j<i))) (a8 4) (tC (.int 0))) (tOp (rI0 fun i j=>.bl (decide (i<j))) (a8 5) (tC (.int 0))) [some (.ref a),some (.ref b),some (.ref c),some (.ref d),some (.int (Gla.turn p q r)),some (.int (Gla.turn p q s'))] H Q:=fun z=>by
   refine⟨_,rfl,_,_,rfl,rfl,_,rfl,aS (fun c2=>?_) (fun c2=>?_)⟩
   ·have c2:=of_decide_eq_true c2
    refine⟨_,rfl,_,_,rfl,rfl,?_⟩
    show Q (.bl (decide (Gla.turn p q s'<0))) H
    by_cases d2:Gla.turn p q s'<0
    ·rw[dqt d2]
     exact yes (Or.inr ⟨c2,d2⟩)
    ·rw[dqf d2]
     exact no (by omega)
   ·have c2:=aG c2
    exact no (by omega)
  refine⟨_,rfl,_,_,rfl,rfl,_,rfl,aS (fun c1=>?_) (fun c1=>?_)⟩
  ·have c1:=of_decide_eq_true c1
   refine⟨_,rfl,_,_,rfl,rfl,_,rfl,aS (fun c2=>?_) (fun c2=>?_)⟩
   ·have c2:=of_decide_eq_true c2
    exact yes (Or.inl ⟨c1,c2⟩)
   ·have c2:=aG c2
    exact second (by omega)
  ·have c1:=aG c1
   exact⟨_,rfl,jL (second (by omega))⟩
def uv (K:Frag):Sp:=fun vs H Q _=>∃(a b c d:Addr) (p q r s:Pt),vs=[.ref a,.ref b,.ref c,.ref d]∧cH K H a p∧cH K H b q∧cH K H c r∧cH K H d s∧Q (.bl (Gla.crosses p q r s)) H
theorem zj:aq ["p","q","r","s"] ["p","q","r","s"] (ah iu):=⟨rfl,rfl,rfl,by decide +kernel,rfl,by decide +kernel,by decide +kernel⟩
theorem wv (F:Has K mg "do_cross" iu ["p","q","r","s"]) (C1:Cb P w K mg base 2 "are_parted" ["p","q","r","s"] (xx K)):Cb P w K mg base 3 "do_cross" ["p","q","r","s"] (uv K):=by
 refine F.cb zj (fun vs H Q E h=>?_) (fun f cdv A outer s H vs Q E hr h=>?_)
 ·obtain⟨a,b,c,d,p,q,r,s,rfl,_⟩:=h
  rfl
 ·obtain⟨a,b,c,d,p,q,r,s',rfl,hp,hq,hr',hs,k⟩:=h
  refine⟨_,ae (al (iI (aF C1 hr (aa (pv 0) (aa (pv 1) (aa (pv 2) (aa (pv 3) ac))))) (eQ (aF C1 hr (aa (pv 2) (aa (pv 3) (aa (pv 0) (aa (pv 1) ac)))))))),?_⟩
  have e:Gla.crosses p q r s'=(rR p q r s'&&rR r s' p q):=rfl
  rw[e]at k
  refine⟨_,rfl,_,rfl,_,rfl,_,rfl,a,b,c,d,p,q,r,s',rfl,hp,hq,hr',hs,_,rfl,aS (fun c1=>?_) (fun c1=>?_)⟩
  ·refine⟨_,rfl,_,rfl,_,rfl,_,rfl,c,d,a,b,r,s',p,q,rfl,hr',hs,hp,hq,?_⟩
   rw[c1,Bool.true_and]at k
   exact k
  ·have c1:=cC c1
   rw[c1,Bool.false_and]at k
   exact k
end
open PySem PySem.Spec PyProof.Rows L2 Wg Wx CM
open Gla (Pt)
def PL (K:Frag)(H:Hp)(a:Addr)(ps:List Pt):Prop:=∃as:List Addr,SqL K H a (as.map V.ref)∧as.length=ps.length∧∀(i:Nat) (b:Addr) (p:Pt),as[i]? = some b→ps[i]? = some p→cH K H b p
def crs (a b:Pt):Int:=(a.x:Int)*(b.y:Int)-(a.y:Int)*(b.x:Int)
def dh:Pt→List Pt→Int
 |_,[]=>0
 |l,c :: r=>crs l c+dh c r
def cU (p q r:Pt):Bool:=if p.y≤r.y∧r.y<q.y then decide (0<Gla.turn p q r) else if q.y≤r.y∧r.y<p.y then decide (0<Gla.turn q p r) else false
def fc (z:Pt):Pt→List Pt→Bool
 |_,[]=>false
 |l,c :: r=>cU l c z^^fc z c r
theorem kr {α:Type}{ps:List α}(h:ps≠[]):∃(init:List α) (l:α),ps=init++[l]:=by
 rcases List.eq_nil_or_concat ps with e|⟨i,l,e⟩
 ·exact absurd e h
 ·exact⟨i,l,by rw[e,List.concat_eq_append]⟩
section
variable  {P:Program}{w:World}{K:Frag}{mg:Str→Option Value}{base:Heap}{C:Addr}
theorem PL.last {H:Hp}{a:Addr}{ps init:List Pt}{l:Pt}(h:PL K H a ps)(e:ps=init++[l]):∃(as:List Addr) (la:Addr),SqL K H a (as.map V.ref)∧as.length=ps.length∧atI (as.map V.ref) (-1)=some (.ref la)∧cH K H la l ∧
  ∀(i:Nat) (b:Addr) (p:Pt),as[i]? = some b→ps[i]? = some p→cH K H b p:=by
 obtain⟨as,h1,h2,h3⟩:=h
 have hne:as≠[]:=fun z=>by
  rw[z,e,List.length_append]at h2
  simp at h2
 obtain⟨ai,la,ea⟩:=kr hne
 refine⟨as,la,h1,h2,?_,?_,h3⟩
 ·rw[ea,List.map_append]
  exact nE _ _
 ·have hl:ai.length=init.length:=by
   rw[ea,e,List.length_append,List.length_append]at h2
   simpa using h2
  refine h3 ai.length la l ?_ ?_
  ·rw[ea,List.getElem?_append_right (nlr _),Nat.sub_self]
   rfl
  ·rw[e,hl,List.getElem?_append_right (nlr _),Nat.sub_self]
   rfl
def xK (K:Frag):Sp:=fun vs H Q _=>∃(a:Addr) (ps init:List Pt) (l:Pt),vs=[.ref a]∧PL K H a ps∧ps=init++[l]∧Q (.int (dh l ps)) H
theorem kZ:aq ["corners","total","last","corner"] ["corners"] (ah fB):=⟨rfl,rfl,rfl,by decide +kernel,rfl,by decide +kernel,by decide +kernel⟩
theorem yp (F:Has K mg "twice_area" fB ["corners"]):Cb P w K mg base 1 "twice_area" ["corners"] (xK K):=by
 refine F.cb kZ (fun vs H Q E h=>?_) (fun f cdv A outer s H vs Q E hr h=>?_)
 ·obtain⟨a,ps,init,l,rfl,_⟩:=h
  rfl
 ·obtain⟨a,ps,init,l,rfl,hl,ei,k⟩:=h
  obtain⟨as,la,h1,h2,h3,h4,h5⟩:=hl.last ei
  refine⟨_,ad (aB (i:=1) kZ.nd rfl (.inl rfl) ag)
   (ad (aB (i:=2) kZ.nd rfl (.inl rfl) (aw aU (pv 0) (mE jJ ag) (fun _ _=>rfl)))
   (ad (bw PassesOwn.never rfl (bQ (pv 0)) (au (i:=3) kZ.nd rfl (.inl rfl))
    (ad (xc (i:=1) kZ.nd rfl (.inl rfl) (aV eG (aV dN (aw aD (pv 2) ag (fun _ _=>rfl)) (aw aD (pv 3) ag (fun _ _=>rfl))) (aV dN (aw aD (pv 2) ag (fun _ _=>rfl)) (aw aD (pv 3) ag (fun _ _=>rfl)))) wD) (ae (aB (i:=2) kZ.nd rfl (.inl rfl) (pv 3)))))
   (ae (al (pv 1))))),?_⟩
  refine⟨_,rfl,_,rfl,a,_,_,_,rfl,rfl,h1,h3,?_⟩
  refine⟨_,rfl,a,rfl,⟨_,h1⟩,er (K:=K) (a:=a) (xs:=as.map V.ref) (fun i σ H'=>H'=H∧∃(t:Int) (lb:Addr) (lp:Pt) (v:Option V),σ=[some (.ref a),some (.int t),some (.ref lb),v]∧cH K H lb lp∧t+dh lp (ps.drop i)=dh l ps)
   ⟨rfl,0,la,l,none,rfl,h4,by rw[List.drop_zero,Int.zero_add]⟩ (fun i σ H' _ h=>by rw[h.1];exact h1) ?_ ?_⟩
  ·rintro i y σ H' hi ⟨rfl,t,lb,lp,v,rfl,⟨⟨rl,hlb⟩,b1⟩,ht⟩
   obtain⟨c,hc,rfl⟩:=cq hi
   have hil:i<ps.length:=by rw[←h2];exact(gsi hc).1
   have hp:ps[i]? = some ps[i]:=gge hil
   have hpt:=h5 i c ps[i] hc hp
   obtain⟨⟨rc,hcc⟩,b2⟩:=id hpt
   refine⟨_,rfl,_,rfl,lb,_,_,_,rfl,rfl,hlb,aA (j:=0) rfl rfl,_,rfl,c,_,_,_,rfl,rfl,hcc,aA (j:=1) rfl rfl,_,_,rfl,rfl,.inl ⟨by omega,by omega⟩,_,rfl,lb,_,_,_,rfl,rfl,hlb,aA (j:=1) rfl rfl,_,rfl,c,_,_,_,rfl,rfl,hcc,aA (j:=0) rfl rfl,_,_,rfl,rfl,.inl ⟨by omega,by omega⟩,_,_,rfl,rfl,_,_,rfl,rfl,_,rfl,?_⟩
   refine⟨rfl,_,c,ps[i],_,rfl,hpt,?_⟩
   rw[←ht,List.drop_eq_getElem_cons hil]
   show t+crs lp ps[i]+dh ps[i] (ps.drop (i+1))=t+(crs lp ps[i]+dh ps[i] (ps.drop (i+1)))
   omega
  ·rintro σ H' ⟨rfl,t,lb,lp,v,rfl,_,ht⟩
   refine⟨_,rfl,?_⟩
   rw[lmp,h2,List.drop_length]at ht
   have e:t=dh l ps:=by
    rw[←ht]
    show t=t+0
    omega
   rw[e]
   exact k
def zq (K:Frag):Sp:=fun vs H Q _=>∃(a b c:Addr) (p q r:Pt),vs=[.ref a,.ref b,.ref c]∧cH K H a p∧cH K H b q∧cH K H c r∧Q (.bl (cU p q r)) H
theorem Cn:aq ["p","q","r"] ["p","q","r"] (ah dz):=⟨rfl,rfl,rfl,by decide +kernel,rfl,by decide +kernel,by decide +kernel⟩
theorem A7 (F:Has K mg "is_left_beside" dz ["p","q","r"]) (C1:Cb P w K mg base 1 "turn" ["p","q","r"] (kR K)):Cb P w K mg base 2 "is_left_beside" ["p","q","r"] (zq K):=by
 refine F.cb Cn (fun vs H Q E h=>?_) (fun f cdv A outer s H vs Q E hr h=>?_)
 ·obtain⟨a,b,c,p,q,r,rfl,_⟩:=h
  rfl
 ·obtain⟨a,b,c,p,q,r,rfl,hp0,hq0,hr0,k⟩:=h
  obtain⟨⟨rp,hp⟩,b1⟩:=id hp0
  obtain⟨⟨rq,hq⟩,b2⟩:=id hq0
  obtain⟨⟨rr,hr'⟩,b3⟩:=id hr0
  refine⟨_,ad (a6 (md ly gq (aw aD (pv 0) ag (fun _ _=>rfl)) (aw aD (pv 2) ag (fun _ _=>rfl)) (aw aD (pv 1) ag (fun _ _=>rfl))) (ae (al (cp d5 (aF C1 hr (aa (pv 0) (aa (pv 1) (aa (pv 2) ac)))) ag (aI _)))) aJ)
   (ad (a6 (md ly gq (aw aD (pv 1) ag (fun _ _=>rfl)) (aw aD (pv 2) ag (fun _ _=>rfl)) (aw aD (pv 0) ag (fun _ _=>rfl))) (ae (al (cp d5 (aF C1 hr (aa (pv 1) (aa (pv 0) (aa (pv 2) ac)))) ag (aI _)))) aJ)
   (ae (al el))),?_⟩
  have first:p.y≤r.y∧r.y<q.y→Q (.bl (decide (0<Gla.turn p q r))) H:=fun z=>by
   unfold cU at k
   rw[if_pos z]at k
   exact k
  have second:¬(p.y≤r.y∧r.y<q.y)→Av (sW (fj (tf (rI0 fun i j=>.bl (decide (i≤j))) (rI0 fun i j=>.bl (decide (i<j))) (tOp (pG K) (a8 1) (tC (.int 1))) (tOp (pG K) (a8 2) (tC (.int 1))) (tOp (pG K) (a8 0) (tC (.int 1)))))
    (my (tOp (rI0 fun i j=>.bl (decide (j<i))) (lJ (kR K) [] E0 (bD (a8 1) (bD (a8 0) (bD (a8 2) fS)))) (tC (.int 0)))) mX) (my (tC (.bl false))) { nx:=fun _ H'=>Q .non H',rt:=Q } [some (.ref a),some (.ref b),some (.ref c)] H:=fun z=>by
   refine⟨_,rfl,b,_,_,_,rfl,rfl,hq,aA (j:=1) rfl rfl,_,rfl,c,_,_,_,rfl,rfl,hr',aA (j:=1) rfl rfl,_,_,rfl,rfl,_,rfl,aS (fun c1=>?_) (fun c1=>?_)⟩
   ·have c1:=of_decide_eq_true c1
    refine⟨_,rfl,a,_,_,_,rfl,rfl,hp,aA (j:=1) rfl rfl,_,_,rfl,rfl,_,rfl,aS (fun c2=>?_) (fun c2=>?_)⟩
    ·have c2:=of_decide_eq_true c2
     refine⟨_,rfl,_,rfl,_,rfl,b,a,c,q,p,r,rfl,hq0,hp0,hr0,_,_,rfl,rfl,?_⟩
     unfold cU at k
     rw[if_neg z,if_pos (by omega)]at k
     exact k
    ·have c2:=aG c2
     unfold cU at k
     rw[if_neg z,if_neg (by omega)]at k
     exact k
   ·have c1:=aG c1
    unfold cU at k
    rw[if_neg z,if_neg (by omega)]at k
    exact⟨_,rfl,jL k⟩
  refine⟨_,rfl,a,_,_,_,rfl,rfl,hp,aA (j:=1) rfl rfl,_,rfl,c,_,_,_,rfl,rfl,hr',aA (j:=1) rfl rfl,_,_,rfl,rfl,_,rfl,aS (fun c1=>?_) (fun c1=>?_)⟩
  ·have c1:=of_decide_eq_true c1
   refine⟨_,rfl,b,_,_,_,rfl,rfl,hq,aA (j:=1) rfl rfl,_,_,rfl,rfl,_,rfl,aS (fun c2=>?_) (fun c2=>?_)⟩
   ·have c2:=of_decide_eq_true c2
    exact⟨_,rfl,_,rfl,_,rfl,a,b,c,p,q,r,rfl,hp0,hq0,hr0,_,_,rfl,rfl,first (by omega)⟩
   ·have c2:=aG c2
    exact second (by omega)
  ·have c1:=aG c1
   exact⟨_,rfl,jL (second (by omega))⟩
def B1 (K:Frag):Sp:=fun vs H Q _=>∃(a c:Addr) (ps init:List Pt) (l z:Pt),vs=[.ref a,.ref c]∧PL K H a ps∧ps=init++[l]∧cH K H c z∧Q (.bl (fc z l ps)) H
theorem vz:aq ["corners","r","inside","last","corner"] ["corners","r"] (ah gg):=⟨rfl,rfl,rfl,by decide +kernel,rfl,by decide +kernel,by decide +kernel⟩
theorem Ds (F:Has K mg "is_inside" gg ["corners","r"]) (C1:Cb P w K mg base 2 "is_left_beside" ["p","q","r"] (zq K)):Cb P w K mg base 3 "is_inside" ["corners","r"] (B1 K):=by
 refine F.cb vz (fun vs H Q E h=>?_) (fun f cdv A outer s H vs Q E hr h=>?_)
 ·obtain⟨a,c,ps,init,l,z,rfl,_⟩:=h
  rfl
 ·obtain⟨a,c,ps,init,l,z,rfl,hl,ei,hz,k⟩:=h
  obtain⟨as,la,h1,h2,h3,h4,h5⟩:=hl.last ei
  refine⟨_,ad (aB (i:=2) vz.nd rfl (.inl rfl) el)
   (ad (aB (i:=3) vz.nd rfl (.inl rfl) (aw aU (pv 0) (mE jJ ag) (fun _ _=>rfl)))
   (ad (bw PassesOwn.never rfl (bQ (pv 0)) (au (i:=4) vz.nd rfl (.inl rfl))
    (ad (a6 (cI (aF C1 hr (aa (pv 3) (aa (pv 4) (aa (pv 1) ac))))) (ae (aB (i:=2) vz.nd rfl (.inl rfl) (wF (pv 2)))) aJ) (ae (aB (i:=3) vz.nd rfl (.inl rfl) (pv 4)))))
   (ae (al (pv 2))))),?_⟩
  refine⟨_,rfl,_,rfl,a,_,_,_,rfl,rfl,h1,h3,?_⟩
  refine⟨_,rfl,a,rfl,⟨_,h1⟩,er (K:=K) (a:=a) (xs:=as.map V.ref) (fun i σ H'=>H'=H∧∃(t:Bool) (lb:Addr) (lp:Pt) (v:Option V),σ=[some (.ref a),some (.ref c),some (.bl t),some (.ref lb),v]∧cH K H lb lp∧(t^^fc z lp (ps.drop i))=fc z l ps)
   ⟨rfl,false,la,l,none,rfl,h4,by rw[List.drop_zero,Bool.false_xor]⟩ (fun i σ H' _ h=>by rw[h.1];exact h1) ?_ ?_⟩
  ·rintro i y σ H' hi ⟨rfl,t,lb,lp,v,rfl,hlb,ht⟩
   obtain⟨cc,hc,rfl⟩:=cq hi
   have hil:i<ps.length:=by rw[←h2];exact(gsi hc).1
   have hp:ps[i]? = some ps[i]:=gge hil
   have hpt:=h5 i cc ps[i] hc hp
   rw[List.drop_eq_getElem_cons hil]at ht
   have ht:(t^^(cU lp ps[i] z^^fc z ps[i] (ps.drop (i+1))))=fc z l ps:=ht
   refine⟨_,rfl,_,rfl,_,rfl,lb,cc,c,lp,ps[i],z,rfl,hlb,hpt,hz,_,rfl,aS (fun c1=>?_) (fun c1=>?_)⟩
   ·refine⟨_,rfl,_,rfl,_,rfl,?_⟩
    refine⟨rfl,!t,cc,ps[i],_,rfl,hpt,?_⟩
    rw[←ht,c1]
    cases t<;>cases fc z ps[i] (ps.drop (i+1))<;>rfl
   ·refine⟨_,rfl,?_⟩
    refine⟨rfl,t,cc,ps[i],_,rfl,hpt,?_⟩
    rw[←ht,cC c1,Bool.false_xor]
  ·rintro σ H' ⟨rfl,t,lb,lp,v,rfl,_,ht⟩
   refine⟨_,rfl,?_⟩
   rw[lmp,h2,List.drop_length]at ht
   have e:t=fc z l ps:=by
    rw[←ht]
    show t=(t^^false)
    rw[Bool.xor_false]
   rw[e]
   exact k
end
open PySem PySem.Spec PyProof.Rows L2 Wg Wx CM
open Gla (Pt)
structure SB (S:Gla.Plan):Prop where
 pts:∀p∈S.pts,p.x<4294967296∧p.y<4294967296
 mks:∀m∈S.marks,m.at_.x<4294967296∧m.at_.y<4294967296
 np:S.pts.length≤100000
 nl:S.lines.length≤100000
 nm:S.marks.length≤100000
structure Op (K:Frag)(C:Addr)(H:Hp)(a dx p l m:Addr)(S:Gla.Plan)(ps ls ms:List Addr):Prop where
 at_:H a=some (.ins C dx (eY S.w S.h p l m))
 pl:H p=some (.lst (ps.map V.ref))
 ll:H l=some (.lst (ls.map V.ref))
 ml:H m=some (.lst (ms.map V.ref))
 pn:ps.length=S.pts.length
 ln:ls.length=S.lines.length
 mn:ms.length=S.marks.length
 pt:∀(i:Nat) (b:Addr),ps[i]? = some b→H b=some (.tup (iV (fP (S.pt i))))
 li:∀(i:Nat) (b:Addr) (x:Nat×Nat),ls[i]? = some b→S.lines[i]? = some x→H b=some (.tup (iV (t9 x)))
 ma:∀(i:Nat) (b:Addr) (x:Gla.Mark),ms[i]? = some b→S.marks[i]? = some x→H b=some (.tup (iV (kl x)))
theorem bz.op {K:Frag}{C:Addr}{H:Hp}{a:Addr}{S:Gla.Plan}(h:bz C H a S):∃dx p l m ps ls ms,Op K C H a dx p l m S ps ls ms:=by
 obtain⟨dx,p,l,m,h1,⟨ps,p1,p2,p3⟩,⟨ls,l1,l2,l3⟩,⟨ms,m1,m2,m3⟩⟩:=h
 rw[lmp]at p2 l2 m2
 refine⟨dx,p,l,m,ps,ls,ms,h1,p1,l1,m1,p2,l2,m2,fun i b e=>?_,fun i b x e1 e2=>?_,fun i b x e1 e2=>?_⟩
 ·have hi:i<S.pts.length:=by rw[←p2];exact(gsi e).1
  exact p3 i b _ e (by rw[List.getElem?_map,gge hi,WL.bJ S hi];rfl)
 ·exact l3 i b _ e1 (by rw[List.getElem?_map,e2];rfl)
 ·exact m3 i b _ e1 (by rw[List.getElem?_map,e2];rfl)
theorem Op.same {K:Frag}{C:Addr}{H H':Hp}{a dx p l m:Addr}{S:Gla.Plan}{ps ls ms:List Addr}(o:Op K C H a dx p l m S ps ls ms)(s:ak H H'):Op K C H' a dx p l m S ps ls ms :=
 ⟨s _ _ o.at_,s _ _ o.pl,s _ _ o.ll,s _ _ o.ml,o.pn,o.ln,o.mn,fun i b e=>s _ _ (o.pt i b e),fun i b x e1 e2=>s _ _ (o.li i b x e1 e2),fun i b x e1 e2=>s _ _ (o.ma i b x e1 e2)⟩
theorem Op.draw {K:Frag}{C:Addr}{H:Hp}{a dx p l m:Addr}{S:Gla.Plan}{ps ls ms:List Addr}(o:Op K C H a dx p l m S ps ls ms):bz C H a S:=by
 refine⟨dx,p,l,m,o.at_,⟨ps,o.pl,by rw[lmp,o.pn],fun i b r e1 e2=>?_⟩,⟨ls,o.ll,by rw[lmp,o.ln],fun i b r e1 e2=>?_⟩,⟨ms,o.ml,by rw[lmp,o.mn],fun i b r e1 e2=>?_⟩⟩
 ·have hi:i<S.pts.length:=by rw[←o.pn];exact(gsi e1).1
  rw[List.getElem?_map,gge hi]at e2
  have e2:=osi e2
  rw[←e2,←WL.bJ S hi]
  exact o.pt i b e1
 ·rw[List.getElem?_map]at e2
  cases e:S.lines[i]? with
  |none=>rw[e]at e2;cases e2
  |some x =>
   rw[e]at e2
   have e2:=osi e2
   rw[←e2]
   exact o.li i b x e1 e
 ·rw[List.getElem?_map]at e2
  cases e:S.marks[i]? with
  |none=>rw[e]at e2;cases e2
  |some x =>
   rw[e]at e2
   have e2:=osi e2
   rw[←e2]
   exact o.ma i b x e1 e
theorem SB.pt {S:Gla.Plan}(h:SB S)(i:Nat):(S.pt i).x<4294967296∧(S.pt i).y<4294967296:=by
 by_cases hi:i<S.pts.length
 ·rw[WL.bJ S hi]
  exact h.pts _ (List.getElem_mem hi)
 ·unfold Gla.Plan.pt
  rw[List.getD_eq_getElem?_getD,List.getElem?_eq_none (by omega)]
  decide
theorem Op.ptAt {K:Frag}{C:Addr}{H:Hp}{a dx p l m:Addr}{S:Gla.Plan}{ps ls ms:List Addr}(o:Op K C H a dx p l m S ps ls ms)(sb:SB S){i:Nat}{b:Addr}(e:ps[i]? = some b):cH K H b (S.pt i):=⟨⟨[],SqT.of (o.pt i b e)⟩,sb.pt i⟩
theorem Op.mkAt {K:Frag}{C:Addr}{H:Hp}{a dx p l m:Addr}{S:Gla.Plan}{ps ls ms:List Addr}(o:Op K C H a dx p l m S ps ls ms)(sb:SB S){i:Nat}{b:Addr}{x:Gla.Mark}(e:ms[i]? = some b)(e2:S.marks[i]? = some x):cH K H b x.at_ :=
 ⟨⟨_,SqT.of (o.ma i b x e e2)⟩,sb.mks x (List.mem_of_getElem? e2)⟩
theorem Op.hasP {K:Frag}{C:Addr}{H:Hp}{a dx p l m:Addr}{S:Gla.Plan}{ps ls ms:List Addr}(o:Op K C H a dx p l m S ps ls ms){i:Nat}(hi:i<S.pts.length):∃b,ps[i]? = some b:=⟨_,gge (by rw[o.pn];exact hi)⟩
theorem Op.hasL {K:Frag}{C:Addr}{H:Hp}{a dx p l m:Addr}{S:Gla.Plan}{ps ls ms:List Addr}(o:Op K C H a dx p l m S ps ls ms){i:Nat}(hi:i<S.lines.length):∃b,ls[i]? = some b:=⟨_,gge (by rw[o.ln];exact hi)⟩
theorem bZ {wi he:Int}{p l m:Addr}{f:Str} (h:(f="place_of_point"∨f="place_of_line")∨f="place_of_mark"∨f="place_of_end"):(eY wi he p l m).lookup f=none:=by
 rcases h with(rfl|rfl)|rfl|rfl
 ·exact mx (by decide +kernel) (by decide +kernel) (by decide +kernel) (by decide +kernel) (by decide +kernel)
 ·exact mx (by decide +kernel) (by decide +kernel) (by decide +kernel) (by decide +kernel) (by decide +kernel)
 ·exact mx (by decide +kernel) (by decide +kernel) (by decide +kernel) (by decide +kernel) (by decide +kernel)
 ·exact mx (by decide +kernel) (by decide +kernel) (by decide +kernel) (by decide +kernel) (by decide +kernel)
section
variable  {P:Program}{w:World}{K:Frag}{mg:Str→Option Value}{base:Heap}{C:Addr}
def jv (r:Int)(pl:Nat→Int)(o:Option Nat):Option (Int×Int):=o.map fun i=>(r,pl i)
def ok4 (S:Gla.Plan)(p:Pt):Bool:=decide (p.x≤S.w)&&decide (p.y≤S.h)
def B8 (C:Addr):Sp:=fun vs H Q _=>∃(a:Addr) (S:Gla.Plan),vs=[.ref a]∧bz C H a S∧SB S∧dG (jv 4 (fun i=>20+8*(i:Int)) (Gla.firstBad (ok4 S) Pt.below S.pts)) H Q
theorem yZ:aq ["drawing","k","point","outside"] ["drawing"] (ah c8):=⟨rfl,rfl,rfl,by decide +kernel,rfl,by decide +kernel,by decide +kernel⟩
theorem DK (F:Has K mg "fault_of_points" c8 ["drawing"]) (T:DCl K mg C) (ge:mg "enumerate"=none) (C1:Cm P w K mg base 1 C "place_of_point" ["self","k"] pD) (C2:Cb P w K mg base 1 "comes_behind" ["q","p"] (wY K)) :
  Cb P w K mg base 2 "fault_of_points" ["drawing"] (B8 C):=by
 refine F.cb yZ (fun vs H Q E h=>?_) (fun f cdv A outer s H vs Q E hr h=>?_)
 ·obtain⟨a,S,rfl,_⟩:=h
  rfl
 ·obtain⟨a,S,rfl,hd,sb,k⟩:=h
  obtain⟨dx,p,l,m,ps,ls,ms,o⟩:=hd.op (K:=K)
  refine⟨_,ad (bw PassesOwn.never rfl (dU rfl ge (aa (aR (pv 0) rfl) ac)) (cS (n:=2) rfl (aL (au (i:=1) yZ.nd rfl (.inl rfl)) (aL (au (i:=2) yZ.nd rfl (.inl rfl)) bW)))
    (ad (aB (i:=3) yZ.nd rfl (.inl rfl) (qG (cp d5 (aw aD (pv 2) ag (fun _ _=>rfl)) (aR (pv 0) rfl) (aI _)) (eQ (cp d5 (aw aD (pv 2) ag (fun _ _=>rfl)) (aR (pv 0) rfl) (aI _)))))
    (ae (a6 (mZ (cI (pv 3)) (jN (iQ (aK d5 (pv 1) ag (aI _)) (ij (jM (cI (aF C2 hr (aa (pv 2) (aa (aw aU (aR (pv 0) rfl) (aV eG (pv 1) ag) (fun _ _=>rfl)) ac))))))).pt)).pt
     (ae (al (bA (aa ag (aa (g9 (pv 0) T.cl C1 hr (aa (pv 1) ac)) ac))))) aJ))))
   (ae (al bc)),?_⟩
  refine⟨_,rfl,a,C,dx,_,_,rfl,o.at_,T.cl,T.nP,iH,p,_,rfl,SqL.of o.pl,di (K:=K) (a:=p) (xs:=ps.map V.ref) (fun i σ H'=>ak H H'∧(∃v1 v2 v3,σ=[some (.ref a),v1,v2,v3])∧∀j (hj:j<S.pts.length),j<i→WL.b9 (ok4 S) Pt.below S.pts j S.pts[j]=false)
   ⟨ak.refl H,⟨none,none,none,rfl⟩,fun j hj h=>absurd h (Nat.not_lt_zero _)⟩ (fun i σ H' _ h=>SqL.of (h.1 _ _ o.pl)) ?_ ?_⟩
  ·rintro i y T' σ H' hi hT ⟨hS,⟨v1,v2,v3,rfl⟩,hok⟩
   obtain⟨b,hb,rfl⟩:=cq hi
   have hil:i<S.pts.length:=by rw[←o.pn];exact(gsi hb).1
   have s2:ak H (upd H' T' (.tup [.int (i:Nat),.ref b])):=a5 hS hT
   refine⟨T',_,rfl,SqT.of af,rfl,_,_,rfl,_,_,rfl,rfl,?_⟩
   generalize upd H' T' (.tup [.int (i:Nat),.ref b])=H2 at s2
   have o2:=o.same s2
   have hpt:=o2.ptAt sb hb
   obtain⟨⟨rb,hbb⟩,_⟩:=id hpt
   have ep:S.pt i=S.pts[i]:=WL.bJ S hil
   have bad:WL.b9 (ok4 S) Pt.below S.pts i S.pts[i]=true→∀H3,ak H H3→∀q,H3 q=none→Q (.ref q) (upd H3 q (.tup [.int 4,.int (20+8*(i:Int))])):=fun z H3 s3 q hq=>by
    have e:Gla.firstBad (ok4 S) Pt.below S.pts=some i:=by
     rw[WL.d6]
     exact WL.eg hil z fun j hj=>hok j (by omega) hj
    rw[e]at k
    exact dG.some' k s3 q hq
   have next:WL.b9 (ok4 S) Pt.below S.pts i S.pts[i]=false→∀j (hj:j<S.pts.length),j<i+1→WL.b9 (ok4 S) Pt.below S.pts j S.pts[j]=false:=fun z j hj h=>by
    by_cases c:j<i
    ·exact hok j hj c
    ·have:j=i:=by omega
     subst this
     exact z
   have cont:∀(t:Bool),t=(!ok4 S S.pts[i])→sW (tOr (tB (a8 3)) (zk (fj (tOp (rI0 fun i j=>.bl (decide (j<i))) (a8 1) (tC (.int 0)))) (A2 (tB (lJ (wY K) [] E0 (bD (a8 2) (bD (tOp (vv K) (xw K (a8 0) "points") (tOp (rI0 fun i j=>.int (i-j)) (a8 1) (tC (.int 1)))) fS)))))))
     (my (vf (bD (tC (.int 4)) (bD (jY C "place_of_point" pD [] E0 (a8 0) (bD (a8 1) fS)) fS)))) mX
     { nx:=fun σ H'=>ak H H'∧(∃v1 v2 v3,σ=[some (.ref a),v1,v2,v3])∧∀j (hj:j<S.pts.length),j<i+1→WL.b9 (ok4 S) Pt.below S.pts j S.pts[j]=false,rt:=Q,bk:=fun σ H'=>Q .non H',ct:=fun σ H'=>ak H H'∧(∃v1 v2 v3,σ=[some (.ref a),v1,v2,v3])∧∀j (hj:j<S.pts.length),j<i+1→WL.b9 (ok4 S) Pt.below S.pts j S.pts[j]=false }
     [some (.ref a),some (.int (i:Nat)),some (.ref b),some (.bl t)] H2:=fun t et=>by
    refine⟨_,rfl,_,rfl,aS (fun c1=>?_) (fun c1=>?_)⟩
    ·refine eA ?_
     refine⟨_,rfl,a,dx,_,rfl,o2.at_,bZ (.inl (.inl rfl)),_,rfl,_,_,rfl,(by show 2≤sizeLine;decide),fun q hq=>?_⟩
     refine bad ?_ H2 s2 q hq
     unfold WL.b9
     rw[←et,c1,Bool.true_or]
    ·have okt:(!ok4 S S.pts[i])=false:=by rw[←et];exact cC c1
     refine⟨_,rfl,_,_,rfl,rfl,_,rfl,aS (fun c2=>?_) (fun c2=>?_)⟩
     ·have c2:(0:Int)<((i:Nat):Int):=of_decide_eq_true c2
      obtain⟨i',rfl⟩:∃i',i=i'+1:=⟨i-1,by omega⟩
      obtain⟨b',hb'⟩:=o2.hasP (i:=i') (by omega)
      have hpt':=o2.ptAt sb hb'
      have ep':S.pt i'=S.pts[i']:=WL.bJ S (by omega)
      refine⟨_,rfl,_,rfl,a,C,dx,_,_,rfl,o2.at_,T.cl,T.nP,iH,_,rfl,_,_,rfl,rfl,p,_,_,_,rfl,rfl,SqL.of o2.pl,aA (j:=i') (by omega) (aP hb'),b,b',S.pt (i'+1),S.pt i',rfl,hpt,hpt',fun H3 s3=>?_⟩
      have hbe:WL.b9 (ok4 S) Pt.below S.pts (i'+1) S.pts[i'+1]=!((S.pt i').below (S.pt (i'+1))):=by
       rw[WL.jR (by omega),okt,Bool.false_or,ep,ep']
      refine⟨_,rfl,?_⟩
      cases hc:(S.pt i').below (S.pt (i'+1)) with
      |true =>
       refine jL ?_
       exact⟨s2.trans s3,⟨_,_,_,rfl⟩,next (by rw[hbe,hc];rfl)⟩
      |false =>
       refine eA ?_
       refine⟨_,rfl,a,dx,_,rfl,(o2.same s3).at_,bZ (.inl (.inl rfl)),_,rfl,_,_,rfl,(by show 2≤sizeLine;decide),fun q hq=>?_⟩
       exact bad (by rw[hbe,hc];rfl) H3 (s2.trans s3) q hq
     ·have c2:=aG c2
      have i0:i=0:=by omega
      subst i0
      exact⟨s2,⟨_,_,_,rfl⟩,next (by rw[WL.jF];exact okt)⟩
   refine⟨_,rfl,b,_,_,_,rfl,rfl,hbb,aA (j:=0) rfl rfl,_,rfl,a,C,dx,_,_,rfl,o2.at_,T.cl,T.nW,A0,_,_,rfl,rfl,_,rfl,aS (fun c1=>?_) (fun c1=>?_)⟩
   ·have c1:(S.w:Int)<((S.pt i).x:Int):=of_decide_eq_true c1
    refine cont true ?_
    rw[←ep]
    unfold ok4
    rw[dqf (by omega),Bool.false_and]
    rfl
   ·have c1:¬(S.w:Int)<((S.pt i).x:Int):=aG c1
    refine⟨_,rfl,b,_,_,_,rfl,rfl,hbb,aA (j:=1) rfl rfl,_,rfl,a,C,dx,_,_,rfl,o2.at_,T.cl,T.nH,Ay,_,_,rfl,rfl,?_⟩
    refine cont _ ?_
    rw[←ep]
    unfold ok4
    rw[dqt (by omega:(S.pt i).x≤S.w),Bool.true_and,←decide_not,decide_eq_decide]
    omega
  ·rintro σ H' ⟨hS,⟨v1,v2,v3,rfl⟩,hok⟩
   have e:Gla.firstBad (ok4 S) Pt.below S.pts=none:=by
    rw[WL.d6]
    refine WL.dR fun j hj=>hok j hj ?_
    rw[lmp,o.pn]
    exact hj
   rw[e]at k
   exact k H' hS
end
open PySem PySem.Spec PyProof.Rows L2 Wg Wx CM
open Gla (Pt)
section
variable  {P:Program}{w:World}{K:Frag}{mg:Str→Option Value}{base:Heap}{C:Addr}
def ok5 (S:Gla.Plan)(l:Nat×Nat):Bool:=decide (l.1<l.2)&&decide (l.2<S.pts.length)
def pT (S:Gla.Plan)(i:Nat):Int:=20+8*(S.pts.length:Int)+4*(i:Int)
def Cs (C:Addr):Sp:=fun vs H Q _=>∃(a:Addr) (S:Gla.Plan),vs=[.ref a]∧bz C H a S∧SB S∧dG (jv 5 (pT S) (Gla.firstBad (ok5 S) Gla.lineBelow S.lines)) H Q
theorem x9:aq ["drawing","k","line","wrong_ends"] ["drawing"] (ah dw):=⟨rfl,rfl,rfl,by decide +kernel,rfl,by decide +kernel,by decide +kernel⟩
theorem xF (l m:Nat×Nat):gU [(l.1:Int),(l.2:Int)] [(m.1:Int),(m.2:Int)]=!Gla.lineBelow m l:=by
 rw[jC,jC]
 unfold Gla.lineBelow
 have e0:gU [] []=true:=rfl
 rw[e0,Bool.eq_iff_iff]
 by_cases c:(l.1:Int)=(m.1:Int)
 ·rw[if_pos c]
  by_cases d:(l.2:Int)=(m.2:Int)
  ·rw[if_pos d]
   simp
   omega
  ·rw[if_neg d]
   simp
   omega
 ·rw[if_neg c]
  simp
  omega
theorem Df (F:Has K mg "fault_of_lines" dw ["drawing"]) (T:DCl K mg C) (ge:mg "enumerate"=none) (gl:mg "len"=none) (C1:Cm P w K mg base 2 C "place_of_line" ["self","k"] (uT C)) :
  Cb P w K mg base 3 "fault_of_lines" ["drawing"] (Cs C):=by
 refine F.cb x9 (fun vs H Q E h=>?_) (fun f cdv A outer s H vs Q E hr h=>?_)
 ·obtain⟨a,S,rfl,_⟩:=h
  rfl
 ·obtain⟨a,S,rfl,hd,sb,k⟩:=h
  obtain⟨dx,p,l,m,ps,ls,ms,o⟩:=hd.op (K:=K)
  refine⟨_,ad (bw PassesOwn.never rfl (dU rfl ge (aa (aR (pv 0) rfl) ac)) (cS (n:=2) rfl (aL (au (i:=1) x9.nd rfl (.inl rfl)) (aL (au (i:=2) x9.nd rfl (.inl rfl)) bW)))
    (ad (aB (i:=3) x9.nd rfl (.inl rfl) (qG (cp tO (aw aD (pv 2) ag (fun _ _=>rfl)) (aw aD (pv 2) ag (fun _ _=>rfl)) (aI _)) (eQ (cp tO (aw aD (pv 2) ag (fun _ _=>rfl)) (aW aO (by rfl) gl PySem.boot_len (aa (aR (pv 0) rfl) ac)) (aI _)))))
    (ae (a6 (mZ (cI (pv 3)) (jN (iQ (aK d5 (pv 1) ag (aI _)) (ij (aK (Ac hr.units0) (pv 2) (aw aU (aR (pv 0) rfl) (aV eG (pv 1) ag) (fun _ _=>rfl)) (aI _)))).pt)).pt
     (ae (al (bA (aa ag (aa (g9 (pv 0) T.cl C1 hr (aa (pv 1) ac)) ac))))) aJ))))
   (ae (al bc)),?_⟩
  refine⟨_,rfl,a,C,dx,_,_,rfl,o.at_,T.cl,T.nL,p8,l,_,rfl,SqL.of o.ll,di (K:=K) (a:=l) (xs:=ls.map V.ref) (fun i σ H'=>ak H H'∧(∃v1 v2 v3,σ=[some (.ref a),v1,v2,v3])∧∀j (hj:j<S.lines.length),j<i→WL.b9 (ok5 S) Gla.lineBelow S.lines j S.lines[j]=false)
   ⟨ak.refl H,⟨none,none,none,rfl⟩,fun j hj h=>absurd h (Nat.not_lt_zero _)⟩ (fun i σ H' _ h=>SqL.of (h.1 _ _ o.ll)) ?_ ?_⟩
  ·rintro i y T' σ H' hi hT ⟨hS,⟨v1,v2,v3,rfl⟩,hok⟩
   obtain⟨b,hb,rfl⟩:=cq hi
   have hil:i<S.lines.length:=by rw[←o.ln];exact(gsi hb).1
   have s2:ak H (upd H' T' (.tup [.int (i:Nat),.ref b])):=a5 hS hT
   refine⟨T',_,rfl,SqT.of af,rfl,_,_,rfl,_,_,rfl,rfl,?_⟩
   generalize upd H' T' (.tup [.int (i:Nat),.ref b])=H2 at s2
   have o2:=o.same s2
   have hbb:SqT K H2 b (iV [(S.lines[i].1:Int),(S.lines[i].2:Int)]):=SqT.of (o2.li i b _ hb (gge hil))
   have bad:WL.b9 (ok5 S) Gla.lineBelow S.lines i S.lines[i]=true→∀H3,ak H H3→∀q,H3 q=none→Q (.ref q) (upd H3 q (.tup [.int 5,.int (pT S i)])):=fun z H3 s3 q hq=>by
    have e:Gla.firstBad (ok5 S) Gla.lineBelow S.lines=some i:=by
     rw[WL.d6]
     exact WL.eg hil z fun j hj=>hok j (by omega) hj
    rw[e]at k
    exact dG.some' k s3 q hq
   have next:WL.b9 (ok5 S) Gla.lineBelow S.lines i S.lines[i]=false→∀j (hj:j<S.lines.length),j<i+1→WL.b9 (ok5 S) Gla.lineBelow S.lines j S.lines[j]=false:=fun z j hj h=>by
    by_cases c:j<i
    ·exact hok j hj c
    ·have:j=i:=by omega
     subst this
     exact z
   have cont:∀(t:Bool),t=(!ok5 S S.lines[i])→sW (tOr (tB (a8 3)) (zk (fj (tOp (rI0 fun i j=>.bl (decide (j<i))) (a8 1) (tC (.int 0)))) (fj (tOp (B6 K) (a8 2) (tOp (vv K) (xw K (a8 0) "lines") (tOp (rI0 fun i j=>.int (i-j)) (a8 1) (tC (.int 1))))))))
     (my (vf (bD (tC (.int 5)) (bD (jY C "place_of_line" (uT C) [] E0 (a8 0) (bD (a8 1) fS)) fS)))) mX
     { nx:=fun σ H'=>ak H H'∧(∃v1 v2 v3,σ=[some (.ref a),v1,v2,v3])∧∀j (hj:j<S.lines.length),j<i+1→WL.b9 (ok5 S) Gla.lineBelow S.lines j S.lines[j]=false,rt:=Q,bk:=fun σ H'=>Q .non H',ct:=fun σ H'=>ak H H'∧(∃v1 v2 v3,σ=[some (.ref a),v1,v2,v3])∧∀j (hj:j<S.lines.length),j<i+1→WL.b9 (ok5 S) Gla.lineBelow S.lines j S.lines[j]=false }
     [some (.ref a),some (.int (i:Nat)),some (.ref b),some (.bl t)] H2:=fun t et=>by
    refine⟨_,rfl,_,rfl,aS (fun c1=>?_) (fun c1=>?_)⟩
    ·refine eA ?_
     refine⟨_,rfl,a,dx,_,rfl,o2.at_,bZ (.inl (.inr rfl)),_,rfl,a,S,_,rfl,o2.draw,(by show 2≤sizeLine;decide),fun q hq=>?_⟩
     refine bad ?_ H2 s2 q hq
     unfold WL.b9
     rw[←et,c1,Bool.true_or]
    ·have okt:(!ok5 S S.lines[i])=false:=by rw[←et];exact cC c1
     refine⟨_,rfl,_,_,rfl,rfl,_,rfl,aS (fun c2=>?_) (fun c2=>?_)⟩
     ·have c2:(0:Int)<((i:Nat):Int):=of_decide_eq_true c2
      obtain⟨i',rfl⟩:∃i',i=i'+1:=⟨i-1,by omega⟩
      obtain⟨b',hb'⟩:=o2.hasL (i:=i') (by omega)
      have hbb':SqT K H2 b' (iV [(S.lines[i'].1:Int),(S.lines[i'].2:Int)]):=SqT.of (o2.li i' b' _ hb' (gge (by omega)))
      refine⟨_,rfl,_,rfl,a,C,dx,_,_,rfl,o2.at_,T.cl,T.nL,p8,_,rfl,_,_,rfl,rfl,l,_,_,_,rfl,rfl,SqL.of o2.ll,aA (j:=i') (by omega) (aP hb'),b,b',_,_,rfl,rfl,hbb,hbb',?_⟩
      have hbe:WL.b9 (ok5 S) Gla.lineBelow S.lines (i'+1) S.lines[i'+1]=!(Gla.lineBelow S.lines[i'] S.lines[i'+1]):=by
       rw[WL.jR (by omega),okt,Bool.false_or]
      rw[xF]
      refine⟨_,rfl,aS (fun c3=>?_) (fun c3=>?_)⟩
      ·refine⟨_,rfl,a,dx,_,rfl,o2.at_,bZ (.inl (.inr rfl)),_,rfl,a,S,_,rfl,o2.draw,(by show 2≤sizeLine;decide),fun q hq=>?_⟩
       exact bad (by rw[hbe];exact c3) H2 s2 q hq
      ·exact⟨s2,⟨_,_,_,rfl⟩,next (by rw[hbe];exact cC c3)⟩
     ·have c2:=aG c2
      have i0:i=0:=by omega
      subst i0
      exact⟨s2,⟨_,_,_,rfl⟩,next (by rw[WL.jF];exact okt)⟩
   refine⟨_,rfl,b,_,_,_,rfl,rfl,hbb,aA (j:=0) rfl rfl,_,rfl,b,_,_,_,rfl,rfl,hbb,aA (j:=1) rfl rfl,_,_,rfl,rfl,_,rfl,aS (fun c1=>?_) (fun c1=>?_)⟩
   ·have c1:(S.lines[i].2:Int)≤(S.lines[i].1:Int):=of_decide_eq_true c1
    refine cont true ?_
    unfold ok5
    rw[dqf (by omega),Bool.false_and]
    rfl
   ·have c1:¬(S.lines[i].2:Int)≤(S.lines[i].1:Int):=aG c1
    refine⟨_,rfl,b,_,_,_,rfl,rfl,hbb,aA (j:=1) rfl rfl,_,rfl,a,C,dx,_,_,rfl,o2.at_,T.cl,T.nP,iH,p,_,rfl,.inl (SqL.of o2.pl),_,_,rfl,rfl,?_⟩
    refine cont _ ?_
    unfold ok5
    rw[dqt (by omega:S.lines[i].1<S.lines[i].2),Bool.true_and,←decide_not,decide_eq_decide,lmp,o.pn]
    omega
  ·rintro σ H' ⟨hS,⟨v1,v2,v3,rfl⟩,hok⟩
   have e:Gla.firstBad (ok5 S) Gla.lineBelow S.lines=none:=by
    rw[WL.d6]
    refine WL.dR fun j hj=>hok j hj ?_
    rw[lmp,o.ln]
    exact hj
   rw[e]at k
   exact k H' hS
end
open PySem PySem.Spec PyProof.Rows L2 Wg Wx CM
open Gla (Pt)
section
variable  {P:Program}{w:World}{K:Frag}{mg:Str→Option Value}{base:Heap}{C:Addr}
theorem vw {S:Gla.Plan}{x:Nat×Nat}{j:Nat}(h0:j<S.pts.length)(h1:x.1<j)(h2:j<x.2)(h:Gla.isOn (S.pt x.1) (S.pt x.2) (S.pt j)=true):WL.m9 S x=true:=by
 unfold WL.m9
 rw[List.any_eq_true]
 exact⟨j,List.mem_range.2 h0,by rw[dqt h1,dqt h2,h];rfl⟩
theorem xQ {S:Gla.Plan}{x:Nat×Nat}(h:∀j,x.1<j→j<x.2→Gla.isOn (S.pt x.1) (S.pt x.2) (S.pt j)=false):WL.m9 S x=false:=by
 unfold WL.m9
 rw[List.any_eq_false]
 intro j _ z
 rw[Bool.and_eq_true,Bool.and_eq_true]at z
 rw[h j (of_decide_eq_true z.1) (of_decide_eq_true z.2.1)]at z
 exact absurd z.2.2 (by decide)
def B4 (K:Frag)(H:Hp)(b:Addr)(x:Nat×Nat):Prop:=SqT K H b (iV [(x.1:Int),(x.2:Int)])
theorem Op.lnAt {H:Hp}{a dx p l m:Addr}{S:Gla.Plan}{ps ls ms:List Addr}(o:Op K C H a dx p l m S ps ls ms){i:Nat}{b:Addr}(hi:i<S.lines.length)(e:ls[i]? = some b):B4 K H b S.lines[i]:=SqT.of (o.li i b _ e (gge hi))
def DB (K:Frag)(C:Addr):Sp:=fun vs H Q _=>∃(a b:Addr) (S:Gla.Plan) (x:Nat×Nat),vs=[.ref a,.ref b]∧bz C H a S∧SB S∧B4 K H b x∧x.1<x.2∧x.2<S.pts.length∧Q (.bl (WL.m9 S x)) H
theorem yX:aq ["drawing","line","p","q","k"] ["drawing","line"] (ah cX):=⟨rfl,rfl,rfl,by decide +kernel,rfl,by decide +kernel,by decide +kernel⟩
theorem Bq (F:Has K mg "has_point_on_it" cX ["drawing","line"]) (T:DCl K mg C) (gr:mg "range"=none) (C1:Cb P w K mg base 2 "is_on" ["p","q","r"] (zV K)) :
  Cb P w K mg base 3 "has_point_on_it" ["drawing","line"] (DB K C):=by
 refine F.cb yX (fun vs H Q E h=>?_) (fun f cdv A outer s H vs Q E hr h=>?_)
 ·obtain⟨a,b,S,x,rfl,_⟩:=h
  rfl
 ·obtain⟨a,b,S,x,rfl,hd,sb,hx,x1,x2,k⟩:=h
  obtain⟨dx,p,l,m,ps,ls,ms,o⟩:=hd.op (K:=K)
  have np:=sb.np
  have hx:SqT K H b (iV [(x.1:Int),(x.2:Int)]):=hx
  obtain⟨b1,hb1⟩:=o.hasP (i:=x.1) (by omega)
  obtain⟨b2,hb2⟩:=o.hasP (i:=x.2) (by omega)
  refine⟨_,ad (aB (i:=2) yX.nd rfl (.inl rfl) (aw aU (aR (pv 0) rfl) (aw aD (pv 1) ag (fun _ _=>rfl)) (fun _ _=>rfl))) (ad (aB (i:=3) yX.nd rfl (.inl rfl) (aw aU (aR (pv 0) rfl) (aw aD (pv 1) ag (fun _ _=>rfl)) (fun _ _=>rfl)))
   (ad (bw PassesOwn.never rfl (pd rfl gr (aa (aV dJ (aw aD (pv 1) ag (fun _ _=>rfl)) ag) (aa (aw aD (pv 1) ag (fun _ _=>rfl)) ac))) (au (i:=4) yX.nd rfl (.inl rfl))
    (ae (a6 (cI (aF C1 hr (aa (pv 2) (aa (pv 3) (aa (aw aU (aR (pv 0) rfl) (pv 4) (fun _ _=>rfl)) ac))))) (ae (al el)) aJ)))
   (ae (al el)))),?_⟩
  refine⟨_,rfl,a,C,dx,_,_,rfl,o.at_,T.cl,T.nP,iH,_,rfl,b,_,_,_,rfl,rfl,hx,aA (j:=0) rfl rfl,p,_,_,_,rfl,rfl,SqL.of o.pl,aA (j:=x.1) rfl (aP hb1),?_⟩
  refine⟨_,rfl,a,C,dx,_,_,rfl,o.at_,T.cl,T.nP,iH,_,rfl,b,_,_,_,rfl,rfl,hx,aA (j:=1) rfl rfl,p,_,_,_,rfl,rfl,SqL.of o.pl,aA (j:=x.2) rfl (aP hb2),?_⟩
  refine⟨_,rfl,b,_,_,_,rfl,rfl,hx,aA (j:=0) rfl rfl,_,_,rfl,rfl,_,rfl,b,_,_,_,rfl,rfl,hx,aA (j:=1) rfl rfl,_,_,rfl,⟨by omega,by omega,by omega,by omega⟩,js (fun t σ H'=>H'=H∧(∃v,σ=[some (.ref a),some (.ref b),some (.ref b1),some (.ref b2),v])∧∀j,x.1<j→j<x.1+1+t→Gla.isOn (S.pt x.1) (S.pt x.2) (S.pt j)=false)
   ⟨rfl,⟨none,rfl⟩,fun j h1 h2=>by omega⟩ ?_ ?_⟩
  ·rintro t σ H' ht ⟨rfl,⟨v,rfl⟩,hno⟩
   have et:((x.1:Int)+1+(t:Int))=((x.1+1+t:Nat):Int):=by omega
   rw[et]
   obtain⟨b3,hb3⟩:=o.hasP (i:=x.1+1+t) (by omega)
   refine⟨_,rfl,_,rfl,_,rfl,a,C,dx,_,_,rfl,o.at_,T.cl,T.nP,iH,_,rfl,p,_,_,_,rfl,rfl,SqL.of o.pl,aA (j:=x.1+1+t) rfl (aP hb3),b1,b2,b3,_,_,_,rfl,o.ptAt sb hb1,o.ptAt sb hb2,o.ptAt sb hb3,_,rfl,aS (fun c=>?_) (fun c=>?_)⟩
   ·show Q (.bl true) H'
    rw[vw (j:=x.1+1+t) (by omega) (by omega) (by omega) c]at k
    exact k
   ·refine⟨rfl,⟨_,rfl⟩,fun j h1 h2=>?_⟩
    by_cases d:j<x.1+1+t
    ·exact hno j h1 d
    ·have:j=x.1+1+t:=by omega
     subst this
     exact cC c
  ·rintro σ H' ⟨rfl,⟨v,rfl⟩,hno⟩
   rw[xQ fun j h1 h2=>hno j h1 (by omega)]at k
   exact k
def gj (S:Gla.Plan):Prop:=∀l∈S.lines,l.1<l.2∧l.2<S.pts.length
def BY (C:Addr):Sp:=fun vs H Q _=>∃(a:Addr) (S:Gla.Plan) (i:Nat) (hi:i<S.lines.length),vs=[.ref a,.int (i:Int)]∧bz C H a S∧SB S∧gj S∧Q (.bl (WL.jO S i S.lines[i])) H
theorem vg:aq ["drawing","k","line","p","q","j","earlier"] ["drawing","k"] (ah cf):=⟨rfl,rfl,rfl,by decide +kernel,rfl,by decide +kernel,by decide +kernel⟩
theorem uV {S:Gla.Plan}{x:Nat×Nat}{i j:Nat}(hi:i≤S.lines.length)(hj:j<i)(h1:x.1<(S.lines[j]'(by omega)).2)(h:Gla.crosses (S.pt x.1) (S.pt x.2) (S.pt (S.lines[j]'(by omega)).1) (S.pt (S.lines[j]'(by omega)).2)=true):WL.jO S i x=true:=by
 unfold WL.jO
 rw[List.any_eq_true]
 refine⟨S.lines[j]'(by omega),?_,by rw[dqt h1,h];rfl⟩
 rw[List.mem_take_iff_getElem]
 exact⟨j,by omega,rfl⟩
theorem xI {S:Gla.Plan}{x:Nat×Nat}{i:Nat}(h:∀j (hj:j<S.lines.length),j<i→(decide (x.1<(S.lines[j]).2)&&Gla.crosses (S.pt x.1) (S.pt x.2) (S.pt (S.lines[j]).1) (S.pt (S.lines[j]).2))=false):WL.jO S i x=false:=by
 unfold WL.jO
 rw[List.any_eq_false]
 intro y hy z
 rw[List.mem_take_iff_getElem]at hy
 obtain⟨j,hj,rfl⟩:=hy
 rw[h j (by omega) (by omega)]at z
 exact absurd z (by decide)
theorem De (F:Has K mg "crosses_one_before" cf ["drawing","k"]) (T:DCl K mg C) (gr:mg "range"=none) (C1:Cb P w K mg base 3 "do_cross" ["p","q","r","s"] (uv K)) :
  Cb P w K mg base 4 "crosses_one_before" ["drawing","k"] (BY C):=by
 refine F.cb vg (fun vs H Q E h=>?_) (fun f cdv A outer s H vs Q E hr h=>?_)
 ·obtain⟨a,S,i,hi,rfl,_⟩:=h
  rfl
 ·obtain⟨a,S,i,hi,rfl,hd,sb,hlo,k⟩:=h
  obtain⟨dx,p,l,m,ps,ls,ms,o⟩:=hd.op (K:=K)
  have np:=sb.np
  have nl:=sb.nl
  obtain⟨x1,x2⟩:=hlo _ (List.getElem_mem hi)
  obtain⟨b,hb⟩:=o.hasL (i:=i) hi
  have hx:SqT K H b (iV [(S.lines[i].1:Int),(S.lines[i].2:Int)]):=o.lnAt hi hb
  obtain⟨b1,hb1⟩:=o.hasP (i:=S.lines[i].1) (by omega)
  obtain⟨b2,hb2⟩:=o.hasP (i:=S.lines[i].2) (by omega)
  refine⟨_,ad (aB (i:=2) vg.nd rfl (.inl rfl) (aw aU (aR (pv 0) rfl) (pv 1) (fun _ _=>rfl))) (ad (aB (i:=3) vg.nd rfl (.inl rfl) (aw aU (aR (pv 0) rfl) (aw aD (pv 2) ag (fun _ _=>rfl)) (fun _ _=>rfl))) (ad (aB (i:=4) vg.nd rfl (.inl rfl) (aw aU (aR (pv 0) rfl) (aw aD (pv 2) ag (fun _ _=>rfl)) (fun _ _=>rfl)))
   (ad (bw PassesOwn.never rfl (oo rfl gr (aa (pv 1) ac)) (au (i:=5) vg.nd rfl (.inl rfl))
    (ad (aB (i:=6) vg.nd rfl (.inl rfl) (aw aU (aR (pv 0) rfl) (pv 5) (fun _ _=>rfl)))
    (ae (a6 (iQ (aK d5 (aw aD (pv 6) ag (fun _ _=>rfl)) (aw aD (pv 2) ag (fun _ _=>rfl)) (aI _)) (ij (cI (aF C1 hr (aa (pv 3) (aa (pv 4) (aa (aw aU (aR (pv 0) rfl) (aw aD (pv 6) ag (fun _ _=>rfl)) (fun _ _=>rfl)) (aa (aw aU (aR (pv 0) rfl) (aw aD (pv 6) ag (fun _ _=>rfl)) (fun _ _=>rfl)) ac)))))))).pt (ae (al el)) aJ))))
   (ae (al el))))),?_⟩
  refine⟨_,rfl,a,C,dx,_,_,rfl,o.at_,T.cl,T.nL,p8,_,rfl,l,_,_,_,rfl,rfl,SqL.of o.ll,aA (j:=i) rfl (aP hb),?_⟩
  refine⟨_,rfl,a,C,dx,_,_,rfl,o.at_,T.cl,T.nP,iH,_,rfl,b,_,_,_,rfl,rfl,hx,aA (j:=0) rfl rfl,p,_,_,_,rfl,rfl,SqL.of o.pl,aA (j:=S.lines[i].1) rfl (aP hb1),?_⟩
  refine⟨_,rfl,a,C,dx,_,_,rfl,o.at_,T.cl,T.nP,iH,_,rfl,b,_,_,_,rfl,rfl,hx,aA (j:=1) rfl rfl,p,_,_,_,rfl,rfl,SqL.of o.pl,aA (j:=S.lines[i].2) rfl (aP hb2),?_⟩
  refine⟨_,rfl,_,rfl,by omega,by omega,js (fun t σ H'=>H'=H∧(∃v1 v2,σ=[some (.ref a),some (.int (i:Int)),some (.ref b),some (.ref b1),some (.ref b2),v1,v2])∧∀j (hj:j<S.lines.length),j<t→(decide (S.lines[i].1<(S.lines[j]).2)&&Gla.crosses (S.pt S.lines[i].1) (S.pt S.lines[i].2) (S.pt (S.lines[j]).1) (S.pt (S.lines[j]).2))=false)
   ⟨rfl,⟨none,none,rfl⟩,fun j h1 h2=>by omega⟩ ?_ ?_⟩
  ·rintro t σ H' ht ⟨rfl,⟨v1,v2,rfl⟩,hno⟩
   rw[Int.toNat_natCast]at ht
   rw[Int.zero_add]
   have htl:t<S.lines.length:=by omega
   obtain⟨y1,y2⟩:=hlo _ (List.getElem_mem htl)
   obtain⟨c,hc⟩:=o.hasL (i:=t) htl
   have hy:SqT K H' c (iV [(S.lines[t].1:Int),(S.lines[t].2:Int)]):=o.lnAt htl hc
   obtain⟨b3,hb3⟩:=o.hasP (i:=S.lines[t].1) (by omega)
   obtain⟨b4,hb4⟩:=o.hasP (i:=S.lines[t].2) (by omega)
   have next:(decide (S.lines[i].1<(S.lines[t]).2)&&Gla.crosses (S.pt S.lines[i].1) (S.pt S.lines[i].2) (S.pt (S.lines[t]).1) (S.pt (S.lines[t]).2))=false→∀j (hj:j<S.lines.length),j<t+1→(decide (S.lines[i].1<(S.lines[j]).2)&&Gla.crosses (S.pt S.lines[i].1) (S.pt S.lines[i].2) (S.pt (S.lines[j]).1) (S.pt (S.lines[j]).2))=false:=fun z j hj h=>by
    by_cases d:j<t
    ·exact hno j hj d
    ·have:j=t:=by omega
     subst this
     exact z
   refine⟨_,rfl,a,C,dx,_,_,rfl,o.at_,T.cl,T.nL,p8,_,rfl,l,_,_,_,rfl,rfl,SqL.of o.ll,aA (j:=t) rfl (aP hc),?_⟩
   refine⟨_,rfl,c,_,_,_,rfl,rfl,hy,aA (j:=1) rfl rfl,_,rfl,b,_,_,_,rfl,rfl,hx,aA (j:=0) rfl rfl,_,_,rfl,rfl,_,rfl,aS (fun c1=>?_) (fun c1=>?_)⟩
   ·have c1:(S.lines[i].1:Int)<(S.lines[t].2:Int):=of_decide_eq_true c1
    refine⟨_,rfl,_,rfl,_,rfl,a,C,dx,_,_,rfl,o.at_,T.cl,T.nP,iH,_,rfl,c,_,_,_,rfl,rfl,hy,aA (j:=0) rfl rfl,p,_,_,_,rfl,rfl,SqL.of o.pl,aA (j:=S.lines[t].1) rfl (aP hb3),_,rfl,a,C,dx,_,_,rfl,o.at_,T.cl,T.nP,iH,_,rfl,c,_,_,_,rfl,rfl,hy,aA (j:=1) rfl rfl,p,_,_,_,rfl,rfl,SqL.of o.pl,aA (j:=S.lines[t].2) rfl (aP hb4),b1,b2,b3,b4,_,_,_,_,rfl,o.ptAt sb hb1,o.ptAt sb hb2,o.ptAt sb hb3,o.ptAt sb hb4,_,rfl,aS (fun c2=>?_) (fun c2=>?_)⟩
    ·show Q (.bl true) H'
     rw[uV (j:=t) (by omega) ht (by omega) c2]at k
     exact k
    ·exact⟨rfl,⟨_,_,rfl⟩,next (by rw[cC c2,Bool.and_false])⟩
   ·have c1:¬(S.lines[i].1:Int)<(S.lines[t].2:Int):=aG c1
    exact⟨rfl,⟨_,_,rfl⟩,next (by rw[dqf (by omega),Bool.false_and])⟩
  ·rintro σ H' ⟨rfl,⟨v1,v2,rfl⟩,hno⟩
   rw[Int.toNat_natCast]at hno
   rw[xI hno]at k
   exact k
def BB (C:Addr):Sp:=fun vs H Q _=>∃(a:Addr) (S:Gla.Plan),vs=[.ref a]∧bz C H a S∧SB S∧WL.R4 S∧WL.R5 S∧dG (jv 7 (pT S) (Gla.firstAt (Gla.touches S) S.lines)) H Q
theorem Ah:aq ["drawing","k","line"] ["drawing"] (ah cg):=⟨rfl,rfl,rfl,by decide +kernel,rfl,by decide +kernel,by decide +kernel⟩
theorem BW (F:Has K mg "fault_of_crossings" cg ["drawing"]) (T:DCl K mg C) (ge:mg "enumerate"=none) (C1:Cb P w K mg base 3 "has_point_on_it" ["drawing","line"] (DB K C)) (C2:Cb P w K mg base 4 "crosses_one_before" ["drawing","k"] (BY C)) (C3:Cm P w K mg base 2 C "place_of_line" ["self","k"] (uT C)) :
  Cb P w K mg base 5 "fault_of_crossings" ["drawing"] (BB C):=by
 refine F.cb Ah (fun vs H Q E h=>?_) (fun f cdv A outer s H vs Q E hr h=>?_)
 ·obtain⟨a,S,rfl,_⟩:=h
  rfl
 ·obtain⟨a,S,rfl,hd,sb,h4,h5,k⟩:=h
  obtain⟨dx,p,l,m,ps,ls,ms,o⟩:=hd.op (K:=K)
  have hr3:bu 3 _:=hr.mono (by decide)
  have hr2:bu 2 _:=hr.mono (by decide)
  have hlo:gj S:=fun l hl=>h5.line hl
  refine⟨_,ad (bw PassesOwn.never rfl (dU rfl ge (aa (aR (pv 0) rfl) ac)) (cS (n:=2) rfl (aL (au (i:=1) Ah.nd rfl (.inl rfl)) (aL (au (i:=2) Ah.nd rfl (.inl rfl)) bW)))
    (ae (a6 (mZ (cI (aF C1 hr3 (aa (pv 0) (aa (pv 2) ac)))) (jN (cI (aF C2 hr (aa (pv 0) (aa (pv 1) ac)))))).pt
     (ae (al (bA (aa ag (aa (g9 (pv 0) T.cl C3 hr2 (aa (pv 1) ac)) ac))))) aJ)))
   (ae (al bc)),?_⟩
  refine⟨_,rfl,a,C,dx,_,_,rfl,o.at_,T.cl,T.nL,p8,l,_,rfl,SqL.of o.ll,di (K:=K) (a:=l) (xs:=ls.map V.ref) (fun i σ H'=>ak H H'∧(∃v1 v2,σ=[some (.ref a),v1,v2])∧∀j (hj:j<S.lines.length),j<i→Gla.touches S j S.lines[j]=false)
   ⟨ak.refl H,⟨none,none,rfl⟩,fun j hj h=>absurd h (Nat.not_lt_zero _)⟩ (fun i σ H' _ h=>SqL.of (h.1 _ _ o.ll)) ?_ ?_⟩
  ·rintro i y T' σ H' hi hT ⟨hS,⟨v1,v2,rfl⟩,hok⟩
   obtain⟨b,hb,rfl⟩:=cq hi
   have hil:i<S.lines.length:=by rw[←o.ln];exact(gsi hb).1
   have s2:ak H (upd H' T' (.tup [.int (i:Nat),.ref b])):=a5 hS hT
   refine⟨T',_,rfl,SqT.of af,rfl,_,_,rfl,_,_,rfl,rfl,?_⟩
   generalize upd H' T' (.tup [.int (i:Nat),.ref b])=H2 at s2
   have o2:=o.same s2
   have te:=WL.xT h4 h5 i (List.getElem_mem hil)
   have ret:Gla.touches S i S.lines[i]=true→my (vf (bD (tC (.int 7)) (bD (jY C "place_of_line" (uT C) [] E0 (a8 0) (bD (a8 1) fS)) fS)))
     { nx:=fun σ H'=>ak H H'∧(∃v1 v2,σ=[some (.ref a),v1,v2])∧∀j (hj:j<S.lines.length),j<i+1→Gla.touches S j S.lines[j]=false,rt:=Q,bk:=fun σ H'=>Q .non H',ct:=fun σ H'=>ak H H'∧(∃v1 v2,σ=[some (.ref a),v1,v2])∧∀j (hj:j<S.lines.length),j<i+1→Gla.touches S j S.lines[j]=false }
     [some (.ref a),some (.int (i:Nat)),some (.ref b)] H2:=fun z=>by
    refine⟨_,rfl,a,dx,_,rfl,o2.at_,bZ (.inl (.inr rfl)),_,rfl,a,S,_,rfl,o2.draw,(by show 2≤sizeLine;decide),fun q hq=>?_⟩
    have e:Gla.firstAt (Gla.touches S) S.lines=some i:=WL.eg hil z fun j hj=>hok j (by omega) hj
    rw[e]at k
    exact dG.some' k s2 q hq
   refine⟨_,rfl,_,rfl,a,b,S,S.lines[i],rfl,o2.draw,sb,o2.lnAt hil hb,(hlo _ (List.getElem_mem hil)).1,(hlo _ (List.getElem_mem hil)).2,_,rfl,aS (fun c1=>?_) (fun c1=>?_)⟩
   ·exact eA (ret (by rw[te,c1];rfl))
   ·refine⟨_,rfl,_,rfl,a,S,i,hil,rfl,o2.draw,sb,hlo,_,rfl,aS (fun c2=>?_) (fun c2=>?_)⟩
    ·exact ret (by rw[te,c2,Bool.or_true])
    ·refine⟨s2,⟨_,_,rfl⟩,fun j hj h=>?_⟩
     by_cases c:j<i
     ·exact hok j hj c
     ·have:j=i:=by omega
      subst this
      rw[te,cC c1,cC c2]
      rfl
  ·rintro σ H' ⟨hS,⟨v1,v2,rfl⟩,hok⟩
   have e:Gla.firstAt (Gla.touches S) S.lines=none:=by
    refine WL.dR fun j hj=>hok j hj ?_
    rw[lmp,o.ln]
    exact hj
   rw[e]at k
   exact k H' hS
end
open PySem PySem.Spec PyProof.Rows L2 Wg Wx CM
open Gla (Pt)
def nI (l:List Nat):List Int:=l.map fun (x:Nat)=>(x:Int)
def tR (i:Nat)(l:Nat×Nat):Option Nat:=if l.1=i then some l.2 else if l.2=i then some l.1 else none
def eI (S:Gla.Plan)(t i:Nat):List Nat:=(S.lines.take t).filterMap (tR i)
theorem sT (S:Gla.Plan)(i:Nat):eI S S.lines.length i=S.near i:=by
 unfold eI
 rw[List.take_length]
 rfl
theorem mT (S:Gla.Plan)(t i:Nat):(eI S t i).length≤t:=by
 refine Nat.le_trans (List.length_filterMap_le _ _) ?_
 rw[List.length_take]
 omega
theorem rs {S:Gla.Plan}{t:Nat}(ht:t<S.lines.length)(i:Nat):eI S (t+1) i=eI S t i++(tR i S.lines[t]).toList:=by
 unfold eI
 rw[bY (gge ht),List.filterMap_append]
 congr 1
structure NbS (H0 H:Hp)(N:Addr)(as:List Addr)(f:Nat→List Nat):Prop where
 sm:ak H0 H
 fr:H0 N=none
 at_:H N=some (.lst (as.map V.ref))
 nd:∀(i j:Nat) (b:Addr),as[i]? = some b→as[j]? = some b→i=j
 row:∀(i:Nat) (b:Addr),as[i]? = some b→b≠N∧H0 b=none∧H b=some (.lst (iV (nI (f i))))
theorem NbS.push {H0 H:Hp}{N:Addr}{as:List Addr}{f g:Nat→List Nat}(h:NbS H0 H N as f){i:Nat}{b:Addr}{z:Nat}(e:as[i]? = some b)(hg:∀j,j<as.length→g j=if j=i then f i++[z] else f j) :
  NbS H0 (upd H b (.lst (iV (nI (f i))++[.int (z:Int)]))) N as g:=by
 obtain⟨r1,r2,r3⟩:=h.row i b e
 refine⟨aY h.sm r2,h.fr,by rw[ap r1.symm];exact h.at_,h.nd,fun j c ec=>?_⟩
 obtain⟨q1,q2,q3⟩:=h.row j c ec
 refine⟨q1,q2,?_⟩
 have hj:=(gsi ec).1
 by_cases cj:j=i
 ·subst cj
  rw[e]at ec
  have ec:=osi ec
  subst ec
  rw[af,hg j hj,if_pos rfl]
  unfold nI iV
  rw[List.map_append,List.map_append]
  rfl
 ·rw[hg j hj,if_neg cj]
  rw[ap (fun z=>cj (h.nd j i b (by rw[←z];exact ec) e))]
  exact q3
section
variable  {P:Program}{w:World}{K:Frag}{mg:Str→Option Value}{base:Heap}{C:Addr}
def A8 (C:Addr):Sp:=fun vs H Q _=>∃(a:Addr) (S:Gla.Plan),vs=[.ref a]∧bz C H a S∧SB S∧gj S∧∀(H':Hp) (N:Addr) (as:List Addr),NbS H H' N as S.near→as.length=S.pts.length→Q (.ref N) H'
theorem x8:aq ["drawing","neighbours","line","point"] ["drawing"] (ah cN):=⟨rfl,rfl,rfl,by decide +kernel,rfl,by decide +kernel,by decide +kernel⟩
theorem Bz (F:Has K mg "neighbours_of" cN ["drawing"]) (T:DCl K mg C):Cb P w K mg base 1 "neighbours_of" ["drawing"] (A8 C):=by
 refine F.cb x8 (fun vs H Q E h=>?_) (fun f cdv A outer s H vs Q E hr h=>?_)
 ·obtain⟨a,S,rfl,_⟩:=h
  rfl
 ·obtain⟨a,S,rfl,hd,sb,hlo,k⟩:=h
  obtain⟨dx,p,l,m,ps,ls,ms,o⟩:=hd.op (K:=K)
  have np:=sb.np
  have nl:=sb.nl
  refine⟨_,ad (cv (i:=1) (own:=[("point",3)]) rfl x8.nd rfl rfl (dD rfl rfl rfl (by decide +kernel)) (bQ (aR (pv 0) rfl)) (bL (by show iG ["drawing","neighbours","line","point"] (ah cN) _ _=true;decide +kernel))
    (fun _ _ _ _ _=>au (i:=3) x8.nd rfl (.inl rfl) (.inr rfl)) (fun _ _ _ _ _=>eV) (fun _ _ _ _ _=>d3 ac))
   (ad (bw PassesOwn.never rfl (bQ (aR (pv 0) rfl)) (au (i:=2) x8.nd rfl (.inl rfl))
    (ad (jp (lD PySem.F.plainAttrs_list PySem.F.slot_list_append PySem.F.type_list_append gR (aw aU (pv 1) (aw aD (pv 2) ag (fun _ _=>rfl)) (fun _ _=>rfl)) (aa (aw aD (pv 2) ag (fun _ _=>rfl)) ac)))
    (ae (jp (lD PySem.F.plainAttrs_list PySem.F.slot_list_append PySem.F.type_list_append gR (aw aU (pv 1) (aw aD (pv 2) ag (fun _ _=>rfl)) (fun _ _=>rfl)) (aa (aw aD (pv 2) ag (fun _ _=>rfl)) ac))))))
   (ae (al (pv 1)))),?_⟩
  refine⟨_,rfl,a,C,dx,_,_,rfl,o.at_,T.cl,T.nP,iH,p,rfl,⟨_,SqL.of o.pl⟩,fun D hD=>?_⟩
  refine hZ (K:=K) (a:=p) (xs:=ps.map V.ref) (fun i H'=>∃as:List Addr,ak H H'∧H' D=some (.lst (as.map V.ref))∧as.length=i∧(∀(i j:Nat) (b:Addr),as[i]? = some b→as[j]? = some b→i=j)∧∀(j:Nat) (b:Addr),as[j]? = some b→b≠D∧H b=none∧H' b=some (.lst []))
   ⟨[],aN hD,af,rfl,fun i j b e=>by simp at e,fun j b e=>by simp at e⟩ (fun i H' _ h=>by obtain⟨as,h1,_⟩:=h;exact SqL.of (h1 _ _ o.pl)) ?_ ?_
  ·rintro i y H' hi ⟨as,hS,hDl,hlen,hnd,hat⟩
   have hil:i<ps.length:=by
    have:=(gsi hi).1
    rw[lmp]at this
    exact this
   have pn:=o.pn
   refine⟨rfl,nY (eA ?_)⟩
   refine⟨(by show 0≤sizeLine;decide),fun q hq=>?_⟩
   have nqD:q≠D:=fun z=>by rw[z,hDl]at hq;cases hq
   refine⟨as.map V.ref,by rw[ap nqD.symm];exact hDl,by rw[lmp];exact bF (by omega),as++[q],aY (a5 hS hq) hD,?_,by rw[List.length_append,hlen];rfl,?_,?_⟩
   ·rw[af,List.map_append]
    rfl
   ·have old:∀(j:Nat),as[j]? = some q→False:=fun j e=>by
     have:=(hat j q e).2.2
     rw[hq]at this
     cases this
    intro j1 j2 b e1 e2
    by_cases c1:j1<as.length
    ·rw[List.getElem?_append_left c1]at e1
     by_cases c2:j2<as.length
     ·rw[List.getElem?_append_left c2]at e2
      exact hnd j1 j2 b e1 e2
     ·have h2:=(gsi e2).1
      rw[List.length_append]at h2
      have ej:j2=as.length:=by simp at h2;omega
      subst ej
      rw[List.getElem?_append_right (nlr _),Nat.sub_self]at e2
      have e2:q=b:=osi e2
      subst e2
      exact(old j1 e1).elim
    ·have h1:=(gsi e1).1
     rw[List.length_append]at h1
     have ej1:j1=as.length:=by simp at h1;omega
     by_cases c2:j2<as.length
     ·rw[List.getElem?_append_left c2]at e2
      subst ej1
      rw[List.getElem?_append_right (nlr _),Nat.sub_self]at e1
      have e1:q=b:=osi e1
      subst e1
      exact(old j2 e2).elim
     ·have h2:=(gsi e2).1
      rw[List.length_append]at h2
      have ej2:j2=as.length:=by simp at h2;omega
      omega
   ·intro j b e
    by_cases c:j<as.length
    ·rw[List.getElem?_append_left c]at e
     obtain⟨n1,n2,n3⟩:=hat j b e
     refine⟨n1,n2,?_⟩
     rw[ap n1,ap (aQ n3 hq)]
     exact n3
    ·have h1:=(gsi e).1
     rw[List.length_append]at h1
     have ej:j=as.length:=by simp at h1;omega
     subst ej
     rw[List.getElem?_append_right (nlr _),Nat.sub_self]at e
     have e:q=b:=osi e
     subst e
     refine⟨nqD,hS.free hq,?_⟩
     rw[ap nqD]
     exact af
  rintro H1 ⟨as,hS,hDl,hlen,hnd,hat⟩
  rw[lmp,o.pn]at hlen
  have hb0:NbS H H1 D as (eI S 0):=⟨hS,hD,hDl,hnd,fun i b e=>hat i b e⟩
  have o1:=o.same hS
  refine⟨_,rfl,a,C,dx,_,_,rfl,o1.at_,T.cl,T.nL,p8,l,rfl,⟨_,SqL.of o1.ll⟩,er (K:=K) (a:=l) (xs:=ls.map V.ref) (fun i σ H'=>(∃v,σ=[some (.ref a),some (.ref D),v,none])∧NbS H H' D as (eI S i))
   ⟨⟨none,rfl⟩,hb0⟩ (fun i σ H' _ h=>SqL.of (h.2.sm _ _ o.ll)) ?_ ?_⟩
  ·rintro t y σ H' hi ⟨⟨v,rfl⟩,hb⟩
   obtain⟨b,hbl,rfl⟩:=cq hi
   have ht:t<S.lines.length:=by rw[←o.ln];exact(gsi hbl).1
   obtain⟨x1,x2⟩:=hlo _ (List.getElem_mem ht)
   obtain⟨c1,hc1⟩:∃c,as[S.lines[t].1]? = some c:=⟨as[S.lines[t].1]'(by omega),gge _⟩
   obtain⟨c2,hc2⟩:∃c,as[S.lines[t].2]? = some c:=⟨as[S.lines[t].2]'(by omega),gge _⟩
   have hx:SqT K H' b (iV [(S.lines[t].1:Int),(S.lines[t].2:Int)]):=(o.same hb.sm).lnAt ht hbl
   have hr1:=(hb.row _ _ hc1).2.2
   refine⟨_,rfl,_,rfl,b,_,_,_,rfl,rfl,hx,aA (j:=0) rfl rfl,D,_,_,_,rfl,rfl,SqL.of hb.at_,aA (j:=S.lines[t].1) rfl (aP hc1),.inl ⟨rfl,_,SqL.of hr1⟩,_,rfl,b,_,_,_,rfl,rfl,hx,aA (j:=1) rfl rfl,c1,_,_,rfl,rfl,hr1,?_,?_⟩
   ·unfold iV nI
    rw[lmp,lmp]
    have:=mT S t S.lines[t].1
    exact bF (by omega)
   have hb2:=hb.push (g:=fun j=>if j=S.lines[t].1 then eI S t S.lines[t].1++[S.lines[t].2] else eI S t j) hc1 (fun j _=>rfl)
   generalize upd H' c1 (.lst (iV (nI (eI S t S.lines[t].1))++[.int (S.lines[t].2:Int)]))=H2 at hb2
   have hx2:SqT K H2 b (iV [(S.lines[t].1:Int),(S.lines[t].2:Int)]):=(o.same hb2.sm).lnAt ht hbl
   have hr2:=(hb2.row _ _ hc2).2.2
   rw[if_neg (show ¬S.lines[t].2=S.lines[t].1 by omega)]at hr2
   refine⟨_,rfl,_,rfl,b,_,_,_,rfl,rfl,hx2,aA (j:=1) rfl rfl,D,_,_,_,rfl,rfl,SqL.of hb2.at_,aA (j:=S.lines[t].2) rfl (aP hc2),.inl ⟨rfl,_,SqL.of hr2⟩,_,rfl,b,_,_,_,rfl,rfl,hx2,aA (j:=0) rfl rfl,c2,_,_,rfl,rfl,hr2,?_,?_⟩
   ·unfold iV nI
    rw[lmp,lmp]
    have:=mT S t S.lines[t].2
    exact bF (by omega)
   refine⟨⟨_,rfl⟩,?_⟩
   have hb3:=hb2.push (g:=eI S (t+1)) hc2 (z:=S.lines[t].1) (fun j _=>by
    rw[rs ht,if_neg (show ¬S.lines[t].2=S.lines[t].1 by omega)]
    unfold tR
    by_cases e2:j=S.lines[t].2
    ·rw[if_pos e2,if_neg (by omega),if_pos e2.symm,e2]
     rfl
    ·rw[if_neg e2]
     by_cases e1:j=S.lines[t].1
     ·rw[if_pos e1.symm,if_pos e1,e1]
      rfl
     ·rw[if_neg (fun z=>e1 z.symm),if_neg (fun z=>e2 z.symm),if_neg e1]
      exact List.append_nil _)
   rw[if_neg (show ¬S.lines[t].2=S.lines[t].1 by omega)]at hb3
   exact hb3
  ·rintro σ H' ⟨⟨v,rfl⟩,hb⟩
   refine⟨_,rfl,k H' D as ?_ hlen⟩
   rw[lmp,o.ln]at hb
   have e:eI S S.lines.length=S.near:=funext fun i=>sT S i
   rw[e]at hb
   exact hb
end
open PySem PySem.Spec PyProof.Rows L2 Wg Wx CM
open Gla (Pt)
def loV:Option Nat→V
 |none=>.non
 |some k=>.int (k:Int)
def mkS (lo:Option Nat)(l:List Bool):List Bool:=match lo with
 |none=>l
 |some k=>l.set k true
def fH (lo:Option Nat)(n:Nat):Array Bool:=match lo with
 |none=>Gla.noneSeen n
 |some k=>(Gla.noneSeen n).setIfInBounds k true
theorem wc {lo:Option Nat}{j:Nat}(h:lo≠some j)(l:List Bool):(mkS lo l)[j]? = l[j]?:=by
 cases lo with
 |none=>rfl
 |some k=>exact List.getElem?_set_ne (fun z=>h (by rw[z]))
theorem Bs {j:Nat}{l:List Bool}(h:j<l.length):(mkS (some j) l)[j]? = some true:=List.getElem?_set_self h
theorem sh {lo:Option Nat}{j:Nat}(h:lo≠some j)(l:List Bool):(mkS lo l).set j true=mkS lo (l.set j true):=by
 cases lo with
 |none=>rfl
 |some k=>exact List.set_comm _ _ (fun z=>h (by rw[z]))
theorem Bn (lo:Option Nat)(l:List Bool):(mkS lo l).length=l.length:=by
 cases lo with
 |none=>rfl
 |some k=>exact List.length_set
theorem pS {a:Array Bool}{j:Nat}{b:Bool}(h:a.toList[j]? = some b):a.getD j true=b:=by
 rw[Array.getD_eq_getD_getElem?,←Array.getElem?_toList,h]
 rfl
theorem iw (lo:Option Nat)(n:Nat):(fH lo n).toList=mkS lo (List.replicate n false):=by
 cases lo with
 |none=>exact Array.toList_replicate
 |some k =>
  show((Gla.noneSeen n).setIfInBounds k true).toList=_
  rw[Array.toList_setIfInBounds]
  unfold Gla.noneSeen
  rw[Array.toList_replicate]
  rfl
def RW (H:Hp)(N:Addr)(as:List Addr)(f:Nat→List Nat):Prop:=H N=some (.lst (as.map V.ref))∧∀(i:Nat) (b:Addr),as[i]? = some b→H b=some (.lst (iV (nI (f i))))
theorem RW.same {H H':Hp}{N:Addr}{as:List Addr}{f:Nat→List Nat}(h:RW H N as f)(s:ak H H'):RW H' N as f:=⟨s _ _ h.1,fun i b e=>s _ _ (h.2 i b e)⟩
theorem NbS.rw {H0 H:Hp}{N:Addr}{as:List Addr}{f:Nat→List Nat}(h:NbS H0 H N as f):RW H N as f:=⟨h.at_,fun i b e=>(h.row i b e).2.2⟩
def nrs (n:Nat)(f:Nat→List Nat):Array (List Nat):=((List.range n).map f).toArray
theorem Al {n:Nat}{f:Nat→List Nat}{k:Nat}(h:k<n):(nrs n f).getD k []=f k:=by
 unfold nrs
 rw[Array.getD_eq_getD_getElem?,List.getElem?_toArray,List.getElem?_map,List.getElem?_range h]
 rfl
structure RfS (H H':Hp)(R Wa:Addr)(n:Nat)(lo:Option Nat)(todo:List Nat)(seen:Array Bool)(Rl:List Bool):Prop where
 sm:ak H H'
 r:H' R=some (.lst (Rl.map V.bl))
 w:H' Wa=some (.lst (iV (nI todo.reverse)))
 ln:Rl.length=n
 sk:seen.toList=mkS lo Rl
 lo:∀k,lo=some k→Rl[k]? = some false
 td:∀j∈todo,j<n
section
variable  {P:Program}{w:World}{K:Frag}{mg:Str→Option Value}{base:Heap}{C:Addr}
def zm:Sp:=fun vs H Q _=>∃(st:Nat) (N:Addr) (as:List Addr) (f:Nat→List Nat) (lo:Option Nat) (n:Nat),vs=[.int (st:Int),.ref N,loV lo]∧RW H N as f∧as.length=n∧n≤100000∧st<n∧lo≠some st∧(∀k,lo=some k→k<n)∧(∀i,i<n→∀j∈f i,j<n) ∧
 ∀(H':Hp) (R:Addr) (Rl:List Bool),ak H H'→H' R=some (.lst (Rl.map V.bl))→Rl.length=n→(∀k,lo=some k→Rl[k]? = some false)→mkS lo Rl=(Gla.seenFrom (nrs n f) n st (fH lo n)).toList→Q (.ref R) H'
theorem vE:aq ["start","neighbours","left_out","reached","waiting","here","there","row"] ["start","neighbours","left_out"] (ah dg):=⟨rfl,rfl,rfl,by decide +kernel,rfl,by decide +kernel,by decide +kernel⟩
theorem ur {n k:Nat}(h:k<n):ixN n (k:Int)=some k:=by
 unfold ixN
 rw[if_pos (by omega),if_pos (by omega),Int.toNat_natCast]
theorem Cy {l:List Bool}{j:Nat}{b:Bool}(h:l[j]? = some b):(l.map V.bl)[j]? = some (.bl b):=by
 rw[List.getElem?_map,h]
 rfl
theorem lj {l:List Nat}{i:Nat}{v:V}(h:(iV (nI l))[i]? = some v):∃x,l[i]? = some x∧v=.int (x:Int):=by
 unfold iV nI at h
 rw[List.getElem?_map,List.getElem?_map]at h
 cases e:l[i]? with
 |none=>rw[e]at h;cases h
 |some x =>
  rw[e]at h
  exact⟨x,rfl,(osi h).symm⟩
theorem gp (l:List Nat)(k:Nat):iV (nI (l++[k]))=iV (nI l)++[.int (k:Int)]:=by
 unfold iV nI
 rw[List.map_append,List.map_append]
 rfl
theorem bS (l:List Nat):(iV (nI l)).length=l.length:=by
 unfold iV nI
 rw[lmp,lmp]
theorem zl (xs:List V)(v:V):(xs++[v])[(xs++[v]).length-1]? = some v:=by
 rw[List.length_append,List.length_singleton,Nat.add_sub_cancel,List.getElem?_append_right (nlr _),Nat.sub_self]
 rfl
theorem B3 (F:Has K mg "reached_from" dg ["start","neighbours","left_out"]) (gl:mg "len"=none):Cb P w K mg base 1 "reached_from" ["start","neighbours","left_out"] zm:=by
 refine F.cb vE (fun vs H Q E h=>?_) (fun ff cdv A outer s H vs Q E hr h=>?_)
 ·obtain⟨st,N,as,f,lo,n,rfl,_⟩:=h
  rfl
 ·obtain⟨st,N,as,f,lo,n,rfl,hrw,hlen,hn,hst,hlost,hlon,hfn,k⟩:=h
  refine⟨_,ad (cv (i:=3) (own:=[("row",7)]) rfl vE.nd rfl rfl (dD rfl rfl rfl (by decide +kernel)) (bQ (pv 1)) (bL (by show iG ["start","neighbours","left_out","reached","waiting","here","there","row"] (ah dg) _ _=true;decide +kernel))
    (fun _ _ _ _ _=>au (i:=7) vE.nd rfl (.inl rfl) (.inr rfl)) (fun _ _ _ _ _=>eV) (fun _ _ _ _ _=>el))
   (ad (wE el (xX (pv 3) (pv 0) rB))
   (ad (aB (i:=4) vE.nd rfl (.inl rfl) (d3 (aa (pv 0) ac)))
   (ad (m8 PassesOwn.never (aK d5 (aW aO (by rfl) gl PySem.boot_len (aa (pv 4) ac)) ag (aI _))
    (ad (aB (i:=5) vE.nd rfl (.inl rfl) (AA PySem.F.plainAttrs_list PySem.F.slot_list_pop PySem.F.type_list_pop Au (pv 4)))
    (ae (bw PassesOwn.never rfl (bQ (aw aU (pv 1) (pv 5) (fun _ _=>rfl))) (au (i:=6) vE.nd rfl (.inl rfl))
     (ae (a6 (iQ (aK xJ (pv 6) (pv 2) (aI _)) (ij (jM (cI (aw aU (pv 3) (pv 6) (fun _ _=>rfl)))))).pt
      (ad (wE el (xX (pv 3) (pv 6) rB))
      (ae (jp (lD PySem.F.plainAttrs_list PySem.F.slot_list_append PySem.F.type_list_append gR (pv 4) (aa (pv 6) ac))))) aJ))))))
   (ae (al (pv 3)))))),?_⟩
  refine⟨_,rfl,N,rfl,⟨_,SqL.of hrw.1⟩,fun D hD=>?_⟩
  refine hZ (K:=K) (a:=N) (xs:=as.map V.ref) (fun i H'=>H'=upd H D (.lst ((List.replicate i false).map V.bl))) rfl (fun i H' _ h=>by rw[h];exact SqL.of (by rw[ap (aQ hrw.1 hD)];exact hrw.1)) ?_ ?_
  ·rintro i y H' hi rfl
   have hil:i<as.length:=by
    have:=(gsi hi).1
    rw[lmp]at this
    exact this
   refine⟨rfl,nY (eA ?_)⟩
   refine⟨_,af,by rw[lmp,List.length_replicate];exact bF (by omega),?_⟩
   rw[tF,List.replicate_succ',List.map_append]
   rfl
  rintro H1 rfl
  rw[lmp,hlen]
  refine⟨_,rfl,_,rfl,D,_,_,st,rfl,rfl,af,ur (by rw[lmp,List.length_replicate];exact hst),?_⟩
  rw[tF]
  have eset:((List.replicate n false).map V.bl).set st (.bl true)=((List.replicate n false).set st true).map V.bl:=by rw[List.map_set]
  rw[eset]
  refine⟨_,rfl,(by show 1≤sizeLine;decide),fun Wa hWa=>?_⟩
  have nDW:D≠Wa:=fun z=>by rw[z,af]at hWa;cases hWa
  have hW0:H Wa=none:=by rw[ap nDW.symm]at hWa;exact hWa
  have s1:ak H (upd H D (.lst (((List.replicate n false).set st true).map V.bl))):=aN hD
  have s2:ak H (upd (upd H D (.lst (((List.replicate n false).set st true).map V.bl))) Wa (.lst [.int (st:Int)])):=aY s1 hW0
  have z0:RfS H (upd (upd H D (.lst (((List.replicate n false).set st true).map V.bl))) Wa (.lst [.int (st:Int)])) D Wa n lo [st] ((fH lo n).setIfInBounds st true) ((List.replicate n false).set st true):=by
   refine⟨s2,?_,af,?_,?_,?_,?_⟩
   ·rw[ap nDW]
    exact af
   ·rw[List.length_set,List.length_replicate]
   ·rw[Array.toList_setIfInBounds,iw,sh hlost]
   ·intro q hq
    rw[List.getElem?_set_ne (fun z=>hlost (by rw[hq,z])),List.getElem?_replicate,if_pos (hlon q hq)]
   ·intro j hj
    rw[List.mem_singleton.1 hj]
    exact hst
  refine⟨fun mm σ H'=>mm≤n+1∧∃v5 v6 todo seen Rl,σ=[some (.int (st:Int)),some (.ref N),some (loV lo),some (.ref D),some (.ref Wa),v5,v6,none]∧RfS H H' D Wa n lo todo seen Rl∧todo.length+WL.fe seen≤mm∧Gla.spread (nrs n f) mm todo seen=Gla.seenFrom (nrs n f) n st (fH lo n),
   ⟨n+1,nlr _,none,none,[st],_,_,rfl,z0,?_,rfl⟩,?_⟩
  ·unfold WL.fe
   rw[z0.sk,←sh hlost,←iw]
   have h1:(fH lo n).toList[st]? = some false:=by
    rw[iw,wc hlost,List.getElem?_replicate,if_pos hst]
   have h2:=WL.jt h1
   have h3:(fH lo n).toList.count false≤n:=by
    refine Nat.le_trans List.count_le_length ?_
    rw[iw,Bn,List.length_replicate]
    exact nlr _
   show 1+_≤n+1
   omega
  rintro mm σ H' ⟨hmm,v5,v6,todo,seen,Rl,rfl,z,hmu,hfin⟩
  refine⟨_,rfl,Wa,_,rfl,.inl (SqL.of z.w),_,_,rfl,rfl,_,rfl,aS (fun c=>?_) (fun c=>?_)⟩
  ·have c:=of_decide_eq_true c
   rw[bS,List.length_reverse]at c
   obtain⟨k0,r,rfl⟩:∃k0 r,todo=k0 :: r:=by
    cases todo with
    |nil=>simp at c
    |cons k0 r=>exact⟨k0,r,rfl⟩
   obtain⟨m',rfl⟩:∃m',mm=m'+1:=⟨mm-1,by simp at hmu;omega⟩
   have hk0:k0<n:=z.td k0 (List.mem_cons_self)
   rw[WL.rj,Al hk0]at hfin
   refine⟨fun σ' H'=>m'≤n+1∧∃v5 v6 todo seen Rl,σ'=[some (.int (st:Int)),some (.ref N),some (loV lo),some (.ref D),some (.ref Wa),v5,v6,none]∧RfS H H' D Wa n lo todo seen Rl∧todo.length+WL.fe seen≤m'∧Gla.spread (nrs n f) m' todo seen=Gla.seenFrom (nrs n f) n st (fH lo n),fun σ' H' h=>⟨m',by omega,h⟩,?_⟩
   have hw:=z.w
   rw[List.reverse_cons,gp]at hw
   refine⟨_,rfl,.inl ⟨rfl,_,SqL.of hw⟩,Wa,_,_,rfl,rfl,hw,zl _ _,?_⟩
   rw[List.dropLast_concat]
   have z2:RfS H (upd H' Wa (.lst (iV (nI r.reverse)))) D Wa n lo r seen Rl:=⟨aY z.sm hW0,by rw[ap nDW];exact z.r,af,z.ln,z.sk,z.lo,fun j hj=>z.td j (List.mem_cons_of_mem _ hj)⟩
   generalize upd H' Wa (.lst (iV (nI r.reverse)))=H2 at z2
   obtain⟨b,hb⟩:∃b,as[k0]? = some b:=⟨as[k0]'(by omega),gge _⟩
   have hrw2:=hrw.same z2.sm
   refine⟨_,rfl,_,rfl,N,_,_,_,rfl,rfl,SqL.of hrw2.1,aA (j:=k0) rfl (aP hb),b,rfl,⟨_,SqL.of (hrw2.2 k0 b hb)⟩,?_⟩
   refine er (K:=K) (a:=b) (xs:=iV (nI (f k0))) (fun t σ H'=>∃v6 Rl,σ=[some (.int (st:Int)),some (.ref N),some (loV lo),some (.ref D),some (.ref Wa),some (.int (k0:Int)),v6,none]∧RfS H H' D Wa n lo (((f k0).take t).foldl WL.fh (r,seen)).1 (((f k0).take t).foldl WL.fh (r,seen)).2 Rl)
    ⟨v6,Rl,rfl,z2⟩ (fun t σ H' _ h=>by obtain⟨_,_,_,h⟩:=h;exact SqL.of ((hrw.same h.sm).2 k0 b hb)) ?_ ?_
   ·rintro t y σ H3 ht ⟨w6,Rl2,rfl,z3⟩
    obtain⟨j,hj,rfl⟩:=lj ht
    have hjn:j<n:=hfn k0 hk0 j (List.mem_of_getElem? hj)
    have mu:=WL.kY ((f k0).take t) (r,seen)
    rw[bY hj,List.foldl_append,List.foldl_cons,List.foldl_nil]
    generalize ((f k0).take t).foldl WL.fh (r,seen)=za at z3 mu
    obtain⟨za1,za2⟩:=za
    have hskip:za2.getD j true=true→WL.fh (za1,za2) j=(za1,za2):=fun e=>by
     unfold WL.fh
     rw[if_pos e]
    obtain⟨bj,hbj⟩:∃bj,Rl2[j]? = some bj:=⟨Rl2[j]'(by have:=z3.ln;omega),gge _⟩
    refine⟨_,rfl,_,rfl,(by cases lo<;>rfl),_,rfl,aS (fun c1=>?_) (fun c1=>?_)⟩
    ·have c1:lo≠some j:=fun e=>by
      rw[e]at c1
      have:decide (V.int (j:Int)=loV (some j))=true:=dqt rfl
      rw[this]at c1
      exact absurd c1 (by decide)
     refine⟨_,rfl,_,rfl,D,_,_,_,rfl,rfl,SqL.of z3.r,aA (j:=j) rfl (Cy hbj),_,rfl,?_⟩
     have hgs:za2.toList[j]? = some bj:=by rw[z3.sk,wc c1,hbj]
     cases bj with
     |true =>
      refine jL ?_
      refine⟨_,Rl2,rfl,?_⟩
      rw[hskip (pS hgs)]
      exact z3
     |false =>
      refine eA ?_
      refine⟨_,rfl,_,rfl,D,_,_,j,rfl,rfl,z3.r,ur (by rw[lmp,z3.ln];exact hjn),?_⟩
      have e3:(Rl2.map V.bl).set j (.bl true)=(Rl2.set j true).map V.bl:=by rw[List.map_set]
      rw[e3]
      have hw3:(upd H3 D (.lst ((Rl2.set j true).map V.bl))) Wa=some (.lst (iV (nI za1.reverse))):=by
       rw[ap nDW.symm]
       exact z3.w
      refine⟨_,rfl,.inl ⟨rfl,_,SqL.of hw3⟩,_,rfl,Wa,_,_,rfl,rfl,hw3,?_,?_⟩
      ·rw[bS,List.length_reverse]
       have e1:za1.length+WL.fe za2=r.length+WL.fe seen:=mu
       simp at hmu
       exact bF (by omega)
      refine⟨_,Rl2.set j true,rfl,?_⟩
      have hv:WL.fh (za1,za2) j=(j :: za1,za2.setIfInBounds j true):=by
       unfold WL.fh
       rw[if_neg (by rw[pS hgs];decide)]
      rw[hv]
      refine⟨aY (aY z3.sm hD) hW0,?_,?_,?_,?_,?_,?_⟩
      ·rw[ap nDW]
       exact af
      ·rw[af,List.reverse_cons,gp]
      ·rw[List.length_set]
       exact z3.ln
      ·rw[Array.toList_setIfInBounds,z3.sk,sh c1]
      ·intro q hq
       rw[List.getElem?_set_ne (fun e=>c1 (by rw[hq,e]))]
       exact z3.lo q hq
      ·intro i hi
       rcases List.mem_cons.1 hi with rfl|hi
       ·exact hjn
       ·exact z3.td i hi
    ·have c1:lo=some j:=by
      cases lo with
      |none=>exact absurd rfl c1
      |some q =>
       by_cases e:q=j
       ·rw[e]
       ·exfalso
        refine c1 ?_
        have:decide (V.int (j:Int)=loV (some q))=false:=dqf (fun y=>e (by have:=V.int.inj y;omega))
        rw[this]
        rfl
     refine jL ?_
     refine⟨_,Rl2,rfl,?_⟩
     rw[hskip (pS (by rw[z3.sk,c1];exact Bs (by rw[z3.ln];exact hjn)))]
     exact z3
   ·rintro σ H3 ⟨w6,Rl2,rfl,z3⟩
    rw[bS,List.take_length]at z3
    have mu:=WL.kY (f k0) (r,seen)
    refine⟨by omega,_,_,_,_,Rl2,rfl,z3,?_,hfin⟩
    have e1:((f k0).foldl WL.fh (r,seen)).1.length+WL.fe ((f k0).foldl WL.fh (r,seen)).2=r.length+WL.fe seen:=mu
    simp at hmu
    omega
  ·have c:=aG c
   rw[bS,List.length_reverse]at c
   have e0:todo=[]:=List.eq_nil_of_length_eq_zero (by omega)
   subst e0
   rw[WL.rW]at hfin
   refine⟨_,rfl,k H' D Rl z.sm z.r z.ln z.lo ?_⟩
   rw[←hfin,z.sk]
end
open PySem PySem.Spec PyProof.Rows L2 Wg Wx CM
open Gla (Pt)
section
variable  {P:Program}{w:World}{K:Frag}{mg:Str→Option Value}{base:Heap}{C:Addr}
def kL (i:Nat):Int:=20+8*(i:Int)
def B9 (C:Addr):Sp:=fun vs H Q _=>∃(a N:Addr) (as:List Addr) (S:Gla.Plan),vs=[.ref a,.ref N]∧bz C H a S∧RW H N as S.near∧as.length=S.pts.length∧dG (jv 8 kL ((List.range S.pts.length).find? fun i=>decide ((S.near i).length<2))) H Q
theorem AL:aq ["drawing","neighbours","k","row"] ["drawing","neighbours"] (ah dX):=⟨rfl,rfl,rfl,by decide +kernel,rfl,by decide +kernel,by decide +kernel⟩
theorem CC (F:Has K mg "fault_of_ends" dX ["drawing","neighbours"]) (T:DCl K mg C) (ge:mg "enumerate"=none) (gl:mg "len"=none) (C1:Cm P w K mg base 1 C "place_of_point" ["self","k"] pD) :
  Cb P w K mg base 2 "fault_of_ends" ["drawing","neighbours"] (B9 C):=by
 refine F.cb AL (fun vs H Q E h=>?_) (fun f cdv A outer s H vs Q E hr h=>?_)
 ·obtain⟨a,N,as,S,rfl,_⟩:=h
  rfl
 ·obtain⟨a,N,as,S,rfl,hd,hrw,hlen,k⟩:=h
  obtain⟨dx,p,l,m,ps,ls,ms,o⟩:=hd.op (K:=K)
  refine⟨_,ad (bw PassesOwn.never rfl (dU rfl ge (aa (pv 1) ac)) (cS (n:=2) rfl (aL (au (i:=2) AL.nd rfl (.inl rfl)) (aL (au (i:=3) AL.nd rfl (.inl rfl)) bW)))
    (ae (a6 (aK gq (aW aO (by rfl) gl PySem.boot_len (aa (pv 3) ac)) ag (aI _))
     (ae (al (bA (aa ag (aa (g9 (pv 0) T.cl C1 hr (aa (pv 2) ac)) ac))))) aJ)))
   (ae (al bc)),?_⟩
  refine⟨_,rfl,N,_,rfl,SqL.of hrw.1,di (K:=K) (a:=N) (xs:=as.map V.ref) (fun i σ H'=>ak H H'∧(∃v1 v2,σ=[some (.ref a),some (.ref N),v1,v2])∧∀j,j<i→decide ((S.near j).length<2)=false)
   ⟨ak.refl H,⟨none,none,rfl⟩,fun j h=>absurd h (Nat.not_lt_zero _)⟩ (fun i σ H' _ h=>SqL.of (h.1 _ _ hrw.1)) ?_ ?_⟩
  ·rintro i y T' σ H' hi hT ⟨hS,⟨v1,v2,rfl⟩,hok⟩
   obtain⟨b,hb,rfl⟩:=cq hi
   have hil:i<S.pts.length:=by rw[←hlen];exact(gsi hb).1
   have s2:ak H (upd H' T' (.tup [.int (i:Nat),.ref b])):=a5 hS hT
   refine⟨T',_,rfl,SqT.of af,rfl,_,_,rfl,_,_,rfl,rfl,?_⟩
   generalize upd H' T' (.tup [.int (i:Nat),.ref b])=H2 at s2
   have o2:=o.same s2
   refine⟨_,rfl,b,_,rfl,.inl (SqL.of ((hrw.same s2).2 i b hb)),_,_,rfl,rfl,_,rfl,?_⟩
   rw[bS]
   refine aS (fun c=>?_) (fun c=>?_)
   ·have c:=of_decide_eq_true c
    refine⟨_,rfl,a,dx,_,rfl,o2.at_,bZ (.inl (.inl rfl)),_,rfl,_,_,rfl,(by show 2≤sizeLine;decide),fun q hq=>?_⟩
    have e:(List.range S.pts.length).find? (fun i=>decide ((S.near i).length<2))=some i:=WL.jQ hil (dqt (by omega)) hok
    rw[e]at k
    exact dG.some' k s2 q hq
   ·have c:=aG c
    refine⟨s2,⟨_,_,rfl⟩,fun j h=>?_⟩
    by_cases cc:j<i
    ·exact hok j cc
    ·have:j=i:=by omega
     subst this
     exact dqf (by omega)
  ·rintro σ H' ⟨hS,⟨v1,v2,rfl⟩,hok⟩
   have e:(List.range S.pts.length).find? (fun i=>decide ((S.near i).length<2))=none:=WL.i6 fun j hj=>hok j (by rw[lmp,hlen];exact hj)
   rw[e]at k
   exact k H' hS
def lH (S:Gla.Plan):Array Bool:=Gla.seenFrom S.nears S.pts.length 0 (Gla.noneSeen S.pts.length)
def xZ (S:Gla.Plan):Prop:=∀i,i<S.pts.length→∀j∈S.near i,j<S.pts.length
def Ca (C:Addr):Sp:=fun vs H Q _=>∃(a N:Addr) (as:List Addr) (S:Gla.Plan),vs=[.ref a,.ref N]∧bz C H a S∧SB S∧4≤S.pts.length∧xZ S∧RW H N as S.near∧as.length=S.pts.length∧dG (jv 9 kL ((List.range S.pts.length).find? fun i=>!((lH S).getD i false))) H Q
theorem Bf:aq ["drawing","neighbours","k","reached"] ["drawing","neighbours"] (ah dW):=⟨rfl,rfl,rfl,by decide +kernel,rfl,by decide +kernel,by decide +kernel⟩
theorem vX {a:Array Bool}{j:Nat}{b:Bool}(h:a.toList[j]? = some b):a.getD j false=b:=by
 rw[Array.getD_eq_getD_getElem?,←Array.getElem?_toList,h]
 rfl
theorem Dv {l:List Bool}{i:Nat}{v:V}(h:(l.map V.bl)[i]? = some v):∃x,l[i]? = some x∧v=.bl x:=by
 rw[List.getElem?_map]at h
 cases e:l[i]? with
 |none=>rw[e]at h;cases h
 |some x =>
  rw[e]at h
  exact⟨x,rfl,(osi h).symm⟩
theorem CO (F:Has K mg "fault_of_ways" dW ["drawing","neighbours"]) (T:DCl K mg C) (ge:mg "enumerate"=none) (C1:Cm P w K mg base 1 C "place_of_point" ["self","k"] pD) (C2:Cb P w K mg base 1 "reached_from" ["start","neighbours","left_out"] zm) :
  Cb P w K mg base 2 "fault_of_ways" ["drawing","neighbours"] (Ca C):=by
 refine F.cb Bf (fun vs H Q E h=>?_) (fun f cdv A outer s H vs Q E hr h=>?_)
 ·obtain⟨a,N,as,S,rfl,_⟩:=h
  rfl
 ·obtain⟨a,N,as,S,rfl,hd,sb,h4,hns,hrw,hlen,k⟩:=h
  obtain⟨dx,p,l,m,ps,ls,ms,o⟩:=hd.op (K:=K)
  have np:=sb.np
  refine⟨_,ad (bw PassesOwn.never rfl (dU rfl ge (aa (aF C2 hr (aa ag (aa (pv 1) (aa bc ac)))) ac)) (cS (n:=2) rfl (aL (au (i:=2) Bf.nd rfl (.inl rfl)) (aL (au (i:=3) Bf.nd rfl (.inl rfl)) bW)))
    (ae (a6 (jM (cI (pv 3)))
     (ae (al (bA (aa ag (aa (g9 (pv 0) T.cl C1 hr (aa (pv 2) ac)) ac))))) aJ)))
   (ae (al bc)),?_⟩
  refine⟨_,rfl,0,N,as,S.near,none,S.pts.length,rfl,hrw,hlen,np,by omega,(fun z=>by cases z),(fun q z=>by cases z),hns,fun H1 R Rl s1 hR hRl _ hmk=>?_⟩
  have hmk:Rl=(lH S).toList:=hmk
  have bit:∀j,Rl[j]? = some true→(!((lH S).getD j false))=false:=fun j e=>by rw[vX (by rw[←hmk];exact e)];rfl
  refine⟨R,_,rfl,SqL.of hR,di (K:=K) (a:=R) (xs:=Rl.map V.bl) (fun i σ H'=>ak H1 H'∧(∃v1 v2,σ=[some (.ref a),some (.ref N),v1,v2])∧∀j,j<i→(!((lH S).getD j false))=false)
   ⟨ak.refl H1,⟨none,none,rfl⟩,fun j h=>absurd h (Nat.not_lt_zero _)⟩ (fun i σ H' _ h=>SqL.of (h.1 _ _ hR)) ?_ ?_⟩
  ·rintro i y T' σ H' hi hT ⟨hS,⟨v1,v2,rfl⟩,hok⟩
   obtain⟨b,hb,rfl⟩:=Dv hi
   have hil:i<S.pts.length:=by rw[←hRl];exact(gsi hb).1
   have s2:ak H1 (upd H' T' (.tup [.int (i:Nat),.bl b])):=a5 hS hT
   refine⟨T',_,rfl,SqT.of af,rfl,_,_,rfl,_,_,rfl,rfl,?_⟩
   generalize upd H' T' (.tup [.int (i:Nat),.bl b])=H2 at s2
   have o2:=o.same (s1.trans s2)
   refine⟨_,rfl,_,rfl,?_⟩
   cases b with
   |true =>
    refine jL ?_
    refine⟨s2,⟨_,_,rfl⟩,fun j h=>?_⟩
    by_cases cc:j<i
    ·exact hok j cc
    ·have:j=i:=by omega
     subst this
     exact bit j hb
   |false =>
    refine eA ?_
    refine⟨_,rfl,a,dx,_,rfl,o2.at_,bZ (.inl (.inl rfl)),_,rfl,_,_,rfl,(by show 2≤sizeLine;decide),fun q hq=>?_⟩
    have e:(List.range S.pts.length).find? (fun i=>!((lH S).getD i false))=some i:=WL.jQ hil (by rw[vX (by rw[←hmk];exact hb)];rfl) hok
    rw[e]at k
    exact dG.some' k (s1.trans s2) q hq
  ·rintro σ H' ⟨hS,⟨v1,v2,rfl⟩,hok⟩
   have e:(List.range S.pts.length).find? (fun i=>!((lH S).getD i false))=none:=WL.i6 fun j hj=>hok j (by rw[lmp,hRl];exact hj)
   rw[e]at k
   exact k H' (s1.trans hS)
def zI (C:Addr):Sp:=fun vs H Q _=>∃(a N:Addr) (as:List Addr) (S:Gla.Plan),vs=[.ref a,.ref N]∧bz C H a S∧SB S∧4≤S.pts.length∧xZ S∧RW H N as S.near∧as.length=S.pts.length∧dG (jv 10 kL ((List.range S.pts.length).find? (Gla.cuts S.nears S.pts.length))) H Q
theorem xb:aq ["drawing","neighbours","k","start"] ["drawing","neighbours"] (ah cJ):=⟨rfl,rfl,rfl,by decide +kernel,rfl,by decide +kernel,by decide +kernel⟩
theorem vm {l:List Bool}:false∈l↔0<l.count false:=by rw[List.count_pos_iff]
theorem yh {S:Gla.Plan}{i:Nat}{Rl:List Bool}(h1:Rl[i]? = some false)(h2:mkS (some i) Rl=(Gla.seenFrom S.nears S.pts.length (if i=0 then 1 else 0) (fH (some i) S.pts.length)).toList):Gla.cuts S.nears S.pts.length i=decide (1<(Rl.count false:Nat)):=by
 have e:Gla.cuts S.nears S.pts.length i=(Gla.seenFrom S.nears S.pts.length (if i=0 then 1 else 0) (fH (some i) S.pts.length)).contains false:=rfl
 rw[e,Bool.eq_iff_iff,Array.contains_iff_mem,←Array.mem_toList_iff,←h2,vm,decide_eq_true_eq]
 have h3:=WL.jt h1
 have h4:(mkS (some i) Rl).count false=(Rl.set i true).count false:=rfl
 omega
theorem AY (F:Has K mg "fault_of_narrows" cJ ["drawing","neighbours"]) (T:DCl K mg C) (gr:mg "range"=none) (gl:mg "len"=none) (C1:Cm P w K mg base 1 C "place_of_point" ["self","k"] pD) (C2:Cb P w K mg base 1 "reached_from" ["start","neighbours","left_out"] zm) :
  Cb P w K mg base 2 "fault_of_narrows" ["drawing","neighbours"] (zI C):=by
 refine F.cb xb (fun vs H Q E h=>?_) (fun f cdv A outer s H vs Q E hr h=>?_)
 ·obtain⟨a,N,as,S,rfl,_⟩:=h
  rfl
 ·obtain⟨a,N,as,S,rfl,hd,sb,h4,hns,hrw,hlen,k⟩:=h
  obtain⟨dx,p,l,m,ps,ls,ms,o⟩:=hd.op (K:=K)
  have np:=sb.np
  refine⟨_,ad (bw PassesOwn.never rfl (oo rfl gr (aa (aW aO (by rfl) gl PySem.boot_len (aa (pv 1) ac)) ac)) (au (i:=2) xb.nd rfl (.inl rfl))
    (ad (aB (i:=3) xb.nd rfl (.inl rfl) (xz (aK ki (pv 2) ag (aI _)) ag ag))
    (ae (a6 (aK d5 (lD PySem.F.plainAttrs_list PySem.F.slot_list_count PySem.F.type_list_count uK (aF C2 hr (aa (pv 3) (aa (pv 1) (aa (pv 2) ac)))) (aa el ac)) ag (aI _))
     (ae (al (bA (aa ag (aa (g9 (pv 0) T.cl C1 hr (aa (pv 2) ac)) ac))))) aJ))))
   (ae (al bc)),?_⟩
  refine⟨_,rfl,N,_,rfl,.inl (SqL.of hrw.1),_,rfl,by omega,by rw[lmp];omega,?_⟩
  rw[lmp,hlen,Int.toNat_natCast]
  refine js (fun i σ H'=>ak H H'∧(∃v1 v2,σ=[some (.ref a),some (.ref N),v1,v2])∧∀j,j<i→Gla.cuts S.nears S.pts.length j=false)
   ⟨ak.refl H,⟨none,none,rfl⟩,fun j h=>absurd h (Nat.not_lt_zero _)⟩ ?_ ?_
  ·rintro i σ H' hil ⟨hS,⟨v1,v2,rfl⟩,hok⟩
   rw[Int.zero_add]
   have body:∀st:Nat,st=(if i=0 then 1 else 0)→sW (fj (tOp (rI0 fun i j=>.bl (decide (j<i))) (tBM K "list" (tQ K) (lJ zm [] E0 (bD (a8 3) (bD (a8 1) (bD (a8 2) fS)))) (bD (tC (.bl false)) fS)) (tC (.int 1))))
     (my (vf (bD (tC (.int 10)) (bD (jY C "place_of_point" pD [] E0 (a8 0) (bD (a8 2) fS)) fS)))) mX
     { nx:=fun σ H'=>ak H H'∧(∃v1 v2,σ=[some (.ref a),some (.ref N),v1,v2])∧∀j,j<i+1→Gla.cuts S.nears S.pts.length j=false,rt:=Q,bk:=fun σ H'=>Q .non H',ct:=fun σ H'=>ak H H'∧(∃v1 v2,σ=[some (.ref a),some (.ref N),v1,v2])∧∀j,j<i+1→Gla.cuts S.nears S.pts.length j=false }
     [some (.ref a),some (.ref N),some (.int (i:Int)),some (.int (st:Int))] H':=fun st est=>by
    refine⟨_,rfl,_,rfl,_,rfl,st,N,as,S.near,some i,S.pts.length,rfl,hrw.same hS,hlen,np,?_,?_,?_,hns,fun H1 R Rl s1 hR hRl hlo hmk=>?_⟩
    ·rw[est];split<;>omega
    ·intro z
     have z:=osi z
     rw[est]at z
     split at z<;>omega
    ·intro q z
     have z:=osi z
     omega
    rw[est]at hmk
    have ec:=yh (hlo i rfl) hmk
    have s2:=hS.trans s1
    have o2:=o.same s2
    refine⟨.inl ⟨rfl,_,SqL.of hR⟩,R,Rl,false,rfl,rfl,SqL.of hR,_,_,rfl,rfl,_,rfl,aS (fun c=>?_) (fun c=>?_)⟩
    ·have c:=of_decide_eq_true c
     refine⟨_,rfl,a,dx,_,rfl,o2.at_,bZ (.inl (.inl rfl)),_,rfl,_,_,rfl,(by show 2≤sizeLine;decide),fun q hq=>?_⟩
     have e:(List.range S.pts.length).find? (Gla.cuts S.nears S.pts.length)=some i:=WL.jQ hil (by rw[ec];exact dqt (by omega)) hok
     rw[e]at k
     exact dG.some' k s2 q hq
    ·have c:=aG c
     refine⟨s2,⟨_,_,rfl⟩,fun j h=>?_⟩
     by_cases cc:j<i
     ·exact hok j cc
     ·have:j=i:=by omega
      subst this
      rw[ec]
      exact dqf (by omega)
   refine⟨_,rfl,rfl,_,rfl,aS (fun c=>?_) (fun c=>?_)⟩
   ·have c:=V.int.inj (of_decide_eq_true c)
    refine body 1 ?_
    rw[if_pos (by omega)]
   ·have c:¬i=0:=fun z=>c (dqt (by rw[z];rfl))
    refine body 0 ?_
    rw[if_neg c]
  ·rintro σ H' ⟨hS,⟨v1,v2,rfl⟩,hok⟩
   have e:(List.range S.pts.length).find? (Gla.cuts S.nears S.pts.length)=none:=WL.i6 fun j hj=>hok j hj
   rw[e]at k
   exact k H' hS
end
open PySem PySem.Spec PyProof.Rows L2 Wg Wx CM
open Gla (Pt)
section
variable  {P:Program}{w:World}{K:Frag}{mg:Str→Option Value}{base:Heap}{C:Addr}
def qS (S:Gla.Plan)(z:Pt):Bool:=(decide (0<z.x)&&decide (z.x<S.w))&&(decide (0<z.y)&&decide (z.y<S.h))
theorem vS (S:Gla.Plan)(z:Pt):Gla.clear S z=(qS S z&&!Gla.onLines S z):=by
 unfold Gla.clear qS
 rw[Bool.and_assoc,Bool.and_assoc,Bool.and_assoc]
def BN (K:Frag)(C:Addr):Sp:=fun vs H Q _=>∃(a b:Addr) (S:Gla.Plan) (z:Pt),vs=[.ref a,.ref b]∧bz C H a S∧cH K H b z∧Q (.bl (qS S z)) H
theorem DV:aq ["drawing","mark"] ["drawing","mark"] (ah cY):=⟨rfl,rfl,rfl,by decide +kernel,rfl,by decide +kernel,by decide +kernel⟩
theorem CL (F:Has K mg "is_within_frame" cY ["drawing","mark"]) (T:DCl K mg C):Cb P w K mg base 1 "is_within_frame" ["drawing","mark"] (BN K C):=by
 refine F.cb DV (fun vs H Q E h=>?_) (fun f cdv A outer s H vs Q E hr h=>?_)
 ·obtain⟨a,b,S,z,rfl,_⟩:=h
  rfl
 ·obtain⟨a,b,S,z,rfl,hd,⟨⟨rz,hz⟩,_⟩,k⟩:=h
  obtain⟨dx,p,l,m,ps,ls,ms,o⟩:=hd.op (K:=K)
  refine⟨_,ae (al (iI (kt gq gq ag (aw aD (pv 1) ag (fun _ _=>rfl)) (aR (pv 0) rfl)) (eQ (kt gq gq ag (aw aD (pv 1) ag (fun _ _=>rfl)) (aR (pv 0) rfl))))),?_⟩
  have no:¬((0<z.x∧z.x<S.w)∧(0<z.y∧z.y<S.h))→Q (.bl false) H:=fun q=>by
   have e:qS S z=false:=cC fun y=>q (by unfold qS at y;simp only[Bool.and_eq_true,decide_eq_true_eq]at y;exact y)
   rw[e]at k
   exact k
  refine⟨_,rfl,b,_,_,_,rfl,rfl,hz,aA (j:=0) rfl rfl,_,_,rfl,rfl,_,rfl,aS (fun c1=>?_) (fun c1=>?_)⟩
  ·have c1:=of_decide_eq_true c1
   refine⟨_,rfl,a,C,dx,_,_,rfl,o.at_,T.cl,T.nW,A0,_,_,rfl,rfl,_,rfl,aS (fun c2=>?_) (fun c2=>?_)⟩
   ·have c2:=of_decide_eq_true c2
    refine⟨_,rfl,b,_,_,_,rfl,rfl,hz,aA (j:=1) rfl rfl,_,_,rfl,rfl,_,rfl,aS (fun c3=>?_) (fun c3=>?_)⟩
    ·have c3:=of_decide_eq_true c3
     refine⟨_,rfl,a,C,dx,_,_,rfl,o.at_,T.cl,T.nH,Ay,_,_,rfl,rfl,?_⟩
     have e:qS S z=decide ((z.y:Int)<(S.h:Int)):=by
      unfold qS
      rw[dqt (by omega:0<z.x),dqt (by omega:z.x<S.w),dqt (by omega:0<z.y),Bool.true_and,Bool.true_and,Bool.true_and,decide_eq_decide]
      omega
     rw[e]at k
     exact k
    ·have c3:=aG c3
     exact no (by omega)
   ·have c2:=aG c2
    exact no (by omega)
  ·have c1:=aG c1
   exact⟨_,rfl,jL (no (by omega))⟩
def DC (K:Frag)(C:Addr):Sp:=fun vs H Q _=>∃(a b:Addr) (S:Gla.Plan) (z:Pt),vs=[.ref a,.ref b]∧bz C H a S∧SB S∧gj S∧cH K H b z∧Q (.bl (Gla.onLines S z)) H
theorem Ck:aq ["drawing","mark","line"] ["drawing","mark"] (ah dc):=⟨rfl,rfl,rfl,by decide +kernel,rfl,by decide +kernel,by decide +kernel⟩
theorem CQ (F:Has K mg "is_on_some_line" dc ["drawing","mark"]) (T:DCl K mg C) (C1:Cb P w K mg base 2 "is_on" ["p","q","r"] (zV K)):Cb P w K mg base 3 "is_on_some_line" ["drawing","mark"] (DC K C):=by
 refine F.cb Ck (fun vs H Q E h=>?_) (fun f cdv A outer s H vs Q E hr h=>?_)
 ·obtain⟨a,b,S,z,rfl,_⟩:=h
  rfl
 ·obtain⟨a,b,S,z,rfl,hd,sb,hlo,hz,k⟩:=h
  obtain⟨dx,p,l,m,ps,ls,ms,o⟩:=hd.op (K:=K)
  refine⟨_,ad (bw PassesOwn.never rfl (bQ (aR (pv 0) rfl)) (au (i:=2) Ck.nd rfl (.inl rfl))
    (ae (a6 (cI (aF C1 hr (aa (aw aU (aR (pv 0) rfl) (aw aD (pv 2) ag (fun _ _=>rfl)) (fun _ _=>rfl)) (aa (aw aU (aR (pv 0) rfl) (aw aD (pv 2) ag (fun _ _=>rfl)) (fun _ _=>rfl)) (aa (pv 1) ac))))) (ae (al el)) aJ)))
   (ae (al el)),?_⟩
  refine⟨_,rfl,a,C,dx,_,_,rfl,o.at_,T.cl,T.nL,p8,l,rfl,⟨_,SqL.of o.ll⟩,er (K:=K) (a:=l) (xs:=ls.map V.ref) (fun i σ H'=>H'=H∧(∃v,σ=[some (.ref a),some (.ref b),v])∧∀j (hj:j<S.lines.length),j<i→Gla.isOn (S.pt S.lines[j].1) (S.pt S.lines[j].2) z=false)
   ⟨rfl,⟨none,rfl⟩,fun j hj h=>absurd h (Nat.not_lt_zero _)⟩ (fun i σ H' _ h=>by rw[h.1];exact SqL.of o.ll) ?_ ?_⟩
  ·rintro t y σ H' hi ⟨rfl,⟨v,rfl⟩,hno⟩
   obtain⟨c,hc,rfl⟩:=cq hi
   have ht:t<S.lines.length:=by rw[←o.ln];exact(gsi hc).1
   obtain⟨x1,x2⟩:=hlo _ (List.getElem_mem ht)
   have hx:SqT K H' c (iV [(S.lines[t].1:Int),(S.lines[t].2:Int)]):=o.lnAt ht hc
   obtain⟨b1,hb1⟩:=o.hasP (i:=S.lines[t].1) (by omega)
   obtain⟨b2,hb2⟩:=o.hasP (i:=S.lines[t].2) (by omega)
   refine⟨_,rfl,a,C,dx,_,_,rfl,o.at_,T.cl,T.nP,iH,_,rfl,c,_,_,_,rfl,rfl,hx,aA (j:=0) rfl rfl,p,_,_,_,rfl,rfl,SqL.of o.pl,aA (j:=S.lines[t].1) rfl (aP hb1),_,rfl,a,C,dx,_,_,rfl,o.at_,T.cl,T.nP,iH,_,rfl,c,_,_,_,rfl,rfl,hx,aA (j:=1) rfl rfl,p,_,_,_,rfl,rfl,SqL.of o.pl,aA (j:=S.lines[t].2) rfl (aP hb2),_,rfl,b1,b2,b,_,_,_,rfl,o.ptAt sb hb1,o.ptAt sb hb2,hz,_,rfl,aS (fun c1=>?_) (fun c1=>?_)⟩
   ·show Q (.bl true) H'
    have e:Gla.onLines S z=true:=by
     unfold Gla.onLines
     rw[List.any_eq_true]
     exact⟨_,List.getElem_mem ht,c1⟩
    rw[e]at k
    exact k
   ·refine⟨rfl,⟨_,rfl⟩,fun j hj h=>?_⟩
    by_cases d:j<t
    ·exact hno j hj d
    ·have:j=t:=by omega
     subst this
     exact cC c1
  ·rintro σ H' ⟨rfl,⟨v,rfl⟩,hno⟩
   have e:Gla.onLines S z=false:=by
    unfold Gla.onLines
    rw[List.any_eq_false]
    intro x hx q
    obtain⟨j,hj,rfl⟩:=List.getElem_of_mem hx
    rw[hno j hj (by rw[lmp,o.ln];exact hj)]at q
    exact absurd q (by decide)
   rw[e]at k
   exact k
def me (S:Gla.Plan)(i:Nat):Int:=20+8*(S.pts.length:Int)+4*(S.lines.length:Int)+12*(i:Int)
def zu (C:Addr):Sp:=fun vs H Q _=>∃(a:Addr) (S:Gla.Plan),vs=[.ref a]∧bz C H a S∧SB S∧gj S∧dG (jv 11 (me S) (Gla.firstBad (Gla.markOk S) Gla.markBelow S.marks)) H Q
theorem ud:aq ["drawing","k","mark","misplaced"] ["drawing"] (ah du):=⟨rfl,rfl,rfl,by decide +kernel,rfl,by decide +kernel,by decide +kernel⟩
theorem Op.hasM {H:Hp}{a dx p l m:Addr}{S:Gla.Plan}{ps ls ms:List Addr}(o:Op K C H a dx p l m S ps ls ms){i:Nat}(hi:i<S.marks.length):∃b,ms[i]? = some b:=⟨_,gge (by rw[o.mn];exact hi)⟩
theorem A6 (F:Has K mg "fault_of_marks" du ["drawing"]) (T:DCl K mg C) (ge:mg "enumerate"=none) (C1:Cm P w K mg base 3 C "place_of_mark" ["self","k"] (wT C)) (C2:Cb P w K mg base 1 "comes_behind" ["q","p"] (wY K)) (C3:Cb P w K mg base 1 "is_within_frame" ["drawing","mark"] (BN K C)) (C4:Cb P w K mg base 3 "is_on_some_line" ["drawing","mark"] (DC K C)) :
  Cb P w K mg base 4 "fault_of_marks" ["drawing"] (zu C):=by
 refine F.cb ud (fun vs H Q E h=>?_) (fun f cdv A outer s H vs Q E hr h=>?_)
 ·obtain⟨a,S,rfl,_⟩:=h
  rfl
 ·obtain⟨a,S,rfl,hd,sb,hlo,k⟩:=h
  obtain⟨dx,p,l,m,ps,ls,ms,o⟩:=hd.op (K:=K)
  have hr1:bu 1 _:=hr.mono (by decide)
  refine⟨_,ad (bw PassesOwn.never rfl (dU rfl ge (aa (aR (pv 0) rfl) ac)) (cS (n:=2) rfl (aL (au (i:=1) ud.nd rfl (.inl rfl)) (aL (au (i:=2) ud.nd rfl (.inl rfl)) bW)))
    (ad (aB (i:=3) ud.nd rfl (.inl rfl) (qG (wF (aF C3 hr1 (aa (pv 0) (aa (pv 2) ac)))) (eQ (aF C4 hr (aa (pv 0) (aa (pv 2) ac))))))
    (ae (a6 (mZ (cI (pv 3)) (jN (iQ (aK d5 (pv 1) ag (aI _)) (ij (jM (cI (aF C2 hr1 (aa (pv 2) (aa (aw aU (aR (pv 0) rfl) (aV eG (pv 1) ag) (fun _ _=>rfl)) ac))))))).pt)).pt
     (ae (al (bA (aa ag (aa (g9 (pv 0) T.cl C1 hr (aa (pv 1) ac)) ac))))) aJ))))
   (ae (al bc)),?_⟩
  refine⟨_,rfl,a,C,dx,_,_,rfl,o.at_,T.cl,T.nM,wN,m,_,rfl,SqL.of o.ml,di (K:=K) (a:=m) (xs:=ms.map V.ref) (fun i σ H'=>ak H H'∧(∃v1 v2 v3,σ=[some (.ref a),v1,v2,v3])∧∀j (hj:j<S.marks.length),j<i→WL.b9 (Gla.markOk S) Gla.markBelow S.marks j S.marks[j]=false)
   ⟨ak.refl H,⟨none,none,none,rfl⟩,fun j hj h=>absurd h (Nat.not_lt_zero _)⟩ (fun i σ H' _ h=>SqL.of (h.1 _ _ o.ml)) ?_ ?_⟩
  ·rintro i y T' σ H' hi hT ⟨hS,⟨v1,v2,v3,rfl⟩,hok⟩
   obtain⟨b,hb,rfl⟩:=cq hi
   have hil:i<S.marks.length:=by rw[←o.mn];exact(gsi hb).1
   have s2:ak H (upd H' T' (.tup [.int (i:Nat),.ref b])):=a5 hS hT
   refine⟨T',_,rfl,SqT.of af,rfl,_,_,rfl,_,_,rfl,rfl,?_⟩
   generalize upd H' T' (.tup [.int (i:Nat),.ref b])=H2 at s2
   have o2:=o.same s2
   have hpt:cH K H2 b S.marks[i].at_:=o2.mkAt sb hb (gge hil)
   have bad:WL.b9 (Gla.markOk S) Gla.markBelow S.marks i S.marks[i]=true→∀H3,ak H H3→∀q,H3 q=none→Q (.ref q) (upd H3 q (.tup [.int 11,.int (me S i)])):=fun z H3 s3 q hq=>by
    have e:Gla.firstBad (Gla.markOk S) Gla.markBelow S.marks=some i:=by
     rw[WL.d6]
     exact WL.eg hil z fun j hj=>hok j (by omega) hj
    rw[e]at k
    exact dG.some' k s3 q hq
   have next:WL.b9 (Gla.markOk S) Gla.markBelow S.marks i S.marks[i]=false→∀j (hj:j<S.marks.length),j<i+1→WL.b9 (Gla.markOk S) Gla.markBelow S.marks j S.marks[j]=false:=fun z j hj h=>by
    by_cases c:j<i
    ·exact hok j hj c
    ·have:j=i:=by omega
     subst this
     exact z
   have cont:∀(t:Bool),t=(!Gla.markOk S S.marks[i])→sW (tOr (tB (a8 3)) (zk (fj (tOp (rI0 fun i j=>.bl (decide (j<i))) (a8 1) (tC (.int 0)))) (A2 (tB (lJ (wY K) [] E0 (bD (a8 2) (bD (tOp (vv K) (xw K (a8 0) "marks") (tOp (rI0 fun i j=>.int (i-j)) (a8 1) (tC (.int 1)))) fS)))))))
     (my (vf (bD (tC (.int 11)) (bD (jY C "place_of_mark" (wT C) [] E0 (a8 0) (bD (a8 1) fS)) fS)))) mX
     { nx:=fun σ H'=>ak H H'∧(∃v1 v2 v3,σ=[some (.ref a),v1,v2,v3])∧∀j (hj:j<S.marks.length),j<i+1→WL.b9 (Gla.markOk S) Gla.markBelow S.marks j S.marks[j]=false,rt:=Q,bk:=fun σ H'=>Q .non H',ct:=fun σ H'=>ak H H'∧(∃v1 v2 v3,σ=[some (.ref a),v1,v2,v3])∧∀j (hj:j<S.marks.length),j<i+1→WL.b9 (Gla.markOk S) Gla.markBelow S.marks j S.marks[j]=false }
     [some (.ref a),some (.int (i:Nat)),some (.ref b),some (.bl t)] H2:=fun t et=>by
    refine⟨_,rfl,_,rfl,aS (fun c1=>?_) (fun c1=>?_)⟩
    ·refine eA ?_
     refine⟨_,rfl,a,dx,_,rfl,o2.at_,bZ (.inr (.inl rfl)),_,rfl,a,S,_,rfl,o2.draw,(by show 2≤sizeLine;decide),fun q hq=>?_⟩
     refine bad ?_ H2 s2 q hq
     unfold WL.b9
     rw[←et,c1,Bool.true_or]
    ·have okt:(!Gla.markOk S S.marks[i])=false:=by rw[←et];exact cC c1
     refine⟨_,rfl,_,_,rfl,rfl,_,rfl,aS (fun c2=>?_) (fun c2=>?_)⟩
     ·have c2:(0:Int)<((i:Nat):Int):=of_decide_eq_true c2
      obtain⟨i',rfl⟩:∃i',i=i'+1:=⟨i-1,by omega⟩
      obtain⟨b',hb'⟩:=o2.hasM (i:=i') (by omega)
      have hpt':cH K H2 b' S.marks[i'].at_:=o2.mkAt sb hb' (gge (by omega))
      refine⟨_,rfl,_,rfl,a,C,dx,_,_,rfl,o2.at_,T.cl,T.nM,wN,_,rfl,_,_,rfl,rfl,m,_,_,_,rfl,rfl,SqL.of o2.ml,aA (j:=i') (by omega) (aP hb'),b,b',_,_,rfl,hpt,hpt',fun H3 s3=>?_⟩
      have hbe:WL.b9 (Gla.markOk S) Gla.markBelow S.marks (i'+1) S.marks[i'+1]=!(S.marks[i'].at_.below S.marks[i'+1].at_):=by
       rw[WL.jR (by omega),okt,Bool.false_or]
       rfl
      refine⟨_,rfl,?_⟩
      cases hc:S.marks[i'].at_.below S.marks[i'+1].at_ with
      |true =>
       refine jL ?_
       exact⟨s2.trans s3,⟨_,_,_,rfl⟩,next (by rw[hbe,hc];rfl)⟩
      |false =>
       refine eA ?_
       refine⟨_,rfl,a,dx,_,rfl,(o2.same s3).at_,bZ (.inr (.inl rfl)),_,rfl,a,S,_,rfl,(o2.same s3).draw,(by show 2≤sizeLine;decide),fun q hq=>?_⟩
       exact bad (by rw[hbe,hc];rfl) H3 (s2.trans s3) q hq
     ·have c2:=aG c2
      have i0:i=0:=by omega
      subst i0
      exact⟨s2,⟨_,_,_,rfl⟩,next (by rw[WL.jF];exact okt)⟩
   have ec:(!Gla.markOk S S.marks[i])=(!qS S S.marks[i].at_||Gla.onLines S S.marks[i].at_):=by
    unfold Gla.markOk
    rw[vS,Bool.not_and,Bool.not_not]
   refine⟨_,rfl,_,rfl,a,b,S,_,rfl,o2.draw,hpt,_,rfl,_,rfl,aS (fun c1=>?_) (fun c1=>?_)⟩
   ·refine cont true ?_
    rw[ec,c1,Bool.true_or]
   ·refine⟨_,rfl,_,rfl,a,b,S,_,rfl,o2.draw,sb,hlo,hpt,?_⟩
    refine cont _ ?_
    rw[ec,cC c1,Bool.false_or]
  ·rintro σ H' ⟨hS,⟨v1,v2,v3,rfl⟩,hok⟩
   have e:Gla.firstBad (Gla.markOk S) Gla.markBelow S.marks=none:=by
    rw[WL.d6]
    refine WL.dR fun j hj=>hok j hj ?_
    rw[lmp,o.mn]
    exact hj
   rw[e]at k
   exact k H' hS
end
open PySem PySem.Spec PyProof.Rows L2 Wg Wx CM
open Gla (Pt)
def lk (x:Nat×Nat):List L2.Key:=[Sum.inl (x.1:Int),Sum.inl (x.2:Int)]
theorem Bb {x y:Nat×Nat}(h:lk x=lk y):x=y:=by
 have h1:=List.cons.inj h
 have h2:=List.cons.inj h1.2
 have e1:=Sum.inl.inj h1.1
 have e2:=Sum.inl.inj h2.1
 exact Prod.ext (by omega) (by omega)
def LD (kvs:List (List L2.Key×V))(L:List (Nat×Nat)):Prop:=∀x:Nat×Nat,(fM kvs (lk x)).isSome=decide (x∈L)
theorem LD.put {kvs:List (List L2.Key×V)}{L:List (Nat×Nat)}(h:LD kvs L)(x:Nat×Nat)(v:V):LD (iR kvs (lk x) v) (L++[x]):=fun y=>by
 rw[xD]
 by_cases e:lk y=lk x
 ·rw[if_pos e,Bb e]
  exact(dqt (by simp)).symm
 ·rw[if_neg e,h y,decide_eq_decide,List.mem_append,List.mem_singleton]
  constructor
  ·exact .inl
  ·rintro(q|q)
   ·exact q
   ·exact absurd (by rw[q]) e
def eU (L:List (Nat×Nat))(es:List Nat):Bool:=(es.zip (es.drop 1)).all fun x=>decide (x∈L)
theorem sM {L:List (Nat×Nat)}{es:List Nat}{t:Nat}(h:t+1<es.length)(hx:(es[t],es[t+1])∉L):eU L es=false:=by
 unfold eU
 rw[List.all_eq_false]
 refine⟨(es[t],es[t+1]),?_,by rw[dqf hx];decide⟩
 rw[List.mem_iff_getElem]
 refine⟨t,by rw[List.length_zip,List.length_drop];omega,?_⟩
 rw[List.getElem_zip,List.getElem_drop]
 congr 2
 omega
theorem rC {L:List (Nat×Nat)}{es:List Nat}(h:∀t (ht:t+1<es.length),(es[t],es[t+1])∈L):eU L es=true:=by
 unfold eU
 rw[List.all_eq_true]
 intro x hx
 obtain⟨t,ht,rfl⟩:=List.getElem_of_mem hx
 rw[List.length_zip,List.length_drop]at ht
 rw[List.getElem_zip,List.getElem_drop]
 have:=h t (by omega)
 refine dqt ?_
 have e:1+t=t+1:=by omega
 simp only[e]
 exact this
section
variable  {P:Program}{w:World}{K:Frag}{mg:Str→Option Value}{base:Heap}{C:Addr}
def BZ:Sp:=fun vs H Q _=>∃(n d:Addr) (es:List Nat) (kvs:List (List L2.Key×V)) (L:List (Nat×Nat)),vs=[.ref n,.ref d]∧H n=some (.lst (iV (nI es)))∧H d=some (.dT kvs)∧LD kvs L∧es.length≤100000∧∀H':Hp,ak H H'→Q (.bl (eU L es)) H'
theorem DJ:aq ["numbers","lines","k"] ["numbers","lines"] (ah bU):=⟨rfl,rfl,rfl,by decide +kernel,rfl,by decide +kernel,by decide +kernel⟩
theorem kG {l:List Nat}{i:Nat}(h:i<l.length):(iV (nI l))[i]? = some (.int (l[i]:Int)):=by
 unfold iV nI
 rw[List.getElem?_map,List.getElem?_map,gge h]
 rfl
theorem Bx (F:Has K mg "are_joined_in_a_row" bU ["numbers","lines"]) (gr:mg "range"=none) (gl:mg "len"=none):Cb P w K mg base 1 "are_joined_in_a_row" ["numbers","lines"] BZ:=by
 refine F.cb DJ (fun vs H Q E h=>?_) (fun f cdv A outer s H vs Q E hr h=>?_)
 ·obtain⟨n,d,es,kvs,L,rfl,_⟩:=h
  rfl
 ·obtain⟨n,d,es,kvs,L,rfl,hn,hd,hL,hlen,k⟩:=h
  have hu:=hr.units
  refine⟨_,ad (bw PassesOwn.never rfl (pd rfl gr (aa ag (aa (aW aO (by rfl) gl PySem.boot_len (aa (pv 0) ac)) ac))) (au (i:=2) DJ.nd rfl (.inl rfl))
    (ae (a6 (sK (oY (Nat.lt_of_le_of_lt (Nat.add_le_add_left (by decide) _) hu) (bA (aa (aw aU (pv 0) (aV eG (pv 2) ag) (fun _ _=>rfl)) (aa (aw aU (pv 0) (pv 2) (fun _ _=>rfl)) ac))) (pv 1))) (ae (al el)) aJ)))
   (ae (al el)),?_⟩
  refine⟨_,rfl,n,_,rfl,.inl (SqL.of hn),_,_,rfl,?_,?_⟩
  ·rw[bS]
   omega
  rw[bS]
  refine js (fun t σ H'=>ak H H'∧(∃v,σ=[some (.ref n),some (.ref d),v])∧∀j (hj:j+1<es.length),j<t→(es[j],es[j+1])∈L)
   ⟨ak.refl H,⟨none,rfl⟩,fun j hj h=>absurd h (Nat.not_lt_zero _)⟩ ?_ ?_
  ·rintro t σ H' ht ⟨hS,⟨v,rfl⟩,hok⟩
   have et:((1:Int)+(t:Int))=((t+1:Nat):Int):=by omega
   rw[et]
   have htl:t+1<es.length:=by omega
   have hn':=hS _ _ hn
   refine⟨_,rfl,_,rfl,_,_,rfl,rfl,n,_,_,_,rfl,rfl,SqL.of hn',aA (j:=t) (by omega) (kG (by omega)),_,rfl,_,rfl,n,_,_,_,rfl,rfl,SqL.of hn',aA (j:=t+1) rfl (kG htl),(by show 2≤sizeLine;decide),fun q hq=>?_⟩
   have s2:ak H (upd H' q (.tup [.int (es[t]:Int),.int (es[t+1]:Int)])):=a5 hS hq
   refine⟨_,rfl,d,_,rfl,l9.t (k:=lk (es[t],es[t+1])) (s2 _ _ hd) af,_,rfl,?_⟩
   rw[hL]
   refine aS (fun c=>?_) (fun c=>?_)
   ·have c:(es[t],es[t+1])∉L:=fun z=>by
     rw[dqt z]at c
     exact absurd c (by decide)
    rw[sM htl c]at k
    exact k _ s2
   ·have c:(es[t],es[t+1])∈L:=bcn fun z=>c (by rw[dqf z];rfl)
    refine⟨s2,⟨_,rfl⟩,fun j hj h=>?_⟩
    by_cases e:j<t
    ·exact hok j hj e
    ·have:j=t:=by omega
     subst this
     exact c
  ·rintro σ H' ⟨hS,⟨v,rfl⟩,hok⟩
   rw[rC fun t ht=>hok t ht (by omega)]at k
   exact k H' hS
def dL (S:Gla.Plan)(on:Pt→Bool)(t:Nat):List Nat:=(List.range t).filter fun i=>on (S.pt i)
theorem lw (S:Gla.Plan)(on:Pt→Bool)(t:Nat):dL S on (t+1)=if on (S.pt t)=true then dL S on t++[t] else dL S on t:=by
 unfold dL
 rw[List.range_succ,List.filter_append]
 split
 ·rename_i h
  rw[List.filter_cons_of_pos (p:=fun i=>on (S.pt i)) h]
  rfl
 ·rename_i h
  rw[List.filter_cons_of_neg (p:=fun i=>on (S.pt i)) h]
  exact List.append_nil _
theorem mM (S:Gla.Plan)(on:Pt→Bool)(t:Nat):(dL S on t).length≤t:=by
 refine Nat.le_trans (List.length_filter_le _ _) ?_
 rw[List.length_range]
 exact nlr _
theorem tj (S:Gla.Plan)(on:Pt→Bool):Gla.chained S (Gla.edgePts S on)=eU S.lines (dL S on S.pts.length):=by
 have e:Gla.edgePts S on=dL S on S.pts.length:=rfl
 rw[e]
 have pw:(dL S on S.pts.length).Pairwise (· < ·):=List.Pairwise.filter _ List.pairwise_lt_range
 generalize dL S on S.pts.length=es at pw
 have hlt:∀t (ht:t+1<es.length),es[t]<es[t+1]:=fun t ht=>List.pairwise_iff_getElem.1 pw t (t+1) (by omega) ht (by omega)
 unfold Gla.chained eU
 rw[Bool.eq_iff_iff,List.all_eq_true,List.all_eq_true]
 have key:∀x∈es.zip (es.drop 1),S.joined x.1 x.2=decide (x∈S.lines):=by
  intro x hx
  obtain⟨t,ht,rfl⟩:=List.getElem_of_mem hx
  rw[List.length_zip,List.length_drop]at ht
  have h1:=hlt t (by omega)
  rw[List.getElem_zip,List.getElem_drop]
  have e:1+t=t+1:=by omega
  simp only[e]
  unfold Gla.Plan.joined
  simp only[Nat.min_eq_left (Nat.le_of_lt h1),Nat.max_eq_right (Nat.le_of_lt h1)]
  rw[Bool.eq_iff_iff,List.contains_iff_mem,decide_eq_true_eq]
 constructor
 ·intro h x hx
  rw[←key x hx]
  exact h x hx
 ·intro h x hx
  rw[key x hx]
  exact h x hx
structure wl (H:Hp)(n:Addr)(ts ps:List Addr):Prop where
 at_:H n=some (.lst (ts.map V.ref))
 ln:ts.length=ps.length
 row:∀(i:Nat) (t b:Addr),ts[i]? = some t→ps[i]? = some b→H t=some (.tup [.int (i:Nat),.ref b])
theorem wl.same {H H':Hp}{n:Addr}{ts ps:List Addr}(h:wl H n ts ps)(s:ak H H'):wl H' n ts ps:=⟨s _ _ h.at_,h.ln,fun i t b e1 e2=>s _ _ (h.row i t b e1 e2)⟩
theorem l7 {H:Hp}{n D a dx p l m:Addr}{S:Gla.Plan}{ts ps ls ms:List Addr}{s0 s1 s2 s3 s4 s5 s6 s7 s8 s9 s10 s11 s12 s13:Option V}{Qd:Hp→Prop}(c:Nat)(pick:Pt→Int)(hpick:∀q:Pt,(fP q)[c]? = some (pick q))(on:Pt→Bool)(z:Int)(hon:∀q,on q=decide (pick q=z))(tz:TE)
  (htz:∀(v12 v13:Option V) (H:Hp) (Q:VK),Q (.int z) H→tz [s0,s1,s2,s3,s4,s5,s6,s7,s8,s9,s10,s11,v12,v13] H Q)
  (o:Op K C H a dx p l m S ps ls ms) (nl:wl H n ts ps) (hn:S.pts.length≤100000) (hD:H D=none) (hQ:∀H',ak H H'→H' D=some (.lst (iV (nI (dL S on S.pts.length))))→Qd H') :
  ∃W:Nat→Nat→Hp→Prop,(∃m,W 0 m (upd H D (.lst [])))∧∀i m H,W i m H →
   ((Itl K n).stop i H∧Qd H)∨((Itl K n).go i H∧∃Nx:Hp→Prop,(∀H',Nx H'→∃m',m'<m∧W (i+1) m' H')∧∀x H',(Itl K n).yld i H x H'→g2 K 12 13 x (bX [s0,s1,s2,s3,s4,s5,s6,s7,s8,s9,s10,s11,s12,s13] [12,13]) H' fun σ2 H2=>bX σ2 [12,13]=bX [s0,s1,s2,s3,s4,s5,s6,s7,s8,s9,s10,s11,s12,s13] [12,13]∧fj (tOp rEq (tOp (pG K) (a8 13) (tC (.int (c:Int)))) tz) σ2 H2 fun b H3 =>
    if b=true then a8 12 σ2 H3 fun y H4=>∃acc,H4 D=some (.lst acc)∧acc.length<sizeLine∧Nx (upd H4 D (.lst (acc++[y]))) else Nx H3):=by
 refine hZ (K:=K) (a:=n) (xs:=ts.map V.ref) (fun i H'=>ak H H'∧H' D=some (.lst (iV (nI (dL S on i))))) ⟨aN hD,af⟩ (fun i H' _ h=>SqL.of (h.1 _ _ nl.at_)) ?_ ?_
 ·rintro i y H' hi ⟨hS,hDl⟩
  obtain⟨t,ht,rfl⟩:=cq hi
  have hil:i<ps.length:=by rw[←nl.ln];exact(gsi ht).1
  have pn:=o.pn
  obtain⟨b,hb⟩:∃b,ps[i]? = some b:=⟨ps[i],gge _⟩
  have hrow:=(nl.same hS).row i t b ht hb
  have hpt:SqT K H' b (iV (fP (S.pt i))):=SqT.of ((o.same hS).pt i b hb)
  refine⟨t,_,rfl,SqT.of hrow,rfl,_,_,rfl,_,_,rfl,rfl,rfl,?_⟩
  refine⟨_,rfl,b,_,_,_,rfl,rfl,hpt,aA (j:=c) rfl (v:=.int (pick (S.pt i))) ?_,htz _ _ _ _ ⟨rfl,_,rfl,?_⟩⟩
  ·unfold iV
   rw[List.getElem?_map,hpick]
   rfl
  have eon:decide (V.int (pick (S.pt i))=V.int z)=on (S.pt i):=by
   rw[hon,decide_eq_decide]
   exact⟨V.int.inj,fun q=>by rw[q]⟩
  rw[eon]
  refine aS (fun cc=>?_) (fun cc=>?_)
  ·refine⟨_,rfl,_,hDl,?_,aY hS hD,?_⟩
   ·rw[bS]
    have:=mM S on i
    exact bF (by omega)
   ·rw[af,lw,if_pos cc,gp]
  ·refine⟨hS,?_⟩
   rw[lw,if_neg cc]
   exact hDl
 ·rintro H' ⟨hS,hDl⟩
  rw[lmp,nl.ln,o.pn]at hDl
  exact hQ H' hS hDl
end
open PySem PySem.Spec PyProof.Rows L2 Wg Wx CM
open Gla (Pt)
section
variable  {P:Program}{w:World}{K:Frag}{mg:Str→Option Value}{base:Heap}{C:Addr}
def ek (S:Gla.Plan):List Pt:=[⟨0,0⟩,⟨S.w,0⟩,⟨0,S.h⟩,⟨S.w,S.h⟩]
def ons (S:Gla.Plan):List (Pt→Bool):=[fun p=>p.y==0,fun p=>p.y==S.h,fun p=>p.x==0,fun p=>p.x==S.w]
theorem kQ (S:Gla.Plan):Gla.frameOk S=true↔(∀c∈ek S,c∈S.pts)∧∀on∈ons S,eU S.lines (dL S on S.pts.length)=true:=by
 unfold Gla.frameOk ek ons
 simp only[Bool.and_eq_true,List.contains_iff_mem,tj,List.forall_mem_cons,List.not_mem_nil,false_imp_iff,implies_true,and_true,and_assoc]
def Cv (C:Addr):Sp:=fun vs H Q _=>∃(a:Addr) (S:Gla.Plan),vs=[.ref a]∧bz C H a S∧SB S∧dG (if Gla.frameOk S=false then some (6,20) else none) H Q
theorem gJ:aq ["drawing","width","height","corner","lines","line","numbered","bottom","top","left","right","edge","k","point"] ["drawing"] (ah bf):=⟨rfl,rfl,rfl,by decide +kernel,rfl,by decide +kernel,by decide +kernel⟩
theorem uF (S:Gla.Plan)(c:Pt):fP c∈S.pts.map fP↔c∈S.pts:=by
 rw[List.mem_map]
 constructor
 ·rintro⟨q,hq,e⟩
  have h1:=List.cons.inj e
  have h2:=List.cons.inj h1.2
  have:q=c:=by
   cases q
   cases c
   have e1:((_:Nat):Int)=_:=h1.1
   have e2:((_:Nat):Int)=_:=h2.1
   simp only[Gla.Pt.mk.injEq]
   exact⟨by exact_mod_cast e1,by exact_mod_cast e2⟩
  rw[←this]
  exact hq
 ·exact fun h=>⟨c,h,rfl⟩
theorem lX (a b:Nat):(a==b)=decide ((a:Int)=(b:Int)):=by
 rw[Bool.eq_iff_iff,beq_iff_eq,decide_eq_true_eq]
 omega
theorem DF (F:Has K mg "fault_of_frame" bf ["drawing"]) (T:DCl K mg C) (ge:mg "enumerate"=none) (gli:mg "list"=none) (C1:Cm P w K mg base 1 C "place_of_point" ["self","k"] pD) (C2:Cb P w K mg base 1 "are_joined_in_a_row" ["numbers","lines"] BZ) :
  Cb P w K mg base 2 "fault_of_frame" ["drawing"] (Cv C):=by
 refine F.cb gJ (fun vs H Q E h=>?_) (fun f cdv A outer s H vs Q E hr h=>?_)
 ·obtain⟨a,S,rfl,_⟩:=h
  rfl
 ·obtain⟨a,S,rfl,hd,sb,k⟩:=h
  obtain⟨dx,p,l,m,ps,ls,ms,o⟩:=hd.op (K:=K)
  have hu:=hr.units
  have np:=sb.np
  have nl:=sb.nl
  refine⟨_,ad (aB (i:=1) gJ.nd rfl (.inr rfl) (aR (pv 0) rfl)) (ad (aB (i:=2) gJ.nd rfl (.inr rfl) (aR (pv 0) rfl))
   (ad (bw PassesOwn.never rfl (sV (bA (aa (bA (aa ag (aa ag ac))) (aa (bA (aa (pv 1) (aa ag ac))) (aa (bA (aa ag (aa (pv 2) ac))) (aa (bA (aa (pv 1) (aa (pv 2) ac))) ac)))))) (au (i:=3) gJ.nd rfl (.inl rfl))
    (ae (a6 (aK (vJ hu) (pv 3) (aR (pv 0) rfl) (by rfl)) (ae (al (bA (aa ag (aa (g9 (pv 0) T.cl C1 hr (aa ag ac)) ac))))) aJ)))
   (ad (aB (i:=4) gJ.nd rfl (.inl rfl) rP)
   (ad (bw PassesOwn.never rfl (bQ (aR (pv 0) rfl)) (au (i:=5) gJ.nd rfl (.inl rfl))
    (ae (qw (Nat.lt_of_le_of_lt (Nat.add_le_add_left (by decide) _) hu) (pv 4) (pv 5) el rfl)))
   (ad (aB (i:=6) gJ.nd rfl (.inl rfl) (qO rfl rfl gli rfl ge (aa (aR (pv 0) rfl) ac)))
   (ad (cv (i:=7) (own:=[("k",12),("point",13)]) (g:=g2 K 12 13) (tt:=fj (tOp rEq (tOp (pG K) (a8 13) (tC (.int 1))) (tC (.int 0)))) rfl gJ.nd rfl rfl (dD rfl rfl rfl (by decide +kernel)) (bQ (pv 6)) (bL (by show iG ["drawing","width","height","corner","lines","line","numbered","bottom","top","left","right","edge","k","point"] (ah bf) _ _=true;decide +kernel))
    (fun _ _ _ _ _=>cS (n:=2) rfl (aL (au (i:=12) gJ.nd rfl (.inl rfl) (.inr rfl)) (aL (au (i:=13) gJ.nd rfl (.inl rfl) (.inr rfl)) bW))) (fun _ _ _ _ _=>jh (aK ki (aw aD (pv 13) ag (fun _ _=>rfl)) ag (aI _))) (fun _ _ _ _ _=>pv 12))
   (ad (cv (i:=8) (own:=[("k",12),("point",13)]) (g:=g2 K 12 13) (tt:=fj (tOp rEq (tOp (pG K) (a8 13) (tC (.int 1))) (a8 2))) rfl gJ.nd rfl rfl (dD rfl rfl rfl (by decide +kernel)) (bQ (pv 6)) (bL (by show iG ["drawing","width","height","corner","lines","line","numbered","bottom","top","left","right","edge","k","point"] (ah bf) _ _=true;decide +kernel))
    (fun _ _ _ _ _=>cS (n:=2) rfl (aL (au (i:=12) gJ.nd rfl (.inl rfl) (.inr rfl)) (aL (au (i:=13) gJ.nd rfl (.inl rfl) (.inr rfl)) bW))) (fun _ _ _ _ _=>jh (aK ki (aw aD (pv 13) ag (fun _ _=>rfl)) (pv 2) (aI _))) (fun _ _ _ _ _=>pv 12))
   (ad (cv (i:=9) (own:=[("k",12),("point",13)]) (g:=g2 K 12 13) (tt:=fj (tOp rEq (tOp (pG K) (a8 13) (tC (.int 0))) (tC (.int 0)))) rfl gJ.nd rfl rfl (dD rfl rfl rfl (by decide +kernel)) (bQ (pv 6)) (bL (by show iG ["drawing","width","height","corner","lines","line","numbered","bottom","top","left","right","edge","k","point"] (ah bf) _ _=true;decide +kernel))
    (fun _ _ _ _ _=>cS (n:=2) rfl (aL (au (i:=12) gJ.nd rfl (.inl rfl) (.inr rfl)) (aL (au (i:=13) gJ.nd rfl (.inl rfl) (.inr rfl)) bW))) (fun _ _ _ _ _=>jh (aK ki (aw aD (pv 13) ag (fun _ _=>rfl)) ag (aI _))) (fun _ _ _ _ _=>pv 12))
   (ad (cv (i:=10) (own:=[("k",12),("point",13)]) (g:=g2 K 12 13) (tt:=fj (tOp rEq (tOp (pG K) (a8 13) (tC (.int 0))) (a8 1))) rfl gJ.nd rfl rfl (dD rfl rfl rfl (by decide +kernel)) (bQ (pv 6)) (bL (by show iG ["drawing","width","height","corner","lines","line","numbered","bottom","top","left","right","edge","k","point"] (ah bf) _ _=true;decide +kernel))
    (fun _ _ _ _ _=>cS (n:=2) rfl (aL (au (i:=12) gJ.nd rfl (.inl rfl) (.inr rfl)) (aL (au (i:=13) gJ.nd rfl (.inl rfl) (.inr rfl)) bW))) (fun _ _ _ _ _=>jh (aK ki (aw aD (pv 13) ag (fun _ _=>rfl)) (pv 1) (aI _))) (fun _ _ _ _ _=>pv 12))
   (ad (bw PassesOwn.never rfl (sV (bA (aa (pv 7) (aa (pv 8) (aa (pv 9) (aa (pv 10) ac)))))) (au (i:=11) gJ.nd rfl (.inl rfl))
    (ae (a6 (jM (cI (aF C2 hr (aa (pv 11) (aa (pv 4) ac))))) (ae (al (bA (aa ag (aa (g9 (pv 0) T.cl C1 hr (aa ag ac)) ac))))) aJ)))
   (ae (al bc)))))))))))),?_⟩
  have bad:Gla.frameOk S=false→∀H3,ak H H3→∀q,H3 q=none→Q (.ref q) (upd H3 q (.tup [.int 6,.int (20+8*0)])):=fun z H3 s3 q hq=>by
   rw[if_pos z]at k
   exact dG.some' k s3 q hq
  refine⟨_,rfl,a,C,dx,_,_,rfl,o.at_,T.cl,T.nW,A0,?_⟩
  refine⟨_,rfl,a,C,dx,_,_,rfl,o.at_,T.cl,T.nH,Ay,?_⟩
  refine⟨(by show 2≤sizeLine;decide),fun t1 h1=>?_⟩
  have hs1:ak H (upd H t1 (.tup [.int 0,.int 0])):=aN h1
  have g1:(upd H t1 (.tup [.int 0,.int 0])) t1=some (.tup (iV (fP ⟨0,0⟩))):=af
  generalize upd H t1 (.tup [.int 0,.int 0])=Ha at hs1 g1
  refine⟨_,rfl,(by show 2≤sizeLine;decide),fun t2 h2=>?_⟩
  have hs2:ak Ha (upd Ha t2 (.tup [.int (S.w:Int),.int 0])):=aN h2
  have g2':(upd Ha t2 (.tup [.int (S.w:Int),.int 0])) t2=some (.tup (iV (fP ⟨S.w,0⟩))):=af
  generalize upd Ha t2 (.tup [.int (S.w:Int),.int 0])=Hb at hs2 g2'
  refine⟨_,rfl,(by show 2≤sizeLine;decide),fun t3 h3=>?_⟩
  have hs3:ak Hb (upd Hb t3 (.tup [.int 0,.int (S.h:Int)])):=aN h3
  have g3:(upd Hb t3 (.tup [.int 0,.int (S.h:Int)])) t3=some (.tup (iV (fP ⟨0,S.h⟩))):=af
  generalize upd Hb t3 (.tup [.int 0,.int (S.h:Int)])=Hc at hs3 g3
  refine⟨_,rfl,_,rfl,(by show 2≤sizeLine;decide),fun t4 h4=>?_⟩
  have hs4:ak Hc (upd Hc t4 (.tup [.int (S.w:Int),.int (S.h:Int)])):=aN h4
  have g4:(upd Hc t4 (.tup [.int (S.w:Int),.int (S.h:Int)])) t4=some (.tup (iV (fP ⟨S.w,S.h⟩))):=af
  generalize upd Hc t4 (.tup [.int (S.w:Int),.int (S.h:Int)])=Hd at hs4 g4
  refine⟨(by show 4≤sizeLine;decide),fun t5 h5=>?_⟩
  have hs5:ak Hd (upd Hd t5 (.tup [.ref t1,.ref t2,.ref t3,.ref t4])):=aN h5
  have g5:(upd Hd t5 (.tup [.ref t1,.ref t2,.ref t3,.ref t4])) t5=some (.tup ([t1,t2,t3,t4].map V.ref)):=af
  generalize upd Hd t5 (.tup [.ref t1,.ref t2,.ref t3,.ref t4])=He at hs5 g5
  have sHe:ak H He:=hs1.trans (hs2.trans (hs3.trans (hs4.trans hs5)))
  have rows:∀(i:Nat) (b:Addr) (c:Pt),[t1,t2,t3,t4][i]? = some b→(ek S)[i]? = some c→He b=some (.tup (iV (fP c))):=by
   intro i b c e1 e2
   have hi:i<4:=(gsi e1).1
   rcases(by omega:i=0∨i=1∨i=2∨i=3) with rfl|rfl|rfl|rfl
   ·cases osi e1;cases osi e2
    exact hs5 _ _ (hs4 _ _ (hs3 _ _ (hs2 _ _ g1)))
   ·cases osi e1;cases osi e2
    exact hs5 _ _ (hs4 _ _ (hs3 _ _ g2'))
   ·cases osi e1;cases osi e2
    exact hs5 _ _ (hs4 _ _ g3)
   ·cases osi e1;cases osi e2
    exact hs5 _ _ g4
  refine⟨t5,rfl,⟨_,SqT.of g5⟩,qr (K:=K) (a:=t5) (xs:=[t1,t2,t3,t4].map V.ref) (fun i σ H'=>ak He H'∧(∃v,σ=[some (.ref a),some (.int (S.w:Int)),some (.int (S.h:Int)),v,none,none,none,none,none,none,none,none,none,none])∧∀(j:Nat) (c:Pt),j<i→(ek S)[j]? = some c→c∈S.pts)
   ⟨ak.refl He,⟨none,rfl⟩,fun j c h=>absurd h (Nat.not_lt_zero _)⟩ (fun i σ H' _ h=>SqT.of (h.1 _ _ g5)) ?_ ?_⟩
  ·rintro i y σ H' hi ⟨hS,⟨v,rfl⟩,hok⟩
   obtain⟨b,hb,rfl⟩:=cq hi
   have hi4:i<(ek S).length:=(gsi hb).1
   have hc:(ek S)[i]? = some (ek S)[i]:=gge hi4
   have o2:=o.same (sHe.trans hS)
   refine⟨_,rfl,_,rfl,a,C,dx,_,_,rfl,o2.at_,T.cl,T.nP,iH,b,p,fP (ek S)[i],ps,S.pts.map fP,rfl,rfl,SqT.of (hS _ _ (rows i b _ hb hc)),SqL.of o2.pl,by rw[lmp,o.pn],?_,_,rfl,aS (fun c=>?_) (fun c=>?_)⟩
   ·intro j a' q e1 e2
    have hj:j<S.pts.length:=by rw[←o.pn];exact(gsi e1).1
    rw[List.getElem?_map,gge hj]at e2
    have e2:=osi e2
    rw[←e2,←WL.bJ S hj]
    exact SqT.of (o2.pt j a' e1)
   ·have c:(ek S)[i]∉S.pts:=fun z=>by
     rw[dqt ((uF S _).2 z)]at c
     exact absurd c (by decide)
    refine⟨_,rfl,a,dx,_,rfl,o2.at_,bZ (.inl (.inl rfl)),_,_,rfl,(by show 2≤sizeLine;decide),fun q hq=>?_⟩
    refine bad (cC fun z=>c ?_) H' (sHe.trans hS) q hq
    exact((kQ S).1 z).1 _ (List.getElem_mem hi4)
   ·have c:(ek S)[i]∈S.pts:=bcn fun z=>c (by rw[dqf (fun y=>z ((uF S _).1 y))];rfl)
    refine⟨hS,⟨_,rfl⟩,fun j q h e=>?_⟩
    by_cases cc:j<i
    ·exact hok j q cc e
    ·have:j=i:=by omega
     subst this
     rw[hc]at e
     cases e
     exact c
  rintro σ H1 ⟨hS1,⟨v3,rfl⟩,hok1⟩
  have cor:∀c∈ek S,c∈S.pts:=fun c hc=>by
   obtain⟨j,hj,rfl⟩:=List.getElem_of_mem hc
   exact hok1 j _ hj (gge hj)
  have s1:ak H H1:=sHe.trans hS1
  clear hok1 rows g5 g4 g3 g2' g1
  refine fun d hd=>?_
  have hd0:H d=none:=s1.free hd
  have s2:ak H (upd H1 d (.dT [])):=a5 s1 hd
  have o2:=o.same s2
  refine⟨_,rfl,a,C,dx,_,_,rfl,o2.at_,T.cl,T.nL,p8,l,rfl,⟨_,SqL.of o2.ll⟩,er (K:=K) (a:=l) (xs:=ls.map V.ref) (fun i σ H'=>ak H H'∧(∃v,σ=[some (.ref a),some (.int (S.w:Int)),some (.int (S.h:Int)),v3,some (.ref d),v,none,none,none,none,none,none,none,none])∧∃kvs,H' d=some (.dT kvs)∧LD kvs (S.lines.take i)∧kvs.length≤i)
   ⟨s2,⟨none,rfl⟩,[],af,fun x=>rfl,nlr _⟩ (fun i σ H' _ h=>SqL.of (h.1 _ _ o.ll)) ?_ ?_⟩
  ·rintro t y σ H' hi ⟨hS,⟨v,rfl⟩,kvs,hk,hL,hkl⟩
   obtain⟨b,hb,rfl⟩:=cq hi
   have ht:t<S.lines.length:=by rw[←o.ln];exact(gsi hb).1
   have hx:H' b=some (.tup ((lk S.lines[t]).map kV)):=(o.same hS).li t b _ hb (gge ht)
   refine⟨_,rfl,_,rfl,d,_,rfl,qd.t (k:=lk S.lines[t]) hk hx (bF (by omega)),?_⟩
   refine⟨aY hS hd0,⟨_,rfl⟩,_,af,?_,?_⟩
   ·rw[bY (gge ht)]
    exact hL.put _ _
   ·have:=gw kvs (lk S.lines[t]) (.bl true)
    omega
  rintro σ H2 ⟨hS2,⟨v5,rfl⟩,kvs,hk,hL,hkl⟩
  rw[lmp,o.ln,List.take_length]at hL
  have o3:=o.same hS2
  refine⟨_,rfl,a,C,dx,_,_,rfl,o3.at_,T.cl,T.nP,iH,p,_,rfl,SqL.of o3.pl,fun H3 n ts s3 hn hnl hnr=>?_⟩
  rw[lmp]at hnl
  have nm:wl H3 n ts ps:=⟨hn,hnl,fun i t b e1 e2=>hnr i t _ e1 (aP e2)⟩
  have sH3:ak H H3:=hS2.trans s3
  have hk3:=s3 _ _ hk
  clear hn hnr hnl
  refine⟨_,rfl,n,rfl,⟨_,SqL.of nm.at_⟩,fun D1 hD1=>?_⟩
  refine l7 1 (fun q=>(q.y:Int)) (fun q=>rfl) (fun p=>p.y==0) 0 (fun q=>lX q.y 0) (tC (.int 0)) (fun _ _ _ _ h=>h) (o.same sH3) nm np hD1 fun H4 s4 e4=>?_
  have sH4:=sH3.trans s4
  have nm4:=nm.same s4
  refine⟨_,rfl,n,rfl,⟨_,SqL.of nm4.at_⟩,fun D2 hD2=>?_⟩
  refine l7 1 (fun q=>(q.y:Int)) (fun q=>rfl) (fun p=>p.y==S.h) (S.h:Int) (fun q=>lX q.y S.h) (a8 2) (fun _ _ _ _ h=>⟨_,rfl,h⟩) (o.same sH4) nm4 np hD2 fun H5 s5 e5=>?_
  have sH5:=sH4.trans s5
  have nm5:=nm4.same s5
  refine⟨_,rfl,n,rfl,⟨_,SqL.of nm5.at_⟩,fun D3 hD3=>?_⟩
  refine l7 0 (fun q=>(q.x:Int)) (fun q=>rfl) (fun p=>p.x==0) 0 (fun q=>lX q.x 0) (tC (.int 0)) (fun _ _ _ _ h=>h) (o.same sH5) nm5 np hD3 fun H6 s6 e6=>?_
  have sH6:=sH5.trans s6
  have nm6:=nm5.same s6
  refine⟨_,rfl,n,rfl,⟨_,SqL.of nm6.at_⟩,fun D4 hD4=>?_⟩
  refine l7 0 (fun q=>(q.x:Int)) (fun q=>rfl) (fun p=>p.x==S.w) (S.w:Int) (fun q=>lX q.x S.w) (a8 1) (fun _ _ _ _ h=>⟨_,rfl,h⟩) (o.same sH6) nm6 np hD4 fun H7 s7 e7=>?_
  have sH7:=sH6.trans s7
  have s37:ak H3 H7:=s4.trans (s5.trans (s6.trans s7))
  refine⟨_,rfl,_,rfl,_,rfl,_,rfl,(by show 4≤sizeLine;decide),fun t8 h8=>?_⟩
  have s8:ak H7 (upd H7 t8 (.tup [.ref D1,.ref D2,.ref D3,.ref D4])):=aN h8
  have g8:(upd H7 t8 (.tup [.ref D1,.ref D2,.ref D3,.ref D4])) t8=some (.tup ([D1,D2,D3,D4].map V.ref)):=af
  generalize upd H7 t8 (.tup [.ref D1,.ref D2,.ref D3,.ref D4])=H8 at s8 g8
  have sH8:=sH7.trans s8
  have hk8:=s8 _ _ (s37 _ _ hk3)
  have edges:∀(i:Nat) (b:Addr) (on:Pt→Bool),[D1,D2,D3,D4][i]? = some b→(ons S)[i]? = some on→H8 b=some (.lst (iV (nI (dL S on S.pts.length)))):=by
   intro i b on e1 e2
   have hi:i<4:=(gsi e1).1
   rcases(by omega:i=0∨i=1∨i=2∨i=3) with rfl|rfl|rfl|rfl
   ·cases osi e1;cases osi e2
    exact s8 _ _ (s7 _ _ (s6 _ _ (s5 _ _ e4)))
   ·cases osi e1;cases osi e2
    exact s8 _ _ (s7 _ _ (s6 _ _ e5))
   ·cases osi e1;cases osi e2
    exact s8 _ _ (s7 _ _ e6)
   ·cases osi e1;cases osi e2
    exact s8 _ _ e7
  refine⟨t8,rfl,⟨_,SqT.of g8⟩,qr (K:=K) (a:=t8) (xs:=[D1,D2,D3,D4].map V.ref) (fun i σ H'=>ak H8 H'∧(∃v,σ=[some (.ref a),some (.int (S.w:Int)),some (.int (S.h:Int)),v3,some (.ref d),v5,some (.ref n),some (.ref D1),some (.ref D2),some (.ref D3),some (.ref D4),v,none,none])∧∀(j:Nat) (on:Pt→Bool),j<i→(ons S)[j]? = some on→eU S.lines (dL S on S.pts.length)=true)
   ⟨ak.refl H8,⟨none,rfl⟩,fun j c h=>absurd h (Nat.not_lt_zero _)⟩ (fun i σ H' _ h=>SqT.of (h.1 _ _ g8)) ?_ ?_⟩
  ·rintro i y σ H' hi ⟨hS,⟨v,rfl⟩,hok⟩
   obtain⟨b,hb,rfl⟩:=cq hi
   have hi4:i<(ons S).length:=(gsi hb).1
   have hc:(ons S)[i]? = some (ons S)[i]:=gge hi4
   refine⟨_,rfl,_,rfl,b,d,dL S (ons S)[i] S.pts.length,kvs,S.lines,rfl,hS _ _ (edges i b _ hb hc),hS _ _ hk8,hL,?_,fun H9 s9=>?_⟩
   ·have:=mM S (ons S)[i] S.pts.length
    omega
   refine⟨_,rfl,?_⟩
   have o9:=o.same (sH8.trans (hS.trans s9))
   cases hj:eU S.lines (dL S (ons S)[i] S.pts.length) with
   |true =>
    refine jL ?_
    refine⟨hS.trans s9,⟨_,rfl⟩,fun j q h e=>?_⟩
    by_cases cc:j<i
    ·exact hok j q cc e
    ·have:j=i:=by omega
     subst this
     rw[hc]at e
     cases e
     exact hj
   |false =>
    refine eA ?_
    refine⟨_,rfl,a,dx,_,rfl,o9.at_,bZ (.inl (.inl rfl)),_,_,rfl,(by show 2≤sizeLine;decide),fun q hq=>?_⟩
    refine bad (cC fun z=>?_) H9 (sH8.trans (hS.trans s9)) q hq
    rw[((kQ S).1 z).2 _ (List.getElem_mem hi4)]at hj
    cases hj
  ·rintro σ H' ⟨hS,⟨v,rfl⟩,hok⟩
   have z:Gla.frameOk S=true:=(kQ S).2 ⟨cor,fun on hon=>by
    obtain⟨j,hj,rfl⟩:=List.getElem_of_mem hon
    exact hok j _ hj (gge hj)⟩
   rw[z,if_neg (by decide)]at k
   exact k H' (sH8.trans hS)
end
open PySem PySem.Spec PyProof.Rows L2 Wg Wx CM
open Gla (Pt)
def kH (o:Option (Int×Int))(v:V)(H:Hp):Prop:=match o with
 |none=>v=.non
 |some (r,p)=>∃q,v=.ref q∧H q=some (.tup [.int r,.int p])
theorem dG.of {o:Option (Int×Int)}{H:Hp}{Q:VK}(h:∀v H',ak H H'→kH o v H'→Q v H'):dG o H Q:=by
 cases o with
 |none=>exact fun H' s=>h .non H' s rfl
 |some x=>exact fun H' q s e=>h (.ref q) H' s ⟨q,rfl,e⟩
theorem dG.to {o:Option (Int×Int)}{H H':Hp}{Q:VK}{v:V}(k:dG o H Q)(s:ak H H')(f:kH o v H'):Q v H':=by
 cases o with
 |none=>rw[show v=.non from f];exact k H' s
 |some x =>
  obtain⟨q,rfl,e⟩:=f
  exact k H' q s e
def o4 (S:Gla.Plan):Option (Int×Int):=jv 4 kL (Gla.firstBad (ok4 S) Pt.below S.pts)
def o5 (S:Gla.Plan):Option (Int×Int):=jv 5 (pT S) (Gla.firstBad (ok5 S) Gla.lineBelow S.lines)
def o6 (S:Gla.Plan):Option (Int×Int):=if Gla.frameOk S=false then some (6,20) else none
def o7 (S:Gla.Plan):Option (Int×Int):=jv 7 (pT S) (Gla.firstAt (Gla.touches S) S.lines)
def o8 (S:Gla.Plan):Option (Int×Int):=jv 8 kL ((List.range S.pts.length).find? fun i=>decide ((S.near i).length<2))
def o9 (S:Gla.Plan):Option (Int×Int):=jv 9 kL ((List.range S.pts.length).find? fun i=>!((lH S).getD i false))
def o10 (S:Gla.Plan):Option (Int×Int):=jv 10 kL ((List.range S.pts.length).find? (Gla.cuts S.nears S.pts.length))
def o11 (S:Gla.Plan):Option (Int×Int):=jv 11 (me S) (Gla.firstBad (Gla.markOk S) Gla.markBelow S.marks)
def lc (a b:Option (Int×Int)):Option (Int×Int):=match a with
 |some x=>some x
 |none=>b
def bP (S:Gla.Plan):Option (Int×Int):=lc (o4 S) (lc (o5 S) (lc (o6 S) (lc (o7 S) (lc (o8 S) (lc (o9 S) (lc (o10 S) (o11 S)))))))
theorem d4 {r:Int}{pl:Nat→Int}{o:Option Nat}(h:jv r pl o=none):o=none:=by
 cases o with
 |none=>rfl
 |some i=>cases h
theorem mS {S:Gla.Plan}(h:gj S):xZ S:=fun i hi j hj=>by
 unfold Gla.Plan.near at hj
 rw[List.mem_filterMap]at hj
 obtain⟨l,hl,e⟩:=hj
 obtain⟨l1,l2⟩:=h l hl
 split at e
 ·have e:=osi e
  omega
 ·split at e
  ·have e:=osi e
   omega
  ·cases e
section
variable  {P:Program}{w:World}{K:Frag}{mg:Str→Option Value}{base:Heap}{C:Addr}
theorem gP {b:V}{q:Addr}{A B:Prop}(h:B)(e:b=.ref q):if decide (b=V.non)=true then A else B:=aS (fun c=>by rw[e]at c;exact absurd (of_decide_eq_true c) (by intro z;cases z)) (fun _=>h)
theorem lI {A B:Prop}(h:A):if decide (V.non=V.non)=true then A else B:=aS (fun _=>h) (fun c=>absurd (dqt rfl) c)
def B7 (C:Addr):Sp:=fun vs H Q _=>∃(a:Addr) (S:Gla.Plan),vs=[.ref a]∧bz C H a S∧SB S∧4≤S.pts.length∧dG (bP S) H Q
theorem nX:aq ["drawing","fault","neighbours"] ["drawing"] (ah cB):=⟨rfl,rfl,rfl,by decide +kernel,rfl,by decide +kernel,by decide +kernel⟩
theorem Cl (F:Has K mg "fault_of_drawing" cB ["drawing"]) (C4:Cb P w K mg base 2 "fault_of_points" ["drawing"] (B8 C)) (C5:Cb P w K mg base 3 "fault_of_lines" ["drawing"] (Cs C)) (C6:Cb P w K mg base 2 "fault_of_frame" ["drawing"] (Cv C)) (C7:Cb P w K mg base 5 "fault_of_crossings" ["drawing"] (BB C))
  (CN:Cb P w K mg base 1 "neighbours_of" ["drawing"] (A8 C)) (C8:Cb P w K mg base 2 "fault_of_ends" ["drawing","neighbours"] (B9 C)) (C9:Cb P w K mg base 2 "fault_of_ways" ["drawing","neighbours"] (Ca C)) (C10:Cb P w K mg base 2 "fault_of_narrows" ["drawing","neighbours"] (zI C)) (C11:Cb P w K mg base 4 "fault_of_marks" ["drawing"] (zu C)) :
  Cb P w K mg base 6 "fault_of_drawing" ["drawing"] (B7 C):=by
 refine F.cb nX (fun vs H Q E h=>?_) (fun f cdv A outer s H vs Q E hr h=>?_)
 ·obtain⟨a,S,rfl,_⟩:=h
  rfl
 ·obtain⟨a,S,rfl,hd,sb,h4,k⟩:=h
  have hr1:bu 1 _:=hr.mono (by decide)
  have hr2:bu 2 _:=hr.mono (by decide)
  have hr3:bu 3 _:=hr.mono (by decide)
  have hr4:bu 4 _:=hr.mono (by decide)
  refine⟨_,ad (aB (i:=1) nX.nd rfl (.inl rfl) (aF C4 hr2 (aa (pv 0) ac)))
   (ad (a6 (aK iL (pv 1) bc (aI _)) (ae (aB (i:=1) nX.nd rfl (.inl rfl) (aF C5 hr3 (aa (pv 0) ac)))) aJ)
   (ad (a6 (aK iL (pv 1) bc (aI _)) (ae (aB (i:=1) nX.nd rfl (.inl rfl) (aF C6 hr2 (aa (pv 0) ac)))) aJ)
   (ad (a6 (aK iL (pv 1) bc (aI _)) (ae (aB (i:=1) nX.nd rfl (.inl rfl) (aF C7 hr (aa (pv 0) ac)))) aJ)
   (ad (a6 (aK ju (pv 1) bc (aI _)) (ae (al (pv 1))) aJ)
   (ad (aB (i:=2) nX.nd rfl (.inl rfl) (aF CN hr1 (aa (pv 0) ac)))
   (ad (aB (i:=1) nX.nd rfl (.inl rfl) (aF C8 hr2 (aa (pv 0) (aa (pv 2) ac))))
   (ad (a6 (aK iL (pv 1) bc (aI _)) (ae (aB (i:=1) nX.nd rfl (.inl rfl) (aF C9 hr2 (aa (pv 0) (aa (pv 2) ac))))) aJ)
   (ad (a6 (aK iL (pv 1) bc (aI _)) (ae (aB (i:=1) nX.nd rfl (.inl rfl) (aF C10 hr2 (aa (pv 0) (aa (pv 2) ac))))) aJ)
   (ad (a6 (aK iL (pv 1) bc (aI _)) (ae (aB (i:=1) nX.nd rfl (.inl rfl) (aF C11 hr4 (aa (pv 0) ac)))) aJ)
   (ae (al (pv 1)))))))))))),?_⟩
  refine⟨_,rfl,a,S,rfl,hd,sb,dG.of fun v H1 s1 f4=>?_⟩
  have f4:kH (o4 S) v H1:=f4
  cases e4:o4 S with
  |some x =>
   rw[e4]at f4
   obtain⟨q,rfl,hq⟩:=id f4
   refine⟨_,rfl,rfl,_,rfl,gP ?_ rfl⟩
   refine⟨_,rfl,rfl,_,rfl,gP ?_ rfl⟩
   refine⟨_,rfl,rfl,_,rfl,gP ?_ rfl⟩
   refine⟨_,rfl,rfl,_,rfl,aS (fun _=>⟨_,rfl,?_⟩) (fun c=>absurd (by rw[dqf (by intro z;cases z)];rfl) c)⟩
   have e:bP S=some x:=by unfold bP;rw[e4];rfl
   rw[e]at k
   exact k.to s1 f4
  |none =>
  rw[e4]at f4
  obtain rfl:v=.non:=f4
  have r4:WL.R4 S:=d4 e4
  refine⟨_,rfl,rfl,_,rfl,lI ?_⟩
  refine⟨_,rfl,a,S,rfl,hd.same s1,sb,dG.of fun v H2 s2 f5=>?_⟩
  have f5:kH (o5 S) v H2:=f5
  have s2:=s1.trans s2
  cases e5:o5 S with
  |some x =>
   rw[e5]at f5
   obtain⟨q,rfl,hq⟩:=id f5
   refine⟨_,rfl,rfl,_,rfl,gP ?_ rfl⟩
   refine⟨_,rfl,rfl,_,rfl,gP ?_ rfl⟩
   refine⟨_,rfl,rfl,_,rfl,aS (fun _=>⟨_,rfl,?_⟩) (fun c=>absurd (by rw[dqf (by intro z;cases z)];rfl) c)⟩
   have e:bP S=some x:=by unfold bP;rw[e4,e5];rfl
   rw[e]at k
   exact k.to s2 f5
  |none =>
  rw[e5]at f5
  obtain rfl:v=.non:=f5
  have r5:WL.R5 S:=d4 e5
  have hlo:gj S:=fun l hl=>r5.line hl
  refine⟨_,rfl,rfl,_,rfl,lI ?_⟩
  refine⟨_,rfl,a,S,rfl,hd.same s2,sb,dG.of fun v H3 s3 f6=>?_⟩
  have f6:kH (o6 S) v H3:=f6
  have s3:=s2.trans s3
  cases e6:o6 S with
  |some x =>
   rw[e6]at f6
   obtain⟨q,rfl,hq⟩:=id f6
   refine⟨_,rfl,rfl,_,rfl,gP ?_ rfl⟩
   refine⟨_,rfl,rfl,_,rfl,aS (fun _=>⟨_,rfl,?_⟩) (fun c=>absurd (by rw[dqf (by intro z;cases z)];rfl) c)⟩
   have e:bP S=some x:=by unfold bP;rw[e4,e5,e6];rfl
   rw[e]at k
   exact k.to s3 f6
  |none =>
  rw[e6]at f6
  obtain rfl:v=.non:=f6
  refine⟨_,rfl,rfl,_,rfl,lI ?_⟩
  refine⟨_,rfl,a,S,rfl,hd.same s3,sb,r4,r5,dG.of fun v H4 s4 f7=>?_⟩
  have f7:kH (o7 S) v H4:=f7
  have s4:=s3.trans s4
  cases e7:o7 S with
  |some x =>
   rw[e7]at f7
   obtain⟨q,rfl,hq⟩:=id f7
   refine⟨_,rfl,rfl,_,rfl,aS (fun _=>⟨_,rfl,?_⟩) (fun c=>absurd (by rw[dqf (by intro z;cases z)];rfl) c)⟩
   have e:bP S=some x:=by unfold bP;rw[e4,e5,e6,e7];rfl
   rw[e]at k
   exact k.to s4 f7
  |none =>
  rw[e7]at f7
  obtain rfl:v=.non:=f7
  refine⟨_,rfl,rfl,_,rfl,aS (fun c=>absurd c (by decide)) (fun _=>?_)⟩
  refine⟨_,rfl,a,S,rfl,hd.same s4,sb,hlo,fun H5 N as hN hNl=>?_⟩
  have s5:=s4.trans hN.sm
  have rw5:=hN.rw
  refine⟨_,rfl,_,rfl,a,N,as,S,rfl,hd.same s5,rw5,hNl,dG.of fun v H6 s6 f8=>?_⟩
  have f8:kH (o8 S) v H6:=f8
  have rw6:=rw5.same s6
  have s6:=s5.trans s6
  cases e8:o8 S with
  |some x =>
   rw[e8]at f8
   obtain⟨q,rfl,hq⟩:=id f8
   refine⟨_,rfl,rfl,_,rfl,gP ?_ rfl⟩
   refine⟨_,rfl,rfl,_,rfl,gP ?_ rfl⟩
   refine⟨_,rfl,rfl,_,rfl,gP ⟨_,rfl,?_⟩ rfl⟩
   have e:bP S=some x:=by unfold bP;rw[e4,e5,e6,e7,e8];rfl
   rw[e]at k
   exact k.to s6 f8
  |none =>
  rw[e8]at f8
  obtain rfl:v=.non:=f8
  refine⟨_,rfl,rfl,_,rfl,lI ?_⟩
  refine⟨_,rfl,_,rfl,a,N,as,S,rfl,hd.same s6,sb,h4,mS hlo,rw6,hNl,dG.of fun v H7 s7 f9=>?_⟩
  have f9:kH (o9 S) v H7:=f9
  have rw7:=rw6.same s7
  have s7:=s6.trans s7
  cases e9:o9 S with
  |some x =>
   rw[e9]at f9
   obtain⟨q,rfl,hq⟩:=id f9
   refine⟨_,rfl,rfl,_,rfl,gP ?_ rfl⟩
   refine⟨_,rfl,rfl,_,rfl,gP ⟨_,rfl,?_⟩ rfl⟩
   have e:bP S=some x:=by unfold bP;rw[e4,e5,e6,e7,e8,e9];rfl
   rw[e]at k
   exact k.to s7 f9
  |none =>
  rw[e9]at f9
  obtain rfl:v=.non:=f9
  refine⟨_,rfl,rfl,_,rfl,lI ?_⟩
  refine⟨_,rfl,_,rfl,a,N,as,S,rfl,hd.same s7,sb,h4,mS hlo,rw7,hNl,dG.of fun v H8 s8 f10=>?_⟩
  have f10:kH (o10 S) v H8:=f10
  have s8:=s7.trans s8
  cases e10:o10 S with
  |some x =>
   rw[e10]at f10
   obtain⟨q,rfl,hq⟩:=id f10
   refine⟨_,rfl,rfl,_,rfl,gP ⟨_,rfl,?_⟩ rfl⟩
   have e:bP S=some x:=by unfold bP;rw[e4,e5,e6,e7,e8,e9,e10];rfl
   rw[e]at k
   exact k.to s8 f10
  |none =>
  rw[e10]at f10
  obtain rfl:v=.non:=f10
  refine⟨_,rfl,rfl,_,rfl,lI ?_⟩
  refine⟨_,rfl,a,S,rfl,hd.same s8,sb,hlo,dG.of fun v H9 s9 f11=>?_⟩
  refine⟨_,rfl,?_⟩
  have e:bP S=o11 S:=by unfold bP;rw[e4,e5,e6,e7,e8,e9,e10];rfl
  rw[e]at k
  exact k.to (s8.trans s9) f11
end
open PySem PySem.Spec PyProof.Rows L2 Wg Wx CM
open Gla (Pt)
def m6 (K:Frag)(H:Hp)(p:Addr)(ps:List Addr)(S:Gla.Plan):Prop:=H p=some (.lst (ps.map V.ref))∧ps.length=S.pts.length∧∀(i:Nat) (b:Addr),ps[i]? = some b→cH K H b (S.pt i)
theorem m6.same {K:Frag}{H H':Hp}{p:Addr}{ps:List Addr}{S:Gla.Plan}(h:m6 K H p ps S)(s:ak H H'):m6 K H' p ps S:=⟨s _ _ h.1,h.2.1,fun i b e=>(h.2.2 i b e).same s⟩
theorem m6.has {K:Frag}{H:Hp}{p:Addr}{ps:List Addr}{S:Gla.Plan}(h:m6 K H p ps S){i:Nat}(hi:i<S.pts.length):∃b,ps[i]? = some b:=⟨ps[i]'(by rw[h.2.1];exact hi),gge _⟩
theorem Op.ptsL {K:Frag}{C:Addr}{H:Hp}{a dx p l m:Addr}{S:Gla.Plan}{ps ls ms:List Addr}(o:Op K C H a dx p l m S ps ls ms)(sb:SB S):m6 K H p ps S:=⟨o.pl,o.pn,fun i b e=>o.ptAt sb e⟩
theorem pH {S:Gla.Plan}{m e:Nat}{l:List Nat}{t:Nat}(h:l.length≤t):WL.bn S m e (l.drop t)=e :: l.drop t:=by
 rw[List.drop_eq_nil_of_le h]
 rfl
theorem wA {S:Gla.Plan}{m e:Nat}{l:List Nat}{t:Nat}(h:t<l.length)(ht:¬0<Gla.turn (S.pt m) (S.pt l[t]) (S.pt e)):WL.bn S m e (l.drop t)=e :: l.drop t:=by
 rw[List.drop_eq_getElem_cons h]
 unfold WL.bn
 rw[if_neg ht]
theorem Bc {S:Gla.Plan}{m e:Nat}{l:List Nat}{t:Nat}(h:t<l.length)(ht:0<Gla.turn (S.pt m) (S.pt l[t]) (S.pt e)):l.take t++WL.bn S m e (l.drop t)=l.take (t+1)++WL.bn S m e (l.drop (t+1)):=by
 rw[List.drop_eq_getElem_cons h,bY (gge h),List.append_assoc]
 conv=>lhs;unfold WL.bn
 rw[if_pos ht]
 rfl
theorem vq {S:Gla.Plan}{m:Nat}{l:List Nat}{i e:Nat}(h:l[i]? = some e):WL.sortTurn S m (l.take (i+1))=WL.bn S m e (WL.sortTurn S m (l.take i)):=by
 unfold WL.sortTurn
 rw[bY h,List.foldl_append]
 rfl
theorem mF (S:Gla.Plan)(m:Nat)(l:List Nat):(WL.sortTurn S m l).length=l.length:=(WL.cQ S m l).length_eq
theorem wj {S:Gla.Plan}{m:Nat}{l:List Nat}{x:Nat}(h:x∈WL.sortTurn S m l):x∈l:=(WL.cQ S m l).mem_iff.1 h
theorem yK (l:List Nat)(t:Nat):(iV (nI l)).take t=iV (nI (l.take t)):=by
 unfold iV nI
 rw[List.map_take,List.map_take]
theorem yG (l:List Nat)(t:Nat):(iV (nI l)).drop t=iV (nI (l.drop t)):=by
 unfold iV nI
 rw[List.map_drop,List.map_drop]
theorem xL (l r:List Nat):iV (nI (l++r))=iV (nI l)++iV (nI r):=by
 unfold iV nI
 rw[List.map_append,List.map_append]
section
variable  {P:Program}{w:World}{K:Frag}{mg:Str→Option Value}{base:Heap}{C:Addr}
def BS (K:Frag):Sp:=fun vs H Q _=>∃(p ea:Addr) (ps:List Addr) (S:Gla.Plan) (m:Nat) (ends:List Nat),vs=[.ref p,.int (m:Int),.ref ea]∧m6 K H p ps S∧m<S.pts.length∧H ea=some (.lst (iV (nI ends)))∧(∀x∈ends,x<S.pts.length)∧ends.length≤100000 ∧
 ∀(H':Hp) (r:Addr),ak H H'→H r=none→H' r=some (.lst (iV (nI (WL.sortTurn S m ends))))→Q (.ref r) H'
theorem wt:aq ["points","middle","ends","ring","end","place"] ["points","middle","ends"] (ah dC):=⟨rfl,rfl,rfl,by decide +kernel,rfl,by decide +kernel,by decide +kernel⟩
theorem DH (F:Has K mg "sorted_by_turn" dC ["points","middle","ends"]) (gl:mg "len"=none) (C1:Cb P w K mg base 1 "turn" ["p","q","r"] (kR K)):Cb P w K mg base 2 "sorted_by_turn" ["points","middle","ends"] (BS K):=by
 refine F.cb wt (fun vs H Q E h=>?_) (fun f cdv A outer s H vs Q E hr h=>?_)
 ·obtain⟨p,ea,ps,S,m,ends,rfl,_⟩:=h
  rfl
 ·obtain⟨p,ea,ps,S,m,ends,rfl,hp,hm,he,hen,hel,k⟩:=h
  refine⟨_,ad (aB (i:=3) wt.nd rfl (.inl rfl) (d3 ac))
   (ad (bw PassesOwn.never rfl (bQ (pv 2)) (au (i:=4) wt.nd rfl (.inl rfl))
    (ad (aB (i:=5) wt.nd rfl (.inl rfl) ag)
    (ad (m8 PassesOwn.never (iQ (aK gq (pv 5) (aW aO (by rfl) gl PySem.boot_len (aa (pv 3) ac)) (aI _)) (ij (aK d5 (aF C1 hr (aa (aw aU (pv 0) (pv 1) (fun _ _=>rfl)) (aa (aw aU (pv 0) (aw aU (pv 3) (pv 5) (fun _ _=>rfl)) (fun _ _=>rfl)) (aa (aw aU (pv 0) (pv 4) (fun _ _=>rfl)) ac)))) ag (aI _)))).pt
     (ae (xc (i:=5) wt.nd rfl (.inl rfl) ag wD)))
    (ae (jp (lD PySem.F.plainAttrs_list PySem.F.slot_list_insert PySem.F.type_list_insert vn (pv 3) (aa (pv 5) (aa (pv 4) ac))))))))
   (ae (al (pv 3)))),?_⟩
  refine⟨(by show 0≤sizeLine;decide),fun r hr0=>?_⟩
  have ner:ea≠r:=aQ he hr0
  refine⟨_,rfl,ea,rfl,⟨_,SqL.of (by rw[ap ner];exact he)⟩,er (K:=K) (a:=ea) (xs:=iV (nI ends)) (fun i σ H'=>ak H H'∧(∃v1 v2,σ=[some (.ref p),some (.int (m:Int)),some (.ref ea),some (.ref r),v1,v2])∧H' r=some (.lst (iV (nI (WL.sortTurn S m (ends.take i))))))
   ⟨aN hr0,⟨none,none,rfl⟩,af⟩ (fun i σ H' _ h=>SqL.of (h.1 _ _ he)) ?_ ?_⟩
  ·rintro i y σ H' hi ⟨hS,⟨v1,v2,rfl⟩,hrr⟩
   obtain⟨e,hie,rfl⟩:=lj hi
   have hen':e<S.pts.length:=hen e (List.mem_of_getElem? hie)
   have hp':=hp.same hS
   have hlt:(WL.sortTurn S m (ends.take i)).length≤i:=by
    rw[mF,List.length_take]
    omega
   have hil:i<ends.length:=(gsi hie).1
   have hrn:∀x∈WL.sortTurn S m (ends.take i),x<S.pts.length:=fun x hx=>hen x (List.mem_of_mem_take (wj hx))
   rw[vq hie]
   generalize WL.sortTurn S m (ends.take i)=ring at hrr hlt hrn
   obtain⟨bm,hbm⟩:=hp'.has hm
   obtain⟨be,hbe⟩:=hp'.has hen'
   have fin:∀(t:Nat),t≤ring.length→ring.take t++WL.bn S m e (ring.drop t)=WL.bn S m e ring→WL.bn S m e (ring.drop t)=e :: ring.drop t →
     zB (tBM K "list" tI (a8 3) (bD (a8 5) (bD (a8 4) fS))) { nx:=fun σ H'=>ak H H'∧(∃v1 v2,σ=[some (.ref p),some (.int (m:Int)),some (.ref ea),some (.ref r),v1,v2])∧H' r=some (.lst (iV (nI (WL.bn S m e ring)))),rt:=Q,bk:=fun σ H'=>my (a8 3) { nx:=fun _ H'=>Q .non H',rt:=Q } σ H',ct:=fun σ H'=>ak H H'∧(∃v1 v2,σ=[some (.ref p),some (.int (m:Int)),some (.ref ea),some (.ref r),v1,v2])∧H' r=some (.lst (iV (nI (WL.bn S m e ring)))) }
      [some (.ref p),some (.int (m:Int)),some (.ref ea),some (.ref r),some (.int (e:Int)),some (.int (t:Int))] H':=fun t ht h1 h2=>by
    refine⟨_,rfl,.inl ⟨rfl,_,SqL.of hrr⟩,_,rfl,_,rfl,r,_,_,_,rfl,rfl,hrr,by omega,by rw[bS];omega,by rw[bS];exact bF (by omega),?_⟩
    refine⟨aY hS hr0,⟨_,_,rfl⟩,?_⟩
    rw[af,Int.toNat_natCast,yK,yG,←h1,h2,xL]
    rfl
   refine⟨fun mm σ H2=>H2=H'∧∃t,mm=ring.length-t∧t≤ring.length∧σ=[some (.ref p),some (.int (m:Int)),some (.ref ea),some (.ref r),some (.int (e:Int)),some (.int (t:Int))]∧ring.take t++WL.bn S m e (ring.drop t)=WL.bn S m e ring,
    ⟨ring.length,rfl,0,rfl,Nat.zero_le _,rfl,rfl⟩,?_⟩
   rintro mm σ H2 ⟨rfl,t,rfl,ht,rfl,hins⟩
   refine⟨_,rfl,_,rfl,r,_,rfl,.inl (SqL.of hrr),_,_,rfl,rfl,_,rfl,aS (fun c=>?_) (fun c=>jL ?_)⟩
   ·have c:=of_decide_eq_true c
    rw[bS]at c
    have htl:t<ring.length:=by omega
    obtain⟨bt,hbt⟩:=hp'.has (hrn _ (List.getElem_mem htl))
    refine⟨_,rfl,_,rfl,p,_,_,_,rfl,rfl,SqL.of hp'.1,aA (j:=m) rfl (aP hbm),_,rfl,_,rfl,_,rfl,r,_,_,_,rfl,rfl,SqL.of hrr,aA (j:=t) rfl (kG htl),p,_,_,_,rfl,rfl,SqL.of hp'.1,aA (j:=ring[t]) rfl (aP hbt),
     _,rfl,_,rfl,p,_,_,_,rfl,rfl,SqL.of hp'.1,aA (j:=e) rfl (aP hbe),bm,bt,be,_,_,_,rfl,hp'.2.2 _ _ hbm,hp'.2.2 _ _ hbt,hp'.2.2 _ _ hbe,_,_,rfl,rfl,_,rfl,aS (fun c2=>?_) (fun c2=>?_)⟩
    ·have c2:=of_decide_eq_true c2
     refine⟨fun σ2 H3=>H3=H2∧σ2=[some (.ref p),some (.int (m:Int)),some (.ref ea),some (.ref r),some (.int (e:Int)),some (.int ((t+1:Nat):Int))],?_,?_⟩
     ·rintro σ2 H3 ⟨rfl,rfl⟩
      refine⟨ring.length-(t+1),by omega,rfl,t+1,rfl,htl,rfl,?_⟩
      rw[←hins]
      exact(Bc htl c2).symm
     ·refine⟨_,rfl,_,_,rfl,rfl,rfl,?_⟩
      rfl
    ·have c2:=aG c2
     exact fin t ht hins (wA htl c2)
   ·have c:=aG c
    rw[bS]at c
    exact fin t ht hins (pH (by omega))
  ·rintro σ H' ⟨hS,⟨v1,v2,rfl⟩,hrr⟩
   rw[bS,List.take_length]at hrr
   exact⟨_,rfl,k H' r hS hr0 hrr⟩
end
open PySem PySem.Spec PyProof.Rows L2 Wg Wx CM
open Gla (Pt)
theorem kn {l:List Nat}{i x:Nat}{q:Nat→Bool}(h:l[i]? = some x):(l.take (i+1)).filter q=if q x=true then (l.take i).filter q++[x] else (l.take i).filter q:=by
 rw[bY h,List.filter_append]
 split
 ·rename_i c
  rw[List.filter_cons_of_pos c]
  rfl
 ·rename_i c
  rw[List.filter_cons_of_neg c]
  exact List.append_nil _
theorem uk (l:List Nat)(i:Nat)(q:Nat→Bool):((l.take i).filter q).length≤l.length:=Nat.le_trans (List.length_filter_le _ _) (by rw[List.length_take];omega)
section
variable  {P:Program}{w:World}{K:Frag}{mg:Str→Option Value}{base:Heap}{C:Addr}
def D0 (S:Gla.Plan)(m:Nat)(ends:List Nat):List Nat:=WL.sortTurn S m (ends.filter fun e=>decide (m<e))++WL.sortTurn S m (ends.filter fun e=>decide (e<m))
def zX (K:Frag):Sp:=fun vs H Q _=>∃(p ea:Addr) (ps:List Addr) (S:Gla.Plan) (m:Nat) (ends:List Nat),vs=[.ref p,.int (m:Int),.ref ea]∧m6 K H p ps S∧m<S.pts.length∧H ea=some (.lst (iV (nI ends)))∧(∀x∈ends,x<S.pts.length)∧ends.length≤100000 ∧
 ∀(H':Hp) (r:Addr),ak H H'→H r=none→H' r=some (.lst (iV (nI (D0 S m ends))))→Q (.ref r) H'
theorem xH:aq ["points","middle","ends","higher","lower","end"] ["points","middle","ends"] (ah dI):=⟨rfl,rfl,rfl,by decide +kernel,rfl,by decide +kernel,by decide +kernel⟩
theorem Bw (F:Has K mg "ring_round" dI ["points","middle","ends"]) (C1:Cb P w K mg base 2 "sorted_by_turn" ["points","middle","ends"] (BS K)):Cb P w K mg base 3 "ring_round" ["points","middle","ends"] (zX K):=by
 refine F.cb xH (fun vs H Q E h=>?_) (fun f cdv A outer s H vs Q E hr h=>?_)
 ·obtain⟨p,ea,ps,S,m,ends,rfl,_⟩:=h
  rfl
 ·obtain⟨p,ea,ps,S,m,ends,rfl,hp,hm,he,hen,hel,k⟩:=h
  refine⟨_,ad (cv (i:=3) (own:=[("end",5)]) (tt:=fj (tOp (rI0 fun i j=>.bl (decide (j<i))) (a8 5) (a8 1))) rfl xH.nd rfl rfl (dD rfl rfl rfl (by decide +kernel)) (bQ (pv 2)) (bL (by show iG ["points","middle","ends","higher","lower","end"] (ah dI) _ _=true;decide +kernel))
    (fun _ _ _ _ _=>au (i:=5) xH.nd rfl (.inl rfl) (.inr rfl)) (fun _ _ _ _ _=>jh (aK d5 (pv 5) (pv 1) (aI _))) (fun _ _ _ _ _=>pv 5))
   (ad (cv (i:=4) (own:=[("end",5)]) (tt:=fj (tOp (rI0 fun i j=>.bl (decide (i<j))) (a8 5) (a8 1))) rfl xH.nd rfl rfl (dD rfl rfl rfl (by decide +kernel)) (bQ (pv 2)) (bL (by show iG ["points","middle","ends","higher","lower","end"] (ah dI) _ _=true;decide +kernel))
    (fun _ _ _ _ _=>au (i:=5) xH.nd rfl (.inl rfl) (.inr rfl)) (fun _ _ _ _ _=>jh (aK gq (pv 5) (pv 1) (aI _))) (fun _ _ _ _ _=>pv 5))
   (ae (al (aV xP (aF C1 hr (aa (pv 0) (aa (pv 1) (aa (pv 3) ac)))) (aF C1 hr (aa (pv 0) (aa (pv 1) (aa (pv 4) ac)))))))),?_⟩
  refine⟨_,rfl,ea,rfl,⟨_,SqL.of he⟩,fun D hD=>?_⟩
  refine hZ (K:=K) (a:=ea) (xs:=iV (nI ends)) (fun i H'=>ak H H'∧H' D=some (.lst (iV (nI ((ends.take i).filter fun e=>decide (m<e)))))) ⟨aN hD,af⟩ (fun i H' _ h=>SqL.of (h.1 _ _ he)) ?_ ?_
  ·rintro i y H' hi ⟨hS,hDl⟩
   obtain⟨e,hie,rfl⟩:=lj hi
   refine⟨rfl,_,rfl,_,rfl,_,_,rfl,rfl,_,rfl,?_⟩
   have ec:decide ((m:Int)<(e:Int))=decide (m<e):=by rw[decide_eq_decide];omega
   rw[ec]
   refine aS (fun c=>?_) (fun c=>?_)
   ·refine⟨_,rfl,_,hDl,?_,aY hS hD,?_⟩
    ·rw[bS]
     have:=uk ends i (fun e=>decide (m<e))
     exact bF (by omega)
    ·rw[af,kn hie,if_pos c,gp]
   ·refine⟨hS,?_⟩
    rw[kn hie,if_neg c]
    exact hDl
  rintro H1 ⟨s1,hD1⟩
  rw[bS,List.take_length]at hD1
  refine⟨_,rfl,ea,rfl,⟨_,SqL.of (s1 _ _ he)⟩,fun D2 hD2=>?_⟩
  refine hZ (K:=K) (a:=ea) (xs:=iV (nI ends)) (fun i H'=>ak H1 H'∧H' D2=some (.lst (iV (nI ((ends.take i).filter fun e=>decide (e<m)))))) ⟨aN hD2,af⟩ (fun i H' _ h=>SqL.of (h.1 _ _ (s1 _ _ he))) ?_ ?_
  ·rintro i y H' hi ⟨hS,hDl⟩
   obtain⟨e,hie,rfl⟩:=lj hi
   refine⟨rfl,_,rfl,_,rfl,_,_,rfl,rfl,_,rfl,?_⟩
   have ec:decide ((e:Int)<(m:Int))=decide (e<m):=by rw[decide_eq_decide];omega
   rw[ec]
   refine aS (fun c=>?_) (fun c=>?_)
   ·refine⟨_,rfl,_,hDl,?_,aY hS hD2,?_⟩
    ·rw[bS]
     have:=uk ends i (fun e=>decide (e<m))
     exact bF (by omega)
    ·rw[af,kn hie,if_pos c,gp]
   ·refine⟨hS,?_⟩
    rw[kn hie,if_neg c]
    exact hDl
  rintro H2 ⟨s2,hD22⟩
  rw[bS,List.take_length]at hD22
  have s12:=s1.trans s2
  have l1:(ends.filter fun e=>decide (m<e)).length≤ends.length:=List.length_filter_le _ _
  have l2:(ends.filter fun e=>decide (e<m)).length≤ends.length:=List.length_filter_le _ _
  refine⟨_,rfl,_,rfl,_,rfl,p,D,ps,S,m,_,rfl,hp.same s12,hm,s2 _ _ hD1,fun x hx=>hen x ((List.mem_filter.1 hx).1),by omega,fun H3 r1 s3 _ hr1=>?_⟩
  refine⟨_,rfl,_,rfl,_,rfl,p,D2,ps,S,m,_,rfl,hp.same (s12.trans s3),hm,s3 _ _ hD22,fun x hx=>hen x ((List.mem_filter.1 hx).1),by omega,fun H4 r2 s4 _ hr2=>?_⟩
  have s14:=s12.trans (s3.trans s4)
  refine⟨r1,r2,_,_,rfl,rfl,s4 _ _ hr1,hr2,?_,fun q hq=>?_⟩
  ·rw[bS,bS,mF,mF]
   exact Nat.le_of_lt (bF (by omega))
  ·refine k _ q (a5 s14 hq) (s14.free hq) ?_
   rw[af,←xL]
   rfl
theorem j5 (ring:Nat→List Nat)(e:Nat×Nat):∀n i j,j<n→(WL.seg ring e i n)[j]? = some (WL.aE ring e (i+j))
 |0,_,_,h=>absurd h (Nat.not_lt_zero _)
 |n+1,i,0,_=>rfl
 |n+1,i,j+1,h=>by
  show(WL.seg ring e (i+1) n)[j]? = _
  rw[j5 ring e n (i+1) j (by omega)]
  congr 2
  omega
theorem vL {l:List Nat}{x:Nat}(h:x∈l):atI (iV (nI l)) (((l.idxOf x:Nat):Int)-1)=some (.int (WL.bE l x:Int)):=by
 unfold WL.bE
 by_cases c:l.idxOf x=0
 ·rw[if_pos c,c]
  obtain⟨init,z,e⟩:=kr (fun q:l=[]=>by rw[q]at h;cases h)
  rw[e,gp,List.getLast?_concat]
  exact nE _ _
 ·rw[if_neg c]
  have hlt:l.idxOf x-1<l.length:=by
   have:=List.idxOf_lt_length_iff.2 h
   omega
  have ez:((l.idxOf x:Nat):Int)-1=((l.idxOf x-1:Nat):Int):=by omega
  rw[ez]
  rw[List.getD_eq_getElem?_getD,gge hlt]
  exact qp (kG hlt)
def Bu:Sp:=fun vs H Q _=>∃(R:Addr) (as:List Addr) (S:Gla.Plan) (u v:Nat),vs=[.ref R,.int (u:Int),.int (v:Int)]∧RW H R as (WL.aj S)∧as.length=S.pts.length∧S.pts.length≤100000∧WL.df S∧(WL.ab S).J u v ∧
 ∀(H':Hp) (c:Addr),ak H H'→H c=none→H' c=some (.lst (iV (nI (WL.rnd S (u,v)))))→Q (.ref c) H'
theorem qC:aq ["rings","first","second","corners","last","here","ring","onward"] ["rings","first","second"] (ah fG):=⟨rfl,rfl,rfl,by decide +kernel,rfl,by decide +kernel,by decide +kernel⟩
theorem sJ {S:Gla.Plan}(k:WL.df S){e:Nat×Nat}(he:(WL.ab S).J e.1 e.2):∀v∈WL.rnd S e,v<S.pts.length:=fun v hv=>by
 obtain⟨x,hx,rfl⟩:=WL.tG k.toKept he hv
 exact(WL.bh S k.toKept).lt (WL.fU k.toKept he hx)
theorem pO {S:Gla.Plan}(k:WL.df S){e:Nat×Nat}(he:(WL.ab S).J e.1 e.2):(WL.rnd S e).length≤S.pts.length:=by
 have h:=WL.bC (m:=List.range S.pts.length) (WL.kF k he) fun x hx=>List.mem_range.2 (sJ k he x hx)
 rw[List.length_range]at h
 exact h
theorem eN {S:Gla.Plan}(k:WL.Kept S){e:Nat×Nat}(he:(WL.ab S).J e.1 e.2):∀t,(WL.ab S).J (WL.aE (WL.aj S) e t).1 (WL.aE (WL.aj S) e t).2:=fun t =>
 WL.fU k he ((WL.dY k he).2 ⟨t,rfl⟩)
theorem Bt (F:Has K mg "walk_round" fG ["rings","first","second"]):Cb P w K mg base 1 "walk_round" ["rings","first","second"] Bu:=by
 refine F.cb qC (fun vs H Q E h=>?_) (fun f cdv A outer s H vs Q E hr h=>?_)
 ·obtain⟨R,as,S,u,v,rfl,_⟩:=h
  rfl
 ·obtain⟨R,as,S,u,v,rfl,hrw,hlen,hn,kp,hJ,k⟩:=h
  refine⟨_,ad (aB (i:=3) qC.nd rfl (.inl rfl) (d3 (aa (pv 1) ac)))
   (ad (aB (i:=4) qC.nd rfl (.inl rfl) (pv 1)) (ad (aB (i:=5) qC.nd rfl (.inl rfl) (pv 2))
   (ad (m8 PassesOwn.never (aK xJ (pv 5) (pv 1) (aI _))
    (ad (jp (lD PySem.F.plainAttrs_list PySem.F.slot_list_append PySem.F.type_list_append gR (pv 3) (aa (pv 5) ac)))
    (ad (aB (i:=6) qC.nd rfl (.inl rfl) (aw aU (pv 0) (pv 5) (fun _ _=>rfl)))
    (ad (aB (i:=7) qC.nd rfl (.inl rfl) (aw aU (pv 6) (aV eG (lD PySem.F.plainAttrs_list PySem.F.slot_list_index PySem.F.type_list_index vW (pv 6) (aa (pv 4) ac)) ag) (fun _ _=>rfl)))
    (ad (aB (i:=4) qC.nd rfl (.inl rfl) (pv 5)) (ae (aB (i:=5) qC.nd rfl (.inl rfl) (pv 7))))))))
   (ae (al (pv 3)))))),?_⟩
  have per:=WL.dj kp.toKept (e:=(u,v)) hJ
  have hNl:=pO kp (e:=(u,v)) hJ
  have hnd:=WL.kF kp (e:=(u,v)) hJ
  have hrnd:=per.rnd
  generalize hN:(WL.rnd S (u,v)).length=N at per hNl hrnd
  have g:=WL.bh S kp.toKept
  refine⟨_,rfl,(by show 1≤sizeLine;decide),fun c hc=>?_⟩
  refine⟨_,rfl,_,rfl,?_⟩
  refine⟨fun mm σ H'=>ak H H'∧∃t v6 v7,mm=N-t∧t<N∧σ=[some (.ref R),some (.int (u:Int)),some (.int (v:Int)),some (.ref c),some (.int ((WL.aE (WL.aj S) (u,v) t).1:Int)),some (.int ((WL.aE (WL.aj S) (u,v) t).2:Int)),v6,v7]∧H' c=some (.lst (iV (nI ((WL.seg (WL.aj S) (u,v) 0 (t+1)).map (·.1))))),
   ⟨N,aN hc,0,none,none,rfl,per.pos,rfl,af⟩,?_⟩
  rintro mm σ H' ⟨hS,t,v6,v7,rfl,ht,rfl,hcc⟩
  refine⟨_,rfl,_,rfl,rfl,_,rfl,aS (fun c1=>?_) (fun c1=>?_)⟩
  ·have c1:(WL.aE (WL.aj S) (u,v) t).2≠u:=fun z=>by
    rw[z,dqt rfl]at c1
    exact absurd c1 (by decide)
   have ht2:t+1<N:=by
    refine bcn fun z=>c1 ?_
    have e:t+1=N:=by omega
    have:=per.back
    rw[←e]at this
    have h2:=WL.dQ (WL.aj S) (u,v) t
    rw[this]at h2
    exact h2.symm
   have hJt:=eN kp.toKept (e:=(u,v)) hJ t
   generalize hxy:WL.aE (WL.aj S) (u,v) t=xy at c1 hJt
   obtain⟨x,y⟩:=xy
   have hy:y<S.pts.length:=(g.lt (g.symm hJt))
   obtain⟨b,hb⟩:∃b,as[y]? = some b:=⟨as[y]'(by omega),gge _⟩
   refine⟨fun σ' H'=>ak H H'∧∃t' v6 v7,t+1=t'∧t'<N∧σ'=[some (.ref R),some (.int (u:Int)),some (.int (v:Int)),some (.ref c),some (.int ((WL.aE (WL.aj S) (u,v) t').1:Int)),some (.int ((WL.aE (WL.aj S) (u,v) t').2:Int)),v6,v7]∧H' c=some (.lst (iV (nI ((WL.seg (WL.aj S) (u,v) 0 (t'+1)).map (·.1))))),?_,?_⟩
   ·rintro σ' H2 ⟨hS2,t',w6,w7,rfl,h2,h3,h4⟩
    exact⟨N-(t+1),by omega,hS2,t+1,w6,w7,rfl,h2,h3,h4⟩
   refine⟨_,rfl,.inl ⟨rfl,_,SqL.of hcc⟩,_,rfl,c,_,_,rfl,rfl,hcc,?_,?_⟩
   ·rw[bS,lmp,WL.cA]
    exact bF (by omega)
   have s2:ak H (upd H' c (.lst (iV (nI ((WL.seg (WL.aj S) (u,v) 0 (t+1)).map (·.1)))++[.int (y:Int)]))):=aY hS hc
   have hc2:(upd H' c (.lst (iV (nI ((WL.seg (WL.aj S) (u,v) 0 (t+1)).map (·.1)))++[.int (y:Int)]))) c=some (.lst (iV (nI ((WL.seg (WL.aj S) (u,v) 0 (t+1+1)).map (·.1))))):=by
    rw[af,WL.eK _ _ (t+1) 1 0,List.map_append]
    have e1:(WL.seg (WL.aj S) (u,v) (0+(t+1)) 1).map (·.1)=[y]:=by
     show [(WL.aE (WL.aj S) (u,v) (0+(t+1))).1]=[y]
     rw[Nat.zero_add,WL.dQ,hxy]
    rw[e1,gp]
   generalize upd H' c (.lst (iV (nI ((WL.seg (WL.aj S) (u,v) 0 (t+1)).map (·.1)))++[.int (y:Int)]))=H2 at s2 hc2
   have rw2:=hrw.same s2
   have hbr:=rw2.2 y b hb
   have hmem:x∈WL.aj S y:=(WL.cG kp.toKept).mem.2 (g.symm hJt)
   have hidx:=List.idxOf_lt_length_iff.2 hmem
   refine⟨_,rfl,_,rfl,R,_,_,_,rfl,rfl,SqL.of rw2.1,aA (j:=y) rfl (aP hb),?_⟩
   refine⟨_,rfl,_,rfl,.inl ⟨rfl,_,SqL.of hbr⟩,_,rfl,b,_,_,(WL.aj S y).idxOf x,_,rfl,rfl,SqL.of hbr,rfl,?_,kG hidx,?_,?_,_,_,rfl,rfl,b,_,_,_,rfl,rfl,SqL.of hbr,vL hmem,?_⟩
   ·rw[List.all_eq_true]
    intro z hz
    unfold iV nI at hz
    rw[List.mem_map]at hz
    obtain⟨q,_,rfl⟩:=hz
    rfl
   ·show(((WL.aj S y)[(WL.aj S y).idxOf x]:Int)==(x:Int))=true
    rw[List.getElem_idxOf hidx]
    exact beq_self_eq_true _
   ·intro i z hi hz
    obtain⟨q,hq,rfl⟩:=lj hz
    show((q:Int)==(x:Int))=false
    rw[beq_eq_false_iff_ne]
    intro hqx
    have hqx:q=x:=by omega
    subst hqx
    obtain⟨hil,hq⟩:=gsi hq
    have h9:=List.not_of_lt_findIdx (p:=fun z=>z==q) (xs:=WL.aj S y) hi
    rw[hq]at h9
    simp at h9
   refine⟨_,rfl,_,rfl,s2,t+1,some (.ref b),some (.int (WL.bE (WL.aj S y) x:Int)),rfl,ht2,?_,hc2⟩
   have e1:WL.aE (WL.aj S) (u,v) (t+1)=(y,WL.bE (WL.aj S y) x):=by
    rw[WL.fJ,hxy]
    rfl
   rw[e1]
   rfl
  ·have c1:(WL.aE (WL.aj S) (u,v) t).2=u:=bcn fun z=>c1 (by
    rw[dqf (fun y=>z (by have:=V.int.inj y;omega))]
    rfl)
   have e:t+1=N:=by
    refine bcn fun z=>?_
    have h0:(WL.rnd S (u,v))[0]? = some u:=by
     rw[hrnd,List.getElem?_map,j5 _ _ N 0 0 per.pos]
     rfl
    have h1:(WL.rnd S (u,v))[t+1]? = some u:=by
     rw[hrnd,List.getElem?_map,j5 _ _ N 0 (t+1) (by omega),Nat.zero_add]
     show some (WL.aE (WL.aj S) (u,v) (t+1)).1=_
     rw[WL.dQ,c1]
    obtain⟨l0,g0⟩:=gsi h0
    obtain⟨l1,g1⟩:=gsi h1
    exact List.pairwise_iff_getElem.1 hnd 0 (t+1) l0 l1 (by omega) (by rw[g0,g1])
   refine⟨_,rfl,k H' c hS hc ?_⟩
   rw[hcc,e,hrnd]
def lr (H:Hp)(r:Addr)(as ps:List Addr)(cs:List Nat):Prop:=H r=some (.lst (as.map V.ref))∧as.length=cs.length∧∀(i:Nat) (b:Addr) (x:Nat),as[i]? = some b→cs[i]? = some x→ps[x]? = some b
theorem lr.pl {H:Hp}{r p:Addr}{as ps:List Addr}{cs:List Nat}{S:Gla.Plan}(h:lr H r as ps cs)(hp:m6 K H p ps S):PL K H r (cs.map S.pt):=by
 obtain⟨h1,h2,h3⟩:=h
 refine⟨as,SqL.of h1,by rw[lmp,h2],fun i b q e1 e2=>?_⟩
 have hil:i<cs.length:=by rw[←h2];exact(gsi e1).1
 rw[List.getElem?_map,gge hil]at e2
 have e2:=osi e2
 rw[←e2]
 exact hp.2.2 _ b (h3 i b _ e1 (gge hil))
def zn (K:Frag):Sp:=fun vs H Q _=>∃(p c:Addr) (ps:List Addr) (S:Gla.Plan) (cs:List Nat),vs=[.ref p,.ref c]∧m6 K H p ps S∧H c=some (.lst (iV (nI cs)))∧(∀x∈cs,x<S.pts.length)∧cs.length≤100000 ∧
 ∀(H':Hp) (r:Addr) (as:List Addr),ak H H'→H r=none→lr H' r as ps cs→Q (.ref r) H'
theorem AJ:aq ["points","corners","corner"] ["points","corners"] (ah eW):=⟨rfl,rfl,rfl,by decide +kernel,rfl,by decide +kernel,by decide +kernel⟩
theorem Dm (F:Has K mg "points_at" eW ["points","corners"]):Cb P w K mg base 1 "points_at" ["points","corners"] (zn K):=by
 refine F.cb AJ (fun vs H Q E h=>?_) (fun f cdv A outer s H vs Q E hr h=>?_)
 ·obtain⟨p,c,ps,S,cs,rfl,_⟩:=h
  rfl
 ·obtain⟨p,c,ps,S,cs,rfl,hp,hc,hcn,hcl,k⟩:=h
  refine⟨_,ae (al (xC (own:=[("corner",2)]) (te:=tOp (vv K) (a8 0) (a8 2)) rfl AJ.nd (bQ (pv 1)) (bL (by show iG ["points","corners","corner"] (ah eW) _ _=true;decide +kernel))
   (fun _ _ _ _ _=>au (i:=2) AJ.nd rfl (.inl rfl)) (fun _ _ _ _ _=>eV) (fun _ _ _ _ _=>aw aU (pv 0) (pv 2) (fun _ _=>rfl)))),?_⟩
  refine⟨_,rfl,c,rfl,⟨_,SqL.of hc⟩,fun D hD=>?_⟩
  refine hZ (K:=K) (a:=c) (xs:=iV (nI cs)) (fun i H'=>∃as:List Addr,ak H H'∧H' D=some (.lst (as.map V.ref))∧as.length=i∧∀(j:Nat) (b:Addr) (x:Nat),as[j]? = some b→cs[j]? = some x→ps[x]? = some b)
   ⟨[],aN hD,af,rfl,fun j b x e=>by simp at e⟩ (fun i H' _ h=>by obtain⟨as,h1,_⟩:=h;exact SqL.of (h1 _ _ hc)) ?_ ?_
  ·rintro i y H' hi ⟨as,hS,hDl,hal,hat⟩
   obtain⟨x,hix,rfl⟩:=lj hi
   have hil:i<cs.length:=(gsi hix).1
   obtain⟨b,hb⟩:=hp.has (hcn x (List.mem_of_getElem? hix))
   refine⟨rfl,nY (eA ?_)⟩
   refine⟨_,rfl,_,rfl,p,_,_,_,rfl,rfl,SqL.of (hp.same hS).1,aA (j:=x) rfl (aP hb),_,hDl,?_,as++[b],aY hS hD,?_,?_,?_⟩
   ·rw[lmp]
    exact bF (by omega)
   ·rw[af,List.map_append]
    rfl
   ·rw[List.length_append,hal]
    rfl
   ·intro j q z e1 e2
    by_cases cj:j<as.length
    ·rw[List.getElem?_append_left cj]at e1
     exact hat j q z e1 e2
    ·have hj:=(gsi e1).1
     rw[List.length_append]at hj
     have ej:j=as.length:=by simp at hj;omega
     subst ej
     rw[List.getElem?_append_right (nlr _),Nat.sub_self]at e1
     have e1:b=q:=osi e1
     rw[hal,hix]at e2
     have e2:=osi e2
     rw[←e1,←e2]
     exact hb
  rintro H' ⟨as,hS,hDl,hal,hat⟩
  rw[bS]at hal
  exact k H' D as hS hD ⟨hDl,hal,hat⟩
end
open PySem PySem.Spec PyProof.Rows L2 Wg Wx CM
open Gla (Pt)
def prF (S:Gla.Plan)(x:Nat×Nat):Int:=((S.pt x.1).x:Int)*((S.pt x.2).y:Int)-((S.pt x.2).x:Int)*((S.pt x.1).y:Int)
theorem tX (S:Gla.Plan)(x:Nat×Nat):prF S x=crs (S.pt x.1) (S.pt x.2):=by
 unfold prF crs
 rw[Int.mul_comm ((S.pt x.2).x:Int)]
theorem mV (S:Gla.Plan)(c:Nat):∀(r:List Nat) (a:Nat),((((a :: r).zip (r++[c])).map (prF S)).foldr (fun (a b:Int)=>a+b) 0)=dh (S.pt a) (r.map S.pt)+crs (S.pt ((a :: r).getLast (by simp))) (S.pt c)
 |[],a=>by
  show prF S (a,c)+0=0+crs (S.pt a) (S.pt c)
  rw[tX]
  show crs (S.pt a) (S.pt c)+0=_
  omega
 |b :: r,a=>by
  show prF S (a,b)+((((b :: r).zip (r++[c])).map (prF S)).foldr (fun (a b:Int)=>a+b) 0)=(crs (S.pt a) (S.pt b)+dh (S.pt b) (r.map S.pt))+crs (S.pt ((a :: b :: r).getLast (by simp))) (S.pt c)
  have e:(a :: b :: r).getLast (by simp)=(b :: r).getLast (by simp):=List.getLast_cons (by simp)
  rw[mV S c r b,tX,e]
  show crs (S.pt a) (S.pt b)+_=_
  omega
theorem qJ {S:Gla.Plan}{a:Nat}{r:List Nat}{init:List Pt}{l:Pt}(h:(a :: r).map S.pt=init++[l]):l=S.pt ((a :: r).getLast (by simp)):=by
 have e1:((a :: r).map S.pt).getLast? = some l:=by rw[h,List.getLast?_concat]
 rw[List.getLast?_map,List.getLast?_eq_some_getLast (by simp)]at e1
 exact(osi e1).symm
theorem yo (S:Gla.Plan){cs:List Nat}{init:List Pt}{l:Pt}(h:cs.map S.pt=init++[l]):dh l (cs.map S.pt)=Gla.twiceArea S cs:=by
 cases cs with
 |nil=>simp at h
 |cons a r =>
  have e:Gla.twiceArea S (a :: r)=((((a :: r).zip (r++[a])).map (prF S)).foldr (fun (a b:Int)=>a+b) 0):=rfl
  rw[e,mV,qJ h]
  show crs _ (S.pt a)+dh (S.pt a) (r.map S.pt)=_
  omega
def prB (S:Gla.Plan)(z:Pt)(x:Nat×Nat):Bool :=
 let p:=S.pt x.1
 let q:=S.pt x.2
 (decide (p.y≤z.y)&&(decide (z.y<q.y)&&decide (0<Gla.turn p q z)))||(decide (q.y≤z.y)&&(decide (z.y<p.y)&&decide (Gla.turn p q z<0)))
theorem u6 (p q z:Pt):Gla.turn q p z=- Gla.turn p q z:=by
 unfold Gla.turn Gla.dx Gla.dy
 grind
theorem ul (S:Gla.Plan)(z:Pt)(x:Nat×Nat):prB S z x=cU (S.pt x.1) (S.pt x.2) z:=by
 unfold prB cU
 have e:=u6 (S.pt x.1) (S.pt x.2) z
 rw[e,Bool.eq_iff_iff]
 simp only[Bool.or_eq_true,Bool.and_eq_true,decide_eq_true_eq]
 split
 ·rename_i h
  rw[decide_eq_true_eq]
  constructor
  ·rintro(h1|h1)
   ·exact h1.2.2
   ·omega
  ·exact fun h1=>.inl ⟨h.1,h.2,h1⟩
 ·rename_i h
  split
  ·rename_i h2
   rw[decide_eq_true_eq]
   constructor
   ·rintro(h1|h1)
    ·omega
    ·have:=h1.2.2
     omega
   ·exact fun h1=>.inr ⟨h2.1,h2.2,by omega⟩
  ·rename_i h2
   constructor
   ·rintro(h1|h1)
    ·omega
    ·omega
   ·intro h1
    cases h1
def qe (n:Nat):Bool:=decide (n % 2=1)
theorem xM (n:Nat):qe (n+1)=!qe n:=by
 unfold qe
 rw[←decide_not,decide_eq_decide]
 omega
theorem qL {α:Type}(q:α→Bool)(x:α)(l:List α):qe ((x :: l).filter q).length=(q x^^qe (l.filter q).length):=by
 by_cases c:q x=true
 ·rw[List.filter_cons_of_pos c,List.length_cons,xM,c,Bool.true_xor]
 ·rw[List.filter_cons_of_neg c,cC c,Bool.false_xor]
theorem qH (S:Gla.Plan)(z:Pt)(c:Nat):∀(r:List Nat) (a:Nat),qe (((a :: r).zip (r++[c])).filter (prB S z)).length=(fc z (S.pt a) (r.map S.pt)^^cU (S.pt ((a :: r).getLast (by simp))) (S.pt c) z)
 |[],a=>by
  show qe (((a,c) :: []).filter (prB S z)).length=(false^^cU (S.pt a) (S.pt c) z)
  rw[qL,ul]
  show(_^^false)=_
  rw[Bool.xor_false,Bool.false_xor]
 |b :: r,a=>by
  show qe (((a,b) :: ((b :: r).zip (r++[c]))).filter (prB S z)).length=((cU (S.pt a) (S.pt b) z^^fc z (S.pt b) (r.map S.pt))^^cU (S.pt ((a :: b :: r).getLast (by simp))) (S.pt c) z)
  have e:(a :: b :: r).getLast (by simp)=(b :: r).getLast (by simp):=List.getLast_cons (by simp)
  rw[qL,qH S z c r b,ul,e,Bool.xor_assoc]
theorem BO (S:Gla.Plan)(z:Pt){cs:List Nat}{init:List Pt}{l:Pt}(h:cs.map S.pt=init++[l]):fc z l (cs.map S.pt)=Gla.insideOf S cs z:=by
 cases cs with
 |nil=>simp at h
 |cons a r =>
  have e:Gla.insideOf S (a :: r) z=qe (((a :: r).zip (r++[a])).filter (prB S z)).length:=rfl
  rw[e,qH,qJ h]
  show(cU _ (S.pt a) z^^fc z (S.pt a) (r.map S.pt))=_
  rw[Bool.xor_comm]
theorem vk {S:Gla.Plan}(k:WL.Kept S){e:Nat×Nat}(he:(WL.ab S).J e.1 e.2):(WL.orb S e).Nodup:=by
 have per:=WL.dj k he
 rw[per.orb]
 rw[List.Nodup,List.pairwise_iff_getElem]
 intro i j hi hj hij
 rw[WL.cA]at hi hj
 have e1:=(gsi (j5 (WL.aj S) e _ 0 i hi)).2
 have e2:=(gsi (j5 (WL.aj S) e _ 0 j hj)).2
 rw[e1,e2]
 exact per.dist (0+i) (0+j) (by omega) (by omega)
theorem pF {S:Gla.Plan}(k:WL.Kept S):∀{D:List (Nat×Nat)},(∀x∈D,(WL.ab S).J x.1 x.2)→(WL.bI S D).1.Nodup:=by
 intro D
 generalize hn:D.length=n
 induction n generalizing D with
 |zero =>
  intro _
  have:D=[]:=List.length_eq_zero_iff.1 hn
  subst this
  exact List.nodup_nil
 |succ n ih =>
  intro hD
  rcases List.eq_nil_or_concat D with h|⟨D',e,h⟩
  ·subst h;simp at hn
  ·rw[List.concat_eq_append]at h
   subst h
   have hD':∀x∈D',(WL.ab S).J x.1 x.2:=fun x hx=>hD x (by simp[hx])
   have he:=hD e (by simp)
   have ok:=WL.k9 k hD'
   have nd:=ih (by simpa using hn) hD'
   rw[WL.gn]
   unfold WL.ka
   by_cases hw:e∈(WL.bI S D').1
   ·rw[if_pos hw]
    exact nd
   ·rw[if_neg hw]
    show((WL.bI S D').1++WL.orb S e).Nodup
    rw[List.nodup_append]
    refine⟨nd,vk k he,fun x hx y hy hxy=>hw ?_⟩
    subst hxy
    obtain⟨e',he',hx'⟩:=(ok.walked x).1 hx
    exact(ok.walked e).2 ⟨e',he',WL.fL k (hD' e' he') hx' (WL.em k he hy)⟩
theorem mH {S:Gla.Plan}(k:WL.Kept S){D:List (Nat×Nat)}(hD:∀x∈D,(WL.ab S).J x.1 x.2):(WL.bI S D).1.length≤2*S.lines.length:=by
 rw[←WL.lm]
 refine WL.bC (pF k hD) fun x hx=>?_
 obtain⟨e,he,hxe⟩:=((WL.k9 k hD).walked x).1 hx
 exact WL.jc.2 (WL.fU k (hD e he) hxe)
def bef (cs:List Nat)(k:Nat):Nat:=if k=0 then cs.getLast?.getD 0 else cs.getD (k-1) 0
def tE (cs:List Nat)(k:Nat):List (Nat×Nat):=(List.range k).map fun i=>(bef cs i,cs.getD i 0)
theorem uI (cs:List Nat)(k:Nat):tE cs (k+1)=tE cs k++[(bef cs k,cs.getD k 0)]:=by
 unfold tE
 rw[List.range_succ,List.map_append]
 rfl
theorem qj {cs:List Nat}{j:Nat}(h:j<cs.length):(WL.prs cs)[j]? = some (cs.getD j 0,cs.getD (if j+1=cs.length then 0 else j+1) 0):=by
 unfold WL.prs
 have hl:(cs.drop 1++cs.take 1).length=cs.length:=by
  rw[List.length_append,List.length_drop,List.length_take]
  omega
 rw[gge (by rw[List.length_zip,hl];omega),List.getElem_zip]
 congr 2
 ·rw[List.getD_eq_getElem?_getD,gge h]
  rfl
 ·split
  ·rename_i c
   rw[List.getElem_append_right (by rw[List.length_drop];omega)]
   rw[List.getElem_take,List.getD_eq_getElem?_getD,gge (by omega)]
   simp only[List.length_drop,Option.getD_some]
   congr 1
   omega
  ·rename_i c
   rw[List.getElem_append_left (by rw[List.length_drop];omega),List.getElem_drop,List.getD_eq_getElem?_getD,gge (by omega)]
   simp only[Option.getD_some]
   congr 1
   omega
theorem si (cs:List Nat):(WL.prs cs).length=cs.length:=by
 unfold WL.prs
 rw[List.length_zip,List.length_append,List.length_drop,List.length_take]
 omega
theorem oz {cs:List Nat}:cs.getLast?.getD 0=cs.getD (cs.length-1) 0:=by
 rw[List.getLast?_eq_getElem?,List.getD_eq_getElem?_getD]
theorem wI (cs:List Nat)(x:Nat×Nat):x∈tE cs cs.length↔x∈WL.prs cs:=by
 unfold tE
 rw[List.mem_map,List.mem_iff_getElem?]
 constructor
 ·rintro⟨i,hi,rfl⟩
  have hi:=List.mem_range.1 hi
  by_cases c:i=0
  ·subst c
   refine⟨cs.length-1,?_⟩
   rw[qj (by omega),if_pos (by omega)]
   unfold bef
   rw[if_pos rfl,oz]
  ·refine⟨i-1,?_⟩
   rw[qj (by omega),if_neg (by omega),Nat.sub_add_cancel (by omega)]
   unfold bef
   rw[if_neg c]
 ·rintro⟨j,hj⟩
  have hjl:=(gsi hj).1
  rw[si]at hjl
  rw[qj hjl]at hj
  have hj:=osi hj
  by_cases c:j+1=cs.length
  ·refine⟨0,List.mem_range.2 (by omega),?_⟩
   rw[←hj,if_pos c]
   unfold bef
   rw[if_pos rfl,oz]
   congr 2
   omega
  ·refine⟨j+1,List.mem_range.2 (by omega),?_⟩
   rw[←hj,if_neg c]
   unfold bef
   rw[if_neg (by omega),Nat.add_sub_cancel]
theorem LD.same_mem {kvs:List (List L2.Key×V)}{L L':List (Nat×Nat)}(h:LD kvs L)(e:∀x,x∈L↔x∈L'):LD kvs L':=fun x=>by
 rw[h x,decide_eq_decide]
 exact e x
theorem zd {cs:List Nat}{k:Nat}(h:k<cs.length):atI (iV (nI cs)) ((k:Int)-1)=some (.int (bef cs k:Int)):=by
 unfold bef
 by_cases c:k=0
 ·subst c
  rw[if_pos rfl]
  obtain⟨init,z,e⟩:=kr (fun q:cs=[]=>by rw[q]at h;simp at h)
  rw[e,gp,List.getLast?_concat]
  exact nE _ _
 ·rw[if_neg c]
  have ez:((k:Int)-1)=((k-1:Nat):Int):=by omega
  rw[ez,List.getD_eq_getElem?_getD,gge (by omega)]
  exact qp (kG (by omega))
open PySem PySem.Spec PyProof.Rows L2 Wg Wx CM
open Gla (Pt)
def sR (S:Gla.Plan)(i:Nat):List (Nat×Nat):=(List.range i).flatMap fun i=>(WL.aj S i).map fun j=>(i,j)
def dTo (S:Gla.Plan)(i j:Nat):List (Nat×Nat):=sR S i++((WL.aj S i).take j).map fun j=>(i,j)
theorem xB (S:Gla.Plan)(i:Nat):dTo S i 0=sR S i:=by
 unfold dTo
 rw[List.take_zero]
 exact List.append_nil _
theorem ww (S:Gla.Plan)(i:Nat):dTo S i (WL.aj S i).length=sR S (i+1):=by
 unfold dTo sR
 rw[List.take_length,List.range_succ,List.flatMap_append]
 congr 1
 show _=_++[]
 rw[List.append_nil]
theorem xr {S:Gla.Plan}{i j x:Nat}(h:(WL.aj S i)[j]? = some x):dTo S i (j+1)=dTo S i j++[(i,x)]:=by
 unfold dTo
 rw[bY h,List.map_append,List.append_assoc]
 rfl
theorem Dq {S:Gla.Plan}(k:WL.Kept S){i j:Nat}:∀x∈dTo S i j,(WL.ab S).J x.1 x.2:=by
 have r:=WL.cG k
 intro x hx
 unfold dTo sR at hx
 rw[List.mem_append,List.mem_flatMap,List.mem_map]at hx
 rcases hx with⟨q,_,hq⟩|⟨y,hy,rfl⟩
 ·rw[List.mem_map]at hq
  obtain⟨y,hy,rfl⟩:=hq
  exact r.mem.1 hy
 ·exact r.mem.1 (List.mem_of_mem_take hy)
theorem ub {S:Gla.Plan}(k:WL.Kept S):∀{D:List (Nat×Nat)},(∀x∈D,(WL.ab S).J x.1 x.2)→(WL.bI S D).2.length≤(WL.bI S D).1.length:=by
 intro D
 generalize hn:D.length=n
 induction n generalizing D with
 |zero =>
  intro _
  have:D=[]:=List.length_eq_zero_iff.1 hn
  subst this
  exact nlr _
 |succ n ih =>
  intro hD
  rcases List.eq_nil_or_concat D with h|⟨D',e,h⟩
  ·subst h;simp at hn
  ·rw[List.concat_eq_append]at h
   subst h
   have hD':∀x∈D',(WL.ab S).J x.1 x.2:=fun x hx=>hD x (by simp[hx])
   have he:=hD e (by simp)
   have le:=ih (by simpa using hn) hD'
   rw[WL.gn]
   unfold WL.ka
   split
   ·exact le
   ·have ho:0<(WL.orb S e).length:=List.length_pos_of_mem (WL.hG k he)
    show(if _ then _ else _:List (List Nat)).length≤((WL.bI S D').1++WL.orb S e).length
    rw[List.length_append]
    split
    ·rw[List.length_append,List.length_singleton]
     omega
    ·omega
def dO (H:Hp)(O:Addr)(os:List Addr)(L:List (List Nat)):Prop:=H O=some (.lst (os.map V.ref))∧os.length=L.length∧∀(j:Nat) (b:Addr) (l:List Nat),os[j]? = some b→L[j]? = some l→b≠O∧H b=some (.lst (iV (nI l)))
theorem dO.same {H H':Hp}{O:Addr}{os:List Addr}{L:List (List Nat)}(h:dO H O os L)(s:ak H H'):dO H' O os L:=⟨s _ _ h.1,h.2.1,fun j b l e1 e2=>⟨(h.2.2 j b l e1 e2).1,s _ _ (h.2.2 j b l e1 e2).2⟩⟩
theorem dO.updW {H:Hp}{O W:Addr}{os:List Addr}{L:List (List Nat)}{q q':List (List L2.Key×V)}(h:dO H O os L)(hW:H W=some (.dT q)):dO (upd H W (.dT q')) O os L:=by
 refine⟨?_,h.2.1,fun j b l e1 e2=>⟨(h.2.2 j b l e1 e2).1,?_⟩⟩
 ·rw[ap (fun z=>by have:=h.1;rw[z,hW]at this;cases this)]
  exact h.1
 ·have hb:=(h.2.2 j b l e1 e2).2
  rw[ap (fun z=>by rw[z,hW]at hb;cases hb)]
  exact hb
theorem dO.push {H:Hp}{O c:Addr}{os:List Addr}{L:List (List Nat)}{l:List Nat}(h:dO H O os L)(hc:H c=some (.lst (iV (nI l))))(nc:c≠O):dO (upd H O (.lst (os.map V.ref++[.ref c]))) O (os++[c]) (L++[l]):=by
 refine⟨by rw[af,List.map_append];rfl,by rw[List.length_append,List.length_append,h.2.1];rfl,fun j b l' e1 e2=>?_⟩
 by_cases cj:j<os.length
 ·rw[List.getElem?_append_left cj]at e1
  rw[List.getElem?_append_left (by rw[←h.2.1];exact cj)]at e2
  obtain⟨n1,n2⟩:=h.2.2 j b l' e1 e2
  exact⟨n1,by rw[ap n1];exact n2⟩
 ·have hj:=(gsi e1).1
  rw[List.length_append]at hj
  have ej:j=os.length:=by simp at hj;omega
  subst ej
  rw[List.getElem?_append_right (nlr _),Nat.sub_self]at e1
  rw[h.2.1,List.getElem?_append_right (nlr _),Nat.sub_self]at e2
  have e1:c=b:=osi e1
  have e2:l=l':=osi e2
  subst e1 e2
  exact⟨nc,by rw[ap nc];exact hc⟩
structure OSt (H H':Hp)(W O:Addr)(S:Gla.Plan)(D:List (Nat×Nat))(kvs:List (List L2.Key×V))(os:List Addr):Prop where
 sm:ak H H'
 w:H' W=some (.dT kvs)
 ld:LD kvs (WL.bI S D).1
 ln:kvs.length≤(WL.bI S D).1.length
 o:dO H' O os (WL.bI S D).2
theorem OSt.same {H H' H'':Hp}{W O:Addr}{S:Gla.Plan}{D:List (Nat×Nat)}{kvs:List (List L2.Key×V)}{os:List Addr}(h:OSt H H' W O S D kvs os)(s:ak H' H''):OSt H H'' W O S D kvs os:=⟨h.sm.trans s,s _ _ h.w,h.ld,h.ln,h.o.same s⟩
section
variable  {P:Program}{w:World}{K:Frag}{mg:Str→Option Value}{base:Heap}{C:Addr}
def zH (C:Addr):Sp:=fun vs H Q _=>∃(a:Addr) (S:Gla.Plan),vs=[.ref a]∧bz C H a S∧SB S∧WL.df S∧∀(H':Hp) (O:Addr) (os:List Addr),ak H H'→dO H' O os (WL.dt S)→Q (.ref O) H'
theorem g7:aq ["drawing","points","rings","walked","outlines","first","ring","second","corners","k","corner","ends"] ["drawing"] (ah dS):=⟨rfl,rfl,rfl,by decide +kernel,rfl,by decide +kernel,by decide +kernel⟩
theorem A1 (F:Has K mg "outlines_of" dS ["drawing"]) (T:DCl K mg C) (ge:mg "enumerate"=none) (CN:Cb P w K mg base 1 "neighbours_of" ["drawing"] (A8 C)) (CR:Cb P w K mg base 3 "ring_round" ["points","middle","ends"] (zX K)) (CW:Cb P w K mg base 1 "walk_round" ["rings","first","second"] Bu) (CA:Cb P w K mg base 1 "twice_area" ["corners"] (xK K)) (CP:Cb P w K mg base 1 "points_at" ["points","corners"] (zn K)) :
  Cb P w K mg base 4 "outlines_of" ["drawing"] (zH C):=by
 refine F.cb g7 (fun vs H Q E h=>?_) (fun f cdv A outer s H vs Q E hr h=>?_)
 ·obtain⟨a,S,rfl,_⟩:=h
  rfl
 ·obtain⟨a,S,rfl,hd,sb,kp,k⟩:=h
  obtain⟨dx,p,l,m,ps,ls,ms,o⟩:=hd.op (K:=K)
  have hr1:bu 1 _:=hr.mono (by decide)
  have hu:=hr.units
  have np:=sb.np
  have nl:=sb.nl
  have kk:=kp.toKept
  have hlo:gj S:=fun l hl=>kk.line hl
  refine⟨_,ad (aB (i:=1) g7.nd rfl (.inr rfl) (aR (pv 0) rfl))
   (ad (cv (i:=2) (own:=[("k",9),("ends",11)]) (g:=g2 K 9 11) (te:=lJ (zX K) [] E0 (bD (a8 1) (bD (a8 9) (bD (a8 11) fS)))) rfl g7.nd rfl rfl (dD rfl rfl rfl (by decide +kernel)) (dU rfl ge (aa (aF CN hr1 (aa (pv 0) ac)) ac)) (bL (by show iG ["drawing","points","rings","walked","outlines","first","ring","second","corners","k","corner","ends"] (ah dS) _ _=true;decide +kernel))
    (fun _ _ _ _ _=>cS (n:=2) rfl (aL (au (i:=9) g7.nd rfl (.inl rfl) (.inr rfl)) (aL (au (i:=11) g7.nd rfl (.inl rfl) (.inr rfl)) bW))) (fun _ _ _ _ _=>eV) (fun _ _ _ _ _=>aF CR hr (aa (pv 1) (aa (pv 9) (aa (pv 11) ac)))))
   (ad (aB (i:=3) g7.nd rfl (.inl rfl) rP)
   (ad (aB (i:=4) g7.nd rfl (.inl rfl) (d3 ac))
   (ad (bw PassesOwn.never rfl (dU rfl ge (aa (pv 2) ac)) (cS (n:=2) rfl (aL (au (i:=5) g7.nd rfl (.inl rfl)) (aL (au (i:=6) g7.nd rfl (.inl rfl)) bW)))
    (ae (bw PassesOwn.never rfl (bQ (pv 6)) (au (i:=7) g7.nd rfl (.inl rfl))
     (ae (a6 (sK (oY (Nat.lt_of_le_of_lt (Nat.add_le_add_left (by decide) _) hu) (bA (aa (pv 5) (aa (pv 7) ac))) (pv 3)))
      (ad (aB (i:=8) g7.nd rfl (.inl rfl) (aF CW hr1 (aa (pv 2) (aa (pv 5) (aa (pv 7) ac)))))
      (ad (bw PassesOwn.never rfl (dU rfl ge (aa (pv 8) ac)) (cS (n:=2) rfl (aL (au (i:=9) g7.nd rfl (.inl rfl)) (aL (au (i:=10) g7.nd rfl (.inl rfl)) bW)))
       (ae (qw (Nat.lt_of_le_of_lt (Nat.add_le_add_left (by decide) _) hu) (pv 3) (bA (aa (aw aU (pv 8) (aV eG (pv 9) ag) (fun _ _=>rfl)) (aa (pv 10) ac))) el rfl)))
      (ae (a6 (aK d5 (aF CA hr1 (aa (aF CP hr1 (aa (pv 1) (aa (pv 8) ac))) ac)) ag (aI _))
       (ae (jp (lD PySem.F.plainAttrs_list PySem.F.slot_list_append PySem.F.type_list_append gR (pv 4) (aa (pv 8) ac)))) aJ))))
      aJ)))))
   (ae (al (pv 4))))))),?_⟩
  refine⟨_,rfl,a,C,dx,_,_,rfl,o.at_,T.cl,T.nP,iH,?_⟩
  refine⟨_,rfl,a,S,rfl,hd,sb,hlo,fun H1 N nas hN hNl=>?_⟩
  have s1:=hN.sm
  have rw1:=hN.rw
  refine⟨N,_,rfl,SqL.of rw1.1,fun D hD=>?_⟩
  refine yQ (K:=K) (a:=N) (xs:=nas.map V.ref) (fun i H'=>∃as:List Addr,ak H1 H'∧H' D=some (.lst (as.map V.ref))∧as.length=i∧∀(j:Nat) (b:Addr),as[j]? = some b→b≠D∧H' b=some (.lst (iV (nI (WL.aj S j)))))
   ⟨[],aN hD,af,rfl,fun j b e=>by simp at e⟩ (fun i H' _ h=>by obtain⟨as,h1,_⟩:=h;exact SqL.of (h1 _ _ rw1.1)) ?_ ?_
  ·rintro i y T' H' hi hT ⟨as,hS,hDl,hal,hat⟩
   obtain⟨b,hb,rfl⟩:=cq hi
   have hil:i<S.pts.length:=by rw[←hNl];exact(gsi hb).1
   have s2:ak H' (upd H' T' (.tup [.int (i:Nat),.ref b])):=aN hT
   refine⟨T',_,rfl,SqT.of af,rfl,_,_,rfl,_,_,rfl,rfl,rfl,nY (eA ?_)⟩
   generalize upd H' T' (.tup [.int (i:Nat),.ref b])=H2 at s2
   have s12:=hS.trans s2
   refine⟨_,rfl,_,rfl,_,rfl,p,b,ps,S,i,S.near i,rfl,(o.same (s1.trans s12)).ptsL sb,hil,(rw1.same s12).2 i b hb,mS hlo i hil,?_,fun H3 r s3 hr0 hr3=>?_⟩
   ·have h9:(S.near i).length≤S.lines.length:=List.length_filterMap_le _ _
    omega
   have hD3:=s3 _ _ (s2 _ _ hDl)
   have nr:r≠D:=fun z=>by rw[z,s2 _ _ hDl]at hr0;cases hr0
   refine⟨as.map V.ref,hD3,by rw[lmp];exact bF (by omega),as++[r],aY (s12.trans s3) hD,?_,by rw[List.length_append,hal];rfl,fun j c e=>?_⟩
   ·rw[af,List.map_append]
    rfl
   ·by_cases cj:j<as.length
    ·rw[List.getElem?_append_left cj]at e
     obtain⟨n1,n2⟩:=hat j c e
     exact⟨n1,by rw[ap n1];exact s3 _ _ (s2 _ _ n2)⟩
    ·have hj:=(gsi e).1
     rw[List.length_append]at hj
     have ej:j=as.length:=by simp at hj;omega
     subst ej
     rw[List.getElem?_append_right (nlr _),Nat.sub_self]at e
     have e:r=c:=osi e
     subst e
     refine⟨nr,?_⟩
     rw[ap nr,hal]
     exact hr3
  rintro H2 ⟨as,hS2,hDl,hal,hat⟩
  rw[lmp,hNl]at hal
  have rwR:RW H2 D as (WL.aj S):=⟨hDl,fun i b e=>(hat i b e).2⟩
  have sH2:=s1.trans hS2
  clear hat hDl hS2
  refine fun W hW=>?_
  refine⟨(by show 0≤sizeLine;decide),fun O hO=>?_⟩
  have nWO:W≠O:=fun z=>by rw[z,af]at hO;cases hO
  have hO2:H2 O=none:=by rw[ap nWO.symm]at hO;exact hO
  have z0:OSt H2 (upd (upd H2 W (.dT [])) O (.lst [])) W O S (sR S 0) [] []:=⟨aY (aN hW) hO2,by rw[ap nWO];exact af,fun x=>rfl,Nat.zero_le _,af,rfl,fun j b l e=>by simp at e⟩
  generalize upd (upd H2 W (.dT [])) O (.lst [])=H3 at z0
  refine⟨_,rfl,D,_,rfl,SqL.of (rwR.same z0.sm).1,di (K:=K) (a:=D) (xs:=as.map V.ref) (fun i σ H'=>(∃v5 v6 v7 v8 v9 v10,σ=[some (.ref a),some (.ref p),some (.ref D),some (.ref W),some (.ref O),v5,v6,v7,v8,v9,v10,none])∧∃kvs os,OSt H2 H' W O S (sR S i) kvs os)
   ⟨⟨none,none,none,none,none,none,rfl⟩,[],[],z0⟩ (fun i σ H' _ h=>by obtain⟨_,kvs,os,h⟩:=h;exact SqL.of (rwR.same h.sm).1) ?_ ?_⟩
  ·rintro i y T' σ H' hi hT ⟨⟨v5,v6,v7,v8,v9,v10,rfl⟩,kvs0,os0,z⟩
   obtain⟨b,hb,rfl⟩:=cq hi
   have hil:i<S.pts.length:=by rw[←hal];exact(gsi hb).1
   have s2:ak H' (upd H' T' (.tup [.int (i:Nat),.ref b])):=aN hT
   refine⟨T',_,rfl,SqT.of af,rfl,_,_,rfl,_,_,rfl,rfl,?_⟩
   have z1:=z.same s2
   generalize upd H' T' (.tup [.int (i:Nat),.ref b])=H4 at z1
   rw[←xB]at z1
   refine⟨_,rfl,b,rfl,⟨_,SqL.of ((rwR.same z1.sm).2 i b hb)⟩,er (K:=K) (a:=b) (xs:=iV (nI (WL.aj S i))) (fun j σ H'=>(∃v7 v8 v9 v10,σ=[some (.ref a),some (.ref p),some (.ref D),some (.ref W),some (.ref O),some (.int (i:Int)),some (.ref b),v7,v8,v9,v10,none])∧∃kvs os,OSt H2 H' W O S (dTo S i j) kvs os)
    ⟨⟨_,_,_,_,rfl⟩,_,_,z1⟩ (fun j σ H' _ h=>by obtain⟨_,kvs,os,h⟩:=h;exact SqL.of ((rwR.same h.sm).2 i b hb)) ?_ ?_⟩
   ·rintro j y σ H5 hj ⟨⟨w7,w8,w9,w10,rfl⟩,kvs,os,z5⟩
    obtain⟨x,hjx,rfl⟩:=lj hj
    have hJ:(WL.ab S).J i x:=(WL.cG kk).mem.1 (List.mem_of_getElem? hjx)
    have hDJ:=Dq kk (i:=i) (j:=j)
    have hwl:=mH kk hDJ
    have hol:=ub kk hDJ
    have e1:WL.bI S (dTo S i (j+1))=WL.ka S (WL.bI S (dTo S i j)) (i,x):=by rw[xr hjx,WL.gn]
    refine⟨_,rfl,_,rfl,(by show 2≤sizeLine;decide),fun q hq=>?_⟩
    have s6:ak H5 (upd H5 q (.tup [.int (i:Int),.int (x:Int)])):=aN hq
    have z6:=z5.same s6
    refine⟨_,rfl,W,_,rfl,l9.t (k:=lk (i,x)) z6.w af,_,rfl,?_⟩
    generalize upd H5 q (.tup [.int (i:Int),.int (x:Int)])=H6 at z6
    rw[z6.ld]
    refine aS (fun c=>?_) (fun c=>?_)
    ·have c:(i,x)∉(WL.bI S (dTo S i j)).1:=fun z=>by
      rw[dqt z]at c
      exact absurd c (by decide)
     have e2:WL.bI S (dTo S i (j+1))=((WL.bI S (dTo S i j)).1++WL.orb S (i,x),if 0<Gla.twiceArea S (WL.rnd S (i,x)) then (WL.bI S (dTo S i j)).2++[WL.rnd S (i,x)] else (WL.bI S (dTo S i j)).2):=by
      rw[e1]
      unfold WL.ka
      rw[if_neg c]
     refine⟨_,rfl,_,rfl,_,rfl,D,as,S,i,x,rfl,rwR.same z6.sm,hal,np,kp,hJ,fun H7 c7 s7 hc6 hc7=>?_⟩
     have z7:=z6.same s7
     have ncO:c7≠O:=(aQ z6.o.1 hc6).symm
     have ncW:c7≠W:=(aQ z6.w hc6).symm
     have hlen:=pO kp (e:=(i,x)) hJ
     have hcn:=sJ kp (e:=(i,x)) hJ
     have hprs:=WL.ir kk (e:=(i,x)) hJ
     have hol2:(WL.orb S (i,x)).length=(WL.rnd S (i,x)).length:=WL.cA _ _ _ _
     obtain⟨tl,htl⟩:=WL.nv kk (e:=(i,x)) hJ
     have hne:WL.rnd S (i,x)≠[]:=by rw[htl];simp
     clear htl
     generalize hcs:WL.rnd S (i,x)=cs at hc7 hlen hcn hprs hol2 hne e2
     have zsm:=z7.sm
     have zw:=z7.w
     have zld:=z7.ld
     have zln:=z7.ln
     have zo:=z7.o
     generalize WL.bI S (dTo S i j)=st at c e2 hwl hol zld zln zo
     obtain⟨st1,st2⟩:=st
     have hwl:st1.length≤2*S.lines.length:=hwl
     have hol:st2.length≤st1.length:=hol
     have zld:LD kvs st1:=zld
     have zln:kvs.length≤st1.length:=zln
     have zo:dO H7 O os st2:=zo
     refine⟨_,rfl,c7,_,rfl,SqL.of hc7,di (K:=K) (a:=c7) (xs:=iV (nI cs)) (fun t σ H'=>(∃v9 v10,σ=[some (.ref a),some (.ref p),some (.ref D),some (.ref W),some (.ref O),some (.int (i:Int)),some (.ref b),some (.int (x:Int)),some (.ref c7),v9,v10,none])∧ak H2 H'∧H' c7=some (.lst (iV (nI cs)))∧(∃kv,H' W=some (.dT kv)∧LD kv (st1++tE cs t)∧kv.length≤st1.length+t)∧dO H' O os st2)
      ⟨⟨_,_,rfl⟩,zsm,hc7,⟨kvs,zw,zld.same_mem (fun y=>by rw[show st1++tE cs 0=st1 from List.append_nil _]),zln⟩,zo⟩ (fun t σ H' _ h=>SqL.of h.2.2.1) ?_ ?_⟩
     ·rintro t y T2 σ H8 ht hT2 ⟨⟨u9,u10,rfl⟩,sm8,hc8,⟨kv,hw8,ld8,ln8⟩,o8⟩
      obtain⟨cx,htx,rfl⟩:=lj ht
      have htl:t<cs.length:=(gsi htx).1
      have ecx:cs.getD t 0=cx:=by rw[List.getD_eq_getElem?_getD,htx];rfl
      refine⟨T2,_,rfl,SqT.of af,rfl,_,_,rfl,_,_,rfl,rfl,?_⟩
      have s9:ak H8 (upd H8 T2 (.tup [.int (t:Nat),.int (cx:Int)])):=aN hT2
      generalize upd H8 T2 (.tup [.int (t:Nat),.int (cx:Int)])=H9 at s9
      refine⟨_,rfl,_,rfl,_,rfl,_,_,rfl,rfl,c7,_,_,_,rfl,rfl,SqL.of (s9 _ _ hc8),zd htl,_,rfl,(by show 2≤sizeLine;decide),fun q2 hq2=>?_⟩
      have s10:ak H9 (upd H9 q2 (.tup [.int (bef cs t:Int),.int (cx:Int)])):=aN hq2
      have s8:=s9.trans s10
      refine⟨W,_,rfl,qd.t (k:=lk (bef cs t,cx)) (s8 _ _ hw8) af (bF (by omega)),?_⟩
      generalize upd H9 q2 (.tup [.int (bef cs t:Int),.int (cx:Int)])=H10 at s10 s8
      refine⟨⟨_,_,rfl⟩,aY (sm8.trans s8) hW,by rw[ap ncW];exact s8 _ _ hc8,⟨_,af,?_,?_⟩,(o8.same s8).updW (s8 _ _ hw8)⟩
      ·rw[uI,ecx,←List.append_assoc]
       exact ld8.put _ _
      ·have:=gw kv (lk (bef cs t,cx)) (.bl true)
       omega
     ·rintro σ H8 ⟨⟨u9,u10,rfl⟩,sm8,hc8,⟨kv,hw8,ld8,ln8⟩,o8⟩
      rw[bS]at ld8 ln8
      have ld9:LD kv (st1++WL.orb S (i,x)):=ld8.same_mem fun y=>by
       rw[List.mem_append,List.mem_append,wI,hprs]
      have hsm:ak H H8:=sH2.trans sm8
      obtain⟨init,lz,einit⟩:=kr (show cs.map S.pt≠[] by simpa using hne)
      refine⟨_,rfl,_,rfl,p,c7,ps,S,cs,rfl,(o.same hsm).ptsL sb,hc8,hcn,by omega,fun H9 r as9 s9 _ hsh=>?_⟩
      refine⟨r,_,init,lz,rfl,hsh.pl ((o.same (hsm.trans s9)).ptsL sb),einit,?_⟩
      rw[yo S einit]
      refine⟨_,_,rfl,rfl,_,rfl,aS (fun c9=>?_) (fun c9=>?_)⟩
      ·have c9:=of_decide_eq_true c9
       have o9:=o8.same s9
       refine⟨_,rfl,.inl ⟨rfl,_,SqL.of o9.1⟩,_,rfl,O,_,_,rfl,rfl,o9.1,?_,?_⟩
       ·rw[lmp,o9.2.1]
        exact bF (by have:st2.length≤st1.length:=hol;have:st1.length≤2*S.lines.length:=hwl;omega)
       ·refine⟨⟨_,_,_,_,rfl⟩,kv,os++[c7],aY (sm8.trans s9) hO2,?_,?_,?_,?_⟩
        ·rw[ap nWO]
         exact s9 _ _ hw8
        ·rw[e2]
         exact ld9
        ·rw[e2]
         show kv.length≤(st1++WL.orb S (i,x)).length
         rw[List.length_append,hol2]
         exact ln8
        ·rw[e2]
         show dO _ O (os++[c7]) (if 0<Gla.twiceArea S cs then st2++[cs] else st2)
         rw[if_pos c9]
         exact o9.push (s9 _ _ hc8) ncO
      ·have c9:=aG c9
       refine⟨⟨_,_,_,_,rfl⟩,kv,os,sm8.trans s9,s9 _ _ hw8,?_,?_,?_⟩
       ·rw[e2]
        exact ld9
       ·rw[e2]
        show kv.length≤(st1++WL.orb S (i,x)).length
        rw[List.length_append,hol2]
        exact ln8
       ·rw[e2]
        show dO _ O os (if 0<Gla.twiceArea S cs then st2++[cs] else st2)
        rw[if_neg c9]
        exact o8.same s9
    ·have c:(i,x)∈(WL.bI S (dTo S i j)).1:=bcn fun z=>c (by rw[dqf z];rfl)
     have e2:WL.bI S (dTo S i (j+1))=WL.bI S (dTo S i j):=by
      rw[e1]
      unfold WL.ka
      rw[if_pos c]
     exact⟨⟨_,_,_,_,rfl⟩,kvs,os,z6.sm,z6.w,by rw[e2];exact z6.ld,by rw[e2];exact z6.ln,by rw[e2];exact z6.o⟩
   ·rintro σ H5 ⟨⟨w7,w8,w9,w10,rfl⟩,kvs,os,z5⟩
    rw[bS,ww]at z5
    exact⟨⟨_,_,_,_,_,_,rfl⟩,kvs,os,z5⟩
  ·rintro σ H' ⟨⟨v5,v6,v7,v8,v9,v10,rfl⟩,kvs,os,z⟩
   rw[lmp,hal]at z
   exact⟨_,rfl,k H' O os (sH2.trans z.sm) z.o⟩
end
open PySem PySem.Spec PyProof.Rows L2 Wg Wx CM
open Gla (Pt)
abbrev eF:Stmt:=jn vI 0
def uZ (f d o:V):List (Str×V):=eX "outlines" o (eX "drawing" d (eX "fault" f []))
theorem zT {f d o:V}:(uZ f d o).lookup ("fault" : Str)=some f:=by
 unfold uZ
 rw[aH,if_neg (by decide +kernel),aH,if_neg (by decide +kernel),aH,if_pos rfl]
theorem D7 {f d o:V}:(uZ f d o).lookup ("drawing" : Str)=some d:=by
 unfold uZ
 rw[aH,if_neg (by decide +kernel),aH,if_pos rfl]
structure VCl (K:Frag)(mg:Str→Option Value)(C:Addr):Prop where
 cl:Cls K C
 nF:eu K C "fault"
 nD:eu K C "drawing"
 nO:eu K C "outlines"
 mgC:mg "Verdict"=some (.ref C)
def xS (CV:Addr)(H:Hp)(v:Addr)(fo:Option (Int×Int))(dv ov:V):Prop:=∃dx fv,H v=some (.ins CV dx (uZ fv dv ov))∧kH fo fv H
theorem kH.same {o:Option (Int×Int)}{v:V}{H H':Hp}(h:kH o v H)(s:ak H H'):kH o v H':=by
 cases o with
 |none=>exact h
 |some x =>
  obtain⟨q,e,h⟩:=h
  exact⟨q,e,s _ _ h⟩
theorem zc {d:Addr}{o:Obj}{kvs:List (L2.Key×V)}{g:TG}{tt:TT}{te:TE}{vs:List Nat}{σ:L2.St}{H1:Hp}{D:Addr}{Qd:Hp→Prop}(Pv:Nat→Hp→Prop)(h0:Pv 0 (upd H1 D (.lst [])))(hl:∀i H,i≤kvs.length→Pv i H→H d=some (.frz o (.dK kvs)))
  (hs:∀i k v H,kvs[i]? = some (k,v)→Pv i H→g (kV k) (bX σ vs) H fun σ2 H2=>bX σ2 vs=bX σ vs∧tt σ2 H2 fun b H3 =>
   if b=true then te σ2 H3 fun y H4=>∃acc,H4 D=some (.lst acc)∧acc.length<sizeLine∧Pv (i+1) (upd H4 D (.lst (acc++[y]))) else Pv (i+1) H3) (hd:∀H,Pv kvs.length H→Qd H) :
  ∃W:Nat→Nat→Hp→Prop,(∃m,W 0 m (upd H1 D (.lst [])))∧∀i m H,W i m H →
   ((Itk d o kvs).stop i H∧Qd H)∨((Itk d o kvs).go i H∧∃Nx:Hp→Prop,(∀H',Nx H'→∃m',m'<m∧W (i+1) m' H')∧∀x H',(Itk d o kvs).yld i H x H'→g x (bX σ vs) H' fun σ2 H2=>bX σ2 vs=bX σ vs∧tt σ2 H2 fun b H3 =>
    if b=true then te σ2 H3 fun y H4=>∃acc,H4 D=some (.lst acc)∧acc.length<sizeLine∧Nx (upd H4 D (.lst (acc++[y]))) else Nx H3):=by
 refine⟨fun i m H=>m=kvs.length-i∧i≤kvs.length∧Pv i H,⟨kvs.length,by simp,Nat.zero_le _,h0⟩,?_⟩
 rintro i m H ⟨rfl,hi,p⟩
 have q:=hl i H hi p
 by_cases hlt:i<kvs.length
 ·refine .inr ⟨⟨q,hlt⟩,Pv (i+1),fun H' p'=>⟨kvs.length-(i+1),by omega,rfl,hlt,p'⟩,fun x H' y=>?_⟩
  obtain⟨e,k,v,y,rfl⟩:=y
  subst e
  exact hs i k v _ y p
 ·have e:i=kvs.length:=by omega
  subst e
  exact .inl ⟨⟨q,nlr _⟩,hd H p⟩
def kd (l:List Nat):List (L2.Key×V):=l.map fun (h:Nat)=>((Sum.inl (h:Int):L2.Key),V.bl true)
theorem zQ (l:List Nat)(h:Nat):(fM (kd l) (Sum.inl (h:Int))).isSome=decide (h∈l):=by
 rw[←gO,Bool.eq_iff_iff,decide_eq_true_eq,List.any_eq_true]
 constructor
 ·rintro⟨x,hx,e⟩
  unfold kd at hx
  rw[List.mem_map]at hx
  obtain⟨y,hy,rfl⟩:=hx
  have e:=Sum.inl.inj (of_decide_eq_true e)
  have:y=h:=by omega
  rw[←this]
  exact hy
 ·intro hh
  refine⟨(Sum.inl (h:Int),.bl true),?_,dqt rfl⟩
  unfold kd
  exact List.mem_map.2 ⟨h,hh,rfl⟩
theorem Bk {l:List Nat}{h:Nat}(hh:h∉l):iR (kd l) (Sum.inl (h:Int)) (.bl true)=kd (l++[h]):=by
 unfold iR
 rw[gO,zQ,dqf hh,if_neg (by decide)]
 unfold kd
 rw[List.map_append]
 rfl
theorem pB (l:List Nat):(kd l).length=l.length:=by unfold kd;rw[lmp]
section
variable  {P:Program}{w:World}{K:Frag}{mg:Str→Option Value}{base:Heap}{C CV:Addr}
def z8 (C:Addr):Sp:=fun vs H Q _=>∃(x dx:Addr) (f d o:V),vs=[.ref x,f,d,o]∧H x=some (.ins C dx []) ∧
 ∀H':Hp,H' x=some (.ins C dx (uZ f d o))→(∀b u,H b=some u→b≠x→H' b=some u)→Q .non H'
theorem DU:aq ["self","fault","drawing","outlines"] ["self","fault","drawing","outlines"] (ah eF):=⟨rfl,rfl,rfl,by decide +kernel,rfl,by decide +kernel,by decide +kernel⟩
theorem Ad (F:pP K CV "Verdict.__init__" eF ["self","fault","drawing","outlines"]) (T:VCl K mg CV):Ci P w K mg base 1 CV ["self","fault","drawing","outlines"] (z8 CV):=by
 refine F.ci DU (fun vs H Q E h=>?_) (fun f cdv A outer s H vs Q E hr h=>?_)
 ·obtain⟨x,dx,f,d,o,rfl,_⟩:=h
  rfl
 ·obtain⟨x,dx,f,d,o,rfl,hx,k⟩:=h
  refine⟨_,ad (iW (pv 0) (pv 1) rfl) (ad (iW (pv 0) (pv 2) rfl) (ae (iW (pv 0) (pv 3) rfl))),?_⟩
  refine⟨_,rfl,_,rfl,x,CV,dx,_,rfl,hx,T.cl,T.nF,(by show 0<1000;decide),?_⟩
  refine⟨_,rfl,_,rfl,x,CV,dx,_,rfl,af,T.cl,T.nD,(Nat.lt_of_le_of_lt (cV (n:=0) (nlr 0)) (by decide)),?_⟩
  refine⟨_,rfl,_,rfl,x,CV,dx,_,rfl,af,T.cl,T.nO,(Nat.lt_of_le_of_lt (cV (cV (n:=0) (nlr 0))) (by decide)),?_⟩
  refine k _ af fun b u e hb=>?_
  rw[ap hb,ap hb,ap hb]
  exact e
def l8 (H:Hp)(D:Addr)(bs ps:List Addr)(L:List (List Nat)):Prop:=H D=some (.lst (bs.map V.ref))∧bs.length=L.length∧∀(j:Nat) (b:Addr) (l:List Nat),bs[j]? = some b→L[j]? = some l→b≠D∧∃as,lr H b as ps l
theorem lr.same {H H':Hp}{r:Addr}{as ps:List Addr}{cs:List Nat}(h:lr H r as ps cs)(s:ak H H'):lr H' r as ps cs:=⟨s _ _ h.1,h.2.1,h.2.2⟩
theorem l8.same {H H':Hp}{D:Addr}{bs ps:List Addr}{L:List (List Nat)}(h:l8 H D bs ps L)(s:ak H H'):l8 H' D bs ps L:=⟨s _ _ h.1,h.2.1,fun j b l e1 e2=>⟨(h.2.2 j b l e1 e2).1,by obtain⟨as,q⟩:=(h.2.2 j b l e1 e2).2;exact⟨as,q.same s⟩⟩⟩
def Cr (K:Frag):Sp:=fun vs H Q _=>∃(ma s p:Addr) (bs ps:List Addr) (L:List (List Nat)) (S:Gla.Plan) (z:Pt) (h:Nat) (hh:h<L.length),vs=[.ref ma,.ref s]∧cH K H ma z∧m6 K H p ps S∧l8 H s bs ps L∧(∀l∈L,l≠[])∧Gla.insideOf S L[h] z=true∧(∀j (hj:j<L.length),j<h→Gla.insideOf S L[j] z=false)∧∀H':Hp,ak H H'→Q (.int (h:Int)) H'
theorem A4:aq ["mark","shapes","k","shape"] ["mark","shapes"] (ah gx):=⟨rfl,rfl,rfl,by decide +kernel,rfl,by decide +kernel,by decide +kernel⟩
theorem zh (F:Has K mg "holder_of" gx ["mark","shapes"]) (ge:mg "enumerate"=none) (C1:Cb P w K mg base 3 "is_inside" ["corners","r"] (B1 K)):Cb P w K mg base 4 "holder_of" ["mark","shapes"] (Cr K):=by
 refine F.cb A4 (fun vs H Q E h=>?_) (fun f cdv A outer s H vs Q E hr h=>?_)
 ·obtain⟨ma,s,p,bs,ps,L,S,z,h,hh,rfl,_⟩:=h
  rfl
 ·obtain⟨ma,sa,p,bs,ps,L,S,z,h,hh,rfl,hz,hp,hs,hne,hin,hno,k⟩:=h
  refine⟨_,ad (bw PassesOwn.never rfl (dU rfl ge (aa (pv 1) ac)) (cS (n:=2) rfl (aL (au (i:=2) A4.nd rfl (.inl rfl)) (aL (au (i:=3) A4.nd rfl (.inl rfl)) bW)))
    (ae (a6 (cI (aF C1 hr (aa (pv 3) (aa (pv 0) ac)))) (ae (al (pv 2))) aJ)))
   (ae (al bc)),?_⟩
  refine⟨_,rfl,sa,_,rfl,SqL.of hs.1,di (K:=K) (a:=sa) (xs:=bs.map V.ref) (fun i σ H'=>ak H H'∧i≤h∧∃v1 v2,σ=[some (.ref ma),some (.ref sa),v1,v2])
   ⟨ak.refl H,Nat.zero_le _,none,none,rfl⟩ (fun i σ H' _ q=>SqL.of (q.1 _ _ hs.1)) ?_ ?_⟩
  ·rintro i y T' σ H' hi hT ⟨hS,hih,v1,v2,rfl⟩
   obtain⟨b,hb,rfl⟩:=cq hi
   have hil:i<L.length:=by rw[←hs.2.1];exact(gsi hb).1
   have s2:ak H (upd H' T' (.tup [.int (i:Nat),.ref b])):=a5 hS hT
   refine⟨T',_,rfl,SqT.of af,rfl,_,_,rfl,_,_,rfl,rfl,?_⟩
   generalize upd H' T' (.tup [.int (i:Nat),.ref b])=H2 at s2
   obtain⟨_,as,hsh⟩:=(hs.same s2).2.2 i b L[i] hb (gge hil)
   have hl0:=hne _ (List.getElem_mem hil)
   obtain⟨init,lz,einit⟩:=kr (show L[i].map S.pt≠[] by simpa using hl0)
   refine⟨_,rfl,_,rfl,b,ma,_,init,lz,z,rfl,hsh.pl (hp.same s2),einit,hz.same s2,?_⟩
   rw[BO S z einit]
   refine⟨_,rfl,aS (fun c=>?_) (fun c=>?_)⟩
   ·have e:i=h:=by
     refine bcn fun q=>?_
     rw[hno i hil (by omega)]at c
     exact absurd c (by decide)
    subst e
    exact⟨_,rfl,k H2 s2⟩
   ·refine⟨s2,?_,_,_,rfl⟩
    have e:i≠h:=fun q=>by
     subst q
     exact c hin
    omega
  ·rintro σ H' ⟨hS,hih,_⟩
   rw[lmp,hs.2.1]at hih
   omega
end
open PySem PySem.Spec PyProof.Rows L2 Wg Wx CM
open Gla (Pt)
def o12 (S:Gla.Plan):Option (Int×Int):=jv 12 (me S) (Gla.twice S S.outlines 0 [] S.marks)
def o13 (S:Gla.Plan):Option (Int×Int):=if S.marks.length<S.outlines.length then some (13,me S S.marks.length) else none
def eS (S:Gla.Plan):Option (Int×Int):=lc (o12 S) (o13 S)
def t6 (H:Hp)(ov:V)(S:Gla.Plan):Prop:=∃(ol:Addr) (osl:List Addr),ov=.ref ol∧H ol=some (.lst (osl.map V.ref))∧osl.length=S.marks.length∧∀(i:Nat) (b:Addr) (m:Gla.Mark),osl[i]? = some b→S.marks[i]? = some m→∃l,S.among S.outlines m.at_=some l∧H b=some (.lst (iV (nI l)))
structure HF (S:Gla.Plan)(hf:Nat→Nat):Prop where
 lt:∀i,i<S.marks.length→hf i<(WL.dt S).length
 am:∀i (hi:i<S.marks.length),S.among S.outlines S.marks[i].at_=(WL.dt S)[hf i]?
 ins:∀i (hi:i<S.marks.length) (hh:hf i<(WL.dt S).length),Gla.insideOf S (WL.dt S)[hf i] S.marks[i].at_=true
 no:∀i (hi:i<S.marks.length) (j:Nat) (hj:j<(WL.dt S).length),j<hf i→Gla.insideOf S (WL.dt S)[j] S.marks[i].at_=false
theorem Dd {S:Gla.Plan}(k:WL.df S)(hm:∀m∈S.marks,Gla.clear S m.at_=true):∃hf,HF S hf:=by
 have ex:∀i,∃h,∀(hi:i<S.marks.length),∃(hh:h<(WL.dt S).length),S.among S.outlines S.marks[i].at_=some (WL.dt S)[h]∧Gla.insideOf S (WL.dt S)[h] S.marks[i].at_=true∧∀j (hj:j<(WL.dt S).length),Gla.insideOf S (WL.dt S)[j] S.marks[i].at_=true→j=h:=fun i=>by
  by_cases hi:i<S.marks.length
  ·obtain⟨h,hh,h1,h2,h3⟩:=WL.Ba k (hm _ (List.getElem_mem hi))
   exact⟨h,fun _=>⟨hh,h1,h2,h3⟩⟩
  ·exact⟨0,fun h=>absurd h hi⟩
 refine⟨fun i=>Classical.choose (ex i),fun i hi=>?_,fun i hi=>?_,fun i hi hh=>?_,fun i hi j hj hlt=>?_⟩
 ·obtain⟨hh,_⟩:=Classical.choose_spec (ex i) hi
  exact hh
 ·obtain⟨hh,h1,_⟩:=Classical.choose_spec (ex i) hi
  rw[h1,gge hh]
 ·obtain⟨hh,_,h2,_⟩:=Classical.choose_spec (ex i) hi
  exact h2
 ·obtain⟨hh,_,_,h3⟩:=Classical.choose_spec (ex i) hi
  refine cC fun z=>?_
  have:=h3 j hj z
  omega
theorem HF.eq_iff {S:Gla.Plan}{hf:Nat→Nat}(k:WL.Kept S)(h:HF S hf){i j:Nat}(hi:i<S.marks.length)(hj:j<S.marks.length):S.among S.outlines S.marks[i].at_=S.among S.outlines S.marks[j].at_↔hf i=hf j:=by
 rw[h.am i hi,h.am j hj]
 constructor
 ·intro e
  have l1:=h.lt i hi
  have l2:=h.lt j hj
  rw[gge l1,gge l2]at e
  have e:=osi e
  rcases Nat.lt_trichotomy (hf i) (hf j) with c|c|c
  ·exact absurd e (List.pairwise_iff_getElem.1 (WL.hX k) _ _ l1 l2 c)
  ·exact c
  ·exact absurd e.symm (List.pairwise_iff_getElem.1 (WL.hX k) _ _ l2 l1 c)
 ·intro e
  rw[e]
def gZ (hf:Nat→Nat)(k:Nat):List Nat:=(List.range k).map hf
theorem vb (hf:Nat→Nat)(k:Nat):gZ hf (k+1)=gZ hf k++[hf k]:=by
 unfold gZ
 rw[List.range_succ,List.map_append]
 rfl
theorem kq (hf:Nat→Nat)(k:Nat):(gZ hf k).length=k:=by
 unfold gZ
 rw[lmp,List.length_range]
theorem rZ {S:Gla.Plan}{hf:Nat→Nat}(k:WL.Kept S)(h:HF S hf){i:Nat}(hi:i<S.marks.length):((((S.marks.take i).map fun (m:Gla.Mark)=>S.among S.outlines m.at_).reverse++[]).contains (S.among S.outlines S.marks[i].at_))=decide (hf i∈gZ hf i):=by
 rw[List.append_nil,Bool.eq_iff_iff,List.contains_iff_mem,decide_eq_true_eq,List.mem_reverse,List.mem_map]
 unfold gZ
 rw[List.mem_map]
 constructor
 ·rintro⟨m,hm,e⟩
  rw[List.mem_take_iff_getElem]at hm
  obtain⟨j,hj,rfl⟩:=hm
  exact⟨j,List.mem_range.2 (by omega),(h.eq_iff k (by omega) hi).1 e⟩
 ·rintro⟨j,hj,e⟩
  have hj:=List.mem_range.1 hj
  refine⟨S.marks[j]'(by omega),List.mem_take_iff_getElem.2 ⟨j,by omega,rfl⟩,(h.eq_iff k (by omega) hi).2 e⟩
section
variable  {P:Program}{w:World}{K:Frag}{mg:Str→Option Value}{base:Heap}{C CV:Addr}
def Cw (C CV:Addr):Sp:=fun vs H Q _=>∃(a O:Addr) (os:List Addr) (S:Gla.Plan),vs=[.ref a,.ref O]∧bz C H a S∧SB S∧WL.df S∧(∀m∈S.marks,Gla.clear S m.at_=true)∧dO H O os (WL.dt S)∧∀(H':Hp) (v:Addr) (ov:V),ak H H'→xS CV H' v (eS S) (.ref a) ov→(eS S=none→t6 H' ov S)→Q (.ref v) H'
theorem pW:aq ["drawing","outlines","shapes","marked","k","mark","holder","outline"] ["drawing","outlines"] (ah cP):=⟨rfl,rfl,rfl,by decide +kernel,rfl,by decide +kernel,by decide +kernel⟩
theorem BL (F:Has K mg "judge_marks" cP ["drawing","outlines"]) (T:DCl K mg C) (TV:VCl K mg CV) (ge:mg "enumerate"=none) (gl:mg "len"=none) (CI:Ci P w K mg base 1 CV ["self","fault","drawing","outlines"] (z8 CV)) (CP:Cb P w K mg base 1 "points_at" ["points","corners"] (zn K)) (CH:Cb P w K mg base 4 "holder_of" ["mark","shapes"] (Cr K))
  (CM1:Cm P w K mg base 3 C "place_of_mark" ["self","k"] (wT C)) (CE:Cm P w K mg base 4 C "place_of_end" ["self"] (BI C)):Cb P w K mg base 5 "judge_marks" ["drawing","outlines"] (Cw C CV):=by
 refine F.cb pW (fun vs H Q E h=>?_) (fun f cdv A outer s H vs Q E hr h=>?_)
 ·obtain⟨a,O,os,S,rfl,_⟩:=h
  rfl
 ·obtain⟨a,O,os,S,rfl,hd,sb,kp,hclear,hO,k⟩:=h
  obtain⟨dx,p,l,m,ps,ls,ms,o⟩:=hd.op (K:=K)
  have hr1:bu 1 _:=hr.mono (by decide)
  have hr2:bu 2 _:=hr.mono (by decide)
  have hr3:bu 3 _:=hr.mono (by decide)
  have hu:=hr.units
  have kk:=kp.toKept
  have np:=sb.np
  have nl:=sb.nl
  have nm:=sb.nm
  obtain⟨hf,hF⟩:=Dd kp hclear
  have hol:(WL.dt S).length≤2*S.lines.length:=Nat.le_trans (ub kk fun x hx=>(WL.br kk).1 hx) (mH kk fun x hx=>(WL.br kk).1 hx)
  refine⟨_,ad (cv (i:=2) (own:=[("outline",7)]) (te:=lJ (zn K) [] E0 (bD (xw K (a8 0) "points") (bD (a8 7) fS))) rfl pW.nd rfl rfl (dD rfl rfl rfl (by decide +kernel)) (bQ (pv 1)) (bL (by show iG ["drawing","outlines","shapes","marked","k","mark","holder","outline"] (ah cP) _ _=true;decide +kernel))
    (fun _ _ _ _ _=>au (i:=7) pW.nd rfl (.inl rfl) (.inr rfl)) (fun _ _ _ _ _=>eV) (fun _ _ _ _ _=>aF CP hr1 (aa (aR (pv 0) rfl) (aa (pv 7) ac))))
   (ad (aB (i:=3) pW.nd rfl (.inl rfl) xO)
   (ad (bw PassesOwn.never rfl (dU rfl ge (aa (aR (pv 0) rfl) ac)) (cS (n:=2) rfl (aL (au (i:=4) pW.nd rfl (.inl rfl)) (aL (au (i:=5) pW.nd rfl (.inl rfl)) bW)))
    (ad (aB (i:=6) pW.nd rfl (.inl rfl) (aF CH hr (aa (pv 5) (aa (pv 2) ac))))
    (ad (a6 (sK (zU (Nat.lt_of_le_of_lt (Nat.add_le_add_left (by decide) _) hu) (pv 6) (pv 3))) (ae (al (oF CI hr2 TV.mgC (aa (bA (aa ag (aa (g9 (pv 0) T.cl CM1 hr3 (aa (pv 4) ac)) ac))) (aa (pv 0) (aa (d3 ac) ac)))))) aJ)
    (ae (qw (Nat.lt_of_le_of_lt (Nat.add_le_add_left (by decide) _) hu) (pv 3) (pv 6) el rfl)))))
   (ad (a6 (aK gq (aW uN (by rfl) gl PySem.boot_len (aa (pv 3) ac)) (aW aO (by rfl) gl PySem.boot_len (aa (pv 1) ac)) (aI _)) (ae (al (oF CI hr2 TV.mgC (aa (bA (aa ag (aa (Be (pv 0) T.cl CE hr) ac))) (aa (pv 0) (aa (d3 ac) ac)))))) aJ)
   (ae (al (oF CI hr2 TV.mgC (aa bc (aa (pv 0) (aa (y4 (xC (own:=[("holder",6)]) (te:=tOp (vv K) (a8 1) (a8 6)) rfl pW.nd (ya (pv 3)) (bL (by show iG ["drawing","outlines","shapes","marked","k","mark","holder","outline"] (ah cP) _ _=true;decide +kernel))
    (fun _ _ _ _ _=>au (i:=6) pW.nd rfl (.inl rfl) (.inr rfl)) (fun _ _ _ _ _=>eV) (fun _ _ _ _ _=>aw aU (pv 1) (pv 6) (fun _ _=>rfl)))) ac))))))))),?_⟩
  refine⟨_,rfl,O,rfl,⟨_,SqL.of hO.1⟩,fun D hD=>?_⟩
  refine hZ (K:=K) (a:=O) (xs:=os.map V.ref) (fun i H'=>∃bs,ak H H'∧H' D=some (.lst (bs.map V.ref))∧bs.length=i∧∀(j:Nat) (b:Addr) (l:List Nat),bs[j]? = some b→(WL.dt S)[j]? = some l→b≠D∧∃as,lr H' b as ps l)
   ⟨[],aN hD,af,rfl,fun j b l e=>by simp at e⟩ (fun i H' _ h=>by obtain⟨bs,h1,_⟩:=h;exact SqL.of (h1 _ _ hO.1)) ?_ ?_
  ·rintro i y H' hi ⟨bs,hS,hDl,hbl,hat⟩
   obtain⟨c,hc,rfl⟩:=cq hi
   have hil:i<(WL.dt S).length:=by rw[←hO.2.1];exact(gsi hc).1
   obtain⟨e,hJ,_,hle⟩:=WL.nG kp (List.getElem_mem hil)
   have o2:=o.same hS
   refine⟨rfl,nY (eA ?_)⟩
   refine⟨_,rfl,a,C,dx,_,_,rfl,o2.at_,T.cl,T.nP,iH,_,rfl,p,c,ps,S,(WL.dt S)[i],rfl,o2.ptsL sb,hS _ _ (hO.2.2 i c _ hc (gge hil)).2,?_,?_,fun H2 r as s2 hr0 hsh=>?_⟩
   ·rw[hle]
    exact sJ kp hJ
   ·rw[hle]
    have:=pO kp hJ
    omega
   have nr:r≠D:=fun z=>by rw[z,hDl]at hr0;cases hr0
   refine⟨_,s2 _ _ hDl,by rw[lmp];exact bF (by omega),bs++[r],aY (hS.trans s2) hD,by rw[af,List.map_append];rfl,by rw[List.length_append,hbl];rfl,fun j b l' e1 e2=>?_⟩
   by_cases cj:j<bs.length
   ·rw[List.getElem?_append_left cj]at e1
    obtain⟨n1,as',q1,q2⟩:=hat j b l' e1 e2
    exact⟨n1,as',by rw[ap n1];exact s2 _ _ q1,q2⟩
   ·have hj:=(gsi e1).1
    rw[List.length_append]at hj
    have ej:j=bs.length:=by simp at hj;omega
    subst ej
    rw[List.getElem?_append_right (nlr _),Nat.sub_self]at e1
    have e1:r=b:=osi e1
    subst e1
    rw[hbl,gge hil]at e2
    have e2:=osi e2
    subst e2
    exact⟨nr,as,by rw[ap nr];exact hsh.1,hsh.2⟩
  rintro H1 ⟨bs,s1,hDl,hbl,hat⟩
  rw[lmp,hO.2.1]at hbl
  have shp:l8 H1 D bs ps (WL.dt S):=⟨hDl,hbl,hat⟩
  have hne:∀l∈WL.dt S,l≠[]:=fun l hl=>by
   obtain⟨e,hJ,_,rfl⟩:=WL.nG kp hl
   obtain⟨t,ht⟩:=WL.nv kk hJ
   rw[ht]
   simp
  clear hat hDl hbl
  refine fun W hW=>?_
  have s2:ak H1 (upd H1 W (.dK [])):=aN hW
  have hW2:(upd H1 W (.dK (kd (gZ hf 0)))) W=some (.dK (kd (gZ hf 0))):=af
  have o2:=o.same (s1.trans s2)
  refine⟨_,rfl,a,C,dx,_,_,rfl,o2.at_,T.cl,T.nM,wN,m,_,rfl,SqL.of o2.ml,di (K:=K) (a:=m) (xs:=ms.map V.ref) (fun i σ H'=>ak H1 H'∧(∃v4 v5 v6,σ=[some (.ref a),some (.ref O),some (.ref D),some (.ref W),v4,v5,v6,none])∧H' W=some (.dK (kd (gZ hf i)))∧∀j,j<i→hf j∉gZ hf j)
   ⟨s2,⟨none,none,none,rfl⟩,hW2,fun j h=>absurd h (Nat.not_lt_zero _)⟩ (fun i σ H' _ h=>SqL.of (h.1 _ _ (s1 _ _ o.ml))) ?_ ?_⟩
  ·rintro i y T' σ H' hi hT ⟨hS,⟨v4,v5,v6,rfl⟩,hWi,hok⟩
   obtain⟨b,hb,rfl⟩:=cq hi
   have hil:i<S.marks.length:=by rw[←o.mn];exact(gsi hb).1
   have s3:ak H' (upd H' T' (.tup [.int (i:Nat),.ref b])):=aN hT
   refine⟨T',_,rfl,SqT.of af,rfl,_,_,rfl,_,_,rfl,rfl,?_⟩
   generalize upd H' T' (.tup [.int (i:Nat),.ref b])=H2 at s3
   have s13:=hS.trans s3
   have o3:=o.same (s1.trans s13)
   refine⟨_,rfl,_,rfl,b,D,p,bs,ps,WL.dt S,S,S.marks[i].at_,hf i,hF.lt i hil,rfl,o3.mkAt sb hb (gge hil),o3.ptsL sb,shp.same s13,hne,hF.ins i hil _,fun j hj hlt=>hF.no i hil j hj hlt,fun H3 s4=>?_⟩
   have hW3:=s4 _ _ (s3 _ _ hWi)
   have s14:=s13.trans s4
   have o4:=o.same (s1.trans s14)
   refine⟨_,rfl,_,rfl,W,_,rfl,l9.k (k:=Sum.inl (hf i:Int)) hW3,_,rfl,?_⟩
   rw[zQ]
   refine aS (fun c=>?_) (fun c=>?_)
   ·have c:=of_decide_eq_true c
    refine⟨_,rfl,a,dx,_,rfl,o4.at_,bZ (.inr (.inl rfl)),_,rfl,a,S,_,rfl,o4.draw,(by show 2≤sizeLine;decide),fun q hq=>?_⟩
    refine⟨_,rfl,(by show 0≤sizeLine;decide),fun q2 hq2=>?_⟩
    refine fun x xd nx ndx nex=>?_
    refine⟨x,xd,_,_,_,rfl,af,fun H8 h8 kp8=>⟨rfl,?_⟩⟩
    have s8:ak _ H8:=ak.made nx ndx kp8
    have e12:eS S=some (12,me S i):=by
     unfold eS o12
     rw[WL.nw (k:=i) hil (by rw[rZ kk hF hil];exact dqt c) (fun j hj=>by rw[rZ kk hF (by omega)];exact dqf (hok j hj)),Nat.zero_add]
     rfl
    refine k H8 x (.ref q2) ((s1.trans s14).trans ((aN hq).trans ((aN hq2).trans s8))) ⟨xd,_,h8,?_⟩ (fun z=>by rw[e12]at z;cases z)
    rw[e12]
    exact⟨q,rfl,s8 _ _ ((aN hq2) _ _ af)⟩
   ·have c:hf i∉gZ hf i:=fun z=>c (dqt z)
    refine⟨_,rfl,_,rfl,W,_,rfl,qd.k (k:=Sum.inl (hf i:Int)) hW3 (by rw[pB,kq];exact bF (by omega)),?_⟩
    refine⟨aY s14 hW,⟨_,_,_,rfl⟩,by rw[af,Bk c,vb],fun j h=>?_⟩
    by_cases cc:j<i
    ·exact hok j cc
    ·have:j=i:=by omega
     subst this
     exact c
  rintro σ H2 ⟨hS,⟨v4,v5,v6,rfl⟩,hWn,hok⟩
  rw[lmp,o.mn]at hWn hok
  have sH:=s1.trans hS
  have o3:=o.same sH
  have hO2:=hO.same sH
  have e12:o12 S=none:=by
   unfold o12
   rw[WL.lv fun j hj=>by rw[rZ kk hF hj];exact dqf (hok j hj)]
   rfl
  have eM:eS S=o13 S:=by unfold eS;rw[e12];rfl
  refine⟨_,rfl,W,_,rfl,hWn,_,rfl,O,_,rfl,.inl (SqL.of hO2.1),_,_,rfl,rfl,_,rfl,?_⟩
  rw[pB,kq,lmp,hO.2.1,WL.qZ kp]
  refine aS (fun c=>?_) (fun c=>?_)
  ·have c:=of_decide_eq_true c
   refine⟨_,rfl,a,dx,_,rfl,o3.at_,bZ (.inr (.inr rfl)),a,S,rfl,o3.draw,(by show 2≤sizeLine;decide),fun q hq=>?_⟩
   refine⟨_,rfl,(by show 0≤sizeLine;decide),fun q2 hq2=>?_⟩
   refine fun x xd nx ndx nex=>?_
   refine⟨x,xd,_,_,_,rfl,af,fun H8 h8 kp8=>⟨rfl,?_⟩⟩
   have s8:ak _ H8:=ak.made nx ndx kp8
   have e13:eS S=some (13,me S S.marks.length):=by
    rw[eM]
    unfold o13
    rw[if_pos (by omega)]
   refine k H8 x (.ref q2) (sH.trans ((aN hq).trans ((aN hq2).trans s8))) ⟨xd,_,h8,?_⟩ (fun z=>by rw[e13]at z;cases z)
   rw[e13]
   exact⟨q,rfl,s8 _ _ ((aN hq2) _ _ af)⟩
  ·have c:=aG c
   have e13:eS S=none:=by
    rw[eM]
    unfold o13
    rw[if_neg (by omega)]
   refine⟨_,rfl,W,_,hWn,trivial,fun od=>?_⟩
   have hWH:H W=none:=s1.free hW
   have sF:ak H (upd H2 W (.frz od (.dK (kd (gZ hf S.marks.length))))):=aY sH hWH
   refine⟨_,rfl,W,od,rfl,.inl ⟨_,af,fun D2 hD2=>?_⟩⟩
   have hF0:(upd H2 W (.frz od (.dK (kd (gZ hf S.marks.length))))) W=some (.frz od (.dK (kd (gZ hf S.marks.length)))):=af
   generalize upd H2 W (.frz od (.dK (kd (gZ hf S.marks.length))))=H3 at sF hF0 hD2
   have nDW:D2≠W:=(aQ hF0 hD2).symm
   refine zc (fun i H'=>∃bs2,ak H3 H'∧H' D2=some (.lst (bs2.map V.ref))∧bs2.length=i∧∀(j:Nat) (b:Addr),bs2[j]? = some b→os[hf j]? = some b)
    ⟨[],aN hD2,af,rfl,fun j b e=>by simp at e⟩ (fun i H' _ h=>by obtain⟨bs2,h1,_⟩:=h;exact h1 _ _ hF0) ?_ ?_
   ·rintro i kx vx H' hi ⟨bs2,hS2,hDl2,hbl2,hat2⟩
    have hil:i<S.marks.length:=by
     have:=(gsi hi).1
     rw[pB,kq]at this
     exact this
    unfold kd gZ at hi
    rw[List.getElem?_map,List.getElem?_map,List.getElem?_range hil]at hi
    have hi:=osi hi
    obtain⟨rfl,rfl⟩:=Prod.mk.inj hi
    obtain⟨b,hb⟩:∃b,os[hf i]? = some b:=⟨os[hf i]'(by rw[hO.2.1];exact hF.lt i hil),gge _⟩
    refine⟨rfl,nY (eA ?_)⟩
    refine⟨_,rfl,_,rfl,O,_,_,_,rfl,rfl,SqL.of (hS2 _ _ (sF _ _ hO.1)),aA (j:=hf i) rfl (aP hb),_,hDl2,by rw[lmp];exact bF (by omega),bs2++[b],aY hS2 hD2,by rw[af,List.map_append];rfl,by rw[List.length_append,hbl2];rfl,fun j q e=>?_⟩
    by_cases cj:j<bs2.length
    ·rw[List.getElem?_append_left cj]at e
     exact hat2 j q e
    ·have hj:=(gsi e).1
     rw[List.length_append]at hj
     have ej:j=bs2.length:=by simp at hj;omega
     subst ej
     rw[List.getElem?_append_right (nlr _),Nat.sub_self]at e
     have e:b=q:=osi e
     rw[hbl2,←e]
     exact hb
   ·rintro H4 ⟨bs2,hS2,hDl2,hbl2,hat2⟩
    rw[pB,kq]at hbl2
    refine⟨hS2 _ _ hF0,?_⟩
    have s5:ak H (upd H4 W (.dK (kd (gZ hf S.marks.length)))):=aY (sF.trans hS2) hWH
    have hD5:(upd H4 W (.dK (kd (gZ hf S.marks.length)))) D2=some (.lst (bs2.map V.ref)):=by rw[ap nDW];exact hDl2
    generalize upd H4 W (.dK (kd (gZ hf S.marks.length)))=H5 at s5 hD5
    refine fun x xd nx ndx nex=>?_
    refine⟨x,xd,_,_,_,rfl,af,fun H8 h8 kp8=>⟨rfl,?_⟩⟩
    have s8:ak H5 H8:=ak.made nx ndx kp8
    refine k H8 x (.ref D2) (s5.trans s8) ⟨xd,_,h8,by rw[e13];rfl⟩ fun _=>?_
    refine⟨D2,bs2,rfl,s8 _ _ hD5,hbl2,fun i b mm e1 e2=>?_⟩
    have hil:i<S.marks.length:=(gsi e2).1
    rw[gge hil]at e2
    have e2:=osi e2
    subst e2
    have hlt:=hF.lt i hil
    refine⟨(WL.dt S)[hf i],by rw[hF.am i hil,gge hlt],?_⟩
    exact s8 _ _ (s5 _ _ (hO.2.2 (hf i) b _ (hat2 i b e1) (gge hlt)).2)
end
open PySem PySem.Spec PyProof.Rows L2 Wg Wx CM
open Gla (Pt)
def bB (ns:List Int):Gla.Plan:=Gla.parts (toB ns)
def dk (ns:List Int):Option (Int×Int):=lc (dM ns) (lc (bP (bB ns)) (eS (bB ns)))
theorem rn {ns:List Int}(h:Byt ns)(e:dM ns=none):(ns.length:Int)=told ns∧fT (toB ns)=none:=by
 refine⟨?_,?_⟩
 ·unfold dM at e
  split at e
  ·cases e
  ·split at e
   ·cases e
   ·split at e
    ·cases e
    ·split at e
     ·cases e
     ·rename_i h1
      exact bcn fun z=>h1 z
 ·rw[jl h]at e
  cases q:fT (toB ns) with
  |none=>rfl
  |some x=>rw[q]at e;cases e
theorem tW (ns:List Int):(bB ns).pts.length=Gla.num (toB ns) 12 2:=by
 unfold bB Gla.parts
 simp only[lmp,List.length_range]
theorem uJ (ns:List Int):(bB ns).lines.length=Gla.num (toB ns) 14 2:=by
 unfold bB Gla.parts
 simp only[lmp,List.length_range]
theorem vj (ns:List Int):(bB ns).marks.length=Gla.num (toB ns) 16 2:=by
 unfold bB Gla.parts
 simp only[lmp,List.length_range]
theorem Cq (ns:List Int):SB (bB ns):=by
 have n4:∀p,Gla.num (toB ns) p 4<4294967296:=fun p=>pA _ p 4
 have n2:∀p,Gla.num (toB ns) p 2<65536:=fun p=>pA _ p 2
 refine⟨fun p hp=>?_,fun m hm=>?_,?_,?_,?_⟩
 ·unfold bB Gla.parts at hp
  simp only[List.mem_map]at hp
  obtain⟨i,_,rfl⟩:=hp
  exact⟨n4 _,n4 _⟩
 ·unfold bB Gla.parts at hm
  simp only[List.mem_map]at hm
  obtain⟨i,_,rfl⟩:=hm
  exact⟨n4 _,n4 _⟩
 ·rw[tW]
  have:=n2 12
  omega
 ·rw[uJ]
  have:=n2 14
  omega
 ·rw[vj]
  have:=n2 16
  omega
theorem vY {ns:List Int}(e:fT (toB ns)=none):4≤(bB ns).pts.length:=by
 rw[tW]
 refine bcn fun z=>?_
 have hw:Gla.within 4 Gla.POINTS (Gla.num (toB ns) 12 2)=false:=by
  unfold Gla.within
  rw[dqf z,Bool.false_and]
 unfold fT at e
 rw[if_pos hw]at e
 repeat' split at e
 all_goals cases e
theorem ee {a b:Option (Int×Int)}(h:lc a b=none):a=none∧b=none:=by
 cases a with
 |none=>exact⟨rfl,h⟩
 |some x=>cases h
theorem rG {S:Gla.Plan}(h4:4≤S.pts.length)(h:bP S=none):WL.df S∧∀m∈S.marks,Gla.clear S m.at_=true:=by
 unfold bP at h
 obtain⟨e4,h⟩:=ee h
 obtain⟨e5,h⟩:=ee h
 obtain⟨e6,h⟩:=ee h
 obtain⟨e7,h⟩:=ee h
 obtain⟨e8,h⟩:=ee h
 obtain⟨e9,h⟩:=ee h
 obtain⟨e10,e11⟩:=ee h
 refine⟨⟨⟨d4 e4,d4 e5,d4 e7⟩,h4,?_,d4 e9,d4 e10⟩,fun m hm=>?_⟩
 ·unfold o6 at e6
  split at e6
  ·cases e6
  ·rename_i c
   cases q:Gla.frameOk S with
   |true=>rfl
   |false=>exact absurd q c
 ·exact(WL.cn (d4 e11)).1 m hm
section
variable  {P:Program}{w:World}{K:Frag}{mg:Str→Option Value}{base:Heap}{C CV:Addr}
def spJ (K:Frag)(C CV:Addr):Sp:=fun vs H Q _=>∃(a:Addr) (ns:List Int),vs=[.ref a]∧LI K H a ns∧Byt ns∧∀(H':Hp) (v:Addr) (dv ov:V),ak H H'→xS CV H' v (dk ns) dv ov→(dk ns=none→∃d,dv=.ref d∧bz C H' d (bB ns)∧t6 H' ov (bB ns))→Q (.ref v) H'
theorem scJ:aq ["cartoon","fault","drawing"] ["cartoon"] (ah lZ):=⟨rfl,rfl,rfl,by decide +kernel,rfl,by decide +kernel,by decide +kernel⟩
theorem DN (F:Has K mg "judge" lZ ["cartoon"]) (TV:VCl K mg CV) (CI:Ci P w K mg base 1 CV ["self","fault","drawing","outlines"] (z8 CV)) (C1:Cb P w K mg base 3 "fault_of_bytes" ["cartoon"] (C0 K)) (C2:Cb P w K mg base 4 "read_drawing" ["cartoon"] (CS K C)) (C3:Cb P w K mg base 6 "fault_of_drawing" ["drawing"] (B7 C)) (C4:Cb P w K mg base 4 "outlines_of" ["drawing"] (zH C)) (C5:Cb P w K mg base 5 "judge_marks" ["drawing","outlines"] (Cw C CV)) :
  Cb P w K mg base 7 "judge" ["cartoon"] (spJ K C CV):=by
 refine F.cb scJ (fun vs H Q E h=>?_) (fun f cdv A outer s H vs Q E hr h=>?_)
 ·obtain⟨a,ns,rfl,_⟩:=h
  rfl
 ·obtain⟨a,ns,rfl,hl,hb,k⟩:=h
  have hr2:bu 2 _:=hr.mono (by decide)
  have hr3:bu 3 _:=hr.mono (by decide)
  have hr4:bu 4 _:=hr.mono (by decide)
  have hr5:bu 5 _:=hr.mono (by decide)
  refine⟨_,ad (aB (i:=1) scJ.nd rfl (.inl rfl) (aF C1 hr3 (aa (pv 0) ac)))
   (ad (a6 (aK ju (pv 1) bc (aI _)) (ae (al (oF CI hr2 TV.mgC (aa (pv 1) (aa bc (aa (d3 ac) ac)))))) aJ)
   (ad (aB (i:=2) scJ.nd rfl (.inl rfl) (aF C2 hr4 (aa (pv 0) ac)))
   (ad (aB (i:=1) scJ.nd rfl (.inl rfl) (aF C3 hr (aa (pv 2) ac)))
   (ad (a6 (aK ju (pv 1) bc (aI _)) (ae (al (oF CI hr2 TV.mgC (aa (pv 1) (aa (pv 2) (aa (d3 ac) ac)))))) aJ)
   (ae (al (aF C5 hr5 (aa (pv 2) (aa (aF C4 hr4 (aa (pv 2) ac)) ac))))))))),?_⟩
  refine⟨_,rfl,a,ns,rfl,hl,dG.of fun v H1 s1 f1=>?_⟩
  cases e1:dM ns with
  |some x =>
   rw[e1]at f1
   have eJ:dk ns=some x:=by unfold dk;rw[e1];rfl
   obtain⟨q,rfl,hq⟩:=id f1
   refine⟨_,rfl,rfl,_,rfl,aS (fun _=>?_) (fun c=>absurd (by rw[dqf (by intro z;cases z)];rfl) c)⟩
   refine⟨_,rfl,(by show 0≤sizeLine;decide),fun q2 hq2=>?_⟩
   refine fun y xd nx ndx nex=>?_
   refine⟨y,xd,_,_,_,rfl,af,fun H8 h8 kp8=>⟨rfl,?_⟩⟩
   have s8:ak _ H8:=ak.made nx ndx kp8
   refine k H8 y .non (.ref q2) (s1.trans ((aN hq2).trans s8)) ⟨xd,_,h8,?_⟩ (fun z=>by rw[eJ]at z;cases z)
   rw[eJ]
   exact f1.same ((aN hq2).trans s8)
  |none =>
  rw[e1]at f1
  obtain rfl:v=.non:=f1
  obtain⟨hlen,hjB⟩:=rn hb e1
  refine⟨_,rfl,rfl,_,rfl,aS (fun c=>absurd c (by decide)) (fun _=>?_)⟩
  refine⟨_,rfl,a,ns,rfl,hl.same s1,hb,hlen,fun H2 d s2 hd=>?_⟩
  have hd:bz C H2 d (bB ns):=hd
  have sb:=Cq ns
  have h4:=vY hjB
  have s2:=s1.trans s2
  generalize hS:bB ns=S at hd sb h4
  refine⟨_,rfl,d,S,rfl,hd,sb,h4,dG.of fun v H3 s3 f2=>?_⟩
  have hd3:=hd.same s3
  have s3:=s2.trans s3
  cases e2:bP S with
  |some x =>
   rw[e2]at f2
   have eJ:dk ns=some x:=by unfold dk;rw[e1,hS,e2];rfl
   obtain⟨q,rfl,hq⟩:=id f2
   refine⟨_,rfl,rfl,_,rfl,aS (fun _=>?_) (fun c=>absurd (by rw[dqf (by intro z;cases z)];rfl) c)⟩
   refine⟨_,rfl,_,rfl,(by show 0≤sizeLine;decide),fun q2 hq2=>?_⟩
   refine fun y xd nx ndx nex=>?_
   refine⟨y,xd,_,_,_,rfl,af,fun H8 h8 kp8=>⟨rfl,?_⟩⟩
   have s8:ak _ H8:=ak.made nx ndx kp8
   refine k H8 y (.ref d) (.ref q2) (s3.trans ((aN hq2).trans s8)) ⟨xd,_,h8,?_⟩ (fun z=>by rw[eJ]at z;cases z)
   rw[eJ]
   exact f2.same ((aN hq2).trans s8)
  |none =>
  rw[e2]at f2
  obtain rfl:v=.non:=f2
  obtain⟨kp,hclear⟩:=rG h4 e2
  refine⟨_,rfl,rfl,_,rfl,aS (fun c=>absurd c (by decide)) (fun _=>?_)⟩
  refine⟨_,rfl,_,rfl,d,S,rfl,hd3,sb,kp,fun H4 O os s4 hO=>?_⟩
  have eJ:dk ns=eS S:=by unfold dk;rw[e1,hS,e2];rfl
  refine⟨d,O,os,S,rfl,hd3.same s4,sb,kp,hclear,hO,fun H5 v ov s5 hv hp=>?_⟩
  refine k H5 v (.ref d) ov (s3.trans (s4.trans s5)) (by rw[eJ];exact hv) fun z=>?_
  rw[eJ]at z
  rw[hS]
  exact⟨d,rfl,hd3.same (s4.trans s5),hp z⟩
end
open PySem PySem.Spec PyProof.Rows L2 Wg Wx CM
open Gla (Pt)
section
variable  {P:Program}{w:World}{K:Frag}{mg:Str→Option Value}{base:Heap}
theorem lQ {ns:List Int}{i:Nat}{z:Int}(h:LM.fQ (ns.take i)=true)(hz:ns[i]? = some z)(h0:¬z<0)(h1:¬65535<z):LM.fQ (ns.take (i+1))=true:=by
 rw[LM.eE]at h ⊢
 intro x hx
 rw[bY hz,List.mem_append]at hx
 rcases hx with hx|hx
 ·exact h x hx
 ·have e:x=z:=by simpa using hx
  subst e
  omega
theorem lE {ns:List Int}{i:Nat}{z:Int}(hz:ns[i]? = some z)(h:z<0∨65535<z):LM.fQ ns=false:=by
 cases e:LM.fQ ns with
 |false=>rfl
 |true =>
  have:=LM.eE.mp e z (List.mem_of_getElem? hz)
  omega
def pN (K:Frag):Sp:=fun vs H Q _=>∃(a:Addr) (ns:List Int),vs=[.ref a]∧LI K H a ns∧Q (.bl (LM.fQ ns)) H
theorem ue:aq ["row","number"] ["row"] (ah gh):=⟨rfl,rfl,rfl,by decide +kernel,rfl,by decide +kernel,by decide +kernel⟩
theorem x5 (F:Has K mg "are_bands" gh ["row"]) (gF:∃t,mg "FULL"=some (.int 65535 t)):Cb P w K mg base 1 "are_bands" ["row"] (pN K):=by
 refine F.cb ue (fun vs H Q E h=>?_) (fun f cdv A outer s H vs Q E hr h=>?_)
 ·obtain⟨a,ns,rfl,_⟩:=h
  rfl
 ·obtain⟨a,ns,rfl,hl,k⟩:=h
  refine⟨_,ad (bw PassesOwn.never rfl (bQ (pv 0)) (au (i:=1) ue.nd rfl (.inl rfl))
   (ae (a6 (mZ (aK gq (pv 1) ag (aI _)) (jN (aK d5 (pv 1) (bv gF) (aI _)))).pt (ae (al el)) aJ)))
   (ae (al el)),?_⟩
  refine⟨_,rfl,a,rfl,⟨_,hl.1⟩,er (K:=K) (a:=a) (xs:=iV ns) (fun i σ H'=>H'=H∧(∃v,σ=[some (.ref a),v])∧LM.fQ (ns.take i)=true) ⟨rfl,⟨none,rfl⟩,rfl⟩ (fun i σ H' _ h=>by rw[h.1];exact hl.1) ?_ ?_⟩
  ·rintro i y σ H' hi ⟨rfl,⟨v,rfl⟩,hb⟩
   obtain⟨z,hz,rfl⟩:=qu hi
   refine⟨_,rfl,_,_,rfl,rfl,_,rfl,aS (fun c=>?_) (fun c=>?_)⟩
   ·refine eA ?_
    show Q (.bl false) H'
    rw[lE hz (.inl (of_decide_eq_true c))]at k
    exact k
   ·refine⟨_,rfl,_,_,rfl,rfl,_,rfl,aS (fun c2=>?_) (fun c2=>?_)⟩
    ·show Q (.bl false) H'
     rw[lE hz (.inr (of_decide_eq_true c2))]at k
     exact k
    ·exact⟨rfl,⟨_,rfl⟩,lQ hb hz (fun q=>c (dqt q)) (fun q=>c2 (dqt q))⟩
  ·rintro σ H' ⟨rfl,⟨v,rfl⟩,hb⟩
   rw[lmp,List.take_length]at hb
   show Q (.bl true) H'
   rw[hb]at k
   exact k
def zP (K:Frag):Sp:=fun vs H Q _=>∃(a:Addr) (ns:List Int),vs=[.ref a]∧LI K H a ns∧Q (.bl (LM.isL ns)) H
theorem BM:aq ["row"] ["row"] (ah ii):=⟨rfl,rfl,rfl,by decide +kernel,rfl,by decide +kernel,by decide +kernel⟩
theorem AF (F:Has K mg "is_light" ii ["row"]) (gB:∃t,mg "BANDS"=some (.int 32 t)) (gl:mg "len"=none) (C:Cb P w K mg base 1 "are_bands" ["row"] (pN K)):Cb P w K mg base 2 "is_light" ["row"] (zP K):=by
 refine F.cb BM (fun vs H Q E h=>?_) (fun f cdv A outer s H vs Q E hr h=>?_)
 ·obtain⟨a,ns,rfl,_⟩:=h
  rfl
 ·obtain⟨a,ns,rfl,hl,k⟩:=h
  refine⟨_,ae (al (iI (cp ki (aW aO (by rfl) gl PySem.boot_len (aa (pv 0) ac)) (bv gB) (aI _)) (eQ (aF C hr (aa (pv 0) ac))))),?_⟩
  refine⟨_,rfl,a,_,rfl,.inl hl.1,rfl,_,rfl,aS (fun c=>?_) (fun c=>?_)⟩
  ·refine⟨_,rfl,a,ns,rfl,hl,?_⟩
   have e:LM.isL ns=LM.fQ ns:=by
    unfold LM.isL
    rw[dqt (p:=ns.length=32) ?_,Bool.true_and]
    have:=V.int.inj (of_decide_eq_true c)
    rw[lmp]at this
    omega
   rw[e]at k
   exact k
  ·have e:LM.isL ns=false:=by
    unfold LM.isL
    rw[dqf (p:=ns.length=32) ?_,Bool.false_and]
    intro q
    apply c
    apply dqt
    rw[lmp,q]
    rfl
   rw[e]at k
   exact k
def xA (K:Frag):Sp:=fun vs H Q _=>∃(a:Addr) (ns:List Int),vs=[.ref a]∧LI K H a ns∧Q (.bl (LM.cF ns)) H
theorem AO:aq ["row"] ["row"] (ah fA):=⟨rfl,rfl,rfl,by decide +kernel,rfl,by decide +kernel,by decide +kernel⟩
theorem yA (F:Has K mg "are_lights" fA ["row"]) (gB:∃t,mg "BANDS"=some (.int 32 t)) (gl:mg "len"=none) (C:Cb P w K mg base 1 "are_bands" ["row"] (pN K)):Cb P w K mg base 2 "are_lights" ["row"] (xA K):=by
 refine F.cb AO (fun vs H Q E h=>?_) (fun f cdv A outer s H vs Q E hr h=>?_)
 ·obtain⟨a,ns,rfl,_⟩:=h
  rfl
 ·obtain⟨a,ns,rfl,hl,k⟩:=h
  refine⟨_,ae (al (iI (cp ki (aV Ae (aW aO (by rfl) gl PySem.boot_len (aa (pv 0) ac)) (bv gB)) ag (aI _)) (eQ (aF C hr (aa (pv 0) ac))))),?_⟩
  refine⟨_,rfl,a,_,rfl,.inl hl.1,_,_,rfl,rfl,(by show(0:Int)<32;decide),rfl,_,rfl,aS (fun c=>?_) (fun c=>?_)⟩
  ·refine⟨_,rfl,a,ns,rfl,hl,?_⟩
   have e:LM.cF ns=LM.fQ ns:=by
    unfold LM.cF
    rw[dqt (p:=ns.length % 32=0) ?_,Bool.true_and]
    have:=V.int.inj (of_decide_eq_true c)
    rw[lmp]at this
    omega
   rw[e]at k
   exact k
  ·have e:LM.cF ns=false:=by
    unfold LM.cF
    rw[dqf (p:=ns.length % 32=0) ?_,Bool.false_and]
    intro q
    apply c
    apply dqt
    rw[lmp]
    show V.int ((ns.length:Int) % 32)=V.int 0
    rw[show(ns.length:Int) % 32=0 by omega]
   rw[e]at k
   exact k
def wM (K:Frag):Sp:=fun vs H Q _=>∃(a:Addr) (ns:List Int),vs=[.ref a]∧LI K H a ns∧Q (.int (LM.cnt ns)) H
theorem Da:aq ["row"] ["row"] (ah cW):=⟨rfl,rfl,rfl,by decide +kernel,rfl,by decide +kernel,by decide +kernel⟩
theorem AW (F:Has K mg "how_many_lights" cW ["row"]) (gB:∃t,mg "BANDS"=some (.int 32 t)) (gl:mg "len"=none):Cb P w K mg base 1 "how_many_lights" ["row"] (wM K):=by
 refine F.cb Da (fun vs H Q E h=>?_) (fun f cdv A outer s H vs Q E hr h=>?_)
 ·obtain⟨a,ns,rfl,_⟩:=h
  rfl
 ·obtain⟨a,ns,rfl,hl,k⟩:=h
  refine⟨_,ae (al (aV pR (aW aO (by rfl) gl PySem.boot_len (aa (pv 0) ac)) (bv gB))),?_⟩
  refine⟨_,rfl,a,_,rfl,.inl hl.1,_,_,rfl,rfl,⟨by decide,by decide⟩,?_⟩
  have e:(((iV ns).length:Nat):Int) / 32=((LM.cnt ns:Nat):Int):=by
   rw[lmp]
   unfold LM.cnt
   omega
  show Q (.int ((((iV ns).length:Nat):Int) / 32)) H
  rw[e]
  exact k
theorem yU (ns:List Int)(k:Nat):oa (iV ns) (some (32*(k:Int))) (some (32*((k:Int)+1)))=iV (LM.lat ns k):=by
 have e1:(32*(k:Int))=((32*k:Nat):Int):=by omega
 have e2:(32*((k:Int)+1))=((32*k+32:Nat):Int):=by omega
 rw[e1,e2]
 unfold oa LM.lat
 rw[HT.sIx_nat,HT.sIx_nat,iV,←List.map_drop,←List.map_take,lmp]
 congr 1
 by_cases c:32*k≤ns.length
 ·rw[Nat.min_eq_left c]
  by_cases c2:32*k+32≤ns.length
  ·rw[Nat.min_eq_left c2]
   congr 1
   omega
  ·rw[Nat.min_eq_right (by omega)]
   rw[List.take_of_length_le (by rw[List.length_drop];omega),List.take_of_length_le (by rw[List.length_drop];omega)]
 ·rw[Nat.min_eq_right (show ns.length≤32*k by omega),List.drop_eq_nil_of_le (nlr _),List.drop_eq_nil_of_le (show ns.length≤32*k by omega)]
  simp
def zE (K:Frag):Sp:=fun vs H Q _=>∃(a:Addr) (ns:List Int) (k:Nat),vs=[.ref a,.int k]∧LI K H a ns∧k≤1000000∧∀p,H p=none→Q (.ref p) (upd H p (.lst (iV (LM.lat ns k))))
theorem Cj:aq ["row","k"] ["row","k"] (ah ie):=⟨rfl,rfl,rfl,by decide +kernel,rfl,by decide +kernel,by decide +kernel⟩
theorem zW (F:Has K mg "light_at" ie ["row","k"]) (gB:∃t,mg "BANDS"=some (.int 32 t)):Cb P w K mg base 1 "light_at" ["row","k"] (zE K):=by
 refine F.cb Cj (fun vs H Q E h=>?_) (fun f cdv A outer s H vs Q E hr h=>?_)
 ·obtain⟨a,ns,k,rfl,_⟩:=h
  rfl
 ·obtain⟨a,ns,i,rfl,hl,hi,k⟩:=h
  refine⟨_,ae (al (mR p9 (pv 0) (j3 (aV dN (bv gB) (pv 1))) (j3 (aV dN (bv gB) (aV dJ (pv 1) ag))))),?_⟩
  refine⟨_,rfl,_,rfl,_,_,rfl,rfl,.inl ⟨by decide,by decide⟩,_,rfl,_,rfl,_,_,rfl,rfl,_,_,rfl,rfl,.inl ⟨by decide,by decide⟩,_,rfl,a,_,rfl,hl.1,fun p hp=>?_⟩
  rw[yU ns i]
  exact k p hp
end
def Sm (ns:List Int):Prop:=∀x∈ns,-8589934592≤x∧x≤8589934592
theorem Sm.at {ns:List Int}(h:Sm ns){i:Nat}{z:Int}(e:ns[i]? = some z):-8589934592≤z∧z≤8589934592:=h z (List.mem_of_getElem? e)
section
variable  {P:Program}{w:World}{K:Frag}{mg:Str→Option Value}{base:Heap}
def wZ (K:Frag):Sp:=fun vs H Q _=>∃(a b:Addr) (xs ys:List Int),vs=[.ref a,.ref b]∧LI K H a xs∧LI K H b ys∧Sm xs∧Sm ys∧∀(H':Hp) (p:Addr),ak H H'→H' p=some (.lst (iV (LM.thI xs ys)))→Q (.ref p) H'
theorem uA:aq ["one","other","a","b"] ["one","other"] (ah cM):=⟨rfl,rfl,rfl,by decide +kernel,rfl,by decide +kernel,by decide +kernel⟩
theorem AU (F:Has K mg "light_through" cM ["one","other"]) (gF:∃t,mg "FULL"=some (.int 65535 t)) (gz:mg "zip"=none):Cb P w K mg base 1 "light_through" ["one","other"] (wZ K):=by
 refine F.cb uA (fun vs H Q E h=>?_) (fun f cdv A outer s H vs Q E hr h=>?_)
 ·obtain⟨a,b,xs,ys,rfl,_⟩:=h
  rfl
 ·obtain⟨a,b,xs,ys,rfl,hx,hy,sx,sy,k⟩:=h
  refine⟨_,ae (al (xC (own:=[("a",2),("b",3)]) (g:=g2 K 2 3) rfl uA.nd (A9 rfl gz (aa (pv 0) (aa (pv 1) ac))) (bL (by show iG ["one","other","a","b"] (ah cM) _ _=true;decide +kernel))
   (fun _ _ _ _ _=>cS (n:=2) rfl (aL (au (i:=2) uA.nd rfl (.inl rfl) (.inr rfl)) (aL (au (i:=3) uA.nd rfl (.inl rfl) (.inr rfl)) bW))) (fun _ _ _ _ _=>eV)
   (fun _ _ _ _ _=>aV pR (aV dJ (aV dN (pv 2) (pv 3)) (aV pR (bv gF) ag)) (bv gF)))),?_⟩
  refine⟨_,rfl,_,rfl,a,b,_,_,rfl,hx.1,hy.1,fun D hD=>?_⟩
  refine Ao (xs:=iV xs) (ys:=iV ys) (fun i H'=>ak H H'∧H' D=some (.lst (iV (((xs.zip ys).take i).map fun p=>(p.1*p.2+32767) / 65535)))) ?_ ?_ ?_ ?_
  ·exact⟨aN hD,af⟩
  ·rintro i H' _ ⟨hS,_⟩
   exact⟨hS.seq hx.1,hS.seq hy.1⟩
  ·rintro i x' y' T H' ex' ey' hT ⟨hS,hDl⟩
   obtain⟨x,ex,rfl⟩:=qu ex'
   obtain⟨y,ey,rfl⟩:=qu ey'
   refine⟨T,_,rfl,SqT.of af,rfl,_,_,rfl,_,_,rfl,rfl,rfl,nY (eA ?_)⟩
   have nTD:D≠T:=aQ hDl hT
   have b1:=sx.at ex
   refine⟨_,rfl,_,rfl,_,_,rfl,rfl,.inl ⟨by omega,by omega⟩,_,_,rfl,rfl,⟨by decide,by decide⟩,_,_,rfl,rfl,_,_,rfl,rfl,⟨by decide,by decide⟩,_,by rw[ap nTD];exact hDl,?_,aY (a5 hS hT) hD,?_⟩
   ·rw[lmp,lmp,List.length_take]
    have:=hx.2
    have:i<xs.length:=(gsi ex).1
    exact bF (by omega)
   ·rw[af,bY (AX ex ey)]
    simp only[iV,List.map_append,List.map_cons,List.map_nil]
    rfl
  ·rintro H' ⟨hS,hDl⟩
   have e:(xs.zip ys).take (min (iV xs).length (iV ys).length)=xs.zip ys:=by
    rw[lmp,lmp,←List.length_zip]
    exact List.take_length
   rw[e]at hDl
   exact k H' D hS hDl
end
open PySem PySem.Spec PyProof.Rows L2 Wg Wx CM
open Gla (Pt)
def Ar (o:Option (List Int))(v:V)(H:Hp):Prop:=match o with
 |none=>v=.non
 |some r=>∃q,v=.ref q∧H q=some (.lst (iV r))
def sP (o:Option (List Int))(H:Hp)(Q:VK):Prop:=∀v H',ak H H'→Ar o v H'→Q v H'
def Bd (ns:List Int):Prop:=∀x∈ns,0≤x∧x≤65535
theorem Bd.sm {ns:List Int}(h:Bd ns):Sm ns:=fun x hx=>by have:=h x hx;omega
theorem Bd.lat {ns:List Int}(h:Bd ns)(k:Nat):Bd (LM.lat ns k):=fun x hx=>h x (List.mem_of_mem_drop (List.mem_of_mem_take hx))
theorem Bd.th {xs ys:List Int}(hx:Bd xs)(hy:Bd ys):Bd (LM.thI xs ys):=fun z hz=>by
 unfold LM.thI at hz
 rw[List.mem_map]at hz
 obtain⟨p,hp,rfl⟩:=hz
 have h1:=hx p.1 (List.of_mem_zip hp).1
 have h2:=hy p.2 (List.of_mem_zip hp).2
 have h3:0≤p.1*p.2:=Int.mul_nonneg h1.1 h2.1
 have h4:p.1*p.2≤65535*65535:=Int.mul_le_mul h1.2 h2.2 h2.1 (by decide)
 constructor
 ·omega
 ·omega
theorem jW (ns:List Int)(k:Nat):(LM.lat ns k).length≤32:=by
 unfold LM.lat
 rw[List.length_take]
 omega
theorem wS (xs ys:List Int):(LM.thI xs ys).length≤xs.length:=by
 unfold LM.thI
 rw[lmp,List.length_zip]
 omega
def cO (gs qs:List Int)(S:Gla.Plan):Option Nat:=Gla.firstAt (fun (_:Nat) (m:Gla.Mark)=>!(decide (m.glass<LM.cnt gs)&&decide (m.painting≤LM.cnt qs))) S.marks
def plI (gs qs:List Int)(m:Gla.Mark):List Int:=if m.painting=0 then LM.lat gs m.glass else LM.thI (LM.lat gs m.glass) (LM.lat qs (m.painting-1))
def iP (cs gs qs ds:List Int):Option (List Int):=if (LM.isL ds&&(LM.cF gs&&LM.cF qs))=false then some [-1] else if (decide (131072<cs.length)||(decide (256<LM.cnt gs)||decide (256<LM.cnt qs)))=true then some [-6] else none
def MkL (H:Hp)(m:Addr)(ms:List Addr)(S:Gla.Plan):Prop:=H m=some (.lst (ms.map V.ref))∧ms.length=S.marks.length∧∀(i:Nat) (b:Addr) (x:Gla.Mark),ms[i]? = some b→S.marks[i]? = some x→H b=some (.tup (iV (kl x)))
section
variable  {P:Program}{w:World}{K:Frag}{mg:Str→Option Value}{base:Heap}{C CV:Addr}
def Ex (o:Option Nat):V:=match o with
 |none=>.non
 |some k=>.int (k:Int)
def Br (K:Frag):Sp:=fun vs H Q _=>∃(m ga qa:Addr) (ms:List Addr) (S:Gla.Plan) (gs qs:List Int),vs=[.ref m,.ref ga,.ref qa]∧MkL H m ms S∧LI K H ga gs∧LI K H qa qs∧∀H',ak H H'→Q (Ex (cO gs qs S)) H'
theorem AT:aq ["marks","glasses","paintings","k","mark"] ["marks","glasses","paintings"] (ah bp):=⟨rfl,rfl,rfl,by decide +kernel,rfl,by decide +kernel,by decide +kernel⟩
theorem CZ (F:Has K mg "first_mark_without_light" bp ["marks","glasses","paintings"]) (ge:mg "enumerate"=none) (C1:Cb P w K mg base 1 "how_many_lights" ["row"] (wM K)):Cb P w K mg base 2 "first_mark_without_light" ["marks","glasses","paintings"] (Br K):=by
 refine F.cb AT (fun vs H Q E h=>?_) (fun f cdv A outer s H vs Q E hr h=>?_)
 ·obtain⟨m,ga,qa,ms,S,gs,qs,rfl,_⟩:=h
  rfl
 ·obtain⟨m,ga,qa,ms,S,gs,qs,rfl,hm,hg,hq,k⟩:=h
  refine⟨_,ad (bw PassesOwn.never rfl (dU rfl ge (aa (pv 0) ac)) (cS (n:=2) rfl (aL (au (i:=3) AT.nd rfl (.inl rfl)) (aL (au (i:=4) AT.nd rfl (.inl rfl)) bW)))
    (ae (a6 (mZ (aK tO (aw aD (pv 4) ag (fun _ _=>rfl)) (aF C1 hr (aa (pv 1) ac)) (aI _)) (jN (aK d5 (aw aD (pv 4) ag (fun _ _=>rfl)) (aF C1 hr (aa (pv 2) ac)) (aI _)))).pt (ae (al (pv 3))) aJ)))
   (ae (al bc)),?_⟩
  refine⟨_,rfl,m,_,rfl,SqL.of hm.1,di (K:=K) (a:=m) (xs:=ms.map V.ref) (fun i σ H'=>ak H H'∧(∃v1 v2,σ=[some (.ref m),some (.ref ga),some (.ref qa),v1,v2])∧∀j (hj:j<S.marks.length),j<i→(!(decide (S.marks[j].glass<LM.cnt gs)&&decide (S.marks[j].painting≤LM.cnt qs)))=false)
   ⟨ak.refl H,⟨none,none,rfl⟩,fun j hj h=>absurd h (Nat.not_lt_zero _)⟩ (fun i σ H' _ h=>SqL.of (h.1 _ _ hm.1)) ?_ ?_⟩
  ·rintro i y T' σ H' hi hT ⟨hS,⟨v1,v2,rfl⟩,hok⟩
   obtain⟨b,hb,rfl⟩:=cq hi
   have hil:i<S.marks.length:=by rw[←hm.2.1];exact(gsi hb).1
   have s2:ak H (upd H' T' (.tup [.int (i:Nat),.ref b])):=a5 hS hT
   refine⟨T',_,rfl,SqT.of af,rfl,_,_,rfl,_,_,rfl,rfl,?_⟩
   generalize upd H' T' (.tup [.int (i:Nat),.ref b])=H2 at s2
   have hbb:SqT K H2 b (iV (kl S.marks[i])):=SqT.of (s2 _ _ (hm.2.2 i b _ hb (gge hil)))
   have bad:(!(decide (S.marks[i].glass<LM.cnt gs)&&decide (S.marks[i].painting≤LM.cnt qs)))=true→Q (.int (i:Int)) H2:=fun z=>by
    have e:cO gs qs S=some i:=WL.eg hil z fun j hj=>hok j (by omega) hj
    rw[e]at k
    exact k H2 s2
   refine⟨_,rfl,b,_,_,_,rfl,rfl,hbb,aA (j:=2) rfl rfl,_,rfl,ga,gs,rfl,hg.same s2,_,_,rfl,rfl,_,rfl,aS (fun c1=>?_) (fun c1=>?_)⟩
   ·have c1:=of_decide_eq_true c1
    refine eA ⟨_,rfl,bad ?_⟩
    rw[dqf (by omega),Bool.false_and]
    rfl
   ·have c1:=aG c1
    refine⟨_,rfl,b,_,_,_,rfl,rfl,hbb,aA (j:=3) rfl rfl,_,rfl,qa,qs,rfl,hq.same s2,_,_,rfl,rfl,_,rfl,aS (fun c2=>?_) (fun c2=>?_)⟩
    ·have c2:=of_decide_eq_true c2
     refine⟨_,rfl,bad ?_⟩
     rw[dqf (show ¬S.marks[i].painting≤LM.cnt qs by omega),Bool.and_false]
     rfl
    ·have c2:=aG c2
     refine⟨s2,⟨_,_,rfl⟩,fun j hj h=>?_⟩
     by_cases c:j<i
     ·exact hok j hj c
     ·have:j=i:=by omega
      subst this
      rw[dqt (by omega:S.marks[j].glass<LM.cnt gs),dqt (by omega:S.marks[j].painting≤LM.cnt qs)]
      rfl
  ·rintro σ H' ⟨hS,⟨v1,v2,rfl⟩,hok⟩
   have e:cO gs qs S=none:=WL.dR fun j hj=>hok j hj (by rw[lmp,hm.2.1];exact hj)
   rw[e]at k
   exact k H' hS
def Ce (K:Frag):Sp:=fun vs H Q _=>∃(b ga qa:Addr) (x:Gla.Mark) (gs qs:List Int),vs=[.ref b,.ref ga,.ref qa]∧SqT K H b (iV (kl x))∧LI K H ga gs∧LI K H qa qs∧Bd gs∧Bd qs∧x.glass≤1000000∧x.painting≤1000000∧∀(H':Hp) (p:Addr),ak H H'→H' p=some (.lst (iV (plI gs qs x)))→Q (.ref p) H'
theorem CJ:aq ["mark","glasses","paintings","glass"] ["mark","glasses","paintings"] (ah fz):=⟨rfl,rfl,rfl,by decide +kernel,rfl,by decide +kernel,by decide +kernel⟩
theorem BH (F:Has K mg "pane_light" fz ["mark","glasses","paintings"]) (C1:Cb P w K mg base 1 "light_at" ["row","k"] (zE K)) (C2:Cb P w K mg base 1 "light_through" ["one","other"] (wZ K)):Cb P w K mg base 2 "pane_light" ["mark","glasses","paintings"] (Ce K):=by
 refine F.cb CJ (fun vs H Q E h=>?_) (fun f cdv A outer s H vs Q E hr h=>?_)
 ·obtain⟨b,ga,qa,x,gs,qs,rfl,_⟩:=h
  rfl
 ·obtain⟨b,ga,qa,x,gs,qs,rfl,hb,hg,hq,bg,bq,xg,xp,k⟩:=h
  refine⟨_,ad (aB (i:=3) CJ.nd rfl (.inl rfl) (aF C1 hr (aa (pv 1) (aa (aw aD (pv 0) ag (fun _ _=>rfl)) ac))))
   (ad (a6 (aK ki (aw aD (pv 0) ag (fun _ _=>rfl)) ag (aI _)) (ae (al (pv 3))) aJ)
   (ae (al (aF C2 hr (aa (pv 3) (aa (aF C1 hr (aa (pv 2) (aa (aV eG (aw aD (pv 0) ag (fun _ _=>rfl)) ag) ac))) ac)))))),?_⟩
  refine⟨_,rfl,_,rfl,b,_,_,_,rfl,rfl,hb,aA (j:=2) rfl rfl,ga,gs,x.glass,rfl,hg,xg,fun p hp=>?_⟩
  have s1:ak H (upd H p (.lst (iV (LM.lat gs x.glass)))):=aN hp
  have h1:(upd H p (.lst (iV (LM.lat gs x.glass)))) p=some (.lst (iV (LM.lat gs x.glass))):=af
  generalize upd H p (.lst (iV (LM.lat gs x.glass)))=H1 at s1 h1
  refine⟨_,rfl,b,_,_,_,rfl,rfl,(iZ s1 hb),aA (j:=3) rfl rfl,rfl,_,rfl,aS (fun c=>?_) (fun c=>?_)⟩
  ·have c:=V.int.inj (of_decide_eq_true c)
   refine⟨_,rfl,k H1 p s1 ?_⟩
   unfold plI
   rw[if_pos (by omega)]
   exact h1
  ·have c:¬x.painting=0:=fun z=>c (dqt (by rw[z];rfl))
   refine⟨_,rfl,_,rfl,_,rfl,b,_,_,_,rfl,rfl,(iZ s1 hb),aA (j:=3) rfl rfl,_,_,rfl,rfl,qa,qs,x.painting-1,?_,hq.same s1,by omega,fun p2 hp2=>?_⟩
   ·show [V.ref qa,V.int ((x.painting:Int)-1)]=_
    rw[show((x.painting:Int)-1)=((x.painting-1:Nat):Int) by omega]
   have s2:ak H1 (upd H1 p2 (.lst (iV (LM.lat qs (x.painting-1))))):=aN hp2
   have l1:=jW gs x.glass
   have l2:=jW qs (x.painting-1)
   refine⟨p,p2,_,_,rfl,⟨SqL.of (s2 _ _ h1),by omega⟩,⟨SqL.of af,by omega⟩,(bg.lat _).sm,(bq.lat _).sm,fun H3 r s3 hr3=>?_⟩
   refine k H3 r (s1.trans (s2.trans s3)) ?_
   unfold plI
   rw[if_neg c]
   exact hr3
def BP (K:Frag):Sp:=fun vs H Q _=>∃(b ga qa da:Addr) (x:Gla.Mark) (gs qs ds:List Int),vs=[.ref b,.ref ga,.ref qa,.ref da]∧SqT K H b (iV (kl x))∧LI K H ga gs∧LI K H qa qs∧LI K H da ds∧Bd gs∧Bd qs∧Bd ds∧x.glass≤1000000∧x.painting≤1000000∧∀(H':Hp) (p:Addr),ak H H'→H' p=some (.lst (iV (LM.thI ds (plI gs qs x))))→Q (.ref p) H'
theorem Eo:aq ["mark","glasses","paintings","daylight"] ["mark","glasses","paintings","daylight"] (ah fI):=⟨rfl,rfl,rfl,by decide +kernel,rfl,by decide +kernel,by decide +kernel⟩
theorem wu {gs qs:List Int}(bg:Bd gs)(bq:Bd qs)(x:Gla.Mark):Bd (plI gs qs x):=by
 unfold plI
 split
 ·exact bg.lat _
 ·exact(bg.lat _).th (bq.lat _)
theorem A5 (gs qs:List Int)(x:Gla.Mark):(plI gs qs x).length≤32:=by
 unfold plI
 split
 ·exact jW _ _
 ·exact Nat.le_trans (wS _ _) (jW _ _)
theorem CF (F:Has K mg "seen_light" fI ["mark","glasses","paintings","daylight"]) (C1:Cb P w K mg base 2 "pane_light" ["mark","glasses","paintings"] (Ce K)) (C2:Cb P w K mg base 1 "light_through" ["one","other"] (wZ K)):Cb P w K mg base 3 "seen_light" ["mark","glasses","paintings","daylight"] (BP K):=by
 refine F.cb Eo (fun vs H Q E h=>?_) (fun f cdv A outer s H vs Q E hr h=>?_)
 ·obtain⟨b,ga,qa,da,x,gs,qs,ds,rfl,_⟩:=h
  rfl
 ·obtain⟨b,ga,qa,da,x,gs,qs,ds,rfl,hb,hg,hq,hd,bg,bq,bd,xg,xp,k⟩:=h
  have hr1:bu 1 _:=hr.mono (by decide)
  refine⟨_,ae (al (aF C2 hr1 (aa (pv 3) (aa (aF C1 hr (aa (pv 0) (aa (pv 1) (aa (pv 2) ac)))) ac)))),?_⟩
  refine⟨_,rfl,_,rfl,_,rfl,_,rfl,b,ga,qa,x,gs,qs,rfl,hb,hg,hq,bg,bq,xg,xp,fun H1 p s1 hp=>?_⟩
  have l1:=A5 gs qs x
  exact⟨da,p,ds,_,rfl,hd.same s1,⟨SqL.of hp,by omega⟩,bd.sm,(wu bg bq x).sm,fun H2 r s2 hr2=>k H2 r (s1.trans s2) hr2⟩
def DA:Sp:=fun vs H Q _=>∃(r:Addr) (ns:List Int),vs=[.ref r]∧H r=some (.lst (iV ns))∧ns.length≤1000000∧∀(H':Hp) (p:Addr),ak H H'→H' p=some (.lst (iV (0 :: (ns.length:Int) :: ns)))→Q (.ref p) H'
theorem DP:aq ["row"] ["row"] (ah fD):=⟨rfl,rfl,rfl,by decide +kernel,rfl,by decide +kernel,by decide +kernel⟩
theorem Dx (F:Has K mg "row_answer" fD ["row"]) (gl:mg "len"=none):Cb P w K mg base 1 "row_answer" ["row"] DA:=by
 refine F.cb DP (fun vs H Q E h=>?_) (fun f cdv A outer s H vs Q E hr h=>?_)
 ·obtain⟨r,ns,rfl,_⟩:=h
  rfl
 ·obtain⟨r,ns,rfl,hrr,hl,k⟩:=h
  refine⟨_,ae (al (aV xP (d3 (aa ag (aa (aW aO (by rfl) gl PySem.boot_len (aa (pv 0) ac)) ac))) (pv 0))),?_⟩
  refine⟨_,rfl,r,_,rfl,.inl (SqL.of hrr),(by show 2≤sizeLine;decide),fun p hp=>?_⟩
  have s1:ak H (upd H p (.lst [.int 0,.int (((iV ns).length:Nat):Int)])):=aN hp
  refine⟨_,rfl,p,r,_,_,rfl,rfl,af,s1 _ _ hrr,?_,fun q hq=>?_⟩
  ·rw[iV,lmp]
   have:ns.length+2<sizeLine:=Nat.lt_of_le_of_lt (Nat.add_le_add_right hl 2) (by decide)
   show 2+ns.length≤sizeLine
   omega
  ·refine k _ q (a5 s1 hq) ?_
   rw[af]
   show some (HO.lst (.int 0 :: .int (((iV ns).length:Nat):Int) :: iV ns))=_
   rw[iV,lmp]
   rfl
end
open PySem PySem.Spec PyProof.Rows L2 Wg Wx CM
open Gla (Pt)
section
variable  {P:Program}{w:World}{K:Frag}{mg:Str→Option Value}{base:Heap}{C CV:Addr}
theorem sP.none' {o:Option (List Int)}{H H':Hp}{Q:VK}(k:sP o H Q)(e:o=none)(s:ak H H'):Q .non H':=by
 subst e
 exact k .non H' s rfl
theorem sP.some' {o:Option (List Int)}{H H':Hp}{Q:VK}{r:List Int}(k:sP o H Q)(e:o=some r)(s:ak H H'):∀q,H' q=none→Q (.ref q) (upd H' q (.lst (iV r))):=fun q hq=>by
 subst e
 exact k (.ref q) _ (a5 s hq) ⟨q,rfl,af⟩
def zt (K:Frag):Sp:=fun vs H Q _=>∃(ca ga qa da:Addr) (cs gs qs ds:List Int),vs=[.ref ca,.ref ga,.ref qa,.ref da]∧LI K H ca cs∧LI K H ga gs∧LI K H qa qs∧LI K H da ds∧sP (iP cs gs qs ds) H Q
theorem zR:aq ["cartoon","glasses","paintings","daylight","too_many_lights"] ["cartoon","glasses","paintings","daylight"] (ah db):=⟨rfl,rfl,rfl,by decide +kernel,rfl,by decide +kernel,by decide +kernel⟩
theorem Ab (F:Has K mg "refusal_of_rows" db ["cartoon","glasses","paintings","daylight"]) (gl:mg "len"=none) (gM:∃t,mg "MOST_LIGHTS"=some (.int 256 t)) (gY:∃t,mg "MOST_BYTES"=some (.int 131072 t)) (C1:Cb P w K mg base 2 "is_light" ["row"] (zP K)) (C2:Cb P w K mg base 2 "are_lights" ["row"] (xA K)) (C3:Cb P w K mg base 1 "how_many_lights" ["row"] (wM K)) :
  Cb P w K mg base 3 "refusal_of_rows" ["cartoon","glasses","paintings","daylight"] (zt K):=by
 refine F.cb zR (fun vs H Q E h=>?_) (fun f cdv A outer s H vs Q E hr h=>?_)
 ·obtain⟨ca,ga,qa,da,cs,gs,qs,ds,rfl,_⟩:=h
  rfl
 ·obtain⟨ca,ga,qa,da,cs,gs,qs,ds,rfl,hc,hg,hq,hd,k⟩:=h
  have hr1:bu 1 _:=hr.mono (by decide)
  refine⟨_,ad (a6 (jM (iQ (cI (aF C1 hr (aa (pv 3) ac))) (iQ (cI (aF C2 hr (aa (pv 1) ac))) (ij (cI (aF C2 hr (aa (pv 2) ac)))))).pt) (ae (al (d3 (aa (mE jJ ag) ac)))) aJ)
   (ad (aB (i:=4) zR.nd rfl (.inl rfl) (qG (cp d5 (aF C3 hr1 (aa (pv 1) ac)) (bv gM) (aI _)) (eQ (cp d5 (aF C3 hr1 (aa (pv 2) ac)) (bv gM) (aI _)))))
   (ad (a6 (mZ (aK d5 (aW aO (by rfl) gl PySem.boot_len (aa (pv 0) ac)) (bv gY) (aI _)) (jN (cI (pv 4)))).pt (ae (al (d3 (aa (mE jJ ag) ac)))) aJ)
   (ae (al bc)))),?_⟩
  have bad:(LM.isL ds&&(LM.cF gs&&LM.cF qs))=false→∀p,H p=none→Q (.ref p) (upd H p (.lst [.int (-1)])):=fun e p hp=>k.some' (r:=[-1]) (by unfold iP;rw[if_pos e]) (ak.refl H) p hp
  have six:(LM.isL ds&&(LM.cF gs&&LM.cF qs))=true→(decide (131072<cs.length)||(decide (256<LM.cnt gs)||decide (256<LM.cnt qs)))=true→∀p,H p=none→Q (.ref p) (upd H p (.lst [.int (-6)])):=fun e e2 p hp=>k.some' (r:=[-6]) (by unfold iP;rw[e,if_neg (by decide),if_pos e2]) (ak.refl H) p hp
  have non:(LM.isL ds&&(LM.cF gs&&LM.cF qs))=true→¬(decide (131072<cs.length)||(decide (256<LM.cnt gs)||decide (256<LM.cnt qs)))=true→Q .non H:=fun e e2=>k.none' (by unfold iP;rw[e,if_neg (by decide),if_neg e2]) (ak.refl H)
  refine⟨_,rfl,da,ds,rfl,hd,_,rfl,?_⟩
  cases h1:LM.isL ds with
  |false =>
   refine jL (eA ⟨_,rfl,(by show 1≤sizeLine;decide),fun p hp=>bad (by rw[h1];rfl) p hp⟩)
  |true =>
  refine eA ?_
  refine⟨_,rfl,ga,gs,rfl,hg,_,rfl,?_⟩
  cases h2:LM.cF gs with
  |false =>
   refine jL (eA ⟨_,rfl,(by show 1≤sizeLine;decide),fun p hp=>bad (by rw[h1,h2];rfl) p hp⟩)
  |true =>
  refine eA ?_
  refine⟨_,rfl,qa,qs,rfl,hq,_,rfl,?_⟩
  cases h3:LM.cF qs with
  |false =>
   refine eA ⟨_,rfl,(by show 1≤sizeLine;decide),fun p hp=>bad (by rw[h1,h2,h3];rfl) p hp⟩
  |true =>
  refine jL ?_
  have ok:(LM.isL ds&&(LM.cF gs&&LM.cF qs))=true:=by rw[h1,h2,h3];rfl
  have cont:∀t:Bool,t=(decide (256<LM.cnt gs)||decide (256<LM.cnt qs))→Av (sW (tOr (fj (tOp (rI0 fun i j=>.bl (decide (j<i))) (tCB (fun xs H Q=>∃p ys,xs=[.ref p]∧(SqL K H p ys∨SqT K H p ys)∧Q (.int ys.length) H) (bD (a8 0) fS)) (tC (.int 131072)))) (tB (a8 4)))
    (my (Dn (bD (tUn (rU fun i=>.int (-i)) (tC (.int 6))) fS))) mX) (my (tC .non)) { nx:=fun _ H'=>Q .non H',rt:=Q } [some (.ref ca),some (.ref ga),some (.ref qa),some (.ref da),some (.bl t)] H:=fun t et=>by
   refine⟨_,rfl,ca,_,rfl,.inl hc.1,_,_,rfl,rfl,_,rfl,?_⟩
   rw[iV,lmp]
   refine aS (fun c=>?_) (fun c=>?_)
   ·have c:=of_decide_eq_true c
    refine eA ⟨_,rfl,(by show 1≤sizeLine;decide),fun p hp=>six ok ?_ p hp⟩
    rw[dqt (by omega:131072<cs.length),Bool.true_or]
   ·have c:=aG c
    refine⟨_,rfl,_,rfl,aS (fun c2=>?_) (fun c2=>?_)⟩
    ·refine⟨_,rfl,(by show 1≤sizeLine;decide),fun p hp=>six ok ?_ p hp⟩
     rw[←et,c2,Bool.or_true]
    ·refine non ok ?_
     rw[←et,cC c2,dqf (by omega)]
     decide
  refine⟨_,rfl,ga,gs,rfl,hg,_,_,rfl,rfl,_,rfl,aS (fun c=>?_) (fun c=>?_)⟩
  ·have c:=of_decide_eq_true c
   refine cont true ?_
   rw[dqt (by omega:256<LM.cnt gs),Bool.true_or]
  ·have c:=aG c
   refine⟨_,rfl,qa,qs,rfl,hq,_,_,rfl,rfl,?_⟩
   refine cont _ ?_
   rw[dqf (by omega:¬256<LM.cnt gs),Bool.false_or,decide_eq_decide]
   omega
def zD (fo:Option (Int×Int)):Option (List Int):=fo.map fun x=>[-5,x.1,x.2]
def BT (CV:Addr):Sp:=fun vs H Q _=>∃(v:Addr) (fo:Option (Int×Int)) (dv ov:V),vs=[.ref v]∧xS CV H v fo dv ov∧sP (zD fo) H Q
theorem Ey:aq ["verdict"] ["verdict"] (ah b8):=⟨rfl,rfl,rfl,by decide +kernel,rfl,by decide +kernel,by decide +kernel⟩
theorem Dk (F:Has K mg "refusal_of_cartoon" b8 ["verdict"]) (TV:VCl K mg CV):Cb P w K mg base 1 "refusal_of_cartoon" ["verdict"] (BT CV):=by
 refine F.cb Ey (fun vs H Q E h=>?_) (fun f cdv A outer s H vs Q E hr h=>?_)
 ·obtain⟨v,fo,dv,ov,rfl,_⟩:=h
  rfl
 ·obtain⟨v,fo,dv,ov,rfl,⟨dx,fv,hv,hf⟩,k⟩:=h
  refine⟨_,ad (a6 (aK iL (aR (pv 0) rfl) bc (aI _)) (ae (al bc)) aJ)
   (ae (al (d3 (aa (mE jJ ag) (aa (aw aD (aR (pv 0) rfl) ag (fun _ _=>rfl)) (aa (aw aD (aR (pv 0) rfl) ag (fun _ _=>rfl)) ac)))))),?_⟩
  refine⟨_,rfl,v,CV,dx,_,_,rfl,hv,TV.cl,TV.nF,zT,rfl,_,rfl,?_⟩
  cases fo with
  |none =>
   obtain rfl:fv=.non:=hf
   exact lI (k.none' rfl (ak.refl H))
  |some x =>
   obtain⟨q,rfl,hq⟩:=hf
   refine gP ?_ rfl
   refine⟨_,rfl,_,rfl,v,CV,dx,_,_,rfl,hv,TV.cl,TV.nF,zT,q,_,_,_,rfl,rfl,SqT.of hq,aA (j:=0) rfl rfl,_,rfl,v,CV,dx,_,_,rfl,hv,TV.cl,TV.nF,zT,q,_,_,_,rfl,rfl,SqT.of hq,aA (j:=1) rfl rfl,(by show 3≤sizeLine;decide),fun p hp=>?_⟩
   exact k.some' (r:=[-5,x.1,x.2]) rfl (ak.refl H) p hp
def mr (o:Option Nat):Option (List Int):=o.map fun k=>[-3,(k:Int)]
def zz (K:Frag):Sp:=fun vs H Q _=>∃(m ga qa:Addr) (ms:List Addr) (S:Gla.Plan) (gs qs:List Int),vs=[.ref m,.ref ga,.ref qa]∧MkL H m ms S∧LI K H ga gs∧LI K H qa qs∧sP (mr (cO gs qs S)) H Q
theorem zr:aq ["marks","glasses","paintings","k"] ["marks","glasses","paintings"] (ah cE):=⟨rfl,rfl,rfl,by decide +kernel,rfl,by decide +kernel,by decide +kernel⟩
theorem AR (F:Has K mg "refusal_of_marks" cE ["marks","glasses","paintings"]) (C1:Cb P w K mg base 2 "first_mark_without_light" ["marks","glasses","paintings"] (Br K)):Cb P w K mg base 3 "refusal_of_marks" ["marks","glasses","paintings"] (zz K):=by
 refine F.cb zr (fun vs H Q E h=>?_) (fun f cdv A outer s H vs Q E hr h=>?_)
 ·obtain⟨m,ga,qa,ms,S,gs,qs,rfl,_⟩:=h
  rfl
 ·obtain⟨m,ga,qa,ms,S,gs,qs,rfl,hm,hg,hq,k⟩:=h
  refine⟨_,ad (aB (i:=3) zr.nd rfl (.inl rfl) (aF C1 hr (aa (pv 0) (aa (pv 1) (aa (pv 2) ac)))))
   (ad (a6 (aK iL (pv 3) bc (aI _)) (ae (al bc)) aJ)
   (ae (al (d3 (aa (mE jJ ag) (aa (pv 3) ac)))))),?_⟩
  refine⟨_,rfl,_,rfl,_,rfl,m,ga,qa,ms,S,gs,qs,rfl,hm,hg,hq,fun H1 s1=>?_⟩
  cases e:cO gs qs S with
  |none =>
   exact⟨_,rfl,rfl,_,rfl,lI (k.none' (by rw[e];rfl) s1)⟩
  |some i =>
   refine⟨_,rfl,rfl,_,rfl,aS (fun c=>absurd (of_decide_eq_true c) (by intro z;cases z)) (fun _=>?_)⟩
   exact⟨_,rfl,_,rfl,(by show 2≤sizeLine;decide),fun p hp=>k.some' (r:=[-3,(i:Int)]) (by rw[e];rfl) s1 p hp⟩
def jz (i:Nat)(cs gs qs ds:List Int):List Int:=match iP cs gs qs ds with
 |some r=>r
 |none=>match zD (dk cs) with
  |some r=>r
  |none=>match (bB cs).marks[i]? with
   |none=>[-2]
   |some m=>match mr (cO gs qs (bB cs)) with
    |some r=>r
    |none=>0 :: ((LM.thI ds (plI gs qs m)).length:Int) :: LM.thI ds (plI gs qs m)
theorem Ar.some {r:List Int}{v:V}{H:Hp}(h:Ar (some r) v H):∃q,v=.ref q∧H q=some (.lst (iV r)):=h
theorem tL {cs gs qs ds:List Int}(h:iP cs gs qs ds=none):Bd gs∧Bd qs∧Bd ds:=by
 unfold iP at h
 split at h
 ·cases h
 ·rename_i c
  have c:(LM.isL ds&&(LM.cF gs&&LM.cF qs))=true:=by
   cases e:(LM.isL ds&&(LM.cF gs&&LM.cF qs)) with
   |true=>rfl
   |false=>exact absurd e c
  rw[Bool.and_eq_true,Bool.and_eq_true]at c
  unfold LM.isL LM.cF at c
  rw[Bool.and_eq_true,Bool.and_eq_true,Bool.and_eq_true]at c
  exact⟨LM.eE.1 c.2.1.2,LM.eE.1 c.2.2.2,LM.eE.1 c.1.2⟩
def sI (K:Frag):Sp:=fun vs H Q _=>∃(i:Nat) (ca ga qa da:Addr) (cs gs qs ds:List Int),vs=[.int (i:Int),.ref ca,.ref ga,.ref qa,.ref da]∧LI K H ca cs∧LI K H ga gs∧LI K H qa qs∧LI K H da ds∧Byt cs∧∀(H':Hp) (p:Addr),H' p=some (.lst (iV (jz i cs gs qs ds)))→Q (.ref p) H'
theorem k6:aq ["i","cartoon","glasses","paintings","daylight","refusal","verdict","marks"] ["i","cartoon","glasses","paintings","daylight"] (ah qo):=⟨rfl,rfl,rfl,by decide +kernel,rfl,by decide +kernel,by decide +kernel⟩
theorem ye {ns:List Int}{m:Gla.Mark}(h:m∈(bB ns).marks):m.glass≤1000000∧m.painting≤1000000:=by
 have n2:∀p,Gla.num (toB ns) p 2<65536:=fun p=>pA _ p 2
 unfold bB Gla.parts at h
 simp only[List.mem_map]at h
 obtain⟨i,_,rfl⟩:=h
 exact⟨by have:=n2 (Gla.HEAD+8*Gla.num (toB ns) 12 2+4*Gla.num (toB ns) 14 2+12*i+8);show Gla.num _ _ _≤_;omega,by have:=n2 (Gla.HEAD+8*Gla.num (toB ns) 12 2+4*Gla.num (toB ns) 14 2+12*i+10);show Gla.num _ _ _≤_;omega⟩
theorem yB (F:Has K mg "pane" qo ["i","cartoon","glasses","paintings","daylight"]) (T:DCl K mg C) (TV:VCl K mg CV) (gl:mg "len"=none) (C1:Cb P w K mg base 3 "refusal_of_rows" ["cartoon","glasses","paintings","daylight"] (zt K)) (C2:Cb P w K mg base 7 "judge" ["cartoon"] (spJ K C CV)) (C3:Cb P w K mg base 1 "refusal_of_cartoon" ["verdict"] (BT CV)) (C4:Cb P w K mg base 3 "refusal_of_marks" ["marks","glasses","paintings"] (zz K)) (C5:Cb P w K mg base 3 "seen_light" ["mark","glasses","paintings","daylight"] (BP K)) (C6:Cb P w K mg base 1 "row_answer" ["row"] DA) :
  Cb P w K mg base 8 "pane" ["i","cartoon","glasses","paintings","daylight"] (sI K):=by
 refine F.cb k6 (fun vs H Q E h=>?_) (fun f cdv A outer s H vs Q E hr h=>?_)
 ·obtain⟨i,ca,ga,qa,da,cs,gs,qs,ds,rfl,_⟩:=h
  rfl
 ·obtain⟨i,ca,ga,qa,da,cs,gs,qs,ds,rfl,hc,hg,hq,hd,hb,k⟩:=h
  have hr1:bu 1 _:=hr.mono (by decide)
  have hr3:bu 3 _:=hr.mono (by decide)
  refine⟨_,ad (aB (i:=5) k6.nd rfl (.inl rfl) (aF C1 hr3 (aa (pv 1) (aa (pv 2) (aa (pv 3) (aa (pv 4) ac))))))
   (ad (a6 (aK ju (pv 5) bc (aI _)) (ae (al (pv 5))) aJ)
   (ad (aB (i:=6) k6.nd rfl (.inl rfl) (aF C2 hr (aa (pv 1) ac)))
   (ad (aB (i:=5) k6.nd rfl (.inl rfl) (aF C3 hr1 (aa (pv 6) ac)))
   (ad (a6 (aK ju (pv 5) bc (aI _)) (ae (al (pv 5))) aJ)
   (ad (aB (i:=7) k6.nd rfl (.inl rfl) (aR (aR (pv 6) rfl) rfl))
   (ad (a6 (aK tO (pv 0) (aW aO (by rfl) gl PySem.boot_len (aa (pv 7) ac)) (aI _)) (ae (al (d3 (aa (mE jJ ag) ac)))) aJ)
   (ad (aB (i:=5) k6.nd rfl (.inl rfl) (aF C4 hr3 (aa (pv 7) (aa (pv 2) (aa (pv 3) ac)))))
   (ad (a6 (aK ju (pv 5) bc (aI _)) (ae (al (pv 5))) aJ)
   (ae (al (aF C6 hr1 (aa (aF C5 hr3 (aa (aw aU (pv 7) (pv 0) (fun _ _=>rfl)) (aa (pv 2) (aa (pv 3) (aa (pv 4) ac))))) ac)))))))))))),?_⟩
  refine⟨_,rfl,_,rfl,_,rfl,_,rfl,ca,ga,qa,da,cs,gs,qs,ds,rfl,hc,hg,hq,hd,fun v H1 s1 l1=>?_⟩
  cases e1:iP cs gs qs ds with
  |some r =>
   rw[e1]at l1
   obtain⟨q,rfl,hq1⟩:=l1.some
   refine⟨_,rfl,rfl,_,rfl,aS (fun _=>⟨_,rfl,k H1 q ?_⟩) (fun c=>absurd (by rw[dqf (by intro z;cases z)];rfl) c)⟩
   unfold jz
   rw[e1]
   exact hq1
  |none =>
  rw[e1]at l1
  obtain rfl:v=.non:=l1
  obtain⟨bg,bq,bd⟩:=tL e1
  refine⟨_,rfl,rfl,_,rfl,aS (fun c=>absurd c (by decide)) (fun _=>?_)⟩
  refine⟨_,rfl,ca,cs,rfl,hc.same s1,hb,fun H2 ve dv ov s2 hve hdr=>?_⟩
  have s2:=s1.trans s2
  refine⟨_,rfl,ve,dk cs,dv,ov,rfl,hve,fun v H3 s3 l3=>?_⟩
  cases e2:dk cs with
  |some x =>
   rw[e2]at l3
   obtain⟨q,rfl,hq1⟩:=l3.some
   refine⟨_,rfl,rfl,_,rfl,aS (fun _=>⟨_,rfl,k H3 q ?_⟩) (fun c=>absurd (by rw[dqf (by intro z;cases z)];rfl) c)⟩
   unfold jz
   rw[e1,e2]
   exact hq1
  |none =>
  rw[e2]at l3
  obtain rfl:v=.non:=l3
  obtain⟨d,rfl,hD,_⟩:=hdr e2
  have hD:=hD.same s3
  obtain⟨vx,fv,hv,_⟩:=hve
  have hv:=s3 _ _ hv
  have s3:=s2.trans s3
  have mb:=@ye cs
  have epI:∀S,bB cs=S→jz i cs gs qs ds=match S.marks[i]? with
   |none=>[-2]
   |some m=>match mr (cO gs qs S) with
    |some r=>r
    |none=>0 :: ((LM.thI ds (plI gs qs m)).length:Int) :: LM.thI ds (plI gs qs m):=fun S hS=>by
   unfold jz
   rw[e1,e2,hS]
   rfl
  refine⟨_,rfl,rfl,_,rfl,aS (fun c=>absurd c (by decide)) (fun _=>?_)⟩
  have epI:=epI _ rfl
  generalize bB cs=S at hD mb epI
  rw[epI]at k
  obtain⟨dx,p,l,m,ps,ls,ms,o⟩:=hD.op (K:=K)
  refine⟨_,rfl,ve,CV,vx,_,_,rfl,hv,TV.cl,TV.nD,D7,d,C,dx,_,_,rfl,o.at_,T.cl,T.nM,wN,?_⟩
  refine⟨_,rfl,_,rfl,m,_,rfl,.inl (SqL.of o.ml),_,_,rfl,rfl,_,rfl,?_⟩
  rw[lmp,o.mn]
  refine aS (fun c=>?_) (fun c=>?_)
  ·have c:=of_decide_eq_true c
   refine⟨_,rfl,(by show 1≤sizeLine;decide),fun q hq1=>k _ q ?_⟩
   rw[List.getElem?_eq_none (by omega)]
   exact af
  ·have c:=aG c
   have hi:i<S.marks.length:=by omega
   rw[gge hi]at k
   have hmk:MkL H3 m ms S:=⟨o.ml,o.mn,fun i b x e1 e2=>o.ma i b x e1 e2⟩
   refine⟨_,rfl,_,rfl,_,rfl,m,ga,qa,ms,S,gs,qs,rfl,hmk,hg.same s3,hq.same s3,fun v H4 s4 l4=>?_⟩
   cases e3:mr (cO gs qs S) with
   |some r =>
    rw[e3]at l4
    obtain⟨q,rfl,hq1⟩:=l4.some
    refine⟨_,rfl,rfl,_,rfl,aS (fun _=>⟨_,rfl,k H4 q ?_⟩) (fun c=>absurd (by rw[dqf (by intro z;cases z)];rfl) c)⟩
    dsimp only
    rw[e3]
    exact hq1
   |none =>
   rw[e3]at l4
   obtain rfl:v=.non:=l4
   have s4':=s3.trans s4
   obtain⟨b,hbm⟩:=o.hasM hi
   have hrow:SqT K H4 b (iV (kl S.marks[i])):=SqT.of (s4 _ _ (o.ma i b _ hbm (gge hi)))
   obtain⟨mb1,mb2⟩:=mb (List.getElem_mem hi)
   refine⟨_,rfl,rfl,_,rfl,aS (fun c=>absurd c (by decide)) (fun _=>?_)⟩
   refine⟨_,rfl,_,rfl,m,_,_,_,rfl,rfl,SqL.of (s4 _ _ o.ml),aA (j:=i) rfl (aP hbm),_,rfl,_,rfl,_,rfl,b,ga,qa,da,S.marks[i],gs,qs,ds,rfl,hrow,hg.same s4',hq.same s4',hd.same s4',bg,bq,bd,mb1,mb2,fun H5 r s5 hr5=>?_⟩
   have tl:=wS ds (plI gs qs S.marks[i])
   have dl:=hd.2
   refine⟨r,_,rfl,hr5,by omega,fun H6 q s6 hq6=>k H6 q ?_⟩
   dsimp only
   rw[e3]
   exact hq6
end
open PySem PySem.Spec PyProof.Rows L2 Wg Wx CM
open Gla (Pt)
section
variable  {S:Gla.Plan}
def fp (e:Gla.Fault):Int×Int:=((e.rule:Int),(e.place:Int))
theorem uG (r:Nat)(i:Nat):fp ⟨r,Gla.ptPlace i⟩=((r:Int),kL i):=by
 unfold fp Gla.ptPlace Gla.HEAD kL
 simp
theorem zJ (S:Gla.Plan)(r:Nat)(i:Nat):fp ⟨r,Gla.linePlace S i⟩=((r:Int),pT S i):=by
 unfold fp Gla.linePlace Gla.HEAD pT
 simp
theorem xW (S:Gla.Plan)(r:Nat)(i:Nat):fp ⟨r,Gla.markPlace S i⟩=((r:Int),me S i):=by
 unfold fp Gla.markPlace Gla.HEAD me
 simp
theorem qD (S:Gla.Plan):S.fault.map fp=lc (bP S) (eS S):=by
 unfold Gla.Plan.fault bP
 cases h4:Gla.firstBad (ok4 S) Pt.below S.pts with
 |some i =>
  have e:o4 S=some (4,kL i):=by unfold o4;rw[h4];rfl
  have h4':Gla.firstBad (fun (p:Pt)=>decide (p.x≤S.w)&&decide (p.y≤S.h)) Pt.below S.pts=some i:=h4
  rw[h4',e]
  exact congrArg some (uG 4 i)
 |none =>
 have e4:o4 S=none:=by unfold o4;rw[h4];rfl
 have h4':Gla.firstBad (fun (p:Pt)=>decide (p.x≤S.w)&&decide (p.y≤S.h)) Pt.below S.pts=none:=h4
 rw[h4',e4]
 dsimp only
 cases h5:Gla.firstBad (ok5 S) Gla.lineBelow S.lines with
 |some i =>
  have e:o5 S=some (5,pT S i):=by unfold o5;rw[h5];rfl
  have h5':Gla.firstBad (fun (l:Nat×Nat)=>decide (l.1<l.2)&&decide (l.2<S.pts.length)) Gla.lineBelow S.lines=some i:=h5
  rw[h5',e]
  exact congrArg some (zJ S 5 i)
 |none =>
 have e5:o5 S=none:=by unfold o5;rw[h5];rfl
 have h5':Gla.firstBad (fun (l:Nat×Nat)=>decide (l.1<l.2)&&decide (l.2<S.pts.length)) Gla.lineBelow S.lines=none:=h5
 rw[h5',e5]
 dsimp only
 cases h6:Gla.frameOk S with
 |false =>
  have e:o6 S=some (6,20):=by unfold o6;rw[h6];rfl
  rw[if_pos rfl,e]
  rfl
 |true =>
 have e6:o6 S=none:=by unfold o6;rw[h6];rfl
 rw[if_neg (by decide),e6]
 cases h7:Gla.firstAt (Gla.touches S) S.lines with
 |some i =>
  have e:o7 S=some (7,pT S i):=by unfold o7;rw[h7];rfl
  rw[e]
  exact congrArg some (zJ S 7 i)
 |none =>
 have e7:o7 S=none:=by unfold o7;rw[h7];rfl
 rw[e7]
 dsimp only
 cases h8:(List.range S.pts.length).find? fun (i:Nat)=>decide ((S.near i).length<2) with
 |some i =>
  have e:o8 S=some (8,kL i):=by unfold o8;rw[h8];rfl
  rw[e]
  exact congrArg some (uG 8 i)
 |none =>
 have e8:o8 S=none:=by unfold o8;rw[h8];rfl
 rw[e8]
 dsimp only
 cases h9:(List.range S.pts.length).find? fun (i:Nat)=>!((lH S).getD i false) with
 |some i =>
  have e:o9 S=some (9,kL i):=by unfold o9;rw[h9];rfl
  have h9':((List.range S.pts.length).find? fun (i:Nat)=>!((Gla.seenFrom S.nears S.pts.length 0 (Gla.noneSeen S.pts.length)).getD i false))=some i:=h9
  rw[h9',e]
  exact congrArg some (uG 9 i)
 |none =>
 have e9:o9 S=none:=by unfold o9;rw[h9];rfl
 have h9':((List.range S.pts.length).find? fun (i:Nat)=>!((Gla.seenFrom S.nears S.pts.length 0 (Gla.noneSeen S.pts.length)).getD i false))=none:=h9
 rw[h9',e9]
 dsimp only
 cases h10:(List.range S.pts.length).find? (Gla.cuts S.nears S.pts.length) with
 |some i =>
  have e:o10 S=some (10,kL i):=by unfold o10;rw[h10];rfl
  rw[e]
  exact congrArg some (uG 10 i)
 |none =>
 have e10:o10 S=none:=by unfold o10;rw[h10];rfl
 rw[e10]
 dsimp only
 cases h11:Gla.firstBad (Gla.markOk S) Gla.markBelow S.marks with
 |some i =>
  have e:o11 S=some (11,me S i):=by unfold o11;rw[h11];rfl
  rw[e]
  exact congrArg some (xW S 11 i)
 |none =>
 have e11:o11 S=none:=by unfold o11;rw[h11];rfl
 rw[e11]
 dsimp only
 unfold eS
 cases h12:Gla.twice S S.outlines 0 [] S.marks with
 |some i =>
  have e:o12 S=some (12,me S i):=by unfold o12;rw[h12];rfl
  rw[e]
  exact congrArg some (xW S 12 i)
 |none =>
 have e12:o12 S=none:=by unfold o12;rw[h12];rfl
 rw[e12]
 dsimp only
 show _=o13 S
 unfold o13
 by_cases c:S.marks.length<S.outlines.length
 ·rw[if_pos c,if_pos c]
  exact congrArg some (xW S 13 S.marks.length)
 ·rw[if_neg c,if_neg c]
  rfl
end
theorem vo {cs:List Int}(hb:Byt cs):Gla.judgePlan (toB cs)=match dk cs with
  |none=>.ok (bB cs)
  |some _=>Gla.judgePlan (toB cs):=by
 cases e:dk cs with
 |some x=>rfl
 |none =>
  unfold dk at e
  obtain⟨e1,e2⟩:=ee e
  rw[←qD]at e2
  rw[jl hb]at e1
  have h1:fT (toB cs)=none:=by
   cases q:fT (toB cs) with
   |none=>rfl
   |some x=>rw[q]at e1;cases e1
  have h2:(Gla.parts (toB cs)).fault=none:=by
   cases q:(Gla.parts (toB cs)).fault with
   |none=>rfl
   |some x =>
    have e2:(Gla.parts (toB cs)).fault.map fp=none:=e2
    rw[q]at e2
    cases e2
  rw[nk,h1,h2]
  rfl
theorem uS {cs:List Int}(hb:Byt cs){x:Int×Int}(e:dk cs=some x):∃ft,Gla.judgePlan (toB cs)=.error ft∧fp ft=x:=by
 unfold dk at e
 cases h1:fT (toB cs) with
 |some ft =>
  have e1:dM cs=some (fp ft):=by rw[jl hb,h1];rfl
  rw[e1]at e
  refine⟨ft,?_,osi e⟩
  rw[nk,h1]
 |none =>
  have e1:dM cs=none:=by rw[jl hb,h1];rfl
  rw[e1]at e
  have e:lc (bP (bB cs)) (eS (bB cs))=some x:=e
  rw[←qD]at e
  have e:(Gla.parts (toB cs)).fault.map fp=some x:=e
  cases h2:(Gla.parts (toB cs)).fault with
  |none=>rw[h2]at e;cases e
  |some ft =>
   rw[h2]at e
   refine⟨ft,?_,osi e⟩
   rw[nk,h1,h2]
theorem wb {cs:List Int}(hb:Byt cs):LightNeutral.bytes cs=some (toB cs):=by
 unfold LightNeutral.bytes
 have e:NeutralIO.bytes cs=true:=by
  unfold NeutralIO.bytes
  rw[List.all_eq_true]
  intro z hz
  have:=hb z hz
  simp only[Bool.and_eq_true,decide_eq_true_eq]
  omega
 rw[if_pos e]
 rfl
theorem uM {i:Nat}{cs gs qs ds:List Int}(hb:Byt cs)(hg:∀x∈gs,0≤x)(hq:∀x∈qs,0≤x)(hd:∀x∈ds,0≤x):PyYqglfa.pane (i:Int) cs gs qs ds=LightNeutral.told (GlaLits.answer (.pane (toB cs) ⟨LM.aX gs,LM.aX qs⟩ i (ds.map Int.toNat))):=by
 have e:LightNeutral.callOf [[1,(i:Int)],cs,gs,qs,ds]=some (.pane (toB cs) ⟨LM.aX gs,LM.aX qs⟩ i (ds.map Int.toNat)):=by
  show(do some (GlaLits.Call.pane (←LightNeutral.bytes cs) (←LightNeutral.shop gs qs) (←LightNeutral.nat (i:Int)) (←ds.mapM LightNeutral.nat)))=_
  unfold LightNeutral.shop
  rw[wb hb,LM.kS _ hg,LM.kS _ hq,LM.mL hd]
  unfold LightNeutral.nat
  rw[if_neg (by omega),Int.toNat_natCast]
  rfl
 unfold PyYqglfa.pane LightNeutral.f
 rw[e]
theorem qW {gs qs:List Int}(hm:gs.length % 32=0)(hm2:qs.length % 32=0):GlaLits.many ⟨LM.aX gs,LM.aX qs⟩=(decide (256<LM.cnt gs)||decide (256<LM.cnt qs)):=by
 unfold GlaLits.many
 simp only[LM.d7 hm,LM.d7 hm2,lmp,List.length_range]
 rfl
theorem wC {gs qs:List Int}(bg:Bd gs)(bq:Bd qs)(hm:gs.length % 32=0)(hm2:qs.length % 32=0){m:Gla.Mark}(h1:m.glass<LM.cnt gs)(h2:m.painting≤LM.cnt qs):Gla.lightOf ⟨LM.aX gs,LM.aX qs⟩ m=(plI gs qs m).map Int.toNat:=by
 unfold Gla.lightOf plI
 dsimp only
 rw[LM.rQ hm h1]
 by_cases c:m.painting=0
 ·rw[if_pos c,if_pos c]
 ·rw[if_neg c,if_neg c,LM.rQ hm2 (by omega),LM.oM (fun x hx=>((bg.lat _) x hx).1) (fun x hx=>((bq.lat _) x hx).1)]
theorem yV {i:Nat}{cs gs qs ds:List Int}(hb:Byt cs)(hg:∀x∈gs,0≤x)(hq:∀x∈qs,0≤x)(hd:∀x∈ds,0≤x):jz i cs gs qs ds=PyYqglfa.pane (i:Int) cs gs qs ds:=by
 rw[uM hb hg hq hd]
 have hask:GlaLits.asked (.pane (toB cs) ⟨LM.aX gs,LM.aX qs⟩ i (ds.map Int.toNat))=((LM.cF gs&&LM.cF qs)&&LM.isL ds):=by
  show(GlaLits.shopOk _&&Gla.lightOk _)=_
  unfold GlaLits.shopOk
  rw[LM.uu hg,LM.uu hq,LM.nV hd]
 unfold GlaLits.answer
 rw[hask]
 cases e1:iP cs gs qs ds with
 |some r =>
  have ep:jz i cs gs qs ds=r:=by unfold jz;rw[e1]
  rw[ep]
  unfold iP at e1
  by_cases c:(LM.isL ds&&(LM.cF gs&&LM.cF qs))=false
  ·rw[if_pos c]at e1
   rw[if_pos (by rw[Bool.and_comm];exact c),←osi e1]
   rfl
  ·rw[if_neg c]at e1
   rw[if_neg (by rw[Bool.and_comm];exact c)]
   by_cases c2:(decide (131072<cs.length)||(decide (256<LM.cnt gs)||decide (256<LM.cnt qs)))=true
   ·rw[if_pos c2]at e1
    have c:(LM.isL ds&&(LM.cF gs&&LM.cF qs))=true:=by
     cases q:(LM.isL ds&&(LM.cF gs&&LM.cF qs)) with
     |true=>rfl
     |false=>exact absurd q c
    rw[Bool.and_eq_true,Bool.and_eq_true]at c
    show r=LightNeutral.told (GlaLits.ofPlan _ _ _)
    unfold GlaLits.ofPlan
    rw[if_pos ?_,←osi e1]
    ·rfl
    ·rw[qW (LM.j9 c.2.1) (LM.j9 c.2.2)]
     have hl:(toB cs).length=cs.length:=by unfold toB;rw[lmp]
     rw[hl]
     rw[Bool.or_eq_true,decide_eq_true_eq]at c2
     exact c2
   ·rw[if_neg c2]at e1
    cases e1
 |none =>
  obtain⟨bg,bq,bd⟩:=tL e1
  have c:(LM.isL ds&&(LM.cF gs&&LM.cF qs))=true∧¬(decide (131072<cs.length)||(decide (256<LM.cnt gs)||decide (256<LM.cnt qs)))=true:=by
   unfold iP at e1
   split at e1
   ·cases e1
   ·rename_i q
    split at e1
    ·cases e1
    ·rename_i q2
     refine⟨?_,q2⟩
     cases z:(LM.isL ds&&(LM.cF gs&&LM.cF qs)) with
     |true=>rfl
     |false=>exact absurd z q
  obtain⟨c,c2⟩:=c
  rw[if_neg (by rw[Bool.and_comm,c];decide)]
  rw[Bool.and_eq_true,Bool.and_eq_true]at c
  have m1:=LM.j9 c.2.1
  have m2:=LM.j9 c.2.2
  show _=LightNeutral.told (GlaLits.ofPlan _ _ _)
  unfold GlaLits.ofPlan
  rw[if_neg ?_]
  ·cases e2:dk cs with
   |some x =>
    obtain⟨ft,hj,hx⟩:=uS hb e2
    rw[hj]
    unfold jz
    rw[e1,e2,←hx]
    rfl
   |none =>
    have hj:=vo hb
    rw[e2]at hj
    have hj:Gla.judgePlan (toB cs)=.ok (bB cs):=hj
    rw[hj]
    unfold jz
    rw[e1,e2]
    generalize bB cs=S
    show(match S.marks[i]? with
     |none=>[-2]
     |some m=>match mr (cO gs qs S) with
      |some r=>r
      |none=>0 :: ((LM.thI ds (plI gs qs m)).length:Int) :: LM.thI ds (plI gs qs m))=LightNeutral.told (match S.marks[i]? with
     |none=>GlaLits.NO
     |some m=>GlaLits.withShop ⟨LM.aX gs,LM.aX qs⟩ S (.row (Gla.seenOf ⟨LM.aX gs,LM.aX qs⟩ (ds.map Int.toNat) m)))
    cases hm:S.marks[i]? with
    |none=>rfl
    |some m =>
     dsimp only
     have hst:Gla.strange ⟨LM.aX gs,LM.aX qs⟩ S=cO gs qs S:=by
      unfold Gla.strange cO Gla.goesWith
      simp only[LM.d7 m1,LM.d7 m2,lmp,List.length_range]
     unfold GlaLits.withShop
     rw[hst]
     cases hs:cO gs qs S with
     |some kx=>rfl
     |none =>
      obtain⟨hi,hmi⟩:=gsi hm
      have hno:=WL.fw hs i hi
      rw[hmi]at hno
      have hno:(decide (m.glass<LM.cnt gs)&&decide (m.painting≤LM.cnt qs))=true:=by
       cases q:(decide (m.glass<LM.cnt gs)&&decide (m.painting≤LM.cnt qs)) with
       |true=>rfl
       |false=>rw[q]at hno;cases hno
      rw[Bool.and_eq_true,decide_eq_true_eq,decide_eq_true_eq]at hno
      show 0 :: _=0 :: LightNeutral.rowN (LightNeutral.ints (Gla.seenOf _ _ m))
      unfold Gla.seenOf
      rw[wC bg bq m1 m2 hno.1 hno.2,←LM.oM (fun x hx=>(bd x hx).1) (fun x hx=>((wu bg bq m) x hx).1)]
      have hnn:=(bd.th (wu bg bq m))
      have ei:LightNeutral.ints ((LM.thI ds (plI gs qs m)).map Int.toNat)=LM.thI ds (plI gs qs m):=LM.io (fun x hx=>(hnn x hx).1)
      rw[ei]
      rfl
  ·rw[qW m1 m2]
   have hl:(toB cs).length=cs.length:=by unfold toB;rw[lmp]
   rw[hl]
   rw[Bool.or_eq_true,decide_eq_true_eq]at c2
   exact c2
open PySem PySem.Spec PyProof.Rows L2 Wg Wx CM
open Gla (Pt)
end Wl
open PySem PySem.W PyProof.Rows
theorem Wl.ji {lo hi:Int}{n m:Nat}{l:List Int}(h:(Codec.inLen n m l&&l.all (Codec.inInt lo hi))=true):l.length≤m∧∀x∈l,lo≤x∧x≤hi:=by
 rw[Bool.and_eq_true]at h
 refine⟨(Codec.inNat_iff.mp h.1).2,fun x hx=>?_⟩
 have q:=List.all_eq_true.mp h.2 x hx
 unfold Codec.inInt at q
 rw[Bool.and_eq_true,decide_eq_true_eq,decide_eq_true_eq]at q
 exact q
theorem Wl.yW {K:Frag}{mg:Str→Option Value}{h:Heap}{x:Str}{p:Addr}{od:Option Addr}{its:Array Value}{n:Nat}{osl:Array (Option Value)}{r:List Int}(X:K.In h)(G:h.Ns mainGlobals mg)(a:PySem.W.nsIn K mainGlobals x=some (some (.ref p)))
  (l:K.lookup p=some ⟨.type "tuple",od,.seq its n,osl⟩) (v:L2.aT (Wg.iV r) its.toList) (z:its.size≤sizeLine):Wl.Af K mg x r:=⟨p,PySem.W.mg_of X G a,fun H=>.inr ⟨_,its,n,l,rfl,rfl,z,v⟩⟩
def Wl.mK (K:Frag)(b:Addr)(r:List Int):Prop:=∀H:L2.Hp,L2.SqT K H b (Wg.iV r)
theorem Wl.kX {K:Frag}{p:Addr}{od:Option Addr}{its:Array Value}{n:Nat}{osl:Array (Option Value)}{r:List Int} (l:K.lookup p=some ⟨.type "tuple",od,.seq its n,osl⟩) (v:L2.aT (Wg.iV r) its.toList) (z:its.size≤sizeLine):Wl.mK K p r:=fun H=>.inr ⟨_,its,n,l,rfl,rfl,z,v⟩
theorem Wl.wd {K:Frag}{mg:Str→Option Value}{h:Heap}{x:Str}{p b1 b2 b3 b4 b5 b6:Addr}{od:Option Addr}{n:Nat}{osl:Array (Option Value)}{r1 r2 r3 r4 r5 r6:List Int}(X:K.In h)(G:h.Ns mainGlobals mg)(a:PySem.W.nsIn K mainGlobals x=some (some (.ref p)))
  (l:K.lookup p=some ⟨.type "tuple",od,.seq #[.ref b1,.ref b2,.ref b3,.ref b4,.ref b5,.ref b6] n,osl⟩) (h1:Wl.mK K b1 r1) (h2:Wl.mK K b2 r2) (h3:Wl.mK K b3 r3) (h4:Wl.mK K b4 r4) (h5:Wl.mK K b5 r5) (h6:Wl.mK K b6 r6):Wl.wo K mg x [r1,r2,r3,r4,r5,r6]:=by
 refine⟨p,[b1,b2,b3,b4,b5,b6],PySem.W.mg_of X G a,rfl,fun H=>.inr ⟨_,_,n,l,rfl,rfl,(by show 6≤sizeLine;decide),.cons rfl (.cons rfl (.cons rfl (.cons rfl (.cons rfl (.cons rfl .nil)))))⟩,fun H i b r e1 e2=>?_⟩
 have hi:i<6:=(gsi e1).1
 rcases(by omega:i=0∨i=1∨i=2∨i=3∨i=4∨i=5) with rfl|rfl|rfl|rfl|rfl|rfl
 ·cases osi e1;cases osi e2;exact h1 H
 ·cases osi e1;cases osi e2;exact h2 H
 ·cases osi e1;cases osi e2;exact h3 H
 ·cases osi e1;cases osi e2;exact h4 H
 ·cases osi e1;cases osi e2;exact h5 H
 ·cases osi e1;cases osi e2;exact h6 H
theorem Wl.xn {P:Program}{w:World}{K:Frag}{mg:Str→Option Value}{base:Heap}{C CV:Addr}(T:Wl.DCl K mg C)(TV:Wl.VCl K mg CV)
  (g_HEAD_BYTES:∃t,mg "HEAD_BYTES"=some (.int 20 t)) (g_POINT_BYTES:∃t,mg "POINT_BYTES"=some (.int 8 t)) (g_LINE_BYTES:∃t,mg "LINE_BYTES"=some (.int 4 t)) (g_MARK_BYTES:∃t,mg "MARK_BYTES"=some (.int 12 t)) (g_MOST_LIGHTS:∃t,mg "MOST_LIGHTS"=some (.int 256 t)) (g_MOST_BYTES:∃t,mg "MOST_BYTES"=some (.int 131072 t)) (g_BANDS:∃t,mg "BANDS"=some (.int 32 t)) (g_FULL:∃t,mg "FULL"=some (.int 65535 t))
  (n_len:mg "len"=none) (n_range:mg "range"=none) (n_enumerate:mg "enumerate"=none) (n_list:mg "list"=none) (n_reversed:mg "reversed"=none) (n_min:mg "min"=none) (n_max:mg "max"=none) (n_zip:mg "zip"=none)
  (gS:Wl.Af K mg "SIGN" CM.jT) (gH:Wl.wo K mg "HEAD_NUMBERS" CM.fg)
  (I1:Wg.pP K C "Drawing.__init__" Wl.dZ ["self","width","height","points","lines","marks"]) (I2:Wg.pP K CV "Verdict.__init__" Wl.eF ["self","fault","drawing","outlines"])
  (M1:Wg.jB K C "place_of_point" "Drawing.place_of_point" Wl.fZ ["self","k"]) (M2:Wg.jB K C "place_of_line" "Drawing.place_of_line" Wl.fN ["self","k"]) (M3:Wg.jB K C "place_of_mark" "Drawing.place_of_mark" Wl.fV ["self","k"]) (M4:Wg.jB K C "place_of_end" "Drawing.place_of_end" Wl.gb ["self"])
  (F_number_at:Wg.Has K mg "number_at" Wl.gA ["cartoon","place","size"])
  (F_told_length:Wg.Has K mg "told_length" Wl.eT ["cartoon"])
  (F_fault_of_bytes:Wg.Has K mg "fault_of_bytes" Wl.dH ["cartoon"])
  (F_read_point:Wg.Has K mg "read_point" Wl.fk ["cartoon","place"])
  (F_read_line:Wg.Has K mg "read_line" Wl.gd ["cartoon","place"])
  (F_read_mark:Wg.Has K mg "read_mark" Wl.gt ["cartoon","place"])
  (F_read_drawing:Wg.Has K mg "read_drawing" Wl.bT ["cartoon"])
  (F_turn:Wg.Has K mg "turn" Wl.pQ ["p","q","r"])
  (F_comes_behind:Wg.Has K mg "comes_behind" Wl.eo ["q","p"])
  (F_is_in_box:Wg.Has K mg "is_in_box" Wl.gc ["p","q","r"])
  (F_is_on:Wg.Has K mg "is_on" Wl.l5 ["p","q","r"])
  (F_are_parted:Wg.Has K mg "are_parted" Wl.fq ["p","q","r","s"])
  (F_do_cross:Wg.Has K mg "do_cross" Wl.iu ["p","q","r","s"])
  (F_twice_area:Wg.Has K mg "twice_area" Wl.fB ["corners"])
  (F_is_left_beside:Wg.Has K mg "is_left_beside" Wl.dz ["p","q","r"])
  (F_is_inside:Wg.Has K mg "is_inside" Wl.gg ["corners","r"])
  (F_fault_of_points:Wg.Has K mg "fault_of_points" Wl.c8 ["drawing"])
  (F_fault_of_lines:Wg.Has K mg "fault_of_lines" Wl.dw ["drawing"])
  (F_are_joined_in_a_row:Wg.Has K mg "are_joined_in_a_row" Wl.bU ["numbers","lines"])
  (F_fault_of_frame:Wg.Has K mg "fault_of_frame" Wl.bf ["drawing"])
  (F_has_point_on_it:Wg.Has K mg "has_point_on_it" Wl.cX ["drawing","line"])
  (F_crosses_one_before:Wg.Has K mg "crosses_one_before" Wl.cf ["drawing","k"])
  (F_fault_of_crossings:Wg.Has K mg "fault_of_crossings" Wl.cg ["drawing"])
  (F_neighbours_of:Wg.Has K mg "neighbours_of" Wl.cN ["drawing"])
  (F_reached_from:Wg.Has K mg "reached_from" Wl.dg ["start","neighbours","left_out"])
  (F_fault_of_ends:Wg.Has K mg "fault_of_ends" Wl.dX ["drawing","neighbours"])
  (F_fault_of_ways:Wg.Has K mg "fault_of_ways" Wl.dW ["drawing","neighbours"])
  (F_fault_of_narrows:Wg.Has K mg "fault_of_narrows" Wl.cJ ["drawing","neighbours"])
  (F_is_within_frame:Wg.Has K mg "is_within_frame" Wl.cY ["drawing","mark"])
  (F_is_on_some_line:Wg.Has K mg "is_on_some_line" Wl.dc ["drawing","mark"])
  (F_fault_of_marks:Wg.Has K mg "fault_of_marks" Wl.du ["drawing"])
  (F_fault_of_drawing:Wg.Has K mg "fault_of_drawing" Wl.cB ["drawing"])
  (F_sorted_by_turn:Wg.Has K mg "sorted_by_turn" Wl.dC ["points","middle","ends"])
  (F_ring_round:Wg.Has K mg "ring_round" Wl.dI ["points","middle","ends"])
  (F_walk_round:Wg.Has K mg "walk_round" Wl.fG ["rings","first","second"])
  (F_points_at:Wg.Has K mg "points_at" Wl.eW ["points","corners"])
  (F_outlines_of:Wg.Has K mg "outlines_of" Wl.dS ["drawing"])
  (F_holder_of:Wg.Has K mg "holder_of" Wl.gx ["mark","shapes"])
  (F_judge_marks:Wg.Has K mg "judge_marks" Wl.cP ["drawing","outlines"])
  (F_judge:Wg.Has K mg "judge" Wl.lZ ["cartoon"])
  (F_are_bands:Wg.Has K mg "are_bands" Wl.gh ["row"])
  (F_is_light:Wg.Has K mg "is_light" Wl.ii ["row"])
  (F_are_lights:Wg.Has K mg "are_lights" Wl.fA ["row"])
  (F_how_many_lights:Wg.Has K mg "how_many_lights" Wl.cW ["row"])
  (F_light_at:Wg.Has K mg "light_at" Wl.ie ["row","k"])
  (F_light_through:Wg.Has K mg "light_through" Wl.cM ["one","other"])
  (F_first_mark_without_light:Wg.Has K mg "first_mark_without_light" Wl.bp ["marks","glasses","paintings"])
  (F_pane_light:Wg.Has K mg "pane_light" Wl.fz ["mark","glasses","paintings"])
  (F_seen_light:Wg.Has K mg "seen_light" Wl.fI ["mark","glasses","paintings","daylight"])
  (F_refusal_of_rows:Wg.Has K mg "refusal_of_rows" Wl.db ["cartoon","glasses","paintings","daylight"])
  (F_refusal_of_cartoon:Wg.Has K mg "refusal_of_cartoon" Wl.b8 ["verdict"])
  (F_refusal_of_marks:Wg.Has K mg "refusal_of_marks" Wl.cE ["marks","glasses","paintings"])
  (F_row_answer:Wg.Has K mg "row_answer" Wl.fD ["row"])
  (F_pane:Wg.Has K mg "pane" Wl.qo ["i","cartoon","glasses","paintings","daylight"]) :
  Wg.Cb P w K mg base 8 "pane" ["i","cartoon","glasses","paintings","daylight"] (Wl.sI K):=by
 have m1:=Wl.BG (P:=P) (w:=w) (base:=base) M1 g_HEAD_BYTES g_POINT_BYTES
 have m2:=Wl.Dj M2 T n_len g_LINE_BYTES m1
 have m3:=Wl.Ct M3 T n_len g_MARK_BYTES m2
 have m4:=Wl.Db M4 T n_len m3
 have i1:=Wl.yS (P:=P) (w:=w) (base:=base) I1 T
 have i2:=Wl.Ad (P:=P) (w:=w) (base:=base) I2 TV
 have num:=Wl.AI (P:=P) (w:=w) (base:=base) F_number_at n_reversed
 have told:=Wl.yu F_told_length g_HEAD_BYTES g_POINT_BYTES g_LINE_BYTES g_MARK_BYTES num
 have fb:=Wl.BD F_fault_of_bytes n_len n_list g_HEAD_BYTES gS gH num told
 have rp:=Wl.B5 F_read_point num
 have rl:=Wl.BJ F_read_line num
 have rm:=Wl.CG F_read_mark rp rl
 have rd:=Wl.Ch F_read_drawing T n_len n_range g_HEAD_BYTES g_POINT_BYTES g_LINE_BYTES g_MARK_BYTES num rp rl rm i1
 have turn:=Wl.yd (P:=P) (w:=w) (base:=base) F_turn
 have beh:=Wl.CT (P:=P) (w:=w) (base:=base) F_comes_behind
 have box:=Wl.Ax (P:=P) (w:=w) (base:=base) F_is_in_box n_min n_max
 have on_:=Wl.Cf F_is_on turn box
 have part:=Wl.yf F_are_parted turn
 have cross:=Wl.wv F_do_cross part
 have area:=Wl.yp (P:=P) (w:=w) (base:=base) F_twice_area
 have bes:=Wl.A7 F_is_left_beside turn
 have ins:=Wl.Ds F_is_inside bes
 have f4:=Wl.DK F_fault_of_points T n_enumerate m1 beh
 have f5:=Wl.Df F_fault_of_lines T n_enumerate n_len m2
 have jr:=Wl.Bx (P:=P) (w:=w) (base:=base) F_are_joined_in_a_row n_range n_len
 have f6:=Wl.DF F_fault_of_frame T n_enumerate n_list m1 jr
 have ho:=Wl.Bq F_has_point_on_it T n_range on_
 have xo:=Wl.De F_crosses_one_before T n_range cross
 have f7:=Wl.BW F_fault_of_crossings T n_enumerate ho xo m2
 have nb:=Wl.Bz (P:=P) (w:=w) (base:=base) F_neighbours_of T
 have rf:=Wl.B3 (P:=P) (w:=w) (base:=base) F_reached_from n_len
 have f8:=Wl.CC F_fault_of_ends T n_enumerate n_len m1
 have f9:=Wl.CO F_fault_of_ways T n_enumerate m1 rf
 have f10:=Wl.AY F_fault_of_narrows T n_range n_len m1 rf
 have wf:=Wl.CL (P:=P) (w:=w) (base:=base) F_is_within_frame T
 have ol:=Wl.CQ F_is_on_some_line T on_
 have f11:=Wl.A6 F_fault_of_marks T n_enumerate m3 beh wf ol
 have fd:=Wl.Cl F_fault_of_drawing f4 f5 f6 f7 nb f8 f9 f10 f11
 have st:=Wl.DH F_sorted_by_turn n_len turn
 have rr:=Wl.Bw F_ring_round st
 have wr:=Wl.Bt (P:=P) (w:=w) (base:=base) F_walk_round
 have pa:=Wl.Dm (P:=P) (w:=w) (base:=base) F_points_at
 have out:=Wl.A1 F_outlines_of T n_enumerate nb rr wr area pa
 have hold:=Wl.zh F_holder_of n_enumerate ins
 have jm:=Wl.BL F_judge_marks T TV n_enumerate n_len i2 pa hold m3 m4
 have j:=Wl.DN F_judge TV i2 fb rd fd out jm
 have fQ:=Wl.x5 (P:=P) (w:=w) (base:=base) F_are_bands g_FULL
 have isl:=Wl.AF F_is_light g_BANDS n_len fQ
 have arel:=Wl.yA F_are_lights g_BANDS n_len fQ
 have cnt:=Wl.AW (P:=P) (w:=w) (base:=base) F_how_many_lights g_BANDS n_len
 have lat:=Wl.zW (P:=P) (w:=w) (base:=base) F_light_at g_BANDS
 have thr:=Wl.AU (P:=P) (w:=w) (base:=base) F_light_through g_FULL n_zip
 have fm:=Wl.CZ F_first_mark_without_light n_enumerate cnt
 have pn:=Wl.BH F_pane_light lat thr
 have sn:=Wl.CF F_seen_light pn thr
 have ra:=Wl.Dx (P:=P) (w:=w) (base:=base) F_row_answer n_len
 have r1:=Wl.Ab F_refusal_of_rows n_len g_MOST_LIGHTS g_MOST_BYTES isl arel cnt
 have rc:=Wl.Dk (P:=P) (w:=w) (base:=base) F_refusal_of_cartoon TV
 have rm1:=Wl.AR F_refusal_of_marks fm
 exact Wl.yB F_pane T TV n_len r1 j rc rm1 sn ra
theorem Wl.yi {K:Frag}{mg:Str→Option Value}{h:Heap}{C:Addr}{f0:Addr}{od0 an0:Option Addr}{sl0:Array (Option Value)}{oc0 kV0 dc0 pm0 cd0 ct0:Value}{f1:Addr}{od1 an1:Option Addr}{sl1:Array (Option Value)}{oc1 kV1 dc1 pm1 cd1 ct1:Value}{f2:Addr}{od2 an2:Option Addr}{sl2:Array (Option Value)}{oc2 kV2 dc2 pm2 cd2 ct2:Value}{f3:Addr}{od3 an3:Option Addr}{sl3:Array (Option Value)}{oc3 kV3 dc3 pm3 cd3 ct3:Value}{f4:Addr}{od4 an4:Option Addr}{sl4:Array (Option Value)}{oc4 kV4 dc4 pm4 cd4 ct4:Value}(X:K.In h)(G:h.Ns mainGlobals mg)
  (aC:PySem.W.nsIn K mainGlobals "Drawing"=some (some (.ref C)))
  (pg:PySem.W.plainGet K C Str.empty=true) (hd:PySem.W.hasDictIn K C=true) (po:PySem.W.plainOver K C=true) (sa:PySem.W.findIn K (.ref C) "__setattr__"=some (some (.builtin "object.__setattr__"))) (mk:PySem.W.makesIn K C=true) (kc:PySem.W.keepIn K (.ref C)=true)
  (n0:PySem.W.findIn K (.ref C) "width"=some none)
  (n1:PySem.W.findIn K (.ref C) "height"=some none)
  (n2:PySem.W.findIn K (.ref C) "points"=some none)
  (n3:PySem.W.findIn K (.ref C) "lines"=some none)
  (n4:PySem.W.findIn K (.ref C) "marks"=some none)
  (a0:PySem.W.findIn K (.ref C) "__init__"=some (some (.ref f0))) (i0:PySem.W.isFn K (.ref f0)=true) (l0:K.lookup f0=some ⟨oc0,od0,.func (PySem.W.fnOf "__init__" "Drawing.__init__" (L2.cD Wl.dZ) (L2.bM Wl.dZ) (L2.ah Wl.dZ) .none kV0 dc0 pm0 an0 cd0 ct0),sl0⟩) (c0:PySem.W.codeIn K cd0 "Drawing.__init__"=true) (k0:PySem.W.keepIn K (.ref f0)=true)
  (a1:PySem.W.findIn K (.ref C) "place_of_point"=some (some (.ref f1))) (i1:PySem.W.isFn K (.ref f1)=true) (l1:K.lookup f1=some ⟨oc1,od1,.func (PySem.W.fnOf "place_of_point" "Drawing.place_of_point" (L2.cD Wl.fZ) (L2.bM Wl.fZ) (L2.ah Wl.fZ) .none kV1 dc1 pm1 an1 cd1 ct1),sl1⟩) (c1:PySem.W.codeIn K cd1 "Drawing.place_of_point"=true) (k1:PySem.W.keepIn K (.ref f1)=true)
  (a2:PySem.W.findIn K (.ref C) "place_of_line"=some (some (.ref f2))) (i2:PySem.W.isFn K (.ref f2)=true) (l2:K.lookup f2=some ⟨oc2,od2,.func (PySem.W.fnOf "place_of_line" "Drawing.place_of_line" (L2.cD Wl.fN) (L2.bM Wl.fN) (L2.ah Wl.fN) .none kV2 dc2 pm2 an2 cd2 ct2),sl2⟩) (c2:PySem.W.codeIn K cd2 "Drawing.place_of_line"=true) (k2:PySem.W.keepIn K (.ref f2)=true)
  (a3:PySem.W.findIn K (.ref C) "place_of_mark"=some (some (.ref f3))) (i3:PySem.W.isFn K (.ref f3)=true) (l3:K.lookup f3=some ⟨oc3,od3,.func (PySem.W.fnOf "place_of_mark" "Drawing.place_of_mark" (L2.cD Wl.fV) (L2.bM Wl.fV) (L2.ah Wl.fV) .none kV3 dc3 pm3 an3 cd3 ct3),sl3⟩) (c3:PySem.W.codeIn K cd3 "Drawing.place_of_mark"=true) (k3:PySem.W.keepIn K (.ref f3)=true)
  (a4:PySem.W.findIn K (.ref C) "place_of_end"=some (some (.ref f4))) (i4:PySem.W.isFn K (.ref f4)=true) (l4:K.lookup f4=some ⟨oc4,od4,.func (PySem.W.fnOf "place_of_end" "Drawing.place_of_end" (L2.cD Wl.gb) (L2.bM Wl.gb) (L2.ah Wl.gb) .none kV4 dc4 pm4 an4 cd4 ct4),sl4⟩) (c4:PySem.W.codeIn K cd4 "Drawing.place_of_end"=true) (k4:PySem.W.keepIn K (.ref f4)=true) :
  ∃C:Addr,Wl.DCl K mg C∧Wg.pP K C "Drawing.__init__" Wl.dZ ["self","width","height","points","lines","marks"]∧Wg.jB K C "place_of_point" "Drawing.place_of_point" Wl.fZ ["self","k"]∧Wg.jB K C "place_of_line" "Drawing.place_of_line" Wl.fN ["self","k"]∧Wg.jB K C "place_of_mark" "Drawing.place_of_mark" Wl.fV ["self","k"]∧Wg.jB K C "place_of_end" "Drawing.place_of_end" Wl.gb ["self"] :=
 ⟨C,⟨⟨pg,hd,po,sa⟩,n0,n1,n2,n3,n4,PySem.W.mg_of X G aC⟩,Wg.uh (fun _ _ _ _ _ _ us hl=>match us,hl with|[_,_,_,_,_,_],_=>rfl) mk kc a0 i0 l0 c0 k0,Wg.lV (fun _ _ _ _ _ _ us hl=>match us,hl with|[_,_],_=>rfl) a1 i1 l1 c1 k1,Wg.lV (fun _ _ _ _ _ _ us hl=>match us,hl with|[_,_],_=>rfl) a2 i2 l2 c2 k2,Wg.lV (fun _ _ _ _ _ _ us hl=>match us,hl with|[_,_],_=>rfl) a3 i3 l3 c3 k3,Wg.lV (fun _ _ _ _ _ _ us hl=>match us,hl with|[_],_=>rfl) a4 i4 l4 c4 k4⟩
theorem Wl.Bh {K:Frag}{mg:Str→Option Value}{h:Heap}{C:Addr}{f0:Addr}{od0 an0:Option Addr}{sl0:Array (Option Value)}{oc0 kV0 dc0 pm0 cd0 ct0:Value}(X:K.In h)(G:h.Ns mainGlobals mg)
  (aC:PySem.W.nsIn K mainGlobals "Verdict"=some (some (.ref C)))
  (pg:PySem.W.plainGet K C Str.empty=true) (hd:PySem.W.hasDictIn K C=true) (po:PySem.W.plainOver K C=true) (sa:PySem.W.findIn K (.ref C) "__setattr__"=some (some (.builtin "object.__setattr__"))) (mk:PySem.W.makesIn K C=true) (kc:PySem.W.keepIn K (.ref C)=true)
  (n0:PySem.W.findIn K (.ref C) "fault"=some none)
  (n1:PySem.W.findIn K (.ref C) "drawing"=some none)
  (n2:PySem.W.findIn K (.ref C) "outlines"=some none)
  (a0:PySem.W.findIn K (.ref C) "__init__"=some (some (.ref f0))) (i0:PySem.W.isFn K (.ref f0)=true) (l0:K.lookup f0=some ⟨oc0,od0,.func (PySem.W.fnOf "__init__" "Verdict.__init__" (L2.cD Wl.eF) (L2.bM Wl.eF) (L2.ah Wl.eF) .none kV0 dc0 pm0 an0 cd0 ct0),sl0⟩) (c0:PySem.W.codeIn K cd0 "Verdict.__init__"=true) (k0:PySem.W.keepIn K (.ref f0)=true) :
  ∃C:Addr,Wl.VCl K mg C∧Wg.pP K C "Verdict.__init__" Wl.eF ["self","fault","drawing","outlines"] :=
 ⟨C,⟨⟨pg,hd,po,sa⟩,n0,n1,n2,PySem.W.mg_of X G aC⟩,Wg.uh (fun _ _ _ _ _ _ us hl=>match us,hl with|[_,_,_,_],_=>rfl) mk kc a0 i0 l0 c0 k0⟩
end
section
open PySem PySem.W PyProof.Rows
set_option maxRecDepth 100000 in
set_option maxHeartbeats 0 in
theorem PySem.Challenge.cw_windowlight_s01_pane_holds : PySem.Challenge.rw_windowlight_s01_pane.Holds := by
 w_on;k_headS;(case hw=>exact⟨[.int 0,.list [],.list [],.list [],.list []],by decide +kernel,by decide +kernel⟩)
 k_fillS
 refine L2.sX (r:=PySem.Challenge.rw_windowlight_s01_pane) (k:=8) (CX:=L2.CX0) (ps:=["i","cartoon","glasses","paintings","daylight"]) (sp:=Wl.sI) (by decide +kernel) rfl rfl ⟨rfl,by decide,by decide⟩ (fun w h Y=>PySem.W.kIn_of Y) ?F ?S (fun _ _ _ _ z=>z)
 case F =>
  intro w mg fa h Y KX G hmg
  have F_number_at:=by refine' Wg.aM (x:="number_at") (st:=Wl.gA) (ps:=["cartoon","place","size"]) KX G (fun _ _ _ _ _ _ us hl=>match us,hl with|[_,_,_],_=>rfl) ?a ?l ?c ?k;(case a=>k_is);(case l=>k_is);(case c=>k_is);(case k=>k_is)
  have F_told_length:=by refine' Wg.aM (x:="told_length") (st:=Wl.eT) (ps:=["cartoon"]) KX G (fun _ _ _ _ _ _ us hl=>match us,hl with|[_],_=>rfl) ?a ?l ?c ?k;(case a=>k_is);(case l=>k_is);(case c=>k_is);(case k=>k_is)
  have F_fault_of_bytes:=by refine' Wg.aM (x:="fault_of_bytes") (st:=Wl.dH) (ps:=["cartoon"]) KX G (fun _ _ _ _ _ _ us hl=>match us,hl with|[_],_=>rfl) ?a ?l ?c ?k;(case a=>k_is);(case l=>k_is);(case c=>k_is);(case k=>k_is)
  have F_read_point:=by refine' Wg.aM (x:="read_point") (st:=Wl.fk) (ps:=["cartoon","place"]) KX G (fun _ _ _ _ _ _ us hl=>match us,hl with|[_,_],_=>rfl) ?a ?l ?c ?k;(case a=>k_is);(case l=>k_is);(case c=>k_is);(case k=>k_is)
  have F_read_line:=by refine' Wg.aM (x:="read_line") (st:=Wl.gd) (ps:=["cartoon","place"]) KX G (fun _ _ _ _ _ _ us hl=>match us,hl with|[_,_],_=>rfl) ?a ?l ?c ?k;(case a=>k_is);(case l=>k_is);(case c=>k_is);(case k=>k_is)
  have F_read_mark:=by refine' Wg.aM (x:="read_mark") (st:=Wl.gt) (ps:=["cartoon","place"]) KX G (fun _ _ _ _ _ _ us hl=>match us,hl with|[_,_],_=>rfl) ?a ?l ?c ?k;(case a=>k_is);(case l=>k_is);(case c=>k_is);(case k=>k_is)
  have F_read_drawing:=by refine' Wg.aM (x:="read_drawing") (st:=Wl.bT) (ps:=["cartoon"]) KX G (fun _ _ _ _ _ _ us hl=>match us,hl with|[_],_=>rfl) ?a ?l ?c ?k;(case a=>k_is);(case l=>k_is);(case c=>k_is);(case k=>k_is)
  have F_turn:=by refine' Wg.aM (x:="turn") (st:=Wl.pQ) (ps:=["p","q","r"]) KX G (fun _ _ _ _ _ _ us hl=>match us,hl with|[_,_,_],_=>rfl) ?a ?l ?c ?k;(case a=>k_is);(case l=>k_is);(case c=>k_is);(case k=>k_is)
  have F_comes_behind:=by refine' Wg.aM (x:="comes_behind") (st:=Wl.eo) (ps:=["q","p"]) KX G (fun _ _ _ _ _ _ us hl=>match us,hl with|[_,_],_=>rfl) ?a ?l ?c ?k;(case a=>k_is);(case l=>k_is);(case c=>k_is);(case k=>k_is)
  have F_is_in_box:=by refine' Wg.aM (x:="is_in_box") (st:=Wl.gc) (ps:=["p","q","r"]) KX G (fun _ _ _ _ _ _ us hl=>match us,hl with|[_,_,_],_=>rfl) ?a ?l ?c ?k;(case a=>k_is);(case l=>k_is);(case c=>k_is);(case k=>k_is)
  have F_is_on:=by refine' Wg.aM (x:="is_on") (st:=Wl.l5) (ps:=["p","q","r"]) KX G (fun _ _ _ _ _ _ us hl=>match us,hl with|[_,_,_],_=>rfl) ?a ?l ?c ?k;(case a=>k_is);(case l=>k_is);(case c=>k_is);(case k=>k_is)
  have F_are_parted:=by refine' Wg.aM (x:="are_parted") (st:=Wl.fq) (ps:=["p","q","r","s"]) KX G (fun _ _ _ _ _ _ us hl=>match us,hl with|[_,_,_,_],_=>rfl) ?a ?l ?c ?k;(case a=>k_is);(case l=>k_is);(case c=>k_is);(case k=>k_is)
  have F_do_cross:=by refine' Wg.aM (x:="do_cross") (st:=Wl.iu) (ps:=["p","q","r","s"]) KX G (fun _ _ _ _ _ _ us hl=>match us,hl with|[_,_,_,_],_=>rfl) ?a ?l ?c ?k;(case a=>k_is);(case l=>k_is);(case c=>k_is);(case k=>k_is)
  have F_twice_area:=by refine' Wg.aM (x:="twice_area") (st:=Wl.fB) (ps:=["corners"]) KX G (fun _ _ _ _ _ _ us hl=>match us,hl with|[_],_=>rfl) ?a ?l ?c ?k;(case a=>k_is);(case l=>k_is);(case c=>k_is);(case k=>k_is)
  have F_is_left_beside:=by refine' Wg.aM (x:="is_left_beside") (st:=Wl.dz) (ps:=["p","q","r"]) KX G (fun _ _ _ _ _ _ us hl=>match us,hl with|[_,_,_],_=>rfl) ?a ?l ?c ?k;(case a=>k_is);(case l=>k_is);(case c=>k_is);(case k=>k_is)
  have F_is_inside:=by refine' Wg.aM (x:="is_inside") (st:=Wl.gg) (ps:=["corners","r"]) KX G (fun _ _ _ _ _ _ us hl=>match us,hl with|[_,_],_=>rfl) ?a ?l ?c ?k;(case a=>k_is);(case l=>k_is);(case c=>k_is);(case k=>k_is)
  have F_fault_of_points:=by refine' Wg.aM (x:="fault_of_points") (st:=Wl.c8) (ps:=["drawing"]) KX G (fun _ _ _ _ _ _ us hl=>match us,hl with|[_],_=>rfl) ?a ?l ?c ?k;(case a=>k_is);(case l=>k_is);(case c=>k_is);(case k=>k_is)
  have F_fault_of_lines:=by refine' Wg.aM (x:="fault_of_lines") (st:=Wl.dw) (ps:=["drawing"]) KX G (fun _ _ _ _ _ _ us hl=>match us,hl with|[_],_=>rfl) ?a ?l ?c ?k;(case a=>k_is);(case l=>k_is);(case c=>k_is);(case k=>k_is)
  have F_are_joined_in_a_row:=by refine' Wg.aM (x:="are_joined_in_a_row") (st:=Wl.bU) (ps:=["numbers","lines"]) KX G (fun _ _ _ _ _ _ us hl=>match us,hl with|[_,_],_=>rfl) ?a ?l ?c ?k;(case a=>k_is);(case l=>k_is);(case c=>k_is);(case k=>k_is)
  have F_fault_of_frame:=by refine' Wg.aM (x:="fault_of_frame") (st:=Wl.bf) (ps:=["drawing"]) KX G (fun _ _ _ _ _ _ us hl=>match us,hl with|[_],_=>rfl) ?a ?l ?c ?k;(case a=>k_is);(case l=>k_is);(case c=>k_is);(case k=>k_is)
  have F_has_point_on_it:=by refine' Wg.aM (x:="has_point_on_it") (st:=Wl.cX) (ps:=["drawing","line"]) KX G (fun _ _ _ _ _ _ us hl=>match us,hl with|[_,_],_=>rfl) ?a ?l ?c ?k;(case a=>k_is);(case l=>k_is);(case c=>k_is);(case k=>k_is)
  have F_crosses_one_before:=by refine' Wg.aM (x:="crosses_one_before") (st:=Wl.cf) (ps:=["drawing","k"]) KX G (fun _ _ _ _ _ _ us hl=>match us,hl with|[_,_],_=>rfl) ?a ?l ?c ?k;(case a=>k_is);(case l=>k_is);(case c=>k_is);(case k=>k_is)
  have F_fault_of_crossings:=by refine' Wg.aM (x:="fault_of_crossings") (st:=Wl.cg) (ps:=["drawing"]) KX G (fun _ _ _ _ _ _ us hl=>match us,hl with|[_],_=>rfl) ?a ?l ?c ?k;(case a=>k_is);(case l=>k_is);(case c=>k_is);(case k=>k_is)
  have F_neighbours_of:=by refine' Wg.aM (x:="neighbours_of") (st:=Wl.cN) (ps:=["drawing"]) KX G (fun _ _ _ _ _ _ us hl=>match us,hl with|[_],_=>rfl) ?a ?l ?c ?k;(case a=>k_is);(case l=>k_is);(case c=>k_is);(case k=>k_is)
  have F_reached_from:=by refine' Wg.aM (x:="reached_from") (st:=Wl.dg) (ps:=["start","neighbours","left_out"]) KX G (fun _ _ _ _ _ _ us hl=>match us,hl with|[_,_,_],_=>rfl) ?a ?l ?c ?k;(case a=>k_is);(case l=>k_is);(case c=>k_is);(case k=>k_is)
  have F_fault_of_ends:=by refine' Wg.aM (x:="fault_of_ends") (st:=Wl.dX) (ps:=["drawing","neighbours"]) KX G (fun _ _ _ _ _ _ us hl=>match us,hl with|[_,_],_=>rfl) ?a ?l ?c ?k;(case a=>k_is);(case l=>k_is);(case c=>k_is);(case k=>k_is)
  have F_fault_of_ways:=by refine' Wg.aM (x:="fault_of_ways") (st:=Wl.dW) (ps:=["drawing","neighbours"]) KX G (fun _ _ _ _ _ _ us hl=>match us,hl with|[_,_],_=>rfl) ?a ?l ?c ?k;(case a=>k_is);(case l=>k_is);(case c=>k_is);(case k=>k_is)
  have F_fault_of_narrows:=by refine' Wg.aM (x:="fault_of_narrows") (st:=Wl.cJ) (ps:=["drawing","neighbours"]) KX G (fun _ _ _ _ _ _ us hl=>match us,hl with|[_,_],_=>rfl) ?a ?l ?c ?k;(case a=>k_is);(case l=>k_is);(case c=>k_is);(case k=>k_is)
  have F_is_within_frame:=by refine' Wg.aM (x:="is_within_frame") (st:=Wl.cY) (ps:=["drawing","mark"]) KX G (fun _ _ _ _ _ _ us hl=>match us,hl with|[_,_],_=>rfl) ?a ?l ?c ?k;(case a=>k_is);(case l=>k_is);(case c=>k_is);(case k=>k_is)
  have F_is_on_some_line:=by refine' Wg.aM (x:="is_on_some_line") (st:=Wl.dc) (ps:=["drawing","mark"]) KX G (fun _ _ _ _ _ _ us hl=>match us,hl with|[_,_],_=>rfl) ?a ?l ?c ?k;(case a=>k_is);(case l=>k_is);(case c=>k_is);(case k=>k_is)
  have F_fault_of_marks:=by refine' Wg.aM (x:="fault_of_marks") (st:=Wl.du) (ps:=["drawing"]) KX G (fun _ _ _ _ _ _ us hl=>match us,hl with|[_],_=>rfl) ?a ?l ?c ?k;(case a=>k_is);(case l=>k_is);(case c=>k_is);(case k=>k_is)
  have F_fault_of_drawing:=by refine' Wg.aM (x:="fault_of_drawing") (st:=Wl.cB) (ps:=["drawing"]) KX G (fun _ _ _ _ _ _ us hl=>match us,hl with|[_],_=>rfl) ?a ?l ?c ?k;(case a=>k_is);(case l=>k_is);(case c=>k_is);(case k=>k_is)
  have F_sorted_by_turn:=by refine' Wg.aM (x:="sorted_by_turn") (st:=Wl.dC) (ps:=["points","middle","ends"]) KX G (fun _ _ _ _ _ _ us hl=>match us,hl with|[_,_,_],_=>rfl) ?a ?l ?c ?k;(case a=>k_is);(case l=>k_is);(case c=>k_is);(case k=>k_is)
  have F_ring_round:=by refine' Wg.aM (x:="ring_round") (st:=Wl.dI) (ps:=["points","middle","ends"]) KX G (fun _ _ _ _ _ _ us hl=>match us,hl with|[_,_,_],_=>rfl) ?a ?l ?c ?k;(case a=>k_is);(case l=>k_is);(case c=>k_is);(case k=>k_is)
  have F_walk_round:=by refine' Wg.aM (x:="walk_round") (st:=Wl.fG) (ps:=["rings","first","second"]) KX G (fun _ _ _ _ _ _ us hl=>match us,hl with|[_,_,_],_=>rfl) ?a ?l ?c ?k;(case a=>k_is);(case l=>k_is);(case c=>k_is);(case k=>k_is)
  have F_points_at:=by refine' Wg.aM (x:="points_at") (st:=Wl.eW) (ps:=["points","corners"]) KX G (fun _ _ _ _ _ _ us hl=>match us,hl with|[_,_],_=>rfl) ?a ?l ?c ?k;(case a=>k_is);(case l=>k_is);(case c=>k_is);(case k=>k_is)
  have F_outlines_of:=by refine' Wg.aM (x:="outlines_of") (st:=Wl.dS) (ps:=["drawing"]) KX G (fun _ _ _ _ _ _ us hl=>match us,hl with|[_],_=>rfl) ?a ?l ?c ?k;(case a=>k_is);(case l=>k_is);(case c=>k_is);(case k=>k_is)
  have F_holder_of:=by refine' Wg.aM (x:="holder_of") (st:=Wl.gx) (ps:=["mark","shapes"]) KX G (fun _ _ _ _ _ _ us hl=>match us,hl with|[_,_],_=>rfl) ?a ?l ?c ?k;(case a=>k_is);(case l=>k_is);(case c=>k_is);(case k=>k_is)
  have F_judge_marks:=by refine' Wg.aM (x:="judge_marks") (st:=Wl.cP) (ps:=["drawing","outlines"]) KX G (fun _ _ _ _ _ _ us hl=>match us,hl with|[_,_],_=>rfl) ?a ?l ?c ?k;(case a=>k_is);(case l=>k_is);(case c=>k_is);(case k=>k_is)
  have F_judge:=by refine' Wg.aM (x:="judge") (st:=Wl.lZ) (ps:=["cartoon"]) KX G (fun _ _ _ _ _ _ us hl=>match us,hl with|[_],_=>rfl) ?a ?l ?c ?k;(case a=>k_is);(case l=>k_is);(case c=>k_is);(case k=>k_is)
  have F_are_bands:=by refine' Wg.aM (x:="are_bands") (st:=Wl.gh) (ps:=["row"]) KX G (fun _ _ _ _ _ _ us hl=>match us,hl with|[_],_=>rfl) ?a ?l ?c ?k;(case a=>k_is);(case l=>k_is);(case c=>k_is);(case k=>k_is)
  have F_is_light:=by refine' Wg.aM (x:="is_light") (st:=Wl.ii) (ps:=["row"]) KX G (fun _ _ _ _ _ _ us hl=>match us,hl with|[_],_=>rfl) ?a ?l ?c ?k;(case a=>k_is);(case l=>k_is);(case c=>k_is);(case k=>k_is)
  have F_are_lights:=by refine' Wg.aM (x:="are_lights") (st:=Wl.fA) (ps:=["row"]) KX G (fun _ _ _ _ _ _ us hl=>match us,hl with|[_],_=>rfl) ?a ?l ?c ?k;(case a=>k_is);(case l=>k_is);(case c=>k_is);(case k=>k_is)
  have F_how_many_lights:=by refine' Wg.aM (x:="how_many_lights") (st:=Wl.cW) (ps:=["row"]) KX G (fun _ _ _ _ _ _ us hl=>match us,hl with|[_],_=>rfl) ?a ?l ?c ?k;(case a=>k_is);(case l=>k_is);(case c=>k_is);(case k=>k_is)
  have F_light_at:=by refine' Wg.aM (x:="light_at") (st:=Wl.ie) (ps:=["row","k"]) KX G (fun _ _ _ _ _ _ us hl=>match us,hl with|[_,_],_=>rfl) ?a ?l ?c ?k;(case a=>k_is);(case l=>k_is);(case c=>k_is);(case k=>k_is)
  have F_light_through:=by refine' Wg.aM (x:="light_through") (st:=Wl.cM) (ps:=["one","other"]) KX G (fun _ _ _ _ _ _ us hl=>match us,hl with|[_,_],_=>rfl) ?a ?l ?c ?k;(case a=>k_is);(case l=>k_is);(case c=>k_is);(case k=>k_is)
  have F_first_mark_without_light:=by refine' Wg.aM (x:="first_mark_without_light") (st:=Wl.bp) (ps:=["marks","glasses","paintings"]) KX G (fun _ _ _ _ _ _ us hl=>match us,hl with|[_,_,_],_=>rfl) ?a ?l ?c ?k;(case a=>k_is);(case l=>k_is);(case c=>k_is);(case k=>k_is)
  have F_pane_light:=by refine' Wg.aM (x:="pane_light") (st:=Wl.fz) (ps:=["mark","glasses","paintings"]) KX G (fun _ _ _ _ _ _ us hl=>match us,hl with|[_,_,_],_=>rfl) ?a ?l ?c ?k;(case a=>k_is);(case l=>k_is);(case c=>k_is);(case k=>k_is)
  have F_seen_light:=by refine' Wg.aM (x:="seen_light") (st:=Wl.fI) (ps:=["mark","glasses","paintings","daylight"]) KX G (fun _ _ _ _ _ _ us hl=>match us,hl with|[_,_,_,_],_=>rfl) ?a ?l ?c ?k;(case a=>k_is);(case l=>k_is);(case c=>k_is);(case k=>k_is)
  have F_refusal_of_rows:=by refine' Wg.aM (x:="refusal_of_rows") (st:=Wl.db) (ps:=["cartoon","glasses","paintings","daylight"]) KX G (fun _ _ _ _ _ _ us hl=>match us,hl with|[_,_,_,_],_=>rfl) ?a ?l ?c ?k;(case a=>k_is);(case l=>k_is);(case c=>k_is);(case k=>k_is)
  have F_refusal_of_cartoon:=by refine' Wg.aM (x:="refusal_of_cartoon") (st:=Wl.b8) (ps:=["verdict"]) KX G (fun _ _ _ _ _ _ us hl=>match us,hl with|[_],_=>rfl) ?a ?l ?c ?k;(case a=>k_is);(case l=>k_is);(case c=>k_is);(case k=>k_is)
  have F_refusal_of_marks:=by refine' Wg.aM (x:="refusal_of_marks") (st:=Wl.cE) (ps:=["marks","glasses","paintings"]) KX G (fun _ _ _ _ _ _ us hl=>match us,hl with|[_,_,_],_=>rfl) ?a ?l ?c ?k;(case a=>k_is);(case l=>k_is);(case c=>k_is);(case k=>k_is)
  have F_row_answer:=by refine' Wg.aM (x:="row_answer") (st:=Wl.fD) (ps:=["row"]) KX G (fun _ _ _ _ _ _ us hl=>match us,hl with|[_],_=>rfl) ?a ?l ?c ?k;(case a=>k_is);(case l=>k_is);(case c=>k_is);(case k=>k_is)
  have F_pane:=by refine' Wg.aM (x:="pane") (st:=Wl.qo) (ps:=["i","cartoon","glasses","paintings","daylight"]) KX G (fun _ _ _ _ _ _ us hl=>match us,hl with|[_,_,_,_,_],_=>rfl) ?a ?l ?c ?k;(case a=>k_is);(case l=>k_is);(case c=>k_is);(case k=>k_is)
  have g_HEAD_BYTES:=by refine' Wg.iO (x:="HEAD_BYTES") (n:=20) KX G ?a;(case a=>k_is)
  have g_POINT_BYTES:=by refine' Wg.iO (x:="POINT_BYTES") (n:=8) KX G ?a;(case a=>k_is)
  have g_LINE_BYTES:=by refine' Wg.iO (x:="LINE_BYTES") (n:=4) KX G ?a;(case a=>k_is)
  have g_MARK_BYTES:=by refine' Wg.iO (x:="MARK_BYTES") (n:=12) KX G ?a;(case a=>k_is)
  have g_MOST_LIGHTS:=by refine' Wg.iO (x:="MOST_LIGHTS") (n:=256) KX G ?a;(case a=>k_is)
  have g_MOST_BYTES:=by refine' Wg.iO (x:="MOST_BYTES") (n:=131072) KX G ?a;(case a=>k_is)
  have g_BANDS:=by refine' Wg.iO (x:="BANDS") (n:=32) KX G ?a;(case a=>k_is)
  have g_FULL:=by refine' Wg.iO (x:="FULL") (n:=65535) KX G ?a;(case a=>k_is)
  have n_len:=by refine' PySem.W.mg_none_of (n:="len") KX G ?a;(case a=>k_is)
  have n_range:=by refine' PySem.W.mg_none_of (n:="range") KX G ?a;(case a=>k_is)
  have n_enumerate:=by refine' PySem.W.mg_none_of (n:="enumerate") KX G ?a;(case a=>k_is)
  have n_list:=by refine' PySem.W.mg_none_of (n:="list") KX G ?a;(case a=>k_is)
  have n_reversed:=by refine' PySem.W.mg_none_of (n:="reversed") KX G ?a;(case a=>k_is)
  have n_min:=by refine' PySem.W.mg_none_of (n:="min") KX G ?a;(case a=>k_is)
  have n_max:=by refine' PySem.W.mg_none_of (n:="max") KX G ?a;(case a=>k_is)
  have n_zip:=by refine' PySem.W.mg_none_of (n:="zip") KX G ?a;(case a=>k_is)
  have gS:=by refine' Wl.yW (x:="SIGN") (r:=CM.jT) KX G ?a ?l ?v ?z;(case a=>k_is);(case l=>k_is);(case v=>exact .cons ⟨_,rfl⟩ (.cons ⟨_,rfl⟩ (.cons ⟨_,rfl⟩ (.cons ⟨_,rfl⟩ .nil))));(case z=>decide)
  have gH:=by
   refine' Wl.wd (x:="HEAD_NUMBERS") (r1:=[4,4,16,1048575]) (r2:=[8,4,16,1048575]) (r3:=[12,2,4,4096]) (r4:=[14,2,4,8192]) (r5:=[16,2,1,2048]) (r6:=[18,2,0,0]) KX G ?a ?l ?h1 ?h2 ?h3 ?h4 ?h5 ?h6
   (case a=>k_is);(case l=>k_is)
   (case h1=>(refine' Wl.kX ?l ?v ?z;(case l=>k_is);(case v=>exact .cons ⟨_,rfl⟩ (.cons ⟨_,rfl⟩ (.cons ⟨_,rfl⟩ (.cons ⟨_,rfl⟩ .nil))));(case z=>decide)))
   (case h2=>(refine' Wl.kX ?l ?v ?z;(case l=>k_is);(case v=>exact .cons ⟨_,rfl⟩ (.cons ⟨_,rfl⟩ (.cons ⟨_,rfl⟩ (.cons ⟨_,rfl⟩ .nil))));(case z=>decide)))
   (case h3=>(refine' Wl.kX ?l ?v ?z;(case l=>k_is);(case v=>exact .cons ⟨_,rfl⟩ (.cons ⟨_,rfl⟩ (.cons ⟨_,rfl⟩ (.cons ⟨_,rfl⟩ .nil))));(case z=>decide)))
   (case h4=>(refine' Wl.kX ?l ?v ?z;(case l=>k_is);(case v=>exact .cons ⟨_,rfl⟩ (.cons ⟨_,rfl⟩ (.cons ⟨_,rfl⟩ (.cons ⟨_,rfl⟩ .nil))));(case z=>decide)))
   (case h5=>(refine' Wl.kX ?l ?v ?z;(case l=>k_is);(case v=>exact .cons ⟨_,rfl⟩ (.cons ⟨_,rfl⟩ (.cons ⟨_,rfl⟩ (.cons ⟨_,rfl⟩ .nil))));(case z=>decide)))
   (case h6=>(refine' Wl.kX ?l ?v ?z;(case l=>k_is);(case v=>exact .cons ⟨_,rfl⟩ (.cons ⟨_,rfl⟩ (.cons ⟨_,rfl⟩ (.cons ⟨_,rfl⟩ .nil))));(case z=>decide)))
  have DD:=by
   refine' Wl.yi KX G ?aC ?pg ?hd ?po ?sa ?mk ?kc ?n0 ?n1 ?n2 ?n3 ?n4 ?a0 ?i0 ?l0 ?c0 ?k0 ?a1 ?i1 ?l1 ?c1 ?k1 ?a2 ?i2 ?l2 ?c2 ?k2 ?a3 ?i3 ?l3 ?c3 ?k3 ?a4 ?i4 ?l4 ?c4 ?k4
   (case aC=>k_is);(case pg=>k_is);(case hd=>k_is);(case po=>k_is);(case sa=>k_is);(case mk=>k_is);(case kc=>k_is);(case n0=>k_is);(case n1=>k_is);(case n2=>k_is);(case n3=>k_is);(case n4=>k_is);(case a0=>k_is);(case i0=>k_is);(case l0=>k_is);(case c0=>k_is);(case k0=>k_is);(case a1=>k_is);(case i1=>k_is);(case l1=>k_is);(case c1=>k_is);(case k1=>k_is);(case a2=>k_is);(case i2=>k_is);(case l2=>k_is);(case c2=>k_is);(case k2=>k_is);(case a3=>k_is);(case i3=>k_is);(case l3=>k_is);(case c3=>k_is);(case k3=>k_is);(case a4=>k_is);(case i4=>k_is);(case l4=>k_is);(case c4=>k_is);(case k4=>k_is)
  have VV:=by
   refine' Wl.Bh KX G ?aC ?pg ?hd ?po ?sa ?mk ?kc ?n0 ?n1 ?n2 ?a0 ?i0 ?l0 ?c0 ?k0
   (case aC=>k_is);(case pg=>k_is);(case hd=>k_is);(case po=>k_is);(case sa=>k_is);(case mk=>k_is);(case kc=>k_is);(case n0=>k_is);(case n1=>k_is);(case n2=>k_is);(case a0=>k_is);(case i0=>k_is);(case l0=>k_is);(case c0=>k_is);(case k0=>k_is)
  obtain⟨C,T,I1,M1,M2,M3,M4⟩:=DD
  obtain⟨CV,TV,I2⟩:=VV
  exact F_pane.top hmg fun base _ _=>Wl.xn T TV g_HEAD_BYTES g_POINT_BYTES g_LINE_BYTES g_MARK_BYTES g_MOST_LIGHTS g_MOST_BYTES g_BANDS g_FULL n_len n_range n_enumerate n_list n_reversed n_min n_max n_zip gS gH I1 I2 M1 M2 M3 M4 F_number_at F_told_length F_fault_of_bytes F_read_point F_read_line F_read_mark F_read_drawing F_turn F_comes_behind F_is_in_box F_is_on F_are_parted F_do_cross F_twice_area F_is_left_beside F_is_inside F_fault_of_points F_fault_of_lines F_are_joined_in_a_row F_fault_of_frame F_has_point_on_it F_crosses_one_before F_fault_of_crossings F_neighbours_of F_reached_from F_fault_of_ends F_fault_of_ways F_fault_of_narrows F_is_within_frame F_is_on_some_line F_fault_of_marks F_fault_of_drawing F_sorted_by_turn F_ring_round F_walk_round F_points_at F_outlines_of F_holder_of F_judge_marks F_judge F_are_bands F_is_light F_are_lights F_how_many_lights F_light_at F_light_through F_first_mark_without_light F_pane_light F_seen_light F_refusal_of_rows F_refusal_of_cartoon F_refusal_of_marks F_row_answer F_pane
 case S =>
  intro K H xs a hO hwi hask hx
  cases hx with
  |cons h0 r0 =>
  cases r0 with
  |cons h1 r1 =>
  cases r1 with
  |cons h2 r2 =>
  cases r2 with
  |cons h3 r3 =>
  cases r3 with
  |cons h4 r4 =>
  cases r4
  cases h0
  cases h1 with
  |lst hs1 ha1 =>
  cases h2 with
  |lst hs2 ha2 =>
  cases h3 with
  |lst hs3 ha3 =>
  cases h4 with
  |lst hs4 ha4 =>
  have e1:=L2.ku a.2.1 _ ha1
  subst e1
  have e2:=L2.ku a.2.2.1 _ ha2
  subst e2
  have e3:=L2.ku a.2.2.2.1 _ ha3
  subst e3
  have e4:=L2.ku a.2.2.2.2.1 _ ha4
  subst e4
  have q:(Codec.inInt 0 4294967295 a.1&&((Codec.inLen 0 100000 a.2.1&&a.2.1.all (Codec.inInt 0 255))&&((Codec.inLen 0 9000 a.2.2.1&&a.2.2.1.all (Codec.inInt 0 4294967295))&&((Codec.inLen 0 9000 a.2.2.2.1&&a.2.2.2.1.all (Codec.inInt 0 4294967295))&&((Codec.inLen 0 100 a.2.2.2.2.1&&a.2.2.2.2.1.all (Codec.inInt 0 4294967295))&&true)))))=true:=hwi
  obtain⟨q0,q⟩:=Bool.and_eq_true_iff.mp q
  obtain⟨q1,q⟩:=Bool.and_eq_true_iff.mp q
  obtain⟨q2,q⟩:=Bool.and_eq_true_iff.mp q
  obtain⟨q3,q⟩:=Bool.and_eq_true_iff.mp q
  obtain⟨q4,_⟩:=Bool.and_eq_true_iff.mp q
  obtain⟨l1,b1⟩:=Wl.ji q1
  obtain⟨l2,b2⟩:=Wl.ji q2
  obtain⟨l3,b3⟩:=Wl.ji q3
  obtain⟨l4,b4⟩:=Wl.ji q4
  unfold Codec.inInt at q0
  rw[Bool.and_eq_true,decide_eq_true_eq,decide_eq_true_eq]at q0
  have e0:((a.1.toNat:Nat):Int)=a.1:=by omega
  refine⟨a.1.toNat,_,_,_,_,a.2.1,a.2.2.1,a.2.2.2.1,a.2.2.2.2.1,by rw[e0],⟨hs1,by omega⟩,⟨hs2,by omega⟩,⟨hs3,by omega⟩,⟨hs4,by omega⟩,b1,fun H' p hp=>?_⟩
  rw[Wl.yV b1 (fun x hx=>(b2 x hx).1) (fun x hx=>(b3 x hx).1) (fun x hx=>(b4 x hx).1),e0]at hp
  exact .lst (L2.SqL.of hp) (L2.tN _)
end
