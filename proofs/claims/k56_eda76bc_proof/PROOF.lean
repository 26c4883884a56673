import PyProof.Rows.All
import Wide.All
import OpenK.AllK
import Wide.FinOn
import Lean
import PyProof.EqAt
import PyProof.EqKinds
import PyProof.TupleCall
import PySem.Challenge.RW_wishstrike_k56_stands_and_wishes_written
set_option Elab.async false
set_option linter.all false
set_option maxRecDepth 100000
namespace L2
open PySem PySem.Spec PyProof.Rows
abbrev Key:=Sum Int Str
def xZ:Key→Value→Bool
 | .inl k,v=>Value.isInt k v
 | .inr x,v=>Value.isStrOf x v
def Gd (w:World):Key→Int
 | .inl k=>hashInt k
 | .inr x=>hashStr w x
theorem ck:∀ {k:Key} {v:Value},xZ k v=true→(∃ i t,k=Sum.inl i∧v=Value.int i t)∨(∃ x t,k=Sum.inr x∧v=Value.str x t)
 | .inl i,v,h=>by
  obtain ⟨t,e⟩:=Value.isInt_shape (k:=i) (v:=v) h
  exact .inl ⟨i,t,rfl,e⟩
 | .inr x,v,h=>by
  obtain ⟨t,e⟩:=Value.isStrOf_shape (x:=x) (v:=v) h
  exact .inr ⟨x,t,rfl,e⟩
theorem Bx (a b:Int):decide ((Sum.inl a:Key)=Sum.inl b)=(a == b):=by
 by_cases e:a=b
 ·subst e;simp
 ·have h:¬(Sum.inl a:Key)=Sum.inl b:=fun q=>e (Sum.inl.inj q)
  rw [decide_eq_false h]
  exact (beq_eq_false_iff_ne.mpr e).symm
theorem Aq (a b:Str):decide ((Sum.inr a:Key)=Sum.inr b)=decide (a=b):=by
 by_cases e:a=b
 ·subst e;simp
 ·have h:¬(Sum.inr a:Key)=Sum.inr b:=fun q=>e (Sum.inr.inj q)
  rw [decide_eq_false h,decide_eq_false e]
theorem Ct (a:Int) (b:Str):decide ((Sum.inl a:Key)=Sum.inr b)=false:=decide_eq_false (fun q=>nomatch q)
theorem AY (a:Str) (b:Int):decide ((Sum.inr a:Key)=Sum.inl b)=false:=decide_eq_false (fun q=>nomatch q)
def k9 (prog:Program) (w:World):PySem.KeyKind prog w Key where
 is:=xZ
 hash:=Gd w
 inj:=fun v a b ha hb=>by
  rcases ck ha with ⟨i,t,rfl,rfl⟩ | ⟨x,t,rfl,rfl⟩
  ·rcases ck hb with ⟨j,u,rfl,e⟩ | ⟨y,u,rfl,e⟩
   ·injection e with e1 _;rw [e1]
   ·exact nomatch e
  ·rcases ck hb with ⟨j,u,rfl,e⟩ | ⟨y,u,rfl,e⟩
   ·exact nomatch e
   ·injection e with e1 _;rw [e1]
 byValue:=fun k v h=>by
  rcases ck h with ⟨i,t,rfl,rfl⟩ | ⟨x,t,rfl,rfl⟩<;>rfl
 pyHash:=fun hv h=>by
  rcases ck hv with ⟨i,t,rfl,rfl⟩ | ⟨x,t,rfl,rfl⟩
  ·exact wpAny_pyHash_int h
  ·exact wpAny_pyHash_str h
 eqBool:=fun hu hv h=>by
  rcases ck hu with ⟨i,t,rfl,rfl⟩ | ⟨x,t,rfl,rfl⟩
  ·rcases ck hv with ⟨j,u,rfl,rfl⟩ | ⟨y,u,rfl,rfl⟩
   ·rw [Bx] at h;exact wpAny_eqBool_int h
   ·rw [Ct] at h;exact SeqAt.EqAt.int_str i t y u _ _ _ _ h
  ·rcases ck hv with ⟨j,u,rfl,rfl⟩ | ⟨y,u,rfl,rfl⟩
   ·rw [AY] at h;exact SeqAt.EqAt.str_int x t j u _ _ _ _ h
   ·rw [Aq] at h;exact wpAny_eqBool_str h
 «strs»:=fun k x t v h=>by
  rcases ck h with ⟨i,u,rfl,e⟩ | ⟨y,u,rfl,e⟩
  ·exact nomatch e
  ·injection e with e1 _
   subst e1
   cases v<;>rfl
inductive V where
 | non | bl (b:Bool) | int (i:Int) | str (x:Str) | byt (b:Array UInt8) | flt (b:UInt64) | ref (a:Addr) | ty (n:String)
 deriving DecidableEq
def RelV:V→Value→Prop
 | .non,u=>u=Value.none
 | .bl b,u=>u=Value.bool b
 | .int i,u=>∃ t,u=Value.int i t
 | .str x,u=>∃ t,u=Value.str x t
 | .byt b,u=>∃ t,u=Value.bytes b t
 | .flt b,u=>∃ t,u=Value.float b t
 | .ref a,u=>u=Value.ref a
 | .ty n,u=>u=Value.type n
abbrev Vals:List V→List Value→Prop:=Paired RelV
theorem Vals.length {xs:List V} {us:List Value} (r:Vals xs us):xs.length=us.length:=Paired.length r
theorem Vals.get:∀ {xs:List V} {us:List Value} {i:Nat} {x:V},Vals xs us→xs[i]?=some x→∃ u,us[i]?=some u∧RelV x u
 | _,_,_,_,.nil,e=>by simp at e
 | _,_,0,_,.cons r _,e=>by simp at e;subst e;exact ⟨_,rfl,r⟩
 | _,_,i+1,x,.cons _ t,e=>by
  obtain ⟨u,h1,h2⟩:=Vals.get (i:=i) (x:=x) t (by simpa using e)
  exact ⟨u,by simpa using h1,h2⟩
theorem Vals.set {x:V} {u:Value} (r:RelV x u):∀ {xs:List V} {us:List Value} (i:Nat),Vals xs us→Vals (xs.set i x) (us.set i u)
 | _,_,_,.nil=>.nil
 | _,_,0,.cons _ t=>.cons r t
 | _,_,i+1,.cons q t=>.cons q (Vals.set r i t)
theorem Vals.append:∀ {xs ys:List V} {us ws:List Value},Vals xs us→Vals ys ws→Vals (xs++ys) (us++ws)
 | _,_,_,_,.nil,s=>s
 | _,_,_,_,.cons r t,s=>.cons r (Vals.append t s)
theorem Vals.take:∀ {xs:List V} {us:List Value} (n:Nat),Vals xs us→Vals (xs.take n) (us.take n)
 | _,_,0,_=>.nil
 | _,_,_+1,.nil=>.nil
 | _,_,n+1,.cons r t=>.cons r (Vals.take n t)
theorem Vals.drop:∀ {xs:List V} {us:List Value} (n:Nat),Vals xs us→Vals (xs.drop n) (us.drop n)
 | _,_,0,r=>r
 | _,_,_+1,.nil=>.nil
 | _,_,n+1,.cons _ t=>Vals.drop n t
def wK:Option V→Option Value→Prop
 | some v,some u=>RelV v u
 | none,none=>True
 | _,_=>False
def KV {κ:Type}:List (κ×V)→List (κ×Value)→Prop:=Paired fun (p:κ×V) (q:κ×Value)=>p.1=q.1∧RelV p.2 q.2
def kV:Key→V
 | .inl i=>.int i
 | .inr x=>.str x
inductive HO where
 | lst (xs:List V)
 | tup (xs:List V)
 | dK (kvs:List (Key×V)) | dT (kvs:List (List Key×V))
 | set (S:Int→Bool) (n:Nat)
 | ins (C dx:Addr) (fs:List (Str×V))
 | own (x:Addr)
 | xd (fs:List (Str×V))
 | met (f x:Addr)
 | rng (lo hi:Int)
 | frz (o:Obj) (u:HO)
 | tbl (ps:Array Value)
 | ext (φ:Heap→Prop)
abbrev Hp:=Addr→Option HO
def upd (H:Hp) (a:Addr) (o:HO):Hp:=fun b=>if b=a then some o else H b
theorem b_ {H:Hp} {a:Addr} {o:HO}:upd H a o a=some o:=by unfold upd;rw [if_pos rfl]
theorem aT {H:Hp} {a b:Addr} {o:HO} (h:b≠a):upd H a o b=H b:=by unfold upd;rw [if_neg h]
theorem bu {H:Hp} {a b:Addr} {o:HO} (h:H a=some o) (h':H b=none):a≠b:=by
 intro e;subst e;rw [h] at h';cases h'
section
variable (P:Program) (w:World)
def b8 (H:Hp) (h:Heap) (a:Addr):HO→Prop
 | .lst xs=>xs.length≤sizeLine∧∃ (its:List Value) (n:Nat),Vals xs its∧h.get? a=some { cls:=.type "list",data:=.seq its.toArray n }
 | .tup xs=>xs.length≤sizeLine∧∃ its:List Value,Vals xs its∧IsTup h a its.toArray
 | .dK kvs=>kvs.length≤sizeLine∧(a == sysModules)=false∧∃ vs,KV kvs vs∧h.DictOf (k9 P w) a vs
 | .dT kvs=>kvs.length≤sizeLine∧(a == sysModules)=false∧∃ xs:List (List Key×Addr×Value),
   Paired (fun (p:List Key×V) (q:List Key×Addr×Value)=>p.1=q.1∧H q.2.1=some (.tup (p.1.map kV))∧RelV p.2 q.2.2) kvs xs ∧
   ∃ o es ep,h.get? a=some o∧o.ExactDict∧o.data=.dict es ep∧es.toList=xs.map (entryOfKey (tupleKind (k9 P w)))∧(xs.map (·.1)).Nodup
 | .set S n=>h.SetOf (intKind P w) a S n
 | .ins C dx fs=>H dx=some (.own a)∧fs.length≤1000∧dx≠a∧h.get? a=some (PySem.W.instObj C dx) ∧
   ∃ mA,h.Ns1 dx mA∧(∀ f,wK (fs.lookup f) (mA f))∧PySem.Within mA (fs.map (·.1))
 | .own _=>∃ o,h.get? a=some o
 | .xd fs=>∃ mA,h.Ns1 a mA∧∀ f,wK (fs.lookup f) (mA f)
 | .rng lo hi=>∃ t u v,h.get? a=some { cls:=.type "range",data:=.fields #[.int lo t,.int hi u,.int 1 v] }
 | .frz o u=>h.get? a=some o∧b8 H h a u
 | .tbl ps=>h.get? a=some { cls:=.none,data:=.fields ps }
 | .met f x=>h.get? a=some (PySem.W.methodObj (.ref f) (.ref x))
 | .ext φ=>φ h∧(∃ o,h.get? a=some o)∧∀ h1 h2:Heap,φ h1→(∀ o,h1.get? a=some o→h2.get? a=some o)→φ h2
def HOk (H:Hp) (h:Heap):Prop:=∀ a o,H a=some o→b8 P w H h a o
end
section
variable {P:Program} {w:World} {H H':Hp} {h h':Heap} {a:Addr} {o:HO}
theorem b8.lt (x:b8 P w H h a o):a < h.objs.size:=by
 cases o with
 | lst xs=>obtain ⟨_,_,_,_,e⟩:=x;exact Heap.lt_size e
 | tup xs=>obtain ⟨_,_,_,p⟩:=x;exact p.lt
 | dK kvs=>obtain ⟨_,_,_,_,o,_,_,e,_⟩:=x;exact Heap.lt_size e
 | dT kvs=>obtain ⟨_,_,_,_,o,_,_,e,_⟩:=x;exact Heap.lt_size e
 | set S n=>obtain ⟨o,_,_,_,e,_⟩:=x;exact Heap.lt_size e
 | ins C dx fs=>obtain ⟨_,_,_,e,_⟩:=x;exact Heap.lt_size e
 | own y=>obtain ⟨_,e⟩:=x;exact Heap.lt_size e
 | xd fs=>obtain ⟨_,⟨_,_,_,e,_⟩,_⟩:=x;exact Heap.lt_size e
 | rng lo hi=>obtain ⟨_,_,_,e⟩:=x;exact Heap.lt_size e
 | frz ob u=>obtain ⟨e,_⟩:=x;exact Heap.lt_size e
 | tbl ps=>exact Heap.lt_size (show h.get? a=some _ from x)
 | met f y=>exact Heap.lt_size (show h.get? a=some _ from x)
 | ext φ=>obtain ⟨_,⟨_,e⟩,_⟩:=x;exact Heap.lt_size e
theorem Paired.BU {α β:Type} {F G:α→β→Prop}:∀ {l₁:List α} {l₂:List β},Paired F l₁ l₂→(∀ a b,F a b→G a b)→Paired G l₁ l₂
 | _,_,.nil,_=>.nil
 | _,_,.cons r t,f=>.cons (f _ _ r) (Paired.BU t f)
theorem b8.lQ (x:b8 P w H h a o) (k:∀ b u,(b=a∨H b=some (.own a))→h.get? b=some u→h'.get? b=some u)
  (ho:∀ b,H b=some (.own a)→H' b=some (.own a)) (ht:∀ b xs,H b=some (.tup xs)→H' b=some (.tup xs)):b8 P w H' h' a o:=by
 induction o with
 | lst xs=>obtain ⟨z,its,n,r,e⟩:=x;exact ⟨z,its,n,r,k _ _ (.inl rfl) e⟩
 | tup xs=>obtain ⟨z,its,r,ob,e,c⟩:=x;exact ⟨z,its,r,ob,k _ _ (.inl rfl) e,c⟩
 | dK kvs=>obtain ⟨z,y,vs,r,ob,es,ep,e,c⟩:=x;exact ⟨z,y,vs,r,ob,es,ep,k _ _ (.inl rfl) e,c⟩
 | dT kvs=>
  obtain ⟨z,y,xs,r,ob,es,ep,e,c⟩:=x
  exact ⟨z,y,xs,Paired.BU r fun p q z=>⟨z.1,ht _ _ z.2.1,z.2.2⟩,ob,es,ep,k _ _ (.inl rfl) e,c⟩
 | set S n=>obtain ⟨ob,es,ep,t,e,c⟩:=x;exact ⟨ob,es,ep,t,k _ _ (.inl rfl) e,c⟩
 | ins C dx fs=>
  obtain ⟨d,z,ne,e,mA,⟨od,es,ep,e2,c⟩,r⟩:=x
  exact ⟨ho _ d,z,ne,k _ _ (.inl rfl) e,mA,⟨od,es,ep,k _ _ (.inr d) e2,c⟩,r⟩
 | own y=>obtain ⟨ob,e⟩:=x;exact ⟨ob,k _ _ (.inl rfl) e⟩
 | xd fs=>obtain ⟨mA,⟨od,es,ep,e,c⟩,r⟩:=x;exact ⟨mA,⟨od,es,ep,k _ _ (.inl rfl) e,c⟩,r⟩
 | rng lo hi=>obtain ⟨t,u,v,e⟩:=x;exact ⟨t,u,v,k _ _ (.inl rfl) e⟩
 | frz ob u ih=>obtain ⟨e,q⟩:=x;exact ⟨k _ _ (.inl rfl) e,ih q⟩
 | tbl ps=>
  have e:h.get? a=some { cls:=.none,data:=.fields ps }:=x
  show h'.get? a=some { cls:=.none,data:=.fields ps }
  exact k a _ (.inl rfl) e
 | met f y=>
  have e:h.get? a=some (PySem.W.methodObj (.ref f) (.ref y)):=x
  show h'.get? a=some (PySem.W.methodObj (.ref f) (.ref y))
  exact k a _ (.inl rfl) e
 | ext φ=>obtain ⟨p,⟨o,e⟩,st⟩:=x;exact ⟨st _ _ p fun o q=>k _ _ (.inl rfl) q,⟨o,k _ _ (.inl rfl) e⟩,st⟩
theorem HOk.lt (x:HOk P w H h) (e:H a=some o):a < h.objs.size:=(x a o e).lt
theorem HOk.fresh (x:HOk P w H h) (e:h.objs.size≤a):H a=none:=by
 cases q:H a with
 | none=>rfl
 | some u=>exact absurd (Nat.lt_of_lt_of_le (x.lt q) e) (Nat.lt_irrefl _)
theorem HOk.kept (x:HOk P w H h) (k:∀ b u,h.get? b=some u→h'.get? b=some u):HOk P w H h':=fun a o e=>
 (x a o e).lQ (fun b u _ q=>k b u q) (fun _ q=>q) fun _ _ q=>q
theorem HOk.laid (x:HOk P w H h) (k:∀ b u,h.get? b=some u→h'.get? b=some u) (hp:h.objs.size≤a) (new:b8 P w (upd H a o) h' a o):HOk P w (upd H a o) h':=fun b u e=>by
 have hn:=x.fresh hp
 by_cases hb:b=a
 ·subst hb;rw [b_] at e;cases e;exact new
 ·rw [aT hb] at e
  exact (x b u e).lQ (fun c v _ q=>k c v q) (fun c q=>by rw [aT (bu q hn)];exact q) fun c xs q=>by rw [aT (bu q hn)];exact q
end
def Rd (H:Hp) (a:Addr) (u:HO):Prop:=H a=some u∨∃ o,H a=some (.frz o u)
theorem Rd.ok {P:Program} {w:World} {H:Hp} {h:Heap} {a:Addr} {u:HO} (r:Rd H a u) (x:HOk P w H h):b8 P w H h a u:=by
 rcases r with r | ⟨o,r⟩
 ·exact x a u r
 ·obtain ⟨_,q⟩:=x a _ r
  exact q
def Mut:Option HO→Prop
 | some (.lst _)=>True
 | some (.dK _)=>True
 | some (.dT _)=>True
 | some (.set _ _)=>True
 | some (.ins _ _ _)=>True
 | some (.ext _)=>True
 | _=>False
section
variable {P:Program} {w:World} {H:Hp} {h h':Heap} {x e:Addr} {o':HO}
theorem HOk.write (ok:HOk P w H h) (mu:Mut (H x)) (he:e=x∨H e=some (.own x)) (k:∀ b u,b≠e→h.get? b=some u→h'.get? b=some u) (heo:∃ u,h'.get? e=some u)
  (new:b8 P w (upd H x o') h' x o'):HOk P w (upd H x o') h':=fun b u q=>by
 have nown:∀ c y,H c=some (.own y)→c≠x:=fun c y r z=>by subst z;rw [r] at mu;exact mu
 have ntup:∀ c xs,H c=some (.tup xs)→c≠x:=fun c xs r z=>by subst z;rw [r] at mu;exact mu
 by_cases hb:b=x
 ·subst hb;rw [b_] at q;cases q;exact new
 ·rw [aT hb] at q
  by_cases hbe:b=e
  ·have q':H b=some (.own x):=by
    rcases he with z | z
    ·exact absurd (hbe.trans z) hb
    ·rw [hbe];exact z
   rw [q] at q';cases q'
   obtain ⟨v,hv⟩:=heo
   exact ⟨v,by rw [hbe];exact hv⟩
  ·refine (ok b u q).lQ (fun c v hc r=>k c v ?_ r) (fun c r=>by rw [aT (nown c b r)];exact r) fun c xs r=>by rw [aT (ntup c xs r)];exact r
   rcases hc with rfl | hc
   ·exact hbe
   ·rintro rfl
    rcases he with z | z
    ·exact nown c b hc z
    ·rw [hc] at z;cases z;exact hb rfl
end
structure Un (fs ex:List Addr) (H H':Hp) (h h':Heap):Prop where
 keep:∀ b o,h.get? b=some o→H b=none→b∉fs→b∉ex→h'.get? b=some o
 slot:∀ b o,h.get? b=some o→H b=none→b∈fs→b∉ex→∃ sl,h'.get? b=some { o with slots:=sl }
 free:∀ b o,h.get? b=some o→H b=none→b∉ex→H' b=none
 there:∀ b o,h.get? b=some o→b∉ex→∃ o',h'.get? b=some o'
 tups:∀ b xs,H b=some (.tup xs)→H' b=some (.tup xs)
 frzs:∀ b o u,H b=some (.frz o u)→H' b=some (.frz o u)
 tbls:∀ b ps,H b=some (.tbl ps)→∃ more,H' b=some (.tbl (ps++more))
section
variable {fs fs' ex ex':List Addr} {H H1 H2:Hp} {h h1 h2 h':Heap} {a x e:Addr} {o:HO}
theorem Un.any (u:Un fs ex H H1 h h1) {b:Addr} {ob:Obj} (q:h.get? b=some ob) (n:H b=none) (hx:b∉ex):∃ sl,h1.get? b=some { ob with slots:=sl }:=by
 by_cases hb:b∈fs
 ·exact u.slot b ob q n hb hx
 ·exact ⟨ob.slots,u.keep b ob q n hb hx⟩
theorem Un.kept (k:∀ b u,h.get? b=some u→h'.get? b=some u):Un fs ex H H h h':=
 ⟨fun b ob q _ _ _=>k b ob q,fun b ob q _ _ _=>⟨ob.slots,k b ob q⟩,fun _ _ _ n _=>n,fun b ob q _=>⟨ob,k b ob q⟩,fun _ _ q=>q,fun _ _ _ q=>q,fun _ ps q=>⟨#[],by rw [q];simp⟩⟩
theorem Un.refl:Un fs ex H H h h:=Un.kept fun _ _ q=>q
theorem Un.laid (k:∀ b u,h.get? b=some u→h'.get? b=some u) (hp:h.objs.size≤a) (hn:H a=none):Un fs ex H (upd H a o) h h' where
 keep:=fun b u q _ _ _=>k b u q
 slot:=fun b u q _ _ _=>⟨u.slots,k b u q⟩
 free:=fun b u q n _=>by rw [aT (Nat.ne_of_lt (Nat.lt_of_lt_of_le (Heap.lt_size q) hp))];exact n
 there:=fun b u q _=>⟨u,k b u q⟩
 tups:=fun b xs q=>by rw [aT (bu q hn)];exact q
 frzs:=fun b u xs q=>by rw [aT (bu q hn)];exact q
 tbls:=fun b ps q=>⟨#[],by rw [aT (bu q hn),q];simp⟩
theorem Un.write (mu:Mut (H x)) (he:e=x∨H e=some (.own x)) (k:∀ b u,b≠e→h.get? b=some u→h'.get? b=some u) (heo:∃ u,h'.get? e=some u):Un fs ex H (upd H x o) h h':=by
 have hx:∀ b,H b=none→b≠x:=fun b n z=>by subst z;rw [n] at mu;exact mu
 have hb:∀ b,H b=none→b≠e:=fun b n z=>by
  subst z
  rcases he with r | r
  ·exact hx b n r
  ·rw [n] at r;cases r
 have hm:∀ b u,H b=some u→¬Mut (some u)→b≠x:=fun b u q nm z=>by subst z;rw [q] at mu;exact nm mu
 refine ⟨fun b u q n _ _=>k b u (hb b n) q,fun b u q n _ _=>⟨u.slots,k b u (hb b n) q⟩,fun b u q n _=>by rw [aT (hx b n)];exact n,fun b u q _=>?_,
  fun b xs q=>by rw [aT (hm b _ q fun z=>z)];exact q,fun b u xs q=>by rw [aT (hm b _ q fun z=>z)];exact q,fun b ps q=>⟨#[],by rw [aT (hm b _ q fun z=>z),q];simp⟩⟩
 by_cases hbe:b=e
 ·subst hbe;exact heo
 ·exact ⟨u,k b u hbe q⟩
end
def trk (h:Heap) (H:Hp):List Addr:=(List.range h.objs.size).filter fun a=>(H a).isSome
def jw (h:Heap) (H:Hp):Heap:=PySem.W.hideAll h (trk h H)
theorem uK (h:Heap) (H:Hp):(jw h H).objs.size=h.objs.size:=PySem.W.hideAll_size _ _
theorem xQ {h:Heap} {H:Hp} {b:Addr} {o:Obj} (e:h.get? b=some o) (n:H b=none):(jw h H).get? b=some o:=
 PySem.W.hideAll_get _ e fun hm=>by
  have q:(H b).isSome=true:=(List.mem_filter.mp hm).2
  rw [n] at q;simp at q
theorem y_ {h:Heap} {H:Hp} {b:Addr} {o:Obj} (e:(jw h H).get? b=some o):h.get? b=some o∧H b=none:=by
 have e':h.get? b=some o:=PySem.W.of_hideAll (trk h H) e
 refine ⟨e',?_⟩
 cases q:H b with
 | none=>rfl
 | some x=>
  have hm:b∈trk h H:=List.mem_filter.mpr ⟨List.mem_range.mpr (Heap.lt_size e'),by simp [q]⟩
  have z:(jw h H).get? b=none:=PySem.W.hideAll_none (trk h H) hm
  rw [z] at e;cases e
def za (g h:Heap) (L:Addr):List (Addr×Obj):=(List.range h.objs.size).filterMap fun a=>if a=L∨(g.get? a).isSome=true then none else (h.get? a).map fun o=>(a,o)
def rest (g h:Heap) (L d:Addr):List (Addr×Obj):=(za g h L).filter fun p=>decide (p.1≠d)
structure Mod (K:PySem.W.Frag) (mg:Str→Option Value) (base:Heap):Prop where
 kin:K.In base
 glob:base.Ns mainGlobals mg
 blt:∃ mb,base.Ns builtinsNs mb∧∀ x:Str,x≠"__name__"→mb x=bootBuiltins x
 nolimit:base.NoLimit
structure Cx where
 prog:Program
 w:World
 K:PySem.W.Frag
 mg:Str→Option Value
 base:Heap
 A:Around
 N:List Str
 s₀:Shared
 H₀:Hp
 env:Env
 outer:List Env
 stack:List Env
 ex:List Addr
 fn:Str→Bool
 calm:Bool
 pn:List (Addr×Obj)
 xe:Value→Shared→Prop
def frs (l:List Env):List Addr:=l.filterMap (·.frame)
abbrev Cx.fs (X:Cx):List Addr:=frs X.outer
def Vis (sc:Scope) (x:Str):Prop:=sc.names.lookup x=some .local∨sc.names.lookup x=some .cell∨sc.names.lookup x=some .free
def Loc (sc:Scope) (x:Str):Prop:=sc.names.lookup x=some .local∨sc.names.lookup x=some .cell
def Look (env:Env) (h:Heap) (m:Str→Option Value) (x:Str) (u:Value):Prop:=
 (env.kindOf x=some .local∧m x=some u)∨((env.kindOf x=some .cell∨env.kindOf x=some .free)∧∃ c,env.cells.lookup x=some c∧h.IsCell c (some u))
structure Cx.Ok (X:Cx):Prop where
 mod:Mod X.K X.mg X.base
 kind:X.env.scope.kind=.function
 glob:X.env.globals=mainGlobals
 blt:X.env.builtins=builtinsNs
 above:X.s₀.heap.objs.size≤X.env.locals
 inj:∀ x y c,X.env.cells.lookup x=some c→X.env.cells.lookup y=some c→x=y
 has:∀ x,(X.env.kindOf x=some .cell∨X.env.kindOf x=some .free)→∃ c,X.env.cells.lookup x=some c
 cab:∀ x c,X.fn x=true→X.env.cells.lookup x=some c→X.s₀.heap.objs.size≤c
 hd:X.calm=true→X.A.handled=none
 frames:X.A.frames=some X.stack
 stk:X.stack=X.outer∨(X.stack=X.env :: X.outer∧X.env.frame=some X.env.locals)
 exf:∀ b∈X.ex,b≠X.env.locals∧∀ x c,X.env.cells.lookup x=some c→c≠b
 bs:∀ b o,X.base.get? b=some o→X.s₀.heap.get? b=some o∧X.H₀ b=none
 bsz:X.base.objs.size≤X.s₀.heap.objs.size
 noex:∀ b o,X.base.get? b=some o→b∉X.ex
 exfs:∀ b∈X.ex,b∉X.fs
 gJ:X.s₀.heap.FunFrames X.base X.outer
 frf:∀ b∈X.fs,X.H₀ b=none
structure Inv (X:Cx) (pins:List (Addr×Obj)) (σ:List (Option V)) (H:Hp) (s:Shared):Prop where
 ok:X.Ok
 os:s.os=X.s₀.os
 bare:AllBare s.gens
 base:Un X.fs X.ex X.H₀ H X.s₀.heap s.heap
 loc:∃ m,s.heap.Ns X.env.locals m∧∀ (i:Nat) (x:Str) (v:V),X.N[i]?=some x→σ[i]?=some (some v)→Vis X.env.scope x→∃ u,RelV v u∧Look X.env s.heap m x u
 cell:∀ x c,X.env.cells.lookup x=some c→∃ v,s.heap.IsCell c v
 free:H X.env.locals=none
 freeC:∀ x c,X.env.cells.lookup x=some c→H c=none
 pin:∀ p∈X.pn++pins,s.heap.get? p.1=some p.2∧H p.1=none∧p.1≠X.env.locals∧p.1∉X.fs∧∀ v,p.2.data≠.cell v
 hok:HOk X.prog X.w H s.heap
 len:σ.length=X.N.length
section
variable {X:Cx} {pins:List (Addr×Obj)} {σ:List (Option V)} {H H':Hp} {s:Shared} {h':Heap}
theorem Cx.Ok.F9 (ok:X.Ok) {b:Addr} {o:Obj} (e:X.base.get? b=some o):b∉X.fs:=fun hb=>by
 have:=(ok.gJ.mem hb).1
 rw [e] at this;cases this
theorem Inv.bs (I:Inv X pins σ H s):∀ b o,X.base.get? b=some o→s.heap.get? b=some o∧H b=none:=fun b o e=>
 ⟨I.base.keep b o (I.ok.bs b o e).1 (I.ok.bs b o e).2 (I.ok.F9 e) (I.ok.noex b o e),I.base.free b o (I.ok.bs b o e).1 (I.ok.bs b o e).2 (I.ok.noex b o e)⟩
theorem Inv.bk (I:Inv X pins σ H s):∀ b o,X.base.get? b=some o→s.heap.get? b=some o:=fun b o e=>(I.bs b o e).1
theorem Inv.mod (I:Inv X pins σ H s):Mod X.K X.mg X.base:=I.ok.mod
theorem Inv.kIn (I:Inv X pins σ H s):X.K.In s.heap:=I.ok.mod.kin.keeps I.bk
theorem Inv.lt (I:Inv X pins σ H s):X.env.locals < s.heap.objs.size:=let ⟨_,hn,_⟩:=I.loc;hn.lt
theorem Inv.sz (I:Inv X pins σ H s):X.s₀.heap.objs.size≤s.heap.objs.size:=Nat.le_trans I.ok.above (Nat.le_of_lt I.lt)
theorem Inv.Az (I:Inv X pins σ H s) {a:Addr} (h:s.heap.objs.size≤a):a∉X.fs:=fun hb=>by
 obtain ⟨_,o,ho,_⟩:=I.ok.gJ.mem hb
 exact absurd (Nat.lt_of_lt_of_le (Heap.lt_size ho) (Nat.le_trans I.sz h)) (Nat.lt_irrefl _)
theorem Inv.cne (I:Inv X pins σ H s):∀ x c,X.env.cells.lookup x=some c→c≠X.env.locals:=fun x c e z=>by
 obtain ⟨v,o,ho,hd⟩:=I.cell x c e
 obtain ⟨m,⟨o',es,ep,ho',hd',_⟩,_⟩:=I.loc
 rw [z,ho'] at ho;cases ho;rw [hd'] at hd;cases hd
theorem Inv.gJ (I:Inv X pins σ H s):s.heap.FunFrames X.base X.outer:=by
 have all:∀ (l:List Env),(∀ b∈frs l,b∈X.fs)→X.s₀.heap.FunFrames X.base l→s.heap.FunFrames X.base l:=by
  intro l
  induction l with
  | nil=>intro _ _;trivial
  | cons env r ih=>
   intro hs hl
   obtain ⟨hk,⟨L,o,hf,hn,ho,hd⟩,hr⟩:=hl
   have hL:L∈X.fs:=hs L (by unfold frs;rw [List.filterMap_cons,hf];exact List.mem_cons_self)
   obtain ⟨sl,e⟩:=I.base.slot L o ho (I.ok.frf L hL) hL fun z=>I.ok.exfs L z hL
   exact ⟨hk,⟨L,_,hf,hn,e,hd⟩,ih (fun b hb=>hs b (by unfold frs;rw [List.filterMap_cons,hf];exact List.mem_cons_of_mem _ hb)) hr⟩
 exact all X.outer (fun _ hb=>hb) I.ok.gJ
theorem Inv.stack (I:Inv X pins σ H s):s.heap.FunFrames X.base X.stack:=by
 rcases I.ok.stk with e | ⟨e,hf⟩
 ·rw [e];exact I.gJ
 ·rw [e]
  obtain ⟨m,hn,_⟩:=I.loc
  refine .cons (by rw [I.ok.kind];decide) hf hn ?_ I.gJ
  exact Heap.get?_none_of_le (Nat.le_trans I.ok.bsz I.ok.above)
theorem Inv.mG (I:Inv X pins σ H s):∀ b∈frs X.stack,b∈X.env.locals :: X.fs:=fun b hb=>by
 rcases I.ok.stk with e | ⟨e,hf⟩
 ·rw [e] at hb;exact List.mem_cons_of_mem _ hb
 ·rw [e] at hb
  unfold frs at hb
  rw [List.filterMap_cons,hf] at hb
  exact hb
theorem Inv.r_ (I:Inv X pins σ H s):∀ b∈frs X.stack,H b=none:=fun b hb=>by
 rcases List.mem_cons.mp (I.mG b hb) with e | hb
 ·rw [e];exact I.free
 ·obtain ⟨_,o,ho,_⟩:=I.ok.gJ.mem hb
  exact I.base.free b o ho (I.ok.frf b hb) fun z=>I.ok.exfs b z hb
theorem Inv.step {g':Array GenState} {t':Nat} {d':Drawn} {ch:List Addr} (I:Inv X pins σ H s)
  (hch:∀ b∈ch,(b∈X.ex∨X.s₀.heap.objs.size≤b)∧b≠X.env.locals∧(∀ x c,X.env.cells.lookup x=some c→c≠b)∧∀ p∈X.pn++pins,p.1≠b)
  (keep:∀ b o,b≠X.env.locals→b∉X.fs→b∉ch→s.heap.get? b=some o→H b=none→h'.get? b=some o)
  (slot:∀ b o,b≠X.env.locals→b∈X.fs→b∉ch→s.heap.get? b=some o→H b=none→∃ sl,h'.get? b=some { o with slots:=sl }) (free:∀ b o,b∉ch→s.heap.get? b=some o→H b=none→H' b=none)
  (there:∀ b o,b∉ch→s.heap.get? b=some o→∃ o',h'.get? b=some o')
  (tups:∀ b xs,H b=some (.tup xs)→H' b=some (.tup xs)) (frzs:∀ b o u,H b=some (.frz o u)→H' b=some (.frz o u)) (tbls:∀ b ps,H b=some (.tbl ps)→∃ more,H' b=some (.tbl (ps++more)))
  (ns:∀ m,s.heap.Ns X.env.locals m→h'.Ns X.env.locals m) (hok:HOk X.prog X.w H' h') (hg:AllBare g') :
  Inv X pins σ H' { s with heap:=h',gens:=g',drawn:=d',toks:=t' }:=by
 have neL:∀ b o,X.s₀.heap.get? b=some o→b≠X.env.locals:=fun b o e=>Nat.ne_of_lt (Nat.lt_of_lt_of_le (Heap.lt_size e) I.ok.above)
 have neC:∀ b o,X.s₀.heap.get? b=some o→b∉X.ex→b∉ch:=fun b o e hx hb=>by
  rcases (hch b hb).1 with z | z
  ·exact hx z
  ·exact absurd (Nat.lt_of_lt_of_le (Heap.lt_size e) z) (Nat.lt_irrefl _)
 have cellK:∀ x c,X.env.cells.lookup x=some c→∀ v,s.heap.IsCell c v→h'.IsCell c v:=fun x c e v ⟨o,ho,hd⟩=>by
  have nch:c∉ch:=fun z=>(hch c z).2.2.1 x c e rfl
  by_cases hc:c∈X.fs
  ·obtain ⟨sl,q⟩:=slot c o (I.cne x c e) hc nch ho (I.freeC x c e)
   exact ⟨_,q,hd⟩
  ·exact ⟨o,keep c o (I.cne x c e) hc nch ho (I.freeC x c e),hd⟩
 refine ⟨I.ok,I.os,hg,⟨fun b o e n hb hx=>?_,fun b o e n hb hx=>?_,fun b o e n hx=>?_,fun b o e hx=>?_,fun b xs e=>tups b xs (I.base.tups b xs e),fun b o xs e=>frzs b o xs (I.base.frzs b o xs e),fun b ps e=>?_⟩,?_,fun x c e=>?_,?_,fun x c e=>?_,fun p hp=>?_,hok,I.len⟩
 ·exact keep b o (neL b o e) hb (neC b o e hx) (I.base.keep b o e n hb hx) (I.base.free b o e n hx)
 ·obtain ⟨sl,e1⟩:=I.base.slot b o e n hb hx
  obtain ⟨sl',e2⟩:=slot b _ (neL b o e) hb (neC b o e hx) e1 (I.base.free b o e n hx)
  exact ⟨sl',e2⟩
 ·obtain ⟨o',e1⟩:=I.base.there b o e hx
  exact free b o' (neC b o e hx) e1 (I.base.free b o e n hx)
 ·obtain ⟨o',e1⟩:=I.base.there b o e hx
  exact there b o' (neC b o e hx) e1
 ·obtain ⟨m1,e1⟩:=I.base.tbls b ps e
  obtain ⟨m2,e2⟩:=tbls b _ e1
  exact ⟨m1++m2,by rw [e2,Array.append_assoc]⟩
 ·obtain ⟨m,hn,hl⟩:=I.loc
  refine ⟨m,ns m hn,fun i x v e1 e2 e3=>?_⟩
  obtain ⟨u,r,l⟩:=hl i x v e1 e2 e3
  refine ⟨u,r,?_⟩
  rcases l with l | ⟨k,c,e,z⟩
  ·exact .inl l
  ·exact .inr ⟨k,c,e,cellK x c e _ z⟩
 ·obtain ⟨v,z⟩:=I.cell x c e
  exact ⟨v,cellK x c e v z⟩
 ·obtain ⟨m,⟨o,_,_,ho,_⟩,_⟩:=I.loc
  exact free _ o (fun z=>(hch _ z).2.1 rfl) ho I.free
 ·obtain ⟨v,o,ho,hd⟩:=I.cell x c e
  exact free c o (fun z=>(hch c z).2.2.1 x c e rfl) ho (I.freeC x c e)
 ·obtain ⟨e,n,ne,nf,d⟩:=I.pin p hp
  have nch:p.1∉ch:=fun z=>(hch p.1 z).2.2.2 p hp rfl
  exact ⟨keep p.1 p.2 ne nf nch e n,free p.1 p.2 nch e n,ne,nf,d⟩
theorem Inv.un {t':Nat} (I:Inv X pins σ H s) (u:Un X.fs [] H H' s.heap h') (hok:HOk X.prog X.w H' h'):Inv X pins σ H' { s with heap:=h',toks:=t' }:=by
 obtain ⟨m,⟨o,es,ep,ho,r⟩,_⟩:=id I.loc
 obtain ⟨sl,hL⟩:=u.any ho I.free (by simp)
 exact I.step (g':=s.gens) (d':=s.drawn) (ch:=[]) (fun _ z=>nomatch z) (fun b o _ hb _ e n=>u.keep b o e n hb (by simp)) (fun b o _ hb _ e n=>u.slot b o e n hb (by simp)) (fun b o _ e n=>u.free b o e n (by simp)) (fun b o _ e=>u.there b o e (by simp)) u.tups u.frzs u.tbls (fun m' hm=>by
  obtain ⟨o',es',ep',ho',r'⟩:=hm
  rw [ho] at ho';cases ho'
  exact ⟨_,es',ep',hL,r'⟩) hok I.bare
theorem Inv.call {g':Array GenState} {t':Nat} {d':Drawn} {ch:List Addr} (I:Inv X pins σ H s) (u:Un (frs X.stack) ch H H' s.heap h') (hok:HOk X.prog X.w H' h') (hg:AllBare g')
  (hch:∀ b∈ch,(b∈X.ex∨X.s₀.heap.objs.size≤b)∧b≠X.env.locals∧(∀ x c,X.env.cells.lookup x=some c→c≠b)∧∀ p∈X.pn++pins,p.1≠b) :
  Inv X pins σ H' { s with heap:=h',gens:=g',drawn:=d',toks:=t' }:=by
 obtain ⟨m,⟨o,es,ep,ho,r⟩,_⟩:=id I.loc
 obtain ⟨sl,hL⟩:=u.any ho I.free fun z=>(hch _ z).2.1 rfl
 exact I.step (ch:=ch) hch (fun b o hL hb hc e n=>u.keep b o e n (fun z=>(List.mem_cons.mp (I.mG b z)).elim hL hb) hc) (fun b o _ _ hc e n=>u.any e n hc) (fun b o hc e n=>u.free b o e n hc) (fun b o hc e=>u.there b o e hc) u.tups u.frzs u.tbls (fun m' hm=>by
  obtain ⟨o',es',ep',ho',r'⟩:=hm
  rw [ho] at ho';cases ho'
  exact ⟨_,es',ep',hL,r'⟩) hok hg
theorem Inv.turned {t':Nat} {it:Addr} (I:Inv X pins σ H s) (k:∀ b o,b≠it→s.heap.get? b=some o→h'.get? b=some o) (hn:H it=none) (hL:it≠X.env.locals)
  (h1:it∈X.ex∨X.s₀.heap.objs.size≤it) (h2:∀ x c,X.env.cells.lookup x=some c→c≠it) (h3:∀ p∈X.pn++pins,p.1≠it):Inv X pins σ H { s with heap:=h',toks:=t' }:=by
 have nit:∀ b u,H b=some u→b≠it:=fun b u e z=>by rw [z,hn] at e;cases e
 refine I.step (g':=s.gens) (d':=s.drawn) (ch:=[it]) (fun b hb=>?_) (fun b o _ _ hc e _=>k b o (fun z=>hc (by simp [z])) e) (fun b o _ _ hc e _=>⟨o.slots,k b o (fun z=>hc (by simp [z])) e⟩) (fun _ _ _ _ n=>n)
  (fun b o hc e=>⟨o,k b o (fun z=>hc (by simp [z])) e⟩) (fun _ _ e=>e) (fun _ _ _ e=>e) (fun b ps e=>⟨#[],by rw [e];simp⟩) (fun m hm=>?_) (fun b u e=>?_) I.bare
 ·have e:b=it:=by simpa using hb
  subst e
  exact ⟨h1,hL,h2,h3⟩
 ·obtain ⟨o,es,ep,ho,r⟩:=hm
  exact ⟨o,es,ep,k _ o (Ne.symm hL) ho,r⟩
 ·refine (I.hok b u e).lQ (fun c v hc q=>k c v ?_ q) (fun _ q=>q) fun _ _ q=>q
  rcases hc with z | z
  ·rw [z];exact nit b u e
  ·exact nit c _ z
theorem Inv.tok (I:Inv X pins σ H s) (t:Nat):Inv X pins σ H { s with toks:=t }:=I.un (h':=s.heap) (t':=t) Un.refl I.hok
theorem Inv.kept {t':Nat} (I:Inv X pins σ H s) (k:∀ b u,s.heap.get? b=some u→h'.get? b=some u):Inv X pins σ H { s with heap:=h',toks:=t' }:=I.un (Un.kept k) (I.hok.kept k)
theorem Inv.laid {a:Addr} {o:HO} {t':Nat} (I:Inv X pins σ H s) (k:∀ b u,s.heap.get? b=some u→h'.get? b=some u) (hp:s.heap.objs.size≤a) (new:b8 X.prog X.w (upd H a o) h' a o) :
  Inv X pins σ (upd H a o) { s with heap:=h',toks:=t' }:=I.un (Un.laid k hp (I.hok.fresh hp)) (I.hok.laid k hp new)
theorem Inv.write {x e:Addr} {o:HO} {t':Nat} (I:Inv X pins σ H s) (mu:Mut (H x)) (he:e=x∨H e=some (.own x)) (k:∀ b u,b≠e→s.heap.get? b=some u→h'.get? b=some u) (heo:∃ u,h'.get? e=some u)
  (new:b8 X.prog X.w (upd H x o) h' x o):Inv X pins σ (upd H x o) { s with heap:=h',toks:=t' }:=I.un (Un.write mu he k heo) (I.hok.write mu he k heo new)
theorem Inv.nE {pins':List (Addr×Obj)} (I:Inv X pins σ H s) (h:∀ p∈pins',s.heap.get? p.1=some p.2∧H p.1=none∧p.1≠X.env.locals∧p.1∉X.fs∧∀ v,p.2.data≠.cell v):Inv X pins' σ H s:=
 ⟨I.ok,I.os,I.bare,I.base,I.loc,I.cell,I.free,I.freeC,fun p hp=>(List.mem_append.mp hp).elim (fun z=>I.pin p (List.mem_append_left _ z)) (h p),I.hok,I.len⟩
theorem pS {N:List Str} (hN:N.Nodup) {i j:Nat} {x:Str} (a:N[i]?=some x) (b:N[j]?=some x):i=j:=by
 obtain ⟨h1,e1⟩:=List.getElem?_eq_some_iff.mp a
 obtain ⟨h2,e2⟩:=List.getElem?_eq_some_iff.mp b
 exact (List.getElem_inj hN).mp (e1.trans e2.symm)
theorem vn {M:Model} {A:Around} {E:Value→Shared→Prop} {i:Nat} {x:Str} {v:V} {u:Value} {Q:Unit→Shared→Prop} (I:Inv X pins σ H s) (hN:X.N.Nodup) (hi:X.N[i]?=some x) (hx:Loc X.env.scope x) (r:RelV v u)
  (h:∀ s',Inv X pins (σ.set i (some v)) H s'→(∃ a,Heap.SameBut a s.heap s'.heap∧(a=X.env.locals∨X.env.cells.lookup x=some a))→Q () s') (hf:X.fn x=true∨X.env.scope.names.lookup x=some .local:=by first | exact .inl rfl | exact .inr rfl | assumption):wpAny M A (storeName X.env x u) Q E s:=by
 obtain ⟨m,hn,hl⟩:=id I.loc
 have hcls:(X.env.scope.kind == .class || (X.env.scope.kind == .module && X.env.locals != X.env.globals))=false:=by rw [I.ok.kind];rfl
 have hiσ:i < σ.length:=by rw [I.len];exact (List.getElem?_eq_some_iff.mp hi).1
 have cne:=I.cne
 have tracked:∀ {a:Addr} {h':Heap},(∃ o,s.heap.get? a=some o∧H a=none)→Heap.SameBut a s.heap h'→HOk X.prog X.w H h':=fun {a h'} ha hs b ob e=>by
  obtain ⟨_,_,hfree⟩:=ha
  refine (I.hok b ob e).lQ (fun c w' hc q=>(hs.2 c ?_).trans q) (fun _ q=>q) fun _ _ q=>q
  rintro rfl
  rcases hc with rfl | hc
  ·rw [hfree] at e;cases e
  ·rw [hfree] at hc;cases hc
 rcases hx with hk | hk
 ·refine wpAny_storeName_local hk hn (fun h' hn' hs=>?_) hcls
  obtain ⟨oL,_,_,hoL,_⟩:=id hn
  refine h _ ⟨I.ok,I.os,I.bare,⟨fun b o e n hb hx=>?_,fun b o e n hb hx=>?_,I.base.free,fun b o e hx=>?_,I.base.tups,I.base.frzs,I.base.tbls⟩,⟨_,hn',fun j y v' e1 e2 e3=>?_⟩,fun y c e=>?_,I.free,I.freeC,fun p hp=>?_,tracked ⟨oL,hoL,I.free⟩ hs,by simpa using I.len⟩ ⟨_,hs,.inl rfl⟩
  ·exact (hs.2 b (Nat.ne_of_lt (Nat.lt_of_lt_of_le (Heap.lt_size e) I.ok.above))).trans (I.base.keep b o e n hb hx)
  ·obtain ⟨sl,e1⟩:=I.base.slot b o e n hb hx
   exact ⟨sl,(hs.2 b (Nat.ne_of_lt (Nat.lt_of_lt_of_le (Heap.lt_size e) I.ok.above))).trans e1⟩
  ·obtain ⟨o',e1⟩:=I.base.there b o e hx
   exact ⟨o',(hs.2 b (Nat.ne_of_lt (Nat.lt_of_lt_of_le (Heap.lt_size e) I.ok.above))).trans e1⟩
  ·by_cases hj:j=i
   ·subst hj
    rw [hi] at e1;cases e1
    rw [List.getElem?_set_self hiσ] at e2
    cases e2
    exact ⟨u,r,.inl ⟨hk,by simp⟩⟩
   ·rw [List.getElem?_set_ne (Ne.symm hj)] at e2
    obtain ⟨u',r',q⟩:=hl j y v' e1 e2 e3
    refine ⟨u',r',?_⟩
    rcases q with ⟨k,e⟩ | ⟨k,c,e,z⟩
    ·refine .inl ⟨k,?_⟩
     have:y≠x:=fun e=>hj (pS hN e1 (e ▸ hi))
     simp [this,e]
    ·exact .inr ⟨k,c,e,z.sameBut hs (cne y c e)⟩
  ·obtain ⟨w',z⟩:=I.cell y c e
   exact ⟨w',z.sameBut hs (cne y c e)⟩
  ·obtain ⟨e,n,ne,nf,d⟩:=I.pin p hp
   exact ⟨(hs.2 p.1 ne).trans e,n,ne,nf,d⟩
 ·have hfn:X.fn x=true:=by
   rcases hf with z | z
   ·exact z
   ·rw [z] at hk;cases hk
  obtain ⟨c,hc⟩:=I.ok.has x (.inl hk)
  obtain ⟨w',z⟩:=I.cell x c hc
  refine wpAny_storeName_cell I.ok.kind hk hc z (fun h' hc' hs=>?_)
  obtain ⟨oc,hoc,hocd⟩:=id z
  refine h { s with heap:=h' } ⟨I.ok,I.os,I.bare,⟨fun b o e n hb hx=>?_,fun b o e n hb hx=>?_,I.base.free,fun b o e hx=>?_,I.base.tups,I.base.frzs,I.base.tbls⟩,⟨m,hn.sameBut hs (Ne.symm (cne x c hc)),fun j y v' e1 e2 e3=>?_⟩,fun y c' e=>?_,I.free,I.freeC,fun p hp=>?_,tracked ⟨oc,hoc,I.freeC x c hc⟩ hs,by simpa using I.len⟩ ⟨c,hs,.inr hc⟩
  ·exact (hs.2 b (Nat.ne_of_lt (Nat.lt_of_lt_of_le (Heap.lt_size e) (I.ok.cab x c hfn hc)))).trans (I.base.keep b o e n hb hx)
  ·obtain ⟨sl,e1⟩:=I.base.slot b o e n hb hx
   exact ⟨sl,(hs.2 b (Nat.ne_of_lt (Nat.lt_of_lt_of_le (Heap.lt_size e) (I.ok.cab x c hfn hc)))).trans e1⟩
  ·obtain ⟨o',e1⟩:=I.base.there b o e hx
   exact ⟨o',(hs.2 b (Nat.ne_of_lt (Nat.lt_of_lt_of_le (Heap.lt_size e) (I.ok.cab x c hfn hc)))).trans e1⟩
  ·by_cases hj:j=i
   ·subst hj
    rw [hi] at e1;cases e1
    rw [List.getElem?_set_self hiσ] at e2
    cases e2
    exact ⟨u,r,.inr ⟨.inl hk,c,hc,hc'⟩⟩
   ·rw [List.getElem?_set_ne (Ne.symm hj)] at e2
    obtain ⟨u',r',q⟩:=hl j y v' e1 e2 e3
    refine ⟨u',r',?_⟩
    rcases q with q | ⟨k,c',e,z'⟩
    ·exact .inl q
    ·refine .inr ⟨k,c',e,z'.sameBut hs ?_⟩
     rintro rfl
     exact hj (pS hN e1 (I.ok.inj _ _ _ e hc ▸ hi))
  ·by_cases hcc:c'=c
   ·subst hcc;exact ⟨_,hc'⟩
   ·obtain ⟨w2,z2⟩:=I.cell y c' e
    exact ⟨w2,z2.sameBut hs hcc⟩
  ·obtain ⟨e,n,ne,nf,d⟩:=I.pin p hp
   refine ⟨(hs.2 p.1 ?_).trans e,n,ne,nf,d⟩
   intro q
   rw [q,hoc] at e
   have q':oc=p.2:=Option.some.inj e
   exact d w' (by rw [← q'];exact hocd)
theorem lW {M:Model} {A:Around} {E:Value→Shared→Prop} {i:Nat} {x:Str} {v:V} {u:Value} {Q:Unit→Shared→Prop} (I:Inv X pins σ H s) (hN:X.N.Nodup) (hi:X.N[i]?=some x) (hx:Loc X.env.scope x) (r:RelV v u)
  (h:∀ s',Inv X pins (σ.set i (some v)) H s'→Q () s') (hf:X.fn x=true∨X.env.scope.names.lookup x=some .local:=by first | exact .inl rfl | exact .inr rfl | assumption):wpAny M A (storeName X.env x u) Q E s:=
 vn I hN hi hx r (fun s' I' _=>h s' I') hf
theorem Inv.EO {s':Shared} {ch:List Addr} (I:Inv X pins σ H s) (ho:s'.os=s.os) (u:Un (frs X.stack) ch H H' s.heap s'.heap) (hok:HOk X.prog X.w H' s'.heap) (hg:AllBare s'.gens)
  (hch:∀ b∈ch,(b∈X.ex∨X.s₀.heap.objs.size≤b)∧b≠X.env.locals∧(∀ x c,X.env.cells.lookup x=some c→c≠b)∧∀ p∈X.pn++pins,p.1≠b):Inv X pins σ H' s':=by
 obtain ⟨h',g',d',t',o'⟩:=s'
 have e:o'=s.os:=ho
 subst e
 exact I.call (g':=g') (t':=t') (d':=d') u hok hg hch
end
abbrev XK:=Value→Option Addr→Hp→Prop
abbrev St:=List (Option V)
abbrev VK:=V→Hp→Prop
abbrev TE:=St→Hp→VK→Prop
abbrev TT:=St→Hp→(Bool→Hp→Prop)→Prop
abbrev TA:=St→Hp→(List V→Hp→Prop)→Prop
structure Ends where
 nx:St→Hp→Prop
 rt:VK
 bk:St→Hp→Prop:=fun _ _=>False
 ct:St→Hp→Prop:=fun _ _=>False
abbrev TS:=Ends→St→Hp→Prop
def EP (X:Cx) (pins:List (Addr×Obj)) (σ:St) (Q:VK) (u:Value) (s':Shared):Prop:=∃ v H',Inv X pins σ H' s'∧RelV v u∧Q v H'
def TP (X:Cx) (pins:List (Addr×Obj)) (σ:St) (Q:Bool→Hp→Prop) (b:Bool) (s':Shared):Prop:=∃ H',Inv X pins σ H' s'∧Q b H'
def AP (X:Cx) (pins:List (Addr×Obj)) (σ:St) (Q:List V→Hp→Prop) (us:List Value) (s':Shared):Prop:=∃ vs H',Inv X pins σ H' s'∧Vals vs us∧Q vs H'
def SP (X:Cx) (pins:List (Addr×Obj)) (D:Ends) (f:Flow) (s':Shared):Prop:=
 match f with
 | .next=>∃ σ' H',Inv X pins σ' H' s'∧D.nx σ' H'
 | .brk=>∃ σ' H',Inv X pins σ' H' s'∧D.bk σ' H'
 | .cont=>∃ σ' H',Inv X pins σ' H' s'∧D.ct σ' H'
 | .ret u=>∃ v σ' H',Inv X pins σ' H' s'∧RelV v u∧D.rt v H'
def PE (X:Cx) (e:Expr) (t:TE):Prop:=
 ∀ (pins:List (Addr×Obj)) (s:Shared) (σ:St) (H:Hp) (Q:VK),Inv X pins σ H s→t σ H Q→wpAny (model X.prog X.w) X.A (eval e X.env) (EP X pins σ Q) X.xe s
def PT (X:Cx) (e:Expr) (t:TT):Prop:=
 ∀ (pins:List (Addr×Obj)) (s:Shared) (σ:St) (H:Hp) (Q:Bool→Hp→Prop),Inv X pins σ H s→t σ H Q→wpAny (model X.prog X.w) X.A (isTrue e X.env (eval e X.env)) (TP X pins σ Q) X.xe s
def PW (X:Cx) (e:Expr) (t:TT):Prop:=
 ∀ (whole:Sem Value) (pins:List (Addr×Obj)) (s:Shared) (σ:St) (H:Hp) (Q:Bool→Hp→Prop),Inv X pins σ H s→t σ H Q→wpAny (model X.prog X.w) X.A (isTrue e X.env whole) (TP X pins σ Q) X.xe s
theorem PW.pt {X:Cx} {e:Expr} {t:TT} (h:PW X e t):PT X e t:=h _
def PA (X:Cx) (es:List Expr) (t:TA):Prop:=
 ∀ (pos:Pos) (pins:List (Addr×Obj)) (s:Shared) (σ:St) (H:Hp) (Q:List V→Hp→Prop),Inv X pins σ H s→t σ H Q→wpAny (model X.prog X.w) X.A (spliced (backTo pos (starEach es X.env))) (AP X pins σ Q) X.xe s
def PS (X:Cx) (st:Stmt) (t:TS):Prop:=
 ∀ (pins:List (Addr×Obj)) (s:Shared) (σ:St) (H:Hp) (D:Ends),Inv X pins σ H s→t D σ H→wpAny (model X.prog X.w) X.A (exec st X.env) (SP X pins D) X.xe s
def PSs (X:Cx) (st:List Stmt) (t:TS):Prop:=
 ∀ (pins:List (Addr×Obj)) (s:Shared) (σ:St) (H:Hp) (D:Ends),Inv X pins σ H s→t D σ H→wpAny (model X.prog X.w) X.A (execs st X.env) (SP X pins D) X.xe s
theorem thn {α:Type} {t:Sem α} {Q Q':α→Shared→Prop} {M:Model} {A:Around} {E:Value→Shared→Prop} {s:Shared} (h:wpAny M A t Q E s) (hQ:∀ a s,Q a s→Q' a s):wpAny M A t Q' E s:=wpAny_mono h hQ fun _ _ x=>x
section
variable {X:Cx}
def Fv (i:Nat):TE:=fun σ H Q=>∃ v,σ[i]?=some (some v)∧Q v H
def tC (v:V):TE:=fun _ H Q=>Q v H
theorem Ak {i:Nat} {x:Str} {pos:Pos} (hN:X.N[i]?=some x) (hv:Vis X.env.scope x) (hd:(x == ("__debug__":Str))=false:=by decide) (hcd:(x == ("__classdict__":Str))=false:=by decide):PE X (.Name x pos) (Fv i):=by
 intro pins s σ H Q I h
 obtain ⟨v,e,h⟩:=h
 obtain ⟨m,hn,hl⟩:=I.loc
 obtain ⟨u,r,l⟩:=hl i x v hN e hv
 have fin:EP X pins σ Q u s:=⟨v,H,I,r,h⟩
 rcases l with ⟨hk,hm⟩ | ⟨hk,c,hc,hcell⟩
 ·exact wpAny_Name (wpAny_loadName_local I.ok.kind hk hn hm fin) hd
 ·rcases hk with hk | hk
  ·exact wpAny_Name (wpAny_loadName_cell I.ok.kind hk hc hcell fin) hd
  ·exact wpAny_Name (wpAny_loadName_free I.ok.kind hk hc hcell fin hcd) hd
theorem Cf {i j pos}:PE X (.Constant (.int i) j pos) (tC (.int i)):=fun _ _ _ H _ I h=>wpAny_Constant_int ⟨.int i,H,I.tok _,⟨_,rfl⟩,h⟩
theorem Dh {b j pos}:PE X (.Constant (.bool b) j pos) (tC (.bl b)):=fun _ _ _ H _ I h=>Constant_bool ⟨.bl b,H,I,rfl,h⟩
theorem Cr {j pos}:PE X (.Constant .none j pos) (tC .non):=fun _ _ _ H _ I h=>Constant_none ⟨.non,H,I,rfl,h⟩
theorem BJ {x j pos}:PE X (.Constant (.str x) j pos) (tC (.str x)):=fun _ _ _ H _ I h=>Calls.Constant_str ⟨.str x,H,I.tok _,⟨_,rfl⟩,h⟩
def Gl (X:Cx) (x:Str):Prop:=X.env.kindOf x=some .globalImplicit
theorem nu {E:Value→Shared→Prop} {pins:List (Addr×Obj)} {s:Shared} {σ:St} {H:Hp} {x:Str} {u:Value} {pos:Pos} {Q:Value→Shared→Prop} (I:Inv X pins σ H s) (hg:Gl X x) (hm:X.mg x=some u) (h:Q u s)
  (hd:(x == ("__debug__":Str))=false:=by decide):wpAny (model X.prog X.w) X.A (eval (.Name x pos) X.env) Q E s:=
 Calls.Name_function_global I.ok.kind hg (Calls.loadGlobal_global (by rw [I.ok.glob];exact I.mod.glob.keeps I.bk) hm h) hd
theorem c9 {E:Value→Shared→Prop} {pins:List (Addr×Obj)} {s:Shared} {σ:St} {H:Hp} {x:Str} {u:Value} {pos:Pos} {Q:Value→Shared→Prop} (I:Inv X pins σ H s) (hg:Gl X x) (hm:X.mg x=none) (hv:bootBuiltins x=some u) (h:Q u s)
  (hn:x≠"__name__":=by decide) (hd:(x == ("__debug__":Str))=false:=by decide):wpAny (model X.prog X.w) X.A (eval (.Name x pos) X.env) Q E s:=by
 obtain ⟨mb,h1,h2⟩:=I.mod.blt
 exact Calls.Name_function_global I.ok.kind hg (Calls.loadGlobal_builtin (by rw [I.ok.glob];exact I.mod.glob.keeps I.bk) hm (by rw [I.ok.blt];exact h1.keeps I.bk) ((h2 x hn).trans hv) h) hd
theorem zA {x:Str} {v:V} {u:Value} {pos:Pos} (hg:Gl X x) (hm:X.mg x=none) (hv:bootBuiltins x=some u) (r:RelV v u) (hn:x≠"__name__":=by decide) (hd:(x == ("__debug__":Str))=false:=by decide):PE X (.Name x pos) (tC v):=
 fun _ _ _ H _ I h=>c9 I hg hm hv ⟨v,H,I,r,h⟩ hn hd
variable {a b:Expr} {ta tb:TE} {pos:Pos}
variable {tA tB':TT} {rest:List Expr}
def tOr (t u:TT):TT:=fun σ H Q=>t σ H fun c H1=>if c=true then Q true H1 else u σ H1 Q
def FW (t:TT):TT:=fun σ H Q=>t σ H fun c H1=>Q (!c) H1
theorem BM (ha:PT X a tA):PW X (.BoolOp .Or [a] pos) tA:=by
 intro wh pins s σ H Q I h
 refine isTrue_or (thn (ha pins s σ H Q I h) fun c s1 e=>?_)
 cases c with
 | false=>exact isTrue_or_nil e
 | true=>exact e
theorem EE (ha:PT X a tA) (hb:PW X (.BoolOp .Or (b :: rest) pos) tB'):PW X (.BoolOp .Or (a :: b :: rest) pos) (tOr tA tB'):=by
 intro wh pins s σ H Q I h
 refine isTrue_or (thn (ha pins s σ H _ I h) fun c s1 ⟨H1,I1,q1⟩=>?_)
 cases c with
 | true=>exact ⟨H1,I1,q1⟩
 | false=>exact hb wh pins s1 σ H1 Q I1 q1
theorem AS (ha:PT X a tA):PT X (.UnaryOp .Not a pos) (FW tA):=by
 intro pins s σ H Q I h
 exact isTrue_not (ha pins s σ H (fun c H1=>Q (!c) H1) I h)
def Ej (ta tb:TE):TE:=fun σ H Q=>ta σ H fun x H1=>∃ c,x=.bl c∧if c=true then tb σ H1 Q else Q (.bl false) H1
def Ff (ta tb:TE):TE:=fun σ H Q=>ta σ H fun x H1=>∃ c,x=.bl c∧if c=true then Q (.bl true) H1 else tb σ H1 Q
def EF (ta:TE):TE:=fun σ H Q=>ta σ H fun x H1=>∃ c,x=.bl c∧Q (.bl (!c)) H1
theorem Am {op} {t:TE} (h:PE X a t):PE X (.BoolOp op [a] pos) t:=fun pins s σ H Q I hw=>BoolOp_one (h pins s σ H Q I hw)
theorem AR (ha:PE X a ta) (hb:PE X (.BoolOp .And (b :: rest) pos) tb):PE X (.BoolOp .And (a :: b :: rest) pos) (Ej ta tb):=by
 intro pins s σ H Q I h
 refine BoolOp_and (thn (ha pins s σ H _ I h) fun v s1 ⟨x,H1,I1,r1,q1⟩=>?_)
 obtain ⟨c,rfl,q1⟩:=q1
 cases r1
 refine wpAny_truthy_bool ?_
 cases c with
 | true=>exact hb pins s1 σ H1 Q I1 q1
 | false=>exact ⟨.bl false,H1,I1,rfl,q1⟩
theorem DG (ha:PE X a ta) (hb:PE X (.BoolOp .Or (b :: rest) pos) tb):PE X (.BoolOp .Or (a :: b :: rest) pos) (Ff ta tb):=by
 intro pins s σ H Q I h
 refine BoolOp_or (thn (ha pins s σ H _ I h) fun v s1 ⟨x,H1,I1,r1,q1⟩=>?_)
 obtain ⟨c,rfl,q1⟩:=q1
 cases r1
 refine wpAny_truthy_bool ?_
 cases c with
 | false=>exact hb pins s1 σ H1 Q I1 q1
 | true=>exact ⟨.bl true,H1,I1,rfl,q1⟩
theorem Cm (ha:PE X a ta):PE X (.UnaryOp .Not a pos) (EF ta):=by
 intro pins s σ H Q I h
 refine UnaryOp_ (thn (ha pins s σ H _ I h) fun v s1 ⟨x,H1,I1,r1,q1⟩=>?_)
 obtain ⟨c,rfl,q1⟩:=q1
 cases r1
 exact not_of (wpAny_truthy_bool ⟨.bl (!c),H1,I1,rfl,q1⟩)
def tIf (t:TT) (ta tb:TE):TE:=fun σ H Q=>t σ H fun c H1=>if c=true then ta σ H1 Q else tb σ H1 Q
theorem wd {c:Expr} (hc:PT X c tA) (ha:PE X a ta) (hb:PE X b tb):PE X (.IfExp c a b pos) (tIf tA ta tb):=by
 intro pins s σ H Q I h
 refine wpAny_IfExp (thn (hc pins s σ H _ I h) fun d s1 ⟨H1,I1,q1⟩=>?_)
 cases d with
 | true=>exact ha pins s1 σ H1 Q I1 q1
 | false=>exact hb pins s1 σ H1 Q I1 q1
end
def SqL (K:PySem.W.Frag) (H:Hp) (a:Addr) (xs:List V):Prop:=
 Rd H a (.lst xs) ∨
  ∃ (o:Obj) (its:Array Value) (n:Nat),K.lookup a=some o∧o.cls=.type "list"∧o.dict=none∧o.data=.seq its n∧its.size≤sizeLine∧Vals xs its.toList
def SqT (K:PySem.W.Frag) (H:Hp) (a:Addr) (xs:List V):Prop:=
 Rd H a (.tup xs) ∨
  ∃ (o:Obj) (its:Array Value) (n:Nat),K.lookup a=some o∧o.cls=.type "tuple"∧o.data=.seq its n∧its.size≤sizeLine∧Vals xs its.toList
def Ga:Value→Option V
 | .none=>some .non
 | .bool b=>some (.bl b)
 | .int i _=>some (.int i)
 | .str x _=>some (.str x)
 | .bytes b _=>some (.byt b)
 | .float b _=>some (.flt b)
 | .ref a=>some (.ref a)
 | .type n=>some (.ty n)
 | _=>none
theorem RelV.abs {x:V} {u:Value} (r:RelV x u):Ga u=some x:=by
 cases x with
 | non=>cases r;rfl
 | bl _=>cases r;rfl
 | int _=>obtain ⟨t,rfl⟩:=r;rfl
 | str _=>obtain ⟨t,rfl⟩:=r;rfl
 | byt _=>obtain ⟨t,rfl⟩:=r;rfl
 | flt _=>obtain ⟨t,rfl⟩:=r;rfl
 | ref _=>cases r;rfl
 | ty _=>cases r;rfl
theorem RelV.inj {x y:V} {u:Value} (r:RelV x u) (q:RelV y u):x=y:=Option.some.inj (r.abs.symm.trans q.abs)
theorem Vals.inj:∀ {xs ys:List V} {us:List Value},Vals xs us→Vals ys us→xs=ys
 | _,_,_,.nil,.nil=>rfl
 | _,_,_,.cons r t,.cons r' t'=>by rw [r.inj r',Vals.inj t t']
section
variable {X:Cx} {pins:List (Addr×Obj)} {σ:St} {H:Hp} {s:Shared} {a:Addr} {xs ys:List V}
theorem SqL.of {K:PySem.W.Frag} (h:H a=some (.lst xs)):SqL K H a xs:=.inl (.inl h)
theorem SqT.of {K:PySem.W.Frag} (h:H a=some (.tup xs)):SqT K H a xs:=.inl (.inl h)
theorem Inv.list (I:Inv X pins σ H s) (h:SqL X.K H a xs):∃ its:List Value,Vals xs its∧PlainL s.heap a its.toArray∧xs.length≤sizeLine:=by
 rcases h with h | ⟨o,its,n,hk,hc,hd,hs,hz,r⟩
 ·obtain ⟨z,its,n,r,e⟩:=h.ok I.hok
  exact ⟨its,r,⟨_,n,e,rfl,rfl,rfl⟩,z⟩
 ·refine ⟨its.toList,r,⟨o,n,I.kIn a o hk,hc,hd,by simpa using hs⟩,?_⟩
  have e:=r.length
  simp only [Array.length_toList] at e
  omega
theorem Inv.tuple (I:Inv X pins σ H s) (h:SqT X.K H a xs):∃ its:List Value,Vals xs its∧IsTup s.heap a its.toArray∧xs.length≤sizeLine:=by
 rcases h with h | ⟨o,its,n,hk,hc,hs,hz,r⟩
 ·obtain ⟨z,its,r,p⟩:=h.ok I.hok
  exact ⟨its,r,p,z⟩
 ·refine ⟨its.toList,r,⟨o,I.kIn a o hk,hc,n,by simpa using hs⟩,?_⟩
  have e:=r.length
  simp only [Array.length_toList] at e
  omega
theorem Inv.lR (I:Inv X pins σ H s) (h:SqL X.K H a xs) (h':SqL X.K H a ys):xs=ys:=by
 obtain ⟨its,r,⟨o,n,e,_,_,d⟩,_⟩:=I.list h
 obtain ⟨its',r',⟨o',n',e',_,_,d'⟩,_⟩:=I.list h'
 rw [e] at e';cases e'
 rw [d] at d'
 injection d' with d1 _
 have:its=its':=by simpa using congrArg Array.toList d1
 subst this
 exact r.inj r'
theorem Inv.og (I:Inv X pins σ H s) (h:SqT X.K H a xs) (h':SqT X.K H a ys):xs=ys:=by
 obtain ⟨its,r,⟨o,e,_,n,d⟩,_⟩:=I.tuple h
 obtain ⟨its',r',⟨o',e',_,n',d'⟩,_⟩:=I.tuple h'
 rw [e] at e';cases e'
 rw [d] at d'
 injection d' with d1 _
 have:its=its':=by simpa using congrArg Array.toList d1
 subst this
 exact r.inj r'
end
abbrev Cx.iP (X:Cx) (E:Value→Shared→Prop):Cx:={ X with xe:=E }
abbrev Cx.nox (X:Cx):Cx:=X.iP fun _ _=>False
theorem Cx.Ok.iP {X:Cx} (ok:X.Ok) (E:Value→Shared→Prop):(X.iP E).Ok:=
 ⟨ok.mod,ok.kind,ok.glob,ok.blt,ok.above,ok.inj,ok.has,ok.cab,ok.hd,ok.frames,ok.stk,ok.exf,ok.bs,ok.bsz,ok.noex,ok.exfs,ok.gJ,ok.frf⟩
theorem Cx.Ok.fS {X:Cx} {E:Value→Shared→Prop} (ok:(X.iP E).Ok):X.Ok:=
 ⟨ok.mod,ok.kind,ok.glob,ok.blt,ok.above,ok.inj,ok.has,ok.cab,ok.hd,ok.frames,ok.stk,ok.exf,ok.bs,ok.bsz,ok.noex,ok.exfs,ok.gJ,ok.frf⟩
section
variable {X:Cx} {pins:List (Addr×Obj)} {σ:St} {H:Hp} {s:Shared} {E:Value→Shared→Prop}
theorem Inv.iP (I:Inv X pins σ H s) (E:Value→Shared→Prop):Inv (X.iP E) pins σ H s:=⟨I.ok.iP E,I.os,I.bare,I.base,I.loc,I.cell,I.free,I.freeC,I.pin,I.hok,I.len⟩
theorem Inv.fS (I:Inv (X.iP E) pins σ H s):Inv X pins σ H s:=⟨I.ok.fS,I.os,I.bare,I.base,I.loc,I.cell,I.free,I.freeC,I.pin,I.hok,I.len⟩
theorem SP.fS {D:Ends} {f:Flow} {s':Shared} (h:SP (X.iP E) pins D f s'):SP X pins D f s':=by
 cases f with
 | next=>obtain ⟨σ',H',I,q⟩:=h;exact ⟨σ',H',I.fS,q⟩
 | brk=>obtain ⟨σ',H',I,q⟩:=h;exact ⟨σ',H',I.fS,q⟩
 | cont=>obtain ⟨σ',H',I,q⟩:=h;exact ⟨σ',H',I.fS,q⟩
 | ret u=>obtain ⟨v,σ',H',I,r,q⟩:=h;exact ⟨v,σ',H',I.fS,r,q⟩
theorem PSs.nox {st:List Stmt} {t:TS} (h:PSs X.nox st t):PSs X st t:=fun pins s σ H D I hw=>
 wpAny_mono (h pins s σ H D (I.iP _) hw) (fun _ _ q=>q.fS) fun _ _ z=>False.elim z
end
section
variable {X:Cx} {st:Stmt} {rest:List Stmt} {t u:TS} {e:Expr} {te:TE} {pos:Pos}
def Du:TS:=fun D σ H=>D.nx σ H
def Fo (t u:TS):TS:=fun D σ H=>t { D with nx:=u D } σ H
theorem yU:PSs X [] Du:=fun _ _ σ H _ I h=>wpAny_execs_nil ⟨σ,H,I,h⟩
theorem xT (h1:PS X st t) (h2:PSs X rest u):PSs X (st :: rest) (Fo t u):=by
 intro pins s σ H D I h
 refine wpAny_execs_cons (thn (h1 pins s σ H { D with nx:=u D } I h) fun f s1 q=>?_)
 cases f with
 | next=>
  obtain ⟨σ',H',I',q⟩:=q
  exact h2 pins s1 σ' H' D I' q
 | ret v=>exact q
 | brk=>exact q
 | cont=>exact q
theorem zK (h1:PS X st t):PSs X [st] t:=by
 intro pins s σ H D I h
 refine wpAny_execs_cons (thn (h1 pins s σ H D I h) fun f s1 q=>?_)
 cases f with
 | next=>exact wpAny_execs_nil q
 | ret v=>exact q
 | brk=>exact q
 | cont=>exact q
theorem Inv.quiet {pins:List (Addr×Obj)} {σ:St} {H:Hp} {s:Shared} (I:Inv X pins σ H s):interactive X.env=false:=by simp [interactive,I.ok.kind]
def Es (te:TE):TS:=fun D σ H=>te σ H fun _ H1=>D.nx σ H1
theorem zo (he:PE X e te) (hs:swapsWith e none pos.line X.env=pure false:=by rfl):PS X (.Expr e pos) (Es te):=by
 intro pins s σ H D I h
 exact wpAny_Expr_any (thn (he pins s σ H _ I h) fun v s1 ⟨x,H1,I1,r1,q1⟩=>⟨σ,H1,I1,q1⟩) I.quiet hs
def Fg (te:TE):TS:=fun D σ H=>te σ H D.rt
theorem A7 (he:PE X e te):PS X (.Return (some e) pos) (Fg te):=by
 intro pins s σ H D I h
 exact wpAny_Return_some (thn (he pins s σ H _ I h) fun v s1 ⟨x,H1,I1,r1,q1⟩=>⟨x,σ,H1,I1,r1,q1⟩)
def F3 (c:TT) (t u:TS):TS:=fun D σ H=>c σ H fun b H1=>if b=true then t D σ H1 else u D σ H1
theorem EU {c:Expr} {a b:List Stmt} {tc:TT} (hc:PT X c tc) (ha:PSs X a t) (hb:PSs X b u):PS X (.If c a b pos) (F3 tc t u):=by
 intro pins s σ H D I h
 refine wpAny_If (thn (hc pins s σ H _ I h) fun d s1 ⟨H1,I1,q1⟩=>?_)
 cases d with
 | true=>exact ha pins s1 σ H1 D I1 q1
 | false=>exact hb pins s1 σ H1 D I1 q1
end
abbrev TG:=V→St→Hp→(St→Hp→Prop)→Prop
abbrev TGs:=List V→St→Hp→(St→Hp→Prop)→Prop
def PG (X:Cx) (target:Expr) (t:TG):Prop:=
 ∀ (pins:List (Addr×Obj)) (s:Shared) (σ:St) (H:Hp) (v:V) (u:Value) (Q:St→Hp→Prop),Inv X pins σ H s→RelV v u→t v σ H Q →
  wpAny (model X.prog X.w) X.A (assign target X.env u) (fun _ s'=>∃ σ' H',Inv X pins σ' H' s'∧Q σ' H') X.xe s
def PGs (X:Cx) (ts:List Expr) (t:TGs):Prop:=
 ∀ (pins:List (Addr×Obj)) (s:Shared) (σ:St) (H:Hp) (vs:List V) (us:List Value) (Q:St→Hp→Prop),Inv X pins σ H s→Vals vs us→t vs σ H Q →
  wpAny (model X.prog X.w) X.A (assignInOrder ((assignEach ts X.env).map (·.2)) us) (fun _ s'=>∃ σ' H',Inv X pins σ' H' s'∧Q σ' H') X.xe s
abbrev pT:=V→V→V→Hp→(Hp→Prop)→Prop
def sy (X:Cx) (t:pT):Prop:=
 ∀ (pins:List (Addr×Obj)) (s:Shared) (σ:St) (H:Hp) (o i v:V) (ov iv u:Value) (Q:Hp→Prop),Inv X pins σ H s→RelV o ov→RelV i iv→RelV v u→t o i v H Q →
  wpAny (model X.prog X.w) X.A (setItem ov iv u) (fun _ s'=>∃ H',Inv X pins σ H' s'∧Q H') X.xe s
section
variable {X:Cx} {pos:Pos}
def yn (i:Nat):TG:=fun v σ H Q=>Q (σ.set i (some v)) H
theorem zt {i:Nat} {x:Str} (hN:X.N.Nodup) (hi:X.N[i]?=some x) (hx:Loc X.env.scope x) (hf:X.fn x=true∨X.env.scope.names.lookup x=some .local:=by first | exact .inl rfl | exact .inr rfl | assumption):PG X (.Name x pos) (yn i):=by
 intro pins s σ H v u Q I r h
 exact wpAny_assign_Name (lW I hN hi hx r (fun s' I'=>⟨_,H,I',h⟩) hf)
def F6:TGs:=fun vs σ H Q=>vs=[]∧Q σ H
def Dv (t:TG) (u:TGs):TGs:=fun vs σ H Q=>∃ v r,vs=v :: r∧t v σ H fun σ' H'=>u r σ' H' Q
theorem zF:PGs X [] F6:=by
 intro pins s σ H vs us Q I r h
 obtain ⟨e,h⟩:=h
 subst e
 cases r
 exact assignInOrder_nil ⟨σ,H,I,h⟩
theorem xW {e:Expr} {es:List Expr} {t:TG} {u:TGs} (h1:PG X e t) (h2:PGs X es u)
  (hs:(assignEach (e :: es) X.env).map (·.2)=assign e X.env :: (assignEach es X.env).map (·.2):=by rfl):PGs X (e :: es) (Dv t u):=by
 intro pins s σ H vs us Q I r h
 obtain ⟨v,vr,e1,h⟩:=h
 subst e1
 cases r with
 | cons r rr=>
  rw [hs]
  refine assignInOrder_cons (thn (h1 pins s σ H _ _ _ I r h) fun _ s1 ⟨σ1,H1,I1,q1⟩=>?_)
  exact h2 pins s1 σ1 H1 _ _ Q I1 rr q1
def F4 (K:PySem.W.Frag) (n:Nat) (t:TGs):TG:=fun v σ H Q=>∃ a xs,v=.ref a∧SqT K H a xs∧xs.length=n∧t xs σ H Q
theorem C4 {es:List Expr} {k:Nat} {t:TGs} {n:Nat} (hc:X.calm=true) (h:PGs X es t)
  (hn:(assignEach es X.env).length=n:=by rfl) (hst:(assignEach es X.env).findIdx? (·.1)=none:=by rfl):PG X (.Tuple es k pos) (F4 X.K n t):=by
 intro pins s σ H v u Q I r hw
 obtain ⟨a,xs,e1,hq,hl,hw⟩:=hw
 subst e1
 cases r
 obtain ⟨its,rv,ht,hz⟩:=I.tuple hq
 refine assign_Tuple_tuple (I.ok.hd hc) ht (by simp [hn,← hl,rv.length]) hst fun h' hx=>?_
 have I1:Inv X pins σ H { s with heap:=h' }:=I.kept (t':=s.toks) fun b o e=>hx b o (Nat.ne_of_lt (Heap.lt_size e)) e
 exact h pins _ σ H xs _ Q I1 (by simpa using rv) hw
def FV (to ti:TE) (t:pT):TG:=fun v σ H Q=>to σ H fun o H1=>ti σ H1 fun i H2=>t o i v H2 fun H3=>Q σ H3
theorem BB {o i:Expr} {to ti:TE} {t:pT} (ho:PE X o to) (hi:PE X i ti) (hs:sy X t)
  (ha:∀ v,assign (.Subscript o i pos) X.env v=(do
   let ov ← holding [v] (eval o X.env)
   let iv ← holding [v,ov] (eval i X.env)
   standAt pos
   holding [v,ov,iv] (setItem ov iv v)
   release [v,ov,iv] []):=by intro _;rfl):PG X (.Subscript o i pos) (FV to ti t):=by
 intro pins s σ H v u Q I r h
 rw [ha]
 refine wpAny_bind (wpAny_holding (thn (ho pins s σ H _ I h) fun ov s1 ⟨x,H1,I1,r1,q1⟩=>?_))
 refine wpAny_bind (wpAny_holding (thn (hi pins s1 σ H1 _ I1 q1) fun iv s2 ⟨y,H2,I2,r2,q2⟩=>?_))
 refine wpAny_bind (wpAny_standAt (wpAny_bind (wpAny_holding (thn (hs pins s2 σ H2 x y v ov iv u _ I2 r1 r2 r q2) fun _ s3 ⟨H3,I3,q3⟩=>?_))))
 exact wpAny_release ⟨σ,H3,I3,q3⟩
def C9 (te:TE) (g:TG):TS:=fun D σ H=>te σ H fun x H1=>g x σ H1 D.nx
theorem Bs {tg e:Expr} {te:TE} {g:TG} (he:PE X e te) (hg:PG X tg g) (hs:swapsWithSole [tg] e pos.line X.env=pure false:=by rfl) (hw:swappedStores [tg] e X.env=pure none:=by rfl)
  (h1:(assignEach [tg] X.env).map (·.2)=[assign tg X.env]:=by rfl):PS X (.Assign [tg] e pos) (C9 te g):=by
 intro pins s σ H D I h
 refine wpAny_Assign_stores (thn (he pins s σ H _ I h) fun v s1 ⟨x,H1,I1,r1,q1⟩=>?_) hs hw
 rw [h1]
 exact thn (hg pins s1 σ H1 x v _ I1 r1 q1) fun _ s2 q=>q
theorem CD {i:Nat} {x:Str} {e:Expr} {te:TE} {pos':Pos} (hN:X.N.Nodup) (hi:X.N[i]?=some x) (hx:Loc X.env.scope x) (he:PE X e te) (hs:swapsWith e (some (.Name x pos')) pos.line X.env=pure false:=by rfl) (hf:X.fn x=true∨X.env.scope.names.lookup x=some .local:=by first | exact .inl rfl | exact .inr rfl | assumption) :
  PS X (.Assign [.Name x pos'] e pos) (C9 te (yn i)):=by
 intro pins s σ H D I h
 refine wpAny_Assign_Name (thn (he pins s σ H _ I h) fun v s1 ⟨y,H1,I1,r1,q1⟩=>?_) hs
 exact lW I1 hN hi hx r1 (fun s2 I2=>⟨_,H1,I2,q1⟩) hf
end
structure It where
 go:Nat→Hp→Prop
 yld:Nat→Hp→V→Hp→Prop
 stop:Nat→Hp→Prop
def eF (X:Cx) (pins:List (Addr×Obj)) (H:Hp) (b:Addr):Prop:=
 H b=none∧b≠X.env.locals∧b∉X.fs∧(b∈X.ex∨X.s₀.heap.objs.size≤b)∧(∀ x c,X.env.cells.lookup x=some c→c≠b)∧∀ p∈X.pn++pins,p.1≠b
theorem Inv.kQ {X:Cx} {pins:List (Addr×Obj)} {σ:St} {H H':Hp} {s:Shared} {b:Addr} (I:Inv X pins σ H s) (hb:s.heap.objs.size≤b) (hn:H' b=none):eF X pins H' b:=by
 refine ⟨hn,Nat.ne_of_gt (Nat.lt_of_lt_of_le I.lt hb),I.Az hb,.inr (Nat.le_trans I.sz hb),fun x c e z=>?_,fun p hp z=>?_⟩
 ·obtain ⟨v,q⟩:=I.cell x c e
  exact absurd (Nat.lt_of_lt_of_le q.lt (by rw [z];exact hb)) (Nat.lt_irrefl _)
 ·exact absurd (Nat.lt_of_lt_of_le (Heap.lt_size (I.pin p hp).1) (by rw [z];exact hb)) (Nat.lt_irrefl _)
structure Turn (P:Program) (w:World) (K:PySem.W.Frag) (tg:Expr) (J:It) (fp:List Addr) (it:Addr) (tn:Nat→Heap→Prop):Prop where
 mem:it∈fp
 obj:∀ i h,tn i h→∀ b∈fp,∃ o,h.get? b=some o∧∀ v,o.data≠.cell v
 keep:∀ i h h',tn i h→(∀ b∈fp,∀ o,h.get? b=some o→h'.get? b=some o)→tn i h'
 item:∀ (X:Cx),X.prog=P→X.w=w→X.K=K→X.calm=true→∀ (i:Nat) (pins:List (Addr×Obj)) (s:Shared) (σ:St) (H:Hp) (E:Value→Shared→Prop),Inv X pins σ H s→(∀ b∈fp,eF X pins H b)→tn i s.heap→J.go i H →
  wpAny (model P w) X.A (pyNext (.ref it)) (fun r s1=>∃ u,r=some u ∧
   wpAny (model P w) X.A (letOwnedTupleGo tg (.ref it) u) (fun _ s2=>∃ x H',Inv X pins σ H' s2∧RelV x u∧J.yld i H x H'∧tn (i+1) s2.heap∧∀ b∈fp,H' b=none) E s1) E s
 done:∀ (X:Cx),X.prog=P→X.w=w→X.K=K→X.calm=true→∀ (i:Nat) (pins:List (Addr×Obj)) (s:Shared) (σ:St) (H:Hp) (E:Value→Shared→Prop),Inv X pins σ H s→(∀ b∈fp,eF X pins H b)→tn i s.heap→J.stop i H →
  wpAny (model P w) X.A (pyNext (.ref it)) (fun r s1=>r=none∧Inv X pins σ H s1) E s
 self:∀ (A:Around) (i:Nat) (s:Shared) (Q:Value→Shared→Prop) (E:Value→Shared→Prop),tn i s.heap→Q (.ref it) s→wpAny (model P w) A (pyIter (.ref it)) Q E s
abbrev TI:=St→Hp→(It→Hp→Prop)→Prop
def PIE (X:Cx) (pins:List (Addr×Obj)) (σ:St) (tg:Expr) (R:It→Hp→Prop) (itv:Value) (s2:Shared):Prop:=
 ∃ (it:Addr) (fp:List Addr) (tn:Nat→Heap→Prop) (J:It) (H':Hp),itv=.ref it∧Inv X pins σ H' s2∧Turn X.prog X.w X.K tg J fp it tn∧tn 0 s2.heap∧(∀ b∈fp,eF X pins H' b)∧R J H'
def PI (X:Cx) (tg iter:Expr) (wi:TI):Prop:=
 ∀ (pins:List (Addr×Obj)) (s:Shared) (σ:St) (H:Hp) (R:It→Hp→Prop),Inv X pins σ H s→wi σ H R →
  wpAny (model X.prog X.w) X.A (eval iter X.env) (fun v s1=>wpAny (model X.prog X.w) X.A (pyIter v) (PIE X pins σ tg R) X.xe s1) X.xe s
theorem ph {M : Model} {A : Around} {E : Value → Shared → Prop} {s : Shared} {tg : Expr} {it : Addr} {u : Value} {o : Obj} {n : String} {vs : Array Value} {Q : Unit → Shared → Prop} (ho : s.heap.get? it = some o) (hc : o.cls = .type n) (hd : o.data = .fields vs)
    (hn : ["enumerate", "zip", "dict_itemiterator", "dict_reverseitemiterator", "odict_iterator", "itertools.zip_longest", "itertools.pairwise"].contains n = false) (hQ : Q () s) : wpAny M A (letOwnedTupleGo tg (.ref it) u) Q E s := by
  unfold letOwnedTupleGo
  cases tg <;> first
    | exact wpAny_pure hQ
    | (cases u <;> first
        | exact wpAny_pure hQ
        | (refine wpAny_bind (wpAny_load ho ?_)
           rw [hc, hd]
           show wpAny M A (if (["enumerate", "zip", "dict_itemiterator", "dict_reverseitemiterator", "odict_iterator", "itertools.zip_longest", "itertools.pairwise"].contains n && vs[0]? == some (rawInt _)) = true then _ else _) Q E s
           rw [if_neg (by intro h; rw [hn, Bool.false_and] at h; cases h)]
           exact wpAny_pure hQ))
def Itl (K:PySem.W.Frag) (a:Addr):It:=
 ⟨fun i H=>∃ xs x,SqL K H a xs∧xs[i]?=some x,fun i H x H'=>H'=H∧∀ xs,SqL K H a xs→xs[i]?=some x,fun i H=>∃ xs,SqL K H a xs∧xs.length≤i⟩
def Itt (K:PySem.W.Frag) (a:Addr):It:=
 ⟨fun i H=>∃ xs x,SqT K H a xs∧xs[i]?=some x,fun i H x H'=>H'=H∧∀ xs,SqT K H a xs→xs[i]?=some x,fun i H=>∃ xs,SqT K H a xs∧xs.length≤i⟩
def Itr (lo:Int) (n:Nat):It:=⟨fun i _=>i < n,fun i H x H'=>H'=H∧x=.int (lo+i),fun i _=>n≤i⟩
theorem uc {P:Program} {w:World} {K:PySem.W.Frag} {tg:Expr} (a it:Addr):Turn P w K tg (Itl K a) [it] it (fun i h=>h.IsListIter it a i) where
 mem:=by simp
 obj:=fun i h st b hb=>by
  have e:b=it:=by simpa using hb
  subst e
  obtain ⟨o,e,c,d⟩:=st
  exact ⟨o,e,fun v z=>by rw [d] at z;cases z⟩
 keep:=fun i h h' st k=>st.at fun o e=>k it (by simp) o e
 item:=by
  intro X hP hw hK hc i pins s σ H E I hf st hg
  subst hP hw hK
  obtain ⟨xs,x,hq,hx⟩:=hg
  obtain ⟨its,rv,p,hz⟩:=I.list hq
  obtain ⟨u,hu,ru⟩:=rv.get hx
  obtain ⟨f0,f1,f2,f3,f4,f5⟩:=hf it (by simp)
  refine wpAny_pyNext_list_item st p.isList (x:=u) (by simpa using hu) fun h' st' sb=>?_
  have I1:Inv X pins σ H { s with heap:=h' }:=I.turned (t':=s.toks) (fun b o hb e=>(sb.2 b hb).trans e) f0 f1 f3 f4 f5
  obtain ⟨o,e,c,d⟩:=id st'
  exact ⟨u,rfl,ph (s:={ s with heap:=h' }) e c d (by decide) ⟨x,H,I1,ru,⟨rfl,fun ys hy=>by rw [I.lR hy hq];exact hx⟩,st',fun b hb=>(hf b hb).1⟩⟩
 done:=by
  intro X hP hw hK hc i pins s σ H E I hf st hg
  subst hP hw hK
  obtain ⟨xs,hq,hx⟩:=hg
  obtain ⟨its,rv,p,hz⟩:=I.list hq
  obtain ⟨f0,f1,f2,f3,f4,f5⟩:=hf it (by simp)
  have hl:=rv.length
  exact wpAny_pyNext_list_end (I.ok.hd hc) st p.isList (by simp;omega) fun h' eb=>⟨rfl,I.turned (t':=s.toks) (fun b o hb e=>eb b o hb e) f0 f1 f3 f4 f5⟩
 self:=fun _ _ _ _ _ st h=>wpAny_pyIter_listiter st h
theorem sD {P:Program} {w:World} {K:PySem.W.Frag} {tg:Expr} (a it:Addr):Turn P w K tg (Itt K a) [it] it (fun i h=>h.IsTupleIter it a i) where
 mem:=by simp
 obj:=fun i h st b hb=>by
  have e:b=it:=by simpa using hb
  subst e
  obtain ⟨o,e,c,d⟩:=st
  exact ⟨o,e,fun v z=>by rw [d] at z;cases z⟩
 keep:=fun i h h' st k=>st.at fun o e=>k it (by simp) o e
 item:=by
  intro X hP hw hK hc i pins s σ H E I hf st hg
  subst hP hw hK
  obtain ⟨xs,x,hq,hx⟩:=hg
  obtain ⟨its,rv,p,hz⟩:=I.tuple hq
  obtain ⟨u,hu,ru⟩:=rv.get hx
  obtain ⟨f0,f1,f2,f3,f4,f5⟩:=hf it (by simp)
  refine wpAny_pyNext_tuple_item st (show s.heap.IsTuple a its.toArray from p) (x:=u) (by simpa using hu) fun h' st' sb=>?_
  have I1:Inv X pins σ H { s with heap:=h' }:=I.turned (t':=s.toks) (fun b o hb e=>(sb.2 b hb).trans e) f0 f1 f3 f4 f5
  obtain ⟨o,e,c,d⟩:=id st'
  exact ⟨u,rfl,ph (s:={ s with heap:=h' }) e c d (by decide) ⟨x,H,I1,ru,⟨rfl,fun ys hy=>by rw [I.og hy hq];exact hx⟩,st',fun b hb=>(hf b hb).1⟩⟩
 done:=by
  intro X hP hw hK hc i pins s σ H E I hf st hg
  subst hP hw hK
  obtain ⟨xs,hq,hx⟩:=hg
  obtain ⟨its,rv,p,hz⟩:=I.tuple hq
  obtain ⟨f0,f1,f2,f3,f4,f5⟩:=hf it (by simp)
  have hl:=rv.length
  exact wpAny_pyNext_tuple_end (I.ok.hd hc) st (show s.heap.IsTuple a its.toArray from p) (by simp;omega) fun h' eb=>⟨rfl,I.turned (t':=s.toks) (fun b o hb e=>eb b o hb e) f0 f1 f3 f4 f5⟩
 self:=fun _ _ _ _ _ st h=>wpAny_pyIter_tupleiter st h
theorem sM {P:Program} {w:World} {K:PySem.W.Frag} {tg:Expr} (it:Addr) (lo:Int) (n:Nat):Turn P w K tg (Itr lo n) [it] it (fun i h=>IsRangeIter h it (lo+(i:Nat) * 1) ((n:Int) - (i:Nat)) 1) where
 mem:=by simp
 obj:=fun i h st b hb=>by
  have e:b=it:=by simpa using hb
  subst e
  exact ⟨_,st,fun v z=>by
   have z':Data.fields _=Data.cell v:=z
   cases z'⟩
 keep:=fun i h h' st k=>k it (by simp) _ st
 item:=by
  intro X hP hw hK hc i pins s σ H E I hf st hg
  subst hP hw hK
  obtain ⟨f0,f1,f2,f3,f4,f5⟩:=hf it (by simp)
  have W:=Walks.range (prog:=X.prog) (w:=X.w) (I.ok.hd hc) it lo 1 n
  refine W.item i s _ _ hg st fun v h' tk hv st' kk=>?_
  obtain ⟨t,rfl⟩:=hv
  have I1:Inv X pins σ H { s with heap:=h',toks:=tk }:=I.turned (fun b o hb e=>kk b o (by simpa using hb) e) f0 f1 f3 f4 f5
  refine ⟨_,rfl,ph (s:={ s with heap:=h',toks:=tk }) (n:="range_iterator") st' rfl rfl (by decide) ⟨.int (lo+i),H,I1,⟨t,?_⟩,⟨rfl,rfl⟩,st',fun b hb=>(hf b hb).1⟩⟩
  rw [Int.mul_one]
 done:=by
  intro X hP hw hK hc i pins s σ H E I hf st hg
  subst hP hw hK
  obtain ⟨f0,f1,f2,f3,f4,f5⟩:=hf it (by simp)
  exact wpAny_pyNext_range_end (I.ok.hd hc) st (by have:n≤i:=hg;omega) fun h' eb=>⟨rfl,I.turned (t':=s.toks) (fun b o hb e=>eb b o hb e) f0 f1 f3 f4 f5⟩
 self:=fun _ _ _ _ _ st h=>wpAny_pyIter_rangeiter st h
section
variable {X:Cx} {tg:Expr}
theorem pX {pins:List (Addr×Obj)} {σ:St} {H:Hp} {s:Shared} {R:It→Hp→Prop} {E:Value→Shared→Prop} {lo hi:Int} {t u v:Tok} {tk:Nat} (I:Inv X pins σ H s) (h1:-(2 ^ 62)≤lo) (h2:lo < 2 ^ 62) (h3:-(2 ^ 62)≤hi) (h4:hi < 2 ^ 62)
  (q:R (Itr lo (hi - lo).toNat) H):wpAny (model X.prog X.w) X.A (pyIter (.ref s.heap.objs.size)) (PIE X pins σ tg R) E { s with heap:=s.heap.push { cls:=.type "range",data:=.fields #[.int lo t,.int hi u,.int 1 v] },toks:=tk }:=by
 refine wpAny_pyIter_range (IsRange.new ..) (small_one h1 h2 h3 h4) ?_
 have I1:Inv X pins σ H { s with heap:=s.heap.push { cls:=.type "range",data:=.fields #[.int lo t,.int hi u,.int 1 v] },toks:=tk }:=I.kept fun b o e=>Heap.get?_push_of_some _ e
 refine ⟨(s.heap.push { cls:=.type "range",data:=.fields #[.int lo t,.int hi u,.int 1 v] }).objs.size,[(s.heap.push { cls:=.type "range",data:=.fields #[.int lo t,.int hi u,.int 1 v] }).objs.size],_,_,H,rfl,
  I1.kept (t':=tk) fun b o e=>Heap.get?_push_of_some _ e,sM _ lo (hi - lo).toNat,?_,fun b hb=>?_,q⟩
 ·have e1:lo+((0:Nat):Int) * 1=lo:=by simp
  have e2:(((hi - lo).toNat:Nat):Int) - ((0:Nat):Int)=Builtin.Range.rangeSize lo hi 1:=by rw [rangeSize_one];split<;>omega
  show IsRangeIter _ _ (lo+((0:Nat):Int) * 1) ((((hi - lo).toNat:Nat):Int) - ((0:Nat):Int)) 1
  rw [e1,e2]
  exact Heap.get?_push_size _ rfl
 ·have e:b=(s.heap.push { cls:=.type "range",data:=.fields #[.int lo t,.int hi u,.int 1 v] }).objs.size:=by simpa using hb
  subst e
  exact I1.kQ (Nat.le_refl _) (I1.hok.fresh (Nat.le_refl _))
def E8 (ta:TA):TI:=fun σ H R=>ta σ H fun vs H1=>∃ j:Int,vs=[.int j]∧-(2 ^ 62)≤j∧j < 2 ^ 62∧R (Itr 0 j.toNat) H1
def DK (ta:TA):TI:=fun σ H R=>ta σ H fun vs H1=>∃ i j:Int,vs=[.int i,.int j]∧(-(2 ^ 62)≤i∧i < 2 ^ 62∧-(2 ^ 62)≤j∧j < 2 ^ 62)∧R (Itr i (j - i).toNat) H1
theorem uE {a:Expr} {ta:TA} {p pos:Pos} (hg:Gl X "range") (hm:X.mg "range"=none) (ha:PA X [a] ta) (hs:starEach [a] X.env=[(false,eval a X.env)]:=by rfl):PI X tg (.Call (.Name "range" p) [a] [] pos) (E8 ta):=by
 intro pins s σ H R I h
 refine Call_ (c9 I hg hm boot_range (PyProof.Rows.callWith_type1 (thn (ha pos pins s σ H _ I h) fun us s1 ⟨vs,H1,I1,r1,q1⟩=>?_) hs rfl))
 obtain ⟨j,e,q1,q2,q⟩:=q1
 subst e
 cases r1 with
 | cons r rr=>
  cases rr
  obtain ⟨t,rfl⟩:=r
  exact call_range_1 (pX I1 (by omega) (by omega) q1 q2 (by simpa using q))
theorem vE {a b:Expr} {ta:TA} {p pos:Pos} (hg:Gl X "range") (hm:X.mg "range"=none) (ha:PA X [a,b] ta) (hs:starEach [a,b] X.env=[(false,eval a X.env),(false,eval b X.env)]:=by rfl) (hs2:starEach [b] X.env=[(false,eval b X.env)]:=by rfl) :
  PI X tg (.Call (.Name "range" p) [a,b] [] pos) (DK ta):=by
 intro pins s σ H R I h
 refine Call_ (c9 I hg hm boot_range (PyProof.Rows.callWith_type1 (thn (ha pos pins s σ H _ I h) fun us s1 ⟨vs,H1,I1,r1,q1⟩=>?_) (by rw [hs,hs2]) (by rw [hs2];rfl)))
 obtain ⟨i,j,e,⟨q1,q2,q3,q4⟩,q⟩:=q1
 subst e
 cases r1 with
 | cons r rr=>
  cases rr with
  | cons r' rr=>
   cases rr
   obtain ⟨t,rfl⟩:=r
   obtain ⟨t',rfl⟩:=r'
   exact call_range_2 (pX I1 q1 q2 q3 q4 q)
def Fu (wi:TI) (g:TG) (tb:TS):TS:=fun D σ H=>wi σ H fun J H1=>∃ W:Nat→Nat→St→Hp→Prop,(∃ m,W 0 m σ H1)∧∀ i m σ H,W i m σ H →
 (J.stop i H∧D.nx σ H)∨(J.go i H∧∃ N:St→Hp→Prop,(∀ σ' H',N σ' H'→∃ m',m' < m∧W (i+1) m' σ' H')∧∀ x H',J.yld i H x H'→g x σ H' fun σ2 H2=>tb { D with nx:=N,ct:=N,bk:=D.nx } σ2 H2)
def kG (fp:List Addr) (h:Heap):List (Addr×Obj):=fp.filterMap fun b=>(h.get? b).map fun o=>(b,o)
theorem gk {fp:List Addr} {h:Heap} {b:Addr} {o:Obj} (hb:b∈fp) (e:h.get? b=some o):(b,o)∈kG fp h:=List.mem_filterMap.mpr ⟨b,hb,by rw [e];rfl⟩
theorem vM {fp:List Addr} {h:Heap} {p:Addr×Obj} (hp:p∈kG fp h):p.1∈fp∧h.get? p.1=some p.2:=by
 obtain ⟨b,hb,e⟩:=List.mem_filterMap.mp hp
 cases q:h.get? b with
 | none=>rw [q] at e;cases e
 | some o=>
  rw [q] at e
  have e':(b,o)=p:=Option.some.inj e
  subst e'
  exact ⟨hb,q⟩
theorem Inv.pinned {pins:List (Addr×Obj)} {σ:St} {H:Hp} {s:Shared} {fp:List Addr} (I:Inv X pins σ H s) (hf:∀ b∈fp,eF X pins H b) (ho:∀ b∈fp,∃ o,s.heap.get? b=some o∧∀ v,o.data≠.cell v):Inv X (pins++kG fp s.heap) σ H s:=
 I.nE fun p hp=>(List.mem_append.mp hp).elim (fun z=>I.pin p (List.mem_append_right _ z)) fun z=>by
  obtain ⟨hb,e⟩:=vM z
  obtain ⟨f0,f1,f2,_⟩:=hf p.1 hb
  obtain ⟨o,e',d⟩:=ho p.1 hb
  rw [e] at e';cases e'
  exact ⟨e,f0,f1,f2,d⟩
theorem Inv.gO {pins pl:List (Addr×Obj)} {σ:St} {H:Hp} {s:Shared} (I:Inv X (pins++pl) σ H s):Inv X pins σ H s:=I.nE fun p hp=>I.pin p (List.mem_append_right _ (List.mem_append_left _ hp))
theorem B5 {iter:Expr} {body:List Stmt} {wi:TI} {g:TG} {tb:TS} {pos:Pos} (hp:PassesOwn (model X.prog X.w) X.A X.env X.xe) (hc:X.calm=true) (hi:PI X tg iter wi) (hg:PG X tg g) (hb:PSs X body tb)
  (hs:∀ x,foldedSetIterable iter X.env x=pure x:=by intro _;rfl):PS X (.For tg iter body [] pos) (Fu wi g tb):=by
 intro pins s σ H D I h
 refine wpAny_For (thn (hi pins s σ H _ I h) fun v s1 h1=>thn h1 fun itv s2 h2=>?_) hs
 obtain ⟨it,fp,tn,J,H2,e,I2,T,st2,f2,W,⟨m0,w0⟩,turn⟩:=h2
 subst e
 have stat:∀ {H':Hp},(∀ b∈fp,H' b=none)→∀ b∈fp,eF X pins H' b:=fun hn b hb=>⟨hn b hb,(f2 b hb).2⟩
 refine codeAny_forLoop_any (fun n s'=>∃ i σ' H',Inv X pins σ' H' s'∧tn i s'.heap∧(∀ b∈fp,H' b=none)∧W i n σ' H') ?_ m0 ⟨0,σ,H2,I2,st2,fun b hb=>(f2 b hb).1,w0⟩
 rintro n s3 ⟨i,σ3,H3,I3,st3,fr3,w3⟩
 rcases turn i n σ3 H3 w3 with ⟨stop,qn⟩ | ⟨go,N,hN,step⟩
 ·refine wpAny_passesOwn hp (thn (T.done X rfl rfl rfl hc i pins s3 σ3 H3 X.xe I3 (stat fr3) st3 stop) fun r s4 ⟨hr,I4⟩=>?_)
  subst hr
  exact wpAny_execs_nil ⟨σ3,H3,I4,qn⟩
 ·refine wpAny_passesOwn hp (thn (T.item X rfl rfl rfl hc i pins s3 σ3 H3 X.xe I3 (stat fr3) st3 go) fun r s4 ⟨u,hr,h4⟩=>?_)
  subst hr
  refine wpAny_passesOwn hp (thn h4 fun _ s5 ⟨x,H5,I5,r5,y5,st5,fr5⟩=>?_)
  have I5':=I5.pinned (stat fr5) (T.obj _ _ st5)
  refine wpAny_passesOwn hp (thn (hg _ s5 σ3 H5 x u _ I5' r5 (step x H5 y5)) fun _ s6 ⟨σ6,H6,I6,q6⟩=>?_)
  refine wpAny_passesOwn hp (thn (hb _ s6 σ6 H6 _ I6 q6) fun f s7 q7=>?_)
  have again:∀ {σ7:St} {H7:Hp},Inv X (pins++kG fp s5.heap) σ7 H7 s7→N σ7 H7→∃ m,m < n∧∃ i σ' H',Inv X pins σ' H' s7∧tn i s7.heap∧(∀ b∈fp,H' b=none)∧W i m σ' H':=fun {σ7 H7} I7 n7=>by
   obtain ⟨m',hm,w7⟩:=hN σ7 H7 n7
   refine ⟨m',hm,i+1,σ7,H7,I7.gO,T.keep _ _ _ st5 fun b hb o e=>(I7.pin (b,o) (List.mem_append_right _ (List.mem_append_right _ (gk hb e)))).1,fun b hb=>?_,w7⟩
   obtain ⟨o,e,d⟩:=T.obj _ _ st5 b hb
   exact (I7.pin (b,o) (List.mem_append_right _ (List.mem_append_right _ (gk hb e)))).2.1
  cases f with
  | next=>obtain ⟨σ7,H7,I7,n7⟩:=q7;exact again I7 n7
  | cont=>obtain ⟨σ7,H7,I7,n7⟩:=q7;exact again I7 n7
  | brk=>obtain ⟨σ7,H7,I7,q7⟩:=q7;exact ⟨σ7,H7,I7.gO,q7⟩
  | ret v=>obtain ⟨x7,σ7,H7,I7,r7,q7⟩:=q7;exact ⟨x7,σ7,H7,I7.gO,r7,q7⟩
end
abbrev R2:=V→V→Hp→VK→Prop
def OpR (X:Cx) (f:Value→Value→Sem Value) (r:R2):Prop:=
 ∀ (pins:List (Addr×Obj)) (s:Shared) (σ:St) (H:Hp) (x y:V) (v u:Value) (Q:VK),Inv X pins σ H s→RelV x v→RelV y u→r x y H Q →
  wpAny (model X.prog X.w) X.A (f v u) (EP X pins σ Q) X.xe s
def UnR (X:Cx) (f:Value→Sem Value) (r:V→Hp→VK→Prop):Prop:=
 ∀ (pins:List (Addr×Obj)) (s:Shared) (σ:St) (H:Hp) (x:V) (v:Value) (Q:VK),Inv X pins σ H s→RelV x v→r x H Q →
  wpAny (model X.prog X.w) X.A (f v) (EP X pins σ Q) X.xe s
def bI (X:Cx) (f:Value) (r:List V→Hp→VK→Prop):Prop:=
 ∀ (pins:List (Addr×Obj)) (s:Shared) (σ:St) (H:Hp) (xs:List V) (us:List Value) (Q:VK),Inv X pins σ H s→Vals xs us→r xs H Q →
  wpAny (model X.prog X.w) X.A (call f us) (EP X pins σ Q) X.xe s
def FC (X:Cx) (r:V→Hp→(Bool→Hp→Prop)→Prop):Prop:=
 ∀ (pins:List (Addr×Obj)) (s:Shared) (σ:St) (H:Hp) (x:V) (v:Value) (Q:Bool→Hp→Prop),Inv X pins σ H s→RelV x v→r x H Q →
  wpAny (model X.prog X.w) X.A (truthy v) (TP X pins σ Q) X.xe s
def tOp (r:R2) (ta tb:TE):TE:=fun σ H Q=>ta σ H fun x H1=>tb σ H1 fun y H2=>r x y H2 Q
def tUn (r:V→Hp→VK→Prop) (ta:TE):TE:=fun σ H Q=>ta σ H fun x H1=>r x H1 Q
def rI (C:Int→Int→Prop) (g:Int→Int→V):R2:=fun x y H Q=>∃ i j,x=.int i∧y=.int j∧C i j∧Q (g i j) H
def rI0 (g:Int→Int→V):R2:=fun x y H Q=>∃ i j,x=.int i∧y=.int j∧Q (g i j) H
def rU (g:Int→V):V→Hp→VK→Prop:=fun x H Q=>∃ i,x=.int i∧Q (g i) H
section
variable {X:Cx} {a b c:Expr} {ta tb tc:TE} {pos:Pos}
theorem wW (ha:PE X a ta) (hb:PE X b tb) {pins:List (Addr×Obj)} {s:Shared} {σ:St} {H:Hp} {R:V→V→Hp→Prop} (I:Inv X pins σ H s)
  (h:ta σ H fun x H1=>tb σ H1 fun y H2=>R x y H2) {Q:Value→Shared→Prop} {f:Value→Value→Sem Value}
  (hf:∀ v u s2 x y H2,Inv X pins σ H2 s2→RelV x v→RelV y u→R x y H2→wpAny (model X.prog X.w) X.A (f v u) Q X.xe s2) :
  wpAny (model X.prog X.w) X.A (eval a X.env) (fun v s₁=>wpAny (model X.prog X.w) X.A (eval b X.env) (fun u s₂=>wpAny (model X.prog X.w) X.A (f v u) Q X.xe s₂) X.xe s₁) X.xe s:=by
 refine thn (ha pins s σ H _ I h) fun v s1 ⟨x,H1,I1,r1,q1⟩=>?_
 refine thn (hb pins s1 σ H1 _ I1 q1) fun u s2 ⟨y,H2,I2,r2,q2⟩=>?_
 exact hf v u s2 x y H2 I2 r1 r2 q2
theorem Fe {op:Operator} {r:R2} (ho:OpR X (binaryOp op) r) (ha:PE X a ta) (hb:PE X b tb):PE X (.BinOp a op b pos) (tOp r ta tb):=by
 intro pins s σ H Q I h
 exact wpAny_BinOp (wW ha hb I h fun v u s2 x y H2 I2 rx ry q=>ho pins s2 σ H2 x y v u Q I2 rx ry q)
theorem DJ {op:UnaryOp} {r:V→Hp→VK→Prop} (ho:UnR X (unaryOp op) r) (ha:PE X a ta):PE X (.UnaryOp op a pos) (tUn r ta):=by
 intro pins s σ H Q I h
 exact UnaryOp_ (thn (ha pins s σ H _ I h) fun v s1 ⟨x,H1,I1,r1,q1⟩=>ho pins s1 σ H1 x v Q I1 r1 q1)
theorem opI {f:Value→Value→Sem Value} {C:Int→Int→Prop} {g:Int→Int→Int}
  (rule:∀ (i j:Int) (t u:Tok) (s:Shared) (Q:Value→Shared→Prop) (E:Value→Shared→Prop),C i j→Q (.int (g i j) s.toks) { s with toks:=s.toks+1 }→wpAny (model X.prog X.w) X.A (f (.int i t) (.int j u)) Q E s) :
  OpR X f (rI C fun i j=>.int (g i j)):=by
 intro pins s σ H x y v u Q I rx ry h
 obtain ⟨i,j,rfl,rfl,hc,q⟩:=h
 obtain ⟨t,rfl⟩:=rx
 obtain ⟨t',rfl⟩:=ry
 exact rule i j t t' s _ _ hc ⟨.int (g i j),H,I.tok _,⟨_,rfl⟩,q⟩
theorem BF {f:Value→Value→Sem Value} {g:Int→Int→Int}
  (rule:∀ (i j:Int) (t u:Tok) (s:Shared) (Q:Value→Shared→Prop) (E:Value→Shared→Prop),Q (.int (g i j) s.toks) { s with toks:=s.toks+1 }→wpAny (model X.prog X.w) X.A (f (.int i t) (.int j u)) Q E s) :
  OpR X f (rI0 fun i j=>.int (g i j)):=by
 intro pins s σ H x y v u Q I rx ry h
 obtain ⟨i,j,rfl,rfl,q⟩:=h
 obtain ⟨t,rfl⟩:=rx
 obtain ⟨t',rfl⟩:=ry
 exact rule i j t t' s _ _ ⟨.int (g i j),H,I.tok _,⟨_,rfl⟩,q⟩
theorem t5 {f:Value→Value→Sem Value} {g:Int→Int→Bool}
  (rule:∀ (i j:Int) (t u:Tok) (s:Shared) (Q:Value→Shared→Prop) (E:Value→Shared→Prop),Q (.bool (g i j)) s→wpAny (model X.prog X.w) X.A (f (.int i t) (.int j u)) Q E s) :
  OpR X f (rI0 fun i j=>.bl (g i j)):=by
 intro pins s σ H x y v u Q I rx ry h
 obtain ⟨i,j,rfl,rfl,q⟩:=h
 obtain ⟨t,rfl⟩:=rx
 obtain ⟨t',rfl⟩:=ry
 exact rule i j t t' s _ _ ⟨.bl (g i j),H,I,rfl,q⟩
def nA (i j:Int):Prop:=0 < j∧j < 1073741824
def nc (i j:Int):Prop:=0≤j∧j≤1000000∧i.natAbs < 2 ^ 64
def jA (i j:Int):Prop:=(-(2 ^ 64) < i∧i < 2 ^ 64)∨(-(2 ^ 64) < j∧j < 2 ^ 64)
theorem jA.ok {i j:Int} (h:jA i j):IntMulOk i j:=by
 rcases h with ⟨h1,h2⟩ | ⟨h1,h2⟩
 ·exact .of_left (intBits_le_64 h1 h2)
 ·exact .of_right (intBits_le_64 h1 h2)
theorem A4:OpR X (binaryOp .Add) (rI0 fun i j=>.int (i+j)):=BF fun _ _ _ _ _ _ _ q=>add_int q
theorem gW:OpR X (binaryOp .Sub) (rI0 fun i j=>.int (i - j)):=BF fun _ _ _ _ _ _ _ q=>sub_int q
theorem d_:OpR X (binaryOp .Mult) (rI jA fun i j=>.int (i * j)):=opI fun _ _ _ _ _ _ _ hc q=>mul_int q hc.ok
theorem yV:OpR X (binaryOp .FloorDiv) (rI nA fun i j=>.int (i / j)):=opI fun i j _ _ _ _ _ hc q=>by
 have h1:(0:Int) < j:=hc.1
 have h2:j < 1073741824:=hc.2
 exact floordiv_int (by omega) (by rw [Int.fdiv_eq_ediv_of_nonneg i (by omega)];exact q) (.inl (PyProof.noPylong_small (by omega)))
theorem dH:OpR X (binaryOp .Mod) (rI (fun _ j=>0 < j) fun i j=>.int (i % j)):=opI fun i j _ _ _ _ _ hc q=>by
 have h1:(0:Int) < j:=hc
 exact mod_int' (by omega) (by rw [Int.fmod_eq_emod_of_nonneg i (by omega)];exact q)
theorem vZ:OpR X (binaryOp .Pow) (rI nc fun i j=>.int (i ^ j.toNat)):=opI fun _ _ _ _ _ _ _ hc q=>pow_int_small hc.1 hc.2.1 hc.2.2 q
theorem unI {f:Value→Sem Value} {g:Int→Int}
  (rule:∀ (i:Int) (t:Tok) (s:Shared) (Q:Value→Shared→Prop) (E:Value→Shared→Prop),Q (.int (g i) s.toks) { s with toks:=s.toks+1 }→wpAny (model X.prog X.w) X.A (f (.int i t)) Q E s) :
  UnR X f (rU fun i=>.int (g i)):=by
 intro pins s σ H x v Q I rx h
 obtain ⟨i,rfl,q⟩:=h
 obtain ⟨t,rfl⟩:=rx
 exact rule i t s _ _ ⟨.int (g i),H,I.tok _,⟨_,rfl⟩,q⟩
theorem d5:UnR X (unaryOp .USub) (rU fun i=>.int (-i)):=unI fun _ _ _ _ _ q=>neg_int q
end
def xq:V→V→Bool
 | .non,.non=>true | .non,.int _=>true | .int _,.non=>true | .non,.bl _=>true | .bl _,.non=>true | .non,.str _=>true | .str _,.non=>true
 | .int _,.int _=>true | .bl _,.bl _=>true | .str _,.str _=>true | .byt _,.byt _=>true
 | .int _,.str _=>true | .str _,.int _=>true | .bl _,.str _=>true | .str _,.bl _=>true
 | _,_=>false
def rEq:R2:=fun x y H Q=>xq x y=true∧Q (.bl (decide (x=y))) H
def rNe:R2:=fun x y H Q=>xq x y=true∧Q (.bl (!decide (x=y))) H
theorem sv {i j:Int}:decide (V.int i=V.int j)=(i == j):=by
 rw [Bool.eq_iff_iff]
 simp
theorem vK {i j:Bool}:decide (V.bl i=V.bl j)=(i == j):=by
 rw [Bool.eq_iff_iff]
 simp
theorem rQ {i j:Str}:decide (V.str i=V.str j)=(i == j):=by
 rw [Bool.eq_iff_iff]
 simp
theorem rM {i j:Array UInt8}:decide (V.byt i=V.byt j)=(i.toList == j.toList):=by
 rw [Bool.eq_iff_iff]
 cases i
 cases j
 simp
section
variable {X:Cx} {a b c:Expr} {ta tb tc:TE} {pos:Pos}
theorem bt {pins:List (Addr×Obj)} {σ:St} {H:Hp} {s:Shared} {Q:VK} {k k':Bool} (I:Inv X pins σ H s) (q:Q (.bl k) H) (e:k=k'):EP X pins σ Q (.bool k') s:=by
 subst e
 exact ⟨.bl k,H,I,rfl,q⟩
theorem DX:OpR X (compareOp .Eq) rEq:=by
 intro pins s σ H x y v u Q I rx ry h
 obtain ⟨hs,q⟩:=h
 cases x with
 | non=>
  cases rx
  cases y with
  | non=>cases ry;exact PySem.EqNone.eq_none_none (bt I q (by simp))
  | bl j=>cases ry;exact PySem.EqNone.eq_none_bool (bt I q (by simp))
  | int j=>obtain ⟨t',rfl⟩:=ry;exact PySem.EqNone.eq_none_int (bt I q (by simp))
  | str j=>obtain ⟨t',rfl⟩:=ry;exact PySem.EqNone.eq_none_str (bt I q (by simp))
  | _=>exact absurd (show false=true from hs) Bool.false_ne_true
 | bl i=>
  cases rx
  cases y with
  | non=>cases ry;exact PySem.EqNone.eq_bool_none (bt I q (by simp))
  | bl j=>cases ry;exact eq_bool (bt I q vK)
  | str j=>obtain ⟨t',rfl⟩:=ry;exact PySem.EqMixed.eq_bool_str (bt I q (by simp))
  | _=>exact absurd (show false=true from hs) Bool.false_ne_true
 | int i=>
  obtain ⟨t,rfl⟩:=rx
  cases y with
  | non=>cases ry;exact PySem.EqNone.eq_int_none (bt I q (by simp))
  | int j=>obtain ⟨t',rfl⟩:=ry;exact eq_int (bt I q sv)
  | str j=>obtain ⟨t',rfl⟩:=ry;exact PySem.EqMixed.eq_int_str (bt I q (by simp))
  | _=>exact absurd (show false=true from hs) Bool.false_ne_true
 | str i=>
  obtain ⟨t,rfl⟩:=rx
  cases y with
  | non=>cases ry;exact PySem.EqNone.eq_str_none (bt I q (by simp))
  | bl j=>cases ry;exact PySem.EqMixed.eq_str_bool (bt I q (by simp))
  | int j=>obtain ⟨t',rfl⟩:=ry;exact PySem.EqMixed.eq_str_int (bt I q (by simp))
  | str j=>obtain ⟨t',rfl⟩:=ry;exact eq_str (bt I q rQ)
  | _=>exact absurd (show false=true from hs) Bool.false_ne_true
 | byt i=>
  obtain ⟨t,rfl⟩:=rx
  cases y with
  | byt j=>obtain ⟨t',rfl⟩:=ry;exact PySem.W.eq_bytes (bt I q rM)
  | _=>exact absurd (show false=true from hs) Bool.false_ne_true
 | _=>cases y<;>exact absurd (show false=true from hs) Bool.false_ne_true
theorem DC:OpR X (compareOp .NotEq) rNe:=by
 intro pins s σ H x y v u Q I rx ry h
 obtain ⟨hs,q⟩:=h
 cases x with
 | non=>
  cases rx
  cases y with
  | non=>cases ry;exact PySem.EqNone.ne_none_none (bt I q (by simp))
  | bl j=>cases ry;exact PySem.EqNone.ne_none_bool (bt I q (by simp))
  | int j=>obtain ⟨t',rfl⟩:=ry;exact PySem.EqNone.ne_none_int (bt I q (by simp))
  | str j=>obtain ⟨t',rfl⟩:=ry;exact PySem.EqNone.ne_none_str (bt I q (by simp))
  | _=>exact absurd (show false=true from hs) Bool.false_ne_true
 | bl i=>
  cases rx
  cases y with
  | non=>cases ry;exact PySem.EqNone.ne_bool_none (bt I q (by simp))
  | bl j=>cases ry;exact ne_bool (bt I q (congrArg not vK))
  | str j=>obtain ⟨t',rfl⟩:=ry;exact PySem.EqMixed.ne_bool_str (bt I q (by simp))
  | _=>exact absurd (show false=true from hs) Bool.false_ne_true
 | int i=>
  obtain ⟨t,rfl⟩:=rx
  cases y with
  | non=>cases ry;exact PySem.EqNone.ne_int_none (bt I q (by simp))
  | int j=>obtain ⟨t',rfl⟩:=ry;exact ne_int (bt I q (congrArg not sv))
  | str j=>obtain ⟨t',rfl⟩:=ry;exact PySem.EqMixed.ne_int_str (bt I q (by simp))
  | _=>exact absurd (show false=true from hs) Bool.false_ne_true
 | str i=>
  obtain ⟨t,rfl⟩:=rx
  cases y with
  | non=>cases ry;exact PySem.EqNone.ne_str_none (bt I q (by simp))
  | bl j=>cases ry;exact PySem.EqMixed.ne_str_bool (bt I q (by simp))
  | int j=>obtain ⟨t',rfl⟩:=ry;exact PySem.EqMixed.ne_str_int (bt I q (by simp))
  | str j=>obtain ⟨t',rfl⟩:=ry;exact ne_str (bt I q (congrArg not rQ))
  | _=>exact absurd (show false=true from hs) Bool.false_ne_true
 | byt i=>
  obtain ⟨t,rfl⟩:=rx
  cases y with
  | byt j=>obtain ⟨t',rfl⟩:=ry;exact PySem.W.ne_bytes (bt I q (congrArg not rM))
  | _=>exact absurd (show false=true from hs) Bool.false_ne_true
 | _=>cases y<;>exact absurd (show false=true from hs) Bool.false_ne_true
theorem pd:OpR X (compareOp .Lt) (rI0 fun i j=>.bl (decide (i < j))):=t5 fun _ _ _ _ _ _ _ q=>lt_int q
theorem fe:OpR X (compareOp .LtE) (rI0 fun i j=>.bl (decide (i≤j))):=t5 fun _ _ _ _ _ _ _ q=>le_int q
theorem pv:OpR X (compareOp .Gt) (rI0 fun i j=>.bl (decide (j < i))):=t5 fun _ _ _ _ _ _ _ q=>gt_int q
theorem DN:OpR X (compareOp .GtE) (rI0 fun i j=>.bl (decide (j≤i))):=t5 fun _ _ _ _ _ _ _ q=>ge_int q
theorem Cp:OpR X (compareOp .Is) (fun x y H Q=>y=.non∧Q (.bl (decide (x=.non))) H):=by
  intro pins s σ H x y v u Q I rx ry h
  obtain ⟨rfl,q⟩:=h
  cases ry
  refine is_none_gen (bt I q ?_)
  cases x<;>first
    | (cases rx;rfl)
    | (obtain ⟨t,rfl⟩:=rx;rfl)
theorem OpR.or {f:Value→Value→Sem Value} {r r':R2} (h:OpR X f r) (h':OpR X f r'):OpR X f (fun x y H Q=>r x y H Q∨r' x y H Q):=by
 intro pins s σ H x y v u Q I rx ry q
 rcases q with q | q
 ·exact h pins s σ H x y v u Q I rx ry q
 ·exact h' pins s σ H x y v u Q I rx ry q
theorem vV (b:Expr) {op:CmpOp} (h:op≠.In:=by decide) (h2:op≠.NotIn:=by decide):behindInMarks op b=false:=by
  have e1:(op == CmpOp.In)=false:=by cases op<;>first | rfl | exact absurd rfl h
  have e2:(op == CmpOp.NotIn)=false:=by cases op<;>first | rfl | exact absurd rfl h2
  cases b<;>simp [behindInMarks,e1,e2]
theorem y0 {op:CmpOp} {r:R2} (ho:OpR X (compareOp op) r) (ha:PE X a ta) (hb:PE X b tb) (hm:behindInMarks op b=false):PE X (.Compare a [op] [b] pos) (tOp r ta tb):=by
 intro pins s σ H Q I h
 exact wpAny_Compare1 (wW ha hb I h fun v u s2 x y H2 I2 rx ry q=>ho pins s2 σ H2 x y v u Q I2 rx ry q) hm
def yq (t:TE):TT:=fun σ H Q=>t σ H fun x H'=>∃ k,x=.bl k∧Q k H'
theorem zy {op:CmpOp} {r:R2} (ho:OpR X (compareOp op) r) (ha:PE X a ta) (hb:PE X b tb) (hm:behindInMarks op b=false):PT X (.Compare a [op] [b] pos) (yq (tOp r ta tb)):=by
 intro pins s σ H Q I h
 refine wpAny_isTrue_Compare1 (thn (ha pins s σ H _ I h) fun v s1 ⟨x,H1,I1,r1,q1⟩=>thn (hb pins s1 σ H1 _ I1 q1) fun u s2 ⟨y,H2,I2,r2,q2⟩=>
  thn (ho pins s2 σ H2 x y v u _ I2 r1 r2 q2) fun c s3 ⟨z,H3,I3,r3,k,e,q3⟩=>?_) hm
 subst e
 cases r3
 exact wpAny_truthy_bool ⟨H3,I3,q3⟩
def qX (r r':R2) (ta tb tc:TE):TE:=fun σ H Q=>ta σ H fun x H1=>tb σ H1 fun y H2=>r x y H2 fun z H3=>∃ k,z=.bl k ∧
 (if k=true then tc σ H3 fun w' H4=>r' y w' H4 Q else Q (.bl false) H3)
theorem xj {op op':CmpOp} {r r':R2} (ho:OpR X (compareOp op) r) (ho':OpR X (compareOp op') r') (ha:PE X a ta) (hb:PE X b tb) (hc:PE X c tc)
  (hm:lastMarks [op,op'] [b,c]=false:=by with_unfolding_all rfl):PE X (.Compare a [op,op'] [b,c] pos) (qX r r' ta tb tc):=by
 intro pins s σ H Q I h
 refine Compare_chain (thn (ha pins s σ H _ I h) fun v s1 ⟨x,H1,I1,r1,q1⟩=>chain_link (thn (hb pins s1 σ H1 _ I1 q1) fun u s2 ⟨y,H2,I2,r2,q2⟩=>
  thn (ho pins s2 σ H2 x y v u _ I2 r1 r2 q2) fun d s3 ⟨z,H3,I3,r3,k,e,q3⟩=>?_)) hm
 subst e
 cases r3
 refine wpAny_truthy_bool ?_
 cases k with
 | false=>exact ite_ff ⟨.bl false,H3,I3,rfl,q3⟩
 | true=>exact ite_tt (chain_last (thn (hc pins s3 σ H3 _ I3 q3) fun w' s4 ⟨z',H4,I4,r4,q4⟩=>ho' pins s4 σ H4 y z' u w' Q I4 r2 r4 q4))
theorem wg {op op':CmpOp} {r r':R2} (ho:OpR X (compareOp op) r) (ho':OpR X (compareOp op') r') (ha:PE X a ta) (hb:PE X b tb) (hc:PE X c tc)
  (hm:lastMarks [op,op'] [b,c]=false:=by with_unfolding_all rfl):PT X (.Compare a [op,op'] [b,c] pos) (yq (qX r r' ta tb tc)):=by
 intro pins s σ H Q I h
 refine isTrue_chain (thn (ha pins s σ H _ I h) fun v s1 ⟨x,H1,I1,r1,q1⟩=>test_link (thn (hb pins s1 σ H1 _ I1 q1) fun u s2 ⟨y,H2,I2,r2,q2⟩=>
  thn (ho pins s2 σ H2 x y v u _ I2 r1 r2 q2) fun d s3 ⟨z,H3,I3,r3,k,e,q3⟩=>?_)) hm
 subst e
 cases r3
 refine wpAny_truthy_bool ?_
 cases k with
 | false=>
  obtain ⟨k',e',q'⟩:=q3
  cases e'
  exact ite_ff ⟨H3,I3,q'⟩
 | true=>
  refine ite_tt (test_last (thn (hc pins s3 σ H3 _ I3 q3) fun w' s4 ⟨z',H4,I4,r4,q4⟩=>thn (ho' pins s4 σ H4 y z' u w' _ I4 r2 r4 q4) fun d' s5 ⟨z2,H5,I5,r5,k2,e2,q5⟩=>?_))
  subst e2
  cases r5
  exact wpAny_truthy_bool ⟨H5,I5,q5⟩
def xX (K:PySem.W.Frag) (x:V) (H:Hp) (k:Bool):Prop:=
 match x with
 | .non=>k=false
 | .bl b=>k=b
 | .int i=>k=(i != 0)
 | .str y=>y.length≤sizeLine∧k=((y.length:Int) != 0)
 | .byt y=>y.size≤sizeLine∧k=((y.size:Int) != 0)
 | .ref p=>(∃ xs,SqL K H p xs∧k=!xs.isEmpty)∨(∃ xs,SqT K H p xs∧k=!xs.isEmpty)∨∃ kvs,H p=some (.dK kvs)∧k=!kvs.isEmpty
 | _=>False
theorem sZ {κ:Type} {kvs:List (κ×V)} {vs:List (κ×Value)} (r:KV kvs vs):(!vs.isEmpty)=!kvs.isEmpty:=by
 cases r<;>rfl
theorem mQ {xs:List V} {its:List Value} (r:Vals xs its):(!its.toArray.isEmpty)=!xs.isEmpty:=by
 cases r<;>simp
theorem hU:(sizeLine:Nat) < 2 ^ 63:=by rw [sizeLine_eq];decide
theorem CZ:FC X (fun x H Q=>∃ k,xX X.K x H k∧Q k H):=by
 intro pins s σ H x v Q I rx h
 obtain ⟨k,e,q⟩:=h
 have hl:=hU
 have hs:sizeLine=16777216:=sizeLine_eq
 cases x with
 | non=>
  cases rx
  have e':k=false:=e
  subst e'
  exact truthy_none ⟨H,I,q⟩
 | bl b=>
  cases rx
  have e':k=b:=e
  subst e'
  exact wpAny_truthy_bool ⟨H,I,q⟩
 | int i=>
  obtain ⟨t,rfl⟩:=rx
  have e':k=(i != 0):=e
  subst e'
  exact PySem.P.truthy_int ⟨H,I,q⟩
 | str y=>
  obtain ⟨t,rfl⟩:=rx
  obtain ⟨hy,e'⟩:y.length≤sizeLine∧k=((y.length:Int) != 0):=e
  subst e'
  exact PySem.P.truthy_str (by omega) ⟨H,I.tok _,q⟩
 | byt y=>
  obtain ⟨t,rfl⟩:=rx
  obtain ⟨hy,e'⟩:y.size≤sizeLine∧k=((y.size:Int) != 0):=e
  subst e'
  exact PySem.W.truthy_bytes (by omega) ⟨H,I.tok _,q⟩
 | ref p=>
  cases rx
  have e':(∃ xs,SqL X.K H p xs∧k=!xs.isEmpty)∨(∃ xs,SqT X.K H p xs∧k=!xs.isEmpty)∨∃ kvs,H p=some (.dK kvs)∧k=!kvs.isEmpty:=e
  rcases e' with ⟨xs,hx,e'⟩ | ⟨xs,hx,e'⟩ | ⟨kvs,hx,e'⟩
  ·subst e'
   obtain ⟨its,r,pl,hz⟩:=I.list hx
   have hlen:=r.length
   exact wpAny_truthy_list pl.isList (by simp only [List.size_toArray];omega) ⟨H,I.tok _,by rw [mQ r];exact q⟩
  ·subst e'
   obtain ⟨its,r,pl,hz⟩:=I.tuple hx
   have hlen:=r.length
   exact truthy_tuple pl (by simp only [List.size_toArray];omega) ⟨H,I.tok _,by rw [mQ r];exact q⟩
  ·subst e'
   obtain ⟨hz,hS,vs,r,m⟩:kvs.length≤sizeLine∧(p == sysModules)=false∧∃ vs,KV kvs vs∧s.heap.DictOf (k9 X.prog X.w) p vs:=I.hok p _ hx
   have hlen:kvs.length=vs.length:=Paired.length r
   exact wpAny_truthy_dict hS m (by omega) ⟨H,I.tok _,by rw [sZ r];exact q⟩
 | _=>exact (show False from e).elim
theorem xn (ha:PE X a ta) (he:∀ whole,isTrue a X.env whole=(do let v ← whole;standAt a.pos;holding [v] (truthy v))) :
  PT X a (fun σ H Q=>ta σ H fun x H'=>∃ k,xX X.K x H' k∧Q k H'):=by
 intro pins s σ H Q I h
 exact isTrue_plain (thn (ha pins s σ H _ I h) fun v s1 ⟨x,H1,I1,r1,q1⟩=>CZ pins s1 σ H1 x v Q I1 r1 q1) (he _)
theorem t9:OpR X (binaryOp .Add) (fun x y H Q=>∃ i j,x=.str i∧y=.str j∧i.length+j.length≤sizeLine∧Q (.str (i++j)) H):=by
 intro pins s σ H x y v u Q I rx ry h
 obtain ⟨i,j,rfl,rfl,hz,q⟩:=h
 obtain ⟨t,rfl⟩:=rx
 obtain ⟨t',rfl⟩:=ry
 exact add_str (fun t' tk=>⟨.str (i++j),H,I.tok _,⟨_,rfl⟩,q⟩) hz
theorem vals1 {x:V} {us:List Value} (r:Vals [x] us):∃ u,us=[u]∧RelV x u:=by
 cases r with
 | cons r1 r2=>cases r2;exact ⟨_,rfl,r1⟩
theorem vals2 {x y:V} {us:List Value} (r:Vals [x,y] us):∃ u w',us=[u,w']∧RelV x u∧RelV y w':=by
 cases r with
 | cons r1 r2=>
  cases r2 with
  | cons r3 r4=>cases r4;exact ⟨_,_,rfl,r1,r3⟩
theorem vv (hc:X.calm=true):bI X (.builtin "max") (fun xs H Q=>∃ i j,xs=[.int i,.int j]∧Q (.int (if j > i then j else i)) H):=by
 intro pins s σ H xs us Q I r h
 obtain ⟨i,j,rfl,q⟩:=h
 obtain ⟨u,w',rfl,⟨t,rfl⟩,⟨t',rfl⟩⟩:=vals2 r
 refine max_two_ints (I.ok.hd hc) fun h' tk k=>⟨_,H,I.kept k,?_,q⟩
 by_cases hj:j > i
 ·rw [if_pos hj,if_pos hj];exact ⟨_,rfl⟩
 ·rw [if_neg hj,if_neg hj];exact ⟨_,rfl⟩
theorem uo (hc:X.calm=true):bI X (.builtin "min") (fun xs H Q=>∃ i j,xs=[.int i,.int j]∧Q (.int (if j < i then j else i)) H):=by
 intro pins s σ H xs us Q I r h
 obtain ⟨i,j,rfl,q⟩:=h
 obtain ⟨u,w',rfl,⟨t,rfl⟩,⟨t',rfl⟩⟩:=vals2 r
 refine min_two_ints (I.ok.hd hc) fun h' tk k=>⟨_,H,I.kept k,?_,q⟩
 by_cases hj:j < i
 ·rw [if_pos hj,if_pos hj];exact ⟨_,rfl⟩
 ·rw [if_neg hj,if_neg hj];exact ⟨_,rfl⟩
def FH (K:PySem.W.Frag) (x:V) (H:Hp) (n:Nat):Prop:=
 match x with
 | .str y=>y.length≤sizeLine∧n=y.length
 | .byt y=>y.size≤sizeLine∧n=y.size
 | .ref p=>(∃ xs,SqL K H p xs∧n=xs.length)∨∃ xs,SqT K H p xs∧n=xs.length
 | _=>False
theorem l6:bI X (.builtin "len") (fun xs H Q=>∃ x n,xs=[x]∧FH X.K x H n∧Q (.int n) H):=by
 intro pins s σ H xs us Q I r h
 obtain ⟨x,n,rfl,e,q⟩:=h
 obtain ⟨u,rfl,rx⟩:=vals1 r
 have hl:=hU
 have hs:sizeLine=16777216:=sizeLine_eq
 cases x with
 | str y=>
  obtain ⟨t,rfl⟩:=rx
  obtain ⟨hy,e'⟩:y.length≤sizeLine∧n=y.length:=e
  subst e'
  exact len_str (by omega) ⟨.int _,H,I.tok _,⟨_,rfl⟩,q⟩
 | byt y=>
  obtain ⟨t,rfl⟩:=rx
  obtain ⟨hy,e'⟩:y.size≤sizeLine∧n=y.size:=e
  subst e'
  exact PySem.W.len_bytes (by omega) ⟨.int _,H,I.tok _,⟨_,rfl⟩,q⟩
 | ref p=>
  cases rx
  have e':(∃ xs,SqL X.K H p xs∧n=xs.length)∨∃ xs,SqT X.K H p xs∧n=xs.length:=e
  rcases e' with ⟨xs,hx,e'⟩ | ⟨xs,hx,e'⟩
  ·subst e'
   obtain ⟨its,r',pl,hz⟩:=I.list hx
   have hlen:=r'.length
   exact Calls.call_len_list pl.isList (by simp only [List.size_toArray];omega) ⟨.int xs.length,H,I.tok _,⟨_,by simp only [List.size_toArray];rw [hlen]⟩,q⟩
  ·subst e'
   obtain ⟨its,r',pl,hz⟩:=I.tuple hx
   have hlen:=r'.length
   exact len_tuple pl (by simp only [List.size_toArray];omega) ⟨.int xs.length,H,I.tok _,⟨_,by simp only [List.size_toArray];rw [hlen]⟩,q⟩
 | _=>exact (show False from e).elim
end
structure wy (h:Heap) (x dx C:Addr) (mA:Str→Option Value):Prop where
 obj:h.get? x=some (PySem.W.instObj C dx)
 ns:h.Ns1 dx mA
 ne:dx≠x
theorem ui {h:Heap} {dx:Addr} {mA:Str→Option Value} (n:h.Ns1 dx mA):∃ od,h.get? dx=some od∧∀ name,PySem.W.lookIn name od=some (mA name):=by
 obtain ⟨o,es,ep,ho,hd,hk,_,hm⟩:=n
 refine ⟨o,ho,fun name=>?_⟩
 have e:=hm name
 unfold nsFind findBy at e
 rw [← Array.find?_toList] at e
 unfold PySem.W.lookIn
 rw [hd]
 dsimp only
 split
 ·rename_i y q
  rw [q] at e
  exact congrArg some e
 ·rename_i q
  rw [q] at e
  have a:es.toList.any (·.refKey)=false:=by
   rw [List.any_eq_false]
   intro y hy
   obtain ⟨z,t,hkey⟩:=hk y (Array.mem_toList_iff.mp hy)
   simp [DictEntry.refKey,hkey]
  have a':¬es.toList.any (·.refKey)=true:=by rw [a];exact Bool.false_ne_true
  rw [if_neg a']
  exact congrArg some e
theorem wy.look {h:Heap} {x dx C:Addr} {mA:Str→Option Value} (I:wy h x dx C mA):∃ od,PySem.W.InstAt h x (PySem.W.instObj C dx) C (some od)∧∀ name,PySem.W.lookIn name od=some (mA name):=
 let ⟨od,ho,hl⟩:=ui I.ns
 ⟨od,⟨I.obj,rfl,rfl,ho⟩,hl⟩
section
variable {P:Program} {w:World} {H H':Hp} {h h':Heap} {a C dx:Addr} {fs fs':List (Str×V)}
theorem zZ (hok:HOk P w H h) (e:H a=some (.ins C dx fs)):∃ mA,wy h a dx C mA∧(∀ f,wK (fs.lookup f) (mA f))∧PySem.Within mA (fs.map (·.1))∧fs.length≤1000∧H dx=some (.own a):=by
 obtain ⟨d,z,ne,ob,mA,n,r,q⟩:=(show b8 P w H h a (.ins C dx fs) from hok a _ e)
 exact ⟨mA,⟨ob,n,ne⟩,r,q,z,d⟩
end
structure Cls (K:PySem.W.Frag) (C:Addr):Prop where
 pg:PySem.W.plainGet K C Str.empty=true
 hd:PySem.W.hasDictIn K C=true
 po:PySem.W.plainOver K C=true
 sa:PySem.W.findIn K (.ref C) "__setattr__"=some (some (.builtin "object.__setattr__"))
theorem Cls.get {K:PySem.W.Frag} {C:Addr} (c:Cls K C) (f:Str):PySem.W.plainGet K C f=true:=c.pg
structure Con (K:PySem.W.Frag) (C:Addr) (f:Str) (v:V) (u:Value):Prop where
 at_:PySem.W.findIn K (.ref C) f=some (some u)
 rel:RelV v u
 get:PySem.W.specialIn K u "__get__"=some none
 cp:PySem.W.copiedNames.contains f=false
structure Meth (K:PySem.W.Frag) (C:Addr) (m:Str) (f:Addr):Prop where
 at_:PySem.W.findIn K (.ref C) m=some (some (.ref f))
 fn:PySem.W.isFn K (.ref f)=true
 kp:PySem.W.keepIn K (.ref f)=true
section
variable {X:Cx} {pins:List (Addr×Obj)} {σ:St} {H:Hp} {s:Shared} {A:Around} {E:Value→Shared→Prop} {Q:Value→Shared→Prop} {c:Value} {b:Bool}
inductive fB (K:PySem.W.Frag) (H:Hp):V→Value→Prop where
 | non:fB K H .non (.type "NoneType")
 | bl (x:Bool):fB K H (.bl x) (.type "bool")
 | int (i:Int):fB K H (.int i) (.type "int")
 | str (x:Str):fB K H (.str x) (.type "str")
 | flt (x:UInt64):fB K H (.flt x) (.type "float")
 | lst {a:Addr} {xs:List V} (e:H a=some (.lst xs)):fB K H (.ref a) (.type "list")
 | frz {a:Addr} {o:Obj} {xs:List V} (e:H a=some (.frz o (.lst xs))):fB K H (.ref a) (.type "list")
 | tup {a:Addr} {xs:List V} (e:H a=some (.tup xs)):fB K H (.ref a) (.type "tuple")
 | dK {a:Addr} {kvs:List (Key×V)} (e:H a=some (.dK kvs)):fB K H (.ref a) (.type "dict")
 | dT {a:Addr} {kvs:List (List Key×V)} (e:H a=some (.dT kvs)):fB K H (.ref a) (.type "dict")
 | ins {a C dx:Addr} {fs:List (Str×V)} (e:H a=some (.ins C dx fs)) (cl:Cls K C) (ha:PySem.W.findIn K (.ref C) "__class__"=some (some (.builtin "object.__class__")))
   (hn:PySem.W.specialIn K (.builtin "object.__class__") "__get__"=some (some (.builtin "getset_descriptor.__get__"))) (htk:PySem.W.takesIn K (.builtin "object.__class__")=some true)
   (hm:PySem.W.mroIn K C (.type "object")=some true):fB K H (.ref a) (.ref C)
theorem vx {x:V} {u t:Value} (I:Inv X pins σ H s) (rx:RelV x u) (ty:fB X.K H x t) (e:PySem.W.kitOne X.K t c=some b) (h:∀ tk,Q (.bool b) { s with toks:=tk }) :
  wpAny (model X.prog X.w) A (call (.builtin "isinstance") [u,c]) Q E s:=by
 cases ty with
 | non=>cases (show u=Value.none from rx);exact PySem.W.kia_one PySem.W.kitx_none I.kIn True.intro e (fun z=>nomatch z) h
 | bl y=>cases (show u=Value.bool y from rx);exact PySem.W.kia_one PySem.W.kitx_bool I.kIn True.intro e (fun z=>nomatch z) h
 | int i=>obtain ⟨t,q⟩:=(show ∃ t,u=Value.int i t from rx);cases q;exact PySem.W.kia_one PySem.W.kitx_int I.kIn True.intro e (fun z=>nomatch z) h
 | str y=>obtain ⟨t,q⟩:=(show ∃ t,u=Value.str y t from rx);cases q;exact PySem.W.kia_one PySem.W.kitx_str I.kIn True.intro e (fun z=>nomatch z) h
 | flt y=>obtain ⟨t,q⟩:=(show ∃ t,u=Value.float y t from rx);cases q;exact PySem.W.kia_one PySem.W.kitx_float I.kIn True.intro e (fun z=>nomatch z) h
 | @lst a xs ea=>
  cases (show u=Value.ref a from rx)
  obtain ⟨_,_,n,_,h1⟩:=(show b8 X.prog X.w H s.heap a (.lst xs) from I.hok a _ ea)
  exact PySem.W.kia_one PySem.W.kitx_list I.kIn ⟨_,h1,rfl⟩ e (fun z=>nomatch z) h
 | @frz a ob xs ea=>
  cases (show u=Value.ref a from rx)
  obtain ⟨_,_,_,n,_,h1⟩:=(show b8 X.prog X.w H s.heap a (.frz ob (.lst xs)) from I.hok a _ ea)
  exact PySem.W.kia_one PySem.W.kitx_list I.kIn ⟨_,h1,rfl⟩ e (fun z=>nomatch z) h
 | @tup a xs ea=>
  cases (show u=Value.ref a from rx)
  obtain ⟨_,_,_,p⟩:=(show b8 X.prog X.w H s.heap a (.tup xs) from I.hok a _ ea)
  obtain ⟨o,h1,h2,_⟩:=p
  exact PySem.W.kia_one PySem.W.kitx_tuple I.kIn ⟨o,h1,h2⟩ e (fun z=>nomatch z) h
 | @dK a kvs ea=>
  cases (show u=Value.ref a from rx)
  obtain ⟨_,_,vs,_,p⟩:=(show b8 X.prog X.w H s.heap a (.dK kvs) from I.hok a _ ea)
  obtain ⟨o,es,ep,h1,h2,_⟩:=p
  exact PySem.W.kia_one PySem.W.kitx_dict I.kIn ⟨o,h1,h2.1⟩ e (fun z=>nomatch z) h
 | @dT a kvs ea=>
  cases (show u=Value.ref a from rx)
  obtain ⟨_,_,xs,_,o,es,ep,h1,h2,_⟩:=(show b8 X.prog X.w H s.heap a (.dT kvs) from I.hok a _ ea)
  exact PySem.W.kia_one PySem.W.kitx_dict I.kIn ⟨o,h1,h2.1⟩ e (fun z=>nomatch z) h
 | @ins a C dx fs ea cl ha hn htk hm=>
  cases (show u=Value.ref a from rx)
  obtain ⟨mA,O,_⟩:=zZ I.hok ea
  obtain ⟨od,J,_⟩:=O.look
  exact PySem.W.kia_one (PySem.W.kitx_own (cl.get _) cl.hd ha hn htk hm) I.kIn J e (fun z=>nomatch z) h
end
structure c_ (k:Nat) (A:Around):Prop where
 hd:A.handled=none
 dp:A.depth+3 * k+5 < recursionLimit
 un:A.units+16 * k+200 < cLine
theorem c_.mono {j k:Nat} {A:Around} (r:c_ k A) (h:j≤k):c_ j A:=⟨r.hd,by have:=r.dp;omega,by have:=r.un;omega⟩
theorem c_.deeper {k:Nat} {A:Around} (r:c_ (k+1) A) (env:Env):c_ k (A.deeper env):=
 ⟨r.hd,by have:=r.dp;show A.depth+1+3 * k+5 < _;omega,by have:=r.un;show A.units+3+16 * k+200 < _;omega⟩
theorem c_.depth {k:Nat} {A:Around} (r:c_ k A):A.depth < recursionLimit:=by have:=r.dp;omega
theorem c_.units {k:Nat} {A:Around} (r:c_ k A):A.units+64 < cLine:=by have:=r.un;omega
def FX:TA:=fun _ H Q=>Q [] H
def El (ta:TE) (tr:TA):TA:=fun σ H Q=>ta σ H fun x H1=>tr σ H1 fun xs H2=>Q (x :: xs) H2
section
variable {X:Cx} {e:Expr} {es:List Expr} {te:TE} {t:TA} {pos:Pos}
theorem gK:PA X [] FX:=fun _ _ _ _ H Q I h=>Calls.spliced_nil ⟨[],H,I,.nil,h⟩
theorem eL (ha:PE X e te) (hr:PA X es t) (hs:starEach (e :: es) X.env=(false,eval e X.env) :: starEach es X.env:=by rfl):PA X (e :: es) (El te t):=by
 intro pos pins s σ H Q I h
 rw [hs]
 show wpAny _ _ (spliced ((false,eval e X.env) :: backTo pos (starEach es X.env))) _ _ s
 refine Calls.spliced_cons (thn (ha pins s σ H _ I h) fun u s1 ⟨x,H1,I1,r1,q1⟩=>?_)
 exact thn (hr pos pins s1 σ H1 _ I1 q1) fun us s2 ⟨xs,H2,I2,r2,q2⟩=>⟨x :: xs,H2,I2,.cons r1 r2,q2⟩
def FP (t:TA):TE:=fun σ H Q=>t σ H fun xs H1=>xs.length≤sizeLine∧∀ p,H1 p=none→Q (.ref p) (upd H1 p (.tup xs))
def Fx (t:TA):TE:=fun σ H Q=>t σ H fun xs H1=>xs.length≤sizeLine∧∀ p,H1 p=none→Q (.ref p) (upd H1 p (.lst xs))
theorem By {x1} (h:PA X es t):PE X (.Tuple es x1 pos) (FP t):=by
 intro pins s σ H Q I hq
 refine wpAny_Tuple_spliced (thn (h pos pins s σ H _ I hq) fun us s1 ⟨xs,H1,I1,r,z,q⟩=>⟨by rw [← r.length];exact z,?_⟩)
 have hf:H1 s1.heap.objs.size=none:=I1.hok.fresh (Nat.le_refl _)
 refine ⟨.ref s1.heap.objs.size,upd H1 s1.heap.objs.size (.tup xs),I1.laid (t':=s1.toks) (fun b u e=>Heap.get?_push_of_some _ e) (Nat.le_refl _) ?_,rfl,q _ hf⟩
 exact ⟨z,us,r,⟨_,Heap.get?_push_size _ rfl,rfl,_,rfl⟩⟩
theorem vk (h:PA X es t):PE X (.List es pos) (Fx t):=by
 intro pins s σ H Q I hq
 refine wpAny_List_spliced (thn (h pos pins s σ H _ I hq) fun us s1 ⟨xs,H1,I1,r,z,q⟩=>⟨by rw [← r.length];exact z,?_⟩)
 have hf:H1 s1.heap.objs.size=none:=I1.hok.fresh (Nat.le_refl _)
 refine ⟨.ref s1.heap.objs.size,upd H1 s1.heap.objs.size (.lst xs),I1.laid (t':=s1.toks) (fun b u e=>Heap.get?_push_of_some _ e) (Nat.le_refl _) ?_,rfl,q _ hf⟩
 exact ⟨z,us,0,r,Heap.get?_push_size _ rfl⟩
end
abbrev Sp:=List V→Hp→VK→XK→Prop
abbrev CXT:=List Env→Hp→Shared→XK→Value→Shared→Prop
structure sA (P:Program) (w:World) (K:PySem.W.Frag) (mg:Str→Option Value) (base:Heap) (A:Around) (outer:List Env) (s:Shared) (H:Hp):Prop where
 frames:A.frames=some outer
 mod:Mod K mg base
 bs:∀ b o,base.get? b=some o→s.heap.get? b=some o∧H b=none
 bsz:base.objs.size≤s.heap.objs.size
 gJ:s.heap.FunFrames base outer
 frf:∀ b∈frs outer,H b=none
 hok:HOk P w H s.heap
 bare:AllBare s.gens
def CE (outer:List Env) (P:Program) (w:World) (H:Hp) (s:Shared) (Q:VK) (u:Value) (s':Shared):Prop:=
 ∃ v H',s'.os=s.os∧AllBare s'.gens∧Un (frs outer) [] H H' s.heap s'.heap∧HOk P w H' s'.heap∧RelV v u∧Q v H'
def CR (CX:CXT) (outer:List Env) (P:Program) (w:World) (H:Hp) (s:Shared) (Q:VK) (E:XK) (r:Result) (s':Shared):Prop:=
 match r with
 | .ok (.ret u)=>CE outer P w H s Q u s'
 | .ok _=>False
 | .error e=>CX outer H s E e s'
structure fj (P:Program) (w:World) (K:PySem.W.Frag) (mg:Str→Option Value) (base:Heap) (CX:CXT) (k:Nat) (f:Addr) (fd:FuncData) (ps:List Str) (sp:Sp):Prop where
 len:∀ vs H Q E,sp vs H Q E→vs.length=ps.length
 run:∀ (A:Around) (outer:List Env) (s:Shared) (H:Hp) (args:Args) (us:List Value) (vs:List V) (Q:VK) (E:XK),c_ k A→sA P w K mg base A outer s H→BindsTo s fd args (ps.zip us)→Vals vs us→sp vs H Q E →
  codeAny (model P w) A (.call (.ref f) args) (CR CX outer P w H s Q E) s
theorem fj.imp {P:Program} {w:World} {K:PySem.W.Frag} {mg:Str→Option Value} {base:Heap} {CX:CXT} {k:Nat} {f:Addr} {fd:FuncData} {ps:List Str} {sp sp':Sp} (F:fj P w K mg base CX k f fd ps sp)
  (h:∀ vs H Q E,sp' vs H Q E→sp vs H Q E):fj P w K mg base CX k f fd ps sp':=
 ⟨fun vs H Q E q=>F.len vs H Q E (h _ _ _ _ q),fun A outer s H args us vs Q E hr he hb hv hs=>F.run A outer s H args us vs Q E hr he hb hv (h _ _ _ _ hs)⟩
section
variable {X:Cx} {pins:List (Addr×Obj)} {σ:St} {H:Hp} {s s':Shared}
theorem Inv.FR (I:Inv X pins σ H s):sA X.prog X.w X.K X.mg X.base X.A X.stack s H:=
 ⟨I.ok.frames,I.ok.mod,I.bs,Nat.le_trans I.ok.bsz I.sz,I.stack,I.r_,I.hok,I.bare⟩
theorem Inv.after {Q:VK} {u:Value} (I:Inv X pins σ H s) (h:CE X.stack X.prog X.w H s Q u s'):EP X pins σ Q u s':=by
 obtain ⟨v,H',os,bare,un,hok,r,q⟩:=h
 obtain ⟨hh,g,d,t,os'⟩:=s'
 obtain rfl:os'=s.os:=os
 exact ⟨v,H',I.call (h':=hh) (g':=g) (d':=d) (t':=t) (ch:=[]) un hok bare (fun b z=>absurd z (by simp)),r,q⟩
end
def Di (sp:Sp) (dvs:List V) (E:XK) (t:TA):TE:=fun σ H Q=>t σ H fun vs H1=>sp (vs++dvs) H1 Q E
def Binds (K:PySem.W.Frag) (fd:FuncData) (ps:List Str) (ds:List Value):Prop:=
 ∀ (s:Shared) (us:List Value),K.In s.heap→(us++ds).length=ps.length→BindsTo s fd ⟨us,[]⟩ (ps.zip (us++ds))
theorem Binds.all {K:PySem.W.Frag} {fd:FuncData} {ps:List Str} (h:∀ us:List Value,us.length=ps.length→bindArgs fd ⟨us,[]⟩=pure (ps.zip us)):Binds K fd ps []:=fun s us _ hl=>by
 rw [List.append_nil] at hl ⊢
 exact .of_eq (h us hl)
def Passes (CX:CXT) (X:Cx) (E:XK):Prop:=∀ (pins:List (Addr×Obj)) (σ:St) (H:Hp) (s:Shared) (e:Value) (s':Shared),Inv X pins σ H s→CX X.stack H s E e s'→X.xe e s'
section
variable {X:Cx} {CX:CXT} {k:Nat} {f C:Addr} {fd:FuncData} {ps:List Str} {sp:Sp} {dvs:List V} {ds:List Value} {E:XK} {x m:Str} {p pos apos:Pos} {e o:Expr} {es:List Expr} {ta:TE} {t:TA}
theorem Ar {pins:List (Addr×Obj)} {σ:St} {H:Hp} {s:Shared} {Q:VK} {us:List Value} {vs:List V} (F:fj X.prog X.w X.K X.mg X.base CX k f fd ps sp) (hr:c_ k X.A) (hb:Binds X.K fd ps ds) (hd:Vals dvs ds) (hx:Passes CX X E)
  (I:Inv X pins σ H s) (r:Vals vs us) (h:sp (vs++dvs) H Q E):wpAny (model X.prog X.w) X.A (call (.ref f) us) (EP X pins σ Q) X.xe s:=by
 have r2:Vals (vs++dvs) (us++ds):=r.append hd
 have hl:(us++ds).length=ps.length:=by rw [← r2.length];exact F.len _ _ _ _ h
 refine wpAny_call (codeAny_mono (F.run X.A X.stack s H ⟨us,[]⟩ (us++ds) (vs++dvs) Q E hr I.FR (hb s us I.kIn hl) r2 h) fun r s' hq=>?_)
 cases r with
 | error e=>exact hx pins σ H s e s' I hq
 | ok fl=>
  cases fl with
  | ret u=>exact I.after hq
  | next=>exact False.elim hq
  | brk=>exact False.elim hq
  | cont=>exact False.elim hq
theorem y8 (F:fj X.prog X.w X.K X.mg X.base CX k f fd ps sp) (hr:c_ k X.A) (hg:Gl X x) (hm:X.mg x=some (.ref f)) (hk:PySem.W.keepIn X.K (.ref f)=true) (hb:Binds X.K fd ps ds) (hd:Vals dvs ds) (hx:Passes CX X E)
  (ha:PA X (e :: es) t) (hdb:(x == ("__debug__":Str))=false:=by decide) (he:starEach (e :: es) X.env=(false,eval e X.env) :: starEach es X.env:=by rfl) (hpl:(backTo pos (starEach es X.env)).any (·.1)=false:=by rfl) :
  PE X (.Call (.Name x p) (e :: es) [] pos) (Di sp dvs E t):=by
 intro pins s σ H Q I h
 refine wpAny_Call_Name_kw (nu I hg hm ?_ hdb)
 refine PySem.W.callWith_K (h₀:=X.base) I.ok.mod.kin hk (thn (ha pos pins s σ H _ I h) fun us s1 ⟨vs,H1,I1,r,q⟩=>⟨I1.kIn,?_⟩) he hpl
 exact Ar F hr hb hd hx I1 r q
structure Mk (K:PySem.W.Frag) (C f:Addr):Prop where
 makes:PySem.W.makesIn K C=true
 init:PySem.W.findIn K (.ref C) "__init__"=some (some (.ref f))
 fn:PySem.W.isFn K (.ref f)=true
 kp:PySem.W.keepIn K (.ref C)=true
end
section
variable {X:Cx} {CX:CXT} {k:Nat} {f C:Addr} {fd:FuncData} {ps ks:List Str} {sp:Sp} {E:XK} {x m:Str} {p pos apos kpos:Pos} {e o:Expr} {es:List Expr} {kws:List Keyword} {te ta:TE} {t tk:TA} {nm:Option Str}
structure Ge (K:PySem.W.Frag) (fd:FuncData) (ps ks:List Str) (g:List Value→List Value→List Value) (gV:List V→List V→List V):Prop where
 to:∀ (s:Shared) (us ws:List Value),K.In s.heap→(g us ws).length=ps.length→BindsTo s fd ⟨us,ks.zip ws⟩ (ps.zip (g us ws))
 rel:∀ {vs:List V} {us:List Value} {zs:List V} {ws:List Value},Vals vs us→Vals zs ws→Vals (gV vs zs) (g us ws)
variable {g:List Value→List Value→List Value} {gV:List V→List V→List V}
end
structure iT (N P:List Str) (sc:Scope):Prop where
 kind:sc.kind=.function
 co:sc.isCoroutine=false
 gen:sc.isGenerator=false
 nd:N.Nodup
 pre:N.take P.length=P
 par:∀ x∈P,sc.names.lookup x=some .local∨sc.names.lookup x=some .cell
 nofree:∀ y∈sc.names,y.2≠.free
theorem oq {kindOf:Str→Option NameKind} {x:Str}:∀ {binds:List (Str×Value)} {m:Str→Option Value},(∀ v,(x,v)∉binds)→bindL kindOf binds m x=m x
 | [],_,_=>rfl
 | (n,v) :: r,m,h=>by
  unfold bindL
  rw [oq fun w hw=>h w (List.mem_cons_of_mem _ hw)]
  split
  ·have:x≠n:=by rintro rfl;exact h v List.mem_cons_self
   simp [this]
  ·rfl
theorem nW {kindOf:Str→Option NameKind} {x:Str}:∀ {binds:List (Str×Value)} {m:Str→Option Value},(∀ v,(x,v)∉binds)→bindC kindOf binds m x=m x
 | [],_,_=>rfl
 | (n,v) :: r,m,h=>by
  unfold bindC
  rw [nW fun w hw=>h w (List.mem_cons_of_mem _ hw)]
  split
  ·rfl
  ·have:x≠n:=by rintro rfl;exact h v List.mem_cons_self
   simp [this]
theorem oz {kindOf:Str→Option NameKind} {x:Str} {v:Value}:∀ {P:List Str} {vs:List Value} {i:Nat} {m:Str→Option Value},P.Nodup→P[i]?=some x→vs[i]?=some v→kindOf x=some .local →
  bindL kindOf (P.zip vs) m x=some v
 | [],_,_,_,_,h,_,_=>by simp at h
 | _ :: _,[],_,_,_,_,h,_=>by simp at h
 | p :: P,w :: vs,0,m,nd,h1,h2,hk=>by
  simp at h1 h2;subst h1;subst h2
  show bindL kindOf ((p,w) :: P.zip vs) m p=_
  unfold bindL
  rw [oq fun v hv=>(List.nodup_cons.mp nd).1 (List.of_mem_zip hv).1,if_pos hk]
  simp
 | p :: P,w :: vs,i+1,m,nd,h1,h2,hk=>by
  show bindL kindOf ((p,w) :: P.zip vs) m x=_
  unfold bindL
  exact oz (i:=i) (List.nodup_cons.mp nd).2 (by simpa using h1) (by simpa using h2) hk
theorem n8 {kindOf:Str→Option NameKind} {x:Str} {v:Value}:∀ {P:List Str} {vs:List Value} {i:Nat} {m:Str→Option Value},P.Nodup→P[i]?=some x→vs[i]?=some v→kindOf x≠some .local →
  bindC kindOf (P.zip vs) m x=some v
 | [],_,_,_,_,h,_,_=>by simp at h
 | _ :: _,[],_,_,_,_,h,_=>by simp at h
 | p :: P,w :: vs,0,m,nd,h1,h2,hk=>by
  simp at h1 h2;subst h1;subst h2
  show bindC kindOf ((p,w) :: P.zip vs) m p=_
  unfold bindC
  rw [nW fun v hv=>(List.nodup_cons.mp nd).1 (List.of_mem_zip hv).1,if_neg hk]
  simp
 | p :: P,w :: vs,i+1,m,nd,h1,h2,hk=>by
  show bindC kindOf ((p,w) :: P.zip vs) m x=_
  unfold bindC
  exact n8 (i:=i) (List.nodup_cons.mp nd).2 (by simpa using h1) (by simpa using h2) hk
def start (N:List Str) (vs:List V):St:=vs.map some++List.replicate (N.length - vs.length) none
def kP (CX:CXT) (P:Program) (w:World) (K:PySem.W.Frag) (mg:Str→Option Value) (base:Heap) (N:List Str) (qual:Str) (scope:Scope) (f:Addr) (cd:Value) (A:Around) (outer:List Env) (s:Shared) (H:Hp) (E:XK):Cx where
 prog:=P
 w:=w
 K:=K
 mg:=mg
 base:=base
 A:=A.deeper (envOfC qual scope s.heap.objs.size f cd)
 N:=N
 s₀:=s
 H₀:=H
 env:=envOfC qual scope s.heap.objs.size f cd
 outer:=outer
 stack:=envOfC qual scope s.heap.objs.size f cd :: outer
 ex:=[]
 calm:=true
 fn:=fun _=>true
 pn:=[]
 xe:=fun e s'=>wpAny (model P w) (A.deeper (envOfC qual scope s.heap.objs.size f cd)) (leaving (envOfC qual scope s.heap.objs.size f cd) e) (fun _ s''=>CX outer H s E e s'') (fun e' s''=>CX outer H s E e' s'') s'
theorem pC {sc:Scope} {n:Nat} {x:Str} (h:sc.names.lookup x=some .cell):∃ c,(cellsFrom n sc.names []).lookup x=some c:=by
 have q:=PySem.W.cellsFrom_some sc.names n [] (.inl h)
 exact Option.isSome_iff_exists.mp q
theorem uT {CX:CXT} {P:Program} {w:World} {K:PySem.W.Frag} {mg:Str→Option Value} {base:Heap} {N ps:List Str} {qual:Str} {scope:Scope} {f:Addr} {cd:Value} {A:Around} {outer:List Env} {s s1:Shared} {H:Hp} {E:XK} {us:List Value} {vs:List V}
  (S:iT N ps scope) (hd:A.handled=none) (e0:sA P w K mg base A outer s H) (hl:vs.length=ps.length) (r:Vals vs us)
  (x:InCallC s s.heap.objs.size (bindL (envOfC qual scope s.heap.objs.size f cd).kindOf (ps.zip us) fun _=>none) (cellsFrom (s.heap.objs.size+1) scope.names []) (bindC (envOfC qual scope s.heap.objs.size f cd).kindOf (ps.zip us) fun _=>none) s1) :
  Inv (kP CX P w K mg base N qual scope f cd A outer s H E) [] (start N vs) H s1:=by
 have hpl:ps.length≤N.length:=by have:=congrArg List.length S.pre;rw [List.length_take] at this;omega
 obtain ⟨h1,tk,rfl,hk⟩:=x.done
 have noA:∀ b:Addr,b∉(kP CX P w K mg base N qual scope f cd A outer s H E).ex:=fun b z=>absurd (show b∈([]:List Addr) from z) (by simp)
 refine ⟨⟨e0.mod,S.kind,rfl,rfl,Nat.le_refl _,fun y z c h1 h2=>?_,fun y hy=>?_,fun y c _ h=>?_,fun _=>hd,Around.frames_deeper e0.frames,.inr ⟨rfl,rfl⟩,fun b z=>absurd z (noA b),e0.bs,e0.bsz,fun b _ _=>noA b,fun b z=>absurd z (noA b),e0.gJ,e0.frf⟩,
  rfl,e0.bare,Un.kept hk,⟨_,x.toInCall.ns,fun i y v h1 h2 h3=>?_⟩,fun y c h=>⟨_,x.cell y c h⟩,e0.hok.fresh (Nat.le_refl _),fun y c h=>?_,fun p hp=>absurd (show p∈([]:List (Addr×Obj)) from hp) (by simp),e0.hok.kept hk,?_⟩
 ·exact name_of_addr x.apart (PySem.mem_of_lookup h1) (PySem.mem_of_lookup h2)
 ·have hy:scope.names.lookup y=some .cell∨scope.names.lookup y=some .free:=hy
  rcases hy with hy | hy
  ·exact pC hy
  ·exact absurd rfl (S.nofree _ (PySem.mem_of_lookup hy))
 ·exact Nat.le_of_lt (x.above y c (PySem.mem_of_lookup h))
 ·have hi:i < vs.length:=by
   unfold start at h2
   by_cases hi:i < vs.length
   ·exact hi
   ·rw [List.getElem?_append_right (by simpa using hi)] at h2
    rw [List.getElem?_replicate] at h2
    split at h2<;>cases h2
  have ha:vs[i]?=some v:=by
   unfold start at h2
   rw [List.getElem?_append_left (by simpa using hi),List.getElem?_map] at h2
   cases e:vs[i]? with
   | none=>rw [e] at h2;cases h2
   | some a=>rw [e] at h2;cases h2;rfl
  obtain ⟨u,hu,rv⟩:=r.get ha
  have hp:ps[i]?=some y:=by
   rw [← S.pre,List.getElem?_take_of_lt (by omega)];exact h1
  have ndP:ps.Nodup:=by rw [← S.pre];exact S.nd.sublist (List.take_sublist _ _)
  refine ⟨u,rv,?_⟩
  rcases S.par y (List.mem_of_getElem? hp) with k | k
  ·exact .inl ⟨k,oz ndP hp hu k⟩
  ·obtain ⟨c,e⟩:=pC (n:=s.heap.objs.size+1) k
   refine .inr ⟨.inl k,c,e,?_⟩
   have q:=x.cell y c e
   rw [n8 ndP hp hu (by show scope.names.lookup y≠_;rw [k];decide)] at q
   exact q
 ·exact e0.hok.fresh (Nat.le_of_lt (x.above y c (PySem.mem_of_lookup h)))
 ·unfold start
  show _=N.length
  rw [List.length_append,List.length_map,List.length_replicate]
  omega
theorem Ds {CX:CXT} {P:Program} {w:World} {K:PySem.W.Frag} {mg:Str→Option Value} {base:Heap} {k:Nat} {f:Addr} {name qual:Str} {params:Arguments} {body:List Stmt} {scope:Scope} {dV kV doc pm cdv ct oc:Value} {an od:Option Addr}
  {osl:Array (Option Value)} {N ps:List Str} {sp:Sp} (lk:K.lookup f=some ⟨oc,od,.func (PySem.W.fnOf name qual params body scope dV kV doc pm an cdv ct),osl⟩) (hcd:PySem.W.codeIn K cdv qual=true) (S:iT N ps scope)
  (len:∀ vs H Q E,sp vs H Q E→vs.length=ps.length)
  (hbody:∀ (A:Around) (outer:List Env) (s:Shared) (H:Hp) (vs:List V) (Q:VK) (E:XK),c_ k (A.deeper (envOfC qual scope s.heap.objs.size f cdv))→sp vs H Q E →
   ∃ t,PSs (kP CX P w K mg base N qual scope f cdv A outer s H E) body t∧t { nx:=fun _ H'=>Q .non H',rt:=Q } (start N vs) H) :
  fj P w K mg base CX (k+1) f (PySem.W.fnOf name qual params body scope dV kV doc pm an cdv ct) ps sp:=by
 refine ⟨len,fun A outer s H args us vs Q E hr e0 hb r hsp=>?_⟩
 have hl:=len _ _ _ _ hsp
 have KX:K.In s.heap:=e0.mod.kin.keeps fun b o e=>(e0.bs b o e).1
 have lim:s.heap.NoLimit:=e0.mod.nolimit.keeps fun b o e=>(e0.bs b o e).1
 have hkind:∀ y∈ps.zip us,scope.names.lookup y.1=some .local∨(scope.names.lookup y.1=some .cell∧((cellsFrom (s.heap.objs.size+1) scope.names []).lookup y.1).isSome=true):=fun ⟨n,v⟩ hy=>by
  rcases S.par n (List.of_mem_zip hy).1 with q | q
  ·exact .inl q
  ·exact .inr ⟨q,PySem.W.cellsFrom_some _ _ _ (.inl q)⟩
 refine codeAny_call_function hr.depth (KX _ _ lk) rfl S.co S.gen rfl (PySem.W.codeRec_of KX hcd) (hb _ _ _ _ ?_)
 refine wpAny_newFunctionEnv_cells S.kind hkind fun env he s1 x=>?_
 subst he
 refine ⟨lim.keeps x.toInCall.keep,codeAny_func ?_⟩
 obtain ⟨t,ht,hq⟩:=hbody A outer s H vs Q E (hr.deeper _) hsp
 have I:Inv (kP CX P w K mg base N qual scope f cdv A outer s H E) [] (start N vs) H s1:=uT S hr.hd e0 hl r x
 refine wpAny_mono (ht [] s1 (start N vs) H _ I hq) (fun fl s' hs=>?_) fun e s' hs=>hs
 have fin:∀ {σ':St} {H':Hp} {v:V} {u:Value},Inv (kP CX P w K mg base N qual scope f cdv A outer s H E) [] σ' H' s'→RelV v u→Q v H'→CE outer P w H s Q u s':=
  fun {σ' H' v u} J rv q=>⟨v,H',J.os,J.bare,J.base,J.hok,rv,q⟩
 cases fl with
 | ret u=>
  obtain ⟨v,σ',H',J,rv,q⟩:=hs
  exact fin J rv q
 | next=>
  obtain ⟨σ',H',J,q⟩:=hs
  exact fin (v:=V.non) (u:=Value.none) J rfl q
 | brk=>
  obtain ⟨_,_,_,q⟩:=hs
  exact False.elim q
 | cont=>
  obtain ⟨_,_,_,q⟩:=hs
  exact False.elim q
section
variable {X:Cx} {x:Str} {p pos:Pos} {e:Expr} {es:List Expr} {t:TA} {id T:String} {r:List V→Hp→VK→Prop}
def tCB (r:List V→Hp→VK→Prop) (t:TA):TE:=fun σ H Q=>t σ H fun vs H1=>r vs H1 Q
theorem wL (hc:bI X (.builtin id) r) (hg:Gl X x) (hm:X.mg x=none) (hv:bootBuiltins x=some (.builtin id)) (ha:PA X (e :: es) t) (hn:x≠"__name__":=by decide) (hdb:(x == ("__debug__":Str))=false:=by decide)
  (he:starEach (e :: es) X.env=(false,eval e X.env) :: starEach es X.env:=by rfl) (hpl:(backTo pos (starEach es X.env)).any (·.1)=false:=by rfl):PE X (.Call (.Name x p) (e :: es) [] pos) (tCB r t):=by
 intro pins s σ H Q I h
 refine wpAny_Call_Name_kw (c9 I hg hm hv ?_ hn hdb)
 exact PyProof.Rows.callWith_builtin1 (thn (ha pos pins s σ H _ I h) fun us s1 ⟨vs,H1,I1,r1,q1⟩=>hc pins s1 σ H1 vs us Q I1 r1 q1) he hpl
theorem uk (hc:bI X (.type T) r) (hg:Gl X x) (hm:X.mg x=none) (hv:bootBuiltins x=some (.type T)) (ha:PA X (e :: es) t) (hn:x≠"__name__":=by decide) (hdb:(x == ("__debug__":Str))=false:=by decide)
  (he:starEach (e :: es) X.env=(false,eval e X.env) :: starEach es X.env:=by rfl) (hpl:(backTo pos (starEach es X.env)).any (·.1)=false:=by rfl):PE X (.Call (.Name x p) (e :: es) [] pos) (tCB r t):=by
 intro pins s σ H Q I h
 refine wpAny_Call_Name_kw (c9 I hg hm hv ?_ hn hdb)
 exact PyProof.Rows.callWith_type1 (thn (ha pos pins s σ H _ I h) fun us s1 ⟨vs,H1,I1,r1,q1⟩=>hc pins s1 σ H1 vs us Q I1 r1 q1) he hpl
end
end L2
namespace HT
open PySem PyProof.Rows
section
variable {prog:Program} {w:World} {A:Around} {E:Value→Shared→Prop} {s:Shared}
theorem zN {t b:Addr} {vs ws:List Value} {Q:Value→Shared→Prop} (ht:IsTup s.heap t vs.toArray) (hb:IsTup s.heap b ws.toArray) (hv:vs≠[])
  (h1:ws=[]→Q (.ref t) s) (h2:ws≠[]→Q (.ref s.heap.objs.size) { s with heap:=s.heap.push { cls:=.type "tuple",data:=.seq (vs++ws).toArray } })
  (hsz:vs.length+ws.length≤sizeLine):wpAny (model prog w) A (binaryOp .Add (.ref t) (.ref b)) Q E s:=by
 obtain ⟨⟨cls,dd,data,sl⟩,ho,hc,n,hd⟩:=id ht
 obtain ⟨⟨cls2,dd2,data2,sl2⟩,ho2,hc2,n2,hd2⟩:=id hb
 simp only at hc hd hc2 hd2
 subst hc hd hc2 hd2
 have e:vs.toArray++ws.toArray=(vs++ws).toArray:=by simp
 by_cases hw:ws=[]
 ·exact concat_meets ⟨_,ho,rfl⟩ ⟨_,ho2,rfl⟩ noFill_tuple_add seq_tuple_add PySem.F.slot_tuple_add PySem.F.entry_tuple_add (PySem.F.args_tuple_add_2 _ _)
   (tuple_addW1 t b vs.toArray ws.toArray n n2 dd dd2 sl sl2 (by simpa using hv) (by simp [hw])) ⟨ho,ho2,h1 hw⟩
 ·refine concat_meets ⟨_,ho,rfl⟩ ⟨_,ho2,rfl⟩ noFill_tuple_add seq_tuple_add PySem.F.slot_tuple_add PySem.F.entry_tuple_add (PySem.F.args_tuple_add_2 _ _)
   (tuple_addW2 t b vs.toArray ws.toArray n n2 dd dd2 sl sl2 (by simpa using hv) (by simpa using hw) (by rw [List.size_toArray,List.size_toArray];exact hsz)) ⟨ho,ho2,?_⟩
  rw [e]
  exact h2 hw
def sIx (n d:Nat):Option Int→Nat
 | none=>d
 | some v=>if v < 0 then (v+(n:Int)).toNat else min v.toNat n
theorem qv (n d:Nat):sIx n d none=d:=rfl
theorem kX (n d k:Nat):sIx n d (some (k:Int))=min k n:=by
 show (if (k:Int) < 0 then ((k:Int)+(n:Int)).toNat else min (k:Int).toNat n)=min k n
 rw [if_neg (by omega),Int.toNat_natCast]
theorem BP (n d:Nat) (hd:d≤n) (o:Option Int):sIx n d o≤n:=by
 cases o with
 | none=>exact hd
 | some v=>
  show (if v < 0 then (v+(n:Int)).toNat else min v.toNat n)≤n
  by_cases hv:v < 0
  ·rw [if_pos hv];omega
  ·rw [if_neg hv];exact Nat.min_le_right _ _
theorem rV (v:Int) (n d:Nat):(if v < 0 then max (v+(n:Int)) 0 else min v (n:Int))=((sIx n d (some v):Nat):Int):=by
 show (if v < 0 then max (v+(n:Int)) 0 else min v (n:Int))=(((if v < 0 then (v+(n:Int)).toNat else min v.toNat n):Nat):Int)
 by_cases hv:v < 0
 ·simp only [if_pos hv];omega
 ·simp only [if_neg hv];omega
theorem sG (lo hi:Option Int) (n:Nat):Builtin.Slice.sliceAdjust lo hi 1 (n:Int)=(((sIx n 0 lo:Nat):Int),((sIx n n hi:Nat):Int)):=by
 have h1:¬((1:Int) < 0):=by omega
 unfold Builtin.Slice.sliceAdjust
 simp only [h1,if_false]
 refine Prod.ext ?_ ?_
 ·cases lo with
  | none=>rfl
  | some v=>exact rV v n 0
 ·cases hi with
  | none=>rfl
  | some v=>exact rV v n n
theorem tq (i j:Nat):Builtin.Slice.slicePlaces (i:Int) (j:Int) 1=j - i:=by
 unfold Builtin.Slice.slicePlaces
 have h1:(1:Int) > 0:=by omega
 simp only [h1,if_true,Int.ediv_one]
 split<;>omega
theorem mX {v:Value} {o:Option Int} {Q:Option Int→Shared→Prop} (p:IsPart v o) (h:Q o s):wpAny (model prog w) A (Builtin.Slice.slicePartIndex v) Q E s:=by
 cases p with
 | none=>exact slicePart_none h
 | int i t=>exact slicePart_int h
theorem g_ {sl:Addr} {vl vu:Value} {lo hi:Option Int} {n:Nat} {Q:Int×Int×Nat→Shared→Prop} (hs:s.heap.IsSliceOf sl vl vu .none) (pl:IsPart vl lo) (pu:IsPart vu hi)
  (h:Q (((sIx n 0 lo:Nat):Int),1,sIx n n hi - sIx n 0 lo) s):wpAny (model prog w) A (Builtin.Slice.sliceApplied (.ref sl) (pure (n:Int))) Q E s:=by
 obtain ⟨os,hos,hcs,hds⟩:=id hs
 unfold Builtin.Slice.sliceApplied Builtin.Slice.sliceFields
 refine wpAny_bind (wpAny_bind (wpAny_field hos hds (x:=vl) rfl (wpAny_bind (wpAny_field hos hds (x:=vu) rfl (wpAny_bind (wpAny_field hos hds (x:=.none) rfl (wpAny_pure ?_)))))))
 refine wpAny_bind (slicePart_none ?_)
 show wpAny _ _ (if ((1:Int) == 0)=true then _ else _) _ _ s
 rw [if_neg (by decide)]
 refine wpAny_bind (mX pl (wpAny_bind (mX pu (wpAny_bind (wpAny_pure ?_)))))
 show wpAny _ _ (match Builtin.Slice.sliceAdjust lo hi 1 (n:Int) with | (lo,hi)=>pure (lo,(1:Int),Builtin.Slice.slicePlaces lo hi 1)) _ _ s
 rw [sG lo hi n]
 show wpAny _ _ (pure (((sIx n 0 lo:Nat):Int),(1:Int),Builtin.Slice.slicePlaces ((sIx n 0 lo:Nat):Int) ((sIx n n hi:Nat):Int) 1)) _ _ s
 rw [tq]
 exact wpAny_pure h
theorem xD (xs:Array Value) (i k:Nat):((List.range k).filterMap fun (m:Nat)=>xs[((i:Int)+(m:Int) * 1).toNat]?).toArray=((xs.toList.drop i).take k).toArray:=by
 have e:(fun (m:Nat)=>xs[((i:Int)+(m:Int) * 1).toNat]?)=fun m=>xs[i+m]?:=by
  funext m
  have:((i:Int)+(m:Int) * 1).toNat=i+m:=by omega
  rw [this]
 rw [e]
 have:=pick_run xs i k
 rw [List.filterMap_map] at this
 have e2:((fun x=>xs[x]?) ∘ fun x=>i+x)=fun m=>xs[i+m]?:=rfl
 rw [e2] at this
 rw [this]
theorem lj {t sl:Addr} {items:Array Value} {vl vu:Value} {lo hi:Option Int} {Q:Value→Shared→Prop} (ht:IsTup s.heap t items) (hs:s.heap.IsSliceOf sl vl vu .none) (pl:IsPart vl lo) (pu:IsPart vu hi)
    (hw:¬(sIx items.size 0 lo=0∧sIx items.size items.size hi=items.size))
    (h:Q (.ref s.heap.objs.size) { s with heap:=s.heap.push { cls:=.type "tuple",data:=.seq ((items.toList.drop (sIx items.size 0 lo)).take (sIx items.size items.size hi - sIx items.size 0 lo)).toArray } })
    (hsz:items.size≤sizeLine):wpAny (model prog w) A (getItem (.ref t) (.ref sl)) Q E s:=by
  have htake:sizeOk (.seq ((items.toList.drop (sIx items.size 0 lo)).take (sIx items.size items.size hi - sIx items.size 0 lo)).toArray):=by
    show ((items.toList.drop (sIx items.size 0 lo)).take (sIx items.size items.size hi - sIx items.size 0 lo)).toArray.size≤sizeLine
    rw [List.size_toArray,List.length_take,List.length_drop,Array.length_toList]
    omega
  have hj:sIx items.size items.size hi≤items.size:=BP _ _ (Nat.le_refl _) hi
  obtain ⟨os,hos,hcs,hds⟩:=id hs
  have hTs:s.TypeIs (.ref sl) "slice":=⟨os,hos,hcs⟩
  unfold getItem
  try with_reducible refine wpAny_holding ?_
  first | refine wpAny_bind (wpAny_pure ?_) | skip
  refine wpAny_bind (wpAny_sequenceKey ht.typeIs (by decide) ?_)
  refine wpAny_bind (wpAny_callSpecial?_slot (name:=Str.ofString "__getitem__") ht.typeIs PyProof.Rows.slot_tuple_getitem
    (wpAny_call_entry PyProof.Rows.slot_tuple_getitem ht.typeIs entry_tuple_getitem ?_ (args_tuple_getitem _ _)))
  show wpAny _ _ (Builtin.Tuple.tupleItemsOf (.ref t)>>=_) _ _ s
  refine wpAny_bind (tupleItemsOf_ ht ?_)
  refine wpAny_bind (wpAny_typeOf hTs ?_)
  rw [if_pos (by decide)]
  refine wpAny_bind (g_ hs pl pu ?_)
  have hno:¬((((sIx items.size 0 lo:Nat):Int) == 0 && (1:Int) == 1 && (sIx items.size items.size hi - sIx items.size 0 lo) == items.size)=true):=by
    intro q
    rw [Bool.and_eq_true,Bool.and_eq_true] at q
    have q1:((sIx items.size 0 lo:Nat):Int)=0:=eq_of_beq q.1.1
    have q2:sIx items.size items.size hi - sIx items.size 0 lo=items.size:=eq_of_beq q.2
    exact hw ⟨by omega,by omega⟩
  show wpAny _ _ (if (((sIx items.size 0 lo:Nat):Int) == 0 && (1:Int) == 1 && (sIx items.size items.size hi - sIx items.size 0 lo) == items.size)=true then _ else _) _ _ s
  rw [if_neg hno,xD]
  first
    | exact wpAny_bind (m:=Builtin.Tuple.tupleExact _) (wpAny_newObj_type (wpAny_pure ⟨_,rfl,wpAny_pure h⟩) htake)
    | exact wpAny_bind (m:=Builtin.Tuple.tupleExact _) (wpAny_newObj_type (wpAny_bind (wpAny_pure (wpAny_pure ⟨_,rfl,wpAny_pure h⟩))) htake)
    | exact wpAny_bind (wpAny_bind (m:=Builtin.Tuple.tupleExact _) (wpAny_newObj_type (wpAny_pure (wpAny_pure ⟨_,rfl,wpAny_pure h⟩)) htake))
    | exact wpAny_bind (wpAny_bind (m:=Builtin.Tuple.tupleExact _) (wpAny_newObj_type (wpAny_pure ⟨_,rfl,wpAny_pure h⟩) htake))
end
end HT
namespace L2
open PySem PySem.Spec PyProof.Rows
abbrev TO:=St→Hp→(Option Int→Hp→Prop)→Prop
def PO (X:Cx) (e:Option Expr) (t:TO):Prop:=
 ∀ (pins:List (Addr×Obj)) (s:Shared) (σ:St) (H:Hp) (Q:Option Int→Hp→Prop),Inv X pins σ H s→t σ H Q →
  wpAny (model X.prog X.w) X.A (evalPart e X.env) (fun u s'=>∃ o H',Inv X pins σ H' s'∧IsPart u o∧Q o H') X.xe s
def zg:TO:=fun _ H Q=>Q none H
def Eg (t:TE):TO:=fun σ H Q=>t σ H fun x H1=>∃ i,x=.int i∧Q (some i) H1
theorem intsAre_of {ns:List Int}:∀ {us:List Value},Vals (ns.map V.int) us→IntsAre us ns:=by
 induction ns with
 | nil=>intro us r;rw [List.map_nil] at r;cases r;exact .nil
 | cons n ns ih=>
  intro us r
  rw [List.map_cons] at r
  cases r with
  | cons r1 r2=>
   obtain ⟨t,e⟩:=r1
   subst e
   exact .cons n t (ih r2)
section
variable {X:Cx} {e:Expr} {te:TE} {lo hi:Option Expr} {tl th:TO} {pos p2:Pos}
theorem yZ:PO X none zg:=by
 intro pins s σ H Q I h
 rw [evalPart_none]
 exact wpAny_pure ⟨none,H,I,.none,h⟩
theorem zr (h:PE X e te):PO X (some e) (Eg te):=by
 intro pins s σ H Q I hw
 rw [evalPart_some]
 refine thn (h pins s σ H _ I hw) fun u s1 ⟨x,H1,I1,r1,q1⟩=>?_
 obtain ⟨i,rfl,q⟩:=q1
 obtain ⟨t,rfl⟩:=r1
 exact ⟨some i,H1,I1,.int i t,q⟩
def SlR (X:Cx) (r:V→Option Int→Option Int→Hp→VK→Prop):Prop:=
 ∀ (pins:List (Addr×Obj)) (s:Shared) (σ:St) (H:Hp) (x:V) (v vl vu:Value) (lo hi:Option Int) (sl:Addr) (Q:VK),Inv X pins σ H s→RelV x v→s.heap.IsSliceOf sl vl vu .none→IsPart vl lo→IsPart vu hi→r x lo hi H Q →
  ∃ T id,typeLookup (.type T) "__getitem__"=pure (some (.builtin id))∧s.TypeIs v T∧wpAny (model X.prog X.w) X.A (getItem v (.ref sl)) (EP X pins σ Q) X.xe s
def tSl (r:V→Option Int→Option Int→Hp→VK→Prop) (te:TE) (tl th:TO):TE:=fun σ H Q=>te σ H fun x H1=>tl σ H1 fun l H2=>th σ H2 fun u H3=>r x l u H3 Q
theorem lV {r:V→Option Int→Option Int→Hp→VK→Prop} (hr:SlR X r) (he:PE X e te) (hl:PO X lo tl) (hu:PO X hi th):PE X (.Subscript e (.Slice lo hi none p2) pos) (tSl r te tl th):=by
 intro pins s σ H Q I h
 refine Subscript_ (thn (he pins s σ H _ I h) fun v s1 ⟨x,H1,I1,r1,q1⟩=>?_)
 refine wpAny_Slice (thn (hl pins s1 σ H1 _ I1 q1) fun vl s2 ⟨l,H2,I2,pl,q2⟩=>thn (hu pins s2 σ H2 _ I2 q2) fun vu s3 ⟨u,H3,I3,pu,q3⟩=>?_)
 rw [evalPart_none]
 refine wpAny_pure ?_
 have I4:Inv X pins σ H3 { s3 with heap:=s3.heap.push { cls:=.type "slice",data:=.fields #[vl,vu,.none] } }:=I3.kept (t':=s3.toks) fun b ob q=>Heap.get?_push_of_some _ q
 obtain ⟨T,id,hT,ht,hg⟩:=hr pins { s3 with heap:=s3.heap.push { cls:=.type "slice",data:=.fields #[vl,vu,.none] } } σ H3 x v vl vu l u s3.heap.objs.size Q I4 r1 (Heap.IsSliceOf.new ..) pl pu q3
 show wpAny (model X.prog X.w) X.A (subscriptTail e (.Slice lo hi none p2) v (.ref s3.heap.objs.size)) (EP X pins σ Q) X.xe { s3 with heap:=s3.heap.push { cls:=.type "slice",data:=.fields #[vl,vu,.none] } }
 exact tail_any (ops:=[.ref s3.heap.objs.size,v]) ht hT hg (by with_unfolding_all rfl)
def gG (xs:List V) (lo hi:Option Int):List V:=(xs.drop (HT.sIx xs.length 0 lo)).take (HT.sIx xs.length xs.length hi - HT.sIx xs.length 0 lo)
theorem lI (xs:List V) (lo hi:Option Int):(gG xs lo hi).length≤xs.length:=by
 unfold gG
 rw [List.length_take,List.length_drop]
 omega
def F7 (K:PySem.W.Frag):V→Option Int→Option Int→Hp→VK→Prop:=fun x lo hi H Q=>∃ a xs,x=.ref a∧SqT K H a xs ∧
 ¬(HT.sIx xs.length 0 lo=0∧HT.sIx xs.length xs.length hi=xs.length)∧∀ p,H p=none→Q (.ref p) (upd H p (.tup (gG xs lo hi)))
theorem BD:SlR X (F7 X.K):=by
 intro pins s σ H x v vl vu lo hi sl Q I rx hs pl pu h
 obtain ⟨a,xs,rfl,hx,hw,q⟩:=h
 cases rx
 obtain ⟨its,r,ht,hz⟩:=I.tuple hx
 have hlen:its.toArray.size=xs.length:=by rw [List.size_toArray];exact r.length.symm
 refine ⟨"tuple",_,PyProof.Rows.slot_tuple_getitem.lookup,ht.typeIs,?_⟩
 refine HT.lj ht hs pl pu (by rw [hlen];exact hw) ?_ (by rw [hlen];exact hz)
 rw [hlen]
 refine ⟨.ref s.heap.objs.size,_,I.laid (t':=s.toks) (o:=.tup (gG xs lo hi)) (fun b ob q=>Heap.get?_push_of_some _ q) (Nat.le_refl _) ?_,rfl,q _ (I.hok.fresh (Nat.le_refl _))⟩
 exact ⟨Nat.le_trans (lI xs lo hi) hz,_,(r.drop (HT.sIx xs.length 0 lo)).take (HT.sIx xs.length xs.length hi - HT.sIx xs.length 0 lo),IsTup.new _ _⟩
def Ec (K:PySem.W.Frag):R2:=fun x y H Q=>∃ a b xs ys,x=.ref a∧y=.ref b∧SqT K H a xs∧SqT K H b ys∧xs≠[]∧xs.length+ys.length≤sizeLine ∧
 (ys=[]→Q (.ref a) H)∧(ys≠[]→∀ p,H p=none→Q (.ref p) (upd H p (.tup (xs++ys))))
theorem Vals.k8 {xs:List V} {us:List Value} (r:Vals xs us):us=[]↔xs=[]:=by
 cases r with
 | nil=>simp
 | cons _ _=>simp
theorem zb:OpR X (binaryOp .Add) (Ec X.K):=by
 intro pins s σ H x y v u Q I rx ry h
 obtain ⟨a,b,xs,ys,rfl,rfl,ha,hb,hx,hz,q1,q2⟩:=h
 cases rx
 cases ry
 obtain ⟨its,r1,p1,_⟩:=I.tuple ha
 obtain ⟨its2,r2,p2,_⟩:=I.tuple hb
 refine HT.zN p1 p2 (fun z=>hx (r1.k8.mp z)) (fun z=>⟨.ref a,H,I,rfl,q1 (r2.k8.mp z)⟩) (fun z=>?_) (by rw [← r1.length,← r2.length];exact hz)
 refine ⟨.ref s.heap.objs.size,_,I.laid (t':=s.toks) (o:=.tup (xs++ys)) (fun b ob q=>Heap.get?_push_of_some _ q) (Nat.le_refl _) ?_,rfl,q2 (fun w=>z (r2.k8.mpr w)) _ (I.hok.fresh (Nat.le_refl _))⟩
 exact ⟨by rw [List.length_append];exact hz,_,r1.append r2,IsTup.new _ _⟩
end
def ixN (n:Nat) (i:Int):Option Nat:=if 0≤i then (if i < n then some i.toNat else none) else if -(n:Int)≤i then some (i+n).toNat else none
def atI {α:Type} (xs:List α) (i:Int):Option α:=(ixN xs.length i).bind fun j=>xs[j]?
theorem rD {n:Nat} {i:Int} {j:Nat} (h:ixN n i=some j):seqIndex? i n=some j∧j < n∧-(n:Int)≤i∧i < n:=by
 unfold ixN at h
 by_cases h0:0≤i
 ·rw [if_pos h0] at h
  by_cases h1:i < n
  ·rw [if_pos h1] at h
   have e:i.toNat=j:=Option.some.inj h
   exact ⟨by rw [seqIndex_of h0 h1,e],by omega,by omega,h1⟩
  ·rw [if_neg h1] at h;cases h
 ·rw [if_neg h0] at h
  by_cases h1:-(n:Int)≤i
  ·rw [if_pos h1] at h
   have e:(i+n).toNat=j:=Option.some.inj h
   exact ⟨by rw [seqIndex_neg (by omega) h1,e],by omega,h1,by omega⟩
  ·rw [if_neg h1] at h;cases h
theorem nD {α:Type} {xs:List α} {i:Int} {v:α} (h:atI xs i=some v):∃ j,seqIndex? i xs.length=some j∧xs[j]?=some v∧j < xs.length∧-(xs.length:Int)≤i∧i < xs.length:=by
 unfold atI at h
 cases e:ixN xs.length i with
 | none=>rw [e] at h;cases h
 | some j=>
  rw [e] at h
  obtain ⟨h1,h2,h3,h4⟩:=rD e
  exact ⟨j,h1,h,h2,h3,h4⟩
def jh (b:Expr):Prop:=∀ o i,subscripted b false o i=operate [o,i] (getItem o i)
def IxR (X:Cx) (r:R2):Prop:=
 ∀ (value slice:Expr) (pins:List (Addr×Obj)) (s:Shared) (σ:St) (H:Hp) (x y:V) (v u:Value) (Q:VK),Inv X pins σ H s→RelV x v→RelV y u→r x y H Q →
  subscripted slice false v u=operate [v,u] (getItem v u)→wpAny (model X.prog X.w) X.A (subscriptTail value slice v u) (EP X pins σ Q) X.xe s
section
variable {X:Cx} {a b:Expr} {ta tb:TE} {pos:Pos}
theorem yD {r:R2} (hr:IxR X r) (ha:PE X a ta) (hb:PE X b tb) (hs:jh b):PE X (.Subscript a b pos) (tOp r ta tb):=by
 intro pins s σ H Q I h
 exact Subscript_ (wW ha hb I h fun v u s2 x y H2 I2 rx ry q=>hr a b pins s2 σ H2 x y v u Q I2 rx ry q (hs _ _))
def FF (K:PySem.W.Frag):R2:=fun x y H Q=>∃ p xs i v,x=.ref p∧y=.int i∧SqL K H p xs∧atI xs i=some v∧Q v H
def Fq (K:PySem.W.Frag):R2:=fun x y H Q=>∃ p xs i v,x=.ref p∧y=.int i∧SqT K H p xs∧atI xs i=some v∧Q v H
def BQ:R2:=fun x y H Q=>∃ z i c,x=.str z∧y=.int i∧z.length≤sizeLine∧atI z.cps.toList i=some c∧Q (.str ⟨#[c]⟩) H
theorem zd:IxR X (FF X.K):=by
 intro value slice pins s σ H x y v u Q I rx ry h hs
 obtain ⟨p,xs,i,z,rfl,rfl,hq,he,q⟩:=h
 cases rx
 obtain ⟨t,rfl⟩:=ry
 obtain ⟨its,r,pl,hz⟩:=I.list hq
 obtain ⟨j,h1,h2,h3,h4,h5⟩:=nD he
 obtain ⟨w,ew,rw'⟩:=r.get h2
 have hl:=r.length
 have hn:=hU
 have fin:EP X pins σ Q w s:=⟨z,H,I,rw',q⟩
 by_cases h0:0≤i
 ·have hj:i.toNat=j:=by
   rw [seqIndex_of h0 h5] at h1
   exact Option.some.inj h1
  exact item_listR pl.isList h0 (by omega) (by rw [hj];simpa using ew) fin hs
 ·have hj:(i+(its.toArray.size:Int)).toNat=j:=by
   rw [seqIndex_neg (by omega) h4] at h1
   rw [List.size_toArray,← hl]
   exact Option.some.inj h1
  exact subscriptTail_builtinR (x:=w) pl.isList.typeIs slot_list_getitem.lookup
   (wpAny_getItem_list_neg (Q:=fun r s'=>r=w∧EP X pins σ Q r s') pl.isList (by omega) (by rw [List.size_toArray]<;>omega) (by omega) (by rw [hj];simpa using ew) ⟨rfl,fin⟩) hs
theorem AO:IxR X (Fq X.K):=by
 intro value slice pins s σ H x y v u Q I rx ry h hs
 obtain ⟨p,xs,i,z,rfl,rfl,hq,he,q⟩:=h
 cases rx
 obtain ⟨t,rfl⟩:=ry
 obtain ⟨its,r,pl,hz⟩:=I.tuple hq
 obtain ⟨j,h1,h2,h3,h4,h5⟩:=nD he
 obtain ⟨w,ew,rw'⟩:=r.get h2
 have hl:=r.length
 have hn:=hU
 have fin:EP X pins σ Q w s:=⟨z,H,I,rw',q⟩
 exact subscriptTail_builtinR (x:=w) pl.typeIs slot_tuple_getitem.lookup
  (getItem_tuple (j:=j) (Q:=fun r s'=>r=w∧EP X pins σ Q r s') pl (by omega) (by omega) (by rw [List.size_toArray,← hl];exact h1) (by simpa using ew) ⟨rfl,fin⟩) hs
theorem Cu:IxR X BQ:=by
 intro value slice pins s σ H x y v u Q I rx ry h hs
 obtain ⟨z,i,c,rfl,rfl,hz,he,q⟩:=h
 obtain ⟨t,rfl⟩:=rx
 obtain ⟨t',rfl⟩:=ry
 obtain ⟨j,h1,h2,h3,h4,h5⟩:=nD he
 have hl:z.cps.toList.length=z.length:=by simp [Str.length]
 rw [hl] at h1 h4 h5
 have hn:=hU
 exact tail_any (typeIs_str s z t) slot_str_getitem.lookup (getItem_str (c:=c) (by
  have e1:decide (i < -(2 ^ 63:Int))=false:=decide_eq_false (by omega)
  have e2:decide (i ≥ 2 ^ 63)=false:=decide_eq_false (by omega)
  rw [e1,e2,Bool.or_false]) (by rw [h1];simpa using h2) ⟨.str ⟨#[c]⟩,H,I.tok _,⟨_,rfl⟩,q⟩) hs
theorem tR (its:List Value) (n j:Nat) (u:Value):Obj.mapSeq (·.setIfInBounds j u) { cls:=.type "list",data:=.seq its.toArray n }={ cls:=.type "list",data:=.seq (its.set j u).toArray n }:=by
 simp [Obj.mapSeq]
theorem Inv.lst {pins:List (Addr×Obj)} {σ:St} {H:Hp} {s:Shared} {p:Addr} {xs:List V} (I:Inv X pins σ H s) (h:H p=some (.lst xs)) :
  ∃ (its:List Value) (n:Nat),Vals xs its∧s.heap.get? p=some { cls:=.type "list",data:=.seq its.toArray n }∧xs.length≤sizeLine:=by
 obtain ⟨z,its,n,r,e⟩:=I.hok p _ h
 exact ⟨its,n,r,e,z⟩
theorem Inv.Ce {pins:List (Addr×Obj)} {σ:St} {H:Hp} {s:Shared} {p:Addr} {xs ys:List V} {its its':List Value} {n n':Nat} {f:Obj→Obj} (I:Inv X pins σ H s) (h:H p=some (.lst xs))
  (ho:s.heap.get? p=some { cls:=.type "list",data:=.seq its.toArray n }) (hf:f { cls:=.type "list",data:=.seq its.toArray n }={ cls:=.type "list",data:=.seq its'.toArray n' }) (r:Vals ys its') (hz:ys.length≤sizeLine) (t:Nat) :
  Inv X pins σ (upd H p (.lst ys)) { s with heap:=s.heap.update p f,toks:=t }:=by
 have e:(s.heap.update p f).get? p=some { cls:=.type "list",data:=.seq its'.toArray n' }:=by
  rw [Heap.get?_update_self f ho (by rw [hf]<;>rfl),hf]
 refine I.write (x:=p) (e:=p) (by rw [h];trivial) (.inl rfl) (fun b u hb q=>(Heap.get?_update_other _ _ (Ne.symm hb)).trans q) ⟨_,e⟩ ?_
 exact ⟨hz,its',n',r,e⟩
def sS:V→V→V→Hp→(Hp→Prop)→Prop:=fun o i v H Q=>∃ p xs k j,o=.ref p∧i=.int k∧H p=some (.lst xs)∧ixN xs.length k=some j∧Q (upd H p (.lst (xs.set j v)))
theorem set_list:sy X sS:=by
 intro pins s σ H o i v ov iv u Q I ro ri rv h
 obtain ⟨p,xs,k,j,rfl,rfl,hp,hj,q⟩:=h
 cases ro
 obtain ⟨t,rfl⟩:=ri
 obtain ⟨its,n,r,ho,hz⟩:=I.lst hp
 obtain ⟨h1,h2,h3,h4⟩:=rD hj
 have hl:=r.length
 have hn:=hU
 have I':Inv X pins σ (upd H p (.lst (xs.set j v))) { s with heap:=s.heap.update p (Obj.mapSeq (·.setIfInBounds j u)) }:=
  I.Ce hp ho (tR its n j u) (r.set rv j) (by rw [List.length_set];exact hz) s.toks
 by_cases h0:0≤k
 ·have hk:k.toNat=j:=by
   rw [seqIndex_of h0 h4] at h1
   exact Option.some.inj h1
  exact PySem.W.ki_setAt ho h0 (by omega) (by rw [List.size_toArray,← hl];exact h4) (by rw [hk];exact ⟨_,I',q⟩)
 ·have hk:(k+(its.toArray.size:Int)).toNat=j:=by
   rw [seqIndex_neg (by omega) h3] at h1
   rw [List.size_toArray,← hl]
   exact Option.some.inj h1
  exact PySem.W.ki_setBack ho (by omega) (by rw [List.size_toArray,← hl];exact h3) (by omega) (by rw [hk];exact ⟨_,I',q⟩)
theorem qe (lo hi:Option Int) (n:Nat):(sliceBounds lo hi none n).1=((HT.sIx n 0 lo:Nat):Int)∧(sliceBounds lo hi none n).2.1=((HT.sIx n n hi:Nat):Int)∧(sliceBounds lo hi none n).2.2=1:=by
 refine ⟨?_,?_,rfl⟩
 ·cases lo with
  | none=>simp [sliceBounds,HT.sIx]
  | some i=>
   simp only [sliceBounds,HT.sIx,Option.getD_none,show (1:Int) > 0 by decide,if_true]
   by_cases h:i < 0
   ·simp only [h,if_true]<;>omega
   ·simp only [h,if_false]<;>omega
 ·cases hi with
  | none=>simp [sliceBounds,HT.sIx]
  | some i=>
   simp only [sliceBounds,HT.sIx,Option.getD_none,show (1:Int) > 0 by decide,if_true]
   by_cases h:i < 0
   ·simp only [h,if_true]<;>omega
   ·simp only [h,if_false]<;>omega
theorem oK (its:List Value) (lo hi:Option Int):slicePick its.toArray lo hi none=((its.drop (HT.sIx its.length 0 lo)).take (HT.sIx its.length its.length hi - HT.sIx its.length 0 lo)).toArray:=by
 obtain ⟨h1,h2,h3⟩:=qe lo hi its.toArray.size
 unfold slicePick
 rw [h1,h2,h3]
 simp only [sliceRange_one,pick_run,List.size_toArray]<;>rfl
def FN (K:PySem.W.Frag):V→Option Int→Option Int→Hp→VK→Prop:=fun x lo hi H Q=>∃ a xs,x=.ref a∧SqL K H a xs∧∀ p,H p=none→Q (.ref p) (upd H p (.lst (gG xs lo hi)))
theorem rH:SlR X (FN X.K):=by
 intro pins s σ H x v vl vu lo hi sl Q I rx hs pl pu h
 obtain ⟨a,xs,rfl,hx,q⟩:=h
 cases rx
 obtain ⟨its,r,ht,hz⟩:=I.list hx
 have hlen:=r.length
 refine ⟨"list",_,slot_list_getitem.lookup,ht.isList.typeIs,?_⟩
 refine wpAny_getItem_list_slice ht.isList hs pl pu .none (by simp) ?_ (by rw [List.size_toArray]<;>omega)
 rw [oK,← hlen]
 refine ⟨.ref s.heap.objs.size,_,I.laid (t':=s.toks) (o:=.lst (gG xs lo hi)) (fun b ob q=>Heap.get?_push_of_some _ q) (Nat.le_refl _) ?_,rfl,q _ (I.hok.fresh (Nat.le_refl _))⟩
 exact ⟨Nat.le_trans (lI xs lo hi) hz,_,0,(r.drop (HT.sIx xs.length 0 lo)).take (HT.sIx xs.length xs.length hi - HT.sIx xs.length 0 lo),Heap.get?_push_size _ rfl⟩
def et:V→Bool
 | .non=>true
 | .bl _=>true
 | .int _=>true
 | .str _=>true
 | _=>false
def eqV:V→V→Bool
 | .non,.non=>true
 | .bl a,.bl b=>a == b
 | .bl a,.int b=>(if a then 1 else 0) == b
 | .int a,.bl b=>a == (if b then 1 else 0)
 | .int a,.int b=>a == b
 | .str a,.str b=>a == b
 | _,_=>false
theorem j9 {A:Around} {s:Shared} {y x:V} {u v:Value} (ry:RelV y u) (rx:RelV x v) (fy:et y=true) (fx:et x=true):SeqAt.EqAt A s u v (eqV y x):=by
 cases y with
 | non=>
  cases ry
  cases x with
  | non=>cases rx;exact SeqAt.EqAt.same _
  | bl b=>cases rx;exact SeqAt.EqAt.none_bool b
  | int b=>obtain ⟨t,rfl⟩:=rx;exact SeqAt.EqAt.none_int b t
  | str b=>obtain ⟨t,rfl⟩:=rx;exact SeqAt.EqAt.none_str b t
  | _=>exact absurd (show false=true from fx) Bool.false_ne_true
 | bl a=>
  cases ry
  cases x with
  | non=>cases rx;exact SeqAt.EqAt.bool_none a
  | bl b=>cases rx;exact SeqAt.EqAt.bool_bool a b
  | int b=>obtain ⟨t,rfl⟩:=rx;exact SeqAt.EqAt.bool_int a b t
  | str b=>obtain ⟨t,rfl⟩:=rx;exact SeqAt.EqAt.bool_str a b t
  | _=>exact absurd (show false=true from fx) Bool.false_ne_true
 | int a=>
  obtain ⟨t',rfl⟩:=ry
  cases x with
  | non=>cases rx;exact SeqAt.EqAt.int_none a t'
  | bl b=>cases rx;exact SeqAt.EqAt.int_bool a t' b
  | int b=>obtain ⟨t,rfl⟩:=rx;exact SeqAt.EqAt.int_int a t' b t
  | str b=>obtain ⟨t,rfl⟩:=rx;exact SeqAt.EqAt.int_str a t' b t
  | _=>exact absurd (show false=true from fx) Bool.false_ne_true
 | str a=>
  obtain ⟨t',rfl⟩:=ry
  cases x with
  | non=>cases rx;exact SeqAt.EqAt.str_none a t'
  | bl b=>cases rx;exact SeqAt.EqAt.str_bool a t' b
  | int b=>obtain ⟨t,rfl⟩:=rx;exact SeqAt.EqAt.str_int a t' b t
  | str b=>obtain ⟨t,rfl⟩:=rx;exact SeqAt.EqAt.str_str a t' b t
  | _=>exact absurd (show false=true from fx) Bool.false_ne_true
 | _=>exact absurd (show false=true from fy) Bool.false_ne_true
def eqU (x:V) (u:Value):Bool:=match u with
 | .none=>eqV .non x
 | .bool b=>eqV (.bl b) x
 | .int i _=>eqV (.int i) x
 | .str z _=>eqV (.str z) x
 | _=>false
theorem vw {x y:V} {u:Value} (r:RelV y u) (f:et y=true):eqU x u=eqV y x:=by
 cases y with
 | non=>cases r;rfl
 | bl b=>cases r;rfl
 | int i=>obtain ⟨t,rfl⟩:=r;rfl
 | str z=>obtain ⟨t,rfl⟩:=r;rfl
 | _=>exact absurd (show false=true from f) Bool.false_ne_true
theorem iV {x:V}:∀ {xs:List V} {us:List Value},Vals xs us→xs.all et=true→us.any (eqU x)=xs.any fun y=>eqV y x
 | _,_,.nil,_=>rfl
 | y :: xs,u :: us,.cons r t,f=>by
  rw [List.all_cons,Bool.and_eq_true] at f
  rw [List.any_cons,List.any_cons,vw r f.1,iV t f.2]
theorem gY {A:Around} {s:Shared} {x:V} {v:Value} (rx:RelV x v) (fx:et x=true):∀ {xs:List V} {us:List Value},Vals xs us→xs.all et=true→∀ u∈us,SeqAt.EqAt A s u v (eqU x u)
 | _,_,.nil,_=>fun u hu=>by cases hu
 | y :: xs,u :: us,.cons r t,f=>fun u' hu=>by
  rw [List.all_cons,Bool.and_eq_true] at f
  rcases List.mem_cons.mp hu with rfl | hu
  ·rw [vw r f.1];exact j9 r rx f.1 fx
  ·exact gY rx fx t f.2 u' hu
def inV (x:V) (xs:List V):Bool:=xs.any fun y=>eqV y x
def rIn (K:PySem.W.Frag) (neg:Bool):R2:=fun x y H Q=>∃ p xs,y=.ref p∧(SqL K H p xs∨SqT K H p xs)∧et x=true∧xs.all et=true∧Q (.bl (if neg then !inV x xs else inV x xs)) H
theorem oB:OpR X (compareOp .In) (rIn X.K false):=by
 intro pins s σ H x y v u Q I rx ry h
 obtain ⟨p,xs,rfl,hq,fx,fs,q⟩:=h
 cases ry
 rcases hq with hq | hq
 ·obtain ⟨its,r,pl,hz⟩:=I.list hq
  refine SeqAt.in_listAt (eqU x) pl.isList (fun w hw=>gY rx fx r fs w (by simpa using hw)) ⟨.bl _,H,I,rfl,?_⟩
  rw [show its.toArray.any (eqU x)=its.any (eqU x) by simp,iV r fs]
  exact q
 ·obtain ⟨its,r,pl,hz⟩:=I.tuple hq
  refine SeqAt.in_tupleAt (eqU x) pl (fun w hw=>gY rx fx r fs w (by simpa using hw)) ⟨.bl _,H,I,rfl,?_⟩
  rw [show its.toArray.any (eqU x)=its.any (eqU x) by simp,iV r fs]
  exact q
theorem km:OpR X (compareOp .NotIn) (rIn X.K true):=by
 intro pins s σ H x y v u Q I rx ry h
 obtain ⟨p,xs,rfl,hq,fx,fs,q⟩:=h
 cases ry
 rcases hq with hq | hq
 ·obtain ⟨its,r,pl,hz⟩:=I.list hq
  refine SeqAt.notIn_listAt (eqU x) pl.isList (fun w hw=>gY rx fx r fs w (by simpa using hw)) ⟨.bl _,H,I,rfl,?_⟩
  rw [show its.toArray.any (eqU x)=its.any (eqU x) by simp,iV r fs]
  exact q
 ·obtain ⟨its,r,pl,hz⟩:=I.tuple hq
  refine SeqAt.notIn_tupleAt (eqU x) pl (fun w hw=>gY rx fx r fs w (by simpa using hw)) ⟨.bl _,H,I,rfl,?_⟩
  rw [show its.toArray.any (eqU x)=its.any (eqU x) by simp,iV r fs]
  exact q
theorem qB:bI X (.builtin "len") (fun xs H Q=>∃ p ys,xs=[.ref p]∧(SqL X.K H p ys∨SqT X.K H p ys)∧Q (.int ys.length) H):=by
 intro pins s σ H xs us Q I r h
 obtain ⟨p,ys,rfl,hq,q⟩:=h
 obtain ⟨u,rfl,rx⟩:=vals1 r
 cases rx
 have hn:=hU
 rcases hq with hq | hq
 ·obtain ⟨its,r',pl,hz⟩:=I.list hq
  have hlen:=r'.length
  exact Calls.call_len_list pl.isList (by simp only [List.size_toArray]<;>omega) ⟨.int ys.length,H,I.tok _,⟨s.toks+1,by rw [List.size_toArray,hlen]⟩,q⟩
 ·obtain ⟨its,r',pl,hz⟩:=I.tuple hq
  have hlen:=r'.length
  exact len_tuple pl (by simp only [List.size_toArray]<;>omega) ⟨.int ys.length,H,I.tok _,⟨s.toks+1,by rw [List.size_toArray,hlen]⟩,q⟩
theorem bI.or {f:Value} {r r':List V→Hp→VK→Prop} (h:bI X f r) (h':bI X f r'):bI X f (fun xs H Q=>r xs H Q∨r' xs H Q):=by
 intro pins s σ H xs us Q I rs q
 rcases q with q | q
 ·exact h pins s σ H xs us Q I rs q
 ·exact h' pins s σ H xs us Q I rs q
theorem ki:bI X (.type "list") (fun xs H Q=>∃ p ys,xs=[.ref p]∧(SqL X.K H p ys∨SqT X.K H p ys)∧∀ l,H l=none→Q (.ref l) (upd H l (.lst ys))):=by
 intro pins s σ H xs us Q I r h
 obtain ⟨p,ys,rfl,hq,q⟩:=h
 obtain ⟨u,rfl,rx⟩:=vals1 r
 cases rx
 have fin:∀ (its:List Value),Vals ys its→ys.length≤sizeLine→∀ (h':Heap) (c':Nat),(∀ b o',s.heap.get? b=some o'→h'.get? b=some o') →
   h'.get? s.heap.objs.size=some { cls:=.type "list",dict:=none,data:=.seq its.toArray c',slots:=#[] }→EP X pins σ Q (.ref s.heap.objs.size) { s with heap:=h' }:=fun its r' hz h' c' kp e=>
  ⟨.ref s.heap.objs.size,_,I.laid (t':=s.toks) kp (Nat.le_refl _) (show b8 X.prog X.w _ h' _ (.lst ys) from ⟨hz,its,c',r',e⟩),rfl,q _ (I.hok.fresh (Nat.le_refl _))⟩
 rcases hq with hq | hq
 ·obtain ⟨its,r',pl,hz⟩:=I.list hq
  have hlen:=r'.length
  obtain ⟨o,ho,hc,n,hd⟩:=pl.isList
  exact call_list_seq p (.inl rfl) ho hc hd (fun h' c' kp e=>fin its r' hz h' c' kp e) (by simp only [List.size_toArray]<;>omega)
 ·obtain ⟨its,r',pl,hz⟩:=I.tuple hq
  have hlen:=r'.length
  obtain ⟨o,ho,hc,n,hd⟩:=pl
  exact call_list_seq p (.inr rfl) ho hc hd (fun h' c' kp e=>fin its r' hz h' c' kp e) (by simp only [List.size_toArray]<;>omega)
theorem jP:bI X (.type "tuple") (fun xs H Q=>∃ p ys,xs=[.ref p]∧((SqL X.K H p ys∧∀ l,H l=none→Q (.ref l) (upd H l (.tup ys)))∨(SqT X.K H p ys∧Q (.ref p) H))):=by
 intro pins s σ H xs us Q I r h
 obtain ⟨p,ys,rfl,h⟩:=h
 obtain ⟨u,rfl,rx⟩:=vals1 r
 cases rx
 rcases h with ⟨hq,q⟩ | ⟨hq,q⟩
 ·obtain ⟨its,r',pl,hz⟩:=I.list hq
  have hlen:=r'.length
  refine call_tuple_list pl.isList (fun h' kp=>?_) (by simp only [List.size_toArray]<;>omega)
  have I1:Inv X pins σ H { s with heap:=h' }:=I.kept (t':=s.toks) kp
  have I2:Inv X pins σ (upd H h'.objs.size (.tup ys)) { s with heap:=h'.push { cls:=.type "tuple",data:=.seq its.toArray } }:=
   I1.laid (t':=s.toks) (fun b o e=>Heap.get?_push_of_some _ e) (Nat.le_refl _) (show b8 X.prog X.w _ _ _ (.tup ys) from ⟨hz,its,r',IsTup.new _ _⟩)
  exact ⟨.ref h'.objs.size,_,I2,rfl,q _ (I1.hok.fresh (Nat.le_refl _))⟩
 ·obtain ⟨its,r',pl,hz⟩:=I.tuple hq
  exact call_tuple_same pl ⟨.ref p,H,I,rfl,q⟩
def tyV (K:PySem.W.Frag) (T:String) (x:V) (H:Hp):Prop:=match x with
 | .str _=>T="str"
 | .int _=>T="int"
 | .ref p=>(T="list"∧∃ xs,SqL K H p xs)∨(T="tuple"∧∃ o,K.lookup p=some o∧o.cls=.type "tuple"∧o.dict=none) ∨
   (T="dict"∧((∃ kvs,H p=some (.dK kvs))∨∃ kvs,H p=some (.dT kvs)))∨(T="set"∧∃ S n,H p=some (.set S n))
 | _=>False
theorem vf {pins:List (Addr×Obj)} {σ:St} {H:Hp} {s:Shared} {T:String} {x:V} {v:Value} (I:Inv X pins σ H s) (r:RelV x v) (ty:tyV X.K T x H) :
  s.TypeIs v T∧∀ a,v=.ref a→∃ ob,s.heap.get? a=some ob∧ob.dict=none:=by
 cases x with
 | str z=>
  obtain ⟨t,rfl⟩:=r
  cases (show T="str" from ty)
  exact ⟨typeIs_str s z t,fun _ e=>nomatch e⟩
 | int i=>
  obtain ⟨t,rfl⟩:=r
  cases (show T="int" from ty)
  exact ⟨typeIs_int s i t,fun _ e=>nomatch e⟩
 | ref p=>
  cases r
  rcases ty with ⟨rfl,xs,hq⟩ | ⟨rfl,o,hk,hc,hd⟩ | ⟨rfl,hk⟩ | ⟨rfl,S,n,hk⟩
  ·obtain ⟨its,_,pl,_⟩:=I.list hq
   refine ⟨pl.isList.typeIs,fun a e=>?_⟩
   cases e
   obtain ⟨o,n,e,c,hd,_⟩:=pl
   exact ⟨o,e,hd⟩
  ·refine ⟨⟨o,I.kIn p o hk,hc⟩,fun a e=>?_⟩
   cases e
   exact ⟨o,I.kIn _ o hk,hd⟩
  ·have z:∃ o,s.heap.get? p=some o∧o.ExactDict:=by
    rcases hk with ⟨kvs,hk⟩ | ⟨kvs,hk⟩
    ·obtain ⟨_,_,_,_,o,_,_,e,ex,_⟩:=I.hok p _ hk
     exact ⟨o,e,ex⟩
    ·obtain ⟨_,_,_,_,o,_,_,e,ex,_⟩:=I.hok p _ hk
     exact ⟨o,e,ex⟩
   obtain ⟨o,e,ex⟩:=z
   refine ⟨⟨o,e,ex.1⟩,fun a e2=>?_⟩
   cases e2
   exact ⟨o,e,ex.2.1⟩
  ·obtain ⟨o,_,_,_,e,ex,_⟩:=I.hok p _ hk
   refine ⟨⟨o,e,ex.1⟩,fun a e2=>?_⟩
   cases e2
   exact ⟨o,e,ex.2.1⟩
 | _=>exact False.elim ty
variable {o e:Expr} {es:List Expr} {to:TE} {t:TA} {name:Str} {apos cpos:Pos} {T id:String} {r:V→List V→Hp→VK→Prop}
end
def MtM (X:Cx) (id:String) (r:V→List V→Hp→VK→Prop):Prop:=
 ∀ (pins:List (Addr×Obj)) (s:Shared) (σ:St) (H:Hp) (x:V) (xs:List V) (v:Value) (us:List Value) (Q:VK),Inv X pins σ H s→RelV x v→Vals xs us→r x xs H Q →
  wpAny (model X.prog X.w) X.A (call (.builtin id) (v :: us)) (EP X pins σ Q) X.xe s
theorem Vals.one:∀ {x:V} {us:List Value},Vals [x] us→∃ u,us=[u]∧RelV x u
 | _,_,.cons r .nil=>⟨_,rfl,r⟩
theorem Vals.two:∀ {x y:V} {us:List Value},Vals [x,y] us→∃ u v,us=[u,v]∧RelV x u∧RelV y v
 | _,_,_,.cons r (.cons q .nil)=>⟨_,_,rfl,r,q⟩
theorem Vals.eraseIdx:∀ {xs:List V} {us:List Value} (i:Nat),Vals xs us→Vals (xs.eraseIdx i) (us.eraseIdx i)
 | _,_,_,.nil=>.nil
 | _,_,0,.cons _ t=>t
 | _,_,i+1,.cons r t=>.cons r (Vals.eraseIdx i t)
theorem nQ {α:Type}:∀ (l:List α) (i:Nat),(l.eraseIdx i).length≤l.length
 | [],_=>Nat.le_refl _
 | _ :: _,0=>Nat.le_succ _
 | _ :: r,i+1=>Nat.succ_le_succ (nQ r i)
section
variable {X:Cx} {pins:List (Addr×Obj)} {σ:St} {H:Hp} {s:Shared} {l b:Addr} {xs ys zs:List V}
theorem Inv.CL {its its':List Value} {n:Nat} {f:Array Value→Array Value} {t':Nat} (I:Inv X pins σ H s) (hH:H l=some (.lst xs))
  (e:s.heap.get? l=some { cls:=.type "list",data:=.seq its.toArray n }) (hf:f its.toArray=its'.toArray) (hv:Vals ys its') (hz:ys.length≤sizeLine) :
  Inv X pins σ (upd H l (.lst ys)) { s with heap:=s.heap.update l (Obj.mapSeq f),toks:=t' }:=by
 have q:=PySem.IsL.update e f
 rw [hf] at q
 refine I.write (x:=l) (e:=l) (by rw [hH];exact trivial) (.inl rfl) (fun b' u hb hu=>(Heap.get?_update_other s.heap (Obj.mapSeq f) (Ne.symm hb)).trans hu) ⟨_,q⟩ ?_
 exact ⟨hz,its',_,hv,q⟩
theorem Inv.Fj {its:List Value} {t':Nat} (I:Inv X pins σ H s) (hv:Vals ys its) (hz:ys.length≤sizeLine) :
  Inv X pins σ (upd H s.heap.objs.size (.lst ys)) { s with heap:=s.heap.push { cls:=.type "list",data:=.seq its.toArray },toks:=t' }:=
 I.laid (fun _ _ q=>Heap.get?_push_of_some _ q) (Nat.le_refl _) ⟨hz,its,0,hv,Heap.get?_push_size _ rfl⟩
theorem Inv.fresh (I:Inv X pins σ H s):H s.heap.objs.size=none:=I.hok.fresh (Nat.le_refl _)
theorem Inv.tD (I:Inv X pins σ H s) (hH:H l=some (.lst xs)):xs.length≤sizeLine∧∃ (its:List Value) (n:Nat),Vals xs its∧xs.length=its.length∧s.heap.get? l=some { cls:=.type "list",data:=.seq its.toArray n }:=by
 obtain ⟨z,its,n,r,e⟩:=I.hok l _ hH
 exact ⟨z,its,n,r,r.length,e⟩
theorem qP {n:Nat} (h:n≤sizeLine):Builtin.List.listTooLong n=false:=by
 unfold Builtin.List.listTooLong
 exact decide_eq_false (by omega)
end
section
variable {X:Cx}
def zV:V→List V→Hp→VK→Prop:=fun x vs H Q=>∃ l xs y,x=.ref l∧vs=[y]∧H l=some (.lst xs)∧xs.length < sizeLine∧Q .non (upd H l (.lst (xs++[y])))
theorem oC:MtM X "list.append" zV:=by
 intro pins s σ H x vs v us Q I rx rv h
 obtain ⟨l,xs,y,rfl,rfl,hH,hz,q⟩:=h
 cases rx
 obtain ⟨u,rfl,ru⟩:=rv.one
 obtain ⟨z,its,n,r,hl,e⟩:=I.tD hH
 refine call_meets F.slot_list_append ⟨_,e,rfl⟩ F.entry_list_append (F.args_list_append_2 _ _) (PySem.list_append l its.toArray n u (by rw [List.size_toArray];omega)) ⟨e,?_⟩
 refine ⟨.non,_,I.CL (its':=its++[u]) hH e (by simp) (r.append (.cons ru .nil)) ?_,rfl,q⟩
 rw [List.length_append,List.length_singleton]
 omega
def uX:V→List V→Hp→VK→Prop:=fun x vs H Q=>∃ l xs i k y,x=.ref l∧vs=[.int i]∧H l=some (.lst xs)∧-(2 ^ 63)≤i∧i < 2 ^ 63∧seqIndex? i xs.length=some k∧xs[k]?=some y∧Q y (upd H l (.lst (xs.eraseIdx k)))
theorem xv:MtM X "list.pop" uX:=by
 intro pins s σ H x vs v us Q I rx rv h
 obtain ⟨l,xs,i,k,y,rfl,rfl,hH,h1,h2,hk,hy,q⟩:=h
 cases rx
 obtain ⟨u,rfl,ru⟩:=rv.one
 obtain ⟨t,rfl⟩:=ru
 obtain ⟨z,its,n,r,hl,e⟩:=I.tD hH
 obtain ⟨w,hw,rw'⟩:=r.get hy
 refine call_meets F.slot_list_pop ⟨_,e,rfl⟩ F.entry_list_pop (F.args_list_pop_2 _ _)
  (MeetsSeq.list_pop_at l its.toArray n i t k w (fitsIndex_both h1 h2) (by rw [List.size_toArray,← hl];exact hk) (by rw [← Array.getElem?_toList];exact hw) (by rw [List.size_toArray];omega)) ⟨e,?_⟩
 refine ⟨y,_,I.CL (its':=its.eraseIdx k) hH e ?_ (r.eraseIdx k) ?_,rw',q⟩
 ·show its.toArray.eraseIdxIfInBounds k=(its.eraseIdx k).toArray
  rw [List.eraseIdxIfInBounds_toArray]
 ·have:=nQ xs k
  omega
def F1:R2:=fun x y H Q=>∃ l b xs zs,x=.ref l∧y=.ref b∧H l=some (.lst xs)∧H b=some (.lst zs)∧xs.length+zs.length≤sizeLine∧∀ p,H p=none→Q (.ref p) (upd H p (.lst (xs++zs)))
theorem Cc:OpR X (binaryOp .Add) F1:=by
 intro pins s σ H x y v u Q I rx ry h
 obtain ⟨l,b,xs,zs,rfl,rfl,hH,hB,hz,q⟩:=h
 cases rx
 cases ry
 obtain ⟨z,its,n,r,hl,e⟩:=I.tD hH
 obtain ⟨z2,its2,n2,r2,hl2,e2⟩:=I.tD hB
 refine PySem.P.add_list e e2 ?_ (by rw [List.size_toArray,List.size_toArray];omega)
 have ea:its.toArray++its2.toArray=(its++its2).toArray:=by simp
 rw [ea]
 exact ⟨.ref _,_,I.Fj (t':=s.toks) (r.append r2) (by rw [List.length_append];omega),rfl,q _ I.fresh⟩
end
section
variable {prog:Program} {w:World} {A:Around} {E:Value→Shared→Prop} {s:Shared}
theorem tV {a c n:Nat} (hac:a≤c) (hc:c≤n):sliceBounds (some (a:Int)) (some (c:Int)) none n=((a:Int),(c:Int),1):=by
 simp only [sliceBounds,Option.getD_none]
 have h1:¬((a:Int) < 0):=by omega
 have h2:¬((c:Int) < 0):=by omega
 simp only [h1,h2,if_false,show (1:Int) > 0 by decide,if_true]
 congr 1
 ·omega
 ·congr 1;omega
set_option maxRecDepth 100000 in
theorem Ai {l b sl : Addr} {items new : Array Value} {n n2 : Nat} {vl vu : Value} {a c : Nat} {Q : Unit → Shared → Prop}
    (e : s.heap.get? l = some { cls := .type "list", data := .seq items n }) (e2 : s.heap.get? b = some { cls := .type "list", data := .seq new n2 }) (hne : l ≠ b)
    (hs : s.heap.IsSliceOf sl vl vu .none) (pl : IsPart vl (some (a : Int))) (pu : IsPart vu (some (c : Int))) (hac : a ≤ c) (hc : c ≤ items.size)
    (hsz : items.size + new.size ≤ sizeLine) (h : Q () { s with heap := s.heap.update l (Obj.mapSeq fun xs => xs.extract 0 a ++ new ++ xs.extract c xs.size) }) :
    wpAny (model prog w) A (setItem (.ref l) (.ref sl) (.ref b)) Q E s := by
  have hl : s.heap.IsList l items := PySem.IsL.isList e
  have hb : s.heap.IsList b new := PySem.IsL.isList e2
  obtain ⟨os, hos, hcs, hds⟩ := id hs
  have hTs : s.TypeIs (.ref sl) "slice" := ⟨os, hos, hcs⟩
  have hstep : ¬ ((rawPart none == rawInt 0) = true) := Bool.false_ne_true
  have hsame : Builtin.List.listSameRef (.ref l) (.ref b) = false := by
    unfold Builtin.List.listSameRef
    exact beq_eq_false_iff_ne.mpr hne
  have hmax : (max (a : Int) (c : Int)).toNat = c := by omega
  have hz' : ((fun xs : Array Value => xs.extract 0 a ++ new ++ xs.extract c xs.size) items).size ≤ sizeLine + 1 := by
    simp only [Array.size_append, Array.size_extract]
    omega
  unfold setItem
  try with_reducible refine wpAny_holding ?_
  first | refine wpAny_bind (wpAny_pure ?_) | skip
  refine wpAny_bind (wpAny_sequenceKey hl.typeIs (by decide) ?_)
  refine wpAny_bind (wpAny_callSpecial?_slot (name := Str.ofString "__setitem__") hl.typeIs slot_list_setitem
    (wpAny_call_entry slot_list_setitem hl.typeIs entry_list_setitem ?_ (args_list_setitem _ _ _)))
  show wpAny _ _ (Builtin.List.listSubscript? (.ref sl) >>= _) _ _ s
  refine wpAny_bind ?_
  unfold Builtin.List.listSubscript?
  refine wpAny_bind (wpAny_specialOf hTs slice_no_index ?_)
  simp only [Option.isNone_none, if_true]
  refine wpAny_pure ?_
  show wpAny _ _ (typeOf (.ref sl) >>= _) _ _ s
  refine wpAny_bind (wpAny_typeOf hTs ?_)
  first
    | rw [if_neg (by decide)]
    | refine PySem.W.KFB.if_not (by decide) ?_
  rw [listSliceParts_eq]
  refine wpAny_bind (wpAny_bind (wpAny_field hos hds (x := .none) rfl (wpAny_bind (wpAny_listPart .none ?_))))
  rw [if_neg hstep]
  refine wpAny_bind (wpAny_field hos hds (x := vl) rfl (wpAny_bind (wpAny_listPart pl ?_)))
  refine wpAny_bind (wpAny_field hos hds (x := vu) rfl (wpAny_bind (wpAny_listPart pu (wpAny_pure ?_))))
  first
    | simp only [hsame, Bool.false_eq_true, if_false]
    | refine PySem.W.KFB.if_not hsame ?_
    | (dsimp only
       rw [if_neg (by rw [hsame]; exact Bool.false_ne_true)])
  refine wpAny_bind (m := Builtin.List.listAllItems (.ref b) "must assign iterable to extended slice") ?_
  unfold Builtin.List.listAllItems
  refine wpAny_bind (wpAny_typeOf hb.typeIs ?_)
  first
    | refine PySem.W.KFB.if_so (by decide) ?_
    | rw [if_pos (by decide)]
    | simp only [beq_self_eq_true, Bool.true_or, if_true]
  unfold Builtin.List.listItems
  refine wpAny_bind (wpAny_seqItems e2 rfl (wpAny_pure ?_))
  refine wpAny_bind (wpAny_bind (wpAny_seqItems e rfl (wpAny_pure ?_)))
  refine wpAny_bind (wpAny_of_eq ((sliceIndices_raw (some (a : Int)) (some (c : Int)) none items.size (by simp)).trans (congrArg (pure : Int × Int × Int → Sem (Int × Int × Int)) (tV hac hc))) ?_)
  show wpAny _ _ (if ((1 : Int) == 1) = true then _ else _) _ _ s
  rw [if_pos (by decide)]
  refine wpAny_bind (wpAny_rule ?_)
  first
    | simp only [qP hsz, Bool.false_eq_true, if_false]
    | refine PySem.W.KFB.if_not (qP hsz) ?_
  first | refine wpAny_bind (wpAny_pure ?_) | skip
  show wpAny _ _ (updateSeq l (fun xs => xs.extract 0 ((a : Int)).toNat ++ new ++ xs.extract (max (a : Int) (c : Int)).toNat xs.size) >>= _) _ _ s
  rw [hmax, Int.toNat_natCast]
  refine wpAny_bind (wpAny_updateSeq (hz := Nat.le_trans (Nat.le_add_right _ _) hsz) (_hz' := hz') e rfl ?_)
  refine wpAny_bind (wpAny_letGo ?_)
  first
    | exact wpAny_bind (wpAny_pure (wpAny_pure ⟨.none, rfl, wpAny_pure h⟩))
    | exact wpAny_pure ⟨.none, rfl, wpAny_pure h⟩
end
end L2
namespace Att
open PySem PySem.W PySem.Calls PyProof.Rows
theorem mZ {P:Params} {h:Heap}:∀ (ns:List Int) (vs:List Value),WellAll P h vs (ns.map WData.int)→IntsAre vs ns:=by
 intro ns
 induction ns with
 | nil=>
  intro vs w
  rw [List.map_nil] at w
  cases w
  exact .nil
 | cons n ns ih=>
  intro vs w
  rw [List.map_cons] at w
  cases w with
  | cons a b=>
   cases a
   exact .cons _ _ (ih _ b)
theorem uV {l:OpenLaw} {n:Nat} (hn:l.most=some n) {P:Params} {h:Heap} {args:List WData} {vals:List Value}
    (hpre:l.row.toRowW.claim.pre args=true) (hwl:WellAll P h vals args) :
    ∃ a vs ns,vals=[Value.ref a]∧args=[WData.list (ns.map WData.int)]∧h.get? a=some { cls:=.type "list",data:=.seq vs.toArray }∧IntsAre vs ns∧ns.length≤n:=by
  have hsh:WShape.hasAll [] args [.list .int]=true:=(pre_splitW hpre).1
  have hc:l.pre.holds [] { args:=args }=true:=(pre_splitW hpre).2
  obtain ⟨d,r,rfl,h1,h2⟩:=hasAllW_cons hsh
  obtain rfl:=hasAllW_nil h2
  obtain ⟨xs,rfl,h3⟩:=hasW_list h1
  obtain ⟨ns,rfl⟩:=items_int h3
  have hlen:ns.length≤n:=by
    unfold OpenLaw.pre at hc
    have h4:(WTm.not (.lt (.lit (.int (n:Int))) (.len (.arg 0)))).holds [] { args:=[.list (ns.map .int)] }=true:=by
      have h4:=(holds_andW hc).1
      rw [hn] at h4
      exact h4
    have h5:=condW_of h4 (w_not (w_lt w_lit (w_len_list (w_arg rfl))))
    rw [List.length_map] at h5
    refine Nat.le_of_not_lt fun q=>?_
    have q':(n:Int) < ((ns.length:Nat):Int):=by omega
    first
      | (rw [decide_eq_true q'] at h5;exact absurd h5 (by decide))
      | (simp at h5;omega)
  cases hwl with
  | cons w1 w2=>
    cases w2
    cases w1 with
    | list ho hall=>exact ⟨_,_,ns,rfl,rfl,ho,mZ ns _ hall,hlen⟩
theorem uz (l:OpenLaw) (args:List WData):l.row.toRowW.claim.post args (.bool true) args=true:=
 postW_of (r:=l.row.toRowW) (X:=(true == true))
  (show WShape.has [] (.bool true) .bool=true by first | rfl | decide | simp [WShape.has,WShape.arms,WShape.armsAll])
  (show (WTm.eq .res (.lit (.bool true))).value [] { args:=args,res:=some (.bool true),after:=args }=some (.bool (true == true)) from w_eq_bool (w_res rfl) w_lit) rfl
theorem rj {l:OpenLaw} {n:Nat} {q:Program} {loose:List Str} {XP:(Str→Option Value)→Heap→Prop} {YP:World→Heap→Prop} {d:DefRec}
  (hn:l.most=some n) (hdf:d.params.defaults=[])
  (call:∀ (w:World) (s₀ s₁:Shared) (mg mb:Str→Option Value) (fa:Addr) (o:Obj) (pm cd doc:Value) (a:Addr) (vs:List Value) (ns:List Int),
   Ground q loose [] XP w s₀ mg mb s₁.heap→YP w s₁.heap →
   s₁.heap.get? fa=some o→o.data=.func (docDef d.name d.params d.body d.scope pm cd doc)→s₁.heap.CodeRec cd d.name→mg d.name=some (.ref fa) →
   s₁.heap.get? a=some { cls:=.type "list",data:=.seq vs.toArray }→IntsAre vs ns→ns.length≤n→s₁.gens=#[] →
   codeAny (model l.prog w) callerA (.call (.ref fa) ⟨[.ref a],[]⟩) (fun r s'=>r=.ok (.ret (.bool true))∧OldK s₁.heap s'.heap∧s'.os=s₁.os∧AllBare s'.gens) s₁) :
  WalkO q loose XP YP l.row.toRowW d [] (fun f vs=>PySem.call f vs):=by
 intro w s₀ s₁ mg mb G Y fa o pm cd doc dV kV ho hd hcd hD hmg hg args vals as hpre hlay hrd hwl hlo
 obtain rfl:dV=.none:=Dflts.none hD hdf
 obtain rfl:kV=.none:=Dflts.noKw hD
 obtain ⟨a,vs,ns,rfl,rfl,hobj,hints,hlen⟩:=uV hn hpre hwl
 refine enter_call (codeAny_mono (call w s₀ s₁ mg mb fa o pm cd doc a vs ns G Y ho (fd_plain hd) hcd hmg hobj hints hlen hg) fun r s' hq=>?_)
 obtain ⟨rfl,h2,h3,h4⟩:=hq
 exact ⟨.inl ⟨.bool true,.bool true,[],rfl,fun _=>rfl,.bool true,uz l _,fun _=>⟨List.Pairwise.nil,fun _ hm=>(nomatch hm)⟩⟩,h2,h3,h4⟩
end Att
namespace L2
open PySem PySem.Spec PyProof.Rows
theorem ir:∀ {vs:List Value} {ns:List Int},IntsAre vs ns→Vals (ns.map V.int) vs
 | _,_,.nil=>.nil
 | _,_,.cons n t h=>.cons ⟨t,rfl⟩ (ir h)
def wm (H:Hp):Prop:=∀ b,H b=none∨∃ o xs,H b=some (.frz o (.lst xs))
theorem w_ {P:Program} {w:World} {K:PySem.W.Frag} {mg mb:Str→Option Value} {CX:CXT} {k:Nat} {fa a:Addr} {fd:FuncData} {x:Str} {sp:Sp} {s₁:Shared} {vs:List Value} {ns:List Int}
  (KX:K.In s₁.heap) (hns:s₁.heap.Ns mainGlobals mg) (hb:s₁.heap.Ns builtinsNs mb) (hbb:∀ x:Str,x≠"__name__"→mb x=bootBuiltins x) (hlim:s₁.heap.NoLimit) (hg:s₁.gens=#[])
  (ha:s₁.heap.get? a=some { cls:=.type "list",data:=.seq vs.toArray }) (hi:IntsAre vs ns) (hl:ns.length≤sizeLine) (hr:c_ k callerA)
  (F:∀ base:Heap,K.In base→base.Ns mainGlobals mg→fj P w K mg base CX k fa fd [x] sp) (hbind:∀ (s:Shared) (u:Value),BindsTo s fd ⟨[u],[]⟩ [(x,u)])
  (hsp:∀ H:Hp,wm H→SqL K H a (ns.map V.int)→sp [.ref a] H (fun v _=>v=.bl true) fun _ _ _=>False)
  (hCX:∀ H e s',CX [] H s₁ (fun _ _ _=>False) e s'→False) :
  codeAny (model P w) callerA (.call (.ref fa) ⟨[.ref a],[]⟩) (fun r s'=>r=.ok (.ret (.bool true))∧OldK s₁.heap s'.heap∧s'.os=s₁.os∧AllBare s'.gens) s₁:=by
 have rv:=ir hi
 have lenV:=hi.length
 have core:∀ H:Hp,wm H→SqL K H a (ns.map V.int)→HOk P w H s₁.heap→(∀ b,H b≠none→b=a)→(H a≠none→K.lookup a=none) →
   codeAny (model P w) callerA (.call (.ref fa) ⟨[.ref a],[]⟩) (fun r s'=>r=.ok (.ret (.bool true))∧OldK s₁.heap s'.heap∧s'.os=s₁.os∧AllBare s'.gens) s₁:=by
  intro H hO hS hok hA hK
  have base_of:∀ {b:Addr} {o:Obj},s₁.heap.get? b=some o→H b=none→(jw s₁.heap H).get? b=some o:=fun e n=>xQ e n
  have noA:∀ {b:Addr} {o:Obj} {es:Array DictEntry} {ep:Nat},s₁.heap.get? b=some o→o.data=.dict es ep→H b=none:=fun {b o es ep} e d=>by
   cases q:H b with
   | none=>rfl
   | some u=>
    have e':b=a:=hA b (by rw [q];simp)
    subst e'
    rw [ha] at e;cases e
    have d':Data.seq vs.toArray _=Data.dict es ep:=d
    cases d'
  have nsK:∀ {b:Addr} {m:Str→Option Value},s₁.heap.Ns b m→(jw s₁.heap H).Ns b m:=fun {b m} ⟨o,es,ep,e,d,r⟩=>⟨o,es,ep,base_of e (noA e d),d,r⟩
  have hKb:K.In (jw s₁.heap H):=fun b o e=>base_of (KX b o e) (by
   cases q:H b with
   | none=>rfl
   | some u=>
    have e':b=a:=hA b (by rw [q];simp)
    subst e'
    rw [hK (by rw [q];simp)] at e;cases e)
  have hM:Mod K mg (jw s₁.heap H):=⟨hKb,nsK hns,⟨mb,nsK hb,hbb⟩,let ⟨mc,h1,h2⟩:=hlim;⟨mc,nsK h1,h2⟩⟩
  have e0:sA P w K mg (jw s₁.heap H) callerA [] s₁ H:=⟨rfl,hM,fun b o e=>y_ e,Nat.le_of_eq (uK _ _),trivial,fun b hb=>absurd (show b∈([]:List Addr) from hb) (by simp),hok,.of_eq hg⟩
  refine codeAny_mono ((F _ hKb (nsK hns)).run callerA [] s₁ H ⟨[.ref a],[]⟩ [.ref a] [.ref a] _ _ hr e0 (hbind s₁ (.ref a)) (.cons rfl .nil) (hsp H hO hS)) fun r s' h=>?_
  cases r with
  | error e=>exact (hCX H e s' h).elim
  | ok fl=>
   cases fl with
   | next=>exact False.elim h
   | brk=>exact False.elim h
   | cont=>exact False.elim h
   | ret u=>
    obtain ⟨v,H',os,bare,un,hok',r',q⟩:=h
    have q':v=.bl true:=q
    subst q'
    obtain rfl:u=Value.bool true:=r'
    refine ⟨rfl,OldK.of_keep fun b o e=>?_,os,bare⟩
    cases q:H b with
    | none=>exact un.keep b o e q (by intro z;exact absurd (show b∈([]:List Addr) from z) (by simp)) (by simp)
    | some u=>
     rcases hO b with z | ⟨ob,xs,z⟩
     ·rw [q] at z;cases z
     ·have z2:=un.frzs b ob _ z
      obtain ⟨e1,_⟩:=hok b _ z
      obtain ⟨e2,_⟩:=hok' b _ z2
      rw [e] at e1;cases e1
      exact e2
 cases hk:K.lookup a with
 | some o=>
  have e:=KX a o hk
  rw [ha] at e
  cases e
  refine core (fun _=>none) (fun _=>.inl rfl) (.inr ⟨_,vs.toArray,_,hk,rfl,rfl,rfl,by rw [List.size_toArray,lenV];exact hl,by simpa using rv⟩) (fun b u z=>by have z':(none:Option HO)=some u:=z;cases z') (fun b z=>absurd rfl z) fun z=>absurd rfl z
 | none=>
  refine core (fun b=>if b=a then some (.frz { cls:=.type "list",data:=.seq vs.toArray } (.lst (ns.map V.int))) else none) (fun b=>?_) (.inl (.inr ⟨{ cls:=.type "list",data:=.seq vs.toArray },if_pos rfl⟩)) (fun b u z=>?_) (fun b z=>?_) fun _=>hk
  ·by_cases hb:b=a
   ·exact .inr ⟨_,_,if_pos hb⟩
   ·exact .inl (if_neg hb)
  ·by_cases hb:b=a
   ·have z':=(if_pos hb).symm.trans z
    cases z'
    subst hb
    exact ⟨ha,by rw [List.length_map];exact hl,vs,_,rv,ha⟩
   ·have z':=(if_neg hb).symm.trans z
    cases z'
  ·by_cases hb:b=a
   ·exact hb
   ·exact absurd (if_neg hb) z
theorem yR {l:PySem.W.OpenLaw} {n k:Nat} {q:Program} {loose:List Str} {XP:(Str→Option Value)→Heap→Prop} {YP:World→Heap→Prop} {d:DefRec} {K:Params→PySem.W.Frag} {CX:World→CXT} {sp:World→Sp} {x:Str}
  (hn:l.most=some n) (hn2:n≤sizeLine) (hdf:d.params.defaults=[]) (hr:c_ k callerA)
  (hY:∀ (w:World) (h:Heap),YP w h→(K w.params).In h)
  (F:∀ (w:World) (mg:Str→Option Value) (fa:Addr) (h:Heap),(K w.params).In h→h.Ns mainGlobals mg→mg d.name=some (.ref fa) →
   ∃ fd:FuncData,(∀ (s:Shared) (u:Value),BindsTo s fd ⟨[u],[]⟩ [(x,u)]) ∧
    ∀ base:Heap,(K w.params).In base→base.Ns mainGlobals mg→fj l.prog w (K w.params) mg base (CX w) k fa fd [x] (sp w))
  (hsp:∀ (w:World) (H:Hp) (a:Addr) (ns:List Int),ns.length≤n→wm H→SqL (K w.params) H a (ns.map V.int)→sp w [.ref a] H (fun v _=>v=.bl true) fun _ _ _=>False)
  (hCX:∀ (w:World) (H:Hp) (s:Shared) (e:Value) (s':Shared),CX w [] H s (fun _ _ _=>False) e s'→False) :
  PySem.W.WalkO q loose XP YP l.row.toRowW d [] (fun f vs=>PySem.call f vs):=by
 refine Att.rj hn hdf fun w s₀ s₁ mg mb fa o pm cd doc a vs ns G Y ho hd hcd hmg hobj hints hlen hg=>?_
 have KX:=hY w _ Y
 obtain ⟨fd,hb,hF⟩:=F w mg fa _ KX G.T.g hmg
 exact w_ KX G.T.g G.T.b G.T.builtins G.T.nolimit hg hobj hints (Nat.le_trans hlen hn2) hr hF hb (fun H hO hS=>hsp w H a ns hlen hO hS) fun H e s'=>hCX w H s₁ e s'
def iU (s:Stmt):Arguments:=match s with
 | .FunctionDef _ a _ _ _ _ _ _ _ _=>a
 | _=>{ posonlyargs:=[],args:=[],vararg:=none,kwonlyargs:=[],kw_defaults:=[],kwarg:=none,defaults:=[] }
def eH (s:Stmt):List Stmt:=match s with
 | .FunctionDef _ _ b _ _ _ _ _ _ _=>b
 | _=>[]
def bN (s:Stmt):Scope:=match s with
 | .FunctionDef _ _ _ _ _ _ sc _ _ _=>sc
 | _=>{ kind:=.function,names:=[],isGenerator:=false,isCoroutine:=false }
abbrev CX0:CXT:=fun _ _ _ _ _ _=>False
abbrev E0:XK:=fun _ _ _=>False
theorem EM {X:Cx}:Passes CX0 X E0:=fun _ _ _ _ _ _ _ h=>h.elim
structure Fun (K:PySem.W.Frag) (x qual:Str) (st:Stmt) (f:Addr) (fd:FuncData):Prop where
 ex:∃ (oc:Value) (od:Option Addr) (kV doc pm:Value) (an:Option Addr) (cdv ct:Value) (osl:Array (Option Value)),
  fd=PySem.W.fnOf x qual (iU st) (eH st) (bN st) .none kV doc pm an cdv ct∧K.lookup f=some ⟨oc,od,.func fd,osl⟩∧PySem.W.codeIn K cdv qual=true
 kp:PySem.W.keepIn K (.ref f)=true
section
variable {P:Program} {w:World} {K:PySem.W.Frag} {mg:Str→Option Value} {base:Heap}
theorem Fun.ok {x qual:Str} {st:Stmt} {f:Addr} {fd:FuncData} {N ps:List Str} {k:Nat} {sp:Sp} (F:Fun K x qual st f fd) (S:iT N ps (bN st)) (len:∀ vs H Q E,sp vs H Q E→vs.length=ps.length)
  (hbody:∀ (cdv:Value) (A:Around) (outer:List Env) (s:Shared) (H:Hp) (vs:List V) (Q:VK) (E:XK),c_ k (A.deeper (envOfC qual (bN st) s.heap.objs.size f cdv))→sp vs H Q E →
   ∃ t,PSs (kP CX0 P w K mg base N qual (bN st) f cdv A outer s H E).nox (eH st) t∧t { nx:=fun _ H'=>Q .non H',rt:=Q } (start N vs) H):fj P w K mg base CX0 (k+1) f fd ps sp:=by
 obtain ⟨oc,od,kV,doc,pm,an,cdv,ct,osl,rfl,lk,hcd⟩:=F.ex
 refine Ds lk hcd S len fun A outer s H vs Q E hr hsp=>?_
 obtain ⟨t,h,q⟩:=hbody cdv A outer s H vs Q E hr hsp
 exact ⟨t,h.nox,q⟩
theorem BX {x qual:Str} {st:Stmt} {f:Addr} {oc:Value} {od an:Option Addr} {osl:Array (Option Value)} {kV doc pm cdv ct:Value} (l:K.lookup f=some ⟨oc,od,.func (PySem.W.fnOf x qual (iU st) (eH st) (bN st) .none kV doc pm an cdv ct),osl⟩)
  (c:PySem.W.codeIn K cdv qual=true) (k:PySem.W.keepIn K (.ref f)=true):Fun K x qual st f (PySem.W.fnOf x qual (iU st) (eH st) (bN st) .none kV doc pm an cdv ct):=⟨⟨oc,od,kV,doc,pm,an,cdv,ct,osl,rfl,l,c⟩,k⟩
end
theorem ib {n:Nat} (h:n≤1000):n < sizeLine:=Nat.lt_of_le_of_lt h (by decide)
def c6 (H H':Hp):Prop:=∀ b o,H b=some o→H' b=some o
def gL (env:Env):List (Str×NameKind)→List (Str×Addr)→List (Str×Addr)
 | [],acc=>acc
 | (n,k) :: r,acc=>gL env r (if k == .free then (n,(env.cells.lookup n).getD 0) :: acc else acc)
theorem ip (h:∀ y∈scope.names,y.2=.free→∃ c,env.cells.lookup y.1=some c):closureFor scope env=pure (gL env scope.names []):=by
 have all:∀ (l:List (Str×NameKind)) (acc:List (Str×Addr)),(∀ y∈l,y.2=.free→∃ c,env.cells.lookup y.1=some c) →
   (forIn l acc fun (x:Str×NameKind) (r:List (Str×Addr))=>match x with
    | (name,kind)=>if (kind == NameKind.free)=true then (do let a ← cellOf env name;pure (ForInStep.yield ((name,a) :: r))) else pure (ForInStep.yield r):Sem (List (Str×Addr)))=pure (gL env l acc):=by
  intro l
  induction l with
  | nil=>intro acc _;rfl
  | cons y r ih=>
   intro acc hl
   obtain ⟨n,k⟩:=y
   have hr:∀ y∈r,y.2=.free→∃ c,env.cells.lookup y.1=some c:=fun y hy=>hl y (List.mem_cons_of_mem _ hy)
   rw [List.forIn_cons]
   by_cases hk:k=.free
   ·subst hk
    obtain ⟨c,hc⟩:=hl _ List.mem_cons_self rfl
    have e:cellOf env n=pure c:=by unfold cellOf;rw [show env.cells.lookup n=some c from hc]
    simp only [beq_self_eq_true,if_true,e,pure_bind]
    rw [ih _ hr]
    simp only [gL,beq_self_eq_true,if_true,show env.cells.lookup n=some c from hc,Option.getD_some]
   ·have hb:(k == NameKind.free)=false:=by simpa using hk
    simp only [hb,Bool.false_eq_true,if_false,pure_bind]
    rw [ih _ hr]
    simp only [gL,hb,Bool.false_eq_true,if_false]
 have q:=all scope.names [] h
 unfold closureFor
 simp only [bind_pure] at q ⊢
 exact q
theorem pR:∀ {l:List (Str×NameKind)} {acc:List (Str×Addr)} {x:Str} {c:Addr},(∀ y∈l,y.2=.free→∃ c,env.cells.lookup y.1=some c) →
  (∀ x c,(x,c)∈acc→env.cells.lookup x=some c)→(x,c)∈gL env l acc→env.cells.lookup x=some c
 | [],_,_,_,_,ha,h=>ha _ _ h
 | (n,k) :: r,acc,x,c,hl,ha,h=>by
  refine pR (l:=r) (fun y hy=>hl y (List.mem_cons_of_mem _ hy)) (fun x c hm=>?_) h
  by_cases hk:(k == NameKind.free)=true
  ·rw [if_pos hk] at hm
   rcases List.mem_cons.mp hm with e | e
   ·cases e
    obtain ⟨c',hc⟩:=hl _ List.mem_cons_self (by simpa using hk)
    have hc':env.cells.lookup n=some c':=hc
    rw [hc'];rfl
   ·exact ha _ _ e
  ·rw [if_neg hk] at hm;exact ha _ _ hm
theorem dG (hl:∀ y∈l,y.2=.free→∃ c,env.cells.lookup y.1=some c) (h:(gL env l []).lookup x=some c):env.cells.lookup x=some c:=
 pR hl (fun _ _ z=>absurd z (by simp)) (PySem.mem_of_lookup h)
theorem lZ:∀ {l:List (Str×NameKind)} {acc:List (Str×Addr)} {x:Str},((x,NameKind.free)∈l∨∃ c,(x,c)∈acc)→∃ c,(x,c)∈gL env l acc
 | [],_,_,h=>h.elim (fun z=>absurd z (by simp)) fun z=>z
 | (n,k) :: r,acc,x,h=>by
  refine lZ (l:=r) ?_
  rcases h with h | ⟨c,h⟩
  ·rcases List.mem_cons.mp h with e | e
   ·cases e
    exact .inr ⟨_,by rw [if_pos (by simp)];exact List.mem_cons_self⟩
   ·exact .inl e
  ·by_cases hk:(k == NameKind.free)=true
   ·exact .inr ⟨c,by rw [if_pos hk];exact List.mem_cons_of_mem _ h⟩
   ·exact .inr ⟨c,by rw [if_neg hk];exact h⟩
theorem d3:∀ {l:List (Str×β)} {x:Str} {c:β},(x,c)∈l→∃ c',l.lookup x=some c'
 | [],_,_,h=>nomatch h
 | (n,d) :: r,x,c,h=>by
  rw [List.lookup_cons]
  cases e:x == n with
  | true=>exact ⟨d,rfl⟩
  | false=>
   rcases List.mem_cons.mp h with q | q
   ·cases q;simp at e
   ·exact d3 q
def bH (X:Cx) (scope:Scope) (N:List Str) (C:Addr) (s:Shared) (H:Hp) (fp:List Addr):Cx:=
 { X with N:=N,s₀:=s,H₀:=H,env:=compEnvC scope (gL X.env scope.names []) C X.env,outer:=X.stack,ex:=fp,fn:=fun _=>false,pn:=[],xe:=fun _ _=>False }
structure dU (esc scope:Scope) (EN N:List Str) (k:Nat):Prop where
 kind:scope.kind=.function
 nocell:∀ y∈scope.names,y.2≠.cell
 names:∀ y∈scope.names,y.2=.local→scope.names.lookup y.1=some .local
 frees:∀ y∈scope.names,y.2=.free→esc.names.lookup y.1=some .cell∨esc.names.lookup y.1=some .free
 len:N.length=k+EN.length
 nm:(((N.drop k).zip EN).all fun p=>(decide (p.1=p.2) && decide (scope.names.lookup p.1=some .free)) || decide (scope.names.lookup p.1=none))=true
theorem cC {scope:Scope} {env:Env} {x:Str} {k:NameKind}:∀ {l:List (Str×NameKind)},
  (l.map fun (n,k)=>if (k == NameKind.free && env.scope.kind == .function && env.kindOf n == some .cell) then (n,NameKind.cell) else (n,k)).lookup x=some k →
  l.lookup x=some k∨(l.lookup x=some .free∧k=.cell∧env.kindOf x=some .cell)
 | [],h=>by simp at h
 | (n,k') :: r,h=>by
  have ih:=@cC scope env x k r
  cases hx:x == n with
  | true=>
   have e:x=n:=by simpa using hx
   subst e
   by_cases hc:(k' == NameKind.free && env.scope.kind == .function && env.kindOf x == some .cell)=true
   ·simp only [List.map_cons,if_pos hc,List.lookup_cons,hx] at h
    cases h
    have hc2:(k'=.free∧env.scope.kind=.function)∧env.kindOf x=some .cell:=by simpa using hc
    exact .inr ⟨by simp [List.lookup_cons,hc2.1.1],rfl,hc2.2⟩
   ·simp only [List.map_cons,if_neg hc,List.lookup_cons,hx] at h
    exact .inl (by simpa [List.lookup_cons] using h)
  | false=>
   have h':(r.map fun (n,k)=>if (k == NameKind.free && env.scope.kind == .function && env.kindOf n == some .cell) then (n,NameKind.cell) else (n,k)).lookup x=some k:=by
    by_cases hc:(k' == NameKind.free && env.scope.kind == .function && env.kindOf n == some .cell)=true
    ·simpa only [List.map_cons,if_pos hc,List.lookup_cons,hx] using h
    ·simpa only [List.map_cons,if_neg hc,List.lookup_cons,hx] using h
   rw [List.lookup_cons,hx]
   exact ih h'
theorem kB {scope:Scope} {env:Env} {x:Str}:∀ {l:List (Str×NameKind)},l.lookup x=some .free →
  (l.map fun (n,k)=>if (k == NameKind.free && env.scope.kind == .function && env.kindOf n == some .cell) then (n,NameKind.cell) else (n,k)).lookup x=some .cell ∨
  (l.map fun (n,k)=>if (k == NameKind.free && env.scope.kind == .function && env.kindOf n == some .cell) then (n,NameKind.cell) else (n,k)).lookup x=some .free
 | [],h=>by simp at h
 | (n,k') :: r,h=>by
  have ih:=@kB scope env x r
  cases hx:x == n with
  | true=>
   by_cases hc:(k' == NameKind.free && env.scope.kind == .function && env.kindOf n == some .cell)=true
   ·exact .inl (by simp only [List.map_cons,if_pos hc,List.lookup_cons,hx])
   ·refine .inr ?_
    simp only [List.map_cons,if_neg hc,List.lookup_cons,hx]
    simpa only [List.lookup_cons,hx] using h
  | false=>
   have h':r.lookup x=some .free:=by simpa only [List.lookup_cons,hx] using h
   by_cases hc:(k' == NameKind.free && env.scope.kind == .function && env.kindOf n == some .cell)=true
   ·simpa only [List.map_cons,if_pos hc,List.lookup_cons,hx] using ih h'
   ·simpa only [List.map_cons,if_neg hc,List.lookup_cons,hx] using ih h'
section
variable {X:Cx} {pins:List (Addr×Obj)} {σ:St} {H:Hp} {s:Shared} {scope:Scope} {N:List Str} {k:Nat} {fp:List Addr}
theorem dU.cells (S:dU X.env.scope scope X.N N k) (ok:X.Ok):∀ y∈scope.names,y.2=.free→∃ c,X.env.cells.lookup y.1=some c:=fun y hy hf=>ok.has y.1 (S.frees y hy hf)
theorem Inv.zq {h4:Heap} (I:Inv X pins σ H s) (S:dU X.env.scope scope X.N N k) (hf:∀ b∈fp,eF X pins H b) (hlt:∀ b∈fp,b < s.heap.objs.size) (hn:h4.Ns s.heap.objs.size fun _=>none) (hk:∀ b o,s.heap.get? b=some o→h4.get? b=some o) :
  Inv (bH X scope N s.heap.objs.size s H fp) [] (List.replicate k none++σ) H { s with heap:=h4,toks:=tk }:=by
 have hcells:=S.cells I.ok
 have noA:∀ p:Addr×Obj,p∈(bH X scope N s.heap.objs.size s H fp).pn++[]→False:=fun p hp=>absurd (show p∈([]:List (Addr×Obj)) from hp) (by simp)
 refine ⟨⟨I.ok.mod,S.kind,I.ok.glob,I.ok.blt,Nat.le_refl _,fun y z c h1 h2=>?_,fun y hy=>?_,fun y c h=>?_,I.ok.hd,I.ok.frames,.inl rfl,fun b hb=>?_,I.bs,Nat.le_trans I.ok.bsz I.sz,fun b o e hb=>?_,fun b hb hz=>?_,I.stack,I.r_⟩,
  rfl,I.bare,Un.kept hk,⟨_,hn,fun i y v h1 h2 h3=>?_⟩,fun y c h=>?_,I.hok.fresh (Nat.le_refl _),fun y c h=>?_,fun p hp=>(noA p hp).elim,I.hok.kept hk,?_⟩
 ·exact I.ok.inj y z c (dG hcells h1) (dG hcells h2)
 ·have hy:(relabel scope X.env).names.lookup y=some .cell∨(relabel scope X.env).names.lookup y=some .free:=hy
  have hfree:scope.names.lookup y=some .free:=by
   rcases hy with q | q
   ·rcases cC (scope:=scope) q with q | ⟨q,_⟩
    ·exact absurd rfl (S.nocell _ (PySem.mem_of_lookup q))
    ·exact q
   ·rcases cC (scope:=scope) q with q | ⟨q,z,_⟩
    ·exact q
    ·cases z
  obtain ⟨c,hc⟩:=lZ (env:=X.env) (l:=scope.names) (acc:=[]) (.inl (PySem.mem_of_lookup hfree))
  exact d3 hc
 ·exact absurd h (by show ¬(false=true);decide)
 ·obtain ⟨f0,f1,f2,f3,f4,f5⟩:=hf b hb
  exact ⟨Nat.ne_of_lt (hlt b hb),fun x c h=>f4 x c (dG hcells h)⟩
 ·obtain ⟨f0,f1,f2,f3,f4,f5⟩:=hf b hb
  rcases f3 with q | q
  ·exact I.ok.noex b o e q
  ·exact absurd (Nat.lt_of_lt_of_le (Heap.lt_size (I.ok.bs b o e).1) q) (Nat.lt_irrefl _)
 ·obtain ⟨f0,f1,f2,f3,f4,f5⟩:=hf b hb
  rcases List.mem_cons.mp (I.mG b hz) with z | z
  ·exact f1 z
  ·exact f2 z
 ·
  have hi:k≤i:=by
   refine Nat.le_of_not_lt fun q=>?_
   rw [List.getElem?_append_left (by simpa using q),List.getElem?_replicate] at h2
   split at h2<;>cases h2
  obtain ⟨j,rfl⟩:=Nat.exists_eq_add_of_le hi
  have h2':σ[j]?=some (some v):=by
   rw [List.getElem?_append_right (by simp)] at h2
   simpa using h2
  have hy:(relabel scope X.env).names.lookup y=some .local∨(relabel scope X.env).names.lookup y=some .cell∨(relabel scope X.env).names.lookup y=some .free:=h3
  have hjn:j < X.N.length:=by
   have:=(List.getElem?_eq_some_iff.mp h2').1
   rw [I.len] at this
   exact this
  have hyn:N[k+j]?=some y:=h1
  have hnm:=List.all_eq_true.mp S.nm (y,X.N[j]) (by
   refine List.mem_iff_getElem?.mpr ⟨j,?_⟩
   rw [List.getElem?_zip_eq_some]
   exact ⟨by rw [List.getElem?_drop];exact hyn,by simp [hjn]⟩)
  have hvis:scope.names.lookup y≠none:=by
   rcases hy with q | q | q
   ·rcases cC (scope:=scope) q with q | ⟨q,_⟩<;>rw [q]<;>simp
   ·rcases cC (scope:=scope) q with q | ⟨q,_⟩<;>rw [q]<;>simp
   ·rcases cC (scope:=scope) q with q | ⟨q,_⟩<;>rw [q]<;>simp
  have hnm2:y=X.N[j]∧scope.names.lookup y=some .free:=by
   rcases (Bool.or_eq_true _ _).mp hnm with q | q
   ·exact ⟨of_decide_eq_true ((Bool.and_eq_true _ _).mp q).1,of_decide_eq_true ((Bool.and_eq_true _ _).mp q).2⟩
   ·exact absurd (of_decide_eq_true q) hvis
  obtain ⟨hyj,hfree⟩:=hnm2
  have hk2:=S.frees _ (PySem.mem_of_lookup hfree) rfl
  have hvis2:Vis X.env.scope y:=.inr hk2
  obtain ⟨m,hm,hl⟩:=I.loc
  obtain ⟨u,ru,lk⟩:=hl j y v (by rw [hyj];simp [hjn]) h2' hvis2
  refine ⟨u,ru,?_⟩
  rcases lk with ⟨q,_⟩ | ⟨_,c,hc,hcell⟩
  ·rcases hk2 with z | z
   ·exact absurd (q.symm.trans (show X.env.kindOf y=some .cell from z)) (by simp)
   ·exact absurd (q.symm.trans (show X.env.kindOf y=some .free from z)) (by simp)
  ·refine .inr ⟨kB (scope:=scope) hfree,c,?_,hcell.keeps hk⟩
   obtain ⟨c',hc'⟩:=lZ (env:=X.env) (l:=scope.names) (acc:=[]) (.inl (PySem.mem_of_lookup hfree))
   obtain ⟨c2,hc2⟩:=d3 hc'
   have q:=dG hcells hc2
   rw [hc] at q;cases q
   exact hc2
 ·obtain ⟨v,q⟩:=I.cell y c (dG hcells h)
  exact ⟨v,q.keeps hk⟩
 ·exact I.freeC y c (dG hcells h)
 ·show (List.replicate k none++σ).length=N.length
  rw [List.length_append,List.length_replicate,S.len,I.len]
end
section
variable {prog:Program} {w:World} {A:Around} {R:Result→Shared→Prop} {s:Shared}
theorem gD {R:Value→Shared→Prop}:∀ (x:Value) (s':Shared),False→notedBy (model prog w) A env R x s':=fun _ _ h=>h.elim
theorem pZ (I:Nat→Shared→Prop)
  (turn:∀ n s,I n s→wpAny (model prog w) A (pyNext it) (fun r s₁=>match r with
   | none=>R (.ok .next) s₁
   | some v=>wpAny (model prog w) A (letOwnedTupleGo target it v) (fun _ s₁'=>wpAny (model prog w) A (assign target env v) (fun _ s₂=>
     wpAny (model prog w) A (forIn ifs true fun c r=>if r=true then do let ok ← isTrue c env (eval c env);pure (ForInStep.yield ok) else pure (ForInStep.yield r)) (fun ok s₃=>
      if ok=true then wpAny (model prog w) A (eval elt env) (fun x s₄=>
       wpAny (model prog w) A (call (.builtin "list.append") [acc,x]) (fun _ s₅=>∃ m,m < n∧I m s₅) (fun _ _=>False) s₄) (fun _ _=>False) s₃
      else ∃ m,m < n∧I m s₃) (fun _ _=>False) s₂) (fun _ _=>False) s₁') (fun _ _=>False) s₁) (fun _ _=>False) s)
  (n:Nat) (h:I n s) :
  codeAny (model prog w) A (.compLoop (.ListComp elt [⟨target,iter,ifs,0⟩] scope pos) 0 it acc env) R s:=by
 refine codeAny_loop rfl I (fun n s hI=>?_) n h
 show wpAny _ A ((compTurn (.ListComp elt [⟨target,iter,ifs,0⟩] scope pos) 0 it acc env).onRaise (fun x=>do noteFrame x env;theTreesLotGoes x)) _ _ s
 refine wpAny_noted ?_
 rw [compTurn_list]
 refine wpAny_bind (wpAny_standAt (wpAny_bind (wpAny_mono (turn n s hI) (fun r s₁ h₁=>?_) gD)))
 cases r with
 | none=>exact wpAny_pure h₁
 | some v=>
  refine wpAny_bind (wpAny_mono h₁ (fun _ s₁' h₁'=>?_) gD)
  refine wpAny_bind (wpAny_mono h₁' (fun _ s₂ h₂=>wpAny_bind (wpAny_mono h₂ (fun ok s₃ h₃=>?_) gD)) gD)
  cases ok with
  | false=>exact wpAny_pure ⟨rfl,h₃⟩
  | true=>
   exact wpAny_bind (wpAny_bind (wpAny_mono h₃ (fun x s₄ h₄=>wpAny_bind (wpAny_mono h₄ (fun _ s₅ h₅=>wpAny_pure (wpAny_pure ⟨rfl,h₅⟩)) gD)) gD))
end
def PTs (X:Cx) (ifs:List Expr) (t:TT):Prop:=
 ∀ (pins:List (Addr×Obj)) (s:Shared) (σ:St) (H:Hp) (Q:Bool→Hp→Prop),Inv X pins σ H s→t σ H Q →
  wpAny (model X.prog X.w) X.A (forIn ifs true fun c r=>if r=true then do let ok ← isTrue c X.env (eval c X.env);pure (ForInStep.yield ok) else pure (ForInStep.yield r)) (TP X pins σ Q) X.xe s
def Fs:TT:=fun _ H Q=>Q true H
theorem ze:PTs X [] Fs:=fun _ _ _ H _ I h=>wpAny_tests_nil ⟨H,I,h⟩
theorem yO (h:PT X c t):PTs X [c] t:=fun pins s σ H Q I q=>wpAny_tests_one (h pins s σ H Q I q)
def LCW (J:It) (g:TG) (tt:TT) (te:TE) (k:Nat) (D:Addr) (σ:St) (H1:Hp) (Q:Hp→Prop):Prop:=
 ∃ W:Nat→Nat→St→Hp→Prop,(∃ m,W 0 m (List.replicate k none++σ) (upd H1 D (.lst [])))∧∀ i m σ' H',W i m σ' H' →
  (J.stop i H'∧Q H')∨(J.go i H'∧∃ N:St→Hp→Prop,(∀ σ2 H2,N σ2 H2→∃ m',m' < m∧W (i+1) m' σ2 H2) ∧
   ∀ x H2,J.yld i H' x H2→g x σ' H2 fun σ3 H3=>tt σ3 H3 fun b H4=>if b=true then te σ3 H4 fun v H5=>∃ xs,H5 D=some (.lst xs)∧xs.length < sizeLine∧N σ3 (upd H5 D (.lst (xs++[v]))) else N σ3 H4)
def tLC (wi:TI) (g:TG) (tt:TT) (te:TE) (k:Nat):TE:=fun σ H Q=>wi σ H fun J H1=>∀ D,H1 D=none→LCW J g tt te k D σ H1 fun H2=>Q (.ref D) H2
section
variable {X:Cx} {tg elt iter:Expr} {ifs:List Expr} {scope:Scope} {pos:Pos} {wi:TI} {g:TG} {tt:TT} {te:TE} {N:List Str} {k:Nat}
theorem pF {pins:List (Addr×Obj)} {σ:St} {H2:Hp} {s2:Shared} {it:Addr} {fp:List Addr} {tn:Nat→Heap→Prop} {J:It} {E:Value→Shared→Prop} {QD:Addr→Hp→Prop} {RR:Value→Addr→Result→Shared→Prop}
  (hc:X.calm=true) (S:dU X.env.scope scope X.N N k) (hg:∀ C s H fp,PG (bH X scope N C s H fp) tg g) (ht:∀ C s H fp,PTs (bH X scope N C s H fp) ifs tt) (he:∀ C s H fp,PE (bH X scope N C s H fp) elt te)
  (I2:Inv X pins σ H2 s2) (T:Turn X.prog X.w X.K tg J fp it tn) (st2:tn 0 s2.heap) (f2:∀ b∈fp,eF X pins H2 b) (q:∀ D,H2 D=none→LCW J g tt te k D σ H2 (QD D))
  (hRR:∀ (D C:Addr) (s':Shared) (H':Hp) (m:Str→Option Value),s2.heap.objs.size < C→Inv X pins σ H' s'→s'.heap.Ns C m→H' C=none→C≠X.env.locals→C∉X.fs→X.s₀.heap.objs.size≤C→(∀ x c,X.env.cells.lookup x=some c→c≠C)→(∀ p∈X.pn++pins,p.1≠C)→QD D H'→RR (.ref D) C (.ok .next) s') :
  wpAny (model X.prog X.w) X.A (newList []) (fun acc s₃=>wpAny (model X.prog X.w) X.A (newFunctionEnv scope X.env.globals (gL X.env scope.names []) [] X.env.qual none .none (some X.env)) (fun cenv s₄=>
   codeAny (model X.prog X.w) X.A (.compStart (.ListComp elt [⟨tg,iter,ifs,0⟩] scope pos) 0 (.ref it) acc { cenv with scope:=relabel scope X.env }) (RR acc cenv.locals) s₄) E s₃) E s2:=by
 have hD:H2 s2.heap.objs.size=none:=I2.hok.fresh (Nat.le_refl _)
 obtain ⟨W,⟨m0,w0⟩,turn⟩:=q _ hD
 refine wpAny_newObj_type ?_
 have I3:Inv X pins σ (upd H2 s2.heap.objs.size (.lst [])) { s2 with heap:=s2.heap.push { cls:=.type "list",dict:=none,data:=.seq ([]:List Value).toArray } }:=by
  refine I2.laid (t':=s2.toks) (fun b u e=>Heap.get?_push_of_some _ e) (Nat.le_refl _) ?_
  exact ⟨Nat.zero_le _,[],0,.nil,Heap.get?_push_size _ rfl⟩
 have k3:∀ b o,s2.heap.get? b=some o→(s2.heap.push { cls:=.type "list",dict:=none,data:=.seq ([]:List Value).toArray }).get? b=some o:=fun b o e=>Heap.get?_push_of_some _ e
 generalize hs3:({ s2 with heap:=s2.heap.push { cls:=.type "list",dict:=none,data:=.seq ([]:List Value).toArray } }:Shared)=s3 at I3 ⊢
 have hsz:s3.heap.objs.size=s2.heap.objs.size+1:=by rw [← hs3];exact Heap.size_push ..
 have k3':∀ b o,s2.heap.get? b=some o→s3.heap.get? b=some o:=by rw [← hs3];exact k3
 generalize hDe:s2.heap.objs.size=D at *
 have fpD:∀ b∈fp,b < D:=fun b hb=>by
  obtain ⟨o,e,_⟩:=T.obj _ _ st2 b hb
  rw [← hDe];exact Heap.lt_size e
 have f3:∀ b∈fp,eF X pins (upd H2 D (.lst [])) b:=fun b hb=>by
  refine ⟨?_,(f2 b hb).2⟩
  rw [aT (Nat.ne_of_lt (fpD b hb))]
  exact (f2 b hb).1
 refine wpAny_newFunctionEnv S.nocell (by intro y hy;simp at hy) (fun h4 hn4 hs4=>?_) S.kind
 try dsimp only at hn4 hs4 ⊢
 have k4:∀ b o,s3.heap.get? b=some o→h4.get? b=some o:=fun b o e=>hs4.extBut b o (Nat.ne_of_lt (Heap.lt_size e)) (Heap.get?_push_of_some _ e)
 have I4:=I3.zq (h4:=h4) (tk:=s3.toks+0) S f3 (fun b hb=>by rw [hsz];exact Nat.lt_succ_of_lt (fpD b hb)) hn4 k4
 have st4:tn 0 h4:=T.keep _ _ _ st2 fun b hb o e=>k4 b o (k3' b o e)
 have fr4:∀ b∈fp,(upd H2 D (.lst [])) b=none:=fun b hb=>(f3 b hb).1
 generalize hC:s3.heap.objs.size=C at *
 have hX:∀ (H':Hp),(∀ b∈fp,H' b=none)→∀ b∈fp,eF (bH X scope N C s3 (upd H2 D (.lst [])) fp) [] H' b:=fun H' hn b hb=>by
  obtain ⟨g0,g1,g2,g3,g4,g5⟩:=f3 b hb
  refine ⟨hn b hb,?_,?_,.inl hb,?_,fun p hp=>absurd (show p∈([]:List (Addr×Obj)) from hp) (by simp)⟩
  ·exact Nat.ne_of_lt (Nat.lt_of_lt_of_eq (Nat.lt_succ_of_lt (fpD b hb)) hsz.symm)
  ·intro z
   rcases List.mem_cons.mp (I3.mG b z) with z | z
   ·exact g1 z
   ·exact g2 z
  ·intro x c h
   exact g4 x c (dG (S.cells I3.ok) h)
 have fin:∀ (s':Shared) (σ':St) (H':Hp),Inv (bH X scope N C s3 (upd H2 D (.lst [])) fp) [] σ' H' s'→QD D H'→RR (.ref D) C (.ok .next) s':=by
  intro s' σ' H' I' qd
  obtain ⟨m,hm,_⟩:=id I'.loc
  have IX:Inv X pins σ H' s':=by
   refine I3.EO (s':=s') (ch:=fp) I'.os I'.base I'.hok I'.bare fun b hb=>?_
   obtain ⟨g0,g1,g2,g3,g4,g5⟩:=f3 b hb
   exact ⟨g3,g1,g4,g5⟩
  have hlt:=I3.lt
  rw [hC] at hlt
  refine hRR D C s' H' m (Nat.lt_of_lt_of_eq (Nat.lt_succ_self D) hsz.symm) IX hm I'.free (Nat.ne_of_gt hlt) (I3.Az (Nat.le_of_eq hC)) (Nat.le_trans I3.sz (Nat.le_of_eq hC)) (fun x c e z=>?_) (fun p hp z=>?_) qd
  ·obtain ⟨v,hv⟩:=I3.cell x c e
   have q:=hv.lt
   rw [hC,z] at q
   exact Nat.lt_irrefl _ q
  ·have q:=Heap.lt_size (I3.pin p hp).1
   rw [hC,z] at q
   exact Nat.lt_irrefl _ q
 have loop:∀ s₀:Shared,s₀={ s3 with heap:=h4,toks:=s3.toks+([]:List (Str×Value)).length } →
   codeAny (model X.prog X.w) X.A (.compLoop (.ListComp elt [⟨tg,iter,ifs,0⟩] scope pos) 0 (.ref it) (.ref D) (compEnvC scope (gL X.env scope.names []) C X.env)) (RR (.ref D) C) s₀:=by
  rintro s₀ rfl
  refine pZ (fun n s'=>∃ i σ' H',Inv (bH X scope N C s3 (upd H2 D (.lst [])) fp) [] σ' H' s'∧tn i s'.heap∧(∀ b∈fp,H' b=none)∧W i n σ' H') ?_ m0 ⟨0,_,_,I4,st4,fr4,w0⟩
  rintro n s5 ⟨i,σ5,H5,I5,st5,fr5,w5⟩
  rcases turn i n σ5 H5 w5 with ⟨stop,qn⟩ | ⟨go,NN,hN,step⟩
  ·refine thn (T.done (bH X scope N C s3 (upd H2 D (.lst [])) fp) rfl rfl rfl hc i [] s5 σ5 H5 _ I5 (hX _ fr5) st5 stop) fun r s6 ⟨hr,I6⟩=>?_
   subst hr
   exact fin s6 σ5 H5 I6 qn
  ·refine thn (T.item (bH X scope N C s3 (upd H2 D (.lst [])) fp) rfl rfl rfl hc i [] s5 σ5 H5 _ I5 (hX _ fr5) st5 go) fun r s6 ⟨u,hr,h6⟩=>?_
   subst hr
   refine thn h6 fun _ s7 ⟨x,H7,I7,r7,y7,st7,fr7⟩=>?_
   have I7':=I7.pinned (hX _ fr7) (T.obj _ _ st7)
   have back:∀ {s9:Shared} {σ9:St} {H9:Hp},Inv (bH X scope N C s3 (upd H2 D (.lst [])) fp) ([]++kG fp s7.heap) σ9 H9 s9→NN σ9 H9→∃ m,m < n∧∃ i σ' H',Inv (bH X scope N C s3 (upd H2 D (.lst [])) fp) [] σ' H' s9∧tn i s9.heap∧(∀ b∈fp,H' b=none)∧W i m σ' H':=fun {s9 σ9 H9} I9 n9=>by
    obtain ⟨m',hm,w9⟩:=hN σ9 H9 n9
    refine ⟨m',hm,i+1,σ9,H9,I9.gO,T.keep _ _ _ st7 fun b hb o e=>(I9.pin (b,o) (List.mem_append_right _ (List.mem_append_right _ (gk hb e)))).1,fun b hb=>?_,w9⟩
    obtain ⟨o,e,d⟩:=T.obj _ _ st7 b hb
    exact (I9.pin (b,o) (List.mem_append_right _ (List.mem_append_right _ (gk hb e)))).2.1
   refine thn (hg C s3 _ fp _ s7 σ5 H7 x u _ I7' r7 (step x H7 y7)) fun _ s8 ⟨σ8,H8,I8,q8⟩=>?_
   refine thn (ht C s3 _ fp _ s8 σ8 H8 _ I8 q8) fun ok s9 ⟨H9,I9,q9⟩=>?_
   cases ok with
   | false=>
    rw [if_neg Bool.false_ne_true] at q9
    rw [if_neg Bool.false_ne_true]
    exact back I9 q9
   | true=>
    rw [if_pos rfl] at q9
    rw [if_pos rfl]
    refine thn (he C s3 _ fp _ s9 σ8 H9 _ I9 q9) fun y s10 ⟨v,H10,I10,r10,q10⟩=>?_
    obtain ⟨xs,hD10,hz,qN⟩:=q10
    refine thn (oC (X:=bH X scope N C s3 (upd H2 D (.lst [])) fp) _ s10 σ8 H10 (.ref D) [v] (.ref D) [y] (fun _ H'=>NN σ8 H') I10 rfl (.cons r10 .nil) ⟨D,xs,v,rfl,rfl,hD10,hz,qN⟩) fun _ s11 ⟨_,H11,I11,_,q11⟩=>?_
    exact back I11 q11
 exact codeAny_compStart_list (loop _ rfl) (T.self _ 0 _ _ _ st4 (loop _ rfl))
theorem DH (hc:X.calm=true) (S:dU esc scope EN N k) (h1:X.env.scope=esc) (h2:X.N=EN) (hi:PI X tg iter wi) (hg:∀ C s H fp,PG (bH X scope N C s H fp) tg g) (ht:∀ C s H fp,PTs (bH X scope N C s H fp) ifs tt) (he:∀ C s H fp,PE (bH X scope N C s H fp) elt te)
  (hs:∀ x,foldedSetIterable iter X.env x=pure x:=by intro _;rfl):PE X (.ListComp elt [⟨tg,iter,ifs,0⟩] scope pos) (tLC wi g tt te k):=by
 subst h1 h2
 intro pins s σ H Q I h
 rw [eval_ListComp]
 refine wpAny_comprehension_free (use:=none) rfl hs (ip (S.cells I.ok)) S.kind S.names (thn (hi pins s σ H _ I h) fun v s1 h1=>thn h1 fun itv s2 h2=>?_)
 obtain ⟨it,fp,tn,J,H2,e,I2,T,st2,f2,q⟩:=h2
 subst e
 refine pF (RR:=fun acc C=>compPost (model X.prog X.w) X.A X.xe none (EP X pins σ Q) acc C) hc S hg ht he I2 T st2 f2 q ?_
 intro D C s' H' m hC IX hm hn hL hF hS hcell hp qd
 refine ⟨m,hm,fun h' sb=>?_⟩
 exact ⟨.ref D,H',IX.turned (t':=s'.toks) (fun b o hb e=>sb.extBut b o hb e) hn hL (.inr hS) hcell hp,rfl,qd⟩
def sLC (wi:TI) (g:TG) (tt:TT) (te:TE) (k i:Nat):TS:=fun D σ H=>tLC wi g tt te k σ H fun v H1=>D.nx (σ.set i (some v)) H1
theorem E6 (hN:X.N.Nodup) (hi':X.N[i]?=some y) (hy:Loc X.env.scope y) (hc:X.calm=true) (S:dU esc scope EN N k) (h1:X.env.scope=esc) (h2:X.N=EN) (hi:PI X tg iter wi) (hg:∀ C s H fp,PG (bH X scope N C s H fp) tg g) (ht:∀ C s H fp,PTs (bH X scope N C s H fp) ifs tt) (he:∀ C s H fp,PE (bH X scope N C s H fp) elt te)
  (hsw:swapsWith (.ListComp elt [⟨tg,iter,ifs,0⟩] scope pos) (some (.Name y py)) spos.line X.env=pure true:=by rfl)
  (hs:∀ x,foldedSetIterable iter X.env x=pure x:=by intro _;rfl) (hf:X.fn y=true∨X.env.scope.names.lookup y=some .local:=by first | exact .inl rfl | exact .inr rfl | assumption) :
  PS X (.Assign [.Name y py] (.ListComp elt [⟨tg,iter,ifs,0⟩] scope pos) spos) (sLC wi g tt te k i):=by
 subst h1 h2
 intro pins s σ H D0 I h
 rw [exec_Assign_Name_used _ _ _ _ hsw]
 refine wpAny_bind (wpAny_standAt (wpAny_bind ?_))
 show wpAny _ X.A (do let _ ← comprehension (.ListComp elt [⟨tg,iter,ifs,0⟩] scope pos) scope X.env _ (newList []) false (eval iter X.env) (some (assign (.Name y py) X.env))) _ _ s
 refine wpAny_bind (wpAny_mono (wpAny_comprehension_free (use:=some (assign (.Name y py) X.env)) (Q:=fun _ s'=>SP X pins D0 .next s') rfl hs (ip (S.cells I.ok)) S.kind S.names
  (thn (hi pins s σ H _ I h) fun v s1 h1=>thn h1 fun itv s2 h2=>?_)) (fun _ s' hq=>wpAny_pure (wpAny_pure hq)) fun _ _ e=>e)
 obtain ⟨it,fp,tn,J,H2,e,I2,T,st2,f2,q⟩:=h2
 subst e
 refine pF (RR:=fun acc C=>compPost (model X.prog X.w) X.A X.xe (some (assign (.Name y py) X.env)) (fun _ s'=>SP X pins D0 .next s') acc C) hc S hg ht he I2 T st2 f2 q ?_
 intro D C s' H' m hC IX hm hn hL hF hS hcell hp qd
 show wpAny _ X.A (assign (.Name y py) X.env (.ref D)) _ _ _
 obtain ⟨o,es,ep,ho,hd,hr⟩:=id hm
 have IP:Inv X (pins++[(C,o)]) σ H' s':=IX.nE fun p hp=>by
  rcases List.mem_append.mp hp with z | z
  ·exact IX.pin p (List.mem_append_right _ z)
  ·obtain rfl:p=(C,o):=List.mem_singleton.mp z
   exact ⟨ho,hn,hL,hF,fun v z=>by rw [hd] at z;cases z⟩
 refine wpAny_assign_Name (lW IP hN hi' hy (v:=.ref D) (u:=.ref D) rfl (fun s'' I''=>?_) hf)
 have hC2:=(I''.pin (C,o) (List.mem_append_right _ (List.mem_append_right _ (List.mem_singleton.mpr rfl)))).1
 refine ⟨m,⟨o,es,ep,hC2,hd,hr⟩,fun h' sb=>?_⟩
 exact ⟨_,H',(I''.gO).turned (t':=s''.toks) (fun b o hb e=>sb.extBut b o hb e) hn hL (.inr hS) hcell hp,qd⟩
end
inductive D where
 | non | bl (b:Bool) | int (i:Int) | str (x:Str) | tup (xs:List D) | lst (xs:List D)
mutual
def D.eqv:D→D→Bool
 | .non,.non=>true
 | .bl a,.bl b=>a == b
 | .bl a,.int b=>(if a then 1 else 0) == b
 | .int a,.bl b=>a == (if b then 1 else 0)
 | .int a,.int b=>a == b
 | .str a,.str b=>a == b
 | .tup xs,.tup ys=>D.b9 xs ys
 | .lst xs,.lst ys=>D.b9 xs ys
 | _,_=>false
def D.b9:List D→List D→Bool
 | [],[]=>true
 | x :: xs,y :: ys=>D.eqv x y && D.b9 xs ys
 | _,_=>false
end
mutual
theorem D.eqv_refl:∀ d:D,D.eqv d d=true
 | .non=>rfl
 | .bl a=>by simp [D.eqv]
 | .int a=>by simp [D.eqv]
 | .str a=>by simp [D.eqv]
 | .tup xs=>by simp only [D.eqv];exact D.kL xs
 | .lst xs=>by simp only [D.eqv];exact D.kL xs
theorem D.kL:∀ ds:List D,D.b9 ds ds=true
 | []=>rfl
 | d :: ds=>by simp only [D.b9,D.eqv_refl d,D.kL ds,Bool.and_self]
end
mutual
def D.depth:D→Nat
 | .tup xs=>D.bf xs+1
 | .lst xs=>D.bf xs+1
 | _=>0
def D.bf:List D→Nat
 | []=>0
 | x :: xs=>max (D.depth x) (D.bf xs)
end
mutual
inductive Rep (H:Hp):V→D→Prop
 | non:Rep H .non .non
 | bl (b:Bool):Rep H (.bl b) (.bl b)
 | int (i:Int):Rep H (.int i) (.int i)
 | str (x:Str):Rep H (.str x) (.str x)
 | tup {a:Addr} {vs:List V} {ds:List D}:H a=some (.tup vs)→ax H vs ds→Rep H (.ref a) (.tup ds)
 | lst {a:Addr} {vs:List V} {ds:List D}:H a=some (.lst vs)→ax H vs ds→Rep H (.ref a) (.lst ds)
inductive ax (H:Hp):List V→List D→Prop
 | nil:ax H [] []
 | cons {v:V} {d:D} {vs:List V} {ds:List D}:Rep H v d→ax H vs ds→ax H (v :: vs) (d :: ds)
end
theorem ax.length:∀ {vs:List V} {ds:List D},ax H vs ds→vs.length=ds.length
 | _,_,.nil=>rfl
 | _,_,.cons _ t=>by simp [ax.length t]
theorem ax.get:∀ {vs:List V} {ds:List D} {i:Nat} {v:V},ax H vs ds→vs[i]?=some v→∃ d,ds[i]?=some d∧Rep H v d
 | _,_,_,_,.nil,e=>by simp at e
 | _,_,0,_,.cons r _,e=>by simp at e;subst e;exact ⟨_,rfl,r⟩
 | _,_,i+1,v,.cons _ t,e=>by
  obtain ⟨d,h1,h2⟩:=ax.get (i:=i) (v:=v) t (by simpa using e)
  exact ⟨d,by simpa using h1,h2⟩
theorem ax.get':∀ {vs:List V} {ds:List D} {i:Nat} {d:D},ax H vs ds→ds[i]?=some d→∃ v,vs[i]?=some v∧Rep H v d
 | _,_,_,_,.nil,e=>by simp at e
 | _,_,0,_,.cons r _,e=>by simp at e;subst e;exact ⟨_,rfl,r⟩
 | _,_,i+1,v,.cons _ t,e=>by
  obtain ⟨d,h1,h2⟩:=ax.get' (i:=i) (d:=v) t (by simpa using e)
  exact ⟨d,by simpa using h1,h2⟩
theorem ax.append:∀ {vs us:List V} {ds es:List D},ax H vs ds→ax H us es→ax H (vs++us) (ds++es)
 | _,_,_,_,.nil,s=>s
 | _,_,_,_,.cons r t,s=>.cons r (ax.append t s)
theorem ax.take:∀ {vs:List V} {ds:List D} (n:Nat),ax H vs ds→ax H (vs.take n) (ds.take n)
 | _,_,0,_=>.nil
 | _,_,_+1,.nil=>.nil
 | _,_,n+1,.cons r t=>.cons r (ax.take n t)
theorem ax.drop:∀ {vs:List V} {ds:List D} (n:Nat),ax H vs ds→ax H (vs.drop n) (ds.drop n)
 | _,_,0,r=>r
 | _,_,_+1,.nil=>.nil
 | _,_,n+1,.cons _ t=>ax.drop n t
mutual
theorem Rep.mono (e:c6 H H'):∀ {v:V} {d:D},Rep H v d→Rep H' v d
 | _,_,.non=>.non
 | _,_,.bl b=>.bl b
 | _,_,.int i=>.int i
 | _,_,.str x=>.str x
 | _,_,.tup h r=>.tup (e _ _ h) (ax.mono e r)
 | _,_,.lst h r=>.lst (e _ _ h) (ax.mono e r)
theorem ax.mono (e:c6 H H'):∀ {vs:List V} {ds:List D},ax H vs ds→ax H' vs ds
 | _,_,.nil=>.nil
 | _,_,.cons r t=>.cons (Rep.mono e r) (ax.mono e t)
end
mutual
theorem Rep.inj:∀ {v:V} {d e:D},Rep H v d→Rep H v e→d=e
 | _,_,_,.non,.non=>rfl
 | _,_,_,.bl _,.bl _=>rfl
 | _,_,_,.int _,.int _=>rfl
 | _,_,_,.str _,.str _=>rfl
 | _,_,_,.tup h r,.tup h' r'=>by rw [h] at h';cases h';rw [ax.inj r r']
 | _,_,_,.tup h r,.lst h' r'=>by rw [h] at h';cases h'
 | _,_,_,.lst h r,.tup h' r'=>by rw [h] at h';cases h'
 | _,_,_,.lst h r,.lst h' r'=>by rw [h] at h';cases h';rw [ax.inj r r']
theorem ax.inj:∀ {vs:List V} {ds es:List D},ax H vs ds→ax H vs es→ds=es
 | _,_,_,.nil,.nil=>rfl
 | _,_,_,.cons r t,.cons r' t'=>by rw [Rep.inj r r',ax.inj t t']
end
theorem ax.ints:∀ (ns:List Int),ax H (ns.map V.int) (ns.map D.int)
 | []=>.nil
 | n :: ns=>.cons (.int n) (ax.ints ns)
theorem ax.k6:∀ {vs:List V} {ns:List Int},ax H vs (ns.map D.int)→vs=ns.map V.int
 | [],[],.nil=>rfl
 | v :: vs,n :: ns,.cons r t=>by
  cases r
  rw [List.map_cons,ax.k6 t]
theorem D.cg:∀ (ds es:List D),D.b9 ds es=((List.range (min ds.length es.length)).all (fun j=>D.eqv (ds.getD j .non) (es.getD j .non)) && ds.length == es.length)
 | [],[]=>rfl
 | [],e :: es=>by simp [D.b9]
 | d :: ds,[]=>by simp [D.b9]
 | d :: ds,e :: es=>by
  have ih:=D.cg ds es
  have q:min (d :: ds).length (e :: es).length=min ds.length es.length+1:=by simp only [List.length_cons];omega
  rw [q,List.range_succ_eq_map,List.all_cons,List.all_map]
  have z:((d :: ds).length == (e :: es).length)=(ds.length == es.length):=by
   rw [Bool.eq_iff_iff];simp
  rw [z,D.b9,ih,Bool.and_assoc]
  rfl
theorem D.gq:∀ {ds:List D} {i:Nat} {d:D},ds[i]?=some d→D.depth d≤D.bf ds
 | [],_,_,e=>by simp at e
 | x :: xs,0,d,e=>by
  simp at e;subst e
  exact Nat.le_max_left _ _
 | x :: xs,i+1,d,e=>Nat.le_trans (D.gq (ds:=xs) (i:=i) (by simpa using e)) (Nat.le_max_right _ _)
section
variable {X:Cx}
theorem um (I:Inv X pins σ H s):∀ (n:Nat) (A:Around) (x y:V) (u v:Value) (d e:D),A.units+n < cLine→D.depth d≤n→RelV x u→RelV y v→Rep H x d→Rep H y e →
  SeqAt.EqAt A s u v (D.eqv d e):=by
 intro n
 induction n with
 | zero=>
  intro A x y u v d e hu hd ru rv rx ry
  have hu':A.units < cLine:=by omega
  cases rx with
  | tup h r=>simp [D.depth] at hd
  | lst h r=>simp [D.depth] at hd
  | non=>
   cases ry with
   | tup h r=>
    cases ru;cases rv
    obtain ⟨its,rv,p,hz⟩:=I.tuple (SqT.of h)
    exact SeqAt.EqAt.none_tuple p hu'
   | lst h r=>
    cases ru;cases rv
    obtain ⟨its,rv,p,hz⟩:=I.list (SqL.of h)
    exact SeqAt.EqAt.none_list p.isList hu'
   | _=>simp only [D.eqv];exact j9 ru rv rfl rfl
  | bl a=>
   cases ry with
   | tup h r=>
    cases ru;cases rv
    obtain ⟨its,rv,p,hz⟩:=I.tuple (SqT.of h)
    exact SeqAt.EqAt.bool_tuple a p hu'
   | lst h r=>
    cases ru;cases rv
    obtain ⟨its,rv,p,hz⟩:=I.list (SqL.of h)
    exact SeqAt.EqAt.bool_list a p.isList hu'
   | _=>simp only [D.eqv];exact j9 ru rv rfl rfl
  | int a=>
   cases ry with
   | tup h r=>
    obtain ⟨t,rfl⟩:=ru;cases rv
    obtain ⟨its,rv,p,hz⟩:=I.tuple (SqT.of h)
    exact SeqAt.EqAt.int_tuple a t p hu'
   | lst h r=>
    obtain ⟨t,rfl⟩:=ru;cases rv
    obtain ⟨its,rv,p,hz⟩:=I.list (SqL.of h)
    exact SeqAt.EqAt.int_list a t p.isList hu'
   | _=>simp only [D.eqv];exact j9 ru rv rfl rfl
  | str a=>
   cases ry with
   | tup h r=>
    obtain ⟨t,rfl⟩:=ru;cases rv
    obtain ⟨its,rv,p,hz⟩:=I.tuple (SqT.of h)
    exact SeqAt.EqAt.str_tuple a t p hu'
   | lst h r=>
    obtain ⟨t,rfl⟩:=ru;cases rv
    obtain ⟨its,rv,p,hz⟩:=I.list (SqL.of h)
    exact SeqAt.EqAt.str_list a t p.isList hu'
   | _=>simp only [D.eqv];exact j9 ru rv rfl rfl
 | succ n ih=>
  intro A x y u v d e hu hd ru rv rx ry
  have hu':A.units < cLine:=by omega
  have items:∀ {vs us:List V} {ds es:List D} {its its2:List Value},D.bf ds≤n→Vals vs its→Vals us its2→ax H vs ds→ax H us es →
    ∀ j (h1:j < its.toArray.size) (h2:j < its2.toArray.size),SeqAt.EqAt A.in1 s its.toArray[j] its2.toArray[j] (D.eqv (ds.getD j .non) (es.getD j .non)):=by
   intro vs us ds es its its2 hdd r1 r2 q1 q2 j h1 h2
   have h1':j < its.length:=by simpa using h1
   have h2':j < its2.length:=by simpa using h2
   have l1:=r1.length
   have l2:=r2.length
   have m1:=q1.length
   have m2:=q2.length
   have e1:vs[j]?=some (vs[j]'(by omega)):=List.getElem?_eq_getElem _
   have e2:us[j]?=some (us[j]'(by omega)):=List.getElem?_eq_getElem _
   obtain ⟨a1,b1,c1⟩:=r1.get e1
   obtain ⟨a2,b2,c2⟩:=r2.get e2
   obtain ⟨f1,g1,k1⟩:=q1.get e1
   obtain ⟨f2,g2,k2⟩:=q2.get e2
   have z1:its.toArray[j]=a1:=by
    have:its[j]?=some its[j]:=List.getElem?_eq_getElem h1'
    rw [b1] at this
    simpa using (Option.some.inj this).symm
   have z2:its2.toArray[j]=a2:=by
    have:its2[j]?=some its2[j]:=List.getElem?_eq_getElem h2'
    rw [b2] at this
    simpa using (Option.some.inj this).symm
   rw [z1,z2,List.getD_eq_getElem?_getD,List.getD_eq_getElem?_getD,g1,g2]
   refine ih A.in1 _ _ _ _ _ _ ?_ (Nat.le_trans (D.gq g1) hdd) c1 c2 k1 k2
   show A.units+1+n < cLine
   omega
  cases rx with
  | @tup a vs ds h r=>
   obtain ⟨its,rv1,p,hz⟩:=I.tuple (SqT.of h)
   cases ry with
   | @tup b us es h' r'=>
    cases ru;cases rv
    obtain ⟨its2,rv2,p2,hz2⟩:=I.tuple (SqT.of h')
    by_cases hab:a=b
    ·subst hab
     rw [h] at h';cases h'
     rw [ax.inj r' r,D.eqv_refl]
     exact SeqAt.EqAt.same _
    ·have hdd:D.bf ds≤n:=by simp only [D.depth] at hd;omega
     have q:=SeqAt.EqAt.of_refs hab (SeqAt.RcAt.tuples (e:=fun j=>D.eqv (ds.getD j .non) (es.getD j .non)) p p2 hu' (items hdd rv1 rv2 r r'))
     rw [List.size_toArray,List.size_toArray,← rv1.length,← rv2.length,r.length,r'.length,← D.cg] at q
     simp only [D.eqv]
     exact q
   | @lst b us es h' r'=>
    cases ru;cases rv
    obtain ⟨its2,rv2,p2,hz2⟩:=I.list (SqL.of h')
    simp only [D.eqv]
    exact SeqAt.EqAt.tuple_list p p2.isList hu'
   | non=>cases ru;cases rv;simp only [D.eqv];exact SeqAt.EqAt.tuple_none p hu'
   | bl c=>cases ru;cases rv;simp only [D.eqv];exact SeqAt.EqAt.tuple_bool c p hu'
   | int c=>cases ru;obtain ⟨t,rfl⟩:=rv;simp only [D.eqv];exact SeqAt.EqAt.tuple_int c t p hu'
   | str c=>cases ru;obtain ⟨t,rfl⟩:=rv;simp only [D.eqv];exact SeqAt.EqAt.tuple_str c t p hu'
  | @lst a vs ds h r=>
   obtain ⟨its,rv1,p,hz⟩:=I.list (SqL.of h)
   cases ry with
   | @lst b us es h' r'=>
    cases ru;cases rv
    obtain ⟨its2,rv2,p2,hz2⟩:=I.list (SqL.of h')
    by_cases hab:a=b
    ·subst hab
     rw [h] at h';cases h'
     rw [ax.inj r' r,D.eqv_refl]
     exact SeqAt.EqAt.same _
    ·have hdd:D.bf ds≤n:=by simp only [D.depth] at hd;omega
     have l1:=rv1.length
     have l2:=rv2.length
     have m1:=r.length
     have m2:=r'.length
     by_cases hl:ds.length=es.length
     ·have q:=SeqAt.EqAt.of_refs hab (SeqAt.RcAt.lists (e:=fun j=>D.eqv (ds.getD j .non) (es.getD j .non)) p.isList p2.isList (by simp;omega) hu' (items hdd rv1 rv2 r r'))
      have z:D.b9 ds es=(List.range its.toArray.size).all fun j=>D.eqv (ds.getD j .non) (es.getD j .non):=by
       rw [D.cg,← hl,Nat.min_self,List.size_toArray,← l1,m1]
       simp
      simp only [D.eqv]
      rw [z]
      exact q
     ·have q:=SeqAt.EqAt.of_refs hab (SeqAt.RcAt.lists_lengths p.isList p2.isList (by simp;omega) hu')
      have z:D.b9 ds es=false:=by
       rw [D.cg]
       simp [hl]
      simp only [D.eqv]
      rw [z]
      exact q
   | @tup b us es h' r'=>
    cases ru;cases rv
    obtain ⟨its2,rv2,p2,hz2⟩:=I.tuple (SqT.of h')
    simp only [D.eqv]
    exact SeqAt.EqAt.list_tuple p.isList p2 hu'
   | non=>cases ru;cases rv;simp only [D.eqv];exact SeqAt.EqAt.list_none p.isList hu'
   | bl c=>cases ru;cases rv;simp only [D.eqv];exact SeqAt.EqAt.list_bool c p.isList hu'
   | int c=>cases ru;obtain ⟨t,rfl⟩:=rv;simp only [D.eqv];exact SeqAt.EqAt.list_int c t p.isList hu'
   | str c=>cases ru;obtain ⟨t,rfl⟩:=rv;simp only [D.eqv];exact SeqAt.EqAt.list_str c t p.isList hu'
  | non=>exact SeqAt.EqAt.of_in1 (ih A.in1 _ y u v _ e (by show A.units+1+n < cLine;omega) (by simp [D.depth]) ru rv .non ry)
  | bl c=>exact SeqAt.EqAt.of_in1 (ih A.in1 _ y u v _ e (by show A.units+1+n < cLine;omega) (by simp [D.depth]) ru rv (.bl c) ry)
  | int c=>exact SeqAt.EqAt.of_in1 (ih A.in1 _ y u v _ e (by show A.units+1+n < cLine;omega) (by simp [D.depth]) ru rv (.int c) ry)
  | str c=>exact SeqAt.EqAt.of_in1 (ih A.in1 _ y u v _ e (by show A.units+1+n < cLine;omega) (by simp [D.depth]) ru rv (.str c) ry)
end
section
variable {X:Cx}
def wM:R2:=fun x y H Q=>∃ a b,x=.bl a∧y=.bl b∧Q (.bl (a == b)) H
theorem xM:OpR X (compareOp .Is) wM:=by
 intro pins s σ H x y v u Q I rx ry h
 obtain ⟨a,b,rfl,rfl,q⟩:=h
 cases rx;cases ry
 exact is_bool ⟨.bl _,H,I,rfl,q⟩
def isT (T:String):D→Bool
 | .non=>false
 | .bl _=>T == "bool" || T == "int"
 | .int _=>T == "int"
 | .str _=>T == "str"
 | .tup _=>T == "tuple"
 | .lst _=>T == "list"
def okT (T:String):Bool:=T == "bool" || T == "int" || T == "str" || T == "tuple" || T == "list"
theorem D5 {K:PySem.W.Frag} {H:Hp} {x:V} {d:D} {T:String} (r:Rep H x d) (h:okT T=true):∃ t,fB K H x t∧PySem.W.kitOne K t (.type T)=some (isT T d):=by
  have h5:T="bool"∨T="int"∨T="str"∨T="tuple"∨T="list":=by simpa [okT,or_assoc] using h
  cases r with
  | non=>exact ⟨_,.non,by rcases h5 with e | e | e | e | e<;>subst e<;>first | rfl | kernel_rfl⟩
  | bl b=>exact ⟨_,.bl b,by rcases h5 with e | e | e | e | e<;>subst e<;>first | rfl | kernel_rfl⟩
  | int i=>exact ⟨_,.int i,by rcases h5 with e | e | e | e | e<;>subst e<;>first | rfl | kernel_rfl⟩
  | str x=>exact ⟨_,.str x,by rcases h5 with e | e | e | e | e<;>subst e<;>first | rfl | kernel_rfl⟩
  | tup h r=>exact ⟨_,.tup h,by rcases h5 with e | e | e | e | e<;>subst e<;>first | rfl | kernel_rfl⟩
  | lst h r=>exact ⟨_,.lst h,by rcases h5 with e | e | e | e | e<;>subst e<;>first | rfl | kernel_rfl⟩
def FA (T:String) (te:TE):TE:=fun σ H Q=>te σ H fun x H1=>∃ d,Rep H1 x d∧Q (.bl (isT T d)) H1
theorem vP {e:Expr} {te:TE} {nm:Str} {T:String} {p p2 pos:Pos} (hg:Gl X "isinstance") (hm:X.mg "isinstance"=none) (hg2:Gl X nm) (hm2:X.mg nm=none) (hv:bootBuiltins nm=some (.type T)) (ho:okT T=true) (ha:PE X e te)
  (hn:nm≠"__name__":=by decide) (hd:(nm == ("__debug__":Str))=false:=by decide) (hb:bootBuiltins "isinstance"=some (.builtin "isinstance"):=by decide +kernel)
  (he:starEach [e,.Name nm p2] X.env=(false,eval e X.env) :: starEach [.Name nm p2] X.env:=by rfl) (hs2:starEach [.Name nm p2] X.env=(false,eval (.Name nm p2) X.env) :: starEach [] X.env:=by rfl) (hpl:(backTo pos (starEach [.Name nm p2] X.env)).any (·.1)=false:=by rfl) :
  PE X (.Call (.Name "isinstance" p) [e,.Name nm p2] [] pos) (FA T te):=by
 intro pins s σ H Q I h
 have hT:PE X (.Name nm p2) (tC (.ty T)):=zA hg2 hm2 hv rfl hn hd
 refine wpAny_Call_Name_kw (c9 I hg hm hb ?_ (by decide) (by decide))
 refine PyProof.Rows.callWith_builtin1 (thn ((eL ha (eL hT gK hs2) he) pos pins s σ H (fun vs H1=>∃ x d,vs=[x,.ty T]∧Rep H1 x d∧Q (.bl (isT T d)) H1) I ?_) fun us s1 ⟨vs,H1,I1,r1,q1⟩=>?_) he hpl
 ·refine (show te σ H fun x H1=>_ from ?_)
  refine cast (congrArg (te σ H) ?_) h
  funext x H1
  refine propext ⟨fun ⟨d,r,q⟩=>⟨x,d,rfl,r,q⟩,fun ⟨x',d,e,r,q⟩=>?_⟩
  cases e
  exact ⟨d,r,q⟩
 ·obtain ⟨x,d,e,r,q⟩:=q1
  subst e
  obtain ⟨u,w',rfl,ru,rw'⟩:=r1.two
  obtain ⟨t,ty,k⟩:=D5 (K:=X.K) r ho
  cases (show w'=Value.type T from rw')
  exact vx I1 ru ty k fun tk=>⟨.bl _,H1,I1.tok tk,rfl,q⟩
end
section
variable {X:Cx} {pins:List (Addr×Obj)} {σ:St} {H:Hp} {s:Shared} {h':Heap} {fp:List Addr}
theorem Inv.l4 (I:Inv X pins σ H s) (ha:s.heap.objs.size≤a) (hk:∀ b u,b∉fp→s.heap.get? b=some u→h'.get? b=some u) (hf:∀ b∈fp,eF X pins H b) (new:b8 X.prog X.w (upd H a o) h' a o) :
  Inv X pins σ (upd H a o) { s with heap:=h',toks:=t' }:=by
 have hn:H a=none:=I.hok.fresh ha
 have nfp:∀ b u,H b=some u→b∉fp:=fun b u e z=>by
  have q:=(hf b z).1
  rw [e] at q
  cases q
 have hne:∀ b (u:Obj),s.heap.get? b=some u→b≠a:=fun b u e=>Nat.ne_of_lt (Nat.lt_of_lt_of_le (Heap.lt_size e) ha)
 refine I.step (g':=s.gens) (d':=s.drawn) (ch:=fp) (fun b hb=>?_) (fun b u _ _ hc e _=>hk b u hc e) (fun b u _ _ hc e _=>⟨u.slots,hk b u hc e⟩) (fun b u _ e n=>?_)
  (fun b u hc e=>⟨u,hk b u hc e⟩) (fun b xs e=>?_) (fun b u xs e=>?_) (fun b ps e=>⟨#[],?_⟩) (fun m hm=>?_) (fun b u e=>?_) I.bare
 ·obtain ⟨f0,f1,f2,f3,f4,f5⟩:=hf b hb
  exact ⟨f3,f1,f4,f5⟩
 ·rw [aT (hne b u e)];exact n
 ·rw [aT (bu e hn)];exact e
 ·rw [aT (bu e hn)];exact e
 ·rw [aT (bu e hn),e];simp
 ·obtain ⟨u,es,ep,ho,r⟩:=hm
  exact ⟨u,es,ep,hk _ u (fun z=>(hf _ z).2.1 rfl) ho,r⟩
 ·by_cases hb:b=a
  ·subst hb;rw [b_] at e;cases e;exact new
  ·rw [aT hb] at e
   refine (I.hok b u e).lQ (fun c v hc q=>hk c v ?_ q) (fun c q=>by rw [aT (bu q hn)];exact q) fun c xs q=>by rw [aT (bu q hn)];exact q
   rcases hc with z | z
   ·rw [z];exact nfp b u e
   ·exact nfp c _ z
theorem Inv.sm (I:Inv X pins σ H s) (hk:∀ b u,b∉fp→s.heap.get? b=some u→h'.get? b=some u) (hf:∀ b∈fp,eF X pins H b):Inv X pins σ H { s with heap:=h',toks:=t' }:=by
 have nfp:∀ b u,H b=some u→b∉fp:=fun b u e z=>by
  have q:=(hf b z).1
  rw [e] at q
  cases q
 refine I.step (g':=s.gens) (d':=s.drawn) (ch:=fp) (fun b hb=>?_) (fun b u _ _ hc e _=>hk b u hc e) (fun b u _ _ hc e _=>⟨u.slots,hk b u hc e⟩) (fun b u _ e n=>n)
  (fun b u hc e=>⟨u,hk b u hc e⟩) (fun b xs e=>e) (fun b u xs e=>e) (fun b ps e=>⟨#[],?_⟩) (fun m hm=>?_) (fun b u e=>?_) I.bare
 ·obtain ⟨f0,f1,f2,f3,f4,f5⟩:=hf b hb
  exact ⟨f3,f1,f4,f5⟩
 ·rw [e];simp
 ·obtain ⟨u,es,ep,ho,r⟩:=hm
  exact ⟨u,es,ep,hk _ u (fun z=>(hf _ z).2.1 rfl) ho,r⟩
 ·refine (I.hok b u e).lQ (fun c v hc q=>hk c v ?_ q) (fun _ q=>q) fun _ _ q=>q
  rcases hc with z | z
  ·rw [z];exact nfp b u e
  ·exact nfp c _ z
end
def Ite (K:PySem.W.Frag) (l:Addr):It:=
 ⟨fun i H=>∃ xs x,SqL K H l xs∧xs[i]?=some x,fun i H x H'=>∃ p y,H p=none∧x=.ref p∧H'=upd H p (.tup [.int i,y])∧∀ xs,SqL K H l xs→xs[i]?=some y,fun i H=>∃ xs,SqL K H l xs∧xs.length≤i⟩
theorem u5 {P:Program} {w:World} {K:PySem.W.Frag} {es:List Expr} {kk:Nat} {tp:Pos} (l e it:Addr) (hne:e≠it) :
  Turn P w K (.Tuple es kk tp) (Ite K l) [e,it] e (fun i h=>(∃ old,IsEnum h e it ((i:Nat):Int) old)∧h.IsListIter it l i) where
 mem:=by simp
 obj:=fun i h st b hb=>by
  obtain ⟨⟨old,he⟩,hit⟩:=st
  rcases List.mem_cons.mp hb with z | z
  ·subst z;exact ⟨_,he,fun v z=>by
    have z':Data.fields _=Data.cell v:=z
    cases z'⟩
  ·have z:b=it:=List.mem_singleton.mp z
   subst z
   obtain ⟨o,q,_,d⟩:=hit
   exact ⟨o,q,fun v z=>by rw [d] at z;cases z⟩
 keep:=fun i h h' st k=>by
  obtain ⟨⟨old,he⟩,hit⟩:=st
  exact ⟨⟨old,k e (by simp) _ he⟩,hit.at fun o q=>k it (by simp) o q⟩
 item:=by
  intro X hP hw hK hc i pins s σ H E I hf st hg
  subst hP hw hK
  obtain ⟨⟨old,he⟩,hit⟩:=st
  obtain ⟨xs,x,hq,hx⟩:=hg
  obtain ⟨its,rv,p,hz⟩:=I.list hq
  obtain ⟨u,hu,ru⟩:=rv.get hx
  refine wpAny_pyNext_enum_item he hit p.isList (x:=u) (by simpa using hu) hne fun h1 ho1 hit1 ht1 hz1 hk1=>?_
  refine ⟨_,rfl,wpAny_letOwnedTupleGo_enum (s:={ s with heap:=h1,toks:=s.toks+1 }) ho1 fun h2 he2 hs2=>?_⟩
  have helt:e < s.heap.objs.size:=Heap.lt_size he
  have ht2:h2.get? s.heap.objs.size=some { cls:=.type "tuple",data:=.seq #[.int i s.toks,u] }:=hs2.extBut _ _ (Nat.ne_of_gt helt) ht1
  have k2:∀ b o,b∉[e,it]→s.heap.get? b=some o→h2.get? b=some o:=fun b o hb q=>by
   have hb1:b≠e:=fun z=>hb (by simp [z])
   have hb2:b≠it:=fun z=>hb (by simp [z])
   exact hs2.extBut b o hb1 (hk1 b o hb1 hb2 q)
  have I2:Inv X pins σ (upd H s.heap.objs.size (.tup [.int i,x])) { s with heap:=h2,toks:=s.toks+1 }:=by
   refine I.l4 (fp:=[e,it]) (Nat.le_refl _) k2 hf ?_
   exact ⟨by show 2≤sizeLine;decide,[.int i s.toks,u],.cons ⟨_,rfl⟩ (.cons ru .nil),⟨_,ht2,rfl,_,rfl⟩⟩
  refine ⟨.ref s.heap.objs.size,_,I2,rfl,⟨s.heap.objs.size,x,I.hok.fresh (Nat.le_refl _),rfl,rfl,fun ys hy=>by rw [I.lR hy hq];exact hx⟩,⟨⟨_,by simpa using he2⟩,?_⟩,fun b hb=>?_⟩
  ·exact hit1.extBut hs2.extBut (Ne.symm hne)
  ·have hlt:b < s.heap.objs.size:=by
    rcases List.mem_cons.mp hb with z | z
    ·rw [z];exact helt
    ·have z:b=it:=List.mem_singleton.mp z
     subst z
     obtain ⟨o,q,_⟩:=hit
     exact Heap.lt_size q
   rw [aT (Nat.ne_of_lt hlt)]
   exact (hf b hb).1
 done:=by
  intro X hP hw hK hc i pins s σ H E I hf st hg
  subst hP hw hK
  obtain ⟨⟨old,he⟩,hit⟩:=st
  obtain ⟨xs,hq,hx⟩:=hg
  obtain ⟨its,rv,p,hz⟩:=I.list hq
  have hl:=rv.length
  obtain ⟨f0,f1,f2,f3,f4,f5⟩:=hf it (by simp)
  exact wpAny_pyNext_enum_end (I.ok.hd hc) he hit p.isList (by simp;omega) fun h' eb=>⟨rfl,I.turned (t':=s.toks) (fun b o hb e=>eb b o hb e) f0 f1 f3 f4 f5⟩
 self:=fun _ _ _ _ _ st h=>by
  obtain ⟨⟨old,he⟩,_⟩:=st
  exact wpAny_pyIter_enum he h
section
variable {prog:Program} {w:World} {A:Around} {E:Value→Shared→Prop} {s:Shared}
theorem sO (hit:s.heap.IsTupleIter it t i) (ht:s.heap.IsTuple t items) (hx:items[i]?=some x)
  (hQ:∀ h',h'.IsTupleIter it t (i+1)→Heap.SameBut it s.heap h'→Q x { s with heap:=h' }):wpAny (model prog w) A (Builtin.SmallTypes.nextOf (.ref it)) Q E s:=by
 obtain ⟨o,ho,hc,hd⟩:=id hit
 obtain ⟨ot,hot,_,nt,hdt⟩:=ht
 unfold Builtin.SmallTypes.nextOf
 refine wpAny_bind (wpAny_callSpecial?_slot (name:=Str.ofString "__next__") hit.typeIs F.slot_tuple_iterator_next (wpAny_call_entry F.slot_tuple_iterator_next hit.typeIs F.entry_tuple_iterator_next ?_ (F.args_tuple_iterator_next_1 _)))
 refine (show wpAny _ _ (field (.ref it) 0>>=_) _ _ s from wpAny_bind (wpAny_field ho hd (x:=.ref t) rfl ?_))
 show wpAny _ _ (if (Value.ref t == Value.none)=true then _ else _) _ _ s
 rw [if_neg (by intro z;exact Bool.false_ne_true z)]
 refine (show wpAny _ _ (field (.ref it) 1>>=_) _ _ s from wpAny_bind (wpAny_field ho hd (x:=.int i 0) rfl ?_))
 refine (show wpAny _ _ (seqItems? (.ref t)>>=_) _ _ s from wpAny_bind (wpAny_seqItems hot hdt ?_))
 simp only [Int.toNat_natCast,hx]
 refine wpAny_bind (wpAny_setField ho hd (by simp) (wpAny_pure ⟨x,rfl,wpAny_pure (hQ _ ⟨_,Heap.get?_update_self _ ho (Obj.isFreed_of_fields (Obj.data_mapFields hd _)),(Obj.cls_mapFields ..).trans hc,?_⟩ (Heap.SameBut.update ..))⟩))
 rw [Obj.data_mapFields hd];simp [rawInt]
theorem uv (hh:A.handled=none) (hit:s.heap.IsTupleIter it t i) (ht:s.heap.IsTuple t items) (hx:items[i]?=none)
  (hE:∀ h' e,Heap.ExtBut it s.heap h'→(∃ o,h'.get? e=some o∧o.cls=.type "StopIteration")→E (.ref e) { s with heap:=h' }):wpAny (model prog w) A (Builtin.SmallTypes.nextOf (.ref it)) Q E s:=by
 obtain ⟨o,ho,hc,hd⟩:=id hit
 obtain ⟨ot,hot,_,nt,hdt⟩:=ht
 unfold Builtin.SmallTypes.nextOf
 refine wpAny_bind (wpAny_callSpecial?_slot (name:=Str.ofString "__next__") hit.typeIs F.slot_tuple_iterator_next (wpAny_call_entry F.slot_tuple_iterator_next hit.typeIs F.entry_tuple_iterator_next ?_ (F.args_tuple_iterator_next_1 _)))
 refine (show wpAny _ _ (field (.ref it) 0>>=_) _ _ s from wpAny_bind (wpAny_field ho hd (x:=.ref t) rfl ?_))
 show wpAny _ _ (if (Value.ref t == Value.none)=true then _ else _) _ _ s
 rw [if_neg (by intro z;exact Bool.false_ne_true z)]
 refine (show wpAny _ _ (field (.ref it) 1>>=_) _ _ s from wpAny_bind (wpAny_field ho hd (x:=.int i 0) rfl ?_))
 refine (show wpAny _ _ (seqItems? (.ref t)>>=_) _ _ s from wpAny_bind (wpAny_seqItems hot hdt ?_))
 simp only [Int.toNat_natCast,hx]
 refine wpAny_bind (wpAny_rule (wpAny_bind (wpAny_setField ho hd (by simp) ?_)))
 refine (show wpAny _ _ (newExc (.type "StopIteration") []>>=_) _ _ _ from wpAny_bind ?_)
 simp only [newExc,newTuple]
 refine wpAny_bind (wpAny_newObj_type (wpAny_bind (m:=firstArgMember _ _) (wpAny_of_eq (a:=Value.none) (by first | rfl | (simp only [firstArgMember];rfl)) (wpAny_newObj_type ?_ (by size_fits)))) (by size_fits))
 simp only [raiseNew]
 refine wpAny_bind (wpAny_handled ?_)
 first | rw [show A.in1.handled=none from hh] | rw [hh]
 exact wpAny_bind (wpAny_pure (wpAny_throw (hE _ _ (((Heap.SameBut.update ..).extBut.push _).push _) ⟨_,Heap.get?_push_size _ rfl,rfl⟩)))
end
theorem B8 (hh:A.handled=none) (it t:Addr) (hne:t≠it) (items:Array Value) :
  Draws prog w A it [it,t] items.size (fun i v=>items[i]?=some v) (fun i h=>h.IsTupleIter it t i∧h.IsTuple t items) where
 live:=fun _ _ st=>let ⟨o,ho,_⟩:=st.1;⟨o,ho⟩
 frame:=fun _ _ _ st hk=>⟨st.1.at fun o e=>hk it (by simp) o e,st.2.at fun o e=>hk t (by simp) o e⟩
 item:=fun i s Q E hi st hQ=>sO st.1 st.2 (x:=items[i]) (by simp [hi]) fun h' a b=>hQ _ h' s.toks (by simp [hi]) ⟨a,st.2.extBut b.extBut hne⟩ b
 done:=fun s Q E st hE=>uv hh st.1 st.2 (by simp) hE
structure cY (z TI TO i1 i2:Addr) (fp1 fp2:List Addr):Prop where
 TIz:TI≠z
 TOz:TO≠z
 TITO:TI≠TO
 z1:z∉fp1
 z2:z∉fp2
 TO1:TO∉fp1
 TO2:TO∉fp2
 i12:i1∉fp2
 i21:i2∉fp1
 m1:i1∈fp1
 m2:i2∈fp2
 TI1:TI≠i1
 TI2:TI≠i2
section
variable {prog:Program} {w:World} {A:Around} {E:Value→Shared→Prop} {s:Shared} {z TI TO i1 i2:Addr} {fp1 fp2:List Addr} {n1 n2 k:Nat} {P1 P2:Nat→Value→Prop} {S1 S2:Nat→Heap→Prop} {a b:Value}
theorem cY.i1z (D:cY z TI TO i1 i2 fp1 fp2):i1≠z:=fun e=>D.z1 (e ▸ D.m1)
theorem cY.i2z (D:cY z TI TO i1 i2 fp1 fp2):i2≠z:=fun e=>D.z2 (e ▸ D.m2)
theorem cY.TOi1 (D:cY z TI TO i1 i2 fp1 fp2):TO≠i1:=fun e=>D.TO1 (e ▸ D.m1)
theorem cY.TOi2 (D:cY z TI TO i1 i2 fp1 fp2):TO≠i2:=fun e=>D.TO2 (e ▸ D.m2)
theorem lq {a:Addr} {Q:Option Obj→Shared→Prop} (h:Q (s.heap.get? a) s):wpAny (model prog w) A (loadIfAlive a) Q E s:=
 fun _ _ _=>h
abbrev dq (h:Heap) (z TI TO:Addr) (own:Value) (fl:Bool):Prop:=h.get? z=some { cls:=.type "zip",dict:=none,data:=.fields #[own,.bool fl,.bool false,.ref TI,.ref TO],slots:=#[] }
def mI (h:Heap) (own:Value):Prop:=own=.none∨∃ T:Addr,own=rawInt T∧h.get? T=none
theorem rP (hz:dq s.heap z TI TO own fl) (hf:mI s.heap own) (h:Q true s):wpAny (model prog w) A (Builtin.SmallTypes.ownedTupleIsFree (.ref z)) Q E s:=by
 unfold Builtin.SmallTypes.ownedTupleIsFree
 rcases hf with rfl | ⟨T,rfl,hT⟩
 ·exact wpAny_bind (wpAny_field hz rfl (x:=.none) rfl (wpAny_pure h))
 ·refine wpAny_bind (wpAny_field hz rfl (x:=rawInt T) rfl ?_)
  refine (show wpAny _ _ (loadIfAlive ((T:Int)).toNat>>=_) _ _ _ from wpAny_bind (lq ?_))
  rw [Int.toNat_natCast,hT]
  exact wpAny_ite_true rfl (wpAny_pure h)
theorem uF {Q:Value→Shared→Prop} (D:cY z TI TO i1 i2 fp1 fp2) (D1:Draws prog w A i1 fp1 n1 P1 S1) (D2:Draws prog w A i2 fp2 n2 P2 S2) {own:Value} {fl:Bool} (hz:dq s.heap z TI TO own fl) (hfr:mI s.heap own) (hTI:IsPair s.heap TI (.ref i1) (.ref i2)) (hTO:IsPair s.heap TO a b)
  (h1:S1 k s.heap) (h2:S2 k s.heap) (l1:k < n1) (l2:k < n2)
  (hQ:∀ x y h' tk,P1 k x→P2 k y→IsZip h' z TI TO (rawInt s.heap.objs.size)→IsPair h' TI (.ref i1) (.ref i2)→IsPair h' TO x y→S1 (k+1) h'→S2 (k+1) h'→IsPair h' s.heap.objs.size x y→h'.objs.size=s.heap.objs.size+1 →
   (∀ c o,c≠z→c≠TO→c≠i1→c≠i2→s.heap.get? c=some o→h'.get? c=some o)→Q (.ref s.heap.objs.size) { s with heap:=h',toks:=tk }) :
  wpAny (model prog w) A (Builtin.«zip.__next__» ⟨[.ref z],[]⟩) (fun fin s'=>∃ v,fin=.done (.ret v)∧Q v s') E s:=by
 refine (show wpAny _ _ (field (.ref z) 2>>=_) _ _ _ from wpAny_bind (wpAny_field hz rfl (x:=.bool false) rfl ?_))
 refine (show wpAny _ _ (field (.ref z) 3>>=_) _ _ _ from wpAny_bind (wpAny_field hz rfl (x:=.ref TI) rfl ?_))
 refine wpAny_bind (wpAny_seqItems hTI rfl ?_)
 refine (show wpAny _ _ (Builtin.SmallTypes.ownedTupleIsFree (.ref z)>>=_) _ _ _ from wpAny_bind (rP hz hfr ?_))
 simp only [if_true]
 refine wpAny_bind (wpAny_rule (wpAny_bind (wpAny_field hz rfl (x:=.ref TO) rfl ?_)))
 refine wpAny_bind (wpAny_setField_rec hz (by simp) fun g1 hz1 e1=>?_)
 replace hz1:dq g1 z TI TO .ellipsis fl:=hz1
 replace e1:Heap.SameBut z s.heap g1:=e1
 refine wpAny_bind ?_
 simp only [List.zipIdx_cons,List.zipIdx_nil,List.forIn_cons,List.forIn_nil]
 refine wpAny_bind (wpAny_bind (wpAny_onRaise ?_))
 have q1:S1 k g1:=D1.frame _ _ _ h1 fun c hc o q=>e1.extBut c o (fun y=>D.z1 (y ▸ hc)) q
 have q2:S2 k g1:=D2.frame _ _ _ h2 fun c hc o q=>e1.extBut c o (fun y=>D.z2 (y ▸ hc)) q
 refine (show wpAny _ _ (Builtin.SmallTypes.nextOf (.ref i1)>>=_) _ _ _ from wpAny_bind (D1.item k _ _ _ l1 q1 fun x g2 t2 p1 q1' e2=>wpAny_pure ?_))
 replace e2:Heap.SameBut i1 g1 g2:=e2
 have hTO2:IsPair g2 TO a b:=e2.extBut _ _ D.TOi1 (e1.extBut _ _ D.TOz hTO)
 refine wpAny_bind (wpAny_seqItems hTO2 rfl (wpAny_bind (wpAny_updateSeq_pair hTO2 fun g3 hTO3 e3=>?_)))
 replace hTO3:IsPair g3 TO x b:=hTO3
 replace e3:Heap.SameBut TO g2 g3:=e3
 refine wpAny_bind (wpAny_letGo (wpAny_pure ?_))
 refine wpAny_bind (wpAny_bind (wpAny_onRaise ?_))
 have r1:S1 (k+1) g3:=D1.frame _ _ _ q1' fun c hc o q=>e3.extBut c o (fun y=>D.TO1 (y ▸ hc)) q
 have r2:S2 k g3:=D2.frame _ _ _ q2 fun c hc o q=>e3.extBut c o (fun y=>D.TO2 (y ▸ hc)) (e2.extBut c o (fun y=>D.i12 (y ▸ hc)) q)
 refine (show wpAny _ _ (Builtin.SmallTypes.nextOf (.ref i2)>>=_) _ _ _ from wpAny_bind (D2.item k _ _ _ l2 r2 fun y g4 t4 p2 r2' e4=>wpAny_pure ?_))
 replace e4:Heap.SameBut i2 g3 g4:=e4
 have hTO4:IsPair g4 TO x b:=e4.extBut _ _ D.TOi2 hTO3
 refine wpAny_bind (wpAny_seqItems hTO4 rfl (wpAny_bind (wpAny_updateSeq_pair hTO4 fun g5 hTO5 e5=>?_)))
 replace hTO5:IsPair g5 TO x y:=hTO5
 replace e5:Heap.SameBut TO g4 g5:=e5
 refine wpAny_bind (wpAny_letGo (wpAny_pure (wpAny_pure ?_)))
 refine wpAny_bind (wpAny_seqItems hTO5 rfl (wpAny_bind (wpAny_newTuple ?_)))
 have hsz:g5.objs.size=s.heap.objs.size:=by rw [e5.1,e4.1,e3.1,e2.1,e1.1]
 have hz5:dq g5 z TI TO .ellipsis fl:=e5.extBut _ _ D.TOz.symm (e4.extBut _ _ D.i2z.symm (e3.extBut _ _ D.TOz.symm (e2.extBut _ _ D.i1z.symm hz1)))
 have k5:∀ c o,c≠z→c≠TO→c≠i1→c≠i2→s.heap.get? c=some o→g5.get? c=some o:=fun c o c1 c2 c3 c4 q=>
  e5.extBut _ _ c2 (e4.extBut _ _ c4 (e3.extBut _ _ c2 (e2.extBut _ _ c3 (e1.extBut _ _ c1 q))))
 have u1:S1 (k+1) g5:=D1.frame _ _ _ r1 fun c hc o q=>e5.extBut c o (fun y=>D.TO1 (y ▸ hc)) (e4.extBut c o (fun y=>D.i21 (y ▸ hc)) q)
 have u2:S2 (k+1) g5:=D2.frame _ _ _ r2' fun c hc o q=>e5.extBut c o (fun y=>D.TO2 (y ▸ hc)) q
 have hzl:z < g5.objs.size:=Heap.lt_size hz5
 refine (show wpAny _ _ (Builtin.SmallTypes.ownedTupleHandOut (.ref z) (.ref g5.objs.size)>>=_) _ _ _ from wpAny_bind ?_)
 unfold Builtin.SmallTypes.ownedTupleHandOut
 have hz6:dq (g5.push { cls:=.type "tuple",data:=.seq #[x,y] }) z TI TO .ellipsis fl:=Heap.get?_push_of_some _ hz5
 refine wpAny_bind (wpAny_setField_rec hz6 (by simp) fun g7 hz7 e7=>?_)
 replace hz7:dq g7 z TI TO (rawInt g5.objs.size) fl:=hz7
 refine wpAny_setField_rec hz7 (by simp) fun g8 hz8 e8=>?_
 replace hz8:IsZip g8 z TI TO (rawInt g5.objs.size):=hz8
 replace e7:Heap.SameBut z (g5.push { cls:=.type "tuple",data:=.seq #[x,y] }) g7:=e7
 replace e8:Heap.SameBut z g7 g8:=e8
 have up:∀ c o,c≠z→g5.get? c=some o→g8.get? c=some o:=fun c o c1 q=>e8.extBut _ _ c1 (e7.extBut _ _ c1 (Heap.get?_push_of_some _ q))
 have hT8:IsPair g8 g5.objs.size x y:=e8.extBut _ _ (Nat.ne_of_gt hzl) (e7.extBut _ _ (Nat.ne_of_gt hzl) (Heap.get?_push_size _ rfl))
 have z8:g8.objs.size=g5.objs.size+1:=by rw [e8.1,e7.1,Heap.size_push]
 rw [hsz] at hz8 hT8 z8
 refine wpAny_pure ⟨_,rfl,?_⟩
 show Q (.ref g5.objs.size) _
 rw [hsz]
 exact hQ x y g8 _ p1 p2 hz8 (up _ _ D.TIz (k5 _ _ D.TIz D.TITO D.TI1 D.TI2 hTI)) (up _ _ D.TOz hTO5) (D1.frame _ _ _ u1 fun c hc o q=>up c o (fun y=>D.z1 (y ▸ hc)) q) (D2.frame _ _ _ u2 fun c hc o q=>up c o (fun y=>D.z2 (y ▸ hc)) q) hT8 z8
  fun c o c1 c2 c3 c4 q=>up c o c1 (k5 c o c1 c2 c3 c4 q)
theorem v9 (D:cY z TI TO i1 i2 fp1 fp2) (D1:Draws prog w A i1 fp1 n1 P1 S1) (D2:Draws prog w A i2 fp2 n2 P2 S2) (hz:dq s.heap z TI TO own fl) (hfr:mI s.heap own) (hTI:IsPair s.heap TI (.ref i1) (.ref i2)) (hTO:IsPair s.heap TO a b)
  (h1:S1 k s.heap) (h2:S2 k s.heap) (hend:k=n1∨(k < n1∧k=n2))
  (hE:∀ h' e tk,(∀ c o,c≠z→c≠TO→c≠i1→c≠i2→s.heap.get? c=some o→h'.get? c=some o)→(∃ o,h'.get? e=some o∧o.cls=.type "StopIteration")→E (.ref e) { s with heap:=h',toks:=tk }) :
  wpAny (model prog w) A (Builtin.«zip.__next__» ⟨[.ref z],[]⟩) Q E s:=by
 refine (show wpAny _ _ (field (.ref z) 2>>=_) _ _ _ from wpAny_bind (wpAny_field hz rfl (x:=.bool false) rfl ?_))
 refine (show wpAny _ _ (field (.ref z) 3>>=_) _ _ _ from wpAny_bind (wpAny_field hz rfl (x:=.ref TI) rfl ?_))
 refine wpAny_bind (wpAny_seqItems hTI rfl ?_)
 refine (show wpAny _ _ (Builtin.SmallTypes.ownedTupleIsFree (.ref z)>>=_) _ _ _ from wpAny_bind (rP hz hfr ?_))
 simp only [if_true]
 refine wpAny_bind (wpAny_rule (wpAny_bind (wpAny_field hz rfl (x:=.ref TO) rfl ?_)))
 refine wpAny_bind (wpAny_setField_rec hz (by simp) fun g1 hz1 e1=>?_)
 replace hz1:dq g1 z TI TO .ellipsis fl:=hz1
 replace e1:Heap.SameBut z s.heap g1:=e1
 refine wpAny_bind ?_
 simp only [List.zipIdx_cons,List.zipIdx_nil,List.forIn_cons,List.forIn_nil]
 refine wpAny_bind (wpAny_bind (wpAny_onRaise ?_))
 have q1:S1 k g1:=D1.frame _ _ _ h1 fun c hc o q=>e1.extBut c o (fun y=>D.z1 (y ▸ hc)) q
 have q2:S2 k g1:=D2.frame _ _ _ h2 fun c hc o q=>e1.extBut c o (fun y=>D.z2 (y ▸ hc)) q
 rcases hend with hk | ⟨hk,hk2⟩
 ·subst hk
  refine (show wpAny _ _ (Builtin.SmallTypes.nextOf (.ref i1)>>=_) _ _ _ from wpAny_bind (D1.done _ _ _ q1 fun g2 e e2 he=>?_))
  obtain ⟨oe,hoe,hce⟩:=he
  replace e2:Heap.ExtBut i1 g1 g2:=e2
  have hz2:dq g2 z TI TO .ellipsis fl:=e2 _ _ D.i1z.symm hz1
  have hez:e≠z:=fun x=>by subst x;rw [hz2] at hoe;cases hoe;simp at hce
  refine wpAny_setField_rec hz2 (by simp) fun g3 _ e3=>hE g3 e _ (fun c o c1 _ c3 _ q=>e3.extBut _ _ c1 (e2 _ _ c3 (e1.extBut _ _ c1 q))) ⟨oe,e3.extBut _ _ hez hoe,hce⟩
 ·subst hk2
  refine (show wpAny _ _ (Builtin.SmallTypes.nextOf (.ref i1)>>=_) _ _ _ from wpAny_bind (D1.item k _ _ _ hk q1 fun x g2 t2 p1 q1' e2=>wpAny_pure ?_))
  replace e2:Heap.SameBut i1 g1 g2:=e2
  have hTO2:IsPair g2 TO a b:=e2.extBut _ _ D.TOi1 (e1.extBut _ _ D.TOz hTO)
  refine wpAny_bind (wpAny_seqItems hTO2 rfl (wpAny_bind (wpAny_updateSeq_pair hTO2 fun g3 hTO3 e3=>?_)))
  replace e3:Heap.SameBut TO g2 g3:=e3
  refine wpAny_bind (wpAny_letGo (wpAny_pure ?_))
  refine wpAny_bind (wpAny_bind (wpAny_onRaise ?_))
  have r2:S2 k g3:=D2.frame _ _ _ q2 fun c hc o q=>e3.extBut c o (fun y=>D.TO2 (y ▸ hc)) (e2.extBut c o (fun y=>D.i12 (y ▸ hc)) q)
  refine (show wpAny _ _ (Builtin.SmallTypes.nextOf (.ref i2)>>=_) _ _ _ from wpAny_bind (D2.done _ _ _ r2 fun g4 e e4 he=>?_))
  obtain ⟨oe,hoe,hce⟩:=he
  replace e4:Heap.ExtBut i2 g3 g4:=e4
  have hz4:dq g4 z TI TO .ellipsis fl:=e4 _ _ D.i2z.symm (e3.extBut _ _ D.TOz.symm (e2.extBut _ _ D.i1z.symm hz1))
  have hez:e≠z:=fun x=>by subst x;rw [hz4] at hoe;cases hoe;simp at hce
  refine wpAny_setField_rec hz4 (by simp) fun g5 _ e5=>hE g5 e _ (fun c o c1 c2 c3 c4 q=>e5.extBut _ _ c1 (e4 _ _ c4 (e3.extBut _ _ c2 (e2.extBut _ _ c3 (e1.extBut _ _ c1 q))))) ⟨oe,e5.extBut _ _ hez hoe,hce⟩
end
section
variable {prog:Program} {w:World} {A:Around} {E:Value→Shared→Prop} {s:Shared} {z TI TO i1 i2:Addr} {fp1 fp2:List Addr} {n1 n2 k:Nat} {P1 P2:Nat→Value→Prop} {S1 S2:Nat→Heap→Prop} {a b:Value}
theorem nH (D:cY z TI TO i1 i2 fp1 fp2) (D1:Draws prog w A.in1 i1 fp1 n1 P1 S1) (D2:Draws prog w A.in1 i2 fp2 n2 P2 S2) (hz:dq s.heap z TI TO own fl) (hfr:mI s.heap own) (hTI:IsPair s.heap TI (.ref i1) (.ref i2)) (hTO:IsPair s.heap TO a b)
  (h1:S1 k s.heap) (h2:S2 k s.heap) (l1:k < n1) (l2:k < n2)
  (hQ:∀ x y h' tk,P1 k x→P2 k y→IsZip h' z TI TO (rawInt s.heap.objs.size)→IsPair h' TI (.ref i1) (.ref i2)→IsPair h' TO x y→S1 (k+1) h'→S2 (k+1) h'→IsPair h' s.heap.objs.size x y→h'.objs.size=s.heap.objs.size+1 →
   (∀ c o,c≠z→c≠TO→c≠i1→c≠i2→s.heap.get? c=some o→h'.get? c=some o)→Q (some (.ref s.heap.objs.size)) { s with heap:=h',toks:=tk }) :
  wpAny (model prog w) A (pyNext (.ref z)) Q E s:=by
 have hT:s.TypeIs (.ref z) "zip":=⟨_,hz,rfl⟩
 unfold pyNext
 exact wpAny_bind (wpAny_attempt (wpAny_callSpecial?_slot (name:=Str.ofString "__next__") hT F.slot_zip_next (wpAny_call_entry F.slot_zip_next hT F.entry_zip_next
  (uF D D1 D2 hz hfr hTI hTO h1 h2 l1 l2 fun x y h' tk a1 a2 a3 a4 a5 a6 a7 a8 a9 a10=>wpAny_pure (hQ x y h' tk a1 a2 a3 a4 a5 a6 a7 a8 a9 a10)) (F.args_zip_next_1 _))))
theorem p9 (D:cY z TI TO i1 i2 fp1 fp2) (D1:Draws prog w A.in1 i1 fp1 n1 P1 S1) (D2:Draws prog w A.in1 i2 fp2 n2 P2 S2) (hz:dq s.heap z TI TO own fl) (hfr:mI s.heap own) (hTI:IsPair s.heap TI (.ref i1) (.ref i2)) (hTO:IsPair s.heap TO a b)
  (h1:S1 k s.heap) (h2:S2 k s.heap) (hend:k=n1∨(k < n1∧k=n2))
  (hQ:∀ h' tk,(∀ c o,c≠z→c≠TO→c≠i1→c≠i2→s.heap.get? c=some o→h'.get? c=some o)→Q none { s with heap:=h',toks:=tk }):wpAny (model prog w) A (pyNext (.ref z)) Q E s:=by
 have hT:s.TypeIs (.ref z) "zip":=⟨_,hz,rfl⟩
 unfold pyNext
 refine wpAny_bind (wpAny_attempt (wpAny_callSpecial?_slot (name:=Str.ofString "__next__") hT F.slot_zip_next (wpAny_call_entry F.slot_zip_next hT F.entry_zip_next
  (v9 D D1 D2 hz hfr hTI hTO h1 h2 hend fun h' e tk hk he=>?_) (F.args_zip_next_1 _))))
 obtain ⟨o,ho,hc⟩:=he
 exact wpAny_bind (wpAny_isInstance (T:="StopIteration") (b:=true) ⟨o,ho,hc⟩ isSubtype_stop (wpAny_pure (hQ _ tk hk)))
end
theorem mE (ht:∀ c∈[N+4,N+2,N+3,N,N+1],t≠c) (hu:∀ c∈[N+4,N+2,N+3,N,N+1],u≠c):cY (N+4) (N+2) (N+3) N (N+1) [N,t] [N+1,u]:=by
 have d:∀ i j:Nat,i≠j→(N+i:Nat)≠N+j:=fun i j h e=>h (Nat.add_left_cancel e)
 have t4:=ht (N+4) (by simp);have t3:=ht (N+3) (by simp);have t1:=ht (N+1) (by simp)
 have u4:=hu (N+4) (by simp);have u3:=hu (N+3) (by simp);have u0:=hu N (by simp)
 refine ⟨d 2 4 (by decide),d 3 4 (by decide),d 2 3 (by decide),fun h=>?_,fun h=>?_,fun h=>?_,fun h=>?_,fun h=>?_,fun h=>?_,by simp,by simp,d 2 0 (by decide),d 2 1 (by decide)⟩
 ·rcases List.mem_cons.mp h with z | z
  ·exact d 4 0 (by decide) z
  ·exact t4 (List.mem_singleton.mp z).symm
 ·rcases List.mem_cons.mp h with z | z
  ·exact d 4 1 (by decide) z
  ·exact u4 (List.mem_singleton.mp z).symm
 ·rcases List.mem_cons.mp h with z | z
  ·exact d 3 0 (by decide) z
  ·exact t3 (List.mem_singleton.mp z).symm
 ·rcases List.mem_cons.mp h with z | z
  ·exact d 3 1 (by decide) z
  ·exact u3 (List.mem_singleton.mp z).symm
 ·rcases List.mem_cons.mp h with z | z
  ·exact d 0 1 (by decide) z
  ·exact u0 (List.mem_singleton.mp z).symm
 ·rcases List.mem_cons.mp h with z | z
  ·exact d 1 0 (by decide) z
  ·exact t1 (List.mem_singleton.mp z).symm
section
variable {prog:Program} {w:World} {A:Around} {E:Value→Shared→Prop} {s:Shared}
theorem wC {t sl:Addr} {items:Array Value} {vl vu:Value} {lo hi:Option Int} {Q:Value→Shared→Prop} (ht:IsTup s.heap t items) (hs:s.heap.IsSliceOf sl vl vu .none) (pl:IsPart vl lo) (pu:IsPart vu hi)
    (hw:HT.sIx items.size 0 lo=0∧HT.sIx items.size items.size hi=items.size) (h:Q (.ref t) s):wpAny (model prog w) A (getItem (.ref t) (.ref sl)) Q E s:=by
  obtain ⟨os,hos,hcs,hds⟩:=id hs
  have hTs:s.TypeIs (.ref sl) "slice":=⟨os,hos,hcs⟩
  unfold getItem
  try with_reducible refine wpAny_holding ?_
  first | refine wpAny_bind (wpAny_pure ?_) | skip
  refine wpAny_bind (wpAny_sequenceKey ht.typeIs (by decide) ?_)
  refine wpAny_bind (wpAny_callSpecial?_slot (name:=Str.ofString "__getitem__") ht.typeIs PyProof.Rows.slot_tuple_getitem (wpAny_call_entry PyProof.Rows.slot_tuple_getitem ht.typeIs entry_tuple_getitem ?_ (args_tuple_getitem _ _)))
  refine (show wpAny _ _ (Builtin.Tuple.tupleItemsOf (.ref t)>>=_) _ _ s from wpAny_bind (tupleItemsOf_ ht (wpAny_bind (wpAny_typeOf hTs ?_))))
  rw [if_pos (by decide)]
  refine wpAny_bind (HT.g_ hs pl pu ?_)
  have yes:(((HT.sIx items.size 0 lo:Nat):Int) == 0 && (1:Int) == 1 && (HT.sIx items.size items.size hi - HT.sIx items.size 0 lo) == items.size)=true:=by
    rw [hw.1,hw.2];simp
  show wpAny _ _ (if (((HT.sIx items.size 0 lo:Nat):Int) == 0 && (1:Int) == 1 && (HT.sIx items.size items.size hi - HT.sIx items.size 0 lo) == items.size)=true then _ else _) _ _ s
  rw [if_pos yes]
  obtain ⟨o,ho,hcl,n,hd⟩:=id ht
  have hT:s.TypeIs (.ref t) "tuple":=⟨o,ho,hcl⟩
  have hx:wpAny (model prog w) A.in1 (Builtin.Tuple.tupleIsExact (.ref t)) (fun b s'=>b=true∧s'=s) E s:=by
    unfold Builtin.Tuple.tupleIsExact
    first
      | exact wpAny_bind (wpAny_typeOf hT (wpAny_pure ⟨by decide,rfl⟩))
      | (refine wpAny_bind (wpAny_typeOf hT ?_);exact wpAny_pure ⟨by simp,rfl⟩)
  refine wpAny_bind (wpAny_mono hx (fun b s' hb=>?_) fun _ _ x=>x)
  obtain ⟨rfl,rfl⟩:=hb
  rw [if_pos rfl]
  exact wpAny_bind (wpAny_rule (wpAny_pure ⟨_,rfl,wpAny_pure h⟩))
theorem AZ {ws:List Value} (ht:IsTup s.heap t ([]:List Value).toArray) (hb:IsTup s.heap b ws.toArray) (h:Q (.ref b) s):wpAny (model prog w) A (binaryOp .Add (.ref t) (.ref b)) Q E s:=by
 obtain ⟨⟨cls,dd,data,sl⟩,ho,hc,n,hd⟩:=id ht
 obtain ⟨⟨cls2,dd2,data2,sl2⟩,ho2,hc2,n2,hd2⟩:=id hb
 simp only at hc hd hc2 hd2
 subst hc hd hc2 hd2
 exact concat_meets ⟨_,ho,rfl⟩ ⟨_,ho2,rfl⟩ noFill_tuple_add seq_tuple_add PySem.F.slot_tuple_add PySem.F.entry_tuple_add (PySem.F.args_tuple_add_2 _ _) (tuple_addW0 t b _ _ n n2 dd dd2 sl sl2 (by simp)) ⟨ho,ho2,h⟩
end
section
variable {X:Cx}
def hW (n:Nat) (lo hi:Option Int):Prop:=HT.sIx n 0 lo=0∧HT.sIx n n hi=n
instance (n:Nat) (lo hi:Option Int):Decidable (hW n lo hi):=inferInstanceAs (Decidable (_∧_))
def Er (K:PySem.W.Frag):V→Option Int→Option Int→Hp→VK→Prop:=fun x lo hi H Q=>∃ a xs,x=.ref a∧SqT K H a xs∧(hW xs.length lo hi→Q (.ref a) H)∧(¬hW xs.length lo hi→∀ p,H p=none→Q (.ref p) (upd H p (.tup (gG xs lo hi))))
theorem y9:SlR X (Er X.K):=by
 intro pins s σ H x v vl vu lo hi sl Q I rx hs pl pu h
 obtain ⟨a,xs,rfl,hx,q1,q2⟩:=h
 by_cases hw:hW xs.length lo hi
 ·cases rx
  obtain ⟨its,r,ht,hz⟩:=I.tuple hx
  have hlen:its.toArray.size=xs.length:=by rw [List.size_toArray];exact r.length.symm
  refine ⟨"tuple",_,PyProof.Rows.slot_tuple_getitem.lookup,ht.typeIs,?_⟩
  exact wC ht hs pl pu (by rw [hlen];exact hw) ⟨.ref a,H,I,rfl,q1 hw⟩
 ·exact BD pins s σ H (.ref a) v vl vu lo hi sl Q I rx hs pl pu ⟨a,xs,rfl,hx,hw,q2 hw⟩
def AK (K:PySem.W.Frag):R2:=fun x y H Q=>∃ a b xs ys,x=.ref a∧y=.ref b∧SqT K H a xs∧SqT K H b ys∧xs.length+ys.length≤sizeLine ∧
 (xs=[]→Q (.ref b) H)∧(xs≠[]→ys=[]→Q (.ref a) H)∧(xs≠[]→ys≠[]→∀ p,H p=none→Q (.ref p) (upd H p (.tup (xs++ys))))
theorem w6:OpR X (binaryOp .Add) (AK X.K):=by
 intro pins s σ H x y v u Q I rx ry h
 obtain ⟨a,b,xs,ys,rfl,rfl,ha,hb,hz,q1,q2,q3⟩:=h
 by_cases hx:xs=[]
 ·cases rx
  cases ry
  obtain ⟨its,r1,p1,_⟩:=I.tuple ha
  obtain ⟨its2,r2,p2,_⟩:=I.tuple hb
  obtain rfl:its=[]:=r1.k8.mpr hx
  exact AZ p1 p2 ⟨.ref b,H,I,rfl,q1 hx⟩
 ·exact zb pins s σ H (.ref a) (.ref b) v u Q I rx ry ⟨a,b,xs,ys,rfl,rfl,ha,hb,hx,hz,q2 hx,q3 hx⟩
def wU:R2:=fun x y H Q=>∃ d e,Rep H x d∧Rep H y e∧D.depth d≤50∧((∃ ds es,d=.tup ds∧e=.tup es)∨∃ ds es,d=.lst ds∧e=.lst es)∧Q (.bl (D.eqv d e)) H
def xR:R2:=fun x y H Q=>∃ d e,Rep H x d∧Rep H y e∧D.depth d≤50∧((∃ ds es,d=.tup ds∧e=.tup es)∨∃ ds es,d=.lst ds∧e=.lst es)∧Q (.bl (!D.eqv d e)) H
theorem jB {A:Around} {ds es:List D} {its its2:List Value} (I:Inv X pins σ H s) (hu:A.units+64 < cLine) (hd:D.bf ds≤50) (r1:Vals vs its) (r2:Vals us its2) (q1:ax H vs ds) (q2:ax H us es) :
  ∀ j (h1:j < its.toArray.size) (h2:j < its2.toArray.size),SeqAt.EqAt A.in1 s its.toArray[j] its2.toArray[j] (D.eqv (ds.getD j .non) (es.getD j .non)):=by
 intro j h1 h2
 have h1':j < its.length:=by simpa using h1
 have h2':j < its2.length:=by simpa using h2
 have l1:=r1.length
 have l2:=r2.length
 have e1:vs[j]?=some (vs[j]'(by omega)):=List.getElem?_eq_getElem _
 have e2:us[j]?=some (us[j]'(by omega)):=List.getElem?_eq_getElem _
 obtain ⟨a1,b1,c1⟩:=r1.get e1
 obtain ⟨a2,b2,c2⟩:=r2.get e2
 obtain ⟨f1,g1,k1⟩:=q1.get e1
 obtain ⟨f2,g2,k2⟩:=q2.get e2
 have z1:its.toArray[j]=a1:=by
  have:its[j]?=some its[j]:=List.getElem?_eq_getElem h1'
  rw [b1] at this
  simpa using (Option.some.inj this).symm
 have z2:its2.toArray[j]=a2:=by
  have:its2[j]?=some its2[j]:=List.getElem?_eq_getElem h2'
  rw [b2] at this
  simpa using (Option.some.inj this).symm
 rw [z1,z2,List.getD_eq_getElem?_getD,List.getD_eq_getElem?_getD,g1,g2]
 exact um I 60 A.in1 _ _ _ _ _ _ (by show A.units+1+60 < cLine;omega) (Nat.le_trans (D.gq g1) (by omega)) c1 c2 k1 k2
theorem Bo (hu:X.A.units+64 < cLine):OpR X (compareOp .Eq) wU:=by
 intro pins s σ H x y v u Q I rx ry h
 obtain ⟨d,e,r1,r2,hd,hk,q⟩:=h
 rcases hk with ⟨ds,es,rfl,rfl⟩ | ⟨ds,es,rfl,rfl⟩
 ·cases r1 with
  | tup h1 q1=>
   cases r2 with
   | tup h2 q2=>
    cases rx;cases ry
    obtain ⟨its,rv1,p1,_⟩:=I.tuple (SqT.of h1)
    obtain ⟨its2,rv2,p2,_⟩:=I.tuple (SqT.of h2)
    refine SeqAt.eq_tupleAt (e:=fun j=>D.eqv (ds.getD j .non) (es.getD j .non)) p1 p2 (by omega) (jB I hu (by simp only [D.depth] at hd;omega) rv1 rv2 q1 q2) ⟨.bl _,H,I,rfl,?_⟩
    rw [List.size_toArray,List.size_toArray,← rv1.length,← rv2.length,q1.length,q2.length,← D.cg]
    simpa only [D.eqv] using q
 ·cases r1 with
  | lst h1 q1=>
   cases r2 with
   | lst h2 q2=>
    cases rx;cases ry
    obtain ⟨its,rv1,p1,_⟩:=I.list (SqL.of h1)
    obtain ⟨its2,rv2,p2,_⟩:=I.list (SqL.of h2)
    have l1:=rv1.length
    have l2:=rv2.length
    have m1:=q1.length
    have m2:=q2.length
    by_cases hl:ds.length=es.length
    ·refine SeqAt.eq_listAt (e:=fun j=>D.eqv (ds.getD j .non) (es.getD j .non)) p1.isList p2.isList (by simp;omega) (by omega) (jB I hu (by simp only [D.depth] at hd;omega) rv1 rv2 q1 q2) ⟨.bl _,H,I,rfl,?_⟩
     have z:D.b9 ds es=(List.range its.toArray.size).all fun j=>D.eqv (ds.getD j .non) (es.getD j .non):=by
      rw [D.cg,← hl,Nat.min_self,List.size_toArray,← l1,m1];simp
     rw [← z]
     simpa only [D.eqv] using q
    ·refine SeqAt.eq_list_lengthsAt p1.isList p2.isList (by simp;omega) (by omega) ⟨.bl _,H,I,rfl,?_⟩
     have z:D.b9 ds es=false:=by rw [D.cg];simp [hl]
     simpa only [D.eqv,z] using q
theorem AW (hu:X.A.units+64 < cLine):OpR X (compareOp .NotEq) xR:=by
 intro pins s σ H x y v u Q I rx ry h
 obtain ⟨d,e,r1,r2,hd,hk,q⟩:=h
 rcases hk with ⟨ds,es,rfl,rfl⟩ | ⟨ds,es,rfl,rfl⟩
 ·cases r1 with
  | tup h1 q1=>
   cases r2 with
   | tup h2 q2=>
    cases rx;cases ry
    obtain ⟨its,rv1,p1,_⟩:=I.tuple (SqT.of h1)
    obtain ⟨its2,rv2,p2,_⟩:=I.tuple (SqT.of h2)
    refine SeqAt.RcNeAt.tuples (e:=fun j=>D.eqv (ds.getD j .non) (es.getD j .non)) p1 p2 (by omega) (jB I hu (by simp only [D.depth] at hd;omega) rv1 rv2 q1 q2) _ _ _ _ ⟨.bl _,H,I,rfl,?_⟩
    rw [List.size_toArray,List.size_toArray,← rv1.length,← rv2.length,q1.length,q2.length,← D.cg]
    simpa only [D.eqv] using q
 ·cases r1 with
  | lst h1 q1=>
   cases r2 with
   | lst h2 q2=>
    cases rx;cases ry
    obtain ⟨its,rv1,p1,_⟩:=I.list (SqL.of h1)
    obtain ⟨its2,rv2,p2,_⟩:=I.list (SqL.of h2)
    have l1:=rv1.length
    have l2:=rv2.length
    have m1:=q1.length
    have m2:=q2.length
    by_cases hl:ds.length=es.length
    ·refine SeqAt.RcNeAt.lists (e:=fun j=>D.eqv (ds.getD j .non) (es.getD j .non)) p1.isList p2.isList (by simp;omega) (by omega) (jB I hu (by simp only [D.depth] at hd;omega) rv1 rv2 q1 q2) _ _ _ _ ⟨.bl _,H,I,rfl,?_⟩
     have z:D.b9 ds es=(List.range its.toArray.size).all fun j=>D.eqv (ds.getD j .non) (es.getD j .non):=by
      rw [D.cg,← hl,Nat.min_self,List.size_toArray,← l1,m1];simp
     rw [← z]
     simpa only [D.eqv] using q
    ·refine SeqAt.RcNeAt.lists_lengths p1.isList p2.isList (by simp;omega) (by omega) _ _ _ _ ⟨.bl _,H,I,rfl,?_⟩
     have z:D.b9 ds es=false:=by rw [D.cg];simp [hl]
     simpa only [D.eqv,z,Bool.not_false] using q
theorem Ba (hu:X.A.units+64 < cLine):OpR X (compareOp .Eq) (fun x y H Q=>rEq x y H Q∨wU x y H Q):=DX.or (Bo hu)
theorem Ci (hu:X.A.units+64 < cLine):OpR X (compareOp .NotEq) (fun x y H Q=>rNe x y H Q∨xR x y H Q):=DC.or (AW hu)
theorem Bz:OpR X (compareOp .Is) (fun x y H Q=>wM x y H Q∨(y=.non∧Q (.bl (decide (x=.non))) H)):=xM.or Cp
theorem si:∀ {bs:List Bool} {us:List Value},Vals (bs.map V.bl) us→us=bs.map Value.bool
 | [],_,h=>by cases h;rfl
 | b :: bs,_,h=>by
  cases h with
  | cons r t=>cases r;rw [si t];rfl
theorem ud (hc:X.calm=true):bI X (.builtin "all") (fun xs H Q=>∃ (p:Addr) (bs:List Bool),xs=[.ref p]∧SqL X.K H p (bs.map V.bl)∧Q (.bl (bs.all id)) H):=by
 intro pins s σ H xs us Q I r h
 obtain ⟨p,bs,rfl,hq,q⟩:=h
 obtain ⟨u,rfl,rx⟩:=vals1 r
 cases rx
 obtain ⟨its,rv,pl,hz⟩:=I.list hq
 have hits:=si rv
 subst hits
 have hA:X.A.in1.handled=none:=I.ok.hd hc
 obtain ⟨o,ho,hcl,n,hd⟩:=pl.isList
 have hne:p≠s.heap.objs.size:=Nat.ne_of_lt (Heap.lt_size ho)
 refine call_all_walk (wpAny_pyIter_list pl.isList ?_)
 refine ⟨s.heap.objs.size,_,_,_,_,_,fun i=>bs.getD i true,rfl,Walks.list (prog:=X.prog) (w:=X.w) hA s.heap.objs.size p hne (bs.map Value.bool).toArray,⟨⟨_,Heap.get?_push_size _ rfl,rfl,rfl⟩,⟨o,Heap.get?_push_of_some _ ho,hcl,n,hd⟩⟩,?_,fun h' tk hk=>?_⟩
 ·intro i v s' Q' E' hP hQ
  have hP':(bs.map Value.bool).toArray[i]?=some v:=hP
  rw [List.getElem?_toArray,List.getElem?_map] at hP'
  cases e:bs[i]? with
  | none=>rw [e] at hP';cases hP'
  | some b=>
   rw [e] at hP'
   cases hP'
   have hQ:Q' (bs.getD i true) s':=hQ
   rw [List.getD_eq_getElem?_getD,e] at hQ
   exact wpAny_truthy_bool hQ
 ·have z:(List.range (bs.map Value.bool).toArray.size).all (fun i=>bs.getD i true)=bs.all id:=by
   rw [List.size_toArray,List.length_map,Bool.eq_iff_iff,List.all_eq_true,List.all_eq_true]
   constructor
   ·intro h b hb
    obtain ⟨i,hi,e⟩:=List.mem_iff_getElem.mp hb
    have:=h i (List.mem_range.mpr hi)
    rw [List.getD_eq_getElem?_getD,List.getElem?_eq_getElem hi] at this
    simpa [e] using this
   ·intro h i hi
    have hi':=List.mem_range.mp hi
    rw [List.getD_eq_getElem?_getD,List.getElem?_eq_getElem hi']
    exact h _ (List.getElem_mem hi')
  rw [z]
  have I1:Inv X pins σ H { s with heap:=s.heap.push { cls:=.type "list_iterator",data:=.fields #[.ref p,.int 0 0] } }:=I.kept (t':=s.toks) fun b o e=>Heap.get?_push_of_some _ e
  have fk:eF X pins H s.heap.objs.size:=I.kQ (Nat.le_refl _) (I.hok.fresh (Nat.le_refl _))
  obtain ⟨f0,f1,f2,f3,f4,f5⟩:=fk
  exact ⟨.bl _,H,I1.turned (t':=tk) (it:=s.heap.objs.size) (fun b o hb e=>hk b o (fun z=>hb (List.mem_singleton.mp z)) e) f0 f1 f3 f4 f5,rfl,q⟩
theorem qK:bI X (.builtin "sorted") (fun xs H Q=>∃ (p:Addr) (ns:List Int),xs=[.ref p]∧SqL X.K H p (ns.map V.int)∧ns.length < 64∧∀ (l:Addr) (ms:List Int),H l=none→List.Perm ms ns→ms.Pairwise (·≤·)→Q (.ref l) (upd H l (.lst (ms.map V.int)))):=by
 intro pins s σ H xs us Q I r h
 obtain ⟨p,ns,rfl,hq,hl,q⟩:=h
 obtain ⟨u,rfl,rx⟩:=vals1 r
 cases rx
 obtain ⟨its,rv,pl,hz⟩:=I.list hq
 have hI:IntsAre its ns:=intsAre_of rv
 have h64:its.length < 64:=by rw [← rv.length,List.length_map];exact hl
 refine sorted_ints pl.isList hI h64 fun out ms hout hperm hpair=>?_
 obtain ⟨e,he⟩:=sortedAll_at s.heap its out
 refine ⟨.ref (s.heap.objs.size+1),_,I.laid (t':=s.toks) (o:=.lst (ms.map V.int)) (fun b ob q=>sortedAll_old q) (Nat.le_succ _) ?_,rfl,q _ ms (I.hok.fresh (Nat.le_succ _)) hperm hpair⟩
 have hlm:ms.length=ns.length:=hperm.length_eq
 exact ⟨by rw [List.length_map];have:(64:Nat)≤sizeLine:=(by decide);omega,out.toList,e,ir hout,by simpa using he⟩
end
def h_ (H:Hp) (p:Addr):Option (List V):=match H p with
 | some (.lst xs)=>some xs
 | some (.tup xs)=>some xs
 | _=>none
theorem Bd (h:H p=some (.tup xs)):h_ H p=some xs:=by unfold h_;rw [h]
theorem Ay (h:H p=some (.lst xs)):h_ H p=some xs:=by unfold h_;rw [h]
theorem i9 (h:h_ H p=some xs):H p=some (.lst xs)∨H p=some (.tup xs):=by
 unfold h_ at h
 split at h
 ·cases h;exact .inl ‹_›
 ·cases h;exact .inr ‹_›
 ·cases h
section
variable {X:Cx}
def CM:R2:=fun x y H Q=>∃ p i xs v,x=.ref p∧y=.int i∧h_ H p=some xs∧atI xs i=some v∧Q v H
theorem Fi:IxR X CM:=by
 intro value slice pins s σ H x y v u Q I rx ry q hs
 obtain ⟨p,i,xs,w',rfl,rfl,h,e,q⟩:=q
 rcases i9 h with h | h
 ·exact zd value slice pins s σ H _ _ v u Q I rx ry ⟨p,xs,i,w',rfl,rfl,SqL.of h,e,q⟩ hs
 ·exact AO value slice pins s σ H _ _ v u Q I rx ry ⟨p,xs,i,w',rfl,rfl,SqT.of h,e,q⟩ hs
def yF:List V→Hp→VK→Prop:=fun vs H Q=>∃ p xs,vs=[.ref p]∧h_ H p=some xs∧Q (.int xs.length) H
theorem aJ:bI X (.builtin "len") yF:=by
 intro pins s σ H vs us Q I r h
 obtain ⟨p,xs,rfl,h,q⟩:=h
 rcases i9 h with h | h
 ·exact l6 pins s σ H _ us Q I r ⟨_,_,rfl,.inl ⟨xs,SqL.of h,rfl⟩,q⟩
 ·exact l6 pins s σ H _ us Q I r ⟨_,_,rfl,.inr ⟨xs,SqT.of h,rfl⟩,q⟩
def vI:List V→Hp→VK→Prop:=fun vs H Q=>∃ p xs,vs=[.ref p]∧h_ H p=some xs∧∀ l,H l=none→Q (.ref l) (upd H l (.lst xs))
theorem sP:bI X (.type "list") vI:=by
 intro pins s σ H vs us Q I r h
 obtain ⟨p,xs,rfl,h,q⟩:=h
 rcases i9 h with h | h
 ·exact ki pins s σ H _ us Q I r ⟨p,xs,rfl,.inl (SqL.of h),q⟩
 ·exact ki pins s σ H _ us Q I r ⟨p,xs,rfl,.inr (SqT.of h),q⟩
def rY:List V→Hp→VK→Prop:=fun vs H Q=>∃ p,vs=[.ref p]∧((∃ xs,H p=some (.lst xs)∧∀ l,H l=none→Q (.ref l) (upd H l (.tup xs)))∨∃ xs,H p=some (.tup xs)∧Q (.ref p) H)
theorem bF:bI X (.type "tuple") rY:=by
 intro pins s σ H vs us Q I r h
 obtain ⟨p,rfl,⟨xs,h,q⟩ | ⟨xs,h,q⟩⟩:=h
 ·exact jP pins s σ H _ us Q I r ⟨p,xs,rfl,.inl ⟨SqL.of h,q⟩⟩
 ·exact jP pins s σ H _ us Q I r ⟨p,xs,rfl,.inr ⟨SqT.of h,q⟩⟩
def Ft:V→Option Int→Option Int→Hp→VK→Prop:=fun x lo hi H Q=>∃ p,x=.ref p∧((∃ xs,H p=some (.tup xs)∧(hW xs.length lo hi→Q (.ref p) H)∧(¬hW xs.length lo hi→∀ l,H l=none→Q (.ref l) (upd H l (.tup (gG xs lo hi))))) ∨
 ∃ xs,H p=some (.lst xs)∧∀ l,H l=none→Q (.ref l) (upd H l (.lst (gG xs lo hi))))
theorem FQ:SlR X Ft:=by
 intro pins s σ H x v vl vu lo hi sl Q I rx hs pl pu h
 obtain ⟨p,rfl,⟨xs,h,q1,q2⟩ | ⟨xs,h,q⟩⟩:=h
 ·exact y9 pins s σ H _ v vl vu lo hi sl Q I rx hs pl pu ⟨p,xs,rfl,SqT.of h,q1,q2⟩
 ·exact rH pins s σ H _ v vl vu lo hi sl Q I rx hs pl pu ⟨p,xs,rfl,SqL.of h,q⟩
def xK (neg:Bool):R2:=fun x y H Q=>∃ p xs,y=.ref p∧h_ H p=some xs∧et x=true∧xs.all et=true∧Q (.bl (if neg then !inV x xs else inV x xs)) H
theorem Cb:OpR X (compareOp .In) (xK false):=by
 intro pins s σ H x y v u Q I rx ry h
 obtain ⟨p,xs,rfl,h,f1,f2,q⟩:=h
 rcases i9 h with h | h
 ·exact oB pins s σ H _ _ v u Q I rx ry ⟨p,xs,rfl,.inl (SqL.of h),f1,f2,q⟩
 ·exact oB pins s σ H _ _ v u Q I rx ry ⟨p,xs,rfl,.inr (SqT.of h),f1,f2,q⟩
theorem uR:OpR X (compareOp .NotIn) (xK true):=by
 intro pins s σ H x y v u Q I rx ry h
 obtain ⟨p,xs,rfl,h,f1,f2,q⟩:=h
 rcases i9 h with h | h
 ·exact km pins s σ H _ _ v u Q I rx ry ⟨p,xs,rfl,.inl (SqL.of h),f1,f2,q⟩
 ·exact km pins s σ H _ _ v u Q I rx ry ⟨p,xs,rfl,.inr (SqT.of h),f1,f2,q⟩
def yE:R2:=fun x y H Q=>(∃ i j,x=.int i∧y=.int j∧Q (.int (i+j)) H)∨∃ a b,x=.ref a∧y=.ref b ∧
  ((∃ xs ys,H a=some (.tup xs)∧H b=some (.tup ys)∧xs.length+ys.length≤sizeLine∧(xs=[]→Q (.ref b) H)∧(xs≠[]→ys=[]→Q (.ref a) H)∧(xs≠[]→ys≠[]→∀ p,H p=none→Q (.ref p) (upd H p (.tup (xs++ys))))) ∨
   ∃ xs ys,H a=some (.lst xs)∧H b=some (.lst ys)∧xs.length+ys.length≤sizeLine∧∀ p,H p=none→Q (.ref p) (upd H p (.lst (xs++ys))))
theorem zL:OpR X (binaryOp .Add) yE:=by
 intro pins s σ H x y v u Q I rx ry h
 rcases h with ⟨i,j,rfl,rfl,q⟩ | ⟨a,b,rfl,rfl,⟨xs,ys,h1,h2,hz,q1,q2,q3⟩ | ⟨xs,ys,h1,h2,hz,q⟩⟩
 ·exact A4 pins s σ H _ _ v u Q I rx ry ⟨i,j,rfl,rfl,q⟩
 ·exact w6 pins s σ H _ _ v u Q I rx ry ⟨a,b,xs,ys,rfl,rfl,SqT.of h1,SqT.of h2,hz,q1,q2,q3⟩
 ·exact Cc pins s σ H _ _ v u Q I rx ry ⟨a,b,xs,ys,rfl,rfl,h1,h2,hz,q⟩
def CJ:R2:=fun x y H Q=>rEq x y H Q∨wU x y H Q
def CI:R2:=fun x y H Q=>rNe x y H Q∨xR x y H Q
theorem bj (hu:X.A.units+64 < cLine):OpR X (compareOp .Eq) CJ:=Ba hu
theorem fc (hu:X.A.units+64 < cLine):OpR X (compareOp .NotEq) CI:=Ci hu
def B9:R2:=fun x y H Q=>wM x y H Q∨(y=.non∧Q (.bl (decide (x=.non))) H)
theorem vp:OpR X (compareOp .Is) B9:=Bz
def yI:List V→Hp→VK→Prop:=fun vs H Q=>∃ (p:Addr) (bs:List Bool),vs=[.ref p]∧H p=some (.lst (bs.map V.bl))∧Q (.bl (bs.all id)) H
theorem eM (hc:X.calm=true):bI X (.builtin "all") yI:=by
 intro pins s σ H vs us Q I r h
 obtain ⟨p,bs,rfl,h,q⟩:=h
 exact ud hc pins s σ H _ us Q I r ⟨p,bs,rfl,SqL.of h,q⟩
def qY:List V→Hp→VK→Prop:=fun vs H Q=>∃ (p:Addr) (ns:List Int),vs=[.ref p]∧H p=some (.lst (ns.map V.int))∧ns.length < 64∧∀ (l:Addr) (ms:List Int),H l=none→List.Perm ms ns→ms.Pairwise (·≤·)→Q (.ref l) (upd H l (.lst (ms.map V.int)))
theorem qQ:bI X (.builtin "sorted") qY:=by
 intro pins s σ H vs us Q I r h
 obtain ⟨p,ns,rfl,h,hl,q⟩:=h
 exact qK pins s σ H _ us Q I r ⟨p,ns,rfl,SqL.of h,hl,q⟩
def CH:List V→Hp→VK→Prop:=fun vs H Q=>∃ i j,vs=[.int i,.int j]∧Q (.int (if j > i then j else i)) H
def A5:List V→Hp→VK→Prop:=fun vs H Q=>∃ i j,vs=[.int i,.int j]∧Q (.int (if j < i then j else i)) H
theorem oF (hc:X.calm=true):bI X (.builtin "max") CH:=vv hc
theorem iC (hc:X.calm=true):bI X (.builtin "min") A5:=uo hc
def F0 (to te:TE):TE:=fun σ H Q=>to σ H fun x H1=>∃ l xs0,x=.ref l∧H1 l=some (.lst xs0)∧te σ H1 fun y H2=>∃ xs,H2 l=some (.lst xs)∧xs.length < sizeLine∧Q .non (upd H2 l (.lst (xs++[y])))
theorem Cz (ho:PE X o to) (he:PE X e te)
  (hbase:attributeBase o "append" X.env (eval o X.env)=eval o X.env:=by rfl)
  (hfew:((backTo cpos (starEach [e] X.env)).all (fun x=>!x.1) && (backToKw cpos (keywordEach [] X.env)).all (fun x=>x.1.isSome) && decide ([e].length+([]:List Keyword).length+(if ([]:List Keyword).isEmpty then 0 else 1) < 30))=true:=by rfl)
  (hline:(apos.endLine == cpos.line)=true:=by rfl) (hs:starEach [e] X.env=(false,eval e X.env) :: starEach [] X.env:=by rfl):PE X (.Call (.Attribute o "append" apos) [e] [] cpos) (F0 to te):=by
 intro pins s σ H Q I h
 refine wpAny_Call_method_late hbase hfew hline rfl (thn (ho pins s σ H _ I h) fun v s1 ⟨x,H1,I1,r1,l,xs0,e0,hl,q1⟩=>?_)
 subst e0
 have ty:tyV X.K "list" (.ref l) H1:=.inl ⟨rfl,_,SqL.of hl⟩
 obtain ⟨h1,h2⟩:=vf I1 r1 ty
 refine ⟨"list",_,PySem.F.plainAttrs_list,PySem.F.slot_list_append,PySem.F.type_list_append,h1,h2,?_⟩
 have hA:=(eL he gK hs) cpos pins s1 σ H1 (fun vs H2=>∃ y,vs=[y]∧∃ xs,H2 l=some (.lst xs)∧xs.length < sizeLine∧Q .non (upd H2 l (.lst (xs++[y])))) I1 (by
  refine cast (congrArg (te σ H1) ?_) q1
  funext y H2
  refine propext ⟨fun q=>⟨y,rfl,q⟩,fun ⟨y',e',q⟩=>?_⟩
  cases e'
  exact q)
 rw [hs] at hA ⊢
 refine Calls.callWith_builtin (by show (false || (backTo cpos (starEach ([]:List Expr) X.env)).any (·.1))=false;rfl) (Calls.evalArgs_plain ?_)
 exact thn hA fun us s2 ⟨vs,H2,I2,r2,y,e2,xs,h3,hz,q2⟩=>oC pins s2 σ H2 (.ref l) vs v us Q I2 r1 r2 ⟨l,xs,y,rfl,e2,h3,hz,q2⟩
end
theorem sL {n:Nat} {k:Int} (h0:0≤k) (h:k < (n:Int)):ixN n k=some k.toNat:=by
 unfold ixN
 rw [if_pos h0,if_pos h]
class NS (e:Expr):Prop where
 eq:∀ (es:List Expr) (env:Env),starEach (e :: es) env=(false,eval e env) :: starEach es env
instance {c:Const} {k:Nat} {p:Pos}:NS (.Constant c k p):=⟨fun _ _=>rfl⟩
instance {x:Str} {p:Pos}:NS (.Name x p):=⟨fun _ _=>rfl⟩
instance {es:List Expr} {k:Nat} {p:Pos}:NS (.Tuple es k p):=⟨fun _ _=>rfl⟩
instance {es:List Expr} {p:Pos}:NS (.List es p):=⟨fun _ _=>rfl⟩
instance {a:Expr} {o:Operator} {b:Expr} {p:Pos}:NS (.BinOp a o b p):=⟨fun _ _=>rfl⟩
instance {o:UnaryOp} {a:Expr} {p:Pos}:NS (.UnaryOp o a p):=⟨fun _ _=>rfl⟩
instance {f:Expr} {es:List Expr} {ks:List Keyword} {p:Pos}:NS (.Call f es ks p):=⟨fun _ _=>rfl⟩
instance {a b:Expr} {p:Pos}:NS (.Subscript a b p):=⟨fun _ _=>rfl⟩
instance {a:Expr} {os:List CmpOp} {bs:List Expr} {p:Pos}:NS (.Compare a os bs p):=⟨fun _ _=>rfl⟩
instance {o:BoolOp} {es:List Expr} {p:Pos}:NS (.BoolOp o es p):=⟨fun _ _=>rfl⟩
instance {a b c:Expr} {p:Pos}:NS (.IfExp a b c p):=⟨fun _ _=>rfl⟩
instance {e:Expr} {gs:List Comprehension} {sc:Scope} {p:Pos}:NS (.ListComp e gs sc p):=⟨fun _ _=>rfl⟩
structure PL (X:Cx) (es:List Expr) (t:TA):Prop where
 h:PA X es t
section
variable {X:Cx}
def tLm (r:V→List V→Hp→VK→Prop) (to te:TE):TE:=fun σ H Q=>to σ H fun x H1=>∃ l xs0,x=.ref l∧H1 l=some (.lst xs0)∧te σ H1 fun y H2=>r (.ref l) [y] H2 Q
theorem D3 {r:V→List V→Hp→VK→Prop} {name:Str} {id:String} {o e:Expr} {to te:TE} {apos cpos:Pos} (slot:Slot "list" name id) (hty:typeOf (.builtin id)=pure (.type "method_descriptor")) (hm:MtM X id r) (ho:PE X o to) (he:PE X e te)
  (hbase:attributeBase o name X.env (eval o X.env)=eval o X.env:=by rfl)
  (hfew:((backTo cpos (starEach [e] X.env)).all (fun x=>!x.1) && (backToKw cpos (keywordEach [] X.env)).all (fun x=>x.1.isSome) && decide ([e].length+([]:List Keyword).length+(if ([]:List Keyword).isEmpty then 0 else 1) < 30))=true:=by rfl)
  (hline:(apos.endLine == cpos.line)=true:=by rfl) (hs:starEach [e] X.env=(false,eval e X.env) :: starEach [] X.env:=by rfl):PE X (.Call (.Attribute o name apos) [e] [] cpos) (tLm r to te):=by
 intro pins s σ H Q I h
 refine wpAny_Call_method_late hbase hfew hline rfl (thn (ho pins s σ H _ I h) fun v s1 ⟨x,H1,I1,r1,l,xs0,e0,hl,q1⟩=>?_)
 subst e0
 have ty:tyV X.K "list" (.ref l) H1:=.inl ⟨rfl,_,SqL.of hl⟩
 obtain ⟨h1,h2⟩:=vf I1 r1 ty
 refine ⟨"list",_,PySem.F.plainAttrs_list,slot,hty,h1,h2,?_⟩
 have hA:=(eL he gK hs) cpos pins s1 σ H1 (fun vs H2=>∃ y,vs=[y]∧r (.ref l) [y] H2 Q) I1 (by
  refine cast (congrArg (te σ H1) ?_) q1
  funext y H2
  refine propext ⟨fun q=>⟨y,rfl,q⟩,fun ⟨y',e',q⟩=>?_⟩
  cases e'
  exact q)
 rw [hs] at hA ⊢
 refine Calls.callWith_builtin (by show (false || (backTo cpos (starEach ([]:List Expr) X.env)).any (·.1))=false;rfl) (Calls.evalArgs_plain ?_)
 exact thn hA fun us s2 ⟨vs,H2,I2,r2,y,e2,q2⟩=>hm pins s2 σ H2 (.ref l) vs v us Q I2 r1 r2 (by rw [e2];exact q2)
theorem se:∀ (us:List Value) (k:Nat),(∀ j v,us[j]?=some v→RelV (f (k+j)) v)→Vals ((List.range' k us.length).map f) us
 | [],_,_=>.nil
 | u :: us,k,h=>by
  rw [List.length_cons,List.range'_succ,List.map_cons]
  refine .cons (h 0 u rfl) (se us (k+1) fun j v e=>?_)
  have:=h (j+1) v (by simpa using e)
  rw [show k+1+j=k+(j+1) by omega]
  exact this
def tLR (ta:TA):TE:=fun σ H Q=>ta σ H fun vs H1=>∃ j:Int,vs=[.int j]∧0≤j∧j≤1000∧∀ l,H1 l=none→Q (.ref l) (upd H1 l (.lst ((List.range j.toNat).map fun i=>V.int (i:Nat))))
theorem qb (hc:X.calm=true) (hgl:Gl X "list") (hml:X.mg "list"=none) (hgr:Gl X "range") (hmr:X.mg "range"=none) (hbl:bootBuiltins "list"=some (.type "list")) (ha:PA X [a] ta)
  (hs:starEach [a] X.env=[(false,eval a X.env)]:=by rfl)
  (hs2:starEach [Expr.Call (.Name "range" p2) [a] [] pos2] X.env=(false,eval (Expr.Call (.Name "range" p2) [a] [] pos2) X.env) :: starEach [] X.env:=by rfl) :
  PE X (.Call (.Name "list" p1) [.Call (.Name "range" p2) [a] [] pos2] [] pos1) (tLR ta):=by
 intro pins s σ H Q I h
 refine wpAny_Call_Name_kw (c9 I hgl hml hbl ?_)
 refine PyProof.Rows.callWith_type1 ?_ hs2 rfl
 rw [hs2]
 show wpAny _ _ (spliced ((false,eval (Expr.Call (.Name "range" p2) [a] [] pos2) X.env) :: backTo pos1 (starEach [] X.env))) _ _ s
 refine Calls.spliced_cons ?_
 refine Call_ (c9 I hgr hmr boot_range (PyProof.Rows.callWith_type1 (thn (ha pos2 pins s σ H _ I h) fun us s1 ⟨vs,H1,I1,r1,q1⟩=>?_) hs rfl))
 obtain ⟨j,e,j0,j1,q⟩:=q1
 subst e
 cases r1 with
 | cons r rr=>
  cases rr
  obtain ⟨t,rfl⟩:=r
  refine call_range_1 ?_
  have hA:X.A.handled=none:=I.ok.hd hc
  have I2:Inv X pins σ H1 { s1 with heap:=s1.heap.push { cls:=.type "range",data:=.fields #[.int 0 s1.toks,.int j t,.int 1 (s1.toks+1)] },toks:=s1.toks+1+1 }:=I1.kept fun b o e=>Heap.get?_push_of_some _ e
  refine wpAny_pure ?_
  have hsz:Builtin.Range.rangeSize 0 j 1=((j.toNat:Nat):Int):=by rw [rangeSize_one];split<;>omega
  refine call_list_range hA (IsRange.new ..) (small_one (by omega) (by omega) (by omega) (by omega)) hsz (by omega) fun h' tk acc c' hk hnew hit=>?_
  have hvals:Vals ((List.range j.toNat).map fun i=>V.int (i:Nat)) acc.toList:=by
   have hl:acc.toList.length=j.toNat:=by rw [Array.length_toList];exact hit.1
   rw [← hl,List.range_eq_range']
   refine se acc.toList 0 fun i v e=>?_
   obtain ⟨t2,rfl⟩:=hit.2 i v (by simpa using e)
   exact ⟨t2,by congr 1;omega⟩
  refine ⟨.ref _,_,I2.laid (t':=tk) (o:=.lst ((List.range j.toNat).map fun i=>V.int (i:Nat))) hk (Nat.le_refl _) ⟨?_,acc.toList,c',hvals,?_⟩,rfl,q _ (I2.hok.fresh (Nat.le_refl _))⟩
  ·rw [List.length_map,List.length_range]
   exact Nat.le_of_lt (ib (by omega))
  ·simpa using hnew
end
section
variable {X:Cx}
theorem v_:∀ {x y:V} {u:Value},RelV x u→RelV y u→x=y:=by
  intro x y u h1 h2
  cases x<;>cases y<;>simp only [RelV] at h1 h2<;>first
    | rfl
    | (subst h1;cases h2;done)
    | (subst h1;cases h2;rfl)
    | (obtain ⟨t,rfl⟩:=h1;cases h2;done)
    | (obtain ⟨t,rfl⟩:=h1;obtain ⟨t2,e⟩:=h2;cases e;rfl)
    | (obtain ⟨t,rfl⟩:=h1;obtain ⟨t2,e⟩:=h2;cases e;done)
    | (obtain ⟨t,rfl⟩:=h2;cases h1;done)
def xx (neg:Bool):R2:=fun x y H Q=>∃ (p:Addr) (vs:List V) (d:D) (ds:List D),y=.ref p∧H p=some (.lst vs)∧ax H vs ds∧Rep H x d∧D.bf ds≤50∧Q (.bl (if neg then !ds.any (fun e=>D.eqv e d) else ds.any fun e=>D.eqv e d)) H
theorem rL (hu:X.A.units+64 < cLine) (I:Inv X pins σ H s) (rx:RelV x v) (hq:H p=some (.lst vs)) (rs:ax H vs ds) (rd:Rep H x d) (hd:D.bf ds≤50) :
  ∃ (its:List Value) (e:Value→Bool),s.heap.IsList p its.toArray∧(∀ y∈its.toArray,SeqAt.EqAt X.A.in1 s y v (e y))∧its.toArray.any e=ds.any fun e=>D.eqv e d:=by
 classical
 obtain ⟨its,r,pl,hz⟩:=I.list (SqL.of hq)
 have l1:=r.length
 have l2:=rs.length
 have key:∀ (j:Nat) (u:Value),its[j]?=some u→∃ (y:V) (e:D),vs[j]?=some y∧ds[j]?=some e∧RelV y u∧Rep H y e:=by
  intro j u hj
  have hlt:=(List.getElem?_eq_some_iff.mp hj).1
  have e1:vs[j]?=some (vs[j]'(by omega)):=List.getElem?_eq_getElem _
  obtain ⟨a1,b1,c1⟩:=r.get e1
  obtain ⟨f1,g1,k1⟩:=rs.get e1
  rw [hj] at b1
  cases b1
  exact ⟨_,f1,e1,g1,c1,k1⟩
 refine ⟨its,fun u=>decide (∃ (j:Nat) (y:V) (e:D),its[j]?=some u∧vs[j]?=some y∧ds[j]?=some e∧D.eqv e d=true),pl.isList,?_,?_⟩
 ·intro u hm
  have hm':u∈its:=by simpa using hm
  obtain ⟨j,hj⟩:=List.mem_iff_getElem?.mp hm'
  obtain ⟨y,e,h1,h2,h3,h4⟩:=key j u hj
  have q:=um I 60 X.A.in1 y x u v e d (by show X.A.units+1+60 < cLine;omega) (Nat.le_trans (D.gq h2) (by omega)) h3 rx h4 rd
  have z:decide (∃ (j:Nat) (y:V) (e:D),its[j]?=some u∧vs[j]?=some y∧ds[j]?=some e∧D.eqv e d=true)=D.eqv e d:=by
   rw [Bool.eq_iff_iff,decide_eq_true_eq]
   refine ⟨fun ⟨j',y',e',g1,g2,g3,g4⟩=>?_,fun h=>⟨j,y,e,hj,h1,h2,h⟩⟩
   obtain ⟨y2,e2,k1,k2,k3,k4⟩:=key j' u g1
   rw [g2] at k1;cases k1
   rw [g3] at k2;cases k2
   have:=v_ h3 k3
   subst this
   rw [Rep.inj h4 k4]
   exact g4
  show SeqAt.EqAt X.A.in1 s u v (decide _)
  rw [z]
  exact q
 ·rw [List.any_toArray,Bool.eq_iff_iff,List.any_eq_true,List.any_eq_true]
  constructor
  ·rintro ⟨u,hu',h⟩
   obtain ⟨j,y,e,g1,g2,g3,g4⟩:=of_decide_eq_true h
   exact ⟨e,List.mem_of_getElem? g3,g4⟩
  ·rintro ⟨e,he,h⟩
   obtain ⟨j,hj⟩:=List.mem_iff_getElem?.mp he
   have hlt:=(List.getElem?_eq_some_iff.mp hj).1
   have e1:its[j]?=some (its[j]'(by omega)):=List.getElem?_eq_getElem _
   obtain ⟨y,e',h1,h2,h3,h4⟩:=key j _ e1
   exact ⟨_,List.mem_of_getElem? e1,decide_eq_true ⟨j,y,e,e1,h1,hj,h⟩⟩
theorem B4 (hu:X.A.units+64 < cLine):OpR X (compareOp .In) (xx false):=by
 intro pins s σ H x y v u Q I rx ry h
 obtain ⟨p,vs,d,ds,rfl,hq,rs,rd,hd,q⟩:=h
 cases ry
 obtain ⟨its,e,h1,h2,h3⟩:=rL hu I rx hq rs rd hd
 refine SeqAt.in_listAt e h1 h2 ⟨.bl _,H,I,rfl,?_⟩
 rw [h3]
 exact q
theorem u7 (hu:X.A.units+64 < cLine):OpR X (compareOp .NotIn) (xx true):=by
 intro pins s σ H x y v u Q I rx ry h
 obtain ⟨p,vs,d,ds,rfl,hq,rs,rd,hd,q⟩:=h
 cases ry
 obtain ⟨its,e,h1,h2,h3⟩:=rL hu I rx hq rs rd hd
 refine SeqAt.notIn_listAt e h1 h2 ⟨.bl _,H,I,rfl,?_⟩
 rw [h3]
 exact q
end
def Sq (b:Bool) (xs:List V):HO:=match b with
 | true=>.lst xs
 | false=>.tup xs
def fT (b:Bool) (h:Heap) (t:Addr) (xs:Array Value):Prop:=match b with
 | true=>h.IsList t xs
 | false=>h.IsTuple t xs
def eW (b:Bool) (h:Heap) (it t:Addr) (i:Nat):Prop:=match b with
 | true=>h.IsListIter it t i
 | false=>h.IsTupleIter it t i
def sqI (b:Bool) (t:Addr):Obj:={ cls:=.type (match b with | true=>"list_iterator" | false=>"tuple_iterator"),data:=.fields #[.ref t,.int 0 0] }
theorem Inv.sq (I:Inv X pins σ H s) (h:H t=some (Sq b xs)):∃ its:List Value,Vals xs its∧fT b s.heap t its.toArray∧xs.length≤sizeLine:=by
 cases b with
 | true=>obtain ⟨its,rv,p,hz⟩:=I.list (SqL.of h);exact ⟨its,rv,p.isList,hz⟩
 | false=>obtain ⟨its,rv,p,hz⟩:=I.tuple (SqT.of h);exact ⟨its,rv,p,hz⟩
theorem dI (b:Bool) (hh:A.handled=none) (it t:Addr) (hne:t≠it) (items:Array Value):Draws prog w A it [it,t] items.size (fun i v=>items[i]?=some v) (fun i h=>eW b h it t i∧fT b h t items):=by
 cases b with
 | true=>exact Draws.list hh it t hne items
 | false=>exact B8 hh it t hne items
theorem gB (x:eW b h it t i):∃ o,h.get? it=some o∧∀ v,o.data≠.cell v:=by
 cases b<;>(obtain ⟨o,e,_,d⟩:=x;exact ⟨o,e,fun v z=>by rw [d] at z;cases z⟩)
theorem i6 (x:eW b h it t i) (k:∀ o,h.get? it=some o→h'.get? it=some o):eW b h' it t i:=by
 cases b<;>(obtain ⟨o,e,r⟩:=x;exact ⟨o,k o e,r⟩)
theorem sf (x:h.get? it=some (sqI b t)):eW b h it t 0:=by
 cases b<;>exact ⟨_,x,rfl,rfl⟩
theorem Dt (x:fT b h t xs) (k:∀ o,h.get? t=some o→h'.get? t=some o):fT b h' t xs:=by
 cases b<;>(obtain ⟨o,e,r⟩:=x;exact ⟨o,k o e,r⟩)
section
variable {prog:Program} {w:World} {A:Around} {E:Value→Shared→Prop} {s:Shared}
abbrev gI (b:Bool) (h:Heap) (t:Addr):Heap:=h.push (sqI b t)
abbrev gPI (b c:Bool) (h:Heap) (t u:Addr):Heap:=(gI c (gI b h t) u).push { cls:=.type "tuple",data:=.seq #[.ref h.objs.size,.ref (gI b h t).objs.size] }
abbrev gPO (b c:Bool) (h:Heap) (t u:Addr):Heap:=(gPI b c h t u).push { cls:=.type "tuple",data:=.seq #[.none,.none] }
abbrev nv (b c:Bool) (h:Heap) (t u:Addr):Heap:=(gPO b c h t u).push { cls:=.type "zip",data:=.fields #[.none,.bool false,.bool false,.ref (gI c (gI b h t) u).objs.size,.ref (gPI b c h t u).objs.size] }
theorem rX (h:fT b s.heap t xs) (hQ:Q (.ref s.heap.objs.size) { s with heap:=gI b s.heap t }):wpAny (model prog w) A (pyIter (.ref t)) Q E s:=by
 cases b with
 | true=>exact wpAny_pyIter_list h hQ
 | false=>exact wpAny_pyIter_tuple h hQ
theorem wz (b c:Bool) (t u:Addr) (xs ys:Array Value):Meets (Builtin.«zip.__new__» ⟨[.type "zip",.ref t,.ref u],[]⟩) (fun _ R s=>fT b s.heap t xs∧fT c s.heap u ys∧R (.ok (.ret (.ref (gPO b c s.heap t u).objs.size))) { s with heap:=nv b c s.heap t u }):=
 .of_wp fun prog w A R s h=>by
  obtain ⟨hp,g,d,tk,os⟩:=s
  obtain ⟨ht,hu,h⟩:=h
  have hsub:=sub_zip
  have h1:fT b (Shared.heap ⟨hp,g,d,tk,os⟩) t xs:=ht
  have h2:fT c (Shared.heap ⟨gI b hp t,g,d,tk,os⟩) u ys:=Dt hu fun o e=>Heap.get?_push_of_some _ e
  wp_walk using rX h1,rX h2
  exact ⟨_,rfl,h⟩
theorem nZ (b c:Bool) (ht:fT b s.heap t xs) (hu:fT c s.heap u ys)
  (h:∀ h',IsZip h' (s.heap.objs.size+4) (s.heap.objs.size+2) (s.heap.objs.size+3) .none→IsPair h' (s.heap.objs.size+2) (.ref s.heap.objs.size) (.ref (s.heap.objs.size+1))→IsPair h' (s.heap.objs.size+3) .none .none →
   eW b h' s.heap.objs.size t 0→eW c h' (s.heap.objs.size+1) u 0→(∀ a o,s.heap.get? a=some o→h'.get? a=some o)→Q (.ref (s.heap.objs.size+4)) { s with heap:=h' }) :
  wpAny (model prog w) A (call (.type "zip") [.ref t,.ref u]) Q E s:=by
 refine callType_new F.called_zip (by decide) (F.typeCall_zip_2 _ _) (F.newCall_zip_2 _ _) (fun obj=>F.args_object_init_3 obj _ _) F.entry_zip_new (wz b c t u xs ys) ⟨ht,hu,?_⟩
 have s1:(gI b s.heap t).objs.size=s.heap.objs.size+1:=Heap.size_push ..
 have s2:(gI c (gI b s.heap t) u).objs.size=s.heap.objs.size+2:=by rw [Heap.size_push,s1]
 have s3:(gPI b c s.heap t u).objs.size=s.heap.objs.size+3:=by rw [Heap.size_push,s2]
 have s4:(gPO b c s.heap t u).objs.size=s.heap.objs.size+4:=by rw [Heap.size_push,s3]
 have g5:(nv b c s.heap t u).get? (gPO b c s.heap t u).objs.size=some _:=Heap.get?_push_size _ rfl
 have g4:(nv b c s.heap t u).get? (gPI b c s.heap t u).objs.size=some _:=Heap.get?_push_of_some _ (Heap.get?_push_size _ rfl)
 have g3:(nv b c s.heap t u).get? (gI c (gI b s.heap t) u).objs.size=some _:=Heap.get?_push_of_some _ (Heap.get?_push_of_some _ (Heap.get?_push_size _ rfl))
 have g2:(nv b c s.heap t u).get? (gI b s.heap t).objs.size=some _:=Heap.get?_push_of_some _ (Heap.get?_push_of_some _ (Heap.get?_push_of_some _ (Heap.get?_push_size _ rfl)))
 have g1:(nv b c s.heap t u).get? s.heap.objs.size=some _:=Heap.get?_push_of_some _ (Heap.get?_push_of_some _ (Heap.get?_push_of_some _ (Heap.get?_push_of_some _ (Heap.get?_push_size _ rfl))))
 show _∧_
 rw [s2,s3,s4] at g5
 rw [s1,s2] at g3
 rw [s3] at g4
 rw [s1] at g2
 rw [s4]
 exact ⟨⟨_,g5,rfl⟩,h _ g5 g3 g4 (sf g1) (sf g2) fun a o q=>Heap.get?_push_of_some _ (Heap.get?_push_of_some _ (Heap.get?_push_of_some _ (Heap.get?_push_of_some _ (Heap.get?_push_of_some _ q))))⟩
end
def Itg (b c:Bool) (t u:Addr):It:=
  ⟨fun i H=>∃ xs ys x y,H t=some (Sq b xs)∧H u=some (Sq c ys)∧xs[i]?=some x∧ys[i]?=some y,fun i H v H'=>∃ p x y,H p=none∧v=.ref p∧H'=upd H p (.tup [x,y])∧(∀ xs,H t=some (Sq b xs)→xs[i]?=some x)∧∀ ys,H u=some (Sq c ys)→ys[i]?=some y,
   fun i H=>∃ xs ys,H t=some (Sq b xs)∧H u=some (Sq c ys)∧i≤xs.length∧i≤ys.length∧(i=xs.length∨i=ys.length)⟩
theorem j3 {P:Program} {w:World} {K:PySem.W.Frag} {es:List Expr} {kk:Nat} {tp:Pos} (b c:Bool) (t u N:Addr) :
  Turn P w K (.Tuple es kk tp) (Itg b c t u) [N+4,N+2,N+3,N,N+1] (N+4)
   (fun i h=>IsZip h (N+4) (N+2) (N+3) .none∧IsPair h (N+2) (.ref N) (.ref (N+1))∧(∃ a b,IsPair h (N+3) a b)∧eW b h N t i∧eW c h (N+1) u i) where
 mem:=by simp
 obj:=fun i h st e hb=>by
  obtain ⟨h1,h2,⟨x,y,h3⟩,h4,h5⟩:=st
  simp only [List.mem_cons,List.not_mem_nil,or_false] at hb
  rcases hb with z | z | z | z | z
  ·rw [z];exact ⟨_,h1,fun v z=>by
    have z':Data.fields _=Data.cell v:=z
    cases z'⟩
  ·rw [z];exact ⟨_,h2,fun v z=>by
    have z':Data.seq _ _=Data.cell v:=z
    cases z'⟩
  ·rw [z];exact ⟨_,h3,fun v z=>by
    have z':Data.seq _ _=Data.cell v:=z
    cases z'⟩
  ·rw [z];exact gB h4
  ·rw [z];exact gB h5
 keep:=fun i h h' st k=>by
  obtain ⟨h1,h2,⟨x,y,h3⟩,h4,h5⟩:=st
  exact ⟨k _ (by simp) _ h1,k _ (by simp) _ h2,⟨x,y,k _ (by simp) _ h3⟩,i6 h4 fun o q=>k _ (by simp) o q,i6 h5 fun o q=>k _ (by simp) o q⟩
 item:=by
  intro X hP hw hK hc i pins s σ H E I hf st hg
  subst hP hw hK
  obtain ⟨h1,h2,⟨a0,b0,h3⟩,h4,h5⟩:=st
  obtain ⟨xs,ys,x,y,hx,hy,ex,ey⟩:=hg
  obtain ⟨its,rv,p,hz⟩:=I.sq hx
  obtain ⟨its2,rv2,p2,hz2⟩:=I.sq hy
  obtain ⟨a,ha,ra⟩:=rv.get ex
  obtain ⟨b1,hb,rb⟩:=rv2.get ey
  have D0:=mE (N:=N) (t:=t) (u:=u) (fun c hc e=>by rw [e,(hf c hc).1] at hx;cases hx) (fun c hc e=>by rw [e,(hf c hc).1] at hy;cases hy)
  have hA:X.A.in1.handled=none:=I.ok.hd hc
  have tn:t≠N:=fun e=>by rw [e,(hf N (by simp)).1] at hx;cases hx
  have un:u≠N+1:=fun e=>by rw [e,(hf (N+1) (by simp)).1] at hy;cases hy
  have la:i < its.toArray.size:=by
   have:=(List.getElem?_eq_some_iff.mp ha).1
   simpa using this
  have lb:i < its2.toArray.size:=by
   have:=(List.getElem?_eq_some_iff.mp hb).1
   simpa using this
  refine nH D0 (dI b hA N t tn its.toArray) (dI c hA (N+1) u un its2.toArray) h1 (.inl rfl) h2 h3 ⟨h4,p⟩ ⟨h5,p2⟩ la lb fun x' y' g1 tk px py z1 z2 z3 z4 z5 z6 z7 k1=>?_
  obtain rfl:x'=a:=by
   have e:its.toArray[i]?=some x':=px
   rw [List.getElem?_toArray,ha] at e
   exact (Option.some.inj e).symm
  obtain rfl:y'=b1:=by
   have e:its2.toArray[i]?=some y':=py
   rw [List.getElem?_toArray,hb] at e
   exact (Option.some.inj e).symm
  refine ⟨_,rfl,wpAny_letOwnedTupleGo_zip (s:={ s with heap:=g1,toks:=tk }) z1 fun g2 y1 e2=>?_⟩
  replace e2:Heap.SameBut (N+4) g1 g2:=e2
  have hl4:N+4 < s.heap.objs.size:=Heap.lt_size h1
  have d:∀ i j:Nat,i≠j→(N+i:Nat)≠N+j:=fun i j h e=>h (Nat.add_left_cancel e)
  have ht2:IsPair g2 s.heap.objs.size x' y':=e2.extBut _ _ (Nat.ne_of_gt hl4) z6
  have k2:∀ c o,c∉[N+4,N+2,N+3,N,N+1]→s.heap.get? c=some o→g2.get? c=some o:=fun c o hc q=>by
   have c4:c≠N+4:=fun z=>hc (by simp [z])
   have c3:c≠N+3:=fun z=>hc (by simp [z])
   have c0:c≠N:=fun z=>hc (by simp [z])
   have c1:c≠N+1:=fun z=>hc (by simp [z])
   exact e2.extBut c o c4 (k1 c o c4 c3 c0 c1 q)
  have I2:Inv X pins σ (upd H s.heap.objs.size (.tup [x,y])) { s with heap:=g2,toks:=tk }:=by
   refine I.l4 (fp:=[N+4,N+2,N+3,N,N+1]) (Nat.le_refl _) k2 hf ?_
   exact ⟨by show 2≤sizeLine;decide,[x',y'],.cons ra (.cons rb .nil),⟨_,ht2,rfl,_,rfl⟩⟩
  refine ⟨.ref s.heap.objs.size,_,I2,rfl,⟨s.heap.objs.size,x,y,I.hok.fresh (Nat.le_refl _),rfl,rfl,fun zs hy0=>?_,fun zs hy'=>?_⟩,⟨y1,e2.extBut _ _ (d 2 4 (by decide)) z2,⟨_,_,e2.extBut _ _ (d 3 4 (by decide)) z3⟩,i6 z4.1 fun o q=>e2.extBut _ _ (d 0 4 (by decide)) q,i6 z5.1 fun o q=>e2.extBut _ _ (d 1 4 (by decide)) q⟩,fun b hb=>?_⟩
  ·rw [hx] at hy0;cases b<;>(cases hy0;exact ex)
  ·rw [hy] at hy';cases c<;>(cases hy';exact ey)
  ·have hlt:b < s.heap.objs.size:=by
    simp only [List.mem_cons,List.not_mem_nil,or_false] at hb
    rcases hb with z | z | z | z | z
    ·rw [z];exact hl4
    ·rw [z];exact Heap.lt_size h2
    ·rw [z];exact Heap.lt_size h3
    ·obtain ⟨o,q,_⟩:=gB h4;rw [z];exact Heap.lt_size q
    ·obtain ⟨o,q,_⟩:=gB h5;rw [z];exact Heap.lt_size q
   rw [aT (Nat.ne_of_lt hlt)]
   exact (hf b hb).1
 done:=by
  intro X hP hw hK hc i pins s σ H E I hf st hg
  subst hP hw hK
  obtain ⟨h1,h2,⟨a0,b0,h3⟩,h4,h5⟩:=st
  obtain ⟨xs,ys,hx,hy,lx,ly,hend⟩:=hg
  obtain ⟨its,rv,p,hz⟩:=I.sq hx
  obtain ⟨its2,rv2,p2,hz2⟩:=I.sq hy
  have D0:=mE (N:=N) (t:=t) (u:=u) (fun c hc e=>by rw [e,(hf c hc).1] at hx;cases hx) (fun c hc e=>by rw [e,(hf c hc).1] at hy;cases hy)
  have hA:X.A.in1.handled=none:=I.ok.hd hc
  have tn:t≠N:=fun e=>by rw [e,(hf N (by simp)).1] at hx;cases hx
  have un:u≠N+1:=fun e=>by rw [e,(hf (N+1) (by simp)).1] at hy;cases hy
  have l1:=rv.length
  have l2:=rv2.length
  refine p9 D0 (dI b hA N t tn its.toArray) (dI c hA (N+1) u un its2.toArray) h1 (.inl rfl) h2 h3 ⟨h4,p⟩ ⟨h5,p2⟩ ?_ fun h' tk hk=>⟨rfl,?_⟩
  ·simp only [List.size_toArray]
   omega
  ·refine I.sm (fp:=[N+4,N+2,N+3,N,N+1]) (fun c o hc q=>?_) hf
   exact hk c o (fun z=>hc (by simp [z])) (fun z=>hc (by simp [z])) (fun z=>hc (by simp [z])) (fun z=>hc (by simp [z])) q
 self:=fun _ _ _ _ _ st h=>wpAny_pyIter_zip st.1 h
end L2
namespace ZS
open PySem
def Ri (l:List Nat):Prop:=l.Pairwise (· < ·)
theorem tj (xs:Array Nat) (j p:Nat) (h1:∀ i,i < p→xs.getD i j < j) (h2:∀ i,p≤i→i < xs.size→¬xs.getD i j < j):∀ (fuel lo hi:Nat),lo≤p→p≤hi→hi≤xs.size→hi - lo≤fuel→SetTable.below.go xs j fuel lo hi=p
 | 0,lo,hi,a,b,c,d=>by rw [SetTable.below.go];omega
 | fuel+1,lo,hi,a,b,c,d=>by
  rw [SetTable.below.go]
  by_cases hl:lo < hi
  ·rw [if_pos hl]
   dsimp only
   have m1:lo≤(lo+hi) / 2:=by omega
   have m2:(lo+hi) / 2 < hi:=by omega
   by_cases hm:xs.getD ((lo+hi) / 2) j < j
   ·rw [if_pos hm]
    have:(lo+hi) / 2 < p:=by
     refine Nat.lt_of_not_le fun z=>?_
     exact h2 _ z (by omega) hm
    exact tj xs j p h1 h2 fuel _ _ (by omega) b c (by omega)
   ·rw [if_neg hm]
    have:p≤(lo+hi) / 2:=by
     refine Nat.le_of_not_lt fun z=>?_
     exact hm (h1 _ z)
    exact tj xs j p h1 h2 fuel _ _ a this (by omega) (by omega)
  ·rw [if_neg hl];omega
theorem getD_list {l:List Nat} (h:i < l.length):l.toArray.getD i j=l[i]:=by simp [Array.getD,h]
theorem below_at {l:List Nat} (hp:p≤l.length) (h1:∀ i (h:i < l.length),i < p→l[i] < j) (h2:∀ i (h:i < l.length),p≤i→j≤l[i]):SetTable.below l.toArray j=p:=by
 unfold SetTable.below
 refine tj l.toArray j p (fun i hi=>?_) (fun i hi hs=>?_) _ _ _ (Nat.zero_le _) (by simpa using hp) (Nat.le_refl _) (by omega)
 ·rw [getD_list (by omega)];exact h1 i (by omega) hi
 ·rw [getD_list (by simpa using hs)]
  have:=h2 i (by simpa using hs) hi
  omega
theorem o8 (h:Ri l) (hk:k < l.length) (hi:i < k):l[i] < l[k]:=List.pairwise_iff_getElem.mp h i k (by omega) hk hi
theorem n4 {l:List Nat} (h:Ri l) (j:Nat):∃ p,p≤l.length∧SetTable.below l.toArray j=p∧(∀ x∈l.take p,x < j)∧(∀ x∈l.drop p,j≤x):=by
 induction l with
 | nil=>exact ⟨0,Nat.le_refl _,below_at (Nat.le_refl _) (fun i h=>by simp at h) (fun i h=>by simp at h),by simp,by simp⟩
 | cons a l ih=>
  obtain ⟨h1,h2⟩:=List.pairwise_cons.mp h
  obtain ⟨p,hp,_,ha,hb⟩:=ih h2
  by_cases hj:a < j
  ·have q1:∀ x∈(a :: l).take (p+1),x < j:=by
    intro x hx
    rw [List.take_succ_cons] at hx
    rcases List.mem_cons.mp hx with e | e
    ·omega
    ·exact ha x e
   have q2:∀ x∈(a :: l).drop (p+1),j≤x:=by
    intro x hx
    rw [List.drop_succ_cons] at hx
    exact hb x hx
   refine ⟨p+1,by simp;omega,below_at (by simp;omega) (fun i hi hip=>?_) (fun i hi hip=>?_),q1,q2⟩
   ·refine q1 _ ?_
    rw [List.mem_iff_getElem]
    exact ⟨i,by rw [List.length_take];simp at hi ⊢;omega,by rw [List.getElem_take]⟩
   ·refine q2 _ ?_
    rw [List.mem_iff_getElem]
    exact ⟨i - (p+1),by simp at hi ⊢;omega,by rw [List.getElem_drop];congr 1;omega⟩
  ·have q2:∀ x∈a :: l,j≤x:=by
    intro x hx
    rcases List.mem_cons.mp hx with e | e
    ·omega
    ·have:=h1 x e;omega
   refine ⟨0,Nat.zero_le _,below_at (Nat.zero_le _) (fun i hi hip=>by omega) (fun i hi _=>q2 _ (List.getElem_mem hi)),by simp,by simpa using q2⟩
theorem nK {l:List Nat} (h:Ri l) (hi:i < l.length):SetTable.below l.toArray (l[i]+1)=i+1∧SetTable.below l.toArray l[i]=i:=by
 constructor
 ·refine below_at (by omega) (fun k hk hki=>?_) (fun k hk hki=>?_)
  ·by_cases e:k=i
   ·subst e;omega
   ·have:=o8 h hi (show k < i by omega);omega
  ·have:=o8 h hk (show i < k by omega);omega
 ·refine below_at (by omega) (fun k hk hki=>o8 h hi hki) (fun k hk hki=>?_)
  by_cases e:k=i
  ·subst e;omega
  ·have:=o8 h hk (show i < k by omega);omega
theorem ow (h:Ri l) (hj:j∉l) (ha:∀ x∈l.take p,x < j) (hb:∀ x∈l.drop p,j≤x):Ri (l.take p++j :: l.drop p):=by
 have hs:Ri (l.take p++l.drop p):=by rw [List.take_append_drop];exact h
 obtain ⟨s1,s2,s3⟩:=List.pairwise_append.mp hs
 refine List.pairwise_append.mpr ⟨s1,List.pairwise_cons.mpr ⟨fun x hx=>?_,s2⟩,fun x hx y hy=>?_⟩
 ·have:=hb x hx
  have:x≠j:=fun e=>hj (by rw [← e];exact List.mem_of_mem_drop hx)
  omega
 ·rcases List.mem_cons.mp hy with e | e
  ·rw [e];exact ha x hx
  ·exact s3 x hx y e
theorem slot_of {t:SetTable} {l:List Nat} (hp:t.place=l.toArray) (hr:Ri l) (hd:t.dummies=#[]) (j:Nat):(j∉l→t.slot j=.empty)∧(j∈l→∃ i,t.slot j=.live i):=by
 have hh:SetTable.has #[] j=false:=by simp [SetTable.has]
 constructor
 ·intro hj
  unfold SetTable.slot
  dsimp only
  rw [hp,hd,hh]
  have:(l.toArray[SetTable.below l.toArray j]? == some j)=false:=by
   rw [beq_eq_false_iff_ne]
   intro e
   rw [List.getElem?_toArray] at e
   exact hj (List.mem_of_getElem? e)
  rw [this]
  rfl
 ·intro hj
  obtain ⟨i,hi,rfl⟩:=List.mem_iff_getElem.mp hj
  refine ⟨i,?_⟩
  unfold SetTable.slot
  dsimp only
  rw [hp,(nK hr hi).2,List.getElem?_toArray,List.getElem?_eq_getElem hi]
  simp
def nxt (m i:Nat):Nat:=(i * 5+1) % (m+1)
def orb (m:Nat):Nat→Nat→Nat
 | 0,i=>i
 | n+1,i=>orb m n (nxt m i)
def marks (m:Nat):Nat→Nat→Nat→Nat
 | 0,_,acc=>acc
 | n+1,i,acc=>marks m n (nxt m i) (acc ||| (1 <<< i))
def full (m:Nat):Bool:=marks m (m+1) 0 0 == 2 ^ (m+1) - 1 && orb m (m+1) 0 == 0
theorem D9:full 7=true:=by decide +kernel
theorem AX:full 31=true:=by decide +kernel
theorem zu:full 127=true:=by decide +kernel
theorem Ad:full 511=true:=by decide +kernel
theorem nU:∀ (n i acc e:Nat),(marks m n i acc).testBit e=true→acc.testBit e=true∨∃ k,k < n∧orb m k i=e
 | 0,i,acc,e,h=>.inl h
 | n+1,i,acc,e,h=>by
  rw [marks] at h
  rcases nU n _ _ e h with q | ⟨k,hk,q⟩
  ·rw [Nat.testBit_or,Bool.or_eq_true] at q
   rcases q with q | q
   ·exact .inl q
   ·refine .inr ⟨0,by omega,?_⟩
    rw [Nat.one_shiftLeft,Nat.testBit_two_pow] at q
    simpa [orb] using q
  ·exact .inr ⟨k+1,by omega,q⟩
theorem kU:∀ (a b i:Nat),orb m (a+b) i=orb m b (orb m a i)
 | 0,b,i=>by simp [orb]
 | a+1,b,i=>by
  rw [show a+1+b=(a+b)+1 by omega,orb,kU a b,orb]
theorem ye (hf:full m=true) (he:e≤m):∃ k,k≤m∧orb m k 0=e:=by
 unfold full at hf
 rw [Bool.and_eq_true,beq_iff_eq,beq_iff_eq] at hf
 have q:(marks m (m+1) 0 0).testBit e=true:=by
  rw [hf.1,Nat.testBit_two_pow_sub_one]
  simp;omega
 rcases nU _ _ _ _ q with z | ⟨k,hk,z⟩
 ·simp at z
 ·exact ⟨k,by omega,z⟩
theorem reach (hf:full m=true) (he:e≤m) (hi:i≤m):∃ k,k≤m∧orb m k i=e:=by
 obtain ⟨a,ha,ea⟩:=ye hf hi
 obtain ⟨b,hb,eb⟩:=ye hf he
 have h0:orb m (m+1) 0=0:=by
  unfold full at hf
  rw [Bool.and_eq_true,beq_iff_eq,beq_iff_eq] at hf
  exact hf.2
 by_cases hab:a≤b
 ·refine ⟨b - a,by omega,?_⟩
  rw [← ea,← kU,show a+(b - a)=b by omega,eb]
 ·refine ⟨m+1 - a+b,by omega,?_⟩
  rw [← ea,← kU,show a+(m+1 - a+b)=(m+1)+b by omega,kU,h0,eb]
def lp (m:Nat):Nat→Nat×Nat→Nat×Nat
 | 0,x=>x
 | n+1,x=>lp m n (SetTable.leap m x.1 x.2)
theorem uO:∀ (a b:Nat) (x:Nat×Nat),lp m (a+b) x=lp m b (lp m a x)
 | 0,b,x=>by simp [lp]
 | a+1,b,x=>by
  rw [show a+1+b=(a+b)+1 by omega,lp,uO a b,lp]
theorem rC:∀ (n:Nat) (x:Nat×Nat),(lp m n x).2=x.2 / 32 ^ n
 | 0,x=>by simp [lp]
 | n+1,x=>by
  rw [lp,rC n]
  show x.2 / 32 / 32 ^ n=_
  rw [Nat.div_div_eq_div_mul,Nat.pow_succ,Nat.mul_comm]
theorem uB:∀ (n i:Nat),lp m n (i,0)=(orb m n i,0)
 | 0,i=>rfl
 | n+1,i=>by
  rw [lp,orb]
  have:SetTable.leap m i 0=(nxt m i,0):=by simp [SetTable.leap,nxt]
  rw [this,uB n]
theorem DS (x:Nat×Nat) (h:x.1≤m):∀ n,(lp m n x).1≤m:=by
 intro n
 induction n generalizing x with
 | zero=>exact h
 | succ n ih=>
  rw [lp]
  exact ih _ (by show _ % (m+1)≤m;have:=Nat.mod_lt (x.1 * 5+1+x.2 / 32) (show m+1 > 0 by omega);omega)
theorem nq (hf:full m=true) (he:e≤m) (hi:i≤m) (hp:p < 2 ^ 64):∃ k,k < SetTable.turns m∧(lp m k (i,p)).1=e:=by
 have h13:(lp m 13 (i,p)).2=0:=by
  rw [rC]
  exact Nat.div_eq_of_lt (Nat.lt_of_lt_of_le hp (by decide))
 obtain ⟨k,hk,ek⟩:=reach hf he (DS (i,p) hi 13)
 refine ⟨13+k,by unfold SetTable.turns;omega,?_⟩
 rw [uO]
 have z:lp m 13 (i,p)=((lp m 13 (i,p)).1,0):=by rw [← h13]
 rw [z,uB]
 exact ek
theorem ng (h:Int):SetTable.bits h < 2 ^ 64:=by
 unfold SetTable.bits
 have:=Int.emod_lt_of_pos h (show (0:Int) < 2 ^ 64 by decide)
 omega
theorem room {l:List Nat} (hn:l.length≤m):∃ e,e≤m∧e∉l:=by
 refine Classical.byContradiction fun h=>?_
 have hall:∀ e∈List.range (m+1),e∈l:=fun e he=>Classical.byContradiction fun z=>h ⟨e,by have:=List.mem_range.mp he;omega,z⟩
 have:=List.Nodup.length_le_of_subset (List.nodup_range (n:=m+1)) hall
 rw [List.length_range] at this
 omega
theorem we {t:SetTable} {l:List Nat} (hp:t.place=l.toArray) (hr:Ri l) (hd:t.dummies=#[]) (h:Int) :
  ∀ (k:Nat) (fuel:Nat) (q:SetTable.Probe),q.dummy=none→q.more≤9→10 * k+q.more+1≤fuel→(lp t.mask k (q.i,q.perturb)).1∉l→(k=0→q.j=q.i∨q.j∉l)→(q.more≤9) →
   (k=0→q.j∉l)→∃ j,SetTable.probe.go t (fun _=>h+1) h fuel q=some (.empty j none)∧j∉l:=by
 intro k
 induction k with
 | zero=>
  intro fuel q h1 h2 h3 h4 h5 h6 h7
  obtain ⟨f,rfl⟩:∃ f,fuel=f+1:=⟨fuel - 1,by omega⟩
  refine ⟨q.j,?_,h7 rfl⟩
  rw [SetTable.probe.go,(slot_of hp hr hd q.j).1 (h7 rfl)]
  dsimp only
  rw [h1]
 | succ k ih=>
  intro fuel q h1 h2 h3 h4 h5 h6 h7
  have run:∀ (r fuel:Nat) (q:SetTable.Probe),q.more=r→q.dummy=none→10 * (k+1)+r+1≤fuel→(lp t.mask (k+1) (q.i,q.perturb)).1∉l→∃ j,SetTable.probe.go t (fun _=>h+1) h fuel q=some (.empty j none)∧j∉l:=by
   intro r
   induction r with
   | zero=>
    intro fuel q hm hdm hfu hl
    obtain ⟨f,rfl⟩:∃ f,fuel=f+1:=⟨fuel - 1,by omega⟩
    by_cases hj:q.j∈l
    ·obtain ⟨i,ei⟩:=(slot_of hp hr hd q.j).2 hj
     rw [SetTable.probe.go,ei]
     dsimp only
     have hne:(h+1 == h)=false:=by rw [beq_eq_false_iff_ne];omega
     rw [hne]
     have ha:t.advance q={ q with j:=(SetTable.leap t.mask q.i q.perturb).1,more:=SetTable.runEnd t.mask (SetTable.leap t.mask q.i q.perturb).1 - (SetTable.leap t.mask q.i q.perturb).1,i:=(SetTable.leap t.mask q.i q.perturb).1,perturb:=(SetTable.leap t.mask q.i q.perturb).2 }:=by
      unfold SetTable.advance
      rw [if_neg (by omega)]
     have hmore:(t.advance q).more≤9:=by
      rw [ha]
      dsimp only
      unfold SetTable.runEnd
      split<;>omega
     have hl':(lp t.mask k ((t.advance q).i,(t.advance q).perturb)).1∉l:=by rw [ha];exact hl
     refine ih f (t.advance q) (by rw [ha];exact hdm) hmore (by omega) hl' (fun _=>.inl (by rw [ha])) hmore fun hk=>?_
     rw [ha]
     dsimp only
     subst hk
     exact hl
    ·refine ⟨q.j,?_,hj⟩
     rw [SetTable.probe.go,(slot_of hp hr hd q.j).1 hj]
     dsimp only
     rw [hdm]
   | succ r ihr=>
    intro fuel q hm hdm hfu hl
    obtain ⟨f,rfl⟩:∃ f,fuel=f+1:=⟨fuel - 1,by omega⟩
    by_cases hj:q.j∈l
    ·obtain ⟨i,ei⟩:=(slot_of hp hr hd q.j).2 hj
     rw [SetTable.probe.go,ei]
     dsimp only
     have hne:(h+1 == h)=false:=by rw [beq_eq_false_iff_ne];omega
     rw [hne]
     have ha:t.advance q={ q with j:=q.j+1,more:=q.more - 1 }:=by
      unfold SetTable.advance
      rw [if_pos (by omega)]
     refine ihr f (t.advance q) (by rw [ha];dsimp only;omega) (by rw [ha];exact hdm) (by omega) (by rw [ha];exact hl)
    ·refine ⟨q.j,?_,hj⟩
     rw [SetTable.probe.go,(slot_of hp hr hd q.j).1 hj]
     dsimp only
     rw [hdm]
  exact run q.more fuel q rfl h1 h3 h4
theorem vQ {t:SetTable} {l:List Nat} (hp:t.place=l.toArray) (hr:Ri l) (hd:t.dummies=#[]) (hf:full t.mask=true) (hn:l.length≤t.mask) (h:Int):∃ j,t.freeSlot h=some (j,false)∧j∉l:=by
 obtain ⟨e,he,hel⟩:=room hn
 have hi:SetTable.bits h % (t.mask+1)≤t.mask:=by have:=Nat.mod_lt (SetTable.bits h) (show t.mask+1 > 0 by omega);omega
 obtain ⟨k,hk,ek⟩:=nq hf he hi (ng h)
 have hmore:(t.probeStart h).more≤9:=by
  unfold SetTable.probeStart SetTable.runEnd
  dsimp only
  split<;>omega
 have q:=we hp hr hd h k (10 * SetTable.turns t.mask) (t.probeStart h) rfl hmore (by omega) (by
  show (lp t.mask k (SetTable.bits h % (t.mask+1),SetTable.bits h)).1∉l
  rw [ek];exact hel) (fun _=>.inl rfl) hmore (fun hk0=>by
   subst hk0
   show SetTable.bits h % (t.mask+1)∉l
   rw [show SetTable.bits h % (t.mask+1)=e from ek];exact hel)
 obtain ⟨j,ej,hj⟩:=q
 refine ⟨j,?_,hj⟩
 unfold SetTable.freeSlot SetTable.probe
 rw [ej]
 rfl
end ZS
namespace ZS
open PySem
theorem rJ {m e:Nat} {owner:Array (Option Nat)} (he:owner.getD e (some 0)=none):∀ (k fuel i p:Nat),(lp m k (i,p)).1=e→k < fuel→∃ j,SetTable.layClean.free m owner fuel i p=some j∧owner.getD j (some 0)=none
 | k,0,i,p,_,h=>by omega
 | k,fuel+1,i,p,hk,h=>by
  rw [SetTable.layClean.free]
  cases hf:(List.range (SetTable.runEnd m i+1 - i)).find? fun k=>(owner.getD (i+k) (some 0)).isNone with
  | some x=>
   refine ⟨i+x,rfl,?_⟩
   have:=List.find?_some hf
   simpa using this
  | none=>
   have hno:=List.find?_eq_none.mp hf
   cases k with
   | zero=>
    have hi:i=e:=hk
    have:=hno 0 (List.mem_range.mpr (by unfold SetTable.runEnd;split<;>omega))
    rw [Nat.add_zero,hi,he] at this
    simp at this
   | succ k=>
    dsimp only
    exact rJ he k fuel _ _ hk (by omega)
theorem qc {α β:Type} {f g:α→Option β}:∀ {l:List α},(∀ x∈l,f x=g x)→l.filterMap f=l.filterMap g
 | [],_=>rfl
 | a :: l,h=>by
  rw [List.filterMap_cons,List.filterMap_cons,h a (List.mem_cons_self ..),qc fun x hx=>h x (List.mem_cons_of_mem _ hx)]
def vals (m:Nat) (owner:Array (Option Nat)):List Nat:=(List.range (m+1)).filterMap fun j=>owner.getD j none
theorem v7 (m:Nat):vals m (Array.replicate (m+1) none)=[]:=by
 unfold vals
 rw [List.filterMap_eq_nil_iff]
 intro j hj
 simp [Array.getD]
theorem wG {m j k:Nat} {owner:Array (Option Nat)} (hs:owner.size=m+1) (hj:owner.getD j (some 0)=none):(vals m (owner.setIfInBounds j (some k))).Perm (k :: vals m owner):=by
 have hjs:j < owner.size:=by
  refine Nat.lt_of_not_le fun z=>?_
  simp [Array.getD,Nat.not_lt.mpr z] at hj
 have hjv:owner.getD j none=none:=by
  simp [Array.getD,hjs] at hj ⊢
  exact hj
 have hmem:j∈List.range (m+1):=List.mem_range.mpr (by omega)
 have pe:=List.perm_cons_erase hmem
 have nd:(List.range (m+1)).Nodup:=List.nodup_range
 unfold vals
 refine (pe.filterMap _).trans ?_
 refine List.Perm.trans ?_ ((pe.filterMap (fun j=>owner.getD j none)).cons k).symm
 rw [List.filterMap_cons,List.filterMap_cons]
 have e1:(owner.setIfInBounds j (some k)).getD j none=some k:=by simp [Array.getD,hjs]
 rw [e1,hjv]
 dsimp only
 refine List.Perm.cons k (List.Perm.of_eq ?_)
 refine qc fun x hx=>?_
 have hne:x≠j:=fun e=>by
  rw [e] at hx
  exact (List.Nodup.mem_erase_iff nd).mp hx |>.1 rfl
 simp only [Array.getD,Array.size_setIfInBounds]
 split
 ·rw [Array.getInternal_eq_getElem,Array.getInternal_eq_getElem,Array.getElem_setIfInBounds_ne (by assumption) (fun e=>hne e.symm)]
 ·rfl
theorem wc {m:Nat} {owner:Array (Option Nat)} (hs:owner.size=m+1) (h:(vals m owner).length≤m):∃ e,e≤m∧owner.getD e (some 0)=none:=by
 refine Classical.byContradiction fun hno=>?_
 have all:∀ j∈List.range (m+1),(owner.getD j none).isSome=true:=fun j hj=>by
  have hj':=List.mem_range.mp hj
  cases e:owner.getD j none with
  | some x=>rfl
  | none=>
   refine absurd ⟨j,by omega,?_⟩ hno
   simp [Array.getD,show j < owner.size by omega] at e ⊢
   exact e
 have len:∀ l:List Nat,(∀ j∈l,(owner.getD j none).isSome=true)→(l.filterMap fun j=>owner.getD j none).length=l.length:=by
  intro l
  induction l with
  | nil=>intro _;rfl
  | cons a l ih=>
   intro hl
   obtain ⟨x,hx⟩:=Option.isSome_iff_exists.mp (hl a (List.mem_cons_self ..))
   rw [List.filterMap_cons,hx]
   dsimp only
   rw [List.length_cons,List.length_cons,ih fun j hj=>hl j (List.mem_cons_of_mem _ hj)]
 have:=len _ all
 rw [List.length_range] at this
 unfold vals at h
 omega
def c7 (m:Nat) (acc:Option (Array (Option Nat)×Nat)) (h:Int):Option (Array (Option Nat)×Nat):=do
  let (owner,k) ← acc
  let j ← SetTable.layClean.free m owner (SetTable.turns m) (SetTable.bits h % (m+1)) (SetTable.bits h)
  pure (owner.setIfInBounds j (some k),k+1)
theorem qW {m:Nat} (hf:full m=true):∀ (hs:List Int) (owner:Array (Option Nat)) (k:Nat),owner.size=m+1→(vals m owner).Perm (List.range k)→k+hs.length≤m →
  ∃ owner',hs.foldl (c7 m) (some (owner,k))=some (owner',k+hs.length)∧owner'.size=m+1∧(vals m owner').Perm (List.range (k+hs.length))
 | [],owner,k,h1,h2,h3=>⟨owner,rfl,h1,by simpa using h2⟩
 | h :: hs,owner,k,h1,h2,h3=>by
  have hlen:(vals m owner).length=k:=by rw [h2.length_eq,List.length_range]
  obtain ⟨e,he,hen⟩:=wc h1 (by simp at h3;omega)
  have hi:SetTable.bits h % (m+1)≤m:=by have:=Nat.mod_lt (SetTable.bits h) (show m+1 > 0 by omega);omega
  obtain ⟨q,hq,eq⟩:=nq hf he hi (ng h)
  obtain ⟨j,ej,hj⟩:=rJ (m:=m) hen q (SetTable.turns m) _ _ eq hq
  have st:c7 m (some (owner,k)) h=some (owner.setIfInBounds j (some k),k+1):=by
   unfold c7
   show (SetTable.layClean.free m owner (SetTable.turns m) (SetTable.bits h % (m+1)) (SetTable.bits h)).bind _=_
   rw [ej]
   rfl
  have p2:(vals m (owner.setIfInBounds j (some k))).Perm (List.range (k+1)):=by
   refine (wG h1 hj).trans ((h2.cons k).trans ?_)
   rw [List.range_succ]
   exact (List.perm_append_singleton k _).symm
  obtain ⟨o',a1,a2,a3⟩:=qW hf hs _ (k+1) (by rw [Array.size_setIfInBounds];exact h1) p2 (by simp at h3;omega)
  refine ⟨o',?_,a2,by simp only [List.length_cons];rw [show k+(hs.length+1)=k+1+hs.length by omega];exact a3⟩
  rw [List.foldl_cons,st,a1]
  simp only [List.length_cons]
  rw [show k+(hs.length+1)=k+1+hs.length by omega]
theorem lr {m:Nat} (hf:full m=true) (hs:Array Int) (hn:hs.size≤m):∃ owner,SetTable.layClean m hs=some owner∧owner.size=m+1∧(vals m owner).Perm (List.range hs.size):=by
 obtain ⟨o,a1,a2,a3⟩:=qW hf hs.toList (Array.replicate (m+1) none) 0 (by simp) (by rw [v7];simp) (by simpa using hn)
 refine ⟨o,?_,a2,by simpa using a3⟩
 unfold SetTable.layClean
 rw [← Array.foldl_toList]
 have:(fun (acc:Option (Array (Option Nat)×Nat)) (h:Int)=>(do
  let (owner,k) ← acc
  let j ← SetTable.layClean.free m owner (SetTable.turns m) (SetTable.bits h % (m+1)) (SetTable.bits h)
  pure (owner.setIfInBounds j (some k),k+1):Option (Array (Option Nat)×Nat)))=c7 m:=rfl
 rw [this,a1]
 rfl
theorem fg (f:Nat→Option Nat):∀ l:List Nat,((l.filterMap fun j=>(f j).map (j,·)).map (·.1))=l.filter fun j=>(f j).isSome
 | []=>rfl
 | a :: l=>by
  rw [List.filterMap_cons,List.filter_cons]
  cases f a with
  | none=>simpa using fg f l
  | some x=>simp [fg f l]
theorem fC (f:Nat→Option Nat):∀ l:List Nat,((l.filterMap fun j=>(f j).map (j,·)).map (·.2))=l.filterMap f
 | []=>rfl
 | a :: l=>by
  rw [List.filterMap_cons,List.filterMap_cons]
  cases f a with
  | none=>simpa using fC f l
  | some x=>simp [fC f l]
theorem rR {α:Type}:∀ (xs:List α),(List.range xs.length).filterMap (fun i=>xs[i]?)=xs
 | []=>rfl
 | x :: xs=>by
  rw [List.length_cons,List.range_succ_eq_map,List.filterMap_cons]
  simp only [List.getElem?_cons_zero]
  rw [List.filterMap_map]
  have:((fun i=>(x :: xs)[i]?) ∘ Nat.succ)=fun i=>xs[i]?:=by funext i;simp
  rw [this,rR xs]
theorem qF {t:SetTable} {es:Array (Int×Value)} {wanted:Nat} (hf:full (SetTable.sizeAbove wanted - 1)=true) (hn:es.size≤SetTable.sizeAbove wanted - 1) :
  ∃ es' t' l,relayAll t es wanted=(es',t',false)∧es'.toList.Perm es.toList∧t'.place=l.toArray∧Ri l∧l.length=es.size∧t'.dummies=#[]∧t'.mask=SetTable.sizeAbove wanted - 1∧t'.plain=t.plain∧t'.led=t.led:=by
 obtain ⟨owner,e1,e2,e3⟩:=lr hf (es.map (·.1)) (by simpa using hn)
 rw [Array.size_map] at e3
 generalize hm:SetTable.sizeAbove wanted - 1=m at *
 let f:Nat→Option Nat:=fun j=>owner.getD j none
 have r1:t.relaid (es.map (·.1)) wanted=some ({ mask:=m,place:=((List.range (m+1)).filter fun j=>(f j).isSome).toArray,dummies:=#[],finger:=t.finger,led:=t.led,moves:=t.movedTo m,plain:=t.plain },(vals m owner).toArray):=by
  unfold SetTable.relaid SetTable.laid
  rw [hm,e1]
  show some _=some _
  rw [← fg f,show vals m owner=(List.range (m+1)).filterMap f from rfl,← fC f]
 have po:((vals m owner).toArray.filterMap (fun (i:Nat)=>es[i]?)).toList.Perm es.toList:=by
  rw [Array.toList_filterMap]
  refine (e3.filterMap _).trans (List.Perm.of_eq ?_)
  have:(fun (i:Nat)=>es[i]?)=fun (i:Nat)=>es.toList[i]?:=by funext i;rw [Array.getElem?_toList]
  rw [this,← Array.length_toList,rR]
 have lpl:((List.range (m+1)).filter fun j=>(f j).isSome).length=es.size:=by
  rw [← fg f,List.length_map,← List.length_map (f:=(·.2)),fC f]
  show (vals m owner).length=es.size
  rw [e3.length_eq,List.length_range]
 have so:((vals m owner).toArray.filterMap (fun (i:Nat)=>es[i]?)).size=es.size:=by
  rw [← Array.length_toList,po.length_eq,Array.length_toList]
 refine ⟨_,{ mask:=m,place:=((List.range (m+1)).filter fun j=>(f j).isSome).toArray,dummies:=#[],finger:=t.finger,led:=t.led,moves:=t.movedTo m,plain:=t.plain },(List.range (m+1)).filter fun j=>(f j).isSome,?_,po,rfl,?_,lpl,rfl,rfl,rfl,rfl⟩
 ·unfold relayAll
  rw [r1]
  dsimp only
  have c1:coversAll (vals m owner).toArray es.size=true:=by
   unfold coversAll
   rw [List.isPerm_iff]
   exact e3
  have c2:SetTable.fits { mask:=m,place:=((List.range (m+1)).filter fun j=>(f j).isSome).toArray,dummies:=#[],finger:=t.finger,led:=t.led,moves:=t.movedTo m,plain:=t.plain } ((vals m owner).toArray.filterMap (fun (i:Nat)=>es[i]?)).size=true:=by
   unfold SetTable.fits SetTable.fill
   rw [so]
   simp only [List.size_toArray,lpl]
   simpa using hn
  rw [c1,c2]
  rfl
 ·exact List.Pairwise.filter _ List.pairwise_lt_range
end ZS
namespace ZS
open PySem
theorem vm {t:SetTable} {es:Array (Int×Value)} (hf:full (SetTable.sizeAbove wanted - 1)=true) (hn:es.size≤SetTable.sizeAbove wanted - 1) :
  ∃ t' order l,t.relaid (es.map (·.1)) wanted=some (t',order)∧(order.filterMap (es[·]?)).toList.Perm es.toList∧t'.place=l.toArray∧Ri l∧l.length=es.size∧t'.dummies=#[]∧t'.mask=SetTable.sizeAbove wanted - 1∧t'.plain=t.plain∧t'.led=t.led:=by
 obtain ⟨es',t',l,e,r⟩:=qF (t:=t) hf hn
 unfold relayAll at e
 split at e
 ·rename_i t2 order eo
  dsimp only at e
  split at e
  ·have e':=Prod.mk.inj e
   obtain ⟨rfl,e'⟩:=e'
   obtain ⟨rfl,_⟩:=Prod.mk.inj e'
   exact ⟨t2,order,l,eo,r⟩
  ·have:=(Prod.mk.inj (Prod.mk.inj e).2).2
   cases this
 ·have:=(Prod.mk.inj (Prod.mk.inj e).2).2
  cases this
end ZS
namespace ZS
open PySem
def Rch (t:SetTable) (l:List Nat) (n:Nat) (q:SetTable.Probe):Prop:=q.dummy=none∧q.more≤9∧∃ k,10 * k+q.more+1≤n∧(lp t.mask k (q.i,q.perturb)).1∉l∧(k=0→q.j∉l)
theorem qG (h:Rch t l (n+1) q) (hj:q.j∈l):Rch t l n (t.advance q):=by
 obtain ⟨h1,h2,k,h3,h4,h5⟩:=h
 cases k with
 | zero=>exact absurd hj (h5 rfl)
 | succ k=>
  by_cases hm:q.more > 0
  ·have ha:t.advance q={ q with j:=q.j+1,more:=q.more - 1 }:=by
    unfold SetTable.advance
    rw [if_pos hm]
   rw [ha]
   exact ⟨h1,by dsimp only;omega,k+1,by dsimp only;omega,h4,fun z=>by omega⟩
  ·have ha:t.advance q={ q with j:=(SetTable.leap t.mask q.i q.perturb).1,more:=SetTable.runEnd t.mask (SetTable.leap t.mask q.i q.perturb).1 - (SetTable.leap t.mask q.i q.perturb).1,i:=(SetTable.leap t.mask q.i q.perturb).1,perturb:=(SetTable.leap t.mask q.i q.perturb).2 }:=by
    unfold SetTable.advance
    rw [if_neg hm]
   have hmore:(t.advance q).more≤9:=by
    rw [ha]
    dsimp only
    unfold SetTable.runEnd
    split<;>omega
   refine ⟨by rw [ha];exact h1,hmore,k,by omega,by rw [ha];exact h4,fun hk=>?_⟩
   rw [ha]
   dsimp only
   subst hk
   exact h4
theorem oo (hf:full t.mask=true) (hn:l.length≤t.mask) (h:Int):Rch t l (10 * SetTable.turns t.mask) (t.probeStart h):=by
 obtain ⟨e,he,hel⟩:=room hn
 have hi:SetTable.bits h % (t.mask+1)≤t.mask:=by have:=Nat.mod_lt (SetTable.bits h) (show t.mask+1 > 0 by omega);omega
 obtain ⟨k,hk,ek⟩:=nq hf he hi (ng h)
 have hmore:(t.probeStart h).more≤9:=by
  unfold SetTable.probeStart SetTable.runEnd
  dsimp only
  split<;>omega
 refine ⟨rfl,hmore,k,by omega,?_,fun hk0=>?_⟩
 ·show (lp t.mask k (SetTable.bits h % (t.mask+1),SetTable.bits h)).1∉l
  rw [ek];exact hel
 ·subst hk0
  show SetTable.bits h % (t.mask+1)∉l
  rw [show SetTable.bits h % (t.mask+1)=e from ek];exact hel
end ZS
namespace ZS
open PySem
def adv (m:Nat) (q:SetTable.Probe):SetTable.Probe:=
 if q.more > 0 then { q with j:=q.j+1,more:=q.more - 1 } else
 { q with j:=(SetTable.leap m q.i q.perturb).1,more:=SetTable.runEnd m (SetTable.leap m q.i q.perturb).1 - (SetTable.leap m q.i q.perturb).1,i:=(SetTable.leap m q.i q.perturb).1,perturb:=(SetTable.leap m q.i q.perturb).2 }
theorem uD (t:SetTable) (q:SetTable.Probe):t.advance q=adv t.mask q:=by
 unfold SetTable.advance adv
 split<;>rfl
inductive Path (m:Nat) (l:List Nat):SetTable.Probe→SetTable.Probe→Prop
 | refl (q:SetTable.Probe):Path m l q q
 | step {q q':SetTable.Probe}:q.j∈l→Path m l (adv m q) q'→Path m l q q'
theorem Path.mono (hl:∀ x∈l,x∈l') (h:Path m l q q'):Path m l' q q':=by
 induction h with
 | refl q=>exact .refl q
 | step h _ ih=>exact .step (hl _ h) ih
theorem Path.trans (h:Path m l q q') (h2:Path m l q' q2):Path m l q q2:=by
 induction h with
 | refl q=>exact h2
 | step h _ ih=>exact .step h (ih h2)
def start (m:Nat) (h:Int):SetTable.Probe:={ j:=SetTable.bits h % (m+1),more:=SetTable.runEnd m (SetTable.bits h % (m+1)) - SetTable.bits h % (m+1),i:=SetTable.bits h % (m+1),perturb:=SetTable.bits h,dummy:=none }
def Rea (m:Nat) (l:List Nat) (h:Int) (j:Nat):Prop:=∃ q,Path m l (start m h) q∧q.j=j
theorem Rea.mono (hl:∀ x∈l,x∈l') (r:Rea m l h j):Rea m l' h j:=let ⟨q,p,e⟩:=r;⟨q,p.mono hl,e⟩
theorem sx {t:SetTable} {l:List Nat} (hp:t.place=l.toArray) (hr:Ri l) (j:Nat) (hj:j∈l):∃ i,l[i]?=some j∧t.slot j=.live i:=by
 obtain ⟨i,hi,rfl⟩:=List.mem_iff_getElem.mp hj
 refine ⟨i,List.getElem?_eq_getElem hi,?_⟩
 unfold SetTable.slot
 dsimp only
 rw [hp,(nK hr hi).2,List.getElem?_toArray,List.getElem?_eq_getElem hi]
 simp
theorem Dd {l:List Nat} (hr:Ri l) {i i' j:Nat} (h:l[i]?=some j) (h':l[i']?=some j):i=i':=by
 obtain ⟨a,ea⟩:=List.getElem?_eq_some_iff.mp h
 obtain ⟨b,eb⟩:=List.getElem?_eq_some_iff.mp h'
 rcases Nat.lt_trichotomy i i' with z | z | z
 ·have:=List.pairwise_iff_getElem.mp hr i i' a b z;omega
 ·exact z
 ·have:=List.pairwise_iff_getElem.mp hr i' i b a z;omega
theorem zW (hp:t.place=l.toArray) (hr:Ri l) (hd:t.dummies=#[]) (h:Int) (f:Nat→Int):∀ (n fuel:Nat) (q:SetTable.Probe),Rch t l n q→n≤fuel →
  (∃ j q',SetTable.probe.go t f h fuel q=some (.empty j none)∧j∉l∧Path t.mask l q q'∧q'.j=j)∨∃ j i next m,SetTable.probe.go t f h fuel q=some (.candidate j i next)∧l[i]?=some j∧f i=h∧t.slot j=.live i∧m < n∧Rch t l m next∧Path t.mask l q next:=by
 intro n
 induction n with
 | zero=>
  intro fuel q hq _
  obtain ⟨_,_,k,h3,_⟩:=hq
  omega
 | succ n ih=>
  intro fuel q hq hf
  obtain ⟨fu,rfl⟩:∃ f,fuel=f+1:=⟨fuel - 1,by omega⟩
  by_cases hj:q.j∈l
  ·obtain ⟨i,hi,ei⟩:=sx hp hr q.j hj
   have hs:=qG hq hj
   have ps:∀ q',Path t.mask l (t.advance q) q'→Path t.mask l q q':=fun q' p=>.step hj (by rw [← uD];exact p)
   by_cases hh:f i=h
   ·refine .inr ⟨q.j,i,t.advance q,n,?_,hi,hh,ei,by omega,hs,ps _ (.refl _)⟩
    rw [SetTable.probe.go,ei]
    dsimp only
    rw [if_pos (by rw [hh];simp)]
   ·rcases ih fu (t.advance q) hs (by omega) with ⟨j,q',e,hjl,pa,ej⟩ | ⟨j,i',next,m,e,r1,r2,r3,r4,r5,r6⟩
    ·refine .inl ⟨j,q',?_,hjl,ps _ pa,ej⟩
     rw [SetTable.probe.go,ei]
     dsimp only
     rw [if_neg (by simpa using hh)]
     exact e
    ·refine .inr ⟨j,i',next,m,?_,r1,r2,r3,by omega,r5,ps _ r6⟩
     rw [SetTable.probe.go,ei]
     dsimp only
     rw [if_neg (by simpa using hh)]
     exact e
  ·refine .inl ⟨q.j,q,?_,hj,.refl _,rfl⟩
   rw [SetTable.probe.go,(slot_of hp hr hd q.j).1 hj]
   dsimp only
   rw [hq.1]
theorem yP {t:SetTable} {l:List Nat} (hp:t.place=l.toArray) (hr:Ri l) (h:Int) (f:Nat→Int) {q':SetTable.Probe} (h0:l[i0]?=some q'.j) (hf0:f i0=h):∀ (n fuel:Nat) (q:SetTable.Probe),Rch t l n q→n≤fuel→Path t.mask l q q' →
  ∃ j i next m,SetTable.probe.go t f h fuel q=some (.candidate j i next)∧l[i]?=some j∧f i=h∧t.slot j=.live i∧m < n∧Rch t l m next∧(i=i0∨Path t.mask l next q'):=by
 intro n
 induction n with
 | zero=>
  intro fuel q hq _
  obtain ⟨_,_,k,h3,_⟩:=hq
  omega
 | succ n ih=>
  intro fuel q hq hf pa
  obtain ⟨fu,rfl⟩:∃ f,fuel=f+1:=⟨fuel - 1,by omega⟩
  have hj:q.j∈l:=by
   cases pa with
   | refl=>exact List.mem_of_getElem? h0
   | step h _=>exact h
  obtain ⟨i,hi,ei⟩:=sx hp hr q.j hj
  have hs:=qG hq hj
  have nx:i=i0∨Path t.mask l (t.advance q) q':=by
   cases pa with
   | refl=>exact .inl (Dd hr hi h0)
   | step _ p=>exact .inr (by rw [uD];exact p)
  by_cases hh:f i=h
  ·refine ⟨q.j,i,t.advance q,n,?_,hi,hh,ei,by omega,hs,nx⟩
   rw [SetTable.probe.go,ei]
   dsimp only
   rw [if_pos (by rw [hh];simp)]
  ·rcases nx with z | nx
   ·rw [z] at hh;exact absurd hf0 hh
   ·obtain ⟨j,i',next,m,e,r1,r2,r3,r4,r5,r6⟩:=ih fu (t.advance q) hs (by omega) nx
    refine ⟨j,i',next,m,?_,r1,r2,r3,by omega,r5,r6⟩
    rw [SetTable.probe.go,ei]
    dsimp only
    rw [if_neg (by simpa using hh)]
    exact e
def occ (m:Nat) (owner:Array (Option Nat)):List Nat:=(List.range (m+1)).filter fun j=>(owner.getD j none).isSome
theorem lO:∀ (r:Nat),r≤M→(∀ r',r' < r→i+r'∈l)→Path m l { j:=i,more:=M,i:=i,perturb:=p,dummy:=none } { j:=i+r,more:=M - r,i:=i,perturb:=p,dummy:=none }
 | 0,_,_=>.refl _
 | r+1,h,hl=>(lO r (by omega) fun r' h'=>hl r' (by omega)).trans (.step (hl r (by omega)) (by
   unfold adv
   rw [if_pos (by dsimp only;omega)]
   dsimp only
   rw [show M - r - 1=M - (r+1) by omega]
   exact .refl _))
theorem ug (hs:owner.size=m+1) (hj:j≤m) (h:(owner.getD j (some 0)).isNone=false):j∈occ m owner:=by
 unfold occ
 rw [List.mem_filter]
 refine ⟨List.mem_range.mpr (by omega),?_⟩
 have e:owner.getD j none=owner.getD j (some 0):=by simp [Array.getD,show j < owner.size by omega]
 rw [e]
 cases q:owner.getD j (some 0) with
 | none=>rw [q] at h;cases h
 | some x=>rfl
theorem uh (h:i≤m):SetTable.runEnd m i≤m∧i≤SetTable.runEnd m i:=by
 unfold SetTable.runEnd
 split<;>omega
theorem nV (hs:owner.size=m+1):∀ (fuel i p j:Nat),i≤m→SetTable.layClean.free m owner fuel i p=some j→∃ q,Path m (occ m owner) { j:=i,more:=SetTable.runEnd m i - i,i:=i,perturb:=p,dummy:=none } q∧q.j=j
 | 0,_,_,_,_,h=>by simp [SetTable.layClean.free] at h
 | fuel+1,i,p,j,hi,h=>by
  obtain ⟨re,ri⟩:=uh hi
  rw [SetTable.layClean.free] at h
  split at h
  ·rename_i k hk
   cases h
   obtain ⟨h1,as,bs,e,h2⟩:=List.find?_eq_some_iff_append.mp hk
   have lk:as.length=k:=by
    have:=congrArg (fun l=>l[as.length]?) e
    simp only [List.getElem?_append_right (Nat.le_refl _),Nat.sub_self,List.getElem?_cons_zero] at this
    obtain ⟨a,b⟩:=List.getElem?_eq_some_iff.mp this
    simpa using b
   have kl:k < SetTable.runEnd m i+1 - i:=by
    have:=List.mem_of_find?_eq_some hk
    exact List.mem_range.mp this
   refine ⟨_,lO k (by omega) (fun r hr=>ug hs (by omega) ?_),rfl⟩
   have hm:r∈as:=by
    have e2:(List.range (SetTable.runEnd m i+1 - i))[r]?=some r:=by rw [List.getElem?_range (by omega)]
    rw [e,List.getElem?_append_left (by omega)] at e2
    exact List.mem_of_getElem? e2
   have:=h2 r hm
   simpa using this
  ·rename_i hk
   have all:=List.find?_eq_none.mp hk
   have occA:∀ r,r≤SetTable.runEnd m i - i→i+r∈occ m owner:=fun r hr=>ug hs (by omega) (by
    have:=all r (List.mem_range.mpr (by omega))
    exact (Bool.not_eq_true _).mp this)
   have hi2:(SetTable.leap m i p).1≤m:=by
    unfold SetTable.leap
    have:=Nat.mod_lt (i * 5+1+p / 32) (show m+1 > 0 by omega)
    dsimp only
    omega
   obtain ⟨q,pa,e⟩:=nV hs fuel _ _ j hi2 h
   refine ⟨q,(lO (SetTable.runEnd m i - i) (Nat.le_refl _) fun r hr=>occA r (by omega)).trans (.step (occA _ (Nat.le_refl _)) ?_),e⟩
   unfold adv
   rw [if_neg (by dsimp only;omega)]
   exact pa
def wR (m:Nat) (hs:List Int) (owner:Array (Option Nat)):Prop:=∀ j k,owner.getD j none=some k→∃ h,hs[k]?=some h∧Rea m (occ m owner) h j
theorem rO (h:x∈occ m owner):x∈occ m (owner.setIfInBounds j (some k)):=by
 unfold occ at h ⊢
 rw [List.mem_filter] at h ⊢
 refine ⟨h.1,?_⟩
 simp only [Array.getD_eq_getD_getElem?,Array.getElem?_setIfInBounds] at h ⊢
 split
 ·split
  ·rfl
  ·rename_i e hlt
   have:=h.2
   rw [Array.getElem?_eq_none (by omega)] at this
   cases this
 ·exact h.2
theorem oD (hf:full m=true) (all:List Int):∀ (hs:List Int) (owner owner':Array (Option Nat)) (k n:Nat),owner.size=m+1→wR m all owner→(∀ i,i < hs.length→all[k+i]?=hs[i]?)→hs.foldl (c7 m) (some (owner,k))=some (owner',n)→wR m all owner'∧owner'.size=m+1
 | [],owner,owner',k,n,h1,h2,_,h3=>by
  cases h3
  exact ⟨h2,h1⟩
 | h :: hs,owner,owner',k,n,h1,h2,ha,h3=>by
  rw [List.foldl_cons] at h3
  have no:∀ l:List Int,l.foldl (c7 m) none=none:=by
   intro l
   induction l with
   | nil=>rfl
   | cons a l ih=>exact ih
  cases e:SetTable.layClean.free m owner (SetTable.turns m) (SetTable.bits h % (m+1)) (SetTable.bits h) with
  | none=>
   have st:c7 m (some (owner,k)) h=none:=by
    unfold c7
    show (SetTable.layClean.free m owner (SetTable.turns m) (SetTable.bits h % (m+1)) (SetTable.bits h)).bind _=_
    rw [e]
    rfl
   rw [st,no] at h3
   cases h3
  | some j=>
   have st:c7 m (some (owner,k)) h=some (owner.setIfInBounds j (some k),k+1):=by
    unfold c7
    show (SetTable.layClean.free m owner (SetTable.turns m) (SetTable.bits h % (m+1)) (SetTable.bits h)).bind _=_
    rw [e]
    rfl
   rw [st] at h3
   have hi:SetTable.bits h % (m+1)≤m:=by have:=Nat.mod_lt (SetTable.bits h) (show m+1 > 0 by omega);omega
   obtain ⟨q,pa,ej⟩:=nV h1 _ _ _ j hi e
   refine oD hf all hs _ owner' (k+1) n (by rw [Array.size_setIfInBounds];exact h1) ?_ (fun i hi=>?_) h3
   ·intro j' k' e'
    simp only [Array.getD_eq_getD_getElem?,Array.getElem?_setIfInBounds] at e'
    split at e'
    ·rename_i z
     split at e'
     ·cases e'
      refine ⟨h,by have:=ha 0 (by simp);simpa using this,q,pa.mono fun x hx=>rO hx,by rw [ej];exact z⟩
     ·cases e'
    ·obtain ⟨h',a1,a2⟩:=h2 j' k' (by rw [Array.getD_eq_getD_getElem?];exact e')
     exact ⟨h',a1,a2.mono fun x hx=>rO hx⟩
   ·have:=ha (i+1) (by simp;omega)
    rw [show k+1+i=k+(i+1) by omega,this]
    rfl
theorem tG (hf:full m=true) (h:SetTable.layClean m hs=some owner):wR m hs.toList owner:=by
 unfold SetTable.layClean at h
 rw [← Array.foldl_toList] at h
 have:(fun (acc:Option (Array (Option Nat)×Nat)) (h:Int)=>(do
  let (owner,k) ← acc
  let j ← SetTable.layClean.free m owner (SetTable.turns m) (SetTable.bits h % (m+1)) (SetTable.bits h)
  pure (owner.setIfInBounds j (some k),k+1):Option (Array (Option Nat)×Nat)))=c7 m:=rfl
 rw [this] at h
 obtain ⟨⟨o,n⟩,e,rfl⟩:=Option.map_eq_some_iff.mp h
 refine (oD hf hs.toList hs.toList (Array.replicate (m+1) none) o 0 n (by simp) ?_ (fun i _=>by simp) e).1
 intro j k z
 simp [Array.getD] at z
theorem uL {α β:Type} {g:α→Option β}:∀ {l:List α},(∀ x∈l,∃ y,g x=some y)→∀ i:Nat,(l.filterMap g)[i]?=(l[i]?).bind g
 | [],_,i=>by simp
 | a :: l,h,i=>by
  obtain ⟨y,hy⟩:=h a (List.mem_cons_self ..)
  rw [List.filterMap_cons,hy]
  dsimp only
  cases i with
  | zero=>simp [hy]
  | succ i=>simpa using uL (fun x hx=>h x (List.mem_cons_of_mem _ hx)) i
theorem xJ {t t':SetTable} {es:Array (Int×Value)} {order:Array Nat} {l:List Nat} (hf:full (SetTable.sizeAbove wanted - 1)=true) (hn:es.size≤SetTable.sizeAbove wanted - 1) (h:t.relaid (es.map (·.1)) wanted=some (t',order)) (hl:t'.place=l.toArray) :
  ∀ i j:Nat,l[i]?=some j→∃ e,(order.filterMap (es[·]?))[i]?=some e∧Rea t'.mask l e.1 j:=by
 obtain ⟨owner,e1,e2,e3⟩:=lr hf (es.map (·.1)) (by simpa using hn)
 have LI:=tG hf e1
 rw [Array.size_map] at e3
 generalize hm:SetTable.sizeAbove wanted - 1=m at *
 let f:Nat→Option Nat:=fun j=>owner.getD j none
 have r1:t.relaid (es.map (·.1)) wanted=some ({ mask:=m,place:=((List.range (m+1)).filter fun j=>(f j).isSome).toArray,dummies:=#[],finger:=t.finger,led:=t.led,moves:=t.movedTo m,plain:=t.plain },(vals m owner).toArray):=by
  unfold SetTable.relaid SetTable.laid
  rw [hm,e1]
  show some _=some _
  rw [← fg f,show vals m owner=(List.range (m+1)).filterMap f from rfl,← fC f]
 rw [r1] at h
 cases h
 have el:l=occ m owner:=by
  have:=congrArg Array.toList hl
  have:l=(List.range (m+1)).filter fun j=>(f j).isSome:=by simpa using this.symm
  exact this
 subst el
 intro i j hij
 have el1:occ m owner=((List.range (m+1)).filterMap fun j=>(f j).map (j,·)).map (·.1):=(fg f _).symm
 have el2:vals m owner=((List.range (m+1)).filterMap fun j=>(f j).map (j,·)).map (·.2):=(fC f _).symm
 have hij':=hij
 rw [el1,List.getElem?_map] at hij'
 obtain ⟨⟨j',k⟩,g1,g2⟩:=Option.map_eq_some_iff.mp hij'
 cases g2
 have g3:(vals m owner)[i]?=some k:=by rw [el2,List.getElem?_map,g1];rfl
 have g4:owner.getD j' none=some k:=by
  have:=List.mem_of_getElem? g1
  obtain ⟨x,_,hx⟩:=List.mem_filterMap.mp this
  obtain ⟨k2,hk2,e5⟩:=Option.map_eq_some_iff.mp hx
  cases e5
  exact hk2
 obtain ⟨h,a1,a2⟩:=LI j' k g4
 have hk:k < es.size:=by
  have:=e3.mem_iff.mp (List.mem_of_getElem? g3)
  exact List.mem_range.mp this
 refine ⟨es[k],?_,?_⟩
 ·rw [← Array.getElem?_toList,Array.toList_filterMap]
  rw [uL (fun x hx=>⟨es[x]'(List.mem_range.mp (e3.mem_iff.mp (by simpa using hx))),Array.getElem?_eq_getElem _⟩),show (vals m owner).toArray.toList=vals m owner from rfl,g3]
  exact Array.getElem?_eq_getElem hk
 ·rw [Array.getElem?_toList,Array.getElem?_map,Array.getElem?_eq_getElem hk] at a1
  cases a1
  exact a2
end ZS
namespace L2
open PySem PySem.Spec PyProof.Rows ZS
def bY (m:Nat):Bool:=m == 7 || m == 31 || m == 127 || m == 511
theorem gy (h:bY m=true):full m=true:=by
 simp only [bY,Bool.or_eq_true,beq_iff_eq] at h
 rcases h with ((h | h) | h) | h<;>subst h
 ·exact D9
 ·exact AX
 ·exact zu
 ·exact Ad
def ji (w:World) (h:Heap) (a:Addr) (ks:List Int):Prop:=
 ∃ (o:Obj) (es:Array (Int×Value)) (ep:Nat) (t:SetTable) (pl:List Nat),h.get? a=some o∧o.ExactSet∧o.data=.set es ep t∧bY t.mask=true∧t.dummies=#[]∧t.plain=true∧t.led=!(w.params.followText "set-order") ∧
  t.place=pl.toArray∧(Ri pl∧pl.length=ks.length∧ks.length * 5 < t.mask * 3)∧IntsAre (es.toList.map Prod.snd) ks∧(∀ e∈es.toList,∃ k,Value.isInt k e.2=true∧e.1=hashInt k)∧ks.Nodup∧ks.length≤300
theorem d7:∀ {vs:List Value} {ns:List Int},IntsAre vs ns→vs.length=ns.length
 | _,_,.nil=>rfl
 | _,_,.cons n t r=>by simp [d7 r]
theorem fits_of {t:SetTable} (h2:t.dummies=#[]) (h3:t.place.size=n) (hn:n≤t.mask):t.fits n=true:=by
 unfold SetTable.fits SetTable.fill
 rw [h2,h3]
 simp
 omega
theorem iL:Value.isInt k (.int k t)=true:=by simp [Value.isInt]
theorem isInt_iff:Value.isInt k (.int j t)=true↔k=j:=by
 constructor
 ·intro h
  obtain ⟨t',e⟩:=Value.isInt_shape h
  cases e;rfl
 ·rintro rfl;exact iL
theorem kc:∀ {es:List (Int×Value)} {ks:List Int} {k:Int},IntsAre (es.map Prod.snd) ks→(k∈ks↔(es.findIdx? fun e=>Value.isInt k e.2).isSome=true)
 | [],_,k,r=>by cases r;simp
 | e :: es,_,k,r=>by
  obtain ⟨h,v⟩:=e
  cases r with
  | cons n t r=>
   have ih:=kc (k:=k) r
   rw [List.findIdx?_cons]
   by_cases hk:k=n
   ·subst hk
    simp [iL]
   ·have:Value.isInt k (.int n t)=false:=by rw [← Bool.not_eq_true,isInt_iff];exact hk
    simp only [this,List.mem_cons,hk,false_or]
    rw [ih]
    simp
theorem eB (xs:Array α) (p:Nat) (x:α) (hp:p≤xs.size):(SetTable.insertAt xs p x).toList=xs.toList.take p++x :: xs.toList.drop p:=by
 unfold SetTable.insertAt
 simp
 rw [List.take_of_length_le (by simp)]
section
variable {prog:Program} {w:World} {A:Around} {E:Value→Shared→Prop} {s:Shared}
theorem IntsAre.app:∀ {vs us:List Value} {ns ms:List Int},IntsAre vs ns→IntsAre us ms→IntsAre (vs++us) (ns++ms)
 | _,_,_,_,.nil,r=>r
 | _,_,_,_,.cons n t q,r=>.cons n t (IntsAre.app q r)
theorem IntsAre.yf:∀ {vs:List Value} {ns:List Int} (p:Nat),IntsAre vs ns→IntsAre (vs.take p) (ns.take p)
 | _,_,0,_=>.nil
 | _,_,_+1,.nil=>.nil
 | _,_,p+1,.cons n t q=>.cons n t (IntsAre.yf p q)
theorem IntsAre.ya:∀ {vs:List Value} {ns:List Int} (p:Nat),IntsAre vs ns→IntsAre (vs.drop p) (ns.drop p)
 | _,_,0,r=>r
 | _,_,_+1,.nil=>.nil
 | _,_,p+1,.cons _ _ q=>IntsAre.ya p q
theorem oJ:∀ {vs us:List Value},List.Perm vs us→∀ {ns:List Int},IntsAre us ns→∃ ms,IntsAre vs ms∧List.Perm ms ns:=by
 intro vs us hp
 induction hp with
 | nil=>intro ns r;exact ⟨ns,r,.refl _⟩
 | cons x _ ih=>
  intro ns r
  cases r with
  | cons n t r=>
   obtain ⟨ms,a,b⟩:=ih r
   exact ⟨n :: ms,.cons n t a,b.cons n⟩
 | swap x y l=>
  intro ns r
  cases r with
  | cons n t r=>cases r with
   | cons n' t' r=>exact ⟨n' :: n :: _,.cons n' t' (.cons n t r),.swap ..⟩
 | trans _ _ ih1 ih2=>
  intro ns r
  obtain ⟨ms,a,b⟩:=ih2 r
  obtain ⟨ms',a',b'⟩:=ih1 a
  exact ⟨ms',a',b'.trans b⟩
theorem qy {t':SetTable} {es':Array (Int×Value)} (hm:bY t'.mask=true) (hn:es'.size=n) (h1:¬n * 5 < t'.mask * 3) (h2:n * 5 < t'.mask * 3+5) (h3:n≤300) :
  bY (SetTable.sizeAbove (SetTable.grown n) - 1)=true∧n * 5 < (SetTable.sizeAbove (SetTable.grown n) - 1) * 3:=by
 simp only [bY,Bool.or_eq_true,beq_iff_eq] at hm
 rcases hm with ((hm | hm) | hm) | hm<;>rw [hm] at h1 h2
 ·have:n=5:=by omega
  subst this;decide +kernel
 ·have:n=19:=by omega
  subst this;decide +kernel
 ·have:n=77:=by omega
  subst this;decide +kernel
 ·omega
theorem xg {ks:List Int} (hS:ji w s.heap a ks) (hl:k∉ks→ks.length < 300)
  (h:∀ (h':Heap) (ks':List Int) (b:Bool),Heap.SameBut a s.heap h'→ji w h' a ks'→(∀ x,x∈ks'↔x∈ks∨x=k)→(k∈ks→ks'.length=ks.length)→(k∉ks→ks'.length=ks.length+1)→Q b { s with heap:=h',toks:=s.toks+1 }) :
  wpAny (model prog w) A (setAdd a (.int k tk)) Q E s:=by
 obtain ⟨o,es,ep,t,pl,g1,g2,g3,g4,g5,g6,g7,g8,g9,g10,g11,g12,g13⟩:=hS
 obtain ⟨g9,lpl,g14⟩:=g9
 have hmask:=gy g4
 have lks:es.size=ks.length:=by
  have:=d7 g10
  rw [List.length_map,Array.length_toList] at this
  exact this
 have hmk:7≤t.mask:=by
  have q:=g4
  simp only [bY,Bool.or_eq_true,beq_iff_eq] at q
  omega
 have hfit:t.fits es.size=true:=fits_of g5 (by rw [g8,lks];simpa using lpl) (by omega)
 have hel:ElemsOf (intKind prog w) es.toList:=fun e he=>by
  obtain ⟨k',e1,e2⟩:=g11 e he
  refine ⟨⟨k',e1,e2⟩,?_⟩
  obtain ⟨t',e'⟩:=Value.isInt_shape e1
  rw [e'];rfl
 have hint:(intKind prog w).is k (.int k tk)=true:=iL (k:=k) (t:=tk)
 unfold setAdd
 refine wpAny_holding (wpAny_bind ((intKind prog w).pyHash (k:=k) (v:=.int k tk) hint ?_))
 unfold setAddHashed
 refine wpAny_holding ?_
 show wpAny _ _ (setAddHashedIn a (.int k tk) _ (99999+1)) _ _ _
 rw [setAddHashedIn.eq_2]
 refine wpAny_bind (wpAny_setState_of g1 g3 hfit ?_)
 show wpAny _ _ (if byScan (.int k tk) es=true then _ else _) _ _ _
 rw [if_pos (byScan_of (knd:=intKind prog w) rfl (by unfold scanBound;omega) hel)]
 refine wpAny_bind ?_
 unfold setAddByScan
 refine wpAny_bind (wpAny_rule (wpAny_bind (wpAny_setScan_of (knd:=intKind prog w) (k:=k) hint g1 g3 hfit hel ?_)))
 have hfi:=kc (k:=k) g10
 by_cases hm:k∈ks
 ·have hs:=hfi.mp hm
  cases hf:List.findIdx? (fun e=>(intKind prog w).is k e.snd) es.toList with
  | none=>
   have hf':List.findIdx? (fun e:Int×Value=>Value.isInt k e.2) es.toList=none:=hf
   rw [hf'] at hs;cases hs
  | some j=>
   refine wpAny_pure (wpAny_pure ?_)
   exact h s.heap ks false (Heap.SameBut.refl ..) ⟨o,es,ep,t,pl,g1,g2,g3,g4,g5,g6,g7,g8,⟨g9,lpl,g14⟩,g10,g11,g12,g13⟩ (fun x=>⟨.inl,fun z=>z.elim id fun e=>e ▸ hm⟩) (fun _=>rfl) (fun z=>absurd hm z)
 ·have hl3:=hl hm
  have hnone:List.findIdx? (fun e=>(intKind prog w).is k e.snd) es.toList=none:=by
   have hf':List.findIdx? (fun e:Int×Value=>Value.isInt k e.2) es.toList=none:=by
    cases hf:List.findIdx? (fun e:Int×Value=>Value.isInt k e.2) es.toList with
    | none=>rfl
    | some j=>exact absurd (hfi.mpr (by rw [hf];rfl)) hm
   exact hf'
  rw [hnone]
  obtain ⟨j,hfree,hjl⟩:=vQ g8 g9 g5 hmask (show pl.length≤t.mask by omega) (hashInt k)
  obtain ⟨p,hple,hpb,hpa,hpc⟩:=n4 g9 j
  have hp:SetTable.below pl.toArray j=p:=hpb
  have les0:es.size=pl.length:=by omega
  have riN:Ri (pl.take p++j :: pl.drop p):=ow g9 hjl hpa hpc
  have liN:(SetTable.insertAt pl.toArray p j).toList=pl.take p++j :: pl.drop p:=by
   have:=eB pl.toArray p j (by simpa using hple)
   simpa using this
  refine show _ from ?_
  ·have hput:t.put j=({ mask:=t.mask,place:=SetTable.insertAt t.place p j,dummies:=#[],finger:=t.finger,led:=t.led,moves:=t.moves,plain:=t.plain },p):=by
    unfold SetTable.put
    rw [g8,hp,g5]
    rfl
   generalize ht':({ mask:=t.mask,place:=SetTable.insertAt t.place p j,dummies:=#[],finger:=t.finger,led:=t.led,moves:=t.moves,plain:=t.plain }:SetTable)=t' at hput
   have m1:t'.mask=t.mask:=by rw [← ht']
   have m2:t'.dummies=#[]:=by rw [← ht']
   have m3:t'.plain=true:=by rw [← ht'];exact g6
   have m4:t'.led=!(w.params.followText "set-order"):=by rw [← ht'];exact g7
   have m5:t'.place=(pl.take p++j :: pl.drop p).toArray:=by rw [← ht',g8,← liN]
   have lpl':(pl.take p++j :: pl.drop p).length=ks.length+1:=by simp;omega
   have les:(SetTable.insertAt es p (hashInt k,Value.int k tk)).toList=es.toList.take p++(hashInt k,Value.int k tk) :: es.toList.drop p:=eB _ _ _ (by omega)
   generalize hes:SetTable.insertAt es p (hashInt k,Value.int k tk)=es' at les
   have lsz:es'.size=ks.length+1:=by
    rw [← Array.length_toList,les]
    simp
    omega
   have hfit':t'.fits es'.size=true:=fits_of m2 (by rw [m5,lsz];simpa using lpl') (by omega)
   have hlay:layNew t es (hashInt k) (.int k tk)=(es',t',false,false):=by
    unfold layNew
    rw [hfree]
    simp only [hput,hes]
    unfold SetTable.orStandIn
    rw [if_pos hfit',hfit']
    rfl
   have hlay2:layNew t es ((intKind prog w).hash k) (.int k tk)=(es',t',false,false):=hlay
   rw [hlay2]
   dsimp only
   refine wpAny_bind (wpAny_pure ?_)
   rw [if_pos m3,hashByValue_scannable 8 (x:=.int k tk) rfl]
   refine wpAny_bind (wpAny_pure ?_)
   have hpk:plainKind (Value.int k tk)=true:=rfl
   rw [if_pos hpk]
   have h1000:(1000:Nat)≤sizeLine:=Nat.le_of_lt (ib (Nat.le_refl 1000))
   have hsz:¬es'.size > sizeLine:=by rw [lsz];omega
   have i1:IntsAre (es'.toList.map Prod.snd) (ks.take p++k :: ks.drop p):=by
    rw [les,List.map_append,List.map_cons,List.map_take,List.map_drop]
    exact IntsAre.app (IntsAre.yf p g10) (.cons k tk (IntsAre.ya p g10))
   have i2:∀ e∈es'.toList,∃ k,Value.isInt k e.2=true∧e.1=hashInt k:=by
    intro e he
    rw [les] at he
    rcases List.mem_append.mp he with z | z
    ·exact g11 e (List.mem_of_mem_take z)
    ·rcases List.mem_cons.mp z with z | z
     ·rw [z];exact ⟨k,iL,rfl⟩
     ·exact g11 e (List.mem_of_mem_drop z)
   have hperm:List.Perm (ks.take p++k :: ks.drop p) (k :: ks):=by
    have:=List.perm_middle (a:=k) (l₁:=ks.take p) (l₂:=ks.drop p)
    rw [List.take_append_drop] at this
    exact this
   have kl:(ks.take p++k :: ks.drop p).length=ks.length+1:=by rw [hperm.length_eq];rfl
   have i3:(ks.take p++k :: ks.drop p).Nodup:=by
    rw [hperm.nodup_iff,List.nodup_cons]
    exact ⟨hm,g12⟩
   have i4:∀ x,x∈ks.take p++k :: ks.drop p↔x∈ks∨x=k:=by
    intro x
    rw [hperm.mem_iff,List.mem_cons]
    exact or_comm
   generalize hks:ks.take p++k :: ks.drop p=ks' at i1 kl i3 i4
   have hfill:t'.fill=ks.length+1:=by
    unfold SetTable.fill
    rw [m2,m5]
    simp only [List.size_toArray,lpl']
    rfl
   have putS:∀ (e2:Array (Int×Value)) (t2:SetTable) (o2:Obj) (e1:Array (Int×Value)) (n1:Nat) (t1:SetTable),o2.data=.set e1 n1 t1→Obj.putSet e2 t2 o2={ o2 with data:=.set e2 (n1+1) t2 }:=by
    intro e2 t2 o2 e1 n1 t1 hd
    obtain ⟨oc,od,oda,osl⟩:=o2
    have hd':oda=.set e1 n1 t1:=hd
    subst hd'
    rfl
   refine wpAny_bind ?_
   unfold storeSet
   refine wpAny_bind (wpAny_load' g1 ?_)
   rw [g3]
   dsimp only
   rw [if_neg hsz]
   refine wpAny_update' g1 ?_
   have hupd:=putS es' t' o es ep t g3
   have gN:(s.heap.update a (Obj.putSet es' t')).get? a=some { o with data:=.set es' (ep+1) t' }:=by
    rw [← hupd]
    exact Heap.get?_update_self _ g1 (by rw [hupd];rfl)
   have sbN:Heap.SameBut a s.heap (s.heap.update a (Obj.putSet es' t')):=Heap.SameBut.update ..
   by_cases hfull:(ks.length+1) * 5 < t.mask * 3
   ·have hf0:(!false && t'.tooFull)=false:=by
     unfold SetTable.tooFull
     rw [hfill,m1]
     simp
     omega
    rw [hf0]
    rw [if_neg (by simp)]
    refine wpAny_pure (wpAny_pure ?_)
    exact h _ ks' true sbN ⟨_,es',ep+1,t',_,gN,g2,rfl,by rw [m1];exact g4,m2,m3,m4,m5,⟨riN,by rw [lpl',kl],by rw [kl,m1];exact hfull⟩,i1,i2,i3,by omega⟩ i4 (fun z=>absurd z hm) (fun _=>kl)
   ·have hf1:(!false && t'.tooFull)=true:=by
     unfold SetTable.tooFull
     rw [hfill,m1]
     simp
     omega
    rw [hf1]
    rw [if_pos rfl]
    obtain ⟨w1,w2⟩:=qy (t':=t') (es':=es') (n:=ks.length+1) (by rw [m1];exact g4) lsz (by rw [m1];exact hfull) (by rw [m1];omega) (by omega)
    rw [lsz]
    obtain ⟨e2,t2,l2,r1,r2,r3,r4,r5,r6,r7,r8,r9⟩:=qF (t:=t') (es:=es') (wanted:=SetTable.grown (ks.length+1)) (gy w1) (by rw [lsz];omega)
    rw [r1]
    dsimp only
    have lsz2:e2.size=ks.length+1:=by rw [← Array.length_toList,r2.length_eq,Array.length_toList,lsz]
    obtain ⟨ks2,j1,j2⟩:=oJ (r2.map Prod.snd) i1
    refine wpAny_bind (wpAny_pure ?_)
    refine wpAny_bind ?_
    refine wpAny_bind (wpAny_load' gN ?_)
    dsimp only
    rw [if_neg (by rw [lsz2];omega)]
    refine wpAny_update' gN ?_
    refine wpAny_pure (wpAny_pure ?_)
    have gM:((s.heap.update a (Obj.putSet es' t')).update a (Obj.putSet e2 t2)).get? a=some { o with data:=.set e2 (ep+1+1) t2 }:=by
     have hq:=putS e2 t2 { o with data:=.set es' (ep+1) t' } es' (ep+1) t' rfl
     rw [← hq]
     exact Heap.get?_update_self _ gN (by rw [hq];rfl)
    refine h _ ks2 true (sbN.trans (Heap.SameBut.update ..)) ⟨_,e2,ep+1+1,t2,l2,gM,g2,rfl,by rw [r7];exact w1,r6,by rw [r8];exact m3,by rw [r9];exact m4,r3,⟨r4,by rw [r5,lsz,j2.length_eq,kl],by rw [r7,j2.length_eq,kl];exact w2⟩,j1,fun e he=>i2 e (r2.mem_iff.mp he),j2.nodup_iff.mpr i3,by rw [j2.length_eq,kl];omega⟩ (fun x=>by rw [j2.mem_iff];exact i4 x) (fun z=>absurd z hm) (fun _=>by rw [j2.length_eq,kl])
end
section
variable {prog:Program} {w:World} {A:Around} {E:Value→Shared→Prop} {s:Shared}
theorem ji.at (H:ji w h S ks) (k:∀ o,h.get? S=some o→h'.get? S=some o):ji w h' S ks:=by
 obtain ⟨o,es,ep,t,pl,g1,r⟩:=H
 exact ⟨o,es,ep,t,pl,k o g1,r⟩
theorem n_ {R:Result→Shared→Prop} {I:Addr} {fp wr:List Addr} {n:Nat} {P:Nat→Value→Prop} {St:Nat→Heap→Prop} (W:Walks prog w A.in1 I fp wr n P St) (S:Addr) (hSf:S∉fp) (val:Nat→Int) (hval:∀ i v,P i v→∃ t,v=Value.int (val i) t) (hn:n≤300) :
  ∀ (k i:Nat) (s:Shared) (ks:List Int),n - i=k→i≤n→St i s.heap→ji w s.heap S ks→(∀ x,x∈ks↔∃ j,j < i∧val j=x)→ks.length≤i →
   (∀ (h':Heap) (tk:Nat) (ks':List Int),(∀ b o,b≠S→b∉wr→s.heap.get? b=some o→h'.get? b=some o)→ji w h' S ks'→(∀ x,x∈ks'↔∃ j,j < n∧val j=x)→R (.ok (.ret .none)) { s with heap:=h',toks:=tk }) →
   codeAny (model prog w) A (Code.builtin "set.update.loop" ⟨[.ref S,.ref I],[]⟩) R s:=by
 have hSw:S∉wr:=fun h=>hSf (W.sub S h)
 intro k
 induction k with
 | zero=>
  intro i s ks hk hi hst hS hks hlen hR
  have hin:i=n:=by omega
  subst hin
  refine codeAny_builtin F.entry_set_update_loop ?_
  rw [Around.under_plainId F.plain_set_update_loop]
  refine (show wpAny _ _ (pyNext (.ref I)>>=_) _ _ _ from wpAny_bind (W.done s _ _ hst fun h' tk hk'=>?_))
  exact wpAny_pure (hR h' tk ks (fun b o _ hw e=>hk' b o hw e) (hS.at fun o e=>hk' S o hSw e) hks)
 | succ k ih=>
  intro i s ks hk hi hst hS hks hlen hR
  refine codeAny_builtin F.entry_set_update_loop ?_
  rw [Around.under_plainId F.plain_set_update_loop]
  refine (show wpAny _ _ (pyNext (.ref I)>>=_) _ _ _ from wpAny_bind (W.item i s _ _ (by omega) hst fun v h' tk hP hst' hk'=>?_))
  obtain ⟨t,rfl⟩:=hval i v hP
  refine (show wpAny _ _ (holding [Value.int (val i) t] (setAdd S (.int (val i) t))>>=_) _ _ _ from wpAny_bind (wpAny_holding ?_))
  refine xg (s:={ s with heap:=h',toks:=tk }) (hS.at fun o e=>hk' S o hSw e) (fun _=>by omega) fun h2 ks2 b sb hS2 hm l1 l2=>?_
  refine wpAny_pure ⟨plainId_quiet F.plain_set_update_loop _,ih (i+1) _ ks2 (by omega) (by omega) ?_ hS2 ?_ ?_ fun h3 tk3 ks3 q1 q2 q3=>?_⟩
  ·exact W.frame _ _ _ hst' fun b hb' o e=>sb.extBut b o (fun z=>hSf (z ▸ hb')) e
  ·intro x
   rw [hm,hks]
   constructor
   ·rintro (⟨j,h1,h2⟩ | rfl)
    ·exact ⟨j,by omega,h2⟩
    ·exact ⟨i,by omega,rfl⟩
   ·rintro ⟨j,h1,h2⟩
    by_cases e:j=i
    ·subst e;exact .inr h2.symm
    ·exact .inl ⟨j,by omega,h2⟩
  ·by_cases hin:val i∈ks
   ·have:=l1 hin;omega
   ·have:=l2 hin;omega
  ·exact hR h3 tk3 ks3 (fun b o hb1 hb2 e=>q1 b o hb1 hb2 (sb.extBut b o hb1 (hk' b o hb2 e))) q2 q3
theorem jV (a:Value)
  (h:Q₁ (.ref s.heap.objs.size) { s with heap:=s.heap.push { cls:=.type "set",data:=.set #[] 0 (SetTable.fresh 0 0 (!(w.params.followText "set-order"))) } }) :
  codeAny (model prog w) A (Code.call (.builtin "set.__new__") ⟨[.type "set",a],[]⟩) (wants Q₁ E) s:=by
 refine codeAny_of_tree ?_
 refine (show wpAny _ _ (checkBuiltinCall "set.__new__" ⟨[.type "set",a],[]⟩>>=_) _ _ _ from wpAny_bind (wpAny_of_eq (F.newCall_set_1 a) (wpAny_pure ⟨plainId_quiet F.plain_set_new _,codeAny_builtin F.entry_set_new ?_⟩)))
 rw [Around.under_plainId F.plain_set_new]
 have hsub:=sub_set_self
 refine (show wpAny _ _ (Builtin.Frozenset.newClass "set" _>>=_) _ _ _ from wpAny_bind ?_)
 unfold Builtin.Frozenset.newClass
 refine wpAny_bind (wpAny_pure ?_)
 refine wpAny_ite_false rfl (wpAny_bind (wpAny_of_eq hsub (wpAny_ite_false rfl (wpAny_pure ?_))))
 refine (show wpAny _ _ (newSet (.type "set")>>=_) _ _ _ from wpAny_bind ?_)
 unfold newSet
 refine wpAny_bind ?_
 unfold setsByText
 refine wpAny_bind (wpAny_askSetting (wpAny_pure ?_))
 exact (show wpAny _ _ (newObj (.type "set") (Data.set #[] 0 (SetTable.fresh 0 0 (!(w.params.followText "set-order"))))) _ _ _ from wpAny_newObj_type (wpAny_pure h) (by first | size_fits | (intro _;decide)))
theorem iR:∀ {vs:List Value} {ns:List Int} {i:Nat} {v:Value},IntsAre vs ns→vs[i]?=some v→∃ t,v=Value.int (ns.getD i 0) t
 | _,_,_,_,.nil,e=>by simp at e
 | _,_,0,_,.cons n t _,e=>⟨t,by simpa using e.symm⟩
 | _,_,i+1,v,.cons n t r,e=>by
  obtain ⟨t',e'⟩:=iR (i:=i) (v:=v) r (by simpa using e)
  exact ⟨t',by simpa using e'⟩
def jd (h:Heap) (l:Addr) (items:Array Value) (k:Bool):Prop:=if k=true then h.IsList l items else h.IsTuple l items
theorem uZ {S l:Addr} {items:Array Value} {ns:List Int} {F:PySem.Fin→Shared→Prop} {hp:Heap} {g:Array GenState} {d:Drawn} {tk:Nat} {os:OsState} (hh:A.handled=none) (hS:hp.get? S=some { cls:=.type "set",data:=.set #[] 0 (SetTable.fresh 0 0 (!(w.params.followText "set-order"))) }) (k:Bool) (hl:jd hp l items k) (hi:IntsAre items.toList ns) (hn:ns.length≤300)
    (h:∀ (h':Heap) (tk':Nat) (ks:List Int),ji w h' S ks→(∀ x,x∈ks↔x∈ns)→(∀ b o,b≠S→hp.get? b=some o→h'.get? b=some o)→F (.done (.ret .none)) ⟨h',g,d,tk',os⟩) :
    wpAny (model prog w) A (Builtin.«set.__init__» ⟨[.ref S,.ref l],[]⟩) F E ⟨hp,g,d,tk,os⟩:=by
  cases k with
  | false=>
    replace hl:hp.IsTuple l items:=hl
    have hT:Shared.TypeIs ⟨hp,g,d,tk,os⟩ (.ref S) "set":=⟨_,hS,rfl⟩
    have hTt:Shared.TypeIs ⟨hp,g,d,tk,os⟩ (.ref l) "tuple":=hl.typeIs
    unfold Builtin.«set.__init__»
    refine wpAny_bind ?_
    unfold noKeywords
    refine wpAny_ite_true rfl (wpAny_pure ?_)
    dsimp only
    refine wpAny_bind ?_
    unfold typeNameOfCut
    refine wpAny_bind ?_
    unfold shownTypeOf
    refine wpAny_bind (wpAny_typeOf hT ?_)
    first
    | refine wpAny_ite_false rfl (wpAny_pure ?_)
    | refine wpAny_pure ?_
    refine (show wpAny _ _ (pure _) _ _ _ from wpAny_pure ?_)
    refine wpAny_bind ?_
    unfold checkCount
    refine wpAny_ite_false rfl (wpAny_ite_false rfl (wpAny_ite_false rfl (wpAny_pure ?_)))
    refine wpAny_bind (wpAny_pure ?_)
    refine wpAny_bind ?_
    unfold setUsed
    refine wpAny_bind (wpAny_setState_of hS rfl (by rfl) (wpAny_pure ?_))
    refine wpAny_ite_false rfl ?_
    refine wpAny_bind ?_
    unfold Builtin.Frozenset.updateFrom
    refine wpAny_bind ?_
    unfold Builtin.Frozenset.isAnySet
    refine (show wpAny _ _ (isInstance (.ref l) (.type "set")>>=_) _ _ _ from wpAny_bind (wpAny_isInstance hTt PySem.F.sub_tuple_set ?_))
    refine (show wpAny _ _ (isInstance (.ref l) (.type "frozenset")) _ _ _ from wpAny_isInstance hTt PySem.F.sub_tuple_frozenset ?_)
    refine wpAny_ite_false rfl (wpAny_bind (wpAny_typeOf hTt (wpAny_ite_false rfl (wpAny_bind (wpAny_pyIter_tuple hl ?_)))))
    refine wpAny_bind (wpAny_runValue ?_)
    have hlt:S < hp.objs.size:=Heap.lt_size hS
    obtain ⟨o,ho,hor⟩:=hl
    have hlt2:l < hp.objs.size:=Heap.lt_size ho
    have hne:l≠hp.objs.size:=Nat.ne_of_lt hlt2
    have W:=Walks.tuple (prog:=prog) (w:=w) (A:=A.in1) hh hp.objs.size l hne items
    have lit:items.size=ns.length:=by rw [← Array.length_toList];exact d7 hi
    have hSl:S≠l:=fun e=>by
      rw [e,ho] at hS
      cases hS
      exact absurd (Value.type.inj hor.1) (by decide)
    refine n_ W S (by simp only [List.mem_cons,List.not_mem_nil,or_false,not_or];exact ⟨Nat.ne_of_lt hlt,hSl⟩) (fun i=>ns.getD i 0) ?_ (by omega) items.size 0 _ [] (by omega) (Nat.zero_le _) ?_ ?_ ?_ (Nat.le_refl 0) ?_
    · intro i v hv
      exact iR hi (by simpa using hv)
    · exact ⟨⟨_,Heap.get?_push_size _ rfl,rfl,rfl⟩,⟨o,Heap.get?_push_of_some _ ho,hor⟩⟩
    · refine ⟨_,#[],0,_,[],Heap.get?_push_of_some _ hS,⟨rfl,rfl,rfl⟩,rfl,(show bY 7=true by decide),rfl,rfl,rfl,rfl,⟨List.Pairwise.nil,rfl,(show 0 * 5 < 7 * 3 by decide)⟩,.nil,by simp,List.nodup_nil,by simp⟩
    · intro x
      simp
    · intro h' tk' ks' q1 q2 q3
      refine wpAny_pure (wpAny_pure (h h' tk' ks' q2 ?_ ?_))
      · intro x
        rw [q3]
        constructor
        · rintro ⟨j,hj,rfl⟩
          show ns.getD j 0∈ns
          rw [List.getD_eq_getElem?_getD,List.getElem?_eq_getElem (show j < ns.length by omega)]
          exact List.getElem_mem _
        · intro hx
          obtain ⟨j,hj,e⟩:=List.mem_iff_getElem.mp hx
          refine ⟨j,by omega,?_⟩
          show ns.getD j 0=x
          rw [List.getD_eq_getElem?_getD,List.getElem?_eq_getElem hj]
          exact e
      · intro b o' hbS e
        refine q1 b o' hbS ?_ (Heap.get?_push_of_some _ e)
        simp only [List.mem_singleton]
        exact Nat.ne_of_lt (Heap.lt_size e)
  | true=>
    replace hl:hp.IsList l items:=hl
    have hT:Shared.TypeIs ⟨hp,g,d,tk,os⟩ (.ref S) "set":=⟨_,hS,rfl⟩
    have hTt:Shared.TypeIs ⟨hp,g,d,tk,os⟩ (.ref l) "list":=hl.typeIs
    unfold Builtin.«set.__init__»
    refine wpAny_bind ?_
    unfold noKeywords
    refine wpAny_ite_true rfl (wpAny_pure ?_)
    dsimp only
    refine wpAny_bind ?_
    unfold typeNameOfCut
    refine wpAny_bind ?_
    unfold shownTypeOf
    refine wpAny_bind (wpAny_typeOf hT ?_)
    first
    | refine wpAny_ite_false rfl (wpAny_pure ?_)
    | refine wpAny_pure ?_
    refine (show wpAny _ _ (pure _) _ _ _ from wpAny_pure ?_)
    refine wpAny_bind ?_
    unfold checkCount
    refine wpAny_ite_false rfl (wpAny_ite_false rfl (wpAny_ite_false rfl (wpAny_pure ?_)))
    refine wpAny_bind (wpAny_pure ?_)
    refine wpAny_bind ?_
    unfold setUsed
    refine wpAny_bind (wpAny_setState_of hS rfl (by rfl) (wpAny_pure ?_))
    refine wpAny_ite_false rfl ?_
    refine wpAny_bind ?_
    unfold Builtin.Frozenset.updateFrom
    refine wpAny_bind ?_
    unfold Builtin.Frozenset.isAnySet
    refine (show wpAny _ _ (isInstance (.ref l) (.type "set")>>=_) _ _ _ from wpAny_bind (wpAny_isInstance hTt PySem.F.sub_list_set ?_))
    refine (show wpAny _ _ (isInstance (.ref l) (.type "frozenset")) _ _ _ from wpAny_isInstance hTt PySem.F.sub_list_frozenset ?_)
    refine wpAny_ite_false rfl (wpAny_bind (wpAny_typeOf hTt (wpAny_ite_false rfl (wpAny_bind (wpAny_pyIter_list hl ?_)))))
    refine wpAny_bind (wpAny_runValue ?_)
    have hlt:S < hp.objs.size:=Heap.lt_size hS
    obtain ⟨o,ho,hor⟩:=hl
    have hlt2:l < hp.objs.size:=Heap.lt_size ho
    have hne:l≠hp.objs.size:=Nat.ne_of_lt hlt2
    have W:=Walks.list (prog:=prog) (w:=w) (A:=A.in1) hh hp.objs.size l hne items
    have lit:items.size=ns.length:=by rw [← Array.length_toList];exact d7 hi
    have hSl:S≠l:=fun e=>by
      rw [e,ho] at hS
      cases hS
      exact absurd (Value.type.inj hor.1) (by decide)
    refine n_ W S (by simp only [List.mem_cons,List.not_mem_nil,or_false,not_or];exact ⟨Nat.ne_of_lt hlt,hSl⟩) (fun i=>ns.getD i 0) ?_ (by omega) items.size 0 _ [] (by omega) (Nat.zero_le _) ?_ ?_ ?_ (Nat.le_refl 0) ?_
    · intro i v hv
      exact iR hi (by simpa using hv)
    · exact ⟨⟨_,Heap.get?_push_size _ rfl,rfl,rfl⟩,⟨o,Heap.get?_push_of_some _ ho,hor⟩⟩
    · refine ⟨_,#[],0,_,[],Heap.get?_push_of_some _ hS,⟨rfl,rfl,rfl⟩,rfl,(show bY 7=true by decide),rfl,rfl,rfl,rfl,⟨List.Pairwise.nil,rfl,(show 0 * 5 < 7 * 3 by decide)⟩,.nil,by simp,List.nodup_nil,by simp⟩
    · intro x
      simp
    · intro h' tk' ks' q1 q2 q3
      refine wpAny_pure (wpAny_pure (h h' tk' ks' q2 ?_ ?_))
      · intro x
        rw [q3]
        constructor
        · rintro ⟨j,hj,rfl⟩
          show ns.getD j 0∈ns
          rw [List.getD_eq_getElem?_getD,List.getElem?_eq_getElem (show j < ns.length by omega)]
          exact List.getElem_mem _
        · intro hx
          obtain ⟨j,hj,e⟩:=List.mem_iff_getElem.mp hx
          refine ⟨j,by omega,?_⟩
          show ns.getD j 0=x
          rw [List.getD_eq_getElem?_getD,List.getElem?_eq_getElem hj]
          exact e
      · intro b o' hbS e
        refine q1 b o' hbS ?_ (Heap.get?_push_of_some _ e)
        simp only [List.mem_singleton]
        exact Nat.ne_of_lt (Heap.lt_size e)
theorem vT (hh:A.handled=none) (k:Bool) (hl:jd s.heap l items k) (hi:IntsAre items.toList ns) (hn:ns.length≤300)
  (h:∀ (h':Heap) (tk:Nat) (ks:List Int),ji w h' s.heap.objs.size ks→(∀ x,x∈ks↔x∈ns)→(∀ b o,s.heap.get? b=some o→h'.get? b=some o)→Q (.ref s.heap.objs.size) { s with heap:=h',toks:=tk }):wpAny (model prog w) A (call (.type "set") [.ref l]) Q E s:=by
 obtain ⟨c,tl,hmro⟩:=F.called_set.mro
 have hmade:=F.called_set.made
 have hsub:=F.called_set.sub
 have h1:=F.called_set.notType
 have h2:=F.called_set.canCreate
 have hct:=F.typeCall_set_1 (Value.ref l)
 refine wpAny_call (codeAny_of_tree ?_)
 refine (show wpAny _ _ (pure (Fin.again (Code.builtin "type.__call__" ⟨[.type "set",.ref l],[]⟩))) _ _ _ from wpAny_pure ⟨Code.quiet_builtin _ (by decide +kernel),codeAny_builtin F.entry_type_call ?_⟩)
 rw [Around.under_plain (weight_type_call_type "set" [Value.ref l] []) rfl]
 unfold Builtin.«type.__call__»
 dsimp only
 refine wpAny_ite_false rfl (wpAny_ite_false (by rw [h2];rfl) (wpAny_bind (wpAny_of_eq hct (wpAny_bind (wpAny_of_eq hmro (wpAny_ite_false rfl (wpAny_bind (wpAny_of_eq hmade ?_))))))))
 dsimp only
 refine wpAny_bind (wpAny_pure (wpAny_bind (wpAny_holding (wpAny_call (codeAny_mono (jV (E:=fun _ _=>False) (Q₁:=fun obj s₁=>obj=.ref s.heap.objs.size∧s₁={ s with heap:=s.heap.push { cls:=.type "set",data:=.set #[] 0 (SetTable.fresh 0 0 (!(w.params.followText "set-order"))) } }) (.ref l) ⟨rfl,rfl⟩) fun r s₁ hr=>?_)))))
 generalize hs1:({ s with heap:=s.heap.push { cls:=.type "set",data:=.set #[] 0 (SetTable.fresh 0 0 (!(w.params.followText "set-order"))) } }:Shared)=sN at hr
 cases r with
 | error e=>exact False.elim hr
 | ok f=>
  cases f with
  | ret v=>
   obtain ⟨e1,e2⟩:=hr
   subst e1 e2
   have hT:Shared.TypeIs s₁ (.ref s.heap.objs.size) "set":=by
    rw [← hs1]
    exact ⟨_,Heap.get?_push_size _ rfl,rfl⟩
   show wpAny _ _ _ _ _ _
   refine wpAny_bind (wpAny_isInstance (T:="set") (b:=true) hT hsub ?_)
   refine wpAny_ite_false rfl (wpAny_bind (wpAny_holding ?_))
   refine wpAny_callSpecial?_slot (name:=Str.ofString "__init__") hT F.called_set.init (wpAny_call (codeAny_call_builtin F.called_set.init.plain F.entry_set_init (check_set_init_1 hT ?_)))
   subst hs1
   obtain ⟨hp,g,d,tk,os⟩:=s
   refine uZ (hp:=hp.push _) hh (Heap.get?_push_size _ rfl) k (by
    cases k with
    | false=>
     obtain ⟨o,e,r⟩:=(show Heap.IsTuple _ l items from hl)
     exact (show Heap.IsTuple _ l items from ⟨o,Heap.get?_push_of_some _ e,r⟩)
    | true=>
     obtain ⟨o,e,r⟩:=(show Heap.IsList _ l items from hl)
     exact (show Heap.IsList _ l items from ⟨o,Heap.get?_push_of_some _ e,r⟩)) hi hn fun h' tk' ks q1 q2 q3=>?_
   refine wpAny_ite_false rfl (wpAny_pure (h h' tk' ks q1 q2 fun b o e=>q3 b o (Nat.ne_of_lt (Heap.lt_size e)) (Heap.get?_push_of_some _ e)))
  | _=>exact False.elim hr
end
theorem mx:∀ (l:List α) (k:Nat) (h:k < l.length),List.Perm (l[k] :: l.eraseIdx k) l
 | x :: l,0,_=>by simp
 | x :: l,k+1,h=>by
  have hk:k < l.length:=by simpa using h
  have ih:=mx l k hk
  simp only [List.getElem_cons_succ,List.eraseIdx_cons_succ]
  exact (List.Perm.swap ..).trans (List.Perm.cons x ih)
section
variable {prog:Program} {w:World} {A:Around} {E:Value→Shared→Prop} {s:Shared}
abbrev Aw (w:World):Bool:=w.params.followText "set-order"
structure Gg (w:World) (o:Obj) (es:Array (Int×Value)) (ep:Nat) (t:SetTable) (pl:List Nat):Prop where
 dat:o.data=.set es ep t
 cls:o.cls=.type "set"
 dum:t.dummies=#[]
 plain:t.plain=true
 led:t.led=!Aw w
 place:t.place=pl.toArray
 ri:ZS.Ri pl
 lpl:pl.length=es.size
 room:es.size≤t.mask
 few:es.size≤300
end
end L2
namespace L2
open PySem PySem.Spec PyProof.Rows ZS
def hT (ks:List Int):Int:=reduceHash (Builtin.Tuple.tupleHashOf (ks.map hashInt))
theorem yz (ks:List Int):tupleKeyHash (intKind prog w) ks=hT ks:=rfl
section
variable {prog:Program} {w:World} {A:Around} {E:Value→Shared→Prop} {s:Shared}
theorem va (hi:ItemsAre (intKind prog w) ks vs):∀ v∈vs,∃ n t,v=Value.int n t:=by
 induction hi with
 | nil=>intro v hv;cases hv
 | @cons k v' ks vs h1 _ ih=>
  intro v hv
  rcases List.mem_cons.mp hv with rfl | hv
  ·obtain ⟨t',e'⟩:=Value.isInt_shape (show Value.isInt k v=true from h1)
   exact ⟨k,t',e'⟩
  ·exact ih v hv
theorem jY (hk:IsTupleKey (intKind prog w) s.heap ks b) (h:Q false s):wpAny (model prog w) A (ofAClassStatement 8 (.ref b)) Q E s:=by
 have hT:=hk.typeIs
 obtain ⟨o,items,n,ho,_,hd,hi⟩:=hk
 have hall:=va hi
 unfold ofAClassStatement
 refine wpAny_bind (wpAny_typeOf hT ?_)
 dsimp only
 refine wpAny_ite_true rfl ?_
 refine wpAny_bind (wpAny_pure ?_)
 refine wpAny_ite_false rfl ?_
 refine wpAny_bind (wpAny_seqItems ho hd ?_)
 dsimp only
 refine wpAny_bind ?_
 rw [← Array.forIn_toList]
 refine wpAny_forIn_list _ (fun rest (r:Option Bool×Unit) s'=>r.1=none∧s'=s∧∀ v∈rest,∃ n t,v=Value.int n t) _ ?_ ?_ _ _ ⟨rfl,rfl,hall⟩
 ·rintro v rest r s' ⟨hr,rfl,hal⟩
  obtain ⟨n,t,rfl⟩:=hal v (List.mem_cons_self ..)
  rw [show ofAClassStatement 7 (.int n t)=pure false from rfl]
  refine wpAny_bind (wpAny_pure ?_)
  exact wpAny_ite_false rfl (wpAny_pure ⟨rfl,rfl,fun u hu'=>hal u (List.mem_cons_of_mem _ hu')⟩)
 ·rintro ⟨r1,r2⟩ s' ⟨hr,rfl,_⟩
  simp only at hr
  subst hr
  exact wpAny_pure h
theorem kv {k:List Int} {b:Addr} {stored:List Value} {Q:Bool→Shared→Prop} (hk:IsTupleKey (intKind prog w) s.heap k b) (hst:∀ v∈stored,∃ k' b',v=Value.ref b'∧IsTupleKey (intKind prog w) s.heap k' b') (h:Q false s):wpAny (model prog w) A (searchCouldBeSeen (.ref b) stored) Q E s:=by
 unfold searchCouldBeSeen
 refine wpAny_bind ?_
 refine wpAny_forIn_list _ (fun rest (r:Option Bool×Unit) s'=>r.1=none∧s'=s∧∀ v∈rest,∃ k' b',v=Value.ref b'∧IsTupleKey (intKind prog w) s.heap k' b') _ ?_ ?_ _ _ ⟨rfl,rfl,hst⟩
 ·rintro v rest r s' ⟨hr,rfl,hal⟩
  obtain ⟨k',b',rfl,hk'⟩:=hal v (List.mem_cons_self ..)
  have fin:(none:Option Bool)=none∧s'=s'∧∀ v∈rest,∃ k' b',v=Value.ref b'∧IsTupleKey (intKind prog w) s'.heap k' b':=⟨rfl,rfl,fun u hu'=>hal u (List.mem_cons_of_mem _ hu')⟩
  dsimp only
  by_cases hv:((b == b') || (carriedByValue (.ref b) && carriedByValue (.ref b')))=true
  ·rw [if_pos hv]
   exact wpAny_pure fin
  ·rw [if_neg hv]
   refine wpAny_bind (wpAny_eqIsQuiet_tuple hk ?_)
   refine wpAny_ite_false rfl ?_
   refine wpAny_bind (wpAny_eqIsQuiet_tuple hk' ?_)
   refine wpAny_ite_false rfl ?_
   refine wpAny_bind (jY hk ?_)
   refine wpAny_ite_false rfl ?_
   refine wpAny_bind (jY hk' ?_)
   refine wpAny_ite_false rfl ?_
   exact wpAny_pure fin
 ·rintro ⟨r1,r2⟩ s' ⟨hr,rfl,_⟩
  simp only at hr
  subst hr
  exact wpAny_pure h
theorem lg (hk:IsTupleKey (intKind prog w) s.heap ks b) (h:∀ c,Q c s):wpAny (model prog w) A (hashByValue 8 (.ref b)) Q E s:=by
 have hT:=hk.typeIs
 obtain ⟨o,items,n,ho,_,hd,hi⟩:=hk
 unfold hashByValue
 refine wpAny_bind (wpAny_specialOf hT F.slot_tuple_hash.lookup ?_)
 show wpAny _ _ (seqItems? (.ref b)>>=_) _ _ _
 refine wpAny_bind (wpAny_seqItems ho hd ?_)
 refine wpAny_bind ?_
 show wpAny _ _ (forIn items (none,()) _) _ _ _
 rw [← Array.forIn_toList]
 refine wpAny_forIn_list _ (fun rest (_:Option Bool×Unit) s'=>s'=s∧(∀ v∈rest,v.scannable=true)) _ ?_ ?_ _ _ ⟨rfl,fun v hv=>?_⟩
 ·rintro x rest c s' ⟨rfl,hr⟩
  rw [hashByValue_scannable 7 (hr x (List.mem_cons_self ..))]
  refine wpAny_bind (wpAny_pure ?_)
  cases plainKind x with
  | true=>exact wpAny_ite_false rfl (wpAny_pure ⟨rfl,fun v hv=>hr v (List.mem_cons_of_mem _ hv)⟩)
  | false=>exact wpAny_ite_true rfl (wpAny_pure (wpAny_pure (h false)))
 ·rintro c s' ⟨rfl,_⟩
  dsimp only
  split
  ·exact wpAny_pure (h _)
  ·exact wpAny_pure (h _)
 ·have:∀ {ks:List Int} {vs:List Value},ItemsAre (intKind prog w) ks vs→∀ v∈vs,v.scannable=true:=by
   intro ks vs hi
   induction hi with
   | nil=>intro v hv;cases hv
   | @cons k v' ks vs h1 _ ih=>
    intro v hv
    rcases List.mem_cons.mp hv with rfl | hv
    ·obtain ⟨t',e'⟩:=Value.isInt_shape (show Value.isInt k v=true from h1)
     rw [e'];rfl
    ·exact ih v hv
  exact this hi v hv
theorem uA (g1:s.heap.get? a=some o) (g3:o.data=.set es ep t) (hfit:t.fits es.size=true) (hodd:t.gaveWay=false) (g5:t.dummies=#[]) (g8:t.place=pl.toArray) (g9:Ri pl) (lks:es.size=pl.length)
  (hu:A.units < cLine) (hk:IsTupleKey (intKind prog w) s.heap k b) (hent:∀ e∈es.toList,∃ k' b',k'≠k∧e=(hT k',Value.ref b')∧IsTupleKey (intKind prog w) s.heap k' b') :
  ∀ (n fuel:Nat) (stand:Option SetTable.Probe),Rch t pl n (stand.getD (t.probeStart (hT k)))→Path t.mask pl (t.probeStart (hT k)) (stand.getD (t.probeStart (hT k)))→n≤10 * SetTable.turns t.mask→n < fuel→(∀ j,j∉pl→Rea t.mask pl (hT k) j→Q (.free j false) s)→wpAny (model prog w) A (setSearchFrom a (.ref b) (hT k) true fuel stand) Q E s:=by
 intro n
 induction n using Nat.strongRecOn with
 | ind n ih=>
  intro fuel stand hq hpa hn hf hQ
  obtain ⟨fu,rfl⟩:∃ f,fuel=f+1:=⟨fuel - 1,by omega⟩
  rw [setSearchFrom.eq_2]
  refine wpAny_bind (wpAny_setState_of g1 g3 hfit ?_)
  dsimp only
  rw [hodd]
  refine wpAny_ite_false rfl ?_
  have key:=zW g8 g9 g5 (hT k) (fun i=>(es[i]?.map (·.1)).getD 0) n (10 * SetTable.turns t.mask) _ hq hn
  split
  case h_2 heq=>
   rcases key with ⟨j,q',ej,_⟩ | ⟨j,i,next,m,ej,_⟩
   ·exact (heq _ ej).elim
   ·exact (heq _ ej).elim
  case h_1 met heq=>
   rcases key with ⟨j,q',ej,hjl,pa,eq'⟩ | ⟨j,i,next,m,ej,r1,r2,r3,r4,r5,r6⟩
   ·have e:=ej.symm.trans heq
    cases e
    dsimp only
    exact wpAny_pure (hQ _ hjl ⟨q',hpa.trans pa,eq'⟩)
   ·have e:=ej.symm.trans heq
    cases e
    dsimp only
    have hi2:i < es.size:=by have:=(List.getElem?_eq_some_iff.mp r1).1;omega
    obtain ⟨k',b',hne,he,hk'⟩:=hent es[i] (by simp)
    have hes:es[i]?=some (hT k',Value.ref b'):=by rw [Array.getElem?_eq_getElem hi2,he]
    by_cases hled:t.led=true
    ·rw [hled]
     refine wpAny_ite_false rfl ?_
     rw [hes]
     dsimp only
     refine wpAny_bind (wpAny_holding (wpAny_eqBool_tuple (knd:=intKind prog w) hu hk' hk ?_))
     rw [decide_eq_false hne]
     refine wpAny_bind (wpAny_setState_of g1 g3 hfit ?_)
     dsimp only
     refine wpAny_ite_false rfl ?_
     rw [show t.sameMemory t.moves t.mask=some true by simp [SetTable.sameMemory]]
     dsimp only
     rw [if_pos rfl,r3]
     dsimp only
     rw [hes]
     dsimp only
     refine wpAny_bind (wpAny_isSame_ref_self ?_)
     refine wpAny_bind (wpAny_pure ?_)
     rw [if_pos rfl]
     dsimp only
     refine wpAny_ite_false rfl ?_
     exact ih m r4 fu (some next) r5 (hpa.trans r6) (by omega) (by omega) hQ
    ·rw [Bool.not_eq_true _ |>.mp hled]
     refine wpAny_ite_true rfl (wpAny_bind (kv hk ?_ ?_))
     ·intro v hv
      obtain ⟨x,hx,rfl⟩:=List.mem_map.mp hv
      obtain ⟨k2,b2,_,e2,hk2⟩:=hent x (by
       have:=Array.mem_toList_iff.mp hx
       exact Array.mem_toList_iff.mpr (Array.mem_filter.mp this).1)
      rw [e2]
      exact ⟨k2,b2,rfl,hk2⟩
     refine wpAny_ite_false rfl ?_
     rw [hes]
     dsimp only
     refine wpAny_bind (wpAny_holding (wpAny_eqBool_tuple (knd:=intKind prog w) hu hk' hk ?_))
     rw [decide_eq_false hne]
     refine wpAny_bind (wpAny_setState_of g1 g3 hfit ?_)
     dsimp only
     refine wpAny_ite_false rfl ?_
     rw [show t.sameMemory t.moves t.mask=some true by simp [SetTable.sameMemory]]
     dsimp only
     rw [if_pos rfl,r3]
     dsimp only
     rw [hes]
     dsimp only
     refine wpAny_bind (wpAny_isSame_ref_self ?_)
     refine wpAny_bind (wpAny_pure ?_)
     rw [if_pos rfl]
     dsimp only
     refine wpAny_ite_false rfl ?_
     exact ih m r4 fu (some next) r5 (hpa.trans r6) (by omega) (by omega) hQ
theorem l7:∀ {ks ks':List Int} {vs:List Value},ItemsAre (intKind prog w) ks vs→ItemsAre (intKind prog w) ks' vs→ks=ks'
 | _,_,_,.nil,.nil=>rfl
 | _,_,_,.cons h r,.cons h' r'=>by
  rw [l7 r r']
  have e:=KeyKind.is_eq_decide (knd:=intKind prog w) h
  rw [e] at h'
  rw [of_decide_eq_true h']
theorem qI {a b:Addr} {o:Obj} {es:Array (Int×Value)} {ep:Nat} {t:SetTable} {pl:List Nat} {k:List Int} {Q:SetFound→Shared→Prop} (g1:s.heap.get? a=some o) (g3:o.data=.set es ep t) (hfit:t.fits es.size=true) (hodd:t.gaveWay=false) (g5:t.dummies=#[]) (g8:t.place=pl.toArray) (g9:Ri pl) (lks:es.size=pl.length)
  (hu:A.units < cLine) (hk:IsTupleKey (intKind prog w) s.heap k b) (hent:∀ e∈es.toList,∃ k' b',e=(hT k',Value.ref b')∧IsTupleKey (intKind prog w) s.heap k' b') {i0:Nat} {b0:Addr} {q':SetTable.Probe} (h0:pl[i0]?=some q'.j) (he0:es[i0]?=some (hT k,Value.ref b0)) (hk0:IsTupleKey (intKind prog w) s.heap k b0) :
  ∀ (n fuel:Nat) (stand:Option SetTable.Probe),Rch t pl n (stand.getD (t.probeStart (hT k)))→Path t.mask pl (stand.getD (t.probeStart (hT k))) q'→n≤10 * SetTable.turns t.mask→n < fuel→Q (.there none) s→wpAny (model prog w) A (setSearchFrom a (.ref b) (hT k) true fuel stand) Q E s:=by
 intro n
 induction n using Nat.strongRecOn with
 | ind n ih=>
  intro fuel stand hq hpa hn hf hQ
  obtain ⟨fu,rfl⟩:∃ f,fuel=f+1:=⟨fuel - 1,by omega⟩
  rw [setSearchFrom.eq_2]
  refine wpAny_bind (wpAny_setState_of g1 g3 hfit ?_)
  dsimp only
  rw [hodd]
  refine wpAny_ite_false rfl ?_
  have key:=yP g8 g9 (hT k) (fun i=>(es[i]?.map (·.1)).getD 0) h0 (show ((es[i0]?.map (·.1)).getD 0)=hT k by rw [he0];rfl) n (10 * SetTable.turns t.mask) _ hq hn hpa
  split
  case h_2 heq=>
   obtain ⟨j,i,next,m,ej,_⟩:=key
   exact (heq _ ej).elim
  case h_1 met heq=>
   obtain ⟨j,i,next,m,ej,r1,r2,r3,r4,r5,r6⟩:=key
   ·have e:=ej.symm.trans heq
    cases e
    dsimp only
    have hi2:i < es.size:=by have:=(List.getElem?_eq_some_iff.mp r1).1;omega
    obtain ⟨k',b',he,hk'⟩:=hent es[i] (by simp)
    have hes:es[i]?=some (hT k',Value.ref b'):=by rw [Array.getElem?_eq_getElem hi2,he]
    by_cases hled:t.led=true
    ·rw [hled]
     refine wpAny_ite_false rfl ?_
     rw [hes]
     dsimp only
     refine wpAny_bind (wpAny_holding (wpAny_eqBool_tuple (knd:=intKind prog w) hu hk' hk ?_))
     by_cases heq2:k'=k
     ·rw [decide_eq_true heq2]
      refine wpAny_bind (wpAny_setState_of g1 g3 hfit ?_)
      dsimp only
      exact wpAny_ite_true rfl (wpAny_pure hQ)
     have r7:Path t.mask pl next q':=by
      rcases r6 with z | r6
      ·rw [z,he0] at hes
       have hb:=Value.ref.inj (Prod.mk.inj (Option.some.inj hes)).2
       subst hb
       obtain ⟨o1,v1,n1,x1,x2,x3,x4⟩:=hk'
       obtain ⟨o2,v2,n2,y1,y2,y3,y4⟩:=hk0
       exact absurd (by
        rw [x1] at y1
        cases y1
        rw [x3] at y3
        have:=(Data.seq.inj y3).1
        rw [this] at x4
        exact l7 x4 y4) heq2
      ·exact r6
     rw [decide_eq_false heq2]
     refine wpAny_bind (wpAny_setState_of g1 g3 hfit ?_)
     dsimp only
     refine wpAny_ite_false rfl ?_
     rw [show t.sameMemory t.moves t.mask=some true by simp [SetTable.sameMemory]]
     dsimp only
     rw [if_pos rfl,r3]
     dsimp only
     rw [hes]
     dsimp only
     refine wpAny_bind (wpAny_isSame_ref_self ?_)
     refine wpAny_bind (wpAny_pure ?_)
     rw [if_pos rfl]
     dsimp only
     refine wpAny_ite_false rfl ?_
     exact ih m r4 fu (some next) r5 r7 (by omega) (by omega) hQ
    ·rw [Bool.not_eq_true _ |>.mp hled]
     refine wpAny_ite_true rfl (wpAny_bind (kv hk ?_ ?_))
     ·intro v hv
      obtain ⟨x,hx,rfl⟩:=List.mem_map.mp hv
      obtain ⟨k2,b2,e2,hk2⟩:=hent x (by
       have:=Array.mem_toList_iff.mp hx
       exact Array.mem_toList_iff.mpr (Array.mem_filter.mp this).1)
      rw [e2]
      exact ⟨k2,b2,rfl,hk2⟩
     refine wpAny_ite_false rfl ?_
     rw [hes]
     dsimp only
     refine wpAny_bind (wpAny_holding (wpAny_eqBool_tuple (knd:=intKind prog w) hu hk' hk ?_))
     by_cases heq2:k'=k
     ·rw [decide_eq_true heq2]
      refine wpAny_bind (wpAny_setState_of g1 g3 hfit ?_)
      dsimp only
      exact wpAny_ite_true rfl (wpAny_pure hQ)
     have r7:Path t.mask pl next q':=by
      rcases r6 with z | r6
      ·rw [z,he0] at hes
       have hb:=Value.ref.inj (Prod.mk.inj (Option.some.inj hes)).2
       subst hb
       obtain ⟨o1,v1,n1,x1,x2,x3,x4⟩:=hk'
       obtain ⟨o2,v2,n2,y1,y2,y3,y4⟩:=hk0
       exact absurd (by
        rw [x1] at y1
        cases y1
        rw [x3] at y3
        have:=(Data.seq.inj y3).1
        rw [this] at x4
        exact l7 x4 y4) heq2
      ·exact r6
     rw [decide_eq_false heq2]
     refine wpAny_bind (wpAny_setState_of g1 g3 hfit ?_)
     dsimp only
     refine wpAny_ite_false rfl ?_
     rw [show t.sameMemory t.moves t.mask=some true by simp [SetTable.sameMemory]]
     dsimp only
     rw [if_pos rfl,r3]
     dsimp only
     rw [hes]
     dsimp only
     refine wpAny_bind (wpAny_isSame_ref_self ?_)
     refine wpAny_bind (wpAny_pure ?_)
     rw [if_pos rfl]
     dsimp only
     refine wpAny_ite_false rfl ?_
     exact ih m r4 fu (some next) r5 r7 (by omega) (by omega) hQ
theorem du (H:IsTupleKey (intKind prog w) h ks b) (k:∀ o,h.get? b=some o→h'.get? b=some o):IsTupleKey (intKind prog w) h' ks b:=by
 obtain ⟨o,items,n,g,r⟩:=H
 exact ⟨o,items,n,k o g,r⟩
def C6 (m:Nat) (pl:List Nat) (es:Array (Int×Value)):Prop:=∀ i j:Nat,pl[i]?=some j→∃ e,es[i]?=some e∧Rea m pl e.1 j
def iQ (prog:Program) (w:World) (P:Addr→Prop) (h:Heap) (a:Addr) (ks:List (List Int)):Prop:=
 ∃ (o:Obj) (es:Array (Int×Value)) (ep:Nat) (t:SetTable) (pl:List Nat),h.get? a=some o∧o.ExactSet∧o.data=.set es ep t∧bY t.mask=true∧t.dummies=#[] ∧
  t.place=pl.toArray∧(Ri pl∧pl.length=ks.length∧ks.length * 5 < t.mask * 3)∧es.size=ks.length∧ks.length≤300∧(∀ e∈es.toList,∃ k b,k∈ks∧e=(hT k,Value.ref b)∧b≠a∧P b∧IsTupleKey (intKind prog w) h k b)∧(∀ k∈ks,∃ b,(hT k,Value.ref b)∈es.toList∧b≠a∧P b∧IsTupleKey (intKind prog w) h k b)∧C6 t.mask pl es
theorem iQ.at (H:iQ prog w P h S ks) (k:∀ b o,b=S∨P b→h.get? b=some o→h'.get? b=some o):iQ prog w P h' S ks:=by
 obtain ⟨o,es,ep,t,pl,g1,g2,g3,g4,g5,g6,g7,g8,g9,g10,g11,g12⟩:=H
 refine ⟨o,es,ep,t,pl,k S o (.inl rfl) g1,g2,g3,g4,g5,g6,g7,g8,g9,fun e he=>?_,fun x hx=>?_,g12⟩
 ·obtain ⟨k',b,q1,q2,q3,q4,q5⟩:=g10 e he
  exact ⟨k',b,q1,q2,q3,q4,du q5 fun o e=>k b o (.inr q4) e⟩
 ·obtain ⟨b,q1,q2,q3,q4⟩:=g11 x hx
  exact ⟨b,q1,q2,q3,du q4 fun o e=>k b o (.inr q3) e⟩
theorem xB (hu:A.units < cLine) (hS:iQ prog w P s.heap a hs) (hba:b≠a) (hPb:P b) (hk:IsTupleKey (intKind prog w) s.heap ks b) (hnew:ks∉hs) (hl:hs.length < 300)
  (h:∀ (h':Heap) (tk:Nat),Heap.SameBut a s.heap h'→iQ prog w P h' a (ks :: hs)→Q true { s with heap:=h',toks:=tk }) :
  wpAny (model prog w) A (setAdd a (.ref b)) Q E s:=by
 obtain ⟨o,es,ep,t,pl,g1,g2,g3,g4,g5,g8,⟨g9,lpl,g14⟩,lks,g13,g15,g16,g17⟩:=hS
 have hmask:=gy g4
 have hmk:7≤t.mask:=by
  have q:=g4
  simp only [bY,Bool.or_eq_true,beq_iff_eq] at q
  omega
 have hodd:t.gaveWay=false:=by
  have q:=g4
  simp only [bY,Bool.or_eq_true,beq_iff_eq] at q
  unfold SetTable.gaveWay
  rcases q with ((q | q) | q) | q<;>rw [q]<;>rfl
 have hfit:t.fits es.size=true:=fits_of g5 (by rw [g8,lks];simpa using lpl) (by omega)
 unfold setAdd
 refine wpAny_holding (wpAny_bind (wpAny_pyHash_tuple (knd:=intKind prog w) hu hk ?_))
 rw [yz]
 unfold setAddHashed
 refine wpAny_holding ?_
 show wpAny _ _ (setAddHashedIn a (.ref b) _ (99999+1)) _ _ _
 rw [setAddHashedIn.eq_2]
 refine wpAny_bind (wpAny_setState_of g1 g3 hfit ?_)
 show wpAny _ _ (if byScan (.ref b) es=true then _ else _) _ _ _
 rw [if_neg (show ¬byScan (.ref b) es=true by simp [byScan,Value.scannable])]
 refine wpAny_bind ?_
 unfold setSearch
 have hne:∀ e∈es.toList,∃ k' b',k'≠ks∧e=(hT k',Value.ref b')∧IsTupleKey (intKind prog w) s.heap k' b':=fun e he=>by
  obtain ⟨k',b',q1,q2,q3,q4,q5⟩:=g15 e he
  exact ⟨k',b',fun z=>hnew (z ▸ q1),q2,q5⟩
 have htn:10 * SetTable.turns t.mask < 100000:=by
  have q:=g4
  simp only [bY,Bool.or_eq_true,beq_iff_eq] at q
  unfold SetTable.turns
  omega
 refine uA (s:={ s with toks:=s.toks+(ks.length+1) }) g1 g3 hfit hodd g5 g8 g9 (by omega) hu hk hne (10 * SetTable.turns t.mask) 100000 none (oo hmask (by omega) (hT ks)) (.refl _) (Nat.le_refl _) htn fun j hjl hrea=>?_
 ·dsimp only
  refine wpAny_bind (wpAny_setState_of g1 g3 hfit ?_)
  obtain ⟨p,hple,hpb,hpa,hpc⟩:=n4 g9 j
  have hp:SetTable.below pl.toArray j=p:=hpb
  have les0:es.size=pl.length:=by omega
  have riN:Ri (pl.take p++j :: pl.drop p):=ow g9 hjl hpa hpc
  have liN:(SetTable.insertAt pl.toArray p j).toList=pl.take p++j :: pl.drop p:=by
   have:=eB pl.toArray p j (by simpa using hple)
   simpa using this
  have hput:t.put j=({ mask:=t.mask,place:=SetTable.insertAt t.place p j,dummies:=#[],finger:=t.finger,led:=t.led,moves:=t.moves,plain:=t.plain },p):=by
   unfold SetTable.put
   rw [g8,hp,g5]
   rfl
  rw [hput]
  dsimp only
  have h1000:(1000:Nat)≤sizeLine:=Nat.le_of_lt (ib (Nat.le_refl 1000))
  have lpl':(pl.take p++j :: pl.drop p).length=hs.length+1:=by simp;omega
  have les:(SetTable.insertAt es p (hT ks,Value.ref b)).toList=es.toList.take p++(hT ks,Value.ref b) :: es.toList.drop p:=eB _ _ _ (by omega)
  generalize hes:SetTable.insertAt es p (hT ks,Value.ref b)=es' at les
  have lsz:es'.size=hs.length+1:=by
   rw [← Array.length_toList,les]
   simp
   omega
  have i2:∀ (h':Heap),(∀ c o,c≠a→s.heap.get? c=some o→h'.get? c=some o)→∀ e∈es'.toList,∃ k c,k∈ks :: hs∧e=(hT k,Value.ref c)∧c≠a∧P c∧IsTupleKey (intKind prog w) h' k c:=by
   intro h' hh e he
   rw [les] at he
   have old:∀ e∈es.toList,∃ k c,k∈ks :: hs∧e=(hT k,Value.ref c)∧c≠a∧P c∧IsTupleKey (intKind prog w) h' k c:=fun e he=>by
    obtain ⟨k',c,q1,q2,q3,q4,q5⟩:=g15 e he
    exact ⟨k',c,List.mem_cons_of_mem _ q1,q2,q3,q4,du q5 fun o e=>hh c o q3 e⟩
   rcases List.mem_append.mp he with z | z
   ·exact old e (List.mem_of_mem_take z)
   ·rcases List.mem_cons.mp z with z | z
    ·exact ⟨ks,b,List.mem_cons_self ..,z,hba,hPb,du hk fun o e=>hh b o hba e⟩
    ·exact old e (List.mem_of_mem_drop z)
  have i3:∀ (h':Heap),(∀ c o,c≠a→s.heap.get? c=some o→h'.get? c=some o)→∀ k∈ks :: hs,∃ c,(hT k,Value.ref c)∈es'.toList∧c≠a∧P c∧IsTupleKey (intKind prog w) h' k c:=by
   intro h' hh k hkm
   rw [les]
   rcases List.mem_cons.mp hkm with z | z
   ·exact ⟨b,by rw [z];simp,hba,hPb,du (z ▸ hk) fun o e=>hh b o hba e⟩
   ·obtain ⟨c,q1,q2,q3,q4⟩:=g16 k z
    refine ⟨c,?_,q2,q3,du q4 fun o e=>hh c o q2 e⟩
    rw [← List.take_append_drop p es.toList] at q1
    rcases List.mem_append.mp q1 with w | w
    ·exact List.mem_append_left _ w
    ·exact List.mem_append_right _ (List.mem_cons_of_mem _ w)
  have i4:C6 t.mask (pl.take p++j :: pl.drop p) es':=by
   have sub:∀ x∈pl,x∈pl.take p++j :: pl.drop p:=fun x hx=>by
    rw [← List.take_append_drop p pl] at hx
    rcases List.mem_append.mp hx with w | w
    ·exact List.mem_append_left _ w
    ·exact List.mem_append_right _ (List.mem_cons_of_mem _ w)
   have lt1:(pl.take p).length=p:=by rw [List.length_take];omega
   have lt2:(es.toList.take p).length=p:=by rw [List.length_take,Array.length_toList];omega
   intro i j' hij
   have ges:∀ i:Nat,es'[i]?=(es.toList.take p++(hT ks,Value.ref b) :: es.toList.drop p)[i]?:=fun i=>by rw [← les,Array.getElem?_toList]
   rw [ges]
   rcases Nat.lt_trichotomy i p with z | z | z
   ·rw [List.getElem?_append_left (by omega),List.getElem?_take,if_pos z] at hij
    obtain ⟨e,e1,e2⟩:=g17 i j' hij
    refine ⟨e,?_,e2.mono sub⟩
    rw [List.getElem?_append_left (by omega),List.getElem?_take,if_pos z,Array.getElem?_toList]
    exact e1
   ·subst z
    rw [List.getElem?_append_right (by omega),lt1,Nat.sub_self] at hij
    cases hij
    refine ⟨_,by rw [List.getElem?_append_right (by omega),lt2,Nat.sub_self];rfl,hrea.mono sub⟩
   ·rw [List.getElem?_append_right (by omega),lt1] at hij
    obtain ⟨d,rfl⟩:∃ d,i=p+1+d:=⟨i - p - 1,by omega⟩
    rw [show p+1+d - p=d+1 by omega,List.getElem?_cons_succ,List.getElem?_drop] at hij
    obtain ⟨e,e1,e2⟩:=g17 (p+d) j' hij
    refine ⟨e,?_,e2.mono sub⟩
    rw [List.getElem?_append_right (by omega),lt2,show p+1+d - p=d+1 by omega,List.getElem?_cons_succ,List.getElem?_drop,Array.getElem?_toList]
    exact e1
  have go:∀ (t1:SetTable),t1.mask=t.mask→t1.dummies=#[]→t1.place=(pl.take p++j :: pl.drop p).toArray→wpAny (model prog w) A (do
    storeSet a es' t1
    if (!false && t1.tooFull)=true then do
     setRelay a (SetTable.grown (es.size+1))
     pure true
    else pure true) Q E { s with toks:=s.toks+(ks.length+1) }:=by
   intro t1 m1 m2 m5
   have hfit':t1.fits es'.size=true:=fits_of m2 (by rw [m5,lsz];simpa using lpl') (by omega)
   have hfill:t1.fill=hs.length+1:=by
    unfold SetTable.fill
    rw [m2,m5]
    simp only [List.size_toArray,lpl']
    rfl
   have gN:(s.heap.update a (Obj.putSet es' t1)).get? a=some { o with data:=.set es' (ep+1) t1 }:=by
    rw [← putSet_of es' t1 g3]
    exact Heap.get?_update_self _ g1 (by rw [putSet_of es' t1 g3];rfl)
   have sbN:Heap.SameBut a s.heap (s.heap.update a (Obj.putSet es' t1)):=Heap.SameBut.update ..
   refine wpAny_bind (wpAny_storeSet_of (s:={ s with toks:=s.toks+(ks.length+1) }) g1 g3 ?_ (by rw [lsz];omega))
   by_cases hfull:(hs.length+1) * 5 < t.mask * 3
   ·have hf0:(!false && t1.tooFull)=false:=by
     unfold SetTable.tooFull
     rw [hfill,m1]
     simp
     omega
    rw [hf0]
    refine wpAny_ite_false rfl (wpAny_pure ?_)
    exact h _ _ sbN ⟨_,es',ep+1,t1,_,gN,g2,rfl,by rw [m1];exact g4,m2,m5,⟨riN,by rw [lpl',List.length_cons],by rw [List.length_cons,m1];exact hfull⟩,by rw [lsz,List.length_cons],by rw [List.length_cons];omega,i2 _ fun c o hc e=>sbN.extBut c o hc e,i3 _ fun c o hc e=>sbN.extBut c o hc e,by rw [m1];exact i4⟩
   ·have hf1:(!false && t1.tooFull)=true:=by
     unfold SetTable.tooFull
     rw [hfill,m1]
     simp
     omega
    rw [hf1]
    refine wpAny_ite_true rfl (wpAny_bind ?_)
    obtain ⟨w1,w2⟩:=qy (t':=t1) (es':=es') (n:=hs.length+1) (by rw [m1];exact g4) lsz (by rw [m1];exact hfull) (by rw [m1];omega) (by omega)
    obtain ⟨t2,order,l2,r1,r2,r3,r4,r5,r6,r7,r8,r9⟩:=vm (t:=t1) (es:=es') (wanted:=SetTable.grown (hs.length+1)) (gy w1) (by rw [lsz];omega)
    generalize he2:Array.filterMap (fun x=>es'[x]?) order=e2 at r2
    have lsz2:e2.size=hs.length+1:=by rw [← Array.length_toList,r2.length_eq,Array.length_toList,lsz]
    rw [lks]
    unfold setRelay
    refine wpAny_bind (wpAny_setState_of gN rfl hfit' ?_)
    dsimp only
    have hok:SetTable.sizeAbove (SetTable.grown (hs.length+1))≤sizeLine:=by
     have q:=w1
     simp only [bY,Bool.or_eq_true,beq_iff_eq] at q
     omega
    refine wpAny_ite_false (by simpa using hok) ?_
    refine wpAny_bind ?_
    rw [r1]
    have gM:((s.heap.update a (Obj.putSet es' t1)).update a (Obj.putSet e2 t2)).get? a=some { o with data:=.set e2 (ep+1+1) t2 }:=by
     have hq:=putSet_of (o:={ o with data:=.set es' (ep+1) t1 }) e2 t2 rfl
     rw [← hq]
     exact Heap.get?_update_self _ gN (by rw [hq];rfl)
    refine (show wpAny _ _ (if ((Array.filterMap (fun x=>es'[x]?) order).size != es'.size)=true then _ else pure (Array.filterMap (fun x=>es'[x]?) order,t2)) _ _ _ from ?_)
    rw [he2]
    refine wpAny_ite_false (by rw [lsz2,lsz];simp) (wpAny_pure ?_)
    refine wpAny_storeSet_of gN rfl ?_ (by rw [lsz2];omega)
    refine wpAny_pure ?_
    exact h _ _ (sbN.trans (Heap.SameBut.update ..)) ⟨_,e2,ep+1+1,t2,l2,gM,g2,rfl,by rw [r7];exact w1,r6,r3,⟨r4,by rw [r5,lsz,List.length_cons],by rw [r7,List.length_cons];exact w2⟩,by rw [lsz2,List.length_cons],by rw [List.length_cons];omega,fun e he=>i2 _ (fun c o hc e=>(sbN.trans (Heap.SameBut.update ..)).extBut c o hc e) e (r2.mem_iff.mp he),fun k hk=>by
     obtain ⟨c,q1,q2,q3,q4⟩:=i3 _ (fun c o hc e=>(sbN.trans (Heap.SameBut.update ..)).extBut c o hc e) k hk
     exact ⟨c,r2.mem_iff.mpr q1,q2,q3,q4⟩,by
     rw [← he2]
     exact xJ (gy w1) (by rw [lsz];omega) r1 r3⟩
  by_cases hpl:t.plain=true
  ·rw [if_pos hpl]
   refine wpAny_bind (lg (s:={ s with toks:=s.toks+(ks.length+1) }) hk fun c=>?_)
   cases c with
   | true=>exact go _ rfl rfl (by rw [← liN,g8];rfl)
   | false=>exact go _ rfl rfl (by rw [← liN,g8];rfl)
  ·rw [if_neg hpl]
   refine wpAny_bind (wpAny_pure ?_)
   exact go _ rfl rfl (by rw [← liN,g8];rfl)
theorem wo {a b:Addr} {P:Addr→Prop} {hs:List (List Int)} {ks:List Int} {Q:Bool→Shared→Prop} (hu:A.units < cLine) (hS:iQ prog w P s.heap a hs) (hk:IsTupleKey (intKind prog w) s.heap ks b) (hold:ks∈hs) (h:∀ tk:Nat,Q false { s with toks:=tk }) :
  wpAny (model prog w) A (setAdd a (.ref b)) Q E s:=by
 obtain ⟨o,es,ep,t,pl,g1,g2,g3,g4,g5,g8,⟨g9,lpl,g14⟩,lks,g13,g15,g16,g17⟩:=hS
 have hmask:=gy g4
 have hmk:7≤t.mask:=by
  have q:=g4
  simp only [bY,Bool.or_eq_true,beq_iff_eq] at q
  omega
 have hodd:t.gaveWay=false:=by
  have q:=g4
  simp only [bY,Bool.or_eq_true,beq_iff_eq] at q
  unfold SetTable.gaveWay
  rcases q with ((q | q) | q) | q<;>rw [q]<;>rfl
 have hfit:t.fits es.size=true:=fits_of g5 (by rw [g8,lks];simpa using lpl) (by omega)
 unfold setAdd
 refine wpAny_holding (wpAny_bind (wpAny_pyHash_tuple (knd:=intKind prog w) hu hk ?_))
 rw [yz]
 unfold setAddHashed
 refine wpAny_holding ?_
 show wpAny _ _ (setAddHashedIn a (.ref b) _ (99999+1)) _ _ _
 rw [setAddHashedIn.eq_2]
 refine wpAny_bind (wpAny_setState_of g1 g3 hfit ?_)
 show wpAny _ _ (if byScan (.ref b) es=true then _ else _) _ _ _
 rw [if_neg (show ¬byScan (.ref b) es=true by simp [byScan,Value.scannable])]
 refine wpAny_bind ?_
 unfold setSearch
 have htn:10 * SetTable.turns t.mask < 100000:=by
  have q:=g4
  simp only [bY,Bool.or_eq_true,beq_iff_eq] at q
  unfold SetTable.turns
  omega
 obtain ⟨b0,e0,_,_,hk0⟩:=g16 ks hold
 obtain ⟨i0,hi0⟩:=List.mem_iff_getElem?.mp e0
 have hlt:=(List.getElem?_eq_some_iff.mp hi0).1
 rw [Array.length_toList] at hlt
 have hpl:pl[i0]?=some (pl[i0]'(by omega)):=List.getElem?_eq_getElem _
 obtain ⟨e1,ee,q',pa,ej⟩:=g17 i0 _ hpl
 rw [Array.getElem?_toList] at hi0
 rw [hi0] at ee
 cases ee
 refine qI (s:={ s with toks:=s.toks+(ks.length+1) }) g1 g3 hfit hodd g5 g8 g9 (by omega) hu hk (fun e he=>by
  obtain ⟨k',b',q1,q2,q3,q4,q5⟩:=g15 e he
  exact ⟨k',b',q2,q5⟩) (i0:=i0) (b0:=b0) (q':=q') (by rw [hpl,ej]) hi0 hk0 (10 * SetTable.turns t.mask) 100000 none (oo hmask (by omega) (hT ks)) pa (Nat.le_refl _) htn ?_
 exact wpAny_pure (h _)
def xU (ky:Nat→List Int) (i:Nat) (hs:List (List Int)):Prop:=hs.Nodup∧hs.length≤i∧∀ x,x∈hs↔∃ j,j < i∧ky j=x
theorem oA {R:Result→Shared→Prop} {I:Addr} {fp wr:List Addr} {n:Nat} {P:Nat→Value→Prop} {St:Nat→Heap→Prop} (W:Walks prog w A.in1 I fp wr n P St) (S:Addr) (hSf:S∉fp) (ky:Nat→List Int) (ad:Nat→Addr) (hval:∀ i v,P i v→i < n→v=Value.ref (ad i)) (hn:n≤300)
  (hu:A.in1.units < cLine) (had:∀ j,j < n→ad j≠S∧ad j∉wr) :
  ∀ (k i:Nat) (s:Shared) (hs:List (List Int)),n - i=k→i≤n→St i s.heap→iQ prog w (fun b=>b≠S∧b∉wr) s.heap S hs→xU ky i hs→(∀ j,j < n→IsTupleKey (intKind prog w) s.heap (ky j) (ad j)) →
   (∀ (h':Heap) (tk:Nat) (hs':List (List Int)),(∀ b o,b≠S→b∉wr→s.heap.get? b=some o→h'.get? b=some o)→iQ prog w (fun b=>b≠S∧b∉wr) h' S hs'→xU ky n hs'→R (.ok (.ret .none)) { s with heap:=h',toks:=tk }) →
   codeAny (model prog w) A (Code.builtin "set.update.loop" ⟨[.ref S,.ref I],[]⟩) R s:=by
 have hSw:S∉wr:=fun h=>hSf (W.sub S h)
 intro k
 induction k with
 | zero=>
  intro i s hs hk hi hst hS hks hkey hR
  have hin:i=n:=by omega
  subst hin
  refine codeAny_builtin F.entry_set_update_loop ?_
  rw [Around.under_plainId F.plain_set_update_loop]
  refine (show wpAny _ _ (pyNext (.ref I)>>=_) _ _ _ from wpAny_bind (W.done s _ _ hst fun h' tk hk'=>?_))
  exact wpAny_pure (hR h' tk hs (fun b o _ hw e=>hk' b o hw e) (hS.at fun b o hb e=>hk' b o (hb.elim (fun z=>z ▸ hSw) (·.2)) e) hks)
 | succ k ih=>
  intro i s hs hk hi hst hS hks hkey hR
  refine codeAny_builtin F.entry_set_update_loop ?_
  rw [Around.under_plainId F.plain_set_update_loop]
  refine (show wpAny _ _ (pyNext (.ref I)>>=_) _ _ _ from wpAny_bind (W.item i s _ _ (by omega) hst fun v h' tk hP hst' hk'=>?_))
  have hv:=hval i v hP (by omega)
  subst hv
  refine (show wpAny _ _ (holding [Value.ref (ad i)] (setAdd S (.ref (ad i)))>>=_) _ _ _ from wpAny_bind (wpAny_holding ?_))
  obtain ⟨knd,klen,kmem⟩:=hks
  have hS':=hS.at fun b o hb e=>hk' b o (hb.elim (fun z=>z ▸ hSw) (·.2)) e
  have hki:=du (hkey i (by omega)) fun o e=>hk' _ o (had i (by omega)).2 e
  by_cases hm:ky i∈hs
  ·refine wo (s:={ s with heap:=h',toks:=tk }) hu hS' hki hm fun tk2=>?_
   refine wpAny_pure ⟨plainId_quiet F.plain_set_update_loop _,ih (i+1) _ hs (by omega) (by omega) hst' hS' ⟨knd,by omega,fun x=>?_⟩ (fun j hj=>du (hkey j hj) fun o e=>hk' _ o (had j hj).2 e) fun h3 tk3 ks3 q1 q2 q3=>?_⟩
   ·rw [kmem]
    constructor
    ·rintro ⟨j,h1,h2⟩
     exact ⟨j,by omega,h2⟩
    ·rintro ⟨j,h1,h2⟩
     rcases Nat.lt_or_ge j i with z | z
     ·exact ⟨j,z,h2⟩
     ·have:j=i:=by omega
      subst this
      rw [h2] at hm
      exact (kmem x).mp hm
   ·exact hR h3 tk3 ks3 (fun b o hb1 hb2 e=>q1 b o hb1 hb2 (hk' b o hb2 e)) q2 q3
  ·refine xB (s:={ s with heap:=h',toks:=tk }) hu hS' (had i (by omega)).1 (had i (by omega)) hki hm (by omega) fun h2 tk2 sb hS2=>?_
   refine wpAny_pure ⟨plainId_quiet F.plain_set_update_loop _,ih (i+1) _ (ky i :: hs) (by omega) (by omega) ?_ hS2 ⟨List.nodup_cons.mpr ⟨hm,knd⟩,by simp;omega,fun x=>?_⟩ ?_ fun h3 tk3 ks3 q1 q2 q3=>?_⟩
   ·exact W.frame _ _ _ hst' fun b hb' o e=>sb.extBut b o (fun z=>hSf (z ▸ hb')) e
   ·rw [List.mem_cons,kmem]
    constructor
    ·rintro (rfl | ⟨j,h1,h2⟩)
     ·exact ⟨i,by omega,rfl⟩
     ·exact ⟨j,by omega,h2⟩
    ·rintro ⟨j,h1,h2⟩
     rcases Nat.lt_or_ge j i with z | z
     ·exact .inr ⟨j,z,h2⟩
     ·have:j=i:=by omega
      subst this
      exact .inl h2.symm
   ·intro j hj
    exact du (hkey j hj) fun o e=>sb.extBut _ o (had j hj).1 (hk' _ o (had j hj).2 e)
   ·exact hR h3 tk3 ks3 (fun b o hb1 hb2 e=>q1 b o hb1 hb2 (sb.extBut b o hb1 (hk' b o hb2 e))) q2 q3
def uq:List (List Int)→List (List Int)
 | []=>[]
 | x :: xs=>if x∈xs then uq xs else x :: uq xs
theorem j8 (x:List Int):∀ l,x∈uq l↔x∈l
 | []=>Iff.rfl
 | y :: l=>by
  unfold uq
  by_cases h:y∈l
  ·rw [if_pos h,j8 x l,List.mem_cons]
   exact ⟨.inr,fun z=>z.elim (fun e=>e ▸ h) id⟩
  ·rw [if_neg h,List.mem_cons,List.mem_cons,j8 x l]
theorem lP:∀ l,(uq l).Nodup
 | []=>List.nodup_nil
 | y :: l=>by
  unfold uq
  by_cases h:y∈l
  ·rw [if_pos h];exact lP l
  ·rw [if_neg h];exact List.nodup_cons.mpr ⟨fun z=>h ((j8 y l).mp z),lP l⟩
theorem ym:∀ l,(uq l).length≤l.length
 | []=>Nat.le_refl _
 | y :: l=>by
  have:=ym l
  unfold uq
  by_cases h:y∈l
  ·rw [if_pos h];simp;omega
  ·rw [if_neg h];simp;omega
theorem uU:∀ {l:List (List Int)},(uq l).length=l.length↔l.Nodup
 | []=>by simp [uq]
 | y :: l=>by
  have ih:=uU (l:=l)
  have le:=ym l
  unfold uq
  rw [List.nodup_cons]
  by_cases h:y∈l
  ·rw [if_pos h]
   exact ⟨fun e=>by simp at e;omega,fun e=>absurd h e.1⟩
  ·rw [if_neg h,List.length_cons,List.length_cons]
   exact ⟨fun e=>⟨h,ih.mp (by omega)⟩,fun e=>by rw [ih.mpr e.2]⟩
theorem lY:∀ {a b:List (List Int)},a.Nodup→(∀ x∈a,x∈b)→a.length≤b.length
 | [],_,_,_=>Nat.zero_le _
 | x :: a,b,h,hs=>by
  obtain ⟨h1,h2⟩:=List.nodup_cons.mp h
  have hx:=hs x (List.mem_cons_self ..)
  have:=lY (a:=a) (b:=b.erase x) h2 fun y hy=>(List.mem_erase_of_ne (fun z:y=x=>h1 (by rw [← z];exact hy))).mpr (hs y (List.mem_cons_of_mem _ hy))
  rw [List.length_erase_of_mem hx] at this
  have:=List.length_pos_of_mem hx
  simp only [List.length_cons]
  omega
theorem qa (h:xU (fun i=>ts.getD i []) ts.length ks):ks.length=(uq ts).length:=by
 obtain ⟨h1,_,h3⟩:=h
 have mem:∀ x,x∈ks↔x∈ts:=fun x=>by
  rw [h3]
  constructor
  ·rintro ⟨j,hj,rfl⟩
   show ts.getD j []∈ts
   rw [List.getD_eq_getElem?_getD,List.getElem?_eq_getElem hj]
   exact List.getElem_mem hj
  ·intro hx
   obtain ⟨j,hj,rfl⟩:=List.mem_iff_getElem.mp hx
   exact ⟨j,hj,by show ts.getD j []=ts[j];rw [List.getD_eq_getElem?_getD,List.getElem?_eq_getElem hj];rfl⟩
 exact Nat.le_antisymm (lY h1 fun x hx=>(j8 x ts).mpr ((mem x).mp hx)) (lY (lP ts) fun x hx=>(mem x).mpr ((j8 x ts).mp hx))
def tu (w:World) (h:Heap) (a:Addr) (ks:List (List Int)):Prop:=
 ∃ (o:Obj) (es:Array (Int×Value)) (ep:Nat) (t:SetTable),h.get? a=some o∧o.ExactSet∧o.data=.set es ep t∧t.fits es.size=true∧es.size=ks.length∧ks.length≤300
theorem iQ.x (H:iQ prog w P h S ks):tu w h S ks:=by
 obtain ⟨o,es,ep,t,pl,g1,g2,g3,g4,g5,g8,⟨g9,g10,g11⟩,g12,g13,g15,_⟩:=H
 exact ⟨o,es,ep,t,g1,g2,g3,fits_of g5 (by rw [g8,g12];simpa using g10) (by omega),g12,g13⟩
theorem vY {S l:Addr} {items:Array Value} {F:PySem.Fin→Shared→Prop} {hp:Heap} {g:Array GenState} {d:Drawn} {tk:Nat} {os:OsState} (hh:A.handled=none) (hS:hp.get? S=some { cls:=.type "set",data:=.set #[] 0 (SetTable.fresh 0 0 (!(w.params.followText "set-order"))) }) (k:Bool) (hl:jd hp l items k) (ts:List (List Int)) (ads:List Addr) (hi:items.toList=ads.map Value.ref) (hl2:ads.length=ts.length) (hn:ts.length≤300) (hu:A.in1.units < cLine) (hkey:∀ j,j < ts.length→IsTupleKey (intKind prog w) hp (ts.getD j []) (ads.getD j 0))
    (h:∀ (h':Heap) (tk':Nat) (ks:List (List Int)),tu w h' S ks→ks.length=(uq ts).length→(∀ b o,b≠S→hp.get? b=some o→h'.get? b=some o)→F (.done (.ret .none)) ⟨h',g,d,tk',os⟩) :
    wpAny (model prog w) A (Builtin.«set.__init__» ⟨[.ref S,.ref l],[]⟩) F E ⟨hp,g,d,tk,os⟩:=by
  cases k with
  | false=>
    replace hl:hp.IsTuple l items:=hl
    have hT:Shared.TypeIs ⟨hp,g,d,tk,os⟩ (.ref S) "set":=⟨_,hS,rfl⟩
    have hTt:Shared.TypeIs ⟨hp,g,d,tk,os⟩ (.ref l) "tuple":=hl.typeIs
    unfold Builtin.«set.__init__»
    refine wpAny_bind ?_
    unfold noKeywords
    refine wpAny_ite_true rfl (wpAny_pure ?_)
    dsimp only
    refine wpAny_bind ?_
    unfold typeNameOfCut
    refine wpAny_bind ?_
    unfold shownTypeOf
    refine wpAny_bind (wpAny_typeOf hT ?_)
    first
    | refine wpAny_ite_false rfl (wpAny_pure ?_)
    | refine wpAny_pure ?_
    refine (show wpAny _ _ (pure _) _ _ _ from wpAny_pure ?_)
    refine wpAny_bind ?_
    unfold checkCount
    refine wpAny_ite_false rfl (wpAny_ite_false rfl (wpAny_ite_false rfl (wpAny_pure ?_)))
    refine wpAny_bind (wpAny_pure ?_)
    refine wpAny_bind ?_
    unfold setUsed
    refine wpAny_bind (wpAny_setState_of hS rfl (by rfl) (wpAny_pure ?_))
    refine wpAny_ite_false rfl ?_
    refine wpAny_bind ?_
    unfold Builtin.Frozenset.updateFrom
    refine wpAny_bind ?_
    unfold Builtin.Frozenset.isAnySet
    refine (show wpAny _ _ (isInstance (.ref l) (.type "set")>>=_) _ _ _ from wpAny_bind (wpAny_isInstance hTt PySem.F.sub_tuple_set ?_))
    refine (show wpAny _ _ (isInstance (.ref l) (.type "frozenset")) _ _ _ from wpAny_isInstance hTt PySem.F.sub_tuple_frozenset ?_)
    refine wpAny_ite_false rfl (wpAny_bind (wpAny_typeOf hTt (wpAny_ite_false rfl (wpAny_bind (wpAny_pyIter_tuple hl ?_)))))
    refine wpAny_bind (wpAny_runValue ?_)
    have hlt:S < hp.objs.size:=Heap.lt_size hS
    obtain ⟨o,ho,hor⟩:=hl
    have hlt2:l < hp.objs.size:=Heap.lt_size ho
    have hne:l≠hp.objs.size:=Nat.ne_of_lt hlt2
    have W:=Walks.tuple (prog:=prog) (w:=w) (A:=A.in1) hh hp.objs.size l hne items
    have lit:items.size=ts.length:=by rw [← Array.length_toList,hi,List.length_map,hl2]
    have hSl:S≠l:=fun e=>by
      rw [e,ho] at hS
      cases hS
      exact absurd (Value.type.inj hor.1) (by decide)
    refine oA W S (by simp only [List.mem_cons,List.not_mem_nil,or_false,not_or];exact ⟨Nat.ne_of_lt hlt,hSl⟩) (fun i=>ts.getD i []) (fun i=>ads.getD i 0) ?_ (by omega) hu ?_ items.size 0 _ [] (by omega) (Nat.zero_le _) ?_ ?_ ?_ ?_ ?_
    · intro i v hv hin
      have q:items.toList[i]?=some v:=by simpa using hv
      rw [hi,List.getElem?_map] at q
      rw [List.getD_eq_getElem?_getD]
      cases e:ads[i]? with
      | none=>rw [e] at q;cases q
      | some x=>rw [e] at q;exact (Option.some.inj q).symm
    · intro j hj
      obtain ⟨o',it',n',g,c,_⟩:=hkey j (by omega)
      refine ⟨fun e=>?_,fun hm=>?_⟩
      · rw [e] at g
        rw [hS] at g
        cases g
        exact absurd (Value.type.inj c) (by decide)
      · simp only [List.mem_singleton] at hm
        exact Nat.lt_irrefl _ (hm ▸ Heap.lt_size g)
    · exact ⟨⟨_,Heap.get?_push_size _ rfl,rfl,rfl⟩,⟨o,Heap.get?_push_of_some _ ho,hor⟩⟩
    · refine ⟨_,#[],0,_,[],Heap.get?_push_of_some _ hS,⟨rfl,rfl,rfl⟩,rfl,(show bY 7=true by decide),rfl,rfl,⟨List.Pairwise.nil,rfl,(show 0 * 5 < 7 * 3 by decide)⟩,rfl,by simp,by simp,by simp,fun i j z=>by cases z⟩
    · exact ⟨List.nodup_nil,Nat.le_refl _,fun x=>Iff.intro (fun z=>absurd z (by simp)) fun ⟨j,z,_⟩=>absurd z (Nat.not_lt_zero j)⟩
    · intro j hj
      exact du (hkey j (by omega)) fun o e=>Heap.get?_push_of_some _ e
    · intro h' tk' ks' q1 q2 q3
      refine wpAny_pure (wpAny_pure (h h' tk' ks' q2.x (qa (by rw [← lit];exact q3)) ?_))
      intro b o' hbS e
      refine q1 b o' hbS ?_ (Heap.get?_push_of_some _ e)
      simp only [List.mem_singleton]
      exact Nat.ne_of_lt (Heap.lt_size e)
  | true=>
    replace hl:hp.IsList l items:=hl
    have hT:Shared.TypeIs ⟨hp,g,d,tk,os⟩ (.ref S) "set":=⟨_,hS,rfl⟩
    have hTt:Shared.TypeIs ⟨hp,g,d,tk,os⟩ (.ref l) "list":=hl.typeIs
    unfold Builtin.«set.__init__»
    refine wpAny_bind ?_
    unfold noKeywords
    refine wpAny_ite_true rfl (wpAny_pure ?_)
    dsimp only
    refine wpAny_bind ?_
    unfold typeNameOfCut
    refine wpAny_bind ?_
    unfold shownTypeOf
    refine wpAny_bind (wpAny_typeOf hT ?_)
    first
    | refine wpAny_ite_false rfl (wpAny_pure ?_)
    | refine wpAny_pure ?_
    refine (show wpAny _ _ (pure _) _ _ _ from wpAny_pure ?_)
    refine wpAny_bind ?_
    unfold checkCount
    refine wpAny_ite_false rfl (wpAny_ite_false rfl (wpAny_ite_false rfl (wpAny_pure ?_)))
    refine wpAny_bind (wpAny_pure ?_)
    refine wpAny_bind ?_
    unfold setUsed
    refine wpAny_bind (wpAny_setState_of hS rfl (by rfl) (wpAny_pure ?_))
    refine wpAny_ite_false rfl ?_
    refine wpAny_bind ?_
    unfold Builtin.Frozenset.updateFrom
    refine wpAny_bind ?_
    unfold Builtin.Frozenset.isAnySet
    refine (show wpAny _ _ (isInstance (.ref l) (.type "set")>>=_) _ _ _ from wpAny_bind (wpAny_isInstance hTt PySem.F.sub_list_set ?_))
    refine (show wpAny _ _ (isInstance (.ref l) (.type "frozenset")) _ _ _ from wpAny_isInstance hTt PySem.F.sub_list_frozenset ?_)
    refine wpAny_ite_false rfl (wpAny_bind (wpAny_typeOf hTt (wpAny_ite_false rfl (wpAny_bind (wpAny_pyIter_list hl ?_)))))
    refine wpAny_bind (wpAny_runValue ?_)
    have hlt:S < hp.objs.size:=Heap.lt_size hS
    obtain ⟨o,ho,hor⟩:=hl
    have hlt2:l < hp.objs.size:=Heap.lt_size ho
    have hne:l≠hp.objs.size:=Nat.ne_of_lt hlt2
    have W:=Walks.list (prog:=prog) (w:=w) (A:=A.in1) hh hp.objs.size l hne items
    have lit:items.size=ts.length:=by rw [← Array.length_toList,hi,List.length_map,hl2]
    have hSl:S≠l:=fun e=>by
      rw [e,ho] at hS
      cases hS
      exact absurd (Value.type.inj hor.1) (by decide)
    refine oA W S (by simp only [List.mem_cons,List.not_mem_nil,or_false,not_or];exact ⟨Nat.ne_of_lt hlt,hSl⟩) (fun i=>ts.getD i []) (fun i=>ads.getD i 0) ?_ (by omega) hu ?_ items.size 0 _ [] (by omega) (Nat.zero_le _) ?_ ?_ ?_ ?_ ?_
    · intro i v hv hin
      have q:items.toList[i]?=some v:=by simpa using hv
      rw [hi,List.getElem?_map] at q
      rw [List.getD_eq_getElem?_getD]
      cases e:ads[i]? with
      | none=>rw [e] at q;cases q
      | some x=>rw [e] at q;exact (Option.some.inj q).symm
    · intro j hj
      obtain ⟨o',it',n',g,c,_⟩:=hkey j (by omega)
      refine ⟨fun e=>?_,fun hm=>?_⟩
      · rw [e] at g
        rw [hS] at g
        cases g
        exact absurd (Value.type.inj c) (by decide)
      · simp only [List.mem_singleton] at hm
        exact Nat.lt_irrefl _ (hm ▸ Heap.lt_size g)
    · exact ⟨⟨_,Heap.get?_push_size _ rfl,rfl,rfl⟩,⟨o,Heap.get?_push_of_some _ ho,hor⟩⟩
    · refine ⟨_,#[],0,_,[],Heap.get?_push_of_some _ hS,⟨rfl,rfl,rfl⟩,rfl,(show bY 7=true by decide),rfl,rfl,⟨List.Pairwise.nil,rfl,(show 0 * 5 < 7 * 3 by decide)⟩,rfl,by simp,by simp,by simp,fun i j z=>by cases z⟩
    · exact ⟨List.nodup_nil,Nat.le_refl _,fun x=>Iff.intro (fun z=>absurd z (by simp)) fun ⟨j,z,_⟩=>absurd z (Nat.not_lt_zero j)⟩
    · intro j hj
      exact du (hkey j (by omega)) fun o e=>Heap.get?_push_of_some _ e
    · intro h' tk' ks' q1 q2 q3
      refine wpAny_pure (wpAny_pure (h h' tk' ks' q2.x (qa (by rw [← lit];exact q3)) ?_))
      intro b o' hbS e
      refine q1 b o' hbS ?_ (Heap.get?_push_of_some _ e)
      simp only [List.mem_singleton]
      exact Nat.ne_of_lt (Heap.lt_size e)
theorem tU {l:Addr} {items:Array Value} {Q:Value→Shared→Prop} (hh:A.handled=none) (k:Bool) (hl:jd s.heap l items k) (ts:List (List Int)) (ads:List Addr) (hi:items.toList=ads.map Value.ref) (hl2:ads.length=ts.length) (hn:ts.length≤300) (hu:A.in1.in1.in1.units < cLine) (hkey:∀ j,j < ts.length→IsTupleKey (intKind prog w) s.heap (ts.getD j []) (ads.getD j 0))
  (h:∀ (h':Heap) (tk:Nat) (ks:List (List Int)),tu w h' s.heap.objs.size ks→ks.length=(uq ts).length→(∀ b o,s.heap.get? b=some o→h'.get? b=some o)→Q (.ref s.heap.objs.size) { s with heap:=h',toks:=tk }):wpAny (model prog w) A (call (.type "set") [.ref l]) Q E s:=by
 obtain ⟨c,tl,hmro⟩:=F.called_set.mro
 have hmade:=F.called_set.made
 have hsub:=F.called_set.sub
 have h1:=F.called_set.notType
 have h2:=F.called_set.canCreate
 have hct:=F.typeCall_set_1 (Value.ref l)
 refine wpAny_call (codeAny_of_tree ?_)
 refine (show wpAny _ _ (pure (Fin.again (Code.builtin "type.__call__" ⟨[.type "set",.ref l],[]⟩))) _ _ _ from wpAny_pure ⟨Code.quiet_builtin _ (by decide +kernel),codeAny_builtin F.entry_type_call ?_⟩)
 rw [Around.under_plain (weight_type_call_type "set" [Value.ref l] []) rfl]
 unfold Builtin.«type.__call__»
 dsimp only
 refine wpAny_ite_false rfl (wpAny_ite_false (by rw [h2];rfl) (wpAny_bind (wpAny_of_eq hct (wpAny_bind (wpAny_of_eq hmro (wpAny_ite_false rfl (wpAny_bind (wpAny_of_eq hmade ?_))))))))
 dsimp only
 refine wpAny_bind (wpAny_pure (wpAny_bind (wpAny_holding (wpAny_call (codeAny_mono (jV (E:=fun _ _=>False) (Q₁:=fun obj s₁=>obj=.ref s.heap.objs.size∧s₁={ s with heap:=s.heap.push { cls:=.type "set",data:=.set #[] 0 (SetTable.fresh 0 0 (!(w.params.followText "set-order"))) } }) (.ref l) ⟨rfl,rfl⟩) fun r s₁ hr=>?_)))))
 generalize hs1:({ s with heap:=s.heap.push { cls:=.type "set",data:=.set #[] 0 (SetTable.fresh 0 0 (!(w.params.followText "set-order"))) } }:Shared)=sN at hr
 cases r with
 | error e=>exact False.elim hr
 | ok f=>
  cases f with
  | ret v=>
   obtain ⟨e1,e2⟩:=hr
   subst e1 e2
   have hT:Shared.TypeIs s₁ (.ref s.heap.objs.size) "set":=by
    rw [← hs1]
    exact ⟨_,Heap.get?_push_size _ rfl,rfl⟩
   show wpAny _ _ _ _ _ _
   refine wpAny_bind (wpAny_isInstance (T:="set") (b:=true) hT hsub ?_)
   refine wpAny_ite_false rfl (wpAny_bind (wpAny_holding ?_))
   refine wpAny_callSpecial?_slot (name:=Str.ofString "__init__") hT F.called_set.init (wpAny_call (codeAny_call_builtin F.called_set.init.plain F.entry_set_init (check_set_init_1 hT ?_)))
   subst hs1
   obtain ⟨hp,g,d,tk,os⟩:=s
   refine vY (hp:=hp.push _) hh (Heap.get?_push_size _ rfl) k (by
    cases k with
    | false=>
     obtain ⟨o,e,r⟩:=(show Heap.IsTuple _ l items from hl)
     exact (show Heap.IsTuple _ l items from ⟨o,Heap.get?_push_of_some _ e,r⟩)
    | true=>
     obtain ⟨o,e,r⟩:=(show Heap.IsList _ l items from hl)
     exact (show Heap.IsList _ l items from ⟨o,Heap.get?_push_of_some _ e,r⟩)) ts ads hi hl2 hn hu (fun j hj=>du (hkey j hj) fun o e=>Heap.get?_push_of_some _ e) fun h' tk' ks q1 q2 q3=>?_
   refine wpAny_ite_false rfl (wpAny_pure (h h' tk' ks q1 q2 fun b o e=>q3 b o (Nat.ne_of_lt (Heap.lt_size e)) (Heap.get?_push_of_some _ e)))
  | _=>exact False.elim hr
end
def vt:List (TE×TE)→St→Hp→(List (V×V)→Hp→Prop)→Prop
 | [],_,H,Q=>Q [] H
 | (tk,tv) :: r,σ,H,Q=>tk σ H fun x H1=>tv σ H1 fun y H2=>vt r σ H2 fun ps H3=>Q ((x,y) :: ps) H3
abbrev VV:List (V×V)→List (Value×Value)→Prop:=Paired fun p q=>RelV p.1 q.1∧RelV p.2 q.2
def PPs (X:Cx) (pos:Pos) (keys:List (Option Expr)) (values:List Expr) (trs:List (TE×TE)):Prop:=
 ∀ (pins:List (Addr×Obj)) (s:Shared) (σ:St) (H:Hp) (Q:List (V×V)→Hp→Prop),Inv X pins σ H s→vt trs σ H Q →
  wpAny (model X.prog X.w) X.A (evalPairs (pairTrees keys values X.env pos)) (fun vs s'=>∃ ps H',Inv X pins σ H' s'∧VV ps vs∧Q ps H') X.xe s
structure M1 (X:Cx) (o:Expr) (m:Str) (apos:Pos) (e:Expr) (cpos:Pos):Prop where
 base:attributeBase o m X.env (eval o X.env)=eval o X.env
 few:((backTo cpos (starEach [e] X.env)).all (fun x=>!x.1) && (backToKw cpos (keywordEach [] X.env)).all (fun x=>x.1.isSome)
  && decide (([e]:List Expr).length+([]:List Keyword).length+(if ([]:List Keyword).isEmpty then 0 else 1) < 30))=true
 line:(apos.endLine == cpos.line)=true
 trees:backTo cpos (starEach [e] X.env)=[(false,eval e X.env)]
structure M2 (X:Cx) (o:Expr) (m:Str) (apos:Pos) (e f:Expr) (cpos:Pos):Prop where
 base:attributeBase o m X.env (eval o X.env)=eval o X.env
 few:((backTo cpos (starEach [e,f] X.env)).all (fun x=>!x.1) && (backToKw cpos (keywordEach [] X.env)).all (fun x=>x.1.isSome)
  && decide (([e,f]:List Expr).length+([]:List Keyword).length+(if ([]:List Keyword).isEmpty then 0 else 1) < 30))=true
 line:(apos.endLine == cpos.line)=true
 trees:backTo cpos (starEach [e,f] X.env)=[(false,eval e X.env),(false,eval f X.env)]
inductive Vl where
 | d (x:D) | r (n:Nat) | fd (kvs:List (Key×D)) | fn (x:Str) | sc (ns:List Int) | pr (x:D) (n:Nat) | xc (c:Str) (xs:List (Str×D)) | kt (ws:List Str) | xl (es:List (Str×List (Str×D)))
inductive Ob where
 | lst (xs:List D) | dct (kvs:List (Key×D)) | dead
abbrev Sto:=List Ob
inductive R (α:Type) where
 | ok (a:α) (S:Sto) | ex (c:Str) (xs:List (Str×D)) (S:Sto) | bad
def R.bind {α β:Type} (x:R α) (f:α→Sto→R β):R β:=match x with
 | .ok a S=>f a S
 | .ex c xs S=>.ex c xs S
 | .bad=>.bad
abbrev Nv:=List (Option Vl)
abbrev XE:=Nv→Sto→R Vl
abbrev XT:=Nv→Sto→R Bool
abbrev XA:=Nv→Sto→R (List Vl)
abbrev XO:=Nv→Sto→R (Option Int)
inductive Fl where
 | nx | bk | ct | rt (v:Vl)
abbrev XS:=Nv→Sto→R (Fl×Nv)
abbrev XG:=Vl→Nv→Sto→R Nv
abbrev XGs:=List Vl→Nv→Sto→R Nv
abbrev XF:=List Vl→Sto→R Vl
structure Its where
 items:List Vl
 gd:Option (Nat×Ob)
def Its.ok (I:Its) (S:Sto):Prop:=match I.gd with
 | none=>True
 | some (n,o)=>S[n]?=some o
abbrev XI:=Nv→Sto→R Its
def Al (μ:Nat→Addr) (S:Sto) (b:Addr):Prop:=∃ n o,S[n]?=some o∧o≠.dead∧μ n=b
open Classical in
noncomputable def vh (μ:Nat→Addr) (S:Sto) (H:Hp):Hp:=fun b=>if Al μ S b then none else H b
section
variable {μ μ' μ1 μ2:Nat→Addr} {S S' S1 S2:Sto} {H H' H1 H2:Hp} {b:Addr} {o:HO}
theorem bT (h:H b=some o) (n:¬Al μ S b):vh μ S H b=some o:=by unfold vh;rw [if_neg n];exact h
theorem bq (h:vh μ S H b=some o):¬Al μ S b∧H b=some o:=by
 unfold vh at h
 split at h
 ·cases h
 ·exact ⟨‹_›,h⟩
theorem cz:c6 (vh μ S H) H:=fun _ _ h=>(bq h).2
def ObR (μ:Nat→Addr) (S:Sto) (H:Hp) (a:Addr):Ob→Prop
 | .lst ds=>∃ vs,H a=some (.lst vs)∧ax (vh μ S H) vs ds
 | .dct kvs=>∃ vs:List V,vs.length=kvs.length∧H a=some (.dK ((kvs.map (·.1)).zip vs))∧ax (vh μ S H) vs (kvs.map (·.2))
 | .dead=>True
structure HR (μ:Nat→Addr) (S:Sto) (H:Hp):Prop where
 ob:∀ n o,S[n]?=some o→ObR μ S H (μ n) o
 inj:∀ n m o o',S[n]?=some o→S[m]?=some o'→o≠.dead→o'≠.dead→μ n=μ m→n=m
theorem ObR.some (h:ObR μ S H a ob) (n:ob≠.dead):∃ o,H a=Option.some o:=by
 cases ob with
 | lst ds=>obtain ⟨vs,e,_⟩:=h;exact ⟨_,e⟩
 | dct kvs=>obtain ⟨vs,_,e,_⟩:=h;exact ⟨_,e⟩
 | dead=>exact absurd rfl n
theorem HR.al (h:HR μ S H) (a:Al μ S b):∃ o,H b=some o:=by
 obtain ⟨n,ob,e,nd,rfl⟩:=a
 exact (h.ob n ob e).some nd
theorem HR.nal (h:HR μ S H) (e:H b=none):¬Al μ S b:=fun a=>by
 obtain ⟨o,q⟩:=h.al a
 rw [e] at q;cases q
theorem ObR.mono (h:ObR μ S H a ob) (e:ob≠.dead→H' a=H a) (k:c6 (vh μ S H) (vh μ' S' H')):ObR μ' S' H' a ob:=by
 cases ob with
 | lst ds=>obtain ⟨vs,q,r⟩:=h;exact ⟨vs,by rw [e (by simp)];exact q,r.mono k⟩
 | dct kvs=>obtain ⟨vs,l,q,r⟩:=h;exact ⟨vs,l,by rw [e (by simp)];exact q,r.mono k⟩
 | dead=>exact True.intro
structure Step (μ:Nat→Addr) (S:Sto) (H:Hp) (μ':Nat→Addr) (S':Sto) (H':Hp):Prop where
 ag:∀ n,n < S.length→μ' n=μ n
 le:S.length≤S'.length
 hr:HR μ' S' H'
 dd:∀ n:Nat,S[n]?=some Ob.dead→S'[n]?=some Ob.dead
 nw:∀ n o,S.length≤n→S'[n]?=some o→o≠.dead→H (μ' n)=none
 ko:∀ b o,H b=some o→¬Al μ S b→H' b=some o
 dm:∀ b o,H b=some o→∃ o',H' b=some o'
theorem Step.refl (h:HR μ S H):Step μ S H μ S H:=
 ⟨fun _ _=>rfl,Nat.le_refl _,h,fun _ e=>e,fun n o l e _=>(by rw [List.getElem?_eq_none l] at e;cases e),fun _ _ e _=>e,fun _ o e=>⟨o,e⟩⟩
theorem Step.nal (a:Step μ S H μ' S' H') (h:H b=some o) (n:¬Al μ S b):¬Al μ' S' b:=by
 rintro ⟨k,ob,e,nd,rfl⟩
 by_cases hk:k < S.length
 ·have e0:S[k]?=some S[k]:=List.getElem?_eq_getElem hk
  by_cases hd:S[k]=.dead
  ·rw [hd] at e0
   rw [a.dd k e0] at e
   cases e
   exact nd rfl
  ·exact n ⟨k,_,e0,hd,(a.ag k hk).symm⟩
 ·rw [a.nw k ob (by omega) e nd] at h
  cases h
theorem Step.vis (a:Step μ S H μ' S' H'):c6 (vh μ S H) (vh μ' S' H'):=fun b o h=>by
 obtain ⟨n,h⟩:=bq h
 exact bT (a.ko b o h n) (a.nal h n)
theorem Step.trans (a:Step μ S H μ1 S1 H1) (b:Step μ1 S1 H1 μ2 S2 H2):Step μ S H μ2 S2 H2 where
 ag:=fun n h=>(b.ag n (Nat.lt_of_lt_of_le h a.le)).trans (a.ag n h)
 le:=Nat.le_trans a.le b.le
 hr:=b.hr
 dd:=fun n e=>b.dd n (a.dd n e)
 nw:=fun n o l e nd=>by
  by_cases hn:n < S1.length
  ·rw [b.ag n hn]
   refine a.nw n S1[n] l (List.getElem?_eq_getElem hn) fun z=>?_
   have e0:S1[n]?=some S1[n]:=List.getElem?_eq_getElem hn
   rw [z] at e0
   rw [b.dd n e0] at e
   cases e
   exact nd rfl
  ·have q:=b.nw n o (by omega) e nd
   cases e2:H (μ2 n) with
   | none=>rfl
   | some u=>
    obtain ⟨u',e3⟩:=a.dm _ _ e2
    rw [q] at e3;cases e3
 ko:=fun c o h n=>b.ko c o (a.ko c o h n) (a.nal h n)
 dm:=fun c o h=>by
  obtain ⟨o1,e1⟩:=a.dm c o h
  exact b.dm c o1 e1
theorem Step.new (h:HR μ S H) (hp:H p=none) (o:HO):Step μ S H μ S (upd H p o):=by
 have k:c6 (vh μ S H) (vh μ S (upd H p o)):=fun b u q=>by
  obtain ⟨n,q⟩:=bq q
  exact bT (by rw [aT (bu q hp)];exact q) n
 refine ⟨fun _ _=>rfl,Nat.le_refl _,⟨fun n ob e=>?_,h.inj⟩,fun _ e=>e,fun n ob l e _=>(by rw [List.getElem?_eq_none l] at e;cases e),fun b u q _=>by rw [aT (bu q hp)];exact q,fun b u q=>⟨u,by rw [aT (bu q hp)];exact q⟩⟩
 refine (h.ob n ob e).mono (fun nd=>?_) k
 obtain ⟨u,q⟩:=(h.ob n ob e).some nd
 exact aT (bu q hp)
def ext (μ:Nat→Addr) (k:Nat) (p:Addr):Nat→Addr:=fun n=>if n=k then p else μ n
theorem dn:ext μ k p k=p:=by unfold ext;rw [if_pos rfl]
theorem kO (h:n≠k):ext μ k p n=μ n:=by unfold ext;rw [if_neg h]
def ObL (G:Hp):Ob→HO→Prop
 | .lst ds,o=>∃ vs,o=.lst vs∧ax G vs ds
 | .dct kvs,o=>∃ vs:List V,vs.length=kvs.length∧o=.dK ((kvs.map (·.1)).zip vs)∧ax G vs (kvs.map (·.2))
 | .dead,_=>False
theorem ObL.ne (h:ObL G ob o):ob≠.dead:=by
 rintro rfl
 exact h
theorem ObL.at (h:ObL G ob o) (e:H a=some o) (k:c6 G (vh μ S H)):ObR μ S H a ob:=by
 cases ob with
 | lst ds=>obtain ⟨vs,rfl,r⟩:=h;exact ⟨vs,e,r.mono k⟩
 | dct kvs=>obtain ⟨vs,l,rfl,r⟩:=h;exact ⟨vs,l,e,r.mono k⟩
 | dead=>exact h.elim
theorem Step.alloc (h:HR μ S H) (hp:H p=none) (hl:ObL (vh μ S H) ob o):Step μ S H (ext μ S.length p) (S++[ob]) (upd H p o):=by
 have nd:=hl.ne
 have old:∀ n u,n < S.length→(S++[ob])[n]?=some u→S[n]?=some u∧ext μ S.length p n=μ n:=fun n u hn e=>by
  rw [List.getElem?_append_left hn] at e
  exact ⟨e,kO (Nat.ne_of_lt hn)⟩
 have new:∀ n u,S.length≤n→(S++[ob])[n]?=some u→n=S.length∧u=ob:=fun n u hn e=>by
  rw [List.getElem?_append_right hn] at e
  have hz:n - S.length=0:=by
   refine Nat.eq_zero_of_not_pos fun z=>?_
   rw [List.getElem?_eq_none (by simp;omega)] at e;cases e
  rw [hz] at e
  exact ⟨by omega,by simpa using e.symm⟩
 have nal:∀ {b u},H b=some u→¬Al μ S b→¬Al (ext μ S.length p) (S++[ob]) b:=by
  rintro b u q n ⟨k,v,e,d,rfl⟩
  by_cases hk:k < S.length
  ·obtain ⟨e1,e2⟩:=old k v hk e
   exact n ⟨k,v,e1,d,e2.symm⟩
  ·obtain ⟨rfl,rfl⟩:=new k v (by omega) e
   rw [dn,hp] at q;cases q
 have k:c6 (vh μ S H) (vh (ext μ S.length p) (S++[ob]) (upd H p o)):=fun b u q=>by
  obtain ⟨n,q⟩:=bq q
  exact bT (by rw [aT (bu q hp)];exact q) (nal q n)
 refine ⟨fun n hn=>kO (Nat.ne_of_lt hn),by simp,⟨fun n u e=>?_,fun n m u v e1 e2 d1 d2 q=>?_⟩,fun n e=>?_,fun n u l e _=>?_,fun b u q _=>by rw [aT (bu q hp)];exact q,fun b u q=>⟨u,by rw [aT (bu q hp)];exact q⟩⟩
 ·by_cases hn:n < S.length
  ·obtain ⟨e1,e2⟩:=old n u hn e
   rw [e2]
   refine (h.ob n u e1).mono (fun nd=>?_) k
   obtain ⟨x,q⟩:=(h.ob n u e1).some nd
   exact aT (bu q hp)
  ·obtain ⟨rfl,rfl⟩:=new n u (by omega) e
   rw [dn]
   exact hl.at b_ k
 ·by_cases hn:n < S.length
  ·obtain ⟨a1,a2⟩:=old n u hn e1
   obtain ⟨x,qx⟩:=(h.ob n u a1).some d1
   by_cases hm:m < S.length
   ·obtain ⟨b1,b2⟩:=old m v hm e2
    rw [a2,b2] at q
    exact h.inj n m u v a1 b1 d1 d2 q
   ·obtain ⟨rfl,rfl⟩:=new m v (by omega) e2
    rw [a2,dn] at q
    rw [q,hp] at qx;cases qx
  ·obtain ⟨rfl,rfl⟩:=new n u (by omega) e1
   by_cases hm:m < S.length
   ·obtain ⟨b1,b2⟩:=old m v hm e2
    obtain ⟨x,qx⟩:=(h.ob m v b1).some d2
    rw [b2,dn] at q
    rw [← q,hp] at qx;cases qx
   ·exact (new m v (by omega) e2).1.symm
 ·have hn:n < S.length:=by
   refine Nat.lt_of_not_le fun z=>?_
   rw [List.getElem?_eq_none z] at e;cases e
  rw [List.getElem?_append_left hn];exact e
 ·obtain ⟨rfl,rfl⟩:=new n u l e
  rw [dn];exact hp
theorem fi (hn:n < S.length) (e:(S.set n ob)[m]?=some u):(m=n∧u=ob)∨(m≠n∧S[m]?=some u):=by
 rw [List.getElem?_set] at e
 by_cases q:n=m
 ·subst q
  rw [if_pos rfl,if_pos hn] at e
  exact .inl ⟨rfl,(Option.some.inj e).symm⟩
 ·rw [if_neg q] at e
  exact .inr ⟨fun z=>q z.symm,e⟩
theorem Step.put (h:HR μ S H) (e0:S[n]?=some ob0) (d0:ob0≠.dead) (hl:ObL (vh μ S H) ob o):Step μ S H μ (S.set n ob) (upd H (μ n) o):=by
 have nd:=hl.ne
 have hn:n < S.length:=(List.getElem?_eq_some_iff.mp e0).1
 have al0:Al μ S (μ n):=⟨n,ob0,e0,d0,rfl⟩
 have al:∀ {b},Al μ (S.set n ob) b→Al μ S b:=by
  rintro b ⟨m,u,e,d,rfl⟩
  rcases fi hn e with ⟨rfl,rfl⟩ | ⟨z,q⟩
  ·exact al0
  ·exact ⟨m,u,q,d,rfl⟩
 have k:c6 (vh μ S H) (vh μ (S.set n ob) (upd H (μ n) o)):=fun b u q=>by
  obtain ⟨z,q⟩:=bq q
  exact bT (by rw [aT (fun c=>z (by rw [c];exact al0))];exact q) fun c=>z (al c)
 refine ⟨fun _ _=>rfl,by rw [List.length_set];exact Nat.le_refl _,⟨fun m u e=>?_,fun m m' u v e1 e2 d1 d2 q=>?_⟩,fun m e=>?_,fun m u l e _=>?_,fun b u q z=>by rw [aT (fun c=>z (by rw [c];exact al0))];exact q,fun b u q=>?_⟩
 ·rcases fi hn e with ⟨rfl,rfl⟩ | ⟨z,q⟩
  ·exact hl.at b_ k
  ·refine (h.ob m u q).mono (fun d=>aT fun c=>z (h.inj m n u ob0 q e0 d d0 c)) k
 ·have a1:∃ w,S[m]?=some w∧w≠.dead:=by
   rcases fi hn e1 with ⟨rfl,rfl⟩ | ⟨z,q⟩
   ·exact ⟨ob0,e0,d0⟩
   ·exact ⟨u,q,d1⟩
  have a2:∃ w,S[m']?=some w∧w≠.dead:=by
   rcases fi hn e2 with ⟨rfl,rfl⟩ | ⟨z,q⟩
   ·exact ⟨ob0,e0,d0⟩
   ·exact ⟨v,q,d2⟩
  obtain ⟨w1,x1,y1⟩:=a1
  obtain ⟨w2,x2,y2⟩:=a2
  exact h.inj m m' w1 w2 x1 x2 y1 y2 q
 ·rw [List.getElem?_set_ne]
  ·exact e
  ·rintro rfl
   rw [e0] at e;cases e;exact d0 rfl
 ·rw [List.getElem?_eq_none (by rw [List.length_set];exact l)] at e;cases e
 ·by_cases z:b=μ n
  ·subst z;exact ⟨o,b_⟩
  ·exact ⟨u,by rw [aT z];exact q⟩
theorem Step.freeze (h:HR μ S H) (e0:S[n]?=some ob) (d0:ob≠.dead):Step μ S H μ (S.set n .dead) H∧¬Al μ (S.set n .dead) (μ n):=by
 have hn:n < S.length:=(List.getElem?_eq_some_iff.mp e0).1
 have al:∀ {b},Al μ (S.set n .dead) b→Al μ S b:=by
  rintro b ⟨m,u,e,d,rfl⟩
  rcases fi hn e with ⟨rfl,rfl⟩ | ⟨z,q⟩
  ·exact absurd rfl d
  ·exact ⟨m,u,q,d,rfl⟩
 have k:c6 (vh μ S H) (vh μ (S.set n .dead) H):=fun b u q=>by
  obtain ⟨z,q⟩:=bq q
  exact bT q fun c=>z (al c)
 have inn:∀ m u,(S.set n .dead)[m]?=some u→u≠.dead→S[m]?=some u∧m≠n:=fun m u e d=>by
  rcases fi hn e with ⟨rfl,rfl⟩ | ⟨z,q⟩
  ·exact absurd rfl d
  ·exact ⟨q,z⟩
 refine ⟨⟨fun _ _=>rfl,by rw [List.length_set];exact Nat.le_refl _,⟨fun m u e=>?_,fun m m' u v e1 e2 d1 d2 q=>h.inj m m' u v (inn m u e1 d1).1 (inn m' v e2 d2).1 d1 d2 q⟩,fun m e=>?_,fun m u l e _=>?_,fun b u q z=>q,fun b u q=>⟨u,q⟩⟩,?_⟩
 ·by_cases d:u=.dead
  ·subst d;exact True.intro
  ·exact (h.ob m u (inn m u e d).1).mono (fun _=>rfl) k
 ·by_cases z:m=n
  ·subst z;rw [List.getElem?_set,if_pos rfl,if_pos hn]
  ·rw [List.getElem?_set_ne (fun c=>z c.symm)];exact e
 ·rw [List.getElem?_eq_none (by rw [List.length_set];exact l)] at e;cases e
 ·rintro ⟨m,u,e,d,q⟩
  obtain ⟨e1,z⟩:=inn m u e d
  exact z (h.inj m n u ob e1 e0 d d0 q)
theorem Step.wF (h:HR μ S H) (o':HO) (e0:S[n]?=some ob) (d0:ob≠.dead):Step μ S H μ (S.set n .dead) (upd H (μ n) o')∧¬Al μ (S.set n .dead) (μ n):=by
 have hn:n < S.length:=(List.getElem?_eq_some_iff.mp e0).1
 have al0:Al μ S (μ n):=⟨n,ob,e0,d0,rfl⟩
 obtain ⟨st,na⟩:=Step.freeze h e0 d0
 have k:c6 (vh μ S H) (vh μ (S.set n .dead) (upd H (μ n) o')):=fun b u q=>by
  obtain ⟨z,q'⟩:=bq q
  exact bT (by rw [aT (fun c=>z (by rw [c];exact al0))];exact q') (bq (st.vis b u q)).1
 refine ⟨⟨st.ag,st.le,⟨fun m u e=>?_,st.hr.inj⟩,st.dd,fun m u l e d=>st.nw m u l e d,fun b u q z=>by rw [aT (fun c=>z (by rw [c];exact al0))];exact q,fun b u q=>?_⟩,na⟩
 ·rcases fi hn e with ⟨rfl,rfl⟩ | ⟨z,q⟩
  ·exact True.intro
  ·by_cases d:u=.dead
   ·subst d;exact True.intro
   ·exact (h.ob m u q).mono (fun _=>aT fun c=>z (h.inj m n u ob q e0 d d0 c)) k
 ·by_cases z:b=μ n
  ·subst z;exact ⟨o',b_⟩
  ·exact ⟨u,by rw [aT z];exact q⟩
theorem dj (e:(S.take k)[n]?=some u):n < k∧S[n]?=some u:=by
 rw [List.getElem?_take] at e
 split at e
 ·exact ⟨‹_›,e⟩
 ·cases e
theorem Step.take (a:Step μ S H μ' S' H'):Step μ S H μ' (S'.take S.length) H':=by
 have al:∀ {b},Al μ' (S'.take S.length) b→Al μ' S' b:=by
  rintro b ⟨m,u,e,d,rfl⟩
  exact ⟨m,u,(dj e).2,d,rfl⟩
 have k:c6 (vh μ' S' H') (vh μ' (S'.take S.length) H'):=fun b u q=>by
  obtain ⟨z,q⟩:=bq q
  exact bT q fun c=>z (al c)
 refine ⟨a.ag,by rw [List.length_take];have:=a.le;omega,⟨fun m u e=>(a.hr.ob m u (dj e).2).mono (fun _=>rfl) k,fun m m' u v e1 e2=>a.hr.inj m m' u v (dj e1).2 (dj e2).2⟩,fun n e=>?_,fun n u l e _=>?_,a.ko,a.dm⟩
 ·have hn:n < S.length:=(List.getElem?_eq_some_iff.mp e).1
  rw [List.getElem?_take,if_pos hn]
  exact a.dd n e
 ·have:=(dj e).1
  omega
theorem Step.move (a:Step μ S H μ' S' H') (hn:S.length≤n) (e0:S'[n]?=some ob) (d0:ob≠.dead):Step μ S H (ext μ' S.length (μ' n)) (S'.take S.length++[ob]) H':=by
 have lt:(S'.take S.length).length=S.length:=by rw [List.length_take];have:=a.le;omega
 have get:∀ m u,(S'.take S.length++[ob])[m]?=some u→∃ j,S'[j]?=some u∧ext μ' S.length (μ' n) m=μ' j∧((m < S.length∧j=m)∨(m=S.length∧j=n)):=fun m u e=>by
  by_cases hm:m < S.length
  ·rw [List.getElem?_append_left (by omega)] at e
   exact ⟨m,(dj e).2,kO (Nat.ne_of_lt hm),.inl ⟨hm,rfl⟩⟩
  ·rw [List.getElem?_append_right (by omega)] at e
   have hz:m - (S'.take S.length).length=0:=by
    refine Nat.eq_zero_of_not_pos fun z=>?_
    rw [List.getElem?_eq_none (by simp;omega)] at e;cases e
   rw [hz] at e
   have hm':m=S.length:=by omega
   subst hm'
   obtain rfl:ob=u:=by simpa using e
   exact ⟨n,e0,dn,.inr ⟨rfl,rfl⟩⟩
 have al:∀ {b},Al (ext μ' S.length (μ' n)) (S'.take S.length++[ob]) b→Al μ' S' b:=by
  rintro b ⟨m,u,e,d,rfl⟩
  obtain ⟨j,q,z,_⟩:=get m u e
  exact ⟨j,u,q,d,z.symm⟩
 have k:c6 (vh μ' S' H') (vh (ext μ' S.length (μ' n)) (S'.take S.length++[ob]) H'):=fun b u q=>by
  obtain ⟨z,q⟩:=bq q
  exact bT q fun c=>z (al c)
 refine ⟨fun m hm=>(kO (Nat.ne_of_lt hm)).trans (a.ag m hm),by rw [List.length_append,lt];simp,⟨fun m u e=>?_,fun m m' u v e1 e2 d1 d2 q=>?_⟩,fun m e=>?_,fun m u l e d=>?_,a.ko,a.dm⟩
 ·obtain ⟨j,q,z,_⟩:=get m u e
  rw [z]
  exact (a.hr.ob j u q).mono (fun _=>rfl) k
 ·obtain ⟨j,q1,z1,w1⟩:=get m u e1
  obtain ⟨j',q2,z2,w2⟩:=get m' v e2
  rw [z1,z2] at q
  have:=a.hr.inj j j' u v q1 q2 d1 d2 q
  omega
 ·have hm:m < S.length:=(List.getElem?_eq_some_iff.mp e).1
  rw [List.getElem?_append_left (by omega),List.getElem?_take,if_pos hm]
  exact a.dd m e
 ·obtain ⟨j,q,z,w⟩:=get m u e
  rw [z]
  have hj:S.length≤j:=by omega
  exact a.nw j u hj q d
end
section
variable (K:PySem.W.Frag) (mg:Str→Option Value)
def jz (K:PySem.W.Frag) (a:Addr) (ws:List Str):Prop:=∃ (o:Obj) (its:Array Value) (n:Nat),K.lookup a=some o∧o.cls=.type "tuple"∧o.data=.seq its n∧its.size≤sizeLine∧Vals (ws.map V.str) its.toList
def excAt (a C:Addr) (od:Option Addr) (h:Heap):Prop:=∃ o,h.get? a=some o∧o.cls=.ref C∧(∀ d,od=some d→o.dict=some d)∧∃ vs,o.data=.fields vs
def qw (G:Hp) (a C:Addr) (xs:List (Str×D)):Prop:=∃ od,G a=some (.ext (excAt a C od))∧(xs≠[]→∃ (dx:Addr) (vs:List V),od=some dx∧vs.length=xs.length∧G dx=some (.xd ((xs.map (·.1)).zip vs))∧ax G vs (xs.map (·.2)))
theorem qw.mono (k:c6 G G') (h:qw G a C xs):qw G' a C xs:=by
 obtain ⟨od,e,h⟩:=h
 refine ⟨od,k _ _ e,fun n=>?_⟩
 obtain ⟨dx,vs,q1,q2,q3,q4⟩:=h n
 exact ⟨dx,vs,q1,q2,k _ _ q3,q4.mono k⟩
inductive kr (G:Hp):List V→List (Str×List (Str×D))→Prop
 | nil:kr G [] []
 | cons {a C:Addr} {c:Str} {xs:List (Str×D)} {vs:List V} {es:List (Str×List (Str×D))}:mg c=some (.ref C)→qw G a C xs→kr G vs es→kr G (.ref a :: vs) ((c,xs) :: es)
def aZ (μ:Nat→Addr) (S:Sto) (H:Hp) (v:V):Vl→Prop
 | .d x=>Rep (vh μ S H) v x
 | .r n=>v=.ref (μ n)∧n < S.length
 | .fd kvs=>∃ (a:Addr) (vs:List V) (o:Obj),v=.ref a∧vs.length=kvs.length∧vh μ S H a=some (.frz o (.dK ((kvs.map (·.1)).zip vs)))∧ax (vh μ S H) vs (kvs.map (·.2))
 | .fn x=>∃ f:Addr,mg x=some (.ref f)∧v=.ref f
 | .sc ns=>∃ l:Addr,v=.ref l∧SqL K (vh μ S H) l (ns.map V.int)
 | .pr x n=>∃ (a:Addr) (u:V),v=.ref a∧vh μ S H a=some (.tup [u,.ref (μ n)])∧Rep (vh μ S H) u x∧n < S.length
 | .xc c xs=>∃ (a C:Addr),v=.ref a∧mg c=some (.ref C)∧qw (vh μ S H) a C xs
 | .kt ws=>∃ a:Addr,v=.ref a∧jz K a ws
 | .xl es=>∃ (l:Addr) (vs:List V),v=.ref l∧vh μ S H l=some (.lst vs)∧kr mg (vh μ S H) vs es
inductive bE (μ:Nat→Addr) (S:Sto) (H:Hp):List V→List Vl→Prop
 | nil:bE μ S H [] []
 | cons {v:V} {x:Vl} {vs:List V} {xs:List Vl}:aZ K mg μ S H v x→bE μ S H vs xs→bE μ S H (v :: vs) (x :: xs)
structure cc (μ:Nat→Addr) (S:Sto) (H:Hp) (σ:St) (τ:Nv):Prop where
 len:σ.length=τ.length
 get:∀ (i:Nat) (x:Vl),τ[i]?=some (some x)→∃ v,σ[i]?=some (some v)∧aZ K mg μ S H v x
end
section
variable {K:PySem.W.Frag} {mg:Str→Option Value} {μ μ':Nat→Addr} {S S':Sto} {H H':Hp}
theorem SqL.mono (k:c6 H H') (h:SqL K H l xs):SqL K H' l xs:=by
 rcases h with (h | ⟨o,h⟩) | h
 ·exact .inl (.inl (k _ _ h))
 ·exact .inl (.inr ⟨o,k _ _ h⟩)
 ·exact .inr h
theorem kr.mono (k:c6 H H'):∀ {vs es},kr mg H vs es→kr mg H' vs es
 | _,_,.nil=>.nil
 | _,_,.cons a b c=>.cons a (b.mono k) (kr.mono k c)
theorem aZ.step (a:Step μ S H μ' S' H') (h:aZ K mg μ S H v x):aZ K mg μ' S' H' v x:=by
 cases x with
 | d x=>exact Rep.mono a.vis h
 | r n=>obtain ⟨rfl,hn⟩:=h;exact ⟨by rw [a.ag n hn],Nat.lt_of_lt_of_le hn a.le⟩
 | fd kvs=>obtain ⟨p,vs,o,e,l,q,r⟩:=h;exact ⟨p,vs,o,e,l,a.vis _ _ q,r.mono a.vis⟩
 | pr x n=>obtain ⟨p,u,e,q,r,hn⟩:=h;exact ⟨p,u,e,by rw [a.ag n hn];exact a.vis _ _ q,Rep.mono a.vis r,Nat.lt_of_lt_of_le hn a.le⟩
 | fn x=>exact h
 | sc ns=>obtain ⟨l,e,q⟩:=h;exact ⟨l,e,q.mono a.vis⟩
 | xc c xs=>obtain ⟨p,C,e,m,q⟩:=h;exact ⟨p,C,e,m,q.mono a.vis⟩
 | kt ws=>exact h
 | xl es=>obtain ⟨l,vs,e,q,r⟩:=h;exact ⟨l,vs,e,a.vis _ _ q,r.mono a.vis⟩
theorem bE.step (a:Step μ S H μ' S' H'):∀ {vs:List V} {xs:List Vl},bE K mg μ S H vs xs→bE K mg μ' S' H' vs xs
 | _,_,.nil=>.nil
 | _,_,.cons r t=>.cons (r.step a) (bE.step a t)
theorem bE.length:∀ {vs:List V} {xs:List Vl},bE K mg μ S H vs xs→vs.length=xs.length
 | _,_,.nil=>rfl
 | _,_,.cons _ t=>by simp [bE.length t]
theorem bE.get:∀ {vs:List V} {xs:List Vl} {i:Nat} {x:Vl},bE K mg μ S H vs xs→xs[i]?=some x→∃ v,vs[i]?=some v∧aZ K mg μ S H v x
 | _,_,_,_,.nil,e=>by simp at e
 | _,_,0,_,.cons r _,e=>by simp at e;subst e;exact ⟨_,rfl,r⟩
 | _,_,i+1,x,.cons _ t,e=>by
  obtain ⟨d,h1,h2⟩:=bE.get (i:=i) (x:=x) t (by simpa using e)
  exact ⟨d,by simpa using h1,h2⟩
theorem bE.rN:∀ {vs:List V} {ds:List D},ax (vh μ S H) vs ds→bE K mg μ S H vs (ds.map Vl.d)
 | _,_,.nil=>.nil
 | _,_,.cons r t=>.cons (show aZ K mg μ S H _ (.d _) from r) (bE.rN t)
theorem cc.step (a:Step μ S H μ' S' H') (h:cc K mg μ S H σ τ):cc K mg μ' S' H' σ τ:=
 ⟨h.len,fun i x e=>by obtain ⟨v,e1,r⟩:=h.get i x e;exact ⟨v,e1,r.step a⟩⟩
theorem cc.set (i:Nat) (h:cc K mg μ S H σ τ) (r:aZ K mg μ S H v x):cc K mg μ S H (σ.set i (some v)) (τ.set i (some x)):=by
 refine ⟨by rw [List.length_set,List.length_set];exact h.len,fun j y e=>?_⟩
 rw [List.getElem?_set] at e ⊢
 by_cases q:i=j
 ·subst q
  rw [if_pos rfl] at e ⊢
  by_cases hl:i < τ.length
  ·rw [if_pos hl] at e
   cases e
   exact ⟨v,by rw [if_pos (by rw [h.len];exact hl)],r⟩
  ·rw [if_neg hl] at e;cases e
 ·rw [if_neg q] at e ⊢
  exact h.get j y e
theorem cc.pre (k:Nat) (h:cc K mg μ S H σ τ):cc K mg μ S H (List.replicate k none++σ) (List.replicate k none++τ):=by
 refine ⟨by simp [h.len],fun i x e=>?_⟩
 by_cases hi:i < k
 ·rw [List.getElem?_append_left (by simpa using hi),List.getElem?_replicate,if_pos hi] at e
  cases e
 ·rw [List.getElem?_append_right (by simpa using hi)] at e ⊢
  simpa using h.get (i - k) x (by simpa using e)
theorem cc.beg (h:bE K mg μ S H vs us):cc K mg μ S H (L2.start N vs) (us.map some++List.replicate (N.length - us.length) none):=by
 have l:=h.length
 refine ⟨by simp [L2.start,l],fun i x e=>?_⟩
 unfold L2.start
 by_cases hi:i < us.length
 ·rw [List.getElem?_append_left (by simpa using hi),List.getElem?_map] at e
  cases q:us[i]? with
  | none=>rw [q] at e;cases e
  | some y=>
   rw [q] at e
   cases e
   obtain ⟨v,e1,r⟩:=h.get q
   exact ⟨v,by rw [List.getElem?_append_left (by simp;omega),List.getElem?_map,e1];rfl,r⟩
 ·rw [List.getElem?_append_right (by simpa using hi),List.getElem?_replicate] at e
  split at e<;>cases e
end
abbrev WX:=Str→List (Str×D)→Sto→(Nat→Addr)→Hp→Prop
abbrev W0:WX:=fun _ _ _ _ _=>False
def aX {α β:Type} (Rl:(Nat→Addr)→Sto→Hp→β→α→Prop) (WE:WX) (μ:Nat→Addr) (S:Sto) (H:Hp) (res:R α) (Q:β→Hp→Prop):Prop:=match res with
 | .ok a S'=>∀ b μ' H',Step μ S H μ' S' H'→Rl μ' S' H' b a→Q b H'
 | .ex c xs S'=>∀ μ' H',Step μ S H μ' S' H'→WE c xs S' μ' H'
 | .bad=>False
section
variable {α β γ δ:Type} {Rl:(Nat→Addr)→Sto→Hp→β→α→Prop} {Rl2:(Nat→Addr)→Sto→Hp→δ→γ→Prop} {WE:WX} {μ μ1:Nat→Addr} {S S1:Sto} {H H1:Hp} {res:R α} {Q:β→Hp→Prop} {Q2:δ→Hp→Prop}
theorem aX.shift (h:aX Rl WE μ S H res Q) (a:Step μ S H μ1 S1 H1):aX Rl WE μ1 S1 H1 res Q:=by
 cases res with
 | ok x S'=>exact fun b μ' H' st r=>h b μ' H' (a.trans st) r
 | ex c xs S'=>exact fun μ' H' st=>h μ' H' (a.trans st)
 | bad=>exact h
theorem aX.bind (h:aX Rl2 WE μ S H (res.bind f) Q2) (k:∀ b a S1 μ1 H1,Step μ S H μ1 S1 H1→Rl μ1 S1 H1 b a→aX Rl2 WE μ1 S1 H1 (f a S1) Q2→Q b H1):aX Rl WE μ S H res Q:=by
 cases res with
 | ok x S'=>exact fun b μ' H' st r=>k b x S' μ' H' st r (aX.shift (show aX Rl2 WE μ S H (f x S') Q2 from h) st)
 | ex c xs S'=>exact h
 | bad=>exact h
theorem aX.here (hr:HR μ S H) (h:aX Rl WE μ S H (.ok a S) Q) (r:Rl μ S H b a):Q b H:=h b μ H (Step.refl hr) r
end
inductive FlV where
 | nx | bk | ct | rt (v:V)
def Ends.at (D:Ends) (p:FlV×St) (H:Hp):Prop:=match p.1 with
 | .nx=>D.nx p.2 H
 | .bk=>D.bk p.2 H
 | .ct=>D.ct p.2 H
 | .rt v=>D.rt v H
section
variable (K:PySem.W.Frag) (mg:Str→Option Value)
def FlR (μ:Nat→Addr) (S:Sto) (H:Hp):FlV→Fl→Prop
 | .nx,.nx=>True
 | .bk,.bk=>True
 | .ct,.ct=>True
 | .rt v,.rt z=>aZ K mg μ S H v z
 | _,_=>False
def RlS (μ:Nat→Addr) (S:Sto) (H:Hp) (p:FlV×St) (q:Fl×Nv):Prop:=cc K mg μ S H p.2 q.2∧FlR K mg μ S H p.1 q.1
abbrev RlQ {α:Type} (_:Nat→Addr) (_:Sto) (_:Hp) (b a:α):Prop:=b=a
structure e9 (μ:Nat→Addr) (S:Sto) (H:Hp) (J:It) (I:Its):Prop where
 ok:I.ok S
 len:I.items.length≤sizeLine
 go:∀ i z μ' S' H',Step μ S H μ' S' H'→I.ok S'→I.items[i]?=some z→J.go i H'
 yld:∀ i z μ' S' H' x H2,Step μ S H μ' S' H'→I.ok S'→I.items[i]?=some z→J.yld i H' x H2→Step μ' S' H' μ' S' H2∧aZ K mg μ' S' H2 x z
 stop:∀ i μ' S' H',Step μ S H μ' S' H'→I.ok S'→I.items.length=i→J.stop i H'
def trE (WE:WX) (m:XE):TE:=fun σ H Q=>∃ μ S τ,HR μ S H∧cc K mg μ S H σ τ∧aX (aZ K mg) WE μ S H (m τ S) Q
def trT (WE:WX) (m:XT):TT:=fun σ H Q=>∃ μ S τ,HR μ S H∧cc K mg μ S H σ τ∧aX RlQ WE μ S H (m τ S) Q
def trA (WE:WX) (m:XA):TA:=fun σ H Q=>∃ μ S τ,HR μ S H∧cc K mg μ S H σ τ∧aX (bE K mg) WE μ S H (m τ S) Q
def trO (WE:WX) (m:XO):TO:=fun σ H Q=>∃ μ S τ,HR μ S H∧cc K mg μ S H σ τ∧aX RlQ WE μ S H (m τ S) Q
def trS (WE:WX) (m:XS):TS:=fun D σ H=>∃ μ S τ,HR μ S H∧cc K mg μ S H σ τ∧aX (RlS K mg) WE μ S H (m τ S) D.at
def trG (WE:WX) (g:XG):TG:=fun v σ H Q=>∃ μ S τ z,HR μ S H∧cc K mg μ S H σ τ∧aZ K mg μ S H v z∧aX (cc K mg) WE μ S H (g z τ S) Q
def FT (WE:WX) (g:XGs):TGs:=fun vs σ H Q=>∃ μ S τ zs,HR μ S H∧cc K mg μ S H σ τ∧bE K mg μ S H vs zs∧aX (cc K mg) WE μ S H (g zs τ S) Q
def trI (WE:WX) (it:XI):TI:=fun σ H Rr=>∃ μ S τ,HR μ S H∧cc K mg μ S H σ τ∧aX (e9 K mg) WE μ S H (it τ S) Rr
end
structure RE (X:Cx) (WE:WX) (e:Expr) (m:XE):Prop where
 h:PE X e (trE X.K X.mg WE m)
structure RT (X:Cx) (WE:WX) (e:Expr) (m:XT):Prop where
 h:PT X e (trT X.K X.mg WE m)
structure RW (X:Cx) (WE:WX) (e:Expr) (m:XT):Prop where
 h:PW X e (trT X.K X.mg WE m)
structure RA (X:Cx) (WE:WX) (es:List Expr) (m:XA):Prop where
 h:PA X es (trA X.K X.mg WE m)
structure RO (X:Cx) (WE:WX) (e:Option Expr) (m:XO):Prop where
 h:PO X e (trO X.K X.mg WE m)
structure RS (X:Cx) (WE:WX) (s:Stmt) (m:XS):Prop where
 h:PS X s (trS X.K X.mg WE m)
structure RB (X:Cx) (WE:WX) (s:List Stmt) (m:XS):Prop where
 h:PSs X s (trS X.K X.mg WE m)
structure RG (X:Cx) (WE:WX) (t:Expr) (g:XG):Prop where
 h:PG X t (trG X.K X.mg WE g)
structure RGs (X:Cx) (WE:WX) (ts:List Expr) (g:XGs):Prop where
 h:PGs X ts (FT X.K X.mg WE g)
structure RI (X:Cx) (WE:WX) (tg iter:Expr) (it:XI):Prop where
 h:PI X tg iter (trI X.K X.mg WE it)
structure RTs (X:Cx) (WE:WX) (ifs:List Expr) (m:XT):Prop where
 h:PTs X ifs (trT X.K X.mg WE m)
section
variable {X:Cx}
theorem PE.weak (h:PE X e t) (k:∀ σ H Q,t' σ H Q→t σ H Q):PE X e t':=fun pins s σ H Q I q=>h pins s σ H Q I (k σ H Q q)
theorem PT.weak (h:PT X e t) (k:∀ σ H Q,t' σ H Q→t σ H Q):PT X e t':=fun pins s σ H Q I q=>h pins s σ H Q I (k σ H Q q)
theorem PW.weak (h:PW X e t) (k:∀ σ H Q,t' σ H Q→t σ H Q):PW X e t':=fun wh pins s σ H Q I q=>h wh pins s σ H Q I (k σ H Q q)
theorem PA.weak (h:PA X e t) (k:∀ σ H Q,t' σ H Q→t σ H Q):PA X e t':=fun po pins s σ H Q I q=>h po pins s σ H Q I (k σ H Q q)
theorem PS.weak (h:PS X e t) (k:∀ D σ H,t' D σ H→t D σ H):PS X e t':=fun pins s σ H D I q=>h pins s σ H D I (k D σ H q)
theorem PSs.weak (h:PSs X e t) (k:∀ D σ H,t' D σ H→t D σ H):PSs X e t':=fun pins s σ H D I q=>h pins s σ H D I (k D σ H q)
theorem PG.weak (h:PG X e t) (k:∀ v σ H Q,t' v σ H Q→t v σ H Q):PG X e t':=fun pins s σ H v u Q I r q=>h pins s σ H v u Q I r (k v σ H Q q)
theorem PGs.weak (h:PGs X e t) (k:∀ v σ H Q,t' v σ H Q→t v σ H Q):PGs X e t':=fun pins s σ H v u Q I r q=>h pins s σ H v u Q I r (k v σ H Q q)
theorem PI.weak (h:PI X tg e t) (k:∀ σ H Q,t' σ H Q→t σ H Q):PI X tg e t':=fun pins s σ H Q I q=>h pins s σ H Q I (k σ H Q q)
end
def cH (K:PySem.W.Frag) (mg:Str→Option Value) (r:R2) (f:Vl→Vl→Sto→R Vl):Prop:=∀ (WE:WX) (μ:Nat→Addr) (S:Sto) (H:Hp) (v w:V) (x y:Vl) (Q:VK),HR μ S H→aZ K mg μ S H v x→aZ K mg μ S H w y→aX (aZ K mg) WE μ S H (f x y S) Q→r v w H Q
def Bf (K:PySem.W.Frag) (mg:Str→Option Value) (r:V→Hp→VK→Prop) (f:Vl→Sto→R Vl):Prop:=∀ (WE:WX) (μ:Nat→Addr) (S:Sto) (H:Hp) (v:V) (x:Vl) (Q:VK),HR μ S H→aZ K mg μ S H v x→aX (aZ K mg) WE μ S H (f x S) Q→r v H Q
def ft (K:PySem.W.Frag) (mg:Str→Option Value) (r:List V→Hp→VK→Prop) (f:List Vl→Sto→R Vl):Prop:=∀ (WE:WX) (μ:Nat→Addr) (S:Sto) (H:Hp) (vs:List V) (xs:List Vl) (Q:VK),HR μ S H→bE K mg μ S H vs xs→aX (aZ K mg) WE μ S H (f xs S) Q→r vs H Q
def ab (i:Nat):XE:=fun τ S=>match τ[i]? with
 | some (some v)=>.ok v S
 | _=>.bad
def xC (d:D):XE:=fun _ S=>.ok (.d d) S
def xFn (x:Str):XE:=fun _ S=>.ok (.fn x) S
def xOp (f:Vl→Vl→Sto→R Vl) (a b:XE):XE:=fun τ S=>(a τ S).bind fun x S1=>(b τ S1).bind fun y S2=>f x y S2
def xUn (f:Vl→Sto→R Vl) (a:XE):XE:=fun τ S=>(a τ S).bind fun x S1=>f x S1
def eR (f f':Vl→Vl→Sto→R Vl) (a b c:XE):XE:=fun τ S=>(a τ S).bind fun x S1=>(b τ S1).bind fun y S2=>(f x y S2).bind fun z S3=>match z with
 | .d (.bl k)=>if k=true then (c τ S3).bind fun w S4=>f' y w S4 else .ok (.d (.bl false)) S3
 | _=>.bad
def asB (z:Vl) (S:Sto):R Bool:=match z with
 | .d (.bl b)=>.ok b S
 | _=>.bad
def aS (a:XE):XT:=fun τ S=>(a τ S).bind asB
def tru (z:Vl) (S:Sto):R Bool:=match z with
 | .d .non=>.ok false S
 | .d (.bl b)=>.ok b S
 | .d (.int i)=>.ok (i != 0) S
 | .d (.tup xs)=>.ok (!xs.isEmpty) S
 | .d (.lst xs)=>.ok (!xs.isEmpty) S
 | .r n=>match S[n]? with
  | some (.lst xs)=>.ok (!xs.isEmpty) S
  | some (.dct kvs)=>.ok (!kvs.isEmpty) S
  | _=>.bad
 | _=>.bad
def cx (a:XE):XT:=fun τ S=>(a τ S).bind tru
def Gb (a b:XT):XT:=fun τ S=>(a τ S).bind fun c S1=>if c=true then b τ S1 else .ok false S1
def xOr (a b:XT):XT:=fun τ S=>(a τ S).bind fun c S1=>if c=true then .ok true S1 else b τ S1
def dh (a:XT):XT:=fun τ S=>(a τ S).bind fun c S1=>.ok (!c) S1
def bG (a b:XE):XE:=fun τ S=>(a τ S).bind fun x S1=>(asB x S1).bind fun c S2=>if c=true then b τ S2 else .ok (.d (.bl false)) S2
def pY (a b:XE):XE:=fun τ S=>(a τ S).bind fun x S1=>(asB x S1).bind fun c S2=>if c=true then .ok (.d (.bl true)) S2 else b τ S2
def sE (a:XE):XE:=fun τ S=>(a τ S).bind fun x S1=>(asB x S1).bind fun c S2=>.ok (.d (.bl (!c))) S2
def j7 (c:XT) (a b:XE):XE:=fun τ S=>(c τ S).bind fun k S1=>if k=true then a τ S1 else b τ S1
def aj:XA:=fun _ S=>.ok [] S
def aa (a:XE) (r:XA):XA:=fun τ S=>(a τ S).bind fun x S1=>(r τ S1).bind fun xs S2=>.ok (x :: xs) S2
def iD:List Vl→Option (List D)
 | []=>some []
 | .d x :: r=>(iD r).map (x :: ·)
 | _=>none
def mkT (xs:List Vl) (S:Sto):R Vl:=match iD xs with
 | some ds=>if ds.length≤100000 then .ok (.d (.tup ds)) S else .bad
 | none=>.bad
def mkL (xs:List Vl) (S:Sto):R Vl:=match iD xs with
 | some ds=>if ds.length≤100000 then .ok (.d (.lst ds)) S else .bad
 | none=>.bad
def mkM (xs:List Vl) (S:Sto):R Vl:=match iD xs with
 | some ds=>if ds.length≤100000 then .ok (.r S.length) (S++[.lst ds]) else .bad
 | none=>.bad
def xN (f:List Vl→Sto→R Vl) (as:XA):XE:=fun τ S=>(as τ S).bind f
def frz (z:Vl) (S:Sto):R Vl:=match z with
 | .r n=>match S[n]? with
  | some (.lst xs)=>.ok (.d (.lst xs)) (S.set n .dead)
  | some (.dct kvs)=>.ok (.fd kvs) (S.set n .dead)
  | _=>.bad
 | z=>.ok z S
def xFz (a:XE):XE:=fun τ S=>(a τ S).bind frz
def cW:XO:=fun _ S=>.ok none S
def dW (a:XE):XO:=fun τ S=>(a τ S).bind fun x S1=>match x with
 | .d (.int i)=>.ok (some i) S1
 | _=>.bad
def xSl (f:Vl→Option Int→Option Int→Sto→R Vl) (a:XE) (l h:XO):XE:=fun τ S=>(a τ S).bind fun x S1=>(l τ S1).bind fun i S2=>(h τ S2).bind fun j S3=>f x i j S3
section
variable {X:Cx} {WE:WX} {a b c e:Expr} {xa xb xc xe:XE} {pos:Pos} {es:List Expr} {t u:XT}
theorem rv (i:Nat) (hN:X.N[i]?=some x:=by rfl) (hv:Vis X.env.scope x:=by first | exact Or.inl rfl | exact Or.inr (Or.inl rfl) | exact Or.inr (Or.inr rfl)) (hd:(x == ("__debug__":Str))=false:=by decide)
  (hcd:(x == ("__classdict__":Str))=false:=by decide):RE X WE (.Name x pos) (ab i):=⟨(Ak hN hv hd hcd).weak fun σ H Q ⟨μ,S,τ,hr,sr,p⟩=>by
 unfold ab at p
 split at p
 ·obtain ⟨v,e1,r⟩:=sr.get _ _ ‹_›
  exact ⟨v,e1,p.here hr r⟩
 ·exact p.elim⟩
theorem ah {i j}:RE X WE (.Constant (.int i) j pos) (xC (.int i)):=⟨Cf.weak fun _ _ _ ⟨_,_,_,hr,_,p⟩=>p.here hr (Rep.int i)⟩
theorem cU {i j}:RE X WE (.Constant (.bool i) j pos) (xC (.bl i)):=⟨Dh.weak fun _ _ _ ⟨_,_,_,hr,_,p⟩=>p.here hr (Rep.bl i)⟩
theorem ux {j}:RE X WE (.Constant .none j pos) (xC .non):=⟨Cr.weak fun _ _ _ ⟨_,_,_,hr,_,p⟩=>p.here hr Rep.non⟩
theorem aM {x j}:RE X WE (.Constant (.str x) j pos) (xC (.str x)):=⟨BJ.weak fun _ _ _ ⟨_,_,_,hr,_,p⟩=>p.here hr (Rep.str x)⟩
theorem two (hf:cH X.K X.mg r f) (h:trE X.K X.mg WE (xOp f xa xb) σ H Q):tOp r (trE X.K X.mg WE xa) (trE X.K X.mg WE xb) σ H Q:=by
 obtain ⟨μ,S,τ,hr,sr,p⟩:=h
 refine ⟨μ,S,τ,hr,sr,p.bind fun v x S1 μ1 H1 st1 r1 p1=>?_⟩
 refine ⟨μ1,S1,τ,st1.hr,sr.step st1,p1.bind fun w y S2 μ2 H2 st2 r2 p2=>?_⟩
 exact hf WE μ2 S2 H2 v w x y Q st2.hr (r1.step st2) r2 p2
theorem aE (ho:OpR X (binaryOp op) r) (hf:cH X.K X.mg r f) (ha:RE X WE a xa) (hb:RE X WE b xb):RE X WE (.BinOp a op b pos) (xOp f xa xb):=
 ⟨(Fe ho ha.h hb.h).weak fun _ _ _ h=>two hf h⟩
theorem fL (ho:UnR X (unaryOp op) r) (hf:Bf X.K X.mg r f) (ha:RE X WE a xa):RE X WE (.UnaryOp op a pos) (xUn f xa):=
 ⟨(DJ ho ha.h).weak fun σ H Q ⟨μ,S,τ,hr,sr,p⟩=>⟨μ,S,τ,hr,sr,p.bind fun v x S1 μ1 H1 st1 r1 p1=>hf WE μ1 S1 H1 v x Q st1.hr r1 p1⟩⟩
theorem b5 (ho:OpR X (compareOp op) r) (hf:cH X.K X.mg r f) (ha:RE X WE a xa) (hb:RE X WE b xb) (hm:behindInMarks op b=false:=by first | exact vV _ | with_unfolding_all rfl):RE X WE (.Compare a [op] [b] pos) (xOp f xa xb):=
 ⟨(y0 ho ha.h hb.h hm).weak fun _ _ _ h=>two hf h⟩
theorem rK (h:trT X.K X.mg WE (aS xa) σ H Q):trE X.K X.mg WE xa σ H fun v H'=>∃ k,v=.bl k∧Q k H':=by
 obtain ⟨μ,S,τ,hr,sr,p⟩:=h
 refine ⟨μ,S,τ,hr,sr,p.bind fun v x S1 μ1 H1 st1 r1 p1=>?_⟩
 unfold asB at p1
 split at p1
 ·cases (show Rep (vh μ1 S1 H1) v (.bl _) from r1)
  exact ⟨_,rfl,p1.here st1.hr rfl⟩
 ·exact p1.elim
theorem aO (ho:OpR X (compareOp op) r) (hf:cH X.K X.mg r f) (ha:RE X WE a xa) (hb:RE X WE b xb) (hm:behindInMarks op b=false:=by first | exact vV _ | with_unfolding_all rfl):RT X WE (.Compare a [op] [b] pos) (aS (xOp f xa xb)):=
 ⟨(zy ho ha.h hb.h hm).weak fun _ _ _ h=>two hf (rK h)⟩
theorem pO (hf:cH X.K X.mg r f) (hf':cH X.K X.mg r' f') (h:trE X.K X.mg WE (eR f f' xa xb xc) σ H Q):qX r r' (trE X.K X.mg WE xa) (trE X.K X.mg WE xb) (trE X.K X.mg WE xc) σ H Q:=by
 obtain ⟨μ,S,τ,hr,sr,p⟩:=h
 refine ⟨μ,S,τ,hr,sr,p.bind fun v x S1 μ1 H1 st1 r1 p1=>?_⟩
 refine ⟨μ1,S1,τ,st1.hr,sr.step st1,p1.bind fun w y S2 μ2 H2 st2 r2 p2=>?_⟩
 refine hf WE μ2 S2 H2 v w x y _ st2.hr (r1.step st2) r2 (p2.bind fun z zz S3 μ3 H3 st3 r3 p3=>?_)
 try dsimp only at p3
 split at p3
 ·cases (show Rep (vh μ3 S3 H3) z (.bl _) from r3)
  refine ⟨_,rfl,?_⟩
  split at p3
  ·rename_i k hk
   rw [if_pos hk]
   refine ⟨μ3,S3,τ,st3.hr,sr.step (st1.trans (st2.trans st3)),p3.bind fun q qq S4 μ4 H4 st4 r4 p4=>?_⟩
   exact hf' WE μ4 S4 H4 w q y qq Q st4.hr (r2.step (st3.trans st4)) r4 p4
  ·rename_i k hk
   rw [if_neg hk]
   exact p3.here st3.hr (Rep.bl false)
 ·exact p3.elim
theorem lU (ho:OpR X (compareOp op) r) (hf:cH X.K X.mg r f) (ho':OpR X (compareOp op') r') (hf':cH X.K X.mg r' f') (ha:RE X WE a xa) (hb:RE X WE b xb) (hc:RE X WE c xc)
  (hm:lastMarks [op,op'] [b,c]=false:=by with_unfolding_all rfl):RE X WE (.Compare a [op,op'] [b,c] pos) (eR f f' xa xb xc):=⟨(xj ho ho' ha.h hb.h hc.h hm).weak fun _ _ _ h=>pO hf hf' h⟩
theorem qf (ho:OpR X (compareOp op) r) (hf:cH X.K X.mg r f) (ho':OpR X (compareOp op') r') (hf':cH X.K X.mg r' f') (ha:RE X WE a xa) (hb:RE X WE b xb) (hc:RE X WE c xc)
  (hm:lastMarks [op,op'] [b,c]=false:=by with_unfolding_all rfl):RT X WE (.Compare a [op,op'] [b,c] pos) (aS (eR f f' xa xb xc)):=⟨(wg ho ho' ha.h hb.h hc.h hm).weak fun _ _ _ h=>pO hf hf' (rK h)⟩
theorem isE {α β:Type} {xs:List α} {ys:List β} (h:xs.length=ys.length):(!xs.isEmpty)=!ys.isEmpty:=by
  cases xs<;>cases ys<;>first | rfl | simp at h
theorem C7 {K:PySem.W.Frag} {mg:Str→Option Value} {WE:WX} {μ:Nat→Addr} {S:Sto} {H:Hp} {v:V} {x:Vl} {Q:Bool→Hp→Prop} (hr:HR μ S H) (r:aZ K mg μ S H v x) (p:aX RlQ WE μ S H (tru x S) Q):∃ k,xX K v H k∧Q k H:=by
 unfold tru at p
 split at p
 ·cases (show Rep (vh μ S H) v .non from r);exact ⟨false,rfl,p.here hr rfl⟩
 ·cases (show Rep (vh μ S H) v (.bl _) from r);exact ⟨_,rfl,p.here hr rfl⟩
 ·cases (show Rep (vh μ S H) v (.int _) from r);exact ⟨_,rfl,p.here hr rfl⟩
 ·cases (show Rep (vh μ S H) v (.tup _) from r) with
  | tup h rs=>exact ⟨_,.inr (.inl ⟨_,SqT.of (bq h).2,rfl⟩),by rw [isE rs.length];exact p.here hr rfl⟩
 ·cases (show Rep (vh μ S H) v (.lst _) from r) with
  | lst h rs=>exact ⟨_,.inl ⟨_,SqL.of (bq h).2,rfl⟩,by rw [isE rs.length];exact p.here hr rfl⟩
 ·obtain ⟨rfl,hn⟩:=r
  split at p
  ·rename_i xs e
   obtain ⟨vs,h,rs⟩:=hr.ob _ _ e
   exact ⟨_,.inl ⟨_,SqL.of h,rfl⟩,by rw [isE rs.length];exact p.here hr rfl⟩
  ·rename_i kvs e
   obtain ⟨vs,l,h,rs⟩:=hr.ob _ _ e
   exact ⟨_,.inr (.inr ⟨_,h,rfl⟩),by rw [isE (ys:=kvs) (by simp [l])];exact p.here hr rfl⟩
  ·exact p.elim
 ·exact p.elim
theorem bK (ha:RE X WE a xa) (he:∀ whole,isTrue a X.env whole=(do let v ← whole;standAt a.pos;holding [v] (truthy v)):=by intro _;rfl):RT X WE a (cx xa):=
 ⟨(xn ha.h he).weak fun σ H Q ⟨μ,S,τ,hr,sr,p⟩=>⟨μ,S,τ,hr,sr,p.bind fun v x S1 μ1 H1 st1 r1 p1=>C7 st1.hr r1 p1⟩⟩
theorem d9 (ha:RT X WE a t):RW X WE (.BoolOp .Or [a] pos) t:=⟨BM ha.h⟩
theorem fG (ha:RT X WE a t) (hb:RW X WE (.BoolOp .Or (b :: es) pos) u):RW X WE (.BoolOp .Or (a :: b :: es) pos) (xOr t u):=
 ⟨(EE ha.h hb.h).weak fun σ H Q ⟨μ,S,τ,hr,sr,p⟩=>⟨μ,S,τ,hr,sr,p.bind fun k k' S1 μ1 H1 st1 r1 p1=>by
  cases (show k=k' from r1)
  try dsimp only at p1
  split at p1
  ·rename_i hk;rw [if_pos hk];exact p1.here st1.hr rfl
  ·rename_i hk;rw [if_neg hk];exact ⟨μ1,S1,τ,st1.hr,sr.step st1,p1⟩⟩⟩
theorem RW.rt (h:RW X WE a t):RT X WE a t:=⟨h.h.pt⟩
theorem cm (ha:RT X WE a t):RT X WE (.UnaryOp .Not a pos) (dh t):=
 ⟨(AS ha.h).weak fun σ H Q ⟨μ,S,τ,hr,sr,p⟩=>⟨μ,S,τ,hr,sr,p.bind fun k k' S1 μ1 H1 st1 r1 p1=>by
  cases (show k=k' from r1)
  exact p1.here st1.hr rfl⟩⟩
theorem qD {K:PySem.W.Frag} {mg:Str→Option Value} {α β:Type} {Rl:(Nat→Addr)→Sto→Hp→β→α→Prop} {μ:Nat→Addr} {S:Sto} {H:Hp} {v:V} {x:Vl} {Q:β→Hp→Prop} {f:Bool→Sto→R α} (r:aZ K mg μ S H v x) (p:aX Rl WE μ S H ((asB x S).bind f) Q):∃ k,v=.bl k∧aX Rl WE μ S H (f k S) Q:=by
 unfold asB at p
 split at p
 ·cases (show Rep (vh μ S H) v (.bl _) from r)
  exact ⟨_,rfl,p⟩
 ·exact p.elim
theorem bP {op} (ha:RE X WE a xa):RE X WE (.BoolOp op [a] pos) xa:=⟨Am ha.h⟩
theorem bA (ha:RE X WE a xa) (hb:RE X WE (.BoolOp .And (b :: es) pos) xb):RE X WE (.BoolOp .And (a :: b :: es) pos) (bG xa xb):=
 ⟨(AR ha.h hb.h).weak fun σ H Q ⟨μ,S,τ,hr,sr,p⟩=>⟨μ,S,τ,hr,sr,p.bind fun v x S1 μ1 H1 st1 r1 p1=>by
  obtain ⟨k,rfl,p1⟩:=qD r1 p1
  refine ⟨k,rfl,?_⟩
  split at p1
  ·rename_i hk;rw [if_pos hk];exact ⟨μ1,S1,τ,st1.hr,sr.step st1,p1⟩
  ·rename_i hk;rw [if_neg hk];exact p1.here st1.hr (Rep.bl false)⟩⟩
theorem EX (ha:RE X WE a xa) (hb:RE X WE (.BoolOp .Or (b :: es) pos) xb):RE X WE (.BoolOp .Or (a :: b :: es) pos) (pY xa xb):=
 ⟨(DG ha.h hb.h).weak fun σ H Q ⟨μ,S,τ,hr,sr,p⟩=>⟨μ,S,τ,hr,sr,p.bind fun v x S1 μ1 H1 st1 r1 p1=>by
  obtain ⟨k,rfl,p1⟩:=qD r1 p1
  refine ⟨k,rfl,?_⟩
  split at p1
  ·rename_i hk;rw [if_pos hk];exact p1.here st1.hr (Rep.bl true)
  ·rename_i hk;rw [if_neg hk];exact ⟨μ1,S1,τ,st1.hr,sr.step st1,p1⟩⟩⟩
theorem Bp (ha:RE X WE a xa):RE X WE (.UnaryOp .Not a pos) (sE xa):=
 ⟨(Cm ha.h).weak fun σ H Q ⟨μ,S,τ,hr,sr,p⟩=>⟨μ,S,τ,hr,sr,p.bind fun v x S1 μ1 H1 st1 r1 p1=>by
  obtain ⟨k,rfl,p1⟩:=qD r1 p1
  exact ⟨k,rfl,p1.here st1.hr (Rep.bl _)⟩⟩⟩
theorem mf (hc:RT X WE c t) (ha:RE X WE a xa) (hb:RE X WE b xb):RE X WE (.IfExp c a b pos) (j7 t xa xb):=
 ⟨(wd hc.h ha.h hb.h).weak fun σ H Q ⟨μ,S,τ,hr,sr,p⟩=>⟨μ,S,τ,hr,sr,p.bind fun k k' S1 μ1 H1 st1 r1 p1=>by
  cases (show k=k' from r1)
  try dsimp only at p1
  split at p1
  ·rename_i hk;rw [if_pos hk];exact ⟨μ1,S1,τ,st1.hr,sr.step st1,p1⟩
  ·rename_i hk;rw [if_neg hk];exact ⟨μ1,S1,τ,st1.hr,sr.step st1,p1⟩⟩⟩
theorem af:RA X WE [] aj:=⟨gK.weak fun σ H Q ⟨μ,S,τ,hr,sr,p⟩=>p.here hr .nil⟩
theorem ae [n:NS e] (ha:RE X WE e xe) (hr:RA X WE es ts):RA X WE (e :: es) (aa xe ts):=
 ⟨(eL ha.h hr.h (n.eq es X.env)).weak fun σ H Q ⟨μ,S,τ,hr,sr,p⟩=>⟨μ,S,τ,hr,sr,p.bind fun v x S1 μ1 H1 st1 r1 p1=>⟨μ1,S1,τ,st1.hr,sr.step st1,p1.bind fun vs xs S2 μ2 H2 st2 r2 p2=>
  p2.here st2.hr (.cons (r1.step st2) r2)⟩⟩⟩
theorem gp {K:PySem.W.Frag} {mg:Str→Option Value} {μ:Nat→Addr} {S:Sto} {H:Hp}:∀ {vs:List V} {xs:List Vl} {ds:List D},bE K mg μ S H vs xs→iD xs=some ds→ax (vh μ S H) vs ds
 | _,_,_,.nil,e=>by simp [iD] at e;subst e;exact .nil
 | _,_,ds,@bE.cons _ _ _ _ _ v x vs xs r t,e=>by
  cases x with
  | d x=>
   simp only [iD,Option.map_eq_some_iff] at e
   obtain ⟨es,e1,rfl⟩:=e
   exact .cons r (gp t e1)
  | _=>simp [iD] at e
theorem kK (h:n≤100000):n≤sizeLine:=by rw [sizeLine_eq];omega
theorem aX.sI {K:PySem.W.Frag} {mg:Str→Option Value} {μ:Nat→Addr} {S:Sto} {H:Hp} {Q:VK} {vs:List V} {ds:List D} (hr:HR μ S H) (rs:ax (vh μ S H) vs ds) (p:aX (aZ K mg) WE μ S H (.ok (.d (.tup ds)) S) Q) (q:Addr) (hq:H q=none):Q (.ref q) (upd H q (.tup vs)):=by
 have st:=Step.new hr hq (.tup vs)
 exact p _ μ _ st (Rep.tup (bT b_ (hr.nal hq)) (rs.mono st.vis))
theorem bU {ts:XA} {k:Nat} (h:RA X WE es ts):RE X WE (.Tuple es k pos) (xN mkT ts):=
 ⟨(By h.h).weak fun σ H Q ⟨μ,S,τ,hr,sr,p⟩=>⟨μ,S,τ,hr,sr,p.bind fun vs xs S1 μ1 H1 st1 r1 p1=>by
  unfold mkT at p1
  split at p1
  ·rename_i ds e
   split at p1
   ·have rs:=gp r1 e
    refine ⟨kK (by rw [rs.length];assumption),fun q hq=>p1.sI st1.hr rs q hq⟩
   ·exact p1.elim
  ·exact p1.elim⟩⟩
end
section
variable {X:Cx} {WE:WX} {a b c e:Expr} {xa xb xc xe:XE} {pos:Pos} {es:List Expr} {t u:XT} {K:PySem.W.Frag} {mg:Str→Option Value} {μ:Nat→Addr} {S:Sto} {H:Hp} {Q:VK} {vs:List V} {ds:List D}
theorem aX.l8 (hr:HR μ S H) (rs:ax (vh μ S H) vs ds) (p:aX (aZ K mg) WE μ S H (.ok (.d (.lst ds)) S) Q) (q:Addr) (hq:H q=none):Q (.ref q) (upd H q (.lst vs)):=by
 have st:=Step.new hr hq (.lst vs)
 exact p _ μ _ st (Rep.lst (bT b_ (hr.nal hq)) (rs.mono st.vis))
theorem aX.tL (hr:HR μ S H) (rs:ax (vh μ S H) vs ds) (p:aX (aZ K mg) WE μ S H (.ok (.r S.length) (S++[.lst ds])) Q) (q:Addr) (hq:H q=none):Q (.ref q) (upd H q (.lst vs)):=
 p _ _ _ (Step.alloc hr hq (ob:=.lst ds) ⟨vs,rfl,rs⟩) ⟨by rw [dn],by simp⟩
theorem dJ {ts:XA} (h:RA X WE es ts):RE X WE (.List es pos) (xN mkL ts):=
 ⟨(vk h.h).weak fun σ H Q ⟨μ,S,τ,hr,sr,p⟩=>⟨μ,S,τ,hr,sr,p.bind fun vs xs S1 μ1 H1 st1 r1 p1=>by
  unfold mkL at p1
  split at p1
  ·rename_i ds e
   split at p1
   ·have rs:=gp r1 e
    refine ⟨kK (by rw [rs.length];assumption),fun q hq=>p1.l8 st1.hr rs q hq⟩
   ·exact p1.elim
  ·exact p1.elim⟩⟩
theorem gC {ts:XA} (h:RA X WE es ts):RE X WE (.List es pos) (xN mkM ts):=
 ⟨(vk h.h).weak fun σ H Q ⟨μ,S,τ,hr,sr,p⟩=>⟨μ,S,τ,hr,sr,p.bind fun vs xs S1 μ1 H1 st1 r1 p1=>by
  unfold mkM at p1
  split at p1
  ·rename_i ds e
   split at p1
   ·have rs:=gp r1 e
    refine ⟨kK (by rw [rs.length];assumption),fun q hq=>p1.tL st1.hr rs q hq⟩
   ·exact p1.elim
  ·exact p1.elim⟩⟩
theorem Ef (ha:RE X WE a xa):RE X WE a (xFz xa):=
 ⟨fun pins s σ H Q I ⟨μ,S,τ,hr,sr,p⟩=>by
  refine thn (ha.h pins s σ H (fun v H1=>∃ μ1 S1 x,HR μ1 S1 H1∧aZ X.K X.mg μ1 S1 H1 v x∧aX (aZ X.K X.mg) WE μ1 S1 H1 (frz x S1) Q) I ⟨μ,S,τ,hr,sr,p.bind fun v x S1 μ1 H1 st1 r1 p1=>⟨μ1,S1,x,st1.hr,r1,p1⟩⟩) fun u s1 ⟨v,H1,I1,ru,μ1,S1,x,hr1,r1,p1⟩=>?_
  unfold frz at p1
  split at p1
  ·obtain ⟨rfl,hn⟩:=r1
   split at p1
   ·rename_i n xs e
    obtain ⟨vs,h,rs⟩:=hr1.ob _ _ e
    obtain ⟨st2,na⟩:=Step.freeze hr1 e (by simp)
    exact ⟨_,H1,I1,ru,p1 _ _ _ st2 (Rep.lst (bT h na) (rs.mono st2.vis))⟩
   ·rename_i n _ kvs e
    obtain ⟨vs,l,h,rs⟩:=hr1.ob _ _ e
    have ok:b8 X.prog X.w H1 s1.heap (μ1 n) (.dK ((kvs.map (·.1)).zip vs)):=I1.hok _ _ h
    obtain ⟨z1,z2,ws,rel,o,es,ep,ho,r⟩:=ok
    obtain ⟨st2,na⟩:=Step.wF hr1 (.frz o (.dK ((kvs.map (·.1)).zip vs))) e (by simp)
    exact ⟨_,_,I1.write (o:=.frz o (.dK ((kvs.map (·.1)).zip vs))) (h':=s1.heap) (x:=μ1 n) (e:=μ1 n) (t':=s1.toks) (by rw [h];exact True.intro) (.inl rfl) (fun b q _ hq=>hq) ⟨o,ho⟩ (show _∧_ from ⟨ho,z1,z2,ws,rel,o,es,ep,ho,r⟩),ru,p1 _ _ _ st2 ⟨_,vs,o,rfl,l,bT b_ na,rs.mono st2.vis⟩⟩
   ·exact p1.elim
  ·exact ⟨_,H1,I1,ru,p1.here hr1 r1⟩⟩
theorem aA {x:Str} {p:Pos} {id:String} {r:List V→Hp→VK→Prop} {f:List Vl→Sto→R Vl} {ts:XA} [n:NS e] (hc:bI X (.builtin id) r) (hf:ft X.K X.mg r f) (hm:X.mg x=none) (hv:bootBuiltins x=some (.builtin id)) (ha:RA X WE (e :: es) ts) (hg:Gl X x:=by exact rfl) (hn:x≠"__name__":=by decide) (hdb:(x == ("__debug__":Str))=false:=by decide)
  (hpl:(backTo pos (starEach es X.env)).any (·.1)=false:=by rfl):RE X WE (.Call (.Name x p) (e :: es) [] pos) (xN f ts):=
 ⟨(wL hc hg hm hv ha.h hn hdb (n.eq es X.env) hpl).weak fun σ H Q ⟨μ,S,τ,hr,sr,p⟩=>⟨μ,S,τ,hr,sr,p.bind fun vs xs S1 μ1 H1 st1 r1 p1=>hf WE μ1 S1 H1 vs xs Q st1.hr r1 p1⟩⟩
theorem bc {x:Str} {p:Pos} {T:String} {r:List V→Hp→VK→Prop} {f:List Vl→Sto→R Vl} {ts:XA} [n:NS e] (hc:bI X (.type T) r) (hf:ft X.K X.mg r f) (hm:X.mg x=none) (hv:bootBuiltins x=some (.type T)) (ha:RA X WE (e :: es) ts) (hg:Gl X x:=by exact rfl) (hn:x≠"__name__":=by decide) (hdb:(x == ("__debug__":Str))=false:=by decide)
  (hpl:(backTo pos (starEach es X.env)).any (·.1)=false:=by rfl):RE X WE (.Call (.Name x p) (e :: es) [] pos) (xN f ts):=
 ⟨(uk hc hg hm hv ha.h hn hdb (n.eq es X.env) hpl).weak fun σ H Q ⟨μ,S,τ,hr,sr,p⟩=>⟨μ,S,τ,hr,sr,p.bind fun vs xs S1 μ1 H1 st1 r1 p1=>hf WE μ1 S1 H1 vs xs Q st1.hr r1 p1⟩⟩
def spM (K:PySem.W.Frag) (mg:Str→Option Value) (F:XF):Sp:=fun vs H Q _=>∃ μ S us,HR μ S H∧bE K mg μ S H vs us∧aX (aZ K mg) W0 μ S H (F us S) Q
def noX {α:Type} (r:R α):R α:=match r with
 | .ex _ _ _=>.bad
 | r=>r
def av (F:XF) (as:XA):XE:=fun τ S=>(as τ S).bind fun us S1=>noX (F us S1)
theorem aX.noX {α β:Type} {Rl:(Nat→Addr)→Sto→Hp→β→α→Prop} {res:R α} {Q:β→Hp→Prop} (h:aX Rl WE μ S H (noX res) Q):aX Rl W0 μ S H res Q:=by
 cases res with
 | ok a S'=>exact h
 | ex c xs S'=>exact h.elim
 | bad=>exact h.elim
end
section
variable {X:Cx} {WE:WX} {e:Expr} {es:List Expr} {pos p:Pos} {lev j:Nat} {ps:List Str} {F:XF} {x:Str} {ts:XA}
def OkE (P:Program) (w:World) (K:PySem.W.Frag) (mg:Str→Option Value) (lev:Nat) (x:Str) (ps:List Str) (M:XF):Prop:=∃ (f:Addr) (fd:FuncData),mg x=some (.ref f)∧PySem.W.keepIn K (.ref f)=true∧(∀ us:List Value,us.length=ps.length→bindArgs fd ⟨us,[]⟩=pure (ps.zip us))∧∀ base,fj P w K mg base CX0 lev f fd ps (spM K mg M)
theorem ak [n:NS e] (G:OkE X.prog X.w X.K X.mg lev x ps F) (hr:c_ j X.A) (ha:RA X WE (e :: es) ts) (hj:lev≤j:=by decide) (hg:Gl X x:=by exact rfl)
  (hdb:(x == ("__debug__":Str))=false:=by decide) (hpl:(backTo pos (starEach es X.env)).any (·.1)=false:=by rfl):RE X WE (.Call (.Name x p) (e :: es) [] pos) (av F ts):=by
 obtain ⟨f,fd,hm,hk,hb,G⟩:=G
 exact ⟨(y8 (G X.base) (hr.mono hj) hg hm hk (.all hb) .nil EM ha.h hdb (n.eq es X.env) hpl).weak fun σ H Q ⟨μ,S,τ,hr,sr,p⟩=>⟨μ,S,τ,hr,sr,p.bind fun vs xs S1 μ1 H1 st1 r1 p1=>by
  rw [List.append_nil]
  exact ⟨μ1,S1,xs,st1.hr,r1,p1.noX⟩⟩⟩
end
def out (S:Sto) (z:Vl) (S':Sto):R Vl:=match z with
 | .r n=>if n < S.length then .ok (.r n) (S'.take S.length) else match S'[n]? with
  | some (.lst xs)=>.ok (.r S.length) (S'.take S.length++[.lst xs])
  | some (.dct kvs)=>.ok (.r S.length) (S'.take S.length++[.dct kvs])
  | _=>.bad
 | .pr x n=>if n < S.length then .ok (.pr x n) (S'.take S.length) else match S'[n]? with
  | some (.lst xs)=>.ok (.pr x S.length) (S'.take S.length++[.lst xs])
  | _=>.bad
 | z=>.ok z (S'.take S.length)
def leave (S:Sto) (r:R (Fl×Nv)):R Vl:=match r with
 | .ok q S'=>(match q.1 with
  | .nx=>out S (.d .non) S'
  | .rt z=>out S z S'
  | _=>.bad)
 | .ex c xs S'=>.ex c xs (S'.take S.length)
 | .bad=>.bad
def aU (k n:Nat) (b:XS):XF:=fun us S=>if us.length=k then leave S (b (us.map some++List.replicate (n - k) none) S) else .bad
section
variable {K:PySem.W.Frag} {mg:Str→Option Value} {μ μ':Nat→Addr} {S S':Sto} {H H':Hp} {Q:VK}
theorem dA {k:Nat}:c6 (vh μ S H) (vh μ (S.take k) H):=fun b u q=>by
 obtain ⟨z,q⟩:=bq q
 refine bT q ?_
 rintro ⟨m,u,e,d,rfl⟩
 exact z ⟨m,u,(dj e).2,d,rfl⟩
theorem zU {k n:Nat} {ob:Ob} (hk:k≤S.length) (e0:S[n]?=some ob) (d0:ob≠.dead):c6 (vh μ S H) (vh (ext μ k (μ n)) (S.take k++[ob]) H):=fun b u q=>by
 obtain ⟨z,q⟩:=bq q
 refine bT q ?_
 rintro ⟨m,u,e,d,rfl⟩
 have lt:(S.take k).length=k:=by rw [List.length_take];omega
 by_cases hm:m < k
 ·rw [List.getElem?_append_left (by omega)] at e
  exact z ⟨m,u,(dj e).2,d,by rw [kO (Nat.ne_of_lt hm)]⟩
 ·have hm':m=k:=by
   have:=(List.getElem?_eq_some_iff.mp e).1
   simp only [List.length_append,lt,List.length_singleton] at this
   omega
  subst hm'
  exact z ⟨n,ob,e0,d0,by rw [dn]⟩
theorem vG {WE:WX} {v:V} {z:Vl} (st:Step μ S H μ' S' H') (r:aZ K mg μ' S' H' v z) (p:aX (aZ K mg) WE μ S H (out S z S') Q):Q v H':=by
 have st':=st.take
 cases z with
 | d x=>exact p v μ' H' st' (Rep.mono dA r)
 | fd kvs=>obtain ⟨a,vs,o,e,l,h,rs⟩:=r;exact p v μ' H' st' ⟨a,vs,o,e,l,dA _ _ h,rs.mono dA⟩
 | fn x=>exact p v μ' H' st' r
 | sc ns=>obtain ⟨l,e,h⟩:=r;exact p v μ' H' st' ⟨l,e,h.mono dA⟩
 | xc c xs=>obtain ⟨a,C,e,m,h⟩:=r;exact p v μ' H' st' ⟨a,C,e,m,h.mono dA⟩
 | kt ws=>exact p v μ' H' st' r
 | xl es=>obtain ⟨l,vs,e,q,h⟩:=r;exact p v μ' H' st' ⟨l,vs,e,dA _ _ q,h.mono dA⟩
 | pr x n=>
  obtain ⟨a,u,rfl,h,ru,hn⟩:=r
  unfold out at p
  try dsimp only at p
  split at p
  ·exact p _ μ' H' st' ⟨a,u,rfl,dA _ _ h,Rep.mono dA ru,by rw [List.length_take];omega⟩
  ·have lt:(S'.take S.length).length=S.length:=by rw [List.length_take];have:=st.le;omega
   split at p
   ·rename_i xs e
    have k:=zU (μ:=μ') (H:=H') (k:=S.length) st.le e (by simp)
    exact p _ _ H' (st.move (by omega) e (by simp)) ⟨a,u,rfl,by rw [dn];exact k _ _ h,Rep.mono k ru,by simp [lt]⟩
   ·exact p.elim
 | r n=>
  obtain ⟨rfl,hn⟩:=r
  unfold out at p
  try dsimp only at p
  split at p
  ·exact p _ μ' H' st' ⟨rfl,by rw [List.length_take];omega⟩
  ·have lt:(S'.take S.length).length=S.length:=by rw [List.length_take];have:=st.le;omega
   split at p
   ·rename_i xs e
    exact p _ _ H' (st.move (by omega) e (by simp)) ⟨by rw [dn],by simp [lt]⟩
   ·rename_i xs e
    exact p _ _ H' (st.move (by omega) e (by simp)) ⟨by rw [dn],by simp [lt]⟩
   ·exact p.elim
theorem FU {P:Program} {w:World} {base:Heap} {x qual:Str} {st:Stmt} {f:Addr} {fd:FuncData} {N ps:List Str} {lev:Nat} {m:XS} (F:Fun K x qual st f fd) (Sc:iT N ps (bN st))
  (hb:∀ (cdv:Value) (A:Around) (outer:List Env) (s:Shared) (H:Hp) (E:XK),c_ lev (A.deeper (envOfC qual (bN st) s.heap.objs.size f cdv))→RB (kP CX0 P w K mg base N qual (bN st) f cdv A outer s H E).nox W0 (eH st) m) :
  fj P w K mg base CX0 (lev+1) f fd ps (spM K mg (aU ps.length N.length m)):=by
 refine F.ok Sc (fun vs H Q E h=>?_) (fun cdv A outer s H vs Q E hr h=>?_)
 ·obtain ⟨μ,S,us,hr,rs,p⟩:=h
  unfold aU at p
  split at p
  ·rw [rs.length];assumption
  ·exact p.elim
 ·refine ⟨_,(hb cdv A outer s H E hr).h,?_⟩
  obtain ⟨μ,S,us,hr,rs,p⟩:=h
  unfold aU at p
  split at p
  ·rename_i hl
   have sr:cc K mg μ S H (start N vs) (us.map some++List.replicate (N.length - ps.length) none):=by
    rw [← hl];exact cc.beg rs
   refine ⟨μ,S,_,hr,sr,?_⟩
   generalize m (us.map some++List.replicate (N.length - ps.length) none) S=res at p
   cases res with
   | bad=>exact p.elim
   | ex c xs S'=>exact fun μ' H' st=>p μ' H' st.take
   | ok q S'=>
    obtain ⟨fl,τ'⟩:=q
    rintro ⟨fv,σ'⟩ μ' H' st ⟨sr',fr⟩
    cases fl with
    | nx=>
     cases fv with
     | nx=>exact vG (K:=K) (mg:=mg) (v:=.non) (z:=.d .non) st Rep.non p
     | _=>exact (show False from fr).elim
    | rt z=>
     cases fv with
     | rt v=>exact vG st fr p
     | _=>exact (show False from fr).elim
    | bk=>exact (show False from p).elim
    | ct=>exact (show False from p).elim
  ·exact p.elim
end
def aN:XS:=fun τ S=>.ok (.nx,τ) S
def ay (a b:XS):XS:=fun τ S=>(a τ S).bind fun q S1=>match q.1 with
 | .nx=>b q.2 S1
 | _=>.ok q S1
def fH (e:XE):XS:=fun τ S=>(e τ S).bind fun _ S1=>.ok (.nx,τ) S1
def aB (e:XE):XS:=fun τ S=>(e τ S).bind fun z S1=>.ok (.rt z,τ) S1
def Dw:XS:=fun τ S=>.ok (.rt (.d .non),τ) S
def Cn:XS:=fun τ S=>.ok (.bk,τ) S
def DV:XS:=fun τ S=>.ok (.ct,τ) S
def xIf (c:XT) (a b:XS):XS:=fun τ S=>(c τ S).bind fun k S1=>if k=true then a τ S1 else b τ S1
def hG:XS:=fun _ _=>.bad
def aR (e:XE) (g:XG):XS:=fun τ S=>(e τ S).bind fun z S1=>(g z τ S1).bind fun τ1 S2=>.ok (.nx,τ1) S2
def gNm (i:Nat):XG:=fun z τ S=>.ok (τ.set i (some z)) S
def gTu (n:Nat) (g:XGs):XG:=fun z τ S=>match z with
 | .d (.tup xs)=>if xs.length=n then g (xs.map Vl.d) τ S else .bad
 | _=>.bad
def gN0:XGs:=fun zs τ S=>match zs with
 | []=>.ok τ S
 | _=>.bad
def gCo (g:XG) (gs:XGs):XGs:=fun zs τ S=>match zs with
 | z :: r=>(g z τ S).bind fun τ1 S1=>gs r τ1 S1
 | []=>.bad
def gSb (o i:XE) (f:Vl→Vl→Vl→Sto→R Unit):XG:=fun z τ S=>(o τ S).bind fun x S1=>(i τ S1).bind fun y S2=>(f x y z S2).bind fun _ S3=>.ok τ S3
def gok (gd:Option (Nat×Ob)) (S:Sto):Prop:=match gd with
 | none=>True
 | some (n,o)=>S[n]?=some o
open Classical in
noncomputable def eZ (g:XG) (b:XS) (gd:Option (Nat×Ob)):List Vl→Nv→Sto→R (Fl×Nv)
 | [],τ,S=>.ok (.nx,τ) S
 | z :: zs,τ,S=>(g z τ S).bind fun τ1 S1=>(b τ1 S1).bind fun q S2=>match q.1 with
  | .bk=>.ok (.nx,q.2) S2
  | .rt v=>.ok (.rt v,q.2) S2
  | _=>if gok gd S2 then eZ g b gd zs q.2 S2 else .bad
noncomputable def fE (it:XI) (g:XG) (b:XS):XS:=fun τ S=>(it τ S).bind fun I S1=>eZ g b I.gd I.items τ S1
section
variable {X:Cx} {WE:WX} {e c tg iter:Expr} {xe:XE} {t:XT} {pos:Pos} {st:Stmt} {sts sts':List Stmt} {m m':XS} {g:XG} {gs:XGs} {it:XI}
theorem aG:RB X WE [] aN:=⟨yU.weak fun D σ H ⟨μ,S,τ,hr,sr,p⟩=>p.here (b:=(FlV.nx,σ)) hr ⟨sr,True.intro⟩⟩
theorem aq (h:RS X WE st m):RB X WE [st] m:=⟨zK h.h⟩
theorem ao (h:RS X WE st m) (h':RB X WE sts m'):RB X WE (st :: sts) (ay m m'):=
 ⟨(xT h.h h'.h).weak fun D σ H ⟨μ,S,τ,hr,sr,p⟩=>⟨μ,S,τ,hr,sr,p.bind fun b q S1 μ1 H1 st1 r1 p1=>by
  obtain ⟨fv,σ1⟩:=b
  obtain ⟨fl,τ1⟩:=q
  obtain ⟨sr1,fr⟩:=r1
  cases fl with
  | nx=>cases fv with
   | nx=>exact ⟨μ1,S1,τ1,st1.hr,sr1,p1⟩
   | _=>exact (show False from fr).elim
  | bk=>cases fv with
   | bk=>exact (show D.at (FlV.bk,σ1) H1 from aX.here (b:=(FlV.bk,σ1)) st1.hr p1 ⟨sr1,True.intro⟩)
   | _=>exact (show False from fr).elim
  | ct=>cases fv with
   | ct=>exact (show D.at (FlV.ct,σ1) H1 from aX.here (b:=(FlV.ct,σ1)) st1.hr p1 ⟨sr1,True.intro⟩)
   | _=>exact (show False from fr).elim
  | rt z=>cases fv with
   | rt v=>exact (show D.at (FlV.rt v,σ1) H1 from aX.here (b:=(FlV.rt v,σ1)) st1.hr p1 ⟨sr1,fr⟩)
   | _=>exact (show False from fr).elim⟩⟩
theorem fq (he:RE X WE e xe) (hs:swapsWith e none pos.line X.env=pure false:=by rfl):RS X WE (.Expr e pos) (fH xe):=
 ⟨(zo he.h hs).weak fun D σ H ⟨μ,S,τ,hr,sr,p⟩=>⟨μ,S,τ,hr,sr,p.bind fun v x S1 μ1 H1 st1 r1 p1=>p1.here (b:=(FlV.nx,σ)) st1.hr ⟨sr.step st1,True.intro⟩⟩⟩
theorem aw (he:RE X WE e xe):RS X WE (.Return (some e) pos) (aB xe):=
 ⟨(A7 he.h).weak fun D σ H ⟨μ,S,τ,hr,sr,p⟩=>⟨μ,S,τ,hr,sr,p.bind fun v x S1 μ1 H1 st1 r1 p1=>p1.here (b:=(FlV.rt v,σ)) st1.hr ⟨sr.step st1,r1⟩⟩⟩
theorem jj:RS X WE st hG:=⟨fun _ _ _ _ _ _ ⟨_,_,_,_,_,p⟩=>p.elim⟩
theorem aQ (hc:RT X WE c t) (ha:RB X WE sts m) (hb:RB X WE sts' m'):RS X WE (.If c sts sts' pos) (xIf t m m'):=
 ⟨(EU hc.h ha.h hb.h).weak fun D σ H ⟨μ,S,τ,hr,sr,p⟩=>⟨μ,S,τ,hr,sr,p.bind fun k k' S1 μ1 H1 st1 r1 p1=>by
  cases (show k=k' from r1)
  try dsimp only at p1
  split at p1
  ·rename_i hk;rw [if_pos hk];exact ⟨μ1,S1,τ,st1.hr,sr.step st1,p1⟩
  ·rename_i hk;rw [if_neg hk];exact ⟨μ1,S1,τ,st1.hr,sr.step st1,p1⟩⟩⟩
structure LQ (sc:Scope) (N:List Str):Prop where
 nd:N.Nodup
theorem aL {i:Nat} {x:Str} {sc:Scope} (q:LQ sc X.N) (hi:X.N[i]?=some x:=by exact rfl) (hx:Loc X.env.scope x:=by first | exact .inl rfl | exact .inr rfl) (hf:X.fn x=true∨X.env.scope.names.lookup x=some .local:=by first | exact .inl rfl | exact .inr rfl | assumption):RG X WE (.Name x pos) (gNm i):=
 ⟨(zt q.nd hi hx hf).weak fun v σ H Q ⟨μ,S,τ,z,hr,sr,r,p⟩=>p.here hr (sr.set i r)⟩
theorem jf:RGs X WE [] gN0:=⟨zF.weak fun vs σ H Q ⟨μ,S,τ,zs,hr,sr,r,p⟩=>by
 unfold gN0 at p
 split at p
 ·cases r;exact ⟨rfl,p.here hr sr⟩
 ·exact p.elim⟩
theorem cR {es:List Expr} (h:RG X WE e g) (h':RGs X WE es gs) (hs:(assignEach (e :: es) X.env).map (·.2)=assign e X.env :: (assignEach es X.env).map (·.2):=by rfl):RGs X WE (e :: es) (gCo g gs):=
 ⟨(xW h.h h'.h hs).weak fun vs σ H Q ⟨μ,S,τ,zs,hr,sr,r,p⟩=>by
  unfold gCo at p
  split at p
  ·cases r with
   | cons r1 rr=>exact ⟨_,_,rfl,μ,S,τ,_,hr,sr,r1,p.bind fun σ1 τ1 S1 μ1 H1 st1 sr1 p1=>⟨μ1,S1,τ1,_,st1.hr,sr1,rr.step st1,p1⟩⟩
  ·exact p.elim⟩
theorem j4 {n:Nat} {es:List Expr} {k:Nat} (h:RGs X WE es gs) (hc:X.calm=true:=by exact rfl) (hn:(assignEach es X.env).length=n:=by rfl) (hst:(assignEach es X.env).findIdx? (·.1)=none:=by rfl):RG X WE (.Tuple es k pos) (gTu n gs):=
 ⟨(C4 hc h.h hn hst).weak fun v σ H Q ⟨μ,S,τ,z,hr,sr,r,p⟩=>by
  unfold gTu at p
  split at p
  ·split at p
   ·rename_i xs hl
    cases (show Rep (vh μ S H) v (.tup xs) from r) with
    | tup h rs=>exact ⟨_,_,rfl,SqT.of (bq h).2,by rw [rs.length];exact hl,μ,S,τ,_,hr,sr,bE.rN rs,p⟩
   ·exact p.elim
  ·exact p.elim⟩
def vz (K:PySem.W.Frag) (mg:Str→Option Value) (ts:pT) (f:Vl→Vl→Vl→Sto→R Unit):Prop:=∀ (WE:WX) (μ:Nat→Addr) (S:Sto) (H:Hp) (o i v:V) (x y z:Vl) (Q:Unit→Hp→Prop),HR μ S H→aZ K mg μ S H o x→aZ K mg μ S H i y→aZ K mg μ S H v z→aX (fun _ _ _ (_ _:Unit)=>True) WE μ S H (f x y z S) Q→ts o i v H (Q ())
theorem j_ {o i:Expr} {xo xi:XE} {ts:pT} {f:Vl→Vl→Vl→Sto→R Unit} (ho:RE X WE o xo) (hi:RE X WE i xi) (hs:sy X ts) (hf:vz X.K X.mg ts f)
  (ha:∀ v,assign (.Subscript o i pos) X.env v=(do
   let ov ← holding [v] (eval o X.env)
   let iv ← holding [v,ov] (eval i X.env)
   standAt pos
   holding [v,ov,iv] (setItem ov iv v)
   release [v,ov,iv] []):=by intro _;rfl):RG X WE (.Subscript o i pos) (gSb xo xi f):=
 ⟨(BB ho.h hi.h hs ha).weak fun v σ H Q ⟨μ,S,τ,z,hr,sr,r,p⟩=>⟨μ,S,τ,hr,sr,p.bind fun ov x S1 μ1 H1 st1 r1 p1=>⟨μ1,S1,τ,st1.hr,sr.step st1,p1.bind fun iv y S2 μ2 H2 st2 r2 p2=>
  hf WE μ2 S2 H2 ov iv v x y z (fun _ H3=>Q σ H3) st2.hr (r1.step st2) r2 (r.step (st1.trans st2)) (p2.bind fun _ _ S3 μ3 H3 st3 _ p3=>p3.here st3.hr (sr.step (st1.trans (st2.trans st3))))⟩⟩⟩
theorem ka (he:RE X WE e xe) (hg:RG X WE tg g) (hs:swapsWithSole [tg] e pos.line X.env=pure false:=by rfl) (hw:swappedStores [tg] e X.env=pure none:=by rfl)
  (h1:(assignEach [tg] X.env).map (·.2)=[assign tg X.env]:=by rfl):RS X WE (.Assign [tg] e pos) (aR xe g):=
 ⟨(Bs he.h hg.h hs hw h1).weak fun D σ H ⟨μ,S,τ,hr,sr,p⟩=>⟨μ,S,τ,hr,sr,p.bind fun v x S1 μ1 H1 st1 r1 p1=>⟨μ1,S1,τ,x,st1.hr,sr.step st1,r1,p1.bind fun σ2 τ2 S2 μ2 H2 st2 sr2 p2=>p2.here (b:=(FlV.nx,σ2)) st2.hr ⟨sr2,True.intro⟩⟩⟩⟩
theorem aK {i:Nat} {x:Str} {pos':Pos} {sc:Scope} (q:LQ sc X.N) (he:RE X WE e xe) (hi:X.N[i]?=some x:=by exact rfl) (hx:Loc X.env.scope x:=by first | exact .inl rfl | exact .inr rfl) (hs:swapsWith e (some (.Name x pos')) pos.line X.env=pure false:=by rfl) (hf:X.fn x=true∨X.env.scope.names.lookup x=some .local:=by first | exact .inl rfl | exact .inr rfl | assumption) :
  RS X WE (.Assign [.Name x pos'] e pos) (aR xe (gNm i)):=
 ⟨(CD q.nd hi hx he.h hs hf).weak fun D σ H ⟨μ,S,τ,hr,sr,p⟩=>⟨μ,S,τ,hr,sr,p.bind fun v x S1 μ1 H1 st1 r1 p1=>p1.here (b:=(FlV.nx,σ.set i (some v))) st1.hr ⟨(sr.step st1).set i r1,True.intro⟩⟩⟩
theorem AG {I:Its} {S:Sto} (h:gok I.gd S):I.ok S:=h
open Classical in
theorem d4 (hi:RI X WE tg iter it) (hg:RG X WE tg g) (hb:RB X WE sts m) (hp:PassesOwn (model X.prog X.w) X.A X.env X.xe:=by first | exact PassesOwn.never | exact PassesOwn.leaving) (hc:X.calm=true:=by exact rfl) (hs:∀ x,foldedSetIterable iter X.env x=pure x:=by intro _;rfl):RS X WE (.For tg iter sts [] pos) (fE it g m):=
 ⟨(B5 hp hc hi.h hg.h hb.h hs).weak fun D σ H ⟨μ,S,τ,hr,sr,p⟩=>⟨μ,S,τ,hr,sr,p.bind fun J I S1 μ1 H1 st1 io p1=>by
  refine ⟨fun i k σ' H'=>∃ μ' S' τ',Step μ1 S1 H1 μ' S' H'∧cc X.K X.mg μ' S' H' σ' τ'∧I.ok S'∧k+i=I.items.length∧aX (RlS X.K X.mg) WE μ' S' H' (eZ g m I.gd (I.items.drop i) τ' S') D.at,
   ⟨I.items.length,μ1,S1,τ,Step.refl st1.hr,sr.step st1,io.ok,by simp,p1⟩,?_⟩
  rintro i k σ' H' ⟨μ',S',τ',st',sr',ok',hk,p'⟩
  by_cases hlt:i < I.items.length
  ·have hz:I.items[i]?=some I.items[i]:=List.getElem?_eq_getElem hlt
   rw [List.drop_eq_getElem_cons hlt,eZ] at p'
   refine .inr ⟨io.go i _ μ' S' H' st' ok' hz,_,fun σ2 H2 n=>⟨I.items.length - (i+1),by omega,n⟩,fun x H2 y=>?_⟩
   obtain ⟨st2,rx⟩:=io.yld i _ μ' S' H' x H2 st' ok' hz y
   refine ⟨μ',S',τ',_,st2.hr,sr'.step st2,rx,(p'.shift st2).bind fun σ3 τ3 S3 μ3 H3 st3 sr3 p3=>⟨μ3,S3,τ3,st3.hr,sr3,p3.bind fun q qq S4 μ4 H4 st4 r4 p4=>?_⟩⟩
   obtain ⟨fv,σ4⟩:=q
   obtain ⟨fl,τ4⟩:=qq
   obtain ⟨sr4,fr⟩:=r4
   have go:∀ {b},aX (RlS X.K X.mg) WE μ4 S4 H4 (if gok I.gd S4 then eZ g m I.gd (I.items.drop (i+1)) τ4 S4 else .bad) D.at→b=σ4→∃ μ' S' τ',Step μ1 S1 H1 μ' S' H4∧cc X.K X.mg μ' S' H4 b τ'∧I.ok S'∧I.items.length - (i+1)+(i+1)=I.items.length∧aX (RlS X.K X.mg) WE μ' S' H4 (eZ g m I.gd (I.items.drop (i+1)) τ' S') D.at:=by
    rintro b p5 rfl
    split at p5
    ·exact ⟨μ4,S4,τ4,st'.trans (st2.trans (st3.trans st4)),sr4,AG ‹_›,by omega,p5⟩
    ·exact p5.elim
   cases fl with
   | nx=>cases fv with
    | nx=>exact go p4 rfl
    | _=>exact (show False from fr).elim
   | ct=>cases fv with
    | ct=>exact go p4 rfl
    | _=>exact (show False from fr).elim
   | bk=>cases fv with
    | bk=>exact (show D.at (FlV.nx,σ4) H4 from aX.here (b:=(FlV.nx,σ4)) st4.hr p4 ⟨sr4,True.intro⟩)
    | _=>exact (show False from fr).elim
   | rt z=>cases fv with
    | rt v=>exact (show D.at (FlV.rt v,σ4) H4 from aX.here (b:=(FlV.rt v,σ4)) st4.hr p4 ⟨sr4,fr⟩)
    | _=>exact (show False from fr).elim
  ·rw [List.drop_eq_nil_of_le (by omega),eZ] at p'
   exact .inl ⟨io.stop i μ' S' H' st' ok' (by omega),p'.here (b:=(FlV.nx,σ')) st'.hr ⟨sr',True.intro⟩⟩⟩⟩
end
open Classical in
noncomputable def dC (g:XG) (t:XT) (e:XE) (n:Nat) (gd:Option (Nat×Ob)):List Vl→List D→Nv→Sto→R (List D)
 | [],acc,_,S=>if S[n]?=some (.lst acc) then .ok acc S else .bad
 | z :: zs,acc,τ,S=>(g z τ S).bind fun τ1 S1=>(t τ1 S1).bind fun b S2=>if b=true then (e τ1 S2).bind fun v S3=>(match v with
   | .d x=>if S3[n]?=some (.lst acc)∧gok gd (S3.set n (.lst (acc++[x]))) then dC g t e n gd zs (acc++[x]) τ1 (S3.set n (.lst (acc++[x]))) else .bad
   | _=>.bad)
  else if gok gd S2 then dC g t e n gd zs acc τ1 S2 else .bad
def jD (n:Nat) (acc:List D) (S:Sto):R Vl:=.ok (.d (.lst acc)) (if S.length=n+1 then S.take n else S.set n .dead)
noncomputable def pM (fin:Nat→List D→Sto→R Vl) (it:XI) (k:Nat) (g:XG) (t:XT) (e:XE):XE:=fun τ S=>(it τ S).bind fun I S1=>(dC g t e S1.length I.gd I.items [] (List.replicate k none++τ) (S1++[.lst []])).bind fun acc S2=>fin S1.length acc S2
noncomputable abbrev xLC:XI→Nat→XG→XT→XE→XE:=pM jD
def m8 (fin:Nat→List D→Sto→R Vl):Prop:=∀ (K:PySem.W.Frag) (mg:Str→Option Value) (WE:WX) (μ μ':Nat→Addr) (S S':Sto) (H H':Hp) (acc:List D) (D:Addr) (Q:VK),Step μ S H μ' S' H'→S'[S.length]?=some (.lst acc)→μ' S.length=D→aX (aZ K mg) WE μ S H (fin S.length acc S') Q→Q (.ref D) H'
theorem bC:m8 jD:=by
 intro K mg WE μ μ' S S' H H' acc D Q st e hD p
 obtain ⟨vs,h,rs⟩:=st.hr.ob _ _ e
 have hn:S.length < S'.length:=(List.getElem?_eq_some_iff.mp e).1
 unfold jD at p
 by_cases hl:S'.length=S.length+1
 ·rw [if_pos hl] at p
  refine p _ _ _ st.take (Rep.lst (vs:=vs) (bT (by rw [← hD];exact h) ?_) (rs.mono dA))
  rintro ⟨m,u,e2,d2,q⟩
  obtain ⟨hm,e3⟩:=dj e2
  have:=st.hr.inj m S.length u _ e3 e d2 (by simp) (by rw [q,hD])
  omega
 ·rw [if_neg hl] at p
  obtain ⟨st2,na⟩:=Step.freeze st.hr e (by simp)
  refine p _ _ _ (st.trans st2) (Rep.lst (vs:=vs) (bT (by rw [← hD];exact h) (by rw [← hD];exact na)) (rs.mono st2.vis))
section
variable {X:Cx} {WE:WX} {tg elt iter:Expr} {ifs:List Expr} {scope:Scope} {pos:Pos} {it:XI} {g:XG} {t:XT} {e:XE} {N:List Str} {k:Nat} {fin:Nat→List D→Sto→R Vl}
theorem yS:RTs X WE [] (fun _ S=>.ok true S):=⟨fun pins s σ H Q I ⟨μ,S,τ,hr,sr,p⟩=>ze pins s σ H Q I (p.here hr rfl)⟩
theorem z_ {c:Expr} (h:RT X WE c t):RTs X WE [c] t:=⟨yO h.h⟩
theorem aX.tw {α β γ δ:Type} {Rl:(Nat→Addr)→Sto→Hp→β→α→Prop} {Rl2:(Nat→Addr)→Sto→Hp→δ→γ→Prop} {μ μ1:Nat→Addr} {S S1:Sto} {H H1:Hp} {res:R α} {Q:β→Hp→Prop} {Q2:δ→Hp→Prop} {f:α→Sto→R γ}
  (h:aX Rl2 WE μ S H (res.bind f) Q2) (a:Step μ S H μ1 S1 H1) (kk:∀ b x S2 μ2 H2,Step μ1 S1 H1 μ2 S2 H2→Rl μ2 S2 H2 b x→aX Rl2 WE μ S H (f x S2) Q2→Q b H2):aX Rl WE μ1 S1 H1 res Q:=by
 cases res with
 | ok x S'=>exact fun b μ' H' st r=>kk b x S' μ' H' st r h
 | ex c xs S'=>exact fun μ' H' st=>h μ' H' (a.trans st)
 | bad=>exact h
open Classical in
theorem x_ (hfin:m8 fin) {σ:St} {H:Hp} {Q:VK} (h:trE X.K X.mg WE (pM fin it k g t e) σ H Q):tLC (trI X.K X.mg WE it) (trG X.K X.mg WE g) (trT X.K X.mg WE t) (trE X.K X.mg WE e) k σ H Q:=by
 obtain ⟨μ,S,τ,hr,sr,p⟩:=h
 refine ⟨μ,S,τ,hr,sr,p.bind fun J I S1 μ1 H1 st1 io p1=>fun D hD=>?_⟩
 have st0:Step μ1 S1 H1 (ext μ1 S1.length D) (S1++[.lst []]) (upd H1 D (.lst [])):=Step.alloc st1.hr hD (ob:=.lst []) ⟨[],rfl,.nil⟩
 have hlen:(S1++[Ob.lst []]).length=S1.length+1:=by simp
 refine ⟨fun i j σ' H'=>∃ μ' S' τ' acc,Step (ext μ1 S1.length D) (S1++[.lst []]) (upd H1 D (.lst [])) μ' S' H'∧cc X.K X.mg μ' S' H' σ' τ'∧I.ok S'∧j+i=I.items.length∧acc.length≤i ∧
   aX (aZ X.K X.mg) WE μ1 S1 H1 ((dC g t e S1.length I.gd (I.items.drop i) acc τ' S').bind fun acc S2=>fin S1.length acc S2) Q,
  ⟨I.items.length,_,_,_,[],Step.refl st0.hr,((sr.step st1).step st0).pre k,?_,by simp,Nat.le_refl _,p1⟩,?_⟩
 ·have ok:=io.ok
  unfold Its.ok at ok ⊢
  split
  ·trivial
  ·rename_i n o hg
   rw [hg] at ok
   have hn:n < S1.length:=(List.getElem?_eq_some_iff.mp ok).1
   rw [List.getElem?_append_left hn];exact ok
 rintro i j σ' H' ⟨μ',S',τ',acc,st',sr',ok',hj,hacc,p'⟩
 have stA:=st0.trans st'
 have hn:S1.length < S'.length:=by have:=st'.le;omega
 have hμ:μ' S1.length=D:=by rw [st'.ag S1.length (by omega),dn]
 by_cases hlt:i < I.items.length
 ·have hz:I.items[i]?=some I.items[i]:=List.getElem?_eq_getElem hlt
  rw [List.drop_eq_getElem_cons hlt,dC] at p'
  refine .inr ⟨io.go i _ μ' S' H' stA ok' hz,_,fun σ2 H2 n=>⟨I.items.length - (i+1),by omega,n⟩,fun x H2 y=>?_⟩
  obtain ⟨st2,rx⟩:=io.yld i _ μ' S' H' x H2 stA ok' hz y
  have bb:∀ {α β γ:Type} (r:R α) (f:α→Sto→R β) (f':β→Sto→R γ),(r.bind f).bind f'=r.bind fun a S=>(f a S).bind f':=fun r f f'=>by cases r<;>rfl
  simp only [bb] at p'
  refine ⟨μ',S',τ',_,st2.hr,sr'.step st2,rx,p'.tw (stA.trans st2) fun σ3 τ3 S3 μ3 H3 st3 sr3 p3=>?_⟩
  refine ⟨μ3,S3,τ3,st3.hr,sr3,p3.tw (stA.trans (st2.trans st3)) fun b b' S4 μ4 H4 st4 r4 p4=>?_⟩
  cases (show b=b' from r4)
  have st24:=st2.trans (st3.trans st4)
  by_cases hb:b=true
  ·rw [if_pos hb] at p4 ⊢
   rw [bb] at p4
   refine ⟨μ4,S4,τ3,st4.hr,sr3.step st4,p4.tw (stA.trans st24) fun v z S5 μ5 H5 st5 r5 p5=>?_⟩
   have st25:=st24.trans st5
   cases z with
   | d x=>
    try dsimp only at p5
    by_cases hif:S5[S1.length]?=some (.lst acc)∧gok I.gd (S5.set S1.length (.lst (acc++[x])))
    ·rw [if_pos hif] at p5
     obtain ⟨vs,h5,rs⟩:=st5.hr.ob _ _ hif.1
     have hμ5:μ5 S1.length=D:=by rw [st25.ag S1.length (by omega)];exact hμ
     rw [hμ5] at h5
     have sp:Step μ5 S5 H5 μ5 (S5.set S1.length (.lst (acc++[x]))) (upd H5 (μ5 S1.length) (.lst (vs++[v]))):=Step.put st5.hr hif.1 (by simp) (ob:=.lst (acc++[x])) ⟨_,rfl,rs.append (.cons r5 .nil)⟩
     rw [hμ5] at sp
     have lz:=io.len
     have lv:=rs.length
     refine ⟨vs,h5,by omega,μ5,_,τ3,acc++[x],st'.trans (st25.trans sp),(sr3.step (st4.trans st5)).step sp,hif.2,by omega,by simp;omega,p5⟩
    ·rw [if_neg hif] at p5
     exact p5.elim
   | _=>exact p5.elim
  ·rw [if_neg hb] at p4 ⊢
   by_cases hif:gok I.gd S4
   ·rw [if_pos hif] at p4
    exact ⟨μ4,S4,τ3,acc,st'.trans st24,sr3.step st4,hif,by omega,by omega,p4⟩
   ·rw [if_neg hif] at p4
    exact p4.elim
 ·rw [List.drop_eq_nil_of_le (by omega),dC] at p'
  refine .inl ⟨io.stop i μ' S' H' stA ok' (by omega),?_⟩
  by_cases hif:S'[S1.length]?=some (.lst acc)
  ·rw [if_pos hif] at p'
   exact hfin X.K X.mg WE μ1 μ' S1 S' H1 H' acc D Q stA hif hμ p'
  ·rw [if_neg hif] at p'
   exact p'.elim
theorem rt0:∀ C s H fp,RTs (bH X scope N C s H fp) WE [] (fun _ S=>.ok true S):=fun _ _ _ _=>yS
theorem bL {esc:Scope} {EN:List Str} (hfin:m8 fin) (N:List Str) (q:LQ esc EN) (hi:RI X WE tg iter it) (hg:∀ C s H fp,LQ scope N→RG (bH X scope N C s H fp) WE tg g) (ht:∀ C s H fp,RTs (bH X scope N C s H fp) WE ifs t) (he:∀ C s H fp,RE (bH X scope N C s H fp) WE elt e) (hd:N.Nodup:=by decide +kernel)
  (Sc:dU esc scope EN N k:=by exact ⟨rfl,by decide +kernel,by decide +kernel,by decide +kernel,by decide +kernel,by decide +kernel⟩) (h1:X.env.scope=esc:=by exact rfl) (h2:X.N=EN:=by exact rfl) (hc:X.calm=true:=by exact rfl) (hs:∀ x,foldedSetIterable iter X.env x=pure x:=by intro _;rfl):RE X WE (.ListComp elt [⟨tg,iter,ifs,0⟩] scope pos) (pM fin it k g t e):=
 ⟨(DH hc Sc h1 h2 hi.h (fun C s H fp=>(hg C s H fp ⟨hd⟩).h) (fun C s H fp=>(ht C s H fp).h) (fun C s H fp=>(he C s H fp).h) hs).weak fun σ H Q h=>x_ (X:=X) hfin h⟩
theorem Ea {esc:Scope} {EN:List Str} {i:Nat} {y:Str} {py spos:Pos} (hfin:m8 fin) (N:List Str) (q:LQ esc EN) (hi:RI X WE tg iter it) (hg:∀ C s H fp,LQ scope N→RG (bH X scope N C s H fp) WE tg g) (ht:∀ C s H fp,RTs (bH X scope N C s H fp) WE ifs t) (he:∀ C s H fp,RE (bH X scope N C s H fp) WE elt e)
  (hi':X.N[i]?=some y:=by exact rfl) (hy:Loc X.env.scope y:=by first | exact .inl rfl | exact .inr rfl) (hd:N.Nodup:=by decide +kernel)
  (Sc:dU esc scope EN N k:=by exact ⟨rfl,by decide +kernel,by decide +kernel,by decide +kernel,by decide +kernel,by decide +kernel⟩) (h1:X.env.scope=esc:=by exact rfl) (h2:X.N=EN:=by exact rfl) (hc:X.calm=true:=by exact rfl)
  (hsw:swapsWith (.ListComp elt [⟨tg,iter,ifs,0⟩] scope pos) (some (.Name y py)) spos.line X.env=pure true:=by rfl)
  (hs:∀ x,foldedSetIterable iter X.env x=pure x:=by intro _;rfl) (hf:X.fn y=true∨X.env.scope.names.lookup y=some .local:=by first | exact .inl rfl | exact .inr rfl | assumption) :
  RS X WE (.Assign [.Name y py] (.ListComp elt [⟨tg,iter,ifs,0⟩] scope pos) spos) (aR (pM fin it k g t e) (gNm i)):=
 ⟨(E6 (h2 ▸ q.nd) hi' hy hc Sc h1 h2 hi.h (fun C s H fp=>(hg C s H fp ⟨hd⟩).h) (fun C s H fp=>(ht C s H fp).h) (fun C s H fp=>(he C s H fp).h) hsw hs hf).weak fun D0 σ H ⟨μ,S,τ,hr,sr,p⟩=>by
  refine x_ (X:=X) (WE:=WE) (g:=g) (t:=t) (e:=e) hfin ⟨μ,S,τ,hr,sr,?_⟩
  exact p.bind fun v x S1 μ1 H1 st1 r1 p1=>p1.here (b:=(FlV.nx,σ.set i (some v))) st1.hr ⟨(sr.step st1).set i r1,True.intro⟩⟩
end
def cw (x:Vl) (S:Sto):Option (List D):=match x with
 | .d (.lst xs)=>some xs
 | .r n=>(match S[n]? with
  | some (.lst xs)=>some xs
  | _=>none)
 | _=>none
def bW (x:Vl) (S:Sto):Option (List D):=match x with
 | .d (.tup xs)=>some xs
 | x=>cw x S
section
variable {K:PySem.W.Frag} {mg:Str→Option Value} {μ:Nat→Addr} {S:Sto} {H:Hp} {v:V} {x:Vl} {ds:List D} {WE:WX} {Q:VK}
theorem dr (hr:HR μ S H) (r:aZ K mg μ S H v x) (e:cw x S=some ds):∃ a vs,v=.ref a∧H a=some (.lst vs)∧ax (vh μ S H) vs ds:=by
 unfold cw at e
 split at e
 ·cases e
  cases (show Rep (vh μ S H) v (.lst _) from r) with
  | lst h rs=>exact ⟨_,_,rfl,(bq h).2,rs⟩
 ·split at e
  ·rename_i q
   cases e
   obtain ⟨rfl,hn⟩:=r
   obtain ⟨vs,h,rs⟩:=hr.ob _ _ q
   exact ⟨_,vs,rfl,h,rs⟩
  ·cases e
 ·cases e
theorem h9 (hr:HR μ S H) (r:aZ K mg μ S H v x) (e:bW x S=some ds):∃ a vs,v=.ref a∧(H a=some (.lst vs)∨H a=some (.tup vs))∧ax (vh μ S H) vs ds:=by
 unfold bW at e
 split at e
 ·cases e
  cases (show Rep (vh μ S H) v (.tup _) from r) with
  | tup h rs=>exact ⟨_,_,rfl,.inr (bq h).2,rs⟩
 ·obtain ⟨a,vs,e1,e2,e3⟩:=dr hr r e
  exact ⟨a,vs,e1,.inl e2,e3⟩
theorem k7 (h:H a=some (.lst vs)∨H a=some (.tup vs)):h_ H a=some vs:=h.elim Ay Bd
theorem bw (r:aZ K mg μ S H v (.d (.int i))):v=.int i:=by cases (show Rep (vh μ S H) v (.int i) from r);rfl
theorem mY (r:aZ K mg μ S H v (.d (.bl i))):v=.bl i:=by cases (show Rep (vh μ S H) v (.bl i) from r);rfl
theorem fQ (r:aZ K mg μ S H v (.d (.str i))):v=.str i:=by cases (show Rep (vh μ S H) v (.str i) from r);rfl
theorem dQ (r:aZ K mg μ S H v (.d .non)):v=.non:=by cases (show Rep (vh μ S H) v .non from r);rfl
theorem kq (r:aZ K mg μ S H v (.d (.tup ds))):∃ a vs,v=.ref a∧H a=some (.tup vs)∧vh μ S H a=some (.tup vs)∧ax (vh μ S H) vs ds:=by
 cases (show Rep (vh μ S H) v (.tup _) from r) with
 | tup h rs=>exact ⟨_,_,rfl,(bq h).2,h,rs⟩
end
def oI (C:Int→Int→Prop) [∀ i j,Decidable (C i j)] (f:Int→Int→D) (x y:Vl) (S:Sto):R Vl:=match x,y with
 | .d (.int i),.d (.int j)=>if C i j then .ok (.d (f i j)) S else .bad
 | _,_=>.bad
def oI0 (f:Int→Int→D) (x y:Vl) (S:Sto):R Vl:=match x,y with
 | .d (.int i),.d (.int j)=>.ok (.d (f i j)) S
 | _,_=>.bad
section
variable {K:PySem.W.Frag} {mg:Str→Option Value}
theorem bV [∀ i j,Decidable (C i j)] (f:Int→Int→Int):cH K mg (rI C fun i j=>V.int (f i j)) (oI C fun i j=>D.int (f i j)):=by
 intro WE μ S H v w x y Q hr rx ry p
 unfold oI at p
 split at p
 ·split at p
  ·exact ⟨_,_,bw rx,bw ry,‹_›,p.here hr (Rep.int _)⟩
  ·exact p.elim
 ·exact p.elim
theorem gP (f:Int→Int→Int):cH K mg (rI0 fun i j=>V.int (f i j)) (oI0 fun i j=>D.int (f i j)):=by
 intro WE μ S H v w x y Q hr rx ry p
 unfold oI0 at p
 split at p
 ·exact ⟨_,_,bw rx,bw ry,p.here hr (Rep.int _)⟩
 ·exact p.elim
theorem bQ (f:Int→Int→Bool):cH K mg (rI0 fun i j=>V.bl (f i j)) (oI0 fun i j=>D.bl (f i j)):=by
 intro WE μ S H v w x y Q hr rx ry p
 unfold oI0 at p
 split at p
 ·exact ⟨_,_,bw rx,bw ry,p.here hr (Rep.bl _)⟩
 ·exact p.elim
end
instance (i j:Int):Decidable (jA i j):=by unfold jA;infer_instance
instance (i j:Int):Decidable (nA i j):=by unfold nA;infer_instance
instance (i j:Int):Decidable (nc i j):=by unfold nc;infer_instance
abbrev kD:=oI0 fun i j=>D.int (i - j)
abbrev f6:=oI jA fun i j=>D.int (i * j)
abbrev oMod:=oI (fun _ j=>0 < j) fun i j=>D.int (i % j)
abbrev oDiv:=oI nA fun i j=>D.int (i / j)
abbrev sH:=oI nc fun i j=>D.int (i ^ j.toNat)
abbrev oLt:=oI0 fun i j=>D.bl (decide (i < j))
abbrev oLe:=oI0 fun i j=>D.bl (decide (i≤j))
abbrev oGt:=oI0 fun i j=>D.bl (decide (j < i))
abbrev oGe:=oI0 fun i j=>D.bl (decide (j≤i))
def fm (x:Vl) (S:Sto):R Vl:=match x with
 | .d (.int i)=>.ok (.d (.int (-i))) S
 | _=>.bad
def bz (x y:Vl) (S:Sto):R Vl:=match x,y with
 | .d (.int i),.d (.int j)=>.ok (.d (.int (i+j))) S
 | .d (.tup a),.d (.tup b)=>if a.length+b.length≤100000 then .ok (.d (.tup (a++b))) S else .bad
 | .d (.str a),.d (.str b)=>if a.length+b.length≤100000 then .ok (.d (.str (a++b))) S else .bad
 | x,y=>(match cw x S,cw y S with
  | some a,some b=>if a.length+b.length≤100000 then .ok (.d (.lst (a++b))) S else .bad
  | _,_=>.bad)
def eqD (x y:Vl) (S:Sto):Option Bool:=match x,y with
 | .d .non,.d .non=>some true
 | .d .non,.d (.int _)=>some false
 | .d .non,.d (.str _)=>some false
 | .d (.int _),.d .non=>some false
 | .d (.str _),.d .non=>some false
 | .d (.int i),.d (.int j)=>some (decide (i=j))
 | .d (.bl i),.d (.bl j)=>some (decide (i=j))
 | .d (.str i),.d (.str j)=>some (decide (i=j))
 | .d (.int _),.d (.str _)=>some false
 | .d (.str _),.d (.int _)=>some false
 | .d (.tup a),.d (.tup b)=>if D.depth (.tup a)≤50 then some (D.b9 a b) else none
 | x,y=>(match cw x S,cw y S with
  | some a,some b=>if D.depth (.lst a)≤50 then some (D.b9 a b) else none
  | _,_=>none)
def oEq (x y:Vl) (S:Sto):R Vl:=match eqD x y S with
 | some b=>.ok (.d (.bl b)) S
 | none=>.bad
def oNe (x y:Vl) (S:Sto):R Vl:=match eqD x y S with
 | some b=>.ok (.d (.bl (!b))) S
 | none=>.bad
def oIs (x y:Vl) (S:Sto):R Vl:=match x,y with
 | .d (.bl a),.d (.bl b)=>.ok (.d (.bl (a == b))) S
 | .d .non,.d .non=>.ok (.d (.bl true)) S
 | .fn _,_=>.bad
 | .sc _,_=>.bad
 | _,.d .non=>.ok (.d (.bl false)) S
 | _,_=>.bad
def pj (x y:Vl) (S:Sto):R Vl:=match x,y with
 | .d (.bl a),.d (.bl b)=>.ok (.d (.bl (a != b))) S
 | .d .non,.d .non=>.ok (.d (.bl false)) S
 | .fn _,_=>.bad
 | .sc _,_=>.bad
 | _,.d .non=>.ok (.d (.bl true)) S
 | _,_=>.bad
section
variable {K:PySem.W.Frag} {mg:Str→Option Value}
theorem dz:Bf K mg (rU fun i=>.int (-i)) fm:=by
 intro WE μ S H v x Q hr rx p
 unfold fm at p
 split at p
 ·exact ⟨_,bw rx,p.here hr (Rep.int _)⟩
 ·exact p.elim
def t8:R2:=fun x y H Q=>yE x y H Q∨∃ i j,x=.str i∧y=.str j∧i.length+j.length≤sizeLine∧Q (.str (i++j)) H
theorem aY:OpR X (binaryOp .Add) t8:=zL.or t9
theorem a_:cH K mg t8 bz:=by
 intro WE μ S H v w x y Q hr rx ry p
 unfold bz at p
 split at p
 ·exact .inl (.inl ⟨_,_,bw rx,bw ry,p.here hr (Rep.int _)⟩)
 ·split at p
  ·rename_i a b hl
   obtain ⟨p1,us,rfl,h1,g1,r1⟩:=kq rx
   obtain ⟨p2,ws,rfl,h2,g2,r2⟩:=kq ry
   have l1:=r1.length
   have l2:=r2.length
   refine .inl (.inr ⟨p1,p2,rfl,rfl,.inl ⟨us,ws,h1,h2,kK (by omega),fun e=>?_,fun _ e=>?_,fun _ _ q hq=>p.sI hr (r1.append r2) q hq⟩⟩)
   ·subst e
    have:a=[]:=List.eq_nil_of_length_eq_zero l1.symm
    subst this
    exact p.here hr (Rep.tup g2 r2)
   ·subst e
    have:b=[]:=List.eq_nil_of_length_eq_zero l2.symm
    subst this
    rw [List.append_nil] at p
    exact p.here hr (Rep.tup g1 r1)
  ·exact p.elim
 ·split at p
  ·exact .inr ⟨_,_,fQ rx,fQ ry,kK ‹_›,p.here hr (Rep.str _)⟩
  ·exact p.elim
 ·split at p
  ·rename_i a b e1 e2
   split at p
   ·obtain ⟨p1,us,rfl,h1,r1⟩:=dr hr rx e1
    obtain ⟨p2,ws,rfl,h2,r2⟩:=dr hr ry e2
    have l1:=r1.length
    have l2:=r2.length
    exact .inl (.inr ⟨p1,p2,rfl,rfl,.inr ⟨us,ws,h1,h2,kK (by omega),fun q hq=>p.l8 hr (r1.append r2) q hq⟩⟩)
   ·exact p.elim
  ·exact p.elim
theorem yl (hr:HR μ S H) (rx:aZ K mg μ S H v x) (ry:aZ K mg μ S H w y) (e:eqD x y S=some b) :
  (xq v w=true∧decide (v=w)=b)∨∃ d e,Rep H v d∧Rep H w e∧D.depth d≤50∧((∃ ds es,d=.tup ds∧e=.tup es)∨∃ ds es,d=.lst ds∧e=.lst es)∧D.eqv d e=b:=by
 unfold eqD at e
 split at e
 ·cases e;rw [dQ rx,dQ ry];exact .inl ⟨rfl,by decide⟩
 ·cases e;rw [dQ rx,bw ry];exact .inl ⟨rfl,by simp⟩
 ·cases e;rw [dQ rx,fQ ry];exact .inl ⟨rfl,by simp⟩
 ·cases e;rw [bw rx,dQ ry];exact .inl ⟨rfl,by simp⟩
 ·cases e;rw [fQ rx,dQ ry];exact .inl ⟨rfl,by simp⟩
 ·cases e;rw [bw rx,bw ry];exact .inl ⟨rfl,by simp only [V.int.injEq]⟩
 ·cases e;rw [mY rx,mY ry];exact .inl ⟨rfl,by simp only [V.bl.injEq]⟩
 ·cases e;rw [fQ rx,fQ ry];exact .inl ⟨rfl,by simp only [V.str.injEq]⟩
 ·cases e;rw [bw rx,fQ ry];exact .inl ⟨rfl,by simp⟩
 ·cases e;rw [fQ rx,bw ry];exact .inl ⟨rfl,by simp⟩
 ·split at e
  ·cases e
   refine .inr ⟨_,_,Rep.mono cz rx,Rep.mono cz ry,‹_›,.inl ⟨_,_,rfl,rfl⟩,?_⟩
   simp only [D.eqv]
  ·cases e
 ·split at e
  ·rename_i a b e1 e2
   split at e
   ·cases e
    obtain ⟨p1,us,rfl,h1,r1⟩:=dr hr rx e1
    obtain ⟨p2,ws,rfl,h2,r2⟩:=dr hr ry e2
    refine .inr ⟨.lst a,.lst b,.lst h1 (r1.mono cz),.lst h2 (r2.mono cz),‹_›,.inr ⟨_,_,rfl,rfl⟩,?_⟩
    simp only [D.eqv]
   ·cases e
  ·cases e
theorem bh:cH K mg CJ oEq:=by
 intro WE μ S H v w x y Q hr rx ry p
 unfold oEq at p
 split at p
 ·rename_i b e
  have q:=p.here hr (Rep.bl b)
  rcases yl hr rx ry e with ⟨h1,h2⟩ | ⟨d,d',h1,h2,h3,h4,h5⟩
  ·exact .inl ⟨h1,by rw [h2];exact q⟩
  ·exact .inr ⟨d,d',h1,h2,h3,h4,by rw [h5];exact q⟩
 ·exact p.elim
theorem eY:cH K mg CI oNe:=by
 intro WE μ S H v w x y Q hr rx ry p
 unfold oNe at p
 split at p
 ·rename_i b e
  have q:=p.here hr (Rep.bl (!b))
  rcases yl hr rx ry e with ⟨h1,h2⟩ | ⟨d,d',h1,h2,h3,h4,h5⟩
  ·exact .inl ⟨h1,by rw [h2];exact q⟩
  ·exact .inr ⟨d,d',h1,h2,h3,h4,by rw [h5];exact q⟩
 ·exact p.elim
theorem yN (r:aZ K mg μ S H v x) (h1:x≠.d .non):v≠.non:=by
 rintro rfl
 cases x with
 | d x=>cases (show Rep (vh μ S H) .non x from r);exact h1 rfl
 | r n=>obtain ⟨e,_⟩:=r;cases e
 | fd kvs=>obtain ⟨_,_,_,e,_⟩:=r;cases e
 | pr x n=>obtain ⟨_,_,e,_⟩:=r;cases e
 | fn x=>obtain ⟨_,_,e⟩:=r;cases e
 | sc ns=>obtain ⟨_,e,_⟩:=r;cases e
 | xc c xs=>obtain ⟨_,_,e,_⟩:=r;cases e
 | kt ws=>obtain ⟨_,e,_⟩:=r;cases e
 | xl es=>obtain ⟨_,_,e,_⟩:=r;cases e
theorem vL:cH K mg B9 oIs:=by
 intro WE μ S H v w x y Q hr rx ry p
 unfold oIs at p
 split at p
 ·rw [mY rx,mY ry];exact .inl ⟨_,_,rfl,rfl,p.here hr (Rep.bl _)⟩
 ·rw [dQ rx,dQ ry];exact .inr ⟨rfl,by rw [decide_eq_true rfl];exact p.here hr (Rep.bl _)⟩
 ·exact p.elim
 ·exact p.elim
 ·rename_i h _ _
  rw [dQ ry]
  exact .inr ⟨rfl,by rw [decide_eq_false (yN rx h)];exact p.here hr (Rep.bl _)⟩
 ·exact p.elim
end
def D.flat:D→Bool
 | .tup _=>false
 | .lst _=>false
 | _=>true
def inD (x:D) (ds:List D):Bool:=ds.any fun e=>D.eqv e x
def inX (x y:Vl) (S:Sto):Option Bool:=match x with
 | .d x=>(match bW y S with
  | some ds=>if (D.flat x && ds.all D.flat)=true then some (inD x ds) else (match cw y S with
   | some ds=>if D.bf ds≤50 then some (inD x ds) else none
   | none=>none)
  | none=>none)
 | _=>none
def oIn (x y:Vl) (S:Sto):R Vl:=match inX x y S with
 | some b=>.ok (.d (.bl b)) S
 | none=>.bad
def dN (x y:Vl) (S:Sto):R Vl:=match inX x y S with
 | some b=>.ok (.d (.bl (!b))) S
 | none=>.bad
def oIx (x y:Vl) (S:Sto):R Vl:=match y with
 | .d (.int i)=>(match bW x S with
  | some ds=>(match atI ds i with
   | some z=>.ok (.d z) S
   | none=>.bad)
  | none=>.bad)
 | _=>.bad
def eE (xs:List D) (lo hi:Option Int):List D:=(xs.drop (HT.sIx xs.length 0 lo)).take (HT.sIx xs.length xs.length hi - HT.sIx xs.length 0 lo)
def oSl (x:Vl) (lo hi:Option Int) (S:Sto):R Vl:=match x with
 | .d (.tup xs)=>.ok (.d (.tup (eE xs lo hi))) S
 | x=>(match cw x S with
  | some xs=>.ok (.d (.lst (eE xs lo hi))) S
  | none=>.bad)
def FJ (x y:Vl) (S:Sto):R Vl:=match x,y with
 | .d (.tup xs),.d (.int i)=>if i=-1 then .ok (.d (.tup xs.reverse)) S else .bad
 | _,_=>.bad
section
variable {K:PySem.W.Frag} {mg:Str→Option Value}
theorem pN (r:Rep H v d) (h:D.flat d=true):et v=true:=by cases r<;>first | rfl | cases h
theorem C8 (r:Rep H v d) (q:Rep H w e) (h:D.flat d=true) (h':D.flat e=true):eqV v w=D.eqv d e:=by
  cases r<;>cases q<;>first | rfl | cases h | cases h' | simp [eqV,D.eqv]
theorem ox:∀ {vs:List V} {ds:List D},ax H vs ds→ds.all D.flat=true→vs.all et=true
 | _,_,.nil,_=>rfl
 | _,_,.cons r t,h=>by
  rw [List.all_cons,Bool.and_eq_true] at h ⊢
  exact ⟨pN r h.1,ox t h.2⟩
theorem vH (r:Rep H v d) (h:D.flat d=true):∀ {vs:List V} {ds:List D},ax H vs ds→ds.all D.flat=true→inV v vs=inD d ds
 | _,_,.nil,_=>rfl
 | _,_,.cons q t,h'=>by
  rw [List.all_cons,Bool.and_eq_true] at h'
  have ih:=vH r h t h'.2
  unfold inV inD at ih ⊢
  rw [List.any_cons,List.any_cons,C8 q r h'.1 h,ih]
def pW (neg:Bool):R2:=fun x y H Q=>xK neg x y H Q∨xx neg x y H Q
theorem in_of (hr:HR μ S H) (rx:aZ K mg μ S H v x) (ry:aZ K mg μ S H w y) (e:inX x y S=some b) (q:Q (.bl (if neg then !b else b)) H):pW neg v w H Q:=by
 unfold inX at e
 split at e
 ·rename_i x
  split at e
  ·rename_i ds e1
   obtain ⟨a,vs,rfl,ha,rs⟩:=h9 hr ry e1
   split at e
   ·rename_i hf
    rw [Bool.and_eq_true] at hf
    cases e
    refine .inl ⟨a,vs,rfl,k7 ha,pN rx hf.1,ox rs hf.2,?_⟩
    rw [vH rx hf.1 rs hf.2]
    exact q
   ·split at e
    ·rename_i ds e2
     split at e
     ·cases e
      obtain ⟨a',vs',e3,ha',rs'⟩:=dr hr ry e2
      cases e3
      exact .inr ⟨_,vs',x,_,rfl,ha',rs'.mono cz,Rep.mono cz rx,‹_›,q⟩
     ·cases e
    ·cases e
  ·cases e
 ·cases e
theorem ve (hu:X.A.units+64 < cLine):OpR X (compareOp .In) (pW false):=Cb.or (B4 hu)
theorem kW (hu:X.A.units+64 < cLine):OpR X (compareOp .NotIn) (pW true):=uR.or (u7 hu)
theorem uQ:cH K mg (pW false) oIn:=by
 intro WE μ S H v w x y Q hr rx ry p
 unfold oIn at p
 split at p
 ·rename_i b e
  exact in_of hr rx ry e (p.here hr (Rep.bl b))
 ·exact p.elim
theorem kY:cH K mg (pW true) dN:=by
 intro WE μ S H v w x y Q hr rx ry p
 unfold dN at p
 split at p
 ·rename_i b e
  exact in_of hr rx ry e (p.here hr (Rep.bl (!b)))
 ·exact p.elim
theorem wx (rs:ax H vs ds) (e:atI ds i=some z):∃ v,atI vs i=some v∧Rep H v z:=by
 unfold atI at e ⊢
 rw [rs.length]
 cases q:ixN ds.length i with
 | none=>rw [q] at e;cases e
 | some j=>
  rw [q] at e
  obtain ⟨v,e1,r⟩:=rs.get' (show ds[j]?=some z from e)
  exact ⟨v,e1,r⟩
theorem A0:cH K mg CM oIx:=by
 intro WE μ S H v w x y Q hr rx ry p
 unfold oIx at p
 split at p
 ·split at p
  ·rename_i ds e1
   obtain ⟨a,vs,rfl,ha,rs⟩:=h9 hr rx e1
   split at p
   ·rename_i z e2
    obtain ⟨u,e3,ru⟩:=wx rs e2
    rw [bw ry]
    exact ⟨a,_,vs,u,rfl,rfl,k7 ha,e3,p.here hr ru⟩
   ·exact p.elim
  ·exact p.elim
 ·exact p.elim
theorem lN (rs:ax H vs ds) (lo hi:Option Int):ax H (gG vs lo hi) (eE ds lo hi):=by
 unfold gG eE
 rw [rs.length]
 exact (rs.drop _).take _
theorem uC {α:Type} {xs:List D} {lo hi:Option Int} (h:hW xs.length lo hi):eE xs lo hi=xs:=by
 unfold eE
 rw [h.1,h.2]
 simp
theorem qR {X:Cx} {WE:WX} {e:Expr} {lo hi:Option Expr} {xa:XE} {xl xh:XO} {p2 pos:Pos} (he:RE X WE e xa) (hl:RO X WE lo xl) (hh:RO X WE hi xh):RE X WE (.Subscript e (.Slice lo hi none p2) pos) (xSl oSl xa xl xh):=
 ⟨(lV FQ he.h hl.h hh.h).weak fun σ H Q ⟨μ,S,τ,hr,sr,p⟩=>⟨μ,S,τ,hr,sr,p.bind fun v x S1 μ1 H1 st1 r1 p1=>⟨μ1,S1,τ,st1.hr,sr.step st1,p1.bind fun i i' S2 μ2 H2 st2 r2 p2=>⟨μ2,S2,τ,st2.hr,sr.step (st1.trans st2),p2.bind fun j j' S3 μ3 H3 st3 r3 p3=>by
  cases (show i=i' from r2)
  cases (show j=j' from r3)
  have rv:=r1.step (st2.trans st3)
  unfold oSl at p3
  split at p3
  ·rename_i xs
   obtain ⟨a,vs,rfl,h,g,rs⟩:=kq rv
   refine ⟨a,rfl,.inl ⟨vs,h,fun hw=>?_,fun hw q hq=>p3.sI st3.hr (lN rs i j) q hq⟩⟩
   rw [rs.length] at hw
   rw [uC (α:=Unit) hw] at p3
   exact p3.here st3.hr (Rep.tup g rs)
  ·split at p3
   ·rename_i xs e1
    obtain ⟨a,vs,rfl,h,rs⟩:=dr st3.hr rv e1
    exact ⟨a,rfl,.inr ⟨vs,h,fun q hq=>p3.l8 st3.hr (lN rs i j) q hq⟩⟩
   ·exact p3.elim⟩⟩⟩⟩
theorem iY:RO X WE none cW:=⟨fun pins s σ H Q I ⟨μ,S,τ,hr,sr,p⟩=>yZ pins s σ H Q I (p.here hr rfl)⟩
theorem fD (he:RE X WE e xa):RO X WE (some e) (dW xa):=⟨fun pins s σ H Q I ⟨μ,S,τ,hr,sr,p⟩=>zr he.h pins s σ H Q I ⟨μ,S,τ,hr,sr,p.bind fun v x S1 μ1 H1 st1 r1 p1=>by
 try dsimp only at p1
 split at p1
 ·exact ⟨_,bw r1,p1.here st1.hr rfl⟩
 ·exact p1.elim⟩⟩
theorem aD (ha:RE X WE a xa) (hb:RE X WE b xb) (hs:jh b:=by exact fun _ _=>rfl):RE X WE (.Subscript a b pos) (xOp oIx xa xb):=⟨(yD Fi ha.h hb.h hs).weak fun _ _ _ h=>two (X:=X) A0 h⟩
end
def gr:List D→Option (List Bool)
 | []=>some []
 | .bl b :: r=>(gr r).map (b :: ·)
 | _=>none
def intsOf:List D→Option (List Int)
 | []=>some []
 | .int b :: r=>(intsOf r).map (b :: ·)
 | _=>none
theorem p_:∀ {ds:List D} {bs:List Bool},gr ds=some bs→ds=bs.map D.bl
 | [],_,e=>by simp [gr] at e;subst e;rfl
 | d :: ds,bs,e=>by
  cases d with
  | bl b=>
   simp only [gr,Option.map_eq_some_iff] at e
   obtain ⟨cs,e1,rfl⟩:=e
   rw [p_ e1];rfl
  | _=>simp [gr] at e
theorem iM:∀ {ds:List D} {bs:List Int},intsOf ds=some bs→ds=bs.map D.int
 | [],_,e=>by simp [intsOf] at e;subst e;rfl
 | d :: ds,bs,e=>by
  cases d with
  | int b=>
   simp only [intsOf,Option.map_eq_some_iff] at e
   obtain ⟨cs,e1,rfl⟩:=e
   rw [iM e1];rfl
  | _=>simp [intsOf] at e
theorem mU:∀ bs:List Int,intsOf (bs.map D.int)=some bs
 | []=>rfl
 | b :: bs=>by simp [intsOf,mU bs]
theorem ax.uM:∀ {vs:List V} {ns:List Bool},ax H vs (ns.map D.bl)→vs=ns.map V.bl
 | [],[],.nil=>rfl
 | v :: vs,n :: ns,.cons r t=>by
  cases r
  rw [List.map_cons,ax.uM t]
def insI (x:Int):List Int→List Int
 | []=>[x]
 | y :: ys=>if x≤y then x :: y :: ys else y :: insI x ys
def sortI:List Int→List Int
 | []=>[]
 | x :: xs=>insI x (sortI xs)
theorem insI_perm (x:Int):∀ ys,(insI x ys).Perm (x :: ys)
 | []=>.refl _
 | y :: ys=>by
  unfold insI
  split
  ·exact .refl _
  ·exact ((insI_perm x ys).cons y).trans (.swap x y ys)
theorem sortI_perm:∀ xs,(sortI xs).Perm xs
 | []=>.refl _
 | x :: xs=>(insI_perm x _).trans ((sortI_perm xs).cons x)
theorem om (x:Int):∀ ys:List Int,ys.Pairwise (·≤·)→(insI x ys).Pairwise (·≤·)
 | [],_=>by simp [insI]
 | y :: ys,h=>by
  unfold insI
  split
  ·rename_i hxy
   refine List.pairwise_cons.mpr ⟨fun z hz=>?_,h⟩
   rcases List.mem_cons.mp hz with e | e
   ·omega
   ·have:=(List.pairwise_cons.mp h).1 z e;omega
  ·rename_i hxy
   obtain ⟨h1,h2⟩:=List.pairwise_cons.mp h
   refine List.pairwise_cons.mpr ⟨fun z hz=>?_,om x ys h2⟩
   rcases List.mem_cons.mp ((insI_perm x ys).mem_iff.mp hz) with e | e
   ·omega
   ·exact h1 z e
theorem jH:∀ xs,(sortI xs).Pairwise (·≤·)
 | []=>.nil
 | x :: xs=>om x _ (jH xs)
theorem nk:∀ {xs ys:List Int},xs.Perm ys→xs.Pairwise (·≤·)→ys.Pairwise (·≤·)→xs=ys
 | [],ys,h,_,_=>by rw [List.nil_perm.mp h]
 | x :: xs,[],h,_,_=>by simpa using h.length_eq
 | x :: xs,y :: ys,h,h1,h2=>by
  obtain ⟨a1,a2⟩:=List.pairwise_cons.mp h1
  obtain ⟨b1,b2⟩:=List.pairwise_cons.mp h2
  have hx:x∈y :: ys:=h.mem_iff.mp (List.mem_cons_self ..)
  have hy:y∈x :: xs:=h.mem_iff.mpr (List.mem_cons_self ..)
  have e:x=y:=by
   rcases List.mem_cons.mp hx with e | e
   ·exact e
   ·rcases List.mem_cons.mp hy with e' | e'
    ·exact e'.symm
    ·have:=a1 y e';have:=b1 x e;omega
  subst e
  rw [nk (List.Perm.cons_inv h) a2 b2]
theorem qj (h:ys.Perm xs) (h1:ys.Pairwise (·≤·)):ys=sortI xs:=nk (h.trans (sortI_perm xs).symm) h1 (jH xs)
def bB (xs:List Vl) (S:Sto):R Vl:=match xs with
 | [x]=>(match bW x S with
  | some ds=>.ok (.d (.int ds.length)) S
  | none=>.bad)
 | _=>.bad
def bR (xs:List Vl) (S:Sto):R Vl:=match xs with
 | [x]=>(match bW x S with
  | some ds=>.ok (.d (.tup ds)) S
  | none=>.bad)
 | _=>.bad
def yv (xs:List Vl) (S:Sto):R Vl:=match xs with
 | [x]=>(match bW x S with
  | some ds=>.ok (.d (.lst ds)) S
  | none=>.bad)
 | _=>.bad
def kI (xs:List Vl) (S:Sto):R Vl:=match xs with
 | [x]=>(match bW x S with
  | some ds=>.ok (.r S.length) (S++[.lst ds])
  | none=>.bad)
 | _=>.bad
def fV (xs:List Vl) (S:Sto):R Vl:=match xs with
 | [x]=>(match (cw x S).bind gr with
  | some bs=>.ok (.d (.bl (bs.all id))) S
  | none=>.bad)
 | _=>.bad
def qk (xs:List Vl) (S:Sto):R Vl:=match xs with
 | [.d (.int i),.d (.int j)]=>.ok (.d (.int (if j > i then j else i))) S
 | _=>.bad
def lT (xs:List Vl) (S:Sto):R Vl:=match xs with
 | [.d (.int i),.d (.int j)]=>.ok (.d (.int (if j < i then j else i))) S
 | _=>.bad
section
variable {K:PySem.W.Frag} {mg:Str→Option Value}
theorem bE.one (r:bE K mg μ S H vs [x]):∃ v,vs=[v]∧aZ K mg μ S H v x:=by
 cases r with | cons r t=>cases t;exact ⟨_,rfl,r⟩
theorem bE.two (r:bE K mg μ S H vs [x,y]):∃ v w,vs=[v,w]∧aZ K mg μ S H v x∧aZ K mg μ S H w y:=by
 cases r with | cons r t=>cases t with | cons r' t'=>cases t';exact ⟨_,_,rfl,r,r'⟩
theorem aP:ft K mg yF bB:=by
 intro WE μ S H vs xs Q hr rs p
 unfold bB at p
 split at p
 ·obtain ⟨v,rfl,r⟩:=rs.one
  split at p
  ·obtain ⟨a,us,rfl,ha,rr⟩:=h9 hr r ‹_›
   exact ⟨a,us,rfl,k7 ha,by rw [rr.length];exact p.here hr (Rep.int _)⟩
  ·exact p.elim
 ·exact p.elim
theorem bJ:ft K mg rY bR:=by
 intro WE μ S H vs xs Q hr rs p
 unfold bR at p
 split at p
 ·rename_i x
  obtain ⟨v,rfl,r⟩:=rs.one
  split at p
  ·rename_i ds e
   unfold bW at e
   split at e
   ·cases e
    obtain ⟨a,us,rfl,h,g,rr⟩:=kq r
    exact ⟨a,rfl,.inr ⟨us,h,p.here hr (Rep.tup g rr)⟩⟩
   ·obtain ⟨a,us,rfl,h,rr⟩:=dr hr r e
    exact ⟨a,rfl,.inl ⟨us,h,fun q hq=>p.sI hr rr q hq⟩⟩
  ·exact p.elim
 ·exact p.elim
theorem tO:ft K mg vI kI:=by
 intro WE μ S H vs xs Q hr rs p
 unfold kI at p
 split at p
 ·obtain ⟨v,rfl,r⟩:=rs.one
  split at p
  ·obtain ⟨a,us,rfl,ha,rr⟩:=h9 hr r ‹_›
   exact ⟨a,us,rfl,k7 ha,fun q hq=>p.tL hr rr q hq⟩
  ·exact p.elim
 ·exact p.elim
theorem fw:ft K mg yI fV:=by
 intro WE μ S H vs xs Q hr rs p
 unfold fV at p
 split at p
 ·obtain ⟨v,rfl,r⟩:=rs.one
  split at p
  ·rename_i bs e
   obtain ⟨ds,e1,e2⟩:=Option.bind_eq_some_iff.mp e
   obtain ⟨a,us,rfl,ha,rr⟩:=dr hr r e1
   rw [p_ e2] at rr
   rw [ax.uM rr] at ha
   exact ⟨a,bs,rfl,ha,p.here hr (Rep.bl _)⟩
  ·exact p.elim
 ·exact p.elim
theorem pI:ft K mg CH qk:=by
 intro WE μ S H vs xs Q hr rs p
 unfold qk at p
 split at p
 ·obtain ⟨v,w,rfl,r1,r2⟩:=rs.two
  exact ⟨_,_,by rw [bw r1,bw r2],p.here hr (Rep.int _)⟩
 ·exact p.elim
theorem jr:ft K mg A5 lT:=by
 intro WE μ S H vs xs Q hr rs p
 unfold lT at p
 split at p
 ·obtain ⟨v,w,rfl,r1,r2⟩:=rs.two
  exact ⟨_,_,by rw [bw r1,bw r2],p.here hr (Rep.int _)⟩
 ·exact p.elim
end
def cy (T:String) (x:Vl) (S:Sto):R Vl:=match x with
 | .d d=>.ok (.d (.bl (isT T d))) S
 | .r n=>(match S[n]? with
  | some (.lst xs)=>.ok (.d (.bl (isT T (.lst xs)))) S
  | _=>.bad)
 | _=>.bad
section
variable {X:Cx} {WE:WX}
theorem br [n:NS e] (hm:X.mg "isinstance"=none) (hm2:X.mg nm=none) (hv:bootBuiltins nm=some (.type T)) (ha:RE X WE e xa) (hg:Gl X "isinstance":=by exact rfl) (hg2:Gl X nm:=by exact rfl) (ho:okT T=true:=by exact rfl)
  (hn:nm≠"__name__":=by decide) (hd:(nm == ("__debug__":Str))=false:=by decide) (hb:bootBuiltins "isinstance"=some (.builtin "isinstance"):=by decide +kernel)
  (hs2:starEach [.Name nm p2] X.env=(false,eval (.Name nm p2) X.env) :: starEach [] X.env:=by rfl) (hpl:(backTo pos (starEach [.Name nm p2] X.env)).any (·.1)=false:=by rfl) :
  RE X WE (.Call (.Name "isinstance" p) [e,.Name nm p2] [] pos) (xUn (cy T) xa):=
 ⟨(vP hg hm hg2 hm2 hv ho ha.h hn hd hb (n.eq _ X.env) hs2 hpl).weak fun σ H Q ⟨μ,S,τ,hr,sr,p⟩=>⟨μ,S,τ,hr,sr,p.bind fun v x S1 μ1 H1 st1 r1 p1=>by
  unfold cy at p1
  split at p1
  ·exact ⟨_,Rep.mono cz r1,p1.here st1.hr (Rep.bl _)⟩
  ·split at p1
   ·rename_i e
    obtain ⟨rfl,hn⟩:=r1
    obtain ⟨vs,h,rs⟩:=st1.hr.ob _ _ e
    exact ⟨_,Rep.lst h (rs.mono cz),p1.here st1.hr (Rep.bl _)⟩
   ·exact p1.elim
  ·exact p1.elim⟩⟩
def xLm (f:Nat→List D→D→Sto→R Vl) (o e:XE):XE:=fun τ S=>(o τ S).bind fun x S1=>match x with
 | .r n=>(match S1[n]? with
  | some (.lst _)=>(e τ S1).bind fun y S2=>(match y with
   | .d z=>(match S2[n]? with
    | some (.lst xs)=>f n xs z S2
    | _=>.bad)
   | _=>.bad)
  | _=>.bad)
 | _=>.bad
def fZ (n:Nat) (xs:List D) (z:D) (S:Sto):R Vl:=if xs.length < 100000 then .ok (.d .non) (S.set n (.lst (xs++[z]))) else .bad
theorem hV (ho:RE X WE o xo) (he:RE X WE e xe)
  (hbase:attributeBase o "append" X.env (eval o X.env)=eval o X.env:=by rfl)
  (hfew:((backTo cpos (starEach [e] X.env)).all (fun x=>!x.1) && (backToKw cpos (keywordEach [] X.env)).all (fun x=>x.1.isSome) && decide ([e].length+([]:List Keyword).length+(if ([]:List Keyword).isEmpty then 0 else 1) < 30))=true:=by rfl)
  (hline:(apos.endLine == cpos.line)=true:=by rfl) (hs:starEach [e] X.env=(false,eval e X.env) :: starEach [] X.env:=by rfl):RE X WE (.Call (.Attribute o "append" apos) [e] [] cpos) (xLm fZ xo xe):=
 ⟨(Cz ho.h he.h hbase hfew hline hs).weak fun σ H Q ⟨μ,S,τ,hr,sr,p⟩=>⟨μ,S,τ,hr,sr,p.bind fun v x S1 μ1 H1 st1 r1 p1=>by
  try dsimp only at p1
  split at p1
  ·rename_i n
   obtain ⟨rfl,hn⟩:=r1
   split at p1
   ·rename_i xs0 e0
    obtain ⟨vs0,h0,_⟩:=st1.hr.ob _ _ e0
    refine ⟨_,vs0,rfl,h0,μ1,S1,τ,st1.hr,sr.step st1,p1.bind fun w y S2 μ2 H2 st2 r2 p2=>?_⟩
    try dsimp only at p2
    split at p2
    ·split at p2
     ·rename_i z _ xs e2
      obtain ⟨vs,h2,rs⟩:=st2.hr.ob _ _ e2
      rw [st2.ag n hn] at h2
      unfold fZ at p2
      split at p2
      ·have lv:=rs.length
       have sp:=Step.put st2.hr e2 (by simp) (ob:=.lst (xs++[z])) ⟨_,rfl,rs.append (.cons r2 .nil)⟩
       rw [st2.ag n hn] at sp
       refine ⟨vs,h2,by rw [sizeLine_eq];omega,p2 _ _ _ sp Rep.non⟩
      ·exact p2.elim
     ·exact p2.elim
    ·exact p2.elim
   ·exact p1.elim
  ·exact p1.elim⟩⟩
def BA (r:V→List V→Hp→VK→Prop) (f:Nat→List D→D→Sto→R Vl):Prop:=∀ (K:PySem.W.Frag) (mg:Str→Option Value) (WE:WX) (μ:Nat→Addr) (S:Sto) (H:Hp) (n:Nat) (xs:List D) (vs:List V) (w:V) (z:D) (Q:VK),HR μ S H→S[n]?=some (.lst xs)→H (μ n)=some (.lst vs)→ax (vh μ S H) vs xs→Rep (vh μ S H) w z→aX (aZ K mg) WE μ S H (f n xs z S) Q→r (.ref (μ n)) [w] H Q
theorem Fd {r:V→List V→Hp→VK→Prop} {f:Nat→List D→D→Sto→R Vl} {name:Str} {id:String} {o e:Expr} {xo xe:XE} {apos cpos:Pos} (slot:Slot "list" name id) (hty:typeOf (.builtin id)=pure (.type "method_descriptor")) (hm:MtM X id r) (hf:BA r f) (ho:RE X WE o xo) (he:RE X WE e xe)
  (hbase:attributeBase o name X.env (eval o X.env)=eval o X.env:=by rfl)
  (hfew:((backTo cpos (starEach [e] X.env)).all (fun x=>!x.1) && (backToKw cpos (keywordEach [] X.env)).all (fun x=>x.1.isSome) && decide ([e].length+([]:List Keyword).length+(if ([]:List Keyword).isEmpty then 0 else 1) < 30))=true:=by rfl)
  (hline:(apos.endLine == cpos.line)=true:=by rfl) (hs:starEach [e] X.env=(false,eval e X.env) :: starEach [] X.env:=by rfl):RE X WE (.Call (.Attribute o name apos) [e] [] cpos) (xLm f xo xe):=
 ⟨(D3 slot hty hm ho.h he.h hbase hfew hline hs).weak fun σ H Q ⟨μ,S,τ,hr,sr,p⟩=>⟨μ,S,τ,hr,sr,p.bind fun v x S1 μ1 H1 st1 r1 p1=>by
  try dsimp only at p1
  split at p1
  ·rename_i n
   obtain ⟨rfl,hn⟩:=r1
   split at p1
   ·rename_i xs0 e0
    obtain ⟨vs0,h0,_⟩:=st1.hr.ob _ _ e0
    refine ⟨_,vs0,rfl,h0,μ1,S1,τ,st1.hr,sr.step st1,p1.bind fun w y S2 μ2 H2 st2 r2 p2=>?_⟩
    try dsimp only at p2
    split at p2
    ·split at p2
     ·rename_i z _ xs e2
      obtain ⟨vs,h2,rs⟩:=st2.hr.ob _ _ e2
      rw [← st2.ag n hn]
      exact hf X.K X.mg WE μ2 S2 H2 n xs vs w z Q st2.hr e2 h2 rs r2 p2
     ·exact p2.elim
    ·exact p2.elim
   ·exact p1.elim
  ·exact p1.elim⟩⟩
def pE (n:Nat) (xs:List D) (z:D) (S:Sto):R Vl:=match z with
 | .int i=>if 0≤i∧i < 2 ^ 63 then (match xs[i.toNat]? with
  | some y=>.ok (.d y) (S.set n (.lst (xs.eraseIdx i.toNat)))
  | none=>.bad) else .bad
 | _=>.bad
theorem ax.erase:∀ {vs:List V} {ds:List D} (i:Nat),ax H vs ds→ax H (vs.eraseIdx i) (ds.eraseIdx i)
 | _,_,_,.nil=>.nil
 | _,_,0,.cons _ t=>t
 | _,_,i+1,.cons r t=>.cons r (ax.erase i t)
theorem xY:BA uX pE:=by
 intro K mg WE μ S H n xs vs w z Q hr e h rs rw' p
 unfold pE at p
 split at p
 ·rename_i i
  split at p
  ·rename_i hi
   split at p
   ·rename_i y ey
    obtain ⟨u,eu,ru⟩:=rs.get' ey
    have hl:i.toNat < vs.length:=(List.getElem?_eq_some_iff.mp eu).1
    cases rw'
    refine ⟨_,vs,i,i.toNat,u,rfl,rfl,h,by omega,hi.2,PySem.StrLaws.seqIndex_nonneg hi.1 (by omega),eu,?_⟩
    have sp:=Step.put hr e (by simp) (ob:=.lst (xs.eraseIdx i.toNat)) ⟨_,rfl,rs.erase i.toNat⟩
    exact p _ _ _ sp (Rep.mono sp.vis ru)
   ·exact p.elim
  ·exact p.elim
 ·exact p.elim
end
def cv (e:XE):XI:=fun τ S=>(e τ S).bind fun z S1=>match z with
 | .d (.tup xs)=>.ok ⟨xs.map Vl.d,none⟩ S1
 | .d (.lst xs)=>.ok ⟨xs.map Vl.d,none⟩ S1
 | .r n=>(match S1[n]? with
  | some (.lst xs)=>.ok ⟨xs.map Vl.d,some (n,.lst xs)⟩ S1
  | _=>.bad)
 | _=>.bad
def gS (as:XA):XI:=fun τ S=>(as τ S).bind fun zs S1=>match zs with
 | [.d (.int j)]=>if -100000≤j∧j≤100000 then .ok ⟨(List.range j.toNat).map fun i=>Vl.d (.int (i:Nat)),none⟩ S1 else .bad
 | _=>.bad
def wQ (as:XA):XI:=fun τ S=>(as τ S).bind fun zs S1=>match zs with
 | [.d (.int i),.d (.int j)]=>if (-100000≤i∧i≤100000)∧-100000≤j∧j≤100000 then .ok ⟨(List.range (j - i).toNat).map fun k=>Vl.d (.int (i+(k:Nat))),none⟩ S1 else .bad
 | _=>.bad
section
variable {X:Cx} {WE:WX} {K:PySem.W.Frag} {mg:Str→Option Value} {μ:Nat→Addr} {S:Sto} {H:Hp}
theorem gA {xs:List D} {i:Nat} {z:Vl} (e:(xs.map Vl.d)[i]?=some z):∃ x,xs[i]?=some x∧z=.d x:=by
 rw [List.getElem?_map] at e
 cases q:xs[i]? with
 | none=>rw [q] at e;cases e
 | some x=>rw [q] at e;cases e;exact ⟨x,rfl,rfl⟩
theorem BO {a:Addr} {vs:List V} {xs:List D} (g:vh μ S H a=some (.tup vs)) (rs:ax (vh μ S H) vs xs) (hz:vs.length≤sizeLine):e9 K mg μ S H (Itt K a) ⟨xs.map Vl.d,none⟩ where
 ok:=True.intro
 len:=by simp only [List.length_map];rw [← rs.length];exact hz
 go:=fun i z μ' S' H' st _ e=>by
  obtain ⟨x,e1,rfl⟩:=gA e
  obtain ⟨u,e2,_⟩:=rs.get' e1
  exact ⟨vs,u,SqT.of (bq (st.vis _ _ g)).2,e2⟩
 yld:=fun i z μ' S' H' u H2 st _ e y=>by
  obtain ⟨rfl,y⟩:=y
  obtain ⟨x,e1,rfl⟩:=gA e
  have e2:=y vs (SqT.of (bq (st.vis _ _ g)).2)
  obtain ⟨x',e3,r⟩:=rs.get e2
  rw [e1] at e3;cases e3
  exact ⟨Step.refl st.hr,Rep.mono st.vis r⟩
 stop:=fun i μ' S' H' st _ hi=>⟨vs,SqT.of (bq (st.vis _ _ g)).2,by rw [rs.length];simpa using Nat.le_of_eq hi⟩
theorem A8 {a:Addr} {vs:List V} {xs:List D} (g:vh μ S H a=some (.lst vs)) (rs:ax (vh μ S H) vs xs) (hz:vs.length≤sizeLine):e9 K mg μ S H (Itl K a) ⟨xs.map Vl.d,none⟩ where
 ok:=True.intro
 len:=by simp only [List.length_map];rw [← rs.length];exact hz
 go:=fun i z μ' S' H' st _ e=>by
  obtain ⟨x,e1,rfl⟩:=gA e
  obtain ⟨u,e2,_⟩:=rs.get' e1
  exact ⟨vs,u,SqL.of (bq (st.vis _ _ g)).2,e2⟩
 yld:=fun i z μ' S' H' u H2 st _ e y=>by
  obtain ⟨rfl,y⟩:=y
  obtain ⟨x,e1,rfl⟩:=gA e
  have e2:=y vs (SqL.of (bq (st.vis _ _ g)).2)
  obtain ⟨x',e3,r⟩:=rs.get e2
  rw [e1] at e3;cases e3
  exact ⟨Step.refl st.hr,Rep.mono st.vis r⟩
 stop:=fun i μ' S' H' st _ hi=>⟨vs,SqL.of (bq (st.vis _ _ g)).2,by rw [rs.length];simpa using Nat.le_of_eq hi⟩
theorem CA {n:Nat} {vs:List V} {xs:List D} (hn:n < S.length) (e0:S[n]?=some (.lst xs)) (rs:ax (vh μ S H) vs xs) (hz:vs.length≤sizeLine):e9 K mg μ S H (Itl K (μ n)) ⟨xs.map Vl.d,some (n,.lst xs)⟩ where
 ok:=e0
 len:=by simp only [List.length_map];rw [← rs.length];exact hz
 go:=fun i z μ' S' H' st ok e=>by
  obtain ⟨us,h,rs'⟩:=st.hr.ob n _ ok
  rw [st.ag n hn] at h
  obtain ⟨x,e1,rfl⟩:=gA e
  obtain ⟨u,e2,_⟩:=rs'.get' e1
  exact ⟨us,u,SqL.of h,e2⟩
 yld:=fun i z μ' S' H' u H2 st ok e y=>by
  obtain ⟨rfl,y⟩:=y
  obtain ⟨us,h,rs'⟩:=st.hr.ob n _ ok
  rw [st.ag n hn] at h
  obtain ⟨x,e1,rfl⟩:=gA e
  have e2:=y us (SqL.of h)
  obtain ⟨x',e3,r⟩:=rs'.get e2
  rw [e1] at e3;cases e3
  exact ⟨Step.refl st.hr,r⟩
 stop:=fun i μ' S' H' st ok hi=>by
  replace hi:=Nat.le_of_eq hi
  obtain ⟨us,h,rs'⟩:=st.hr.ob n _ ok
  rw [st.ag n hn] at h
  exact ⟨us,SqL.of h,by rw [rs'.length];simpa using hi⟩
theorem uJ {lo:Int} {m:Nat} (hr:HR μ S H) (hm:m≤sizeLine):e9 K mg μ S H (Itr lo m) ⟨(List.range m).map fun k=>Vl.d (.int (lo+(k:Nat))),none⟩ where
 ok:=True.intro
 len:=by simpa using hm
 go:=fun i z μ' S' H' st _ e=>by
  have:=(List.getElem?_eq_some_iff.mp e).1
  exact (show i < m by simpa using this)
 yld:=fun i z μ' S' H' u H2 st _ e y=>by
  obtain ⟨rfl,rfl⟩:=y
  have hi:i < m:=by simpa using (List.getElem?_eq_some_iff.mp e).1
  rw [List.getElem?_map,List.getElem?_range hi] at e
  cases e
  exact ⟨Step.refl st.hr,Rep.int _⟩
 stop:=fun i μ' S' H' st _ hi=>(show m≤i by simpa using Nat.le_of_eq hi)
theorem bS (hl:RE X WE l xl):RI X WE tg l (cv xl):=⟨by
 intro pins s σ H Rr I h
 obtain ⟨μ,S,τ,hr,sr,p⟩:=h
 refine thn (hl.h pins s σ H _ I ⟨μ,S,τ,hr,sr,p.bind (Q:=fun v H1=>∃ μ1 S1 z,HR μ1 S1 H1∧aZ X.K X.mg μ1 S1 H1 v z∧aX (e9 X.K X.mg) WE μ1 S1 H1 (match z with
   | .d (.tup xs)=>.ok ⟨xs.map Vl.d,none⟩ S1
   | .d (.lst xs)=>.ok ⟨xs.map Vl.d,none⟩ S1
   | .r n=>(match S1[n]? with
    | some (.lst xs)=>.ok ⟨xs.map Vl.d,some (n,.lst xs)⟩ S1
    | _=>.bad)
   | _=>.bad) Rr) fun v x S1 μ1 H1 st1 r1 p1=>⟨μ1,S1,x,st1.hr,r1,p1⟩⟩) fun v s1 ⟨u,H1,I1,ru,μ1,S1,z,hr1,r1,p1⟩=>?_
 have goT:∀ a vs xs,u=.ref a→vh μ1 S1 H1 a=some (.tup vs)→ax (vh μ1 S1 H1) vs xs→Rr (Itt X.K a) H1→wpAny (model X.prog X.w) X.A (pyIter v) (PIE X pins σ tg Rr) X.xe s1:=by
  rintro a vs xs rfl g rs q
  cases ru
  obtain ⟨its,rv,pp,hz⟩:=I1.tuple (SqT.of (bq g).2)
  refine wpAny_pyIter_tuple (show s1.heap.IsTuple a its.toArray from pp) ?_
  refine ⟨s1.heap.objs.size,[s1.heap.objs.size],_,_,H1,rfl,I1.kept (t':=s1.toks) fun b o e=>Heap.get?_push_of_some _ e,sD a _,⟨_,Heap.get?_push_size _ rfl,rfl,rfl⟩,fun b hb=>?_,q⟩
  rw [List.mem_singleton.mp hb]
  exact I1.kQ (Nat.le_refl _) (I1.hok.fresh (Nat.le_refl _))
 have goL:∀ a vs,u=.ref a→H1 a=some (.lst vs)→Rr (Itl X.K a) H1→wpAny (model X.prog X.w) X.A (pyIter v) (PIE X pins σ tg Rr) X.xe s1:=by
  rintro a vs rfl g q
  cases ru
  obtain ⟨its,rv,pp,hz⟩:=I1.list (SqL.of g)
  refine wpAny_pyIter_list pp.isList ?_
  refine ⟨s1.heap.objs.size,[s1.heap.objs.size],_,_,H1,rfl,I1.kept (t':=s1.toks) fun b o e=>Heap.get?_push_of_some _ e,uc a _,⟨_,Heap.get?_push_size _ rfl,rfl,rfl⟩,fun b hb=>?_,q⟩
  rw [List.mem_singleton.mp hb]
  exact I1.kQ (Nat.le_refl _) (I1.hok.fresh (Nat.le_refl _))
 split at p1
 ·obtain ⟨a,vs,rfl,h,g,rs⟩:=kq r1
  obtain ⟨its,rv,pp,hz⟩:=I1.tuple (SqT.of h)
  exact goT a vs _ rfl g rs (p1.here hr1 (BO g rs hz))
 ·cases (show Rep (vh μ1 S1 H1) u (.lst _) from r1) with
  | lst g rs=>
   obtain ⟨its,rv,pp,hz⟩:=I1.list (SqL.of (bq g).2)
   exact goL _ _ rfl (bq g).2 (p1.here hr1 (A8 g rs hz))
 ·split at p1
  ·rename_i e
   obtain ⟨rfl,hn⟩:=r1
   obtain ⟨vs,h,rs⟩:=hr1.ob _ _ e
   obtain ⟨its,rv,pp,hz⟩:=I1.list (SqL.of h)
   exact goL _ _ rfl h (p1.here hr1 (CA hn e rs hz))
  ·exact p1.elim
 ·exact p1.elim⟩
theorem cQ {tg a:Expr} {as:XA} {p pos:Pos} (hg:Gl X "range") (hm:X.mg "range"=none) (ha:RA X WE [a] as) (hs:starEach [a] X.env=[(false,eval a X.env)]:=by rfl):RI X WE tg (.Call (.Name "range" p) [a] [] pos) (gS as):=
 ⟨(uE hg hm ha.h hs).weak fun σ H Rr ⟨μ,S,τ,hr,sr,p⟩=>⟨μ,S,τ,hr,sr,p.bind fun vs xs S1 μ1 H1 st1 r1 p1=>by
  try dsimp only at p1
  split at p1
  ·split at p1
   ·obtain ⟨v,rfl,r⟩:=r1.one
    rename_i j hj
    refine ⟨j,by rw [bw r],by omega,by omega,p1.here st1.hr ?_⟩
    have q:=uJ (K:=X.K) (mg:=X.mg) (lo:=0) (m:=j.toNat) st1.hr (kK (by omega))
    have z:∀ k:Nat,(0:Int)+k=k:=fun k=>by omega
    simp only [z] at q
    exact q
   ·exact p1.elim
  ·exact p1.elim⟩⟩
theorem vo {tg a b:Expr} {as:XA} {p pos:Pos} (hg:Gl X "range") (hm:X.mg "range"=none) (ha:RA X WE [a,b] as) (hs:starEach [a,b] X.env=[(false,eval a X.env),(false,eval b X.env)]:=by rfl) (hs2:starEach [b] X.env=[(false,eval b X.env)]:=by rfl):RI X WE tg (.Call (.Name "range" p) [a,b] [] pos) (wQ as):=
 ⟨(vE hg hm ha.h hs hs2).weak fun σ H Rr ⟨μ,S,τ,hr,sr,p⟩=>⟨μ,S,τ,hr,sr,p.bind fun vs xs S1 μ1 H1 st1 r1 p1=>by
  try dsimp only at p1
  split at p1
  ·split at p1
   ·obtain ⟨v,w,rfl,r,r'⟩:=r1.two
    rename_i i j hj
    exact ⟨i,j,by rw [bw r,bw r'],⟨by omega,by omega,by omega,by omega⟩,p1.here st1.hr (uJ st1.hr (by rw [sizeLine_eq];omega))⟩
   ·exact p1.elim
  ·exact p1.elim⟩⟩
end
section
variable {prog:Program} {w:World} {A:Around} {E:Value→Shared→Prop} {s:Shared}
theorem rp (hl:IsTup s.heap l vs.toArray)
  (h:Q vs { s with heap:=(s.heap.push (seqObj "list" #[] 0)).update s.heap.objs.size (Obj.mapSeq (·++vs.toArray)) }) (hsz:vs.length≤sizeLine:=by size_fits) :
  wpAny (model prog w) A (collect (.ref l)) Q E s:=by
 obtain ⟨o,ho,hc,n,hd⟩:=id hl
 unfold collect
 refine wpAny_bind (wpAny_runValue (codeAny_builtin entry_proto_collect' ?_))
 show wpAny _ _ (do again (.builtin "list.__iadd__" ⟨[← newList [],.ref l],[]⟩)) _ _ s
 refine wpAny_bind (wpAny_newList (wpAny_pure ⟨Code.quiet_builtin _ (by decide +kernel),codeAny_builtin entry_list_iadd' ?_⟩))
 show wpAny _ _ (Builtin.List.listExtendWith (.ref s.heap.objs.size) (.ref l) (.ref s.heap.objs.size)) _ _ { s with heap:=s.heap.push (seqObj "list" #[] 0) }
 unfold Builtin.List.listExtendWith
 have ho':(s.heap.push (seqObj "list" #[] 0)).get? l=some o:=Heap.get?_push_of_some _ ho
 refine wpAny_bind (wpAny_typeOf (T:="tuple") ⟨o,ho',hc⟩ ?_)
 have ht:(Value.type "tuple" == Value.type "tuple")=true:=by rfl
 rw [if_pos (by rw [ht];simp)]
 refine wpAny_bind (listItems_at ho' hd ?_)
 refine wpAny_bind (listItems_at (xs:=#[]) (n:=0) (Heap.get?_push_size _ rfl) rfl ?_)
 rw [if_neg (by simp)]
 refine wpAny_bind (listUpdate_at (xs:=#[]) (n:=0) (Heap.get?_push_size _ rfl) rfl ?_ (Nat.zero_le _) (by show (#[]++vs.toArray).size≤sizeLine+1;simp only [Array.size_append,List.size_toArray,List.length_nil];omega))
 refine wpAny_pure ?_
 show wpAny (model prog w) A (do
   let o ← load s.heap.objs.size
   match o.data with
   | .seq xs _=>pure xs.toList
   | _=>unsupported "internal:collect") Q E { s with heap:=(s.heap.push (seqObj "list" #[] 0)).update s.heap.objs.size (Obj.mapSeq (·++vs.toArray)) }
 refine wpAny_bind (wpAny_load (get?_update_seq (Heap.get?_push_size _ rfl) _) ?_)
 show wpAny _ _ (pure ((#[]:Array Value)++vs.toArray).toList) Q E _
 rw [show ((#[]:Array Value)++vs.toArray).toList=vs by simp]
 exact wpAny_pure h
theorem sY (hl:IsTup s.heap l vs.toArray) (hI:IntsAre vs ns) (h64:vs.length < 64)
  (h:∀ (out:Array Value) (ns':List Int),IntsAre out.toList ns'→ns'.Perm ns→ns'.Pairwise (·≤·)→Q (.ref (s.heap.objs.size+1)) { s with heap:=sortedAll s.heap vs out }) :
  wpAny (model prog w) A (call (.builtin "sorted") [.ref l]) Q E s:=by
 refine Calls.call_function_entry kind_sorted plain_sorted entry_sorted (args_sorted1 _) ?_
 unfold Builtin.«sorted»
 refine wpAny_bind (m:=checkCount "sorted" 1 1 _) (wpAny_pure ?_)
 refine wpAny_bind (rp hl ?_ (Nat.le_of_lt (ib (by omega))))
 refine wpAny_bind (wpAny_newList ?_)
 have hsz:((s.heap.push (seqObj "list" #[] 0)).update s.heap.objs.size (Obj.mapSeq (·++vs.toArray))).objs.size=s.heap.objs.size+1:=by
  rw [Heap.size_update,size_push']
 have hoL:(((s.heap.push (seqObj "list" #[] 0)).update s.heap.objs.size (Obj.mapSeq (·++vs.toArray))).push (seqObj "list" vs.toArray 0)).get? (s.heap.objs.size+1)=some (seqObj "list" vs.toArray 0):=by
  rw [← hsz];exact Heap.get?_push_size _ rfl
 show wpAny _ _ _ _ _ { s with heap:=((s.heap.push (seqObj "list" #[] 0)).update s.heap.objs.size (Obj.mapSeq (·++vs.toArray))).push (seqObj "list" vs.toArray 0) }
 rw [hsz]
 refine wpAny_bind (wpAny_holding (wpAny_call_entry slot_list_sort ⟨_,hoL,rfl⟩ entry_list_sort (list_sort_tree hoL hI h64 fun out ns' a1 a2 a3=>⟨_,rfl,?_⟩) (args_list_sort _)))
 exact wpAny_pure ⟨_,rfl,h out ns' a1 a2 a3⟩
end
section
variable {X:Cx}
def vR:List V→Hp→VK→Prop:=fun vs H Q=>∃ (p:Addr) (ns:List Int),vs=[.ref p]∧H p=some (.tup (ns.map V.int))∧ns.length < 64∧∀ (l:Addr) (ms:List Int),H l=none→List.Perm ms ns→ms.Pairwise (·≤·)→Q (.ref l) (upd H l (.lst (ms.map V.int)))
theorem sR:bI X (.builtin "sorted") vR:=by
 intro pins s σ H xs us Q I r h
 obtain ⟨p,ns,rfl,hq,hl,q⟩:=h
 obtain ⟨u,rfl,rx⟩:=vals1 r
 cases rx
 obtain ⟨its,rv,pl,hz⟩:=I.tuple (SqT.of hq)
 have hI:IntsAre its ns:=intsAre_of rv
 have h64:its.length < 64:=by rw [← rv.length,List.length_map];exact hl
 refine sY pl hI h64 fun out ms hout hperm hpair=>?_
 obtain ⟨e,he⟩:=sortedAll_at s.heap its out
 refine ⟨.ref (s.heap.objs.size+1),_,I.laid (t':=s.toks) (o:=.lst (ms.map V.int)) (fun b ob q=>sortedAll_old q) (Nat.le_succ _) ?_,rfl,q _ ms (I.hok.fresh (Nat.le_succ _)) hperm hpair⟩
 have hlm:ms.length=ns.length:=hperm.length_eq
 exact ⟨by rw [List.length_map];have:(64:Nat)≤sizeLine:=(by decide);omega,out.toList,e,ir hout,by simpa using he⟩
def vO:List V→Hp→VK→Prop:=fun vs H Q=>qY vs H Q∨vR vs H Q
theorem mL:bI X (.builtin "sorted") vO:=qQ.or sR
def jG (xs:List Vl) (S:Sto):R Vl:=match xs with
 | [x]=>(match (bW x S).bind intsOf with
  | some ns=>if ns.length < 64 then .ok (.d (.lst ((sortI ns).map D.int))) S else .bad
  | none=>.bad)
 | _=>.bad
theorem nO {K:PySem.W.Frag} {mg:Str→Option Value}:ft K mg vO jG:=by
 intro WE μ S H vs xs Q hr rs p
 unfold jG at p
 split at p
 ·obtain ⟨v,rfl,r⟩:=rs.one
  split at p
  ·rename_i ns e
   split at p
   ·rename_i hb
    obtain ⟨ds,e1,e2⟩:=Option.bind_eq_some_iff.mp e
    obtain ⟨a,us,rfl,ha,rr⟩:=h9 hr r e1
    rw [iM e2] at rr
    rw [ax.k6 rr] at ha
    rcases ha with ha | ha
    ·refine .inl ⟨a,ns,rfl,ha,hb,fun l ms hl h1 h2=>?_⟩
     rw [qj h1 h2]
     exact p.l8 hr (ax.ints _) l hl
    ·refine .inr ⟨a,ns,rfl,ha,hb,fun l ms hl h1 h2=>?_⟩
     rw [qj h1 h2]
     exact p.l8 hr (ax.ints _) l hl
   ·exact p.elim
  ·exact p.elim
 ·exact p.elim
end
section
variable {X:Cx} {WE:WX}
def eD (x y z:Vl) (S:Sto):R Unit:=match x,y,z with
 | .r n,.d (.int k),.d w=>(match S[n]? with
  | some (.lst xs)=>(match ixN xs.length k with
   | some j=>.ok () (S.set n (.lst (xs.set j w)))
   | none=>.bad)
  | _=>.bad)
 | _,_,_=>.bad
theorem ax.set (r:Rep H v d):∀ {vs:List V} {ds:List D} (i:Nat),ax H vs ds→ax H (vs.set i v) (ds.set i d)
 | _,_,_,.nil=>.nil
 | _,_,0,.cons _ t=>.cons r t
 | _,_,i+1,.cons q t=>.cons q (ax.set r i t)
theorem jg {K:PySem.W.Frag} {mg:Str→Option Value}:vz K mg sS eD:=by
 intro WE μ S H o i v x y z Q hr ro ri rv p
 unfold eD at p
 split at p
 ·split at p
  ·rename_i n k w _ xs e
   obtain ⟨rfl,hn⟩:=ro
   obtain ⟨vs,h,rs⟩:=hr.ob _ _ e
   split at p
   ·rename_i j ej
    refine ⟨_,vs,k,j,rfl,bw ri,h,by rw [rs.length];exact ej,?_⟩
    exact p () _ _ (Step.put hr e (by simp) (ob:=.lst (xs.set j w)) ⟨_,rfl,rs.set rv j⟩) True.intro
   ·exact p.elim
  ·exact p.elim
 ·exact p.elim
theorem mD:sy X sS:=set_list
def lrg (fin:List D→Sto→R Vl) (zs:List Vl) (S:Sto):R Vl:=match zs with
 | [.d (.int j)]=>if 0≤j∧j≤1000 then fin ((List.range j.toNat).map fun i=>D.int (i:Nat)) S else .bad
 | _=>.bad
def xf (ds:List D) (S:Sto):R Vl:=.ok (.r S.length) (S++[.lst ds])
theorem mh:∀ l:List Nat,ax H (l.map fun i=>V.int (i:Nat)) (l.map fun i=>D.int (i:Nat))
 | []=>.nil
 | n :: l=>.cons (.int _) (mh l)
theorem oX (hc:X.calm=true) (hgl:Gl X "list") (hml:X.mg "list"=none) (hgr:Gl X "range") (hmr:X.mg "range"=none) (hbl:bootBuiltins "list"=some (.type "list")) (ha:RA X WE [a] as)
  (hs:starEach [a] X.env=[(false,eval a X.env)]:=by rfl)
  (hs2:starEach [Expr.Call (.Name "range" p2) [a] [] pos2] X.env=(false,eval (Expr.Call (.Name "range" p2) [a] [] pos2) X.env) :: starEach [] X.env:=by rfl) :
  RE X WE (.Call (.Name "list" p1) [.Call (.Name "range" p2) [a] [] pos2] [] pos1) (xN (lrg xf) as):=
 ⟨(qb hc hgl hml hgr hmr hbl ha.h hs hs2).weak fun σ H Q ⟨μ,S,τ,hr,sr,p⟩=>⟨μ,S,τ,hr,sr,p.bind fun vs xs S1 μ1 H1 st1 r1 p1=>by
  unfold lrg at p1
  split at p1
  ·split at p1
   ·rename_i j hj
    obtain ⟨v,rfl,r⟩:=r1.one
    exact ⟨j,by rw [bw r],hj.1,hj.2,fun l hl=>p1.tL st1.hr (mh _) l hl⟩
   ·exact p1.elim
  ·exact p1.elim⟩⟩
end
def ku (x:Int):List Int→List Int
 | []=>[x]
 | y :: ys=>if x < y then x :: y :: ys else if x=y then y :: ys else y :: ku x ys
def ef:List Int→List Int
 | []=>[]
 | x :: xs=>ku x (ef xs)
theorem l0 (x z:Int):∀ ys,z∈ku x ys↔z=x∨z∈ys
 | []=>by simp [ku]
 | y :: ys=>by
  unfold ku
  split
  ·simp
  ·split
   ·rename_i h;subst h;simp
   ·simp only [List.mem_cons,l0 x z ys]
    constructor
    ·rintro (h | h | h)
     ·exact .inr (.inl h)
     ·exact .inl h
     ·exact .inr (.inr h)
    ·rintro (h | h | h)
     ·exact .inr (.inl h)
     ·exact .inl h
     ·exact .inr (.inr h)
theorem kn (z:Int):∀ xs,z∈ef xs↔z∈xs
 | []=>by simp [ef]
 | x :: xs=>by rw [ef,l0,kn z xs,List.mem_cons]
theorem nN (x:Int):∀ ys:List Int,ys.Pairwise (· < ·)→(ku x ys).Pairwise (· < ·)
 | [],_=>by simp [ku]
 | y :: ys,h=>by
  obtain ⟨h1,h2⟩:=List.pairwise_cons.mp h
  unfold ku
  split
  ·rename_i hxy
   refine List.pairwise_cons.mpr ⟨fun z hz=>?_,h⟩
   rcases List.mem_cons.mp hz with e | e
   ·omega
   ·have:=h1 z e;omega
  ·split
   ·exact h
   ·refine List.pairwise_cons.mpr ⟨fun z hz=>?_,nN x ys h2⟩
    rcases (l0 x z ys).mp hz with e | e
    ·omega
    ·exact h1 z e
theorem jx:∀ xs,(ef xs).Pairwise (· < ·)
 | []=>.nil
 | x :: xs=>nN x _ (jx xs)
theorem ni {xs:List Int} (h:xs.Pairwise (· < ·)):xs.Nodup:=h.imp fun z=>by omega
theorem w8 {xs ys:List Int} (h:∀ z,z∈xs↔z∈ys) (h1:xs.Pairwise (· < ·)) (h2:ys.Pairwise (· < ·)):xs=ys:=
 nk ((List.perm_ext_iff_of_nodup (ni h1) (ni h2)).mpr h) (h1.imp fun z=>by omega) (h2.imp fun z=>by omega)
theorem v5 {xs ys:List Int} (h:∀ z,z∈ys↔z∈xs) (h1:ys.Pairwise (· < ·)):ys=ef xs:=w8 (fun z=>by rw [h,kn]) h1 (jx xs)
theorem tT {ks ns:List Int} (h1:ks.Nodup) (h2:∀ x,x∈ks↔x∈ns):ks.length=(ef ns).length:=
 ((List.perm_ext_iff_of_nodup h1 (ni (jx ns))).mpr fun z=>by rw [h2,kn]).length_eq
section
variable {X:Cx} {WE:WX}
def SqI (H:Hp) (a:Addr) (ns:List Int):Prop:=H a=some (.lst (ns.map V.int))∨H a=some (.tup (ns.map V.int))
theorem SqI.at (I:Inv X pins σ H s) (h:SqI H a ns):∃ (its:List Value) (k:Bool),IntsAre its ns∧jd s.heap a its.toArray k:=by
 rcases h with h | h
 ·obtain ⟨its,rv,pl,hz⟩:=I.list (SqL.of h)
  exact ⟨its,true,intsAre_of rv,pl.isList⟩
 ·obtain ⟨its,rv,pl,hz⟩:=I.tuple (SqT.of h)
  exact ⟨its,false,intsAre_of rv,pl⟩
theorem CN {K:PySem.W.Frag} {mg:Str→Option Value} {μ:Nat→Addr} {S:Sto} {H:Hp} {v:V} {x:Vl} {ns:List Int} (hr:HR μ S H) (r:aZ K mg μ S H v x) (e:(bW x S).bind intsOf=some ns):∃ a,v=.ref a∧SqI H a ns:=by
 obtain ⟨ds,e1,e2⟩:=Option.bind_eq_some_iff.mp e
 obtain ⟨a,us,rfl,ha,rr⟩:=h9 hr r e1
 rw [iM e2] at rr
 rw [ax.k6 rr] at ha
 exact ⟨a,rfl,ha⟩
end
def dE (k:Nat):List D→List Vl
 | []=>[]
 | x :: xs=>.d (.tup [.int k,x]) :: dE (k+1) xs
theorem kA:∀ (k:Nat) (xs:List D),(dE k xs).length=xs.length
 | _,[]=>rfl
 | k,x :: xs=>by simp [dE,kA (k+1) xs]
theorem iG:∀ (k:Nat) (xs:List D) (i:Nat),(dE k xs)[i]?=(xs[i]?).map fun x=>Vl.d (.tup [.int ((k+i:Nat):Int),x])
 | _,[],_=>by simp [dE]
 | k,x :: xs,0=>by simp [dE]
 | k,x :: xs,i+1=>by
  simp only [dE,List.getElem?_cons_succ,iG (k+1) xs i]
  congr 1
  funext z
  rw [show k+1+i=k+(i+1) by omega]
def xF (e:XE):XI:=fun τ S=>(e τ S).bind fun z S1=>match z with
 | .d (.lst xs)=>.ok ⟨dE 0 xs,none⟩ S1
 | _=>.bad
section
variable {X:Cx} {WE:WX} {K:PySem.W.Frag} {mg:Str→Option Value} {μ:Nat→Addr} {S:Sto} {H:Hp}
theorem wH (g:vh μ S H a=some (.lst vs)) (rs:ax (vh μ S H) vs xs) (hz:vs.length≤sizeLine):e9 K mg μ S H (Ite K a) ⟨dE 0 xs,none⟩ where
 ok:=True.intro
 len:=by simp only [kA];rw [← rs.length];exact hz
 go:=fun i z μ' S' H' st _ e=>by
  rw [iG] at e
  cases q:xs[i]? with
  | none=>rw [q] at e;cases e
  | some x=>
   obtain ⟨u,e2,_⟩:=rs.get' q
   exact ⟨vs,u,SqL.of (bq (st.vis _ _ g)).2,e2⟩
 yld:=fun i z μ' S' H' u H2 st _ e y=>by
  obtain ⟨p,w,hp,rfl,rfl,y⟩:=y
  rw [iG] at e
  cases q:xs[i]? with
  | none=>rw [q] at e;cases e
  | some x=>
   rw [q] at e
   cases e
   have e2:=y vs (SqL.of (bq (st.vis _ _ g)).2)
   obtain ⟨x',e3,r⟩:=rs.get e2
   rw [q] at e3;cases e3
   have st2:=Step.new st.hr hp (.tup [.int i,w])
   refine ⟨st2,Rep.tup (bT b_ (st.hr.nal hp)) (.cons ?_ (.cons (Rep.mono (st.trans st2).vis r) .nil))⟩
   rw [Nat.zero_add]
   exact .int _
 stop:=fun i μ' S' H' st _ hi=>⟨vs,SqL.of (bq (st.vis _ _ g)).2,by rw [rs.length];rw [kA] at hi;exact Nat.le_of_eq hi⟩
end
section
variable {X:Cx} {WE:WX}
theorem xG (hg:Gl X "enumerate") (hm:X.mg "enumerate"=none) (hl:RE X WE l xl) (hb:bootBuiltins "enumerate"=some (.type "enumerate"):=by decide +kernel)
  (hs:starEach [l] X.env=[(false,eval l X.env)]:=by rfl):RI X WE (.Tuple es kk tp) (.Call (.Name "enumerate" p) [l] [] pos) (xF xl):=⟨by
 intro pins s σ H R I h
 obtain ⟨μ,S,τ,hr,sr,pp⟩:=h
 refine Call_ (c9 I hg hm hb (PyProof.Rows.callWith_type1 (thn ((eL hl.h gK hs) pos pins s σ H (fun vs H1=>∃ x,vs=[x]∧∃ μ1 S1 z,HR μ1 S1 H1∧aZ X.K X.mg μ1 S1 H1 x z∧aX (e9 X.K X.mg) WE μ1 S1 H1 (match z with
   | .d (.lst xs)=>.ok ⟨dE 0 xs,none⟩ S1
   | _=>.bad) R) I ?_) fun us s1 ⟨vs,H1,I1,r1,q1⟩=>?_) hs rfl))
 ·exact ⟨μ,S,τ,hr,sr,pp.bind fun v x S1 μ1 H1 st1 r1 p1=>⟨v,rfl,μ1,S1,x,st1.hr,r1,p1⟩⟩
 ·obtain ⟨x,e,μ1,S1,z,hr1,rz,p1⟩:=q1
  subst e
  obtain ⟨u,rfl,ru⟩:=vals1 r1
  split at p1
  ·cases (show Rep (vh μ1 S1 H1) x (.lst _) from rz) with
   | @lst a us _ g rs=>
    cases ru
    have hq:SqL X.K H1 a us:=SqL.of (bq g).2
    obtain ⟨its,rv,pl,hz⟩:=I1.list hq
    have q:=p1.here hr1 (wH g rs hz)
    refine call_enumerate_list pl.isList fun h' he hit hsz hk=>?_
    refine wpAny_pyIter_enum (s:={ s1 with heap:=h' }) he ?_
    have I2:Inv X pins σ H1 { s1 with heap:=h' }:=I1.kept (t':=s1.toks) hk
    refine ⟨s1.heap.objs.size+1,[s1.heap.objs.size+1,s1.heap.objs.size],_,_,H1,rfl,I2,u5 a _ _ (Nat.succ_ne_self _),⟨⟨_,he⟩,hit⟩,fun b hb=>?_,q⟩
    have hle:s1.heap.objs.size≤b:=by
     rcases List.mem_cons.mp hb with z | z
     ·rw [z];exact Nat.le_succ _
     ·rw [List.mem_singleton.mp z];exact Nat.le_refl _
    exact I1.kQ hle (I1.hok.fresh hle)
  ·exact p1.elim⟩
def pG (x:Vl) (lo hi:Option Int) (S:Sto):R Vl:=match x with
 | .sc ns=>.ok (.d (.lst (eE (ns.map D.int) lo hi))) S
 | _=>.bad
theorem uy {e:Expr} {lo hi:Option Expr} {xa:XE} {xl xh:XO} {p2 pos:Pos} (he:RE X WE e xa) (hl:RO X WE lo xl) (hh:RO X WE hi xh):RE X WE (.Subscript e (.Slice lo hi none p2) pos) (xSl pG xa xl xh):=
 ⟨(lV rH he.h hl.h hh.h).weak fun σ H Q ⟨μ,S,τ,hr,sr,p⟩=>⟨μ,S,τ,hr,sr,p.bind fun v x S1 μ1 H1 st1 r1 p1=>⟨μ1,S1,τ,st1.hr,sr.step st1,p1.bind fun i i' S2 μ2 H2 st2 r2 p2=>⟨μ2,S2,τ,st2.hr,sr.step (st1.trans st2),p2.bind fun j j' S3 μ3 H3 st3 r3 p3=>by
  cases (show i=i' from r2)
  cases (show j=j' from r3)
  have rv:=r1.step (st2.trans st3)
  unfold pG at p3
  split at p3
  ·rename_i ns
   obtain ⟨l,rfl,hq⟩:=rv
   exact ⟨l,_,rfl,hq.mono cz,fun q hq=>p3.l8 st3.hr (lN (ax.ints ns) i j) q hq⟩
  ·exact p3.elim⟩⟩⟩⟩
theorem v8:RB X WE sts hG:=⟨fun _ _ _ _ _ _ ⟨_,_,_,_,_,p⟩=>p.elim⟩
end
def Df (K:PySem.W.Frag) (mg:Str→Option Value) (x:Str) (st:Stmt):Prop:=∃ (f:Addr) (fd:FuncData),Fun K x x st f fd∧mg x=some (.ref f)
theorem Fb {K:PySem.W.Frag} {h:Heap} {mg:Str→Option Value} {x:Str} {st:Stmt} {f:Addr} {oc:Value} {od an:Option Addr} {osl:Array (Option Value)} {kV doc pm cdv ct:Value} (X:K.In h) (G:h.Ns mainGlobals mg) (a:PySem.W.nsIn K mainGlobals x=some (some (.ref f)))
  (l:K.lookup f=some ⟨oc,od,.func (PySem.W.fnOf x x (iU st) (eH st) (bN st) .none kV doc pm an cdv ct),osl⟩) (c:PySem.W.codeIn K cdv x=true) (k:PySem.W.keepIn K (.ref f)=true):Df K mg x st:=⟨f,_,BX l c k,PySem.W.mg_of X G a⟩
theorem bp {K:PySem.W.Frag} {mg:Str→Option Value} {P:Program} {w:World} {x:Str} {st:Stmt} {ps:List Str} {lev:Nat} {k n:Nat} {m:XS} {M:XF} (N:List Str) (F:Df K mg x st)
    (hb:∀ (base:Heap) (f:Addr) (cdv:Value) (A:Around) (outer:List Env) (s:Shared) (H:Hp) (E:XK),c_ lev (A.deeper (envOfC x (bN st) s.heap.objs.size f cdv))→LQ (bN st) N→RB (kP CX0 P w K mg base N x (bN st) f cdv A outer s H E).nox W0 (eH st) m)
    (hM:M=aU k n m:=by rfl) (hk:ps.length=k:=by rfl) (hn:N.length=n:=by rfl) (Sc:iT N ps (bN st):=by exact ⟨rfl,rfl,rfl,by decide +kernel,rfl,by decide +kernel,by decide +kernel⟩)
    (hbd:∀ (kV doc pm:Value) (an:Option Addr) (cdv ct:Value) (us:List Value),us.length=ps.length→bindArgs (PySem.W.fnOf x x (iU st) (eH st) (bN st) .none kV doc pm an cdv ct) ⟨us,[]⟩=pure (ps.zip us):=by
      intro _ _ _ _ _ _ us hl
      rcases us with _ | ⟨a,_ | ⟨b,_ | ⟨c,_ | ⟨d,_ | ⟨e,_ | ⟨f,_ | ⟨g,us⟩⟩⟩⟩⟩⟩⟩<;>first | (simp at hl;done) | rfl):OkE P w K mg (lev+1) x ps M:=by
  subst hM hk hn
  obtain ⟨f,fd,F,hm⟩:=F
  refine ⟨f,fd,hm,F.kp,?_,fun base=>FU F Sc fun cdv A outer s H E hr=>hb base f cdv A outer s H E hr ⟨Sc.nd⟩⟩
  obtain ⟨oc,od,kV,doc,pm,an,cdv,ct,osl,rfl,lk,hcd⟩:=F.ex
  exact hbd kV doc pm an cdv ct
theorem bD {α β:Type} {a:α} {S:Sto} {f:α→Sto→R β}:(R.ok a S).bind f=f a S:=rfl
theorem Dn {i:Nat} {z:Vl} {τ:Nv} {S:Sto}:gNm i z τ S=.ok (τ.set i (some z)) S:=rfl
theorem jt:leave S (.ok (.rt z,τ) S')=out S z S':=rfl
theorem qH:out S (.d x) S'=.ok (.d x) (S'.take S.length):=rfl
theorem pq (h:us.length=k):aU k n b us S=leave S (b (us.map some++List.replicate (n - k) none) S):=by unfold aU;rw [if_pos h]
open Classical in
theorem pU {g:XG} {b:XS} {gd:Option (Nat×Ob)}:∀ {items:List Vl} {τ:Nv} {S:Sto} (I:Nat→Nv→Sto→Prop),I 0 τ S →
  (∀ i z τ S,items[i]?=some z→I i τ S→∃ τ1 S1 fl τ2 S2,g z τ S=.ok τ1 S1∧b τ1 S1=.ok (fl,τ2) S2∧(fl=.nx∨fl=.ct)∧gok gd S2∧I (i+1) τ2 S2) →
  ∃ τ' S',eZ g b gd items τ S=.ok (.nx,τ') S'∧I items.length τ' S'
 | [],τ,S,I,h0,_=>⟨τ,S,rfl,h0⟩
 | z :: zs,τ,S,I,h0,hs=>by
  obtain ⟨τ1,S1,fl,τ2,S2,e1,e2,hf,hg,hI⟩:=hs 0 z τ S rfl h0
  obtain ⟨τ',S',e3,h3⟩:=pU (items:=zs) (τ:=τ2) (S:=S2) (fun i=>I (i+1)) hI fun i z' τ S hz hi=>hs (i+1) z' τ S (by simpa using hz) hi
  refine ⟨τ',S',?_,h3⟩
  rw [eZ,e1,bD,e2,bD]
  rcases hf with rfl | rfl
  ·dsimp only
   rw [if_pos hg];exact e3
  ·dsimp only
   rw [if_pos hg];exact e3
theorem uf {it:XI} {t:XT} {e:XE} {τ:Nv} {S S1:Sto} {items:List Vl} (hit:it τ S=.ok ⟨items,none⟩ S1) (J:Nat→List D→Sto→Prop) (h0:J 0 [] S1)
  (hs:∀ i z acc Q,items[i]?=some z→J i acc Q→Q.length=S1.length→∃ b Q1,t (some z :: τ) (Q++[.lst acc])=.ok b (Q1++[.lst acc])∧Q1.length=S1.length ∧
   (b=true→∃ x Q2,e (some z :: τ) (Q1++[.lst acc])=.ok (.d x) (Q2++[.lst acc])∧Q2.length=S1.length∧J (i+1) (acc++[x]) Q2)∧(b=false→J (i+1) acc Q1)) :
  ∃ acc Q,xLC it 1 (gNm 0) t e τ S=.ok (.d (.lst acc)) Q∧Q.length=S1.length∧J items.length acc Q:=by
 have key:∀ (zs:List Vl) (i:Nat) (acc:List D) (o:Option Vl) (Q:Sto),(∀ j,zs[j]?=items[i+j]?)→J i acc Q→Q.length=S1.length→∃ acc' Q',dC (gNm 0) t e S1.length none zs acc (o :: τ) (Q++[.lst acc])=.ok acc' (Q'++[.lst acc'])∧Q'.length=S1.length∧J (i+zs.length) acc' Q':=by
  intro zs
  induction zs with
  | nil=>
   intro i acc o Q _ hJ hl
   refine ⟨acc,Q,?_,hl,hJ⟩
   rw [dC,if_pos]
   rw [← hl,List.getElem?_append_right (Nat.le_refl _)]
   simp
  | cons z zs ih=>
   intro i acc o Q hz hJ hl
   have hz0:items[i]?=some z:=by
    have:=hz 0
    simpa using this.symm
   have hz1:∀ j,zs[j]?=items[i+1+j]?:=fun j=>by
    have:=hz (j+1)
    rw [show i+1+j=i+(j+1) by omega]
    simpa using this
   obtain ⟨b,Q1,e1,l1,ht,hf⟩:=hs i z acc Q hz0 hJ hl
   rw [dC,Dn,bD,show (o :: τ).set 0 (some z)=some z :: τ from rfl,e1,bD]
   cases b with
   | true=>
    obtain ⟨x,Q2,e2,l2,hJ2⟩:=ht rfl
    rw [if_pos rfl,e2,bD]
    dsimp only
    have hn:(Q2++[Ob.lst acc])[S1.length]?=some (.lst acc):=by
     rw [← l2,List.getElem?_append_right (Nat.le_refl _)];simp
    rw [if_pos ⟨hn,True.intro⟩]
    have hset:(Q2++[Ob.lst acc]).set S1.length (.lst (acc++[x]))=Q2++[.lst (acc++[x])]:=by
     rw [← l2,List.set_append_right _ _ (Nat.le_refl _)];simp
    rw [hset]
    obtain ⟨acc',Q',e3,l3,h3⟩:=ih (i+1) (acc++[x]) (some z) Q2 hz1 hJ2 l2
    exact ⟨acc',Q',e3,l3,by rw [show i+(z :: zs).length=i+1+zs.length by simp;omega];exact h3⟩
   | false=>
    rw [if_neg Bool.false_ne_true,if_pos (show gok none (Q1++[Ob.lst acc]) from True.intro)]
    obtain ⟨acc',Q',e3,l3,h3⟩:=ih (i+1) acc (some z) Q1 hz1 (hf rfl) l1
    exact ⟨acc',Q',e3,l3,by rw [show i+(z :: zs).length=i+1+zs.length by simp;omega];exact h3⟩
 obtain ⟨acc,Q,e1,l1,h1⟩:=key items 0 [] none S1 (fun j=>by rw [Nat.zero_add]) h0 rfl
 refine ⟨acc,Q,?_,l1,by rw [Nat.zero_add] at h1;exact h1⟩
 show (it τ S).bind _=_
 rw [hit,bD]
 dsimp only
 rw [show List.replicate 1 (none:Option Vl)++τ=none :: τ from rfl,e1,bD]
 unfold jD
 rw [if_pos (by simp [l1]),← l1,List.take_left]
theorem zT (hit:it τ S=.ok ⟨items,none⟩ S1) (f:Vl→Option D)
  (hs:∀ z∈items,∀ S:Sto,(∀ x,f z=some x→t (some z :: τ) S=.ok true S∧e (some z :: τ) S=.ok (.d x) S)∧(f z=none→t (some z :: τ) S=.ok false S)) :
  xLC it 1 (gNm 0) t e τ S=.ok (.d (.lst (items.filterMap f))) S1:=by
 obtain ⟨acc,Q,e1,l1,h1⟩:=uf (t:=t) (e:=e) hit (fun i acc Q=>acc=(items.take i).filterMap f∧Q=S1) ⟨rfl,rfl⟩ (by
  rintro i z acc Q hz ⟨rfl,rfl⟩ _
  have hm:=List.mem_of_getElem? hz
  have ht:items.take (i+1)=items.take i++[z]:=by rw [List.take_add_one,hz];rfl
  obtain ⟨h1,h2⟩:=hs z hm (Q++[.lst ((items.take i).filterMap f)])
  cases q:f z with
  | some x=>
   obtain ⟨h3,h4⟩:=h1 x q
   refine ⟨true,Q,h3,rfl,fun _=>⟨x,Q,h4,rfl,?_,rfl⟩,fun z=>(by cases z)⟩
   rw [ht,List.filterMap_append]
   simp [q]
  | none=>
   refine ⟨false,Q,h2 q,rfl,fun z=>(by cases z),fun _=>⟨?_,rfl⟩⟩
   rw [ht,List.filterMap_append]
   simp [q])
 obtain ⟨rfl,rfl⟩:=h1
 rw [List.take_length] at e1
 exact e1
theorem ma (hit:it τ S=.ok ⟨items,none⟩ S1) (f:Vl→D) (hs:∀ z∈items,∀ S:Sto,e (some z :: τ) S=.ok (.d (f z)) S) :
  xLC it 1 (gNm 0) (fun _ S=>.ok true S) e τ S=.ok (.d (.lst (items.map f))) S1:=by
 have:=zT (t:=fun _ S=>.ok true S) (e:=e) hit (fun z=>some (f z)) fun z hz S=>⟨fun x hx=>⟨rfl,by cases hx;exact hs z hz S⟩,fun h=>by cases h⟩
 rw [this]
 congr 4
 rw [List.filterMap_eq_map']
end L2
namespace L2
section
variable {n:Nat} {b:XS} {x y z u v:Vl} {S:Sto}
theorem ba:aU 1 n b [x] S=leave S (b ([some x]++List.replicate (n - 1) none) S):=pq rfl
theorem c5:aU 2 n b [x,y] S=leave S (b ([some x,some y]++List.replicate (n - 2) none) S):=pq rfl
theorem ke:aU 3 n b [x,y,z] S=leave S (b ([some x,some y,some z]++List.replicate (n - 3) none) S):=pq rfl
theorem BI:aU 4 n b [x,y,z,u] S=leave S (b ([some x,some y,some z,some u]++List.replicate (n - 4) none) S):=pq rfl
end
end L2
theorem L2.ai {α:Sort _} {a b:α} (h:a=b):a=b:=h
namespace L2
open PySem PySem.Spec PyProof.Rows
def Bu (f:Vl→Vl→Sto→R Vl) (r:R Vl) (b:XE) (τ:Nv):R Vl:=r.bind fun x S1=>(b τ S1).bind fun y S2=>f x y S2
def wN (f:Vl→Vl→Sto→R Vl) (x:Vl) (r:R Vl):R Vl:=r.bind fun y S2=>f x y S2
def un1 (f:Vl→Sto→R Vl) (r:R Vl):R Vl:=r.bind fun x S1=>f x S1
def ch3 (r:R Vl) (f:Vl→Vl→Sto→R Vl) (y:Vl) (c:XE) (τ:Nv):R Vl:=r.bind fun z S3=>match z with
 | .d (.bl k)=>if k=true then (c τ S3).bind fun w S4=>f y w S4 else .ok (.d (.bl false)) S3
 | _=>.bad
def ch2 (f f2:Vl→Vl→Sto→R Vl) (x:Vl) (r:R Vl) (c:XE) (τ:Nv):R Vl:=r.bind fun y S2=>ch3 (f x y S2) f2 y c τ
def ch1 (f f2:Vl→Vl→Sto→R Vl) (r:R Vl) (b c:XE) (τ:Nv):R Vl:=r.bind fun x S1=>ch2 f f2 x (b τ S1) c τ
def t1 (r:R Vl):R Bool:=r.bind asB
def tr1 (r:R Vl):R Bool:=r.bind tru
def xy (r:R Bool) (b:XT) (τ:Nv):R Bool:=r.bind fun c S1=>if c=true then b τ S1 else .ok false S1
def or1 (r:R Bool) (b:XT) (τ:Nv):R Bool:=r.bind fun c S1=>if c=true then .ok true S1 else b τ S1
def C5 (r:R Bool):R Bool:=r.bind fun c S1=>.ok (!c) S1
def sT (r:R Vl) (b:XE) (τ:Nv):R Vl:=r.bind fun x S1=>(asB x S1).bind fun c S2=>if c=true then b τ S2 else .ok (.d (.bl false)) S2
def xH (r:R Vl) (b:XE) (τ:Nv):R Vl:=r.bind fun x S1=>(asB x S1).bind fun c S2=>if c=true then .ok (.d (.bl true)) S2 else b τ S2
def yC (r:R Vl):R Vl:=r.bind fun x S1=>(asB x S1).bind fun c S2=>.ok (.d (.bl (!c))) S2
def wX (r:R Bool) (a b:XE) (τ:Nv):R Vl:=r.bind fun k S1=>if k=true then a τ S1 else b τ S1
def co2 (x:Vl) (r:R (List Vl)):R (List Vl):=r.bind fun xs S2=>.ok (x :: xs) S2
def co1 (r:R Vl) (t:XA) (τ:Nv):R (List Vl):=r.bind fun x S1=>co2 x (t τ S1)
def n1 (f:List Vl→Sto→R Vl) (r:R (List Vl)):R Vl:=r.bind f
def c1 (F:XF) (r:R (List Vl)):R Vl:=r.bind fun us S1=>noX (F us S1)
def fz1 (r:R Vl):R Vl:=r.bind frz
def p1 (r:R Vl):R (Option Int):=r.bind fun x S1=>match x with
 | .d (.int i)=>.ok (some i) S1
 | _=>.bad
def sl3 (f:Vl→Option Int→Option Int→Sto→R Vl) (x:Vl) (i:Option Int) (r:R (Option Int)):R Vl:=r.bind fun j S3=>f x i j S3
def sl2 (f:Vl→Option Int→Option Int→Sto→R Vl) (x:Vl) (r:R (Option Int)) (h:XO) (τ:Nv):R Vl:=r.bind fun i S2=>sl3 f x i (h τ S2)
def sl1 (f:Vl→Option Int→Option Int→Sto→R Vl) (r:R Vl) (l h:XO) (τ:Nv):R Vl:=r.bind fun x S1=>sl2 f x (l τ S1) h τ
def lm4 (f:Nat→List D→D→Sto→R Vl) (n:Nat) (o:Option Ob) (z:D) (S:Sto):R Vl:=match o with
 | some (.lst xs)=>f n xs z S
 | _=>.bad
def lm3 (f:Nat→List D→D→Sto→R Vl) (n:Nat) (r:R Vl):R Vl:=r.bind fun y S2=>match y with
 | .d z=>lm4 f n S2[n]? z S2
 | _=>.bad
def lm2 (f:Nat→List D→D→Sto→R Vl) (n:Nat) (o:Option Ob) (e:XE) (τ:Nv) (S:Sto):R Vl:=match o with
 | some (.lst _)=>lm3 f n (e τ S)
 | _=>.bad
def lm1 (f:Nat→List D→D→Sto→R Vl) (r:R Vl) (e:XE) (τ:Nv):R Vl:=r.bind fun x S1=>match x with
 | .r n=>lm2 f n S1[n]? e τ S1
 | _=>.bad
def sq1 (r:R (Fl×Nv)) (b:XS):R (Fl×Nv):=r.bind fun q S1=>match q.1 with
 | .nx=>b q.2 S1
 | _=>.ok q S1
def ex1 (r:R Vl) (τ:Nv):R (Fl×Nv):=r.bind fun _ S1=>.ok (.nx,τ) S1
def rt1 (r:R Vl) (τ:Nv):R (Fl×Nv):=r.bind fun z S1=>.ok (.rt z,τ) S1
def if1 (r:R Bool) (a b:XS) (τ:Nv):R (Fl×Nv):=r.bind fun k S1=>if k=true then a τ S1 else b τ S1
def as2 (r:R Nv):R (Fl×Nv):=r.bind fun τ1 S2=>.ok (.nx,τ1) S2
def as1 (r:R Vl) (g:XG) (τ:Nv):R (Fl×Nv):=r.bind fun z S1=>as2 (g z τ S1)
def gc1 (r:R Nv) (gs:XGs) (zs:List Vl):R Nv:=r.bind fun τ1 S1=>gs zs τ1 S1
def gs3 (r:R Unit) (τ:Nv):R Nv:=r.bind fun _ S3=>.ok τ S3
def gs2 (x:Vl) (r:R Vl) (f:Vl→Vl→Vl→Sto→R Unit) (z:Vl) (τ:Nv):R Nv:=r.bind fun y S2=>gs3 (f x y z S2) τ
def gs1 (r:R Vl) (i:XE) (f:Vl→Vl→Vl→Sto→R Unit) (z:Vl) (τ:Nv):R Nv:=r.bind fun x S1=>gs2 x (i τ S1) f z τ
noncomputable def fo1 (r:R Its) (g:XG) (b:XS) (τ:Nv):R (Fl×Nv):=r.bind fun I S1=>eZ g b I.gd I.items τ S1
def is2 (n:Nat) (o:Option Ob) (S:Sto):R Its:=match o with
 | some (.lst xs)=>.ok ⟨xs.map Vl.d,some (n,.lst xs)⟩ S
 | _=>.bad
def is1 (r:R Vl):R Its:=r.bind fun z S1=>match z with
 | .d (.tup xs)=>.ok ⟨xs.map Vl.d,none⟩ S1
 | .d (.lst xs)=>.ok ⟨xs.map Vl.d,none⟩ S1
 | .r n=>is2 n S1[n]? S1
 | _=>.bad
def ir1 (r:R (List Vl)):R Its:=r.bind fun zs S1=>match zs with
 | [.d (.int j)]=>if -100000≤j∧j≤100000 then .ok ⟨(List.range j.toNat).map fun i=>Vl.d (.int (i:Nat)),none⟩ S1 else .bad
 | _=>.bad
def ir2 (r:R (List Vl)):R Its:=r.bind fun zs S1=>match zs with
 | [.d (.int i),.d (.int j)]=>if (-100000≤i∧i≤100000)∧-100000≤j∧j≤100000 then .ok ⟨(List.range (j - i).toNat).map fun k=>Vl.d (.int (i+(k:Nat))),none⟩ S1 else .bad
 | _=>.bad
def ie1 (r:R Vl):R Its:=r.bind fun z S1=>match z with
 | .d (.lst xs)=>.ok ⟨dE 0 xs,none⟩ S1
 | _=>.bad
theorem yK {v:Vl} {τ:Nv} {S:Sto}:ab 0 (some v :: τ) S=.ok v S:=ai rfl
theorem yi {n:Nat} {o:Option Vl} {τ:Nv} {S:Sto}:ab (n+1) (o :: τ) S=ab n τ S:=ai rfl
theorem wJ {x:D} {τ:Nv} {S:Sto}:xC x τ S=.ok (.d x) S:=ai rfl
theorem Dm {x:Str} {τ:Nv} {S:Sto}:xFn x τ S=.ok (.fn x) S:=ai rfl
theorem En {f:Vl→Vl→Sto→R Vl} {a b:XE} {τ:Nv} {S:Sto}:xOp f a b τ S=Bu f (a τ S) b τ:=ai rfl
theorem B2 {f:Vl→Vl→Sto→R Vl} {b:XE} {τ:Nv} {S1:Sto} {x:Vl}:Bu f (.ok x S1) b τ=wN f x (b τ S1):=ai rfl
theorem A_ {f:Vl→Vl→Sto→R Vl} {S1:Sto} {x y:Vl}:wN f x (.ok y S1)=f x y S1:=ai rfl
theorem DO {u:Vl→Sto→R Vl} {a:XE} {τ:Nv} {S:Sto}:xUn u a τ S=un1 u (a τ S):=ai rfl
theorem DF {u:Vl→Sto→R Vl} {S1:Sto} {x:Vl}:un1 u (.ok x S1)=u x S1:=ai rfl
theorem w4 {f f2:Vl→Vl→Sto→R Vl} {a b c:XE} {τ:Nv} {S:Sto}:eR f f2 a b c τ S=ch1 f f2 (a τ S) b c τ:=ai rfl
theorem Ee {f f2:Vl→Vl→Sto→R Vl} {b c:XE} {τ:Nv} {S1:Sto} {x:Vl}:ch1 f f2 (.ok x S1) b c τ=ch2 f f2 x (b τ S1) c τ:=ai rfl
theorem Dz {f f2:Vl→Vl→Sto→R Vl} {c:XE} {τ:Nv} {S1:Sto} {x y:Vl}:ch2 f f2 x (.ok y S1) c τ=ch3 (f x y S1) f2 y c τ:=ai rfl
theorem B6 {f:Vl→Vl→Sto→R Vl} {c:XE} {τ:Nv} {S1:Sto} {y:Vl}:ch3 (.ok (.d (.bl true)) S1) f y c τ=wN f y (c τ S1):=ai rfl
theorem Cq {f:Vl→Vl→Sto→R Vl} {c:XE} {τ:Nv} {S1:Sto} {y:Vl}:ch3 (.ok (.d (.bl false)) S1) f y c τ=.ok (.d (.bl false)) S1:=ai rfl
theorem zj {a:XE} {τ:Nv} {S:Sto}:aS a τ S=t1 (a τ S):=ai rfl
theorem Fh {k:Bool} {S:Sto}:t1 (.ok (.d (.bl k)) S)=.ok k S:=ai rfl
theorem B3 {a:XE} {τ:Nv} {S:Sto}:cx a τ S=tr1 (a τ S):=ai rfl
theorem Ed {z:Vl} {S:Sto}:tr1 (.ok z S)=tru z S:=ai rfl
theorem Ez {k:Bool} {S:Sto}:tru (.d (.bl k)) S=.ok k S:=ai rfl
theorem E1 {xs:List D} {S:Sto}:tru (.d (.tup xs)) S=.ok (!xs.isEmpty) S:=ai rfl
theorem ES {xs:List D} {S:Sto}:tru (.d (.lst xs)) S=.ok (!xs.isEmpty) S:=ai rfl
theorem ET {S:Sto}:tru (.d .non) S=.ok false S:=ai rfl
theorem Bw {a b:XT} {τ:Nv} {S:Sto}:Gb a b τ S=xy (a τ S) b τ:=ai rfl
theorem Cw {b:XT} {τ:Nv} {S:Sto}:xy (.ok true S) b τ=b τ S:=ai rfl
theorem BV {b:XT} {τ:Nv} {S:Sto}:xy (.ok false S) b τ=.ok false S:=ai rfl
theorem DT {a b:XT} {τ:Nv} {S:Sto}:xOr a b τ S=or1 (a τ S) b τ:=ai rfl
theorem DU {b:XT} {τ:Nv} {S:Sto}:or1 (.ok true S) b τ=.ok true S:=ai rfl
theorem EZ {b:XT} {τ:Nv} {S:Sto}:or1 (.ok false S) b τ=b τ S:=ai rfl
theorem C_ {a:XT} {τ:Nv} {S:Sto}:dh a τ S=C5 (a τ S):=ai rfl
theorem AN {S:Sto} {k:Bool}:C5 (.ok k S)=.ok (!k) S:=ai rfl
theorem zw {a b:XE} {τ:Nv} {S:Sto}:bG a b τ S=sT (a τ S) b τ:=ai rfl
theorem yT {b:XE} {τ:Nv} {S:Sto}:sT (.ok (.d (.bl true)) S) b τ=b τ S:=ai rfl
theorem zG {b:XE} {τ:Nv} {S:Sto}:sT (.ok (.d (.bl false)) S) b τ=.ok (.d (.bl false)) S:=ai rfl
theorem Cs {a b:XE} {τ:Nv} {S:Sto}:pY a b τ S=xH (a τ S) b τ:=ai rfl
theorem Bl {b:XE} {τ:Nv} {S:Sto}:xH (.ok (.d (.bl true)) S) b τ=.ok (.d (.bl true)) S:=ai rfl
theorem BR {b:XE} {τ:Nv} {S:Sto}:xH (.ok (.d (.bl false)) S) b τ=b τ S:=ai rfl
theorem zJ {a:XE} {τ:Nv} {S:Sto}:sE a τ S=yC (a τ S):=ai rfl
theorem Ab {k:Bool} {S:Sto}:yC (.ok (.d (.bl k)) S)=.ok (.d (.bl (!k))) S:=ai rfl
theorem AM {c:XT} {a b:XE} {τ:Nv} {S:Sto}:j7 c a b τ S=wX (c τ S) a b τ:=ai rfl
theorem Bc {a b:XE} {τ:Nv} {S:Sto}:wX (.ok true S) a b τ=a τ S:=ai rfl
theorem Bn {a b:XE} {τ:Nv} {S:Sto}:wX (.ok false S) a b τ=b τ S:=ai rfl
theorem vj {τ:Nv} {S:Sto}:aj τ S=.ok [] S:=ai rfl
theorem sj {a:XE} {r:XA} {τ:Nv} {S:Sto}:aa a r τ S=co1 (a τ S) r τ:=ai rfl
theorem yG {r:XA} {τ:Nv} {S:Sto} {x:Vl}:co1 (.ok x S) r τ=co2 x (r τ S):=ai rfl
theorem yw {S:Sto} {x:Vl} {xs:List Vl}:co2 x (.ok xs S)=.ok (x :: xs) S:=ai rfl
theorem F_ {r:XA} {τ:Nv} {S:Sto} {f:List Vl→Sto→R Vl}:xN f r τ S=n1 f (r τ S):=ai rfl
theorem FI {S:Sto} {xs:List Vl} {f:List Vl→Sto→R Vl}:n1 f (.ok xs S)=f xs S:=ai rfl
theorem sh {r:XA} {τ:Nv} {S:Sto} {F:XF}:av F r τ S=c1 F (r τ S):=ai rfl
theorem AL {S:Sto} {xs:List Vl} {F:XF}:c1 F (.ok xs S)=noX (F xs S):=ai rfl
theorem yo {x:Vl} {S:Sto}:noX (R.ok x S)=.ok x S:=ai rfl
theorem EH {a:XE} {τ:Nv} {S:Sto}:xFz a τ S=fz1 (a τ S):=ai rfl
theorem DZ {z:Vl} {S:Sto}:fz1 (.ok z S)=frz z S:=ai rfl
theorem AE {x:D} {S:Sto}:frz (.d x) S=.ok (.d x) S:=ai rfl
theorem uN {τ:Nv} {S:Sto}:cW τ S=.ok none S:=ai rfl
theorem zm {a:XE} {τ:Nv} {S:Sto}:dW a τ S=p1 (a τ S):=ai rfl
theorem Fp {i:Int} {S:Sto}:p1 (.ok (.d (.int i)) S)=.ok (some i) S:=ai rfl
theorem E3 {f:Vl→Option Int→Option Int→Sto→R Vl} {a:XE} {l h:XO} {τ:Nv} {S:Sto}:xSl f a l h τ S=sl1 f (a τ S) l h τ:=ai rfl
theorem EG {f:Vl→Option Int→Option Int→Sto→R Vl} {l h:XO} {τ:Nv} {S:Sto} {x:Vl}:sl1 f (.ok x S) l h τ=sl2 f x (l τ S) h τ:=ai rfl
theorem EI {f:Vl→Option Int→Option Int→Sto→R Vl} {h:XO} {τ:Nv} {S:Sto} {x:Vl} {i:Option Int}:sl2 f x (.ok i S) h τ=sl3 f x i (h τ S):=ai rfl
theorem Et {f:Vl→Option Int→Option Int→Sto→R Vl} {S:Sto} {x:Vl} {i j:Option Int}:sl3 f x i (.ok j S)=f x i j S:=ai rfl
theorem EA {f:Nat→List D→D→Sto→R Vl} {o e:XE} {τ:Nv} {S:Sto}:xLm f o e τ S=lm1 f (o τ S) e τ:=ai rfl
theorem EJ {f:Nat→List D→D→Sto→R Vl} {e:XE} {τ:Nv} {S:Sto} {n:Nat}:lm1 f (.ok (.r n) S) e τ=lm2 f n S[n]? e τ S:=ai rfl
theorem Dl {f:Nat→List D→D→Sto→R Vl} {e:XE} {τ:Nv} {S:Sto} {n:Nat} {xs:List D}:lm2 f n (some (.lst xs)) e τ S=lm3 f n (e τ S):=ai rfl
theorem EY {f:Nat→List D→D→Sto→R Vl} {S:Sto} {n:Nat} {z:D}:lm3 f n (.ok (.d z) S)=lm4 f n S[n]? z S:=ai rfl
theorem Eo {f:Nat→List D→D→Sto→R Vl} {S:Sto} {n:Nat} {xs:List D} {z:D}:lm4 f n (some (.lst xs)) z S=f n xs z S:=ai rfl
theorem nj {τ:Nv} {S:Sto}:aN τ S=.ok (.nx,τ) S:=ai rfl
theorem qS {a b:XS} {τ:Nv} {S:Sto}:ay a b τ S=sq1 (a τ S) b:=ai rfl
theorem jm {b:XS} {τ:Nv} {S:Sto}:sq1 (.ok (.nx,τ) S) b=b τ S:=ai rfl
theorem Ei {b:XS} {τ:Nv} {S:Sto} {v:Vl}:sq1 (.ok (.rt v,τ) S) b=.ok (.rt v,τ) S:=ai rfl
theorem DA {b:XS} {τ:Nv} {S:Sto}:sq1 (.ok (.bk,τ) S) b=.ok (.bk,τ) S:=ai rfl
theorem D4 {b:XS} {τ:Nv} {S:Sto}:sq1 (.ok (.ct,τ) S) b=.ok (.ct,τ) S:=ai rfl
theorem zx {τ:Nv} {S:Sto} {e:XE}:fH e τ S=ex1 (e τ S) τ:=ai rfl
theorem EB {τ:Nv} {S:Sto} {z:Vl}:ex1 (.ok z S) τ=.ok (.nx,τ) S:=ai rfl
theorem De {τ:Nv} {S:Sto} {e:XE}:aB e τ S=rt1 (e τ S) τ:=ai rfl
theorem EK {τ:Nv} {S:Sto} {z:Vl}:rt1 (.ok z S) τ=.ok (.rt z,τ) S:=ai rfl
theorem yY {τ:Nv} {S:Sto}:Dw τ S=.ok (.rt (.d .non),τ) S:=ai rfl
theorem zv {τ:Nv} {S:Sto}:DV τ S=.ok (.ct,τ) S:=ai rfl
theorem xO {τ:Nv} {S:Sto}:Cn τ S=.ok (.bk,τ) S:=ai rfl
theorem x8 {a b:XS} {τ:Nv} {S:Sto} {t:XT}:xIf t a b τ S=if1 (t τ S) a b τ:=ai rfl
theorem A3 {a b:XS} {τ:Nv} {S:Sto}:if1 (.ok true S) a b τ=a τ S:=ai rfl
theorem qg {a b:XS} {τ:Nv} {S:Sto}:if1 (.ok false S) a b τ=b τ S:=ai rfl
theorem qZ {τ:Nv} {S:Sto} {e:XE} {g:XG}:aR e g τ S=as1 (e τ S) g τ:=ai rfl
theorem o_ {τ:Nv} {S:Sto} {z:Vl} {g:XG}:as1 (.ok z S) g τ=as2 (g z τ S):=ai rfl
theorem mn {τ1:Nv} {S:Sto}:as2 (.ok τ1 S)=.ok (.nx,τ1) S:=ai rfl
theorem gi {τ:Nv} {S:Sto} {z:Vl} {i:Nat}:gNm i z τ S=.ok (τ.set i (some z)) S:=ai rfl
theorem Eu {gs:XGs} {τ:Nv} {S:Sto} {xs:List D} {n:Nat}:gTu n gs (.d (.tup xs)) τ S=if xs.length=n then gs (xs.map Vl.d) τ S else .bad:=ai rfl
theorem Dy {τ:Nv} {S:Sto}:gN0 [] τ S=.ok τ S:=ai rfl
theorem Dj {g:XG} {gs:XGs} {τ:Nv} {S:Sto} {z:Vl} {zs:List Vl}:gCo g gs (z :: zs) τ S=gc1 (g z τ S) gs zs:=ai rfl
theorem D6 {gs:XGs} {τ1:Nv} {S:Sto} {zs:List Vl}:gc1 (.ok τ1 S) gs zs=gs zs τ1 S:=ai rfl
theorem yk {τ:Nv} {S:Sto} {z:Vl} {o e:XE} {f:Vl→Vl→Vl→Sto→R Unit}:gSb o e f z τ S=gs1 (o τ S) e f z τ:=ai rfl
theorem yr {τ:Nv} {S:Sto} {z x:Vl} {e:XE} {f:Vl→Vl→Vl→Sto→R Unit}:gs1 (.ok x S) e f z τ=gs2 x (e τ S) f z τ:=ai rfl
theorem yL {τ:Nv} {S:Sto} {z x y:Vl} {f:Vl→Vl→Vl→Sto→R Unit}:gs2 x (.ok y S) f z τ=gs3 (f x y z S) τ:=ai rfl
theorem tN {τ:Nv} {S:Sto}:gs3 (.ok () S) τ=.ok τ S:=ai rfl
theorem t_ {it:XI} {g:XG} {b:XS} {τ:Nv} {S:Sto}:fE it g b τ S=fo1 (it τ S) g b τ:=ai rfl
theorem yh {g:XG} {b:XS} {τ:Nv} {S:Sto} {I:Its}:fo1 (.ok I S) g b τ=eZ g b I.gd I.items τ S:=ai rfl
theorem vi {τ:Nv} {S:Sto} {e:XE}:cv e τ S=is1 (e τ S):=ai rfl
theorem uw {S:Sto} {xs:List D}:is1 (.ok (.d (.tup xs)) S)=.ok ⟨xs.map Vl.d,none⟩ S:=ai rfl
theorem CF {S:Sto} {xs:List D}:is1 (.ok (.d (.lst xs)) S)=.ok ⟨xs.map Vl.d,none⟩ S:=ai rfl
theorem Dc {S:Sto} {n:Nat}:is1 (.ok (.r n) S)=is2 n S[n]? S:=ai rfl
theorem Dx {S:Sto} {xs:List D} {n:Nat}:is2 n (some (.lst xs)) S=.ok ⟨xs.map Vl.d,some (n,.lst xs)⟩ S:=ai rfl
theorem Cj {τ:Nv} {S:Sto} {as:XA}:gS as τ S=ir1 (as τ S):=ai rfl
theorem C2 {τ:Nv} {S:Sto} {as:XA}:wQ as τ S=ir2 (as τ S):=ai rfl
theorem B7 {τ:Nv} {S:Sto} {e:XE}:xF e τ S=ie1 (e τ S):=ai rfl
theorem DE {S:Sto} {xs:List D}:ie1 (.ok (.d (.lst xs)) S)=.ok ⟨dE 0 xs,none⟩ S:=ai rfl
theorem o9 {j:Int} {S:Sto} (h:-100000≤j∧j≤100000):ir1 (.ok [.d (.int j)] S)=.ok ⟨(List.range j.toNat).map fun i=>Vl.d (.int (i:Nat)),none⟩ S:=by rw [show ir1 (.ok [.d (.int j)] S)=if -100000≤j∧j≤100000 then .ok ⟨(List.range j.toNat).map fun i=>Vl.d (.int (i:Nat)),none⟩ S else .bad from rfl,if_pos h]
theorem tJ {i j:Int} {S:Sto} (h:(-100000≤i∧i≤100000)∧-100000≤j∧j≤100000):ir2 (.ok [.d (.int i),.d (.int j)] S)=.ok ⟨(List.range (j - i).toNat).map fun k=>Vl.d (.int (i+(k:Nat))),none⟩ S:=by rw [show ir2 (.ok [.d (.int i),.d (.int j)] S)=if (-100000≤i∧i≤100000)∧-100000≤j∧j≤100000 then .ok ⟨(List.range (j - i).toNat).map fun k=>Vl.d (.int (i+(k:Nat))),none⟩ S else .bad from rfl,if_pos h]
theorem FY {i j:Int} {S:Sto} {g:Int→Int→D}:oI0 g (.d (.int i)) (.d (.int j)) S=.ok (.d (g i j)) S:=ai rfl
theorem AF {i j:Int} {S:Sto}:bz (.d (.int i)) (.d (.int j)) S=.ok (.d (.int (i+j))) S:=ai rfl
theorem Ek {i:Int} {S:Sto}:fm (.d (.int i)) S=.ok (.d (.int (-i))) S:=ai rfl
theorem Ck {S:Sto} {xs ys:List D} (h:xs.length+ys.length≤100000):bz (.d (.tup xs)) (.d (.tup ys)) S=.ok (.d (.tup (xs++ys))) S:=by rw [show bz (.d (.tup xs)) (.d (.tup ys)) S=if xs.length+ys.length≤100000 then .ok (.d (.tup (xs++ys))) S else .bad from rfl,if_pos h]
theorem pL {S:Sto} {xs ys:List D} (h:xs.length+ys.length≤100000):bz (.d (.lst xs)) (.d (.lst ys)) S=.ok (.d (.lst (xs++ys))) S:=by rw [show bz (.d (.lst xs)) (.d (.lst ys)) S=if xs.length+ys.length≤100000 then .ok (.d (.lst (xs++ys))) S else .bad from rfl,if_pos h]
theorem DD {i j:Int} {S:Sto}:oEq (.d (.int i)) (.d (.int j)) S=.ok (.d (.bl (decide (i=j)))) S:=ai rfl
theorem Dk {i j:Int} {S:Sto}:oNe (.d (.int i)) (.d (.int j)) S=.ok (.d (.bl (!decide (i=j)))) S:=ai rfl
theorem EL {S:Sto} {s t:Str}:oEq (.d (.str s)) (.d (.str t)) S=.ok (.d (.bl (decide (s=t)))) S:=ai rfl
theorem Ex {S:Sto} {s t:Str}:oNe (.d (.str s)) (.d (.str t)) S=.ok (.d (.bl (!decide (s=t)))) S:=ai rfl
theorem E2 {S:Sto} {p q:Bool}:oEq (.d (.bl p)) (.d (.bl q)) S=.ok (.d (.bl (decide (p=q)))) S:=ai rfl
theorem Em {S:Sto} {p q:Bool}:oNe (.d (.bl p)) (.d (.bl q)) S=.ok (.d (.bl (!decide (p=q)))) S:=ai rfl
theorem yu {S:Sto} {xs ys:List D} (h:D.depth (.tup xs)≤50):oEq (.d (.tup xs)) (.d (.tup ys)) S=.ok (.d (.bl (D.b9 xs ys))) S:=by
 have:eqD (.d (.tup xs)) (.d (.tup ys)) S=some (D.b9 xs ys):=by rw [show eqD (.d (.tup xs)) (.d (.tup ys)) S=if D.depth (.tup xs)≤50 then some (D.b9 xs ys) else none from rfl,if_pos h]
 unfold oEq;rw [this]
theorem E_ {S:Sto} {p q:Bool}:oIs (.d (.bl p)) (.d (.bl q)) S=.ok (.d (.bl (p == q))) S:=ai rfl
theorem CS {S:Sto}:oIs (.d .non) (.d .non) S=.ok (.d (.bl true)) S:=ai rfl
theorem Bm {S:Sto} {xs:List D}:oIs (.d (.tup xs)) (.d .non) S=.ok (.d (.bl false)) S:=ai rfl
theorem CK {S:Sto} {xs:List D}:oIs (.d (.lst xs)) (.d .non) S=.ok (.d (.bl false)) S:=ai rfl
theorem BH {i:Int} {S:Sto}:oIs (.d (.int i)) (.d .non) S=.ok (.d (.bl false)) S:=ai rfl
theorem xS {S:Sto}:pj (.d .non) (.d .non) S=.ok (.d (.bl false)) S:=ai rfl
theorem wI {S:Sto} {xs:List D}:pj (.d (.tup xs)) (.d .non) S=.ok (.d (.bl true)) S:=ai rfl
theorem wu {S:Sto} {xs:List D}:pj (.d (.lst xs)) (.d .non) S=.ok (.d (.bl true)) S:=ai rfl
theorem wY {i:Int} {S:Sto}:pj (.d (.int i)) (.d .non) S=.ok (.d (.bl true)) S:=ai rfl
theorem Dr {T:String} {x:D} {S:Sto}:cy T (.d x) S=.ok (.d (.bl (isT T x))) S:=ai rfl
theorem gH {S:Sto} {xs:List D}:bB [.d (.tup xs)] S=.ok (.d (.int xs.length)) S:=ai rfl
theorem uu {S:Sto} {xs:List D}:bB [.d (.lst xs)] S=.ok (.d (.int xs.length)) S:=ai rfl
theorem BC {S:Sto} {xs:List D}:bR [.d (.tup xs)] S=.ok (.d (.tup xs)) S:=ai rfl
theorem Cv {S:Sto} {xs:List D}:bR [.d (.lst xs)] S=.ok (.d (.tup xs)) S:=ai rfl
theorem CO {S:Sto} {xs:List D}:yv [.d (.tup xs)] S=.ok (.d (.lst xs)) S:=ai rfl
theorem BL {S:Sto} {xs:List D}:yv [.d (.lst xs)] S=.ok (.d (.lst xs)) S:=ai rfl
theorem yM {S:Sto} {xs:List D}:kI [.d (.tup xs)] S=.ok (.r S.length) (S++[.lst xs]):=ai rfl
theorem zI {S:Sto} {xs:List D}:kI [.d (.lst xs)] S=.ok (.r S.length) (S++[.lst xs]):=ai rfl
theorem DI {i j:Int} {S:Sto}:qk [.d (.int i),.d (.int j)] S=.ok (.d (.int (if j > i then j else i))) S:=ai rfl
theorem D8 {i j:Int} {S:Sto}:lT [.d (.int i),.d (.int j)] S=.ok (.d (.int (if j < i then j else i))) S:=ai rfl
theorem bo {i:Int} {S:Sto} {xs:List D} {z:D} (h:atI xs i=some z):oIx (.d (.tup xs)) (.d (.int i)) S=.ok (.d z) S:=by rw [show oIx (.d (.tup xs)) (.d (.int i)) S=(match atI xs i with | some z=>.ok (.d z) S | none=>.bad) from rfl,h]
theorem eg {i:Int} {S:Sto} {xs:List D} {z:D} (h:atI xs i=some z):oIx (.d (.lst xs)) (.d (.int i)) S=.ok (.d z) S:=by rw [show oIx (.d (.lst xs)) (.d (.int i)) S=(match atI xs i with | some z=>.ok (.d z) S | none=>.bad) from rfl,h]
theorem pw {i:Int} {S:Sto} {xs:List D} {z:D} {n:Nat} (e:S[n]?=some (.lst xs)) (h:atI xs i=some z):oIx (.r n) (.d (.int i)) S=.ok (.d z) S:=by
 have:bW (.r n) S=some xs:=by unfold bW cw;dsimp only;rw [e]
 unfold oIx;dsimp only;rw [this];dsimp only;rw [h]
theorem qM {S:Sto} {xs:List D} {n:Nat} (e:S[n]?=some (.lst xs)):bB [.r n] S=.ok (.d (.int xs.length)) S:=by
 have:bW (.r n) S=some xs:=by unfold bW cw;dsimp only;rw [e]
 unfold bB;dsimp only;rw [this]
theorem D_ {xs:List D} {i j:Option Int} {S:Sto}:oSl (.d (.tup xs)) i j S=.ok (.d (.tup (eE xs i j))) S:=ai rfl
theorem E4 {xs:List D} {i j:Option Int} {S:Sto}:oSl (.d (.lst xs)) i j S=.ok (.d (.lst (eE xs i j))) S:=ai rfl
theorem ER {ns:List Int} {i j:Option Int} {S:Sto}:pG (.sc ns) i j S=.ok (.d (.lst (eE (ns.map D.int) i j))) S:=ai rfl
theorem D7 {S:Sto} {xs:List D}:FJ (.d (.tup xs)) (.d (.int (-1))) S=.ok (.d (.tup xs.reverse)) S:=ai rfl
theorem E5 {i j:Int} {S:Sto}:kD (.d (.int i)) (.d (.int j)) S=.ok (.d (.int (i - j))) S:=ai rfl
theorem F2 {i j:Int} {S:Sto}:oLt (.d (.int i)) (.d (.int j)) S=.ok (.d (.bl (decide (i < j)))) S:=ai rfl
theorem F5 {i j:Int} {S:Sto}:oLe (.d (.int i)) (.d (.int j)) S=.ok (.d (.bl (decide (i≤j)))) S:=ai rfl
theorem FE {i j:Int} {S:Sto}:oGt (.d (.int i)) (.d (.int j)) S=.ok (.d (.bl (decide (j < i)))) S:=ai rfl
theorem Fn {i j:Int} {S:Sto}:oGe (.d (.int i)) (.d (.int j)) S=.ok (.d (.bl (decide (j≤i)))) S:=ai rfl
theorem yx {i j:Int} {S:Sto} (h:jA i j):f6 (.d (.int i)) (.d (.int j)) S=.ok (.d (.int (i * j))) S:=by rw [show f6 (.d (.int i)) (.d (.int j)) S=if jA i j then .ok (.d (.int (i * j))) S else .bad from rfl,if_pos h]
theorem yj {i j:Int} {S:Sto} (h:0 < j):oMod (.d (.int i)) (.d (.int j)) S=.ok (.d (.int (i % j))) S:=by rw [show oMod (.d (.int i)) (.d (.int j)) S=if 0 < j then .ok (.d (.int (i % j))) S else .bad from rfl,if_pos h]
theorem EC {i j:Int} {S:Sto} (h:nA i j):oDiv (.d (.int i)) (.d (.int j)) S=.ok (.d (.int (i / j))) S:=by rw [show oDiv (.d (.int i)) (.d (.int j)) S=if nA i j then .ok (.d (.int (i / j))) S else .bad from rfl,if_pos h]
theorem tm {i j:Int} {S:Sto} (h:nc i j):sH (.d (.int i)) (.d (.int j)) S=.ok (.d (.int (i ^ j.toNat))) S:=by rw [show sH (.d (.int i)) (.d (.int j)) S=if nc i j then .ok (.d (.int (i ^ j.toNat))) S else .bad from rfl,if_pos h]
theorem x9 {i j:Int} (h1:-(2 ^ 64) < j) (h2:j < 2 ^ 64):jA i j:=.inr ⟨h1,h2⟩
theorem A1:mkT [] S=.ok (.d (.tup [])) S:=ai rfl
theorem Bg:mkL [] S=.ok (.d (.lst [])) S:=ai rfl
theorem Au:mkM [] S=.ok (.r S.length) (S++[.lst []]):=ai rfl
theorem BW:mkT [.d a] S=.ok (.d (.tup [a])) S:=ai rfl
theorem CQ:mkL [.d a] S=.ok (.d (.lst [a])) S:=ai rfl
theorem BK:mkM [.d a] S=.ok (.r S.length) (S++[.lst [a]]):=ai rfl
theorem Ca:mkT [.d a,.d b] S=.ok (.d (.tup [a,b])) S:=ai rfl
theorem AU:mkL [.d a,.d b] S=.ok (.d (.lst [a,b])) S:=ai rfl
theorem AD:mkM [.d a,.d b] S=.ok (.r S.length) (S++[.lst [a,b]]):=ai rfl
theorem B_:mkT [.d a,.d b,.d c] S=.ok (.d (.tup [a,b,c])) S:=ai rfl
theorem C3:mkL [.d a,.d b,.d c] S=.ok (.d (.lst [a,b,c])) S:=ai rfl
theorem C1:mkM [.d a,.d b,.d c] S=.ok (.r S.length) (S++[.lst [a,b,c]]):=ai rfl
theorem Ap:mkT [.d a,.d b,.d c,.d d] S=.ok (.d (.tup [a,b,c,d])) S:=ai rfl
theorem An:mkL [.d a,.d b,.d c,.d d] S=.ok (.d (.lst [a,b,c,d])) S:=ai rfl
theorem Ao:mkT [.d a,.d b,.d c,.d d,.d e] S=.ok (.d (.tup [a,b,c,d,e])) S:=ai rfl
theorem CY:mkL [.d a,.d b,.d c,.d d,.d e] S=.ok (.d (.lst [a,b,c,d,e])) S:=ai rfl
theorem Aj:mkT [.d a,.d b,.d c,.d d,.d e,.d f] S=.ok (.d (.tup [a,b,c,d,e,f])) S:=ai rfl
theorem Bv:mkL [.d a,.d b,.d c,.d d,.d e,.d f] S=.ok (.d (.lst [a,b,c,d,e,f])) S:=ai rfl
theorem BE:mkT [.d a,.d b,.d c,.d d,.d e,.d f,.d g] S=.ok (.d (.tup [a,b,c,d,e,f,g])) S:=ai rfl
theorem Co:mkL [.d a,.d b,.d c,.d d,.d e,.d f,.d g] S=.ok (.d (.lst [a,b,c,d,e,f,g])) S:=ai rfl
theorem AV:mkT [.d a,.d b,.d c,.d d,.d e,.d f,.d g,.d h] S=.ok (.d (.tup [a,b,c,d,e,f,g,h])) S:=ai rfl
theorem AB:mkL [.d a,.d b,.d c,.d d,.d e,.d f,.d g,.d h] S=.ok (.d (.lst [a,b,c,d,e,f,g,h])) S:=ai rfl
theorem CU:mkT [.d a,.d b,.d c,.d d,.d e,.d f,.d g,.d h,.d i] S=.ok (.d (.tup [a,b,c,d,e,f,g,h,i])) S:=ai rfl
theorem CC:mkL [.d a,.d b,.d c,.d d,.d e,.d f,.d g,.d h,.d i] S=.ok (.d (.lst [a,b,c,d,e,f,g,h,i])) S:=ai rfl
theorem Ac:mkT [.d a,.d b,.d c,.d d,.d e,.d f,.d g,.d h,.d i,.d j] S=.ok (.d (.tup [a,b,c,d,e,f,g,h,i,j])) S:=ai rfl
theorem zl:mkL [.d a,.d b,.d c,.d d,.d e,.d f,.d g,.d h,.d i,.d j] S=.ok (.d (.lst [a,b,c,d,e,f,g,h,i,j])) S:=ai rfl
theorem zE:mkT [.d a,.d b,.d c,.d d,.d e,.d f,.d g,.d h,.d i,.d j,.d k] S=.ok (.d (.tup [a,b,c,d,e,f,g,h,i,j,k])) S:=ai rfl
theorem Ae:mkL [.d a,.d b,.d c,.d d,.d e,.d f,.d g,.d h,.d i,.d j,.d k] S=.ok (.d (.lst [a,b,c,d,e,f,g,h,i,j,k])) S:=ai rfl
theorem zY:mkT [.d a,.d b,.d c,.d d,.d e,.d f,.d g,.d h,.d i,.d j,.d k,.d l] S=.ok (.d (.tup [a,b,c,d,e,f,g,h,i,j,k,l])) S:=ai rfl
theorem yX:mkL [.d a,.d b,.d c,.d d,.d e,.d f,.d g,.d h,.d i,.d j,.d k,.d l] S=.ok (.d (.lst [a,b,c,d,e,f,g,h,i,j,k,l])) S:=ai rfl
theorem gF {R:Sto}:(o :: (R++[x]))[R.length+1]?=some x:=by simp
theorem ff {R:Sto}:(R++[x])[R.length]?=some x:=by simp
theorem xu {R:Sto}:(R++[x]).set R.length y=R++[y]:=by simp
theorem wB {R:Sto}:(R++[x,y])[R.length]?=some x:=by simp
theorem wA {R:Sto}:(R++[x,y]).set R.length z=R++[z,y]:=by simp
theorem qT {R:Sto}:(R++[x,y])[R.length+1]?=some y:=by simp
theorem wV {R:Sto}:(R++[x,y]).set (R.length+1) z=R++[x,z]:=by simp
theorem ua (ns:List Int):(ns.map D.int).all D.flat=true:=by rw [List.all_map];exact List.all_eq_true.mpr fun _ _=>rfl
theorem zc (w:Int) (ns:List Int):inD (.int w) (ns.map D.int)=decide (w∈ns):=by
 unfold inD
 rw [List.any_map,Bool.eq_iff_iff,List.any_eq_true,decide_eq_true_eq]
 constructor
 ·rintro ⟨x,hx,e⟩
  have e':(x == w)=true:=e
  rw [← (beq_iff_eq.mp e')];exact hx
 ·intro h
  exact ⟨w,h,by show (w == w)=true;simp⟩
theorem oZ (e:S[n]?=some (.lst xs)):bW (.r n) S=some xs:=by unfold bW cw;dsimp only;rw [e]
theorem tF (e:S[n]?=some (.lst xs)):cw (.r n) S=some xs:=by unfold cw;dsimp only;rw [e]
theorem gX {ns:List Int} (h:bW y S=some (ns.map D.int)):inX (.d (.int w)) y S=some (decide (w∈ns)):=by
 unfold inX
 dsimp only
 rw [h]
 dsimp only
 rw [show D.flat (.int w)=true from rfl,ua,if_pos (by rfl),zc]
theorem Fc {ns:List Int}:oIn (.d (.int w)) (.d (.tup (ns.map D.int))) S=.ok (.d (.bl (decide (w∈ns)))) S:=by unfold oIn;rw [gX (ns:=ns) rfl]
theorem Av {ns:List Int}:dN (.d (.int w)) (.d (.tup (ns.map D.int))) S=.ok (.d (.bl (!decide (w∈ns)))) S:=by unfold dN;rw [gX (ns:=ns) rfl]
theorem Dq {ns:List Int}:oIn (.d (.int w)) (.d (.lst (ns.map D.int))) S=.ok (.d (.bl (decide (w∈ns)))) S:=by unfold oIn;rw [gX (ns:=ns) rfl]
theorem Dg {ns:List Int}:dN (.d (.int w)) (.d (.lst (ns.map D.int))) S=.ok (.d (.bl (!decide (w∈ns)))) S:=by unfold dN;rw [gX (ns:=ns) rfl]
theorem qp {ns:List Int} (e:S[n]?=some (.lst (ns.map D.int))):dN (.d (.int w)) (.r n) S=.ok (.d (.bl (!decide (w∈ns)))) S:=by unfold dN;rw [gX (oZ e)]
theorem gx (h:xs.length < 100000):fZ n xs z S=.ok (.d .non) (S.set n (.lst (xs++[z]))):=by unfold fZ;rw [if_pos h]
theorem zQ (e:bW x S=some (ns.map D.int)) (h:ns.length < 64):jG [x] S=.ok (.d (.lst ((sortI ns).map D.int))) S:=by
 unfold jG
 dsimp only
 rw [e,Option.bind_some,mU]
 dsimp only
 rw [if_pos h]
theorem rZ (e:S[n]?=some (.lst (ns.map D.int))) (h:ns.length < 64):jG [.r n] S=.ok (.d (.lst ((sortI ns).map D.int))) S:=zQ (oZ e) h
theorem eJ (ns:List Int):(sortI ns).length=ns.length:=(sortI_perm ns).length_eq
theorem kh (ns:List Int) (z:Int):z∈sortI ns↔z∈ns:=(sortI_perm ns).mem_iff
theorem lX (h:ns.Nodup):(sortI ns).Pairwise (· < ·):=((jH ns).and ((sortI_perm ns).nodup_iff.mpr h)).imp fun z=>by have:=z.1;have:=z.2;omega
theorem Bk (h:gr ds=some bs):fV [.d (.lst ds)] S=.ok (.d (.bl (bs.all id))) S:=by
 unfold fV
 dsimp only
 rw [show cw (.d (.lst ds)) S=some ds from rfl,Option.bind_some,h]
theorem rB (f:α→Bool):∀ l:List α,gr (l.map fun x=>D.bl (f x))=some (l.map f)
 | []=>rfl
 | x :: l=>by simp [gr,rB f l]
theorem jl (f:α→Int):∀ l:List α,intsOf (l.map fun x=>D.int (f x))=some (l.map f)
 | []=>rfl
 | x :: l=>by simp [intsOf,jl f l]
theorem pK {α:Type} {f:α→Bool} {l:List α} {S:Sto}:fV [.d (.lst (l.map fun x=>D.bl (f x)))] S=.ok (.d (.bl (l.all f))) S:=by rw [Bk (rB f l),List.all_map];rfl
theorem BS (h:0≤j∧j≤1000):lrg xf [.d (.int j)] S=.ok (.r S.length) (S++[.lst ((List.range j.toNat).map fun i=>D.int (i:Nat))]):=by
 unfold lrg
 dsimp only
 rw [if_pos h]
 rfl
theorem DM (h:0≤i∧i < 2 ^ 63) (e:xs[i.toNat]?=some y):pE n xs (.int i) S=.ok (.d y) (S.set n (.lst (xs.eraseIdx i.toNat))):=by
 unfold pE
 dsimp only
 rw [if_pos h,e]
theorem yt (hC:xLC it 1 (gNm 0) t e τ S=r) (hit:it τ S=.ok ⟨items,none⟩ S1) (J:Nat→List D→Sto→Prop) (h0:J 0 [] S1)
  (hs:∀ i z acc Q,items[i]?=some z→J i acc Q→Q.length=S1.length→∃ b Q1,t (some z :: τ) (Q++[.lst acc])=.ok b (Q1++[.lst acc])∧Q1.length=S1.length ∧
   (b=true→∃ x Q2,e (some z :: τ) (Q1++[.lst acc])=.ok (.d x) (Q2++[.lst acc])∧Q2.length=S1.length∧J (i+1) (acc++[x]) Q2)∧(b=false→J (i+1) acc Q1)) :
  ∃ acc Q,r=.ok (.d (.lst acc)) Q∧Q.length=S1.length∧J items.length acc Q:=by
 obtain ⟨acc,Q,e1,h⟩:=uf (t:=t) (e:=e) hit J h0 hs
 exact ⟨acc,Q,hC.symm.trans e1,h⟩
theorem mR (hC:xLC it 1 (gNm 0) (fun _ S=>.ok true S) e τ S=r) (hit:it τ S=.ok ⟨items,none⟩ S1) (J:Nat→List D→Sto→Prop) (h0:J 0 [] S1)
  (hs:∀ i z acc Q,items[i]?=some z→J i acc Q→Q.length=S1.length→∃ x Q2,e (some z :: τ) (Q++[.lst acc])=.ok (.d x) (Q2++[.lst acc])∧Q2.length=S1.length∧J (i+1) (acc++[x]) Q2) :
  ∃ acc Q,r=.ok (.d (.lst acc)) Q∧Q.length=S1.length∧J items.length acc Q:=
 yt hC hit J h0 fun i z acc Q hz hJ hl=>⟨true,Q,rfl,hl,fun _=>hs i z acc Q hz hJ hl,fun z=>(by cases z)⟩
theorem eI (hC:xLC (cv a) 1 (gNm 0) (fun _ S=>.ok true S) e τ S=r) (ha:a τ S=.ok (.d (.tup xs)) S1) (f:D→D) (hs:∀ x∈xs,∀ S:Sto,e (some (.d x) :: τ) S=.ok (.d (f x)) S):r=.ok (.d (.lst (xs.map f))) S1:=by
 rw [← hC,ma (items:=xs.map Vl.d) (S1:=S1) (by rw [vi,ha,uw]) (fun z=>match z with | .d x=>f x | _=>.non) (by
  intro z hz S
  obtain ⟨x,hx,rfl⟩:=List.mem_map.mp hz
  exact hs x hx S)]
 rw [List.map_map]
 rfl
theorem d8 (hL:fE it g b τ S=r) (hit:it τ S=.ok ⟨items,gd⟩ S1) (I:Nat→Nv→Sto→Prop) (h0:I 0 τ S1)
  (hs:∀ i z τ S,items[i]?=some z→I i τ S→∃ τ1 S1 fl τ2 S2,g z τ S=.ok τ1 S1∧b τ1 S1=.ok (fl,τ2) S2∧(fl=.nx∨fl=.ct)∧gok gd S2∧I (i+1) τ2 S2):∃ τ' S',r=.ok (.nx,τ') S'∧I items.length τ' S':=by
 obtain ⟨τ',S',e,h⟩:=pU (g:=g) (b:=b) (gd:=gd) I h0 hs
 refine ⟨τ',S',?_,h⟩
 rw [← hL,t_,hit,yh]
 exact e
theorem iX (h:((List.range n).map fun i=>Vl.d (.int (i:Nat)))[i]?=some z):i < n∧z=.d (.int i):=by
 have hi:i < n:=by simpa using (List.getElem?_eq_some_iff.mp h).1
 rw [List.getElem?_map,List.getElem?_range hi] at h
 exact ⟨hi,(Option.some.inj h).symm⟩
theorem gz:((List.range n).map fun i=>Vl.d (.int (i:Nat))).length=n:=by simp
theorem di {α β:Type} {f:α→β} {l:List α} {x:α}:(l++[x]).map f=l.map f++[f x]:=by rw [List.map_append];rfl
end L2
namespace L2
open PySem PySem.Spec PyProof.Rows ZS
section
variable {X:Cx} {WE:WX}
def SqH (H:Hp) (a:Addr) (ts:List (List Int)):Prop:=∃ ads:List Addr,(H a=some (.lst (ads.map V.ref))∨H a=some (.tup (ads.map V.ref)))∧ads.length=ts.length∧∀ j,j < ts.length→H (ads.getD j 0)=some (.tup ((ts.getD j []).map V.int))
theorem kf:∀ {ads:List Addr} {its:List Value},Vals (ads.map V.ref) its→its=ads.map Value.ref
 | [],_,r=>by cases r;rfl
 | a :: ads,_,r=>by
  cases r with
  | cons h t=>
   cases h
   rw [kf t];rfl
theorem lH:∀ {its:List Value} {ns:List Int},IntsAre its ns→ItemsAre (intKind prog w) ns its
 | _,_,.nil=>.nil
 | _,_,.cons n t r=>.cons (intKind_is prog w n t) (lH r)
theorem SqH.at (I:Inv X pins σ H s) (h:SqH H a ts):∃ (ads:List Addr) (k:Bool),ads.length=ts.length∧jd s.heap a (ads.map Value.ref).toArray k∧∀ j,j < ts.length→IsTupleKey (intKind X.prog X.w) s.heap (ts.getD j []) (ads.getD j 0):=by
 obtain ⟨ads,h,hl,hk⟩:=h
 have hkey:∀ j,j < ts.length→IsTupleKey (intKind X.prog X.w) s.heap (ts.getD j []) (ads.getD j 0):=fun j hj=>by
  obtain ⟨its,rv,⟨o,e,c,n,d⟩,hz⟩:=I.tuple (SqT.of (hk j hj))
  exact ⟨o,_,n,e,c,d,by simpa using lH (intsAre_of rv)⟩
 rcases h with h | h
 ·obtain ⟨its,rv,pl,hz⟩:=I.list (SqL.of h)
  rw [kf rv] at pl
  exact ⟨ads,true,hl,pl.isList,hkey⟩
 ·obtain ⟨its,rv,pl,hz⟩:=I.tuple (SqT.of h)
  rw [kf rv] at pl
  exact ⟨ads,false,hl,pl,hkey⟩
def Fy (te:TE):TE:=fun σ H Q=>te σ H fun x H1=>((∃ (a:Addr) (ns:List Int),x=.ref a∧SqI H1 a ns∧ns.length≤300∧Q (.int (ef ns).length) H1)∨∃ (a:Addr) (ts:List (List Int)),x=.ref a∧SqH H1 a ts∧ts.length≤300∧Q (.int (uq ts).length) H1)
theorem Bq {e:Expr} {te:TE} {p1 p2 pos1 pos2:Pos} (hc:X.calm=true) (hgs:Gl X "len") (hms:X.mg "len"=none) (hgt:Gl X "set") (hmt:X.mg "set"=none) (hbs:bootBuiltins "len"=some (.builtin "len")) (hbt:bootBuiltins "set"=some (.type "set")) (hu:X.A.units+64 < cLine) (he:PE X e te)
  (hs:starEach [e] X.env=(false,eval e X.env) :: starEach [] X.env:=by rfl)
  (hs2:starEach [Expr.Call (.Name "set" p2) [e] [] pos2] X.env=(false,eval (Expr.Call (.Name "set" p2) [e] [] pos2) X.env) :: starEach [] X.env:=by rfl) :
  PE X (.Call (.Name "len" p1) [.Call (.Name "set" p2) [e] [] pos2] [] pos1) (Fy te):=by
 intro pins s σ H Q I h
 refine wpAny_Call_Name_kw (c9 I hgs hms hbs ?_)
 rw [hs2]
 refine Calls.callWith_builtin (by show (false || (backTo pos1 (starEach ([]:List Expr) X.env)).any (·.1))=false;rfl) (Calls.evalArgs_plain ?_)
 show wpAny _ _ (spliced ((false,eval (Expr.Call (.Name "set" p2) [e] [] pos2) X.env) :: backTo pos1 (starEach [] X.env))) _ _ s
 refine Calls.spliced_cons ?_
 have hA:=(eL he gK hs) pos2 pins s σ H (fun vs H1=>∃ x,vs=[x]∧((∃ (a:Addr) (ns:List Int),x=.ref a∧SqI H1 a ns∧ns.length≤300∧Q (.int (ef ns).length) H1)∨∃ (a:Addr) (ts:List (List Int)),x=.ref a∧SqH H1 a ts∧ts.length≤300∧Q (.int (uq ts).length) H1)) I (by
  refine cast (congrArg (te σ H) ?_) h
  funext y H2
  refine propext ⟨fun q=>⟨y,rfl,q⟩,fun ⟨y',e',q⟩=>?_⟩
  cases e'
  exact q)
 refine Call_ (c9 I hgt hmt hbt (PyProof.Rows.callWith_type1 (thn hA fun us s1 ⟨vs,H1,I1,r1,x,e1,hq⟩=>?_) hs rfl))
 subst e1
 obtain ⟨u,rfl,rx⟩:=vals1 r1
 have hA0:X.A.handled=none:=I.ok.hd hc
 rcases hq with ⟨a,ns,e2,hx,hn,q⟩ | ⟨a,ts,e2,hx,hn,q⟩
 ·subst e2
  cases rx
  obtain ⟨its,k,hI,pl⟩:=hx.at I1
  refine vT hA0 k pl (by simpa using hI) hn fun h' tk ks S1 S2 S3=>?_
  refine wpAny_pure ?_
  obtain ⟨o,es,ep,t,pl',g1,g2,g3,g4,g5,g6,g7,g8,⟨g9,g10,g11⟩,g12,g13,g14,g15⟩:=S1
  have lks:es.size=ks.length:=by
   have:=d7 g12
   rw [List.length_map,Array.length_toList] at this
   exact this
  refine call_len_set (s:=⟨h',s1.gens,s1.drawn,tk,s1.os⟩) g1 g2 g3 (fits_of g5 (by rw [g8,lks];simpa using g10) (by omega)) (by omega) ?_
  rw [lks,tT g14 S2]
  exact ⟨.int _,H1,I1.kept (t':=tk+1+1) S3,⟨_,rfl⟩,q⟩
 ·subst e2
  cases rx
  obtain ⟨ads,k,hl2,pl,hkey⟩:=hx.at I1
  refine tU hA0 k pl ts ads rfl hl2 hn (by show X.A.units+1+1+1 < cLine;omega) hkey fun h' tk ks S1 S2 S3=>?_
  refine wpAny_pure ?_
  obtain ⟨o,es,ep,t,g1,g2,g3,g4,lks,g6⟩:=S1
  refine call_len_set (s:=⟨h',s1.gens,s1.drawn,tk,s1.os⟩) g1 g2 g3 g4 (by omega) ?_
  rw [lks,S2]
  exact ⟨.int _,H1,I1.kept (t':=tk+1+1) S3,⟨_,rfl⟩,q⟩
def i7:List D→Option (List (List Int))
 | []=>some []
 | .tup xs :: r=>(intsOf xs).bind fun a=>(i7 r).map (a :: ·)
 | _=>none
theorem mS:∀ ts:List (List Int),i7 (ts.map fun t=>D.tup (t.map D.int))=some ts
 | []=>rfl
 | t :: ts=>by
  rw [List.map_cons,i7,mS ts,show intsOf (t.map D.int)=some t by rw [jl (fun x=>x) t];simp]
  rfl
theorem nI:∀ {vs:List V} {ds:List D} {ts:List (List Int)},ax G vs ds→i7 ds=some ts→∃ ads:List Addr,vs=ads.map V.ref∧ads.length=ts.length∧∀ j,j < ts.length→G (ads.getD j 0)=some (.tup ((ts.getD j []).map V.int))
 | _,_,ts,.nil,e=>by
  cases e
  exact ⟨[],rfl,rfl,fun j hj=>by cases hj⟩
 | _,_,ts,.cons (v:=v) (d:=d) r rs,e=>by
  cases d with
  | tup xs=>
   rw [i7] at e
   obtain ⟨a,e1,e2⟩:=Option.bind_eq_some_iff.mp e
   obtain ⟨ts',e3,e4⟩:=Option.map_eq_some_iff.mp e2
   subst e4
   obtain ⟨ads,q1,q2,q3⟩:=nI rs e3
   cases r with
   | tup h rr=>
    rename_i b us
    rw [iM e1] at rr
    rw [ax.k6 rr] at h
    refine ⟨b :: ads,by rw [q1];rfl,by simp [q2],fun j hj=>?_⟩
    cases j with
    | zero=>exact h
    | succ j=>exact q3 j (by simpa using hj)
  | _=>cases e
def oLX (x:Vl) (S:Sto):R Vl:=match bW x S with
 | some ds=>(match intsOf ds with
  | some ns=>if ns.length≤300 then .ok (.d (.int (ef ns).length)) S else .bad
  | none=>(match i7 ds with
   | some ts=>if ts.length≤300 then .ok (.d (.int (uq ts).length)) S else .bad
   | none=>.bad))
 | none=>.bad
theorem E7 {e:Expr} {xa:XE} {p1 p2 pos1 pos2:Pos} [n:NS e] (hc:X.calm=true) (hgs:Gl X "len") (hms:X.mg "len"=none) (hgt:Gl X "set") (hmt:X.mg "set"=none) (hbs:bootBuiltins "len"=some (.builtin "len")) (hbt:bootBuiltins "set"=some (.type "set")) (hu:X.A.units+64 < cLine) (he:RE X WE e xa)
  (hs2:starEach [Expr.Call (.Name "set" p2) [e] [] pos2] X.env=(false,eval (Expr.Call (.Name "set" p2) [e] [] pos2) X.env) :: starEach [] X.env:=by rfl) :
  RE X WE (.Call (.Name "len" p1) [.Call (.Name "set" p2) [e] [] pos2] [] pos1) (xUn oLX xa):=
 ⟨(Bq hc hgs hms hgt hmt hbs hbt hu he.h (n.eq _ X.env) hs2).weak fun σ H Q ⟨μ,S,τ,hr,sr,p⟩=>⟨μ,S,τ,hr,sr,p.bind fun v x S1 μ1 H1 st1 r1 p1=>by
  unfold oLX at p1
  split at p1
  ·rename_i ds e0
   split at p1
   ·rename_i ns e1
    split at p1
    ·obtain ⟨a,rfl,sq⟩:=CN (ns:=ns) st1.hr r1 (by rw [e0];exact e1)
     exact .inl ⟨a,ns,rfl,sq,‹_›,p1.here st1.hr (Rep.int _)⟩
    ·exact p1.elim
   ·split at p1
    ·rename_i ts e1
     split at p1
     ·rename_i hb
      obtain ⟨a,us,rfl,ha,rr⟩:=h9 st1.hr r1 e0
      obtain ⟨ads,rfl,hl,hk⟩:=nI rr e1
      exact .inr ⟨a,ts,rfl,⟨ads,ha,hl,fun j hj=>cz _ _ (hk j hj)⟩,hb,p1.here st1.hr (Rep.int _)⟩
     ·exact p1.elim
    ·exact p1.elim
  ·exact p1.elim⟩⟩
end
def cn (xs ys:List D):List Vl:=List.zipWith (fun x y=>Vl.d (.tup [x,y])) xs ys
theorem jE:(cn xs ys).length=min xs.length ys.length:=by simp [cn]
theorem hZ {xs ys:List D} {i:Nat} {z:Vl} (h:(cn xs ys)[i]?=some z):∃ x y,xs[i]?=some x∧ys[i]?=some y∧z=.d (.tup [x,y]):=by
 unfold cn at h
 rw [List.getElem?_zipWith] at h
 cases q:xs[i]? with
 | none=>rw [q] at h;cases h
 | some x=>
  cases q2:ys[i]? with
  | none=>rw [q,q2] at h;cases h
  | some y=>rw [q,q2] at h;cases h;exact ⟨x,y,rfl,rfl,rfl⟩
def tW:D→Option (Bool×List D)
 | .tup xs=>some (false,xs)
 | .lst xs=>some (true,xs)
 | _=>none
def t6 (zs:List Vl) (S:Sto):R Its:=match zs with
 | [.d x,.d y]=>(match tW x,tW y with
  | some p,some q=>.ok ⟨cn p.2 q.2,none⟩ S
  | _,_=>.bad)
 | _=>.bad
def iZp (as:XA):XI:=fun τ S=>(as τ S).bind t6
section
variable {X:Cx} {WE:WX} {K:PySem.W.Frag} {mg:Str→Option Value} {μ:Nat→Addr} {S:Sto} {H:Hp}
theorem pA (r:Rep G v x) (h:tW x=some p):∃ a vs,v=.ref a∧G a=some (Sq p.1 vs)∧ax G vs p.2:=by
 cases r with
 | tup g rs=>cases h;exact ⟨_,_,rfl,g,rs⟩
 | lst g rs=>cases h;exact ⟨_,_,rfl,g,rs⟩
 | _=>cases h
theorem Be {vs us:List V} (g:vh μ S H t=some (Sq b vs)) (rs:ax (vh μ S H) vs xs) (g2:vh μ S H u=some (Sq c us)) (rs2:ax (vh μ S H) us ys) (hz:vs.length≤sizeLine):e9 K mg μ S H (Itg b c t u) ⟨cn xs ys,none⟩ where
 ok:=True.intro
 len:=by show (cn xs ys).length≤sizeLine;rw [jE];rw [rs.length] at hz;omega
 go:=fun i z μ' S' H' st _ e=>by
  obtain ⟨x,y,e1,e2,_⟩:=hZ e
  obtain ⟨a,q1,_⟩:=rs.get' e1
  obtain ⟨b,q2,_⟩:=rs2.get' e2
  exact ⟨vs,us,a,b,(bq (st.vis _ _ g)).2,(bq (st.vis _ _ g2)).2,q1,q2⟩
 yld:=fun i z μ' S' H' v H2 st _ e yy=>by
  obtain ⟨p,a,b,hp,rfl,rfl,y1,y2⟩:=yy
  obtain ⟨x,y,e1,e2,rfl⟩:=hZ e
  have q1:=y1 vs (bq (st.vis _ _ g)).2
  have q2:=y2 us (bq (st.vis _ _ g2)).2
  obtain ⟨x',e3,r1⟩:=rs.get q1
  obtain ⟨y',e4,r2⟩:=rs2.get q2
  rw [e1] at e3;cases e3
  rw [e2] at e4;cases e4
  have st2:=Step.new st.hr hp (.tup [a,b])
  exact ⟨st2,Rep.tup (bT b_ (st.hr.nal hp)) (.cons (Rep.mono (st.trans st2).vis r1) (.cons (Rep.mono (st.trans st2).vis r2) .nil))⟩
 stop:=fun i μ' S' H' st _ hi=>by
  replace hi:(cn xs ys).length=i:=hi
  rw [jE] at hi
  have l1:=rs.length
  have l2:=rs2.length
  exact ⟨vs,us,(bq (st.vis _ _ g)).2,(bq (st.vis _ _ g2)).2,by omega,by omega,by omega⟩
theorem vy (hg:Gl X "zip") (hm:X.mg "zip"=none) (ha:RA X WE [a,b] xa) (hb:bootBuiltins "zip"=some (.type "zip"):=by decide +kernel)
  (hs:starEach [a,b] X.env=[(false,eval a X.env),(false,eval b X.env)]:=by rfl) (hs2:starEach [b] X.env=[(false,eval b X.env)]:=by rfl):RI X WE (.Tuple es kk tp) (.Call (.Name "zip" p) [a,b] [] pos) (iZp xa):=⟨by
 intro pins s σ H R I h
 obtain ⟨μ,S,τ,hr,sr,pp⟩:=h
 refine Call_ (c9 I hg hm hb (PyProof.Rows.callWith_type1 (thn (ha.h pos pins s σ H (fun vs H1=>∃ μ1 S1 zs,HR μ1 S1 H1∧bE X.K X.mg μ1 S1 H1 vs zs∧aX (e9 X.K X.mg) WE μ1 S1 H1 (t6 zs S1) R) I ?_) fun us s1 ⟨vs,H1,I1,r1,q1⟩=>?_) (by rw [hs,hs2]) (by rw [hs2];rfl)))
 ·exact ⟨μ,S,τ,hr,sr,pp.bind fun v x S1 μ1 H1 st1 r1 p1=>⟨μ1,S1,x,st1.hr,r1,p1⟩⟩
 ·obtain ⟨μ1,S1,zs,hr1,rz,p1⟩:=q1
  have fp:∀ b∈[s1.heap.objs.size+4,s1.heap.objs.size+2,s1.heap.objs.size+3,s1.heap.objs.size,s1.heap.objs.size+1],s1.heap.objs.size≤b:=by
   intro b hb
   simp only [List.mem_cons,List.not_mem_nil,or_false] at hb
   rcases hb with z | z | z | z | z<;>rw [z]
   ·exact Nat.le_add_right _ _
   ·exact Nat.le_add_right _ _
   ·exact Nat.le_add_right _ _
   ·exact Nat.le_refl _
   ·exact Nat.le_add_right _ _
  unfold t6 at p1
  split at p1
  ·split at p1
   ·rename_i p q e1 e2
    cases rz with
    | cons q1 q2=>cases q2 with
     | cons q2 q3=>
      cases q3
      obtain ⟨u1,u2,rfl,ru,rw'⟩:=r1.two
      obtain ⟨t,vs,rfl,g,rs⟩:=pA q1 e1
      obtain ⟨u,us,rfl,g2,rs2⟩:=pA q2 e2
      cases ru;cases rw'
      obtain ⟨its,rv,pl,hz⟩:=I1.sq (bq g).2
      obtain ⟨its2,rv2,pl2,hz2⟩:=I1.sq (bq g2).2
      refine nZ p.1 q.1 pl pl2 fun h' z1 z2 z3 z4 z5 hk=>?_
      refine wpAny_pyIter_zip (s:={ s1 with heap:=h' }) z1 ?_
      have I2:Inv X pins σ H1 { s1 with heap:=h' }:=I1.kept (t':=s1.toks) hk
      exact ⟨s1.heap.objs.size+4,_,_,_,H1,rfl,I2,j3 p.1 q.1 t u s1.heap.objs.size,⟨z1,z2,⟨_,_,z3⟩,z4,z5⟩,fun b hb=>I1.kQ (fp b hb) (I1.hok.fresh (fp b hb)),p1.here hr1 (Be g rs g2 rs2 hz)⟩
   ·exact p1.elim
  ·exact p1.elim⟩
end
def xLf (f:List D→D→Sto→R Vl) (o e:XE):XE:=fun τ S=>(o τ S).bind fun x S1=>match x with
 | .d (.lst xs)=>(e τ S1).bind fun y S2=>(match y with
  | .d z=>f xs z S2
  | _=>.bad)
 | _=>.bad
def Br (xs:List D) (z:D) (S:Sto):R Vl:=match z,intsOf xs with
 | .int k,some ns=>.ok (.d (.int (ns.count k:Nat))) S
 | _,_=>.bad
def FZ (xs:List Vl) (S:Sto):R Vl:=match xs with
 | [.d (.int i)]=>.ok (.d (.int i)) S
 | [.d (.bl k)]=>.ok (.d (.int (if k then 1 else 0))) S
 | _=>.bad
def mr (x y:Vl) (S:Sto):R Vl:=match cw x S,cw y S with
 | some a,some b=>if a.length+b.length≤100000 then .ok (.r S.length) (S++[.lst (a++b)]) else .bad
 | _,_=>.bad
section
variable {K:PySem.W.Frag} {mg:Str→Option Value}
theorem wO:cH K mg t8 mr:=by
 intro WE μ S H v w x y Q hr rx ry p
 unfold mr at p
 split at p
 ·rename_i a b e1 e2
  split at p
  ·obtain ⟨p1,us,rfl,h1,r1⟩:=dr hr rx e1
   obtain ⟨p2,ws,rfl,h2,r2⟩:=dr hr ry e2
   have l1:=r1.length
   have l2:=r2.length
   exact .inl (.inr ⟨p1,p2,rfl,rfl,.inr ⟨us,ws,h1,h2,kK (by omega),fun q hq=>p.tL hr (r1.append r2) q hq⟩⟩)
  ·exact p.elim
 ·exact p.elim
end
theorem Bj:FZ [.d (.bl k)] S=.ok (.d (.int (if k then 1 else 0))) S:=ai rfl
def trP (K:PySem.W.Frag) (mg:Str→Option Value) (WE:WX) (ms:List (XE×XE)):List (TE×TE):=ms.map fun m=>(trE K mg WE m.1,trE K mg WE m.2)
structure RP (X:Cx) (WE:WX) (pos:Pos) (ks:List (Option Expr)) (vs:List Expr) (ms:List (XE×XE)):Prop where
 h:PPs X pos ks vs (trP X.K X.mg WE ms)
section
variable {X:Cx} {WE:WX} {pos:Pos}
inductive tf (K:PySem.W.Frag) (mg:Str→Option Value) (μ:Nat→Addr) (S:Sto) (H:Hp):List (V×V)→List (Vl×Vl)→Prop
 | nil:tf K mg μ S H [] []
 | cons {v w:V} {x y:Vl} {vs:List (V×V)} {xs:List (Vl×Vl)}:aZ K mg μ S H v x→aZ K mg μ S H w y→tf K mg μ S H vs xs→tf K mg μ S H ((v,w) :: vs) ((x,y) :: xs)
end
set_option maxRecDepth 100000
section
variable {prog:Program} {w:World} {A:Around} {E:Value→Shared→Prop} {s:Shared} {z TI TO i1 i2:Addr} {fp1 fp2:List Addr} {n1 n2 k:Nat} {P1 P2:Nat→Value→Prop} {S1 S2:Nat→Heap→Prop}
set_option hygiene false in
local macro_rules | `(tactic| walk_at "zi") => `(tactic| (
  have q1:S1 k g0:=D1.frame _ _ _ h1 fun c hc o q=>e0.extBut c o (fun y=>D.z1 (y ▸ hc)) q
  have q2:S2 k g0:=D2.frame _ _ _ h2 fun c hc o q=>e0.extBut c o (fun y=>D.z2 (y ▸ hc)) q
  refine wpAny_bind (wpAny_bind (wpAny_bind (wpAny_holding ?_)))
  refine (show wpAny _ _ (Builtin.SmallTypes.nextOf (.ref i1)>>=_) _ _ _ from wpAny_bind (D1.item k _ _ _ l1 q1 fun x g2 t2 p1 q1' e2=>wpAny_pure (wpAny_pure ?_)))
  replace e2:Heap.SameBut i1 g0 g2:=e2
  refine wpAny_bind (wpAny_bind (wpAny_holding ?_))
  have r2:S2 k g2:=D2.frame _ _ _ q2 fun c hc o q=>e2.extBut c o (fun y=>D.i12 (y ▸ hc)) q
  refine (show wpAny _ _ (Builtin.SmallTypes.nextOf (.ref i2)>>=_) _ _ _ from wpAny_bind (D2.item k _ _ _ l2 r2 fun y g4 t4 p2 r2' e4=>wpAny_pure (wpAny_pure (wpAny_pure ?_))))
  replace e4:Heap.SameBut i2 g2 g4:=e4
  refine wpAny_bind (wpAny_newTuple ?_ (by show 2≤sizeLine;decide))
  have hsz:g4.objs.size=s.heap.objs.size:=by rw [e4.1,e2.1,e0.1]
  refine wpAny_pure ⟨_,rfl,?_⟩
  show Q (.ref g4.objs.size) _
  rw [hsz]
  have up:∀ c o,g4.get? c=some o→(g4.push { cls:=.type "tuple",data:=.seq #[x,y] }).get? c=some o:=fun c o q=>Heap.get?_push_of_some _ q
  refine hQ x y _ _ p1 p2 (up _ _ (e4.extBut _ _ D.i2z.symm (e2.extBut _ _ D.i1z.symm hz0))) (up _ _ (e4.extBut _ _ D.TI2 (e2.extBut _ _ D.TI1 (e0.extBut _ _ D.TIz hTI)))) ?_ ?_ ?_ fun c o c1 c3 c4 q=>up _ _ (e4.extBut _ _ c4 (e2.extBut _ _ c3 (e0.extBut _ _ c1 q)))
  ·exact D1.frame _ _ _ q1' fun c hc o q=>up _ _ (e4.extBut c o (fun y=>D.i21 (y ▸ hc)) q)
  ·exact D2.frame _ _ _ r2' fun c hc o q=>up _ _ q
  ·rw [← hsz];exact Heap.get?_push_size _ rfl
 ))
set_option hygiene false in
local macro_rules | `(tactic| walk_at "ze") => `(tactic| (
  have q1:S1 k g0:=D1.frame _ _ _ h1 fun c hc o q=>e0.extBut c o (fun y=>D.z1 (y ▸ hc)) q
  have q2:S2 k g0:=D2.frame _ _ _ h2 fun c hc o q=>e0.extBut c o (fun y=>D.z2 (y ▸ hc)) q
  refine wpAny_bind (wpAny_bind (wpAny_bind (wpAny_holding ?_)))
  rcases hend with hk | ⟨hk,hk2⟩
  ·subst hk
   refine (show wpAny _ _ (Builtin.SmallTypes.nextOf (.ref i1)>>=_) _ _ _ from wpAny_bind (D1.done _ _ _ q1 fun g2 e e2 he=>?_))
   replace e2:Heap.ExtBut i1 g0 g2:=e2
   exact hE g2 e _ (fun c o c1 _ c3 _ q=>e2 _ _ c3 (e0.extBut _ _ c1 q)) he
  ·subst hk2
   refine (show wpAny _ _ (Builtin.SmallTypes.nextOf (.ref i1)>>=_) _ _ _ from wpAny_bind (D1.item k _ _ _ hk q1 fun x g2 t2 p1 q1' e2=>wpAny_pure (wpAny_pure ?_)))
   replace e2:Heap.SameBut i1 g0 g2:=e2
   refine wpAny_bind (wpAny_bind (wpAny_holding ?_))
   have r2:S2 k g2:=D2.frame _ _ _ q2 fun c hc o q=>e2.extBut c o (fun y=>D.i12 (y ▸ hc)) q
   refine (show wpAny _ _ (Builtin.SmallTypes.nextOf (.ref i2)>>=_) _ _ _ from wpAny_bind (D2.done _ _ _ r2 fun g4 e e4 he=>?_))
   replace e4:Heap.ExtBut i2 g2 g4:=e4
   exact hE g4 e _ (fun c o c1 _ c3 c4 q=>e4 _ _ c4 (e2.extBut _ _ c3 (e0.extBut _ _ c1 q))) he
 ))
end
set_option maxRecDepth 100000
structure Gf (prog:Program) (w:World) (A:Around) (I d:Addr) (wr:List Addr) (ps:List (Key×V)) (St:Nat→Heap→Prop):Prop where
 nd:d∉wr
 frame:∀ i h h',St i h→(∀ b o,b≠d→h.get? b=some o→h'.get? b=some o)→St i h'
 item:∀ i (s:Shared) (Q:Option Value→Shared→Prop) (E:Value→Shared→Prop),i < ps.length→St i s.heap→d < s.heap.objs.size →
  (∀ T k v x y h' tk,ps[i]?=some (k,v)→(k9 prog w).is k x=true→RelV v y→h'.IsTuple T #[x,y]→St (i+1) h'→(∀ b o,b∉wr→s.heap.get? b=some o→h'.get? b=some o)→Q (some (.ref T)) { s with heap:=h',toks:=tk }) →
  wpAny (model prog w) A (pyNext (.ref I)) Q E s
 done:∀ (s:Shared) (Q:Option Value→Shared→Prop) (E:Value→Shared→Prop),St ps.length s.heap→(∀ h' tk,(∀ b o,b∉wr→s.heap.get? b=some o→h'.get? b=some o)→Q none { s with heap:=h',toks:=tk })→wpAny (model prog w) A (pyNext (.ref I)) Q E s
set_option maxRecDepth 100000
set_option maxRecDepth 100000
inductive nC (H:Hp):List V→List (Key×V)→Prop
 | nil:nC H [] []
 | cons {T:Addr} {k:Key} {v:V} {vs:List V} {ps:List (Key×V)}:H T=some (.tup [kV k,v])→nC H vs ps→nC H (.ref T :: vs) ((k,v) :: ps)
def xI (sc:Scope):Scope:={ sc with names:=sc.names.map fun (n,k)=>if k == NameKind.free then (n,NameKind.cell) else (n,k) }
section
variable {X0:Cx} {WE:WX} {tg elt iter:Expr} {ifs:List Expr} {scope esc:Scope} {EN:List Str} {pos:Pos} {it:XI} {g:XG} {t:XT} {e:XE} {k:Nat} {fin:Nat→List D→Sto→R Vl} {C0:Addr} {s0:Shared} {H0:Hp} {fp0:List Addr}
theorem AA (hfin:m8 fin) (N:List Str) (hi:RI (bH X0 esc EN C0 s0 H0 fp0) WE tg iter it) (hg:∀ C s H fp,LQ scope N→RG (bH (bH X0 esc EN C0 s0 H0 fp0) scope N C s H fp) WE tg g) (ht:∀ C s H fp,RTs (bH (bH X0 esc EN C0 s0 H0 fp0) scope N C s H fp) WE ifs t) (he:∀ C s H fp,RE (bH (bH X0 esc EN C0 s0 H0 fp0) scope N C s H fp) WE elt e)
  (hE:EN.Nodup:=by decide +kernel) (hd:N.Nodup:=by decide +kernel) (Sc:dU (xI esc) scope EN N k:=by exact ⟨rfl,by decide +kernel,by decide +kernel,by decide +kernel,by decide +kernel,by decide +kernel⟩) (h1:(bH X0 esc EN C0 s0 H0 fp0).env.scope=xI esc:=by exact rfl) (hc:X0.calm=true:=by exact rfl)
  (hs:∀ x,foldedSetIterable iter (bH X0 esc EN C0 s0 H0 fp0).env x=pure x:=by intro _;rfl):RE (bH X0 esc EN C0 s0 H0 fp0) WE (.ListComp elt [⟨tg,iter,ifs,0⟩] scope pos) (pM fin it k g t e):=
 bL (esc:=xI esc) hfin N ⟨hE⟩ hi hg ht he hd Sc h1 rfl hc hs
end
def least (ns:List Int) (n:Int):Int:=ns.foldl (fun m k=>if k < m then k else m) n
set_option maxRecDepth 100000
def sg (c:Nat):Str:=⟨#[c]⟩
def Itx (x:Str):It:=⟨fun i _=>i < x.cps.size,fun i H v H'=>H'=H∧∃ c,x.cps[i]?=some c∧v=.str (sg c),fun i _=>x.cps.size≤i⟩
theorem vg {P:Program} {w:World} {K:PySem.W.Frag} {tg:Expr} (it:Addr) (x:Str) (t:Tok):Turn P w K tg (Itx x) [it] it (fun i h=>h.IsStrIter it "str_ascii_iterator" x t i) where
 mem:=by simp
 obj:=fun i h st b hb=>by
  have e:b=it:=by simpa using hb
  subst e
  obtain ⟨o,e,c,d⟩:=st
  exact ⟨o,e,fun v z=>by rw [d] at z;cases z⟩
 keep:=fun i h h' st k=>by
  obtain ⟨o,e,r⟩:=st
  exact ⟨o,k it (by simp) o e,r⟩
 item:=by
  intro X hP hw hK hc i pins s σ H E I hf st hg
  subst hP hw hK
  have hg:i < x.cps.size:=hg
  have hx:x.cps[i]?=some x.cps[i]:=Array.getElem?_eq_getElem hg
  obtain ⟨f0,f1,f2,f3,f4,f5⟩:=hf it (by simp)
  refine wpAny_pyNext_ascii_item st hx fun h' st' sb=>?_
  have I1:Inv X pins σ H { s with heap:=h',toks:=s.toks+1 }:=I.turned (t':=s.toks+1) (fun b o hb e=>(sb.2 b hb).trans e) f0 f1 f3 f4 f5
  obtain ⟨o,e,c,d⟩:=id st'
  exact ⟨_,rfl,ph (s:={ s with heap:=h',toks:=s.toks+1 }) e c d (by decide) ⟨.str (sg x.cps[i]),H,I1,⟨_,rfl⟩,⟨rfl,_,hx,rfl⟩,st',fun b hb=>(hf b hb).1⟩⟩
 done:=by
  intro X hP hw hK hc i pins s σ H E I hf st hg
  subst hP hw hK
  obtain ⟨f0,f1,f2,f3,f4,f5⟩:=hf it (by simp)
  exact wpAny_pyNext_ascii_end (I.ok.hd hc) st (Array.getElem?_eq_none hg) fun h' eb=>⟨rfl,I.turned (t':=s.toks) (fun b o hb e=>eb b o hb e) f0 f1 f3 f4 f5⟩
 self:=fun _ _ _ _ _ st h=>wpAny_pyIter_striter_ascii st h
section
variable {X:Cx} {WE:WX} {K:PySem.W.Frag} {mg:Str→Option Value} {μ:Nat→Addr} {S:Sto} {H:Hp}
theorem zS (hr:HR μ S H) (hm:x.cps.size≤sizeLine):e9 K mg μ S H (Itx x) ⟨x.cps.toList.map fun c=>Vl.d (.str (sg c)),none⟩ where
 ok:=True.intro
 len:=by simpa using hm
 go:=fun i z μ' S' H' st _ e=>by
  have:=(List.getElem?_eq_some_iff.mp e).1
  exact (show i < x.cps.size by simpa using this)
 yld:=fun i z μ' S' H' u H2 st _ e y=>by
  obtain ⟨rfl,c,hc,rfl⟩:=y
  rw [List.getElem?_map,Array.getElem?_toList,hc] at e
  cases e
  exact ⟨Step.refl st.hr,Rep.str _⟩
 stop:=fun i μ' S' H' st _ hi=>(show x.cps.size≤i by simpa using Nat.le_of_eq hi)
def As (e:XE):XI:=fun τ S=>(e τ S).bind fun z S1=>match z with
 | .d (.str x)=>if x.cps.size≤1000∧x.cps.all (· < 128)=true then .ok ⟨x.cps.toList.map fun c=>Vl.d (.str (sg c)),none⟩ S1 else .bad
 | _=>.bad
theorem Af {tg l:Expr} {xl:XE} (hl:RE X WE l xl):RI X WE tg l (As xl):=⟨by
 intro pins s σ H Rr I h
 obtain ⟨μ,S,τ,hr,sr,p⟩:=h
 refine thn (hl.h pins s σ H _ I ⟨μ,S,τ,hr,sr,p.bind (Q:=fun v H1=>∃ μ1 S1 z,HR μ1 S1 H1∧aZ X.K X.mg μ1 S1 H1 v z∧aX (e9 X.K X.mg) WE μ1 S1 H1 (match z with
   | .d (.str x)=>if x.cps.size≤1000∧x.cps.all (· < 128)=true then .ok ⟨x.cps.toList.map fun c=>Vl.d (.str (sg c)),none⟩ S1 else .bad
   | _=>.bad) Rr) fun v x S1 μ1 H1 st1 r1 p1=>⟨μ1,S1,x,st1.hr,r1,p1⟩⟩) fun v s1 ⟨u,H1,I1,ru,μ1,S1,z,hr1,r1,p1⟩=>?_
 split at p1
 ·split at p1
  ·rename_i hc
   cases (show Rep (vh μ1 S1 H1) u (.str _) from r1) with
   | str _=>
    obtain ⟨t,rfl⟩:=ru
    refine wpAny_pyIter_ascii hc.2 ?_
    refine ⟨s1.heap.objs.size,[s1.heap.objs.size],_,_,H1,rfl,I1.kept (t':=s1.toks) fun b o e=>Heap.get?_push_of_some _ e,vg _ _ t,⟨_,Heap.get?_push_size _ rfl,rfl,rfl⟩,fun b hb=>?_,p1.here hr1 (zS hr1 (Nat.le_trans hc.1 (by decide)))⟩
    rw [List.mem_singleton.mp hb]
    exact I1.kQ (Nat.le_refl _) (I1.hok.fresh (Nat.le_refl _))
  ·exact p1.elim
 ·exact p1.elim⟩
end
set_option maxRecDepth 100000
section
variable {X:Cx}
def yA:List V→Hp→VK→Prop:=fun vs H Q=>∃ x,vs=[.str x]∧x.length≤sizeLine∧Q (.int x.length) H
theorem u6:bI X (.builtin "len") yA:=by
 intro pins s σ H vs us Q I r h
 obtain ⟨x,rfl,hx,q⟩:=h
 exact l6 pins s σ H _ us Q I r ⟨.str x,_,rfl,⟨hx,rfl⟩,q⟩
def FL:V→Option Int→Option Int→Hp→VK→Prop:=fun v lo hi H Q=>∃ x,v=.str x∧x.length≤sizeLine∧Q (.str (Txt.slice x lo hi)) H
theorem FD:SlR X FL:=by
 intro pins s σ H x v vl vu lo hi sl Q I rx hs pl pu h
 obtain ⟨y,rfl,hy,q⟩:=h
 obtain ⟨t,rfl⟩:=rx
 refine ⟨"str",_,F.slot_str_getitem.lookup,typeIs_str _ _ _,?_⟩
 cases pl with
 | none=>
  cases pu with
  | none=>exact wpAny_getItem_str_slice (l:=none) (u:=none) (st:=none) hs rfl (post_val_or_str ⟨Nat.le_trans (Txt.slice_le y _ _) hy,fun t' k=>⟨.str _,H,I.tok _,⟨_,rfl⟩,q⟩⟩)
  | int j u=>exact wpAny_getItem_str_slice (l:=none) (u:=some (j,u)) (st:=none) hs rfl (post_val_or_str ⟨Nat.le_trans (Txt.slice_le y _ _) hy,fun t' k=>⟨.str _,H,I.tok _,⟨_,rfl⟩,q⟩⟩)
 | int i w=>
  cases pu with
  | none=>exact wpAny_getItem_str_slice (l:=some (i,w)) (u:=none) (st:=none) hs rfl (post_val_or_str ⟨Nat.le_trans (Txt.slice_le y _ _) hy,fun t' k=>⟨.str _,H,I.tok _,⟨_,rfl⟩,q⟩⟩)
  | int j u=>exact wpAny_getItem_str_slice (l:=some (i,w)) (u:=some (j,u)) (st:=none) hs rfl (post_val_or_str ⟨Nat.le_trans (Txt.slice_le y _ _) hy,fun t' k=>⟨.str _,H,I.tok _,⟨_,rfl⟩,q⟩⟩)
end
section
variable {X:Cx} {WE:WX} {K:PySem.W.Frag} {mg:Str→Option Value}
def wordsOf:List D→Option (List Str)
 | []=>some []
 | .str x :: l=>(wordsOf l).map (x :: ·)
 | _=>none
theorem l9:∀ {ds:List D} {ws:List Str},wordsOf ds=some ws→ds=ws.map D.str
 | [],ws,h=>by cases h;rfl
 | .str x :: l,ws,h=>by
  unfold wordsOf at h
  cases q:wordsOf l with
  | none=>rw [q] at h;cases h
  | some u=>rw [q] at h;cases h;rw [l9 q];rfl
 | .non :: _,_,h=>by cases h
 | .bl _ :: _,_,h=>by cases h
 | .int _ :: _,_,h=>by cases h
 | .tup _ :: _,_,h=>by cases h
 | .lst _ :: _,_,h=>by cases h
theorem mK:∀ {vs:List V} {ws:List Str},ax H vs (ws.map D.str)→vs=ws.map V.str
 | [],[],_=>rfl
 | [],_ :: _,h=>by cases h
 | _ :: _,[],h=>by cases h
 | v :: vs,w :: ws,h=>by
  cases h with
  | cons h1 h2=>cases h1;rw [mK h2];rfl
def pb (xs:List Vl) (S:Sto):R Vl:=match xs with
 | [.d (.str x)]=>if x.length≤1000 then .ok (.d (.int x.length)) S else .bad
 | _=>.bad
theorem uP:ft K mg yA pb:=by
 intro WE μ S H vs xs Q hr rs p
 unfold pb at p
 split at p
 ·split at p
  ·obtain ⟨v,rfl,r⟩:=rs.one
   cases (show Rep (vh μ S H) v (.str _) from r)
   exact ⟨_,rfl,Nat.le_trans ‹_› (by decide),p.here hr (Rep.int _)⟩
  ·exact p.elim
 ·exact p.elim
def nr (x:Vl) (lo hi:Option Int) (S:Sto):R Vl:=match x with
 | .d (.str x)=>if x.length≤1000 then .ok (.d (.str (Txt.slice x lo hi))) S else .bad
 | _=>.bad
theorem Bh {e:Expr} {lo hi:Option Expr} {xa:XE} {xl xh:XO} {p2 pos:Pos} (he:RE X WE e xa) (hl:RO X WE lo xl) (hh:RO X WE hi xh):RE X WE (.Subscript e (.Slice lo hi none p2) pos) (xSl nr xa xl xh):=
 ⟨(lV FD he.h hl.h hh.h).weak fun σ H Q ⟨μ,S,τ,hr,sr,p⟩=>⟨μ,S,τ,hr,sr,p.bind fun v x S1 μ1 H1 st1 r1 p1=>⟨μ1,S1,τ,st1.hr,sr.step st1,p1.bind fun i i' S2 μ2 H2 st2 r2 p2=>⟨μ2,S2,τ,st2.hr,sr.step (st1.trans st2),p2.bind fun j j' S3 μ3 H3 st3 r3 p3=>by
  cases (show i=i' from r2)
  cases (show j=j' from r3)
  have rv:=r1.step (st2.trans st3)
  unfold nr at p3
  split at p3
  ·split at p3
   ·cases (show Rep (vh μ3 S3 H3) v (.str _) from rv)
    exact ⟨_,rfl,Nat.le_trans ‹_› (by decide),p3.here st3.hr (Rep.str _)⟩
   ·exact p3.elim
  ·exact p3.elim⟩⟩⟩⟩
end
set_option maxRecDepth 100000
inductive DL:List (Option Expr)→List Expr→List (Str×Int)→Prop
 | nil:DL [] [] []
 | cons {k:Str} {n:Int} {i j:Nat} {p q:Pos} {ks:List (Option Expr)} {vs:List Expr} {l:List (Str×Int)}:DL ks vs l→DL (some (.Constant (.str k) i p) :: ks) (.Constant (.int n) j q :: vs) ((k,n) :: l)
inductive DLv:List (Str×Int)→List (Value×Value)→Prop
 | nil:DLv [] []
 | cons {k:Str} {n:Int} {t u:Tok} {l:List (Str×Int)} {r:List (Value×Value)}:DLv l r→DLv ((k,n) :: l) ((.str k t,.int n u) :: r)
set_option maxRecDepth 100000
section
variable {X:Cx}
def yp:List V→Hp→VK→Prop:=fun vs H Q=>∃ n:Int,vs=[.int n]∧n.natAbs < 2 ^ 60∧Q (.str (Str.ofString (toString n))) H
theorem cO:bI X (.type "str") yp:=by
 intro pins s σ H vs us Q I r h
 obtain ⟨n,rfl,hn,q⟩:=h
 obtain ⟨u,rfl,rx⟩:=vals1 r
 obtain ⟨t,rfl⟩:=rx
 have hl:n.natAbs.log2 < 1920:=by
  by_cases z:n.natAbs=0
  ·rw [z];decide
  ·have:=(Nat.log2_lt z).mpr hn
   omega
 exact PySem.P.str_of_int hl ⟨.str _,H,I.tok _,⟨_,rfl⟩,q⟩
def yd:List V→Hp→VK→Prop:=fun vs H Q=>∃ (x:Str) (n:Int),vs=[.str x]∧PySem.intText? x=some n∧x.length≤640∧Q (.int n) H
theorem vD:bI X (.type "int") yd:=by
 intro pins s σ H vs us Q I r h
 obtain ⟨x,n,rfl,hn,hl,q⟩:=h
 obtain ⟨u,rfl,rx⟩:=vals1 r
 obtain ⟨t,rfl⟩:=rx
 exact PySem.W.KIN.call_text hn hl ⟨.int _,H,I.tok _,⟨_,rfl⟩,q⟩
def AJ:R2:=fun x y H Q=>∃ a b,x=.str a∧y=.str b∧Q (.bl (Txt.contains b a)) H
theorem BG:OpR X (compareOp .In) AJ:=by
 intro pins s σ H x y v u Q I rx ry h
 obtain ⟨a,b,rfl,rfl,q⟩:=h
 obtain ⟨t,rfl⟩:=rx
 obtain ⟨t2,rfl⟩:=ry
 exact P.in_str ⟨.bl _,H,I,rfl,q⟩
def tSm (r:V→List V→Hp→VK→Prop) (to te:TE):TE:=fun σ H Q=>to σ H fun x H1=>∃ z,x=.str z∧te σ H1 fun y H2=>r (.str z) [y] H2 Q
theorem E9 {r:V→List V→Hp→VK→Prop} {name:Str} {id:String} {o e:Expr} {to te:TE} {apos cpos:Pos} (slot:Slot "str" name id) (hty:typeOf (.builtin id)=pure (.type "method_descriptor")) (hm:MtM X id r) (ho:PE X o to) (he:PE X e te)
  (hbase:attributeBase o name X.env (eval o X.env)=eval o X.env:=by rfl)
  (hfew:((backTo cpos (starEach [e] X.env)).all (fun x=>!x.1) && (backToKw cpos (keywordEach [] X.env)).all (fun x=>x.1.isSome) && decide ([e].length+([]:List Keyword).length+(if ([]:List Keyword).isEmpty then 0 else 1) < 30))=true:=by rfl)
  (hline:(apos.endLine == cpos.line)=true:=by rfl) (hs:starEach [e] X.env=(false,eval e X.env) :: starEach [] X.env:=by rfl):PE X (.Call (.Attribute o name apos) [e] [] cpos) (tSm r to te):=by
 intro pins s σ H Q I h
 refine wpAny_Call_method_late hbase hfew hline rfl (thn (ho pins s σ H _ I h) fun v s1 ⟨x,H1,I1,r1,z,e0,q1⟩=>?_)
 subst e0
 have r1':=r1
 obtain ⟨t,rfl⟩:=r1'
 refine ⟨"str",_,PySem.F.plainAttrs_str,slot,hty,typeIs_str _ _ _,(fun _ e=>nomatch e),?_⟩
 have hA:=(eL he gK hs) cpos pins s1 σ H1 (fun vs H2=>∃ y,vs=[y]∧r (.str z) [y] H2 Q) I1 (by
  refine cast (congrArg (te σ H1) ?_) q1
  funext y H2
  refine propext ⟨fun q=>⟨y,rfl,q⟩,fun ⟨y',e',q⟩=>?_⟩
  cases e'
  exact q)
 rw [hs] at hA ⊢
 refine Calls.callWith_builtin (by show (false || (backTo cpos (starEach ([]:List Expr) X.env)).any (·.1))=false;rfl) (Calls.evalArgs_plain ?_)
 exact thn hA fun us s2 ⟨vs,H2,I2,r2,y,e2,q2⟩=>hm pins s2 σ H2 (.str z) vs _ us Q I2 r1 r2 (by rw [e2];exact q2)
def rW:V→List V→Hp→VK→Prop:=fun x vs H Q=>∃ a b,x=.str a∧vs=[.str b]∧Q (.bl (Txt.startswith a b)) H
theorem ue:MtM X "str.startswith" rW:=by
 intro pins s σ H x vs v us Q I rx rv h
 obtain ⟨a,b,rfl,rfl,q⟩:=h
 obtain ⟨t,rfl⟩:=rx
 obtain ⟨u,rfl,ru⟩:=vals1 rv
 obtain ⟨t2,rfl⟩:=ru
 exact SC.startswith ⟨.bl _,H,I,rfl,q⟩
theorem n5:∀ {ws:List Str} {its:List Value},Vals (ws.map V.str) its→∃ l:List (Str×Tok),its=strValues l∧l.map (·.1)=ws
 | [],_,r=>by cases r;exact ⟨[],rfl,rfl⟩
 | w :: ws,_,r=>by
  cases r with
  | cons h r=>
   obtain ⟨t,rfl⟩:=h
   obtain ⟨l,e1,e2⟩:=n5 r
   exact ⟨(w,t) :: l,by rw [e1];rfl,by rw [List.map_cons,e2]⟩
def rJoin:V→List V→Hp→VK→Prop:=fun x vs H Q=>∃ (a:Str) (l:Addr) (ws:List Str),x=.str a∧vs=[.ref l]∧H l=some (.lst (ws.map V.str))∧JoinOk a ws=true∧Q (.str (Txt.join a ws)) H
theorem eG:MtM X "str.join" rJoin:=by
 intro pins s σ H x vs v us Q I rx rv h
 obtain ⟨a,l,ws,rfl,rfl,hl,hj,q⟩:=h
 obtain ⟨t,rfl⟩:=rx
 obtain ⟨u,rfl,ru⟩:=vals1 rv
 cases ru
 obtain ⟨its,r,pl,hz⟩:=I.list (SqL.of hl)
 obtain ⟨k,rfl,e2⟩:=n5 r
 exact SC.join pl.isList e2 hj fun t' tk=>⟨.str _,H,I.tok _,⟨_,rfl⟩,q⟩
end
section
variable {X:Cx} {WE:WX} {K:PySem.W.Frag} {mg:Str→Option Value}
def dD (xs:List Vl) (S:Sto):R Vl:=match xs with
 | [.d (.int n)]=>if n.natAbs < 2 ^ 60 then .ok (.d (.str (Str.ofString (toString n)))) S else .bad
 | _=>.bad
theorem cP:ft K mg yp dD:=by
 intro WE μ S H vs xs Q hr rs p
 unfold dD at p
 split at p
 ·split at p
  ·obtain ⟨v,rfl,r⟩:=rs.one
   cases (show Rep (vh μ S H) v (.int _) from r)
   exact ⟨_,rfl,‹_›,p.here hr (Rep.str _)⟩
  ·exact p.elim
 ·exact p.elim
def mM (xs:List Vl) (S:Sto):R Vl:=match xs with
 | [.d (.str x)]=>(match PySem.intText? x with
  | some n=>if x.length≤640 then .ok (.d (.int n)) S else .bad
  | none=>.bad)
 | _=>.bad
theorem uG:ft K mg yd mM:=by
 intro WE μ S H vs xs Q hr rs p
 unfold mM at p
 split at p
 ·split at p
  ·rename_i n e
   split at p
   ·obtain ⟨v,rfl,r⟩:=rs.one
    cases (show Rep (vh μ S H) v (.str _) from r)
    exact ⟨_,_,rfl,e,‹_›,p.here hr (Rep.int _)⟩
   ·exact p.elim
  ·exact p.elim
 ·exact p.elim
def sV (x y:Vl) (S:Sto):R Vl:=match x,y with
 | .d (.str a),.d (.str b)=>.ok (.d (.bl (Txt.contains b a))) S
 | _,_=>.bad
theorem zC:cH K mg AJ sV:=by
 intro WE μ S H v w x y Q hr rx ry p
 unfold sV at p
 split at p
 ·cases (show Rep (vh μ S H) v (.str _) from rx)
  cases (show Rep (vh μ S H) w (.str _) from ry)
  exact ⟨_,_,rfl,rfl,p.here hr (Rep.bl _)⟩
 ·exact p.elim
def sJ (r:V→List V→Hp→VK→Prop) (f:Str→Vl→Sto→R Vl):Prop:=∀ (K:PySem.W.Frag) (mg:Str→Option Value) (WE:WX) (μ:Nat→Addr) (S:Sto) (H:Hp) (a:Str) (w:V) (z:Vl) (Q:VK),HR μ S H→aZ K mg μ S H w z→aX (aZ K mg) WE μ S H (f a z S) Q→r (.str a) [w] H Q
def xSm (f:Str→Vl→Sto→R Vl) (o e:XE):XE:=fun τ S=>(o τ S).bind fun x S1=>match x with
 | .d (.str a)=>(e τ S1).bind fun z S2=>f a z S2
 | _=>.bad
theorem dY {r:V→List V→Hp→VK→Prop} {f:Str→Vl→Sto→R Vl} {name:Str} {id:String} {o e:Expr} {xo xe:XE} {apos cpos:Pos} (slot:Slot "str" name id) (hty:typeOf (.builtin id)=pure (.type "method_descriptor")) (hm:MtM X id r) (hf:sJ r f) (ho:RE X WE o xo) (he:RE X WE e xe)
  (hbase:attributeBase o name X.env (eval o X.env)=eval o X.env:=by rfl)
  (hfew:((backTo cpos (starEach [e] X.env)).all (fun x=>!x.1) && (backToKw cpos (keywordEach [] X.env)).all (fun x=>x.1.isSome) && decide ([e].length+([]:List Keyword).length+(if ([]:List Keyword).isEmpty then 0 else 1) < 30))=true:=by rfl)
  (hline:(apos.endLine == cpos.line)=true:=by rfl) (hs:starEach [e] X.env=(false,eval e X.env) :: starEach [] X.env:=by rfl):RE X WE (.Call (.Attribute o name apos) [e] [] cpos) (xSm f xo xe):=
 ⟨(E9 slot hty hm ho.h he.h hbase hfew hline hs).weak fun σ H Q ⟨μ,S,τ,hr,sr,p⟩=>⟨μ,S,τ,hr,sr,p.bind fun v x S1 μ1 H1 st1 r1 p1=>by
  try dsimp only at p1
  split at p1
  ·cases (show Rep (vh μ1 S1 H1) v (.str _) from r1)
   exact ⟨_,rfl,μ1,S1,τ,st1.hr,sr.step st1,p1.bind fun w y S2 μ2 H2 st2 r2 p2=>hf X.K X.mg WE μ2 S2 H2 _ w y Q st2.hr r2 p2⟩
  ·exact p1.elim⟩⟩
def gE (a:Str) (z:Vl) (S:Sto):R Vl:=match z with
 | .d (.str b)=>.ok (.d (.bl (Txt.startswith a b))) S
 | _=>.bad
theorem rm:sJ rW gE:=by
 intro K mg WE μ S H a w z Q hr rw' p
 unfold gE at p
 split at p
 ·cases (show Rep (vh μ S H) w (.str _) from rw')
  exact ⟨_,_,rfl,rfl,p.here hr (Rep.bl _)⟩
 ·exact p.elim
def cL (a:Str) (z:Vl) (S:Sto):R Vl:=match cw z S with
 | some ds=>(match wordsOf ds with
  | some ws=>if JoinOk a ws=true then .ok (.d (.str (Txt.join a ws))) S else .bad
  | none=>.bad)
 | none=>.bad
theorem de:sJ rJoin cL:=by
 intro K mg WE μ S H a w z Q hr rw' p
 unfold cL at p
 split at p
 ·rename_i ds e1
  split at p
  ·rename_i ws e2
   split at p
   ·obtain ⟨l,vs,rfl,hl,rs⟩:=dr hr rw' e1
    have:=l9 e2
    subst this
    have:=mK rs
    subst this
    exact ⟨_,l,ws,rfl,rfl,hl,‹_›,p.here hr (Rep.str _)⟩
   ·exact p.elim
  ·exact p.elim
 ·exact p.elim
end
end L2
namespace L2
open PySem PySem.Spec PyProof.Rows Builtin Builtin.Str
set_option maxRecDepth 100000
section
variable {X:Cx}
def uY:V→List V→Hp→VK→Prop:=fun x vs H Q=>∃ a b:Str,x=.str a∧vs=[.str b]∧(b.length == 0)=false∧a.length≤sizeLine∧(partsBetween a (occurrences a b 0 a.length (a.length+1)) b.length).length≤sizeLine∧∀ l,H l=none→Q (.ref l) (upd H l (.lst ((Txt.split a b).map V.str)))
theorem kS:∀ l:List (Str×Tok),Vals ((l.map (·.1)).map V.str) (strValues l)
 | []=>.nil
 | (w,t) :: l=>.cons ⟨t,rfl⟩ (kS l)
theorem ju:MtM X "str.split" uY:=by
 intro pins s σ H x vs v us Q I rx rv h
 obtain ⟨a,b,rfl,rfl,hb,hz,hz2,q⟩:=h
 obtain ⟨t,rfl⟩:=rx
 obtain ⟨u,rfl,ru⟩:=vals1 rv
 obtain ⟨t2,rfl⟩:=ru
 have fin:∀ (l:List (Str×Tok)) (tk:Nat),l.map (·.1)=Txt.split a b→EP X pins σ Q (.ref s.heap.objs.size) { s with heap:=s.heap.push { cls:=.type "list",data:=.seq (strValues l).toArray },toks:=tk }:=by
  intro l tk e
  have hz3:(Txt.split a b).length≤sizeLine:=by
   unfold Txt.split
   split
   ·exact (show 1≤sizeLine by decide)
   ·split
    ·exact (show 1≤sizeLine by decide)
    ·exact hz2
  refine ⟨.ref s.heap.objs.size,_,I.laid (t':=tk) (fun b o e=>Heap.get?_push_of_some _ e) (Nat.le_refl _) (show b8 X.prog X.w _ _ _ (.lst ((Txt.split a b).map V.str)) from ⟨by rw [List.length_map];exact hz3,strValues l,0,by rw [← e];exact kS l,Heap.get?_push_size _ rfl⟩),rfl,q _ (I.hok.fresh (Nat.le_refl _))⟩
 cases h1:(decide (a.length < b.length) || decide (strKind a < strKind b))
 ·cases hf:(occurrences a b 0 a.length (a.length+1)).isEmpty
  ·refine call_meets F.slot_str_split (typeIs_str _ _ _) F.entry_str_split (F.args_str_split_2 _ _) (meets_str_split_sep a b t t2 h1 hb hf hz hz2) ?_
   show wants _ _ _ { s with toks:=_,heap:=s.heap.push { cls:=.type "list",data:=.seq (strsFrom s.toks (partsBetween a (occurrences a b 0 a.length (a.length+1)) b.length)).toArray } }
   rw [strsFrom_eq]
   exact fin (numbered s.toks _) _ ((numbered_texts _ _).trans ((if_neg (ne_true_of_eq_false h1)).trans (if_neg (ne_true_of_eq_false hf))).symm)
  ·exact call_meets F.slot_str_split (typeIs_str _ _ _) F.entry_str_split (F.args_str_split_2 _ _) (meets_str_split_not_found a b t t2 h1 hb hf) (fin [(a,t)] s.toks ((if_neg (ne_true_of_eq_false h1)).trans (if_pos hf)).symm)
 ·exact call_meets F.slot_str_split (typeIs_str _ _ _) F.entry_str_split (F.args_str_split_2 _ _) (meets_str_split_cannot_occur a b t t2 h1) (fin [(a,t)] s.toks (if_pos h1).symm)
end
section
variable {X:Cx} {WE:WX} {K:PySem.W.Frag} {mg:Str→Option Value}
theorem fX:∀ ws:List Str,ax H (ws.map V.str) (ws.map D.str)
 | []=>.nil
 | w :: ws=>.cons (.str w) (fX ws)
def gQ (a:Str) (z:Vl) (S:Sto):R Vl:=match z with
 | .d (.str b)=>if (b.length == 0)=false∧a.length≤1000∧(partsBetween a (occurrences a b 0 a.length (a.length+1)) b.length).length≤2000 then .ok (.d (.lst ((Txt.split a b).map D.str))) S else .bad
 | _=>.bad
theorem gm:sJ uY gQ:=by
 intro K mg WE μ S H a w z Q hr rw' p
 unfold gQ at p
 split at p
 ·split at p
  ·rename_i h
   cases (show Rep (vh μ S H) w (.str _) from rw')
   exact ⟨_,_,rfl,rfl,h.1,Nat.le_trans h.2.1 (by decide),Nat.le_trans h.2.2 (by decide),fun l hl=>p.l8 hr (fX _) l hl⟩
  ·exact p.elim
 ·exact p.elim
def kR (x y:Vl) (S:Sto):R Vl:=match x,y with
 | .d (.str z),.d (.int i)=>(match atI z.cps.toList i with
  | some c=>if z.length≤1000 then .ok (.d (.str ⟨#[c]⟩)) S else .bad
  | none=>.bad)
 | _,_=>.bad
theorem zk:cH K mg BQ kR:=by
 intro WE μ S H v w x y Q hr rx ry p
 unfold kR at p
 split at p
 ·split at p
  ·rename_i c e
   split at p
   ·cases (show Rep (vh μ S H) v (.str _) from rx)
    cases (show Rep (vh μ S H) w (.int _) from ry)
    exact ⟨_,_,c,rfl,rfl,Nat.le_trans ‹_› (by decide),e,p.here hr (Rep.str _)⟩
   ·exact p.elim
  ·exact p.elim
 ·exact p.elim
theorem Bt (ha:RE X WE a xa) (hb:RE X WE b xb) (hs:jh b:=by exact fun _ _=>rfl):RE X WE (.Subscript a b pos) (xOp kR xa xb):=⟨(yD Cu ha.h hb.h hs).weak fun _ _ _ h=>two (X:=X) zk h⟩
end
set_option maxRecDepth 100000
def F8 (w:World) (K:PySem.W.Frag) (a:Addr) (tb:List (Str×List Str)):Prop:=∃ (es:Array DictEntry) (n:Nat),K.lookup a=some ⟨.type "dict",none,.dict es n,#[]⟩∧PySem.W.KeysLit w.params es.toList∧(a == sysModules)=false ∧
 ∀ k,match tb.lookup k with
  | some ws=>∃ b,findBy Value.isStrOf es k=some (.ref b)∧jz K b ws
  | none=>findBy Value.isStrOf es k=none
def Fm (w:World) (K:PySem.W.Frag) (mg:Str→Option Value) (x:Str) (tb:List (Str×List Str)):Prop:=∃ a,mg x=some (.ref a)∧F8 w K a tb
def qO (K:PySem.W.Frag):List DictEntry→List (Str×List Str)→Prop
 | [],[]=>True
 | e :: r,(k,ws) :: tb=>(∃ t,e.key=.str k t)∧(∃ b,e.val=.ref b∧jz K b ws)∧qO K r tb
 | _,_=>False
theorem qO.find {K:PySem.W.Frag} (k:Str):∀ {l:List DictEntry} {tb:List (Str×List Str)},qO K l tb→match tb.lookup k with
  | some ws=>∃ b,(l.find? fun e=>Value.isStrOf k e.key).map (·.val)=some (.ref b)∧jz K b ws
  | none=>(l.find? fun e=>Value.isStrOf k e.key).map (·.val)=none
 | [],[],_=>rfl
 | e :: r,(k',ws) :: tb,h=>by
  obtain ⟨⟨t,h1⟩,⟨b,h2,h3⟩,h4⟩:=h
  have ih:=qO.find k h4
  rw [List.find?_cons,h1]
  by_cases q:k=k'
  ·subst q
   rw [List.lookup_cons_self]
   exact ⟨b,by simp [Value.isStrOf,h2],h3⟩
  ·rw [List.lookup_cons,beq_false_of_ne q,show Value.isStrOf k (.str k' t)=false by simpa [Value.isStrOf] using fun z=>q z.symm]
   exact ih
 | [],_ :: _,h=>h.elim
 | _ :: _,[],h=>h.elim
theorem EW {w:World} {K:PySem.W.Frag} {h:Heap} {mg:Str→Option Value} {x:Str} {A:Addr} {es:Array DictEntry} {n:Nat} {tb:List (Str×List Str)} (X:K.In h) (G:h.Ns mainGlobals mg) (a:PySem.W.nsIn K mainGlobals x=some (some (.ref A)))
  (l:K.lookup A=some ⟨.type "dict",none,.dict es n,#[]⟩) (k:PySem.W.KeysLit w.params es.toList) (s:(A == sysModules)=false) (e:qO K es.toList tb):Fm w K mg x tb:=
 ⟨A,PySem.W.mg_of X G a,es,n,l,k,s,fun k=>by
  have:=e.find k
  obtain ⟨es⟩:=es
  unfold findBy
  rw [List.find?_toArray]
  exact this⟩
theorem mN {K:PySem.W.Frag} {b:Addr} {l:List Value} {n:Nat} {dd:Option Addr} {sl:Array (Option Value)} {ws:List Str} (hl:K.lookup b=some ⟨.type "tuple",dd,.seq l.toArray n,sl⟩) (r:Vals (ws.map V.str) l) (hz:l.length≤10):jz K b ws:=
 ⟨_,_,n,hl,rfl,rfl,Nat.le_trans (by simpa using hz) (by decide),by simpa using r⟩
theorem jz.sq {K:PySem.W.Frag} (h:jz K a ws):SqT K H a (ws.map V.str):=.inr h
section
variable {X:Cx} {WE:WX} {ix o b c:Expr} {ti tx:TE} {xi xc:XE} {x:Str} {tb:List (Str×List Str)}
def Fz (K:PySem.W.Frag) (tb:List (Str×List Str)) (ti:TE):TE:=fun σ H Q=>ti σ H fun y H1=>∃ k ws,y=.str k∧tb.lookup k=some ws∧∀ b,jz K b ws→Q (.ref b) H1
theorem BN (F:Fm X.w X.K X.mg x tb) (hg:Gl X x) (hi:PE X ix ti) (hs:jh ix) (hd:(x == ("__debug__":Str))=false:=by decide):PE X (.Subscript (.Name x p) ix pos) (Fz X.K tb ti):=by
 intro pins s σ H Q I h
 obtain ⟨a,hm,es,n,hl,hk,hsm,hf⟩:=F
 refine Subscript_ (nu I hg hm (thn (hi pins s σ H _ I h) fun u s2 ⟨y,H2,I2,ry,k,ws,e,hw,q⟩=>?_) hd)
 subst e
 obtain ⟨t,rfl⟩:=ry
 have hmo:=PySem.W.mapOf_K (prog:=X.prog) I2.kIn hl hk
 have:=hf k
 rw [hw] at this
 obtain ⟨b,e2,hb⟩:=this
 exact tail_any (ops:=[.str k t,.ref a]) (T:="dict") hmo.typeIs slot_dict_getitem.lookup (wpAny_getItem_of (knd:=strKind X.prog X.w) (k:=k) (strKind_is X.prog X.w k t) hmo e2 ⟨.ref b,H2,I2.tok _,rfl,q b hb⟩) (hs _ _)
def xk (tb:List (Str×List Str)) (i:XE):XE:=fun τ S=>(i τ S).bind fun z S1=>match z with
 | .d (.str k)=>(match tb.lookup k with
  | some ws=>.ok (.kt ws) S1
  | none=>.bad)
 | _=>.bad
theorem CT (F:Fm X.w X.K X.mg x tb) (hi:RE X WE ix xi) (hg:Gl X x:=by rfl) (hs:jh ix:=by exact fun _ _=>rfl) (hd:(x == ("__debug__":Str))=false:=by decide):RE X WE (.Subscript (.Name x p) ix pos) (xk tb xi):=
 ⟨(BN F hg hi.h hs hd).weak fun σ H Q ⟨μ,S,τ,hr,sr,p⟩=>⟨μ,S,τ,hr,sr,p.bind fun v x S1 μ1 H1 st1 r1 p1=>by
  try dsimp only at p1
  split at p1
  ·split at p1
   ·cases (show Rep (vh μ1 S1 H1) v (.str _) from r1)
    exact ⟨_,_,rfl,‹_›,fun b hb=>p1.here st1.hr ⟨b,rfl,hb⟩⟩
   ·exact p1.elim
  ·exact p1.elim⟩⟩
def DQ (K:PySem.W.Frag) (tb:List (Str×List Str)) (ti tx:TE):TE:=fun σ H Q=>ti σ H fun y H1=>tx σ H1 fun z H2=>∃ k,y=.str k∧(match tb.lookup k with
 | some ws=>∀ b,jz K b ws→Q (.ref b) H2
 | none=>Q z H2)
theorem zO (F:Fm X.w X.K X.mg x tb) (hg:Gl X x) (he:PE X b ti) (hf:PE X c tx) (m:M2 X (.Name x p) "get" apos b c cpos) (hd:(x == ("__debug__":Str))=false:=by decide):PE X (.Call (.Attribute (.Name x p) "get" apos) [b,c] [] cpos) (DQ X.K tb ti tx):=by
 intro pins s σ H Q I h
 obtain ⟨a,hm,es,n,hl,hk,hsm,hfi⟩:=F
 refine wpAny_Call_method m.base m.few m.line PySem.F.plainAttrs_dict PySem.F.slot_dict_get PySem.F.type_dict_get (nu I hg hm ?_ hd)
 have hmo0:=PySem.W.mapOf_K (prog:=X.prog) I.kIn hl hk
 refine ⟨hmo0.typeIs,fun b q=>?_,?_⟩
 ·cases q
  exact ⟨_,I.kIn _ _ hl,rfl⟩
 rw [m.trees]
 refine Calls.callWith_builtin rfl (Calls.evalArgs_plain (Calls.spliced_cons (thn (he pins s σ H _ I h) fun iv s2 ⟨y,H2,I2,ry,q2⟩=>
  Calls.spliced_cons (thn (hf pins s2 σ H2 _ I2 q2) fun fv s3 ⟨z,H3,I3,rz,k,ey,q3⟩=>Calls.spliced_nil ?_))))
 subst ey
 obtain ⟨t,rfl⟩:=ry
 have hmo:=PySem.W.mapOf_K (prog:=X.prog) I3.kIn hl hk
 refine call_meetsIn PySem.F.slot_dict_get hmo.typeIs PySem.F.entry_dict_get (PySem.F.args_dict_get_3 _ _ _) (meets_dict_get_default (strKind X.prog X.w) a (strKind_is X.prog X.w k t) hsm fv) ⟨_,hmo,?_⟩
 have h4:=hfi k
 split at q3
 ·rename_i ws e
  rw [e] at h4
  obtain ⟨b,e2,hb⟩:=h4
  exact ⟨.ref b,H3,I3.tok _,by rw [e2];exact rfl,q3 b hb⟩
 ·rename_i e
  rw [e] at h4
  exact ⟨z,H3,I3.tok _,by rw [h4];exact rz,q3⟩
def pk (tb:List (Str×List Str)) (i c:XE):XE:=fun τ S=>(i τ S).bind fun y S1=>(c τ S1).bind fun z S2=>match y with
 | .d (.str k)=>(match tb.lookup k with
  | some ws=>.ok (.kt ws) S2
  | none=>.ok z S2)
 | _=>.bad
theorem Aa (F:Fm X.w X.K X.mg x tb) (hk:RE X WE b xi) (he:RE X WE c xc) (hg:Gl X x:=by rfl) (m:M2 X (.Name x p) "get" apos b c cpos:=by exact ⟨rfl,rfl,rfl,rfl⟩) (hd:(x == ("__debug__":Str))=false:=by decide) :
  RE X WE (.Call (.Attribute (.Name x p) "get" apos) [b,c] [] cpos) (pk tb xi xc):=
 ⟨(zO F hg hk.h he.h m hd).weak fun σ H Q ⟨μ,S,τ,hr,sr,p⟩=>⟨μ,S,τ,hr,sr,p.bind fun v x S1 μ1 H1 st1 r1 p1=>⟨μ1,S1,τ,st1.hr,sr.step st1,p1.bind fun u y S2 μ2 H2 st2 r2 p2=>by
  try dsimp only at p2
  split at p2
  ·cases (show Rep (vh μ1 S1 H1) v (.str _) from r1)
   refine ⟨_,rfl,?_⟩
   split at p2
   ·exact fun b hb=>p2.here st2.hr ⟨b,rfl,hb⟩
   ·exact p2.here st2.hr r2
  ·exact p2.elim⟩⟩⟩
end
def sqV (z:Vl):Option (Bool×List D):=match z with
 | .d x=>tW x
 | .kt ws=>some (false,ws.map D.str)
 | _=>none
def SqG (K:PySem.W.Frag) (b:Bool) (H:Hp) (a:Addr) (xs:List V):Prop:=match b with
 | true=>SqL K H a xs
 | false=>SqT K H a xs
def DR (K:PySem.W.Frag):List V→Hp→VK→Prop:=fun xs H Q=>∃ p ys,xs=[.ref p]∧(SqL K H p ys∨SqT K H p ys)∧Q (.int ys.length) H
def my (xs:List Vl) (S:Sto):R Vl:=match xs with
 | [z]=>(match sqV z with
  | some p=>.ok (.d (.int p.2.length)) S
  | none=>.bad)
 | _=>.bad
section
variable {X:Cx} {WE:WX} {K:PySem.W.Frag} {mg:Str→Option Value} {μ:Nat→Addr} {S:Sto} {H:Hp}
theorem SqT.mono (k:c6 H H') (h:SqT K H l xs):SqT K H' l xs:=by
 rcases h with (h | ⟨o,h⟩) | h
 ·exact .inl (.inl (k _ _ h))
 ·exact .inl (.inr ⟨o,k _ _ h⟩)
 ·exact .inr h
theorem SqG.mono (k:c6 H H') (h:SqG K b H l xs):SqG K b H' l xs:=by
 cases b with
 | true=>exact SqL.mono k h
 | false=>exact SqT.mono k h
theorem Inv.sqG (I:Inv X pins σ H s) (h:SqG X.K b H t xs):∃ its:List Value,Vals xs its∧fT b s.heap t its.toArray∧xs.length≤sizeLine:=by
 cases b with
 | true=>obtain ⟨its,rv,p,hz⟩:=I.list h;exact ⟨its,rv,p.isList,hz⟩
 | false=>obtain ⟨its,rv,p,hz⟩:=I.tuple h;exact ⟨its,rv,p,hz⟩
theorem Inv.rG (I:Inv X pins σ H s) (h:SqG X.K b H t xs) (h':SqG X.K b H t ys):xs=ys:=by
 cases b with
 | true=>exact I.lR h h'
 | false=>exact I.og h h'
theorem Inv.kne (I:Inv X pins σ H s) (f:eF X pins H b) (hk:X.K.lookup t=some o):t≠b:=by
 rintro rfl
 have e:=I.ok.mod.kin _ _ hk
 rcases f.2.2.2.1 with z | z
 ·exact I.ok.noex _ _ e z
 ·exact absurd (Nat.lt_of_lt_of_le (Heap.lt_size (I.ok.bs _ _ e).1) z) (Nat.lt_irrefl _)
theorem Inv.sne (I:Inv X pins σ H s) (f:eF X pins H b) (h:SqG X.K c H t xs):t≠b:=by
 have g:(∃ o,H t=some o)∨∃ o,X.K.lookup t=some o:=by
  cases c with
  | true=>
   rcases h with (h | ⟨o,h⟩) | ⟨o,_,_,h,_⟩
   ·exact .inl ⟨_,h⟩
   ·exact .inl ⟨_,h⟩
   ·exact .inr ⟨_,h⟩
  | false=>
   rcases h with (h | ⟨o,h⟩) | ⟨o,_,_,h,_⟩
   ·exact .inl ⟨_,h⟩
   ·exact .inl ⟨_,h⟩
   ·exact .inr ⟨_,h⟩
 rcases g with ⟨o,g⟩ | ⟨o,g⟩
 ·rintro rfl
  rw [f.1] at g;cases g
 ·exact I.kne f g
theorem ny (r:aZ K mg μ S H v z) (h:sqV z=some p):∃ a vs,v=.ref a∧SqG K p.1 (vh μ S H) a vs∧ax (vh μ S H) vs p.2:=by
 cases z with
 | d x=>
  obtain ⟨a,vs,e,g,rs⟩:=pA (show Rep (vh μ S H) v x from r) h
  refine ⟨a,vs,e,?_,rs⟩
  obtain ⟨b,xs⟩:=p
  cases b with
  | true=>exact SqL.of g
  | false=>exact SqT.of g
 | kt ws=>
  cases h
  obtain ⟨a,e,k⟩:=r
  exact ⟨a,ws.map V.str,e,k.sq,fX ws⟩
 | _=>cases h
theorem ub:ft K mg (DR K) my:=by
 intro WE μ S H vs xs Q hr rs p
 unfold my at p
 split at p
 ·obtain ⟨v,rfl,r⟩:=rs.one
  split at p
  ·rename_i q e
   obtain ⟨a,us,rfl,g,rr⟩:=ny r e
   refine ⟨a,us,rfl,?_,by rw [rr.length];exact p.here hr (Rep.int _)⟩
   have g':=SqG.mono cz g
   revert g'
   cases q.1 with
   | true=>exact .inl
   | false=>exact .inr
  ·exact p.elim
 ·exact p.elim
def Itk (K:PySem.W.Frag) (b c:Bool) (t u:Addr):It:=
  ⟨fun i H=>∃ xs ys x y,SqG K b H t xs∧SqG K c H u ys∧xs[i]?=some x∧ys[i]?=some y,fun i H v H'=>∃ p x y,H p=none∧v=.ref p∧H'=upd H p (.tup [x,y])∧(∀ xs,SqG K b H t xs→xs[i]?=some x)∧∀ ys,SqG K c H u ys→ys[i]?=some y,
   fun i H=>∃ xs ys,SqG K b H t xs∧SqG K c H u ys∧i≤xs.length∧i≤ys.length∧(i=xs.length∨i=ys.length)⟩
theorem u_ {P:Program} {w:World} {K:PySem.W.Frag} {es:List Expr} {kk:Nat} {tp:Pos} (b c:Bool) (t u N:Addr) :
  Turn P w K (.Tuple es kk tp) (Itk K b c t u) [N+4,N+2,N+3,N,N+1] (N+4)
   (fun i h=>IsZip h (N+4) (N+2) (N+3) .none∧IsPair h (N+2) (.ref N) (.ref (N+1))∧(∃ a b,IsPair h (N+3) a b)∧eW b h N t i∧eW c h (N+1) u i) where
 mem:=by simp
 obj:=(j3 (P:=P) (w:=w) (K:=K) (es:=es) (kk:=kk) (tp:=tp) b c t u N).obj
 keep:=(j3 (P:=P) (w:=w) (K:=K) (es:=es) (kk:=kk) (tp:=tp) b c t u N).keep
 item:=by
  intro X hP hw hK hc i pins s σ H E I hf st hg
  subst hP hw hK
  obtain ⟨h1,h2,⟨a0,b0,h3⟩,h4,h5⟩:=st
  obtain ⟨xs,ys,x,y,hx,hy,ex,ey⟩:=hg
  obtain ⟨its,rv,p,hz⟩:=I.sqG hx
  obtain ⟨its2,rv2,p2,hz2⟩:=I.sqG hy
  obtain ⟨a,ha,ra⟩:=rv.get ex
  obtain ⟨b1,hb,rb⟩:=rv2.get ey
  have D0:=mE (N:=N) (t:=t) (u:=u) (fun c hc=>I.sne (hf c hc) hx) (fun c hc=>I.sne (hf c hc) hy)
  have hA:X.A.in1.handled=none:=I.ok.hd hc
  have tn:t≠N:=I.sne (hf N (by simp)) hx
  have un:u≠N+1:=I.sne (hf (N+1) (by simp)) hy
  have la:i < its.toArray.size:=by
   have:=(List.getElem?_eq_some_iff.mp ha).1
   simpa using this
  have lb:i < its2.toArray.size:=by
   have:=(List.getElem?_eq_some_iff.mp hb).1
   simpa using this
  refine nH D0 (dI b hA N t tn its.toArray) (dI c hA (N+1) u un its2.toArray) h1 (.inl rfl) h2 h3 ⟨h4,p⟩ ⟨h5,p2⟩ la lb fun x' y' g1 tk px py z1 z2 z3 z4 z5 z6 z7 k1=>?_
  obtain rfl:x'=a:=by
   have e:its.toArray[i]?=some x':=px
   rw [List.getElem?_toArray,ha] at e
   exact (Option.some.inj e).symm
  obtain rfl:y'=b1:=by
   have e:its2.toArray[i]?=some y':=py
   rw [List.getElem?_toArray,hb] at e
   exact (Option.some.inj e).symm
  refine ⟨_,rfl,wpAny_letOwnedTupleGo_zip (s:={ s with heap:=g1,toks:=tk }) z1 fun g2 y1 e2=>?_⟩
  replace e2:Heap.SameBut (N+4) g1 g2:=e2
  have hl4:N+4 < s.heap.objs.size:=Heap.lt_size h1
  have d:∀ i j:Nat,i≠j→(N+i:Nat)≠N+j:=fun i j h e=>h (Nat.add_left_cancel e)
  have ht2:IsPair g2 s.heap.objs.size x' y':=e2.extBut _ _ (Nat.ne_of_gt hl4) z6
  have k2:∀ c o,c∉[N+4,N+2,N+3,N,N+1]→s.heap.get? c=some o→g2.get? c=some o:=fun c o hc q=>by
   have c4:c≠N+4:=fun z=>hc (by simp [z])
   have c3:c≠N+3:=fun z=>hc (by simp [z])
   have c0:c≠N:=fun z=>hc (by simp [z])
   have c1:c≠N+1:=fun z=>hc (by simp [z])
   exact e2.extBut c o c4 (k1 c o c4 c3 c0 c1 q)
  have I2:Inv X pins σ (upd H s.heap.objs.size (.tup [x,y])) { s with heap:=g2,toks:=tk }:=by
   refine I.l4 (fp:=[N+4,N+2,N+3,N,N+1]) (Nat.le_refl _) k2 hf ?_
   exact ⟨by show 2≤sizeLine;decide,[x',y'],.cons ra (.cons rb .nil),⟨_,ht2,rfl,_,rfl⟩⟩
  refine ⟨.ref s.heap.objs.size,_,I2,rfl,⟨s.heap.objs.size,x,y,I.hok.fresh (Nat.le_refl _),rfl,rfl,fun zs hz=>by rw [I.rG hz hx];exact ex,fun zs hz=>by rw [I.rG hz hy];exact ey⟩,⟨y1,e2.extBut _ _ (d 2 4 (by decide)) z2,⟨_,_,e2.extBut _ _ (d 3 4 (by decide)) z3⟩,i6 z4.1 fun o q=>e2.extBut _ _ (d 0 4 (by decide)) q,i6 z5.1 fun o q=>e2.extBut _ _ (d 1 4 (by decide)) q⟩,fun b hb=>?_⟩
  have hlt:b < s.heap.objs.size:=by
   simp only [List.mem_cons,List.not_mem_nil,or_false] at hb
   rcases hb with z | z | z | z | z
   ·rw [z];exact hl4
   ·rw [z];exact Heap.lt_size h2
   ·rw [z];exact Heap.lt_size h3
   ·obtain ⟨o,q,_⟩:=gB h4;rw [z];exact Heap.lt_size q
   ·obtain ⟨o,q,_⟩:=gB h5;rw [z];exact Heap.lt_size q
  rw [aT (Nat.ne_of_lt hlt)]
  exact (hf b hb).1
 done:=by
  intro X hP hw hK hc i pins s σ H E I hf st hg
  subst hP hw hK
  obtain ⟨h1,h2,⟨a0,b0,h3⟩,h4,h5⟩:=st
  obtain ⟨xs,ys,hx,hy,lx,ly,hend⟩:=hg
  obtain ⟨its,rv,p,hz⟩:=I.sqG hx
  obtain ⟨its2,rv2,p2,hz2⟩:=I.sqG hy
  have D0:=mE (N:=N) (t:=t) (u:=u) (fun c hc=>I.sne (hf c hc) hx) (fun c hc=>I.sne (hf c hc) hy)
  have hA:X.A.in1.handled=none:=I.ok.hd hc
  have tn:t≠N:=I.sne (hf N (by simp)) hx
  have un:u≠N+1:=I.sne (hf (N+1) (by simp)) hy
  have l1:=rv.length
  have l2:=rv2.length
  refine p9 D0 (dI b hA N t tn its.toArray) (dI c hA (N+1) u un its2.toArray) h1 (.inl rfl) h2 h3 ⟨h4,p⟩ ⟨h5,p2⟩ ?_ fun h' tk hk=>⟨rfl,?_⟩
  ·simp only [List.size_toArray]
   omega
  ·refine I.sm (fp:=[N+4,N+2,N+3,N,N+1]) (fun c o hc q=>?_) hf
   exact hk c o (fun z=>hc (by simp [z])) (fun z=>hc (by simp [z])) (fun z=>hc (by simp [z])) (fun z=>hc (by simp [z])) q
 self:=fun _ _ _ _ _ st h=>wpAny_pyIter_zip st.1 h
def xV (zs:List Vl) (S:Sto):R Its:=match zs with
 | [x,y]=>(match sqV x,sqV y with
  | some p,some q=>.ok ⟨cn p.2 q.2,none⟩ S
  | _,_=>.bad)
 | _=>.bad
def iZk (as:XA):XI:=fun τ S=>(as τ S).bind xV
theorem zB {vs us:List V} (g:SqG K b (vh μ S H) t vs) (rs:ax (vh μ S H) vs xs) (g2:SqG K c (vh μ S H) u us) (rs2:ax (vh μ S H) us ys) (hz:vs.length≤sizeLine):e9 K mg μ S H (Itk K b c t u) ⟨cn xs ys,none⟩ where
 ok:=True.intro
 len:=by show (cn xs ys).length≤sizeLine;rw [jE];rw [rs.length] at hz;omega
 go:=fun i z μ' S' H' st _ e=>by
  obtain ⟨x,y,e1,e2,_⟩:=hZ e
  obtain ⟨a,q1,_⟩:=rs.get' e1
  obtain ⟨b,q2,_⟩:=rs2.get' e2
  exact ⟨vs,us,a,b,SqG.mono cz (g.mono st.vis),SqG.mono cz (g2.mono st.vis),q1,q2⟩
 yld:=fun i z μ' S' H' v H2 st _ e yy=>by
  obtain ⟨p,a,b,hp,rfl,rfl,y1,y2⟩:=yy
  obtain ⟨x,y,e1,e2,rfl⟩:=hZ e
  have q1:=y1 vs (SqG.mono cz (g.mono st.vis))
  have q2:=y2 us (SqG.mono cz (g2.mono st.vis))
  obtain ⟨x',e3,r1⟩:=rs.get q1
  obtain ⟨y',e4,r2⟩:=rs2.get q2
  rw [e1] at e3;cases e3
  rw [e2] at e4;cases e4
  have st2:=Step.new st.hr hp (.tup [a,b])
  exact ⟨st2,Rep.tup (bT b_ (st.hr.nal hp)) (.cons (Rep.mono (st.trans st2).vis r1) (.cons (Rep.mono (st.trans st2).vis r2) .nil))⟩
 stop:=fun i μ' S' H' st _ hi=>by
  replace hi:(cn xs ys).length=i:=hi
  rw [jE] at hi
  have l1:=rs.length
  have l2:=rs2.length
  exact ⟨vs,us,SqG.mono cz (g.mono st.vis),SqG.mono cz (g2.mono st.vis),by omega,by omega,by omega⟩
theorem rE (hg:Gl X "zip") (hm:X.mg "zip"=none) (ha:RA X WE [a,b] xa) (hb:bootBuiltins "zip"=some (.type "zip"):=by decide +kernel)
  (hs:starEach [a,b] X.env=[(false,eval a X.env),(false,eval b X.env)]:=by rfl) (hs2:starEach [b] X.env=[(false,eval b X.env)]:=by rfl):RI X WE (.Tuple es kk tp) (.Call (.Name "zip" p) [a,b] [] pos) (iZk xa):=⟨by
 intro pins s σ H R I h
 obtain ⟨μ,S,τ,hr,sr,pp⟩:=h
 refine Call_ (c9 I hg hm hb (PyProof.Rows.callWith_type1 (thn (ha.h pos pins s σ H (fun vs H1=>∃ μ1 S1 zs,HR μ1 S1 H1∧bE X.K X.mg μ1 S1 H1 vs zs∧aX (e9 X.K X.mg) WE μ1 S1 H1 (xV zs S1) R) I ?_) fun us s1 ⟨vs,H1,I1,r1,q1⟩=>?_) (by rw [hs,hs2]) (by rw [hs2];rfl)))
 ·exact ⟨μ,S,τ,hr,sr,pp.bind fun v x S1 μ1 H1 st1 r1 p1=>⟨μ1,S1,x,st1.hr,r1,p1⟩⟩
 ·obtain ⟨μ1,S1,zs,hr1,rz,p1⟩:=q1
  have fp:∀ b∈[s1.heap.objs.size+4,s1.heap.objs.size+2,s1.heap.objs.size+3,s1.heap.objs.size,s1.heap.objs.size+1],s1.heap.objs.size≤b:=by
   intro b hb
   simp only [List.mem_cons,List.not_mem_nil,or_false] at hb
   rcases hb with z | z | z | z | z<;>rw [z]
   ·exact Nat.le_add_right _ _
   ·exact Nat.le_add_right _ _
   ·exact Nat.le_add_right _ _
   ·exact Nat.le_refl _
   ·exact Nat.le_add_right _ _
  unfold xV at p1
  split at p1
  ·split at p1
   ·rename_i p q e1 e2
    cases rz with
    | cons q1 q2=>cases q2 with
     | cons q2 q3=>
      cases q3
      obtain ⟨u1,u2,rfl,ru,rw'⟩:=r1.two
      obtain ⟨t,vs,rfl,g,rs⟩:=ny q1 e1
      obtain ⟨u,us,rfl,g2,rs2⟩:=ny q2 e2
      cases ru;cases rw'
      obtain ⟨its,rv,pl,hz⟩:=I1.sqG (SqG.mono cz g)
      obtain ⟨its2,rv2,pl2,hz2⟩:=I1.sqG (SqG.mono cz g2)
      refine nZ p.1 q.1 pl pl2 fun h' z1 z2 z3 z4 z5 hk=>?_
      refine wpAny_pyIter_zip (s:={ s1 with heap:=h' }) z1 ?_
      have I2:Inv X pins σ H1 { s1 with heap:=h' }:=I1.kept (t':=s1.toks) hk
      exact ⟨s1.heap.objs.size+4,_,_,_,H1,rfl,I2,u_ p.1 q.1 t u s1.heap.objs.size,⟨z1,z2,⟨_,_,z3⟩,z4,z5⟩,fun b hb=>I1.kQ (fp b hb) (I1.hok.fresh (fp b hb)),p1.here hr1 (zB g rs g2 rs2 hz)⟩
   ·exact p1.elim
  ·exact p1.elim⟩
end
theorem kX {n d k:Nat}:HT.sIx n d (some (k:Int))=min k n:=by
 unfold HT.sIx
 first | (dsimp only;split<;>omega) | (simp;omega) | omega
theorem qv:HT.sIx n d none=d:=rfl
theorem vb {xs:List D} {k:Nat}:eE xs none (some (k:Int))=xs.take k:=by
 unfold eE
 rw [qv,kX,List.drop_zero,Nat.sub_zero]
 by_cases h:k≤xs.length
 ·rw [Nat.min_eq_left h]
 ·rw [Nat.min_eq_right (by omega),List.take_of_length_le (Nat.le_refl _),List.take_of_length_le (by omega)]
theorem CP {xs:List D} {a b:Nat}:eE xs (some (a:Int)) (some (b:Int))=(xs.drop a).take (b - a):=by
 unfold eE
 rw [kX,kX]
 by_cases h:a≤xs.length
 ·rw [Nat.min_eq_left h]
  by_cases hb:b≤xs.length
  ·rw [Nat.min_eq_left hb]
  ·rw [Nat.min_eq_right (by omega),List.take_of_length_le (by simp),List.take_of_length_le (by simp;omega)]
 ·rw [Nat.min_eq_right (show xs.length≤a by omega),List.drop_of_length_le (Nat.le_refl _),List.drop_of_length_le (by omega)]
  simp
theorem cj (ns:List Int):D.bf (ns.map D.int)=0:=by
 induction ns with
 | nil=>rfl
 | cons n ns ih=>simp [D.bf,D.depth,ih]
theorem nS:∀ (xs ys:List Int),D.b9 (xs.map D.int) (ys.map D.int)=decide (xs=ys)
 | [],[]=>by simp [D.b9]
 | [],y :: ys=>by simp [D.b9]
 | x :: xs,[]=>by simp [D.b9]
 | x :: xs,y :: ys=>by
  simp only [List.map_cons,D.b9,D.eqv,nS xs ys]
  by_cases h:x=y
  ·by_cases h2:xs=ys<;>simp [h,h2]
  ·simp [h]
theorem l5 {xs:List D} {i:Nat} {z:D} (h:xs[i]?=some z):atI xs (i:Int)=some z:=by
 have hi:=(List.getElem?_eq_some_iff.mp h).1
 unfold atI
 rw [sL (by omega) (by omega)]
 show xs[((i:Nat):Int).toNat]?=_
 rw [Int.toNat_natCast];exact h
def lf2 (f:List D→D→Sto→R Vl) (xs:List D) (r:R Vl):R Vl:=r.bind fun y S2=>match y with
 | .d z=>f xs z S2
 | _=>.bad
def lf1 (f:List D→D→Sto→R Vl) (r:R Vl) (e:XE) (τ:Nv):R Vl:=r.bind fun x S1=>match x with
 | .d (.lst xs)=>lf2 f xs (e τ S1)
 | _=>.bad
theorem Eb:xLf f o e τ S=lf1 f (o τ S) e τ:=ai rfl
theorem DB:lf1 f (.ok (.d (.lst xs)) S) e τ=lf2 f xs (e τ S):=ai rfl
theorem Ew:lf2 f xs (.ok (.d z) S)=f xs z S:=ai rfl
theorem Ep {ns:List Int}:Br (ns.map D.int) (.int k) S=.ok (.d (.int (ns.count k:Nat))) S:=by
 unfold Br
 rw [show intsOf (ns.map D.int)=some ns by rw [jl (fun x=>x) ns];simp]
def zp1 (r:R (List Vl)):R Its:=r.bind t6
theorem Ey:iZp as τ S=zp1 (as τ S):=ai rfl
theorem DY:zp1 (.ok [.d (.tup xs),.d (.tup ys)] S)=.ok ⟨cn xs ys,none⟩ S:=ai rfl
theorem Dp:zp1 (.ok [.d (.lst xs),.d (.tup ys)] S)=.ok ⟨cn xs ys,none⟩ S:=ai rfl
theorem DP:zp1 (.ok [.d (.lst xs),.d (.lst ys)] S)=.ok ⟨cn xs ys,none⟩ S:=ai rfl
theorem z9 (e:bW x S=some (ns.map D.int)) (h:ns.length≤300):oLX x S=.ok (.d (.int (ef ns).length)) S:=by
 unfold oLX
 rw [e]
 dsimp only
 rw [show intsOf (ns.map D.int)=some ns by rw [jl (fun x=>x) ns];simp]
 dsimp only
 rw [if_pos h]
theorem xP (e:bW x S=some (ts.map fun t=>D.tup (t.map D.int))) (h:ts.length≤300):oLX x S=.ok (.d (.int (uq ts).length)) S:=by
 unfold oLX
 rw [e]
 dsimp only
 cases ts with
 | nil=>
  rw [show intsOf (([]:List (List Int)).map fun t=>D.tup (t.map D.int))=some [] from rfl]
  rfl
 | cons t ts=>
  rw [show intsOf ((t :: ts).map fun t=>D.tup (t.map D.int))=none from rfl,mS]
  dsimp only
  rw [if_pos h]
theorem Ag {ts:List (List Int)} (e:bW x S=some (ts.map fun t=>D.tup (t.map D.int))) (h:ts.length≤300) (h2:ts.Nodup):oLX x S=.ok (.d (.int ts.length)) S:=by
 rw [xP e h,uU.mpr h2]
end L2
set_option maxHeartbeats 4000000
namespace My
open PySem L2
def fz:List (Str×List Str):=[("unlike",["numbers"]),("many",["numbers","tuples"]),("sum",["numbers","numbers","number","number"]),("row",["numbers","tuples","numbers"]),("hand",["numbers","numbers"])]
noncomputable def nM:XS:=(fE (xF (xSl pG (ab 0) (dW (xC (.int 12))) (dW (xC (.int 63))))) (gTu 2 (gCo (gNm 2) (gCo (gNm 3) gN0))) (aR (xOp bz (xOp oIx (ab 1) (xOp oMod (ab 2) (xC (.int 12)))) (ab 3)) (gSb (ab 1) (xOp oMod (ab 2) (xC (.int 12))) eD)))
noncomputable def ou:XS:=(ay (aR (xN kI (aa (xSl pG (ab 0) cW (dW (xC (.int 12)))) aj)) (gNm 1))
 (ay nM
 (aB (xN mkM (aa (xFz (ab 1)) (aa (xC (.int 0)) (aa (xC (.int 0)) aj)))))))
noncomputable def jk:XF:=aU 1 4 ou
noncomputable def lF:XS:=(ay (xIf (aS (xOp oGe (ab 0) (xOp sH (xC (.int 10)) (xC (.int 18))))) (aB (ab 0)) aN)
 (ay (aR (xOp oMod (xOp bz (xOp bz (xOp f6 (xOp oMod (ab 0) (xC (.int 1000000007))) (xC (.int 69069))) (xOp f6 (ab 1) (xC (.int 40503)))) (xC (.int 977))) (xC (.int 2147483629))) (gNm 2))
 (ay (aR (xOp oMod (xOp bz (xOp bz (xOp f6 (ab 2) (ab 2)) (xOp f6 (ab 1) (xC (.int 7919)))) (xOp oMod (ab 0) (xC (.int 65537)))) (xC (.int 2147483587))) (gNm 3))
 (ay (aR (xOp oMod (xOp bz (xOp bz (xOp f6 (ab 3) (ab 3)) (xOp f6 (ab 2) (xC (.int 31)))) (xC (.int 5))) (xC (.int 2147483563))) (gNm 4))
 (aB (xOp bz (xOp f6 (xOp bz (xOp f6 (ab 2) (xC (.int 2147483659))) (ab 3)) (xC (.int 2147483693))) (ab 4)))))))
noncomputable def eS:XF:=aU 2 5 lF
noncomputable def nR:XS:=(ay (xIf (aS (xOp oLt (xOp oIx (ab 0) (xC (.int 2))) (ab 1))) (ay (aR (xOp oIx (ab 0) (xC (.int 1))) (gNm 2))
 (ay (aR (xC (.int 0)) (gNm 3))
 (ay (xIf (aS (xOp oLt (ab 2) (xN bB (aa (xOp oIx (ab 0) (xC (.int 0))) aj)))) (aR (xOp oIx (xOp oIx (ab 0) (xC (.int 0))) (ab 2)) (gNm 3)) (xIf (aS (xOp oGt (xN bB (aa (xOp oIx (ab 0) (xC (.int 0))) aj)) (xC (.int 0)))) (aR (xOp oMod (xOp oIx (xOp oIx (ab 0) (xC (.int 0))) (xOp oMod (xOp bz (xOp f6 (ab 2) (xC (.int 5))) (xC (.int 3))) (xN bB (aa (xOp oIx (ab 0) (xC (.int 0))) aj)))) (xOp bz (xOp sH (xC (.int 10)) (xC (.int 17))) (ab 2))) (gNm 3)) aN))
 (ay (aR (xOp bz (ab 2) (xC (.int 1))) (gSb (ab 0) (xC (.int 1)) eD))
 (aR (av eS (aa (ab 3) (aa (ab 2) aj))) (gSb (ab 0) (xC (.int 2)) eD)))))) aN)
 (ay (aR (xOp oMod (xOp oIx (ab 0) (xC (.int 2))) (ab 1)) (gNm 4))
 (ay (aR (xOp oDiv (xOp oIx (ab 0) (xC (.int 2))) (ab 1)) (gSb (ab 0) (xC (.int 2)) eD))
 (aB (ab 4)))))
noncomputable def aH:XF:=aU 2 5 nR
noncomputable def lK:XS:=(fE (gS (aa (xOp bz (xC (.int 1)) (av aH (aa (ab 0) (aa (ab 1) aj)))) aj)) (gNm 4) (ay (aR (xOp bz (ab 2) (av aH (aa (ab 0) (aa (xC (.int 5)) aj)))) (gNm 5))
 (ay (xIf (aS (xOp oEq (av aH (aa (ab 0) (aa (xC (.int 6)) aj))) (xC (.int 0)))) (aR (xOp kD (av aH (aa (ab 0) (aa (xC (.int 19)) aj))) (xC (.int 9))) (gNm 5)) aN)
 (xIf (aS (xOp dN (ab 5) (ab 3))) (fH (xLm fZ (ab 3) (ab 5))) aN))))
noncomputable def lB:XS:=(ay (aR (xN mkM aj) (gNm 3))
 (ay lK
 (aB (xN bR (aa (xN jG (aa (ab 3) aj)) aj)))))
noncomputable def gv:XF:=aU 3 6 lB
noncomputable def md:XE:=(xLC (gS (aa (xOp bz (xC (.int 1)) (av aH (aa (ab 0) (aa (ab 1) aj)))) aj)) 1 (gNm 0) (fun _ S=>.ok true S) (av gv (aa (ab 1) (aa (ab 3) (aa (ab 4) aj)))))
noncomputable def mq:XS:=(ay (aR (xOp kD (av aH (aa (ab 0) (aa (xC (.int 15)) aj))) (xC (.int 9))) (gNm 3))
 (aB (xN bR (aa md aj))))
noncomputable def ic:XF:=aU 3 4 mq
noncomputable def oE:XS:=(ay (aR (xC (.int 0)) (gSb (ab 0) (xC (.int 2)) eD))
 (aB (ab 0)))
noncomputable def jy:XF:=aU 1 1 oE
noncomputable def f7:XE:=(xLC (cv (ab 0)) 1 (gNm 0) (fun _ S=>.ok true S) (xN dD (aa (ab 0) aj)))
noncomputable def gc:XS:=(aB (j7 (aS (xOp oEq (ab 0) (xN mkT aj))) (xC (.str "-")) (xSm cL (xC (.str ",")) f7)))
noncomputable def bO:XF:=aU 1 1 gc
noncomputable def iE:XE:=(xLC (cv (ab 0)) 1 (gNm 0) (fun _ S=>.ok true S) (av bO (aa (ab 0) aj)))
noncomputable def iw:XS:=(aB (xSm cL (xC (.str " ")) iE))
noncomputable def dS:XF:=aU 1 1 iw
noncomputable def n6 (s_l_same:XF):XE:=(xLC (iZp (aa (ab 0) (aa (ab 1) aj))) 2 (gTu 2 (gCo (gNm 0) (gCo (gNm 1) gN0))) (fun _ S=>.ok true S) (av s_l_same (aa (ab 0) (aa (ab 1) aj))))
noncomputable def oy (s_l_same:XF):XS:=(ay (xIf (aS (xOp oIs (ab 1) (xC .non))) (aB (xOp oIs (ab 0) (xC .non))) aN)
 (ay (xIf (xOr (cx (xUn (cy "bool") (ab 1))) (cx (xUn (cy "bool") (ab 0)))) (aB (bG (xUn (cy "bool") (ab 1)) (bG (xUn (cy "bool") (ab 0)) (xOp oEq (ab 0) (ab 1))))) aN)
 (ay (xIf (cx (xUn (cy "int") (ab 1))) (aB (bG (xUn (cy "int") (ab 0)) (xOp oEq (ab 0) (ab 1)))) aN)
 (ay (xIf (cx (xUn (cy "str") (ab 1))) (aB (bG (xUn (cy "str") (ab 0)) (xOp oEq (ab 0) (ab 1)))) aN)
 (ay (xIf (xOr (aS (xOp oNe (xUn (cy "tuple") (ab 1)) (xUn (cy "tuple") (ab 0)))) (aS (xOp oNe (xUn (cy "list") (ab 1)) (xUn (cy "list") (ab 0))))) (aB (xC (.bl false))) aN)
 (ay (xIf (aS (xOp oNe (xN bB (aa (ab 0) aj)) (xN bB (aa (ab 1) aj)))) (aB (xC (.bl false))) aN)
 (aB (xOp dN (xC (.bl false)) (n6 s_l_same)))))))))
noncomputable def bM:Nat→XF
 | 0=>aU 2 2 hG
 | n+1=>aU 2 2 (oy (bM n))
noncomputable def jc:XS:=(aB (j7 (cx (ab 0)) (xSm cL (xC (.str ",")) (ab 0)) (xC (.str "-"))))
noncomputable def dv:XF:=aU 1 1 jc
noncomputable def ie:XE:=(xLC (cv (ab 0)) 1 (gNm 0) (fun _ S=>.ok true S) (xN dD (aa (ab 0) aj)))
noncomputable def ij:XS:=(aB (av dv (aa ie aj)))
noncomputable def da:XF:=aU 1 1 ij
noncomputable def jT:XE:=(xLC (cv (ab 0)) 1 (gNm 0) (fun _ S=>.ok true S) (av da (aa (ab 0) aj)))
noncomputable def jK:XS:=(aB (xSm cL (xC (.str " ")) jT))
noncomputable def eU:XF:=aU 1 1 jK
noncomputable def h8:XE:=(xLC (As (ab 1)) 1 (gNm 0) (fun _ S=>.ok true S) (xOp sV (ab 0) (xC (.str "0123456789"))))
noncomputable def kF:XS:=(ay (aR (j7 (cx (xSm gE (ab 0) (xC (.str "-")))) (xSl nr (ab 0) (dW (xC (.int 1))) cW) (ab 0)) (gNm 1))
 (ay (xIf (xOr (dh (aS (eR oLe oLe (xC (.int 1)) (xN pb (aa (ab 1) aj)) (xC (.int 2))))) (dh (cx (xN fV (aa h8 aj))))) (aB (xC (.bl false))) aN)
 (aB (pY (xOp oEq (ab 0) (xC (.str "0"))) (xOp oNe (xOp kR (ab 1) (xC (.int 0))) (xC (.str "0")))))))
noncomputable def fJ:XF:=aU 1 2 kF
noncomputable def i5:XS:=(ay (xIf (dh (cx (av fJ (aa (ab 0) aj)))) hG aN)
 (aB (xN mM (aa (ab 0) aj))))
noncomputable def cM:XF:=aU 1 1 i5
noncomputable def ia:XS:=(aB (j7 (aS (xOp oEq (ab 0) (xC (.str "-")))) (xN mkL aj) (xSm gQ (ab 0) (xC (.str ",")))))
noncomputable def cb:XF:=aU 1 1 ia
noncomputable def iK:XE:=(xLC (cv (av cb (aa (ab 0) aj))) 1 (gNm 0) (fun _ S=>.ok true S) (av cM (aa (ab 0) aj)))
noncomputable def iy:XS:=(aB (xN bR (aa iK aj)))
noncomputable def cZ:XF:=aU 1 1 iy
noncomputable def lC:XS:=(aB (bG (xUn (cy "int") (ab 0)) (sE (xUn (cy "bool") (ab 0)))))
noncomputable def gg:XF:=aU 1 1 lC
noncomputable def kH:XS:=(aB (bG (av gg (aa (ab 0) aj)) (eR oLe oLe (ab 1) (ab 0) (ab 2))))
noncomputable def bX:XF:=aU 3 3 kH
noncomputable def jI:XE:=(xLC (cv (ab 0)) 1 (gNm 0) (fun _ S=>.ok true S) (av bX (aa (ab 0) (aa (ab 2) (aa (ab 3) aj)))))
noncomputable def jQ:XS:=(aB (bG (xUn (cy "tuple") (ab 0)) (xN fV (aa jI aj))))
noncomputable def cu:XF:=aU 3 3 jQ
noncomputable def dw:XE:=(xLC (wQ (aa (xC (.int 1)) (aa (xN bB (aa (ab 0) aj)) aj))) 1 (gNm 0) (fun _ S=>.ok true S) (xOp oLt (xOp oIx (ab 1) (xOp kD (ab 0) (xC (.int 1)))) (xOp oIx (ab 1) (ab 0))))
noncomputable def fU:XS:=(aB (xN fV (aa dw aj)))
noncomputable def cq:XF:=aU 1 1 fU
noncomputable def jW:XS:=(aB (bG (av cu (aa (ab 0) (aa (xUn fm (xC (.int 9))) (aa (xC (.int 9)) aj)))) (bG (eR oLe oLe (xC (.int 1)) (xN bB (aa (ab 0) aj)) (xC (.int 4))) (av cq (aa (ab 0) aj)))))
noncomputable def eX:XF:=aU 1 1 jW
noncomputable def lG:XE:=(xLC (cv (ab 0)) 1 (gNm 0) (fun _ S=>.ok true S) (av eX (aa (ab 0) aj)))
noncomputable def lJ:XS:=(ay (xIf (xOr (dh (cx (xUn (cy "tuple") (ab 0)))) (dh (aS (eR oLe oLe (xC (.int 1)) (xN bB (aa (ab 0) aj)) (xC (.int 4)))))) (aB (xC (.bl false))) aN)
 (aB (xN fV (aa lG aj))))
noncomputable def gf:XF:=aU 1 1 lJ
noncomputable def jN:XE:=(xLC (cv (xSm gQ (ab 0) (xC (.str " ")))) 1 (gNm 0) (fun _ S=>.ok true S) (av cZ (aa (ab 0) aj)))
noncomputable def jM:XS:=(ay (aR (xN bR (aa jN aj)) (gNm 1))
 (ay (xIf (dh (cx (av gf (aa (ab 1) aj)))) hG aN)
 (aB (ab 1))))
noncomputable def eP:XF:=aU 1 2 jM
noncomputable def eT:XE:=(xLC (gS (aa (ab 3) aj)) 1 (gNm 0) (fun _ S=>.ok true S) (xLm pE (ab 3) (av aH (aa (ab 1) (aa (xN bB (aa (ab 3) aj)) aj)))))
noncomputable def iJ:XS:=(ay (aR (xN (lrg xf) (aa (xN bB (aa (ab 1) aj)) aj)) (gNm 2))
 (ay (aR (xOp bz (xC (.int 1)) (av aH (aa (ab 0) (aa (xN bB (aa (ab 2) aj)) aj)))) (gNm 3))
 (ay (xIf (aS (xOp oGt (av aH (aa (ab 0) (aa (xC (.int 3)) aj))) (xC (.int 0)))) (aR (xN bB (aa (ab 2) aj)) (gNm 3)) aN)
 (aB (xN bR (aa eT aj))))))
noncomputable def dX:XF:=aU 2 4 iJ
noncomputable def iz:XS:=(ay (xIf (aS (xOp oEq (av aH (aa (ab 0) (aa (xC (.int 8)) aj))) (xC (.int 0)))) (aB (xOp kD (av aH (aa (ab 0) (aa (xC (.int 19)) aj))) (xC (.int 9)))) aN)
 (ay (aR (xOp oIx (ab 1) (av aH (aa (ab 0) (aa (xN bB (aa (ab 1) aj)) aj)))) (gNm 2))
 (ay (aR (xOp bz (xOp oIx (ab 2) (av aH (aa (ab 0) (aa (xN bB (aa (ab 2) aj)) aj)))) (xOp oIx (xN mkL (aa (xC (.int 0)) (aa (xC (.int 0)) (aa (xC (.int 0)) (aa (xC (.int 1)) (aa (xUn fm (xC (.int 1))) aj)))))) (av aH (aa (ab 0) (aa (xC (.int 5)) aj))))) (gNm 3))
 (aB (xN qk (aa (xUn fm (xC (.int 9))) (aa (xN lT (aa (xC (.int 9)) (aa (ab 3) aj))) aj)))))))
noncomputable def cX:XF:=aU 2 4 iz
noncomputable def lE:XS:=(fE (gS (aa (av aH (aa (ab 0) (aa (xC (.int 5)) aj))) aj)) (gNm 3) (ay (aR (av cX (aa (ab 0) (aa (ab 1) aj))) (gNm 4))
 (xIf (aS (xOp dN (ab 4) (ab 2))) (fH (xLm fZ (ab 2) (ab 4))) aN)))
noncomputable def lA:XS:=(fE (cv (xN jG (aa (ab 2) aj))) (gNm 4) (ay (aR (xOp oIx (xN mkL (aa (xC (.int 0)) (aa (xC (.int 0)) (aa (xC (.int 1)) (aa (xC (.int 1)) (aa (xC (.int 2)) (aa (av aH (aa (ab 0) (aa (xC (.int 5)) aj))) aj))))))) (av aH (aa (ab 0) (aa (xC (.int 6)) aj)))) (gNm 6))
 (fH (xLm fZ (ab 5) (xN mkT (aa (ab 4) (aa (ab 6) (aa (xN lT (aa (xC (.int 4)) (aa (xOp bz (ab 6) (xOp oIx (xN mkL (aa (xC (.int 0)) (aa (xC (.int 0)) (aa (xC (.int 1)) (aa (xC (.int 4)) (aa (av aH (aa (ab 0) (aa (xC (.int 5)) aj))) aj)))))) (av aH (aa (ab 0) (aa (xC (.int 5)) aj))))) aj))) aj))))))))
noncomputable def lM:XS:=(ay (aR (xN mkM aj) (gNm 2))
 (ay lE
 (ay (aR (xN mkM aj) (gNm 5))
 (ay lA
 (aB (xN bR (aa (ab 5) aj)))))))
noncomputable def gu:XF:=aU 2 7 lM
noncomputable def mj:XS:=(fE (gS (aa (av aH (aa (ab 0) (aa (xC (.int 13)) aj))) aj)) (gNm 4) (ay (aR (av aH (aa (ab 0) (aa (ab 2) aj))) (gNm 5))
 (ay (aR (xN mkT (aa (ab 5) (aa (av cX (aa (ab 0) (aa (ab 1) aj))) (aa (xOp oIx (xN mkL (aa (av aH (aa (ab 0) (aa (ab 2) aj))) (aa (xOp oMod (xOp bz (ab 5) (xC (.int 1))) (ab 2)) aj))) (av aH (aa (ab 0) (aa (xC (.int 2)) aj)))) aj)))) (gNm 6))
 (xIf (aS (xOp dN (ab 6) (ab 3))) (fH (xLm fZ (ab 3) (ab 6))) aN))))
noncomputable def l_:XS:=(ay (aR (xOp bz (xC (.int 2)) (av aH (aa (ab 0) (aa (xC (.int 3)) aj)))) (gNm 2))
 (ay (aR (xN mkM aj) (gNm 3))
 (ay mj
 (aB (xN bR (aa (ab 3) aj))))))
noncomputable def iq:XF:=aU 2 7 l_
noncomputable def kM:XE:=(xLC (cv (ab 3)) 1 (gNm 0) (fun _ S=>.ok true S) (xOp kD (av aH (aa (ab 1) (aa (xC (.int 7)) aj))) (xC (.int 3))))
noncomputable def kj:XS:=(fE (iZp (aa (ab 3) (aa (ab 4) aj))) (gTu 2 (gCo (gNm 6) (gCo (gNm 7) gN0))) (aR (xOp bz (ab 5) (xOp f6 (ab 7) (xOp oIx (xOp oIx (ab 1) (ab 6)) (av aH (aa (ab 0) (aa (xN bB (aa (xOp oIx (ab 1) (ab 6)) aj)) aj)))))) (gNm 5)))
noncomputable def kC:XE:=(xLC (gS (aa (xC (.int 4)) aj)) 1 (gNm 0) (aS (xOp oEq (av aH (aa (ab 1) (aa (xC (.int 3)) aj))) (xC (.int 0)))) (ab 0))
noncomputable def kT:XE:=(xLC (cv (ab 3)) 1 (gNm 0) (fun _ S=>.ok true S) (xOp bz (xC (.int 1)) (av aH (aa (ab 1) (aa (xOp oIx (xN mkL (aa (xC (.int 4)) (aa (xC (.int 2)) aj))) (av aH (aa (ab 1) (aa (xC (.int 2)) aj)))) aj)))))
noncomputable def kx:XS:=(ay (aR (av dX (aa (ab 0) (aa (ab 1) aj))) (gNm 3))
 (ay (xIf (aS (xOp oEq (ab 2) (xC (.int 0)))) (aB (xN mkT (aa (xC (.str "unlike")) (aa (ab 3) aj)))) aN)
 (ay (xIf (aS (xOp oEq (ab 2) (xC (.int 1)))) (aB (xN mkT (aa (xC (.str "many")) (aa (ab 3) (aa (av gu (aa (ab 0) (aa (ab 1) aj))) aj))))) aN)
 (ay (xIf (aS (xOp oEq (ab 2) (xC (.int 2)))) (ay (aR (xN bR (aa kM aj)) (gNm 4))
 (ay (aR (xC (.int 0)) (gNm 5))
 (ay kj
 (ay (aR (xN qk (aa (xUn fm (xC (.int 99))) (aa (xN lT (aa (xC (.int 99)) (aa (xOp bz (ab 5) (xOp oIx (xN mkL (aa (xC (.int 0)) (aa (xC (.int 0)) (aa (xC (.int 1)) (aa (xUn fm (xC (.int 4))) (aa (xC (.int 9)) aj)))))) (av aH (aa (ab 0) (aa (xC (.int 5)) aj))))) aj))) aj))) (gNm 8))
 (ay (aR (xN lT (aa (xC (.int 99)) (aa (xOp bz (ab 8) (xOp oIx (xN mkL (aa (xC (.int 0)) (aa (xC (.int 0)) (aa (xC (.int 1)) (aa (xC (.int 2)) (aa (xC (.int 7)) aj)))))) (av aH (aa (ab 0) (aa (xC (.int 5)) aj))))) aj))) (gNm 9))
 (ay (xIf (aS (xOp oEq (av aH (aa (ab 0) (aa (xC (.int 6)) aj))) (xC (.int 0)))) (ay (aR (xOp kD (av aH (aa (ab 0) (aa (xC (.int 199)) aj))) (xC (.int 99))) (gNm 8))
 (aR (xOp bz (ab 8) (av aH (aa (ab 0) (aa (xOp kD (xC (.int 100)) (ab 8)) aj)))) (gNm 9))) aN)
 (aB (xN mkT (aa (xC (.str "sum")) (aa (ab 3) (aa (ab 4) (aa (ab 8) (aa (ab 9) aj))))))))))))) aN)
 (ay (xIf (aS (xOp oEq (ab 2) (xC (.int 3)))) (ay (aR (xN bR (aa kC aj)) (gNm 10))
 (aB (xN mkT (aa (xC (.str "row")) (aa (ab 3) (aa (av iq (aa (ab 0) (aa (ab 1) aj))) (aa (ab 10) aj))))))) aN)
 (aB (xN mkT (aa (xC (.str "hand")) (aa (ab 3) (aa (xN bR (aa kT aj)) aj))))))))))
noncomputable def fI:XF:=aU 3 11 kx
noncomputable def dZ:XE:=(xLC (cv (ab 0)) 1 (gNm 0) (fun _ S=>.ok true S) (xOp bz (xOp bz (xOp bz (xOp bz (xN dD (aa (xOp oIx (ab 0) (xC (.int 0))) aj)) (xC (.str ":"))) (xN dD (aa (xOp oIx (ab 0) (xC (.int 1))) aj))) (xC (.str ":"))) (xN dD (aa (xOp oIx (ab 0) (xC (.int 2))) aj))))
noncomputable def f9:XS:=(ay (xIf (aS (xOp oEq (ab 0) (xN mkT aj))) (aB (xC (.str "-"))) aN)
 (aB (xSm cL (xC (.str ",")) dZ)))
noncomputable def dg:XF:=aU 1 1 f9
noncomputable def ja:XS:=(ay (aR (xN mkM (aa (xOp oIx (ab 0) (xC (.int 0))) (aa (av bO (aa (xOp oIx (ab 0) (xC (.int 1))) aj)) aj))) (gNm 1))
 (ay (xIf (aS (xOp oIn (xOp oIx (ab 0) (xC (.int 0))) (xN mkT (aa (xC (.str "many")) (aa (xC (.str "row")) aj))))) (fH (xLm fZ (ab 1) (av dg (aa (xOp oIx (ab 0) (xC (.int 2))) aj)))) aN)
 (ay (xIf (aS (xOp oIn (xOp oIx (ab 0) (xC (.int 0))) (xN mkT (aa (xC (.str "sum")) (aa (xC (.str "hand")) aj))))) (fH (xLm fZ (ab 1) (av bO (aa (xOp oIx (ab 0) (xC (.int 2))) aj)))) aN)
 (ay (xIf (aS (xOp oEq (xOp oIx (ab 0) (xC (.int 0))) (xC (.str "sum")))) (aR (xOp mr (ab 1) (xN mkL (aa (xN dD (aa (xOp oIx (ab 0) (xC (.int 3))) aj)) (aa (xN dD (aa (xOp oIx (ab 0) (xC (.int 4))) aj)) aj)))) (gNm 1)) aN)
 (ay (xIf (aS (xOp oEq (xOp oIx (ab 0) (xC (.int 0))) (xC (.str "row")))) (fH (xLm fZ (ab 1) (av bO (aa (xOp oIx (ab 0) (xC (.int 3))) aj)))) aN)
 (aB (xSm cL (xC (.str " ")) (ab 1))))))))
noncomputable def eA:XF:=aU 1 2 ja
noncomputable def i_:XE:=(xLC (cv (ab 0)) 1 (gNm 0) (fun _ S=>.ok true S) (xN dD (aa (ab 0) aj)))
noncomputable def iZ:XE:=(xLC (cv (ab 0)) 1 (gNm 0) (fun _ S=>.ok true S) (xSm cL (xC (.str ":")) i_))
noncomputable def jb:XS:=(aB (av dv (aa iZ aj)))
noncomputable def ez:XF:=aU 1 1 jb
noncomputable def eh:XS:=(ay (xIf (aS (xOp oEq (ab 0) (xC (.str "number")))) (aB (xN dD (aa (ab 1) aj))) aN)
 (ay (xIf (aS (xOp oEq (ab 0) (xC (.str "numbers")))) (aB (av da (aa (ab 1) aj))) aN)
 (aB (av ez (aa (ab 1) aj)))))
noncomputable def b6:XF:=aU 2 2 eh
noncomputable def kJ:XE:=(xLC (iZk (aa (xk fz (xOp oIx (ab 0) (xC (.int 0)))) (aa (xSl oSl (ab 0) (dW (xC (.int 1))) cW) aj))) 2 (gTu 2 (gCo (gNm 0) (gCo (gNm 1) gN0))) (fun _ S=>.ok true S) (av b6 (aa (ab 0) (aa (ab 1) aj))))
noncomputable def j6:XS:=(ay (aR kJ (gNm 1))
 (aB (xSm cL (xC (.str " ")) (xOp bz (xN mkL (aa (xOp oIx (ab 0) (xC (.int 0))) aj)) (ab 1)))))
noncomputable def cf:XF:=aU 1 2 j6
noncomputable def jX:XE:=(xLC (cv (xSm gQ (ab 0) (xC (.str ":")))) 1 (gNm 0) (fun _ S=>.ok true S) (av cM (aa (ab 0) aj)))
noncomputable def jL:XS:=(aB (xN bR (aa jX aj)))
noncomputable def eO:XF:=aU 1 1 jL
noncomputable def jS:XE:=(xLC (cv (av cb (aa (ab 1) aj))) 1 (gNm 0) (fun _ S=>.ok true S) (av eO (aa (ab 0) aj)))
noncomputable def eC:XS:=(ay (xIf (aS (xOp oEq (ab 0) (xC (.str "number")))) (aB (av cM (aa (ab 1) aj))) aN)
 (ay (xIf (aS (xOp oEq (ab 0) (xC (.str "numbers")))) (aB (av cZ (aa (ab 1) aj))) aN)
 (aB (xN bR (aa jS aj)))))
noncomputable def bZ:XF:=aU 2 2 eC
noncomputable def fW:XS:=(aB (xOp oEq (xUn oLX (ab 0)) (xN bB (aa (ab 0) aj))))
noncomputable def cG:XF:=aU 1 1 fW
noncomputable def kN:XS:=(aB (bG (av cu (aa (ab 0) (aa (xC (.int 0)) (aa (xC (.int 3)) aj)))) (bG (eR oLe oLe (xC (.int 1)) (xN bB (aa (ab 0) aj)) (xC (.int 4))) (av cG (aa (ab 0) aj)))))
noncomputable def fF:XF:=aU 1 1 kN
noncomputable def mJ:XS:=(aB (bG (av bX (aa (ab 0) (aa (ab 2) (aa (ab 3) aj)))) (bG (av bX (aa (ab 1) (aa (ab 2) (aa (ab 3) aj)))) (xOp oLe (ab 0) (ab 1)))))
noncomputable def fP:XF:=aU 4 4 mJ
noncomputable def lu:XS:=(ay (xIf (xOr (dh (cx (xUn (cy "tuple") (ab 0)))) (aS (xOp oNe (xN bB (aa (ab 0) aj)) (xC (.int 3))))) (aB (xC (.bl false))) aN)
 (aB (bG (av bX (aa (xOp oIx (ab 0) (xC (.int 0))) (aa (xUn fm (xC (.int 9))) (aa (xC (.int 9)) aj)))) (av fP (aa (xOp oIx (ab 0) (xC (.int 1))) (aa (xOp oIx (ab 0) (xC (.int 2))) (aa (xC (.int 0)) (aa (xC (.int 4)) aj))))))))
noncomputable def gj:XF:=aU 1 1 lu
noncomputable def jJ:XE:=(xLC (cv (ab 0)) 1 (gNm 0) (fun _ S=>.ok true S) (av gj (aa (ab 0) aj)))
noncomputable def jR:XE:=(xLC (cv (ab 0)) 1 (gNm 0) (fun _ S=>.ok true S) (xOp oIx (ab 0) (xC (.int 0))))
noncomputable def jZ:XS:=(ay (xIf (xOr (dh (cx (xUn (cy "tuple") (ab 0)))) (aS (xOp oGt (xN bB (aa (ab 0) aj)) (xC (.int 4))))) (aB (xC (.bl false))) aN)
 (aB (bG (xN fV (aa jJ aj)) (av cq (aa jR aj)))))
noncomputable def e_:XF:=aU 1 1 jZ
noncomputable def mB:XS:=(aB (bG (xOp oEq (xN bB (aa (ab 0) aj)) (xC (.int 3))) (av e_ (aa (xOp oIx (ab 0) (xC (.int 2))) aj))))
noncomputable def iN:XF:=aU 1 1 mB
noncomputable def oh:XS:=(ay (xIf (xOr (aS (xOp oNe (xN bB (aa (ab 0) aj)) (xC (.int 5)))) (dh (cx (av cu (aa (xOp oIx (ab 0) (xC (.int 2))) (aa (xUn fm (xC (.int 3))) (aa (xC (.int 3)) aj))))))) (aB (xC (.bl false))) aN)
 (aB (bG (xOp oEq (xN bB (aa (xOp oIx (ab 0) (xC (.int 2))) aj)) (xN bB (aa (xOp oIx (ab 0) (xC (.int 1))) aj))) (av fP (aa (xOp oIx (ab 0) (xC (.int 3))) (aa (xOp oIx (ab 0) (xC (.int 4))) (aa (xUn fm (xC (.int 99))) (aa (xC (.int 99)) aj))))))))
noncomputable def jC:XF:=aU 1 1 oh
noncomputable def mT:XS:=(ay (xIf (xOr (dh (cx (xUn (cy "tuple") (ab 0)))) (aS (xOp oNe (xN bB (aa (ab 0) aj)) (xC (.int 3))))) (aB (xC (.bl false))) aN)
 (aB (bG (av bX (aa (xOp oIx (ab 0) (xC (.int 0))) (aa (xC (.int 0)) (aa (xC (.int 3)) aj)))) (bG (av bX (aa (xOp oIx (ab 0) (xC (.int 1))) (aa (xUn fm (xC (.int 9))) (aa (xC (.int 9)) aj)))) (av bX (aa (xOp oIx (ab 0) (xC (.int 2))) (aa (xC (.int 0)) (aa (xC (.int 3)) aj))))))))
noncomputable def ik:XF:=aU 1 1 mT
noncomputable def kb:XE:=(xLC (cv (ab 0)) 1 (gNm 0) (fun _ S=>.ok true S) (av ik (aa (ab 0) aj)))
noncomputable def kg:XS:=(ay (xIf (xOr (dh (cx (xUn (cy "tuple") (ab 0)))) (aS (xOp oGt (xN bB (aa (ab 0) aj)) (xC (.int 12))))) (aB (xC (.bl false))) aN)
 (aB (bG (xN fV (aa kb aj)) (av cG (aa (ab 0) aj)))))
noncomputable def fN:XF:=aU 1 1 kg
noncomputable def nP:XS:=(aB (bG (xOp oEq (xN bB (aa (ab 0) aj)) (xC (.int 4))) (bG (av fN (aa (xOp oIx (ab 0) (xC (.int 2))) aj)) (bG (av cu (aa (xOp oIx (ab 0) (xC (.int 3))) (aa (xC (.int 0)) (aa (xC (.int 3)) aj)))) (av cq (aa (xOp oIx (ab 0) (xC (.int 3))) aj))))))
noncomputable def jv:XF:=aU 1 1 nP
noncomputable def mP:XS:=(aB (bG (xOp oEq (xN bB (aa (ab 0) aj)) (xC (.int 3))) (bG (av cu (aa (xOp oIx (ab 0) (xC (.int 2))) (aa (xC (.int 1)) (aa (xC (.int 4)) aj)))) (xOp oEq (xN bB (aa (xOp oIx (ab 0) (xC (.int 2))) aj)) (xN bB (aa (xOp oIx (ab 0) (xC (.int 1))) aj))))))
noncomputable def iB:XF:=aU 1 1 mP
noncomputable def f_:XS:=(ay (aR (xOp oIx (ab 0) (xC (.int 0))) (gNm 1))
 (ay (xIf (aS (xOp oEq (ab 1) (xC (.str "unlike")))) (aB (xOp oEq (xN bB (aa (ab 0) aj)) (xC (.int 2)))) aN)
 (ay (xIf (aS (xOp oEq (ab 1) (xC (.str "many")))) (aB (av iN (aa (ab 0) aj))) aN)
 (ay (xIf (aS (xOp oEq (ab 1) (xC (.str "sum")))) (aB (av jC (aa (ab 0) aj))) aN)
 (ay (xIf (aS (xOp oEq (ab 1) (xC (.str "row")))) (aB (av jv (aa (ab 0) aj))) aN)
 (aB (bG (xOp oEq (ab 1) (xC (.str "hand"))) (av iB (aa (ab 0) aj)))))))))
noncomputable def df:XF:=aU 1 2 f_
noncomputable def mF:XS:=(ay (xIf (xOr (dh (cx (xUn (cy "tuple") (ab 0)))) (aS (xOp oLt (xN bB (aa (ab 0) aj)) (xC (.int 2))))) (aB (xC (.bl false))) aN)
 (aB (bG (av fF (aa (xOp oIx (ab 0) (xC (.int 1))) aj)) (av df (aa (ab 0) aj)))))
noncomputable def iH:XF:=aU 1 1 mF
noncomputable def kz:XE:=(xLC (iZk (aa (ab 2) (aa (xSl oSl (ab 1) (dW (xC (.int 1))) cW) aj))) 2 (gTu 2 (gCo (gNm 0) (gCo (gNm 1) gN0))) (fun _ S=>.ok true S) (av bZ (aa (ab 0) (aa (ab 1) aj))))
noncomputable def j5:XS:=(ay (aR (xSm gQ (ab 0) (xC (.str " "))) (gNm 1))
 (ay (aR (pk fz (xOp oIx (ab 1) (xC (.int 0))) (xN mkT aj)) (gNm 2))
 (ay (xIf (aS (xOp oNe (xN bB (aa (ab 1) aj)) (xOp bz (xN my (aa (ab 2) aj)) (xC (.int 1))))) hG aN)
 (ay (aR (xN bR (aa (xOp bz (xSl oSl (ab 1) cW (dW (xC (.int 1)))) kz) aj)) (gNm 3))
 (ay (xIf (dh (cx (av iH (aa (ab 3) aj)))) hG aN)
 (aB (ab 3)))))))
noncomputable def d6:XF:=aU 1 4 j5
noncomputable def qL:XS:=(fE (gS (aa (xC (.int 2)) aj)) (gNm 5) (xIf (dh (cx (av (bM 10) (aa (av eP (aa (ab 4) aj)) (aa (ab 3) aj))))) (aB (xC (.bl false))) aN))
noncomputable def qE:XS:=(fE (gS (aa (xC (.int 2)) aj)) (gNm 5) (xIf (dh (cx (av (bM 10) (aa (av d6 (aa (ab 4) aj)) (aa (ab 7) aj))))) (aB (xC (.bl false))) aN))
noncomputable def pP:XS:=(fE (cv (xN mkL (aa (xC (.int 0)) (aa (xC (.int 1)) (aa (xC (.int 1)) (aa (xC (.int 2)) (aa (xC (.int 3)) (aa (xC (.int 3)) (aa (xC (.int 4)) aj))))))))) (gNm 6) (ay (aR (av fI (aa (ab 1) (aa (ab 3) (aa (ab 6) aj)))) (gNm 7))
 (ay (aR (av eA (aa (ab 7) aj)) (gNm 4))
 (ay (xIf (dh (cx (av (bM 10) (aa (av cf (aa (ab 7) aj)) (aa (ab 4) aj))))) (aB (xC (.bl false))) aN)
 qE))))
noncomputable def vc:XS:=(fE (gS (aa (xC (.int 4)) aj)) (gNm 2) (ay (aR (av ic (aa (av jy (aa (ab 1) aj)) (aa (xC (.int 4)) (aa (xC (.int 4)) aj)))) (gNm 3))
 (ay (aR (av dS (aa (ab 3) aj)) (gNm 4))
 (ay (xIf (dh (cx (av (bM 10) (aa (av eU (aa (ab 3) aj)) (aa (ab 4) aj))))) (aB (xC (.bl false))) aN)
 (ay qL
 pP)))))
noncomputable def vF:XS:=(ay (aR (av jk (aa (ab 0) aj)) (gNm 1))
 (ay vc
 (ay (xIf (aS (xOp oNe (av cf (aa (xN mkT (aa (xC (.str "row")) (aa (xN mkT (aa (xC (.int 0)) aj)) (aa (xN mkT aj) (aa (xN mkT aj) aj))))) aj)) (xC (.str "row 0 - -")))) (aB (xC (.bl false))) aN)
 (aB (xOp oEq (av cf (aa (xN mkT (aa (xC (.str "many")) (aa (xN mkT (aa (xC (.int 2)) (aa (xC (.int 0)) aj))) (aa (xN mkT (aa (xN mkT (aa (xUn fm (xC (.int 9))) (aa (xC (.int 0)) (aa (xC (.int 4)) aj)))) aj)) aj)))) aj)) (xC (.str "many 2,0 -9:0:4")))))))
noncomputable def tK:XF:=aU 1 8 vF
local macro_rules | `(tactic| walk_at "mx") => `(tactic| simp only [Eb, DB, Ew, Ep, Bj, Ey, DY, Dp, DP, yK, yi, wJ, Dm, En, B2, A_, DO, DF, w4, Ee, Dz, B6, Cq, zj, Fh, B3, Ed, Ez, E1, ES, ET, Bw, Cw, BV, DT, DU, EZ, C_, AN, zw, yT, zG, Cs, Bl, BR, zJ, Ab, AM, Bc, Bn, vj, sj, yG, yw, F_, FI, sh, AL, yo, EH, DZ, AE, uN, zm, Fp, E3, EG, EI, Et, EA, EJ, Dl, EY, Eo, nj, qS, jm, Ei, DA, D4, zx, EB, De, EK, yY, zv, xO, x8, A3, qg, qZ, o_, mn, gi, Eu, Dy, Dj, D6, yk, yr, yL, tN, t_, yh, vi, uw, CF, Dc, Dx, Cj, C2, B7, DE, FY, AF, Ek, DD, Dk, EL, Ex, E2, Em, E_, CS, Bm, CK, BH, xS, wI, wu, wY, Dr, gH, uu, BC, Cv, CO, BL, yM, zI, DI, D8, D_, E4, ER, D7, E5, F2, F5, FE, Fn, A1, BW, Ca, B_, Ap, Ao, Aj, BE, AV, CU, Ac, zE, zY, Bg, CQ, AU, C3, An, CY, Bv, Co, AB, CC, zl, Ae, yX, Au, BK, AD, C1, ff, xu, wB, wA, qT, wV, Fc, Av, Dq, Dg,
 List.getElem?_cons_zero,List.getElem?_cons_succ,List.set_cons_zero,List.set_cons_succ,List.map_cons,List.map_nil,List.length_cons,List.length_nil,List.cons_append,List.nil_append,List.replicate_succ,List.replicate_zero,List.append_nil,Nat.reduceSub,Nat.reduceAdd,Nat.zero_add,Bool.not_true,Bool.not_false,decide_true,decide_false,beq_self_eq_true,if_true,if_false,↓reduceIte,Int.reduceNeg])
local macro_rules | `(tactic| walk_at "mo") => `(tactic| first
  | rw [yj (by first | decide | omega)]
  | rw [yx (by first | exact x9 (by decide) (by decide) | exact Or.inl ⟨by omega,by omega⟩ | exact Or.inr ⟨by omega,by omega⟩)]
  | rw [EC ⟨by first | decide | omega,by first | decide | omega⟩]
  | rw [tm ⟨by decide,by decide,by decide⟩]
  | rw [Ck (by first | (simp only [List.length_cons,List.length_nil,List.length_map];omega) | (simp;omega))]
  | rw [pL (by first | (simp only [List.length_cons,List.length_nil,List.length_map];omega) | (simp;omega))]
  | rw [o9 (by omega)]
  | rw [tJ (by omega)])
local macro_rules | `(tactic| walk_at "mm") => `(tactic| repeat (first | walk_at "mx" | walk_at "mo"))
local macro_rules | `(tactic| simp? [$ls,*]) => `(tactic| repeat (first | walk_at "mx" | simp only [Bool.false_eq_true, $ls,*]))
def dB (cells:List Int) (at' pool:Int):Ob:=.lst [.lst (cells.map D.int),.int at',.int pool]
def Pen (o:Ob):Prop:=∃ cells at' pool,o=dB cells at' pool∧cells.length≤63∧0≤at'∧0≤pool
theorem az:leave S (.ok (.rt (.d x),τ) S)=.ok (.d x) S:=by rw [jt,qH,List.take_length]
theorem gZ {S R:Sto}:leave S (.ok (.rt (.d x),τ) (S++R))=.ok (.d x) S:=by rw [jt,qH,List.take_left]
theorem cD:leave S (.ok (.rt (.d x),τ) S')=.ok (.d x) (S'.take S.length):=by rw [jt,qH]
theorem vd (cell at':Int) (h:0≤at') (S:Sto):∃ r:Int,0≤r∧eS [.d (.int cell),.d (.int at')] S=.ok (.d (.int r)) S:=by
 unfold eS
 rw [c5]
 unfold lF
 walk_at "mx"
 rw [tm ⟨by decide,by decide,by decide⟩]
 walk_at "mx"
 by_cases hc:(10:Int) ^ (18:Int).toNat≤cell
 ·rw [decide_eq_true hc]
  refine ⟨cell,Int.le_trans (by decide) hc,?_⟩
  walk_at "mx"
  exact az
 ·rw [decide_eq_false hc]
  walk_at "mm"
  generalize hone:(cell % 1000000007 * 69069+at' * 40503+977) % 2147483629=one
  have o1:0≤one:=by rw [← hone];exact Int.emod_nonneg _ (by decide)
  have o2:one < 2147483629:=by rw [← hone];exact Int.emod_lt_of_pos _ (by decide)
  walk_at "mm"
  generalize htwo:(one * one+at' * 7919+cell % 65537) % 2147483587=two
  have o3:0≤two:=by rw [← htwo];exact Int.emod_nonneg _ (by decide)
  have o4:two < 2147483587:=by rw [← htwo];exact Int.emod_lt_of_pos _ (by decide)
  walk_at "mm"
  generalize hthree:(two * two+one * 31+5) % 2147483563=three
  have o5:0≤three:=by rw [← hthree];exact Int.emod_nonneg _ (by decide)
  walk_at "mm"
  exact ⟨(one * 2147483659+two) * 2147483693+three,by omega,az⟩
theorem m6 {R:Sto}:oIx (.r 0) (.d (.int 0)) (dB cells at' pool :: R)=.ok (.d (.lst (cells.map D.int))) (dB cells at' pool :: R):=pw rfl rfl
theorem ED {R:Sto}:oIx (.r 0) (.d (.int 1)) (dB cells at' pool :: R)=.ok (.d (.int at')) (dB cells at' pool :: R):=pw rfl rfl
theorem tS {R:Sto}:oIx (.r 0) (.d (.int 2)) (dB cells at' pool :: R)=.ok (.d (.int pool)) (dB cells at' pool :: R):=pw rfl rfl
theorem Cd {R:Sto}:eD (.r 0) (.d (.int 1)) (.d (.int v)) (dB cells at' pool :: R)=.ok () (dB cells v pool :: R):=ai rfl
theorem pH {R:Sto}:eD (.r 0) (.d (.int 2)) (.d (.int v)) (dB cells at' pool :: R)=.ok () (dB cells at' v :: R):=ai rfl
theorem cN {ns:List Int} {i:Int} (h0:0≤i) (h1:i < ns.length):∃ n,atI (ns.map D.int) i=some (.int n)∧n∈ns:=by
 have hk:i.toNat < ns.length:=by omega
 refine ⟨ns[i.toNat],?_,List.getElem_mem hk⟩
 unfold atI
 rw [sL h0 (by simpa using h1)]
 show (ns.map D.int)[i.toNat]?=_
 rw [List.getElem?_map,List.getElem?_eq_getElem hk]
 rfl
theorem cE {R:Sto}:(o' :: R).take (o :: R).length=o' :: R:=by rw [show (o :: R).length=(o' :: R).length from rfl,List.take_length]
theorem aW {o:Ob} {R:Sto} {m:Int} (hp:Pen o) (h0:0 < m) (h1:m < 1073741824):∃ (k:Int) (o':Ob),0≤k∧k < m∧Pen o'∧aH [.r 0,.d (.int m)] (o :: R)=.ok (.d (.int k)) (o' :: R):=by
 obtain ⟨cells,at',pool,rfl,hl,ha,hq⟩:=hp
 unfold aH
 rw [c5]
 unfold nR
 have tail:∀ (at2 pool2:Int) (o2 o3:Option Vl),0≤at2→0≤pool2→∃ (k:Int) (o':Ob),0≤k∧k < m∧Pen o' ∧
   leave (dB cells at' pool :: R) ((ay (aR (xOp oMod (xOp oIx (ab 0) (xC (.int 2))) (ab 1)) (gNm 4)) (ay (aR (xOp oDiv (xOp oIx (ab 0) (xC (.int 2))) (ab 1)) (gSb (ab 0) (xC (.int 2)) eD)) (aB (ab 4)))) [some (.r 0),some (.d (.int m)),o2,o3,none] (dB cells at2 pool2 :: R))=.ok (.d (.int k)) (o' :: R):=by
  intro at2 pool2 o2 o3 g1 g2
  walk_at "mx"
  rw [tS]
  walk_at "mm"
  rw [tS]
  walk_at "mm"
  rw [pH]
  walk_at "mm"
  exact ⟨pool2 % m,_,Int.emod_nonneg _ (by omega),Int.emod_lt_of_pos _ h0,⟨cells,at2,pool2 / m,rfl,hl,g1,Int.ediv_nonneg g2 (by omega)⟩,by rw [cD,cE]⟩
 rw [qS,x8]
 walk_at "mx"
 rw [tS]
 walk_at "mm"
 by_cases hc:pool < m
 ·rw [decide_eq_true hc]
  walk_at "mx"
  rw [ED]
  walk_at "mm"
  rw [m6]
  walk_at "mm"
  have fin:∀ cell:Int,∃ (k:Int) (o':Ob),0≤k∧k < m∧Pen o'∧leave (dB cells at' pool :: R) (sq1 ((ay (aR (xOp bz (ab 2) (xC (.int 1))) (gSb (ab 0) (xC (.int 1)) eD)) (aR (av eS (aa (ab 3) (aa (ab 2) aj))) (gSb (ab 0) (xC (.int 2)) eD))) [some (.r 0),some (.d (.int m)),some (.d (.int at')),some (.d (.int cell)),none] (dB cells at' pool :: R))
    (ay (aR (xOp oMod (xOp oIx (ab 0) (xC (.int 2))) (ab 1)) (gNm 4)) (ay (aR (xOp oDiv (xOp oIx (ab 0) (xC (.int 2))) (ab 1)) (gSb (ab 0) (xC (.int 2)) eD)) (aB (ab 4)))))=.ok (.d (.int k)) (o' :: R):=by
   intro cell
   rw [qS,qZ]
   walk_at "mx"
   rw [Cd]
   rw [tN,mn,jm,qZ,sh]
   obtain ⟨r,hr,er⟩:=vd cell at' ha (dB cells (at'+1) pool :: R)
   simp only [sj,vj,yi,yK,yG,yw,AL,er,yo,o_,yk,yr,yL,wJ,pH,tN,mn,jm]
   exact tail (at'+1) r _ _ (by omega) hr
  by_cases hin:at' < ((cells.map D.int).length:Int)
  ·rw [decide_eq_true hin]
   walk_at "mx"
   rw [m6]
   obtain ⟨n,en,_⟩:=cN (ns:=cells) ha (by simpa using hin)
   walk_at "mx"
   rw [eg en]
   rw [o_,gi,mn,jm]
   exact fin n
  ·rw [decide_eq_false hin]
   walk_at "mx"
   rw [m6]
   walk_at "mm"
   by_cases hpos:(0:Int) < ((cells.map D.int).length:Int)
   ·rw [decide_eq_true hpos]
    walk_at "mx"
    rw [m6]
    walk_at "mm"
    rw [m6]
    walk_at "mm"
    obtain ⟨n,en,_⟩:=cN (ns:=cells) (i:=(at' * 5+3) % ((cells.map D.int).length:Int)) (Int.emod_nonneg _ (by omega)) (by have:=Int.emod_lt_of_pos (at' * 5+3) hpos;simpa using this)
    rw [eg en]
    walk_at "mx"
    rw [tm ⟨by decide,by decide,by decide⟩]
    walk_at "mx"
    rw [yj (by have:(0:Int) < 10 ^ (17:Int).toNat:=(by decide);omega)]
    rw [o_,gi,mn,jm]
    exact fin _
   ·rw [decide_eq_false hpos]
    rw [qg,nj,jm]
    exact fin 0
 ·rw [decide_eq_false hc]
  rw [qg,nj,jm]
  exact tail at' pool _ _ ha hq
structure GoodW (m:Int) (ws:List Int):Prop where
 rise:ws.Pairwise (· < ·)
 lim:∀ w∈ws,-9≤w∧w≤9
 pos:1≤ws.length
 le:(ws.length:Int)≤m
def au (ns:List Int):D:=.tup (ns.map D.int)
theorem vX {R:Sto} (hp:Pen o) (h0:0 < most) (h1:most≤50) (n0:-9≤near) (n1:near≤5):∃ (ws:List Int) (o':Ob),GoodW most ws∧Pen o'∧gv [.r 0,.d (.int most),.d (.int near)] (o :: R)=.ok (.d (au ws)) (o' :: R):=by
 unfold gv
 rw [ke]
 unfold lB
 walk_at "mx"
 obtain ⟨k,o1,k0,k1,hp1,e1⟩:=aW (R:=R++[.lst []]) hp h0 (by omega)
 obtain ⟨τ',S',e2,o2,ws,x4,x5,hp2,rfl,rfl,nd,lim,le,pos⟩:=d8 (show _=lK [some (.r 0),some (.d (.int most)),some (.d (.int near)),some (.r (R.length+1)),none,none] (o :: (R++[.lst []])) from rfl)
  (S1:=o1 :: (R++[.lst []])) (gd:=none) (items:=(List.range (1+k).toNat).map fun i=>Vl.d (.int (i:Nat))) (by walk_at "mx";rw [e1];walk_at "mm")
  (fun i τ S=>∃ (o':Ob) (ws:List Int) (x4 x5:Option Vl),Pen o'∧τ=[some (.r 0),some (.d (.int most)),some (.d (.int near)),some (.r (R.length+1)),x4,x5]∧S=o' :: (R++[.lst (ws.map D.int)])∧ws.Nodup∧(∀ w∈ws,-9≤w∧w≤9)∧ws.length≤i∧(0 < i→0 < ws.length))
  ⟨o1,[],none,none,hp1,rfl,rfl,List.nodup_nil,by simp,Nat.le_refl _,by omega⟩ (by
   rintro i z τ S hz ⟨o',ws,x4,x5,hp',rfl,rfl,nd,lim,le,pos⟩
   have hi:i < (1+k).toNat:=by simpa using (List.getElem?_eq_some_iff.mp hz).1
   obtain ⟨a,oa,a0,a1,hpa,ea⟩:=aW (R:=R++[.lst (ws.map D.int)]) (m:=5) hp' (by decide) (by decide)
   obtain ⟨b,ob,b0,b1,hpb,eb⟩:=aW (R:=R++[.lst (ws.map D.int)]) (m:=6) hpa (by decide) (by decide)
   obtain ⟨c,oc,c0,c1,hpc,ec⟩:=aW (R:=R++[.lst (ws.map D.int)]) (m:=19) hpb (by decide) (by decide)
   have fin:∀ (v:Int) (q:Ob) (x5':Option Vl),-9≤v→v≤9→Pen q→x5'=some (.d (.int v))→∃ fl τ2 S2,(xIf (aS (xOp dN (ab 5) (ab 3))) (fH (xLm fZ (ab 3) (ab 5))) aN) [some (.r 0),some (.d (.int most)),some (.d (.int near)),some (.r (R.length+1)),some z,x5'] (q :: (R++[.lst (ws.map D.int)]))=.ok (fl,τ2) S2∧(fl=.nx∨fl=.ct) ∧
     ∃ (o':Ob) (ws:List Int) (x4 x5:Option Vl),Pen o'∧τ2=[some (.r 0),some (.d (.int most)),some (.d (.int near)),some (.r (R.length+1)),x4,x5]∧S2=o' :: (R++[.lst (ws.map D.int)])∧ws.Nodup∧(∀ w∈ws,-9≤w∧w≤9)∧ws.length≤i+1∧(0 < i+1→0 < ws.length):=by
    rintro v q _ v0 v1 hq rfl
    walk_at "mx"
    rw [qp (ns:=ws) gF]
    by_cases hm:v∈ws
    ·rw [decide_eq_true hm]
     walk_at "mx"
     exact ⟨_,_,_,rfl,.inl rfl,q,ws,_,_,hq,rfl,rfl,nd,lim,by omega,fun _=>List.length_pos_of_mem hm⟩
    ·rw [decide_eq_false hm]
     walk_at "mx"
     rw [gx (by rw [List.length_map];omega)]
     walk_at "mx"
     refine ⟨_,_,_,rfl,.inl rfl,q,ws++[v],_,_,hq,rfl,by rw [List.map_append];rfl,?_,?_,by simp;omega,fun _=>by simp⟩
     ·rw [List.nodup_append]
      refine ⟨nd,by simp,fun x hx y hy=>?_⟩
      rw [List.mem_singleton.mp hy]
      rintro rfl
      exact hm hx
     ·intro w hw
      rcases List.mem_append.mp hw with e | e
      ·exact lim w e
      ·rw [List.mem_singleton.mp e];omega
   by_cases hb:b=0
   ·subst hb
    obtain ⟨fl,τ2,S2,f1,f2,f3⟩:=fin (c - 9) oc _ (by omega) (by omega) hpc rfl
    refine ⟨_,_,fl,τ2,S2,gi,?_,f2,True.intro,f3⟩
    walk_at "mx"
    rw [ea]
    walk_at "mx"
    rw [eb]
    walk_at "mx"
    rw [ec]
    walk_at "mx"
    rw [← f1]
    walk_at "mx"
   ·obtain ⟨fl,τ2,S2,f1,f2,f3⟩:=fin (near+a) ob _ (by omega) (by omega) hpb rfl
    refine ⟨_,_,fl,τ2,S2,gi,?_,f2,True.intro,f3⟩
    walk_at "mx"
    rw [ea]
    walk_at "mx"
    rw [eb]
    walk_at "mx"
    rw [decide_eq_false hb]
    walk_at "mx"
    rw [← f1]
    walk_at "mx")
 rw [e2]
 walk_at "mx"
 rw [gz] at le pos
 rw [rZ gF (by omega)]
 walk_at "mx"
 refine ⟨sortI ws,o2,⟨lX nd,fun w hw=>lim w ((kh ws w).mp hw),by rw [eJ];exact pos (by omega),by rw [eJ];omega⟩,hp2,?_⟩
 rw [cD]
 simp [au]
structure fO (n m:Int) (wss:List (List Int)):Prop where
 pos:1≤wss.length
 le:(wss.length:Int)≤n
 all:∀ ws∈wss,GoodW m ws
def aV (wss:List (List Int)):D:=.tup (wss.map au)
theorem wb {R:Sto} (hp:Pen o) (h0:0 < names) (h1:names≤50) (m0:0 < most) (m1:most≤50):∃ (wss:List (List Int)) (o':Ob),fO names most wss∧Pen o'∧ic [.r 0,.d (.int names),.d (.int most)] (o :: R)=.ok (.d (aV wss)) (o' :: R):=by
 unfold ic
 rw [ke]
 unfold mq
 walk_at "mx"
 obtain ⟨k,o1,k0,k1,hp1,e1⟩:=aW (R:=R) (m:=15) hp (by decide) (by decide)
 rw [e1]
 walk_at "mx"
 obtain ⟨j,o2,j0,j1,hp2,e2⟩:=aW (R:=R) hp1 h0 (by omega)
 obtain ⟨acc,Q,e4,hl,o3,wss,hp3,rfl,rfl,hw,hg⟩:=mR (show _=md [some (.r 0),some (.d (.int names)),some (.d (.int most)),some (.d (.int (k - 9)))] (o1 :: R) from rfl) (S1:=o2 :: R) (items:=(List.range (1+j).toNat).map fun i=>Vl.d (.int (i:Nat))) (by walk_at "mx";rw [e2];walk_at "mm")
  (fun i acc Q=>∃ (o':Ob) (wss:List (List Int)),Pen o'∧acc=wss.map au∧Q=o' :: R∧wss.length=i∧∀ ws∈wss,GoodW most ws) ⟨o2,[],hp2,rfl,rfl,rfl,by simp⟩ (by
   rintro i z acc Q hz ⟨o',wss,hp',rfl,rfl,hw,hg⟩ _
   obtain ⟨hi,rfl⟩:=iX hz
   obtain ⟨ws,o3,gw,hp3,e3⟩:=vX (R:=R++[.lst (wss.map au)]) (near:=k - 9) hp' m0 m1 (by omega) (by omega)
   refine ⟨au ws,o3 :: R,?_,rfl,o3,wss++[ws],hp3,di.symm,rfl,by simp [hw],fun x hx=>?_⟩
   ·walk_at "mx"
    rw [e3]
    walk_at "mx"
   ·rcases List.mem_append.mp hx with e | e
    ·exact hg x e
    ·rw [List.mem_singleton.mp e];exact gw)
 rw [e4]
 walk_at "mx"
 rw [gz] at hw
 exact ⟨wss,o3,⟨by omega,by omega,hg⟩,hp3,by rw [cD,cE];rfl⟩
theorem zf {R:Sto} (hp:Pen o):∃ o',Pen o'∧jy [.r 0] (o :: R)=.ok (.r 0) (o' :: R):=by
 obtain ⟨cells,at',pool,rfl,hl,ha,hq⟩:=hp
 unfold jy
 rw [ba]
 unfold oE
 walk_at "mx"
 rw [pH]
 walk_at "mx"
 refine ⟨dB cells at' 0,⟨cells,at',0,rfl,hl,ha,Int.le_refl 0⟩,?_⟩
 rw [jt]
 unfold out
 dsimp only
 rw [if_pos (by simp),cE]
theorem wj {xs:List D} {i:Nat} {z:Vl} (h:(dE 0 xs)[i]?=some z):∃ x,xs[i]?=some x∧z=.d (.tup [.int i,x]):=by
 rw [iG] at h
 cases q:xs[i]? with
 | none=>rw [q] at h;cases h
 | some x=>rw [q] at h;cases h;exact ⟨x,rfl,by rw [Nat.zero_add]⟩
theorem zp (ns:List Int):∃ o,Pen o∧jk [.sc ns] []=.ok (.r 0) [o]:=by
 unfold jk
 rw [ba]
 unfold ou
 walk_at "mx"
 rw [show (12:Int)=((12:Nat):Int) from rfl,vb,← List.map_take]
 obtain ⟨τ',S',e2,cs,x2,x3,rfl,rfl,hl⟩:=d8 (show _=nM [some (.sc ns),some (.r 0),none,none] [.lst ((ns.take 12).map D.int)] from rfl)
  (S1:=[.lst ((ns.take 12).map D.int)]) (gd:=none) (items:=dE 0 (((ns.map D.int).drop 12).take (63 - 12))) (by
   walk_at "mx"
   rw [show (12:Int)=((12:Nat):Int) from rfl,show (63:Int)=((63:Nat):Int) from rfl,CP])
  (fun i τ S=>∃ (cs:List Int) (x2 x3:Option Vl),τ=[some (.sc ns),some (.r 0),x2,x3]∧S=[.lst (cs.map D.int)]∧cs.length=(ns.take 12).length) ⟨_,none,none,rfl,rfl,rfl⟩ (by
   rintro i z τ S hz ⟨cs,x2,x3,rfl,rfl,hl⟩
   obtain ⟨x,ex,rfl⟩:=wj hz
   have hx:x∈ns.map D.int:=List.mem_of_mem_drop (List.mem_of_mem_take (List.mem_of_getElem? ex))
   obtain ⟨v,_,rfl⟩:=List.mem_map.mp hx
   have hlen:12 < ns.length:=by
    have:=(List.getElem?_eq_some_iff.mp ex).1
    simp at this
    omega
   have hcs:cs.length=12:=by rw [hl];simp;omega
   have h0:0≤((i:Nat):Int) % 12:=Int.emod_nonneg _ (by decide)
   have h1:((i:Nat):Int) % 12 < 12:=Int.emod_lt_of_pos _ (by decide)
   obtain ⟨c,ec,_⟩:=cN (ns:=cs) (i:=((i:Nat):Int) % 12) h0 (by omega)
   have hix:ixN (cs.map D.int).length (((i:Nat):Int) % 12)=some (((i:Nat):Int) % 12).toNat:=sL h0 (by rw [List.length_map];omega)
   refine ⟨_,_,.nx,_,_,by walk_at "mm";rfl,by
    walk_at "mm"
    rw [pw (xs:=cs.map D.int) rfl ec]
    walk_at "mm"
    rw [show eD (.r 0) (.d (.int (((i:Nat):Int) % 12))) (.d (.int (c+v))) [Ob.lst (cs.map D.int)]=.ok () [.lst ((cs.map D.int).set (((i:Nat):Int) % 12).toNat (.int (c+v)))] by
     unfold eD
     simp only [List.getElem?_cons_zero,hix]
     rfl]
    walk_at "mx"
    rfl,.inl rfl,True.intro,cs.set (((i:Nat):Int) % 12).toNat (c+v),_,_,rfl,by rw [List.map_set],by rw [List.length_set];exact hl⟩)
 rw [e2]
 walk_at "mx"
 refine ⟨dB cs 0 0,⟨cs,0,0,rfl,by rw [hl];simp;omega,Int.le_refl 0,Int.le_refl 0⟩,?_⟩
 rfl
theorem nY (f:α→β):∀ (l:List α) (k:Nat),(l.eraseIdx k).map f=(l.map f).eraseIdx k
 | [],_=>rfl
 | _ :: _,0=>rfl
 | x :: l,k+1=>by
  rw [List.eraseIdx_cons_succ,List.map_cons,List.map_cons,List.eraseIdx_cons_succ,nY f l k]
structure fM (k:Nat) (ns:List Int):Prop where
 dom:∀ n∈ns,0≤n∧n < (k:Int)
 pos:1≤ns.length
 le:ns.length≤k
 nd:ns.Nodup
theorem oQ {R:Sto} (hp:Pen o) (h0:1≤wss.length) (h1:wss.length≤50):∃ (ns:List Int) (o':Ob),fM wss.length ns∧Pen o'∧dX [.r 0,.d (aV wss)] (o :: R)=.ok (.d (au ns)) (o' :: R):=by
 unfold dX
 rw [c5]
 unfold iJ aV
 walk_at "mx"
 rw [List.length_map,BS (by omega)]
 walk_at "mx"
 have hr:(List.range ((wss.length:Nat):Int).toNat).map (fun i=>D.int ((i:Nat):Int))=((List.range wss.length).map fun i=>((i:Nat):Int)).map D.int:=by rw [Int.toNat_natCast,List.map_map];rfl
 rw [hr]
 generalize hL:((List.range wss.length).map fun i=>((i:Nat):Int))=L0
 have lL:L0.length=wss.length:=by rw [← hL];simp
 have dL:∀ n∈L0,0≤n∧n < (wss.length:Int):=by
  intro n hn
  rw [← hL] at hn
  obtain ⟨i,hi,rfl⟩:=List.mem_map.mp hn
  have:=List.mem_range.mp hi
  omega
 have nL:L0.Nodup:=by
  rw [← hL]
  exact List.Pairwise.map _ (fun a b (h:a≠b)=>by omega) List.nodup_range
 rw [qM (xs:=L0.map D.int) (by walk_at "mx"),List.length_map,lL]
 obtain ⟨a,o1,a0,a1,hp1,e1⟩:=aW (R:=R++[.lst (L0.map D.int)]) (m:=(wss.length:Int)) hp (by omega) (by omega)
 walk_at "mx"
 rw [e1]
 walk_at "mx"
 obtain ⟨b,o2,b0,b1,hp2,e2⟩:=aW (R:=R++[.lst (L0.map D.int)]) (m:=3) hp1 (by decide) (by decide)
 rw [e2]
 walk_at "mx"
 have fin:∀ (many:Int),1≤many→many≤wss.length→∃ (ns left:List Int) (o':Ob),fM wss.length ns∧Pen o' ∧
   eT [some (.r 0),some (.d (.tup (wss.map au))),some (.r (R.length+1)),some (.d (.int many))] (o2 :: (R++[.lst (L0.map D.int)]))=.ok (.d (.lst (ns.map D.int))) (o' :: (R++[.lst (left.map D.int)])):=by
  intro many m0 m1
  obtain ⟨acc,Q,e4,hl,o3,ns,left,hp3,rfl,rfl,hw,hlen,hmem,hnd⟩:=mR (show _=eT [some (.r 0),some (.d (.tup (wss.map au))),some (.r (R.length+1)),some (.d (.int many))] (o2 :: (R++[.lst (L0.map D.int)])) from rfl) (S1:=o2 :: (R++[.lst (L0.map D.int)])) (items:=(List.range many.toNat).map fun i=>Vl.d (.int (i:Nat))) (by walk_at "mm")
   (fun i acc Q=>∃ (o':Ob) (ns left:List Int),Pen o'∧acc=ns.map D.int∧Q=o' :: (R++[.lst (left.map D.int)])∧ns.length=i∧left.length+i=wss.length∧(∀ n,n∈ns++left→0≤n∧n < (wss.length:Int))∧(ns++left).Nodup) ⟨o2,[],L0,hp2,rfl,rfl,rfl,by omega,by simpa using dL,by simpa using nL⟩ (by
    rintro i z acc Q hz ⟨o',ns,left,hp',rfl,rfl,hw,hlen,hmem,hnd⟩ _
    obtain ⟨hi,rfl⟩:=iX hz
    obtain ⟨c,o3,c0,c1,hp3,e3⟩:=aW (R:=R++[.lst (left.map D.int),.lst (ns.map D.int)]) (m:=(left.length:Int)) hp' (by omega) (by omega)
    have hc:c.toNat < left.length:=by omega
    have hge:(left.map D.int)[c.toNat]?=some (.int left[c.toNat]):=by rw [List.getElem?_map,List.getElem?_eq_getElem hc];rfl
    have pe:(left[c.toNat] :: left.eraseIdx c.toNat).Perm left:=mx left c.toNat hc
    have pa:((ns++[left[c.toNat]])++left.eraseIdx c.toNat).Perm (ns++left):=by
     rw [List.append_assoc]
     exact List.Perm.append_left ns pe
    refine ⟨.int left[c.toNat],o3 :: (R++[.lst ((left.eraseIdx c.toNat).map D.int)]),?_,by simp,o3,ns++[left[c.toNat]],left.eraseIdx c.toNat,hp3,di.symm,rfl,by simp [hw],?_,fun n hn=>hmem n (pa.mem_iff.mp hn),pa.nodup_iff.mpr hnd⟩
    ·walk_at "mx"
     rw [show (R++[Ob.lst (left.map D.int)]++[Ob.lst (ns.map D.int)])=R++[.lst (left.map D.int),.lst (ns.map D.int)] by simp]
     walk_at "mx"
     rw [qM (xs:=left.map D.int) (by walk_at "mx"),List.length_map]
     walk_at "mx"
     rw [e3]
     walk_at "mx"
     rw [DM (by omega) hge]
     walk_at "mx"
     rw [nY]
     simp
    ·rw [List.length_eraseIdx_of_lt hc];omega)
  rw [gz] at hw hlen
  exact ⟨ns,left,o3,⟨fun n hn=>hmem n (List.mem_append_left _ hn),by omega,by omega,(List.nodup_append.mp hnd).1⟩,hp3,e4⟩
 by_cases hb:0 < b
 ·rw [decide_eq_true hb]
  walk_at "mx"
  rw [qM (xs:=L0.map D.int) (by walk_at "mx"),List.length_map,lL]
  walk_at "mx"
  obtain ⟨ns,left,o3,gn,hp3,e4⟩:=fin (wss.length:Int) (by omega) (by omega)
  rw [e4]
  walk_at "mx"
  refine ⟨ns,o3,gn,hp3,?_⟩
  rw [cD]
  simp [au]
 ·rw [decide_eq_false hb]
  walk_at "mx"
  obtain ⟨ns,left,o3,gn,hp3,e4⟩:=fin (1+a) (by omega) (by omega)
  rw [e4]
  walk_at "mx"
  refine ⟨ns,o3,gn,hp3,?_⟩
  rw [cD]
  simp [au]
theorem ints_get {ps:List Int} {i:Nat} {z:Vl} (h:((ps.map D.int).map Vl.d)[i]?=some z):∃ p,ps[i]?=some p∧z=.d (.int p):=by
 rw [List.getElem?_map,List.getElem?_map] at h
 cases q:ps[i]? with
 | none=>rw [q] at h;cases h
 | some p=>rw [q] at h;cases h;exact ⟨p,rfl,rfl⟩
theorem take_snoc {α:Type} {ps:List α} {i:Nat} {p:α} (h:ps[i]?=some p):ps.take (i+1)=ps.take i++[p]:=by
 rw [List.take_add_one,h];rfl
theorem vW (e:S[n]?=some (.lst xs)):bR [.r n] S=.ok (.d (.tup xs)) S:=by
 unfold bR
 dsimp only
 rw [oZ e]
theorem rT {R:Sto} (hp:Pen o) (g:fO n m wss) (hn:n≤50) (hm:m≤50):∃ (w:Int) (o':Ob),(-9≤w∧w≤9)∧Pen o'∧cX [.r 0,.d (aV wss)] (o :: R)=.ok (.d (.int w)) (o' :: R):=by
 have g0:=g.pos
 have g1:=g.le
 unfold cX
 rw [c5]
 unfold iz
 obtain ⟨a,o1,a0,a1,hp1,e1⟩:=aW (R:=R) (m:=8) hp (by decide) (by decide)
 walk_at "mx"
 rw [e1]
 walk_at "mx"
 by_cases ha:a=0
 ·rw [decide_eq_true ha]
  obtain ⟨b,o2,b0,b1,hp2,e2⟩:=aW (R:=R) (m:=19) hp1 (by decide) (by decide)
  walk_at "mx"
  rw [e2]
  walk_at "mx"
  exact ⟨b - 9,o2,by omega,hp2,by rw [cD,cE]⟩
 ·rw [decide_eq_false ha]
  obtain ⟨b,o2,b0,b1,hp2,e2⟩:=aW (R:=R) (m:=(wss.length:Int)) hp1 (by omega) (by omega)
  unfold aV
  walk_at "mx"
  rw [List.length_map,e2]
  walk_at "mx"
  have hb:b.toNat < wss.length:=by omega
  have hat:atI (wss.map au) b=some (au wss[b.toNat]):=by
   obtain ⟨k,rfl⟩:=Int.eq_ofNat_of_zero_le b0
   exact l5 (by rw [List.getElem?_map,List.getElem?_eq_getElem (by simpa using hb)];rfl)
  have gw:=g.all _ (List.getElem_mem hb)
  generalize wss[b.toNat]=ws at hat gw
  have w0:=gw.pos
  have w1:=gw.le
  rw [bo hat]
  walk_at "mx"
  obtain ⟨c,o3,c0,c1,hp3,e3⟩:=aW (R:=R) (m:=(ws.length:Int)) hp2 (by omega) (by omega)
  rw [show au ws=.tup (ws.map D.int) from rfl]
  walk_at "mx"
  rw [List.length_map,e3]
  walk_at "mx"
  obtain ⟨v,ev,_⟩:=cN (ns:=ws) (i:=c) c0 c1
  rw [bo ev]
  obtain ⟨d,o4,d0,d1,hp4,e4⟩:=aW (R:=R) (m:=5) hp3 (by decide) (by decide)
  walk_at "mx"
  rw [e4]
  walk_at "mx"
  obtain ⟨u,eu,_⟩:=cN (ns:=[0,0,0,1,-1]) (i:=d) d0 (by simpa using d1)
  rw [eg (show atI [D.int 0,D.int 0,D.int 0,D.int 1,D.int (-1)] d=some (.int u) from eu)]
  walk_at "mx"
  refine ⟨_,o4,?_,hp4,by rw [cD,cE]⟩
  split<;>split at *<;>omega
abbrev Tri:=Int×Int×Int
def aC (t:Tri):D:=.tup [.int t.1,.int t.2.1,.int t.2.2]
structure o7 (bs:List Tri):Prop where
 le:bs.length≤4
 rise:(bs.map (·.1)).Pairwise (· < ·)
 lim:∀ b∈bs,(-9≤b.1∧b.1≤9)∧0≤b.2.1∧b.2.1≤b.2.2∧b.2.2≤4
theorem ur {o:Ob} {R:Sto} {wss:List (List Int)} {n m:Int} (hp:Pen o) (g:fO n m wss) (hn:n≤50) (hm:m≤50):∃ (bs:List Tri) (o':Ob),o7 bs∧Pen o'∧gu [.r 0,.d (aV wss)] (o :: R)=.ok (.d (.tup (bs.map aC))) (o' :: R):=by
 unfold gu
 rw [c5]
 unfold lM
 walk_at "mx"
 obtain ⟨a,o1,a0,a1,hp1,e1⟩:=aW (R:=R++[.lst []]) (m:=5) hp (by decide) (by decide)
 obtain ⟨τ',S',e2,o2,ws,x3,x4,hp2,rfl,rfl,nd,lim,le⟩:=d8 (show _=lE [some (.r 0),some (.d (aV wss)),some (.r (R.length+1)),none,none,none,none] (o :: (R++[.lst []])) from rfl)
  (S1:=o1 :: (R++[.lst []])) (gd:=none) (items:=(List.range a.toNat).map fun i=>Vl.d (.int (i:Nat))) (by
   walk_at "mx"
   rw [e1]
   walk_at "mm")
  (fun i τ S=>∃ (o':Ob) (ws:List Int) (x3 x4:Option Vl),Pen o'∧τ=[some (.r 0),some (.d (aV wss)),some (.r (R.length+1)),x3,x4,none,none]∧S=o' :: (R++[.lst (ws.map D.int)])∧ws.Nodup∧(∀ w∈ws,-9≤w∧w≤9)∧ws.length≤i) ⟨o1,[],none,none,hp1,rfl,rfl,List.nodup_nil,fun _ h=>(by cases h),Nat.le_refl 0⟩ (by
   rintro i z τ S hz ⟨o',ws,x3,x4,hp',rfl,rfl,nd,lim,le⟩
   obtain ⟨hi,rfl⟩:=iX hz
   obtain ⟨w,o3,hw,hp3,e3⟩:=rT (R:=R++[.lst (ws.map D.int)]) hp' g hn hm
   by_cases hin:w∈ws
   ·refine ⟨_,_,.nx,_,_,by walk_at "mx";rfl,by
     walk_at "mx"
     rw [e3]
     walk_at "mx"
     rw [qp (ns:=ws) gF,decide_eq_true hin]
     walk_at "mx"
     rfl,.inl rfl,True.intro,o3,ws,_,_,hp3,rfl,rfl,nd,lim,by omega⟩
   ·refine ⟨_,_,.nx,_,_,by walk_at "mx";rfl,by
     walk_at "mx"
     rw [e3]
     walk_at "mx"
     rw [qp (ns:=ws) gF,decide_eq_false hin]
     walk_at "mx"
     rw [gx (by rw [List.length_map];omega)]
     walk_at "mx"
     rfl,.inl rfl,True.intro,o3,ws++[w],_,_,hp3,rfl,by rw [di],?_,?_,by simp;omega⟩
    ·exact List.nodup_append.mpr ⟨nd,by simp,fun x hx y hy=>by rw [List.mem_singleton.mp hy];exact fun e=>hin (e ▸ hx)⟩
    ·intro x hx
     rcases List.mem_append.mp hx with q | q
     ·exact lim x q
     ·rw [List.mem_singleton.mp q];exact hw)
 rw [gz] at le
 rw [e2]
 walk_at "mx"
 obtain ⟨τ',S',e3,o3,bs,x4',x6,hp3,rfl,rfl,hb1,hb2⟩:=d8 (show _=lA [some (.r 0),some (.d (aV wss)),some (.r (R.length+1)),x3,x4,some (.r ((R++[Ob.lst (ws.map D.int)]).length+1)),none] (o2 :: (R++[Ob.lst (ws.map D.int)]++[Ob.lst []])) from rfl)
  (S1:=o2 :: (R++[Ob.lst (ws.map D.int)]++[Ob.lst []])) (gd:=none) (items:=((sortI ws).map D.int).map Vl.d) (by
   walk_at "mx"
   rw [rZ (ns:=ws) (by simp) (by omega)]
   walk_at "mx")
  (fun i τ S=>∃ (o':Ob) (bs:List Tri) (x4 x6:Option Vl),Pen o'∧τ=[some (.r 0),some (.d (aV wss)),some (.r (R.length+1)),x3,x4,some (.r ((R++[Ob.lst (ws.map D.int)]).length+1)),x6]∧S=o' :: (R++[Ob.lst (ws.map D.int)]++[Ob.lst (bs.map aC)])∧bs.map (·.1)=(sortI ws).take i∧∀ b∈bs,0≤b.2.1∧b.2.1≤b.2.2∧b.2.2≤4) ⟨o2,[],x4,none,hp2,rfl,rfl,rfl,fun _ h=>(by cases h)⟩ (by
   rintro i z τ S hz ⟨o',bs,x4,x6,hp',rfl,rfl,hb1,hb2⟩
   obtain ⟨w,ew,rfl⟩:=ints_get hz
   have hi:=(List.getElem?_eq_some_iff.mp ew).1
   rw [eJ] at hi
   have hlb:bs.length≤4:=by
    have:=congrArg List.length hb1
    simp only [List.length_map,List.length_take,eJ] at this
    omega
   generalize hR:R++[Ob.lst (ws.map D.int)]=R'
   obtain ⟨b,o3,b0,b1,hp3,e3⟩:=aW (R:=R'++[.lst (bs.map aC)]) (m:=5) hp' (by decide) (by decide)
   obtain ⟨c,o4,c0,c1,hp4,e4⟩:=aW (R:=R'++[.lst (bs.map aC)]) (m:=6) hp3 (by decide) (by decide)
   obtain ⟨d,o5,d0,d1,hp5,e5⟩:=aW (R:=R'++[.lst (bs.map aC)]) (m:=5) hp4 (by decide) (by decide)
   obtain ⟨e,o6,f0,f1,hp6,e6⟩:=aW (R:=R'++[.lst (bs.map aC)]) (m:=5) hp5 (by decide) (by decide)
   obtain ⟨low,el,ml⟩:=cN (ns:=[0,0,1,1,2,b]) (i:=c) c0 (by simpa using c1)
   obtain ⟨up,eu,mu⟩:=cN (ns:=[0,0,1,4,d]) (i:=e) f0 (by simpa using f1)
   have hlow:0≤low∧low≤4:=by
    simp only [List.mem_cons,List.not_mem_nil,or_false] at ml
    omega
   have hup:0≤up:=by
    simp only [List.mem_cons,List.not_mem_nil,or_false] at mu
    omega
   refine ⟨_,_,.nx,_,_,by walk_at "mx";rfl,by
    walk_at "mx"
    rw [e3]
    walk_at "mx"
    rw [e4]
    walk_at "mx"
    rw [eg (show atI [D.int 0,D.int 0,D.int 1,D.int 1,D.int 2,D.int b] c=some (.int low) from el)]
    walk_at "mx"
    rw [e5]
    walk_at "mx"
    rw [e6]
    walk_at "mx"
    rw [eg (show atI [D.int 0,D.int 0,D.int 1,D.int 4,D.int d] e=some (.int up) from eu)]
    walk_at "mx"
    rw [gx (by rw [List.length_map];omega)]
    walk_at "mx"
    rfl,.inl rfl,True.intro,o6,bs++[(w,low,if low+up < 4 then low+up else 4)],some (.d (.int w)),some (.d (.int low)),hp6,rfl,by rw [di];rfl,?_,?_⟩
   ·rw [di,hb1,take_snoc ew]
   ·intro x hx
    rcases List.mem_append.mp hx with q | q
    ·exact hb2 x q
    ·rw [List.mem_singleton.mp q]
     refine ⟨hlow.1,?_,?_⟩<;>dsimp only<;>split<;>omega)
 rw [e3]
 walk_at "mx"
 rw [show ((List.map D.int (sortI ws)).map Vl.d).length=(sortI ws).length by simp,List.take_length] at hb1
 rw [show bR [.r ((R++[Ob.lst (ws.map D.int)]).length+1)] (o3 :: (R++[Ob.lst (ws.map D.int)]++[Ob.lst (bs.map aC)]))=.ok (.d (.tup (bs.map aC))) (o3 :: (R++[Ob.lst (ws.map D.int)]++[Ob.lst (bs.map aC)])) from vW (by simp)]
 walk_at "mx"
 refine ⟨bs,o3,⟨?_,?_,?_⟩,hp3,?_⟩
 ·have:=congrArg List.length hb1
  simp only [List.length_map,eJ] at this
  omega
 ·rw [hb1];exact lX nd
 ·intro b hb
  refine ⟨lim b.1 ?_,hb2 b hb⟩
  rw [← kh,← hb1]
  exact List.mem_map.mpr ⟨b,hb,rfl⟩
 ·rw [cD]
  simp
structure mC (ds:List Tri):Prop where
 le:ds.length≤12
 nd:ds.Nodup
 lim:∀ d∈ds,(0≤d.1∧d.1≤3)∧(-9≤d.2.1∧d.2.1≤9)∧0≤d.2.2∧d.2.2≤3
theorem zM (a b:Tri):D.eqv (aC a) (aC b)=decide (a=b):=by
 obtain ⟨a1,a2,a3⟩:=a
 obtain ⟨b1,b2,b3⟩:=b
 simp only [aC,D.eqv,D.b9,Bool.and_true]
 rw [Bool.eq_iff_iff]
 simp only [Bool.and_eq_true,beq_iff_eq,decide_eq_true_eq,Prod.mk.injEq]
theorem eQ:∀ ds:List Tri,D.bf (ds.map aC)≤1
 | []=>by simp [D.bf]
 | d :: ds=>by
  have:=eQ ds
  rw [List.map_cons,D.bf,show D.depth (aC d)=1 from rfl]
  omega
theorem zR (z:Tri) (ds:List Tri):inD (aC z) (ds.map aC)=decide (z∈ds):=by
 unfold inD
 rw [List.any_map,Bool.eq_iff_iff,List.any_eq_true,decide_eq_true_eq]
 constructor
 ·rintro ⟨x,hx,e⟩
  have e':D.eqv (aC x) (aC z)=true:=e
  rw [zM,decide_eq_true_eq] at e'
  rw [← e'];exact hx
 ·intro h
  exact ⟨z,h,by show D.eqv (aC z) (aC z)=true;exact D.eqv_refl _⟩
theorem vC {ds:List Tri} (e:S[n]?=some (.lst (ds.map aC))):dN (.d (aC z)) (.r n) S=.ok (.d (.bl (!decide (z∈ds)))) S:=by
 have hd:=eQ ds
 unfold dN inX
 dsimp only
 rw [oZ e]
 dsimp only
 rw [show D.flat (aC z)=false from rfl,if_neg (by simp),tF e]
 dsimp only
 rw [if_pos (by omega),zR]
theorem xm {o:Ob} {R:Sto} {wss:List (List Int)} {n m:Int} (hp:Pen o) (g:fO n m wss) (hn:n≤50) (hm:m≤50):∃ (ds:List Tri) (o':Ob),mC ds∧Pen o'∧iq [.r 0,.d (aV wss)] (o :: R)=.ok (.d (.tup (ds.map aC))) (o' :: R):=by
 unfold iq
 rw [c5]
 unfold l_
 obtain ⟨s,o0,s0,s1,hp0,e0⟩:=aW (R:=R) (m:=3) hp (by decide) (by decide)
 walk_at "mx"
 rw [e0]
 walk_at "mx"
 obtain ⟨a,o1,a0,a1,hp1,e1⟩:=aW (R:=R++[.lst []]) (m:=13) hp0 (by decide) (by decide)
 obtain ⟨τ',S',e2,o2,ds,x4,x5,x6,hp2,rfl,rfl,nd,lim,le⟩:=d8 (show _=mj [some (.r 0),some (.d (aV wss)),some (.d (.int (2+s))),some (.r (R.length+1)),none,none,none] (o0 :: (R++[.lst []])) from rfl)
  (S1:=o1 :: (R++[.lst []])) (gd:=none) (items:=(List.range a.toNat).map fun i=>Vl.d (.int (i:Nat))) (by
   walk_at "mx"
   rw [e1]
   walk_at "mm")
  (fun i τ S=>∃ (o':Ob) (ds:List Tri) (x4 x5 x6:Option Vl),Pen o'∧τ=[some (.r 0),some (.d (aV wss)),some (.d (.int (2+s))),some (.r (R.length+1)),x4,x5,x6]∧S=o' :: (R++[.lst (ds.map aC)])∧ds.Nodup∧(∀ d∈ds,(0≤d.1∧d.1≤3)∧(-9≤d.2.1∧d.2.1≤9)∧0≤d.2.2∧d.2.2≤3)∧ds.length≤i) ⟨o1,[],none,none,none,hp1,rfl,rfl,List.nodup_nil,fun _ h=>(by cases h),Nat.le_refl 0⟩ (by
   rintro i z τ S hz ⟨o',ds,x4,x5,x6,hp',rfl,rfl,nd,lim,le⟩
   obtain ⟨hi,rfl⟩:=iX hz
   obtain ⟨q,o3,q0,q1,hp3,e3⟩:=aW (R:=R++[.lst (ds.map aC)]) (m:=2+s) hp' (by omega) (by omega)
   obtain ⟨w,o4,hw,hp4,e4⟩:=rT (R:=R++[.lst (ds.map aC)]) hp3 g hn hm
   obtain ⟨b,o5,b0,b1,hp5,e5⟩:=aW (R:=R++[.lst (ds.map aC)]) (m:=2+s) hp4 (by omega) (by omega)
   obtain ⟨c,o6,c0,c1,hp6,e6⟩:=aW (R:=R++[.lst (ds.map aC)]) (m:=2) hp5 (by decide) (by decide)
   have hq0:0≤(q+1) % (2+s):=Int.emod_nonneg _ (by omega)
   have hq1:(q+1) % (2+s) < 2+s:=Int.emod_lt_of_pos _ (by omega)
   obtain ⟨p,ep,mp⟩:=cN (ns:=[b,(q+1) % (2+s)]) (i:=c) c0 (by simpa using c1)
   have hp3':0≤p∧p≤3:=by
    simp only [List.mem_cons,List.not_mem_nil,or_false] at mp
    omega
   have pre:∀ (k:XS),True:=fun _=>True.intro
   by_cases hin:((q,w,p):Tri)∈ds
   ·refine ⟨_,_,.nx,_,_,by walk_at "mx";rfl,by
     walk_at "mx"
     rw [e3]
     walk_at "mx"
     rw [e4]
     walk_at "mx"
     rw [e5]
     walk_at "mm"
     rw [e6]
     walk_at "mx"
     rw [eg (show atI [D.int b,D.int ((q+1) % (2+s))] c=some (.int p) from ep)]
     walk_at "mx"
     rw [show D.tup [D.int q,D.int w,D.int p]=aC (q,w,p) from rfl,vC (ds:=ds) gF,decide_eq_true hin]
     walk_at "mx"
     rfl,.inl rfl,True.intro,o6,ds,_,_,_,hp6,rfl,rfl,nd,lim,by omega⟩
   ·refine ⟨_,_,.nx,_,_,by walk_at "mx";rfl,by
     walk_at "mx"
     rw [e3]
     walk_at "mx"
     rw [e4]
     walk_at "mx"
     rw [e5]
     walk_at "mm"
     rw [e6]
     walk_at "mx"
     rw [eg (show atI [D.int b,D.int ((q+1) % (2+s))] c=some (.int p) from ep)]
     walk_at "mx"
     rw [show D.tup [D.int q,D.int w,D.int p]=aC (q,w,p) from rfl,vC (ds:=ds) gF,decide_eq_false hin]
     walk_at "mx"
     rw [gx (by rw [List.length_map];omega)]
     walk_at "mx"
     rfl,.inl rfl,True.intro,o6,ds++[(q,w,p)],_,_,_,hp6,rfl,by rw [di],?_,?_,by simp;omega⟩
    ·exact List.nodup_append.mpr ⟨nd,by simp,fun x hx y hy=>by rw [List.mem_singleton.mp hy];exact fun e=>hin (e ▸ hx)⟩
    ·intro x hx
     rcases List.mem_append.mp hx with z | z
     ·exact lim x z
     ·rw [List.mem_singleton.mp z]
      exact ⟨by dsimp only;omega,hw,hp3'⟩)
 rw [gz] at le
 rw [e2]
 walk_at "mx"
 rw [vW (xs:=ds.map aC) (by simp)]
 walk_at "mx"
 refine ⟨ds,o2,⟨by omega,nd,lim⟩,hp2,?_⟩
 rw [cD]
 simp
inductive Wi where
 | unl (ns:List Int) | man (ns:List Int) (bs:List Tri) | sum (ns ws:List Int) (lo hi:Int) | row (ns:List Int) (ds:List Tri) (es:List Int) | han (ns ls:List Int)
def Wi.names:Wi→List Int
 | .unl ns=>ns
 | .man ns _=>ns
 | .sum ns _ _ _=>ns
 | .row ns _ _=>ns
 | .han ns _=>ns
def wiD:Wi→D
 | .unl ns=>.tup [.str "unlike",au ns]
 | .man ns bs=>.tup [.str "many",au ns,.tup (bs.map aC)]
 | .sum ns ws lo hi=>.tup [.str "sum",au ns,au ws,.int lo,.int hi]
 | .row ns ds es=>.tup [.str "row",au ns,.tup (ds.map aC),au es]
 | .han ns ls=>.tup [.str "hand",au ns,au ls]
def fR (k:Nat):Wi→Prop
 | .unl ns=>fM k ns
 | .man ns bs=>fM k ns∧o7 bs
 | .sum ns ws lo hi=>fM k ns∧ws.length=ns.length∧(∀ w∈ws,-3≤w∧w≤3)∧(-99≤lo∧lo≤hi∧hi≤99)
 | .row ns ds es=>fM k ns∧mC ds∧es.Pairwise (· < ·)∧(∀ e∈es,0≤e∧e≤3)∧es.length≤4
 | .han ns ls=>fM k ns∧ls.length=ns.length∧∀ l∈ls,1≤l∧l≤4
def Wi.kind:Wi→Int
 | .unl _=>0
 | .man _ _=>1
 | .sum _ _ _ _=>2
 | .row _ _ _=>3
 | .han _ _=>4
theorem xw {wss:List (List Int)} {p:Int} (h0:0≤p) (h1:p < wss.length):atI (wss.map au) p=some (au (wss.getD p.toNat [])):=by
 obtain ⟨k,rfl⟩:=Int.eq_ofNat_of_zero_le h0
 have hk:k < wss.length:=by omega
 exact l5 (by rw [List.getElem?_map,List.getElem?_eq_getElem hk,Int.toNat_natCast,List.getD_eq_getElem?_getD,List.getElem?_eq_getElem hk];rfl)
theorem u9 {wss:List (List Int)} {p:Int} (h0:0≤p) (h1:p < wss.length):wss.getD p.toNat []∈wss:=by
 have hk:p.toNat < wss.length:=by omega
 rw [List.getD_eq_getElem?_getD,List.getElem?_eq_getElem hk]
 exact List.getElem_mem hk
theorem wa {xs ys:List Int} {i:Nat} {z:Vl} (h:(cn (xs.map D.int) (ys.map D.int))[i]?=some z):∃ x y,xs[i]?=some x∧ys[i]?=some y∧z=.d (.tup [.int x,.int y]):=by
 obtain ⟨a,b,e1,e2,rfl⟩:=hZ h
 rw [List.getElem?_map] at e1 e2
 cases q1:xs[i]? with
 | none=>rw [q1] at e1;cases e1
 | some x=>
  cases q2:ys[i]? with
  | none=>rw [q2] at e2;cases e2
  | some y=>
   rw [q1] at e1;rw [q2] at e2
   cases e1;cases e2
   exact ⟨x,y,rfl,rfl,rfl⟩
theorem yQ {o:Ob} {R:Sto} {wss:List (List Int)} {n m kind:Int} (hp:Pen o) (g:fO n m wss) (hn:n≤50) (hm:m≤50) (k0:0≤kind) (k1:kind < 5):∃ (wi:Wi) (o':Ob),fR wss.length wi∧wi.kind=kind∧Pen o'∧fI [.r 0,.d (aV wss),.d (.int kind)] (o :: R)=.ok (.d (wiD wi)) (o' :: R):=by
 have g0:=g.pos
 have g1:=g.le
 obtain ⟨ns,o1,gn,hp1,e1⟩:=oQ (R:=R) (wss:=wss) hp g0 (by omega)
 have gl:=gn.le
 unfold fI
 rw [ke]
 unfold kx
 walk_at "mx"
 rw [e1]
 walk_at "mx"
 by_cases h0:kind=0
 ·rw [decide_eq_true h0]
  walk_at "mx"
  exact ⟨.unl ns,o1,gn,h0.symm,hp1,by rw [cD,cE];rfl⟩
 rw [decide_eq_false h0]
 walk_at "mx"
 by_cases h1:kind=1
 ·rw [decide_eq_true h1]
  walk_at "mx"
  obtain ⟨bs,o2,gb,hp2,e2⟩:=ur (R:=R) hp1 g hn hm
  rw [e2]
  walk_at "mx"
  exact ⟨.man ns bs,o2,⟨gn,gb⟩,h1.symm,hp2,by rw [cD,cE];rfl⟩
 rw [decide_eq_false h1]
 walk_at "mx"
 by_cases h2:kind=2
 ·rw [decide_eq_true h2]
  walk_at "mx"
  obtain ⟨acc,Q,e4,hl,o3,ws,hp3,rfl,rfl,hw,hlim⟩:=mR (show _=kM [some (.r 0),some (.d (aV wss)),some (.d (.int kind)),some (.d (au ns)),none,none,none,none,none,none,none] (o1 :: R) from rfl) (S1:=o1 :: R) (items:=(ns.map D.int).map Vl.d) (by unfold au;walk_at "mx")
   (fun i acc Q=>∃ (o':Ob) (ws:List Int),Pen o'∧acc=ws.map D.int∧Q=o' :: R∧ws.length=i∧∀ w∈ws,-3≤w∧w≤3) ⟨o1,[],hp1,rfl,rfl,rfl,fun _ h=>by cases h⟩ (by
    rintro i z acc Q hz ⟨o',ws,hp',rfl,rfl,hw,hlim⟩ _
    obtain ⟨c,o3,c0,c1,hp3,e3⟩:=aW (R:=R++[.lst (ws.map D.int)]) (m:=7) hp' (by decide) (by decide)
    refine ⟨.int (c - 3),o3 :: R,?_,rfl,o3,ws++[c - 3],hp3,di.symm,rfl,by simp [hw],fun w hw=>?_⟩
    ·walk_at "mx"
     rw [e3]
     walk_at "mx"
    ·rcases List.mem_append.mp hw with q | q
     ·exact hlim w q
     ·rw [List.mem_singleton.mp q];omega)
  have hw':ws.length=ns.length:=by simpa using hw
  rw [e4]
  walk_at "mx"
  obtain ⟨τ',S',e5,o5,tot,x6,x7,hp5,rfl,rfl⟩:=d8 (show _=kj [some (.r 0),some (.d (aV wss)),some (.d (.int kind)),some (.d (au ns)),some (.d (.tup (ws.map D.int))),some (.d (.int 0)),none,none,none,none,none] (o3 :: R) from rfl)
   (S1:=o3 :: R) (gd:=none) (items:=cn (ns.map D.int) (ws.map D.int)) (by unfold au;walk_at "mx")
   (fun i τ S=>∃ (o':Ob) (tot:Int) (x6 x7:Option Vl),Pen o'∧τ=[some (.r 0),some (.d (aV wss)),some (.d (.int kind)),some (.d (au ns)),some (.d (.tup (ws.map D.int))),some (.d (.int tot)),x6,x7,none,none,none]∧S=o' :: R) ⟨o3,0,none,none,hp3,rfl,rfl⟩ (by
    rintro i z τ S hz ⟨o',tot,x6,x7,hp',rfl,rfl⟩
    obtain ⟨nm,wt,en,ew,rfl⟩:=wa hz
    obtain ⟨p0,p1⟩:=gn.dom nm (List.mem_of_getElem? en)
    have gw:=g.all _ (u9 p0 p1)
    have hat:=xw p0 p1
    generalize wss.getD nm.toNat []=vs at gw hat
    have w0:=gw.pos
    have w1:=gw.le
    obtain ⟨c,o4,c0,c1,hp4,e4⟩:=aW (R:=R) (m:=(vs.length:Int)) hp' (by omega) (by omega)
    obtain ⟨v,ev,mv⟩:=cN (ns:=vs) (i:=c) c0 c1
    have lv:=gw.lim v mv
    refine ⟨_,_,.nx,_,_,by walk_at "mx";rfl,by
     walk_at "mx"
     unfold aV
     rw [bo hat]
     walk_at "mx"
     rw [bo hat,show au vs=.tup (vs.map D.int) from rfl]
     walk_at "mx"
     rw [List.length_map,e4]
     walk_at "mx"
     rw [bo ev]
     walk_at "mx"
     rw [yx (x9 (by omega) (by omega))]
     walk_at "mx"
     rfl,.inl rfl,True.intro,o4,_,_,_,hp4,rfl,rfl⟩)
  rw [e5]
  walk_at "mx"
  obtain ⟨a,oa,a0,a1,hpa,ea⟩:=aW (R:=R) (m:=5) hp5 (by decide) (by decide)
  obtain ⟨u,eu,_⟩:=cN (ns:=[0,0,1,-4,9]) (i:=a) a0 (by simpa using a1)
  rw [ea]
  walk_at "mx"
  rw [eg (show atI [D.int 0,D.int 0,D.int 1,D.int (-4),D.int 9] a=some (.int u) from eu)]
  walk_at "mx"
  generalize hlo:(if (if tot+u < 99 then tot+u else 99) > -99 then (if tot+u < 99 then tot+u else 99) else -99)=lo
  have blo:-99≤lo∧lo≤99:=by
   rw [← hlo]
   split<;>split at *<;>omega
  obtain ⟨b,ob,b0,b1,hpb,eb⟩:=aW (R:=R) (m:=5) hpa (by decide) (by decide)
  obtain ⟨v,ev,mv⟩:=cN (ns:=[0,0,1,2,7]) (i:=b) b0 (by simpa using b1)
  have hv:0≤v:=by
   simp only [List.mem_cons,List.not_mem_nil,or_false] at mv
   omega
  rw [eb]
  walk_at "mx"
  rw [eg (show atI [D.int 0,D.int 0,D.int 1,D.int 2,D.int 7] b=some (.int v) from ev)]
  walk_at "mx"
  generalize hhi:(if lo+v < 99 then lo+v else 99)=hi
  have bhi:lo≤hi∧hi≤99:=by
   rw [← hhi]
   split<;>omega
  obtain ⟨c,oc,c0,c1,hpc,ec⟩:=aW (R:=R) (m:=6) hpb (by decide) (by decide)
  rw [ec]
  walk_at "mx"
  by_cases hc:c=0
  ·rw [decide_eq_true hc]
   walk_at "mx"
   obtain ⟨d,od,d0,d1,hpd,ed⟩:=aW (R:=R) (m:=199) hpc (by decide) (by decide)
   rw [ed]
   walk_at "mx"
   obtain ⟨e,oe,f0,f1,hpe,ee⟩:=aW (R:=R) (m:=100 - (d - 99)) hpd (by omega) (by omega)
   rw [ee]
   walk_at "mx"
   exact ⟨.sum ns ws (d - 99) (d - 99+e),oe,⟨gn,hw',hlim,by omega⟩,h2.symm,hpe,by rw [cD,cE];rfl⟩
  ·rw [decide_eq_false hc]
   walk_at "mx"
   exact ⟨.sum ns ws lo hi,oc,⟨gn,hw',hlim,by omega⟩,h2.symm,hpc,by rw [cD,cE];rfl⟩
 rw [decide_eq_false h2]
 walk_at "mx"
 by_cases h3:kind=3
 ·rw [decide_eq_true h3]
  walk_at "mx"
  obtain ⟨acc,Q,e4,hl,o3,es,hp3,rfl,rfl,hr,hlim,hle⟩:=yt (show _=kC [some (.r 0),some (.d (aV wss)),some (.d (.int kind)),some (.d (au ns)),none,none,none,none,none,none,none] (o1 :: R) from rfl) (S1:=o1 :: R) (items:=(List.range 4).map fun i=>Vl.d (.int (i:Nat))) (by walk_at "mm";rfl)
   (fun i acc Q=>∃ (o':Ob) (es:List Int),Pen o'∧acc=es.map D.int∧Q=o' :: R∧es.Pairwise (· < ·)∧(∀ e∈es,0≤e∧e < i)∧es.length≤i) ⟨o1,[],hp1,rfl,rfl,.nil,fun _ h=>(by cases h),Nat.le_refl 0⟩ (by
    rintro i z acc Q hz ⟨o',es,hp',rfl,rfl,hr,hlim,hle⟩ _
    obtain ⟨hi,rfl⟩:=iX hz
    obtain ⟨c,o3,c0,c1,hp3,e3⟩:=aW (R:=R++[.lst (es.map D.int)]) (m:=3) hp' (by decide) (by decide)
    refine ⟨decide (c=0),o3 :: R,?_,rfl,fun _=>⟨.int i,o3 :: R,by walk_at "mx",rfl,o3,es++[(i:Int)],hp3,di.symm,rfl,?_,?_,by simp;omega⟩,fun _=>⟨o3,es,hp3,rfl,rfl,hr,fun e he=>by have:=hlim e he;omega,by omega⟩⟩
    ·walk_at "mx"
     rw [e3]
     walk_at "mx"
    ·refine List.pairwise_append.mpr ⟨hr,by simp,fun x hx y hy=>?_⟩
     rw [List.mem_singleton.mp hy]
     exact (hlim x hx).2
    ·intro e he
     rcases List.mem_append.mp he with q | q
     ·have:=hlim e q;omega
     ·rw [List.mem_singleton.mp q];omega)
  rw [gz] at hlim hle
  rw [e4]
  walk_at "mx"
  obtain ⟨ds,o5,gd,hp5,e5⟩:=xm (R:=R) hp3 g hn hm
  rw [e5]
  walk_at "mx"
  exact ⟨.row ns ds es,o5,⟨gn,gd,hr,fun e he=>by have:=hlim e he;omega,hle⟩,h3.symm,hp5,by rw [cD,cE];rfl⟩
 rw [decide_eq_false h3]
 walk_at "mx"
 obtain ⟨acc,Q,e4,hl,o3,ls,hp3,rfl,rfl,hw,hlim⟩:=mR (show _=kT [some (.r 0),some (.d (aV wss)),some (.d (.int kind)),some (.d (au ns)),none,none,none,none,none,none,none] (o1 :: R) from rfl) (S1:=o1 :: R) (items:=(ns.map D.int).map Vl.d) (by unfold au;walk_at "mx")
  (fun i acc Q=>∃ (o':Ob) (ls:List Int),Pen o'∧acc=ls.map D.int∧Q=o' :: R∧ls.length=i∧∀ l∈ls,1≤l∧l≤4) ⟨o1,[],hp1,rfl,rfl,rfl,fun _ h=>by cases h⟩ (by
   rintro i z acc Q hz ⟨o',ls,hp',rfl,rfl,hw,hlim⟩ _
   obtain ⟨b,o2,b0,b1,hp2,e2⟩:=aW (R:=R++[.lst (ls.map D.int)]) (m:=2) hp' (by decide) (by decide)
   obtain ⟨u,eu,mu⟩:=cN (ns:=[4,2]) (i:=b) b0 (by simpa using b1)
   have hu:2≤u∧u≤4:=by
    simp only [List.mem_cons,List.not_mem_nil,or_false] at mu
    omega
   obtain ⟨c,o3,c0,c1,hp3,e3⟩:=aW (R:=R++[.lst (ls.map D.int)]) (m:=u) hp2 (by omega) (by omega)
   refine ⟨.int (1+c),o3 :: R,?_,rfl,o3,ls++[1+c],hp3,di.symm,rfl,by simp [hw],fun l hl=>?_⟩
   ·walk_at "mx"
    rw [e2]
    walk_at "mx"
    rw [eg (show atI [D.int 4,D.int 2] b=some (.int u) from eu)]
    walk_at "mx"
    rw [e3]
    walk_at "mx"
   ·rcases List.mem_append.mp hl with q | q
    ·exact hlim l q
    ·rw [List.mem_singleton.mp q];omega)
 have hw':ls.length=ns.length:=by simpa using hw
 rw [e4]
 walk_at "mx"
 exact ⟨.han ns ls,o3,⟨gn,hw',hlim⟩,(by show (4:Int)=kind;omega),hp3,by rw [cD,cE];rfl⟩
theorem rk:gg [.d (.int v)] S=.ok (.d (.bl true)) S:=by
 unfold gg
 rw [ba]
 unfold lC
 walk_at "mx"
 rw [show isT "int" (.int v)=true from rfl]
 walk_at "mx"
 rw [show isT "bool" (.int v)=false from rfl]
 walk_at "mx"
 rw [az]
theorem cI (h:lo≤v∧v≤hi):bX [.d (.int v),.d (.int lo),.d (.int hi)] S=.ok (.d (.bl true)) S:=by
 unfold bX
 rw [ke]
 unfold kH
 walk_at "mx"
 rw [rk]
 walk_at "mx"
 rw [decide_eq_true h.1]
 walk_at "mx"
 rw [decide_eq_true h.2]
 rw [az]
theorem all_true {α:Type} {l:List α}:fV [.d (.lst (l.map fun _=>D.bl true))] S=.ok (.d (.bl true)) S:=by
 rw [pK (f:=fun _=>true)]
 simp
theorem k_:isT "tuple" (.tup xs)=true:=rfl
theorem dy (h:∀ v∈ns,lo≤v∧v≤hi):cu [.d (au ns),.d (.int lo),.d (.int hi)] S=.ok (.d (.bl true)) S:=by
 unfold cu
 rw [ke]
 unfold jQ au
 walk_at "mx"
 rw [k_]
 walk_at "mx"
 rw [eI (show _=jI [some (.d (.tup (ns.map D.int))),some (.d (.int lo)),some (.d (.int hi))] S from rfl) (xs:=ns.map D.int) (S1:=S) (by walk_at "mx") (fun _=>.bl true) (by
  intro x hx S
  obtain ⟨v,hv,rfl⟩:=List.mem_map.mp hx
  walk_at "mx"
  rw [cI (h v hv)]
  walk_at "mx")]
 walk_at "mx"
 rw [all_true]
 walk_at "mx"
 rw [az]
theorem zi {ns:List Int} (h:∀ k,k+1 < ns.length→ns.getD k 0 < ns.getD (k+1) 0):ns.Pairwise (· < ·):=by
 rw [List.pairwise_iff_getElem]
 have key:∀ d i,(hd:i+d+1 < ns.length)→ns.getD i 0 < ns.getD (i+d+1) 0:=by
  intro d
  induction d with
  | zero=>intro i hd;exact h i hd
  | succ d ih=>
   intro i hd
   have a:=ih i (by omega)
   have b:=h (i+d+1) (by omega)
   rw [show i+(d+1)+1=i+d+1+1 by omega]
   omega
 intro i j hi hj hij
 have:=key (j - i - 1) i (by omega)
 rw [show i+(j - i - 1)+1=j by omega,List.getD_eq_getElem?_getD,List.getD_eq_getElem?_getD,List.getElem?_eq_getElem hi,List.getElem?_eq_getElem hj] at this
 simpa using this
theorem zH {ns:List Int} (h:ns.Pairwise (· < ·)) (hk:k+1 < ns.length):ns.getD k 0 < ns.getD (k+1) 0:=by
 rw [List.pairwise_iff_getElem] at h
 have:=h k (k+1) (by omega) hk (by omega)
 rw [List.getD_eq_getElem?_getD,List.getD_eq_getElem?_getD,List.getElem?_eq_getElem hk,List.getElem?_eq_getElem (by omega)]
 simpa using this
theorem qi {ns:List Int}:((List.range (ns.length - 1)).all fun k=>decide (ns.getD k 0 < ns.getD (k+1) 0))=decide (ns.Pairwise (· < ·)):=by
 rw [Bool.eq_iff_iff,List.all_eq_true,decide_eq_true_iff]
 constructor
 ·intro h
  exact zi fun k hk=>by simpa using h k (List.mem_range.mpr (by omega))
 ·intro h k hk
  have:=List.mem_range.mp hk
  exact decide_eq_true (zH h (by omega))
def nbL (ns:List Int):Vl→D
 | .d (.int j)=>.bl (decide (ns.getD (j.toNat - 1) 0 < ns.getD j.toNat 0))
 | _=>.non
theorem sX {ns:List Int} (h:i < ns.length):atI (ns.map D.int) (i:Int)=some (.int (ns.getD i 0)):=l5 (by rw [List.getElem?_map,List.getElem?_eq_getElem h,List.getD_eq_getElem?_getD,List.getElem?_eq_getElem h];rfl)
theorem jU {ns:List Int} (h:ns.length≤1000):cq [.d (au ns)] S=.ok (.d (.bl (decide (ns.Pairwise (· < ·))))) S:=by
 unfold cq
 rw [ba]
 unfold fU au
 walk_at "mx"
 have key:dw [some (.d (.tup (ns.map D.int)))] S=.ok (.d (.lst ((List.range (ns.length - 1)).map fun k=>.bl (decide (ns.getD k 0 < ns.getD (k+1) 0))))) S:=by
  unfold dw
  rw [ma (items:=(List.range ((ns.length:Int) - 1).toNat).map fun k=>Vl.d (.int (1+(k:Nat)))) (S1:=S) (by walk_at "mx";rw [List.length_map,tJ (by omega)]) (nbL ns) (by
   intro z hz S
   obtain ⟨k,hk,rfl⟩:=List.mem_map.mp hz
   have hk:=List.mem_range.mp hk
   walk_at "mx"
   rw [show (1:Int)+(k:Nat) - 1=(k:Nat) by omega,show (1:Int)+(k:Nat)=((k+1:Nat):Int) by omega,bo (sX (by omega))]
   walk_at "mx"
   rw [bo (sX (by omega))]
   walk_at "mx"
   rfl)]
  rw [List.map_map,show ((ns.length:Int) - 1).toNat=ns.length - 1 by omega]
  congr 3
  refine List.map_congr_left fun k hk=>?_
  show nbL ns (.d (.int (1+(k:Nat))))=_
  rw [show (1:Int)+(k:Nat)=((k+1:Nat):Int) by omega]
  rfl
 rw [key]
 walk_at "mx"
 rw [pK,qi]
 walk_at "mx"
 rw [az]
theorem oH (g:GoodW m ws) (hm:m≤4):eX [.d (au ws)] S=.ok (.d (.bl true)) S:=by
 have h1:=g.pos
 have h2:=g.le
 unfold eX
 rw [ba]
 unfold jW
 walk_at "mx"
 rw [dy g.lim]
 walk_at "mx"
 rw [show au ws=.tup (ws.map D.int) from rfl]
 try walk_at "mx"
 rw [List.length_map,decide_eq_true (show (1:Int)≤(ws.length:Int) by omega)]
 walk_at "mx"
 rw [decide_eq_true (show (ws.length:Int)≤4 by omega)]
 walk_at "mx"
 rw [show D.tup (ws.map D.int)=au ws from rfl,jU (by omega),decide_eq_true g.rise]
 walk_at "mx"
 rw [az]
theorem rn (g:fO n m wss) (hn:n≤4) (hm:m≤4):gf [.d (aV wss)] S=.ok (.d (.bl true)) S:=by
 have h1:=g.pos
 have h2:=g.le
 unfold gf
 rw [ba]
 unfold lJ aV
 walk_at "mx"
 rw [k_]
 walk_at "mx"
 rw [List.length_map,decide_eq_true (show (1:Int)≤(wss.length:Int) by omega)]
 walk_at "mx"
 rw [decide_eq_true (show (wss.length:Int)≤4 by omega)]
 walk_at "mx"
 rw [eI (show _=lG [some (.d (.tup (wss.map au)))] S from rfl) (xs:=wss.map au) (S1:=S) (by walk_at "mx") (fun _=>.bl true) (by
  intro x hx S
  obtain ⟨ws,hv,rfl⟩:=List.mem_map.mp hx
  walk_at "mx"
  rw [oH (g.all ws hv) hm]
  walk_at "mx")]
 walk_at "mx"
 rw [all_true]
 walk_at "mx"
 rw [az]
theorem wD (h:ns.Nodup):(ef ns).length=ns.length:=by
 rw [← v5 (xs:=ns) (fun z=>kh ns z) (lX h),eJ]
theorem oO (h:ns.Nodup) (hl:ns.length≤60):cG [.d (au ns)] S=.ok (.d (.bl true)) S:=by
 unfold cG
 rw [ba]
 unfold fW au
 walk_at "mx"
 rw [z9 (ns:=ns) rfl (by omega)]
 walk_at "mx"
 rw [List.length_map,wD h]
 walk_at "mx"
 rw [az]
theorem pB (g:fM k ns) (hk:k≤4):fF [.d (au ns)] S=.ok (.d (.bl true)) S:=by
 have h1:=g.pos
 have h2:=g.le
 unfold fF
 rw [ba]
 unfold kN
 walk_at "mx"
 rw [dy (fun v hv=>by have:=g.dom v hv;omega)]
 walk_at "mx"
 rw [show au ns=.tup (ns.map D.int) from rfl]
 try walk_at "mx"
 rw [List.length_map,decide_eq_true (show (1:Int)≤(ns.length:Int) by omega)]
 walk_at "mx"
 rw [decide_eq_true (show (ns.length:Int)≤4 by omega)]
 walk_at "mx"
 rw [show D.tup (ns.map D.int)=au ns from rfl,oO g.nd (by omega)]
 walk_at "mx"
 rw [az]
theorem yb {α β:Type} {f:α→β}:∀ {l:List α},l.Nodup→(∀ x∈l,∀ y∈l,f x=f y→x=y)→(l.map f).Nodup
 | [],_,_=>List.nodup_nil
 | a :: l,h,k=>by
  rw [List.nodup_cons] at h
  rw [List.map_cons,List.nodup_cons]
  refine ⟨fun hm=>?_,yb h.2 fun x hx y hy=>k x (List.mem_cons_of_mem _ hx) y (List.mem_cons_of_mem _ hy)⟩
  obtain ⟨y,hy,e⟩:=List.mem_map.mp hm
  have:=k a (List.mem_cons_self ..) y (List.mem_cons_of_mem _ hy) e.symm
  exact h.1 (this ▸ hy)
theorem qo {ds:List Tri} (g:mC ds):cG [.d (.tup (ds.map aC))] S=.ok (.d (.bl true)) S:=by
 have hl:=g.le
 unfold cG
 rw [ba]
 unfold fW
 walk_at "mx"
 rw [Ag (ts:=ds.map fun d=>[d.1,d.2.1,d.2.2]) (by rw [List.map_map];rfl) (by rw [List.length_map];omega) (yb g.nd fun x _ y _ e=>by
  obtain ⟨a,b,c⟩:=x
  obtain ⟨a',b',c'⟩:=y
  simpa using e)]
 walk_at "mx"
 rw [List.length_map,List.length_map]
 walk_at "mx"
 rw [az]
theorem nh {ns:List Int} {S:Sto} (h:ns.length≤1000):cq [.d (.lst (ns.map D.int))] S=.ok (.d (.bl (decide (ns.Pairwise (· < ·))))) S:=by
 unfold cq
 rw [ba]
 unfold fU
 walk_at "mx"
 have key:dw [some (.d (.lst (ns.map D.int)))] S=.ok (.d (.lst ((List.range (ns.length - 1)).map fun k=>.bl (decide (ns.getD k 0 < ns.getD (k+1) 0))))) S:=by
  unfold dw
  rw [ma (items:=(List.range ((ns.length:Int) - 1).toNat).map fun k=>Vl.d (.int (1+(k:Nat)))) (S1:=S) (by walk_at "mx";rw [List.length_map,tJ (by omega)]) (nbL ns) (by
   intro z hz S
   obtain ⟨k,hk,rfl⟩:=List.mem_map.mp hz
   have hk:=List.mem_range.mp hk
   walk_at "mx"
   rw [show (1:Int)+(k:Nat) - 1=(k:Nat) by omega,show (1:Int)+(k:Nat)=((k+1:Nat):Int) by omega,eg (sX (by omega))]
   walk_at "mx"
   rw [eg (sX (by omega))]
   walk_at "mx"
   rfl)]
  rw [List.map_map,show ((ns.length:Int) - 1).toNat=ns.length - 1 by omega]
  congr 3
  refine List.map_congr_left fun k hk=>?_
  show nbL ns (.d (.int (1+(k:Nat))))=_
  rw [show (1:Int)+(k:Nat)=((k+1:Nat):Int) by omega]
  rfl
 rw [key]
 walk_at "mx"
 rw [pK,qi]
 walk_at "mx"
 rw [az]
theorem tZ {t:Tri} {S:Sto}:oIx (.d (aC t)) (.d (.int 0)) S=.ok (.d (.int t.1)) S:=bo rfl
theorem yc {t:Tri} {S:Sto}:oIx (.d (aC t)) (.d (.int 1)) S=.ok (.d (.int t.2.1)) S:=bo rfl
theorem yg {t:Tri} {S:Sto}:oIx (.d (aC t)) (.d (.int 2)) S=.ok (.d (.int t.2.2)) S:=bo rfl
theorem sd {t:Tri} {S:Sto}:bB [.d (aC t)] S=.ok (.d (.int 3)) S:=gH
theorem rS {t:Tri}:isT "tuple" (aC t)=true:=rfl
theorem m_ {a b lo hi:Int} {S:Sto} (h:lo≤a∧a≤b∧b≤hi):fP [.d (.int a),.d (.int b),.d (.int lo),.d (.int hi)] S=.ok (.d (.bl true)) S:=by
 unfold fP
 rw [BI]
 unfold mJ
 walk_at "mx"
 rw [cI (by omega)]
 walk_at "mx"
 rw [cI (by omega)]
 walk_at "mx"
 rw [decide_eq_true h.2.1,az]
theorem rf {t:Tri} {S:Sto} (h:(-9≤t.1∧t.1≤9)∧0≤t.2.1∧t.2.1≤t.2.2∧t.2.2≤4):gj [.d (aC t)] S=.ok (.d (.bl true)) S:=by
 unfold gj
 rw [ba]
 unfold lu
 walk_at "mx"
 rw [rS]
 walk_at "mx"
 rw [sd]
 walk_at "mx"
 rw [tZ]
 walk_at "mx"
 rw [cI h.1]
 walk_at "mx"
 rw [yc]
 walk_at "mx"
 rw [yg]
 walk_at "mx"
 rw [m_ (by omega)]
 walk_at "mx"
 rw [az]
theorem oV {bs:List Tri} {S:Sto} (g:o7 bs):e_ [.d (.tup (bs.map aC))] S=.ok (.d (.bl true)) S:=by
 have hl:=g.le
 unfold e_
 rw [ba]
 unfold jZ
 walk_at "mx"
 rw [k_]
 walk_at "mx"
 rw [List.length_map,decide_eq_false (by omega)]
 walk_at "mx"
 rw [eI (show _=jJ [some (.d (.tup (bs.map aC)))] S from rfl) (xs:=bs.map aC) (S1:=S) (by walk_at "mx") (fun _=>.bl true) (by
  intro x hx S
  obtain ⟨b,hb,rfl⟩:=List.mem_map.mp hx
  walk_at "mx"
  rw [rf (g.lim b hb)]
  walk_at "mx")]
 walk_at "mx"
 rw [all_true]
 walk_at "mx"
 rw [eI (show _=jR [some (.d (.tup (bs.map aC)))] S from rfl) (xs:=bs.map aC) (S1:=S) (by walk_at "mx") (fun x=>match x with | .tup (y :: _)=>y | z=>z) (by
  intro x hx S
  obtain ⟨b,hb,rfl⟩:=List.mem_map.mp hx
  walk_at "mx"
  rw [tZ]
  rfl)]
 walk_at "mx"
 rw [List.map_map,show ((fun x:D=>(match x with | .tup (y :: _)=>y | z=>z)) ∘ aC)=fun b:Tri=>D.int b.1 from rfl,show (bs.map fun b:Tri=>D.int b.1)=(bs.map (·.1)).map D.int by rw [List.map_map];rfl,nh (by rw [List.length_map];omega),decide_eq_true g.rise]
 walk_at "mx"
 rw [az]
theorem sW {t:Tri} {S:Sto} (h:(0≤t.1∧t.1≤3)∧(-9≤t.2.1∧t.2.1≤9)∧0≤t.2.2∧t.2.2≤3):ik [.d (aC t)] S=.ok (.d (.bl true)) S:=by
 unfold ik
 rw [ba]
 unfold mT
 walk_at "mx"
 rw [rS]
 walk_at "mx"
 rw [sd]
 walk_at "mx"
 rw [tZ]
 walk_at "mx"
 rw [cI h.1]
 walk_at "mx"
 rw [yc]
 walk_at "mx"
 rw [cI h.2.1]
 walk_at "mx"
 rw [yg]
 walk_at "mx"
 rw [cI h.2.2]
 walk_at "mx"
 rw [az]
theorem pz {ds:List Tri} {S:Sto} (g:mC ds):fN [.d (.tup (ds.map aC))] S=.ok (.d (.bl true)) S:=by
 have hl:=g.le
 unfold fN
 rw [ba]
 unfold kg
 walk_at "mx"
 rw [k_]
 walk_at "mx"
 rw [List.length_map,decide_eq_false (by omega)]
 walk_at "mx"
 rw [eI (show _=kb [some (.d (.tup (ds.map aC)))] S from rfl) (xs:=ds.map aC) (S1:=S) (by walk_at "mx") (fun _=>.bl true) (by
  intro x hx S
  obtain ⟨b,hb,rfl⟩:=List.mem_map.mp hx
  walk_at "mx"
  rw [sW (g.lim b hb)]
  walk_at "mx")]
 walk_at "mx"
 rw [all_true]
 walk_at "mx"
 rw [qo g]
 walk_at "mx"
 rw [az]
theorem B1:decide ((Str.ofString "many":Str)=Str.ofString "unlike")=false:=by decide +kernel
theorem AQ:decide ((Str.ofString "sum":Str)=Str.ofString "unlike")=false:=by decide +kernel
theorem BY:decide ((Str.ofString "sum":Str)=Str.ofString "many")=false:=by decide +kernel
theorem A6:decide ((Str.ofString "row":Str)=Str.ofString "unlike")=false:=by decide +kernel
theorem A9:decide ((Str.ofString "row":Str)=Str.ofString "many")=false:=by decide +kernel
theorem Bi:decide ((Str.ofString "row":Str)=Str.ofString "sum")=false:=by decide +kernel
theorem CW:decide ((Str.ofString "hand":Str)=Str.ofString "unlike")=false:=by decide +kernel
theorem Bb:decide ((Str.ofString "hand":Str)=Str.ofString "many")=false:=by decide +kernel
theorem Cg:decide ((Str.ofString "hand":Str)=Str.ofString "sum")=false:=by decide +kernel
theorem A2:decide ((Str.ofString "hand":Str)=Str.ofString "row")=false:=by decide +kernel
theorem tB {ns:List Int} {bs:List Tri} {S:Sto} (g:o7 bs):iN [.d (wiD (.man ns bs))] S=.ok (.d (.bl true)) S:=by
 unfold iN
 rw [ba]
 unfold mB wiD
 walk_at "mx"
 rw [show decide ((((0+1+1+1:Nat)):Int)=3)=true from rfl]
 walk_at "mx"
 rw [bo (z:=.tup (bs.map aC)) rfl]
 walk_at "mx"
 rw [oV g]
 walk_at "mx"
 rw [az]
theorem vA {ns ws:List Int} {lo hi:Int} {S:Sto} (h1:ws.length=ns.length) (h2:∀ w∈ws,-3≤w∧w≤3) (h3:-99≤lo∧lo≤hi∧hi≤99):jC [.d (wiD (.sum ns ws lo hi))] S=.ok (.d (.bl true)) S:=by
 unfold jC
 rw [ba]
 unfold oh wiD
 walk_at "mx"
 rw [show decide ((((0+1+1+1+1+1:Nat)):Int)=5)=true from rfl]
 walk_at "mx"
 rw [bo (z:=au ws) rfl]
 walk_at "mx"
 rw [dy h2]
 walk_at "mx"
 rw [bo (z:=au ws) rfl,show au ws=.tup (ws.map D.int) from rfl]
 walk_at "mx"
 rw [bo (z:=au ns) rfl,show au ns=.tup (ns.map D.int) from rfl]
 walk_at "mx"
 rw [List.length_map,List.length_map,h1]
 walk_at "mx"
 rw [bo (z:=.int lo) rfl]
 walk_at "mx"
 rw [bo (z:=.int hi) rfl]
 walk_at "mx"
 rw [m_ h3]
 walk_at "mx"
 rw [az]
theorem uH {ns:List Int} {ds:List Tri} {es:List Int} {S:Sto} (g:mC ds) (h1:es.Pairwise (· < ·)) (h2:∀ e∈es,0≤e∧e≤3) (h3:es.length≤4):jv [.d (wiD (.row ns ds es))] S=.ok (.d (.bl true)) S:=by
 unfold jv
 rw [ba]
 unfold nP wiD
 walk_at "mx"
 rw [show decide ((((0+1+1+1+1:Nat)):Int)=4)=true from rfl]
 walk_at "mx"
 rw [bo (z:=.tup (ds.map aC)) rfl]
 walk_at "mx"
 rw [pz g]
 walk_at "mx"
 rw [bo (z:=au es) rfl]
 walk_at "mx"
 rw [dy h2]
 walk_at "mx"
 rw [bo (z:=au es) rfl]
 walk_at "mx"
 rw [jU (by omega),decide_eq_true h1]
 walk_at "mx"
 rw [az]
theorem sQ {ns ls:List Int} {S:Sto} (h1:ls.length=ns.length) (h2:∀ l∈ls,1≤l∧l≤4):iB [.d (wiD (.han ns ls))] S=.ok (.d (.bl true)) S:=by
 unfold iB
 rw [ba]
 unfold mP wiD
 walk_at "mx"
 rw [show decide ((((0+1+1+1:Nat)):Int)=3)=true from rfl]
 walk_at "mx"
 rw [bo (z:=au ls) rfl]
 walk_at "mx"
 rw [dy h2]
 walk_at "mx"
 rw [bo (z:=au ls) rfl,show au ls=.tup (ls.map D.int) from rfl]
 walk_at "mx"
 rw [bo (z:=au ns) rfl,show au ns=.tup (ns.map D.int) from rfl]
 walk_at "mx"
 rw [List.length_map,List.length_map,h1]
 walk_at "mx"
 rw [az]
theorem FK {wi:Wi} {S:Sto}:oIx (.d (wiD wi)) (.d (.int 0)) S=.ok (.d (.str (match wi with | .unl _=>"unlike" | .man _ _=>"many" | .sum _ _ _ _=>"sum" | .row _ _ _=>"row" | .han _ _=>"hand"))) S:=by
 cases wi<;>exact bo rfl
theorem Fw {wi:Wi} {S:Sto}:oIx (.d (wiD wi)) (.d (.int 1)) S=.ok (.d (au wi.names)) S:=by
 cases wi<;>exact bo rfl
theorem zP {wi:Wi} {k:Nat} {S:Sto} (g:fR k wi):df [.d (wiD wi)] S=.ok (.d (.bl true)) S:=by
 unfold df
 rw [ba]
 unfold f_
 walk_at "mx"
 rw [FK]
 cases wi with
 | unl ns=>
  unfold wiD
  walk_at "mx"
  rw [az]
  rfl
 | man ns bs=>
  walk_at "mx"
  rw [B1]
  walk_at "mx"
  rw [tB g.2]
  walk_at "mx"
  rw [az]
 | sum ns ws lo hi=>
  walk_at "mx"
  rw [AQ]
  walk_at "mx"
  rw [BY]
  walk_at "mx"
  rw [vA g.2.1 g.2.2.1 g.2.2.2]
  walk_at "mx"
  rw [az]
 | row ns ds es=>
  walk_at "mx"
  rw [A6]
  walk_at "mx"
  rw [A9]
  walk_at "mx"
  rw [Bi]
  walk_at "mx"
  rw [uH g.2.1 g.2.2.1 g.2.2.2.1 g.2.2.2.2]
  walk_at "mx"
  rw [az]
 | han ns ls=>
  walk_at "mx"
  rw [CW]
  walk_at "mx"
  rw [Bb]
  walk_at "mx"
  rw [Cg]
  walk_at "mx"
  rw [A2]
  walk_at "mx"
  rw [sQ g.2.1 g.2.2]
  walk_at "mx"
  rw [az]
theorem wZ {wi:Wi} {k:Nat} (g:fR k wi):fM k wi.names:=by
 cases wi with
 | unl _=>exact g
 | man _ _=>exact g.1
 | sum _ _ _ _=>exact g.1
 | row _ _ _=>exact g.1
 | han _ _=>exact g.1
theorem B0 {wi:Wi}:isT "tuple" (wiD wi)=true:=by cases wi<;>rfl
theorem Ax {wi:Wi} {S:Sto}:∃ n:Int,2≤n∧bB [.d (wiD wi)] S=.ok (.d (.int n)) S:=by
 cases wi
 ·exact ⟨2,by decide,gH⟩
 ·exact ⟨3,by decide,gH⟩
 ·exact ⟨5,by decide,gH⟩
 ·exact ⟨4,by decide,gH⟩
 ·exact ⟨3,by decide,gH⟩
theorem sC {wi:Wi} {k:Nat} {S:Sto} (g:fR k wi) (hk:k≤4):iH [.d (wiD wi)] S=.ok (.d (.bl true)) S:=by
 unfold iH
 rw [ba]
 unfold mF
 walk_at "mx"
 rw [B0]
 walk_at "mx"
 obtain ⟨n,hn,en⟩:=Ax (wi:=wi) (S:=S)
 rw [en]
 walk_at "mx"
 rw [decide_eq_false (by omega)]
 walk_at "mx"
 rw [Fw]
 walk_at "mx"
 rw [pB (wZ g) hk]
 walk_at "mx"
 rw [zP g]
 walk_at "mx"
 rw [az]
theorem qr:isT "tuple" d=(match d with | .tup _=>true | _=>false):=by cases d<;>rfl
theorem mi:isT "bool" d=(match d with | .bl _=>true | _=>false):=by cases d<;>rfl
theorem pf:isT "int" d=(match d with | .bl _=>true | .int _=>true | _=>false):=by cases d<;>rfl
theorem sF:isT "str" d=(match d with | .str _=>true | _=>false):=by cases d<;>rfl
theorem yH:isT "list" d=(match d with | .lst _=>true | _=>false):=by cases d<;>rfl
theorem xA:cn xs xs=xs.map fun x=>Vl.d (.tup [x,x]):=by
 induction xs with
 | nil=>rfl
 | cons x xs ih=>rw [List.map_cons,← ih];rfl
theorem pV {α:Type} {l:List α}:dN (.d (.bl false)) (.d (.lst (l.map fun _=>D.bl true))) S=.ok (.d (.bl true)) S:=by
 unfold dN inX
 dsimp only
 rw [show bW (.d (.lst (l.map fun _=>D.bl true))) S=some (l.map fun _=>D.bl true) from rfl]
 dsimp only
 rw [if_pos (by rw [show D.flat (.bl false)=true from rfl,List.all_map];simp [D.flat])]
 unfold inD
 rw [List.any_map,show l.any ((fun e=>D.eqv e (D.bl false)) ∘ fun _=>D.bl true)=false from List.any_eq_false.mpr fun x _=>by simp [D.eqv]]
 rfl
theorem lcG (hit:it τ S=.ok ⟨items,none⟩ S1) (own:Vl→Nv) (f:Vl→D) (p:Vl→Bool) (hown:∀ z∈items,(own z).length=k) (hg:∀ z∈items,∀ ρ:Nv,ρ.length=k→∀ S:Sto,g z (ρ++τ) S=.ok (own z++τ) S)
  (ht:∀ z∈items,∀ S:Sto,t (own z++τ) S=.ok (p z) S) (he:∀ z∈items,p z=true→∀ S:Sto,e (own z++τ) S=.ok (.d (f z)) S):xLC it k g t e τ S=.ok (.d (.lst ((items.filter p).map f))) S1:=by
 have key:∀ (zs:List Vl) (acc:List D) (ρ:Nv),(∀ z∈zs,z∈items)→ρ.length=k→dC g t e S1.length none zs acc (ρ++τ) (S1++[.lst acc])=.ok (acc++(zs.filter p).map f) (S1++[.lst (acc++(zs.filter p).map f)]):=by
  intro zs
  induction zs with
  | nil=>
   intro acc ρ _ _
   rw [dC,if_pos (by simp)]
   simp
  | cons z zs ih=>
   intro acc ρ hz hl
   have hm:=hz z (List.mem_cons_self ..)
   rw [dC,hg z hm ρ hl,bD,ht z hm,bD]
   by_cases hp:p z=true
   ·rw [if_pos hp,he z hm hp,bD]
    dsimp only
    rw [if_pos ⟨by simp,True.intro⟩]
    rw [show (S1++[Ob.lst acc]).set S1.length (.lst (acc++[f z]))=S1++[.lst (acc++[f z])] by simp]
    rw [ih (acc++[f z]) (own z) (fun y hy=>hz y (List.mem_cons_of_mem _ hy)) (hown z hm),List.filter_cons_of_pos hp,List.map_cons,List.append_assoc]
    rfl
   ·rw [if_neg hp,if_pos (show gok none (S1++[Ob.lst acc]) from True.intro),ih acc (own z) (fun y hy=>hz y (List.mem_cons_of_mem _ hy)) (hown z hm),List.filter_cons_of_neg hp]
 show (it τ S).bind _=_
 rw [hit,bD]
 dsimp only
 rw [key items [] (List.replicate k none) (fun _ h=>h) (by simp),bD]
 unfold jD
 rw [if_pos (by simp),List.take_left]
 simp
theorem sk (ha:iZp (aa a (aa b aj)) τ S=.ok ⟨cn xs xs,none⟩ S) (h:∀ x∈xs,∀ S,bM n [.d x,.d x] S=.ok (.d (.bl true)) S):xLC (iZp (aa a (aa b aj))) 2 (gTu 2 (gCo (gNm 0) (gCo (gNm 1) gN0))) (fun _ S=>.ok true S) (av (bM n) (aa (ab 0) (aa (ab 1) aj))) τ S=.ok (.d (.lst (xs.map fun _=>.bl true))) S:=by
 rw [xA] at ha
 rw [lcG ha (fun z=>match z with | .d (.tup [a,b])=>[some (.d a),some (.d b)] | _=>[none,none]) (fun _=>.bl true) (fun _=>true) ?_ ?_ ?_ ?_,List.filter_eq_self.mpr (fun _ _=>rfl),List.map_map]
 ·rfl
 all_goals intro z hz;obtain ⟨x,hx,rfl⟩:=List.mem_map.mp hz
 ·rfl
 ·intro ρ hρ S
  match ρ,hρ with
  | [_,_],_=>walk_at "mx"
 ·intro S;rfl
 ·intro _ S
  dsimp only
  simp? [h x hx]
theorem same_self:∀ (n:Nat) (d:D),D.depth d < n→∀ S,bM n [.d d,.d d] S=.ok (.d (.bl true)) S
 | n+1,d,hd,S=>by
  have sq:∀ xs:List D,D.bf xs < n→∀ x∈xs,∀ S,bM n [.d x,.d x] S=.ok (.d (.bl true)) S:=by
   intro xs
   induction xs with
   | nil=>simp
   | cons y ys ih=>
    intro h x hx
    have h:max (D.depth y) (D.bf ys) < n:=h
    rcases List.mem_cons.mp hx with rfl | hx
    ·exact same_self n x (by omega)
    ·exact ih (by omega) x hx
  unfold bM
  rw [c5]
  unfold oy n6
  cases d with
  | tup xs=>simp? [mi,pf,sF,qr,yH,sk (a:=ab 0) (b:=ab 1) (τ:=[some (.d (.tup xs)),some (.d (.tup xs))]) (S:=S) (by walk_at "mx") (sq xs (show D.bf xs < n by have:D.bf xs+1 < n+1:=hd;omega)),pV,az]
  | lst xs=>simp? [mi,pf,sF,qr,yH,sk (a:=ab 0) (b:=ab 1) (τ:=[some (.d (.lst xs)),some (.d (.lst xs))]) (S:=S) (by walk_at "mx") (sq xs (show D.bf xs < n by have:D.bf xs+1 < n+1:=hd;omega)),pV,az]
  | non=>simp? [az]
  | bl b=>simp? [show oIs (.d (.bl b)) (.d .non) S=.ok (.d (.bl false)) S from rfl,mi,az]
  | int a=>simp? [mi,pf,az]
  | str a=>simp? [show oIs (.d (.str a)) (.d .non) S=.ok (.d (.bl false)) S from rfl,mi,pf,sF,az]
def nT (n:Int):Str:=Str.ofString (toString n)
def eV (t:Str):Str:=if Txt.startswith t "-"=true then Txt.slice t (some 1) none else t
def FG (t:Str):Bool:=(eV t).cps.toList.all fun c=>decide (c < 128) && Txt.contains "0123456789" (sg c)
def tI (t:Str):Bool:=decide (1≤(eV t).length) && decide ((eV t).length≤2) && FG t && (decide (t="0") || (match atI (eV t).cps.toList 0 with
 | some c=>decide ((⟨#[c]⟩:Str)≠"0")
 | none=>false))
def free (t:Str):Prop:=44∉t.cps.toList∧58∉t.cps.toList∧32∉t.cps.toList
def tP (n:Int):Bool:=tI (nT n) && decide ((nT n).length≤3) && decide (44∉(nT n).cps.toList∧58∉(nT n).cps.toList∧32∉(nT n).cps.toList) && decide (nT n≠"-") && decide (PySem.intText? (nT n)=some n)
theorem DW:(List.range 199).all (fun k=>tP ((k:Int) - 99))=true:=by decide +kernel
theorem uW {n:Int} (h:-99≤n∧n≤99):tP n=true:=by
 have:=List.all_eq_true.mp DW (n+99).toNat (List.mem_range.mpr (by omega))
 rw [show (((n+99).toNat:Nat):Int) - 99=n by omega] at this
 exact this
structure FO (n:Int):Prop where
 num:tI (nT n)=true
 len:(nT n).length≤3
 fr:free (nT n)
 ne:nT n≠"-"
 int:PySem.intText? (nT n)=some n
theorem cB {n:Int} (h:-99≤n∧n≤99):FO n:=by
 have h:=uW h
 unfold tP at h
 simp only [Bool.and_eq_true,decide_eq_true_eq] at h
 obtain ⟨⟨⟨⟨h1,h2⟩,h3⟩,h4⟩,h5⟩:=h
 exact ⟨h1,h2,h3,h4,h5⟩
theorem r0 {c:Nat}:∀ {p q A B:List Nat},c∉p→c∉q→p++c :: A=q++c :: B→p=q∧A=B
 | [],[],_,_,_,_,h=>⟨rfl,(List.cons.inj h).2⟩
 | [],y :: q,_,_,_,hq,h=>absurd ((List.cons.inj h).1 ▸ List.mem_cons_self ..) hq
 | x :: p,[],_,_,hp,_,h=>absurd ((List.cons.inj h).1 ▸ List.mem_cons_self ..) hp
 | x :: p,y :: q,_,_,hp,hq,h=>by
  obtain ⟨e,h⟩:=List.cons.inj h
  obtain ⟨e1,e2⟩:=r0 (fun z=>hp (.tail _ z)) (fun z=>hq (.tail _ z)) h
  exact ⟨by rw [e,e1],e2⟩
theorem str_inj {a b:Str} (h:a.cps.toList=b.cps.toList):a=b:=Str.ext' (Array.toList_inj.mp h)
theorem gU {c:Nat} {p q:Str} {r:List Str}:(Str.join ⟨#[c]⟩ (p :: q :: r)).cps.toList=p.cps.toList++c :: (Str.join ⟨#[c]⟩ (q :: r)).cps.toList:=by
 rw [show Str.join ⟨#[c]⟩ (p :: q :: r)=p++⟨#[c]⟩++Str.join ⟨#[c]⟩ (q :: r) from rfl]
 simp [Str.cps_append]
theorem qV {c:Nat}:∀ {ps qs:List Str},ps≠[]→qs≠[]→(∀ p∈ps,c∉p.cps.toList)→(∀ q∈qs,c∉q.cps.toList)→Str.join ⟨#[c]⟩ ps=Str.join ⟨#[c]⟩ qs→ps=qs
 | [],_,h,_,_,_,_=>absurd rfl h
 | _,[],_,h,_,_,_=>absurd rfl h
 | [p],[q],_,_,_,_,e=>by rw [show p=q from e]
 | [p],q :: q' :: qs,_,_,hp,_,e=>by
  have e:=congrArg (fun t:Str=>t.cps.toList) e
  simp only [gU] at e
  exact absurd (show c∈p.cps.toList by rw [show p.cps.toList=_ from e];simp) (hp p (.head _))
 | p :: p' :: ps,[q],_,_,_,hq,e=>by
  have e:=congrArg (fun t:Str=>t.cps.toList) e
  simp only [gU] at e
  exact absurd (show c∈q.cps.toList by rw [show q.cps.toList=_ from e.symm];simp) (hq q (.head _))
 | p :: p' :: ps,q :: q' :: qs,_,_,hp,hq,e=>by
  have e:=congrArg (fun t:Str=>t.cps.toList) e
  simp only [gU] at e
  obtain ⟨e1,e2⟩:=r0 (hp p (.head _)) (hq q (.head _)) e
  rw [str_inj e1,qV (by simp) (by simp) (fun x hx=>hp x (.tail _ hx)) (fun x hx=>hq x (.tail _ hx)) (str_inj e2)]
theorem xp {x y:Str}:Txt.split x y≠[]:=by
 unfold Txt.split
 split
 ·simp
 ·split
  ·simp
  ·rw [StrLaws.partsBetween_eq]
   obtain ⟨p,r,e⟩:=StrLaws.partsFrom_ne x y.length 0 (Builtin.Str.occurrences x y 0 x.length (x.length+1))
   rw [e];simp
theorem gh {c:Nat} {ps:List Str} (h:ps≠[]) (hp:∀ p∈ps,c∉p.cps.toList):Txt.split (Txt.join ⟨#[c]⟩ ps) ⟨#[c]⟩=ps:=by
 refine qV xp h (StrLaws.split_free _ c) hp ?_
 rw [StrLaws.join_split]
 exact StrLaws.glued_eq_join _ _
theorem jF {B:Nat} {c:Nat} {ws:List Str} (h:∀ w∈ws,w.length≤B):(Txt.join ⟨#[c]⟩ ws).length≤ws.length * B+ws.length:=by
 have h1:=StrLaws.join_length_le ⟨#[c]⟩ ws
 have h2:=StrLaws.sumLen_le ws h
 rw [show Txt.join ⟨#[c]⟩ ws=Str.join ⟨#[c]⟩ ws from StrLaws.glued_eq_join _ _]
 rw [show (⟨#[c]⟩:Str).length=1 from rfl] at h1
 omega
theorem words_of:∀ ws:List Str,wordsOf (ws.map D.str)=some ws
 | []=>rfl
 | w :: ws=>by
  show (wordsOf (ws.map D.str)).map (w :: ·)=_
  rw [words_of ws]
  rfl
theorem fA {c:Nat} {ws:List Str} {S:Sto} (h:∀ w∈ws,w.length≤1000) (hl:ws.length≤1000):cL ⟨#[c]⟩ (.d (.lst (ws.map D.str))) S=.ok (.d (.str (Txt.join ⟨#[c]⟩ ws))) S:=by
 rw [show cL ⟨#[c]⟩ (.d (.lst (ws.map D.str))) S=(match wordsOf (ws.map D.str) with
  | some ws=>if JoinOk ⟨#[c]⟩ ws=true then .ok (.d (.str (Txt.join ⟨#[c]⟩ ws))) S else .bad
  | none=>.bad) from rfl,words_of]
 refine if_pos ?_
 unfold JoinOk
 rw [StrLaws.joinFits h (by rw [show (⟨#[c]⟩:Str).length=1 from rfl];omega)]
 rfl
theorem n3 (x:Str) (w:Nat):∀ (cuts:List Nat) (a:Nat),(StrLaws.partsFrom x w a cuts).length=cuts.length+1
 | [],_=>rfl
 | c :: r,a=>by rw [StrLaws.partsFrom,List.length_cons,n3 x w r];rfl
theorem jq {c:Nat} {t:Str} {S:Sto} (h:t.length≤1000):gQ t (.d (.str ⟨#[c]⟩)) S=.ok (.d (.lst ((Txt.split t ⟨#[c]⟩).map D.str))) S:=by
 refine if_pos ⟨rfl,h,?_⟩
 rw [StrLaws.partsBetween_eq,n3]
 have:=StrLaws.occ_length_le t ⟨#[c]⟩ 0 t.length (t.length+1)
 omega
theorem pD {c:Nat} {ps:List Str} {t:Str} (ht:c∉t.cps.toList) (h:2≤ps.length):Txt.join ⟨#[c]⟩ ps≠t:=by
 intro e
 match ps,h with
 | p :: q :: r,_=>
  rw [show Txt.join ⟨#[c]⟩ (p :: q :: r)=Str.join ⟨#[c]⟩ (p :: q :: r) from StrLaws.glued_eq_join _ _] at e
  refine ht ?_
  rw [← e,gU]
  simp
theorem nX {c d:Nat} (hn:c≠d):∀ {ps:List Str},(∀ p∈ps,d∉p.cps.toList)→d∉(Str.join ⟨#[c]⟩ ps).cps.toList
 | [],_=>by simp [Str.join,Str.empty]
 | [p],h=>h p (.head _)
 | p :: q :: r,h=>by
  rw [gU]
  have:=nX hn (ps:=q :: r) fun x hx=>h x (.tail _ hx)
  simp only [List.mem_append,List.mem_cons,not_or]
  exact ⟨h p (.head _),fun z=>hn z.symm,this⟩
theorem jo {c d:Nat} (hn:c≠d) {ps:List Str} (h:∀ p∈ps,d∉p.cps.toList):d∉(Txt.join ⟨#[c]⟩ ps).cps.toList:=by
 rw [show Txt.join ⟨#[c]⟩ ps=Str.join ⟨#[c]⟩ ps from StrLaws.glued_eq_join _ _]
 exact nX hn h
theorem comma:(",":Str)=⟨#[44]⟩:=by decide
theorem colon:(":":Str)=⟨#[58]⟩:=by decide
theorem blank:(" ":Str)=⟨#[32]⟩:=by decide
def sm1 (f:Str→Vl→Sto→R Vl) (a:Str) (r:R Vl):R Vl:=r.bind fun z S2=>f a z S2
def sm0 (f:Str→Vl→Sto→R Vl) (r:R Vl) (e:XE) (τ:Nv):R Vl:=r.bind fun x S1=>match x with
 | .d (.str a)=>sm1 f a (e τ S1)
 | _=>.bad
theorem cJ:xSm f o e τ S=sm0 f (o τ S) e τ:=ai rfl
theorem cK:sm0 f (.ok (.d (.str a)) S) e τ=sm1 f a (e τ S):=ai rfl
theorem cA:sm1 f a (.ok z S)=f a z S:=ai rfl
theorem pQ:gE a (.d (.str b)) S=.ok (.d (.bl (Txt.startswith a b))) S:=ai rfl
theorem AH:sV (.d (.str a)) (.d (.str b)) S=.ok (.d (.bl (Txt.contains b a))) S:=ai rfl
theorem Ah (h:t.length≤1000):pb [.d (.str t)] S=.ok (.d (.int t.length)) S:=if_pos h
theorem Cy (h:t.length≤1000):nr (.d (.str t)) i j S=.ok (.d (.str (Txt.slice t i j))) S:=if_pos h
theorem fo (h:-99≤n∧n≤99):dD [.d (.int n)] S=.ok (.d (.str (nT n))) S:=if_pos (by omega)
def Few (ns:List Int):Prop:=ns.length≤12∧∀ n∈ns,-99≤n∧n≤99
def lS (t:Tri):Prop:=(-99≤t.1∧t.1≤99)∧(-99≤t.2.1∧t.2.1≤99)∧-99≤t.2.2∧t.2.2≤99
def kE (ts:List Tri):Prop:=ts.length≤12∧∀ t∈ts,lS t
def jn (ws:List Str):Str:=if ws=[] then "-" else Txt.join ⟨#[44]⟩ ws
def aI (ns:List Int):Str:=jn (ns.map nT)
def eN (t:Tri):Str:=Txt.join ⟨#[58]⟩ [nT t.1,nT t.2.1,nT t.2.2]
def cT (ts:List Tri):Str:=jn (ts.map eN)
def dk (wss:List (List Int)):Str:=Txt.join ⟨#[32]⟩ (wss.map aI)
structure Part (B:Nat) (w:Str):Prop where
 len:w.length≤B
 c:44∉w.cps.toList
 b:32∉w.cps.toList
 ne:w≠"-"
theorem BZ (h:-99≤n∧n≤99):Part 12 (nT n):=⟨Nat.le_trans (cB h).len (by decide),(cB h).fr.1,(cB h).fr.2.2,(cB h).ne⟩
theorem tM {P:Str→Prop} (h1:P a) (h2:P b) (h3:P c):∀ w∈[a,b,c],P w:=by
 intro w hw
 simp only [List.mem_cons,List.not_mem_nil,or_false] at hw
 rcases hw with rfl | rfl | rfl<;>assumption
theorem vN (h:lS t):Part 12 (eN t):=by
 obtain ⟨h1,h2,h3⟩:=h
 refine ⟨Nat.le_trans (jF (B:=3) (tM (cB h1).len (cB h2).len (cB h3).len)) (by show 3 * 3+3≤12;decide),jo (by decide) (tM (cB h1).fr.1 (cB h2).fr.1 (cB h3).fr.1),jo (by decide) (tM (cB h1).fr.2.2 (cB h2).fr.2.2 (cB h3).fr.2.2),pD (by decide) (by show 2≤3;decide)⟩
theorem qC (h:∀ w∈ws,Part 12 w) (hl:ws.length≤12):(jn ws).length≤190:=by
 unfold jn
 split
 ·decide
 ·have:=jF (c:=44) (B:=12) fun w hw=>(h w hw).len
  omega
theorem p6 (h:∀ w∈ws,Part 12 w):32∉(jn ws).cps.toList:=by
 unfold jn
 split
 ·decide
 ·exact jo (by decide) fun w hw=>(h w hw).b
theorem c8 (h:Few ns):(∀ w∈ns.map nT,Part 12 w)∧(ns.map nT).length≤12:=by
 refine ⟨fun w hw=>?_,by rw [List.length_map];exact h.1⟩
 obtain ⟨n,hn,rfl⟩:=List.mem_map.mp hw
 exact BZ (h.2 n hn)
theorem dR (h:kE ts):(∀ w∈ts.map eN,Part 12 w)∧(ts.map eN).length≤12:=by
 refine ⟨fun w hw=>?_,by rw [List.length_map];exact h.1⟩
 obtain ⟨n,hn,rfl⟩:=List.mem_map.mp hw
 exact vN (h.2 n hn)
theorem nF {a:XE} (h:Few ns) (ha:a τ S=.ok (.d (au ns)) S):xLC (cv a) 1 (gNm 0) (fun _ S=>.ok true S) (xN dD (aa (ab 0) aj)) τ S=.ok (.d (.lst ((ns.map nT).map D.str))) S:=by
 rw [eI (r:=_) rfl ha (fun x=>match x with | .int n=>.str (nT n) | x=>x) ?_,List.map_map,List.map_map]
 ·rfl
 ·intro x hx S
  obtain ⟨n,hn,rfl⟩:=List.mem_map.mp hx
  simp? [fo (h.2 n hn)]
theorem oj (h:∀ w∈ws,Part 12 w) (hl:ws.length≤12):dv [.d (.lst (ws.map D.str))] S=.ok (.d (.str (jn ws))) S:=by
 unfold dv
 rw [ba]
 unfold jc
 cases ws with
 | nil=>simp? [List.isEmpty_nil,az];rfl
 | cons w ws=>
  have:=fA (c:=44) (S:=S) (fun x hx=>Nat.le_trans (h x hx).len (by decide)) (Nat.le_trans hl (by decide))
  rw [List.map_cons] at this
  simp? [cJ,cK,cA,comma,this,List.isEmpty_cons,az]
  rfl
theorem iu (h:Few ns):da [.d (au ns)] S=.ok (.d (.str (aI ns))) S:=by
 unfold da
 rw [ba]
 unfold ij ie
 simp? [nF h (show ab 0 [some (.d (au ns))] S=.ok (.d (au ns)) S from rfl),oj (c8 h).1 (c8 h).2,az]
 rfl
theorem b7 (h:Few ns):bO [.d (au ns)] S=.ok (.d (.str (aI ns))) S:=by
 unfold bO
 rw [ba]
 unfold gc f7
 have e:=fA (c:=44) (S:=S) (fun x hx=>Nat.le_trans ((c8 h).1 x hx).len (by decide)) (Nat.le_trans (c8 h).2 (by decide))
 have e0:oEq (.d (au ns)) (.d (.tup [])) S=.ok (.d (.bl (decide (ns=[])))) S:=by
  unfold au
  rw [yu (by show _+1≤50;rw [cj];decide),show D.b9 (ns.map D.int) []=D.b9 (ns.map D.int) (([]:List Int).map D.int) from rfl,nS]
 have e2:=nF h (show ab 0 [some (.d (au ns))] S=.ok (.d (au ns)) S from rfl)
 cases ns with
 | nil=>simp? [e0,az];rfl
 | cons n ns=>
  simp? [cJ,cK,cA,comma,e0,show decide (n :: ns=[])=false from rfl]
  rw [e2,cA,e]
  simp? [az]
  rfl
theorem EV (h:lS t):Few [t.1,t.2.1,t.2.2]:=⟨by show 3≤12;decide,by
 intro n hn
 simp only [List.mem_cons,List.not_mem_nil,or_false] at hn
 rcases hn with rfl | rfl | rfl
 ·exact h.1
 ·exact h.2.1
 ·exact h.2.2⟩
def wk (x:D):D:=match x with
 | .tup [.int a,.int b,.int c]=>.str (eN (a,b,c))
 | x=>x
theorem qz {ts:List Tri}:(ts.map aC).map wk=(ts.map eN).map D.str:=by
 rw [List.map_map,List.map_map]
 rfl
theorem nG (h:kE ts):ez [.d (.tup (ts.map aC))] S=.ok (.d (.str (cT ts))) S:=by
 unfold ez
 rw [ba]
 unfold jb iZ i_
 have e:xLC (cv (ab 0)) 1 (gNm 0) (fun _ S=>.ok true S) (xSm cL (xC (.str ":")) (xLC (cv (ab 0)) 1 (gNm 0) (fun _ S=>.ok true S) (xN dD (aa (ab 0) aj)))) [some (.d (.tup (ts.map aC)))] S=.ok (.d (.lst ((ts.map eN).map D.str))) S:=by
  rw [eI (r:=_) rfl (show ab 0 [some (.d (.tup (ts.map aC)))] S=.ok (.d (.tup (ts.map aC))) S from rfl) wk ?_,qz]
  intro x hx S
  obtain ⟨t,ht,rfl⟩:=List.mem_map.mp hx
  have h3:=EV (h.2 t ht)
  rw [cJ,wJ,cK,nF h3 (show ab 0 (some (.d (aC t)) :: [some (.d (.tup (ts.map aC)))]) S=.ok (.d (au [t.1,t.2.1,t.2.2])) S from rfl),cA,colon,fA (fun w hw=>Nat.le_trans ((c8 h3).1 w hw).len (by decide)) (Nat.le_trans (c8 h3).2 (by decide))]
  rfl
 simp? [e,oj (dR h).1 (dR h).2,az]
 rfl
theorem mH {a b:Str} (h:a.length+b.length≤100000):bz (.d (.str a)) (.d (.str b)) S=.ok (.d (.str (a++b))) S:=if_pos h
theorem zX:nT a++":"++nT b++":"++nT c=eN (a,b,c):=by
 rw [show eN (a,b,c)=Str.join ⟨#[58]⟩ [nT a,nT b,nT c] from StrLaws.glued_eq_join _ _,show Str.join ⟨#[58]⟩ [nT a,nT b,nT c]=nT a++⟨#[58]⟩++(nT b++⟨#[58]⟩++nT c) from rfl,colon]
 simp only [Str.append_assoc]
theorem kd (h:kE ts):dg [.d (.tup (ts.map aC))] S=.ok (.d (.str (cT ts))) S:=by
 unfold dg
 rw [ba]
 unfold f9
 have e:dZ [some (.d (.tup (ts.map aC)))] S=.ok (.d (.lst ((ts.map eN).map D.str))) S:=by
  unfold dZ
  rw [eI (r:=_) rfl (show ab 0 [some (.d (.tup (ts.map aC)))] S=.ok (.d (.tup (ts.map aC))) S from rfl) wk ?_,qz]
  intro x hx S
  obtain ⟨t,ht,rfl⟩:=List.mem_map.mp hx
  obtain ⟨h1,h2,h3⟩:=h.2 t ht
  have l1:=(cB h1).len
  have l2:=(cB h2).len
  have l3:=(cB h3).len
  have lc:(":":Str).length=1:=by decide
  have a1:(nT t.1++(":":Str)).length≤4:=by rw [Str.length_append];omega
  have a2:(nT t.1++":"++nT t.2.1).length≤7:=by rw [Str.length_append];omega
  have a3:(nT t.1++":"++nT t.2.1++(":":Str)).length≤8:=by rw [Str.length_append];omega
  have b1:=mH (a:=nT t.1) (b:=":") (S:=S) (by omega)
  have b2:=mH (a:=nT t.1++":") (b:=nT t.2.1) (S:=S) (by omega)
  have b3:=mH (a:=nT t.1++":"++nT t.2.1) (b:=":") (S:=S) (by omega)
  have b4:=mH (a:=nT t.1++":"++nT t.2.1++":") (b:=nT t.2.2) (S:=S) (by omega)
  have c1:oIx (.d (aC t)) (.d (.int 0)) S=.ok (.d (.int t.1)) S:=rfl
  have c2:oIx (.d (aC t)) (.d (.int 1)) S=.ok (.d (.int t.2.1)) S:=rfl
  have c3:oIx (.d (aC t)) (.d (.int 2)) S=.ok (.d (.int t.2.2)) S:=rfl
  simp? [c1,c2,c3,fo h1,fo h2,fo h3,b1,b2,b3,b4,zX]
  rfl
 have e2:=fA (c:=44) (S:=S) (fun x hx=>Nat.le_trans ((dR h).1 x hx).len (by decide)) (Nat.le_trans (dR h).2 (by decide))
 have e0:oEq (.d (.tup (ts.map aC))) (.d (.tup [])) S=.ok (.d (.bl (decide (ts=[])))) S:=by
  rw [yu (by show _+1≤50;have:=eQ ts;omega)]
  cases ts<;>rfl
 generalize D.tup (ts.map aC)=d at e e0 ⊢
 by_cases q:ts=[]
 ·rw [decide_eq_true q] at e0
  simp? [e0,az]
  rw [q]
  rfl
 ·rw [decide_eq_false q] at e0
  simp? [cJ,cK,cA,comma,e0,e,e2,az]
  unfold cT jn
  rw [if_neg (by simpa using q)]
theorem w11:decide (("number":Str)="number")=true:=by decide
theorem w12:decide (("numbers":Str)="number")=false:=by decide
theorem w22:decide (("numbers":Str)="numbers")=true:=by decide
theorem w13:decide (("tuples":Str)="number")=false:=by decide
theorem w23:decide (("tuples":Str)="numbers")=false:=by decide
theorem rF (h:-99≤n∧n≤99):b6 [.d (.str "number"),.d (.int n)] S=.ok (.d (.str (nT n))) S:=by
 unfold b6
 rw [c5]
 unfold eh
 simp? [w11,fo h,az]
theorem dO (h:Few ns):b6 [.d (.str "numbers"),.d (au ns)] S=.ok (.d (.str (aI ns))) S:=by
 unfold b6
 rw [c5]
 unfold eh
 simp? [w12,w22,iu h,az]
theorem p8 (h:kE ts):b6 [.d (.str "tuples"),.d (.tup (ts.map aC))] S=.ok (.d (.str (cT ts))) S:=by
 unfold b6
 rw [c5]
 unfold eh
 simp? [w13,w23,nG h,az]
inductive Al3 (F:XF):List D→List D→List D→Prop
 | nil:Al3 F [] [] []
 | cons {x y z:D} {xs ys zs:List D} (h:∀ S,F [.d x,.d y] S=.ok (.d z) S) (r:Al3 F xs ys zs):Al3 F (x :: xs) (y :: ys) (z :: zs)
theorem vq {F:XF} {it:XI} (hit:it τ S=.ok ⟨cn xs ys,none⟩ S1) (h:Al3 F xs ys zs):xLC it 2 (gTu 2 (gCo (gNm 0) (gCo (gNm 1) gN0))) (fun _ S=>.ok true S) (av F (aa (ab 0) (aa (ab 1) aj))) τ S=.ok (.d (.lst zs)) S1:=by
 have key:∀ {xs ys zs:List D},Al3 F xs ys zs→∀ (acc:List D) (ρ:Nv),ρ.length=2→dC (gTu 2 (gCo (gNm 0) (gCo (gNm 1) gN0))) (fun _ S=>.ok true S) (av F (aa (ab 0) (aa (ab 1) aj))) S1.length none (cn xs ys) acc (ρ++τ) (S1++[.lst acc])=.ok (acc++zs) (S1++[.lst (acc++zs)]):=by
  intro xs ys zs h
  induction h with
  | nil=>
   intro acc ρ _
   rw [show cn [] []=[] from rfl,dC,if_pos (by simp)]
   simp
  | @cons x y z xs ys zs hf r ih=>
   intro acc ρ hl
   match ρ,hl with
   | [a,b],_=>
    have e2:gTu 2 (gCo (gNm 0) (gCo (gNm 1) gN0)) (.d (.tup [x,y])) ([a,b]++τ) (S1++[.lst acc])=.ok ([some (.d x),some (.d y)]++τ) (S1++[.lst acc]):=rfl
    have e3:av F (aa (ab 0) (aa (ab 1) aj)) ([some (.d x),some (.d y)]++τ) (S1++[.lst acc])=.ok (.d z) (S1++[.lst acc]):=by simp? [hf]
    rw [show cn (x :: xs) (y :: ys)=Vl.d (.tup [x,y]) :: cn xs ys from rfl,dC,e2,bD,bD,if_pos rfl,e3,bD]
    dsimp only
    rw [if_pos ⟨by simp,True.intro⟩]
    rw [show (S1++[Ob.lst acc]).set S1.length (.lst (acc++[z]))=S1++[.lst (acc++[z])] by simp]
    rw [ih (acc++[z]) [some (.d x),some (.d y)] rfl,List.append_assoc]
    rfl
 show (it τ S).bind _=_
 rw [hit,bD]
 dsimp only
 rw [key h [] (List.replicate 2 none) rfl,bD]
 unfold jD
 rw [if_pos (by simp),List.take_left]
 simp
def wiP:Wi→List Str
 | .unl ns=>["unlike",aI ns]
 | .man ns bs=>["many",aI ns,cT bs]
 | .sum ns ws lo hi=>["sum",aI ns,aI ws,nT lo,nT hi]
 | .row ns ds es=>["row",aI ns,cT ds,aI es]
 | .han ns ls=>["hand",aI ns,aI ls]
def wiT (wi:Wi):Str:=Txt.join ⟨#[32]⟩ (wiP wi)
def js:Wi→Prop
 | .unl ns=>Few ns
 | .man ns bs=>Few ns∧kE bs
 | .sum ns ws lo hi=>Few ns∧Few ws∧(-99≤lo∧lo≤99)∧-99≤hi∧hi≤99
 | .row ns ds es=>Few ns∧kE ds∧Few es
 | .han ns ls=>Few ns∧Few ls
structure mz (w:Str):Prop where
 len:w.length≤190
 b:32∉w.cps.toList
theorem fK (h:Few ns):mz (aI ns):=⟨qC (c8 h).1 (c8 h).2,p6 (c8 h).1⟩
theorem yJ (h:kE ts):mz (cT ts):=⟨qC (dR h).1 (dR h).2,p6 (dR h).1⟩
theorem CG (h:-99≤n∧n≤99):mz (nT n):=⟨Nat.le_trans (cB h).len (by decide),(cB h).fr.2.2⟩
theorem fb (h:js wi):(∀ w∈wiP wi,mz w)∧2≤(wiP wi).length∧(wiP wi).length≤5:=by
 cases wi with
 | unl ns=>
  refine ⟨?_,by show 2≤2;decide,by show 2≤5;decide⟩
  intro w hw
  simp only [wiP,List.mem_cons,List.not_mem_nil,or_false] at hw
  rcases hw with rfl | rfl
  ·exact ⟨by decide,by decide⟩
  ·exact fK h
 | man ns bs=>
  refine ⟨?_,by show 2≤3;decide,by show 3≤5;decide⟩
  intro w hw
  simp only [wiP,List.mem_cons,List.not_mem_nil,or_false] at hw
  rcases hw with rfl | rfl | rfl
  ·exact ⟨by decide,by decide⟩
  ·exact fK h.1
  ·exact yJ h.2
 | sum ns ws lo hi=>
  refine ⟨?_,by show 2≤5;decide,by show 5≤5;decide⟩
  intro w hw
  simp only [wiP,List.mem_cons,List.not_mem_nil,or_false] at hw
  rcases hw with rfl | rfl | rfl | rfl | rfl
  ·exact ⟨by decide,by decide⟩
  ·exact fK h.1
  ·exact fK h.2.1
  ·exact CG h.2.2.1
  ·exact CG h.2.2.2
 | row ns ds es=>
  refine ⟨?_,by show 2≤4;decide,by show 4≤5;decide⟩
  intro w hw
  simp only [wiP,List.mem_cons,List.not_mem_nil,or_false] at hw
  rcases hw with rfl | rfl | rfl | rfl
  ·exact ⟨by decide,by decide⟩
  ·exact fK h.1
  ·exact yJ h.2.1
  ·exact fK h.2.2
 | han ns ls=>
  refine ⟨?_,by show 2≤3;decide,by show 3≤5;decide⟩
  intro w hw
  simp only [wiP,List.mem_cons,List.not_mem_nil,or_false] at hw
  rcases hw with rfl | rfl | rfl
  ·exact ⟨by decide,by decide⟩
  ·exact fK h.1
  ·exact fK h.2
theorem wiJ (h:js wi):cL ⟨#[32]⟩ (.d (.lst ((wiP wi).map D.str))) S=.ok (.d (.str (wiT wi))) S:=
 fA (fun w hw=>Nat.le_trans ((fb h).1 w hw).len (by decide)) (Nat.le_trans (fb h).2.2 (by decide))
theorem dF (h:js wi) (hit:iZk (aa (xk fz (xOp oIx (ab 0) (xC (.int 0)))) (aa (xSl oSl (ab 0) (dW (xC (.int 1))) cW) aj)) [some (.d (wiD wi)),none] S=.ok ⟨cn xs ys,none⟩ S)
  (ha:Al3 b6 xs ys zs) (e0:oIx (.d (wiD wi)) (.d (.int 0)) S=.ok (.d w) S) (hz:w :: zs=(wiP wi).map D.str):cf [.d (wiD wi)] S=.ok (.d (.str (wiT wi))) S:=by
 unfold cf
 rw [ba]
 unfold j6
 have e1:kJ [some (.d (wiD wi)),none] S=.ok (.d (.lst zs)) S:=vq hit ha
 have hl:zs.length+1≤5:=by
  have:=(fb h).2.2
  rw [← List.length_map (f:=D.str),← hz] at this
  exact this
 have e2:bz (.d (.lst [w])) (.d (.lst zs)) S=.ok (.d (.lst (w :: zs))) S:=by
  rw [pL (by show 1+zs.length≤100000;omega)]
  rfl
 simp? [e1,e0,cJ,cK,cA,blank,e2,hz,wiJ h,az]
theorem gR (h:js wi):cf [.d (wiD wi)] S=.ok (.d (.str (wiT wi))) S:=by
 cases wi with
 | unl ns=>exact dF (xs:=[.str "numbers"]) (ys:=[au ns]) h (by rfl) (.cons (fun S=>dO h) .nil) rfl rfl
 | man ns bs=>exact dF (xs:=[.str "numbers",.str "tuples"]) (ys:=[au ns,.tup (bs.map aC)]) h (by rfl) (.cons (fun S=>dO h.1) (.cons (fun S=>p8 h.2) .nil)) rfl rfl
 | sum ns ws lo hi=>exact dF (xs:=[.str "numbers",.str "numbers",.str "number",.str "number"]) (ys:=[au ns,au ws,.int lo,.int hi]) h (by rfl) (.cons (fun S=>dO h.1) (.cons (fun S=>dO h.2.1) (.cons (fun S=>rF h.2.2.1) (.cons (fun S=>rF h.2.2.2) .nil)))) rfl rfl
 | row ns ds es=>exact dF (xs:=[.str "numbers",.str "tuples",.str "numbers"]) (ys:=[au ns,.tup (ds.map aC),au es]) h (by rfl) (.cons (fun S=>dO h.1) (.cons (fun S=>p8 h.2.1) (.cons (fun S=>dO h.2.2) .nil))) rfl rfl
 | han ns ls=>exact dF (xs:=[.str "numbers",.str "numbers"]) (ys:=[au ns,au ls]) h (by rfl) (.cons (fun S=>dO h.1) (.cons (fun S=>dO h.2) .nil)) rfl rfl
theorem xE {c:Nat} {ws:List Str} {S:Sto} {n:Nat} (e:S[n]?=some (.lst (ws.map D.str))) (h:∀ w∈ws,w.length≤1000) (hl:ws.length≤1000):cL ⟨#[c]⟩ (.r n) S=.ok (.d (.str (Txt.join ⟨#[c]⟩ ws))) S:=by
 unfold cL
 rw [tF e]
 exact fA h hl
theorem qu (h:js wi) (e:S[n]?=some (.lst ((wiP wi).map D.str))):cL ⟨#[32]⟩ (.r n) S=.ok (.d (.str (wiT wi))) S:=
 xE e (fun w hw=>Nat.le_trans ((fb h).1 w hw).len (by decide)) (Nat.le_trans (fb h).2.2 (by decide))
def inW (x a b:Str):Bool:=a == x || (b == x || false)
theorem mV {x a b:Str}:oIn (.d (.str x)) (.d (.tup [.str a,.str b])) S=.ok (.d (.bl (inW x a b))) S:=by
 rw [show oIn (.d (.str x)) (.d (.tup [.str a,.str b])) S=.ok (.d (.bl (D.eqv (.str a) (.str x) || (D.eqv (.str b) (.str x) || false)))) S from rfl]
 simp only [D.eqv,inW]
theorem uj (h:js wi):eA [.d (wiD wi)] S=.ok (.d (.str (wiT wi))) S:=by
 unfold eA
 rw [ba]
 unfold ja
 cases wi with
 | unl ns=>
  have h1:Few ns:=h
  have e:=qu (wi:=.unl ns) (n:=S.length) (S:=S++[.lst [.str "unlike",.str (aI ns)]]) h ff
  unfold wiD
  simp? [bo (show atI [D.str "unlike",au ns] 0=some (.str "unlike") from rfl),bo (show atI [D.str "unlike",au ns] 1=some (au ns) from rfl),b7 h1,mV,show inW "unlike" "many" "row"=false by decide,show inW "unlike" "sum" "hand"=false by decide,show decide (("unlike":Str)="sum")=false by decide,show decide (("unlike":Str)="row")=false by decide,cJ,cK,cA,blank,e,gZ]
 | man ns bs=>
  obtain ⟨h1,h2⟩:=id h
  have e:=qu (wi:=.man ns bs) (n:=S.length) (S:=S++[.lst [.str "many",.str (aI ns),.str (cT bs)]]) h ff
  unfold wiD
  have e2:=fun S=>kd (S:=S) h2
  simp? [bo (show atI [D.str "many",au ns,.tup (bs.map aC)] 0=some (.str "many") from rfl),bo (show atI [D.str "many",au ns,.tup (bs.map aC)] 1=some (au ns) from rfl),b7 h1,mV,show inW "many" "many" "row"=true by decide,show inW "many" "sum" "hand"=false by decide,show decide (("many":Str)="sum")=false by decide,show decide (("many":Str)="row")=false by decide,bo (show atI [D.str "many",au ns,.tup (bs.map aC)] 2=some (.tup (bs.map aC)) from rfl),e2,gx (n:=S.length) (xs:=[.str "many",.str (aI ns)]) (z:=.str (cT bs)) (S:=S++[.lst [.str "many",.str (aI ns)]]) (by show 2 < 100000;decide),cJ,cK,cA,blank,e,gZ]
 | sum ns ws lo hi=>
  obtain ⟨h1,h2,h3,h4⟩:=id h
  have e:=qu (wi:=.sum ns ws lo hi) (n:=S.length+1) (S:=S++[.lst [.str "sum",.str (aI ns),.str (aI ws)],.lst [.str "sum",.str (aI ns),.str (aI ws),.str (nT lo),.str (nT hi)]]) h qT
  have e3:mr (.r S.length) (.d (.lst [.str (nT lo),.str (nT hi)])) (S++[.lst [.str "sum",.str (aI ns),.str (aI ws)]])=.ok (.r (S.length+1)) (S++[.lst [.str "sum",.str (aI ns),.str (aI ws)],.lst [.str "sum",.str (aI ns),.str (aI ws),.str (nT lo),.str (nT hi)]]):=by
   unfold mr
   rw [tF ff,show cw (.d (.lst [D.str (nT lo),.str (nT hi)])) (S++[.lst [.str "sum",.str (aI ns),.str (aI ws)]])=some [.str (nT lo),.str (nT hi)] from rfl]
   dsimp only
   rw [if_pos (by show 5≤100000;decide),List.length_append,List.append_assoc]
   rfl
  unfold wiD
  simp? [bo (show atI [D.str "sum",au ns,au ws,.int lo,.int hi] 0=some (.str "sum") from rfl),bo (show atI [D.str "sum",au ns,au ws,.int lo,.int hi] 1=some (au ns) from rfl),bo (show atI [D.str "sum",au ns,au ws,.int lo,.int hi] 3=some (.int lo) from rfl),bo (show atI [D.str "sum",au ns,au ws,.int lo,.int hi] 4=some (.int hi) from rfl),b7 h1,mV,show inW "sum" "many" "row"=false by decide,show inW "sum" "sum" "hand"=true by decide,show decide (("sum":Str)="sum")=true by decide,show decide (("sum":Str)="row")=false by decide,bo (show atI [D.str "sum",au ns,au ws,.int lo,.int hi] 2=some (au ws) from rfl),b7 h2,gx (n:=S.length) (xs:=[.str "sum",.str (aI ns)]) (z:=.str (aI ws)) (S:=S++[.lst [.str "sum",.str (aI ns)]]) (by show 2 < 100000;decide),fo h3,fo h4,e3,cJ,cK,cA,blank,e,gZ]
 | row ns ds es=>
  obtain ⟨h1,h2,h3⟩:=id h
  have e:=qu (wi:=.row ns ds es) (n:=S.length) (S:=S++[.lst [.str "row",.str (aI ns),.str (cT ds),.str (aI es)]]) h ff
  unfold wiD
  have e2:=fun S=>kd (S:=S) h2
  simp? [bo (show atI [D.str "row",au ns,.tup (ds.map aC),au es] 0=some (.str "row") from rfl),bo (show atI [D.str "row",au ns,.tup (ds.map aC),au es] 1=some (au ns) from rfl),b7 h1,mV,show inW "row" "many" "row"=true by decide,show inW "row" "sum" "hand"=false by decide,show decide (("row":Str)="sum")=false by decide,show decide (("row":Str)="row")=true by decide,bo (show atI [D.str "row",au ns,.tup (ds.map aC),au es] 2=some (.tup (ds.map aC)) from rfl),e2,gx (n:=S.length) (xs:=[.str "row",.str (aI ns)]) (z:=.str (cT ds)) (S:=S++[.lst [.str "row",.str (aI ns)]]) (by show 2 < 100000;decide),bo (show atI [D.str "row",au ns,.tup (ds.map aC),au es] 3=some (au es) from rfl),b7 h3,gx (n:=S.length) (xs:=[.str "row",.str (aI ns),.str (cT ds)]) (z:=.str (aI es)) (S:=S++[.lst [.str "row",.str (aI ns),.str (cT ds)]]) (by show 3 < 100000;decide),cJ,cK,cA,blank,e,gZ]
 | han ns ls=>
  obtain ⟨h1,h2⟩:=id h
  have e:=qu (wi:=.han ns ls) (n:=S.length) (S:=S++[.lst [.str "hand",.str (aI ns),.str (aI ls)]]) h ff
  unfold wiD
  simp? [bo (show atI [D.str "hand",au ns,au ls] 0=some (.str "hand") from rfl),bo (show atI [D.str "hand",au ns,au ls] 1=some (au ns) from rfl),b7 h1,mV,show inW "hand" "many" "row"=false by decide,show inW "hand" "sum" "hand"=true by decide,show decide (("hand":Str)="sum")=false by decide,show decide (("hand":Str)="row")=false by decide,bo (show atI [D.str "hand",au ns,au ls] 2=some (au ls) from rfl),b7 h2,gx (n:=S.length) (xs:=[.str "hand",.str (aI ns)]) (z:=.str (aI ls)) (S:=S++[.lst [.str "hand",.str (aI ns)]]) (by show 2 < 100000;decide),cJ,cK,cA,blank,e,gZ]
inductive Al2 (F:XF):List D→List D→Prop
 | nil:Al2 F [] []
 | cons {x z:D} {xs zs:List D} (h:∀ S,F [.d x] S=.ok (.d z) S) (r:Al2 F xs zs):Al2 F (x :: xs) (z :: zs)
theorem Al2.of {α:Type} {F:XF} {f g:α→D}:∀ {l:List α},(∀ a∈l,∀ S,F [.d (f a)] S=.ok (.d (g a)) S)→Al2 F (l.map f) (l.map g)
 | [],_=>.nil
 | a :: l,h=>.cons (h a (.head _)) (Al2.of fun b hb=>h b (.tail _ hb))
theorem i8 {F:XF} {it:XI} (hit:it τ S=.ok ⟨xs.map Vl.d,none⟩ S1) (h:Al2 F xs zs):xLC it 1 (gNm 0) (fun _ S=>.ok true S) (av F (aa (ab 0) aj)) τ S=.ok (.d (.lst zs)) S1:=by
 have key:∀ {xs zs:List D},Al2 F xs zs→∀ (acc:List D) (x0:Option Vl),dC (gNm 0) (fun _ S=>.ok true S) (av F (aa (ab 0) aj)) S1.length none (xs.map Vl.d) acc (x0 :: τ) (S1++[.lst acc])=.ok (acc++zs) (S1++[.lst (acc++zs)]):=by
  intro xs zs h
  induction h with
  | nil=>
   intro acc x0
   rw [List.map_nil,dC,if_pos (by simp)]
   simp
  | @cons x z xs zs hf r ih=>
   intro acc x0
   have e2:gNm 0 (.d x) (x0 :: τ) (S1++[.lst acc])=.ok (some (.d x) :: τ) (S1++[.lst acc]):=rfl
   have e3:av F (aa (ab 0) aj) (some (.d x) :: τ) (S1++[.lst acc])=.ok (.d z) (S1++[.lst acc]):=by simp? [hf]
   rw [List.map_cons,dC,e2,bD,bD,if_pos rfl,e3,bD]
   dsimp only
   rw [if_pos ⟨by simp,True.intro⟩]
   rw [show (S1++[Ob.lst acc]).set S1.length (.lst (acc++[z]))=S1++[.lst (acc++[z])] by simp]
   rw [ih (acc++[z]) (some (.d x)),List.append_assoc]
   rfl
 show (it τ S).bind _=_
 rw [hit,bD]
 dsimp only
 rw [show List.replicate 1 none++τ=none :: τ from rfl,key h [] none,bD]
 unfold jD
 rw [if_pos (by simp),List.take_left]
 simp
theorem lD (h:∀ ws∈wss,Few ws) (h2:wss.length≤12):cL ⟨#[32]⟩ (.d (.lst ((wss.map aI).map D.str))) S=.ok (.d (.str (dk wss))) S:=
 fA (fun w hw=>by
  obtain ⟨ws,hm,rfl⟩:=List.mem_map.mp hw
  exact Nat.le_trans (fK (h ws hm)).len (by decide)) (by rw [List.length_map];exact Nat.le_trans h2 (by decide))
theorem oP (h:∀ ws∈wss,Few ws) (h2:wss.length≤12):eU [.d (aV wss)] S=.ok (.d (.str (dk wss))) S:=by
 unfold eU
 rw [ba]
 unfold jK
 have e:jT [some (.d (aV wss))] S=.ok (.d (.lst (wss.map fun ws=>.str (aI ws)))) S:=i8 (xs:=wss.map au) rfl (Al2.of fun ws hw S=>iu (h ws hw))
 rw [show wss.map (fun ws=>D.str (aI ws))=(wss.map aI).map D.str by rw [List.map_map];rfl] at e
 simp? [e,cJ,cK,cA,blank,lD h h2,az]
theorem t7 (h:∀ ws∈wss,Few ws) (h2:wss.length≤12):dS [.d (aV wss)] S=.ok (.d (.str (dk wss))) S:=by
 unfold dS
 rw [ba]
 unfold iw
 have e:iE [some (.d (aV wss))] S=.ok (.d (.lst (wss.map fun ws=>.str (aI ws)))) S:=i8 (xs:=wss.map au) rfl (Al2.of fun ws hw S=>b7 (h ws hw))
 rw [show wss.map (fun ws=>D.str (aI ws))=(wss.map aI).map D.str by rw [List.map_map];rfl] at e
 simp? [e,cJ,cK,cA,blank,lD h h2,az]
theorem qh {t:Str} (h:tI t=true) (hl:t.length≤1000):fJ [.d (.str t)] S=.ok (.d (.bl true)) S:=by
 unfold fJ
 rw [ba]
 unfold kF
 unfold tI at h
 simp only [Bool.and_eq_true,decide_eq_true_eq] at h
 obtain ⟨⟨⟨h1,h2⟩,h3⟩,h4⟩:=h
 have e1:j7 (cx (xSm gE (ab 0) (xC (.str "-")))) (xSl nr (ab 0) (dW (xC (.int 1))) cW) (ab 0) [some (.d (.str t)),none] S=.ok (.d (.str (eV t))) S:=by
  unfold eV
  cases q:Txt.startswith t "-" with
  | true=>simp? [cJ,cK,cA,pQ,q,Cy hl]
  | false=>simp? [cJ,cK,cA,pQ,q]
 have e2:h8 [some (.d (.str t)),some (.d (.str (eV t)))] S=.ok (.d (.lst ((eV t).cps.toList.map fun _=>.bl true))) S:=by
  unfold h8
  rw [ma (items:=(eV t).cps.toList.map fun c=>Vl.d (.str (sg c))) (S1:=S) ?_ (fun _=>.bl true) ?_,List.map_map]
  ·rfl
  ·refine if_pos ⟨Nat.le_trans (show (eV t).cps.size≤2 from h2) (by decide),?_⟩
   rw [← Array.all_toList]
   refine List.all_eq_true.mpr fun c hc=>?_
   have:=List.all_eq_true.mp h3 c hc
   rw [Bool.and_eq_true] at this
   exact this.1
  ·intro z hz S
   obtain ⟨c,hc,rfl⟩:=List.mem_map.mp hz
   have:=List.all_eq_true.mp h3 c hc
   rw [Bool.and_eq_true] at this
   simp? [AH,this.2]
 have e3:pY (xOp oEq (ab 0) (xC (.str "0"))) (xOp oNe (xOp kR (ab 1) (xC (.int 0))) (xC (.str "0"))) [some (.d (.str t)),some (.d (.str (eV t)))] S=.ok (.d (.bl true)) S:=by
  by_cases q:t="0"
  ·simp? [decide_eq_true q]
  ·rw [decide_eq_false q,Bool.false_or] at h4
   split at h4
   ·rename_i c hc
    have e4:kR (.d (.str (eV t))) (.d (.int 0)) S=.ok (.d (.str ⟨#[c]⟩)) S:=by
     unfold kR
     dsimp only
     rw [hc]
     exact if_pos (Nat.le_trans h2 (by decide))
    simp? [decide_eq_false q,e4,decide_eq_false (of_decide_eq_true h4)]
   ·cases h4
 have a1:decide ((1:Int)≤((eV t).length:Nat))=true:=decide_eq_true (by omega)
 have a2:decide ((((eV t).length:Nat):Int)≤2)=true:=decide_eq_true (by omega)
 generalize j7 (cx (xSm gE (ab 0) (xC (.str "-")))) (xSl nr (ab 0) (dW (xC (.int 1))) cW) (ab 0)=A at e1 ⊢
 generalize pY (xOp oEq (ab 0) (xC (.str "0"))) (xOp oNe (xOp kR (ab 1) (xC (.int 0))) (xC (.str "0")))=B at e3 ⊢
 simp? [e1,Ah (Nat.le_trans h2 (by decide)),a1,a2,e2,all_true,e3,az]
theorem cV (h:-99≤n∧n≤99):cM [.d (.str (nT n))] S=.ok (.d (.int n)) S:=by
 unfold cM
 rw [ba]
 unfold i5
 have hl:=(cB h).len
 have e:mM [.d (.str (nT n))] S=.ok (.d (.int n)) S:=by
  rw [show mM [.d (.str (nT n))] S=(match PySem.intText? (nT n) with
   | some m=>if (nT n).length≤640 then .ok (.d (.int m)) S else .bad
   | none=>.bad) from rfl,(cB h).int]
  exact if_pos (by omega)
 simp? [qh (cB h).num (by omega),e,az]
theorem iO (h:∀ w∈ws,Part 12 w) (hl:ws.length≤12):cb [.d (.str (jn ws))] S=.ok (.d (.lst (ws.map D.str))) S:=by
 unfold cb
 rw [ba]
 unfold ia
 by_cases q:ws=[]
 ·subst q
  simp? [show jn []="-" from rfl,show decide (("-":Str)="-")=true by decide,az]
 ·have hn:jn ws≠"-":=by
   unfold jn
   rw [if_neg q]
   match ws,q,h with
   | [w],_,h=>
    rw [show Txt.join ⟨#[44]⟩ [w]=Str.join ⟨#[44]⟩ [w] from StrLaws.glued_eq_join _ _]
    exact (h w (.head _)).ne
   | a :: b :: r,_,_=>exact pD (by decide) (by simp)
  have e:=jq (c:=44) (S:=S) (Nat.le_trans (qC h hl) (by decide))
  rw [show Txt.split (jn ws) ⟨#[44]⟩=ws by unfold jn;rw [if_neg q];exact gh q fun w hw=>(h w hw).c] at e
  simp? [decide_eq_false hn,cJ,cK,cA,comma,e,az]
theorem iI (h:Few ns):cZ [.d (.str (aI ns))] S=.ok (.d (au ns)) S:=by
 unfold cZ
 rw [ba]
 unfold iy
 have e:iK [some (.d (.str (aI ns)))] S=.ok (.d (.lst (ns.map D.int))) S:=i8 (xs:=ns.map fun n=>.str (nT n)) (by
  have:=iO (S:=S) (c8 h).1 (c8 h).2
  simp? [show cb [.d (.str (aI ns))] S=_ from this]
  rw [List.map_map,List.map_map,List.map_map]
  rfl) (Al2.of fun n hn S=>cV (h.2 n hn))
 simp? [e,az]
 rfl
theorem oN {t:Tri} (h:lS t):eO [.d (.str (eN t))] S=.ok (.d (aC t)) S:=by
 unfold eO
 rw [ba]
 unfold jL
 have e0:=jq (c:=58) (S:=S) (Nat.le_trans (vN h).len (by decide))
 rw [show Txt.split (eN t) ⟨#[58]⟩=[nT t.1,nT t.2.1,nT t.2.2] from gh (by simp) (tM (cB h.1).fr.2.1 (cB h.2.1).fr.2.1 (cB h.2.2).fr.2.1)] at e0
 have e:jX [some (.d (.str (eN t)))] S=.ok (.d (.lst [.int t.1,.int t.2.1,.int t.2.2])) S:=i8 (xs:=[.str (nT t.1),.str (nT t.2.1),.str (nT t.2.2)]) (by simp? [cJ,cK,cA,colon,e0]) (.cons (fun S=>cV h.1) (.cons (fun S=>cV h.2.1) (.cons (fun S=>cV h.2.2) .nil)))
 simp? [e,az]
 rfl
theorem qJ (h:-99≤n∧n≤99):bZ [.d (.str "number"),.d (.str (nT n))] S=.ok (.d (.int n)) S:=by
 unfold bZ
 rw [c5]
 unfold eC
 simp? [w11,cV h,az]
theorem dc (h:Few ns):bZ [.d (.str "numbers"),.d (.str (aI ns))] S=.ok (.d (au ns)) S:=by
 unfold bZ
 rw [c5]
 unfold eC
 simp? [w12,w22,iI h,az]
theorem oi (h:kE ts):bZ [.d (.str "tuples"),.d (.str (cT ts))] S=.ok (.d (.tup (ts.map aC))) S:=by
 unfold bZ
 rw [c5]
 unfold eC
 have e:jS [some (.d (.str "tuples")),some (.d (.str (cT ts)))] S=.ok (.d (.lst (ts.map aC))) S:=i8 (xs:=ts.map fun t=>.str (eN t)) (by
  have:=iO (S:=S) (dR h).1 (dR h).2
  simp? [show cb [.d (.str (cT ts))] S=_ from this]
  rw [List.map_map,List.map_map,List.map_map]
  rfl) (Al2.of fun t ht S=>oN (h.2 t ht))
 simp? [w13,w23,e,az]
theorem Eh (g:GoodW m ws) (hm:m≤4):Few ws:=⟨by have:=g.le;omega,fun n hn=>by have:=g.lim n hn;omega⟩
theorem yB (g:fO 4 4 wss):(∀ ws∈wss,Few ws)∧wss.length≤12:=⟨fun ws hw=>Eh (g.all ws hw) (by decide),by have:=g.le;omega⟩
theorem oU (g:fO 4 4 wss):eP [.d (.str (dk wss))] S=.ok (.d (aV wss)) S:=by
 unfold eP
 rw [ba]
 unfold jM
 obtain ⟨h,hl⟩:=yB g
 have hp:∀ w∈wss.map aI,mz w:=fun w hw=>by
  obtain ⟨ws,hm,rfl⟩:=List.mem_map.mp hw
  exact fK (h ws hm)
 have hn:wss.map aI≠[]:=fun z=>by
  have e:=List.map_eq_nil_iff.mp z
  have:=g.pos
  rw [e] at this
  exact absurd this (by decide)
 have e0:=jq (c:=32) (t:=dk wss) (S:=S) (by
  have:=jF (c:=32) (B:=190) fun w hw=>(hp w hw).len
  rw [List.length_map] at this
  have l:=g.le
  refine Nat.le_trans this ?_
  omega)
 rw [show Txt.split (dk wss) ⟨#[32]⟩=wss.map aI from gh hn fun w hw=>(hp w hw).b] at e0
 have e:jN [some (.d (.str (dk wss))),none] S=.ok (.d (.lst (wss.map au))) S:=i8 (xs:=wss.map fun ws=>.str (aI ws)) (by
  simp? [cJ,cK,cA,blank,e0]
  rw [List.map_map,List.map_map,List.map_map]
  rfl) (Al2.of fun ws hw S=>iI (h ws hw))
 have e2:=rn (S:=S) g (by decide) (by decide)
 unfold aV at e2 ⊢
 simp? [e,e2,az]
theorem mW (g:fM k ns) (hk:k≤4):Few ns:=⟨by have:=g.le;omega,fun n hn=>by have:=g.dom n hn;omega⟩
theorem qm (g:fR k wi) (hk:k≤4):js wi:=by
 cases wi with
 | unl ns=>exact mW g hk
 | man ns bs=>exact ⟨mW g.1 hk,by have:=g.2.le;omega,fun t ht=>by have:=g.2.lim t ht;unfold lS;omega⟩
 | sum ns ws lo hi=>
  obtain ⟨g1,g2,g3,g4⟩:=g
  have:=g1.le
  exact ⟨mW g1 hk,⟨by omega,fun n hn=>by have:=g3 n hn;omega⟩,by omega,by omega⟩
 | row ns ds es=>
  obtain ⟨g1,g2,g3,g4,g5⟩:=g
  exact ⟨mW g1 hk,⟨g2.le,fun t ht=>by have:=g2.lim t ht;unfold lS;omega⟩,by omega,fun n hn=>by have:=g4 n hn;omega⟩
 | han ns ls=>
  obtain ⟨g1,g2,g3⟩:=g
  have:=g1.le
  exact ⟨mW g1 hk,by omega,fun n hn=>by have:=g3 n hn;omega⟩
theorem dP (g:fR k wi) (hk:k≤4) (hw:(wiP wi).map D.str=w :: ys) (hf:pk fz (xOp oIx (ab 1) (xC (.int 0))) (xN mkT aj) [some (.d (.str (wiT wi))),some (.d (.lst (w :: ys))),none,none] S=.ok (.kt fs) S)
  (hit:iZk (aa (ab 2) (aa (xSl oSl (ab 1) (dW (xC (.int 1))) cW) aj)) [some (.d (.str (wiT wi))),some (.d (.lst (w :: ys))),some (.kt fs),none] S=.ok ⟨cn (fs.map D.str) ys,none⟩ S)
  (hl:ys.length=fs.length) (ha:Al3 bZ (fs.map D.str) ys zs) (hz:D.tup (w :: zs)=wiD wi) (hzl:zs.length≤10):d6 [.d (.str (wiT wi))] S=.ok (.d (wiD wi)) S:=by
 unfold d6
 rw [ba]
 unfold j5
 have h:=qm g hk
 have e0:=jq (c:=32) (t:=wiT wi) (S:=S) (by
  have l1:=jF (c:=32) (B:=190) fun w hw=>((fb h).1 w hw).len
  have l2:=(fb h).2.2
  refine Nat.le_trans l1 ?_
  omega)
 rw [show Txt.split (wiT wi) ⟨#[32]⟩=wiP wi from gh (fun z=>by have:=(fb h).2.1;rw [z] at this;exact absurd this (by decide)) fun w hw=>((fb h).1 w hw).b,hw] at e0
 have e1:kz [some (.d (.str (wiT wi))),some (.d (.lst (w :: ys))),some (.kt fs),none] S=.ok (.d (.lst zs)) S:=vq hit ha
 have e2:eE (w :: ys) none (some 1)=[w]:=by
  rw [show (some (1:Int))=some ((1:Nat):Int) from rfl,vb]
  rfl
 have e3:bz (.d (.lst [w])) (.d (.lst zs)) S=.ok (.d (.lst (w :: zs))) S:=by
  rw [pL (by show 1+zs.length≤100000;omega)]
  rfl
 have e4:=sC (S:=S) g hk
 have e5:my [.kt fs] S=.ok (.d (.int (fs.length:Nat))) S:=by
  rw [show my [.kt fs] S=.ok (.d (.int ((fs.map D.str).length:Nat))) S from rfl,List.length_map]
 have e6:bB [.d (.lst (w :: ys))] S=.ok (.d (.int ((fs.length:Nat)+1))) S:=by
  rw [uu,List.length_cons,hl]
  rfl
 rw [← hz] at e4 ⊢
 generalize pk fz (xOp oIx (ab 1) (xC (.int 0))) (xN mkT aj)=A at hf ⊢
 simp? [cJ,cK,cA,blank,e0,hf,e5,e6,(show decide (((ys.length+1:Nat):Int)=((fs.length:Nat):Int)+1)=true from decide_eq_true (by omega)),e2,e1,e3,e4,az]
theorem ql (g:fR k wi) (hk:k≤4):d6 [.d (.str (wiT wi))] S=.ok (.d (wiD wi)) S:=by
 have h:=qm g hk
 cases wi with
 | unl ns=>exact dP (fs:=["numbers"]) g hk rfl (by rfl) (by rfl) rfl (.cons (fun S=>dc h) .nil) rfl (by simp)
 | man ns bs=>exact dP (fs:=["numbers","tuples"]) g hk rfl (by rfl) (by rfl) rfl (.cons (fun S=>dc h.1) (.cons (fun S=>oi h.2) .nil)) rfl (by simp)
 | sum ns ws lo hi=>exact dP (fs:=["numbers","numbers","number","number"]) g hk rfl (by rfl) (by rfl) rfl (.cons (fun S=>dc h.1) (.cons (fun S=>dc h.2.1) (.cons (fun S=>qJ h.2.2.1) (.cons (fun S=>qJ h.2.2.2) .nil)))) rfl (by simp)
 | row ns ds es=>exact dP (fs:=["numbers","tuples","numbers"]) g hk rfl (by rfl) (by rfl) rfl (.cons (fun S=>dc h.1) (.cons (fun S=>oi h.2.1) (.cons (fun S=>dc h.2.2) .nil))) rfl (by simp)
 | han ns ls=>exact dP (fs:=["numbers","numbers"]) g hk rfl (by rfl) (by rfl) rfl (.cons (fun S=>dc h.1) (.cons (fun S=>dc h.2) .nil)) rfl (by simp)
theorem CV (wi:Wi):D.depth (wiD wi) < 10:=by
 cases wi with
 | unl ns=>
  show max 0 (max (D.bf (ns.map D.int)+1) 0)+1 < 10
  rw [cj];decide
 | man ns bs=>
  show max 0 (max (D.bf (ns.map D.int)+1) (max (D.bf (bs.map aC)+1) 0))+1 < 10
  have:=eQ bs
  rw [cj];omega
 | sum ns ws lo hi=>
  show max 0 (max (D.bf (ns.map D.int)+1) (max (D.bf (ws.map D.int)+1) (max 0 (max 0 0))))+1 < 10
  rw [cj,cj];decide
 | row ns ds es=>
  show max 0 (max (D.bf (ns.map D.int)+1) (max (D.bf (ds.map aC)+1) (max (D.bf (es.map D.int)+1) 0)))+1 < 10
  have:=eQ ds
  rw [cj,cj];omega
 | han ns ls=>
  show max 0 (max (D.bf (ns.map D.int)+1) (max (D.bf (ls.map D.int)+1) 0))+1 < 10
  rw [cj,cj];decide
theorem vJ:∀ wss:List (List Int),D.bf (wss.map au)≤1
 | []=>by decide
 | ws :: wss=>by
  have:=vJ wss
  show max (D.bf (ws.map D.int)+1) (D.bf (wss.map au))≤1
  rw [cj];omega
theorem zD:bM 10 [.d (aV wss),.d (aV wss)] S=.ok (.d (.bl true)) S:=same_self 10 _ (by show D.bf (wss.map au)+1 < 10;have:=vJ wss;omega) S
theorem zh:bM 10 [.d (wiD wi),.d (wiD wi)] S=.ok (.d (.bl true)) S:=same_self 10 _ (CV wi) S
theorem su {t:Str}:bM 10 [.d (.str t),.d (.str t)] S=.ok (.d (.bl true)) S:=same_self 10 _ (by show 0 < 10;decide) S
theorem wq (g:fO 4 4 wss):∃ y,qL [x0,x1,x2,some (.d (aV wss)),some (.d (.str (dk wss))),x5,x6,x7] S=.ok (.nx,[x0,x1,x2,some (.d (aV wss)),some (.d (.str (dk wss))),y,x6,x7]) S:=by
 obtain ⟨τ',S',e,y,rfl,rfl⟩:=d8 (show _=qL [x0,x1,x2,some (.d (aV wss)),some (.d (.str (dk wss))),x5,x6,x7] S from rfl) (S1:=S) (gd:=none) (items:=(List.range 2).map fun i=>Vl.d (.int (i:Nat))) (by walk_at "mx";rw [o9 (by decide)];rfl)
  (fun i τ S'=>∃ y,τ=[x0,x1,x2,some (.d (aV wss)),some (.d (.str (dk wss))),y,x6,x7]∧S'=S) ⟨_,rfl,rfl⟩ (by
   rintro i z τ S' hz ⟨y,rfl,rfl⟩
   refine ⟨_,_,.nx,_,_,gi,?_,.inl rfl,trivial,some z,rfl,rfl⟩
   simp? [oU g,zD])
 exact ⟨y,e⟩
theorem yW (g:fR k wi) (hk:k≤4):∃ y,qE [x0,x1,x2,x3,some (.d (.str (wiT wi))),x5,x6,some (.d (wiD wi))] S=.ok (.nx,[x0,x1,x2,x3,some (.d (.str (wiT wi))),y,x6,some (.d (wiD wi))]) S:=by
 obtain ⟨τ',S',e,y,rfl,rfl⟩:=d8 (show _=qE [x0,x1,x2,x3,some (.d (.str (wiT wi))),x5,x6,some (.d (wiD wi))] S from rfl) (S1:=S) (gd:=none) (items:=(List.range 2).map fun i=>Vl.d (.int (i:Nat))) (by walk_at "mx";rw [o9 (by decide)];rfl)
  (fun i τ S'=>∃ y,τ=[x0,x1,x2,x3,some (.d (.str (wiT wi))),y,x6,some (.d (wiD wi))]∧S'=S) ⟨_,rfl,rfl⟩ (by
   rintro i z τ S' hz ⟨y,rfl,rfl⟩
   refine ⟨_,_,.nx,_,_,gi,?_,.inl rfl,trivial,some z,rfl,rfl⟩
   simp? [ql g hk,zh])
 exact ⟨y,e⟩
def kinds:List Int:=[0,1,1,2,3,3,4]
theorem xr {R:Sto} (hp:Pen o) (g:fO 4 4 wss):∃ (o':Ob) (y4 y5 y6 y7:Option Vl),Pen o'∧pP [x0,some (.r 0),x2,some (.d (aV wss)),x4,x5,x6,x7] (o :: R)=.ok (.nx,[x0,some (.r 0),x2,some (.d (aV wss)),y4,y5,y6,y7]) (o' :: R):=by
 obtain ⟨τ',S',e,o',y4,y5,y6,y7,hp',rfl,rfl⟩:=d8 (show _=pP [x0,some (.r 0),x2,some (.d (aV wss)),x4,x5,x6,x7] (o :: R) from rfl) (S1:=o :: R) (gd:=none) (items:=(kinds.map D.int).map Vl.d) (by walk_at "mx";rfl)
  (fun i τ S'=>∃ (o':Ob) (y4 y5 y6 y7:Option Vl),Pen o'∧τ=[x0,some (.r 0),x2,some (.d (aV wss)),y4,y5,y6,y7]∧S'=o' :: R) ⟨o,_,_,_,_,hp,rfl,rfl⟩ (by
   rintro i z τ S' hz ⟨o',y4,y5,y6,y7,hp',rfl,rfl⟩
   obtain ⟨k,hk,rfl⟩:=ints_get hz
   have hk:=List.mem_of_getElem? hk
   have hk:0≤k∧k < 5:=by
    simp only [kinds,List.mem_cons,List.not_mem_nil,or_false] at hk
    omega
   obtain ⟨wi,o2,gw,_,hp2,e2⟩:=yQ (R:=R) hp' g (by decide) (by decide) hk.1 hk.2
   have h4:wss.length≤4:=by have:=g.le;omega
   have hf:=qm gw h4
   obtain ⟨y,e3⟩:=yW (S:=o2 :: R) (x0:=x0) (x1:=some (.r 0)) (x2:=x2) (x3:=some (.d (aV wss))) (x5:=y5) (x6:=some (.d (.int k))) gw h4
   refine ⟨_,_,.nx,_,o2 :: R,gi,?_,.inl rfl,trivial,o2,some (.d (.str (wiT wi))),y,some (.d (.int k)),some (.d (wiD wi)),hp2,rfl,rfl⟩
   simp? [e2,uj hf,gR hf,su,e3])
 exact ⟨o',y4,y5,y6,y7,hp',e⟩
theorem xt (ns:List Int):tK [.sc ns] []=.ok (.d (.bl true)) []:=by
 unfold tK
 rw [ba]
 unfold vF
 obtain ⟨o,hp,e0⟩:=zp ns
 obtain ⟨τ',S',e,o',y2,y3,y4,y5,y6,y7,hp',rfl,rfl⟩:=d8 (show _=vc [some (.sc ns),some (.r 0),none,none,none,none,none,none] [o] from rfl) (S1:=[o]) (gd:=none) (items:=(List.range 4).map fun i=>Vl.d (.int (i:Nat))) (by walk_at "mx";rw [o9 (by decide)];rfl)
  (fun i τ S'=>∃ (o':Ob) (y2 y3 y4 y5 y6 y7:Option Vl),Pen o'∧τ=[some (.sc ns),some (.r 0),y2,y3,y4,y5,y6,y7]∧S'=[o']) ⟨o,_,_,_,_,_,_,hp,rfl,rfl⟩ (by
   rintro i z τ S' hz ⟨o',y2,y3,y4,y5,y6,y7,hp',rfl,rfl⟩
   obtain ⟨o1,hp1,e1⟩:=zf (R:=[]) hp'
   obtain ⟨wss,o2,g,hp2,e2⟩:=wb (R:=[]) (names:=4) (most:=4) hp1 (by decide) (by decide) (by decide) (by decide)
   obtain ⟨f1,f2⟩:=yB g
   obtain ⟨y,e3⟩:=wq (S:=[o2]) (x0:=some (.sc ns)) (x1:=some (.r 0)) (x2:=some z) (x5:=y5) (x6:=y6) (x7:=y7) g
   obtain ⟨o3,z4,z5,z6,z7,hp3,e4⟩:=xr (R:=[]) (x0:=some (.sc ns)) (x2:=some z) (x4:=some (.d (.str (dk wss)))) (x5:=y) (x6:=y6) (x7:=y7) hp2 g
   refine ⟨_,_,.nx,_,[o3],gi,?_,.inl rfl,trivial,o3,some z,some (.d (aV wss)),z4,z5,z6,z7,hp3,rfl,rfl⟩
   simp? [e1,e2,t7 f1 f2,oP f1 f2,su,e3,e4])
 have w1:cf [.d (.tup [.str "row",.tup [.int 0],.tup [],.tup []])] [o']=.ok (.d (.str "row 0 - -")) [o']:=by
  have:=gR (wi:=.row [0] [] []) (S:=[o']) ⟨⟨by decide,by simp⟩,⟨by decide,by simp⟩,⟨by decide,by simp⟩⟩
  rw [show wiT (.row [0] [] [])="row 0 - -" by decide +kernel] at this
  exact this
 have w2:cf [.d (.tup [.str "many",.tup [.int 2,.int 0],.tup [.tup [.int (-9),.int 0,.int 4]]])] [o']=.ok (.d (.str "many 2,0 -9:0:4")) [o']:=by
  have:=gR (wi:=.man [2,0] [(-9,0,4)]) (S:=[o']) ⟨⟨by decide,by simp⟩,⟨by decide,by simp [lS]⟩⟩
  rw [show wiT (.man [2,0] [(-9,0,4)])="many 2,0 -9:0:4" by decide +kernel] at this
  exact this
 simp? [e0,e,w1,w2,show decide (("row 0 - -":Str)="row 0 - -")=true by decide,show decide (("many 2,0 -9:0:4":Str)="many 2,0 -9:0:4")=true by decide]
 rfl
def top (i:Nat):Stmt:=PySem.Challenge.pw_wishstrike_k56_stands_and_wishes_written.main.body.getD i (.Pass ⟨0,0,0,0⟩)
structure Txt (w:World) (K:PySem.W.Frag) (mg:Str→Option Value):Prop where
 fm_FORMS:Fm w K mg "FORMS" fz
 is_whole:Df K mg "is_whole" (top 4)
 is_within:Df K mg "is_within" (top 5)
 are_within:Df K mg "are_within" (top 6)
 are_rising:Df K mg "are_rising" (top 7)
 are_unlike:Df K mg "are_unlike" (top 8)
 is_span:Df K mg "is_span" (top 9)
 are_names:Df K mg "are_names" (top 10)
 is_bound:Df K mg "is_bound" (top 11)
 are_bounds:Df K mg "are_bounds" (top 12)
 is_door:Df K mg "is_door" (top 13)
 are_doors:Df K mg "are_doors" (top 14)
 is_many:Df K mg "is_many" (top 15)
 is_sum:Df K mg "is_sum" (top 16)
 is_row:Df K mg "is_row" (top 17)
 is_hand:Df K mg "is_hand" (top 18)
 is_of_its_kind:Df K mg "is_of_its_kind" (top 19)
 are_worths:Df K mg "are_worths" (top 21)
 is_stand:Df K mg "is_stand" (top 22)
 is_wish:Df K mg "is_wish" (top 23)
 show_joined:Df K mg "show_joined" (top 26)
 show_numbers:Df K mg "show_numbers" (top 27)
 show_tuples:Df K mg "show_tuples" (top 28)
 show_thing:Df K mg "show_thing" (top 29)
 show_stand:Df K mg "show_stand" (top 30)
 show_wish:Df K mg "show_wish" (top 31)
 is_number:Df K mg "is_number" (top 32)
 read_number:Df K mg "read_number" (top 33)
 split_joined:Df K mg "split_joined" (top 34)
 read_numbers:Df K mg "read_numbers" (top 35)
 read_tuple:Df K mg "read_tuple" (top 36)
 read_thing:Df K mg "read_thing" (top 37)
 read_stand:Df K mg "read_stand" (top 38)
 read_wish:Df K mg "read_wish" (top 39)
 l_spread:Df K mg "_law_spread" (top 41)
 l_open:Df K mg "_law_open" (top 42)
 l_anew:Df K mg "_law_anew" (top 43)
 l_take:Df K mg "_law_take" (top 44)
 l_same:Df K mg "_law_same" (top 45)
 l_worths:Df K mg "_law_worths" (top 46)
 l_stand:Df K mg "_law_stand" (top 47)
 l_some_names:Df K mg "_law_some_names" (top 48)
 l_near_worth:Df K mg "_law_near_worth" (top 49)
 l_bounds:Df K mg "_law_bounds" (top 50)
 l_doors:Df K mg "_law_doors" (top 51)
 l_wish_of:Df K mg "_law_wish_of" (top 52)
 l_numbers_text:Df K mg "_law_numbers_text" (top 53)
 l_triples_text:Df K mg "_law_triples_text" (top 54)
 l_stand_text:Df K mg "_law_stand_text" (top 55)
 l_wish_text:Df K mg "_law_wish_text" (top 56)
 law:Df K mg "law" (top 57)
 z_ValueError:mg "ValueError"=none
 z_all:mg "all"=none
 z_bool:mg "bool"=none
 z_enumerate:mg "enumerate"=none
 z_int:mg "int"=none
 z_isinstance:mg "isinstance"=none
 z_len:mg "len"=none
 z_list:mg "list"=none
 z_max:mg "max"=none
 z_min:mg "min"=none
 z_range:mg "range"=none
 z_set:mg "set"=none
 z_sorted:mg "sorted"=none
 z_str:mg "str"=none
 z_tuple:mg "tuple"=none
 z_zip:mg "zip"=none
theorem iS:bootBuiltins "all"=some (.builtin "all"):=by decide +kernel
theorem iW:bootBuiltins "bool"=some (.type "bool"):=by decide +kernel
theorem me:bootBuiltins "int"=some (.type "int"):=by decide +kernel
theorem bg:bootBuiltins "len"=some (.builtin "len"):=by decide +kernel
theorem kZ:bootBuiltins "list"=some (.type "list"):=by decide +kernel
theorem vS:bootBuiltins "max"=some (.builtin "max"):=by decide +kernel
theorem m9:bootBuiltins "min"=some (.builtin "min"):=by decide +kernel
theorem CB:bootBuiltins "set"=some (.type "set"):=by decide +kernel
theorem nJ:bootBuiltins "sorted"=some (.builtin "sorted"):=by decide +kernel
theorem dM:bootBuiltins "str"=some (.type "str"):=by decide +kernel
theorem bx:bootBuiltins "tuple"=some (.type "tuple"):=by decide +kernel
section
variable {P:Program} {w:World} {K:PySem.W.Frag} {mg:Str→Option Value}
theorem vU (T:Txt w K mg):OkE P w K mg 1 "_law_open" ["script"] jk:=by
 refine bp ["script","cells","k","cell"] T.l_open fun _ _ _ _ _ _ _ _ hr q=>?_
 exact (ao (aK q (bc sP tO T.z_list kZ (ae (uy (rv 0) iY (fD ah)) af)))
 (ao (d4 (xG rfl T.z_enumerate (uy (rv 0) (fD ah) (fD ah))) (j4 (cR (aL q) (cR (aL q) jf))) (aq (ka (aE aY a_ (aD (rv 1) (aE dH (bV _) (rv 2) ah)) (rv 3)) (j_ (rv 1) (aE dH (bV _) (rv 2) ah) mD jg))))
 (aq (aw (gC (ae (Ef (rv 1)) (ae ah (ae ah af))))))))
theorem rq (T:Txt w K mg):OkE P w K mg 1 "_law_spread" ["cell","at"] eS:=by
 refine bp ["cell","at","one","two","three"] T.l_spread fun _ _ _ _ _ _ _ _ hr q=>?_
 exact (ao (aQ (aO DN (bQ _) (rv 0) (aE vZ (bV _) ah ah)) (aq (aw (rv 0))) aG)
 (ao (aK q (aE dH (bV _) (aE aY a_ (aE aY a_ (aE d_ (bV _) (aE dH (bV _) (rv 0) ah) ah) (aE d_ (bV _) (rv 1) ah)) ah) ah))
 (ao (aK q (aE dH (bV _) (aE aY a_ (aE aY a_ (aE d_ (bV _) (rv 2) (rv 2)) (aE d_ (bV _) (rv 1) ah)) (aE dH (bV _) (rv 0) ah)) ah))
 (ao (aK q (aE dH (bV _) (aE aY a_ (aE aY a_ (aE d_ (bV _) (rv 3) (rv 3)) (aE d_ (bV _) (rv 2) ah)) ah) ah))
 (aq (aw (aE aY a_ (aE d_ (bV _) (aE aY a_ (aE d_ (bV _) (rv 2) ah) (rv 3)) ah) (rv 4))))))))
theorem aF (T:Txt w K mg):OkE P w K mg 2 "_law_take" ["pen","many"] aH:=by
 refine bp ["pen","many","at","cell","found"] T.l_take fun _ _ _ _ _ _ _ _ hr q=>?_
 exact (ao (aQ (aO pd (bQ _) (aD (rv 0) ah) (rv 1)) (ao (aK q (aD (rv 0) ah))
 (ao (aK q ah)
 (ao (aQ (aO pd (bQ _) (rv 2) (aA aJ aP T.z_len bg (ae (aD (rv 0) ah) af))) (aq (aK q (aD (aD (rv 0) ah) (rv 2)))) (aq (aQ (aO pv (bQ _) (aA aJ aP T.z_len bg (ae (aD (rv 0) ah) af)) ah) (aq (aK q (aE dH (bV _) (aD (aD (rv 0) ah) (aE dH (bV _) (aE aY a_ (aE d_ (bV _) (rv 2) ah) ah) (aA aJ aP T.z_len bg (ae (aD (rv 0) ah) af)))) (aE aY a_ (aE vZ (bV _) ah ah) (rv 2))))) aG)))
 (ao (ka (aE aY a_ (rv 2) ah) (j_ (rv 0) ah mD jg))
 (aq (ka (ak (rq T) hr (ae (rv 3) (ae (rv 2) af))) (j_ (rv 0) ah mD jg))))))) aG)
 (ao (aK q (aE dH (bV _) (aD (rv 0) ah) (rv 1)))
 (ao (ka (aE yV (bV _) (aD (rv 0) ah) (rv 1)) (j_ (rv 0) ah mD jg))
 (aq (aw (rv 4))))))
theorem rh (T:Txt w K mg):OkE P w K mg 3 "_law_worths" ["pen","most","near"] gv:=by
 refine bp ["pen","most","near","found","k","worth"] T.l_worths fun _ _ _ _ _ _ _ _ hr q=>?_
 have hu:=hr.units
 exact (ao (aK q (gC af))
 (ao (d4 (cQ rfl T.z_range (ae (aE aY a_ ah (ak (aF T) hr (ae (rv 0) (ae (rv 1) af)))) af)) (aL q) (ao (aK q (aE aY a_ (rv 2) (ak (aF T) hr (ae (rv 0) (ae ah af)))))
 (ao (aQ (aO (bj hu) bh (ak (aF T) hr (ae (rv 0) (ae ah af))) ah) (aq (aK q (aE gW (gP _) (ak (aF T) hr (ae (rv 0) (ae ah af))) ah))) aG)
 (aq (aQ (aO (kW hu) kY (rv 5) (rv 3)) (aq (fq (hV (rv 3) (rv 5)))) aG)))))
 (aq (aw (bc bF bJ T.z_tuple bx (ae (aA mL nO T.z_sorted nJ (ae (rv 3) af)) af))))))
theorem sU (T:Txt w K mg):OkE P w K mg 4 "_law_stand" ["pen","names","most"] ic:=by
 refine bp ["pen","names","most","near"] T.l_stand fun _ _ _ _ _ _ _ _ hr q=>?_
 refine' (ao (aK q (aE gW (gP _) (ak (aF T) hr (ae (rv 0) (ae ah af))) ah))
 (aq (aw (bc bF bJ T.z_tuple bx (ae (bL bC ["name","pen","names","most","near"] q (cQ rfl T.z_range (ae (aE aY a_ ah (ak (aF T) hr (ae (rv 0) (ae (rv 1) af)))) af)) ?g0 rt0 ?e0) af)))))
 (case g0=>intro _ _ _ _ q;exact (aL q))
 (case e0=>intro _ _ _ _;exact (ak (rh T) hr (ae (rv 1) (ae (rv 3) (ae (rv 4) af)))))
theorem vB (T:Txt w K mg):OkE P w K mg 1 "_law_anew" ["pen"] jy:=by
 refine bp ["pen"] T.l_anew fun _ _ _ _ _ _ _ _ hr q=>?_
 exact (ao (ka ah (j_ (rv 0) ah mD jg))
 (aq (aw (rv 0))))
theorem cS (T:Txt w K mg):OkE P w K mg 1 "_law_numbers_text" ["numbers"] bO:=by
 refine bp ["numbers"] T.l_numbers_text fun _ _ _ _ _ _ _ _ hr q=>?_
 have hu:=hr.units
 refine' (aq (aw (mf (aO (bj hu) bh (rv 0) (bU af)) aM (dY PySem.F.slot_str_join PySem.F.type_str_join eG de aM (bL bC ["number","numbers"] q (bS (rv 0)) ?g0 rt0 ?e0)))))
 (case g0=>intro _ _ _ _ q;exact (aL q))
 (case e0=>intro _ _ _ _;exact (bc cO cP T.z_str dM (ae (rv 0) af)))
theorem m7 (T:Txt w K mg):OkE P w K mg 2 "_law_stand_text" ["stand"] dS:=by
 refine bp ["stand"] T.l_stand_text fun _ _ _ _ _ _ _ _ hr q=>?_
 refine' (aq (aw (dY PySem.F.slot_str_join PySem.F.type_str_join eG de aM (bL bC ["worths","stand"] q (bS (rv 0)) ?g0 rt0 ?e0))))
 (case g0=>intro _ _ _ _ q;exact (aL q))
 (case e0=>intro _ _ _ _;exact (ak (cS T) hr (ae (rv 0) af)))
theorem mw (T:Txt w K mg):∀ n:Nat,OkE P w K mg (0+n+1) "_law_same" ["found","due"] (bM n)
 | 0=>bp ["found","due"] T.l_same fun _ _ _ _ _ _ _ _ hr q=>v8
 | n+1=>by
  have ih:=mw T n
  have eK:=fun (_:Txt w K mg)=>ih
  · refine bp ["found","due"] T.l_same fun _ _ _ _ _ _ _ _ hr q=>?_
    have hu:=hr.units
    refine' (ao (aQ (aO vp vL (rv 1) ux) (aq (aw (b5 vp vL (rv 0) ux))) aG)
 (ao (aQ (RW.rt (fG (bK (br T.z_isinstance T.z_bool iW (rv 1))) (d9 (bK (br T.z_isinstance T.z_bool iW (rv 0)))))) (aq (aw (bA (br T.z_isinstance T.z_bool iW (rv 1)) (bA (br T.z_isinstance T.z_bool iW (rv 0)) (bP (b5 (bj hu) bh (rv 0) (rv 1))))))) aG)
 (ao (aQ (bK (br T.z_isinstance T.z_int me (rv 1))) (aq (aw (bA (br T.z_isinstance T.z_int me (rv 0)) (bP (b5 (bj hu) bh (rv 0) (rv 1)))))) aG)
 (ao (aQ (bK (br T.z_isinstance T.z_str dM (rv 1))) (aq (aw (bA (br T.z_isinstance T.z_str dM (rv 0)) (bP (b5 (bj hu) bh (rv 0) (rv 1)))))) aG)
 (ao (aQ (RW.rt (fG (aO (fc hu) eY (br T.z_isinstance T.z_tuple bx (rv 1)) (br T.z_isinstance T.z_tuple bx (rv 0))) (d9 (aO (fc hu) eY (br T.z_isinstance T.z_list kZ (rv 1)) (br T.z_isinstance T.z_list kZ (rv 0)))))) (aq (aw cU)) aG)
 (ao (aQ (aO (fc hu) eY (aA aJ aP T.z_len bg (ae (rv 0) af)) (aA aJ aP T.z_len bg (ae (rv 1) af))) (aq (aw cU)) aG)
 (aq (aw (b5 (kW hu) kY cU (bL bC ["one","other","found","due"] q (vy rfl T.z_zip (ae (rv 0) (ae (rv 1) af))) ?g0 rt0 ?e0))))))))))
    (case g0=>intro _ _ _ _ q;exact (j4 (cR (aL q) (cR (aL q) jf))))
    (case e0=>intro _ _ _ _;exact (ak (eK T) hr (ae (rv 0) (ae (rv 1) af)) (by omega)))
theorem eK (T:Txt w K mg):OkE P w K mg 11 "_law_same" ["found","due"] (bM 10):=(mw T 10)
theorem je (T:Txt w K mg):OkE P w K mg 1 "show_joined" ["texts"] dv:=by
 refine bp ["texts"] T.show_joined fun _ _ _ _ _ _ _ _ hr q=>?_
 exact (aq (aw (mf (bK (rv 0)) (dY PySem.F.slot_str_join PySem.F.type_str_join eG de aM (rv 0)) aM)))
theorem iF (T:Txt w K mg):OkE P w K mg 2 "show_numbers" ["numbers"] da:=by
 refine bp ["numbers"] T.show_numbers fun _ _ _ _ _ _ _ _ hr q=>?_
 refine' (aq (aw (ak (je T) hr (ae (bL bC ["number","numbers"] q (bS (rv 0)) ?g0 rt0 ?e0) af))))
 (case g0=>intro _ _ _ _ q;exact (aL q))
 (case e0=>intro _ _ _ _;exact (bc cO cP T.z_str dM (ae (rv 0) af)))
theorem oG (T:Txt w K mg):OkE P w K mg 3 "show_stand" ["stand"] eU:=by
 refine bp ["stand"] T.show_stand fun _ _ _ _ _ _ _ _ hr q=>?_
 refine' (aq (aw (dY PySem.F.slot_str_join PySem.F.type_str_join eG de aM (bL bC ["worths","stand"] q (bS (rv 0)) ?g0 rt0 ?e0))))
 (case g0=>intro _ _ _ _ q;exact (aL q))
 (case e0=>intro _ _ _ _;exact (ak (iF T) hr (ae (rv 0) af)))
theorem pJ (T:Txt w K mg):OkE P w K mg 1 "is_number" ["text"] fJ:=by
 refine bp ["text","figures"] T.is_number fun _ _ _ _ _ _ _ _ hr q=>?_
 have hu:=hr.units
 refine' (ao (aK q (mf (bK (dY PySem.F.slot_str_startswith PySem.F.type_str_startswith ue rm (rv 0) aM)) (Bh (rv 0) (fD ah) iY) (rv 0)))
 (ao (aQ (RW.rt (fG (cm (qf fe (bQ _) fe (bQ _) ah (aA u6 uP T.z_len bg (ae (rv 1) af)) ah)) (d9 (cm (bK (aA (eM rfl) fw T.z_all iS (ae (bL bC ["sign","text","figures"] q (Af (rv 1)) ?g0 rt0 ?e0) af))))))) (aq (aw cU)) aG)
 (aq (aw (EX (b5 (bj hu) bh (rv 0) aM) (bP (b5 (fc hu) eY (Bt (rv 1) ah) aM)))))))
 (case g0=>intro _ _ _ _ q;exact (aL q))
 (case e0=>intro _ _ _ _;exact (b5 BG zC (rv 0) aM))
theorem fh (T:Txt w K mg):OkE P w K mg 2 "read_number" ["text"] cM:=by
 refine bp ["text"] T.read_number fun _ _ _ _ _ _ _ _ hr q=>?_
 exact (ao (aQ (cm (bK (ak (pJ T) hr (ae (rv 0) af)))) (aq jj) aG)
 (aq (aw (bc vD uG T.z_int me (ae (rv 0) af)))))
theorem il (T:Txt w K mg):OkE P w K mg 1 "split_joined" ["text"] cb:=by
 refine bp ["text"] T.split_joined fun _ _ _ _ _ _ _ _ hr q=>?_
 have hu:=hr.units
 exact (aq (aw (mf (aO (bj hu) bh (rv 0) aM) (dJ af) (dY PySem.F.slot_str_split PySem.F.type_str_split ju gm (rv 0) aM))))
theorem ig (T:Txt w K mg):OkE P w K mg 3 "read_numbers" ["text"] cZ:=by
 refine bp ["text"] T.read_numbers fun _ _ _ _ _ _ _ _ hr q=>?_
 refine' (aq (aw (bc bF bJ T.z_tuple bx (ae (bL bC ["part","text"] q (bS (ak (il T) hr (ae (rv 0) af))) ?g0 rt0 ?e0) af))))
 (case g0=>intro _ _ _ _ q;exact (aL q))
 (case e0=>intro _ _ _ _;exact (ak (fh T) hr (ae (rv 0) af)))
theorem rA (T:Txt w K mg):OkE P w K mg 1 "is_whole" ["thing"] gg:=by
 refine bp ["thing"] T.is_whole fun _ _ _ _ _ _ _ _ hr q=>?_
 exact (aq (aw (bA (br T.z_isinstance T.z_int me (rv 0)) (bP (Bp (br T.z_isinstance T.z_bool iW (rv 0)))))))
theorem cF (T:Txt w K mg):OkE P w K mg 2 "is_within" ["thing","low","high"] bX:=by
 refine bp ["thing","low","high"] T.is_within fun _ _ _ _ _ _ _ _ hr q=>?_
 exact (aq (aw (bA (ak (rA T) hr (ae (rv 0) af)) (bP (lU fe (bQ _) fe (bQ _) (rv 1) (rv 0) (rv 2))))))
theorem dt (T:Txt w K mg):OkE P w K mg 3 "are_within" ["thing","low","high"] cu:=by
 refine bp ["thing","low","high"] T.are_within fun _ _ _ _ _ _ _ _ hr q=>?_
 refine' (aq (aw (bA (br T.z_isinstance T.z_tuple bx (rv 0)) (bP (aA (eM rfl) fw T.z_all iS (ae (bL bC ["part","thing","low","high"] q (bS (rv 0)) ?g0 rt0 ?e0) af))))))
 (case g0=>intro _ _ _ _ q;exact (aL q))
 (case e0=>intro _ _ _ _;exact (ak (cF T) hr (ae (rv 0) (ae (rv 2) (ae (rv 3) af)))))
theorem fY (T:Txt w K mg):OkE P w K mg 1 "are_rising" ["things"] cq:=by
 refine bp ["things"] T.are_rising fun _ _ _ _ _ _ _ _ hr q=>?_
 refine' (aq (aw (aA (eM rfl) fw T.z_all iS (ae (bL bC ["at","things"] q (vo rfl T.z_range (ae ah (ae (aA aJ aP T.z_len bg (ae (rv 0) af)) af))) ?g0 rt0 ?e0) af))))
 (case g0=>intro _ _ _ _ q;exact (aL q))
 (case e0=>intro _ _ _ _;exact (b5 pd (bQ _) (aD (rv 1) (aE gW (gP _) (rv 0) ah)) (aD (rv 1) (rv 0))))
theorem oT (T:Txt w K mg):OkE P w K mg 4 "are_worths" ["thing"] eX:=by
 refine bp ["thing"] T.are_worths fun _ _ _ _ _ _ _ _ hr q=>?_
 exact (aq (aw (bA (ak (dt T) hr (ae (rv 0) (ae (fL d5 dz ah) (ae ah af)))) (bA (lU fe (bQ _) fe (bQ _) ah (aA aJ aP T.z_len bg (ae (rv 0) af)) ah) (bP (ak (fY T) hr (ae (rv 0) af)))))))
theorem rg (T:Txt w K mg):OkE P w K mg 5 "is_stand" ["thing"] gf:=by
 refine bp ["thing"] T.is_stand fun _ _ _ _ _ _ _ _ hr q=>?_
 refine' (ao (aQ (RW.rt (fG (cm (bK (br T.z_isinstance T.z_tuple bx (rv 0)))) (d9 (cm (qf fe (bQ _) fe (bQ _) ah (aA aJ aP T.z_len bg (ae (rv 0) af)) ah))))) (aq (aw cU)) aG)
 (aq (aw (aA (eM rfl) fw T.z_all iS (ae (bL bC ["part","thing"] q (bS (rv 0)) ?g0 rt0 ?e0) af)))))
 (case g0=>intro _ _ _ _ q;exact (aL q))
 (case e0=>intro _ _ _ _;exact (ak (oT T) hr (ae (rv 0) af)))
theorem oW (T:Txt w K mg):OkE P w K mg 6 "read_stand" ["text"] eP:=by
 refine bp ["text","stand"] T.read_stand fun _ _ _ _ _ _ _ _ hr q=>?_
 refine' (ao (aK q (bc bF bJ T.z_tuple bx (ae (bL bC ["part","text","stand"] q (bS (dY PySem.F.slot_str_split PySem.F.type_str_split ju gm (rv 0) aM)) ?g0 rt0 ?e0) af)))
 (ao (aQ (cm (bK (ak (rg T) hr (ae (rv 1) af)))) (aq jj) aG)
 (aq (aw (rv 1)))))
 (case g0=>intro _ _ _ _ q;exact (aL q))
 (case e0=>intro _ _ _ _;exact (ak (ig T) hr (ae (rv 0) af)))
theorem mm (T:Txt w K mg):OkE P w K mg 3 "_law_some_names" ["pen","stand"] dX:=by
 refine bp ["pen","stand","left","many"] T.l_some_names fun _ _ _ _ _ _ _ _ hr q=>?_
 refine' (ao (aK q (oX rfl rfl T.z_list rfl T.z_range kZ (ae (aA aJ aP T.z_len bg (ae (rv 1) af)) af)))
 (ao (aK q (aE aY a_ ah (ak (aF T) hr (ae (rv 0) (ae (aA aJ aP T.z_len bg (ae (rv 2) af)) af)))))
 (ao (aQ (aO pv (bQ _) (ak (aF T) hr (ae (rv 0) (ae ah af))) ah) (aq (aK q (aA aJ aP T.z_len bg (ae (rv 2) af)))) aG)
 (aq (aw (bc bF bJ T.z_tuple bx (ae (bL bC ["k","pen","stand","left","many"] q (cQ rfl T.z_range (ae (rv 3) af)) ?g0 rt0 ?e0) af)))))))
 (case g0=>intro _ _ _ _ q;exact (aL q))
 (case e0=>intro _ _ _ _;exact (Fd PySem.F.slot_list_pop PySem.F.type_list_pop xv xY (rv 3) (ak (aF T) hr (ae (rv 1) (ae (aA aJ aP T.z_len bg (ae (rv 3) af)) af)))))
theorem iA (T:Txt w K mg):OkE P w K mg 3 "_law_near_worth" ["pen","stand"] cX:=by
 refine bp ["pen","stand","worths","worth"] T.l_near_worth fun _ _ _ _ _ _ _ _ hr q=>?_
 have hu:=hr.units
 exact (ao (aQ (aO (bj hu) bh (ak (aF T) hr (ae (rv 0) (ae ah af))) ah) (aq (aw (aE gW (gP _) (ak (aF T) hr (ae (rv 0) (ae ah af))) ah))) aG)
 (ao (aK q (aD (rv 1) (ak (aF T) hr (ae (rv 0) (ae (aA aJ aP T.z_len bg (ae (rv 1) af)) af)))))
 (ao (aK q (aE aY a_ (aD (rv 2) (ak (aF T) hr (ae (rv 0) (ae (aA aJ aP T.z_len bg (ae (rv 2) af)) af)))) (aD (dJ (ae ah (ae ah (ae ah (ae ah (ae (fL d5 dz ah) af)))))) (ak (aF T) hr (ae (rv 0) (ae ah af))))))
 (aq (aw (aA (oF rfl) pI T.z_max vS (ae (fL d5 dz ah) (ae (aA (iC rfl) jr T.z_min m9 (ae ah (ae (rv 3) af))) af))))))))
theorem q_ (T:Txt w K mg):OkE P w K mg 4 "_law_bounds" ["pen","stand"] gu:=by
 refine bp ["pen","stand","worths","k","worth","found","low"] T.l_bounds fun _ _ _ _ _ _ _ _ hr q=>?_
 have hu:=hr.units
 exact (ao (aK q (gC af))
 (ao (d4 (cQ rfl T.z_range (ae (ak (aF T) hr (ae (rv 0) (ae ah af))) af)) (aL q) (ao (aK q (ak (iA T) hr (ae (rv 0) (ae (rv 1) af))))
 (aq (aQ (aO (kW hu) kY (rv 4) (rv 2)) (aq (fq (hV (rv 2) (rv 4)))) aG))))
 (ao (aK q (gC af))
 (ao (d4 (bS (aA mL nO T.z_sorted nJ (ae (rv 2) af))) (aL q) (ao (aK q (aD (dJ (ae ah (ae ah (ae ah (ae ah (ae ah (ae (ak (aF T) hr (ae (rv 0) (ae ah af))) af))))))) (ak (aF T) hr (ae (rv 0) (ae ah af)))))
 (aq (fq (hV (rv 5) (bU (ae (rv 4) (ae (rv 6) (ae (aA (iC rfl) jr T.z_min m9 (ae ah (ae (aE aY a_ (rv 6) (aD (dJ (ae ah (ae ah (ae ah (ae ah (ae (ak (aF T) hr (ae (rv 0) (ae ah af))) af)))))) (ak (aF T) hr (ae (rv 0) (ae ah af))))) af))) af)))))))))
 (aq (aw (bc bF bJ T.z_tuple bx (ae (rv 5) af))))))))
theorem tH (T:Txt w K mg):OkE P w K mg 4 "_law_doors" ["pen","stand"] iq:=by
 refine bp ["pen","stand","states","found","k","q","door"] T.l_doors fun _ _ _ _ _ _ _ _ hr q=>?_
 have hu:=hr.units
 exact (ao (aK q (aE aY a_ ah (ak (aF T) hr (ae (rv 0) (ae ah af)))))
 (ao (aK q (gC af))
 (ao (d4 (cQ rfl T.z_range (ae (ak (aF T) hr (ae (rv 0) (ae ah af))) af)) (aL q) (ao (aK q (ak (aF T) hr (ae (rv 0) (ae (rv 2) af))))
 (ao (aK q (bU (ae (rv 5) (ae (ak (iA T) hr (ae (rv 0) (ae (rv 1) af))) (ae (aD (dJ (ae (ak (aF T) hr (ae (rv 0) (ae (rv 2) af))) (ae (aE dH (bV _) (aE aY a_ (rv 5) ah) (rv 2)) af))) (ak (aF T) hr (ae (rv 0) (ae ah af)))) af)))))
 (aq (aQ (aO (kW hu) kY (rv 6) (rv 3)) (aq (fq (hV (rv 3) (rv 6)))) aG)))))
 (aq (aw (bc bF bJ T.z_tuple bx (ae (rv 3) af)))))))
theorem qA (T:Txt w K mg):OkE P w K mg 5 "_law_wish_of" ["pen","stand","kind"] fI:=by
 refine bp ["pen","stand","kind","names","weights","total","name","weight","low","high","ends"] T.l_wish_of fun _ _ _ _ _ _ _ _ hr q=>?_
 have hu:=hr.units
 refine' (ao (aK q (ak (mm T) hr (ae (rv 0) (ae (rv 1) af))))
 (ao (aQ (aO (bj hu) bh (rv 2) ah) (aq (aw (bU (ae aM (ae (rv 3) af))))) aG)
 (ao (aQ (aO (bj hu) bh (rv 2) ah) (aq (aw (bU (ae aM (ae (rv 3) (ae (ak (q_ T) hr (ae (rv 0) (ae (rv 1) af))) af)))))) aG)
 (ao (aQ (aO (bj hu) bh (rv 2) ah) (ao (aK q (bc bF bJ T.z_tuple bx (ae (bL bC ["name","pen","stand","kind","names","weights","total","~6","weight","low","high","ends"] q (bS (rv 3)) ?g0 rt0 ?e0) af)))
 (ao (aK q ah)
 (ao (d4 (vy rfl T.z_zip (ae (rv 3) (ae (rv 4) af))) (j4 (cR (aL q) (cR (aL q) jf))) (aq (aK q (aE aY a_ (rv 5) (aE d_ (bV _) (rv 7) (aD (aD (rv 1) (rv 6)) (ak (aF T) hr (ae (rv 0) (ae (aA aJ aP T.z_len bg (ae (aD (rv 1) (rv 6)) af)) af)))))))))
 (ao (aK q (aA (oF rfl) pI T.z_max vS (ae (fL d5 dz ah) (ae (aA (iC rfl) jr T.z_min m9 (ae ah (ae (aE aY a_ (rv 5) (aD (dJ (ae ah (ae ah (ae ah (ae (fL d5 dz ah) (ae ah af)))))) (ak (aF T) hr (ae (rv 0) (ae ah af))))) af))) af))))
 (ao (aK q (aA (iC rfl) jr T.z_min m9 (ae ah (ae (aE aY a_ (rv 8) (aD (dJ (ae ah (ae ah (ae ah (ae ah (ae ah af)))))) (ak (aF T) hr (ae (rv 0) (ae ah af))))) af))))
 (ao (aQ (aO (bj hu) bh (ak (aF T) hr (ae (rv 0) (ae ah af))) ah) (ao (aK q (aE gW (gP _) (ak (aF T) hr (ae (rv 0) (ae ah af))) ah))
 (aq (aK q (aE aY a_ (rv 8) (ak (aF T) hr (ae (rv 0) (ae (aE gW (gP _) ah (rv 8)) af))))))) aG)
 (aq (aw (bU (ae aM (ae (rv 3) (ae (rv 4) (ae (rv 8) (ae (rv 9) af)))))))))))))) aG)
 (ao (aQ (aO (bj hu) bh (rv 2) ah) (ao (aK q (bc bF bJ T.z_tuple bx (ae (bL bC ["p","pen","stand","kind","names","weights","total","name","weight","low","high","ends"] q (cQ rfl T.z_range (ae ah af)) ?g1 ?t1 ?e1) af)))
 (aq (aw (bU (ae aM (ae (rv 3) (ae (ak (tH T) hr (ae (rv 0) (ae (rv 1) af))) (ae (rv 10) af)))))))) aG)
 (aq (aw (bU (ae aM (ae (rv 3) (ae (bc bF bJ T.z_tuple bx (ae (bL bC ["name","pen","stand","kind","names","weights","total","~6","weight","low","high","ends"] q (bS (rv 3)) ?g2 rt0 ?e2) af)) af)))))))))))
 (case g0=>intro _ _ _ _ q;exact (aL q))
 (case e0=>intro _ _ _ _;exact (aE gW (gP _) (ak (aF T) hr (ae (rv 1) (ae ah af))) ah))
 (case g1=>intro _ _ _ _ q;exact (aL q))
 (case t1=>intro _ _ _ _;exact (z_ (aO (bj hu) bh (ak (aF T) hr (ae (rv 1) (ae ah af))) ah)))
 (case e1=>intro _ _ _ _;exact (rv 0))
 (case g2=>intro _ _ _ _ q;exact (aL q))
 (case e2=>intro _ _ _ _;exact (aE aY a_ ah (ak (aF T) hr (ae (rv 1) (ae (aD (dJ (ae ah (ae ah af))) (ak (aF T) hr (ae (rv 1) (ae ah af)))) af)))))
theorem lh (T:Txt w K mg):OkE P w K mg 1 "_law_triples_text" ["triples"] dg:=by
 refine bp ["triples"] T.l_triples_text fun _ _ _ _ _ _ _ _ hr q=>?_
 have hu:=hr.units
 refine' (ao (aQ (aO (bj hu) bh (rv 0) (bU af)) (aq (aw aM)) aG)
 (aq (aw (dY PySem.F.slot_str_join PySem.F.type_str_join eG de aM (bL bC ["one","triples"] q (bS (rv 0)) ?g0 rt0 ?e0)))))
 (case g0=>intro _ _ _ _ q;exact (aL q))
 (case e0=>intro _ _ _ _;exact (aE aY a_ (aE aY a_ (aE aY a_ (aE aY a_ (bc cO cP T.z_str dM (ae (aD (rv 0) ah) af)) aM) (bc cO cP T.z_str dM (ae (aD (rv 0) ah) af))) aM) (bc cO cP T.z_str dM (ae (aD (rv 0) ah) af))))
theorem nz (T:Txt w K mg):OkE P w K mg 2 "_law_wish_text" ["wish"] eA:=by
 refine bp ["wish","words"] T.l_wish_text fun _ _ _ _ _ _ _ _ hr q=>?_
 have hu:=hr.units
 exact (ao (aK q (gC (ae (aD (rv 0) ah) (ae (ak (cS T) hr (ae (aD (rv 0) ah) af)) af))))
 (ao (aQ (aO (ve hu) uQ (aD (rv 0) ah) (bU (ae aM (ae aM af)))) (aq (fq (hV (rv 1) (ak (lh T) hr (ae (aD (rv 0) ah) af))))) aG)
 (ao (aQ (aO (ve hu) uQ (aD (rv 0) ah) (bU (ae aM (ae aM af)))) (aq (fq (hV (rv 1) (ak (cS T) hr (ae (aD (rv 0) ah) af))))) aG)
 (ao (aQ (aO (bj hu) bh (aD (rv 0) ah) aM) (aq (aK q (aE aY wO (rv 1) (dJ (ae (bc cO cP T.z_str dM (ae (aD (rv 0) ah) af)) (ae (bc cO cP T.z_str dM (ae (aD (rv 0) ah) af)) af)))))) aG)
 (ao (aQ (aO (bj hu) bh (aD (rv 0) ah) aM) (aq (fq (hV (rv 1) (ak (cS T) hr (ae (aD (rv 0) ah) af))))) aG)
 (aq (aw (dY PySem.F.slot_str_join PySem.F.type_str_join eG de aM (rv 1)))))))))
theorem nB (T:Txt w K mg):OkE P w K mg 2 "show_tuples" ["tuples"] ez:=by
 refine bp ["tuples"] T.show_tuples fun _ _ _ _ _ _ _ _ hr q=>?_
 refine' (aq (aw (ak (je T) hr (ae (bL bC ["numbers","tuples"] q (bS (rv 0)) ?g1 rt0 ?e1) af))))
 (case g1=>intro _ _ _ _ q;exact (aL q))
 (case e1=>intro _ _ _ _;refine' (dY PySem.F.slot_str_join PySem.F.type_str_join eG de aM (AA bC ["number","numbers","tuples"] (bS (rv 0)) ?g0 rt0 ?e0));(case g0=>intro _ _ _ _ q;exact (aL q));(case e0=>intro _ _ _ _;exact (bc cO cP T.z_str dM (ae (rv 0) af))))
theorem oS (T:Txt w K mg):OkE P w K mg 3 "show_thing" ["form","thing"] b6:=by
 refine bp ["form","thing"] T.show_thing fun _ _ _ _ _ _ _ _ hr q=>?_
 have hu:=hr.units
 exact (ao (aQ (aO (bj hu) bh (rv 0) aM) (aq (aw (bc cO cP T.z_str dM (ae (rv 1) af)))) aG)
 (ao (aQ (aO (bj hu) bh (rv 0) aM) (aq (aw (ak (iF T) hr (ae (rv 1) af)))) aG)
 (aq (aw (ak (nB T) hr (ae (rv 1) af))))))
theorem gT (T:Txt w K mg):OkE P w K mg 4 "show_wish" ["wish"] cf:=by
 refine bp ["wish","things"] T.show_wish fun _ _ _ _ _ _ _ _ hr q=>?_
 refine' (ao (Ea bC ["form","thing","wish","things"] q (rE rfl T.z_zip (ae (CT T.fm_FORMS (aD (rv 0) ah)) (ae (qR (rv 0) (fD ah) iY) af))) ?g0 rt0 ?e0)
 (aq (aw (dY PySem.F.slot_str_join PySem.F.type_str_join eG de aM (aE aY a_ (dJ (ae (aD (rv 0) ah) af)) (rv 1))))))
 (case g0=>intro _ _ _ _ q;exact (j4 (cR (aL q) (cR (aL q) jf))))
 (case e0=>intro _ _ _ _;exact (ak (oS T) hr (ae (rv 0) (ae (rv 1) af))))
theorem oR (T:Txt w K mg):OkE P w K mg 3 "read_tuple" ["text"] eO:=by
 refine bp ["text"] T.read_tuple fun _ _ _ _ _ _ _ _ hr q=>?_
 refine' (aq (aw (bc bF bJ T.z_tuple bx (ae (bL bC ["part","text"] q (bS (dY PySem.F.slot_str_split PySem.F.type_str_split ju gm (rv 0) aM)) ?g0 rt0 ?e0) af))))
 (case g0=>intro _ _ _ _ q;exact (aL q))
 (case e0=>intro _ _ _ _;exact (ak (fh T) hr (ae (rv 0) af)))
theorem oM (T:Txt w K mg):OkE P w K mg 4 "read_thing" ["form","text"] bZ:=by
 refine bp ["form","text"] T.read_thing fun _ _ _ _ _ _ _ _ hr q=>?_
 have hu:=hr.units
 refine' (ao (aQ (aO (bj hu) bh (rv 0) aM) (aq (aw (ak (fh T) hr (ae (rv 1) af)))) aG)
 (ao (aQ (aO (bj hu) bh (rv 0) aM) (aq (aw (ak (ig T) hr (ae (rv 1) af)))) aG)
 (aq (aw (bc bF bJ T.z_tuple bx (ae (bL bC ["part","form","text"] q (bS (ak (il T) hr (ae (rv 1) af))) ?g0 rt0 ?e0) af))))))
 (case g0=>intro _ _ _ _ q;exact (aL q))
 (case e0=>intro _ _ _ _;exact (ak (oR T) hr (ae (rv 0) af)))
theorem jO (T:Txt w K mg):OkE P w K mg 1 "are_unlike" ["things"] cG:=by
 refine bp ["things"] T.are_unlike fun _ _ _ _ _ _ _ _ hr q=>?_
 have hu:=hr.units
 exact (aq (aw (b5 (bj hu) bh (E7 rfl rfl T.z_len rfl T.z_set bg CB hu (rv 0)) (aA aJ aP T.z_len bg (ae (rv 0) af)))))
theorem qU (T:Txt w K mg):OkE P w K mg 4 "are_names" ["thing"] fF:=by
 refine bp ["thing"] T.are_names fun _ _ _ _ _ _ _ _ hr q=>?_
 exact (aq (aw (bA (ak (dt T) hr (ae (rv 0) (ae ah (ae ah af)))) (bA (lU fe (bQ _) fe (bQ _) ah (aA aJ aP T.z_len bg (ae (rv 0) af)) ah) (bP (ak (jO T) hr (ae (rv 0) af)))))))
theorem mO (T:Txt w K mg):OkE P w K mg 3 "is_span" ["low","high","least","most"] fP:=by
 refine bp ["low","high","least","most"] T.is_span fun _ _ _ _ _ _ _ _ hr q=>?_
 exact (aq (aw (bA (ak (cF T) hr (ae (rv 0) (ae (rv 2) (ae (rv 3) af)))) (bA (ak (cF T) hr (ae (rv 1) (ae (rv 2) (ae (rv 3) af)))) (bP (b5 fe (bQ _) (rv 0) (rv 1)))))))
theorem rl (T:Txt w K mg):OkE P w K mg 4 "is_bound" ["thing"] gj:=by
 refine bp ["thing"] T.is_bound fun _ _ _ _ _ _ _ _ hr q=>?_
 have hu:=hr.units
 exact (ao (aQ (RW.rt (fG (cm (bK (br T.z_isinstance T.z_tuple bx (rv 0)))) (d9 (aO (fc hu) eY (aA aJ aP T.z_len bg (ae (rv 0) af)) ah)))) (aq (aw cU)) aG)
 (aq (aw (bA (ak (cF T) hr (ae (aD (rv 0) ah) (ae (fL d5 dz ah) (ae ah af)))) (bP (ak (mO T) hr (ae (aD (rv 0) ah) (ae (aD (rv 0) ah) (ae ah (ae ah af))))))))))
theorem oY (T:Txt w K mg):OkE P w K mg 5 "are_bounds" ["thing"] e_:=by
 refine bp ["thing"] T.are_bounds fun _ _ _ _ _ _ _ _ hr q=>?_
 refine' (ao (aQ (RW.rt (fG (cm (bK (br T.z_isinstance T.z_tuple bx (rv 0)))) (d9 (aO pv (bQ _) (aA aJ aP T.z_len bg (ae (rv 0) af)) ah)))) (aq (aw cU)) aG)
 (aq (aw (bA (aA (eM rfl) fw T.z_all iS (ae (bL bC ["part","thing"] q (bS (rv 0)) ?g0 rt0 ?e0) af)) (bP (ak (fY T) hr (ae (bL bC ["part","thing"] q (bS (rv 0)) ?g1 rt0 ?e1) af)))))))
 (case g0=>intro _ _ _ _ q;exact (aL q))
 (case e0=>intro _ _ _ _;exact (ak (rl T) hr (ae (rv 0) af)))
 (case g1=>intro _ _ _ _ q;exact (aL q))
 (case e1=>intro _ _ _ _;exact (aD (rv 0) ah))
theorem tE (T:Txt w K mg):OkE P w K mg 6 "is_many" ["wish"] iN:=by
 refine bp ["wish"] T.is_many fun _ _ _ _ _ _ _ _ hr q=>?_
 have hu:=hr.units
 exact (aq (aw (bA (b5 (bj hu) bh (aA aJ aP T.z_len bg (ae (rv 0) af)) ah) (bP (ak (oY T) hr (ae (aD (rv 0) ah) af))))))
theorem uS (T:Txt w K mg):OkE P w K mg 4 "is_sum" ["wish"] jC:=by
 refine bp ["wish"] T.is_sum fun _ _ _ _ _ _ _ _ hr q=>?_
 have hu:=hr.units
 exact (ao (aQ (RW.rt (fG (aO (fc hu) eY (aA aJ aP T.z_len bg (ae (rv 0) af)) ah) (d9 (cm (bK (ak (dt T) hr (ae (aD (rv 0) ah) (ae (fL d5 dz ah) (ae ah af))))))))) (aq (aw cU)) aG)
 (aq (aw (bA (b5 (bj hu) bh (aA aJ aP T.z_len bg (ae (aD (rv 0) ah) af)) (aA aJ aP T.z_len bg (ae (aD (rv 0) ah) af))) (bP (ak (mO T) hr (ae (aD (rv 0) ah) (ae (aD (rv 0) ah) (ae (fL d5 dz ah) (ae ah af))))))))))
theorem s_ (T:Txt w K mg):OkE P w K mg 3 "is_door" ["thing"] ik:=by
 refine bp ["thing"] T.is_door fun _ _ _ _ _ _ _ _ hr q=>?_
 have hu:=hr.units
 exact (ao (aQ (RW.rt (fG (cm (bK (br T.z_isinstance T.z_tuple bx (rv 0)))) (d9 (aO (fc hu) eY (aA aJ aP T.z_len bg (ae (rv 0) af)) ah)))) (aq (aw cU)) aG)
 (aq (aw (bA (ak (cF T) hr (ae (aD (rv 0) ah) (ae ah (ae ah af)))) (bA (ak (cF T) hr (ae (aD (rv 0) ah) (ae (fL d5 dz ah) (ae ah af)))) (bP (ak (cF T) hr (ae (aD (rv 0) ah) (ae ah (ae ah af))))))))))
theorem p7 (T:Txt w K mg):OkE P w K mg 4 "are_doors" ["thing"] fN:=by
 refine bp ["thing"] T.are_doors fun _ _ _ _ _ _ _ _ hr q=>?_
 refine' (ao (aQ (RW.rt (fG (cm (bK (br T.z_isinstance T.z_tuple bx (rv 0)))) (d9 (aO pv (bQ _) (aA aJ aP T.z_len bg (ae (rv 0) af)) ah)))) (aq (aw cU)) aG)
 (aq (aw (bA (aA (eM rfl) fw T.z_all iS (ae (bL bC ["part","thing"] q (bS (rv 0)) ?g0 rt0 ?e0) af)) (bP (ak (jO T) hr (ae (rv 0) af)))))))
 (case g0=>intro _ _ _ _ q;exact (aL q))
 (case e0=>intro _ _ _ _;exact (ak (s_ T) hr (ae (rv 0) af)))
theorem uI (T:Txt w K mg):OkE P w K mg 5 "is_row" ["wish"] jv:=by
 refine bp ["wish"] T.is_row fun _ _ _ _ _ _ _ _ hr q=>?_
 have hu:=hr.units
 exact (aq (aw (bA (b5 (bj hu) bh (aA aJ aP T.z_len bg (ae (rv 0) af)) ah) (bA (ak (p7 T) hr (ae (aD (rv 0) ah) af)) (bA (ak (dt T) hr (ae (aD (rv 0) ah) (ae ah (ae ah af)))) (bP (ak (fY T) hr (ae (aD (rv 0) ah) af))))))))
theorem tQ (T:Txt w K mg):OkE P w K mg 4 "is_hand" ["wish"] iB:=by
 refine bp ["wish"] T.is_hand fun _ _ _ _ _ _ _ _ hr q=>?_
 have hu:=hr.units
 exact (aq (aw (bA (b5 (bj hu) bh (aA aJ aP T.z_len bg (ae (rv 0) af)) ah) (bA (ak (dt T) hr (ae (aD (rv 0) ah) (ae ah (ae ah af)))) (bP (b5 (bj hu) bh (aA aJ aP T.z_len bg (ae (aD (rv 0) ah) af)) (aA aJ aP T.z_len bg (ae (aD (rv 0) ah) af))))))))
theorem ll (T:Txt w K mg):OkE P w K mg 7 "is_of_its_kind" ["wish"] df:=by
 refine bp ["wish","word"] T.is_of_its_kind fun _ _ _ _ _ _ _ _ hr q=>?_
 have hu:=hr.units
 exact (ao (aK q (aD (rv 0) ah))
 (ao (aQ (aO (bj hu) bh (rv 1) aM) (aq (aw (b5 (bj hu) bh (aA aJ aP T.z_len bg (ae (rv 0) af)) ah))) aG)
 (ao (aQ (aO (bj hu) bh (rv 1) aM) (aq (aw (ak (tE T) hr (ae (rv 0) af)))) aG)
 (ao (aQ (aO (bj hu) bh (rv 1) aM) (aq (aw (ak (uS T) hr (ae (rv 0) af)))) aG)
 (ao (aQ (aO (bj hu) bh (rv 1) aM) (aq (aw (ak (uI T) hr (ae (rv 0) af)))) aG)
 (aq (aw (bA (b5 (bj hu) bh (rv 1) aM) (bP (ak (tQ T) hr (ae (rv 0) af)))))))))))
theorem tY (T:Txt w K mg):OkE P w K mg 8 "is_wish" ["thing"] iH:=by
 refine bp ["thing"] T.is_wish fun _ _ _ _ _ _ _ _ hr q=>?_
 exact (ao (aQ (RW.rt (fG (cm (bK (br T.z_isinstance T.z_tuple bx (rv 0)))) (d9 (aO pd (bQ _) (aA aJ aP T.z_len bg (ae (rv 0) af)) ah)))) (aq (aw cU)) aG)
 (aq (aw (bA (ak (qU T) hr (ae (aD (rv 0) ah) af)) (bP (ak (ll T) hr (ae (rv 0) af)))))))
theorem qt (T:Txt w K mg):OkE P w K mg 9 "read_wish" ["text"] d6:=by
 refine bp ["text","parts","forms","wish"] T.read_wish fun _ _ _ _ _ _ _ _ hr q=>?_
 have hu:=hr.units
 refine' (ao (aK q (dY PySem.F.slot_str_split PySem.F.type_str_split ju gm (rv 0) aM))
 (ao (aK q (Aa T.fm_FORMS (aD (rv 1) ah) (bU af)))
 (ao (aQ (aO (fc hu) eY (aA aJ aP T.z_len bg (ae (rv 1) af)) (aE aY a_ (aA qB ub T.z_len bg (ae (rv 2) af)) ah)) (aq jj) aG)
 (ao (aK q (bc bF bJ T.z_tuple bx (ae (aE aY a_ (qR (rv 1) iY (fD ah)) (bL bC ["form","part","text","parts","forms","wish"] q (rE rfl T.z_zip (ae (rv 2) (ae (qR (rv 1) (fD ah) iY) af))) ?g0 rt0 ?e0)) af)))
 (ao (aQ (cm (bK (ak (tY T) hr (ae (rv 3) af)))) (aq jj) aG)
 (aq (aw (rv 3))))))))
 (case g0=>intro _ _ _ _ q;exact (j4 (cR (aL q) (cR (aL q) jf))))
 (case e0=>intro _ _ _ _;exact (ak (oM T) hr (ae (rv 0) (ae (rv 1) af))))
theorem AI (T:Txt w K mg):OkE P w K mg 12 "law" ["script"] tK:=by
 refine bp ["script","pen","turn","stand","text","again","kind","wish"] T.law fun _ _ _ _ _ _ _ _ hr q=>?_
 have hu:=hr.units
 exact (ao (aK q (ak (vU T) hr (ae (rv 0) af)))
 (ao (d4 (cQ rfl T.z_range (ae ah af)) (aL q) (ao (aK q (ak (sU T) hr (ae (ak (vB T) hr (ae (rv 1) af)) (ae ah (ae ah af)))))
 (ao (aK q (ak (m7 T) hr (ae (rv 3) af)))
 (ao (aQ (cm (bK (ak (eK T) hr (ae (ak (oG T) hr (ae (rv 3) af)) (ae (rv 4) af))))) (aq (aw cU)) aG)
 (ao (d4 (cQ rfl T.z_range (ae ah af)) (aL q) (aq (aQ (cm (bK (ak (eK T) hr (ae (ak (oW T) hr (ae (rv 4) af)) (ae (rv 3) af))))) (aq (aw cU)) aG)))
 (aq (d4 (bS (dJ (ae ah (ae ah (ae ah (ae ah (ae ah (ae ah (ae ah af))))))))) (aL q) (ao (aK q (ak (qA T) hr (ae (rv 1) (ae (rv 3) (ae (rv 6) af)))))
 (ao (aK q (ak (nz T) hr (ae (rv 7) af)))
 (ao (aQ (cm (bK (ak (eK T) hr (ae (ak (gT T) hr (ae (rv 7) af)) (ae (rv 4) af))))) (aq (aw cU)) aG)
 (aq (d4 (cQ rfl T.z_range (ae ah af)) (aL q) (aq (aQ (cm (bK (ak (eK T) hr (ae (ak (qt T) hr (ae (rv 4) af)) (ae (rv 7) af))))) (aq (aw cU)) aG))))))))))))))
 (ao (aQ (aO (fc hu) eY (ak (gT T) hr (ae (bU (ae aM (ae (bU (ae ah af)) (ae (bU af) (ae (bU af) af))))) af)) aM) (aq (aw cU)) aG)
 (aq (aw (b5 (bj hu) bh (ak (gT T) hr (ae (bU (ae aM (ae (bU (ae ah (ae ah af))) (ae (bU (ae (bU (ae (fL d5 dz ah) (ae ah (ae ah af)))) af)) af)))) af)) aM))))))
end
end My
def PySem.W.Fast.tw9411849281127456935:Unit:=()
def PySem.W.Fast.tw9105265396169456705:Unit:=()
def PySem.W.Fast.tw15610124792912323074:Unit:=()
def PySem.W.Fast.tw10839736033989257846:Unit:=()
def PySem.W.Fast.tw16335011483202817066:Unit:=()
def PySem.W.Fast.tw11100692412904414399:Unit:=()
def PySem.W.Fast.tw15965509787420372756:Unit:=()
def PySem.W.Fast.tw9964400398089066315:Unit:=()
def PySem.W.Fast.tw1238337059178319329:Unit:=()
def PySem.W.Fast.tw8425606520582918870:Unit:=()
def PySem.W.Fast.tw13671330633171817281:Unit:=()
def PySem.W.Fast.tw16429338063602822344:Unit:=()
def PySem.W.Fast.tw7452934635558523596:Unit:=()
def PySem.W.Fast.tw15609762050779350333:Unit:=()
def PySem.W.Fast.tw18174295913828834947:Unit:=()
def PySem.W.Fast.tw9442326602119348890:Unit:=()
def PySem.W.Fast.tw2801879344977010496:Unit:=()
def PySem.W.Fast.tw4592014897319993703:Unit:=()
def PySem.W.Fast.tw17643757700955894487:Unit:=()
def PySem.W.Fast.tw10889702209111032766:Unit:=()
def PySem.W.Fast.tw17001238469174126029:Unit:=()
def PySem.W.Fast.tw835269697129927851:Unit:=()
def PySem.W.Fast.tw1047839186116568076:Unit:=()
def PySem.W.Fast.tw7346062471311649801:Unit:=()
def PySem.W.Fast.tw18175294339501644883:Unit:=()
def PySem.W.Fast.tw11352910045913798201:Unit:=()
def PySem.W.Fast.tw2279874353568166734:Unit:=()
def PySem.W.Fast.tw11839860462437631507:Unit:=()
def PySem.W.Fast.tw6332908525296674477:Unit:=()
def PySem.W.Fast.tw2087224550752938721:Unit:=()
def PySem.W.Fast.tw3319429273097645628:Unit:=()
def PySem.W.Fast.tw14028070672284399471:Unit:=()
def PySem.W.Fast.tw9698144758085109059:Unit:=()
def PySem.W.Fast.tw2897155646713796831:Unit:=()
def PySem.W.Fast.tw7006452028726212987:Unit:=()
def PySem.W.Fast.tw2570566279176330715:Unit:=()
def PySem.W.Fast.tw1855403404618776167:Unit:=()
def PySem.W.Fast.tw1633321270557939523:Unit:=()
def PySem.W.Fast.tw7712064049005815270:Unit:=()
def PySem.W.Fast.tw17093763177033172171:Unit:=()
def PySem.W.Fast.tw14141594272427673382:Unit:=()
def PySem.W.Fast.tw4356445459602325529:Unit:=()
def PySem.W.Fast.tw6657469254729006732:Unit:=()
def PySem.W.Fast.tw9172842309817994528:Unit:=()
def PySem.W.Fast.tw9365852033758407313:Unit:=()
def PySem.W.Fast.tw6614972036422475493:Unit:=()
def PySem.W.Fast.tw17543030483543795730:Unit:=()
def PySem.W.Fast.tw3761215392278944080:Unit:=()
def PySem.W.Fast.tw15156736707100879611:Unit:=()
def PySem.W.Fast.tw9916703059282723171:Unit:=()
def PySem.W.Fast.tw560090375300364407:Unit:=()
def PySem.W.Fast.tw17294546767242291117:Unit:=()
def PySem.W.Fast.tw9202615403356172695:Unit:=()
def PySem.W.Fast.tw5009807382758189736:Unit:=()
def PySem.W.Fast.tw10840760808907212236:Unit:=()
def PySem.W.Fast.tw9999848317747328911:Unit:=()
def PySem.W.Fast.tw5638310474534642810:Unit:=()
def PySem.W.Fast.tw2876911784392591424:Unit:=()
def PySem.W.Fast.tw4396249008435615424:Unit:=()
def PySem.W.Fast.tw13329348957124570844:Unit:=()
def PySem.W.Fast.tw7249721879354323055:Unit:=()
def PySem.W.Fast.tw10468005234137651773:Unit:=()
def PySem.W.Fast.tw8650044429240677260:Unit:=()
def PySem.W.Fast.tw12994407945127446563:Unit:=()
def PySem.W.Fast.tw14413954770400431351:Unit:=()
def PySem.W.Fast.tw1493822519766213712:Unit:=()
def PySem.W.Fast.tw3992228503292778055:Unit:=()
def PySem.W.Fast.tw11070131456047705795:Unit:=()
def PySem.W.Fast.tw645448930477669360:Unit:=()
def PySem.W.Fast.tw13242229239071520097:Unit:=()
namespace My
open PySem L2
def tX (K:PySem.W.Frag):Sp:=fun vs H Q _=>∃ (l:Addr) (ns:List Int),vs=[.ref l]∧SqL K H l (ns.map V.int)∧ns.length≤63∧∀ H',Q (.bl true) H'
theorem all_mk {l:PySem.W.OpenLaw} {w:World} {K:PySem.W.Frag} {mg:Str→Option Value} {fa:Addr} (hfa:mg "law"=some (.ref fa)) (T:Txt w K mg) :
  ∃ fd:FuncData,(∀ (s:Shared) (v:Value),BindsTo s fd ⟨[v],[]⟩ [("script",v)])∧∀ base:Heap,K.In base→base.Ns mainGlobals mg→fj l.prog w K mg base CX0 12 fa fd ["script"] (tX K):=by
 obtain ⟨f,fd,m,kp,b,F⟩:=AI (P:=l.prog) (w:=w) T
 have e2:f=fa:=(Value.ref.inj (Option.some.inj (hfa.symm.trans m))).symm
 subst e2
 refine ⟨fd,fun s v=>.of_eq (b [v] rfl),fun base _ _=>(F base).imp fun vs H Q E h=>?_⟩
 obtain ⟨l,ns,rfl,hS,hl,hQ⟩:=h
 refine ⟨fun _=>l,[],[.sc ns],⟨fun n o h=>(by cases h),fun n m o o' h=>(by cases h)⟩,.cons ⟨l,rfl,SqL.mono (fun b o h=>bT h (by rintro ⟨n,o',e,_⟩;cases e)) hS⟩ .nil,?_⟩
 rw [xt ns]
 intro b μ' H' st r
 cases r
 exact hQ H'
theorem walk {l:PySem.W.OpenLaw} {q:Program} {loose:List Str} {XP:(Str→Option Value)→Heap→Prop} {YP:World→Heap→Prop} {d:DefRec} {K:Params→PySem.W.Frag} (hn:l.most=some 63) (hdf:d.params.defaults=[])
  (hY:∀ (w:World) (h:Heap),YP w h→(K w.params).In h)
  (F:∀ (w:World) (mg:Str→Option Value) (fa:Addr) (h:Heap),(K w.params).In h→h.Ns mainGlobals mg→mg d.name=some (.ref fa) →
   ∃ fd:FuncData,(∀ (s:Shared) (u:Value),BindsTo s fd ⟨[u],[]⟩ [("script",u)])∧∀ base:Heap,(K w.params).In base→base.Ns mainGlobals mg→fj l.prog w (K w.params) mg base CX0 12 fa fd ["script"] (tX (K w.params))) :
  PySem.W.WalkO q loose XP YP l.row.toRowW d [] (fun f vs=>PySem.call f vs):=
 L2.yR (n:=63) (k:=12) (x:="script") (CX:=fun _=>CX0) (sp:=fun w=>tX (K w.params)) hn (by decide) hdf ⟨rfl,by decide,by decide⟩ hY F (fun _ _ a ns hl _ hS=>⟨a,ns,rfl,hS,hl,fun _=>rfl⟩) fun _ _ _ _ _ z=>z
end My
open PySem PySem.W PyProof.Rows
set_option maxRecDepth 100000 in
set_option maxHeartbeats 0 in
theorem PySem.Challenge.cw_wishstrike_k56_stands_and_wishes_written_holds : PySem.Challenge.rw_wishstrike_k56_stands_and_wishes_written.Holds := by
  w_on;o_law;k_head;(case hw=>w_witness2)
  k_fill
  refine My.walk (l:=PySem.Challenge.rw_wishstrike_k56_stands_and_wishes_written) rfl rfl (fun w h Y=>PySem.W.kIn_of Y) ?F
  case F=>
    intro w mg fa h KX G hmg
    refine' My.all_mk hmg ?T
    (case T=>constructor<;>first | (refine' PySem.W.mg_none_of KX G ?z;(case z=>k_is)) | (refine' L2.Fb KX G ?a ?l ?c ?k;(case a=>k_is);(case l=>k_is);(case c=>k_is);(case k=>k_is)) | (refine' L2.EW KX G ?a ?l ?k ?s ?e;(case a=>k_is);(case l=>k_is);(case k=>k_keys);(case s=>decide);(case e=>refine' ⟨⟨_,rfl⟩,⟨_,rfl,L2.mN ?t4 ?v4 ?z4⟩,⟨⟨_,rfl⟩,⟨_,rfl,L2.mN ?t3 ?v3 ?z3⟩,⟨⟨_,rfl⟩,⟨_,rfl,L2.mN ?t2 ?v2 ?z2⟩,⟨⟨_,rfl⟩,⟨_,rfl,L2.mN ?t1 ?v1 ?z1⟩,⟨⟨_,rfl⟩,⟨_,rfl,L2.mN ?t0 ?v0 ?z0⟩,True.intro⟩⟩⟩⟩⟩;(case t0=>k_is);(case v0=>exact (.cons ⟨_,rfl⟩ (.cons ⟨_,rfl⟩ .nil)));(case z0=>show 2≤10;decide);(case t1=>k_is);(case v1=>exact (.cons ⟨_,rfl⟩ (.cons ⟨_,rfl⟩ (.cons ⟨_,rfl⟩ .nil))));(case z1=>show 3≤10;decide);(case t2=>k_is);(case v2=>exact (.cons ⟨_,rfl⟩ (.cons ⟨_,rfl⟩ (.cons ⟨_,rfl⟩ (.cons ⟨_,rfl⟩ .nil)))));(case z2=>show 4≤10;decide);(case t3=>k_is);(case v3=>exact (.cons ⟨_,rfl⟩ (.cons ⟨_,rfl⟩ .nil)));(case z3=>show 2≤10;decide);(case t4=>k_is);(case v4=>exact (.cons ⟨_,rfl⟩ .nil));(case z4=>show 1≤10;decide))))
#print axioms PySem.Challenge.cw_wishstrike_k56_stands_and_wishes_written_holds
