import PyProof.Rows.All
import Wide.All
import OpenK.AllK
import Wide.FinOn
import Lean
import PyProof.EqAt
import PyProof.EqKinds
import PyProof.TupleCall
import PySem.Challenge.RW_wishstrike_k08_refusals_apart
set_option Elab.async false
set_option linter.all false
set_option maxRecDepth 100000
namespace L2
open PySem PySem.Spec PyProof.Rows
abbrev Key:=Sum Int Str
def mf:Key→Value→Bool
 | .inl k,v=>Value.isInt k v
 | .inr x,v=>Value.isStrOf x v
def uO (w:World):Key→Int
 | .inl k=>hashInt k
 | .inr x=>hashStr w x
theorem aT:∀ {k:Key} {v:Value},mf k v=true→(∃ i t,k=Sum.inl i∧v=Value.int i t)∨(∃ x t,k=Sum.inr x∧v=Value.str x t)
 | .inl i,v,h=>by
  obtain ⟨t,e⟩:=Value.isInt_shape (k:=i) (v:=v) h
  exact .inl ⟨i,t,rfl,e⟩
 | .inr x,v,h=>by
  obtain ⟨t,e⟩:=Value.isStrOf_shape (x:=x) (v:=v) h
  exact .inr ⟨x,t,rfl,e⟩
theorem ph (a b:Int):decide ((Sum.inl a:Key)=Sum.inl b)=(a == b):=by
 by_cases e:a=b
 ·subst e;simp
 ·have h:¬(Sum.inl a:Key)=Sum.inl b:=fun q=>e (Sum.inl.inj q)
  rw [decide_eq_false h]
  exact (beq_eq_false_iff_ne.mpr e).symm
theorem pR (a b:Str):decide ((Sum.inr a:Key)=Sum.inr b)=decide (a=b):=by
 by_cases e:a=b
 ·subst e;simp
 ·have h:¬(Sum.inr a:Key)=Sum.inr b:=fun q=>e (Sum.inr.inj q)
  rw [decide_eq_false h,decide_eq_false e]
theorem oy (a:Int) (b:Str):decide ((Sum.inl a:Key)=Sum.inr b)=false:=decide_eq_false (fun q=>nomatch q)
theorem q_ (a:Str) (b:Int):decide ((Sum.inr a:Key)=Sum.inl b)=false:=decide_eq_false (fun q=>nomatch q)
def ek (prog:Program) (w:World):PySem.KeyKind prog w Key where
 is:=mf
 hash:=uO w
 inj:=fun v a b ha hb=>by
  rcases aT ha with ⟨i,t,rfl,rfl⟩ | ⟨x,t,rfl,rfl⟩
  ·rcases aT hb with ⟨j,u,rfl,e⟩ | ⟨y,u,rfl,e⟩
   ·injection e with e1 _;rw [e1]
   ·exact nomatch e
  ·rcases aT hb with ⟨j,u,rfl,e⟩ | ⟨y,u,rfl,e⟩
   ·exact nomatch e
   ·injection e with e1 _;rw [e1]
 byValue:=fun k v h=>by
  rcases aT h with ⟨i,t,rfl,rfl⟩ | ⟨x,t,rfl,rfl⟩<;>rfl
 pyHash:=fun hv h=>by
  rcases aT hv with ⟨i,t,rfl,rfl⟩ | ⟨x,t,rfl,rfl⟩
  ·exact wpAny_pyHash_int h
  ·exact wpAny_pyHash_str h
 eqBool:=fun hu hv h=>by
  rcases aT hu with ⟨i,t,rfl,rfl⟩ | ⟨x,t,rfl,rfl⟩
  ·rcases aT hv with ⟨j,u,rfl,rfl⟩ | ⟨y,u,rfl,rfl⟩
   ·rw [ph] at h;exact wpAny_eqBool_int h
   ·rw [oy] at h;exact SeqAt.EqAt.int_str i t y u _ _ _ _ h
  ·rcases aT hv with ⟨j,u,rfl,rfl⟩ | ⟨y,u,rfl,rfl⟩
   ·rw [q_] at h;exact SeqAt.EqAt.str_int x t j u _ _ _ _ h
   ·rw [pR] at h;exact wpAny_eqBool_str h
 «strs»:=fun k x t v h=>by
  rcases aT h with ⟨i,u,rfl,e⟩ | ⟨y,u,rfl,e⟩
  ·exact nomatch e
  ·injection e with e1 _
   subst e1
   cases v<;>rfl
inductive V where
 | non | bl (b:Bool) | int (i:Int) | str (x:Str) | byt (b:Array UInt8) | flt (b:UInt64) | ref (a:Addr) | ty (n:String)
 deriving DecidableEq
def RelV:V→Value→Prop
 | .non,u=>u=Value.none
 | .bl b,u=>u=Value.bool b
 | .int i,u=>∃ t,u=Value.int i t
 | .str x,u=>∃ t,u=Value.str x t
 | .byt b,u=>∃ t,u=Value.bytes b t
 | .flt b,u=>∃ t,u=Value.float b t
 | .ref a,u=>u=Value.ref a
 | .ty n,u=>u=Value.type n
abbrev Vals:List V→List Value→Prop:=Paired RelV
theorem Vals.length {xs:List V} {us:List Value} (r:Vals xs us):xs.length=us.length:=Paired.length r
theorem Vals.get:∀ {xs:List V} {us:List Value} {i:Nat} {x:V},Vals xs us→xs[i]?=some x→∃ u,us[i]?=some u∧RelV x u
 | _,_,_,_,.nil,e=>by simp at e
 | _,_,0,_,.cons r _,e=>by simp at e;subst e;exact ⟨_,rfl,r⟩
 | _,_,i+1,x,.cons _ t,e=>by
  obtain ⟨u,h1,h2⟩:=Vals.get (i:=i) (x:=x) t (by simpa using e)
  exact ⟨u,by simpa using h1,h2⟩
theorem Vals.set {x:V} {u:Value} (r:RelV x u):∀ {xs:List V} {us:List Value} (i:Nat),Vals xs us→Vals (xs.set i x) (us.set i u)
 | _,_,_,.nil=>.nil
 | _,_,0,.cons _ t=>.cons r t
 | _,_,i+1,.cons q t=>.cons q (Vals.set r i t)
theorem Vals.append:∀ {xs ys:List V} {us ws:List Value},Vals xs us→Vals ys ws→Vals (xs++ys) (us++ws)
 | _,_,_,_,.nil,s=>s
 | _,_,_,_,.cons r t,s=>.cons r (Vals.append t s)
theorem Vals.take:∀ {xs:List V} {us:List Value} (n:Nat),Vals xs us→Vals (xs.take n) (us.take n)
 | _,_,0,_=>.nil
 | _,_,_+1,.nil=>.nil
 | _,_,n+1,.cons r t=>.cons r (Vals.take n t)
theorem Vals.drop:∀ {xs:List V} {us:List Value} (n:Nat),Vals xs us→Vals (xs.drop n) (us.drop n)
 | _,_,0,r=>r
 | _,_,_+1,.nil=>.nil
 | _,_,n+1,.cons _ t=>Vals.drop n t
def iU:Option V→Option Value→Prop
 | some v,some u=>RelV v u
 | none,none=>True
 | _,_=>False
def KV {κ:Type}:List (κ×V)→List (κ×Value)→Prop:=Paired fun (p:κ×V) (q:κ×Value)=>p.1=q.1∧RelV p.2 q.2
def kV:Key→V
 | .inl i=>.int i
 | .inr x=>.str x
inductive HO where
 | lst (xs:List V)
 | tup (xs:List V)
 | dK (kvs:List (Key×V)) | dT (kvs:List (List Key×V))
 | set (S:Int→Bool) (n:Nat)
 | ins (C dx:Addr) (fs:List (Str×V))
 | own (x:Addr)
 | xd (fs:List (Str×V))
 | met (f x:Addr)
 | rng (lo hi:Int)
 | frz (o:Obj) (u:HO)
 | tbl (ps:Array Value)
 | ext (φ:Heap→Prop)
abbrev Hp:=Addr→Option HO
def upd (H:Hp) (a:Addr) (o:HO):Hp:=fun b=>if b=a then some o else H b
theorem aB {H:Hp} {a:Addr} {o:HO}:upd H a o a=some o:=by unfold upd;rw [if_pos rfl]
theorem ak {H:Hp} {a b:Addr} {o:HO} (h:b≠a):upd H a o b=H b:=by unfold upd;rw [if_neg h]
theorem nG {H:Hp} {a:Addr} {o u:HO}:upd (upd H a o) a u=upd H a u:=by
 funext b;unfold upd;split<;>rfl
theorem ay {H:Hp} {a b:Addr} {o:HO} (h:H a=some o) (h':H b=none):a≠b:=by
 intro e;subst e;rw [h] at h';cases h'
section
variable (P:Program) (w:World)
def aK (H:Hp) (h:Heap) (a:Addr):HO→Prop
 | .lst xs=>xs.length≤sizeLine∧∃ (its:List Value) (n:Nat),Vals xs its∧h.get? a=some { cls:=.type "list",data:=.seq its.toArray n }
 | .tup xs=>xs.length≤sizeLine∧∃ its:List Value,Vals xs its∧IsTup h a its.toArray
 | .dK kvs=>kvs.length≤sizeLine∧(a == sysModules)=false∧∃ vs,KV kvs vs∧h.DictOf (ek P w) a vs
 | .dT kvs=>kvs.length≤sizeLine∧(a == sysModules)=false∧∃ xs:List (List Key×Addr×Value),
   Paired (fun (p:List Key×V) (q:List Key×Addr×Value)=>p.1=q.1∧H q.2.1=some (.tup (p.1.map kV))∧RelV p.2 q.2.2) kvs xs ∧
   ∃ o es ep,h.get? a=some o∧o.ExactDict∧o.data=.dict es ep∧es.toList=xs.map (entryOfKey (tupleKind (ek P w)))∧(xs.map (·.1)).Nodup
 | .set S n=>h.SetOf (intKind P w) a S n
 | .ins C dx fs=>H dx=some (.own a)∧fs.length≤1000∧dx≠a∧h.get? a=some (PySem.W.instObj C dx) ∧
   ∃ mA,h.Ns1 dx mA∧(∀ f,iU (fs.lookup f) (mA f))∧PySem.Within mA (fs.map (·.1))
 | .own _=>∃ o,h.get? a=some o
 | .xd fs=>∃ mA,h.Ns1 a mA∧∀ f,iU (fs.lookup f) (mA f)
 | .rng lo hi=>∃ t u v,h.get? a=some { cls:=.type "range",data:=.fields #[.int lo t,.int hi u,.int 1 v] }
 | .frz o u=>h.get? a=some o∧aK H h a u
 | .tbl ps=>h.get? a=some { cls:=.none,data:=.fields ps }
 | .met f x=>h.get? a=some (PySem.W.methodObj (.ref f) (.ref x))
 | .ext φ=>φ h∧(∃ o,h.get? a=some o)∧∀ h1 h2:Heap,φ h1→(∀ o,h1.get? a=some o→h2.get? a=some o)→φ h2
def HOk (H:Hp) (h:Heap):Prop:=∀ a o,H a=some o→aK P w H h a o
end
section
variable {P:Program} {w:World} {H H':Hp} {h h':Heap} {a:Addr} {o:HO}
theorem aK.lt (x:aK P w H h a o):a < h.objs.size:=by
 cases o with
 | lst xs=>obtain ⟨_,_,_,_,e⟩:=x;exact Heap.lt_size e
 | tup xs=>obtain ⟨_,_,_,p⟩:=x;exact p.lt
 | dK kvs=>obtain ⟨_,_,_,_,o,_,_,e,_⟩:=x;exact Heap.lt_size e
 | dT kvs=>obtain ⟨_,_,_,_,o,_,_,e,_⟩:=x;exact Heap.lt_size e
 | set S n=>obtain ⟨o,_,_,_,e,_⟩:=x;exact Heap.lt_size e
 | ins C dx fs=>obtain ⟨_,_,_,e,_⟩:=x;exact Heap.lt_size e
 | own y=>obtain ⟨_,e⟩:=x;exact Heap.lt_size e
 | xd fs=>obtain ⟨_,⟨_,_,_,e,_⟩,_⟩:=x;exact Heap.lt_size e
 | rng lo hi=>obtain ⟨_,_,_,e⟩:=x;exact Heap.lt_size e
 | frz ob u=>obtain ⟨e,_⟩:=x;exact Heap.lt_size e
 | tbl ps=>exact Heap.lt_size (show h.get? a=some _ from x)
 | met f y=>exact Heap.lt_size (show h.get? a=some _ from x)
 | ext φ=>obtain ⟨_,⟨_,e⟩,_⟩:=x;exact Heap.lt_size e
theorem Paired.qf {α β:Type} {F G:α→β→Prop}:∀ {l₁:List α} {l₂:List β},Paired F l₁ l₂→(∀ a b,F a b→G a b)→Paired G l₁ l₂
 | _,_,.nil,_=>.nil
 | _,_,.cons r t,f=>.cons (f _ _ r) (Paired.qf t f)
theorem aK.dO (x:aK P w H h a o) (k:∀ b u,(b=a∨H b=some (.own a))→h.get? b=some u→h'.get? b=some u)
  (ho:∀ b,H b=some (.own a)→H' b=some (.own a)) (ht:∀ b xs,H b=some (.tup xs)→H' b=some (.tup xs)):aK P w H' h' a o:=by
 induction o with
 | lst xs=>obtain ⟨z,its,n,r,e⟩:=x;exact ⟨z,its,n,r,k _ _ (.inl rfl) e⟩
 | tup xs=>obtain ⟨z,its,r,ob,e,c⟩:=x;exact ⟨z,its,r,ob,k _ _ (.inl rfl) e,c⟩
 | dK kvs=>obtain ⟨z,y,vs,r,ob,es,ep,e,c⟩:=x;exact ⟨z,y,vs,r,ob,es,ep,k _ _ (.inl rfl) e,c⟩
 | dT kvs=>
  obtain ⟨z,y,xs,r,ob,es,ep,e,c⟩:=x
  exact ⟨z,y,xs,Paired.qf r fun p q z=>⟨z.1,ht _ _ z.2.1,z.2.2⟩,ob,es,ep,k _ _ (.inl rfl) e,c⟩
 | set S n=>obtain ⟨ob,es,ep,t,e,c⟩:=x;exact ⟨ob,es,ep,t,k _ _ (.inl rfl) e,c⟩
 | ins C dx fs=>
  obtain ⟨d,z,ne,e,mA,⟨od,es,ep,e2,c⟩,r⟩:=x
  exact ⟨ho _ d,z,ne,k _ _ (.inl rfl) e,mA,⟨od,es,ep,k _ _ (.inr d) e2,c⟩,r⟩
 | own y=>obtain ⟨ob,e⟩:=x;exact ⟨ob,k _ _ (.inl rfl) e⟩
 | xd fs=>obtain ⟨mA,⟨od,es,ep,e,c⟩,r⟩:=x;exact ⟨mA,⟨od,es,ep,k _ _ (.inl rfl) e,c⟩,r⟩
 | rng lo hi=>obtain ⟨t,u,v,e⟩:=x;exact ⟨t,u,v,k _ _ (.inl rfl) e⟩
 | frz ob u ih=>obtain ⟨e,q⟩:=x;exact ⟨k _ _ (.inl rfl) e,ih q⟩
 | tbl ps=>
  have e:h.get? a=some { cls:=.none,data:=.fields ps }:=x
  show h'.get? a=some { cls:=.none,data:=.fields ps }
  exact k a _ (.inl rfl) e
 | met f y=>
  have e:h.get? a=some (PySem.W.methodObj (.ref f) (.ref y)):=x
  show h'.get? a=some (PySem.W.methodObj (.ref f) (.ref y))
  exact k a _ (.inl rfl) e
 | ext φ=>obtain ⟨p,⟨o,e⟩,st⟩:=x;exact ⟨st _ _ p fun o q=>k _ _ (.inl rfl) q,⟨o,k _ _ (.inl rfl) e⟩,st⟩
theorem HOk.lt (x:HOk P w H h) (e:H a=some o):a < h.objs.size:=(x a o e).lt
theorem HOk.fresh (x:HOk P w H h) (e:h.objs.size≤a):H a=none:=by
 cases q:H a with
 | none=>rfl
 | some u=>exact absurd (Nat.lt_of_lt_of_le (x.lt q) e) (Nat.lt_irrefl _)
theorem HOk.kept (x:HOk P w H h) (k:∀ b u,h.get? b=some u→h'.get? b=some u):HOk P w H h':=fun a o e=>
 (x a o e).dO (fun b u _ q=>k b u q) (fun _ q=>q) fun _ _ q=>q
theorem HOk.laid (x:HOk P w H h) (k:∀ b u,h.get? b=some u→h'.get? b=some u) (hp:h.objs.size≤a) (new:aK P w (upd H a o) h' a o):HOk P w (upd H a o) h':=fun b u e=>by
 have hn:=x.fresh hp
 by_cases hb:b=a
 ·subst hb;rw [aB] at e;cases e;exact new
 ·rw [ak hb] at e
  exact (x b u e).dO (fun c v _ q=>k c v q) (fun c q=>by rw [ak (ay q hn)];exact q) fun c xs q=>by rw [ak (ay q hn)];exact q
end
def Rd (H:Hp) (a:Addr) (u:HO):Prop:=H a=some u∨∃ o,H a=some (.frz o u)
theorem Rd.ok {P:Program} {w:World} {H:Hp} {h:Heap} {a:Addr} {u:HO} (r:Rd H a u) (x:HOk P w H h):aK P w H h a u:=by
 rcases r with r | ⟨o,r⟩
 ·exact x a u r
 ·obtain ⟨_,q⟩:=x a _ r
  exact q
def Mut:Option HO→Prop
 | some (.lst _)=>True
 | some (.dK _)=>True
 | some (.dT _)=>True
 | some (.set _ _)=>True
 | some (.ins _ _ _)=>True
 | some (.ext _)=>True
 | _=>False
section
variable {P:Program} {w:World} {H:Hp} {h h':Heap} {x e:Addr} {o':HO}
theorem HOk.write (ok:HOk P w H h) (mu:Mut (H x)) (he:e=x∨H e=some (.own x)) (k:∀ b u,b≠e→h.get? b=some u→h'.get? b=some u) (heo:∃ u,h'.get? e=some u)
  (new:aK P w (upd H x o') h' x o'):HOk P w (upd H x o') h':=fun b u q=>by
 have nown:∀ c y,H c=some (.own y)→c≠x:=fun c y r z=>by subst z;rw [r] at mu;exact mu
 have ntup:∀ c xs,H c=some (.tup xs)→c≠x:=fun c xs r z=>by subst z;rw [r] at mu;exact mu
 by_cases hb:b=x
 ·subst hb;rw [aB] at q;cases q;exact new
 ·rw [ak hb] at q
  by_cases hbe:b=e
  ·have q':H b=some (.own x):=by
    rcases he with z | z
    ·exact absurd (hbe.trans z) hb
    ·rw [hbe];exact z
   rw [q] at q';cases q'
   obtain ⟨v,hv⟩:=heo
   exact ⟨v,by rw [hbe];exact hv⟩
  ·refine (ok b u q).dO (fun c v hc r=>k c v ?_ r) (fun c r=>by rw [ak (nown c b r)];exact r) fun c xs r=>by rw [ak (ntup c xs r)];exact r
   rcases hc with rfl | hc
   ·exact hbe
   ·rintro rfl
    rcases he with z | z
    ·exact nown c b hc z
    ·rw [hc] at z;cases z;exact hb rfl
end
structure Un (fs ex:List Addr) (H H':Hp) (h h':Heap):Prop where
 keep:∀ b o,h.get? b=some o→H b=none→b∉fs→b∉ex→h'.get? b=some o
 slot:∀ b o,h.get? b=some o→H b=none→b∈fs→b∉ex→∃ sl,h'.get? b=some { o with slots:=sl }
 free:∀ b o,h.get? b=some o→H b=none→b∉ex→H' b=none
 there:∀ b o,h.get? b=some o→b∉ex→∃ o',h'.get? b=some o'
 tups:∀ b xs,H b=some (.tup xs)→H' b=some (.tup xs)
 frzs:∀ b o u,H b=some (.frz o u)→H' b=some (.frz o u)
 tbls:∀ b ps,H b=some (.tbl ps)→∃ more,H' b=some (.tbl (ps++more))
section
variable {fs fs' ex ex':List Addr} {H H1 H2:Hp} {h h1 h2 h':Heap} {a x e:Addr} {o:HO}
theorem Un.any (u:Un fs ex H H1 h h1) {b:Addr} {ob:Obj} (q:h.get? b=some ob) (n:H b=none) (hx:b∉ex):∃ sl,h1.get? b=some { ob with slots:=sl }:=by
 by_cases hb:b∈fs
 ·exact u.slot b ob q n hb hx
 ·exact ⟨ob.slots,u.keep b ob q n hb hx⟩
theorem Un.kept (k:∀ b u,h.get? b=some u→h'.get? b=some u):Un fs ex H H h h':=
 ⟨fun b ob q _ _ _=>k b ob q,fun b ob q _ _ _=>⟨ob.slots,k b ob q⟩,fun _ _ _ n _=>n,fun b ob q _=>⟨ob,k b ob q⟩,fun _ _ q=>q,fun _ _ _ q=>q,fun _ ps q=>⟨#[],by rw [q];simp⟩⟩
theorem Un.refl:Un fs ex H H h h:=Un.kept fun _ _ q=>q
theorem Un.laid (k:∀ b u,h.get? b=some u→h'.get? b=some u) (hp:h.objs.size≤a) (hn:H a=none):Un fs ex H (upd H a o) h h' where
 keep:=fun b u q _ _ _=>k b u q
 slot:=fun b u q _ _ _=>⟨u.slots,k b u q⟩
 free:=fun b u q n _=>by rw [ak (Nat.ne_of_lt (Nat.lt_of_lt_of_le (Heap.lt_size q) hp))];exact n
 there:=fun b u q _=>⟨u,k b u q⟩
 tups:=fun b xs q=>by rw [ak (ay q hn)];exact q
 frzs:=fun b u xs q=>by rw [ak (ay q hn)];exact q
 tbls:=fun b ps q=>⟨#[],by rw [ak (ay q hn),q];simp⟩
theorem Un.write (mu:Mut (H x)) (he:e=x∨H e=some (.own x)) (k:∀ b u,b≠e→h.get? b=some u→h'.get? b=some u) (heo:∃ u,h'.get? e=some u):Un fs ex H (upd H x o) h h':=by
 have hx:∀ b,H b=none→b≠x:=fun b n z=>by subst z;rw [n] at mu;exact mu
 have hb:∀ b,H b=none→b≠e:=fun b n z=>by
  subst z
  rcases he with r | r
  ·exact hx b n r
  ·rw [n] at r;cases r
 have hm:∀ b u,H b=some u→¬Mut (some u)→b≠x:=fun b u q nm z=>by subst z;rw [q] at mu;exact nm mu
 refine ⟨fun b u q n _ _=>k b u (hb b n) q,fun b u q n _ _=>⟨u.slots,k b u (hb b n) q⟩,fun b u q n _=>by rw [ak (hx b n)];exact n,fun b u q _=>?_,
  fun b xs q=>by rw [ak (hm b _ q fun z=>z)];exact q,fun b u xs q=>by rw [ak (hm b _ q fun z=>z)];exact q,fun b ps q=>⟨#[],by rw [ak (hm b _ q fun z=>z),q];simp⟩⟩
 by_cases hbe:b=e
 ·subst hbe;exact heo
 ·exact ⟨u,k b u hbe q⟩
end
def trk (h:Heap) (H:Hp):List Addr:=(List.range h.objs.size).filter fun a=>(H a).isSome
def dt (h:Heap) (H:Hp):Heap:=PySem.W.hideAll h (trk h H)
theorem kd (h:Heap) (H:Hp):(dt h H).objs.size=h.objs.size:=PySem.W.hideAll_size _ _
theorem lu {h:Heap} {H:Hp} {b:Addr} {o:Obj} (e:h.get? b=some o) (n:H b=none):(dt h H).get? b=some o:=
 PySem.W.hideAll_get _ e fun hm=>by
  have q:(H b).isSome=true:=(List.mem_filter.mp hm).2
  rw [n] at q;simp at q
theorem nB {h:Heap} {H:Hp} {b:Addr} {o:Obj} (e:(dt h H).get? b=some o):h.get? b=some o∧H b=none:=by
 have e':h.get? b=some o:=PySem.W.of_hideAll (trk h H) e
 refine ⟨e',?_⟩
 cases q:H b with
 | none=>rfl
 | some x=>
  have hm:b∈trk h H:=List.mem_filter.mpr ⟨List.mem_range.mpr (Heap.lt_size e'),by simp [q]⟩
  have z:(dt h H).get? b=none:=PySem.W.hideAll_none (trk h H) hm
  rw [z] at e;cases e
def nA (g h:Heap) (L:Addr):List (Addr×Obj):=(List.range h.objs.size).filterMap fun a=>if a=L∨(g.get? a).isSome=true then none else (h.get? a).map fun o=>(a,o)
def rest (g h:Heap) (L d:Addr):List (Addr×Obj):=(nA g h L).filter fun p=>decide (p.1≠d)
structure Mod (K:PySem.W.Frag) (mg:Str→Option Value) (base:Heap):Prop where
 kin:K.In base
 glob:base.Ns mainGlobals mg
 blt:∃ mb,base.Ns builtinsNs mb∧∀ x:Str,x≠"__name__"→mb x=bootBuiltins x
 nolimit:base.NoLimit
structure Cx where
 prog:Program
 w:World
 K:PySem.W.Frag
 mg:Str→Option Value
 base:Heap
 A:Around
 N:List Str
 s₀:Shared
 H₀:Hp
 env:Env
 outer:List Env
 stack:List Env
 ex:List Addr
 fn:Str→Bool
 calm:Bool
 pn:List (Addr×Obj)
 xe:Value→Shared→Prop
def frs (l:List Env):List Addr:=l.filterMap (·.frame)
abbrev Cx.fs (X:Cx):List Addr:=frs X.outer
def Vis (sc:Scope) (x:Str):Prop:=sc.names.lookup x=some .local∨sc.names.lookup x=some .cell∨sc.names.lookup x=some .free
def Loc (sc:Scope) (x:Str):Prop:=sc.names.lookup x=some .local∨sc.names.lookup x=some .cell
def Look (env:Env) (h:Heap) (m:Str→Option Value) (x:Str) (u:Value):Prop:=
 (env.kindOf x=some .local∧m x=some u)∨((env.kindOf x=some .cell∨env.kindOf x=some .free)∧∃ c,env.cells.lookup x=some c∧h.IsCell c (some u))
structure Cx.Ok (X:Cx):Prop where
 mod:Mod X.K X.mg X.base
 kind:X.env.scope.kind=.function
 glob:X.env.globals=mainGlobals
 blt:X.env.builtins=builtinsNs
 above:X.s₀.heap.objs.size≤X.env.locals
 inj:∀ x y c,X.env.cells.lookup x=some c→X.env.cells.lookup y=some c→x=y
 has:∀ x,(X.env.kindOf x=some .cell∨X.env.kindOf x=some .free)→∃ c,X.env.cells.lookup x=some c
 cab:∀ x c,X.fn x=true→X.env.cells.lookup x=some c→X.s₀.heap.objs.size≤c
 hd:X.calm=true→X.A.handled=none
 frames:X.A.frames=some X.stack
 stk:X.stack=X.outer∨(X.stack=X.env :: X.outer∧X.env.frame=some X.env.locals)
 exf:∀ b∈X.ex,b≠X.env.locals∧∀ x c,X.env.cells.lookup x=some c→c≠b
 bs:∀ b o,X.base.get? b=some o→X.s₀.heap.get? b=some o∧X.H₀ b=none
 bsz:X.base.objs.size≤X.s₀.heap.objs.size
 noex:∀ b o,X.base.get? b=some o→b∉X.ex
 exfs:∀ b∈X.ex,b∉X.fs
 cB:X.s₀.heap.FunFrames X.base X.outer
 frf:∀ b∈X.fs,X.H₀ b=none
structure Inv (X:Cx) (pins:List (Addr×Obj)) (σ:List (Option V)) (H:Hp) (s:Shared):Prop where
 ok:X.Ok
 os:s.os=X.s₀.os
 bare:AllBare s.gens
 base:Un X.fs X.ex X.H₀ H X.s₀.heap s.heap
 loc:∃ m,s.heap.Ns X.env.locals m∧∀ (i:Nat) (x:Str) (v:V),X.N[i]?=some x→σ[i]?=some (some v)→Vis X.env.scope x→∃ u,RelV v u∧Look X.env s.heap m x u
 cell:∀ x c,X.env.cells.lookup x=some c→∃ v,s.heap.IsCell c v
 free:H X.env.locals=none
 freeC:∀ x c,X.env.cells.lookup x=some c→H c=none
 pin:∀ p∈X.pn++pins,s.heap.get? p.1=some p.2∧H p.1=none∧p.1≠X.env.locals∧p.1∉X.fs∧∀ v,p.2.data≠.cell v
 hok:HOk X.prog X.w H s.heap
 len:σ.length=X.N.length
section
variable {X:Cx} {pins:List (Addr×Obj)} {σ:List (Option V)} {H H':Hp} {s:Shared} {h':Heap}
theorem Cx.Ok.uD (ok:X.Ok) {b:Addr} {o:Obj} (e:X.base.get? b=some o):b∉X.fs:=fun hb=>by
 have:=(ok.cB.mem hb).1
 rw [e] at this;cases this
theorem Inv.bs (I:Inv X pins σ H s):∀ b o,X.base.get? b=some o→s.heap.get? b=some o∧H b=none:=fun b o e=>
 ⟨I.base.keep b o (I.ok.bs b o e).1 (I.ok.bs b o e).2 (I.ok.uD e) (I.ok.noex b o e),I.base.free b o (I.ok.bs b o e).1 (I.ok.bs b o e).2 (I.ok.noex b o e)⟩
theorem Inv.bk (I:Inv X pins σ H s):∀ b o,X.base.get? b=some o→s.heap.get? b=some o:=fun b o e=>(I.bs b o e).1
theorem Inv.mod (I:Inv X pins σ H s):Mod X.K X.mg X.base:=I.ok.mod
theorem Inv.kIn (I:Inv X pins σ H s):X.K.In s.heap:=I.ok.mod.kin.keeps I.bk
theorem Inv.lt (I:Inv X pins σ H s):X.env.locals < s.heap.objs.size:=let ⟨_,hn,_⟩:=I.loc;hn.lt
theorem Inv.sz (I:Inv X pins σ H s):X.s₀.heap.objs.size≤s.heap.objs.size:=Nat.le_trans I.ok.above (Nat.le_of_lt I.lt)
theorem Inv.pQ (I:Inv X pins σ H s) {a:Addr} (h:s.heap.objs.size≤a):a∉X.fs:=fun hb=>by
 obtain ⟨_,o,ho,_⟩:=I.ok.cB.mem hb
 exact absurd (Nat.lt_of_lt_of_le (Heap.lt_size ho) (Nat.le_trans I.sz h)) (Nat.lt_irrefl _)
theorem Inv.cne (I:Inv X pins σ H s):∀ x c,X.env.cells.lookup x=some c→c≠X.env.locals:=fun x c e z=>by
 obtain ⟨v,o,ho,hd⟩:=I.cell x c e
 obtain ⟨m,⟨o',es,ep,ho',hd',_⟩,_⟩:=I.loc
 rw [z,ho'] at ho;cases ho;rw [hd'] at hd;cases hd
theorem Inv.cB (I:Inv X pins σ H s):s.heap.FunFrames X.base X.outer:=by
 have all:∀ (l:List Env),(∀ b∈frs l,b∈X.fs)→X.s₀.heap.FunFrames X.base l→s.heap.FunFrames X.base l:=by
  intro l
  induction l with
  | nil=>intro _ _;trivial
  | cons env r ih=>
   intro hs hl
   obtain ⟨hk,⟨L,o,hf,hn,ho,hd⟩,hr⟩:=hl
   have hL:L∈X.fs:=hs L (by unfold frs;rw [List.filterMap_cons,hf];exact List.mem_cons_self)
   obtain ⟨sl,e⟩:=I.base.slot L o ho (I.ok.frf L hL) hL fun z=>I.ok.exfs L z hL
   exact ⟨hk,⟨L,_,hf,hn,e,hd⟩,ih (fun b hb=>hs b (by unfold frs;rw [List.filterMap_cons,hf];exact List.mem_cons_of_mem _ hb)) hr⟩
 exact all X.outer (fun _ hb=>hb) I.ok.cB
theorem Inv.stack (I:Inv X pins σ H s):s.heap.FunFrames X.base X.stack:=by
 rcases I.ok.stk with e | ⟨e,hf⟩
 ·rw [e];exact I.cB
 ·rw [e]
  obtain ⟨m,hn,_⟩:=I.loc
  refine .cons (by rw [I.ok.kind];decide) hf hn ?_ I.cB
  exact Heap.get?_none_of_le (Nat.le_trans I.ok.bsz I.ok.above)
theorem Inv.eO (I:Inv X pins σ H s):∀ b∈frs X.stack,b∈X.env.locals :: X.fs:=fun b hb=>by
 rcases I.ok.stk with e | ⟨e,hf⟩
 ·rw [e] at hb;exact List.mem_cons_of_mem _ hb
 ·rw [e] at hb
  unfold frs at hb
  rw [List.filterMap_cons,hf] at hb
  exact hb
theorem Inv.iE (I:Inv X pins σ H s):∀ b∈frs X.stack,H b=none:=fun b hb=>by
 rcases List.mem_cons.mp (I.eO b hb) with e | hb
 ·rw [e];exact I.free
 ·obtain ⟨_,o,ho,_⟩:=I.ok.cB.mem hb
  exact I.base.free b o ho (I.ok.frf b hb) fun z=>I.ok.exfs b z hb
theorem Inv.step {g':Array GenState} {t':Nat} {d':Drawn} {ch:List Addr} (I:Inv X pins σ H s)
  (hch:∀ b∈ch,(b∈X.ex∨X.s₀.heap.objs.size≤b)∧b≠X.env.locals∧(∀ x c,X.env.cells.lookup x=some c→c≠b)∧∀ p∈X.pn++pins,p.1≠b)
  (keep:∀ b o,b≠X.env.locals→b∉X.fs→b∉ch→s.heap.get? b=some o→H b=none→h'.get? b=some o)
  (slot:∀ b o,b≠X.env.locals→b∈X.fs→b∉ch→s.heap.get? b=some o→H b=none→∃ sl,h'.get? b=some { o with slots:=sl }) (free:∀ b o,b∉ch→s.heap.get? b=some o→H b=none→H' b=none)
  (there:∀ b o,b∉ch→s.heap.get? b=some o→∃ o',h'.get? b=some o')
  (tups:∀ b xs,H b=some (.tup xs)→H' b=some (.tup xs)) (frzs:∀ b o u,H b=some (.frz o u)→H' b=some (.frz o u)) (tbls:∀ b ps,H b=some (.tbl ps)→∃ more,H' b=some (.tbl (ps++more)))
  (ns:∀ m,s.heap.Ns X.env.locals m→h'.Ns X.env.locals m) (hok:HOk X.prog X.w H' h') (hg:AllBare g') :
  Inv X pins σ H' { s with heap:=h',gens:=g',drawn:=d',toks:=t' }:=by
 have neL:∀ b o,X.s₀.heap.get? b=some o→b≠X.env.locals:=fun b o e=>Nat.ne_of_lt (Nat.lt_of_lt_of_le (Heap.lt_size e) I.ok.above)
 have neC:∀ b o,X.s₀.heap.get? b=some o→b∉X.ex→b∉ch:=fun b o e hx hb=>by
  rcases (hch b hb).1 with z | z
  ·exact hx z
  ·exact absurd (Nat.lt_of_lt_of_le (Heap.lt_size e) z) (Nat.lt_irrefl _)
 have cellK:∀ x c,X.env.cells.lookup x=some c→∀ v,s.heap.IsCell c v→h'.IsCell c v:=fun x c e v ⟨o,ho,hd⟩=>by
  have nch:c∉ch:=fun z=>(hch c z).2.2.1 x c e rfl
  by_cases hc:c∈X.fs
  ·obtain ⟨sl,q⟩:=slot c o (I.cne x c e) hc nch ho (I.freeC x c e)
   exact ⟨_,q,hd⟩
  ·exact ⟨o,keep c o (I.cne x c e) hc nch ho (I.freeC x c e),hd⟩
 refine ⟨I.ok,I.os,hg,⟨fun b o e n hb hx=>?_,fun b o e n hb hx=>?_,fun b o e n hx=>?_,fun b o e hx=>?_,fun b xs e=>tups b xs (I.base.tups b xs e),fun b o xs e=>frzs b o xs (I.base.frzs b o xs e),fun b ps e=>?_⟩,?_,fun x c e=>?_,?_,fun x c e=>?_,fun p hp=>?_,hok,I.len⟩
 ·exact keep b o (neL b o e) hb (neC b o e hx) (I.base.keep b o e n hb hx) (I.base.free b o e n hx)
 ·obtain ⟨sl,e1⟩:=I.base.slot b o e n hb hx
  obtain ⟨sl',e2⟩:=slot b _ (neL b o e) hb (neC b o e hx) e1 (I.base.free b o e n hx)
  exact ⟨sl',e2⟩
 ·obtain ⟨o',e1⟩:=I.base.there b o e hx
  exact free b o' (neC b o e hx) e1 (I.base.free b o e n hx)
 ·obtain ⟨o',e1⟩:=I.base.there b o e hx
  exact there b o' (neC b o e hx) e1
 ·obtain ⟨m1,e1⟩:=I.base.tbls b ps e
  obtain ⟨m2,e2⟩:=tbls b _ e1
  exact ⟨m1++m2,by rw [e2,Array.append_assoc]⟩
 ·obtain ⟨m,hn,hl⟩:=I.loc
  refine ⟨m,ns m hn,fun i x v e1 e2 e3=>?_⟩
  obtain ⟨u,r,l⟩:=hl i x v e1 e2 e3
  refine ⟨u,r,?_⟩
  rcases l with l | ⟨k,c,e,z⟩
  ·exact .inl l
  ·exact .inr ⟨k,c,e,cellK x c e _ z⟩
 ·obtain ⟨v,z⟩:=I.cell x c e
  exact ⟨v,cellK x c e v z⟩
 ·obtain ⟨m,⟨o,_,_,ho,_⟩,_⟩:=I.loc
  exact free _ o (fun z=>(hch _ z).2.1 rfl) ho I.free
 ·obtain ⟨v,o,ho,hd⟩:=I.cell x c e
  exact free c o (fun z=>(hch c z).2.2.1 x c e rfl) ho (I.freeC x c e)
 ·obtain ⟨e,n,ne,nf,d⟩:=I.pin p hp
  have nch:p.1∉ch:=fun z=>(hch p.1 z).2.2.2 p hp rfl
  exact ⟨keep p.1 p.2 ne nf nch e n,free p.1 p.2 nch e n,ne,nf,d⟩
theorem Inv.un {t':Nat} (I:Inv X pins σ H s) (u:Un X.fs [] H H' s.heap h') (hok:HOk X.prog X.w H' h'):Inv X pins σ H' { s with heap:=h',toks:=t' }:=by
 obtain ⟨m,⟨o,es,ep,ho,r⟩,_⟩:=id I.loc
 obtain ⟨sl,hL⟩:=u.any ho I.free (by simp)
 exact I.step (g':=s.gens) (d':=s.drawn) (ch:=[]) (fun _ z=>nomatch z) (fun b o _ hb _ e n=>u.keep b o e n hb (by simp)) (fun b o _ hb _ e n=>u.slot b o e n hb (by simp)) (fun b o _ e n=>u.free b o e n (by simp)) (fun b o _ e=>u.there b o e (by simp)) u.tups u.frzs u.tbls (fun m' hm=>by
  obtain ⟨o',es',ep',ho',r'⟩:=hm
  rw [ho] at ho';cases ho'
  exact ⟨_,es',ep',hL,r'⟩) hok I.bare
theorem Inv.call {g':Array GenState} {t':Nat} {d':Drawn} {ch:List Addr} (I:Inv X pins σ H s) (u:Un (frs X.stack) ch H H' s.heap h') (hok:HOk X.prog X.w H' h') (hg:AllBare g')
  (hch:∀ b∈ch,(b∈X.ex∨X.s₀.heap.objs.size≤b)∧b≠X.env.locals∧(∀ x c,X.env.cells.lookup x=some c→c≠b)∧∀ p∈X.pn++pins,p.1≠b) :
  Inv X pins σ H' { s with heap:=h',gens:=g',drawn:=d',toks:=t' }:=by
 obtain ⟨m,⟨o,es,ep,ho,r⟩,_⟩:=id I.loc
 obtain ⟨sl,hL⟩:=u.any ho I.free fun z=>(hch _ z).2.1 rfl
 exact I.step (ch:=ch) hch (fun b o hL hb hc e n=>u.keep b o e n (fun z=>(List.mem_cons.mp (I.eO b z)).elim hL hb) hc) (fun b o _ _ hc e n=>u.any e n hc) (fun b o hc e n=>u.free b o e n hc) (fun b o hc e=>u.there b o e hc) u.tups u.frzs u.tbls (fun m' hm=>by
  obtain ⟨o',es',ep',ho',r'⟩:=hm
  rw [ho] at ho';cases ho'
  exact ⟨_,es',ep',hL,r'⟩) hok hg
theorem Inv.turned {t':Nat} {it:Addr} (I:Inv X pins σ H s) (k:∀ b o,b≠it→s.heap.get? b=some o→h'.get? b=some o) (hn:H it=none) (hL:it≠X.env.locals)
  (h1:it∈X.ex∨X.s₀.heap.objs.size≤it) (h2:∀ x c,X.env.cells.lookup x=some c→c≠it) (h3:∀ p∈X.pn++pins,p.1≠it):Inv X pins σ H { s with heap:=h',toks:=t' }:=by
 have nit:∀ b u,H b=some u→b≠it:=fun b u e z=>by rw [z,hn] at e;cases e
 refine I.step (g':=s.gens) (d':=s.drawn) (ch:=[it]) (fun b hb=>?_) (fun b o _ _ hc e _=>k b o (fun z=>hc (by simp [z])) e) (fun b o _ _ hc e _=>⟨o.slots,k b o (fun z=>hc (by simp [z])) e⟩) (fun _ _ _ _ n=>n)
  (fun b o hc e=>⟨o,k b o (fun z=>hc (by simp [z])) e⟩) (fun _ _ e=>e) (fun _ _ _ e=>e) (fun b ps e=>⟨#[],by rw [e];simp⟩) (fun m hm=>?_) (fun b u e=>?_) I.bare
 ·have e:b=it:=by simpa using hb
  subst e
  exact ⟨h1,hL,h2,h3⟩
 ·obtain ⟨o,es,ep,ho,r⟩:=hm
  exact ⟨o,es,ep,k _ o (Ne.symm hL) ho,r⟩
 ·refine (I.hok b u e).dO (fun c v hc q=>k c v ?_ q) (fun _ q=>q) fun _ _ q=>q
  rcases hc with z | z
  ·rw [z];exact nit b u e
  ·exact nit c _ z
theorem Inv.tok (I:Inv X pins σ H s) (t:Nat):Inv X pins σ H { s with toks:=t }:=I.un (h':=s.heap) (t':=t) Un.refl I.hok
theorem Inv.kept {t':Nat} (I:Inv X pins σ H s) (k:∀ b u,s.heap.get? b=some u→h'.get? b=some u):Inv X pins σ H { s with heap:=h',toks:=t' }:=I.un (Un.kept k) (I.hok.kept k)
theorem Inv.laid {a:Addr} {o:HO} {t':Nat} (I:Inv X pins σ H s) (k:∀ b u,s.heap.get? b=some u→h'.get? b=some u) (hp:s.heap.objs.size≤a) (new:aK X.prog X.w (upd H a o) h' a o) :
  Inv X pins σ (upd H a o) { s with heap:=h',toks:=t' }:=I.un (Un.laid k hp (I.hok.fresh hp)) (I.hok.laid k hp new)
theorem Inv.write {x e:Addr} {o:HO} {t':Nat} (I:Inv X pins σ H s) (mu:Mut (H x)) (he:e=x∨H e=some (.own x)) (k:∀ b u,b≠e→s.heap.get? b=some u→h'.get? b=some u) (heo:∃ u,h'.get? e=some u)
  (new:aK X.prog X.w (upd H x o) h' x o):Inv X pins σ (upd H x o) { s with heap:=h',toks:=t' }:=I.un (Un.write mu he k heo) (I.hok.write mu he k heo new)
theorem Inv.fB {pins':List (Addr×Obj)} (I:Inv X pins σ H s) (h:∀ p∈pins',s.heap.get? p.1=some p.2∧H p.1=none∧p.1≠X.env.locals∧p.1∉X.fs∧∀ v,p.2.data≠.cell v):Inv X pins' σ H s:=
 ⟨I.ok,I.os,I.bare,I.base,I.loc,I.cell,I.free,I.freeC,fun p hp=>(List.mem_append.mp hp).elim (fun z=>I.pin p (List.mem_append_left _ z)) (h p),I.hok,I.len⟩
theorem gB {N:List Str} (hN:N.Nodup) {i j:Nat} {x:Str} (a:N[i]?=some x) (b:N[j]?=some x):i=j:=by
 obtain ⟨h1,e1⟩:=List.getElem?_eq_some_iff.mp a
 obtain ⟨h2,e2⟩:=List.getElem?_eq_some_iff.mp b
 exact (List.getElem_inj hN).mp (e1.trans e2.symm)
theorem kc {M:Model} {A:Around} {E:Value→Shared→Prop} {i:Nat} {x:Str} {v:V} {u:Value} {Q:Unit→Shared→Prop} (I:Inv X pins σ H s) (hN:X.N.Nodup) (hi:X.N[i]?=some x) (hx:Loc X.env.scope x) (r:RelV v u)
  (h:∀ s',Inv X pins (σ.set i (some v)) H s'→(∃ a,Heap.SameBut a s.heap s'.heap∧(a=X.env.locals∨X.env.cells.lookup x=some a))→Q () s') (hf:X.fn x=true∨X.env.scope.names.lookup x=some .local:=by first | exact .inl rfl | exact .inr rfl | assumption):wpAny M A (storeName X.env x u) Q E s:=by
 obtain ⟨m,hn,hl⟩:=id I.loc
 have hcls:(X.env.scope.kind == .class || (X.env.scope.kind == .module && X.env.locals != X.env.globals))=false:=by rw [I.ok.kind];rfl
 have hiσ:i < σ.length:=by rw [I.len];exact (List.getElem?_eq_some_iff.mp hi).1
 have cne:=I.cne
 have tracked:∀ {a:Addr} {h':Heap},(∃ o,s.heap.get? a=some o∧H a=none)→Heap.SameBut a s.heap h'→HOk X.prog X.w H h':=fun {a h'} ha hs b ob e=>by
  obtain ⟨_,_,hfree⟩:=ha
  refine (I.hok b ob e).dO (fun c w' hc q=>(hs.2 c ?_).trans q) (fun _ q=>q) fun _ _ q=>q
  rintro rfl
  rcases hc with rfl | hc
  ·rw [hfree] at e;cases e
  ·rw [hfree] at hc;cases hc
 rcases hx with hk | hk
 ·refine wpAny_storeName_local hk hn (fun h' hn' hs=>?_) hcls
  obtain ⟨oL,_,_,hoL,_⟩:=id hn
  refine h _ ⟨I.ok,I.os,I.bare,⟨fun b o e n hb hx=>?_,fun b o e n hb hx=>?_,I.base.free,fun b o e hx=>?_,I.base.tups,I.base.frzs,I.base.tbls⟩,⟨_,hn',fun j y v' e1 e2 e3=>?_⟩,fun y c e=>?_,I.free,I.freeC,fun p hp=>?_,tracked ⟨oL,hoL,I.free⟩ hs,by simpa using I.len⟩ ⟨_,hs,.inl rfl⟩
  ·exact (hs.2 b (Nat.ne_of_lt (Nat.lt_of_lt_of_le (Heap.lt_size e) I.ok.above))).trans (I.base.keep b o e n hb hx)
  ·obtain ⟨sl,e1⟩:=I.base.slot b o e n hb hx
   exact ⟨sl,(hs.2 b (Nat.ne_of_lt (Nat.lt_of_lt_of_le (Heap.lt_size e) I.ok.above))).trans e1⟩
  ·obtain ⟨o',e1⟩:=I.base.there b o e hx
   exact ⟨o',(hs.2 b (Nat.ne_of_lt (Nat.lt_of_lt_of_le (Heap.lt_size e) I.ok.above))).trans e1⟩
  ·by_cases hj:j=i
   ·subst hj
    rw [hi] at e1;cases e1
    rw [List.getElem?_set_self hiσ] at e2
    cases e2
    exact ⟨u,r,.inl ⟨hk,by simp⟩⟩
   ·rw [List.getElem?_set_ne (Ne.symm hj)] at e2
    obtain ⟨u',r',q⟩:=hl j y v' e1 e2 e3
    refine ⟨u',r',?_⟩
    rcases q with ⟨k,e⟩ | ⟨k,c,e,z⟩
    ·refine .inl ⟨k,?_⟩
     have:y≠x:=fun e=>hj (gB hN e1 (e ▸ hi))
     simp [this,e]
    ·exact .inr ⟨k,c,e,z.sameBut hs (cne y c e)⟩
  ·obtain ⟨w',z⟩:=I.cell y c e
   exact ⟨w',z.sameBut hs (cne y c e)⟩
  ·obtain ⟨e,n,ne,nf,d⟩:=I.pin p hp
   exact ⟨(hs.2 p.1 ne).trans e,n,ne,nf,d⟩
 ·have hfn:X.fn x=true:=by
   rcases hf with z | z
   ·exact z
   ·rw [z] at hk;cases hk
  obtain ⟨c,hc⟩:=I.ok.has x (.inl hk)
  obtain ⟨w',z⟩:=I.cell x c hc
  refine wpAny_storeName_cell I.ok.kind hk hc z (fun h' hc' hs=>?_)
  obtain ⟨oc,hoc,hocd⟩:=id z
  refine h { s with heap:=h' } ⟨I.ok,I.os,I.bare,⟨fun b o e n hb hx=>?_,fun b o e n hb hx=>?_,I.base.free,fun b o e hx=>?_,I.base.tups,I.base.frzs,I.base.tbls⟩,⟨m,hn.sameBut hs (Ne.symm (cne x c hc)),fun j y v' e1 e2 e3=>?_⟩,fun y c' e=>?_,I.free,I.freeC,fun p hp=>?_,tracked ⟨oc,hoc,I.freeC x c hc⟩ hs,by simpa using I.len⟩ ⟨c,hs,.inr hc⟩
  ·exact (hs.2 b (Nat.ne_of_lt (Nat.lt_of_lt_of_le (Heap.lt_size e) (I.ok.cab x c hfn hc)))).trans (I.base.keep b o e n hb hx)
  ·obtain ⟨sl,e1⟩:=I.base.slot b o e n hb hx
   exact ⟨sl,(hs.2 b (Nat.ne_of_lt (Nat.lt_of_lt_of_le (Heap.lt_size e) (I.ok.cab x c hfn hc)))).trans e1⟩
  ·obtain ⟨o',e1⟩:=I.base.there b o e hx
   exact ⟨o',(hs.2 b (Nat.ne_of_lt (Nat.lt_of_lt_of_le (Heap.lt_size e) (I.ok.cab x c hfn hc)))).trans e1⟩
  ·by_cases hj:j=i
   ·subst hj
    rw [hi] at e1;cases e1
    rw [List.getElem?_set_self hiσ] at e2
    cases e2
    exact ⟨u,r,.inr ⟨.inl hk,c,hc,hc'⟩⟩
   ·rw [List.getElem?_set_ne (Ne.symm hj)] at e2
    obtain ⟨u',r',q⟩:=hl j y v' e1 e2 e3
    refine ⟨u',r',?_⟩
    rcases q with q | ⟨k,c',e,z'⟩
    ·exact .inl q
    ·refine .inr ⟨k,c',e,z'.sameBut hs ?_⟩
     rintro rfl
     exact hj (gB hN e1 (I.ok.inj _ _ _ e hc ▸ hi))
  ·by_cases hcc:c'=c
   ·subst hcc;exact ⟨_,hc'⟩
   ·obtain ⟨w2,z2⟩:=I.cell y c' e
    exact ⟨w2,z2.sameBut hs hcc⟩
  ·obtain ⟨e,n,ne,nf,d⟩:=I.pin p hp
   refine ⟨(hs.2 p.1 ?_).trans e,n,ne,nf,d⟩
   intro q
   rw [q,hoc] at e
   have q':oc=p.2:=Option.some.inj e
   exact d w' (by rw [← q'];exact hocd)
theorem eE {M:Model} {A:Around} {E:Value→Shared→Prop} {i:Nat} {x:Str} {v:V} {u:Value} {Q:Unit→Shared→Prop} (I:Inv X pins σ H s) (hN:X.N.Nodup) (hi:X.N[i]?=some x) (hx:Loc X.env.scope x) (r:RelV v u)
  (h:∀ s',Inv X pins (σ.set i (some v)) H s'→Q () s') (hf:X.fn x=true∨X.env.scope.names.lookup x=some .local:=by first | exact .inl rfl | exact .inr rfl | assumption):wpAny M A (storeName X.env x u) Q E s:=
 kc I hN hi hx r (fun s' I' _=>h s' I') hf
theorem Inv.sX {s':Shared} {ch:List Addr} (I:Inv X pins σ H s) (ho:s'.os=s.os) (u:Un (frs X.stack) ch H H' s.heap s'.heap) (hok:HOk X.prog X.w H' s'.heap) (hg:AllBare s'.gens)
  (hch:∀ b∈ch,(b∈X.ex∨X.s₀.heap.objs.size≤b)∧b≠X.env.locals∧(∀ x c,X.env.cells.lookup x=some c→c≠b)∧∀ p∈X.pn++pins,p.1≠b):Inv X pins σ H' s':=by
 obtain ⟨h',g',d',t',o'⟩:=s'
 have e:o'=s.os:=ho
 subst e
 exact I.call (g':=g') (t':=t') (d':=d') u hok hg hch
end
abbrev XK:=Value→Option Addr→Hp→Prop
abbrev St:=List (Option V)
abbrev VK:=V→Hp→Prop
abbrev TE:=St→Hp→VK→Prop
abbrev TT:=St→Hp→(Bool→Hp→Prop)→Prop
abbrev TA:=St→Hp→(List V→Hp→Prop)→Prop
structure Ends where
 nx:St→Hp→Prop
 rt:VK
 bk:St→Hp→Prop:=fun _ _=>False
 ct:St→Hp→Prop:=fun _ _=>False
abbrev TS:=Ends→St→Hp→Prop
def EP (X:Cx) (pins:List (Addr×Obj)) (σ:St) (Q:VK) (u:Value) (s':Shared):Prop:=∃ v H',Inv X pins σ H' s'∧RelV v u∧Q v H'
def TP (X:Cx) (pins:List (Addr×Obj)) (σ:St) (Q:Bool→Hp→Prop) (b:Bool) (s':Shared):Prop:=∃ H',Inv X pins σ H' s'∧Q b H'
def AP (X:Cx) (pins:List (Addr×Obj)) (σ:St) (Q:List V→Hp→Prop) (us:List Value) (s':Shared):Prop:=∃ vs H',Inv X pins σ H' s'∧Vals vs us∧Q vs H'
def SP (X:Cx) (pins:List (Addr×Obj)) (D:Ends) (f:Flow) (s':Shared):Prop:=
 match f with
 | .next=>∃ σ' H',Inv X pins σ' H' s'∧D.nx σ' H'
 | .brk=>∃ σ' H',Inv X pins σ' H' s'∧D.bk σ' H'
 | .cont=>∃ σ' H',Inv X pins σ' H' s'∧D.ct σ' H'
 | .ret u=>∃ v σ' H',Inv X pins σ' H' s'∧RelV v u∧D.rt v H'
def PE (X:Cx) (e:Expr) (t:TE):Prop:=
 ∀ (pins:List (Addr×Obj)) (s:Shared) (σ:St) (H:Hp) (Q:VK),Inv X pins σ H s→t σ H Q→wpAny (model X.prog X.w) X.A (eval e X.env) (EP X pins σ Q) X.xe s
def PT (X:Cx) (e:Expr) (t:TT):Prop:=
 ∀ (pins:List (Addr×Obj)) (s:Shared) (σ:St) (H:Hp) (Q:Bool→Hp→Prop),Inv X pins σ H s→t σ H Q→wpAny (model X.prog X.w) X.A (isTrue e X.env (eval e X.env)) (TP X pins σ Q) X.xe s
def PW (X:Cx) (e:Expr) (t:TT):Prop:=
 ∀ (whole:Sem Value) (pins:List (Addr×Obj)) (s:Shared) (σ:St) (H:Hp) (Q:Bool→Hp→Prop),Inv X pins σ H s→t σ H Q→wpAny (model X.prog X.w) X.A (isTrue e X.env whole) (TP X pins σ Q) X.xe s
theorem PW.pt {X:Cx} {e:Expr} {t:TT} (h:PW X e t):PT X e t:=h _
def PA (X:Cx) (es:List Expr) (t:TA):Prop:=
 ∀ (pos:Pos) (pins:List (Addr×Obj)) (s:Shared) (σ:St) (H:Hp) (Q:List V→Hp→Prop),Inv X pins σ H s→t σ H Q→wpAny (model X.prog X.w) X.A (spliced (backTo pos (starEach es X.env))) (AP X pins σ Q) X.xe s
def PS (X:Cx) (st:Stmt) (t:TS):Prop:=
 ∀ (pins:List (Addr×Obj)) (s:Shared) (σ:St) (H:Hp) (D:Ends),Inv X pins σ H s→t D σ H→wpAny (model X.prog X.w) X.A (exec st X.env) (SP X pins D) X.xe s
def PSs (X:Cx) (st:List Stmt) (t:TS):Prop:=
 ∀ (pins:List (Addr×Obj)) (s:Shared) (σ:St) (H:Hp) (D:Ends),Inv X pins σ H s→t D σ H→wpAny (model X.prog X.w) X.A (execs st X.env) (SP X pins D) X.xe s
theorem thn {α:Type} {t:Sem α} {Q Q':α→Shared→Prop} {M:Model} {A:Around} {E:Value→Shared→Prop} {s:Shared} (h:wpAny M A t Q E s) (hQ:∀ a s,Q a s→Q' a s):wpAny M A t Q' E s:=wpAny_mono h hQ fun _ _ x=>x
section
variable {X:Cx}
def fb (i:Nat):TE:=fun σ H Q=>∃ v,σ[i]?=some (some v)∧Q v H
def tC (v:V):TE:=fun _ H Q=>Q v H
theorem j9 {i:Nat} {x:Str} {pos:Pos} (hN:X.N[i]?=some x) (hv:Vis X.env.scope x) (hd:(x == ("__debug__":Str))=false:=by decide) (hcd:(x == ("__classdict__":Str))=false:=by decide):PE X (.Name x pos) (fb i):=by
 intro pins s σ H Q I h
 obtain ⟨v,e,h⟩:=h
 obtain ⟨m,hn,hl⟩:=I.loc
 obtain ⟨u,r,l⟩:=hl i x v hN e hv
 have fin:EP X pins σ Q u s:=⟨v,H,I,r,h⟩
 rcases l with ⟨hk,hm⟩ | ⟨hk,c,hc,hcell⟩
 ·exact wpAny_Name (wpAny_loadName_local I.ok.kind hk hn hm fin) hd
 ·rcases hk with hk | hk
  ·exact wpAny_Name (wpAny_loadName_cell I.ok.kind hk hc hcell fin) hd
  ·exact wpAny_Name (wpAny_loadName_free I.ok.kind hk hc hcell fin hcd) hd
theorem qO {i j pos}:PE X (.Constant (.int i) j pos) (tC (.int i)):=fun _ _ _ H _ I h=>wpAny_Constant_int ⟨.int i,H,I.tok _,⟨_,rfl⟩,h⟩
theorem sF {b j pos}:PE X (.Constant (.bool b) j pos) (tC (.bl b)):=fun _ _ _ H _ I h=>Constant_bool ⟨.bl b,H,I,rfl,h⟩
theorem qV {j pos}:PE X (.Constant .none j pos) (tC .non):=fun _ _ _ H _ I h=>Constant_none ⟨.non,H,I,rfl,h⟩
theorem pf {x j pos}:PE X (.Constant (.str x) j pos) (tC (.str x)):=fun _ _ _ H _ I h=>Calls.Constant_str ⟨.str x,H,I.tok _,⟨_,rfl⟩,h⟩
def Gl (X:Cx) (x:Str):Prop:=X.env.kindOf x=some .globalImplicit
theorem c8 {E:Value→Shared→Prop} {pins:List (Addr×Obj)} {s:Shared} {σ:St} {H:Hp} {x:Str} {u:Value} {pos:Pos} {Q:Value→Shared→Prop} (I:Inv X pins σ H s) (hg:Gl X x) (hm:X.mg x=some u) (h:Q u s)
  (hd:(x == ("__debug__":Str))=false:=by decide):wpAny (model X.prog X.w) X.A (eval (.Name x pos) X.env) Q E s:=
 Calls.Name_function_global I.ok.kind hg (Calls.loadGlobal_global (by rw [I.ok.glob];exact I.mod.glob.keeps I.bk) hm h) hd
theorem cy {E:Value→Shared→Prop} {pins:List (Addr×Obj)} {s:Shared} {σ:St} {H:Hp} {x:Str} {u:Value} {pos:Pos} {Q:Value→Shared→Prop} (I:Inv X pins σ H s) (hg:Gl X x) (hm:X.mg x=none) (hv:bootBuiltins x=some u) (h:Q u s)
  (hn:x≠"__name__":=by decide) (hd:(x == ("__debug__":Str))=false:=by decide):wpAny (model X.prog X.w) X.A (eval (.Name x pos) X.env) Q E s:=by
 obtain ⟨mb,h1,h2⟩:=I.mod.blt
 exact Calls.Name_function_global I.ok.kind hg (Calls.loadGlobal_builtin (by rw [I.ok.glob];exact I.mod.glob.keeps I.bk) hm (by rw [I.ok.blt];exact h1.keeps I.bk) ((h2 x hn).trans hv) h) hd
theorem nT {x:Str} {v:V} {u:Value} {pos:Pos} (hg:Gl X x) (hm:X.mg x=some u) (r:RelV v u) (hd:(x == ("__debug__":Str))=false:=by decide):PE X (.Name x pos) (tC v):=
 fun _ _ _ H _ I h=>c8 I hg hm ⟨v,H,I,r,h⟩ hd
theorem iy {x:Str} {v:V} {u:Value} {pos:Pos} (hg:Gl X x) (hm:X.mg x=none) (hv:bootBuiltins x=some u) (r:RelV v u) (hn:x≠"__name__":=by decide) (hd:(x == ("__debug__":Str))=false:=by decide):PE X (.Name x pos) (tC v):=
 fun _ _ _ H _ I h=>cy I hg hm hv ⟨v,H,I,r,h⟩ hn hd
variable {a b:Expr} {ta tb:TE} {pos:Pos}
variable {tA tB':TT} {rest:List Expr}
def tOr (t u:TT):TT:=fun σ H Q=>t σ H fun c H1=>if c=true then Q true H1 else u σ H1 Q
def uU (t:TT):TT:=fun σ H Q=>t σ H fun c H1=>Q (!c) H1
theorem qT (ha:PT X a tA):PW X (.BoolOp .Or [a] pos) tA:=by
 intro wh pins s σ H Q I h
 refine isTrue_or (thn (ha pins s σ H Q I h) fun c s1 e=>?_)
 cases c with
 | false=>exact isTrue_or_nil e
 | true=>exact e
theorem sV (ha:PT X a tA) (hb:PW X (.BoolOp .Or (b :: rest) pos) tB'):PW X (.BoolOp .Or (a :: b :: rest) pos) (tOr tA tB'):=by
 intro wh pins s σ H Q I h
 refine isTrue_or (thn (ha pins s σ H _ I h) fun c s1 ⟨H1,I1,q1⟩=>?_)
 cases c with
 | true=>exact ⟨H1,I1,q1⟩
 | false=>exact hb wh pins s1 σ H1 Q I1 q1
theorem n_ (ha:PT X a tA):PT X (.UnaryOp .Not a pos) (uU tA):=by
 intro pins s σ H Q I h
 exact isTrue_not (ha pins s σ H (fun c H1=>Q (!c) H1) I h)
def uv (ta tb:TE):TE:=fun σ H Q=>ta σ H fun x H1=>∃ c,x=.bl c∧if c=true then tb σ H1 Q else Q (.bl false) H1
theorem pA {op} {t:TE} (h:PE X a t):PE X (.BoolOp op [a] pos) t:=fun pins s σ H Q I hw=>BoolOp_one (h pins s σ H Q I hw)
theorem oA (ha:PE X a ta) (hb:PE X (.BoolOp .And (b :: rest) pos) tb):PE X (.BoolOp .And (a :: b :: rest) pos) (uv ta tb):=by
 intro pins s σ H Q I h
 refine BoolOp_and (thn (ha pins s σ H _ I h) fun v s1 ⟨x,H1,I1,r1,q1⟩=>?_)
 obtain ⟨c,rfl,q1⟩:=q1
 cases r1
 refine wpAny_truthy_bool ?_
 cases c with
 | true=>exact hb pins s1 σ H1 Q I1 q1
 | false=>exact ⟨.bl false,H1,I1,rfl,q1⟩
end
def SqL (K:PySem.W.Frag) (H:Hp) (a:Addr) (xs:List V):Prop:=
 Rd H a (.lst xs) ∨
  ∃ (o:Obj) (its:Array Value) (n:Nat),K.lookup a=some o∧o.cls=.type "list"∧o.dict=none∧o.data=.seq its n∧its.size≤sizeLine∧Vals xs its.toList
def SqT (K:PySem.W.Frag) (H:Hp) (a:Addr) (xs:List V):Prop:=
 Rd H a (.tup xs) ∨
  ∃ (o:Obj) (its:Array Value) (n:Nat),K.lookup a=some o∧o.cls=.type "tuple"∧o.data=.seq its n∧its.size≤sizeLine∧Vals xs its.toList
def uV:Value→Option V
 | .none=>some .non
 | .bool b=>some (.bl b)
 | .int i _=>some (.int i)
 | .str x _=>some (.str x)
 | .bytes b _=>some (.byt b)
 | .float b _=>some (.flt b)
 | .ref a=>some (.ref a)
 | .type n=>some (.ty n)
 | _=>none
theorem RelV.abs {x:V} {u:Value} (r:RelV x u):uV u=some x:=by
 cases x with
 | non=>cases r;rfl
 | bl _=>cases r;rfl
 | int _=>obtain ⟨t,rfl⟩:=r;rfl
 | str _=>obtain ⟨t,rfl⟩:=r;rfl
 | byt _=>obtain ⟨t,rfl⟩:=r;rfl
 | flt _=>obtain ⟨t,rfl⟩:=r;rfl
 | ref _=>cases r;rfl
 | ty _=>cases r;rfl
theorem RelV.inj {x y:V} {u:Value} (r:RelV x u) (q:RelV y u):x=y:=Option.some.inj (r.abs.symm.trans q.abs)
theorem Vals.inj:∀ {xs ys:List V} {us:List Value},Vals xs us→Vals ys us→xs=ys
 | _,_,_,.nil,.nil=>rfl
 | _,_,_,.cons r t,.cons r' t'=>by rw [r.inj r',Vals.inj t t']
section
variable {X:Cx} {pins:List (Addr×Obj)} {σ:St} {H:Hp} {s:Shared} {a:Addr} {xs ys:List V}
theorem SqL.of {K:PySem.W.Frag} (h:H a=some (.lst xs)):SqL K H a xs:=.inl (.inl h)
theorem SqT.of {K:PySem.W.Frag} (h:H a=some (.tup xs)):SqT K H a xs:=.inl (.inl h)
theorem Inv.list (I:Inv X pins σ H s) (h:SqL X.K H a xs):∃ its:List Value,Vals xs its∧PlainL s.heap a its.toArray∧xs.length≤sizeLine:=by
 rcases h with h | ⟨o,its,n,hk,hc,hd,hs,hz,r⟩
 ·obtain ⟨z,its,n,r,e⟩:=h.ok I.hok
  exact ⟨its,r,⟨_,n,e,rfl,rfl,rfl⟩,z⟩
 ·refine ⟨its.toList,r,⟨o,n,I.kIn a o hk,hc,hd,by simpa using hs⟩,?_⟩
  have e:=r.length
  simp only [Array.length_toList] at e
  omega
theorem Inv.tuple (I:Inv X pins σ H s) (h:SqT X.K H a xs):∃ its:List Value,Vals xs its∧IsTup s.heap a its.toArray∧xs.length≤sizeLine:=by
 rcases h with h | ⟨o,its,n,hk,hc,hs,hz,r⟩
 ·obtain ⟨z,its,r,p⟩:=h.ok I.hok
  exact ⟨its,r,p,z⟩
 ·refine ⟨its.toList,r,⟨o,I.kIn a o hk,hc,n,by simpa using hs⟩,?_⟩
  have e:=r.length
  simp only [Array.length_toList] at e
  omega
theorem Inv.g9 (I:Inv X pins σ H s) (h:SqL X.K H a xs) (h':SqL X.K H a ys):xs=ys:=by
 obtain ⟨its,r,⟨o,n,e,_,_,d⟩,_⟩:=I.list h
 obtain ⟨its',r',⟨o',n',e',_,_,d'⟩,_⟩:=I.list h'
 rw [e] at e';cases e'
 rw [d] at d'
 injection d' with d1 _
 have:its=its':=by simpa using congrArg Array.toList d1
 subst this
 exact r.inj r'
end
abbrev Cx.cW (X:Cx) (E:Value→Shared→Prop):Cx:={ X with xe:=E }
abbrev Cx.nox (X:Cx):Cx:=X.cW fun _ _=>False
theorem Cx.Ok.cW {X:Cx} (ok:X.Ok) (E:Value→Shared→Prop):(X.cW E).Ok:=
 ⟨ok.mod,ok.kind,ok.glob,ok.blt,ok.above,ok.inj,ok.has,ok.cab,ok.hd,ok.frames,ok.stk,ok.exf,ok.bs,ok.bsz,ok.noex,ok.exfs,ok.cB,ok.frf⟩
theorem Cx.Ok.cx {X:Cx} {E:Value→Shared→Prop} (ok:(X.cW E).Ok):X.Ok:=
 ⟨ok.mod,ok.kind,ok.glob,ok.blt,ok.above,ok.inj,ok.has,ok.cab,ok.hd,ok.frames,ok.stk,ok.exf,ok.bs,ok.bsz,ok.noex,ok.exfs,ok.cB,ok.frf⟩
section
variable {X:Cx} {pins:List (Addr×Obj)} {σ:St} {H:Hp} {s:Shared} {E:Value→Shared→Prop}
theorem Inv.cW (I:Inv X pins σ H s) (E:Value→Shared→Prop):Inv (X.cW E) pins σ H s:=⟨I.ok.cW E,I.os,I.bare,I.base,I.loc,I.cell,I.free,I.freeC,I.pin,I.hok,I.len⟩
theorem Inv.cx (I:Inv (X.cW E) pins σ H s):Inv X pins σ H s:=⟨I.ok.cx,I.os,I.bare,I.base,I.loc,I.cell,I.free,I.freeC,I.pin,I.hok,I.len⟩
theorem SP.cx {D:Ends} {f:Flow} {s':Shared} (h:SP (X.cW E) pins D f s'):SP X pins D f s':=by
 cases f with
 | next=>obtain ⟨σ',H',I,q⟩:=h;exact ⟨σ',H',I.cx,q⟩
 | brk=>obtain ⟨σ',H',I,q⟩:=h;exact ⟨σ',H',I.cx,q⟩
 | cont=>obtain ⟨σ',H',I,q⟩:=h;exact ⟨σ',H',I.cx,q⟩
 | ret u=>obtain ⟨v,σ',H',I,r,q⟩:=h;exact ⟨v,σ',H',I.cx,r,q⟩
theorem PSs.nox {st:List Stmt} {t:TS} (h:PSs X.nox st t):PSs X st t:=fun pins s σ H D I hw=>
 wpAny_mono (h pins s σ H D (I.cW _) hw) (fun _ _ q=>q.cx) fun _ _ z=>False.elim z
end
section
variable {X:Cx} {st:Stmt} {rest:List Stmt} {t u:TS} {e:Expr} {te:TE} {pos:Pos}
def rT:TS:=fun D σ H=>D.nx σ H
def vb (t u:TS):TS:=fun D σ H=>t { D with nx:=u D } σ H
theorem iw:PSs X [] rT:=fun _ _ σ H _ I h=>wpAny_execs_nil ⟨σ,H,I,h⟩
theorem eA (h1:PS X st t) (h2:PSs X rest u):PSs X (st :: rest) (vb t u):=by
 intro pins s σ H D I h
 refine wpAny_execs_cons (thn (h1 pins s σ H { D with nx:=u D } I h) fun f s1 q=>?_)
 cases f with
 | next=>
  obtain ⟨σ',H',I',q⟩:=q
  exact h2 pins s1 σ' H' D I' q
 | ret v=>exact q
 | brk=>exact q
 | cont=>exact q
theorem n0 (h1:PS X st t):PSs X [st] t:=by
 intro pins s σ H D I h
 refine wpAny_execs_cons (thn (h1 pins s σ H D I h) fun f s1 q=>?_)
 cases f with
 | next=>exact wpAny_execs_nil q
 | ret v=>exact q
 | brk=>exact q
 | cont=>exact q
theorem Inv.quiet {pins:List (Addr×Obj)} {σ:St} {H:Hp} {s:Shared} (I:Inv X pins σ H s):interactive X.env=false:=by simp [interactive,I.ok.kind]
def sR (te:TE):TS:=fun D σ H=>te σ H fun _ H1=>D.nx σ H1
theorem h9 (he:PE X e te) (hs:swapsWith e none pos.line X.env=pure false:=by rfl):PS X (.Expr e pos) (sR te):=by
 intro pins s σ H D I h
 exact wpAny_Expr_any (thn (he pins s σ H _ I h) fun v s1 ⟨x,H1,I1,r1,q1⟩=>⟨σ,H1,I1,q1⟩) I.quiet hs
def uP (te:TE):TS:=fun D σ H=>te σ H D.rt
theorem oU (he:PE X e te):PS X (.Return (some e) pos) (uP te):=by
 intro pins s σ H D I h
 exact wpAny_Return_some (thn (he pins s σ H _ I h) fun v s1 ⟨x,H1,I1,r1,q1⟩=>⟨x,σ,H1,I1,r1,q1⟩)
def uJ (c:TT) (t u:TS):TS:=fun D σ H=>c σ H fun b H1=>if b=true then t D σ H1 else u D σ H1
theorem tQ {c:Expr} {a b:List Stmt} {tc:TT} (hc:PT X c tc) (ha:PSs X a t) (hb:PSs X b u):PS X (.If c a b pos) (uJ tc t u):=by
 intro pins s σ H D I h
 refine wpAny_If (thn (hc pins s σ H _ I h) fun d s1 ⟨H1,I1,q1⟩=>?_)
 cases d with
 | true=>exact ha pins s1 σ H1 D I1 q1
 | false=>exact hb pins s1 σ H1 D I1 q1
end
abbrev TG:=V→St→Hp→(St→Hp→Prop)→Prop
abbrev TGs:=List V→St→Hp→(St→Hp→Prop)→Prop
def PG (X:Cx) (target:Expr) (t:TG):Prop:=
 ∀ (pins:List (Addr×Obj)) (s:Shared) (σ:St) (H:Hp) (v:V) (u:Value) (Q:St→Hp→Prop),Inv X pins σ H s→RelV v u→t v σ H Q →
  wpAny (model X.prog X.w) X.A (assign target X.env u) (fun _ s'=>∃ σ' H',Inv X pins σ' H' s'∧Q σ' H') X.xe s
def PGs (X:Cx) (ts:List Expr) (t:TGs):Prop:=
 ∀ (pins:List (Addr×Obj)) (s:Shared) (σ:St) (H:Hp) (vs:List V) (us:List Value) (Q:St→Hp→Prop),Inv X pins σ H s→Vals vs us→t vs σ H Q →
  wpAny (model X.prog X.w) X.A (assignInOrder ((assignEach ts X.env).map (·.2)) us) (fun _ s'=>∃ σ' H',Inv X pins σ' H' s'∧Q σ' H') X.xe s
abbrev gN:=V→V→V→Hp→(Hp→Prop)→Prop
def i5 (X:Cx) (t:gN):Prop:=
 ∀ (pins:List (Addr×Obj)) (s:Shared) (σ:St) (H:Hp) (o i v:V) (ov iv u:Value) (Q:Hp→Prop),Inv X pins σ H s→RelV o ov→RelV i iv→RelV v u→t o i v H Q →
  wpAny (model X.prog X.w) X.A (setItem ov iv u) (fun _ s'=>∃ H',Inv X pins σ H' s'∧Q H') X.xe s
section
variable {X:Cx} {pos:Pos}
def mw (i:Nat):TG:=fun v σ H Q=>Q (σ.set i (some v)) H
theorem nP {i:Nat} {x:Str} (hN:X.N.Nodup) (hi:X.N[i]?=some x) (hx:Loc X.env.scope x) (hf:X.fn x=true∨X.env.scope.names.lookup x=some .local:=by first | exact .inl rfl | exact .inr rfl | assumption):PG X (.Name x pos) (mw i):=by
 intro pins s σ H v u Q I r h
 exact wpAny_assign_Name (eE I hN hi hx r (fun s' I'=>⟨_,H,I',h⟩) hf)
def u7:TGs:=fun vs σ H Q=>vs=[]∧Q σ H
def ub (t:TG) (u:TGs):TGs:=fun vs σ H Q=>∃ v r,vs=v :: r∧t v σ H fun σ' H'=>u r σ' H' Q
theorem m8:PGs X [] u7:=by
 intro pins s σ H vs us Q I r h
 obtain ⟨e,h⟩:=h
 subst e
 cases r
 exact assignInOrder_nil ⟨σ,H,I,h⟩
theorem kT {e:Expr} {es:List Expr} {t:TG} {u:TGs} (h1:PG X e t) (h2:PGs X es u)
  (hs:(assignEach (e :: es) X.env).map (·.2)=assign e X.env :: (assignEach es X.env).map (·.2):=by rfl):PGs X (e :: es) (ub t u):=by
 intro pins s σ H vs us Q I r h
 obtain ⟨v,vr,e1,h⟩:=h
 subst e1
 cases r with
 | cons r rr=>
  rw [hs]
  refine assignInOrder_cons (thn (h1 pins s σ H _ _ _ I r h) fun _ s1 ⟨σ1,H1,I1,q1⟩=>?_)
  exact h2 pins s1 σ1 H1 _ _ Q I1 rr q1
def uY (K:PySem.W.Frag) (n:Nat) (t:TGs):TG:=fun v σ H Q=>∃ a xs,v=.ref a∧SqT K H a xs∧xs.length=n∧t xs σ H Q
theorem qa {es:List Expr} {k:Nat} {t:TGs} {n:Nat} (hc:X.calm=true) (h:PGs X es t)
  (hn:(assignEach es X.env).length=n:=by rfl) (hst:(assignEach es X.env).findIdx? (·.1)=none:=by rfl):PG X (.Tuple es k pos) (uY X.K n t):=by
 intro pins s σ H v u Q I r hw
 obtain ⟨a,xs,e1,hq,hl,hw⟩:=hw
 subst e1
 cases r
 obtain ⟨its,rv,ht,hz⟩:=I.tuple hq
 refine assign_Tuple_tuple (I.ok.hd hc) ht (by simp [hn,← hl,rv.length]) hst fun h' hx=>?_
 have I1:Inv X pins σ H { s with heap:=h' }:=I.kept (t':=s.toks) fun b o e=>hx b o (Nat.ne_of_lt (Heap.lt_size e)) e
 exact h pins _ σ H xs _ Q I1 (by simpa using rv) hw
def va (to ti:TE) (t:gN):TG:=fun v σ H Q=>to σ H fun o H1=>ti σ H1 fun i H2=>t o i v H2 fun H3=>Q σ H3
theorem pq {o i:Expr} {to ti:TE} {t:gN} (ho:PE X o to) (hi:PE X i ti) (hs:i5 X t)
  (ha:∀ v,assign (.Subscript o i pos) X.env v=(do
   let ov ← holding [v] (eval o X.env)
   let iv ← holding [v,ov] (eval i X.env)
   standAt pos
   holding [v,ov,iv] (setItem ov iv v)
   release [v,ov,iv] []):=by intro _;rfl):PG X (.Subscript o i pos) (va to ti t):=by
 intro pins s σ H v u Q I r h
 rw [ha]
 refine wpAny_bind (wpAny_holding (thn (ho pins s σ H _ I h) fun ov s1 ⟨x,H1,I1,r1,q1⟩=>?_))
 refine wpAny_bind (wpAny_holding (thn (hi pins s1 σ H1 _ I1 q1) fun iv s2 ⟨y,H2,I2,r2,q2⟩=>?_))
 refine wpAny_bind (wpAny_standAt (wpAny_bind (wpAny_holding (thn (hs pins s2 σ H2 x y v ov iv u _ I2 r1 r2 r q2) fun _ s3 ⟨H3,I3,q3⟩=>?_))))
 exact wpAny_release ⟨σ,H3,I3,q3⟩
def pH (te:TE) (g:TG):TS:=fun D σ H=>te σ H fun x H1=>g x σ H1 D.nx
theorem pF {tg e:Expr} {te:TE} {g:TG} (he:PE X e te) (hg:PG X tg g) (hs:swapsWithSole [tg] e pos.line X.env=pure false:=by rfl) (hw:swappedStores [tg] e X.env=pure none:=by rfl)
  (h1:(assignEach [tg] X.env).map (·.2)=[assign tg X.env]:=by rfl):PS X (.Assign [tg] e pos) (pH te g):=by
 intro pins s σ H D I h
 refine wpAny_Assign_stores (thn (he pins s σ H _ I h) fun v s1 ⟨x,H1,I1,r1,q1⟩=>?_) hs hw
 rw [h1]
 exact thn (hg pins s1 σ H1 x v _ I1 r1 q1) fun _ s2 q=>q
theorem pL {i:Nat} {x:Str} {e:Expr} {te:TE} {pos':Pos} (hN:X.N.Nodup) (hi:X.N[i]?=some x) (hx:Loc X.env.scope x) (he:PE X e te) (hs:swapsWith e (some (.Name x pos')) pos.line X.env=pure false:=by rfl) (hf:X.fn x=true∨X.env.scope.names.lookup x=some .local:=by first | exact .inl rfl | exact .inr rfl | assumption) :
  PS X (.Assign [.Name x pos'] e pos) (pH te (mw i)):=by
 intro pins s σ H D I h
 refine wpAny_Assign_Name (thn (he pins s σ H _ I h) fun v s1 ⟨y,H1,I1,r1,q1⟩=>?_) hs
 exact eE I1 hN hi hx r1 (fun s2 I2=>⟨_,H1,I2,q1⟩) hf
end
structure It where
 go:Nat→Hp→Prop
 yld:Nat→Hp→V→Hp→Prop
 stop:Nat→Hp→Prop
def cA (X:Cx) (pins:List (Addr×Obj)) (H:Hp) (b:Addr):Prop:=
 H b=none∧b≠X.env.locals∧b∉X.fs∧(b∈X.ex∨X.s₀.heap.objs.size≤b)∧(∀ x c,X.env.cells.lookup x=some c→c≠b)∧∀ p∈X.pn++pins,p.1≠b
theorem Inv.gM {X:Cx} {pins:List (Addr×Obj)} {σ:St} {H H':Hp} {s:Shared} {b:Addr} (I:Inv X pins σ H s) (hb:s.heap.objs.size≤b) (hn:H' b=none):cA X pins H' b:=by
 refine ⟨hn,Nat.ne_of_gt (Nat.lt_of_lt_of_le I.lt hb),I.pQ hb,.inr (Nat.le_trans I.sz hb),fun x c e z=>?_,fun p hp z=>?_⟩
 ·obtain ⟨v,q⟩:=I.cell x c e
  exact absurd (Nat.lt_of_lt_of_le q.lt (by rw [z];exact hb)) (Nat.lt_irrefl _)
 ·exact absurd (Nat.lt_of_lt_of_le (Heap.lt_size (I.pin p hp).1) (by rw [z];exact hb)) (Nat.lt_irrefl _)
structure Turn (P:Program) (w:World) (K:PySem.W.Frag) (tg:Expr) (J:It) (fp:List Addr) (it:Addr) (tn:Nat→Heap→Prop):Prop where
 mem:it∈fp
 obj:∀ i h,tn i h→∀ b∈fp,∃ o,h.get? b=some o∧∀ v,o.data≠.cell v
 keep:∀ i h h',tn i h→(∀ b∈fp,∀ o,h.get? b=some o→h'.get? b=some o)→tn i h'
 item:∀ (X:Cx),X.prog=P→X.w=w→X.K=K→X.calm=true→∀ (i:Nat) (pins:List (Addr×Obj)) (s:Shared) (σ:St) (H:Hp) (E:Value→Shared→Prop),Inv X pins σ H s→(∀ b∈fp,cA X pins H b)→tn i s.heap→J.go i H →
  wpAny (model P w) X.A (pyNext (.ref it)) (fun r s1=>∃ u,r=some u ∧
   wpAny (model P w) X.A (letOwnedTupleGo tg (.ref it) u) (fun _ s2=>∃ x H',Inv X pins σ H' s2∧RelV x u∧J.yld i H x H'∧tn (i+1) s2.heap∧∀ b∈fp,H' b=none) E s1) E s
 done:∀ (X:Cx),X.prog=P→X.w=w→X.K=K→X.calm=true→∀ (i:Nat) (pins:List (Addr×Obj)) (s:Shared) (σ:St) (H:Hp) (E:Value→Shared→Prop),Inv X pins σ H s→(∀ b∈fp,cA X pins H b)→tn i s.heap→J.stop i H →
  wpAny (model P w) X.A (pyNext (.ref it)) (fun r s1=>r=none∧Inv X pins σ H s1) E s
 self:∀ (A:Around) (i:Nat) (s:Shared) (Q:Value→Shared→Prop) (E:Value→Shared→Prop),tn i s.heap→Q (.ref it) s→wpAny (model P w) A (pyIter (.ref it)) Q E s
abbrev TI:=St→Hp→(It→Hp→Prop)→Prop
def PIE (X:Cx) (pins:List (Addr×Obj)) (σ:St) (tg:Expr) (R:It→Hp→Prop) (itv:Value) (s2:Shared):Prop:=
 ∃ (it:Addr) (fp:List Addr) (tn:Nat→Heap→Prop) (J:It) (H':Hp),itv=.ref it∧Inv X pins σ H' s2∧Turn X.prog X.w X.K tg J fp it tn∧tn 0 s2.heap∧(∀ b∈fp,cA X pins H' b)∧R J H'
def PI (X:Cx) (tg iter:Expr) (wi:TI):Prop:=
 ∀ (pins:List (Addr×Obj)) (s:Shared) (σ:St) (H:Hp) (R:It→Hp→Prop),Inv X pins σ H s→wi σ H R →
  wpAny (model X.prog X.w) X.A (eval iter X.env) (fun v s1=>wpAny (model X.prog X.w) X.A (pyIter v) (PIE X pins σ tg R) X.xe s1) X.xe s
theorem jf {M : Model} {A : Around} {E : Value → Shared → Prop} {s : Shared} {tg : Expr} {it : Addr} {u : Value} {o : Obj} {n : String} {vs : Array Value} {Q : Unit → Shared → Prop} (ho : s.heap.get? it = some o) (hc : o.cls = .type n) (hd : o.data = .fields vs)
    (hn : ["enumerate", "zip", "dict_itemiterator", "dict_reverseitemiterator", "odict_iterator", "itertools.zip_longest", "itertools.pairwise"].contains n = false) (hQ : Q () s) : wpAny M A (letOwnedTupleGo tg (.ref it) u) Q E s := by
  unfold letOwnedTupleGo
  cases tg <;> first
    | exact wpAny_pure hQ
    | (cases u <;> first
        | exact wpAny_pure hQ
        | (refine wpAny_bind (wpAny_load ho ?_)
           rw [hc, hd]
           show wpAny M A (if (["enumerate", "zip", "dict_itemiterator", "dict_reverseitemiterator", "odict_iterator", "itertools.zip_longest", "itertools.pairwise"].contains n && vs[0]? == some (rawInt _)) = true then _ else _) Q E s
           rw [if_neg (by intro h; rw [hn, Bool.false_and] at h; cases h)]
           exact wpAny_pure hQ))
def Itl (K:PySem.W.Frag) (a:Addr):It:=
 ⟨fun i H=>∃ xs x,SqL K H a xs∧xs[i]?=some x,fun i H x H'=>H'=H∧∀ xs,SqL K H a xs→xs[i]?=some x,fun i H=>∃ xs,SqL K H a xs∧xs.length≤i⟩
def Itr (lo:Int) (n:Nat):It:=⟨fun i _=>i < n,fun i H x H'=>H'=H∧x=.int (lo+i),fun i _=>n≤i⟩
theorem jD {P:Program} {w:World} {K:PySem.W.Frag} {tg:Expr} (a it:Addr):Turn P w K tg (Itl K a) [it] it (fun i h=>h.IsListIter it a i) where
 mem:=by simp
 obj:=fun i h st b hb=>by
  have e:b=it:=by simpa using hb
  subst e
  obtain ⟨o,e,c,d⟩:=st
  exact ⟨o,e,fun v z=>by rw [d] at z;cases z⟩
 keep:=fun i h h' st k=>st.at fun o e=>k it (by simp) o e
 item:=by
  intro X hP hw hK hc i pins s σ H E I hf st hg
  subst hP hw hK
  obtain ⟨xs,x,hq,hx⟩:=hg
  obtain ⟨its,rv,p,hz⟩:=I.list hq
  obtain ⟨u,hu,ru⟩:=rv.get hx
  obtain ⟨f0,f1,f2,f3,f4,f5⟩:=hf it (by simp)
  refine wpAny_pyNext_list_item st p.isList (x:=u) (by simpa using hu) fun h' st' sb=>?_
  have I1:Inv X pins σ H { s with heap:=h' }:=I.turned (t':=s.toks) (fun b o hb e=>(sb.2 b hb).trans e) f0 f1 f3 f4 f5
  obtain ⟨o,e,c,d⟩:=id st'
  exact ⟨u,rfl,jf (s:={ s with heap:=h' }) e c d (by decide) ⟨x,H,I1,ru,⟨rfl,fun ys hy=>by rw [I.g9 hy hq];exact hx⟩,st',fun b hb=>(hf b hb).1⟩⟩
 done:=by
  intro X hP hw hK hc i pins s σ H E I hf st hg
  subst hP hw hK
  obtain ⟨xs,hq,hx⟩:=hg
  obtain ⟨its,rv,p,hz⟩:=I.list hq
  obtain ⟨f0,f1,f2,f3,f4,f5⟩:=hf it (by simp)
  have hl:=rv.length
  exact wpAny_pyNext_list_end (I.ok.hd hc) st p.isList (by simp;omega) fun h' eb=>⟨rfl,I.turned (t':=s.toks) (fun b o hb e=>eb b o hb e) f0 f1 f3 f4 f5⟩
 self:=fun _ _ _ _ _ st h=>wpAny_pyIter_listiter st h
theorem i4 {P:Program} {w:World} {K:PySem.W.Frag} {tg:Expr} (it:Addr) (lo:Int) (n:Nat):Turn P w K tg (Itr lo n) [it] it (fun i h=>IsRangeIter h it (lo+(i:Nat) * 1) ((n:Int) - (i:Nat)) 1) where
 mem:=by simp
 obj:=fun i h st b hb=>by
  have e:b=it:=by simpa using hb
  subst e
  exact ⟨_,st,fun v z=>by
   have z':Data.fields _=Data.cell v:=z
   cases z'⟩
 keep:=fun i h h' st k=>k it (by simp) _ st
 item:=by
  intro X hP hw hK hc i pins s σ H E I hf st hg
  subst hP hw hK
  obtain ⟨f0,f1,f2,f3,f4,f5⟩:=hf it (by simp)
  have W:=Walks.range (prog:=X.prog) (w:=X.w) (I.ok.hd hc) it lo 1 n
  refine W.item i s _ _ hg st fun v h' tk hv st' kk=>?_
  obtain ⟨t,rfl⟩:=hv
  have I1:Inv X pins σ H { s with heap:=h',toks:=tk }:=I.turned (fun b o hb e=>kk b o (by simpa using hb) e) f0 f1 f3 f4 f5
  refine ⟨_,rfl,jf (s:={ s with heap:=h',toks:=tk }) (n:="range_iterator") st' rfl rfl (by decide) ⟨.int (lo+i),H,I1,⟨t,?_⟩,⟨rfl,rfl⟩,st',fun b hb=>(hf b hb).1⟩⟩
  rw [Int.mul_one]
 done:=by
  intro X hP hw hK hc i pins s σ H E I hf st hg
  subst hP hw hK
  obtain ⟨f0,f1,f2,f3,f4,f5⟩:=hf it (by simp)
  exact wpAny_pyNext_range_end (I.ok.hd hc) st (by have:n≤i:=hg;omega) fun h' eb=>⟨rfl,I.turned (t':=s.toks) (fun b o hb e=>eb b o hb e) f0 f1 f3 f4 f5⟩
 self:=fun _ _ _ _ _ st h=>wpAny_pyIter_rangeiter st h
section
variable {X:Cx} {tg:Expr}
theorem kL {pins:List (Addr×Obj)} {σ:St} {H:Hp} {s:Shared} {R:It→Hp→Prop} {E:Value→Shared→Prop} {lo hi:Int} {t u v:Tok} {tk:Nat} (I:Inv X pins σ H s) (h1:-(2 ^ 62)≤lo) (h2:lo < 2 ^ 62) (h3:-(2 ^ 62)≤hi) (h4:hi < 2 ^ 62)
  (q:R (Itr lo (hi - lo).toNat) H):wpAny (model X.prog X.w) X.A (pyIter (.ref s.heap.objs.size)) (PIE X pins σ tg R) E { s with heap:=s.heap.push { cls:=.type "range",data:=.fields #[.int lo t,.int hi u,.int 1 v] },toks:=tk }:=by
 refine wpAny_pyIter_range (IsRange.new ..) (small_one h1 h2 h3 h4) ?_
 have I1:Inv X pins σ H { s with heap:=s.heap.push { cls:=.type "range",data:=.fields #[.int lo t,.int hi u,.int 1 v] },toks:=tk }:=I.kept fun b o e=>Heap.get?_push_of_some _ e
 refine ⟨(s.heap.push { cls:=.type "range",data:=.fields #[.int lo t,.int hi u,.int 1 v] }).objs.size,[(s.heap.push { cls:=.type "range",data:=.fields #[.int lo t,.int hi u,.int 1 v] }).objs.size],_,_,H,rfl,
  I1.kept (t':=tk) fun b o e=>Heap.get?_push_of_some _ e,i4 _ lo (hi - lo).toNat,?_,fun b hb=>?_,q⟩
 ·have e1:lo+((0:Nat):Int) * 1=lo:=by simp
  have e2:(((hi - lo).toNat:Nat):Int) - ((0:Nat):Int)=Builtin.Range.rangeSize lo hi 1:=by rw [rangeSize_one];split<;>omega
  show IsRangeIter _ _ (lo+((0:Nat):Int) * 1) ((((hi - lo).toNat:Nat):Int) - ((0:Nat):Int)) 1
  rw [e1,e2]
  exact Heap.get?_push_size _ rfl
 ·have e:b=(s.heap.push { cls:=.type "range",data:=.fields #[.int lo t,.int hi u,.int 1 v] }).objs.size:=by simpa using hb
  subst e
  exact I1.gM (Nat.le_refl _) (I1.hok.fresh (Nat.le_refl _))
def sG (ta:TA):TI:=fun σ H R=>ta σ H fun vs H1=>∃ j:Int,vs=[.int j]∧-(2 ^ 62)≤j∧j < 2 ^ 62∧R (Itr 0 j.toNat) H1
theorem kf {a:Expr} {ta:TA} {p pos:Pos} (hg:Gl X "range") (hm:X.mg "range"=none) (ha:PA X [a] ta) (hs:starEach [a] X.env=[(false,eval a X.env)]:=by rfl):PI X tg (.Call (.Name "range" p) [a] [] pos) (sG ta):=by
 intro pins s σ H R I h
 refine Call_ (cy I hg hm boot_range (PyProof.Rows.callWith_type1 (thn (ha pos pins s σ H _ I h) fun us s1 ⟨vs,H1,I1,r1,q1⟩=>?_) hs rfl))
 obtain ⟨j,e,q1,q2,q⟩:=q1
 subst e
 cases r1 with
 | cons r rr=>
  cases rr
  obtain ⟨t,rfl⟩:=r
  exact call_range_1 (kL I1 (by omega) (by omega) q1 q2 (by simpa using q))
def uX (wi:TI) (g:TG) (tb:TS):TS:=fun D σ H=>wi σ H fun J H1=>∃ W:Nat→Nat→St→Hp→Prop,(∃ m,W 0 m σ H1)∧∀ i m σ H,W i m σ H →
 (J.stop i H∧D.nx σ H)∨(J.go i H∧∃ N:St→Hp→Prop,(∀ σ' H',N σ' H'→∃ m',m' < m∧W (i+1) m' σ' H')∧∀ x H',J.yld i H x H'→g x σ H' fun σ2 H2=>tb { D with nx:=N,ct:=N,bk:=D.nx } σ2 H2)
def dF (fp:List Addr) (h:Heap):List (Addr×Obj):=fp.filterMap fun b=>(h.get? b).map fun o=>(b,o)
theorem cD {fp:List Addr} {h:Heap} {b:Addr} {o:Obj} (hb:b∈fp) (e:h.get? b=some o):(b,o)∈dF fp h:=List.mem_filterMap.mpr ⟨b,hb,by rw [e];rfl⟩
theorem jJ {fp:List Addr} {h:Heap} {p:Addr×Obj} (hp:p∈dF fp h):p.1∈fp∧h.get? p.1=some p.2:=by
 obtain ⟨b,hb,e⟩:=List.mem_filterMap.mp hp
 cases q:h.get? b with
 | none=>rw [q] at e;cases e
 | some o=>
  rw [q] at e
  have e':(b,o)=p:=Option.some.inj e
  subst e'
  exact ⟨hb,q⟩
theorem Inv.pinned {pins:List (Addr×Obj)} {σ:St} {H:Hp} {s:Shared} {fp:List Addr} (I:Inv X pins σ H s) (hf:∀ b∈fp,cA X pins H b) (ho:∀ b∈fp,∃ o,s.heap.get? b=some o∧∀ v,o.data≠.cell v):Inv X (pins++dF fp s.heap) σ H s:=
 I.fB fun p hp=>(List.mem_append.mp hp).elim (fun z=>I.pin p (List.mem_append_right _ z)) fun z=>by
  obtain ⟨hb,e⟩:=jJ z
  obtain ⟨f0,f1,f2,_⟩:=hf p.1 hb
  obtain ⟨o,e',d⟩:=ho p.1 hb
  rw [e] at e';cases e'
  exact ⟨e,f0,f1,f2,d⟩
theorem Inv.cL {pins pl:List (Addr×Obj)} {σ:St} {H:Hp} {s:Shared} (I:Inv X (pins++pl) σ H s):Inv X pins σ H s:=I.fB fun p hp=>I.pin p (List.mem_append_right _ (List.mem_append_left _ hp))
theorem oC {iter:Expr} {body:List Stmt} {wi:TI} {g:TG} {tb:TS} {pos:Pos} (hp:PassesOwn (model X.prog X.w) X.A X.env X.xe) (hc:X.calm=true) (hi:PI X tg iter wi) (hg:PG X tg g) (hb:PSs X body tb)
  (hs:∀ x,foldedSetIterable iter X.env x=pure x:=by intro _;rfl):PS X (.For tg iter body [] pos) (uX wi g tb):=by
 intro pins s σ H D I h
 refine wpAny_For (thn (hi pins s σ H _ I h) fun v s1 h1=>thn h1 fun itv s2 h2=>?_) hs
 obtain ⟨it,fp,tn,J,H2,e,I2,T,st2,f2,W,⟨m0,w0⟩,turn⟩:=h2
 subst e
 have stat:∀ {H':Hp},(∀ b∈fp,H' b=none)→∀ b∈fp,cA X pins H' b:=fun hn b hb=>⟨hn b hb,(f2 b hb).2⟩
 refine codeAny_forLoop_any (fun n s'=>∃ i σ' H',Inv X pins σ' H' s'∧tn i s'.heap∧(∀ b∈fp,H' b=none)∧W i n σ' H') ?_ m0 ⟨0,σ,H2,I2,st2,fun b hb=>(f2 b hb).1,w0⟩
 rintro n s3 ⟨i,σ3,H3,I3,st3,fr3,w3⟩
 rcases turn i n σ3 H3 w3 with ⟨stop,qn⟩ | ⟨go,N,hN,step⟩
 ·refine wpAny_passesOwn hp (thn (T.done X rfl rfl rfl hc i pins s3 σ3 H3 X.xe I3 (stat fr3) st3 stop) fun r s4 ⟨hr,I4⟩=>?_)
  subst hr
  exact wpAny_execs_nil ⟨σ3,H3,I4,qn⟩
 ·refine wpAny_passesOwn hp (thn (T.item X rfl rfl rfl hc i pins s3 σ3 H3 X.xe I3 (stat fr3) st3 go) fun r s4 ⟨u,hr,h4⟩=>?_)
  subst hr
  refine wpAny_passesOwn hp (thn h4 fun _ s5 ⟨x,H5,I5,r5,y5,st5,fr5⟩=>?_)
  have I5':=I5.pinned (stat fr5) (T.obj _ _ st5)
  refine wpAny_passesOwn hp (thn (hg _ s5 σ3 H5 x u _ I5' r5 (step x H5 y5)) fun _ s6 ⟨σ6,H6,I6,q6⟩=>?_)
  refine wpAny_passesOwn hp (thn (hb _ s6 σ6 H6 _ I6 q6) fun f s7 q7=>?_)
  have again:∀ {σ7:St} {H7:Hp},Inv X (pins++dF fp s5.heap) σ7 H7 s7→N σ7 H7→∃ m,m < n∧∃ i σ' H',Inv X pins σ' H' s7∧tn i s7.heap∧(∀ b∈fp,H' b=none)∧W i m σ' H':=fun {σ7 H7} I7 n7=>by
   obtain ⟨m',hm,w7⟩:=hN σ7 H7 n7
   refine ⟨m',hm,i+1,σ7,H7,I7.cL,T.keep _ _ _ st5 fun b hb o e=>(I7.pin (b,o) (List.mem_append_right _ (List.mem_append_right _ (cD hb e)))).1,fun b hb=>?_,w7⟩
   obtain ⟨o,e,d⟩:=T.obj _ _ st5 b hb
   exact (I7.pin (b,o) (List.mem_append_right _ (List.mem_append_right _ (cD hb e)))).2.1
  cases f with
  | next=>obtain ⟨σ7,H7,I7,n7⟩:=q7;exact again I7 n7
  | cont=>obtain ⟨σ7,H7,I7,n7⟩:=q7;exact again I7 n7
  | brk=>obtain ⟨σ7,H7,I7,q7⟩:=q7;exact ⟨σ7,H7,I7.cL,q7⟩
  | ret v=>obtain ⟨x7,σ7,H7,I7,r7,q7⟩:=q7;exact ⟨x7,σ7,H7,I7.cL,r7,q7⟩
end
abbrev R2:=V→V→Hp→VK→Prop
def OpR (X:Cx) (f:Value→Value→Sem Value) (r:R2):Prop:=
 ∀ (pins:List (Addr×Obj)) (s:Shared) (σ:St) (H:Hp) (x y:V) (v u:Value) (Q:VK),Inv X pins σ H s→RelV x v→RelV y u→r x y H Q →
  wpAny (model X.prog X.w) X.A (f v u) (EP X pins σ Q) X.xe s
def cU (X:Cx) (f:Value) (r:List V→Hp→VK→Prop):Prop:=
 ∀ (pins:List (Addr×Obj)) (s:Shared) (σ:St) (H:Hp) (xs:List V) (us:List Value) (Q:VK),Inv X pins σ H s→Vals xs us→r xs H Q →
  wpAny (model X.prog X.w) X.A (call f us) (EP X pins σ Q) X.xe s
def vd (X:Cx) (r:V→Hp→(Bool→Hp→Prop)→Prop):Prop:=
 ∀ (pins:List (Addr×Obj)) (s:Shared) (σ:St) (H:Hp) (x:V) (v:Value) (Q:Bool→Hp→Prop),Inv X pins σ H s→RelV x v→r x H Q →
  wpAny (model X.prog X.w) X.A (truthy v) (TP X pins σ Q) X.xe s
def tOp (r:R2) (ta tb:TE):TE:=fun σ H Q=>ta σ H fun x H1=>tb σ H1 fun y H2=>r x y H2 Q
def rI (C:Int→Int→Prop) (g:Int→Int→V):R2:=fun x y H Q=>∃ i j,x=.int i∧y=.int j∧C i j∧Q (g i j) H
def rI0 (g:Int→Int→V):R2:=fun x y H Q=>∃ i j,x=.int i∧y=.int j∧Q (g i j) H
section
variable {X:Cx} {a b c:Expr} {ta tb tc:TE} {pos:Pos}
theorem lP (ha:PE X a ta) (hb:PE X b tb) {pins:List (Addr×Obj)} {s:Shared} {σ:St} {H:Hp} {R:V→V→Hp→Prop} (I:Inv X pins σ H s)
  (h:ta σ H fun x H1=>tb σ H1 fun y H2=>R x y H2) {Q:Value→Shared→Prop} {f:Value→Value→Sem Value}
  (hf:∀ v u s2 x y H2,Inv X pins σ H2 s2→RelV x v→RelV y u→R x y H2→wpAny (model X.prog X.w) X.A (f v u) Q X.xe s2) :
  wpAny (model X.prog X.w) X.A (eval a X.env) (fun v s₁=>wpAny (model X.prog X.w) X.A (eval b X.env) (fun u s₂=>wpAny (model X.prog X.w) X.A (f v u) Q X.xe s₂) X.xe s₁) X.xe s:=by
 refine thn (ha pins s σ H _ I h) fun v s1 ⟨x,H1,I1,r1,q1⟩=>?_
 refine thn (hb pins s1 σ H1 _ I1 q1) fun u s2 ⟨y,H2,I2,r2,q2⟩=>?_
 exact hf v u s2 x y H2 I2 r1 r2 q2
theorem uy {op:Operator} {r:R2} (ho:OpR X (binaryOp op) r) (ha:PE X a ta) (hb:PE X b tb):PE X (.BinOp a op b pos) (tOp r ta tb):=by
 intro pins s σ H Q I h
 exact wpAny_BinOp (lP ha hb I h fun v u s2 x y H2 I2 rx ry q=>ho pins s2 σ H2 x y v u Q I2 rx ry q)
theorem opI {f:Value→Value→Sem Value} {C:Int→Int→Prop} {g:Int→Int→Int}
  (rule:∀ (i j:Int) (t u:Tok) (s:Shared) (Q:Value→Shared→Prop) (E:Value→Shared→Prop),C i j→Q (.int (g i j) s.toks) { s with toks:=s.toks+1 }→wpAny (model X.prog X.w) X.A (f (.int i t) (.int j u)) Q E s) :
  OpR X f (rI C fun i j=>.int (g i j)):=by
 intro pins s σ H x y v u Q I rx ry h
 obtain ⟨i,j,rfl,rfl,hc,q⟩:=h
 obtain ⟨t,rfl⟩:=rx
 obtain ⟨t',rfl⟩:=ry
 exact rule i j t t' s _ _ hc ⟨.int (g i j),H,I.tok _,⟨_,rfl⟩,q⟩
theorem pW {f:Value→Value→Sem Value} {g:Int→Int→Int}
  (rule:∀ (i j:Int) (t u:Tok) (s:Shared) (Q:Value→Shared→Prop) (E:Value→Shared→Prop),Q (.int (g i j) s.toks) { s with toks:=s.toks+1 }→wpAny (model X.prog X.w) X.A (f (.int i t) (.int j u)) Q E s) :
  OpR X f (rI0 fun i j=>.int (g i j)):=by
 intro pins s σ H x y v u Q I rx ry h
 obtain ⟨i,j,rfl,rfl,q⟩:=h
 obtain ⟨t,rfl⟩:=rx
 obtain ⟨t',rfl⟩:=ry
 exact rule i j t t' s _ _ ⟨.int (g i j),H,I.tok _,⟨_,rfl⟩,q⟩
theorem ku {f:Value→Value→Sem Value} {g:Int→Int→Bool}
  (rule:∀ (i j:Int) (t u:Tok) (s:Shared) (Q:Value→Shared→Prop) (E:Value→Shared→Prop),Q (.bool (g i j)) s→wpAny (model X.prog X.w) X.A (f (.int i t) (.int j u)) Q E s) :
  OpR X f (rI0 fun i j=>.bl (g i j)):=by
 intro pins s σ H x y v u Q I rx ry h
 obtain ⟨i,j,rfl,rfl,q⟩:=h
 obtain ⟨t,rfl⟩:=rx
 obtain ⟨t',rfl⟩:=ry
 exact rule i j t t' s _ _ ⟨.bl (g i j),H,I,rfl,q⟩
def fm (i j:Int):Prop:=0 < j∧j < 1073741824
def fg (i j:Int):Prop:=0≤j∧j≤1000000∧i.natAbs < 2 ^ 64
def de (i j:Int):Prop:=(-(2 ^ 64) < i∧i < 2 ^ 64)∨(-(2 ^ 64) < j∧j < 2 ^ 64)
theorem de.ok {i j:Int} (h:de i j):IntMulOk i j:=by
 rcases h with ⟨h1,h2⟩ | ⟨h1,h2⟩
 ·exact .of_left (intBits_le_64 h1 h2)
 ·exact .of_right (intBits_le_64 h1 h2)
theorem qL:OpR X (binaryOp .Add) (rI0 fun i j=>.int (i+j)):=pW fun _ _ _ _ _ _ _ q=>add_int q
theorem pa:OpR X (binaryOp .Sub) (rI0 fun i j=>.int (i - j)):=pW fun _ _ _ _ _ _ _ q=>sub_int q
theorem bY:OpR X (binaryOp .Mult) (rI de fun i j=>.int (i * j)):=opI fun _ _ _ _ _ _ _ hc q=>mul_int q hc.ok
theorem mC:OpR X (binaryOp .FloorDiv) (rI fm fun i j=>.int (i / j)):=opI fun i j _ _ _ _ _ hc q=>by
 have h1:(0:Int) < j:=hc.1
 have h2:j < 1073741824:=hc.2
 exact floordiv_int (by omega) (by rw [Int.fdiv_eq_ediv_of_nonneg i (by omega)];exact q) (.inl (PyProof.noPylong_small (by omega)))
theorem bL:OpR X (binaryOp .Mod) (rI (fun _ j=>0 < j) fun i j=>.int (i % j)):=opI fun i j _ _ _ _ _ hc q=>by
 have h1:(0:Int) < j:=hc
 exact mod_int' (by omega) (by rw [Int.fmod_eq_emod_of_nonneg i (by omega)];exact q)
theorem gr:OpR X (binaryOp .Pow) (rI fg fun i j=>.int (i ^ j.toNat)):=opI fun _ _ _ _ _ _ _ hc q=>pow_int_small hc.1 hc.2.1 hc.2.2 q
end
def kF:V→V→Bool
 | .non,.non=>true | .non,.int _=>true | .int _,.non=>true | .non,.bl _=>true | .bl _,.non=>true | .non,.str _=>true | .str _,.non=>true
 | .int _,.int _=>true | .bl _,.bl _=>true | .str _,.str _=>true | .byt _,.byt _=>true
 | .int _,.str _=>true | .str _,.int _=>true | .bl _,.str _=>true | .str _,.bl _=>true
 | _,_=>false
def rEq:R2:=fun x y H Q=>kF x y=true∧Q (.bl (decide (x=y))) H
def rNe:R2:=fun x y H Q=>kF x y=true∧Q (.bl (!decide (x=y))) H
theorem iu {i j:Int}:decide (V.int i=V.int j)=(i == j):=by
 rw [Bool.eq_iff_iff]
 simp
theorem kn {i j:Bool}:decide (V.bl i=V.bl j)=(i == j):=by
 rw [Bool.eq_iff_iff]
 simp
theorem iB {i j:Str}:decide (V.str i=V.str j)=(i == j):=by
 rw [Bool.eq_iff_iff]
 simp
theorem ie {i j:Array UInt8}:decide (V.byt i=V.byt j)=(i.toList == j.toList):=by
 rw [Bool.eq_iff_iff]
 cases i
 cases j
 simp
section
variable {X:Cx} {a b c:Expr} {ta tb tc:TE} {pos:Pos}
theorem az {pins:List (Addr×Obj)} {σ:St} {H:Hp} {s:Shared} {Q:VK} {k k':Bool} (I:Inv X pins σ H s) (q:Q (.bl k) H) (e:k=k'):EP X pins σ Q (.bool k') s:=by
 subst e
 exact ⟨.bl k,H,I,rfl,q⟩
theorem tR:OpR X (compareOp .Eq) rEq:=by
 intro pins s σ H x y v u Q I rx ry h
 obtain ⟨hs,q⟩:=h
 cases x with
 | non=>
  cases rx
  cases y with
  | non=>cases ry;exact PySem.EqNone.eq_none_none (az I q (by simp))
  | bl j=>cases ry;exact PySem.EqNone.eq_none_bool (az I q (by simp))
  | int j=>obtain ⟨t',rfl⟩:=ry;exact PySem.EqNone.eq_none_int (az I q (by simp))
  | str j=>obtain ⟨t',rfl⟩:=ry;exact PySem.EqNone.eq_none_str (az I q (by simp))
  | _=>exact absurd (show false=true from hs) Bool.false_ne_true
 | bl i=>
  cases rx
  cases y with
  | non=>cases ry;exact PySem.EqNone.eq_bool_none (az I q (by simp))
  | bl j=>cases ry;exact eq_bool (az I q kn)
  | str j=>obtain ⟨t',rfl⟩:=ry;exact PySem.EqMixed.eq_bool_str (az I q (by simp))
  | _=>exact absurd (show false=true from hs) Bool.false_ne_true
 | int i=>
  obtain ⟨t,rfl⟩:=rx
  cases y with
  | non=>cases ry;exact PySem.EqNone.eq_int_none (az I q (by simp))
  | int j=>obtain ⟨t',rfl⟩:=ry;exact eq_int (az I q iu)
  | str j=>obtain ⟨t',rfl⟩:=ry;exact PySem.EqMixed.eq_int_str (az I q (by simp))
  | _=>exact absurd (show false=true from hs) Bool.false_ne_true
 | str i=>
  obtain ⟨t,rfl⟩:=rx
  cases y with
  | non=>cases ry;exact PySem.EqNone.eq_str_none (az I q (by simp))
  | bl j=>cases ry;exact PySem.EqMixed.eq_str_bool (az I q (by simp))
  | int j=>obtain ⟨t',rfl⟩:=ry;exact PySem.EqMixed.eq_str_int (az I q (by simp))
  | str j=>obtain ⟨t',rfl⟩:=ry;exact eq_str (az I q iB)
  | _=>exact absurd (show false=true from hs) Bool.false_ne_true
 | byt i=>
  obtain ⟨t,rfl⟩:=rx
  cases y with
  | byt j=>obtain ⟨t',rfl⟩:=ry;exact PySem.W.eq_bytes (az I q ie)
  | _=>exact absurd (show false=true from hs) Bool.false_ne_true
 | _=>cases y<;>exact absurd (show false=true from hs) Bool.false_ne_true
theorem r9:OpR X (compareOp .NotEq) rNe:=by
 intro pins s σ H x y v u Q I rx ry h
 obtain ⟨hs,q⟩:=h
 cases x with
 | non=>
  cases rx
  cases y with
  | non=>cases ry;exact PySem.EqNone.ne_none_none (az I q (by simp))
  | bl j=>cases ry;exact PySem.EqNone.ne_none_bool (az I q (by simp))
  | int j=>obtain ⟨t',rfl⟩:=ry;exact PySem.EqNone.ne_none_int (az I q (by simp))
  | str j=>obtain ⟨t',rfl⟩:=ry;exact PySem.EqNone.ne_none_str (az I q (by simp))
  | _=>exact absurd (show false=true from hs) Bool.false_ne_true
 | bl i=>
  cases rx
  cases y with
  | non=>cases ry;exact PySem.EqNone.ne_bool_none (az I q (by simp))
  | bl j=>cases ry;exact ne_bool (az I q (congrArg not kn))
  | str j=>obtain ⟨t',rfl⟩:=ry;exact PySem.EqMixed.ne_bool_str (az I q (by simp))
  | _=>exact absurd (show false=true from hs) Bool.false_ne_true
 | int i=>
  obtain ⟨t,rfl⟩:=rx
  cases y with
  | non=>cases ry;exact PySem.EqNone.ne_int_none (az I q (by simp))
  | int j=>obtain ⟨t',rfl⟩:=ry;exact ne_int (az I q (congrArg not iu))
  | str j=>obtain ⟨t',rfl⟩:=ry;exact PySem.EqMixed.ne_int_str (az I q (by simp))
  | _=>exact absurd (show false=true from hs) Bool.false_ne_true
 | str i=>
  obtain ⟨t,rfl⟩:=rx
  cases y with
  | non=>cases ry;exact PySem.EqNone.ne_str_none (az I q (by simp))
  | bl j=>cases ry;exact PySem.EqMixed.ne_str_bool (az I q (by simp))
  | int j=>obtain ⟨t',rfl⟩:=ry;exact PySem.EqMixed.ne_str_int (az I q (by simp))
  | str j=>obtain ⟨t',rfl⟩:=ry;exact ne_str (az I q (congrArg not iB))
  | _=>exact absurd (show false=true from hs) Bool.false_ne_true
 | byt i=>
  obtain ⟨t,rfl⟩:=rx
  cases y with
  | byt j=>obtain ⟨t',rfl⟩:=ry;exact PySem.W.ne_bytes (az I q (congrArg not ie))
  | _=>exact absurd (show false=true from hs) Bool.false_ne_true
 | _=>cases y<;>exact absurd (show false=true from hs) Bool.false_ne_true
theorem l4:OpR X (compareOp .Lt) (rI0 fun i j=>.bl (decide (i < j))):=ku fun _ _ _ _ _ _ _ q=>lt_int q
theorem tD:OpR X (compareOp .Gt) (rI0 fun i j=>.bl (decide (j < i))):=ku fun _ _ _ _ _ _ _ q=>gt_int q
theorem tS:OpR X (compareOp .GtE) (rI0 fun i j=>.bl (decide (j≤i))):=ku fun _ _ _ _ _ _ _ q=>ge_int q
theorem oT:OpR X (compareOp .Is) (fun x y H Q=>y=.non∧Q (.bl (decide (x=.non))) H):=by
  intro pins s σ H x y v u Q I rx ry h
  obtain ⟨rfl,q⟩:=h
  cases ry
  refine is_none_gen (az I q ?_)
  cases x<;>first
    | (cases rx;rfl)
    | (obtain ⟨t,rfl⟩:=rx;rfl)
theorem OpR.or {f:Value→Value→Sem Value} {r r':R2} (h:OpR X f r) (h':OpR X f r'):OpR X f (fun x y H Q=>r x y H Q∨r' x y H Q):=by
 intro pins s σ H x y v u Q I rx ry q
 rcases q with q | q
 ·exact h pins s σ H x y v u Q I rx ry q
 ·exact h' pins s σ H x y v u Q I rx ry q
theorem j3 (b:Expr) {op:CmpOp} (h:op≠.In:=by decide) (h2:op≠.NotIn:=by decide):behindInMarks op b=false:=by
  have e1:(op == CmpOp.In)=false:=by cases op<;>first | rfl | exact absurd rfl h
  have e2:(op == CmpOp.NotIn)=false:=by cases op<;>first | rfl | exact absurd rfl h2
  cases b<;>simp [behindInMarks,e1,e2]
theorem mK {op:CmpOp} {r:R2} (ho:OpR X (compareOp op) r) (ha:PE X a ta) (hb:PE X b tb) (hm:behindInMarks op b=false):PE X (.Compare a [op] [b] pos) (tOp r ta tb):=by
 intro pins s σ H Q I h
 exact wpAny_Compare1 (lP ha hb I h fun v u s2 x y H2 I2 rx ry q=>ho pins s2 σ H2 x y v u Q I2 rx ry q) hm
def rZ (t:TE):TT:=fun σ H Q=>t σ H fun x H'=>∃ k,x=.bl k∧Q k H'
theorem mX {op:CmpOp} {r:R2} (ho:OpR X (compareOp op) r) (ha:PE X a ta) (hb:PE X b tb) (hm:behindInMarks op b=false):PT X (.Compare a [op] [b] pos) (rZ (tOp r ta tb)):=by
 intro pins s σ H Q I h
 refine wpAny_isTrue_Compare1 (thn (ha pins s σ H _ I h) fun v s1 ⟨x,H1,I1,r1,q1⟩=>thn (hb pins s1 σ H1 _ I1 q1) fun u s2 ⟨y,H2,I2,r2,q2⟩=>
  thn (ho pins s2 σ H2 x y v u _ I2 r1 r2 q2) fun c s3 ⟨z,H3,I3,r3,k,e,q3⟩=>?_) hm
 subst e
 cases r3
 exact wpAny_truthy_bool ⟨H3,I3,q3⟩
def k_ (K:PySem.W.Frag) (x:V) (H:Hp) (k:Bool):Prop:=
 match x with
 | .non=>k=false
 | .bl b=>k=b
 | .int i=>k=(i != 0)
 | .str y=>y.length≤sizeLine∧k=((y.length:Int) != 0)
 | .byt y=>y.size≤sizeLine∧k=((y.size:Int) != 0)
 | .ref p=>(∃ xs,SqL K H p xs∧k=!xs.isEmpty)∨(∃ xs,SqT K H p xs∧k=!xs.isEmpty)∨∃ kvs,H p=some (.dK kvs)∧k=!kvs.isEmpty
 | _=>False
theorem jd {κ:Type} {kvs:List (κ×V)} {vs:List (κ×Value)} (r:KV kvs vs):(!vs.isEmpty)=!kvs.isEmpty:=by
 cases r<;>rfl
theorem eR {xs:List V} {its:List Value} (r:Vals xs its):(!its.toArray.isEmpty)=!xs.isEmpty:=by
 cases r<;>simp
theorem dH:(sizeLine:Nat) < 2 ^ 63:=by rw [sizeLine_eq];decide
theorem qF:vd X (fun x H Q=>∃ k,k_ X.K x H k∧Q k H):=by
 intro pins s σ H x v Q I rx h
 obtain ⟨k,e,q⟩:=h
 have hl:=dH
 have hs:sizeLine=16777216:=sizeLine_eq
 cases x with
 | non=>
  cases rx
  have e':k=false:=e
  subst e'
  exact truthy_none ⟨H,I,q⟩
 | bl b=>
  cases rx
  have e':k=b:=e
  subst e'
  exact wpAny_truthy_bool ⟨H,I,q⟩
 | int i=>
  obtain ⟨t,rfl⟩:=rx
  have e':k=(i != 0):=e
  subst e'
  exact PySem.P.truthy_int ⟨H,I,q⟩
 | str y=>
  obtain ⟨t,rfl⟩:=rx
  obtain ⟨hy,e'⟩:y.length≤sizeLine∧k=((y.length:Int) != 0):=e
  subst e'
  exact PySem.P.truthy_str (by omega) ⟨H,I.tok _,q⟩
 | byt y=>
  obtain ⟨t,rfl⟩:=rx
  obtain ⟨hy,e'⟩:y.size≤sizeLine∧k=((y.size:Int) != 0):=e
  subst e'
  exact PySem.W.truthy_bytes (by omega) ⟨H,I.tok _,q⟩
 | ref p=>
  cases rx
  have e':(∃ xs,SqL X.K H p xs∧k=!xs.isEmpty)∨(∃ xs,SqT X.K H p xs∧k=!xs.isEmpty)∨∃ kvs,H p=some (.dK kvs)∧k=!kvs.isEmpty:=e
  rcases e' with ⟨xs,hx,e'⟩ | ⟨xs,hx,e'⟩ | ⟨kvs,hx,e'⟩
  ·subst e'
   obtain ⟨its,r,pl,hz⟩:=I.list hx
   have hlen:=r.length
   exact wpAny_truthy_list pl.isList (by simp only [List.size_toArray];omega) ⟨H,I.tok _,by rw [eR r];exact q⟩
  ·subst e'
   obtain ⟨its,r,pl,hz⟩:=I.tuple hx
   have hlen:=r.length
   exact truthy_tuple pl (by simp only [List.size_toArray];omega) ⟨H,I.tok _,by rw [eR r];exact q⟩
  ·subst e'
   obtain ⟨hz,hS,vs,r,m⟩:kvs.length≤sizeLine∧(p == sysModules)=false∧∃ vs,KV kvs vs∧s.heap.DictOf (ek X.prog X.w) p vs:=I.hok p _ hx
   have hlen:kvs.length=vs.length:=Paired.length r
   exact wpAny_truthy_dict hS m (by omega) ⟨H,I.tok _,by rw [jd r];exact q⟩
 | _=>exact (show False from e).elim
theorem kQ (ha:PE X a ta) (he:∀ whole,isTrue a X.env whole=(do let v ← whole;standAt a.pos;holding [v] (truthy v))) :
  PT X a (fun σ H Q=>ta σ H fun x H'=>∃ k,k_ X.K x H' k∧Q k H'):=by
 intro pins s σ H Q I h
 exact isTrue_plain (thn (ha pins s σ H _ I h) fun v s1 ⟨x,H1,I1,r1,q1⟩=>qF pins s1 σ H1 x v Q I1 r1 q1) (he _)
theorem iH:OpR X (binaryOp .Add) (fun x y H Q=>∃ i j,x=.str i∧y=.str j∧i.length+j.length≤sizeLine∧Q (.str (i++j)) H):=by
 intro pins s σ H x y v u Q I rx ry h
 obtain ⟨i,j,rfl,rfl,hz,q⟩:=h
 obtain ⟨t,rfl⟩:=rx
 obtain ⟨t',rfl⟩:=ry
 exact add_str (fun t' tk=>⟨.str (i++j),H,I.tok _,⟨_,rfl⟩,q⟩) hz
theorem vals1 {x:V} {us:List Value} (r:Vals [x] us):∃ u,us=[u]∧RelV x u:=by
 cases r with
 | cons r1 r2=>cases r2;exact ⟨_,rfl,r1⟩
def uR (K:PySem.W.Frag) (x:V) (H:Hp) (n:Nat):Prop:=
 match x with
 | .str y=>y.length≤sizeLine∧n=y.length
 | .byt y=>y.size≤sizeLine∧n=y.size
 | .ref p=>(∃ xs,SqL K H p xs∧n=xs.length)∨∃ xs,SqT K H p xs∧n=xs.length
 | _=>False
theorem gm:cU X (.builtin "len") (fun xs H Q=>∃ x n,xs=[x]∧uR X.K x H n∧Q (.int n) H):=by
 intro pins s σ H xs us Q I r h
 obtain ⟨x,n,rfl,e,q⟩:=h
 obtain ⟨u,rfl,rx⟩:=vals1 r
 have hl:=dH
 have hs:sizeLine=16777216:=sizeLine_eq
 cases x with
 | str y=>
  obtain ⟨t,rfl⟩:=rx
  obtain ⟨hy,e'⟩:y.length≤sizeLine∧n=y.length:=e
  subst e'
  exact len_str (by omega) ⟨.int _,H,I.tok _,⟨_,rfl⟩,q⟩
 | byt y=>
  obtain ⟨t,rfl⟩:=rx
  obtain ⟨hy,e'⟩:y.size≤sizeLine∧n=y.size:=e
  subst e'
  exact PySem.W.len_bytes (by omega) ⟨.int _,H,I.tok _,⟨_,rfl⟩,q⟩
 | ref p=>
  cases rx
  have e':(∃ xs,SqL X.K H p xs∧n=xs.length)∨∃ xs,SqT X.K H p xs∧n=xs.length:=e
  rcases e' with ⟨xs,hx,e'⟩ | ⟨xs,hx,e'⟩
  ·subst e'
   obtain ⟨its,r',pl,hz⟩:=I.list hx
   have hlen:=r'.length
   exact Calls.call_len_list pl.isList (by simp only [List.size_toArray];omega) ⟨.int xs.length,H,I.tok _,⟨_,by simp only [List.size_toArray];rw [hlen]⟩,q⟩
  ·subst e'
   obtain ⟨its,r',pl,hz⟩:=I.tuple hx
   have hlen:=r'.length
   exact len_tuple pl (by simp only [List.size_toArray];omega) ⟨.int xs.length,H,I.tok _,⟨_,by simp only [List.size_toArray];rw [hlen]⟩,q⟩
 | _=>exact (show False from e).elim
end
structure kP (h:Heap) (x dx C:Addr) (mA:Str→Option Value):Prop where
 obj:h.get? x=some (PySem.W.instObj C dx)
 ns:h.Ns1 dx mA
 ne:dx≠x
theorem jU {h:Heap} {dx:Addr} {mA:Str→Option Value} (n:h.Ns1 dx mA):∃ od,h.get? dx=some od∧∀ name,PySem.W.lookIn name od=some (mA name):=by
 obtain ⟨o,es,ep,ho,hd,hk,_,hm⟩:=n
 refine ⟨o,ho,fun name=>?_⟩
 have e:=hm name
 unfold nsFind findBy at e
 rw [← Array.find?_toList] at e
 unfold PySem.W.lookIn
 rw [hd]
 dsimp only
 split
 ·rename_i y q
  rw [q] at e
  exact congrArg some e
 ·rename_i q
  rw [q] at e
  have a:es.toList.any (·.refKey)=false:=by
   rw [List.any_eq_false]
   intro y hy
   obtain ⟨z,t,hkey⟩:=hk y (Array.mem_toList_iff.mp hy)
   simp [DictEntry.refKey,hkey]
  have a':¬es.toList.any (·.refKey)=true:=by rw [a];exact Bool.false_ne_true
  rw [if_neg a']
  exact congrArg some e
theorem kP.look {h:Heap} {x dx C:Addr} {mA:Str→Option Value} (I:kP h x dx C mA):∃ od,PySem.W.InstAt h x (PySem.W.instObj C dx) C (some od)∧∀ name,PySem.W.lookIn name od=some (mA name):=
 let ⟨od,ho,hl⟩:=jU I.ns
 ⟨od,⟨I.obj,rfl,rfl,ho⟩,hl⟩
section
variable {P:Program} {w:World} {H H':Hp} {h h':Heap} {a C dx:Addr} {fs fs':List (Str×V)}
theorem mP (hok:HOk P w H h) (e:H a=some (.ins C dx fs)):∃ mA,kP h a dx C mA∧(∀ f,iU (fs.lookup f) (mA f))∧PySem.Within mA (fs.map (·.1))∧fs.length≤1000∧H dx=some (.own a):=by
 obtain ⟨d,z,ne,ob,mA,n,r,q⟩:=(show aK P w H h a (.ins C dx fs) from hok a _ e)
 exact ⟨mA,⟨ob,n,ne⟩,r,q,z,d⟩
end
structure Cls (K:PySem.W.Frag) (C:Addr):Prop where
 pg:PySem.W.plainGet K C Str.empty=true
 hd:PySem.W.hasDictIn K C=true
 po:PySem.W.plainOver K C=true
 sa:PySem.W.findIn K (.ref C) "__setattr__"=some (some (.builtin "object.__setattr__"))
theorem Cls.get {K:PySem.W.Frag} {C:Addr} (c:Cls K C) (f:Str):PySem.W.plainGet K C f=true:=c.pg
structure Con (K:PySem.W.Frag) (C:Addr) (f:Str) (v:V) (u:Value):Prop where
 at_:PySem.W.findIn K (.ref C) f=some (some u)
 rel:RelV v u
 get:PySem.W.specialIn K u "__get__"=some none
 cp:PySem.W.copiedNames.contains f=false
structure Meth (K:PySem.W.Frag) (C:Addr) (m:Str) (f:Addr):Prop where
 at_:PySem.W.findIn K (.ref C) m=some (some (.ref f))
 fn:PySem.W.isFn K (.ref f)=true
 kp:PySem.W.keepIn K (.ref f)=true
section
variable {X:Cx} {pins:List (Addr×Obj)} {σ:St} {H:Hp} {s:Shared} {a C dx:Addr} {fs:List (Str×V)} {f:Str} {v:V} {A:Around} {E:Value→Shared→Prop}
theorem nc {prog:Program} {w:World} {env:Env} {e:Expr} {f:Str} {pos:Pos} {s:Shared} {Q:Value→Shared→Prop} (hb:attributeBase e f env (eval e env)=eval e env)
  (h:wpAny (model prog w) A (eval e env) (fun o s₁=>wpAny (model prog w) A (getAttr o f true) Q E s₁) E s):wpAny (model prog w) A (eval (.Attribute e f pos) env) Q E s:=
 Attribute_any_ h (by rw [arm_eval_Attribute,hb])
end
section
variable {X:Cx} {pins:List (Addr×Obj)} {σ:St} {H:Hp} {s:Shared} {A:Around} {E:Value→Shared→Prop} {Q:Value→Shared→Prop} {c:Value} {b:Bool}
inductive cu (K:PySem.W.Frag) (H:Hp):V→Value→Prop where
 | non:cu K H .non (.type "NoneType")
 | bl (x:Bool):cu K H (.bl x) (.type "bool")
 | int (i:Int):cu K H (.int i) (.type "int")
 | str (x:Str):cu K H (.str x) (.type "str")
 | flt (x:UInt64):cu K H (.flt x) (.type "float")
 | lst {a:Addr} {xs:List V} (e:H a=some (.lst xs)):cu K H (.ref a) (.type "list")
 | frz {a:Addr} {o:Obj} {xs:List V} (e:H a=some (.frz o (.lst xs))):cu K H (.ref a) (.type "list")
 | tup {a:Addr} {xs:List V} (e:H a=some (.tup xs)):cu K H (.ref a) (.type "tuple")
 | dK {a:Addr} {kvs:List (Key×V)} (e:H a=some (.dK kvs)):cu K H (.ref a) (.type "dict")
 | dT {a:Addr} {kvs:List (List Key×V)} (e:H a=some (.dT kvs)):cu K H (.ref a) (.type "dict")
 | ins {a C dx:Addr} {fs:List (Str×V)} (e:H a=some (.ins C dx fs)) (cl:Cls K C) (ha:PySem.W.findIn K (.ref C) "__class__"=some (some (.builtin "object.__class__")))
   (hn:PySem.W.specialIn K (.builtin "object.__class__") "__get__"=some (some (.builtin "getset_descriptor.__get__"))) (htk:PySem.W.takesIn K (.builtin "object.__class__")=some true)
   (hm:PySem.W.mroIn K C (.type "object")=some true):cu K H (.ref a) (.ref C)
theorem jT {x:V} {u t:Value} (I:Inv X pins σ H s) (rx:RelV x u) (ty:cu X.K H x t) (e:PySem.W.kitOne X.K t c=some b) (h:∀ tk,Q (.bool b) { s with toks:=tk }) :
  wpAny (model X.prog X.w) A (call (.builtin "isinstance") [u,c]) Q E s:=by
 cases ty with
 | non=>cases (show u=Value.none from rx);exact PySem.W.kia_one PySem.W.kitx_none I.kIn True.intro e (fun z=>nomatch z) h
 | bl y=>cases (show u=Value.bool y from rx);exact PySem.W.kia_one PySem.W.kitx_bool I.kIn True.intro e (fun z=>nomatch z) h
 | int i=>obtain ⟨t,q⟩:=(show ∃ t,u=Value.int i t from rx);cases q;exact PySem.W.kia_one PySem.W.kitx_int I.kIn True.intro e (fun z=>nomatch z) h
 | str y=>obtain ⟨t,q⟩:=(show ∃ t,u=Value.str y t from rx);cases q;exact PySem.W.kia_one PySem.W.kitx_str I.kIn True.intro e (fun z=>nomatch z) h
 | flt y=>obtain ⟨t,q⟩:=(show ∃ t,u=Value.float y t from rx);cases q;exact PySem.W.kia_one PySem.W.kitx_float I.kIn True.intro e (fun z=>nomatch z) h
 | @lst a xs ea=>
  cases (show u=Value.ref a from rx)
  obtain ⟨_,_,n,_,h1⟩:=(show aK X.prog X.w H s.heap a (.lst xs) from I.hok a _ ea)
  exact PySem.W.kia_one PySem.W.kitx_list I.kIn ⟨_,h1,rfl⟩ e (fun z=>nomatch z) h
 | @frz a ob xs ea=>
  cases (show u=Value.ref a from rx)
  obtain ⟨_,_,_,n,_,h1⟩:=(show aK X.prog X.w H s.heap a (.frz ob (.lst xs)) from I.hok a _ ea)
  exact PySem.W.kia_one PySem.W.kitx_list I.kIn ⟨_,h1,rfl⟩ e (fun z=>nomatch z) h
 | @tup a xs ea=>
  cases (show u=Value.ref a from rx)
  obtain ⟨_,_,_,p⟩:=(show aK X.prog X.w H s.heap a (.tup xs) from I.hok a _ ea)
  obtain ⟨o,h1,h2,_⟩:=p
  exact PySem.W.kia_one PySem.W.kitx_tuple I.kIn ⟨o,h1,h2⟩ e (fun z=>nomatch z) h
 | @dK a kvs ea=>
  cases (show u=Value.ref a from rx)
  obtain ⟨_,_,vs,_,p⟩:=(show aK X.prog X.w H s.heap a (.dK kvs) from I.hok a _ ea)
  obtain ⟨o,es,ep,h1,h2,_⟩:=p
  exact PySem.W.kia_one PySem.W.kitx_dict I.kIn ⟨o,h1,h2.1⟩ e (fun z=>nomatch z) h
 | @dT a kvs ea=>
  cases (show u=Value.ref a from rx)
  obtain ⟨_,_,xs,_,o,es,ep,h1,h2,_⟩:=(show aK X.prog X.w H s.heap a (.dT kvs) from I.hok a _ ea)
  exact PySem.W.kia_one PySem.W.kitx_dict I.kIn ⟨o,h1,h2.1⟩ e (fun z=>nomatch z) h
 | @ins a C dx fs ea cl ha hn htk hm=>
  cases (show u=Value.ref a from rx)
  obtain ⟨mA,O,_⟩:=mP I.hok ea
  obtain ⟨od,J,_⟩:=O.look
  exact PySem.W.kia_one (PySem.W.kitx_own (cl.get _) cl.hd ha hn htk hm) I.kIn J e (fun z=>nomatch z) h
end
structure aW (k:Nat) (A:Around):Prop where
 hd:A.handled=none
 dp:A.depth+3 * k+5 < recursionLimit
 un:A.units+16 * k+200 < cLine
theorem aW.mono {j k:Nat} {A:Around} (r:aW k A) (h:j≤k):aW j A:=⟨r.hd,by have:=r.dp;omega,by have:=r.un;omega⟩
theorem aW.deeper {k:Nat} {A:Around} (r:aW (k+1) A) (env:Env):aW k (A.deeper env):=
 ⟨r.hd,by have:=r.dp;show A.depth+1+3 * k+5 < _;omega,by have:=r.un;show A.units+3+16 * k+200 < _;omega⟩
theorem iK {A:Around} {C:Addr} {us:List Value} {kw:List (Str×Value)}:(A.under (.builtin "type.__call__" ⟨.ref C :: us,kw⟩)).depth=A.depth+1:=by
 first | rfl | simp [Around.under,Code.weight,Code.isCreation,Code.isGuard,Code.isCaller,Code.frames,Code.isFrame,guardIds]
theorem iR {A:Around} {C:Addr} {us:List Value} {kw:List (Str×Value)}:(A.under (.builtin "type.__call__" ⟨.ref C :: us,kw⟩)).units=A.units+1:=by
 first | rfl | simp [Around.under,Code.cUnits,Code.frames,Code.isFrame]
theorem aW.make {k:Nat} {A:Around} (r:aW (k+1) A) (C:Addr) (us:List Value) (kw:List (Str×Value)):aW k (A.under (.builtin "type.__call__" ⟨.ref C :: us,kw⟩)):=
 ⟨r.hd,by have:=r.dp;rw [iK];omega,by have:=r.un;rw [iR];omega⟩
theorem aW.depth {k:Nat} {A:Around} (r:aW k A):A.depth < recursionLimit:=by have:=r.dp;omega
theorem aW.units {k:Nat} {A:Around} (r:aW k A):A.units+64 < cLine:=by have:=r.un;omega
def u9:TA:=fun _ H Q=>Q [] H
def rY (ta:TE) (tr:TA):TA:=fun σ H Q=>ta σ H fun x H1=>tr σ H1 fun xs H2=>Q (x :: xs) H2
section
variable {X:Cx} {e:Expr} {es:List Expr} {te:TE} {t:TA} {pos:Pos}
theorem cO:PA X [] u9:=fun _ _ _ _ H Q I h=>Calls.spliced_nil ⟨[],H,I,.nil,h⟩
theorem bt (ha:PE X e te) (hr:PA X es t) (hs:starEach (e :: es) X.env=(false,eval e X.env) :: starEach es X.env:=by rfl):PA X (e :: es) (rY te t):=by
 intro pos pins s σ H Q I h
 rw [hs]
 show wpAny _ _ (spliced ((false,eval e X.env) :: backTo pos (starEach es X.env))) _ _ s
 refine Calls.spliced_cons (thn (ha pins s σ H _ I h) fun u s1 ⟨x,H1,I1,r1,q1⟩=>?_)
 exact thn (hr pos pins s1 σ H1 _ I1 q1) fun us s2 ⟨xs,H2,I2,r2,q2⟩=>⟨x :: xs,H2,I2,.cons r1 r2,q2⟩
def vp (t:TA):TE:=fun σ H Q=>t σ H fun xs H1=>xs.length≤sizeLine∧∀ p,H1 p=none→Q (.ref p) (upd H1 p (.lst xs))
theorem gv (h:PA X es t):PE X (.List es pos) (vp t):=by
 intro pins s σ H Q I hq
 refine wpAny_List_spliced (thn (h pos pins s σ H _ I hq) fun us s1 ⟨xs,H1,I1,r,z,q⟩=>⟨by rw [← r.length];exact z,?_⟩)
 have hf:H1 s1.heap.objs.size=none:=I1.hok.fresh (Nat.le_refl _)
 refine ⟨.ref s1.heap.objs.size,upd H1 s1.heap.objs.size (.lst xs),I1.laid (t':=s1.toks) (fun b u e=>Heap.get?_push_of_some _ e) (Nat.le_refl _) ?_,rfl,q _ hf⟩
 exact ⟨z,us,0,r,Heap.get?_push_size _ rfl⟩
end
abbrev Sp:=List V→Hp→VK→XK→Prop
abbrev CXT:=List Env→Hp→Shared→XK→Value→Shared→Prop
structure eG (P:Program) (w:World) (K:PySem.W.Frag) (mg:Str→Option Value) (base:Heap) (A:Around) (outer:List Env) (s:Shared) (H:Hp):Prop where
 frames:A.frames=some outer
 mod:Mod K mg base
 bs:∀ b o,base.get? b=some o→s.heap.get? b=some o∧H b=none
 bsz:base.objs.size≤s.heap.objs.size
 cB:s.heap.FunFrames base outer
 frf:∀ b∈frs outer,H b=none
 hok:HOk P w H s.heap
 bare:AllBare s.gens
def CE (outer:List Env) (P:Program) (w:World) (H:Hp) (s:Shared) (Q:VK) (u:Value) (s':Shared):Prop:=
 ∃ v H',s'.os=s.os∧AllBare s'.gens∧Un (frs outer) [] H H' s.heap s'.heap∧HOk P w H' s'.heap∧RelV v u∧Q v H'
def CR (CX:CXT) (outer:List Env) (P:Program) (w:World) (H:Hp) (s:Shared) (Q:VK) (E:XK) (r:Result) (s':Shared):Prop:=
 match r with
 | .ok (.ret u)=>CE outer P w H s Q u s'
 | .ok _=>False
 | .error e=>CX outer H s E e s'
structure bQ (P:Program) (w:World) (K:PySem.W.Frag) (mg:Str→Option Value) (base:Heap) (CX:CXT) (k:Nat) (f:Addr) (fd:FuncData) (ps:List Str) (sp:Sp):Prop where
 len:∀ vs H Q E,sp vs H Q E→vs.length=ps.length
 run:∀ (A:Around) (outer:List Env) (s:Shared) (H:Hp) (args:Args) (us:List Value) (vs:List V) (Q:VK) (E:XK),aW k A→eG P w K mg base A outer s H→BindsTo s fd args (ps.zip us)→Vals vs us→sp vs H Q E →
  codeAny (model P w) A (.call (.ref f) args) (CR CX outer P w H s Q E) s
theorem bQ.imp {P:Program} {w:World} {K:PySem.W.Frag} {mg:Str→Option Value} {base:Heap} {CX:CXT} {k:Nat} {f:Addr} {fd:FuncData} {ps:List Str} {sp sp':Sp} (F:bQ P w K mg base CX k f fd ps sp)
  (h:∀ vs H Q E,sp' vs H Q E→sp vs H Q E):bQ P w K mg base CX k f fd ps sp':=
 ⟨fun vs H Q E q=>F.len vs H Q E (h _ _ _ _ q),fun A outer s H args us vs Q E hr he hb hv hs=>F.run A outer s H args us vs Q E hr he hb hv (h _ _ _ _ hs)⟩
theorem eG.make {P:Program} {w:World} {K:PySem.W.Frag} {mg:Str→Option Value} {base:Heap} {A:Around} {outer:List Env} {s:Shared} {H:Hp} (e:eG P w K mg base A outer s H) (C:Addr) (us:List Value) (kw:List (Str×Value)) :
  eG P w K mg base (A.under (.builtin "type.__call__" ⟨.ref C :: us,kw⟩)) outer s H:=⟨by first | exact e.frames | (simpa [Around.under,Code.envs,Code.isFrame,pushEnvs] using e.frames),e.mod,e.bs,e.bsz,e.cB,e.frf,e.hok,e.bare⟩
section
variable {X:Cx} {pins:List (Addr×Obj)} {σ:St} {H:Hp} {s s':Shared}
theorem Inv.pZ (I:Inv X pins σ H s):eG X.prog X.w X.K X.mg X.base X.A X.stack s H:=
 ⟨I.ok.frames,I.ok.mod,I.bs,Nat.le_trans I.ok.bsz I.sz,I.stack,I.iE,I.hok,I.bare⟩
theorem Inv.after {Q:VK} {u:Value} (I:Inv X pins σ H s) (h:CE X.stack X.prog X.w H s Q u s'):EP X pins σ Q u s':=by
 obtain ⟨v,H',os,bare,un,hok,r,q⟩:=h
 obtain ⟨hh,g,d,t,os'⟩:=s'
 obtain rfl:os'=s.os:=os
 exact ⟨v,H',I.call (h':=hh) (g':=g) (d':=d) (t':=t) (ch:=[]) un hok bare (fun b z=>absurd z (by simp)),r,q⟩
end
def uB (sp:Sp) (dvs:List V) (E:XK) (t:TA):TE:=fun σ H Q=>t σ H fun vs H1=>sp (vs++dvs) H1 Q E
def Binds (K:PySem.W.Frag) (fd:FuncData) (ps:List Str) (ds:List Value):Prop:=
 ∀ (s:Shared) (us:List Value),K.In s.heap→(us++ds).length=ps.length→BindsTo s fd ⟨us,[]⟩ (ps.zip (us++ds))
theorem Binds.all {K:PySem.W.Frag} {fd:FuncData} {ps:List Str} (h:∀ us:List Value,us.length=ps.length→bindArgs fd ⟨us,[]⟩=pure (ps.zip us)):Binds K fd ps []:=fun s us _ hl=>by
 rw [List.append_nil] at hl ⊢
 exact .of_eq (h us hl)
def Passes (CX:CXT) (X:Cx) (E:XK):Prop:=∀ (pins:List (Addr×Obj)) (σ:St) (H:Hp) (s:Shared) (e:Value) (s':Shared),Inv X pins σ H s→CX X.stack H s E e s'→X.xe e s'
section
variable {X:Cx} {CX:CXT} {k:Nat} {f C:Addr} {fd:FuncData} {ps:List Str} {sp:Sp} {dvs:List V} {ds:List Value} {E:XK} {x m:Str} {p pos apos:Pos} {e o:Expr} {es:List Expr} {ta:TE} {t:TA}
theorem rl {pins:List (Addr×Obj)} {σ:St} {H:Hp} {s:Shared} {Q:VK} {us:List Value} {vs:List V} (F:bQ X.prog X.w X.K X.mg X.base CX k f fd ps sp) (hr:aW k X.A) (hb:Binds X.K fd ps ds) (hd:Vals dvs ds) (hx:Passes CX X E)
  (I:Inv X pins σ H s) (r:Vals vs us) (h:sp (vs++dvs) H Q E):wpAny (model X.prog X.w) X.A (call (.ref f) us) (EP X pins σ Q) X.xe s:=by
 have r2:Vals (vs++dvs) (us++ds):=r.append hd
 have hl:(us++ds).length=ps.length:=by rw [← r2.length];exact F.len _ _ _ _ h
 refine wpAny_call (codeAny_mono (F.run X.A X.stack s H ⟨us,[]⟩ (us++ds) (vs++dvs) Q E hr I.pZ (hb s us I.kIn hl) r2 h) fun r s' hq=>?_)
 cases r with
 | error e=>exact hx pins σ H s e s' I hq
 | ok fl=>
  cases fl with
  | ret u=>exact I.after hq
  | next=>exact False.elim hq
  | brk=>exact False.elim hq
  | cont=>exact False.elim hq
theorem nD (F:bQ X.prog X.w X.K X.mg X.base CX k f fd ps sp) (hr:aW k X.A) (hg:Gl X x) (hm:X.mg x=some (.ref f)) (hk:PySem.W.keepIn X.K (.ref f)=true) (hb:Binds X.K fd ps ds) (hd:Vals dvs ds) (hx:Passes CX X E)
  (ha:PA X (e :: es) t) (hdb:(x == ("__debug__":Str))=false:=by decide) (he:starEach (e :: es) X.env=(false,eval e X.env) :: starEach es X.env:=by rfl) (hpl:(backTo pos (starEach es X.env)).any (·.1)=false:=by rfl) :
  PE X (.Call (.Name x p) (e :: es) [] pos) (uB sp dvs E t):=by
 intro pins s σ H Q I h
 refine wpAny_Call_Name_kw (c8 I hg hm ?_ hdb)
 refine PySem.W.callWith_K (h₀:=X.base) I.ok.mod.kin hk (thn (ha pos pins s σ H _ I h) fun us s1 ⟨vs,H1,I1,r,q⟩=>⟨I1.kIn,?_⟩) he hpl
 exact rl F hr hb hd hx I1 r q
structure Mk (K:PySem.W.Frag) (C f:Addr):Prop where
 makes:PySem.W.makesIn K C=true
 init:PySem.W.findIn K (.ref C) "__init__"=some (some (.ref f))
 fn:PySem.W.isFn K (.ref f)=true
 kp:PySem.W.keepIn K (.ref C)=true
end
section
variable {X:Cx} {CX:CXT} {k:Nat} {f C:Addr} {fd:FuncData} {ps ks:List Str} {sp:Sp} {E:XK} {x m:Str} {p pos apos kpos:Pos} {e o:Expr} {es:List Expr} {kws:List Keyword} {te ta:TE} {t tk:TA} {nm:Option Str}
structure vA (K:PySem.W.Frag) (fd:FuncData) (ps ks:List Str) (g:List Value→List Value→List Value) (gV:List V→List V→List V):Prop where
 to:∀ (s:Shared) (us ws:List Value),K.In s.heap→(g us ws).length=ps.length→BindsTo s fd ⟨us,ks.zip ws⟩ (ps.zip (g us ws))
 rel:∀ {vs:List V} {us:List Value} {zs:List V} {ws:List Value},Vals vs us→Vals zs ws→Vals (gV vs zs) (g us ws)
variable {g:List Value→List Value→List Value} {gV:List V→List V→List V}
end
structure cH (N P:List Str) (sc:Scope):Prop where
 kind:sc.kind=.function
 co:sc.isCoroutine=false
 gen:sc.isGenerator=false
 nd:N.Nodup
 pre:N.take P.length=P
 par:∀ x∈P,sc.names.lookup x=some .local∨sc.names.lookup x=some .cell
 nofree:∀ y∈sc.names,y.2≠.free
theorem fH {kindOf:Str→Option NameKind} {x:Str}:∀ {binds:List (Str×Value)} {m:Str→Option Value},(∀ v,(x,v)∉binds)→bindL kindOf binds m x=m x
 | [],_,_=>rfl
 | (n,v) :: r,m,h=>by
  unfold bindL
  rw [fH fun w hw=>h w (List.mem_cons_of_mem _ hw)]
  split
  ·have:x≠n:=by rintro rfl;exact h v List.mem_cons_self
   simp [this]
  ·rfl
theorem fG {kindOf:Str→Option NameKind} {x:Str}:∀ {binds:List (Str×Value)} {m:Str→Option Value},(∀ v,(x,v)∉binds)→bindC kindOf binds m x=m x
 | [],_,_=>rfl
 | (n,v) :: r,m,h=>by
  unfold bindC
  rw [fG fun w hw=>h w (List.mem_cons_of_mem _ hw)]
  split
  ·rfl
  ·have:x≠n:=by rintro rfl;exact h v List.mem_cons_self
   simp [this]
theorem fJ {kindOf:Str→Option NameKind} {x:Str} {v:Value}:∀ {P:List Str} {vs:List Value} {i:Nat} {m:Str→Option Value},P.Nodup→P[i]?=some x→vs[i]?=some v→kindOf x=some .local →
  bindL kindOf (P.zip vs) m x=some v
 | [],_,_,_,_,h,_,_=>by simp at h
 | _ :: _,[],_,_,_,_,h,_=>by simp at h
 | p :: P,w :: vs,0,m,nd,h1,h2,hk=>by
  simp at h1 h2;subst h1;subst h2
  show bindL kindOf ((p,w) :: P.zip vs) m p=_
  unfold bindL
  rw [fH fun v hv=>(List.nodup_cons.mp nd).1 (List.of_mem_zip hv).1,if_pos hk]
  simp
 | p :: P,w :: vs,i+1,m,nd,h1,h2,hk=>by
  show bindL kindOf ((p,w) :: P.zip vs) m x=_
  unfold bindL
  exact fJ (i:=i) (List.nodup_cons.mp nd).2 (by simpa using h1) (by simpa using h2) hk
theorem fP {kindOf:Str→Option NameKind} {x:Str} {v:Value}:∀ {P:List Str} {vs:List Value} {i:Nat} {m:Str→Option Value},P.Nodup→P[i]?=some x→vs[i]?=some v→kindOf x≠some .local →
  bindC kindOf (P.zip vs) m x=some v
 | [],_,_,_,_,h,_,_=>by simp at h
 | _ :: _,[],_,_,_,_,h,_=>by simp at h
 | p :: P,w :: vs,0,m,nd,h1,h2,hk=>by
  simp at h1 h2;subst h1;subst h2
  show bindC kindOf ((p,w) :: P.zip vs) m p=_
  unfold bindC
  rw [fG fun v hv=>(List.nodup_cons.mp nd).1 (List.of_mem_zip hv).1,if_neg hk]
  simp
 | p :: P,w :: vs,i+1,m,nd,h1,h2,hk=>by
  show bindC kindOf ((p,w) :: P.zip vs) m x=_
  unfold bindC
  exact fP (i:=i) (List.nodup_cons.mp nd).2 (by simpa using h1) (by simpa using h2) hk
def start (N:List Str) (vs:List V):St:=vs.map some++List.replicate (N.length - vs.length) none
def dw (CX:CXT) (P:Program) (w:World) (K:PySem.W.Frag) (mg:Str→Option Value) (base:Heap) (N:List Str) (qual:Str) (scope:Scope) (f:Addr) (cd:Value) (A:Around) (outer:List Env) (s:Shared) (H:Hp) (E:XK):Cx where
 prog:=P
 w:=w
 K:=K
 mg:=mg
 base:=base
 A:=A.deeper (envOfC qual scope s.heap.objs.size f cd)
 N:=N
 s₀:=s
 H₀:=H
 env:=envOfC qual scope s.heap.objs.size f cd
 outer:=outer
 stack:=envOfC qual scope s.heap.objs.size f cd :: outer
 ex:=[]
 calm:=true
 fn:=fun _=>true
 pn:=[]
 xe:=fun e s'=>wpAny (model P w) (A.deeper (envOfC qual scope s.heap.objs.size f cd)) (leaving (envOfC qual scope s.heap.objs.size f cd) e) (fun _ s''=>CX outer H s E e s'') (fun e' s''=>CX outer H s E e' s'') s'
theorem gD {sc:Scope} {n:Nat} {x:Str} (h:sc.names.lookup x=some .cell):∃ c,(cellsFrom n sc.names []).lookup x=some c:=by
 have q:=PySem.W.cellsFrom_some sc.names n [] (.inl h)
 exact Option.isSome_iff_exists.mp q
theorem jG {CX:CXT} {P:Program} {w:World} {K:PySem.W.Frag} {mg:Str→Option Value} {base:Heap} {N ps:List Str} {qual:Str} {scope:Scope} {f:Addr} {cd:Value} {A:Around} {outer:List Env} {s s1:Shared} {H:Hp} {E:XK} {us:List Value} {vs:List V}
  (S:cH N ps scope) (hd:A.handled=none) (e0:eG P w K mg base A outer s H) (hl:vs.length=ps.length) (r:Vals vs us)
  (x:InCallC s s.heap.objs.size (bindL (envOfC qual scope s.heap.objs.size f cd).kindOf (ps.zip us) fun _=>none) (cellsFrom (s.heap.objs.size+1) scope.names []) (bindC (envOfC qual scope s.heap.objs.size f cd).kindOf (ps.zip us) fun _=>none) s1) :
  Inv (dw CX P w K mg base N qual scope f cd A outer s H E) [] (start N vs) H s1:=by
 have hpl:ps.length≤N.length:=by have:=congrArg List.length S.pre;rw [List.length_take] at this;omega
 obtain ⟨h1,tk,rfl,hk⟩:=x.done
 have noA:∀ b:Addr,b∉(dw CX P w K mg base N qual scope f cd A outer s H E).ex:=fun b z=>absurd (show b∈([]:List Addr) from z) (by simp)
 refine ⟨⟨e0.mod,S.kind,rfl,rfl,Nat.le_refl _,fun y z c h1 h2=>?_,fun y hy=>?_,fun y c _ h=>?_,fun _=>hd,Around.frames_deeper e0.frames,.inr ⟨rfl,rfl⟩,fun b z=>absurd z (noA b),e0.bs,e0.bsz,fun b _ _=>noA b,fun b z=>absurd z (noA b),e0.cB,e0.frf⟩,
  rfl,e0.bare,Un.kept hk,⟨_,x.toInCall.ns,fun i y v h1 h2 h3=>?_⟩,fun y c h=>⟨_,x.cell y c h⟩,e0.hok.fresh (Nat.le_refl _),fun y c h=>?_,fun p hp=>absurd (show p∈([]:List (Addr×Obj)) from hp) (by simp),e0.hok.kept hk,?_⟩
 ·exact name_of_addr x.apart (PySem.mem_of_lookup h1) (PySem.mem_of_lookup h2)
 ·have hy:scope.names.lookup y=some .cell∨scope.names.lookup y=some .free:=hy
  rcases hy with hy | hy
  ·exact gD hy
  ·exact absurd rfl (S.nofree _ (PySem.mem_of_lookup hy))
 ·exact Nat.le_of_lt (x.above y c (PySem.mem_of_lookup h))
 ·have hi:i < vs.length:=by
   unfold start at h2
   by_cases hi:i < vs.length
   ·exact hi
   ·rw [List.getElem?_append_right (by simpa using hi)] at h2
    rw [List.getElem?_replicate] at h2
    split at h2<;>cases h2
  have ha:vs[i]?=some v:=by
   unfold start at h2
   rw [List.getElem?_append_left (by simpa using hi),List.getElem?_map] at h2
   cases e:vs[i]? with
   | none=>rw [e] at h2;cases h2
   | some a=>rw [e] at h2;cases h2;rfl
  obtain ⟨u,hu,rv⟩:=r.get ha
  have hp:ps[i]?=some y:=by
   rw [← S.pre,List.getElem?_take_of_lt (by omega)];exact h1
  have ndP:ps.Nodup:=by rw [← S.pre];exact S.nd.sublist (List.take_sublist _ _)
  refine ⟨u,rv,?_⟩
  rcases S.par y (List.mem_of_getElem? hp) with k | k
  ·exact .inl ⟨k,fJ ndP hp hu k⟩
  ·obtain ⟨c,e⟩:=gD (n:=s.heap.objs.size+1) k
   refine .inr ⟨.inl k,c,e,?_⟩
   have q:=x.cell y c e
   rw [fP ndP hp hu (by show scope.names.lookup y≠_;rw [k];decide)] at q
   exact q
 ·exact e0.hok.fresh (Nat.le_of_lt (x.above y c (PySem.mem_of_lookup h)))
 ·unfold start
  show _=N.length
  rw [List.length_append,List.length_map,List.length_replicate]
  omega
theorem mv {CX:CXT} {P:Program} {w:World} {K:PySem.W.Frag} {mg:Str→Option Value} {base:Heap} {k:Nat} {f:Addr} {name qual:Str} {params:Arguments} {body:List Stmt} {scope:Scope} {dV kV doc pm cdv ct oc:Value} {an od:Option Addr}
  {osl:Array (Option Value)} {N ps:List Str} {sp:Sp} (lk:K.lookup f=some ⟨oc,od,.func (PySem.W.fnOf name qual params body scope dV kV doc pm an cdv ct),osl⟩) (hcd:PySem.W.codeIn K cdv qual=true) (S:cH N ps scope)
  (len:∀ vs H Q E,sp vs H Q E→vs.length=ps.length)
  (hbody:∀ (A:Around) (outer:List Env) (s:Shared) (H:Hp) (vs:List V) (Q:VK) (E:XK),aW k (A.deeper (envOfC qual scope s.heap.objs.size f cdv))→sp vs H Q E →
   ∃ t,PSs (dw CX P w K mg base N qual scope f cdv A outer s H E) body t∧t { nx:=fun _ H'=>Q .non H',rt:=Q } (start N vs) H) :
  bQ P w K mg base CX (k+1) f (PySem.W.fnOf name qual params body scope dV kV doc pm an cdv ct) ps sp:=by
 refine ⟨len,fun A outer s H args us vs Q E hr e0 hb r hsp=>?_⟩
 have hl:=len _ _ _ _ hsp
 have KX:K.In s.heap:=e0.mod.kin.keeps fun b o e=>(e0.bs b o e).1
 have lim:s.heap.NoLimit:=e0.mod.nolimit.keeps fun b o e=>(e0.bs b o e).1
 have hkind:∀ y∈ps.zip us,scope.names.lookup y.1=some .local∨(scope.names.lookup y.1=some .cell∧((cellsFrom (s.heap.objs.size+1) scope.names []).lookup y.1).isSome=true):=fun ⟨n,v⟩ hy=>by
  rcases S.par n (List.of_mem_zip hy).1 with q | q
  ·exact .inl q
  ·exact .inr ⟨q,PySem.W.cellsFrom_some _ _ _ (.inl q)⟩
 refine codeAny_call_function hr.depth (KX _ _ lk) rfl S.co S.gen rfl (PySem.W.codeRec_of KX hcd) (hb _ _ _ _ ?_)
 refine wpAny_newFunctionEnv_cells S.kind hkind fun env he s1 x=>?_
 subst he
 refine ⟨lim.keeps x.toInCall.keep,codeAny_func ?_⟩
 obtain ⟨t,ht,hq⟩:=hbody A outer s H vs Q E (hr.deeper _) hsp
 have I:Inv (dw CX P w K mg base N qual scope f cdv A outer s H E) [] (start N vs) H s1:=jG S hr.hd e0 hl r x
 refine wpAny_mono (ht [] s1 (start N vs) H _ I hq) (fun fl s' hs=>?_) fun e s' hs=>hs
 have fin:∀ {σ':St} {H':Hp} {v:V} {u:Value},Inv (dw CX P w K mg base N qual scope f cdv A outer s H E) [] σ' H' s'→RelV v u→Q v H'→CE outer P w H s Q u s':=
  fun {σ' H' v u} J rv q=>⟨v,H',J.os,J.bare,J.base,J.hok,rv,q⟩
 cases fl with
 | ret u=>
  obtain ⟨v,σ',H',J,rv,q⟩:=hs
  exact fin J rv q
 | next=>
  obtain ⟨σ',H',J,q⟩:=hs
  exact fin (v:=V.non) (u:=Value.none) J rfl q
 | brk=>
  obtain ⟨_,_,_,q⟩:=hs
  exact False.elim q
 | cont=>
  obtain ⟨_,_,_,q⟩:=hs
  exact False.elim q
section
variable {X:Cx} {x:Str} {p pos:Pos} {e:Expr} {es:List Expr} {t:TA} {id T:String} {r:List V→Hp→VK→Prop}
def tCB (r:List V→Hp→VK→Prop) (t:TA):TE:=fun σ H Q=>t σ H fun vs H1=>r vs H1 Q
theorem lL (hc:cU X (.builtin id) r) (hg:Gl X x) (hm:X.mg x=none) (hv:bootBuiltins x=some (.builtin id)) (ha:PA X (e :: es) t) (hn:x≠"__name__":=by decide) (hdb:(x == ("__debug__":Str))=false:=by decide)
  (he:starEach (e :: es) X.env=(false,eval e X.env) :: starEach es X.env:=by rfl) (hpl:(backTo pos (starEach es X.env)).any (·.1)=false:=by rfl):PE X (.Call (.Name x p) (e :: es) [] pos) (tCB r t):=by
 intro pins s σ H Q I h
 refine wpAny_Call_Name_kw (cy I hg hm hv ?_ hn hdb)
 exact PyProof.Rows.callWith_builtin1 (thn (ha pos pins s σ H _ I h) fun us s1 ⟨vs,H1,I1,r1,q1⟩=>hc pins s1 σ H1 vs us Q I1 r1 q1) he hpl
theorem jB (hc:cU X (.type T) r) (hg:Gl X x) (hm:X.mg x=none) (hv:bootBuiltins x=some (.type T)) (ha:PA X (e :: es) t) (hn:x≠"__name__":=by decide) (hdb:(x == ("__debug__":Str))=false:=by decide)
  (he:starEach (e :: es) X.env=(false,eval e X.env) :: starEach es X.env:=by rfl) (hpl:(backTo pos (starEach es X.env)).any (·.1)=false:=by rfl):PE X (.Call (.Name x p) (e :: es) [] pos) (tCB r t):=by
 intro pins s σ H Q I h
 refine wpAny_Call_Name_kw (cy I hg hm hv ?_ hn hdb)
 exact PyProof.Rows.callWith_type1 (thn (ha pos pins s σ H _ I h) fun us s1 ⟨vs,H1,I1,r1,q1⟩=>hc pins s1 σ H1 vs us Q I1 r1 q1) he hpl
end
end L2
namespace HT
open PySem PyProof.Rows
section
variable {prog:Program} {w:World} {A:Around} {E:Value→Shared→Prop} {s:Shared}
theorem nQ {t b:Addr} {vs ws:List Value} {Q:Value→Shared→Prop} (ht:IsTup s.heap t vs.toArray) (hb:IsTup s.heap b ws.toArray) (hv:vs≠[])
  (h1:ws=[]→Q (.ref t) s) (h2:ws≠[]→Q (.ref s.heap.objs.size) { s with heap:=s.heap.push { cls:=.type "tuple",data:=.seq (vs++ws).toArray } })
  (hsz:vs.length+ws.length≤sizeLine):wpAny (model prog w) A (binaryOp .Add (.ref t) (.ref b)) Q E s:=by
 obtain ⟨⟨cls,dd,data,sl⟩,ho,hc,n,hd⟩:=id ht
 obtain ⟨⟨cls2,dd2,data2,sl2⟩,ho2,hc2,n2,hd2⟩:=id hb
 simp only at hc hd hc2 hd2
 subst hc hd hc2 hd2
 have e:vs.toArray++ws.toArray=(vs++ws).toArray:=by simp
 by_cases hw:ws=[]
 ·exact concat_meets ⟨_,ho,rfl⟩ ⟨_,ho2,rfl⟩ noFill_tuple_add seq_tuple_add PySem.F.slot_tuple_add PySem.F.entry_tuple_add (PySem.F.args_tuple_add_2 _ _)
   (tuple_addW1 t b vs.toArray ws.toArray n n2 dd dd2 sl sl2 (by simpa using hv) (by simp [hw])) ⟨ho,ho2,h1 hw⟩
 ·refine concat_meets ⟨_,ho,rfl⟩ ⟨_,ho2,rfl⟩ noFill_tuple_add seq_tuple_add PySem.F.slot_tuple_add PySem.F.entry_tuple_add (PySem.F.args_tuple_add_2 _ _)
   (tuple_addW2 t b vs.toArray ws.toArray n n2 dd dd2 sl sl2 (by simpa using hv) (by simpa using hw) (by rw [List.size_toArray,List.size_toArray];exact hsz)) ⟨ho,ho2,?_⟩
  rw [e]
  exact h2 hw
def sIx (n d:Nat):Option Int→Nat
 | none=>d
 | some v=>if v < 0 then (v+(n:Int)).toNat else min v.toNat n
theorem gW (n d:Nat):sIx n d none=d:=rfl
theorem el (n d k:Nat):sIx n d (some (k:Int))=min k n:=by
 show (if (k:Int) < 0 then ((k:Int)+(n:Int)).toNat else min (k:Int).toNat n)=min k n
 rw [if_neg (by omega),Int.toNat_natCast]
end
end HT
namespace L2
open PySem PySem.Spec PyProof.Rows
abbrev TO:=St→Hp→(Option Int→Hp→Prop)→Prop
def PO (X:Cx) (e:Option Expr) (t:TO):Prop:=
 ∀ (pins:List (Addr×Obj)) (s:Shared) (σ:St) (H:Hp) (Q:Option Int→Hp→Prop),Inv X pins σ H s→t σ H Q →
  wpAny (model X.prog X.w) X.A (evalPart e X.env) (fun u s'=>∃ o H',Inv X pins σ H' s'∧IsPart u o∧Q o H') X.xe s
def m_:TO:=fun _ H Q=>Q none H
def um (t:TE):TO:=fun σ H Q=>t σ H fun x H1=>∃ i,x=.int i∧Q (some i) H1
section
variable {X:Cx} {e:Expr} {te:TE} {lo hi:Option Expr} {tl th:TO} {pos p2:Pos}
theorem nZ:PO X none m_:=by
 intro pins s σ H Q I h
 rw [evalPart_none]
 exact wpAny_pure ⟨none,H,I,.none,h⟩
theorem nk (h:PE X e te):PO X (some e) (um te):=by
 intro pins s σ H Q I hw
 rw [evalPart_some]
 refine thn (h pins s σ H _ I hw) fun u s1 ⟨x,H1,I1,r1,q1⟩=>?_
 obtain ⟨i,rfl,q⟩:=q1
 obtain ⟨t,rfl⟩:=r1
 exact ⟨some i,H1,I1,.int i t,q⟩
def SlR (X:Cx) (r:V→Option Int→Option Int→Hp→VK→Prop):Prop:=
 ∀ (pins:List (Addr×Obj)) (s:Shared) (σ:St) (H:Hp) (x:V) (v vl vu:Value) (lo hi:Option Int) (sl:Addr) (Q:VK),Inv X pins σ H s→RelV x v→s.heap.IsSliceOf sl vl vu .none→IsPart vl lo→IsPart vu hi→r x lo hi H Q →
  ∃ T id,typeLookup (.type T) "__getitem__"=pure (some (.builtin id))∧s.TypeIs v T∧wpAny (model X.prog X.w) X.A (getItem v (.ref sl)) (EP X pins σ Q) X.xe s
def tSl (r:V→Option Int→Option Int→Hp→VK→Prop) (te:TE) (tl th:TO):TE:=fun σ H Q=>te σ H fun x H1=>tl σ H1 fun l H2=>th σ H2 fun u H3=>r x l u H3 Q
theorem kC {r:V→Option Int→Option Int→Hp→VK→Prop} (hr:SlR X r) (he:PE X e te) (hl:PO X lo tl) (hu:PO X hi th):PE X (.Subscript e (.Slice lo hi none p2) pos) (tSl r te tl th):=by
 intro pins s σ H Q I h
 refine Subscript_ (thn (he pins s σ H _ I h) fun v s1 ⟨x,H1,I1,r1,q1⟩=>?_)
 refine wpAny_Slice (thn (hl pins s1 σ H1 _ I1 q1) fun vl s2 ⟨l,H2,I2,pl,q2⟩=>thn (hu pins s2 σ H2 _ I2 q2) fun vu s3 ⟨u,H3,I3,pu,q3⟩=>?_)
 rw [evalPart_none]
 refine wpAny_pure ?_
 have I4:Inv X pins σ H3 { s3 with heap:=s3.heap.push { cls:=.type "slice",data:=.fields #[vl,vu,.none] } }:=I3.kept (t':=s3.toks) fun b ob q=>Heap.get?_push_of_some _ q
 obtain ⟨T,id,hT,ht,hg⟩:=hr pins { s3 with heap:=s3.heap.push { cls:=.type "slice",data:=.fields #[vl,vu,.none] } } σ H3 x v vl vu l u s3.heap.objs.size Q I4 r1 (Heap.IsSliceOf.new ..) pl pu q3
 show wpAny (model X.prog X.w) X.A (subscriptTail e (.Slice lo hi none p2) v (.ref s3.heap.objs.size)) (EP X pins σ Q) X.xe { s3 with heap:=s3.heap.push { cls:=.type "slice",data:=.fields #[vl,vu,.none] } }
 exact tail_any (ops:=[.ref s3.heap.objs.size,v]) ht hT hg (by with_unfolding_all rfl)
def fc (xs:List V) (lo hi:Option Int):List V:=(xs.drop (HT.sIx xs.length 0 lo)).take (HT.sIx xs.length xs.length hi - HT.sIx xs.length 0 lo)
theorem h7 (xs:List V) (lo hi:Option Int):(fc xs lo hi).length≤xs.length:=by
 unfold fc
 rw [List.length_take,List.length_drop]
 omega
def uA (K:PySem.W.Frag):R2:=fun x y H Q=>∃ a b xs ys,x=.ref a∧y=.ref b∧SqT K H a xs∧SqT K H b ys∧xs≠[]∧xs.length+ys.length≤sizeLine ∧
 (ys=[]→Q (.ref a) H)∧(ys≠[]→∀ p,H p=none→Q (.ref p) (upd H p (.tup (xs++ys))))
theorem Vals.ed {xs:List V} {us:List Value} (r:Vals xs us):us=[]↔xs=[]:=by
 cases r with
 | nil=>simp
 | cons _ _=>simp
theorem mT:OpR X (binaryOp .Add) (uA X.K):=by
 intro pins s σ H x y v u Q I rx ry h
 obtain ⟨a,b,xs,ys,rfl,rfl,ha,hb,hx,hz,q1,q2⟩:=h
 cases rx
 cases ry
 obtain ⟨its,r1,p1,_⟩:=I.tuple ha
 obtain ⟨its2,r2,p2,_⟩:=I.tuple hb
 refine HT.nQ p1 p2 (fun z=>hx (r1.ed.mp z)) (fun z=>⟨.ref a,H,I,rfl,q1 (r2.ed.mp z)⟩) (fun z=>?_) (by rw [← r1.length,← r2.length];exact hz)
 refine ⟨.ref s.heap.objs.size,_,I.laid (t':=s.toks) (o:=.tup (xs++ys)) (fun b ob q=>Heap.get?_push_of_some _ q) (Nat.le_refl _) ?_,rfl,q2 (fun w=>z (r2.ed.mpr w)) _ (I.hok.fresh (Nat.le_refl _))⟩
 exact ⟨by rw [List.length_append];exact hz,_,r1.append r2,IsTup.new _ _⟩
end
def ixN (n:Nat) (i:Int):Option Nat:=if 0≤i then (if i < n then some i.toNat else none) else if -(n:Int)≤i then some (i+n).toNat else none
def atI {α:Type} (xs:List α) (i:Int):Option α:=(ixN xs.length i).bind fun j=>xs[j]?
theorem iD {n:Nat} {i:Int} {j:Nat} (h:ixN n i=some j):seqIndex? i n=some j∧j < n∧-(n:Int)≤i∧i < n:=by
 unfold ixN at h
 by_cases h0:0≤i
 ·rw [if_pos h0] at h
  by_cases h1:i < n
  ·rw [if_pos h1] at h
   have e:i.toNat=j:=Option.some.inj h
   exact ⟨by rw [seqIndex_of h0 h1,e],by omega,by omega,h1⟩
  ·rw [if_neg h1] at h;cases h
 ·rw [if_neg h0] at h
  by_cases h1:-(n:Int)≤i
  ·rw [if_pos h1] at h
   have e:(i+n).toNat=j:=Option.some.inj h
   exact ⟨by rw [seqIndex_neg (by omega) h1,e],by omega,h1,by omega⟩
  ·rw [if_neg h1] at h;cases h
theorem ir {α:Type} {xs:List α} {i:Int} {v:α} (h:atI xs i=some v):∃ j,seqIndex? i xs.length=some j∧xs[j]?=some v∧j < xs.length∧-(xs.length:Int)≤i∧i < xs.length:=by
 unfold atI at h
 cases e:ixN xs.length i with
 | none=>rw [e] at h;cases h
 | some j=>
  rw [e] at h
  obtain ⟨h1,h2,h3,h4⟩:=iD e
  exact ⟨j,h1,h,h2,h3,h4⟩
def fh (b:Expr):Prop:=∀ o i,subscripted b false o i=operate [o,i] (getItem o i)
def IxR (X:Cx) (r:R2):Prop:=
 ∀ (value slice:Expr) (pins:List (Addr×Obj)) (s:Shared) (σ:St) (H:Hp) (x y:V) (v u:Value) (Q:VK),Inv X pins σ H s→RelV x v→RelV y u→r x y H Q →
  subscripted slice false v u=operate [v,u] (getItem v u)→wpAny (model X.prog X.w) X.A (subscriptTail value slice v u) (EP X pins σ Q) X.xe s
section
variable {X:Cx} {a b:Expr} {ta tb:TE} {pos:Pos}
theorem l5 {r:R2} (hr:IxR X r) (ha:PE X a ta) (hb:PE X b tb) (hs:fh b):PE X (.Subscript a b pos) (tOp r ta tb):=by
 intro pins s σ H Q I h
 exact Subscript_ (lP ha hb I h fun v u s2 x y H2 I2 rx ry q=>hr a b pins s2 σ H2 x y v u Q I2 rx ry q (hs _ _))
def u5 (K:PySem.W.Frag):R2:=fun x y H Q=>∃ p xs i v,x=.ref p∧y=.int i∧SqL K H p xs∧atI xs i=some v∧Q v H
def vo (K:PySem.W.Frag):R2:=fun x y H Q=>∃ p xs i v,x=.ref p∧y=.int i∧SqT K H p xs∧atI xs i=some v∧Q v H
theorem m3:IxR X (u5 X.K):=by
 intro value slice pins s σ H x y v u Q I rx ry h hs
 obtain ⟨p,xs,i,z,rfl,rfl,hq,he,q⟩:=h
 cases rx
 obtain ⟨t,rfl⟩:=ry
 obtain ⟨its,r,pl,hz⟩:=I.list hq
 obtain ⟨j,h1,h2,h3,h4,h5⟩:=ir he
 obtain ⟨w,ew,rw'⟩:=r.get h2
 have hl:=r.length
 have hn:=dH
 have fin:EP X pins σ Q w s:=⟨z,H,I,rw',q⟩
 by_cases h0:0≤i
 ·have hj:i.toNat=j:=by
   rw [seqIndex_of h0 h5] at h1
   exact Option.some.inj h1
  exact item_listR pl.isList h0 (by omega) (by rw [hj];simpa using ew) fin hs
 ·have hj:(i+(its.toArray.size:Int)).toNat=j:=by
   rw [seqIndex_neg (by omega) h4] at h1
   rw [List.size_toArray,← hl]
   exact Option.some.inj h1
  exact subscriptTail_builtinR (x:=w) pl.isList.typeIs slot_list_getitem.lookup
   (wpAny_getItem_list_neg (Q:=fun r s'=>r=w∧EP X pins σ Q r s') pl.isList (by omega) (by rw [List.size_toArray]<;>omega) (by omega) (by rw [hj];simpa using ew) ⟨rfl,fin⟩) hs
theorem pJ:IxR X (vo X.K):=by
 intro value slice pins s σ H x y v u Q I rx ry h hs
 obtain ⟨p,xs,i,z,rfl,rfl,hq,he,q⟩:=h
 cases rx
 obtain ⟨t,rfl⟩:=ry
 obtain ⟨its,r,pl,hz⟩:=I.tuple hq
 obtain ⟨j,h1,h2,h3,h4,h5⟩:=ir he
 obtain ⟨w,ew,rw'⟩:=r.get h2
 have hl:=r.length
 have hn:=dH
 have fin:EP X pins σ Q w s:=⟨z,H,I,rw',q⟩
 exact subscriptTail_builtinR (x:=w) pl.typeIs slot_tuple_getitem.lookup
  (getItem_tuple (j:=j) (Q:=fun r s'=>r=w∧EP X pins σ Q r s') pl (by omega) (by omega) (by rw [List.size_toArray,← hl];exact h1) (by simpa using ew) ⟨rfl,fin⟩) hs
theorem jb (its:List Value) (n j:Nat) (u:Value):Obj.mapSeq (·.setIfInBounds j u) { cls:=.type "list",data:=.seq its.toArray n }={ cls:=.type "list",data:=.seq (its.set j u).toArray n }:=by
 simp [Obj.mapSeq]
theorem Inv.lst {pins:List (Addr×Obj)} {σ:St} {H:Hp} {s:Shared} {p:Addr} {xs:List V} (I:Inv X pins σ H s) (h:H p=some (.lst xs)) :
  ∃ (its:List Value) (n:Nat),Vals xs its∧s.heap.get? p=some { cls:=.type "list",data:=.seq its.toArray n }∧xs.length≤sizeLine:=by
 obtain ⟨z,its,n,r,e⟩:=I.hok p _ h
 exact ⟨its,n,r,e,z⟩
theorem Inv.q5 {pins:List (Addr×Obj)} {σ:St} {H:Hp} {s:Shared} {p:Addr} {xs ys:List V} {its its':List Value} {n n':Nat} {f:Obj→Obj} (I:Inv X pins σ H s) (h:H p=some (.lst xs))
  (ho:s.heap.get? p=some { cls:=.type "list",data:=.seq its.toArray n }) (hf:f { cls:=.type "list",data:=.seq its.toArray n }={ cls:=.type "list",data:=.seq its'.toArray n' }) (r:Vals ys its') (hz:ys.length≤sizeLine) (t:Nat) :
  Inv X pins σ (upd H p (.lst ys)) { s with heap:=s.heap.update p f,toks:=t }:=by
 have e:(s.heap.update p f).get? p=some { cls:=.type "list",data:=.seq its'.toArray n' }:=by
  rw [Heap.get?_update_self f ho (by rw [hf]<;>rfl),hf]
 refine I.write (x:=p) (e:=p) (by rw [h];trivial) (.inl rfl) (fun b u hb q=>(Heap.get?_update_other _ _ (Ne.symm hb)).trans q) ⟨_,e⟩ ?_
 exact ⟨hz,its',n',r,e⟩
def iN:V→V→V→Hp→(Hp→Prop)→Prop:=fun o i v H Q=>∃ p xs k j,o=.ref p∧i=.int k∧H p=some (.lst xs)∧ixN xs.length k=some j∧Q (upd H p (.lst (xs.set j v)))
theorem set_list:i5 X iN:=by
 intro pins s σ H o i v ov iv u Q I ro ri rv h
 obtain ⟨p,xs,k,j,rfl,rfl,hp,hj,q⟩:=h
 cases ro
 obtain ⟨t,rfl⟩:=ri
 obtain ⟨its,n,r,ho,hz⟩:=I.lst hp
 obtain ⟨h1,h2,h3,h4⟩:=iD hj
 have hl:=r.length
 have hn:=dH
 have I':Inv X pins σ (upd H p (.lst (xs.set j v))) { s with heap:=s.heap.update p (Obj.mapSeq (·.setIfInBounds j u)) }:=
  I.q5 hp ho (jb its n j u) (r.set rv j) (by rw [List.length_set];exact hz) s.toks
 by_cases h0:0≤k
 ·have hk:k.toNat=j:=by
   rw [seqIndex_of h0 h4] at h1
   exact Option.some.inj h1
  exact PySem.W.ki_setAt ho h0 (by omega) (by rw [List.size_toArray,← hl];exact h4) (by rw [hk];exact ⟨_,I',q⟩)
 ·have hk:(k+(its.toArray.size:Int)).toNat=j:=by
   rw [seqIndex_neg (by omega) h3] at h1
   rw [List.size_toArray,← hl]
   exact Option.some.inj h1
  exact PySem.W.ki_setBack ho (by omega) (by rw [List.size_toArray,← hl];exact h3) (by omega) (by rw [hk];exact ⟨_,I',q⟩)
theorem gY (lo hi:Option Int) (n:Nat):(sliceBounds lo hi none n).1=((HT.sIx n 0 lo:Nat):Int)∧(sliceBounds lo hi none n).2.1=((HT.sIx n n hi:Nat):Int)∧(sliceBounds lo hi none n).2.2=1:=by
 refine ⟨?_,?_,rfl⟩
 ·cases lo with
  | none=>simp [sliceBounds,HT.sIx]
  | some i=>
   simp only [sliceBounds,HT.sIx,Option.getD_none,show (1:Int) > 0 by decide,if_true]
   by_cases h:i < 0
   ·simp only [h,if_true]<;>omega
   ·simp only [h,if_false]<;>omega
 ·cases hi with
  | none=>simp [sliceBounds,HT.sIx]
  | some i=>
   simp only [sliceBounds,HT.sIx,Option.getD_none,show (1:Int) > 0 by decide,if_true]
   by_cases h:i < 0
   ·simp only [h,if_true]<;>omega
   ·simp only [h,if_false]<;>omega
theorem fW (its:List Value) (lo hi:Option Int):slicePick its.toArray lo hi none=((its.drop (HT.sIx its.length 0 lo)).take (HT.sIx its.length its.length hi - HT.sIx its.length 0 lo)).toArray:=by
 obtain ⟨h1,h2,h3⟩:=gY lo hi its.toArray.size
 unfold slicePick
 rw [h1,h2,h3]
 simp only [sliceRange_one,pick_run,List.size_toArray]<;>rfl
def uK (K:PySem.W.Frag):V→Option Int→Option Int→Hp→VK→Prop:=fun x lo hi H Q=>∃ a xs,x=.ref a∧SqL K H a xs∧∀ p,H p=none→Q (.ref p) (upd H p (.lst (fc xs lo hi)))
theorem nO:SlR X (uK X.K):=by
 intro pins s σ H x v vl vu lo hi sl Q I rx hs pl pu h
 obtain ⟨a,xs,rfl,hx,q⟩:=h
 cases rx
 obtain ⟨its,r,ht,hz⟩:=I.list hx
 have hlen:=r.length
 refine ⟨"list",_,slot_list_getitem.lookup,ht.isList.typeIs,?_⟩
 refine wpAny_getItem_list_slice ht.isList hs pl pu .none (by simp) ?_ (by rw [List.size_toArray]<;>omega)
 rw [fW,← hlen]
 refine ⟨.ref s.heap.objs.size,_,I.laid (t':=s.toks) (o:=.lst (fc xs lo hi)) (fun b ob q=>Heap.get?_push_of_some _ q) (Nat.le_refl _) ?_,rfl,q _ (I.hok.fresh (Nat.le_refl _))⟩
 exact ⟨Nat.le_trans (h7 xs lo hi) hz,_,0,(r.drop (HT.sIx xs.length 0 lo)).take (HT.sIx xs.length xs.length hi - HT.sIx xs.length 0 lo),Heap.get?_push_size _ rfl⟩
def bN:V→Bool
 | .non=>true
 | .bl _=>true
 | .int _=>true
 | .str _=>true
 | _=>false
def eqV:V→V→Bool
 | .non,.non=>true
 | .bl a,.bl b=>a == b
 | .bl a,.int b=>(if a then 1 else 0) == b
 | .int a,.bl b=>a == (if b then 1 else 0)
 | .int a,.int b=>a == b
 | .str a,.str b=>a == b
 | _,_=>false
theorem dY {A:Around} {s:Shared} {y x:V} {u v:Value} (ry:RelV y u) (rx:RelV x v) (fy:bN y=true) (fx:bN x=true):SeqAt.EqAt A s u v (eqV y x):=by
 cases y with
 | non=>
  cases ry
  cases x with
  | non=>cases rx;exact SeqAt.EqAt.same _
  | bl b=>cases rx;exact SeqAt.EqAt.none_bool b
  | int b=>obtain ⟨t,rfl⟩:=rx;exact SeqAt.EqAt.none_int b t
  | str b=>obtain ⟨t,rfl⟩:=rx;exact SeqAt.EqAt.none_str b t
  | _=>exact absurd (show false=true from fx) Bool.false_ne_true
 | bl a=>
  cases ry
  cases x with
  | non=>cases rx;exact SeqAt.EqAt.bool_none a
  | bl b=>cases rx;exact SeqAt.EqAt.bool_bool a b
  | int b=>obtain ⟨t,rfl⟩:=rx;exact SeqAt.EqAt.bool_int a b t
  | str b=>obtain ⟨t,rfl⟩:=rx;exact SeqAt.EqAt.bool_str a b t
  | _=>exact absurd (show false=true from fx) Bool.false_ne_true
 | int a=>
  obtain ⟨t',rfl⟩:=ry
  cases x with
  | non=>cases rx;exact SeqAt.EqAt.int_none a t'
  | bl b=>cases rx;exact SeqAt.EqAt.int_bool a t' b
  | int b=>obtain ⟨t,rfl⟩:=rx;exact SeqAt.EqAt.int_int a t' b t
  | str b=>obtain ⟨t,rfl⟩:=rx;exact SeqAt.EqAt.int_str a t' b t
  | _=>exact absurd (show false=true from fx) Bool.false_ne_true
 | str a=>
  obtain ⟨t',rfl⟩:=ry
  cases x with
  | non=>cases rx;exact SeqAt.EqAt.str_none a t'
  | bl b=>cases rx;exact SeqAt.EqAt.str_bool a t' b
  | int b=>obtain ⟨t,rfl⟩:=rx;exact SeqAt.EqAt.str_int a t' b t
  | str b=>obtain ⟨t,rfl⟩:=rx;exact SeqAt.EqAt.str_str a t' b t
  | _=>exact absurd (show false=true from fx) Bool.false_ne_true
 | _=>exact absurd (show false=true from fy) Bool.false_ne_true
def eqU (x:V) (u:Value):Bool:=match u with
 | .none=>eqV .non x
 | .bool b=>eqV (.bl b) x
 | .int i _=>eqV (.int i) x
 | .str z _=>eqV (.str z) x
 | _=>false
theorem jj {x y:V} {u:Value} (r:RelV y u) (f:bN y=true):eqU x u=eqV y x:=by
 cases y with
 | non=>cases r;rfl
 | bl b=>cases r;rfl
 | int i=>obtain ⟨t,rfl⟩:=r;rfl
 | str z=>obtain ⟨t,rfl⟩:=r;rfl
 | _=>exact absurd (show false=true from f) Bool.false_ne_true
theorem fC {x:V}:∀ {xs:List V} {us:List Value},Vals xs us→xs.all bN=true→us.any (eqU x)=xs.any fun y=>eqV y x
 | _,_,.nil,_=>rfl
 | y :: xs,u :: us,.cons r t,f=>by
  rw [List.all_cons,Bool.and_eq_true] at f
  rw [List.any_cons,List.any_cons,jj r f.1,fC t f.2]
theorem eF {A:Around} {s:Shared} {x:V} {v:Value} (rx:RelV x v) (fx:bN x=true):∀ {xs:List V} {us:List Value},Vals xs us→xs.all bN=true→∀ u∈us,SeqAt.EqAt A s u v (eqU x u)
 | _,_,.nil,_=>fun u hu=>by cases hu
 | y :: xs,u :: us,.cons r t,f=>fun u' hu=>by
  rw [List.all_cons,Bool.and_eq_true] at f
  rcases List.mem_cons.mp hu with rfl | hu
  ·rw [jj r f.1];exact dY r rx f.1 fx
  ·exact eF rx fx t f.2 u' hu
def inV (x:V) (xs:List V):Bool:=xs.any fun y=>eqV y x
def rIn (K:PySem.W.Frag) (neg:Bool):R2:=fun x y H Q=>∃ p xs,y=.ref p∧(SqL K H p xs∨SqT K H p xs)∧bN x=true∧xs.all bN=true∧Q (.bl (if neg then !inV x xs else inV x xs)) H
theorem dZ:OpR X (compareOp .NotIn) (rIn X.K true):=by
 intro pins s σ H x y v u Q I rx ry h
 obtain ⟨p,xs,rfl,hq,fx,fs,q⟩:=h
 cases ry
 rcases hq with hq | hq
 ·obtain ⟨its,r,pl,hz⟩:=I.list hq
  refine SeqAt.notIn_listAt (eqU x) pl.isList (fun w hw=>eF rx fx r fs w (by simpa using hw)) ⟨.bl _,H,I,rfl,?_⟩
  rw [show its.toArray.any (eqU x)=its.any (eqU x) by simp,fC r fs]
  exact q
 ·obtain ⟨its,r,pl,hz⟩:=I.tuple hq
  refine SeqAt.notIn_tupleAt (eqU x) pl (fun w hw=>eF rx fx r fs w (by simpa using hw)) ⟨.bl _,H,I,rfl,?_⟩
  rw [show its.toArray.any (eqU x)=its.any (eqU x) by simp,fC r fs]
  exact q
theorem dX:cU X (.type "list") (fun xs H Q=>∃ p ys,xs=[.ref p]∧(SqL X.K H p ys∨SqT X.K H p ys)∧∀ l,H l=none→Q (.ref l) (upd H l (.lst ys))):=by
 intro pins s σ H xs us Q I r h
 obtain ⟨p,ys,rfl,hq,q⟩:=h
 obtain ⟨u,rfl,rx⟩:=vals1 r
 cases rx
 have fin:∀ (its:List Value),Vals ys its→ys.length≤sizeLine→∀ (h':Heap) (c':Nat),(∀ b o',s.heap.get? b=some o'→h'.get? b=some o') →
   h'.get? s.heap.objs.size=some { cls:=.type "list",dict:=none,data:=.seq its.toArray c',slots:=#[] }→EP X pins σ Q (.ref s.heap.objs.size) { s with heap:=h' }:=fun its r' hz h' c' kp e=>
  ⟨.ref s.heap.objs.size,_,I.laid (t':=s.toks) kp (Nat.le_refl _) (show aK X.prog X.w _ h' _ (.lst ys) from ⟨hz,its,c',r',e⟩),rfl,q _ (I.hok.fresh (Nat.le_refl _))⟩
 rcases hq with hq | hq
 ·obtain ⟨its,r',pl,hz⟩:=I.list hq
  have hlen:=r'.length
  obtain ⟨o,ho,hc,n,hd⟩:=pl.isList
  exact call_list_seq p (.inl rfl) ho hc hd (fun h' c' kp e=>fin its r' hz h' c' kp e) (by simp only [List.size_toArray]<;>omega)
 ·obtain ⟨its,r',pl,hz⟩:=I.tuple hq
  have hlen:=r'.length
  obtain ⟨o,ho,hc,n,hd⟩:=pl
  exact call_list_seq p (.inr rfl) ho hc hd (fun h' c' kp e=>fin its r' hz h' c' kp e) (by simp only [List.size_toArray]<;>omega)
def tyV (K:PySem.W.Frag) (T:String) (x:V) (H:Hp):Prop:=match x with
 | .str _=>T="str"
 | .int _=>T="int"
 | .ref p=>(T="list"∧∃ xs,SqL K H p xs)∨(T="tuple"∧∃ o,K.lookup p=some o∧o.cls=.type "tuple"∧o.dict=none) ∨
   (T="dict"∧((∃ kvs,H p=some (.dK kvs))∨∃ kvs,H p=some (.dT kvs)))∨(T="set"∧∃ S n,H p=some (.set S n))
 | _=>False
theorem rE {pins:List (Addr×Obj)} {σ:St} {H:Hp} {s:Shared} {T:String} {x:V} {v:Value} (I:Inv X pins σ H s) (r:RelV x v) (ty:tyV X.K T x H) :
  s.TypeIs v T∧∀ a,v=.ref a→∃ ob,s.heap.get? a=some ob∧ob.dict=none:=by
 cases x with
 | str z=>
  obtain ⟨t,rfl⟩:=r
  cases (show T="str" from ty)
  exact ⟨typeIs_str s z t,fun _ e=>nomatch e⟩
 | int i=>
  obtain ⟨t,rfl⟩:=r
  cases (show T="int" from ty)
  exact ⟨typeIs_int s i t,fun _ e=>nomatch e⟩
 | ref p=>
  cases r
  rcases ty with ⟨rfl,xs,hq⟩ | ⟨rfl,o,hk,hc,hd⟩ | ⟨rfl,hk⟩ | ⟨rfl,S,n,hk⟩
  ·obtain ⟨its,_,pl,_⟩:=I.list hq
   refine ⟨pl.isList.typeIs,fun a e=>?_⟩
   cases e
   obtain ⟨o,n,e,c,hd,_⟩:=pl
   exact ⟨o,e,hd⟩
  ·refine ⟨⟨o,I.kIn p o hk,hc⟩,fun a e=>?_⟩
   cases e
   exact ⟨o,I.kIn _ o hk,hd⟩
  ·have z:∃ o,s.heap.get? p=some o∧o.ExactDict:=by
    rcases hk with ⟨kvs,hk⟩ | ⟨kvs,hk⟩
    ·obtain ⟨_,_,_,_,o,_,_,e,ex,_⟩:=I.hok p _ hk
     exact ⟨o,e,ex⟩
    ·obtain ⟨_,_,_,_,o,_,_,e,ex,_⟩:=I.hok p _ hk
     exact ⟨o,e,ex⟩
   obtain ⟨o,e,ex⟩:=z
   refine ⟨⟨o,e,ex.1⟩,fun a e2=>?_⟩
   cases e2
   exact ⟨o,e,ex.2.1⟩
  ·obtain ⟨o,_,_,_,e,ex,_⟩:=I.hok p _ hk
   refine ⟨⟨o,e,ex.1⟩,fun a e2=>?_⟩
   cases e2
   exact ⟨o,e,ex.2.1⟩
 | _=>exact False.elim ty
variable {o e:Expr} {es:List Expr} {to:TE} {t:TA} {name:Str} {apos cpos:Pos} {T id:String} {r:V→List V→Hp→VK→Prop}
end
def MtM (X:Cx) (id:String) (r:V→List V→Hp→VK→Prop):Prop:=
 ∀ (pins:List (Addr×Obj)) (s:Shared) (σ:St) (H:Hp) (x:V) (xs:List V) (v:Value) (us:List Value) (Q:VK),Inv X pins σ H s→RelV x v→Vals xs us→r x xs H Q →
  wpAny (model X.prog X.w) X.A (call (.builtin id) (v :: us)) (EP X pins σ Q) X.xe s
theorem Vals.one:∀ {x:V} {us:List Value},Vals [x] us→∃ u,us=[u]∧RelV x u
 | _,_,.cons r .nil=>⟨_,rfl,r⟩
theorem Vals.two:∀ {x y:V} {us:List Value},Vals [x,y] us→∃ u v,us=[u,v]∧RelV x u∧RelV y v
 | _,_,_,.cons r (.cons q .nil)=>⟨_,_,rfl,r,q⟩
section
variable {X:Cx} {pins:List (Addr×Obj)} {σ:St} {H:Hp} {s:Shared} {l b:Addr} {xs ys zs:List V}
theorem Inv.uT {its its':List Value} {n:Nat} {f:Array Value→Array Value} {t':Nat} (I:Inv X pins σ H s) (hH:H l=some (.lst xs))
  (e:s.heap.get? l=some { cls:=.type "list",data:=.seq its.toArray n }) (hf:f its.toArray=its'.toArray) (hv:Vals ys its') (hz:ys.length≤sizeLine) :
  Inv X pins σ (upd H l (.lst ys)) { s with heap:=s.heap.update l (Obj.mapSeq f),toks:=t' }:=by
 have q:=PySem.IsL.update e f
 rw [hf] at q
 refine I.write (x:=l) (e:=l) (by rw [hH];exact trivial) (.inl rfl) (fun b' u hb hu=>(Heap.get?_update_other s.heap (Obj.mapSeq f) (Ne.symm hb)).trans hu) ⟨_,q⟩ ?_
 exact ⟨hz,its',_,hv,q⟩
theorem Inv.vq {its:List Value} {t':Nat} (I:Inv X pins σ H s) (hv:Vals ys its) (hz:ys.length≤sizeLine) :
  Inv X pins σ (upd H s.heap.objs.size (.lst ys)) { s with heap:=s.heap.push { cls:=.type "list",data:=.seq its.toArray },toks:=t' }:=
 I.laid (fun _ _ q=>Heap.get?_push_of_some _ q) (Nat.le_refl _) ⟨hz,its,0,hv,Heap.get?_push_size _ rfl⟩
theorem Inv.fresh (I:Inv X pins σ H s):H s.heap.objs.size=none:=I.hok.fresh (Nat.le_refl _)
theorem Inv.lB (I:Inv X pins σ H s) (hH:H l=some (.lst xs)):xs.length≤sizeLine∧∃ (its:List Value) (n:Nat),Vals xs its∧xs.length=its.length∧s.heap.get? l=some { cls:=.type "list",data:=.seq its.toArray n }:=by
 obtain ⟨z,its,n,r,e⟩:=I.hok l _ hH
 exact ⟨z,its,n,r,r.length,e⟩
theorem gJ {n:Nat} (h:n≤sizeLine):Builtin.List.listTooLong n=false:=by
 unfold Builtin.List.listTooLong
 exact decide_eq_false (by omega)
end
section
variable {X:Cx}
def mH:V→List V→Hp→VK→Prop:=fun x vs H Q=>∃ l xs y,x=.ref l∧vs=[y]∧H l=some (.lst xs)∧xs.length < sizeLine∧Q .non (upd H l (.lst (xs++[y])))
theorem jq:MtM X "list.append" mH:=by
 intro pins s σ H x vs v us Q I rx rv h
 obtain ⟨l,xs,y,rfl,rfl,hH,hz,q⟩:=h
 cases rx
 obtain ⟨u,rfl,ru⟩:=rv.one
 obtain ⟨z,its,n,r,hl,e⟩:=I.lB hH
 refine call_meets F.slot_list_append ⟨_,e,rfl⟩ F.entry_list_append (F.args_list_append_2 _ _) (PySem.list_append l its.toArray n u (by rw [List.size_toArray];omega)) ⟨e,?_⟩
 refine ⟨.non,_,I.uT (its':=its++[u]) hH e (by simp) (r.append (.cons ru .nil)) ?_,rfl,q⟩
 rw [List.length_append,List.length_singleton]
 omega
def uS:R2:=fun x y H Q=>∃ l b xs zs,x=.ref l∧y=.ref b∧H l=some (.lst xs)∧H b=some (.lst zs)∧xs.length+zs.length≤sizeLine∧∀ p,H p=none→Q (.ref p) (upd H p (.lst (xs++zs)))
theorem oz:OpR X (binaryOp .Add) uS:=by
 intro pins s σ H x y v u Q I rx ry h
 obtain ⟨l,b,xs,zs,rfl,rfl,hH,hB,hz,q⟩:=h
 cases rx
 cases ry
 obtain ⟨z,its,n,r,hl,e⟩:=I.lB hH
 obtain ⟨z2,its2,n2,r2,hl2,e2⟩:=I.lB hB
 refine PySem.P.add_list e e2 ?_ (by rw [List.size_toArray,List.size_toArray];omega)
 have ea:its.toArray++its2.toArray=(its++its2).toArray:=by simp
 rw [ea]
 exact ⟨.ref _,_,I.vq (t':=s.toks) (r.append r2) (by rw [List.length_append];omega),rfl,q _ I.fresh⟩
end
section
variable {prog:Program} {w:World} {A:Around} {E:Value→Shared→Prop} {s:Shared}
theorem iO {a c n:Nat} (hac:a≤c) (hc:c≤n):sliceBounds (some (a:Int)) (some (c:Int)) none n=((a:Int),(c:Int),1):=by
 simp only [sliceBounds,Option.getD_none]
 have h1:¬((a:Int) < 0):=by omega
 have h2:¬((c:Int) < 0):=by omega
 simp only [h1,h2,if_false,show (1:Int) > 0 by decide,if_true]
 congr 1
 ·omega
 ·congr 1;omega
set_option maxRecDepth 100000 in
theorem n5 {l b sl : Addr} {items new : Array Value} {n n2 : Nat} {vl vu : Value} {a c : Nat} {Q : Unit → Shared → Prop}
    (e : s.heap.get? l = some { cls := .type "list", data := .seq items n }) (e2 : s.heap.get? b = some { cls := .type "list", data := .seq new n2 }) (hne : l ≠ b)
    (hs : s.heap.IsSliceOf sl vl vu .none) (pl : IsPart vl (some (a : Int))) (pu : IsPart vu (some (c : Int))) (hac : a ≤ c) (hc : c ≤ items.size)
    (hsz : items.size + new.size ≤ sizeLine) (h : Q () { s with heap := s.heap.update l (Obj.mapSeq fun xs => xs.extract 0 a ++ new ++ xs.extract c xs.size) }) :
    wpAny (model prog w) A (setItem (.ref l) (.ref sl) (.ref b)) Q E s := by
  have hl : s.heap.IsList l items := PySem.IsL.isList e
  have hb : s.heap.IsList b new := PySem.IsL.isList e2
  obtain ⟨os, hos, hcs, hds⟩ := id hs
  have hTs : s.TypeIs (.ref sl) "slice" := ⟨os, hos, hcs⟩
  have hstep : ¬ ((rawPart none == rawInt 0) = true) := Bool.false_ne_true
  have hsame : Builtin.List.listSameRef (.ref l) (.ref b) = false := by
    unfold Builtin.List.listSameRef
    exact beq_eq_false_iff_ne.mpr hne
  have hmax : (max (a : Int) (c : Int)).toNat = c := by omega
  have hz' : ((fun xs : Array Value => xs.extract 0 a ++ new ++ xs.extract c xs.size) items).size ≤ sizeLine + 1 := by
    simp only [Array.size_append, Array.size_extract]
    omega
  unfold setItem
  try with_reducible refine wpAny_holding ?_
  first | refine wpAny_bind (wpAny_pure ?_) | skip
  refine wpAny_bind (wpAny_sequenceKey hl.typeIs (by decide) ?_)
  refine wpAny_bind (wpAny_callSpecial?_slot (name := Str.ofString "__setitem__") hl.typeIs slot_list_setitem
    (wpAny_call_entry slot_list_setitem hl.typeIs entry_list_setitem ?_ (args_list_setitem _ _ _)))
  show wpAny _ _ (Builtin.List.listSubscript? (.ref sl) >>= _) _ _ s
  refine wpAny_bind ?_
  unfold Builtin.List.listSubscript?
  refine wpAny_bind (wpAny_specialOf hTs slice_no_index ?_)
  simp only [Option.isNone_none, if_true]
  refine wpAny_pure ?_
  show wpAny _ _ (typeOf (.ref sl) >>= _) _ _ s
  refine wpAny_bind (wpAny_typeOf hTs ?_)
  first
    | rw [if_neg (by decide)]
    | refine PySem.W.KFB.if_not (by decide) ?_
  rw [listSliceParts_eq]
  refine wpAny_bind (wpAny_bind (wpAny_field hos hds (x := .none) rfl (wpAny_bind (wpAny_listPart .none ?_))))
  rw [if_neg hstep]
  refine wpAny_bind (wpAny_field hos hds (x := vl) rfl (wpAny_bind (wpAny_listPart pl ?_)))
  refine wpAny_bind (wpAny_field hos hds (x := vu) rfl (wpAny_bind (wpAny_listPart pu (wpAny_pure ?_))))
  first
    | simp only [hsame, Bool.false_eq_true, if_false]
    | refine PySem.W.KFB.if_not hsame ?_
    | (dsimp only
       rw [if_neg (by rw [hsame]; exact Bool.false_ne_true)])
  refine wpAny_bind (m := Builtin.List.listAllItems (.ref b) "must assign iterable to extended slice") ?_
  unfold Builtin.List.listAllItems
  refine wpAny_bind (wpAny_typeOf hb.typeIs ?_)
  first
    | refine PySem.W.KFB.if_so (by decide) ?_
    | rw [if_pos (by decide)]
    | simp only [beq_self_eq_true, Bool.true_or, if_true]
  unfold Builtin.List.listItems
  refine wpAny_bind (wpAny_seqItems e2 rfl (wpAny_pure ?_))
  refine wpAny_bind (wpAny_bind (wpAny_seqItems e rfl (wpAny_pure ?_)))
  refine wpAny_bind (wpAny_of_eq ((sliceIndices_raw (some (a : Int)) (some (c : Int)) none items.size (by simp)).trans (congrArg (pure : Int × Int × Int → Sem (Int × Int × Int)) (iO hac hc))) ?_)
  show wpAny _ _ (if ((1 : Int) == 1) = true then _ else _) _ _ s
  rw [if_pos (by decide)]
  refine wpAny_bind (wpAny_rule ?_)
  first
    | simp only [gJ hsz, Bool.false_eq_true, if_false]
    | refine PySem.W.KFB.if_not (gJ hsz) ?_
  first | refine wpAny_bind (wpAny_pure ?_) | skip
  show wpAny _ _ (updateSeq l (fun xs => xs.extract 0 ((a : Int)).toNat ++ new ++ xs.extract (max (a : Int) (c : Int)).toNat xs.size) >>= _) _ _ s
  rw [hmax, Int.toNat_natCast]
  refine wpAny_bind (wpAny_updateSeq (hz := Nat.le_trans (Nat.le_add_right _ _) hsz) (_hz' := hz') e rfl ?_)
  refine wpAny_bind (wpAny_letGo ?_)
  first
    | exact wpAny_bind (wpAny_pure (wpAny_pure ⟨.none, rfl, wpAny_pure h⟩))
    | exact wpAny_pure ⟨.none, rfl, wpAny_pure h⟩
end
end L2
namespace Att
open PySem PySem.W PySem.Calls PyProof.Rows
theorem eQ {P:Params} {h:Heap}:∀ (ns:List Int) (vs:List Value),WellAll P h vs (ns.map WData.int)→IntsAre vs ns:=by
 intro ns
 induction ns with
 | nil=>
  intro vs w
  rw [List.map_nil] at w
  cases w
  exact .nil
 | cons n ns ih=>
  intro vs w
  rw [List.map_cons] at w
  cases w with
  | cons a b=>
   cases a
   exact .cons _ _ (ih _ b)
theorem jL {l:OpenLaw} {n:Nat} (hn:l.most=some n) {P:Params} {h:Heap} {args:List WData} {vals:List Value}
    (hpre:l.row.toRowW.claim.pre args=true) (hwl:WellAll P h vals args) :
    ∃ a vs ns,vals=[Value.ref a]∧args=[WData.list (ns.map WData.int)]∧h.get? a=some { cls:=.type "list",data:=.seq vs.toArray }∧IntsAre vs ns∧ns.length≤n:=by
  have hsh:WShape.hasAll [] args [.list .int]=true:=(pre_splitW hpre).1
  have hc:l.pre.holds [] { args:=args }=true:=(pre_splitW hpre).2
  obtain ⟨d,r,rfl,h1,h2⟩:=hasAllW_cons hsh
  obtain rfl:=hasAllW_nil h2
  obtain ⟨xs,rfl,h3⟩:=hasW_list h1
  obtain ⟨ns,rfl⟩:=items_int h3
  have hlen:ns.length≤n:=by
    unfold OpenLaw.pre at hc
    have h4:(WTm.not (.lt (.lit (.int (n:Int))) (.len (.arg 0)))).holds [] { args:=[.list (ns.map .int)] }=true:=by
      have h4:=(holds_andW hc).1
      rw [hn] at h4
      exact h4
    have h5:=condW_of h4 (w_not (w_lt w_lit (w_len_list (w_arg rfl))))
    rw [List.length_map] at h5
    refine Nat.le_of_not_lt fun q=>?_
    have q':(n:Int) < ((ns.length:Nat):Int):=by omega
    first
      | (rw [decide_eq_true q'] at h5;exact absurd h5 (by decide))
      | (simp at h5;omega)
  cases hwl with
  | cons w1 w2=>
    cases w2
    cases w1 with
    | list ho hall=>exact ⟨_,_,ns,rfl,rfl,ho,eQ ns _ hall,hlen⟩
theorem jg (l:OpenLaw) (args:List WData):l.row.toRowW.claim.post args (.bool true) args=true:=
 postW_of (r:=l.row.toRowW) (X:=(true == true))
  (show WShape.has [] (.bool true) .bool=true by first | rfl | decide | simp [WShape.has,WShape.arms,WShape.armsAll])
  (show (WTm.eq .res (.lit (.bool true))).value [] { args:=args,res:=some (.bool true),after:=args }=some (.bool (true == true)) from w_eq_bool (w_res rfl) w_lit) rfl
theorem hZ {l:OpenLaw} {n:Nat} {q:Program} {loose:List Str} {XP:(Str→Option Value)→Heap→Prop} {YP:World→Heap→Prop} {d:DefRec}
  (hn:l.most=some n) (hdf:d.params.defaults=[])
  (call:∀ (w:World) (s₀ s₁:Shared) (mg mb:Str→Option Value) (fa:Addr) (o:Obj) (pm cd doc:Value) (a:Addr) (vs:List Value) (ns:List Int),
   Ground q loose [] XP w s₀ mg mb s₁.heap→YP w s₁.heap →
   s₁.heap.get? fa=some o→o.data=.func (docDef d.name d.params d.body d.scope pm cd doc)→s₁.heap.CodeRec cd d.name→mg d.name=some (.ref fa) →
   s₁.heap.get? a=some { cls:=.type "list",data:=.seq vs.toArray }→IntsAre vs ns→ns.length≤n→s₁.gens=#[] →
   codeAny (model l.prog w) callerA (.call (.ref fa) ⟨[.ref a],[]⟩) (fun r s'=>r=.ok (.ret (.bool true))∧OldK s₁.heap s'.heap∧s'.os=s₁.os∧AllBare s'.gens) s₁) :
  WalkO q loose XP YP l.row.toRowW d [] (fun f vs=>PySem.call f vs):=by
 intro w s₀ s₁ mg mb G Y fa o pm cd doc dV kV ho hd hcd hD hmg hg args vals as hpre hlay hrd hwl hlo
 obtain rfl:dV=.none:=Dflts.none hD hdf
 obtain rfl:kV=.none:=Dflts.noKw hD
 obtain ⟨a,vs,ns,rfl,rfl,hobj,hints,hlen⟩:=jL hn hpre hwl
 refine enter_call (codeAny_mono (call w s₀ s₁ mg mb fa o pm cd doc a vs ns G Y ho (fd_plain hd) hcd hmg hobj hints hlen hg) fun r s' hq=>?_)
 obtain ⟨rfl,h2,h3,h4⟩:=hq
 exact ⟨.inl ⟨.bool true,.bool true,[],rfl,fun _=>rfl,.bool true,jg l _,fun _=>⟨List.Pairwise.nil,fun _ hm=>(nomatch hm)⟩⟩,h2,h3,h4⟩
end Att
namespace L2
open PySem PySem.Spec PyProof.Rows
theorem fE:∀ {vs:List Value} {ns:List Int},IntsAre vs ns→Vals (ns.map V.int) vs
 | _,_,.nil=>.nil
 | _,_,.cons n t h=>.cons ⟨t,rfl⟩ (fE h)
def lJ (H:Hp):Prop:=∀ b,H b=none∨∃ o xs,H b=some (.frz o (.lst xs))
theorem lQ {P:Program} {w:World} {K:PySem.W.Frag} {mg mb:Str→Option Value} {CX:CXT} {k:Nat} {fa a:Addr} {fd:FuncData} {x:Str} {sp:Sp} {s₁:Shared} {vs:List Value} {ns:List Int}
  (KX:K.In s₁.heap) (hns:s₁.heap.Ns mainGlobals mg) (hb:s₁.heap.Ns builtinsNs mb) (hbb:∀ x:Str,x≠"__name__"→mb x=bootBuiltins x) (hlim:s₁.heap.NoLimit) (hg:s₁.gens=#[])
  (ha:s₁.heap.get? a=some { cls:=.type "list",data:=.seq vs.toArray }) (hi:IntsAre vs ns) (hl:ns.length≤sizeLine) (hr:aW k callerA)
  (F:∀ base:Heap,K.In base→base.Ns mainGlobals mg→bQ P w K mg base CX k fa fd [x] sp) (hbind:∀ (s:Shared) (u:Value),BindsTo s fd ⟨[u],[]⟩ [(x,u)])
  (hsp:∀ H:Hp,lJ H→SqL K H a (ns.map V.int)→sp [.ref a] H (fun v _=>v=.bl true) fun _ _ _=>False)
  (hCX:∀ H e s',CX [] H s₁ (fun _ _ _=>False) e s'→False) :
  codeAny (model P w) callerA (.call (.ref fa) ⟨[.ref a],[]⟩) (fun r s'=>r=.ok (.ret (.bool true))∧OldK s₁.heap s'.heap∧s'.os=s₁.os∧AllBare s'.gens) s₁:=by
 have rv:=fE hi
 have lenV:=hi.length
 have core:∀ H:Hp,lJ H→SqL K H a (ns.map V.int)→HOk P w H s₁.heap→(∀ b,H b≠none→b=a)→(H a≠none→K.lookup a=none) →
   codeAny (model P w) callerA (.call (.ref fa) ⟨[.ref a],[]⟩) (fun r s'=>r=.ok (.ret (.bool true))∧OldK s₁.heap s'.heap∧s'.os=s₁.os∧AllBare s'.gens) s₁:=by
  intro H hO hS hok hA hK
  have base_of:∀ {b:Addr} {o:Obj},s₁.heap.get? b=some o→H b=none→(dt s₁.heap H).get? b=some o:=fun e n=>lu e n
  have noA:∀ {b:Addr} {o:Obj} {es:Array DictEntry} {ep:Nat},s₁.heap.get? b=some o→o.data=.dict es ep→H b=none:=fun {b o es ep} e d=>by
   cases q:H b with
   | none=>rfl
   | some u=>
    have e':b=a:=hA b (by rw [q];simp)
    subst e'
    rw [ha] at e;cases e
    have d':Data.seq vs.toArray _=Data.dict es ep:=d
    cases d'
  have nsK:∀ {b:Addr} {m:Str→Option Value},s₁.heap.Ns b m→(dt s₁.heap H).Ns b m:=fun {b m} ⟨o,es,ep,e,d,r⟩=>⟨o,es,ep,base_of e (noA e d),d,r⟩
  have hKb:K.In (dt s₁.heap H):=fun b o e=>base_of (KX b o e) (by
   cases q:H b with
   | none=>rfl
   | some u=>
    have e':b=a:=hA b (by rw [q];simp)
    subst e'
    rw [hK (by rw [q];simp)] at e;cases e)
  have hM:Mod K mg (dt s₁.heap H):=⟨hKb,nsK hns,⟨mb,nsK hb,hbb⟩,let ⟨mc,h1,h2⟩:=hlim;⟨mc,nsK h1,h2⟩⟩
  have e0:eG P w K mg (dt s₁.heap H) callerA [] s₁ H:=⟨rfl,hM,fun b o e=>nB e,Nat.le_of_eq (kd _ _),trivial,fun b hb=>absurd (show b∈([]:List Addr) from hb) (by simp),hok,.of_eq hg⟩
  refine codeAny_mono ((F _ hKb (nsK hns)).run callerA [] s₁ H ⟨[.ref a],[]⟩ [.ref a] [.ref a] _ _ hr e0 (hbind s₁ (.ref a)) (.cons rfl .nil) (hsp H hO hS)) fun r s' h=>?_
  cases r with
  | error e=>exact (hCX H e s' h).elim
  | ok fl=>
   cases fl with
   | next=>exact False.elim h
   | brk=>exact False.elim h
   | cont=>exact False.elim h
   | ret u=>
    obtain ⟨v,H',os,bare,un,hok',r',q⟩:=h
    have q':v=.bl true:=q
    subst q'
    obtain rfl:u=Value.bool true:=r'
    refine ⟨rfl,OldK.of_keep fun b o e=>?_,os,bare⟩
    cases q:H b with
    | none=>exact un.keep b o e q (by intro z;exact absurd (show b∈([]:List Addr) from z) (by simp)) (by simp)
    | some u=>
     rcases hO b with z | ⟨ob,xs,z⟩
     ·rw [q] at z;cases z
     ·have z2:=un.frzs b ob _ z
      obtain ⟨e1,_⟩:=hok b _ z
      obtain ⟨e2,_⟩:=hok' b _ z2
      rw [e] at e1;cases e1
      exact e2
 cases hk:K.lookup a with
 | some o=>
  have e:=KX a o hk
  rw [ha] at e
  cases e
  refine core (fun _=>none) (fun _=>.inl rfl) (.inr ⟨_,vs.toArray,_,hk,rfl,rfl,rfl,by rw [List.size_toArray,lenV];exact hl,by simpa using rv⟩) (fun b u z=>by have z':(none:Option HO)=some u:=z;cases z') (fun b z=>absurd rfl z) fun z=>absurd rfl z
 | none=>
  refine core (fun b=>if b=a then some (.frz { cls:=.type "list",data:=.seq vs.toArray } (.lst (ns.map V.int))) else none) (fun b=>?_) (.inl (.inr ⟨{ cls:=.type "list",data:=.seq vs.toArray },if_pos rfl⟩)) (fun b u z=>?_) (fun b z=>?_) fun _=>hk
  ·by_cases hb:b=a
   ·exact .inr ⟨_,_,if_pos hb⟩
   ·exact .inl (if_neg hb)
  ·by_cases hb:b=a
   ·have z':=(if_pos hb).symm.trans z
    cases z'
    subst hb
    exact ⟨ha,by rw [List.length_map];exact hl,vs,_,rv,ha⟩
   ·have z':=(if_neg hb).symm.trans z
    cases z'
  ·by_cases hb:b=a
   ·exact hb
   ·exact absurd (if_neg hb) z
theorem n4 {l:PySem.W.OpenLaw} {n k:Nat} {q:Program} {loose:List Str} {XP:(Str→Option Value)→Heap→Prop} {YP:World→Heap→Prop} {d:DefRec} {K:Params→PySem.W.Frag} {CX:World→CXT} {sp:World→Sp} {x:Str}
  (hn:l.most=some n) (hn2:n≤sizeLine) (hdf:d.params.defaults=[]) (hr:aW k callerA)
  (hY:∀ (w:World) (h:Heap),YP w h→(K w.params).In h)
  (F:∀ (w:World) (mg:Str→Option Value) (fa:Addr) (h:Heap),(K w.params).In h→h.Ns mainGlobals mg→mg d.name=some (.ref fa) →
   ∃ fd:FuncData,(∀ (s:Shared) (u:Value),BindsTo s fd ⟨[u],[]⟩ [(x,u)]) ∧
    ∀ base:Heap,(K w.params).In base→base.Ns mainGlobals mg→bQ l.prog w (K w.params) mg base (CX w) k fa fd [x] (sp w))
  (hsp:∀ (w:World) (H:Hp) (a:Addr) (ns:List Int),ns.length≤n→lJ H→SqL (K w.params) H a (ns.map V.int)→sp w [.ref a] H (fun v _=>v=.bl true) fun _ _ _=>False)
  (hCX:∀ (w:World) (H:Hp) (s:Shared) (e:Value) (s':Shared),CX w [] H s (fun _ _ _=>False) e s'→False) :
  PySem.W.WalkO q loose XP YP l.row.toRowW d [] (fun f vs=>PySem.call f vs):=by
 refine Att.hZ hn hdf fun w s₀ s₁ mg mb fa o pm cd doc a vs ns G Y ho hd hcd hmg hobj hints hlen hg=>?_
 have KX:=hY w _ Y
 obtain ⟨fd,hb,hF⟩:=F w mg fa _ KX G.T.g hmg
 exact lQ KX G.T.g G.T.b G.T.builtins G.T.nolimit hg hobj hints (Nat.le_trans hlen hn2) hr hF hb (fun H hO hS=>hsp w H a ns hlen hO hS) fun H e s'=>hCX w H s₁ e s'
def ck (s:Stmt):Arguments:=match s with
 | .FunctionDef _ a _ _ _ _ _ _ _ _=>a
 | _=>{ posonlyargs:=[],args:=[],vararg:=none,kwonlyargs:=[],kw_defaults:=[],kwarg:=none,defaults:=[] }
def bc (s:Stmt):List Stmt:=match s with
 | .FunctionDef _ _ b _ _ _ _ _ _ _=>b
 | _=>[]
def aC (s:Stmt):Scope:=match s with
 | .FunctionDef _ _ _ _ _ _ sc _ _ _=>sc
 | _=>{ kind:=.function,names:=[],isGenerator:=false,isCoroutine:=false }
abbrev CX0:CXT:=fun _ _ _ _ _ _=>False
abbrev E0:XK:=fun _ _ _=>False
theorem sx {X:Cx}:Passes CX0 X E0:=fun _ _ _ _ _ _ _ h=>h.elim
structure Fun (K:PySem.W.Frag) (x qual:Str) (st:Stmt) (f:Addr) (fd:FuncData):Prop where
 ex:∃ (oc:Value) (od:Option Addr) (kV doc pm:Value) (an:Option Addr) (cdv ct:Value) (osl:Array (Option Value)),
  fd=PySem.W.fnOf x qual (ck st) (bc st) (aC st) .none kV doc pm an cdv ct∧K.lookup f=some ⟨oc,od,.func fd,osl⟩∧PySem.W.codeIn K cdv qual=true
 kp:PySem.W.keepIn K (.ref f)=true
section
variable {P:Program} {w:World} {K:PySem.W.Frag} {mg:Str→Option Value} {base:Heap}
theorem Fun.ok {x qual:Str} {st:Stmt} {f:Addr} {fd:FuncData} {N ps:List Str} {k:Nat} {sp:Sp} (F:Fun K x qual st f fd) (S:cH N ps (aC st)) (len:∀ vs H Q E,sp vs H Q E→vs.length=ps.length)
  (hbody:∀ (cdv:Value) (A:Around) (outer:List Env) (s:Shared) (H:Hp) (vs:List V) (Q:VK) (E:XK),aW k (A.deeper (envOfC qual (aC st) s.heap.objs.size f cdv))→sp vs H Q E →
   ∃ t,PSs (dw CX0 P w K mg base N qual (aC st) f cdv A outer s H E).nox (bc st) t∧t { nx:=fun _ H'=>Q .non H',rt:=Q } (start N vs) H):bQ P w K mg base CX0 (k+1) f fd ps sp:=by
 obtain ⟨oc,od,kV,doc,pm,an,cdv,ct,osl,rfl,lk,hcd⟩:=F.ex
 refine mv lk hcd S len fun A outer s H vs Q E hr hsp=>?_
 obtain ⟨t,h,q⟩:=hbody cdv A outer s H vs Q E hr hsp
 exact ⟨t,h.nox,q⟩
theorem jr {x qual:Str} {st:Stmt} {f:Addr} {oc:Value} {od an:Option Addr} {osl:Array (Option Value)} {kV doc pm cdv ct:Value} (l:K.lookup f=some ⟨oc,od,.func (PySem.W.fnOf x qual (ck st) (bc st) (aC st) .none kV doc pm an cdv ct),osl⟩)
  (c:PySem.W.codeIn K cdv qual=true) (k:PySem.W.keepIn K (.ref f)=true):Fun K x qual st f (PySem.W.fnOf x qual (ck st) (bc st) (aC st) .none kV doc pm an cdv ct):=⟨⟨oc,od,kV,doc,pm,an,cdv,ct,osl,rfl,l,c⟩,k⟩
end
section
variable {X:Cx}
theorem pv (i:Nat) {x:Str} {pos:Pos} (hN:X.N[i]?=some x:=by rfl) (hv:Vis X.env.scope x:=by first | exact Or.inl rfl | exact Or.inr (Or.inl rfl) | exact Or.inr (Or.inr rfl)) (hd:(x == ("__debug__":Str))=false:=by decide)
  (hcd:(x == ("__classdict__":Str))=false:=by decide):PE X (.Name x pos) (fb i):=j9 hN hv hd hcd
end
def bw (H H':Hp):Prop:=∀ b o,H b=some o→H' b=some o
def cM (env:Env):List (Str×NameKind)→List (Str×Addr)→List (Str×Addr)
 | [],acc=>acc
 | (n,k) :: r,acc=>cM env r (if k == .free then (n,(env.cells.lookup n).getD 0) :: acc else acc)
theorem cV (h:∀ y∈scope.names,y.2=.free→∃ c,env.cells.lookup y.1=some c):closureFor scope env=pure (cM env scope.names []):=by
 have all:∀ (l:List (Str×NameKind)) (acc:List (Str×Addr)),(∀ y∈l,y.2=.free→∃ c,env.cells.lookup y.1=some c) →
   (forIn l acc fun (x:Str×NameKind) (r:List (Str×Addr))=>match x with
    | (name,kind)=>if (kind == NameKind.free)=true then (do let a ← cellOf env name;pure (ForInStep.yield ((name,a) :: r))) else pure (ForInStep.yield r):Sem (List (Str×Addr)))=pure (cM env l acc):=by
  intro l
  induction l with
  | nil=>intro acc _;rfl
  | cons y r ih=>
   intro acc hl
   obtain ⟨n,k⟩:=y
   have hr:∀ y∈r,y.2=.free→∃ c,env.cells.lookup y.1=some c:=fun y hy=>hl y (List.mem_cons_of_mem _ hy)
   rw [List.forIn_cons]
   by_cases hk:k=.free
   ·subst hk
    obtain ⟨c,hc⟩:=hl _ List.mem_cons_self rfl
    have e:cellOf env n=pure c:=by unfold cellOf;rw [show env.cells.lookup n=some c from hc]
    simp only [beq_self_eq_true,if_true,e,pure_bind]
    rw [ih _ hr]
    simp only [cM,beq_self_eq_true,if_true,show env.cells.lookup n=some c from hc,Option.getD_some]
   ·have hb:(k == NameKind.free)=false:=by simpa using hk
    simp only [hb,Bool.false_eq_true,if_false,pure_bind]
    rw [ih _ hr]
    simp only [cM,hb,Bool.false_eq_true,if_false]
 have q:=all scope.names [] h
 unfold closureFor
 simp only [bind_pure] at q ⊢
 exact q
theorem gw:∀ {l:List (Str×NameKind)} {acc:List (Str×Addr)} {x:Str} {c:Addr},(∀ y∈l,y.2=.free→∃ c,env.cells.lookup y.1=some c) →
  (∀ x c,(x,c)∈acc→env.cells.lookup x=some c)→(x,c)∈cM env l acc→env.cells.lookup x=some c
 | [],_,_,_,_,ha,h=>ha _ _ h
 | (n,k) :: r,acc,x,c,hl,ha,h=>by
  refine gw (l:=r) (fun y hy=>hl y (List.mem_cons_of_mem _ hy)) (fun x c hm=>?_) h
  by_cases hk:(k == NameKind.free)=true
  ·rw [if_pos hk] at hm
   rcases List.mem_cons.mp hm with e | e
   ·cases e
    obtain ⟨c',hc⟩:=hl _ List.mem_cons_self (by simpa using hk)
    have hc':env.cells.lookup n=some c':=hc
    rw [hc'];rfl
   ·exact ha _ _ e
  ·rw [if_neg hk] at hm;exact ha _ _ hm
theorem bE (hl:∀ y∈l,y.2=.free→∃ c,env.cells.lookup y.1=some c) (h:(cM env l []).lookup x=some c):env.cells.lookup x=some c:=
 gw hl (fun _ _ z=>absurd z (by simp)) (PySem.mem_of_lookup h)
theorem eD:∀ {l:List (Str×NameKind)} {acc:List (Str×Addr)} {x:Str},((x,NameKind.free)∈l∨∃ c,(x,c)∈acc)→∃ c,(x,c)∈cM env l acc
 | [],_,_,h=>h.elim (fun z=>absurd z (by simp)) fun z=>z
 | (n,k) :: r,acc,x,h=>by
  refine eD (l:=r) ?_
  rcases h with h | ⟨c,h⟩
  ·rcases List.mem_cons.mp h with e | e
   ·cases e
    exact .inr ⟨_,by rw [if_pos (by simp)];exact List.mem_cons_self⟩
   ·exact .inl e
  ·by_cases hk:(k == NameKind.free)=true
   ·exact .inr ⟨c,by rw [if_pos hk];exact List.mem_cons_of_mem _ h⟩
   ·exact .inr ⟨c,by rw [if_neg hk];exact h⟩
theorem bK:∀ {l:List (Str×β)} {x:Str} {c:β},(x,c)∈l→∃ c',l.lookup x=some c'
 | [],_,_,h=>nomatch h
 | (n,d) :: r,x,c,h=>by
  rw [List.lookup_cons]
  cases e:x == n with
  | true=>exact ⟨d,rfl⟩
  | false=>
   rcases List.mem_cons.mp h with q | q
   ·cases q;simp at e
   ·exact bK q
def aV (X:Cx) (scope:Scope) (N:List Str) (C:Addr) (s:Shared) (H:Hp) (fp:List Addr):Cx:=
 { X with N:=N,s₀:=s,H₀:=H,env:=compEnvC scope (cM X.env scope.names []) C X.env,outer:=X.stack,ex:=fp,fn:=fun _=>false,pn:=[],xe:=fun _ _=>False }
structure bV (esc scope:Scope) (EN N:List Str) (k:Nat):Prop where
 kind:scope.kind=.function
 nocell:∀ y∈scope.names,y.2≠.cell
 names:∀ y∈scope.names,y.2=.local→scope.names.lookup y.1=some .local
 frees:∀ y∈scope.names,y.2=.free→esc.names.lookup y.1=some .cell∨esc.names.lookup y.1=some .free
 len:N.length=k+EN.length
 nm:(((N.drop k).zip EN).all fun p=>(decide (p.1=p.2) && decide (scope.names.lookup p.1=some .free)) || decide (scope.names.lookup p.1=none))=true
theorem aX {scope:Scope} {env:Env} {x:Str} {k:NameKind}:∀ {l:List (Str×NameKind)},
  (l.map fun (n,k)=>if (k == NameKind.free && env.scope.kind == .function && env.kindOf n == some .cell) then (n,NameKind.cell) else (n,k)).lookup x=some k →
  l.lookup x=some k∨(l.lookup x=some .free∧k=.cell∧env.kindOf x=some .cell)
 | [],h=>by simp at h
 | (n,k') :: r,h=>by
  have ih:=@aX scope env x k r
  cases hx:x == n with
  | true=>
   have e:x=n:=by simpa using hx
   subst e
   by_cases hc:(k' == NameKind.free && env.scope.kind == .function && env.kindOf x == some .cell)=true
   ·simp only [List.map_cons,if_pos hc,List.lookup_cons,hx] at h
    cases h
    have hc2:(k'=.free∧env.scope.kind=.function)∧env.kindOf x=some .cell:=by simpa using hc
    exact .inr ⟨by simp [List.lookup_cons,hc2.1.1],rfl,hc2.2⟩
   ·simp only [List.map_cons,if_neg hc,List.lookup_cons,hx] at h
    exact .inl (by simpa [List.lookup_cons] using h)
  | false=>
   have h':(r.map fun (n,k)=>if (k == NameKind.free && env.scope.kind == .function && env.kindOf n == some .cell) then (n,NameKind.cell) else (n,k)).lookup x=some k:=by
    by_cases hc:(k' == NameKind.free && env.scope.kind == .function && env.kindOf n == some .cell)=true
    ·simpa only [List.map_cons,if_pos hc,List.lookup_cons,hx] using h
    ·simpa only [List.map_cons,if_neg hc,List.lookup_cons,hx] using h
   rw [List.lookup_cons,hx]
   exact ih h'
theorem dM {scope:Scope} {env:Env} {x:Str}:∀ {l:List (Str×NameKind)},l.lookup x=some .free →
  (l.map fun (n,k)=>if (k == NameKind.free && env.scope.kind == .function && env.kindOf n == some .cell) then (n,NameKind.cell) else (n,k)).lookup x=some .cell ∨
  (l.map fun (n,k)=>if (k == NameKind.free && env.scope.kind == .function && env.kindOf n == some .cell) then (n,NameKind.cell) else (n,k)).lookup x=some .free
 | [],h=>by simp at h
 | (n,k') :: r,h=>by
  have ih:=@dM scope env x r
  cases hx:x == n with
  | true=>
   by_cases hc:(k' == NameKind.free && env.scope.kind == .function && env.kindOf n == some .cell)=true
   ·exact .inl (by simp only [List.map_cons,if_pos hc,List.lookup_cons,hx])
   ·refine .inr ?_
    simp only [List.map_cons,if_neg hc,List.lookup_cons,hx]
    simpa only [List.lookup_cons,hx] using h
  | false=>
   have h':r.lookup x=some .free:=by simpa only [List.lookup_cons,hx] using h
   by_cases hc:(k' == NameKind.free && env.scope.kind == .function && env.kindOf n == some .cell)=true
   ·simpa only [List.map_cons,if_pos hc,List.lookup_cons,hx] using ih h'
   ·simpa only [List.map_cons,if_neg hc,List.lookup_cons,hx] using ih h'
section
variable {X:Cx} {pins:List (Addr×Obj)} {σ:St} {H:Hp} {s:Shared} {scope:Scope} {N:List Str} {k:Nat} {fp:List Addr}
theorem bV.cells (S:bV X.env.scope scope X.N N k) (ok:X.Ok):∀ y∈scope.names,y.2=.free→∃ c,X.env.cells.lookup y.1=some c:=fun y hy hf=>ok.has y.1 (S.frees y hy hf)
theorem Inv.mG {h4:Heap} (I:Inv X pins σ H s) (S:bV X.env.scope scope X.N N k) (hf:∀ b∈fp,cA X pins H b) (hlt:∀ b∈fp,b < s.heap.objs.size) (hn:h4.Ns s.heap.objs.size fun _=>none) (hk:∀ b o,s.heap.get? b=some o→h4.get? b=some o) :
  Inv (aV X scope N s.heap.objs.size s H fp) [] (List.replicate k none++σ) H { s with heap:=h4,toks:=tk }:=by
 have hcells:=S.cells I.ok
 have noA:∀ p:Addr×Obj,p∈(aV X scope N s.heap.objs.size s H fp).pn++[]→False:=fun p hp=>absurd (show p∈([]:List (Addr×Obj)) from hp) (by simp)
 refine ⟨⟨I.ok.mod,S.kind,I.ok.glob,I.ok.blt,Nat.le_refl _,fun y z c h1 h2=>?_,fun y hy=>?_,fun y c h=>?_,I.ok.hd,I.ok.frames,.inl rfl,fun b hb=>?_,I.bs,Nat.le_trans I.ok.bsz I.sz,fun b o e hb=>?_,fun b hb hz=>?_,I.stack,I.iE⟩,
  rfl,I.bare,Un.kept hk,⟨_,hn,fun i y v h1 h2 h3=>?_⟩,fun y c h=>?_,I.hok.fresh (Nat.le_refl _),fun y c h=>?_,fun p hp=>(noA p hp).elim,I.hok.kept hk,?_⟩
 ·exact I.ok.inj y z c (bE hcells h1) (bE hcells h2)
 ·have hy:(relabel scope X.env).names.lookup y=some .cell∨(relabel scope X.env).names.lookup y=some .free:=hy
  have hfree:scope.names.lookup y=some .free:=by
   rcases hy with q | q
   ·rcases aX (scope:=scope) q with q | ⟨q,_⟩
    ·exact absurd rfl (S.nocell _ (PySem.mem_of_lookup q))
    ·exact q
   ·rcases aX (scope:=scope) q with q | ⟨q,z,_⟩
    ·exact q
    ·cases z
  obtain ⟨c,hc⟩:=eD (env:=X.env) (l:=scope.names) (acc:=[]) (.inl (PySem.mem_of_lookup hfree))
  exact bK hc
 ·exact absurd h (by show ¬(false=true);decide)
 ·obtain ⟨f0,f1,f2,f3,f4,f5⟩:=hf b hb
  exact ⟨Nat.ne_of_lt (hlt b hb),fun x c h=>f4 x c (bE hcells h)⟩
 ·obtain ⟨f0,f1,f2,f3,f4,f5⟩:=hf b hb
  rcases f3 with q | q
  ·exact I.ok.noex b o e q
  ·exact absurd (Nat.lt_of_lt_of_le (Heap.lt_size (I.ok.bs b o e).1) q) (Nat.lt_irrefl _)
 ·obtain ⟨f0,f1,f2,f3,f4,f5⟩:=hf b hb
  rcases List.mem_cons.mp (I.eO b hz) with z | z
  ·exact f1 z
  ·exact f2 z
 ·
  have hi:k≤i:=by
   refine Nat.le_of_not_lt fun q=>?_
   rw [List.getElem?_append_left (by simpa using q),List.getElem?_replicate] at h2
   split at h2<;>cases h2
  obtain ⟨j,rfl⟩:=Nat.exists_eq_add_of_le hi
  have h2':σ[j]?=some (some v):=by
   rw [List.getElem?_append_right (by simp)] at h2
   simpa using h2
  have hy:(relabel scope X.env).names.lookup y=some .local∨(relabel scope X.env).names.lookup y=some .cell∨(relabel scope X.env).names.lookup y=some .free:=h3
  have hjn:j < X.N.length:=by
   have:=(List.getElem?_eq_some_iff.mp h2').1
   rw [I.len] at this
   exact this
  have hyn:N[k+j]?=some y:=h1
  have hnm:=List.all_eq_true.mp S.nm (y,X.N[j]) (by
   refine List.mem_iff_getElem?.mpr ⟨j,?_⟩
   rw [List.getElem?_zip_eq_some]
   exact ⟨by rw [List.getElem?_drop];exact hyn,by simp [hjn]⟩)
  have hvis:scope.names.lookup y≠none:=by
   rcases hy with q | q | q
   ·rcases aX (scope:=scope) q with q | ⟨q,_⟩<;>rw [q]<;>simp
   ·rcases aX (scope:=scope) q with q | ⟨q,_⟩<;>rw [q]<;>simp
   ·rcases aX (scope:=scope) q with q | ⟨q,_⟩<;>rw [q]<;>simp
  have hnm2:y=X.N[j]∧scope.names.lookup y=some .free:=by
   rcases (Bool.or_eq_true _ _).mp hnm with q | q
   ·exact ⟨of_decide_eq_true ((Bool.and_eq_true _ _).mp q).1,of_decide_eq_true ((Bool.and_eq_true _ _).mp q).2⟩
   ·exact absurd (of_decide_eq_true q) hvis
  obtain ⟨hyj,hfree⟩:=hnm2
  have hk2:=S.frees _ (PySem.mem_of_lookup hfree) rfl
  have hvis2:Vis X.env.scope y:=.inr hk2
  obtain ⟨m,hm,hl⟩:=I.loc
  obtain ⟨u,ru,lk⟩:=hl j y v (by rw [hyj];simp [hjn]) h2' hvis2
  refine ⟨u,ru,?_⟩
  rcases lk with ⟨q,_⟩ | ⟨_,c,hc,hcell⟩
  ·rcases hk2 with z | z
   ·exact absurd (q.symm.trans (show X.env.kindOf y=some .cell from z)) (by simp)
   ·exact absurd (q.symm.trans (show X.env.kindOf y=some .free from z)) (by simp)
  ·refine .inr ⟨dM (scope:=scope) hfree,c,?_,hcell.keeps hk⟩
   obtain ⟨c',hc'⟩:=eD (env:=X.env) (l:=scope.names) (acc:=[]) (.inl (PySem.mem_of_lookup hfree))
   obtain ⟨c2,hc2⟩:=bK hc'
   have q:=bE hcells hc2
   rw [hc] at q;cases q
   exact hc2
 ·obtain ⟨v,q⟩:=I.cell y c (bE hcells h)
  exact ⟨v,q.keeps hk⟩
 ·exact I.freeC y c (bE hcells h)
 ·show (List.replicate k none++σ).length=N.length
  rw [List.length_append,List.length_replicate,S.len,I.len]
end
section
variable {prog:Program} {w:World} {A:Around} {R:Result→Shared→Prop} {s:Shared}
theorem cI {R:Value→Shared→Prop}:∀ (x:Value) (s':Shared),False→notedBy (model prog w) A env R x s':=fun _ _ h=>h.elim
theorem gK (I:Nat→Shared→Prop)
  (turn:∀ n s,I n s→wpAny (model prog w) A (pyNext it) (fun r s₁=>match r with
   | none=>R (.ok .next) s₁
   | some v=>wpAny (model prog w) A (letOwnedTupleGo target it v) (fun _ s₁'=>wpAny (model prog w) A (assign target env v) (fun _ s₂=>
     wpAny (model prog w) A (forIn ifs true fun c r=>if r=true then do let ok ← isTrue c env (eval c env);pure (ForInStep.yield ok) else pure (ForInStep.yield r)) (fun ok s₃=>
      if ok=true then wpAny (model prog w) A (eval elt env) (fun x s₄=>
       wpAny (model prog w) A (call (.builtin "list.append") [acc,x]) (fun _ s₅=>∃ m,m < n∧I m s₅) (fun _ _=>False) s₄) (fun _ _=>False) s₃
      else ∃ m,m < n∧I m s₃) (fun _ _=>False) s₂) (fun _ _=>False) s₁') (fun _ _=>False) s₁) (fun _ _=>False) s)
  (n:Nat) (h:I n s) :
  codeAny (model prog w) A (.compLoop (.ListComp elt [⟨target,iter,ifs,0⟩] scope pos) 0 it acc env) R s:=by
 refine codeAny_loop rfl I (fun n s hI=>?_) n h
 show wpAny _ A ((compTurn (.ListComp elt [⟨target,iter,ifs,0⟩] scope pos) 0 it acc env).onRaise (fun x=>do noteFrame x env;theTreesLotGoes x)) _ _ s
 refine wpAny_noted ?_
 rw [compTurn_list]
 refine wpAny_bind (wpAny_standAt (wpAny_bind (wpAny_mono (turn n s hI) (fun r s₁ h₁=>?_) cI)))
 cases r with
 | none=>exact wpAny_pure h₁
 | some v=>
  refine wpAny_bind (wpAny_mono h₁ (fun _ s₁' h₁'=>?_) cI)
  refine wpAny_bind (wpAny_mono h₁' (fun _ s₂ h₂=>wpAny_bind (wpAny_mono h₂ (fun ok s₃ h₃=>?_) cI)) cI)
  cases ok with
  | false=>exact wpAny_pure ⟨rfl,h₃⟩
  | true=>
   exact wpAny_bind (wpAny_bind (wpAny_mono h₃ (fun x s₄ h₄=>wpAny_bind (wpAny_mono h₄ (fun _ s₅ h₅=>wpAny_pure (wpAny_pure ⟨rfl,h₅⟩)) cI)) cI))
end
def PTs (X:Cx) (ifs:List Expr) (t:TT):Prop:=
 ∀ (pins:List (Addr×Obj)) (s:Shared) (σ:St) (H:Hp) (Q:Bool→Hp→Prop),Inv X pins σ H s→t σ H Q →
  wpAny (model X.prog X.w) X.A (forIn ifs true fun c r=>if r=true then do let ok ← isTrue c X.env (eval c X.env);pure (ForInStep.yield ok) else pure (ForInStep.yield r)) (TP X pins σ Q) X.xe s
def vz:TT:=fun _ H Q=>Q true H
theorem m5:PTs X [] vz:=fun _ _ _ H _ I h=>wpAny_tests_nil ⟨H,I,h⟩
theorem mQ (h:PT X c t):PTs X [c] t:=fun pins s σ H Q I q=>wpAny_tests_one (h pins s σ H Q I q)
def LCW (J:It) (g:TG) (tt:TT) (te:TE) (k:Nat) (D:Addr) (σ:St) (H1:Hp) (Q:Hp→Prop):Prop:=
 ∃ W:Nat→Nat→St→Hp→Prop,(∃ m,W 0 m (List.replicate k none++σ) (upd H1 D (.lst [])))∧∀ i m σ' H',W i m σ' H' →
  (J.stop i H'∧Q H')∨(J.go i H'∧∃ N:St→Hp→Prop,(∀ σ2 H2,N σ2 H2→∃ m',m' < m∧W (i+1) m' σ2 H2) ∧
   ∀ x H2,J.yld i H' x H2→g x σ' H2 fun σ3 H3=>tt σ3 H3 fun b H4=>if b=true then te σ3 H4 fun v H5=>∃ xs,H5 D=some (.lst xs)∧xs.length < sizeLine∧N σ3 (upd H5 D (.lst (xs++[v]))) else N σ3 H4)
def tLC (wi:TI) (g:TG) (tt:TT) (te:TE) (k:Nat):TE:=fun σ H Q=>wi σ H fun J H1=>∀ D,H1 D=none→LCW J g tt te k D σ H1 fun H2=>Q (.ref D) H2
section
variable {X:Cx} {tg elt iter:Expr} {ifs:List Expr} {scope:Scope} {pos:Pos} {wi:TI} {g:TG} {tt:TT} {te:TE} {N:List Str} {k:Nat}
theorem gC {pins:List (Addr×Obj)} {σ:St} {H2:Hp} {s2:Shared} {it:Addr} {fp:List Addr} {tn:Nat→Heap→Prop} {J:It} {E:Value→Shared→Prop} {QD:Addr→Hp→Prop} {RR:Value→Addr→Result→Shared→Prop}
  (hc:X.calm=true) (S:bV X.env.scope scope X.N N k) (hg:∀ C s H fp,PG (aV X scope N C s H fp) tg g) (ht:∀ C s H fp,PTs (aV X scope N C s H fp) ifs tt) (he:∀ C s H fp,PE (aV X scope N C s H fp) elt te)
  (I2:Inv X pins σ H2 s2) (T:Turn X.prog X.w X.K tg J fp it tn) (st2:tn 0 s2.heap) (f2:∀ b∈fp,cA X pins H2 b) (q:∀ D,H2 D=none→LCW J g tt te k D σ H2 (QD D))
  (hRR:∀ (D C:Addr) (s':Shared) (H':Hp) (m:Str→Option Value),s2.heap.objs.size < C→Inv X pins σ H' s'→s'.heap.Ns C m→H' C=none→C≠X.env.locals→C∉X.fs→X.s₀.heap.objs.size≤C→(∀ x c,X.env.cells.lookup x=some c→c≠C)→(∀ p∈X.pn++pins,p.1≠C)→QD D H'→RR (.ref D) C (.ok .next) s') :
  wpAny (model X.prog X.w) X.A (newList []) (fun acc s₃=>wpAny (model X.prog X.w) X.A (newFunctionEnv scope X.env.globals (cM X.env scope.names []) [] X.env.qual none .none (some X.env)) (fun cenv s₄=>
   codeAny (model X.prog X.w) X.A (.compStart (.ListComp elt [⟨tg,iter,ifs,0⟩] scope pos) 0 (.ref it) acc { cenv with scope:=relabel scope X.env }) (RR acc cenv.locals) s₄) E s₃) E s2:=by
 have hD:H2 s2.heap.objs.size=none:=I2.hok.fresh (Nat.le_refl _)
 obtain ⟨W,⟨m0,w0⟩,turn⟩:=q _ hD
 refine wpAny_newObj_type ?_
 have I3:Inv X pins σ (upd H2 s2.heap.objs.size (.lst [])) { s2 with heap:=s2.heap.push { cls:=.type "list",dict:=none,data:=.seq ([]:List Value).toArray } }:=by
  refine I2.laid (t':=s2.toks) (fun b u e=>Heap.get?_push_of_some _ e) (Nat.le_refl _) ?_
  exact ⟨Nat.zero_le _,[],0,.nil,Heap.get?_push_size _ rfl⟩
 have k3:∀ b o,s2.heap.get? b=some o→(s2.heap.push { cls:=.type "list",dict:=none,data:=.seq ([]:List Value).toArray }).get? b=some o:=fun b o e=>Heap.get?_push_of_some _ e
 generalize hs3:({ s2 with heap:=s2.heap.push { cls:=.type "list",dict:=none,data:=.seq ([]:List Value).toArray } }:Shared)=s3 at I3 ⊢
 have hsz:s3.heap.objs.size=s2.heap.objs.size+1:=by rw [← hs3];exact Heap.size_push ..
 have k3':∀ b o,s2.heap.get? b=some o→s3.heap.get? b=some o:=by rw [← hs3];exact k3
 generalize hDe:s2.heap.objs.size=D at *
 have fpD:∀ b∈fp,b < D:=fun b hb=>by
  obtain ⟨o,e,_⟩:=T.obj _ _ st2 b hb
  rw [← hDe];exact Heap.lt_size e
 have f3:∀ b∈fp,cA X pins (upd H2 D (.lst [])) b:=fun b hb=>by
  refine ⟨?_,(f2 b hb).2⟩
  rw [ak (Nat.ne_of_lt (fpD b hb))]
  exact (f2 b hb).1
 refine wpAny_newFunctionEnv S.nocell (by intro y hy;simp at hy) (fun h4 hn4 hs4=>?_) S.kind
 try dsimp only at hn4 hs4 ⊢
 have k4:∀ b o,s3.heap.get? b=some o→h4.get? b=some o:=fun b o e=>hs4.extBut b o (Nat.ne_of_lt (Heap.lt_size e)) (Heap.get?_push_of_some _ e)
 have I4:=I3.mG (h4:=h4) (tk:=s3.toks+0) S f3 (fun b hb=>by rw [hsz];exact Nat.lt_succ_of_lt (fpD b hb)) hn4 k4
 have st4:tn 0 h4:=T.keep _ _ _ st2 fun b hb o e=>k4 b o (k3' b o e)
 have fr4:∀ b∈fp,(upd H2 D (.lst [])) b=none:=fun b hb=>(f3 b hb).1
 generalize hC:s3.heap.objs.size=C at *
 have hX:∀ (H':Hp),(∀ b∈fp,H' b=none)→∀ b∈fp,cA (aV X scope N C s3 (upd H2 D (.lst [])) fp) [] H' b:=fun H' hn b hb=>by
  obtain ⟨g0,g1,g2,g3,g4,g5⟩:=f3 b hb
  refine ⟨hn b hb,?_,?_,.inl hb,?_,fun p hp=>absurd (show p∈([]:List (Addr×Obj)) from hp) (by simp)⟩
  ·exact Nat.ne_of_lt (Nat.lt_of_lt_of_eq (Nat.lt_succ_of_lt (fpD b hb)) hsz.symm)
  ·intro z
   rcases List.mem_cons.mp (I3.eO b z) with z | z
   ·exact g1 z
   ·exact g2 z
  ·intro x c h
   exact g4 x c (bE (S.cells I3.ok) h)
 have fin:∀ (s':Shared) (σ':St) (H':Hp),Inv (aV X scope N C s3 (upd H2 D (.lst [])) fp) [] σ' H' s'→QD D H'→RR (.ref D) C (.ok .next) s':=by
  intro s' σ' H' I' qd
  obtain ⟨m,hm,_⟩:=id I'.loc
  have IX:Inv X pins σ H' s':=by
   refine I3.sX (s':=s') (ch:=fp) I'.os I'.base I'.hok I'.bare fun b hb=>?_
   obtain ⟨g0,g1,g2,g3,g4,g5⟩:=f3 b hb
   exact ⟨g3,g1,g4,g5⟩
  have hlt:=I3.lt
  rw [hC] at hlt
  refine hRR D C s' H' m (Nat.lt_of_lt_of_eq (Nat.lt_succ_self D) hsz.symm) IX hm I'.free (Nat.ne_of_gt hlt) (I3.pQ (Nat.le_of_eq hC)) (Nat.le_trans I3.sz (Nat.le_of_eq hC)) (fun x c e z=>?_) (fun p hp z=>?_) qd
  ·obtain ⟨v,hv⟩:=I3.cell x c e
   have q:=hv.lt
   rw [hC,z] at q
   exact Nat.lt_irrefl _ q
  ·have q:=Heap.lt_size (I3.pin p hp).1
   rw [hC,z] at q
   exact Nat.lt_irrefl _ q
 have loop:∀ s₀:Shared,s₀={ s3 with heap:=h4,toks:=s3.toks+([]:List (Str×Value)).length } →
   codeAny (model X.prog X.w) X.A (.compLoop (.ListComp elt [⟨tg,iter,ifs,0⟩] scope pos) 0 (.ref it) (.ref D) (compEnvC scope (cM X.env scope.names []) C X.env)) (RR (.ref D) C) s₀:=by
  rintro s₀ rfl
  refine gK (fun n s'=>∃ i σ' H',Inv (aV X scope N C s3 (upd H2 D (.lst [])) fp) [] σ' H' s'∧tn i s'.heap∧(∀ b∈fp,H' b=none)∧W i n σ' H') ?_ m0 ⟨0,_,_,I4,st4,fr4,w0⟩
  rintro n s5 ⟨i,σ5,H5,I5,st5,fr5,w5⟩
  rcases turn i n σ5 H5 w5 with ⟨stop,qn⟩ | ⟨go,NN,hN,step⟩
  ·refine thn (T.done (aV X scope N C s3 (upd H2 D (.lst [])) fp) rfl rfl rfl hc i [] s5 σ5 H5 _ I5 (hX _ fr5) st5 stop) fun r s6 ⟨hr,I6⟩=>?_
   subst hr
   exact fin s6 σ5 H5 I6 qn
  ·refine thn (T.item (aV X scope N C s3 (upd H2 D (.lst [])) fp) rfl rfl rfl hc i [] s5 σ5 H5 _ I5 (hX _ fr5) st5 go) fun r s6 ⟨u,hr,h6⟩=>?_
   subst hr
   refine thn h6 fun _ s7 ⟨x,H7,I7,r7,y7,st7,fr7⟩=>?_
   have I7':=I7.pinned (hX _ fr7) (T.obj _ _ st7)
   have back:∀ {s9:Shared} {σ9:St} {H9:Hp},Inv (aV X scope N C s3 (upd H2 D (.lst [])) fp) ([]++dF fp s7.heap) σ9 H9 s9→NN σ9 H9→∃ m,m < n∧∃ i σ' H',Inv (aV X scope N C s3 (upd H2 D (.lst [])) fp) [] σ' H' s9∧tn i s9.heap∧(∀ b∈fp,H' b=none)∧W i m σ' H':=fun {s9 σ9 H9} I9 n9=>by
    obtain ⟨m',hm,w9⟩:=hN σ9 H9 n9
    refine ⟨m',hm,i+1,σ9,H9,I9.cL,T.keep _ _ _ st7 fun b hb o e=>(I9.pin (b,o) (List.mem_append_right _ (List.mem_append_right _ (cD hb e)))).1,fun b hb=>?_,w9⟩
    obtain ⟨o,e,d⟩:=T.obj _ _ st7 b hb
    exact (I9.pin (b,o) (List.mem_append_right _ (List.mem_append_right _ (cD hb e)))).2.1
   refine thn (hg C s3 _ fp _ s7 σ5 H7 x u _ I7' r7 (step x H7 y7)) fun _ s8 ⟨σ8,H8,I8,q8⟩=>?_
   refine thn (ht C s3 _ fp _ s8 σ8 H8 _ I8 q8) fun ok s9 ⟨H9,I9,q9⟩=>?_
   cases ok with
   | false=>
    rw [if_neg Bool.false_ne_true] at q9
    rw [if_neg Bool.false_ne_true]
    exact back I9 q9
   | true=>
    rw [if_pos rfl] at q9
    rw [if_pos rfl]
    refine thn (he C s3 _ fp _ s9 σ8 H9 _ I9 q9) fun y s10 ⟨v,H10,I10,r10,q10⟩=>?_
    obtain ⟨xs,hD10,hz,qN⟩:=q10
    refine thn (jq (X:=aV X scope N C s3 (upd H2 D (.lst [])) fp) _ s10 σ8 H10 (.ref D) [v] (.ref D) [y] (fun _ H'=>NN σ8 H') I10 rfl (.cons r10 .nil) ⟨D,xs,v,rfl,rfl,hD10,hz,qN⟩) fun _ s11 ⟨_,H11,I11,_,q11⟩=>?_
    exact back I11 q11
 exact codeAny_compStart_list (loop _ rfl) (T.self _ 0 _ _ _ st4 (loop _ rfl))
theorem ug (hc:X.calm=true) (S:bV esc scope EN N k) (h1:X.env.scope=esc) (h2:X.N=EN) (hi:PI X tg iter wi) (hg:∀ C s H fp,PG (aV X scope N C s H fp) tg g) (ht:∀ C s H fp,PTs (aV X scope N C s H fp) ifs tt) (he:∀ C s H fp,PE (aV X scope N C s H fp) elt te)
  (hs:∀ x,foldedSetIterable iter X.env x=pure x:=by intro _;rfl):PE X (.ListComp elt [⟨tg,iter,ifs,0⟩] scope pos) (tLC wi g tt te k):=by
 subst h1 h2
 intro pins s σ H Q I h
 rw [eval_ListComp]
 refine wpAny_comprehension_free (use:=none) rfl hs (cV (S.cells I.ok)) S.kind S.names (thn (hi pins s σ H _ I h) fun v s1 h1=>thn h1 fun itv s2 h2=>?_)
 obtain ⟨it,fp,tn,J,H2,e,I2,T,st2,f2,q⟩:=h2
 subst e
 refine gC (RR:=fun acc C=>compPost (model X.prog X.w) X.A X.xe none (EP X pins σ Q) acc C) hc S hg ht he I2 T st2 f2 q ?_
 intro D C s' H' m hC IX hm hn hL hF hS hcell hp qd
 refine ⟨m,hm,fun h' sb=>?_⟩
 exact ⟨.ref D,H',IX.turned (t':=s'.toks) (fun b o hb e=>sb.extBut b o hb e) hn hL (.inr hS) hcell hp,rfl,qd⟩
def sLC (wi:TI) (g:TG) (tt:TT) (te:TE) (k i:Nat):TS:=fun D σ H=>tLC wi g tt te k σ H fun v H1=>D.nx (σ.set i (some v)) H1
theorem rW (hN:X.N.Nodup) (hi':X.N[i]?=some y) (hy:Loc X.env.scope y) (hc:X.calm=true) (S:bV esc scope EN N k) (h1:X.env.scope=esc) (h2:X.N=EN) (hi:PI X tg iter wi) (hg:∀ C s H fp,PG (aV X scope N C s H fp) tg g) (ht:∀ C s H fp,PTs (aV X scope N C s H fp) ifs tt) (he:∀ C s H fp,PE (aV X scope N C s H fp) elt te)
  (hsw:swapsWith (.ListComp elt [⟨tg,iter,ifs,0⟩] scope pos) (some (.Name y py)) spos.line X.env=pure true:=by rfl)
  (hs:∀ x,foldedSetIterable iter X.env x=pure x:=by intro _;rfl) (hf:X.fn y=true∨X.env.scope.names.lookup y=some .local:=by first | exact .inl rfl | exact .inr rfl | assumption) :
  PS X (.Assign [.Name y py] (.ListComp elt [⟨tg,iter,ifs,0⟩] scope pos) spos) (sLC wi g tt te k i):=by
 subst h1 h2
 intro pins s σ H D0 I h
 rw [exec_Assign_Name_used _ _ _ _ hsw]
 refine wpAny_bind (wpAny_standAt (wpAny_bind ?_))
 show wpAny _ X.A (do let _ ← comprehension (.ListComp elt [⟨tg,iter,ifs,0⟩] scope pos) scope X.env _ (newList []) false (eval iter X.env) (some (assign (.Name y py) X.env))) _ _ s
 refine wpAny_bind (wpAny_mono (wpAny_comprehension_free (use:=some (assign (.Name y py) X.env)) (Q:=fun _ s'=>SP X pins D0 .next s') rfl hs (cV (S.cells I.ok)) S.kind S.names
  (thn (hi pins s σ H _ I h) fun v s1 h1=>thn h1 fun itv s2 h2=>?_)) (fun _ s' hq=>wpAny_pure (wpAny_pure hq)) fun _ _ e=>e)
 obtain ⟨it,fp,tn,J,H2,e,I2,T,st2,f2,q⟩:=h2
 subst e
 refine gC (RR:=fun acc C=>compPost (model X.prog X.w) X.A X.xe (some (assign (.Name y py) X.env)) (fun _ s'=>SP X pins D0 .next s') acc C) hc S hg ht he I2 T st2 f2 q ?_
 intro D C s' H' m hC IX hm hn hL hF hS hcell hp qd
 show wpAny _ X.A (assign (.Name y py) X.env (.ref D)) _ _ _
 obtain ⟨o,es,ep,ho,hd,hr⟩:=id hm
 have IP:Inv X (pins++[(C,o)]) σ H' s':=IX.fB fun p hp=>by
  rcases List.mem_append.mp hp with z | z
  ·exact IX.pin p (List.mem_append_right _ z)
  ·obtain rfl:p=(C,o):=List.mem_singleton.mp z
   exact ⟨ho,hn,hL,hF,fun v z=>by rw [hd] at z;cases z⟩
 refine wpAny_assign_Name (eE IP hN hi' hy (v:=.ref D) (u:=.ref D) rfl (fun s'' I''=>?_) hf)
 have hC2:=(I''.pin (C,o) (List.mem_append_right _ (List.mem_append_right _ (List.mem_singleton.mpr rfl)))).1
 refine ⟨m,⟨o,es,ep,hC2,hd,hr⟩,fun h' sb=>?_⟩
 exact ⟨_,H',(I''.cL).turned (t':=s''.toks) (fun b o hb e=>sb.extBut b o hb e) hn hL (.inr hS) hcell hp,qd⟩
end
inductive D where
 | non | bl (b:Bool) | int (i:Int) | str (x:Str) | tup (xs:List D) | lst (xs:List D)
mutual
def D.eqv:D→D→Bool
 | .non,.non=>true
 | .bl a,.bl b=>a == b
 | .bl a,.int b=>(if a then 1 else 0) == b
 | .int a,.bl b=>a == (if b then 1 else 0)
 | .int a,.int b=>a == b
 | .str a,.str b=>a == b
 | .tup xs,.tup ys=>D.bH xs ys
 | .lst xs,.lst ys=>D.bH xs ys
 | _,_=>false
def D.bH:List D→List D→Bool
 | [],[]=>true
 | x :: xs,y :: ys=>D.eqv x y && D.bH xs ys
 | _,_=>false
end
mutual
theorem D.eqv_refl:∀ d:D,D.eqv d d=true
 | .non=>rfl
 | .bl a=>by simp [D.eqv]
 | .int a=>by simp [D.eqv]
 | .str a=>by simp [D.eqv]
 | .tup xs=>by simp only [D.eqv];exact D.dJ xs
 | .lst xs=>by simp only [D.eqv];exact D.dJ xs
theorem D.dJ:∀ ds:List D,D.bH ds ds=true
 | []=>rfl
 | d :: ds=>by simp only [D.bH,D.eqv_refl d,D.dJ ds,Bool.and_self]
end
mutual
def D.depth:D→Nat
 | .tup xs=>D.bG xs+1
 | .lst xs=>D.bG xs+1
 | _=>0
def D.bG:List D→Nat
 | []=>0
 | x :: xs=>max (D.depth x) (D.bG xs)
end
mutual
inductive Rep (H:Hp):V→D→Prop
 | non:Rep H .non .non
 | bl (b:Bool):Rep H (.bl b) (.bl b)
 | int (i:Int):Rep H (.int i) (.int i)
 | str (x:Str):Rep H (.str x) (.str x)
 | tup {a:Addr} {vs:List V} {ds:List D}:H a=some (.tup vs)→ah H vs ds→Rep H (.ref a) (.tup ds)
 | lst {a:Addr} {vs:List V} {ds:List D}:H a=some (.lst vs)→ah H vs ds→Rep H (.ref a) (.lst ds)
inductive ah (H:Hp):List V→List D→Prop
 | nil:ah H [] []
 | cons {v:V} {d:D} {vs:List V} {ds:List D}:Rep H v d→ah H vs ds→ah H (v :: vs) (d :: ds)
end
theorem ah.length:∀ {vs:List V} {ds:List D},ah H vs ds→vs.length=ds.length
 | _,_,.nil=>rfl
 | _,_,.cons _ t=>by simp [ah.length t]
theorem ah.get:∀ {vs:List V} {ds:List D} {i:Nat} {v:V},ah H vs ds→vs[i]?=some v→∃ d,ds[i]?=some d∧Rep H v d
 | _,_,_,_,.nil,e=>by simp at e
 | _,_,0,_,.cons r _,e=>by simp at e;subst e;exact ⟨_,rfl,r⟩
 | _,_,i+1,v,.cons _ t,e=>by
  obtain ⟨d,h1,h2⟩:=ah.get (i:=i) (v:=v) t (by simpa using e)
  exact ⟨d,by simpa using h1,h2⟩
theorem ah.get':∀ {vs:List V} {ds:List D} {i:Nat} {d:D},ah H vs ds→ds[i]?=some d→∃ v,vs[i]?=some v∧Rep H v d
 | _,_,_,_,.nil,e=>by simp at e
 | _,_,0,_,.cons r _,e=>by simp at e;subst e;exact ⟨_,rfl,r⟩
 | _,_,i+1,v,.cons _ t,e=>by
  obtain ⟨d,h1,h2⟩:=ah.get' (i:=i) (d:=v) t (by simpa using e)
  exact ⟨d,by simpa using h1,h2⟩
theorem ah.append:∀ {vs us:List V} {ds es:List D},ah H vs ds→ah H us es→ah H (vs++us) (ds++es)
 | _,_,_,_,.nil,s=>s
 | _,_,_,_,.cons r t,s=>.cons r (ah.append t s)
theorem ah.take:∀ {vs:List V} {ds:List D} (n:Nat),ah H vs ds→ah H (vs.take n) (ds.take n)
 | _,_,0,_=>.nil
 | _,_,_+1,.nil=>.nil
 | _,_,n+1,.cons r t=>.cons r (ah.take n t)
theorem ah.drop:∀ {vs:List V} {ds:List D} (n:Nat),ah H vs ds→ah H (vs.drop n) (ds.drop n)
 | _,_,0,r=>r
 | _,_,_+1,.nil=>.nil
 | _,_,n+1,.cons _ t=>ah.drop n t
mutual
theorem Rep.mono (e:bw H H'):∀ {v:V} {d:D},Rep H v d→Rep H' v d
 | _,_,.non=>.non
 | _,_,.bl b=>.bl b
 | _,_,.int i=>.int i
 | _,_,.str x=>.str x
 | _,_,.tup h r=>.tup (e _ _ h) (ah.mono e r)
 | _,_,.lst h r=>.lst (e _ _ h) (ah.mono e r)
theorem ah.mono (e:bw H H'):∀ {vs:List V} {ds:List D},ah H vs ds→ah H' vs ds
 | _,_,.nil=>.nil
 | _,_,.cons r t=>.cons (Rep.mono e r) (ah.mono e t)
end
mutual
theorem Rep.inj:∀ {v:V} {d e:D},Rep H v d→Rep H v e→d=e
 | _,_,_,.non,.non=>rfl
 | _,_,_,.bl _,.bl _=>rfl
 | _,_,_,.int _,.int _=>rfl
 | _,_,_,.str _,.str _=>rfl
 | _,_,_,.tup h r,.tup h' r'=>by rw [h] at h';cases h';rw [ah.inj r r']
 | _,_,_,.tup h r,.lst h' r'=>by rw [h] at h';cases h'
 | _,_,_,.lst h r,.tup h' r'=>by rw [h] at h';cases h'
 | _,_,_,.lst h r,.lst h' r'=>by rw [h] at h';cases h';rw [ah.inj r r']
theorem ah.inj:∀ {vs:List V} {ds es:List D},ah H vs ds→ah H vs es→ds=es
 | _,_,_,.nil,.nil=>rfl
 | _,_,_,.cons r t,.cons r' t'=>by rw [Rep.inj r r',ah.inj t t']
end
theorem ah.ints:∀ (ns:List Int),ah H (ns.map V.int) (ns.map D.int)
 | []=>.nil
 | n :: ns=>.cons (.int n) (ah.ints ns)
theorem D.aS:∀ (ds es:List D),D.bH ds es=((List.range (min ds.length es.length)).all (fun j=>D.eqv (ds.getD j .non) (es.getD j .non)) && ds.length == es.length)
 | [],[]=>rfl
 | [],e :: es=>by simp [D.bH]
 | d :: ds,[]=>by simp [D.bH]
 | d :: ds,e :: es=>by
  have ih:=D.aS ds es
  have q:min (d :: ds).length (e :: es).length=min ds.length es.length+1:=by simp only [List.length_cons];omega
  rw [q,List.range_succ_eq_map,List.all_cons,List.all_map]
  have z:((d :: ds).length == (e :: es).length)=(ds.length == es.length):=by
   rw [Bool.eq_iff_iff];simp
  rw [z,D.bH,ih,Bool.and_assoc]
  rfl
theorem D.cE:∀ {ds:List D} {i:Nat} {d:D},ds[i]?=some d→D.depth d≤D.bG ds
 | [],_,_,e=>by simp at e
 | x :: xs,0,d,e=>by
  simp at e;subst e
  exact Nat.le_max_left _ _
 | x :: xs,i+1,d,e=>Nat.le_trans (D.cE (ds:=xs) (i:=i) (by simpa using e)) (Nat.le_max_right _ _)
section
variable {X:Cx}
theorem jt (I:Inv X pins σ H s):∀ (n:Nat) (A:Around) (x y:V) (u v:Value) (d e:D),A.units+n < cLine→D.depth d≤n→RelV x u→RelV y v→Rep H x d→Rep H y e →
  SeqAt.EqAt A s u v (D.eqv d e):=by
 intro n
 induction n with
 | zero=>
  intro A x y u v d e hu hd ru rv rx ry
  have hu':A.units < cLine:=by omega
  cases rx with
  | tup h r=>simp [D.depth] at hd
  | lst h r=>simp [D.depth] at hd
  | non=>
   cases ry with
   | tup h r=>
    cases ru;cases rv
    obtain ⟨its,rv,p,hz⟩:=I.tuple (SqT.of h)
    exact SeqAt.EqAt.none_tuple p hu'
   | lst h r=>
    cases ru;cases rv
    obtain ⟨its,rv,p,hz⟩:=I.list (SqL.of h)
    exact SeqAt.EqAt.none_list p.isList hu'
   | _=>simp only [D.eqv];exact dY ru rv rfl rfl
  | bl a=>
   cases ry with
   | tup h r=>
    cases ru;cases rv
    obtain ⟨its,rv,p,hz⟩:=I.tuple (SqT.of h)
    exact SeqAt.EqAt.bool_tuple a p hu'
   | lst h r=>
    cases ru;cases rv
    obtain ⟨its,rv,p,hz⟩:=I.list (SqL.of h)
    exact SeqAt.EqAt.bool_list a p.isList hu'
   | _=>simp only [D.eqv];exact dY ru rv rfl rfl
  | int a=>
   cases ry with
   | tup h r=>
    obtain ⟨t,rfl⟩:=ru;cases rv
    obtain ⟨its,rv,p,hz⟩:=I.tuple (SqT.of h)
    exact SeqAt.EqAt.int_tuple a t p hu'
   | lst h r=>
    obtain ⟨t,rfl⟩:=ru;cases rv
    obtain ⟨its,rv,p,hz⟩:=I.list (SqL.of h)
    exact SeqAt.EqAt.int_list a t p.isList hu'
   | _=>simp only [D.eqv];exact dY ru rv rfl rfl
  | str a=>
   cases ry with
   | tup h r=>
    obtain ⟨t,rfl⟩:=ru;cases rv
    obtain ⟨its,rv,p,hz⟩:=I.tuple (SqT.of h)
    exact SeqAt.EqAt.str_tuple a t p hu'
   | lst h r=>
    obtain ⟨t,rfl⟩:=ru;cases rv
    obtain ⟨its,rv,p,hz⟩:=I.list (SqL.of h)
    exact SeqAt.EqAt.str_list a t p.isList hu'
   | _=>simp only [D.eqv];exact dY ru rv rfl rfl
 | succ n ih=>
  intro A x y u v d e hu hd ru rv rx ry
  have hu':A.units < cLine:=by omega
  have items:∀ {vs us:List V} {ds es:List D} {its its2:List Value},D.bG ds≤n→Vals vs its→Vals us its2→ah H vs ds→ah H us es →
    ∀ j (h1:j < its.toArray.size) (h2:j < its2.toArray.size),SeqAt.EqAt A.in1 s its.toArray[j] its2.toArray[j] (D.eqv (ds.getD j .non) (es.getD j .non)):=by
   intro vs us ds es its its2 hdd r1 r2 q1 q2 j h1 h2
   have h1':j < its.length:=by simpa using h1
   have h2':j < its2.length:=by simpa using h2
   have l1:=r1.length
   have l2:=r2.length
   have m1:=q1.length
   have m2:=q2.length
   have e1:vs[j]?=some (vs[j]'(by omega)):=List.getElem?_eq_getElem _
   have e2:us[j]?=some (us[j]'(by omega)):=List.getElem?_eq_getElem _
   obtain ⟨a1,b1,c1⟩:=r1.get e1
   obtain ⟨a2,b2,c2⟩:=r2.get e2
   obtain ⟨f1,g1,k1⟩:=q1.get e1
   obtain ⟨f2,g2,k2⟩:=q2.get e2
   have z1:its.toArray[j]=a1:=by
    have:its[j]?=some its[j]:=List.getElem?_eq_getElem h1'
    rw [b1] at this
    simpa using (Option.some.inj this).symm
   have z2:its2.toArray[j]=a2:=by
    have:its2[j]?=some its2[j]:=List.getElem?_eq_getElem h2'
    rw [b2] at this
    simpa using (Option.some.inj this).symm
   rw [z1,z2,List.getD_eq_getElem?_getD,List.getD_eq_getElem?_getD,g1,g2]
   refine ih A.in1 _ _ _ _ _ _ ?_ (Nat.le_trans (D.cE g1) hdd) c1 c2 k1 k2
   show A.units+1+n < cLine
   omega
  cases rx with
  | @tup a vs ds h r=>
   obtain ⟨its,rv1,p,hz⟩:=I.tuple (SqT.of h)
   cases ry with
   | @tup b us es h' r'=>
    cases ru;cases rv
    obtain ⟨its2,rv2,p2,hz2⟩:=I.tuple (SqT.of h')
    by_cases hab:a=b
    ·subst hab
     rw [h] at h';cases h'
     rw [ah.inj r' r,D.eqv_refl]
     exact SeqAt.EqAt.same _
    ·have hdd:D.bG ds≤n:=by simp only [D.depth] at hd;omega
     have q:=SeqAt.EqAt.of_refs hab (SeqAt.RcAt.tuples (e:=fun j=>D.eqv (ds.getD j .non) (es.getD j .non)) p p2 hu' (items hdd rv1 rv2 r r'))
     rw [List.size_toArray,List.size_toArray,← rv1.length,← rv2.length,r.length,r'.length,← D.aS] at q
     simp only [D.eqv]
     exact q
   | @lst b us es h' r'=>
    cases ru;cases rv
    obtain ⟨its2,rv2,p2,hz2⟩:=I.list (SqL.of h')
    simp only [D.eqv]
    exact SeqAt.EqAt.tuple_list p p2.isList hu'
   | non=>cases ru;cases rv;simp only [D.eqv];exact SeqAt.EqAt.tuple_none p hu'
   | bl c=>cases ru;cases rv;simp only [D.eqv];exact SeqAt.EqAt.tuple_bool c p hu'
   | int c=>cases ru;obtain ⟨t,rfl⟩:=rv;simp only [D.eqv];exact SeqAt.EqAt.tuple_int c t p hu'
   | str c=>cases ru;obtain ⟨t,rfl⟩:=rv;simp only [D.eqv];exact SeqAt.EqAt.tuple_str c t p hu'
  | @lst a vs ds h r=>
   obtain ⟨its,rv1,p,hz⟩:=I.list (SqL.of h)
   cases ry with
   | @lst b us es h' r'=>
    cases ru;cases rv
    obtain ⟨its2,rv2,p2,hz2⟩:=I.list (SqL.of h')
    by_cases hab:a=b
    ·subst hab
     rw [h] at h';cases h'
     rw [ah.inj r' r,D.eqv_refl]
     exact SeqAt.EqAt.same _
    ·have hdd:D.bG ds≤n:=by simp only [D.depth] at hd;omega
     have l1:=rv1.length
     have l2:=rv2.length
     have m1:=r.length
     have m2:=r'.length
     by_cases hl:ds.length=es.length
     ·have q:=SeqAt.EqAt.of_refs hab (SeqAt.RcAt.lists (e:=fun j=>D.eqv (ds.getD j .non) (es.getD j .non)) p.isList p2.isList (by simp;omega) hu' (items hdd rv1 rv2 r r'))
      have z:D.bH ds es=(List.range its.toArray.size).all fun j=>D.eqv (ds.getD j .non) (es.getD j .non):=by
       rw [D.aS,← hl,Nat.min_self,List.size_toArray,← l1,m1]
       simp
      simp only [D.eqv]
      rw [z]
      exact q
     ·have q:=SeqAt.EqAt.of_refs hab (SeqAt.RcAt.lists_lengths p.isList p2.isList (by simp;omega) hu')
      have z:D.bH ds es=false:=by
       rw [D.aS]
       simp [hl]
      simp only [D.eqv]
      rw [z]
      exact q
   | @tup b us es h' r'=>
    cases ru;cases rv
    obtain ⟨its2,rv2,p2,hz2⟩:=I.tuple (SqT.of h')
    simp only [D.eqv]
    exact SeqAt.EqAt.list_tuple p.isList p2 hu'
   | non=>cases ru;cases rv;simp only [D.eqv];exact SeqAt.EqAt.list_none p.isList hu'
   | bl c=>cases ru;cases rv;simp only [D.eqv];exact SeqAt.EqAt.list_bool c p.isList hu'
   | int c=>cases ru;obtain ⟨t,rfl⟩:=rv;simp only [D.eqv];exact SeqAt.EqAt.list_int c t p.isList hu'
   | str c=>cases ru;obtain ⟨t,rfl⟩:=rv;simp only [D.eqv];exact SeqAt.EqAt.list_str c t p.isList hu'
  | non=>exact SeqAt.EqAt.of_in1 (ih A.in1 _ y u v _ e (by show A.units+1+n < cLine;omega) (by simp [D.depth]) ru rv .non ry)
  | bl c=>exact SeqAt.EqAt.of_in1 (ih A.in1 _ y u v _ e (by show A.units+1+n < cLine;omega) (by simp [D.depth]) ru rv (.bl c) ry)
  | int c=>exact SeqAt.EqAt.of_in1 (ih A.in1 _ y u v _ e (by show A.units+1+n < cLine;omega) (by simp [D.depth]) ru rv (.int c) ry)
  | str c=>exact SeqAt.EqAt.of_in1 (ih A.in1 _ y u v _ e (by show A.units+1+n < cLine;omega) (by simp [D.depth]) ru rv (.str c) ry)
end
section
variable {X:Cx}
def lA:R2:=fun x y H Q=>∃ a b,x=.bl a∧y=.bl b∧Q (.bl (a == b)) H
theorem kA:OpR X (compareOp .Is) lA:=by
 intro pins s σ H x y v u Q I rx ry h
 obtain ⟨a,b,rfl,rfl,q⟩:=h
 cases rx;cases ry
 exact is_bool ⟨.bl _,H,I,rfl,q⟩
def isT (T:String):D→Bool
 | .non=>false
 | .bl _=>T == "bool" || T == "int"
 | .int _=>T == "int"
 | .str _=>T == "str"
 | .tup _=>T == "tuple"
 | .lst _=>T == "list"
def okT (T:String):Bool:=T == "bool" || T == "int" || T == "str" || T == "tuple" || T == "list"
theorem rU {K:PySem.W.Frag} {H:Hp} {x:V} {d:D} {T:String} (r:Rep H x d) (h:okT T=true):∃ t,cu K H x t∧PySem.W.kitOne K t (.type T)=some (isT T d):=by
  have h5:T="bool"∨T="int"∨T="str"∨T="tuple"∨T="list":=by simpa [okT,or_assoc] using h
  cases r with
  | non=>exact ⟨_,.non,by rcases h5 with e | e | e | e | e<;>subst e<;>first | rfl | kernel_rfl⟩
  | bl b=>exact ⟨_,.bl b,by rcases h5 with e | e | e | e | e<;>subst e<;>first | rfl | kernel_rfl⟩
  | int i=>exact ⟨_,.int i,by rcases h5 with e | e | e | e | e<;>subst e<;>first | rfl | kernel_rfl⟩
  | str x=>exact ⟨_,.str x,by rcases h5 with e | e | e | e | e<;>subst e<;>first | rfl | kernel_rfl⟩
  | tup h r=>exact ⟨_,.tup h,by rcases h5 with e | e | e | e | e<;>subst e<;>first | rfl | kernel_rfl⟩
  | lst h r=>exact ⟨_,.lst h,by rcases h5 with e | e | e | e | e<;>subst e<;>first | rfl | kernel_rfl⟩
def uI (T:String) (te:TE):TE:=fun σ H Q=>te σ H fun x H1=>∃ d,Rep H1 x d∧Q (.bl (isT T d)) H1
theorem jF {e:Expr} {te:TE} {nm:Str} {T:String} {p p2 pos:Pos} (hg:Gl X "isinstance") (hm:X.mg "isinstance"=none) (hg2:Gl X nm) (hm2:X.mg nm=none) (hv:bootBuiltins nm=some (.type T)) (ho:okT T=true) (ha:PE X e te)
  (hn:nm≠"__name__":=by decide) (hd:(nm == ("__debug__":Str))=false:=by decide) (hb:bootBuiltins "isinstance"=some (.builtin "isinstance"):=by decide +kernel)
  (he:starEach [e,.Name nm p2] X.env=(false,eval e X.env) :: starEach [.Name nm p2] X.env:=by rfl) (hs2:starEach [.Name nm p2] X.env=(false,eval (.Name nm p2) X.env) :: starEach [] X.env:=by rfl) (hpl:(backTo pos (starEach [.Name nm p2] X.env)).any (·.1)=false:=by rfl) :
  PE X (.Call (.Name "isinstance" p) [e,.Name nm p2] [] pos) (uI T te):=by
 intro pins s σ H Q I h
 have hT:PE X (.Name nm p2) (tC (.ty T)):=iy hg2 hm2 hv rfl hn hd
 refine wpAny_Call_Name_kw (cy I hg hm hb ?_ (by decide) (by decide))
 refine PyProof.Rows.callWith_builtin1 (thn ((bt ha (bt hT cO hs2) he) pos pins s σ H (fun vs H1=>∃ x d,vs=[x,.ty T]∧Rep H1 x d∧Q (.bl (isT T d)) H1) I ?_) fun us s1 ⟨vs,H1,I1,r1,q1⟩=>?_) he hpl
 ·refine (show te σ H fun x H1=>_ from ?_)
  refine cast (congrArg (te σ H) ?_) h
  funext x H1
  refine propext ⟨fun ⟨d,r,q⟩=>⟨x,d,rfl,r,q⟩,fun ⟨x',d,e,r,q⟩=>?_⟩
  cases e
  exact ⟨d,r,q⟩
 ·obtain ⟨x,d,e,r,q⟩:=q1
  subst e
  obtain ⟨u,w',rfl,ru,rw'⟩:=r1.two
  obtain ⟨t,ty,k⟩:=rU (K:=X.K) r ho
  cases (show w'=Value.type T from rw')
  exact jT I1 ru ty k fun tk=>⟨.bl _,H1,I1.tok tk,rfl,q⟩
end
section
variable {X:Cx} {pins:List (Addr×Obj)} {σ:St} {H:Hp} {s:Shared} {h':Heap} {fp:List Addr}
theorem Inv.gT (I:Inv X pins σ H s) (ha:s.heap.objs.size≤a) (hk:∀ b u,b∉fp→s.heap.get? b=some u→h'.get? b=some u) (hf:∀ b∈fp,cA X pins H b) (new:aK X.prog X.w (upd H a o) h' a o) :
  Inv X pins σ (upd H a o) { s with heap:=h',toks:=t' }:=by
 have hn:H a=none:=I.hok.fresh ha
 have nfp:∀ b u,H b=some u→b∉fp:=fun b u e z=>by
  have q:=(hf b z).1
  rw [e] at q
  cases q
 have hne:∀ b (u:Obj),s.heap.get? b=some u→b≠a:=fun b u e=>Nat.ne_of_lt (Nat.lt_of_lt_of_le (Heap.lt_size e) ha)
 refine I.step (g':=s.gens) (d':=s.drawn) (ch:=fp) (fun b hb=>?_) (fun b u _ _ hc e _=>hk b u hc e) (fun b u _ _ hc e _=>⟨u.slots,hk b u hc e⟩) (fun b u _ e n=>?_)
  (fun b u hc e=>⟨u,hk b u hc e⟩) (fun b xs e=>?_) (fun b u xs e=>?_) (fun b ps e=>⟨#[],?_⟩) (fun m hm=>?_) (fun b u e=>?_) I.bare
 ·obtain ⟨f0,f1,f2,f3,f4,f5⟩:=hf b hb
  exact ⟨f3,f1,f4,f5⟩
 ·rw [ak (hne b u e)];exact n
 ·rw [ak (ay e hn)];exact e
 ·rw [ak (ay e hn)];exact e
 ·rw [ak (ay e hn),e];simp
 ·obtain ⟨u,es,ep,ho,r⟩:=hm
  exact ⟨u,es,ep,hk _ u (fun z=>(hf _ z).2.1 rfl) ho,r⟩
 ·by_cases hb:b=a
  ·subst hb;rw [aB] at e;cases e;exact new
  ·rw [ak hb] at e
   refine (I.hok b u e).dO (fun c v hc q=>hk c v ?_ q) (fun c q=>by rw [ak (ay q hn)];exact q) fun c xs q=>by rw [ak (ay q hn)];exact q
   rcases hc with z | z
   ·rw [z];exact nfp b u e
   ·exact nfp c _ z
theorem Inv.nV (I:Inv X pins σ H s) (hk:∀ b u,b∉fp→s.heap.get? b=some u→h'.get? b=some u) (hf:∀ b∈fp,cA X pins H b):Inv X pins σ H { s with heap:=h',toks:=t' }:=by
 have nfp:∀ b u,H b=some u→b∉fp:=fun b u e z=>by
  have q:=(hf b z).1
  rw [e] at q
  cases q
 refine I.step (g':=s.gens) (d':=s.drawn) (ch:=fp) (fun b hb=>?_) (fun b u _ _ hc e _=>hk b u hc e) (fun b u _ _ hc e _=>⟨u.slots,hk b u hc e⟩) (fun b u _ e n=>n)
  (fun b u hc e=>⟨u,hk b u hc e⟩) (fun b xs e=>e) (fun b u xs e=>e) (fun b ps e=>⟨#[],?_⟩) (fun m hm=>?_) (fun b u e=>?_) I.bare
 ·obtain ⟨f0,f1,f2,f3,f4,f5⟩:=hf b hb
  exact ⟨f3,f1,f4,f5⟩
 ·rw [e];simp
 ·obtain ⟨u,es,ep,ho,r⟩:=hm
  exact ⟨u,es,ep,hk _ u (fun z=>(hf _ z).2.1 rfl) ho,r⟩
 ·refine (I.hok b u e).dO (fun c v hc q=>hk c v ?_ q) (fun _ q=>q) fun _ _ q=>q
  rcases hc with z | z
  ·rw [z];exact nfp b u e
  ·exact nfp c _ z
end
def Ite (K:PySem.W.Frag) (l:Addr):It:=
 ⟨fun i H=>∃ xs x,SqL K H l xs∧xs[i]?=some x,fun i H x H'=>∃ p y,H p=none∧x=.ref p∧H'=upd H p (.tup [.int i,y])∧∀ xs,SqL K H l xs→xs[i]?=some y,fun i H=>∃ xs,SqL K H l xs∧xs.length≤i⟩
theorem jk {P:Program} {w:World} {K:PySem.W.Frag} {es:List Expr} {kk:Nat} {tp:Pos} (l e it:Addr) (hne:e≠it) :
  Turn P w K (.Tuple es kk tp) (Ite K l) [e,it] e (fun i h=>(∃ old,IsEnum h e it ((i:Nat):Int) old)∧h.IsListIter it l i) where
 mem:=by simp
 obj:=fun i h st b hb=>by
  obtain ⟨⟨old,he⟩,hit⟩:=st
  rcases List.mem_cons.mp hb with z | z
  ·subst z;exact ⟨_,he,fun v z=>by
    have z':Data.fields _=Data.cell v:=z
    cases z'⟩
  ·have z:b=it:=List.mem_singleton.mp z
   subst z
   obtain ⟨o,q,_,d⟩:=hit
   exact ⟨o,q,fun v z=>by rw [d] at z;cases z⟩
 keep:=fun i h h' st k=>by
  obtain ⟨⟨old,he⟩,hit⟩:=st
  exact ⟨⟨old,k e (by simp) _ he⟩,hit.at fun o q=>k it (by simp) o q⟩
 item:=by
  intro X hP hw hK hc i pins s σ H E I hf st hg
  subst hP hw hK
  obtain ⟨⟨old,he⟩,hit⟩:=st
  obtain ⟨xs,x,hq,hx⟩:=hg
  obtain ⟨its,rv,p,hz⟩:=I.list hq
  obtain ⟨u,hu,ru⟩:=rv.get hx
  refine wpAny_pyNext_enum_item he hit p.isList (x:=u) (by simpa using hu) hne fun h1 ho1 hit1 ht1 hz1 hk1=>?_
  refine ⟨_,rfl,wpAny_letOwnedTupleGo_enum (s:={ s with heap:=h1,toks:=s.toks+1 }) ho1 fun h2 he2 hs2=>?_⟩
  have helt:e < s.heap.objs.size:=Heap.lt_size he
  have ht2:h2.get? s.heap.objs.size=some { cls:=.type "tuple",data:=.seq #[.int i s.toks,u] }:=hs2.extBut _ _ (Nat.ne_of_gt helt) ht1
  have k2:∀ b o,b∉[e,it]→s.heap.get? b=some o→h2.get? b=some o:=fun b o hb q=>by
   have hb1:b≠e:=fun z=>hb (by simp [z])
   have hb2:b≠it:=fun z=>hb (by simp [z])
   exact hs2.extBut b o hb1 (hk1 b o hb1 hb2 q)
  have I2:Inv X pins σ (upd H s.heap.objs.size (.tup [.int i,x])) { s with heap:=h2,toks:=s.toks+1 }:=by
   refine I.gT (fp:=[e,it]) (Nat.le_refl _) k2 hf ?_
   exact ⟨by show 2≤sizeLine;decide,[.int i s.toks,u],.cons ⟨_,rfl⟩ (.cons ru .nil),⟨_,ht2,rfl,_,rfl⟩⟩
  refine ⟨.ref s.heap.objs.size,_,I2,rfl,⟨s.heap.objs.size,x,I.hok.fresh (Nat.le_refl _),rfl,rfl,fun ys hy=>by rw [I.g9 hy hq];exact hx⟩,⟨⟨_,by simpa using he2⟩,?_⟩,fun b hb=>?_⟩
  ·exact hit1.extBut hs2.extBut (Ne.symm hne)
  ·have hlt:b < s.heap.objs.size:=by
    rcases List.mem_cons.mp hb with z | z
    ·rw [z];exact helt
    ·have z:b=it:=List.mem_singleton.mp z
     subst z
     obtain ⟨o,q,_⟩:=hit
     exact Heap.lt_size q
   rw [ak (Nat.ne_of_lt hlt)]
   exact (hf b hb).1
 done:=by
  intro X hP hw hK hc i pins s σ H E I hf st hg
  subst hP hw hK
  obtain ⟨⟨old,he⟩,hit⟩:=st
  obtain ⟨xs,hq,hx⟩:=hg
  obtain ⟨its,rv,p,hz⟩:=I.list hq
  have hl:=rv.length
  obtain ⟨f0,f1,f2,f3,f4,f5⟩:=hf it (by simp)
  exact wpAny_pyNext_enum_end (I.ok.hd hc) he hit p.isList (by simp;omega) fun h' eb=>⟨rfl,I.turned (t':=s.toks) (fun b o hb e=>eb b o hb e) f0 f1 f3 f4 f5⟩
 self:=fun _ _ _ _ _ st h=>by
  obtain ⟨⟨old,he⟩,_⟩:=st
  exact wpAny_pyIter_enum he h
section
variable {prog:Program} {w:World} {A:Around} {E:Value→Shared→Prop} {s:Shared}
theorem i8 (hit:s.heap.IsTupleIter it t i) (ht:s.heap.IsTuple t items) (hx:items[i]?=some x)
  (hQ:∀ h',h'.IsTupleIter it t (i+1)→Heap.SameBut it s.heap h'→Q x { s with heap:=h' }):wpAny (model prog w) A (Builtin.SmallTypes.nextOf (.ref it)) Q E s:=by
 obtain ⟨o,ho,hc,hd⟩:=id hit
 obtain ⟨ot,hot,_,nt,hdt⟩:=ht
 unfold Builtin.SmallTypes.nextOf
 refine wpAny_bind (wpAny_callSpecial?_slot (name:=Str.ofString "__next__") hit.typeIs F.slot_tuple_iterator_next (wpAny_call_entry F.slot_tuple_iterator_next hit.typeIs F.entry_tuple_iterator_next ?_ (F.args_tuple_iterator_next_1 _)))
 refine (show wpAny _ _ (field (.ref it) 0>>=_) _ _ s from wpAny_bind (wpAny_field ho hd (x:=.ref t) rfl ?_))
 show wpAny _ _ (if (Value.ref t == Value.none)=true then _ else _) _ _ s
 rw [if_neg (by intro z;exact Bool.false_ne_true z)]
 refine (show wpAny _ _ (field (.ref it) 1>>=_) _ _ s from wpAny_bind (wpAny_field ho hd (x:=.int i 0) rfl ?_))
 refine (show wpAny _ _ (seqItems? (.ref t)>>=_) _ _ s from wpAny_bind (wpAny_seqItems hot hdt ?_))
 simp only [Int.toNat_natCast,hx]
 refine wpAny_bind (wpAny_setField ho hd (by simp) (wpAny_pure ⟨x,rfl,wpAny_pure (hQ _ ⟨_,Heap.get?_update_self _ ho (Obj.isFreed_of_fields (Obj.data_mapFields hd _)),(Obj.cls_mapFields ..).trans hc,?_⟩ (Heap.SameBut.update ..))⟩))
 rw [Obj.data_mapFields hd];simp [rawInt]
theorem kl (hh:A.handled=none) (hit:s.heap.IsTupleIter it t i) (ht:s.heap.IsTuple t items) (hx:items[i]?=none)
  (hE:∀ h' e,Heap.ExtBut it s.heap h'→(∃ o,h'.get? e=some o∧o.cls=.type "StopIteration")→E (.ref e) { s with heap:=h' }):wpAny (model prog w) A (Builtin.SmallTypes.nextOf (.ref it)) Q E s:=by
 obtain ⟨o,ho,hc,hd⟩:=id hit
 obtain ⟨ot,hot,_,nt,hdt⟩:=ht
 unfold Builtin.SmallTypes.nextOf
 refine wpAny_bind (wpAny_callSpecial?_slot (name:=Str.ofString "__next__") hit.typeIs F.slot_tuple_iterator_next (wpAny_call_entry F.slot_tuple_iterator_next hit.typeIs F.entry_tuple_iterator_next ?_ (F.args_tuple_iterator_next_1 _)))
 refine (show wpAny _ _ (field (.ref it) 0>>=_) _ _ s from wpAny_bind (wpAny_field ho hd (x:=.ref t) rfl ?_))
 show wpAny _ _ (if (Value.ref t == Value.none)=true then _ else _) _ _ s
 rw [if_neg (by intro z;exact Bool.false_ne_true z)]
 refine (show wpAny _ _ (field (.ref it) 1>>=_) _ _ s from wpAny_bind (wpAny_field ho hd (x:=.int i 0) rfl ?_))
 refine (show wpAny _ _ (seqItems? (.ref t)>>=_) _ _ s from wpAny_bind (wpAny_seqItems hot hdt ?_))
 simp only [Int.toNat_natCast,hx]
 refine wpAny_bind (wpAny_rule (wpAny_bind (wpAny_setField ho hd (by simp) ?_)))
 refine (show wpAny _ _ (newExc (.type "StopIteration") []>>=_) _ _ _ from wpAny_bind ?_)
 simp only [newExc,newTuple]
 refine wpAny_bind (wpAny_newObj_type (wpAny_bind (m:=firstArgMember _ _) (wpAny_of_eq (a:=Value.none) (by first | rfl | (simp only [firstArgMember];rfl)) (wpAny_newObj_type ?_ (by size_fits)))) (by size_fits))
 simp only [raiseNew]
 refine wpAny_bind (wpAny_handled ?_)
 first | rw [show A.in1.handled=none from hh] | rw [hh]
 exact wpAny_bind (wpAny_pure (wpAny_throw (hE _ _ (((Heap.SameBut.update ..).extBut.push _).push _) ⟨_,Heap.get?_push_size _ rfl,rfl⟩)))
end
theorem rC (hh:A.handled=none) (it t:Addr) (hne:t≠it) (items:Array Value) :
  Draws prog w A it [it,t] items.size (fun i v=>items[i]?=some v) (fun i h=>h.IsTupleIter it t i∧h.IsTuple t items) where
 live:=fun _ _ st=>let ⟨o,ho,_⟩:=st.1;⟨o,ho⟩
 frame:=fun _ _ _ st hk=>⟨st.1.at fun o e=>hk it (by simp) o e,st.2.at fun o e=>hk t (by simp) o e⟩
 item:=fun i s Q E hi st hQ=>i8 st.1 st.2 (x:=items[i]) (by simp [hi]) fun h' a b=>hQ _ h' s.toks (by simp [hi]) ⟨a,st.2.extBut b.extBut hne⟩ b
 done:=fun s Q E st hE=>kl hh st.1 st.2 (by simp) hE
structure ba (z TI TO i1 i2:Addr) (fp1 fp2:List Addr):Prop where
 TIz:TI≠z
 TOz:TO≠z
 TITO:TI≠TO
 z1:z∉fp1
 z2:z∉fp2
 TO1:TO∉fp1
 TO2:TO∉fp2
 i12:i1∉fp2
 i21:i2∉fp1
 m1:i1∈fp1
 m2:i2∈fp2
 TI1:TI≠i1
 TI2:TI≠i2
section
variable {prog:Program} {w:World} {A:Around} {E:Value→Shared→Prop} {s:Shared} {z TI TO i1 i2:Addr} {fp1 fp2:List Addr} {n1 n2 k:Nat} {P1 P2:Nat→Value→Prop} {S1 S2:Nat→Heap→Prop} {a b:Value}
theorem ba.i1z (D:ba z TI TO i1 i2 fp1 fp2):i1≠z:=fun e=>D.z1 (e ▸ D.m1)
theorem ba.i2z (D:ba z TI TO i1 i2 fp1 fp2):i2≠z:=fun e=>D.z2 (e ▸ D.m2)
theorem ba.TOi1 (D:ba z TI TO i1 i2 fp1 fp2):TO≠i1:=fun e=>D.TO1 (e ▸ D.m1)
theorem ba.TOi2 (D:ba z TI TO i1 i2 fp1 fp2):TO≠i2:=fun e=>D.TO2 (e ▸ D.m2)
theorem eo {a:Addr} {Q:Option Obj→Shared→Prop} (h:Q (s.heap.get? a) s):wpAny (model prog w) A (loadIfAlive a) Q E s:=
 fun _ _ _=>h
abbrev bp (h:Heap) (z TI TO:Addr) (own:Value) (fl:Bool):Prop:=h.get? z=some { cls:=.type "zip",dict:=none,data:=.fields #[own,.bool fl,.bool false,.ref TI,.ref TO],slots:=#[] }
def eY (h:Heap) (own:Value):Prop:=own=.none∨∃ T:Addr,own=rawInt T∧h.get? T=none
theorem h8 (hz:bp s.heap z TI TO own fl) (hf:eY s.heap own) (h:Q true s):wpAny (model prog w) A (Builtin.SmallTypes.ownedTupleIsFree (.ref z)) Q E s:=by
 unfold Builtin.SmallTypes.ownedTupleIsFree
 rcases hf with rfl | ⟨T,rfl,hT⟩
 ·exact wpAny_bind (wpAny_field hz rfl (x:=.none) rfl (wpAny_pure h))
 ·refine wpAny_bind (wpAny_field hz rfl (x:=rawInt T) rfl ?_)
  refine (show wpAny _ _ (loadIfAlive ((T:Int)).toNat>>=_) _ _ _ from wpAny_bind (eo ?_))
  rw [Int.toNat_natCast,hT]
  exact wpAny_ite_true rfl (wpAny_pure h)
theorem jI {Q:Value→Shared→Prop} (D:ba z TI TO i1 i2 fp1 fp2) (D1:Draws prog w A i1 fp1 n1 P1 S1) (D2:Draws prog w A i2 fp2 n2 P2 S2) {own:Value} {fl:Bool} (hz:bp s.heap z TI TO own fl) (hfr:eY s.heap own) (hTI:IsPair s.heap TI (.ref i1) (.ref i2)) (hTO:IsPair s.heap TO a b)
  (h1:S1 k s.heap) (h2:S2 k s.heap) (l1:k < n1) (l2:k < n2)
  (hQ:∀ x y h' tk,P1 k x→P2 k y→IsZip h' z TI TO (rawInt s.heap.objs.size)→IsPair h' TI (.ref i1) (.ref i2)→IsPair h' TO x y→S1 (k+1) h'→S2 (k+1) h'→IsPair h' s.heap.objs.size x y→h'.objs.size=s.heap.objs.size+1 →
   (∀ c o,c≠z→c≠TO→c≠i1→c≠i2→s.heap.get? c=some o→h'.get? c=some o)→Q (.ref s.heap.objs.size) { s with heap:=h',toks:=tk }) :
  wpAny (model prog w) A (Builtin.«zip.__next__» ⟨[.ref z],[]⟩) (fun fin s'=>∃ v,fin=.done (.ret v)∧Q v s') E s:=by
 refine (show wpAny _ _ (field (.ref z) 2>>=_) _ _ _ from wpAny_bind (wpAny_field hz rfl (x:=.bool false) rfl ?_))
 refine (show wpAny _ _ (field (.ref z) 3>>=_) _ _ _ from wpAny_bind (wpAny_field hz rfl (x:=.ref TI) rfl ?_))
 refine wpAny_bind (wpAny_seqItems hTI rfl ?_)
 refine (show wpAny _ _ (Builtin.SmallTypes.ownedTupleIsFree (.ref z)>>=_) _ _ _ from wpAny_bind (h8 hz hfr ?_))
 simp only [if_true]
 refine wpAny_bind (wpAny_rule (wpAny_bind (wpAny_field hz rfl (x:=.ref TO) rfl ?_)))
 refine wpAny_bind (wpAny_setField_rec hz (by simp) fun g1 hz1 e1=>?_)
 replace hz1:bp g1 z TI TO .ellipsis fl:=hz1
 replace e1:Heap.SameBut z s.heap g1:=e1
 refine wpAny_bind ?_
 simp only [List.zipIdx_cons,List.zipIdx_nil,List.forIn_cons,List.forIn_nil]
 refine wpAny_bind (wpAny_bind (wpAny_onRaise ?_))
 have q1:S1 k g1:=D1.frame _ _ _ h1 fun c hc o q=>e1.extBut c o (fun y=>D.z1 (y ▸ hc)) q
 have q2:S2 k g1:=D2.frame _ _ _ h2 fun c hc o q=>e1.extBut c o (fun y=>D.z2 (y ▸ hc)) q
 refine (show wpAny _ _ (Builtin.SmallTypes.nextOf (.ref i1)>>=_) _ _ _ from wpAny_bind (D1.item k _ _ _ l1 q1 fun x g2 t2 p1 q1' e2=>wpAny_pure ?_))
 replace e2:Heap.SameBut i1 g1 g2:=e2
 have hTO2:IsPair g2 TO a b:=e2.extBut _ _ D.TOi1 (e1.extBut _ _ D.TOz hTO)
 refine wpAny_bind (wpAny_seqItems hTO2 rfl (wpAny_bind (wpAny_updateSeq_pair hTO2 fun g3 hTO3 e3=>?_)))
 replace hTO3:IsPair g3 TO x b:=hTO3
 replace e3:Heap.SameBut TO g2 g3:=e3
 refine wpAny_bind (wpAny_letGo (wpAny_pure ?_))
 refine wpAny_bind (wpAny_bind (wpAny_onRaise ?_))
 have r1:S1 (k+1) g3:=D1.frame _ _ _ q1' fun c hc o q=>e3.extBut c o (fun y=>D.TO1 (y ▸ hc)) q
 have r2:S2 k g3:=D2.frame _ _ _ q2 fun c hc o q=>e3.extBut c o (fun y=>D.TO2 (y ▸ hc)) (e2.extBut c o (fun y=>D.i12 (y ▸ hc)) q)
 refine (show wpAny _ _ (Builtin.SmallTypes.nextOf (.ref i2)>>=_) _ _ _ from wpAny_bind (D2.item k _ _ _ l2 r2 fun y g4 t4 p2 r2' e4=>wpAny_pure ?_))
 replace e4:Heap.SameBut i2 g3 g4:=e4
 have hTO4:IsPair g4 TO x b:=e4.extBut _ _ D.TOi2 hTO3
 refine wpAny_bind (wpAny_seqItems hTO4 rfl (wpAny_bind (wpAny_updateSeq_pair hTO4 fun g5 hTO5 e5=>?_)))
 replace hTO5:IsPair g5 TO x y:=hTO5
 replace e5:Heap.SameBut TO g4 g5:=e5
 refine wpAny_bind (wpAny_letGo (wpAny_pure (wpAny_pure ?_)))
 refine wpAny_bind (wpAny_seqItems hTO5 rfl (wpAny_bind (wpAny_newTuple ?_)))
 have hsz:g5.objs.size=s.heap.objs.size:=by rw [e5.1,e4.1,e3.1,e2.1,e1.1]
 have hz5:bp g5 z TI TO .ellipsis fl:=e5.extBut _ _ D.TOz.symm (e4.extBut _ _ D.i2z.symm (e3.extBut _ _ D.TOz.symm (e2.extBut _ _ D.i1z.symm hz1)))
 have k5:∀ c o,c≠z→c≠TO→c≠i1→c≠i2→s.heap.get? c=some o→g5.get? c=some o:=fun c o c1 c2 c3 c4 q=>
  e5.extBut _ _ c2 (e4.extBut _ _ c4 (e3.extBut _ _ c2 (e2.extBut _ _ c3 (e1.extBut _ _ c1 q))))
 have u1:S1 (k+1) g5:=D1.frame _ _ _ r1 fun c hc o q=>e5.extBut c o (fun y=>D.TO1 (y ▸ hc)) (e4.extBut c o (fun y=>D.i21 (y ▸ hc)) q)
 have u2:S2 (k+1) g5:=D2.frame _ _ _ r2' fun c hc o q=>e5.extBut c o (fun y=>D.TO2 (y ▸ hc)) q
 have hzl:z < g5.objs.size:=Heap.lt_size hz5
 refine (show wpAny _ _ (Builtin.SmallTypes.ownedTupleHandOut (.ref z) (.ref g5.objs.size)>>=_) _ _ _ from wpAny_bind ?_)
 unfold Builtin.SmallTypes.ownedTupleHandOut
 have hz6:bp (g5.push { cls:=.type "tuple",data:=.seq #[x,y] }) z TI TO .ellipsis fl:=Heap.get?_push_of_some _ hz5
 refine wpAny_bind (wpAny_setField_rec hz6 (by simp) fun g7 hz7 e7=>?_)
 replace hz7:bp g7 z TI TO (rawInt g5.objs.size) fl:=hz7
 refine wpAny_setField_rec hz7 (by simp) fun g8 hz8 e8=>?_
 replace hz8:IsZip g8 z TI TO (rawInt g5.objs.size):=hz8
 replace e7:Heap.SameBut z (g5.push { cls:=.type "tuple",data:=.seq #[x,y] }) g7:=e7
 replace e8:Heap.SameBut z g7 g8:=e8
 have up:∀ c o,c≠z→g5.get? c=some o→g8.get? c=some o:=fun c o c1 q=>e8.extBut _ _ c1 (e7.extBut _ _ c1 (Heap.get?_push_of_some _ q))
 have hT8:IsPair g8 g5.objs.size x y:=e8.extBut _ _ (Nat.ne_of_gt hzl) (e7.extBut _ _ (Nat.ne_of_gt hzl) (Heap.get?_push_size _ rfl))
 have z8:g8.objs.size=g5.objs.size+1:=by rw [e8.1,e7.1,Heap.size_push]
 rw [hsz] at hz8 hT8 z8
 refine wpAny_pure ⟨_,rfl,?_⟩
 show Q (.ref g5.objs.size) _
 rw [hsz]
 exact hQ x y g8 _ p1 p2 hz8 (up _ _ D.TIz (k5 _ _ D.TIz D.TITO D.TI1 D.TI2 hTI)) (up _ _ D.TOz hTO5) (D1.frame _ _ _ u1 fun c hc o q=>up c o (fun y=>D.z1 (y ▸ hc)) q) (D2.frame _ _ _ u2 fun c hc o q=>up c o (fun y=>D.z2 (y ▸ hc)) q) hT8 z8
  fun c o c1 c2 c3 c4 q=>up c o c1 (k5 c o c1 c2 c3 c4 q)
theorem lC (D:ba z TI TO i1 i2 fp1 fp2) (D1:Draws prog w A i1 fp1 n1 P1 S1) (D2:Draws prog w A i2 fp2 n2 P2 S2) (hz:bp s.heap z TI TO own fl) (hfr:eY s.heap own) (hTI:IsPair s.heap TI (.ref i1) (.ref i2)) (hTO:IsPair s.heap TO a b)
  (h1:S1 k s.heap) (h2:S2 k s.heap) (hend:k=n1∨(k < n1∧k=n2))
  (hE:∀ h' e tk,(∀ c o,c≠z→c≠TO→c≠i1→c≠i2→s.heap.get? c=some o→h'.get? c=some o)→(∃ o,h'.get? e=some o∧o.cls=.type "StopIteration")→E (.ref e) { s with heap:=h',toks:=tk }) :
  wpAny (model prog w) A (Builtin.«zip.__next__» ⟨[.ref z],[]⟩) Q E s:=by
 refine (show wpAny _ _ (field (.ref z) 2>>=_) _ _ _ from wpAny_bind (wpAny_field hz rfl (x:=.bool false) rfl ?_))
 refine (show wpAny _ _ (field (.ref z) 3>>=_) _ _ _ from wpAny_bind (wpAny_field hz rfl (x:=.ref TI) rfl ?_))
 refine wpAny_bind (wpAny_seqItems hTI rfl ?_)
 refine (show wpAny _ _ (Builtin.SmallTypes.ownedTupleIsFree (.ref z)>>=_) _ _ _ from wpAny_bind (h8 hz hfr ?_))
 simp only [if_true]
 refine wpAny_bind (wpAny_rule (wpAny_bind (wpAny_field hz rfl (x:=.ref TO) rfl ?_)))
 refine wpAny_bind (wpAny_setField_rec hz (by simp) fun g1 hz1 e1=>?_)
 replace hz1:bp g1 z TI TO .ellipsis fl:=hz1
 replace e1:Heap.SameBut z s.heap g1:=e1
 refine wpAny_bind ?_
 simp only [List.zipIdx_cons,List.zipIdx_nil,List.forIn_cons,List.forIn_nil]
 refine wpAny_bind (wpAny_bind (wpAny_onRaise ?_))
 have q1:S1 k g1:=D1.frame _ _ _ h1 fun c hc o q=>e1.extBut c o (fun y=>D.z1 (y ▸ hc)) q
 have q2:S2 k g1:=D2.frame _ _ _ h2 fun c hc o q=>e1.extBut c o (fun y=>D.z2 (y ▸ hc)) q
 rcases hend with hk | ⟨hk,hk2⟩
 ·subst hk
  refine (show wpAny _ _ (Builtin.SmallTypes.nextOf (.ref i1)>>=_) _ _ _ from wpAny_bind (D1.done _ _ _ q1 fun g2 e e2 he=>?_))
  obtain ⟨oe,hoe,hce⟩:=he
  replace e2:Heap.ExtBut i1 g1 g2:=e2
  have hz2:bp g2 z TI TO .ellipsis fl:=e2 _ _ D.i1z.symm hz1
  have hez:e≠z:=fun x=>by subst x;rw [hz2] at hoe;cases hoe;simp at hce
  refine wpAny_setField_rec hz2 (by simp) fun g3 _ e3=>hE g3 e _ (fun c o c1 _ c3 _ q=>e3.extBut _ _ c1 (e2 _ _ c3 (e1.extBut _ _ c1 q))) ⟨oe,e3.extBut _ _ hez hoe,hce⟩
 ·subst hk2
  refine (show wpAny _ _ (Builtin.SmallTypes.nextOf (.ref i1)>>=_) _ _ _ from wpAny_bind (D1.item k _ _ _ hk q1 fun x g2 t2 p1 q1' e2=>wpAny_pure ?_))
  replace e2:Heap.SameBut i1 g1 g2:=e2
  have hTO2:IsPair g2 TO a b:=e2.extBut _ _ D.TOi1 (e1.extBut _ _ D.TOz hTO)
  refine wpAny_bind (wpAny_seqItems hTO2 rfl (wpAny_bind (wpAny_updateSeq_pair hTO2 fun g3 hTO3 e3=>?_)))
  replace e3:Heap.SameBut TO g2 g3:=e3
  refine wpAny_bind (wpAny_letGo (wpAny_pure ?_))
  refine wpAny_bind (wpAny_bind (wpAny_onRaise ?_))
  have r2:S2 k g3:=D2.frame _ _ _ q2 fun c hc o q=>e3.extBut c o (fun y=>D.TO2 (y ▸ hc)) (e2.extBut c o (fun y=>D.i12 (y ▸ hc)) q)
  refine (show wpAny _ _ (Builtin.SmallTypes.nextOf (.ref i2)>>=_) _ _ _ from wpAny_bind (D2.done _ _ _ r2 fun g4 e e4 he=>?_))
  obtain ⟨oe,hoe,hce⟩:=he
  replace e4:Heap.ExtBut i2 g3 g4:=e4
  have hz4:bp g4 z TI TO .ellipsis fl:=e4 _ _ D.i2z.symm (e3.extBut _ _ D.TOz.symm (e2.extBut _ _ D.i1z.symm hz1))
  have hez:e≠z:=fun x=>by subst x;rw [hz4] at hoe;cases hoe;simp at hce
  refine wpAny_setField_rec hz4 (by simp) fun g5 _ e5=>hE g5 e _ (fun c o c1 c2 c3 c4 q=>e5.extBut _ _ c1 (e4 _ _ c4 (e3.extBut _ _ c2 (e2.extBut _ _ c3 (e1.extBut _ _ c1 q))))) ⟨oe,e5.extBut _ _ hez hoe,hce⟩
end
section
variable {prog:Program} {w:World} {A:Around} {E:Value→Shared→Prop} {s:Shared} {z TI TO i1 i2:Addr} {fp1 fp2:List Addr} {n1 n2 k:Nat} {P1 P2:Nat→Value→Prop} {S1 S2:Nat→Heap→Prop} {a b:Value}
theorem jA (D:ba z TI TO i1 i2 fp1 fp2) (D1:Draws prog w A.in1 i1 fp1 n1 P1 S1) (D2:Draws prog w A.in1 i2 fp2 n2 P2 S2) (hz:bp s.heap z TI TO own fl) (hfr:eY s.heap own) (hTI:IsPair s.heap TI (.ref i1) (.ref i2)) (hTO:IsPair s.heap TO a b)
  (h1:S1 k s.heap) (h2:S2 k s.heap) (l1:k < n1) (l2:k < n2)
  (hQ:∀ x y h' tk,P1 k x→P2 k y→IsZip h' z TI TO (rawInt s.heap.objs.size)→IsPair h' TI (.ref i1) (.ref i2)→IsPair h' TO x y→S1 (k+1) h'→S2 (k+1) h'→IsPair h' s.heap.objs.size x y→h'.objs.size=s.heap.objs.size+1 →
   (∀ c o,c≠z→c≠TO→c≠i1→c≠i2→s.heap.get? c=some o→h'.get? c=some o)→Q (some (.ref s.heap.objs.size)) { s with heap:=h',toks:=tk }) :
  wpAny (model prog w) A (pyNext (.ref z)) Q E s:=by
 have hT:s.TypeIs (.ref z) "zip":=⟨_,hz,rfl⟩
 unfold pyNext
 exact wpAny_bind (wpAny_attempt (wpAny_callSpecial?_slot (name:=Str.ofString "__next__") hT F.slot_zip_next (wpAny_call_entry F.slot_zip_next hT F.entry_zip_next
  (jI D D1 D2 hz hfr hTI hTO h1 h2 l1 l2 fun x y h' tk a1 a2 a3 a4 a5 a6 a7 a8 a9 a10=>wpAny_pure (hQ x y h' tk a1 a2 a3 a4 a5 a6 a7 a8 a9 a10)) (F.args_zip_next_1 _))))
theorem k9 (D:ba z TI TO i1 i2 fp1 fp2) (D1:Draws prog w A.in1 i1 fp1 n1 P1 S1) (D2:Draws prog w A.in1 i2 fp2 n2 P2 S2) (hz:bp s.heap z TI TO own fl) (hfr:eY s.heap own) (hTI:IsPair s.heap TI (.ref i1) (.ref i2)) (hTO:IsPair s.heap TO a b)
  (h1:S1 k s.heap) (h2:S2 k s.heap) (hend:k=n1∨(k < n1∧k=n2))
  (hQ:∀ h' tk,(∀ c o,c≠z→c≠TO→c≠i1→c≠i2→s.heap.get? c=some o→h'.get? c=some o)→Q none { s with heap:=h',toks:=tk }):wpAny (model prog w) A (pyNext (.ref z)) Q E s:=by
 have hT:s.TypeIs (.ref z) "zip":=⟨_,hz,rfl⟩
 unfold pyNext
 refine wpAny_bind (wpAny_attempt (wpAny_callSpecial?_slot (name:=Str.ofString "__next__") hT F.slot_zip_next (wpAny_call_entry F.slot_zip_next hT F.entry_zip_next
  (lC D D1 D2 hz hfr hTI hTO h1 h2 hend fun h' e tk hk he=>?_) (F.args_zip_next_1 _))))
 obtain ⟨o,ho,hc⟩:=he
 exact wpAny_bind (wpAny_isInstance (T:="StopIteration") (b:=true) ⟨o,ho,hc⟩ isSubtype_stop (wpAny_pure (hQ _ tk hk)))
end
theorem ke (ht:∀ c∈[N+4,N+2,N+3,N,N+1],t≠c) (hu:∀ c∈[N+4,N+2,N+3,N,N+1],u≠c):ba (N+4) (N+2) (N+3) N (N+1) [N,t] [N+1,u]:=by
 have d:∀ i j:Nat,i≠j→(N+i:Nat)≠N+j:=fun i j h e=>h (Nat.add_left_cancel e)
 have t4:=ht (N+4) (by simp);have t3:=ht (N+3) (by simp);have t1:=ht (N+1) (by simp)
 have u4:=hu (N+4) (by simp);have u3:=hu (N+3) (by simp);have u0:=hu N (by simp)
 refine ⟨d 2 4 (by decide),d 3 4 (by decide),d 2 3 (by decide),fun h=>?_,fun h=>?_,fun h=>?_,fun h=>?_,fun h=>?_,fun h=>?_,by simp,by simp,d 2 0 (by decide),d 2 1 (by decide)⟩
 ·rcases List.mem_cons.mp h with z | z
  ·exact d 4 0 (by decide) z
  ·exact t4 (List.mem_singleton.mp z).symm
 ·rcases List.mem_cons.mp h with z | z
  ·exact d 4 1 (by decide) z
  ·exact u4 (List.mem_singleton.mp z).symm
 ·rcases List.mem_cons.mp h with z | z
  ·exact d 3 0 (by decide) z
  ·exact t3 (List.mem_singleton.mp z).symm
 ·rcases List.mem_cons.mp h with z | z
  ·exact d 3 1 (by decide) z
  ·exact u3 (List.mem_singleton.mp z).symm
 ·rcases List.mem_cons.mp h with z | z
  ·exact d 0 1 (by decide) z
  ·exact u0 (List.mem_singleton.mp z).symm
 ·rcases List.mem_cons.mp h with z | z
  ·exact d 1 0 (by decide) z
  ·exact t1 (List.mem_singleton.mp z).symm
section
variable {prog:Program} {w:World} {A:Around} {E:Value→Shared→Prop} {s:Shared}
theorem rf {ws:List Value} (ht:IsTup s.heap t ([]:List Value).toArray) (hb:IsTup s.heap b ws.toArray) (h:Q (.ref b) s):wpAny (model prog w) A (binaryOp .Add (.ref t) (.ref b)) Q E s:=by
 obtain ⟨⟨cls,dd,data,sl⟩,ho,hc,n,hd⟩:=id ht
 obtain ⟨⟨cls2,dd2,data2,sl2⟩,ho2,hc2,n2,hd2⟩:=id hb
 simp only at hc hd hc2 hd2
 subst hc hd hc2 hd2
 exact concat_meets ⟨_,ho,rfl⟩ ⟨_,ho2,rfl⟩ noFill_tuple_add seq_tuple_add PySem.F.slot_tuple_add PySem.F.entry_tuple_add (PySem.F.args_tuple_add_2 _ _) (tuple_addW0 t b _ _ n n2 dd dd2 sl sl2 (by simp)) ⟨ho,ho2,h⟩
end
section
variable {X:Cx}
def qG (n:Nat) (lo hi:Option Int):Prop:=HT.sIx n 0 lo=0∧HT.sIx n n hi=n
instance (n:Nat) (lo hi:Option Int):Decidable (qG n lo hi):=inferInstanceAs (Decidable (_∧_))
def oE (K:PySem.W.Frag):R2:=fun x y H Q=>∃ a b xs ys,x=.ref a∧y=.ref b∧SqT K H a xs∧SqT K H b ys∧xs.length+ys.length≤sizeLine ∧
 (xs=[]→Q (.ref b) H)∧(xs≠[]→ys=[]→Q (.ref a) H)∧(xs≠[]→ys≠[]→∀ p,H p=none→Q (.ref p) (upd H p (.tup (xs++ys))))
theorem kZ:OpR X (binaryOp .Add) (oE X.K):=by
 intro pins s σ H x y v u Q I rx ry h
 obtain ⟨a,b,xs,ys,rfl,rfl,ha,hb,hz,q1,q2,q3⟩:=h
 by_cases hx:xs=[]
 ·cases rx
  cases ry
  obtain ⟨its,r1,p1,_⟩:=I.tuple ha
  obtain ⟨its2,r2,p2,_⟩:=I.tuple hb
  obtain rfl:its=[]:=r1.ed.mpr hx
  exact rf p1 p2 ⟨.ref b,H,I,rfl,q1 hx⟩
 ·exact mT pins s σ H (.ref a) (.ref b) v u Q I rx ry ⟨a,b,xs,ys,rfl,rfl,ha,hb,hx,hz,q2 hx,q3 hx⟩
def kH:R2:=fun x y H Q=>∃ d e,Rep H x d∧Rep H y e∧D.depth d≤50∧((∃ ds es,d=.tup ds∧e=.tup es)∨∃ ds es,d=.lst ds∧e=.lst es)∧Q (.bl (D.eqv d e)) H
def k7:R2:=fun x y H Q=>∃ d e,Rep H x d∧Rep H y e∧D.depth d≤50∧((∃ ds es,d=.tup ds∧e=.tup es)∨∃ ds es,d=.lst ds∧e=.lst es)∧Q (.bl (!D.eqv d e)) H
theorem dj {A:Around} {ds es:List D} {its its2:List Value} (I:Inv X pins σ H s) (hu:A.units+64 < cLine) (hd:D.bG ds≤50) (r1:Vals vs its) (r2:Vals us its2) (q1:ah H vs ds) (q2:ah H us es) :
  ∀ j (h1:j < its.toArray.size) (h2:j < its2.toArray.size),SeqAt.EqAt A.in1 s its.toArray[j] its2.toArray[j] (D.eqv (ds.getD j .non) (es.getD j .non)):=by
 intro j h1 h2
 have h1':j < its.length:=by simpa using h1
 have h2':j < its2.length:=by simpa using h2
 have l1:=r1.length
 have l2:=r2.length
 have e1:vs[j]?=some (vs[j]'(by omega)):=List.getElem?_eq_getElem _
 have e2:us[j]?=some (us[j]'(by omega)):=List.getElem?_eq_getElem _
 obtain ⟨a1,b1,c1⟩:=r1.get e1
 obtain ⟨a2,b2,c2⟩:=r2.get e2
 obtain ⟨f1,g1,k1⟩:=q1.get e1
 obtain ⟨f2,g2,k2⟩:=q2.get e2
 have z1:its.toArray[j]=a1:=by
  have:its[j]?=some its[j]:=List.getElem?_eq_getElem h1'
  rw [b1] at this
  simpa using (Option.some.inj this).symm
 have z2:its2.toArray[j]=a2:=by
  have:its2[j]?=some its2[j]:=List.getElem?_eq_getElem h2'
  rw [b2] at this
  simpa using (Option.some.inj this).symm
 rw [z1,z2,List.getD_eq_getElem?_getD,List.getD_eq_getElem?_getD,g1,g2]
 exact jt I 60 A.in1 _ _ _ _ _ _ (by show A.units+1+60 < cLine;omega) (Nat.le_trans (D.cE g1) (by omega)) c1 c2 k1 k2
theorem qp (hu:X.A.units+64 < cLine):OpR X (compareOp .Eq) kH:=by
 intro pins s σ H x y v u Q I rx ry h
 obtain ⟨d,e,r1,r2,hd,hk,q⟩:=h
 rcases hk with ⟨ds,es,rfl,rfl⟩ | ⟨ds,es,rfl,rfl⟩
 ·cases r1 with
  | tup h1 q1=>
   cases r2 with
   | tup h2 q2=>
    cases rx;cases ry
    obtain ⟨its,rv1,p1,_⟩:=I.tuple (SqT.of h1)
    obtain ⟨its2,rv2,p2,_⟩:=I.tuple (SqT.of h2)
    refine SeqAt.eq_tupleAt (e:=fun j=>D.eqv (ds.getD j .non) (es.getD j .non)) p1 p2 (by omega) (dj I hu (by simp only [D.depth] at hd;omega) rv1 rv2 q1 q2) ⟨.bl _,H,I,rfl,?_⟩
    rw [List.size_toArray,List.size_toArray,← rv1.length,← rv2.length,q1.length,q2.length,← D.aS]
    simpa only [D.eqv] using q
 ·cases r1 with
  | lst h1 q1=>
   cases r2 with
   | lst h2 q2=>
    cases rx;cases ry
    obtain ⟨its,rv1,p1,_⟩:=I.list (SqL.of h1)
    obtain ⟨its2,rv2,p2,_⟩:=I.list (SqL.of h2)
    have l1:=rv1.length
    have l2:=rv2.length
    have m1:=q1.length
    have m2:=q2.length
    by_cases hl:ds.length=es.length
    ·refine SeqAt.eq_listAt (e:=fun j=>D.eqv (ds.getD j .non) (es.getD j .non)) p1.isList p2.isList (by simp;omega) (by omega) (dj I hu (by simp only [D.depth] at hd;omega) rv1 rv2 q1 q2) ⟨.bl _,H,I,rfl,?_⟩
     have z:D.bH ds es=(List.range its.toArray.size).all fun j=>D.eqv (ds.getD j .non) (es.getD j .non):=by
      rw [D.aS,← hl,Nat.min_self,List.size_toArray,← l1,m1];simp
     rw [← z]
     simpa only [D.eqv] using q
    ·refine SeqAt.eq_list_lengthsAt p1.isList p2.isList (by simp;omega) (by omega) ⟨.bl _,H,I,rfl,?_⟩
     have z:D.bH ds es=false:=by rw [D.aS];simp [hl]
     simpa only [D.eqv,z] using q
theorem pU (hu:X.A.units+64 < cLine):OpR X (compareOp .NotEq) k7:=by
 intro pins s σ H x y v u Q I rx ry h
 obtain ⟨d,e,r1,r2,hd,hk,q⟩:=h
 rcases hk with ⟨ds,es,rfl,rfl⟩ | ⟨ds,es,rfl,rfl⟩
 ·cases r1 with
  | tup h1 q1=>
   cases r2 with
   | tup h2 q2=>
    cases rx;cases ry
    obtain ⟨its,rv1,p1,_⟩:=I.tuple (SqT.of h1)
    obtain ⟨its2,rv2,p2,_⟩:=I.tuple (SqT.of h2)
    refine SeqAt.RcNeAt.tuples (e:=fun j=>D.eqv (ds.getD j .non) (es.getD j .non)) p1 p2 (by omega) (dj I hu (by simp only [D.depth] at hd;omega) rv1 rv2 q1 q2) _ _ _ _ ⟨.bl _,H,I,rfl,?_⟩
    rw [List.size_toArray,List.size_toArray,← rv1.length,← rv2.length,q1.length,q2.length,← D.aS]
    simpa only [D.eqv] using q
 ·cases r1 with
  | lst h1 q1=>
   cases r2 with
   | lst h2 q2=>
    cases rx;cases ry
    obtain ⟨its,rv1,p1,_⟩:=I.list (SqL.of h1)
    obtain ⟨its2,rv2,p2,_⟩:=I.list (SqL.of h2)
    have l1:=rv1.length
    have l2:=rv2.length
    have m1:=q1.length
    have m2:=q2.length
    by_cases hl:ds.length=es.length
    ·refine SeqAt.RcNeAt.lists (e:=fun j=>D.eqv (ds.getD j .non) (es.getD j .non)) p1.isList p2.isList (by simp;omega) (by omega) (dj I hu (by simp only [D.depth] at hd;omega) rv1 rv2 q1 q2) _ _ _ _ ⟨.bl _,H,I,rfl,?_⟩
     have z:D.bH ds es=(List.range its.toArray.size).all fun j=>D.eqv (ds.getD j .non) (es.getD j .non):=by
      rw [D.aS,← hl,Nat.min_self,List.size_toArray,← l1,m1];simp
     rw [← z]
     simpa only [D.eqv] using q
    ·refine SeqAt.RcNeAt.lists_lengths p1.isList p2.isList (by simp;omega) (by omega) _ _ _ _ ⟨.bl _,H,I,rfl,?_⟩
     have z:D.bH ds es=false:=by rw [D.aS];simp [hl]
     simpa only [D.eqv,z,Bool.not_false] using q
theorem qK (hu:X.A.units+64 < cLine):OpR X (compareOp .Eq) (fun x y H Q=>rEq x y H Q∨kH x y H Q):=tR.or (qp hu)
theorem qR (hu:X.A.units+64 < cLine):OpR X (compareOp .NotEq) (fun x y H Q=>rNe x y H Q∨k7 x y H Q):=r9.or (pU hu)
theorem ql:OpR X (compareOp .Is) (fun x y H Q=>lA x y H Q∨(y=.non∧Q (.bl (decide (x=.non))) H)):=kA.or oT
theorem fk:∀ {bs:List Bool} {us:List Value},Vals (bs.map V.bl) us→us=bs.map Value.bool
 | [],_,h=>by cases h;rfl
 | b :: bs,_,h=>by
  cases h with
  | cons r t=>cases r;rw [fk t];rfl
end
def cP (H:Hp) (p:Addr):Option (List V):=match H p with
 | some (.lst xs)=>some xs
 | some (.tup xs)=>some xs
 | _=>none
theorem qu (h:H p=some (.tup xs)):cP H p=some xs:=by unfold cP;rw [h]
theorem qg (h:H p=some (.lst xs)):cP H p=some xs:=by unfold cP;rw [h]
theorem eh (h:cP H p=some xs):H p=some (.lst xs)∨H p=some (.tup xs):=by
 unfold cP at h
 split at h
 ·cases h;exact .inl ‹_›
 ·cases h;exact .inr ‹_›
 ·cases h
section
variable {X:Cx}
def lD:R2:=fun x y H Q=>∃ p i xs v,x=.ref p∧y=.int i∧cP H p=some xs∧atI xs i=some v∧Q v H
theorem qS:IxR X lD:=by
 intro value slice pins s σ H x y v u Q I rx ry q hs
 obtain ⟨p,i,xs,w',rfl,rfl,h,e,q⟩:=q
 rcases eh h with h | h
 ·exact m3 value slice pins s σ H _ _ v u Q I rx ry ⟨p,xs,i,w',rfl,rfl,SqL.of h,e,q⟩ hs
 ·exact pJ value slice pins s σ H _ _ v u Q I rx ry ⟨p,xs,i,w',rfl,rfl,SqT.of h,e,q⟩ hs
def lU:List V→Hp→VK→Prop:=fun vs H Q=>∃ p xs,vs=[.ref p]∧cP H p=some xs∧Q (.int xs.length) H
theorem bT:cU X (.builtin "len") lU:=by
 intro pins s σ H vs us Q I r h
 obtain ⟨p,xs,rfl,h,q⟩:=h
 rcases eh h with h | h
 ·exact gm pins s σ H _ us Q I r ⟨_,_,rfl,.inl ⟨xs,SqL.of h,rfl⟩,q⟩
 ·exact gm pins s σ H _ us Q I r ⟨_,_,rfl,.inr ⟨xs,SqT.of h,rfl⟩,q⟩
def ju:List V→Hp→VK→Prop:=fun vs H Q=>∃ p xs,vs=[.ref p]∧cP H p=some xs∧∀ l,H l=none→Q (.ref l) (upd H l (.lst xs))
theorem i9:cU X (.type "list") ju:=by
 intro pins s σ H vs us Q I r h
 obtain ⟨p,xs,rfl,h,q⟩:=h
 rcases eh h with h | h
 ·exact dX pins s σ H _ us Q I r ⟨p,xs,rfl,.inl (SqL.of h),q⟩
 ·exact dX pins s σ H _ us Q I r ⟨p,xs,rfl,.inr (SqT.of h),q⟩
def qv (neg:Bool):R2:=fun x y H Q=>∃ p xs,y=.ref p∧cP H p=some xs∧bN x=true∧xs.all bN=true∧Q (.bl (if neg then !inV x xs else inV x xs)) H
theorem jS:OpR X (compareOp .NotIn) (qv true):=by
 intro pins s σ H x y v u Q I rx ry h
 obtain ⟨p,xs,rfl,h,f1,f2,q⟩:=h
 rcases eh h with h | h
 ·exact dZ pins s σ H _ _ v u Q I rx ry ⟨p,xs,rfl,.inl (SqL.of h),f1,f2,q⟩
 ·exact dZ pins s σ H _ _ v u Q I rx ry ⟨p,xs,rfl,.inr (SqT.of h),f1,f2,q⟩
def l9:R2:=fun x y H Q=>(∃ i j,x=.int i∧y=.int j∧Q (.int (i+j)) H)∨∃ a b,x=.ref a∧y=.ref b ∧
  ((∃ xs ys,H a=some (.tup xs)∧H b=some (.tup ys)∧xs.length+ys.length≤sizeLine∧(xs=[]→Q (.ref b) H)∧(xs≠[]→ys=[]→Q (.ref a) H)∧(xs≠[]→ys≠[]→∀ p,H p=none→Q (.ref p) (upd H p (.tup (xs++ys))))) ∨
   ∃ xs ys,H a=some (.lst xs)∧H b=some (.lst ys)∧xs.length+ys.length≤sizeLine∧∀ p,H p=none→Q (.ref p) (upd H p (.lst (xs++ys))))
theorem m7:OpR X (binaryOp .Add) l9:=by
 intro pins s σ H x y v u Q I rx ry h
 rcases h with ⟨i,j,rfl,rfl,q⟩ | ⟨a,b,rfl,rfl,⟨xs,ys,h1,h2,hz,q1,q2,q3⟩ | ⟨xs,ys,h1,h2,hz,q⟩⟩
 ·exact qL pins s σ H _ _ v u Q I rx ry ⟨i,j,rfl,rfl,q⟩
 ·exact kZ pins s σ H _ _ v u Q I rx ry ⟨a,b,xs,ys,rfl,rfl,SqT.of h1,SqT.of h2,hz,q1,q2,q3⟩
 ·exact oz pins s σ H _ _ v u Q I rx ry ⟨a,b,xs,ys,rfl,rfl,h1,h2,hz,q⟩
def rg:R2:=fun x y H Q=>rEq x y H Q∨kH x y H Q
def p_:R2:=fun x y H Q=>rNe x y H Q∨k7 x y H Q
theorem gO (hu:X.A.units+64 < cLine):OpR X (compareOp .Eq) rg:=qK hu
theorem dN (hu:X.A.units+64 < cLine):OpR X (compareOp .NotEq) p_:=qR hu
def qw:R2:=fun x y H Q=>lA x y H Q∨(y=.non∧Q (.bl (decide (x=.non))) H)
theorem j8:OpR X (compareOp .Is) qw:=ql
end
theorem jc {n:Nat} {k:Int} (h0:0≤k) (h:k < (n:Int)):ixN n k=some k.toNat:=by
 unfold ixN
 rw [if_pos h0,if_pos h]
class NS (e:Expr):Prop where
 eq:∀ (es:List Expr) (env:Env),starEach (e :: es) env=(false,eval e env) :: starEach es env
instance {c:Const} {k:Nat} {p:Pos}:NS (.Constant c k p):=⟨fun _ _=>rfl⟩
instance {x:Str} {p:Pos}:NS (.Name x p):=⟨fun _ _=>rfl⟩
instance {es:List Expr} {k:Nat} {p:Pos}:NS (.Tuple es k p):=⟨fun _ _=>rfl⟩
instance {es:List Expr} {p:Pos}:NS (.List es p):=⟨fun _ _=>rfl⟩
instance {a:Expr} {o:Operator} {b:Expr} {p:Pos}:NS (.BinOp a o b p):=⟨fun _ _=>rfl⟩
instance {o:UnaryOp} {a:Expr} {p:Pos}:NS (.UnaryOp o a p):=⟨fun _ _=>rfl⟩
instance {f:Expr} {es:List Expr} {ks:List Keyword} {p:Pos}:NS (.Call f es ks p):=⟨fun _ _=>rfl⟩
instance {a b:Expr} {p:Pos}:NS (.Subscript a b p):=⟨fun _ _=>rfl⟩
instance {a:Expr} {os:List CmpOp} {bs:List Expr} {p:Pos}:NS (.Compare a os bs p):=⟨fun _ _=>rfl⟩
instance {o:BoolOp} {es:List Expr} {p:Pos}:NS (.BoolOp o es p):=⟨fun _ _=>rfl⟩
instance {a b c:Expr} {p:Pos}:NS (.IfExp a b c p):=⟨fun _ _=>rfl⟩
instance {e:Expr} {gs:List Comprehension} {sc:Scope} {p:Pos}:NS (.ListComp e gs sc p):=⟨fun _ _=>rfl⟩
structure PL (X:Cx) (es:List Expr) (t:TA):Prop where
 h:PA X es t
section
variable {X:Cx}
def tLm (r:V→List V→Hp→VK→Prop) (to te:TE):TE:=fun σ H Q=>to σ H fun x H1=>∃ l xs0,x=.ref l∧H1 l=some (.lst xs0)∧te σ H1 fun y H2=>r (.ref l) [y] H2 Q
theorem so {r:V→List V→Hp→VK→Prop} {name:Str} {id:String} {o e:Expr} {to te:TE} {apos cpos:Pos} (slot:Slot "list" name id) (hty:typeOf (.builtin id)=pure (.type "method_descriptor")) (hm:MtM X id r) (ho:PE X o to) (he:PE X e te)
  (hbase:attributeBase o name X.env (eval o X.env)=eval o X.env:=by rfl)
  (hfew:((backTo cpos (starEach [e] X.env)).all (fun x=>!x.1) && (backToKw cpos (keywordEach [] X.env)).all (fun x=>x.1.isSome) && decide ([e].length+([]:List Keyword).length+(if ([]:List Keyword).isEmpty then 0 else 1) < 30))=true:=by rfl)
  (hline:(apos.endLine == cpos.line)=true:=by rfl) (hs:starEach [e] X.env=(false,eval e X.env) :: starEach [] X.env:=by rfl):PE X (.Call (.Attribute o name apos) [e] [] cpos) (tLm r to te):=by
 intro pins s σ H Q I h
 refine wpAny_Call_method_late hbase hfew hline rfl (thn (ho pins s σ H _ I h) fun v s1 ⟨x,H1,I1,r1,l,xs0,e0,hl,q1⟩=>?_)
 subst e0
 have ty:tyV X.K "list" (.ref l) H1:=.inl ⟨rfl,_,SqL.of hl⟩
 obtain ⟨h1,h2⟩:=rE I1 r1 ty
 refine ⟨"list",_,PySem.F.plainAttrs_list,slot,hty,h1,h2,?_⟩
 have hA:=(bt he cO hs) cpos pins s1 σ H1 (fun vs H2=>∃ y,vs=[y]∧r (.ref l) [y] H2 Q) I1 (by
  refine cast (congrArg (te σ H1) ?_) q1
  funext y H2
  refine propext ⟨fun q=>⟨y,rfl,q⟩,fun ⟨y',e',q⟩=>?_⟩
  cases e'
  exact q)
 rw [hs] at hA ⊢
 refine Calls.callWith_builtin (by show (false || (backTo cpos (starEach ([]:List Expr) X.env)).any (·.1))=false;rfl) (Calls.evalArgs_plain ?_)
 exact thn hA fun us s2 ⟨vs,H2,I2,r2,y,e2,q2⟩=>hm pins s2 σ H2 (.ref l) vs v us Q I2 r1 r2 (by rw [e2];exact q2)
end
section
variable {X:Cx}
theorem lr:∀ {x y:V} {u:Value},RelV x u→RelV y u→x=y:=by
  intro x y u h1 h2
  cases x<;>cases y<;>simp only [RelV] at h1 h2<;>first
    | rfl
    | (subst h1;cases h2;done)
    | (subst h1;cases h2;rfl)
    | (obtain ⟨t,rfl⟩:=h1;cases h2;done)
    | (obtain ⟨t,rfl⟩:=h1;obtain ⟨t2,e⟩:=h2;cases e;rfl)
    | (obtain ⟨t,rfl⟩:=h1;obtain ⟨t2,e⟩:=h2;cases e;done)
    | (obtain ⟨t,rfl⟩:=h2;cases h1;done)
def oP (neg:Bool):R2:=fun x y H Q=>∃ (p:Addr) (vs:List V) (d:D) (ds:List D),y=.ref p∧H p=some (.lst vs)∧ah H vs ds∧Rep H x d∧D.bG ds≤50∧Q (.bl (if neg then !ds.any (fun e=>D.eqv e d) else ds.any fun e=>D.eqv e d)) H
theorem nN (hu:X.A.units+64 < cLine) (I:Inv X pins σ H s) (rx:RelV x v) (hq:H p=some (.lst vs)) (rs:ah H vs ds) (rd:Rep H x d) (hd:D.bG ds≤50) :
  ∃ (its:List Value) (e:Value→Bool),s.heap.IsList p its.toArray∧(∀ y∈its.toArray,SeqAt.EqAt X.A.in1 s y v (e y))∧its.toArray.any e=ds.any fun e=>D.eqv e d:=by
 classical
 obtain ⟨its,r,pl,hz⟩:=I.list (SqL.of hq)
 have l1:=r.length
 have l2:=rs.length
 have key:∀ (j:Nat) (u:Value),its[j]?=some u→∃ (y:V) (e:D),vs[j]?=some y∧ds[j]?=some e∧RelV y u∧Rep H y e:=by
  intro j u hj
  have hlt:=(List.getElem?_eq_some_iff.mp hj).1
  have e1:vs[j]?=some (vs[j]'(by omega)):=List.getElem?_eq_getElem _
  obtain ⟨a1,b1,c1⟩:=r.get e1
  obtain ⟨f1,g1,k1⟩:=rs.get e1
  rw [hj] at b1
  cases b1
  exact ⟨_,f1,e1,g1,c1,k1⟩
 refine ⟨its,fun u=>decide (∃ (j:Nat) (y:V) (e:D),its[j]?=some u∧vs[j]?=some y∧ds[j]?=some e∧D.eqv e d=true),pl.isList,?_,?_⟩
 ·intro u hm
  have hm':u∈its:=by simpa using hm
  obtain ⟨j,hj⟩:=List.mem_iff_getElem?.mp hm'
  obtain ⟨y,e,h1,h2,h3,h4⟩:=key j u hj
  have q:=jt I 60 X.A.in1 y x u v e d (by show X.A.units+1+60 < cLine;omega) (Nat.le_trans (D.cE h2) (by omega)) h3 rx h4 rd
  have z:decide (∃ (j:Nat) (y:V) (e:D),its[j]?=some u∧vs[j]?=some y∧ds[j]?=some e∧D.eqv e d=true)=D.eqv e d:=by
   rw [Bool.eq_iff_iff,decide_eq_true_eq]
   refine ⟨fun ⟨j',y',e',g1,g2,g3,g4⟩=>?_,fun h=>⟨j,y,e,hj,h1,h2,h⟩⟩
   obtain ⟨y2,e2,k1,k2,k3,k4⟩:=key j' u g1
   rw [g2] at k1;cases k1
   rw [g3] at k2;cases k2
   have:=lr h3 k3
   subst this
   rw [Rep.inj h4 k4]
   exact g4
  show SeqAt.EqAt X.A.in1 s u v (decide _)
  rw [z]
  exact q
 ·rw [List.any_toArray,Bool.eq_iff_iff,List.any_eq_true,List.any_eq_true]
  constructor
  ·rintro ⟨u,hu',h⟩
   obtain ⟨j,y,e,g1,g2,g3,g4⟩:=of_decide_eq_true h
   exact ⟨e,List.mem_of_getElem? g3,g4⟩
  ·rintro ⟨e,he,h⟩
   obtain ⟨j,hj⟩:=List.mem_iff_getElem?.mp he
   have hlt:=(List.getElem?_eq_some_iff.mp hj).1
   have e1:its[j]?=some (its[j]'(by omega)):=List.getElem?_eq_getElem _
   obtain ⟨y,e',h1,h2,h3,h4⟩:=key j _ e1
   exact ⟨_,List.mem_of_getElem? e1,decide_eq_true ⟨j,y,e,e1,h1,hj,h⟩⟩
theorem kj (hu:X.A.units+64 < cLine):OpR X (compareOp .NotIn) (oP true):=by
 intro pins s σ H x y v u Q I rx ry h
 obtain ⟨p,vs,d,ds,rfl,hq,rs,rd,hd,q⟩:=h
 cases ry
 obtain ⟨its,e,h1,h2,h3⟩:=nN hu I rx hq rs rd hd
 refine SeqAt.notIn_listAt e h1 h2 ⟨.bl _,H,I,rfl,?_⟩
 rw [h3]
 exact q
end
def Sq (b:Bool) (xs:List V):HO:=match b with
 | true=>.lst xs
 | false=>.tup xs
def cR (b:Bool) (h:Heap) (t:Addr) (xs:Array Value):Prop:=match b with
 | true=>h.IsList t xs
 | false=>h.IsTuple t xs
def cG (b:Bool) (h:Heap) (it t:Addr) (i:Nat):Prop:=match b with
 | true=>h.IsListIter it t i
 | false=>h.IsTupleIter it t i
def sqI (b:Bool) (t:Addr):Obj:={ cls:=.type (match b with | true=>"list_iterator" | false=>"tuple_iterator"),data:=.fields #[.ref t,.int 0 0] }
theorem Inv.sq (I:Inv X pins σ H s) (h:H t=some (Sq b xs)):∃ its:List Value,Vals xs its∧cR b s.heap t its.toArray∧xs.length≤sizeLine:=by
 cases b with
 | true=>obtain ⟨its,rv,p,hz⟩:=I.list (SqL.of h);exact ⟨its,rv,p.isList,hz⟩
 | false=>obtain ⟨its,rv,p,hz⟩:=I.tuple (SqT.of h);exact ⟨its,rv,p,hz⟩
theorem dk (b:Bool) (hh:A.handled=none) (it t:Addr) (hne:t≠it) (items:Array Value):Draws prog w A it [it,t] items.size (fun i v=>items[i]?=some v) (fun i h=>cG b h it t i∧cR b h t items):=by
 cases b with
 | true=>exact Draws.list hh it t hne items
 | false=>exact rC hh it t hne items
theorem ee (x:cG b h it t i):∃ o,h.get? it=some o∧∀ v,o.data≠.cell v:=by
 cases b<;>(obtain ⟨o,e,_,d⟩:=x;exact ⟨o,e,fun v z=>by rw [d] at z;cases z⟩)
theorem eJ (x:cG b h it t i) (k:∀ o,h.get? it=some o→h'.get? it=some o):cG b h' it t i:=by
 cases b<;>(obtain ⟨o,e,r⟩:=x;exact ⟨o,k o e,r⟩)
theorem ix (x:h.get? it=some (sqI b t)):cG b h it t 0:=by
 cases b<;>exact ⟨_,x,rfl,rfl⟩
theorem uk (x:cR b h t xs) (k:∀ o,h.get? t=some o→h'.get? t=some o):cR b h' t xs:=by
 cases b<;>(obtain ⟨o,e,r⟩:=x;exact ⟨o,k o e,r⟩)
section
variable {prog:Program} {w:World} {A:Around} {E:Value→Shared→Prop} {s:Shared}
abbrev gI (b:Bool) (h:Heap) (t:Addr):Heap:=h.push (sqI b t)
abbrev gPI (b c:Bool) (h:Heap) (t u:Addr):Heap:=(gI c (gI b h t) u).push { cls:=.type "tuple",data:=.seq #[.ref h.objs.size,.ref (gI b h t).objs.size] }
abbrev gPO (b c:Bool) (h:Heap) (t u:Addr):Heap:=(gPI b c h t u).push { cls:=.type "tuple",data:=.seq #[.none,.none] }
abbrev fw (b c:Bool) (h:Heap) (t u:Addr):Heap:=(gPO b c h t u).push { cls:=.type "zip",data:=.fields #[.none,.bool false,.bool false,.ref (gI c (gI b h t) u).objs.size,.ref (gPI b c h t u).objs.size] }
theorem h_ (h:cR b s.heap t xs) (hQ:Q (.ref s.heap.objs.size) { s with heap:=gI b s.heap t }):wpAny (model prog w) A (pyIter (.ref t)) Q E s:=by
 cases b with
 | true=>exact wpAny_pyIter_list h hQ
 | false=>exact wpAny_pyIter_tuple h hQ
theorem kM (b c:Bool) (t u:Addr) (xs ys:Array Value):Meets (Builtin.«zip.__new__» ⟨[.type "zip",.ref t,.ref u],[]⟩) (fun _ R s=>cR b s.heap t xs∧cR c s.heap u ys∧R (.ok (.ret (.ref (gPO b c s.heap t u).objs.size))) { s with heap:=fw b c s.heap t u }):=
 .of_wp fun prog w A R s h=>by
  obtain ⟨hp,g,d,tk,os⟩:=s
  obtain ⟨ht,hu,h⟩:=h
  have hsub:=sub_zip
  have h1:cR b (Shared.heap ⟨hp,g,d,tk,os⟩) t xs:=ht
  have h2:cR c (Shared.heap ⟨gI b hp t,g,d,tk,os⟩) u ys:=uk hu fun o e=>Heap.get?_push_of_some _ e
  wp_walk using h_ h1,h_ h2
  exact ⟨_,rfl,h⟩
theorem jH (b c:Bool) (ht:cR b s.heap t xs) (hu:cR c s.heap u ys)
  (h:∀ h',IsZip h' (s.heap.objs.size+4) (s.heap.objs.size+2) (s.heap.objs.size+3) .none→IsPair h' (s.heap.objs.size+2) (.ref s.heap.objs.size) (.ref (s.heap.objs.size+1))→IsPair h' (s.heap.objs.size+3) .none .none →
   cG b h' s.heap.objs.size t 0→cG c h' (s.heap.objs.size+1) u 0→(∀ a o,s.heap.get? a=some o→h'.get? a=some o)→Q (.ref (s.heap.objs.size+4)) { s with heap:=h' }) :
  wpAny (model prog w) A (call (.type "zip") [.ref t,.ref u]) Q E s:=by
 refine callType_new F.called_zip (by decide) (F.typeCall_zip_2 _ _) (F.newCall_zip_2 _ _) (fun obj=>F.args_object_init_3 obj _ _) F.entry_zip_new (kM b c t u xs ys) ⟨ht,hu,?_⟩
 have s1:(gI b s.heap t).objs.size=s.heap.objs.size+1:=Heap.size_push ..
 have s2:(gI c (gI b s.heap t) u).objs.size=s.heap.objs.size+2:=by rw [Heap.size_push,s1]
 have s3:(gPI b c s.heap t u).objs.size=s.heap.objs.size+3:=by rw [Heap.size_push,s2]
 have s4:(gPO b c s.heap t u).objs.size=s.heap.objs.size+4:=by rw [Heap.size_push,s3]
 have g5:(fw b c s.heap t u).get? (gPO b c s.heap t u).objs.size=some _:=Heap.get?_push_size _ rfl
 have g4:(fw b c s.heap t u).get? (gPI b c s.heap t u).objs.size=some _:=Heap.get?_push_of_some _ (Heap.get?_push_size _ rfl)
 have g3:(fw b c s.heap t u).get? (gI c (gI b s.heap t) u).objs.size=some _:=Heap.get?_push_of_some _ (Heap.get?_push_of_some _ (Heap.get?_push_size _ rfl))
 have g2:(fw b c s.heap t u).get? (gI b s.heap t).objs.size=some _:=Heap.get?_push_of_some _ (Heap.get?_push_of_some _ (Heap.get?_push_of_some _ (Heap.get?_push_size _ rfl)))
 have g1:(fw b c s.heap t u).get? s.heap.objs.size=some _:=Heap.get?_push_of_some _ (Heap.get?_push_of_some _ (Heap.get?_push_of_some _ (Heap.get?_push_of_some _ (Heap.get?_push_size _ rfl))))
 show _∧_
 rw [s2,s3,s4] at g5
 rw [s1,s2] at g3
 rw [s3] at g4
 rw [s1] at g2
 rw [s4]
 exact ⟨⟨_,g5,rfl⟩,h _ g5 g3 g4 (ix g1) (ix g2) fun a o q=>Heap.get?_push_of_some _ (Heap.get?_push_of_some _ (Heap.get?_push_of_some _ (Heap.get?_push_of_some _ (Heap.get?_push_of_some _ q))))⟩
end
def Itg (b c:Bool) (t u:Addr):It:=
  ⟨fun i H=>∃ xs ys x y,H t=some (Sq b xs)∧H u=some (Sq c ys)∧xs[i]?=some x∧ys[i]?=some y,fun i H v H'=>∃ p x y,H p=none∧v=.ref p∧H'=upd H p (.tup [x,y])∧(∀ xs,H t=some (Sq b xs)→xs[i]?=some x)∧∀ ys,H u=some (Sq c ys)→ys[i]?=some y,
   fun i H=>∃ xs ys,H t=some (Sq b xs)∧H u=some (Sq c ys)∧i≤xs.length∧i≤ys.length∧(i=xs.length∨i=ys.length)⟩
theorem kq {P:Program} {w:World} {K:PySem.W.Frag} {es:List Expr} {kk:Nat} {tp:Pos} (b c:Bool) (t u N:Addr) :
  Turn P w K (.Tuple es kk tp) (Itg b c t u) [N+4,N+2,N+3,N,N+1] (N+4)
   (fun i h=>IsZip h (N+4) (N+2) (N+3) .none∧IsPair h (N+2) (.ref N) (.ref (N+1))∧(∃ a b,IsPair h (N+3) a b)∧cG b h N t i∧cG c h (N+1) u i) where
 mem:=by simp
 obj:=fun i h st e hb=>by
  obtain ⟨h1,h2,⟨x,y,h3⟩,h4,h5⟩:=st
  simp only [List.mem_cons,List.not_mem_nil,or_false] at hb
  rcases hb with z | z | z | z | z
  ·rw [z];exact ⟨_,h1,fun v z=>by
    have z':Data.fields _=Data.cell v:=z
    cases z'⟩
  ·rw [z];exact ⟨_,h2,fun v z=>by
    have z':Data.seq _ _=Data.cell v:=z
    cases z'⟩
  ·rw [z];exact ⟨_,h3,fun v z=>by
    have z':Data.seq _ _=Data.cell v:=z
    cases z'⟩
  ·rw [z];exact ee h4
  ·rw [z];exact ee h5
 keep:=fun i h h' st k=>by
  obtain ⟨h1,h2,⟨x,y,h3⟩,h4,h5⟩:=st
  exact ⟨k _ (by simp) _ h1,k _ (by simp) _ h2,⟨x,y,k _ (by simp) _ h3⟩,eJ h4 fun o q=>k _ (by simp) o q,eJ h5 fun o q=>k _ (by simp) o q⟩
 item:=by
  intro X hP hw hK hc i pins s σ H E I hf st hg
  subst hP hw hK
  obtain ⟨h1,h2,⟨a0,b0,h3⟩,h4,h5⟩:=st
  obtain ⟨xs,ys,x,y,hx,hy,ex,ey⟩:=hg
  obtain ⟨its,rv,p,hz⟩:=I.sq hx
  obtain ⟨its2,rv2,p2,hz2⟩:=I.sq hy
  obtain ⟨a,ha,ra⟩:=rv.get ex
  obtain ⟨b1,hb,rb⟩:=rv2.get ey
  have D0:=ke (N:=N) (t:=t) (u:=u) (fun c hc e=>by rw [e,(hf c hc).1] at hx;cases hx) (fun c hc e=>by rw [e,(hf c hc).1] at hy;cases hy)
  have hA:X.A.in1.handled=none:=I.ok.hd hc
  have tn:t≠N:=fun e=>by rw [e,(hf N (by simp)).1] at hx;cases hx
  have un:u≠N+1:=fun e=>by rw [e,(hf (N+1) (by simp)).1] at hy;cases hy
  have la:i < its.toArray.size:=by
   have:=(List.getElem?_eq_some_iff.mp ha).1
   simpa using this
  have lb:i < its2.toArray.size:=by
   have:=(List.getElem?_eq_some_iff.mp hb).1
   simpa using this
  refine jA D0 (dk b hA N t tn its.toArray) (dk c hA (N+1) u un its2.toArray) h1 (.inl rfl) h2 h3 ⟨h4,p⟩ ⟨h5,p2⟩ la lb fun x' y' g1 tk px py z1 z2 z3 z4 z5 z6 z7 k1=>?_
  obtain rfl:x'=a:=by
   have e:its.toArray[i]?=some x':=px
   rw [List.getElem?_toArray,ha] at e
   exact (Option.some.inj e).symm
  obtain rfl:y'=b1:=by
   have e:its2.toArray[i]?=some y':=py
   rw [List.getElem?_toArray,hb] at e
   exact (Option.some.inj e).symm
  refine ⟨_,rfl,wpAny_letOwnedTupleGo_zip (s:={ s with heap:=g1,toks:=tk }) z1 fun g2 y1 e2=>?_⟩
  replace e2:Heap.SameBut (N+4) g1 g2:=e2
  have hl4:N+4 < s.heap.objs.size:=Heap.lt_size h1
  have d:∀ i j:Nat,i≠j→(N+i:Nat)≠N+j:=fun i j h e=>h (Nat.add_left_cancel e)
  have ht2:IsPair g2 s.heap.objs.size x' y':=e2.extBut _ _ (Nat.ne_of_gt hl4) z6
  have k2:∀ c o,c∉[N+4,N+2,N+3,N,N+1]→s.heap.get? c=some o→g2.get? c=some o:=fun c o hc q=>by
   have c4:c≠N+4:=fun z=>hc (by simp [z])
   have c3:c≠N+3:=fun z=>hc (by simp [z])
   have c0:c≠N:=fun z=>hc (by simp [z])
   have c1:c≠N+1:=fun z=>hc (by simp [z])
   exact e2.extBut c o c4 (k1 c o c4 c3 c0 c1 q)
  have I2:Inv X pins σ (upd H s.heap.objs.size (.tup [x,y])) { s with heap:=g2,toks:=tk }:=by
   refine I.gT (fp:=[N+4,N+2,N+3,N,N+1]) (Nat.le_refl _) k2 hf ?_
   exact ⟨by show 2≤sizeLine;decide,[x',y'],.cons ra (.cons rb .nil),⟨_,ht2,rfl,_,rfl⟩⟩
  refine ⟨.ref s.heap.objs.size,_,I2,rfl,⟨s.heap.objs.size,x,y,I.hok.fresh (Nat.le_refl _),rfl,rfl,fun zs hy0=>?_,fun zs hy'=>?_⟩,⟨y1,e2.extBut _ _ (d 2 4 (by decide)) z2,⟨_,_,e2.extBut _ _ (d 3 4 (by decide)) z3⟩,eJ z4.1 fun o q=>e2.extBut _ _ (d 0 4 (by decide)) q,eJ z5.1 fun o q=>e2.extBut _ _ (d 1 4 (by decide)) q⟩,fun b hb=>?_⟩
  ·rw [hx] at hy0;cases b<;>(cases hy0;exact ex)
  ·rw [hy] at hy';cases c<;>(cases hy';exact ey)
  ·have hlt:b < s.heap.objs.size:=by
    simp only [List.mem_cons,List.not_mem_nil,or_false] at hb
    rcases hb with z | z | z | z | z
    ·rw [z];exact hl4
    ·rw [z];exact Heap.lt_size h2
    ·rw [z];exact Heap.lt_size h3
    ·obtain ⟨o,q,_⟩:=ee h4;rw [z];exact Heap.lt_size q
    ·obtain ⟨o,q,_⟩:=ee h5;rw [z];exact Heap.lt_size q
   rw [ak (Nat.ne_of_lt hlt)]
   exact (hf b hb).1
 done:=by
  intro X hP hw hK hc i pins s σ H E I hf st hg
  subst hP hw hK
  obtain ⟨h1,h2,⟨a0,b0,h3⟩,h4,h5⟩:=st
  obtain ⟨xs,ys,hx,hy,lx,ly,hend⟩:=hg
  obtain ⟨its,rv,p,hz⟩:=I.sq hx
  obtain ⟨its2,rv2,p2,hz2⟩:=I.sq hy
  have D0:=ke (N:=N) (t:=t) (u:=u) (fun c hc e=>by rw [e,(hf c hc).1] at hx;cases hx) (fun c hc e=>by rw [e,(hf c hc).1] at hy;cases hy)
  have hA:X.A.in1.handled=none:=I.ok.hd hc
  have tn:t≠N:=fun e=>by rw [e,(hf N (by simp)).1] at hx;cases hx
  have un:u≠N+1:=fun e=>by rw [e,(hf (N+1) (by simp)).1] at hy;cases hy
  have l1:=rv.length
  have l2:=rv2.length
  refine k9 D0 (dk b hA N t tn its.toArray) (dk c hA (N+1) u un its2.toArray) h1 (.inl rfl) h2 h3 ⟨h4,p⟩ ⟨h5,p2⟩ ?_ fun h' tk hk=>⟨rfl,?_⟩
  ·simp only [List.size_toArray]
   omega
  ·refine I.nV (fp:=[N+4,N+2,N+3,N,N+1]) (fun c o hc q=>?_) hf
   exact hk c o (fun z=>hc (by simp [z])) (fun z=>hc (by simp [z])) (fun z=>hc (by simp [z])) (fun z=>hc (by simp [z])) q
 self:=fun _ _ _ _ _ st h=>wpAny_pyIter_zip st.1 h
end L2
namespace ZS
open PySem
def Ri (l:List Nat):Prop:=l.Pairwise (· < ·)
theorem room {l:List Nat} (hn:l.length≤m):∃ e,e≤m∧e∉l:=by
 refine Classical.byContradiction fun h=>?_
 have hall:∀ e∈List.range (m+1),e∈l:=fun e he=>Classical.byContradiction fun z=>h ⟨e,by have:=List.mem_range.mp he;omega,z⟩
 have:=List.Nodup.length_le_of_subset (List.nodup_range (n:=m+1)) hall
 rw [List.length_range] at this
 omega
end ZS
namespace ZS
open PySem
def vals (m:Nat) (owner:Array (Option Nat)):List Nat:=(List.range (m+1)).filterMap fun j=>owner.getD j none
end ZS
namespace ZS
open PySem
end ZS
namespace ZS
open PySem
end ZS
namespace ZS
open PySem
def adv (m:Nat) (q:SetTable.Probe):SetTable.Probe:=
 if q.more > 0 then { q with j:=q.j+1,more:=q.more - 1 } else
 { q with j:=(SetTable.leap m q.i q.perturb).1,more:=SetTable.runEnd m (SetTable.leap m q.i q.perturb).1 - (SetTable.leap m q.i q.perturb).1,i:=(SetTable.leap m q.i q.perturb).1,perturb:=(SetTable.leap m q.i q.perturb).2 }
inductive Path (m:Nat) (l:List Nat):SetTable.Probe→SetTable.Probe→Prop
 | refl (q:SetTable.Probe):Path m l q q
 | step {q q':SetTable.Probe}:q.j∈l→Path m l (adv m q) q'→Path m l q q'
def start (m:Nat) (h:Int):SetTable.Probe:={ j:=SetTable.bits h % (m+1),more:=SetTable.runEnd m (SetTable.bits h % (m+1)) - SetTable.bits h % (m+1),i:=SetTable.bits h % (m+1),perturb:=SetTable.bits h,dummy:=none }
end ZS
namespace L2
open PySem PySem.Spec PyProof.Rows ZS
section
variable {prog:Program} {w:World} {A:Around} {E:Value→Shared→Prop} {s:Shared}
abbrev pI (w:World):Bool:=w.params.followText "set-order"
structure vF (w:World) (o:Obj) (es:Array (Int×Value)) (ep:Nat) (t:SetTable) (pl:List Nat):Prop where
 dat:o.data=.set es ep t
 cls:o.cls=.type "set"
 dum:t.dummies=#[]
 plain:t.plain=true
 led:t.led=!pI w
 place:t.place=pl.toArray
 ri:ZS.Ri pl
 lpl:pl.length=es.size
 room:es.size≤t.mask
 few:es.size≤300
end
end L2
namespace L2
open PySem PySem.Spec PyProof.Rows ZS
def hT (ks:List Int):Int:=reduceHash (Builtin.Tuple.tupleHashOf (ks.map hashInt))
def jY:List (TE×TE)→St→Hp→(List (V×V)→Hp→Prop)→Prop
 | [],_,H,Q=>Q [] H
 | (tk,tv) :: r,σ,H,Q=>tk σ H fun x H1=>tv σ H1 fun y H2=>jY r σ H2 fun ps H3=>Q ((x,y) :: ps) H3
abbrev VV:List (V×V)→List (Value×Value)→Prop:=Paired fun p q=>RelV p.1 q.1∧RelV p.2 q.2
def PPs (X:Cx) (pos:Pos) (keys:List (Option Expr)) (values:List Expr) (trs:List (TE×TE)):Prop:=
 ∀ (pins:List (Addr×Obj)) (s:Shared) (σ:St) (H:Hp) (Q:List (V×V)→Hp→Prop),Inv X pins σ H s→jY trs σ H Q →
  wpAny (model X.prog X.w) X.A (evalPairs (pairTrees keys values X.env pos)) (fun vs s'=>∃ ps H',Inv X pins σ H' s'∧VV ps vs∧Q ps H') X.xe s
structure M1 (X:Cx) (o:Expr) (m:Str) (apos:Pos) (e:Expr) (cpos:Pos):Prop where
 base:attributeBase o m X.env (eval o X.env)=eval o X.env
 few:((backTo cpos (starEach [e] X.env)).all (fun x=>!x.1) && (backToKw cpos (keywordEach [] X.env)).all (fun x=>x.1.isSome)
  && decide (([e]:List Expr).length+([]:List Keyword).length+(if ([]:List Keyword).isEmpty then 0 else 1) < 30))=true
 line:(apos.endLine == cpos.line)=true
 trees:backTo cpos (starEach [e] X.env)=[(false,eval e X.env)]
structure M2 (X:Cx) (o:Expr) (m:Str) (apos:Pos) (e f:Expr) (cpos:Pos):Prop where
 base:attributeBase o m X.env (eval o X.env)=eval o X.env
 few:((backTo cpos (starEach [e,f] X.env)).all (fun x=>!x.1) && (backToKw cpos (keywordEach [] X.env)).all (fun x=>x.1.isSome)
  && decide (([e,f]:List Expr).length+([]:List Keyword).length+(if ([]:List Keyword).isEmpty then 0 else 1) < 30))=true
 line:(apos.endLine == cpos.line)=true
 trees:backTo cpos (starEach [e,f] X.env)=[(false,eval e X.env),(false,eval f X.env)]
inductive Vl where
 | d (x:D) | r (n:Nat) | fd (kvs:List (Key×D)) | fn (x:Str) | sc (ns:List Int) | pr (x:D) (n:Nat) | xc (c:Str) (xs:List (Str×D)) | kt (ws:List Str) | xl (es:List (Str×List (Str×D)))
inductive Ob where
 | lst (xs:List D) | dct (kvs:List (Key×D)) | dead
abbrev Sto:=List Ob
inductive R (α:Type) where
 | ok (a:α) (S:Sto) | ex (c:Str) (xs:List (Str×D)) (S:Sto) | bad
def R.bind {α β:Type} (x:R α) (f:α→Sto→R β):R β:=match x with
 | .ok a S=>f a S
 | .ex c xs S=>.ex c xs S
 | .bad=>.bad
abbrev Nv:=List (Option Vl)
abbrev XE:=Nv→Sto→R Vl
abbrev XT:=Nv→Sto→R Bool
abbrev XA:=Nv→Sto→R (List Vl)
abbrev XO:=Nv→Sto→R (Option Int)
inductive Fl where
 | nx | bk | ct | rt (v:Vl)
abbrev XS:=Nv→Sto→R (Fl×Nv)
abbrev XG:=Vl→Nv→Sto→R Nv
abbrev XGs:=List Vl→Nv→Sto→R Nv
abbrev XF:=List Vl→Sto→R Vl
structure Its where
 items:List Vl
 gd:Option (Nat×Ob)
def Its.ok (I:Its) (S:Sto):Prop:=match I.gd with
 | none=>True
 | some (n,o)=>S[n]?=some o
abbrev XI:=Nv→Sto→R Its
def Al (μ:Nat→Addr) (S:Sto) (b:Addr):Prop:=∃ n o,S[n]?=some o∧o≠.dead∧μ n=b
open Classical in
noncomputable def vh (μ:Nat→Addr) (S:Sto) (H:Hp):Hp:=fun b=>if Al μ S b then none else H b
section
variable {μ μ' μ1 μ2:Nat→Addr} {S S' S1 S2:Sto} {H H' H1 H2:Hp} {b:Addr} {o:HO}
theorem aI (h:H b=some o) (n:¬Al μ S b):vh μ S H b=some o:=by unfold vh;rw [if_neg n];exact h
theorem aw (h:vh μ S H b=some o):¬Al μ S b∧H b=some o:=by
 unfold vh at h
 split at h
 ·cases h
 ·exact ⟨‹_›,h⟩
theorem cv:bw (vh μ S H) H:=fun _ _ h=>(aw h).2
def ObR (μ:Nat→Addr) (S:Sto) (H:Hp) (a:Addr):Ob→Prop
 | .lst ds=>∃ vs,H a=some (.lst vs)∧ah (vh μ S H) vs ds
 | .dct kvs=>∃ vs:List V,vs.length=kvs.length∧H a=some (.dK ((kvs.map (·.1)).zip vs))∧ah (vh μ S H) vs (kvs.map (·.2))
 | .dead=>True
structure HR (μ:Nat→Addr) (S:Sto) (H:Hp):Prop where
 ob:∀ n o,S[n]?=some o→ObR μ S H (μ n) o
 inj:∀ n m o o',S[n]?=some o→S[m]?=some o'→o≠.dead→o'≠.dead→μ n=μ m→n=m
theorem ObR.some (h:ObR μ S H a ob) (n:ob≠.dead):∃ o,H a=Option.some o:=by
 cases ob with
 | lst ds=>obtain ⟨vs,e,_⟩:=h;exact ⟨_,e⟩
 | dct kvs=>obtain ⟨vs,_,e,_⟩:=h;exact ⟨_,e⟩
 | dead=>exact absurd rfl n
theorem HR.al (h:HR μ S H) (a:Al μ S b):∃ o,H b=some o:=by
 obtain ⟨n,ob,e,nd,rfl⟩:=a
 exact (h.ob n ob e).some nd
theorem HR.nal (h:HR μ S H) (e:H b=none):¬Al μ S b:=fun a=>by
 obtain ⟨o,q⟩:=h.al a
 rw [e] at q;cases q
theorem ObR.mono (h:ObR μ S H a ob) (e:ob≠.dead→H' a=H a) (k:bw (vh μ S H) (vh μ' S' H')):ObR μ' S' H' a ob:=by
 cases ob with
 | lst ds=>obtain ⟨vs,q,r⟩:=h;exact ⟨vs,by rw [e (by simp)];exact q,r.mono k⟩
 | dct kvs=>obtain ⟨vs,l,q,r⟩:=h;exact ⟨vs,l,by rw [e (by simp)];exact q,r.mono k⟩
 | dead=>exact True.intro
structure Step (μ:Nat→Addr) (S:Sto) (H:Hp) (μ':Nat→Addr) (S':Sto) (H':Hp):Prop where
 ag:∀ n,n < S.length→μ' n=μ n
 le:S.length≤S'.length
 hr:HR μ' S' H'
 dd:∀ n:Nat,S[n]?=some Ob.dead→S'[n]?=some Ob.dead
 nw:∀ n o,S.length≤n→S'[n]?=some o→o≠.dead→H (μ' n)=none
 ko:∀ b o,H b=some o→¬Al μ S b→H' b=some o
 dm:∀ b o,H b=some o→∃ o',H' b=some o'
theorem Step.refl (h:HR μ S H):Step μ S H μ S H:=
 ⟨fun _ _=>rfl,Nat.le_refl _,h,fun _ e=>e,fun n o l e _=>(by rw [List.getElem?_eq_none l] at e;cases e),fun _ _ e _=>e,fun _ o e=>⟨o,e⟩⟩
theorem Step.nal (a:Step μ S H μ' S' H') (h:H b=some o) (n:¬Al μ S b):¬Al μ' S' b:=by
 rintro ⟨k,ob,e,nd,rfl⟩
 by_cases hk:k < S.length
 ·have e0:S[k]?=some S[k]:=List.getElem?_eq_getElem hk
  by_cases hd:S[k]=.dead
  ·rw [hd] at e0
   rw [a.dd k e0] at e
   cases e
   exact nd rfl
  ·exact n ⟨k,_,e0,hd,(a.ag k hk).symm⟩
 ·rw [a.nw k ob (by omega) e nd] at h
  cases h
theorem Step.vis (a:Step μ S H μ' S' H'):bw (vh μ S H) (vh μ' S' H'):=fun b o h=>by
 obtain ⟨n,h⟩:=aw h
 exact aI (a.ko b o h n) (a.nal h n)
theorem Step.trans (a:Step μ S H μ1 S1 H1) (b:Step μ1 S1 H1 μ2 S2 H2):Step μ S H μ2 S2 H2 where
 ag:=fun n h=>(b.ag n (Nat.lt_of_lt_of_le h a.le)).trans (a.ag n h)
 le:=Nat.le_trans a.le b.le
 hr:=b.hr
 dd:=fun n e=>b.dd n (a.dd n e)
 nw:=fun n o l e nd=>by
  by_cases hn:n < S1.length
  ·rw [b.ag n hn]
   refine a.nw n S1[n] l (List.getElem?_eq_getElem hn) fun z=>?_
   have e0:S1[n]?=some S1[n]:=List.getElem?_eq_getElem hn
   rw [z] at e0
   rw [b.dd n e0] at e
   cases e
   exact nd rfl
  ·have q:=b.nw n o (by omega) e nd
   cases e2:H (μ2 n) with
   | none=>rfl
   | some u=>
    obtain ⟨u',e3⟩:=a.dm _ _ e2
    rw [q] at e3;cases e3
 ko:=fun c o h n=>b.ko c o (a.ko c o h n) (a.nal h n)
 dm:=fun c o h=>by
  obtain ⟨o1,e1⟩:=a.dm c o h
  exact b.dm c o1 e1
theorem Step.new (h:HR μ S H) (hp:H p=none) (o:HO):Step μ S H μ S (upd H p o):=by
 have k:bw (vh μ S H) (vh μ S (upd H p o)):=fun b u q=>by
  obtain ⟨n,q⟩:=aw q
  exact aI (by rw [ak (ay q hp)];exact q) n
 refine ⟨fun _ _=>rfl,Nat.le_refl _,⟨fun n ob e=>?_,h.inj⟩,fun _ e=>e,fun n ob l e _=>(by rw [List.getElem?_eq_none l] at e;cases e),fun b u q _=>by rw [ak (ay q hp)];exact q,fun b u q=>⟨u,by rw [ak (ay q hp)];exact q⟩⟩
 refine (h.ob n ob e).mono (fun nd=>?_) k
 obtain ⟨u,q⟩:=(h.ob n ob e).some nd
 exact ak (ay q hp)
def ext (μ:Nat→Addr) (k:Nat) (p:Addr):Nat→Addr:=fun n=>if n=k then p else μ n
theorem bq:ext μ k p k=p:=by unfold ext;rw [if_pos rfl]
theorem dU (h:n≠k):ext μ k p n=μ n:=by unfold ext;rw [if_neg h]
def ObL (G:Hp):Ob→HO→Prop
 | .lst ds,o=>∃ vs,o=.lst vs∧ah G vs ds
 | .dct kvs,o=>∃ vs:List V,vs.length=kvs.length∧o=.dK ((kvs.map (·.1)).zip vs)∧ah G vs (kvs.map (·.2))
 | .dead,_=>False
theorem ObL.ne (h:ObL G ob o):ob≠.dead:=by
 rintro rfl
 exact h
theorem ObL.at (h:ObL G ob o) (e:H a=some o) (k:bw G (vh μ S H)):ObR μ S H a ob:=by
 cases ob with
 | lst ds=>obtain ⟨vs,rfl,r⟩:=h;exact ⟨vs,e,r.mono k⟩
 | dct kvs=>obtain ⟨vs,l,rfl,r⟩:=h;exact ⟨vs,l,e,r.mono k⟩
 | dead=>exact h.elim
theorem Step.alloc (h:HR μ S H) (hp:H p=none) (hl:ObL (vh μ S H) ob o):Step μ S H (ext μ S.length p) (S++[ob]) (upd H p o):=by
 have nd:=hl.ne
 have old:∀ n u,n < S.length→(S++[ob])[n]?=some u→S[n]?=some u∧ext μ S.length p n=μ n:=fun n u hn e=>by
  rw [List.getElem?_append_left hn] at e
  exact ⟨e,dU (Nat.ne_of_lt hn)⟩
 have new:∀ n u,S.length≤n→(S++[ob])[n]?=some u→n=S.length∧u=ob:=fun n u hn e=>by
  rw [List.getElem?_append_right hn] at e
  have hz:n - S.length=0:=by
   refine Nat.eq_zero_of_not_pos fun z=>?_
   rw [List.getElem?_eq_none (by simp;omega)] at e;cases e
  rw [hz] at e
  exact ⟨by omega,by simpa using e.symm⟩
 have nal:∀ {b u},H b=some u→¬Al μ S b→¬Al (ext μ S.length p) (S++[ob]) b:=by
  rintro b u q n ⟨k,v,e,d,rfl⟩
  by_cases hk:k < S.length
  ·obtain ⟨e1,e2⟩:=old k v hk e
   exact n ⟨k,v,e1,d,e2.symm⟩
  ·obtain ⟨rfl,rfl⟩:=new k v (by omega) e
   rw [bq,hp] at q;cases q
 have k:bw (vh μ S H) (vh (ext μ S.length p) (S++[ob]) (upd H p o)):=fun b u q=>by
  obtain ⟨n,q⟩:=aw q
  exact aI (by rw [ak (ay q hp)];exact q) (nal q n)
 refine ⟨fun n hn=>dU (Nat.ne_of_lt hn),by simp,⟨fun n u e=>?_,fun n m u v e1 e2 d1 d2 q=>?_⟩,fun n e=>?_,fun n u l e _=>?_,fun b u q _=>by rw [ak (ay q hp)];exact q,fun b u q=>⟨u,by rw [ak (ay q hp)];exact q⟩⟩
 ·by_cases hn:n < S.length
  ·obtain ⟨e1,e2⟩:=old n u hn e
   rw [e2]
   refine (h.ob n u e1).mono (fun nd=>?_) k
   obtain ⟨x,q⟩:=(h.ob n u e1).some nd
   exact ak (ay q hp)
  ·obtain ⟨rfl,rfl⟩:=new n u (by omega) e
   rw [bq]
   exact hl.at aB k
 ·by_cases hn:n < S.length
  ·obtain ⟨a1,a2⟩:=old n u hn e1
   obtain ⟨x,qx⟩:=(h.ob n u a1).some d1
   by_cases hm:m < S.length
   ·obtain ⟨b1,b2⟩:=old m v hm e2
    rw [a2,b2] at q
    exact h.inj n m u v a1 b1 d1 d2 q
   ·obtain ⟨rfl,rfl⟩:=new m v (by omega) e2
    rw [a2,bq] at q
    rw [q,hp] at qx;cases qx
  ·obtain ⟨rfl,rfl⟩:=new n u (by omega) e1
   by_cases hm:m < S.length
   ·obtain ⟨b1,b2⟩:=old m v hm e2
    obtain ⟨x,qx⟩:=(h.ob m v b1).some d2
    rw [b2,bq] at q
    rw [← q,hp] at qx;cases qx
   ·exact (new m v (by omega) e2).1.symm
 ·have hn:n < S.length:=by
   refine Nat.lt_of_not_le fun z=>?_
   rw [List.getElem?_eq_none z] at e;cases e
  rw [List.getElem?_append_left hn];exact e
 ·obtain ⟨rfl,rfl⟩:=new n u l e
  rw [bq];exact hp
theorem cm (hn:n < S.length) (e:(S.set n ob)[m]?=some u):(m=n∧u=ob)∨(m≠n∧S[m]?=some u):=by
 rw [List.getElem?_set] at e
 by_cases q:n=m
 ·subst q
  rw [if_pos rfl,if_pos hn] at e
  exact .inl ⟨rfl,(Option.some.inj e).symm⟩
 ·rw [if_neg q] at e
  exact .inr ⟨fun z=>q z.symm,e⟩
theorem Step.put (h:HR μ S H) (e0:S[n]?=some ob0) (d0:ob0≠.dead) (hl:ObL (vh μ S H) ob o):Step μ S H μ (S.set n ob) (upd H (μ n) o):=by
 have nd:=hl.ne
 have hn:n < S.length:=(List.getElem?_eq_some_iff.mp e0).1
 have al0:Al μ S (μ n):=⟨n,ob0,e0,d0,rfl⟩
 have al:∀ {b},Al μ (S.set n ob) b→Al μ S b:=by
  rintro b ⟨m,u,e,d,rfl⟩
  rcases cm hn e with ⟨rfl,rfl⟩ | ⟨z,q⟩
  ·exact al0
  ·exact ⟨m,u,q,d,rfl⟩
 have k:bw (vh μ S H) (vh μ (S.set n ob) (upd H (μ n) o)):=fun b u q=>by
  obtain ⟨z,q⟩:=aw q
  exact aI (by rw [ak (fun c=>z (by rw [c];exact al0))];exact q) fun c=>z (al c)
 refine ⟨fun _ _=>rfl,by rw [List.length_set];exact Nat.le_refl _,⟨fun m u e=>?_,fun m m' u v e1 e2 d1 d2 q=>?_⟩,fun m e=>?_,fun m u l e _=>?_,fun b u q z=>by rw [ak (fun c=>z (by rw [c];exact al0))];exact q,fun b u q=>?_⟩
 ·rcases cm hn e with ⟨rfl,rfl⟩ | ⟨z,q⟩
  ·exact hl.at aB k
  ·refine (h.ob m u q).mono (fun d=>ak fun c=>z (h.inj m n u ob0 q e0 d d0 c)) k
 ·have a1:∃ w,S[m]?=some w∧w≠.dead:=by
   rcases cm hn e1 with ⟨rfl,rfl⟩ | ⟨z,q⟩
   ·exact ⟨ob0,e0,d0⟩
   ·exact ⟨u,q,d1⟩
  have a2:∃ w,S[m']?=some w∧w≠.dead:=by
   rcases cm hn e2 with ⟨rfl,rfl⟩ | ⟨z,q⟩
   ·exact ⟨ob0,e0,d0⟩
   ·exact ⟨v,q,d2⟩
  obtain ⟨w1,x1,y1⟩:=a1
  obtain ⟨w2,x2,y2⟩:=a2
  exact h.inj m m' w1 w2 x1 x2 y1 y2 q
 ·rw [List.getElem?_set_ne]
  ·exact e
  ·rintro rfl
   rw [e0] at e;cases e;exact d0 rfl
 ·rw [List.getElem?_eq_none (by rw [List.length_set];exact l)] at e;cases e
 ·by_cases z:b=μ n
  ·subst z;exact ⟨o,aB⟩
  ·exact ⟨u,by rw [ak z];exact q⟩
theorem Step.freeze (h:HR μ S H) (e0:S[n]?=some ob) (d0:ob≠.dead):Step μ S H μ (S.set n .dead) H∧¬Al μ (S.set n .dead) (μ n):=by
 have hn:n < S.length:=(List.getElem?_eq_some_iff.mp e0).1
 have al:∀ {b},Al μ (S.set n .dead) b→Al μ S b:=by
  rintro b ⟨m,u,e,d,rfl⟩
  rcases cm hn e with ⟨rfl,rfl⟩ | ⟨z,q⟩
  ·exact absurd rfl d
  ·exact ⟨m,u,q,d,rfl⟩
 have k:bw (vh μ S H) (vh μ (S.set n .dead) H):=fun b u q=>by
  obtain ⟨z,q⟩:=aw q
  exact aI q fun c=>z (al c)
 have inn:∀ m u,(S.set n .dead)[m]?=some u→u≠.dead→S[m]?=some u∧m≠n:=fun m u e d=>by
  rcases cm hn e with ⟨rfl,rfl⟩ | ⟨z,q⟩
  ·exact absurd rfl d
  ·exact ⟨q,z⟩
 refine ⟨⟨fun _ _=>rfl,by rw [List.length_set];exact Nat.le_refl _,⟨fun m u e=>?_,fun m m' u v e1 e2 d1 d2 q=>h.inj m m' u v (inn m u e1 d1).1 (inn m' v e2 d2).1 d1 d2 q⟩,fun m e=>?_,fun m u l e _=>?_,fun b u q z=>q,fun b u q=>⟨u,q⟩⟩,?_⟩
 ·by_cases d:u=.dead
  ·subst d;exact True.intro
  ·exact (h.ob m u (inn m u e d).1).mono (fun _=>rfl) k
 ·by_cases z:m=n
  ·subst z;rw [List.getElem?_set,if_pos rfl,if_pos hn]
  ·rw [List.getElem?_set_ne (fun c=>z c.symm)];exact e
 ·rw [List.getElem?_eq_none (by rw [List.length_set];exact l)] at e;cases e
 ·rintro ⟨m,u,e,d,q⟩
  obtain ⟨e1,z⟩:=inn m u e d
  exact z (h.inj m n u ob e1 e0 d d0 q)
theorem Step.kI (h:HR μ S H) (o':HO) (e0:S[n]?=some ob) (d0:ob≠.dead):Step μ S H μ (S.set n .dead) (upd H (μ n) o')∧¬Al μ (S.set n .dead) (μ n):=by
 have hn:n < S.length:=(List.getElem?_eq_some_iff.mp e0).1
 have al0:Al μ S (μ n):=⟨n,ob,e0,d0,rfl⟩
 obtain ⟨st,na⟩:=Step.freeze h e0 d0
 have k:bw (vh μ S H) (vh μ (S.set n .dead) (upd H (μ n) o')):=fun b u q=>by
  obtain ⟨z,q'⟩:=aw q
  exact aI (by rw [ak (fun c=>z (by rw [c];exact al0))];exact q') (aw (st.vis b u q)).1
 refine ⟨⟨st.ag,st.le,⟨fun m u e=>?_,st.hr.inj⟩,st.dd,fun m u l e d=>st.nw m u l e d,fun b u q z=>by rw [ak (fun c=>z (by rw [c];exact al0))];exact q,fun b u q=>?_⟩,na⟩
 ·rcases cm hn e with ⟨rfl,rfl⟩ | ⟨z,q⟩
  ·exact True.intro
  ·by_cases d:u=.dead
   ·subst d;exact True.intro
   ·exact (h.ob m u q).mono (fun _=>ak fun c=>z (h.inj m n u ob q e0 d d0 c)) k
 ·by_cases z:b=μ n
  ·subst z;exact ⟨o',aB⟩
  ·exact ⟨u,by rw [ak z];exact q⟩
theorem bh (e:(S.take k)[n]?=some u):n < k∧S[n]?=some u:=by
 rw [List.getElem?_take] at e
 split at e
 ·exact ⟨‹_›,e⟩
 ·cases e
theorem Step.take (a:Step μ S H μ' S' H'):Step μ S H μ' (S'.take S.length) H':=by
 have al:∀ {b},Al μ' (S'.take S.length) b→Al μ' S' b:=by
  rintro b ⟨m,u,e,d,rfl⟩
  exact ⟨m,u,(bh e).2,d,rfl⟩
 have k:bw (vh μ' S' H') (vh μ' (S'.take S.length) H'):=fun b u q=>by
  obtain ⟨z,q⟩:=aw q
  exact aI q fun c=>z (al c)
 refine ⟨a.ag,by rw [List.length_take];have:=a.le;omega,⟨fun m u e=>(a.hr.ob m u (bh e).2).mono (fun _=>rfl) k,fun m m' u v e1 e2=>a.hr.inj m m' u v (bh e1).2 (bh e2).2⟩,fun n e=>?_,fun n u l e _=>?_,a.ko,a.dm⟩
 ·have hn:n < S.length:=(List.getElem?_eq_some_iff.mp e).1
  rw [List.getElem?_take,if_pos hn]
  exact a.dd n e
 ·have:=(bh e).1
  omega
theorem Step.move (a:Step μ S H μ' S' H') (hn:S.length≤n) (e0:S'[n]?=some ob) (d0:ob≠.dead):Step μ S H (ext μ' S.length (μ' n)) (S'.take S.length++[ob]) H':=by
 have lt:(S'.take S.length).length=S.length:=by rw [List.length_take];have:=a.le;omega
 have get:∀ m u,(S'.take S.length++[ob])[m]?=some u→∃ j,S'[j]?=some u∧ext μ' S.length (μ' n) m=μ' j∧((m < S.length∧j=m)∨(m=S.length∧j=n)):=fun m u e=>by
  by_cases hm:m < S.length
  ·rw [List.getElem?_append_left (by omega)] at e
   exact ⟨m,(bh e).2,dU (Nat.ne_of_lt hm),.inl ⟨hm,rfl⟩⟩
  ·rw [List.getElem?_append_right (by omega)] at e
   have hz:m - (S'.take S.length).length=0:=by
    refine Nat.eq_zero_of_not_pos fun z=>?_
    rw [List.getElem?_eq_none (by simp;omega)] at e;cases e
   rw [hz] at e
   have hm':m=S.length:=by omega
   subst hm'
   obtain rfl:ob=u:=by simpa using e
   exact ⟨n,e0,bq,.inr ⟨rfl,rfl⟩⟩
 have al:∀ {b},Al (ext μ' S.length (μ' n)) (S'.take S.length++[ob]) b→Al μ' S' b:=by
  rintro b ⟨m,u,e,d,rfl⟩
  obtain ⟨j,q,z,_⟩:=get m u e
  exact ⟨j,u,q,d,z.symm⟩
 have k:bw (vh μ' S' H') (vh (ext μ' S.length (μ' n)) (S'.take S.length++[ob]) H'):=fun b u q=>by
  obtain ⟨z,q⟩:=aw q
  exact aI q fun c=>z (al c)
 refine ⟨fun m hm=>(dU (Nat.ne_of_lt hm)).trans (a.ag m hm),by rw [List.length_append,lt];simp,⟨fun m u e=>?_,fun m m' u v e1 e2 d1 d2 q=>?_⟩,fun m e=>?_,fun m u l e d=>?_,a.ko,a.dm⟩
 ·obtain ⟨j,q,z,_⟩:=get m u e
  rw [z]
  exact (a.hr.ob j u q).mono (fun _=>rfl) k
 ·obtain ⟨j,q1,z1,w1⟩:=get m u e1
  obtain ⟨j',q2,z2,w2⟩:=get m' v e2
  rw [z1,z2] at q
  have:=a.hr.inj j j' u v q1 q2 d1 d2 q
  omega
 ·have hm:m < S.length:=(List.getElem?_eq_some_iff.mp e).1
  rw [List.getElem?_append_left (by omega),List.getElem?_take,if_pos hm]
  exact a.dd m e
 ·obtain ⟨j,q,z,w⟩:=get m u e
  rw [z]
  have hj:S.length≤j:=by omega
  exact a.nw j u hj q d
end
section
variable (K:PySem.W.Frag) (mg:Str→Option Value)
def uZ (K:PySem.W.Frag) (a:Addr) (ws:List Str):Prop:=∃ l:List (Str×Tok),l.map (·.1)=ws∧∀ h:Heap,K.In h→h.IsTuple a (strValues l).toArray
def excAt (a C:Addr) (od:Option Addr) (h:Heap):Prop:=∃ o,h.get? a=some o∧o.cls=.ref C∧(∀ d,od=some d→o.dict=some d)∧∃ vs,o.data=.fields vs
def fu (G:Hp) (a C:Addr) (xs:List (Str×D)):Prop:=∃ od,G a=some (.ext (excAt a C od))∧(xs≠[]→∃ (dx:Addr) (vs:List V),od=some dx∧vs.length=xs.length∧G dx=some (.xd ((xs.map (·.1)).zip vs))∧ah G vs (xs.map (·.2)))
theorem fu.mono (k:bw G G') (h:fu G a C xs):fu G' a C xs:=by
 obtain ⟨od,e,h⟩:=h
 refine ⟨od,k _ _ e,fun n=>?_⟩
 obtain ⟨dx,vs,q1,q2,q3,q4⟩:=h n
 exact ⟨dx,vs,q1,q2,k _ _ q3,q4.mono k⟩
inductive bg (G:Hp):List V→List (Str×List (Str×D))→Prop
 | nil:bg G [] []
 | cons {a C:Addr} {c:Str} {xs:List (Str×D)} {vs:List V} {es:List (Str×List (Str×D))}:mg c=some (.ref C)→fu G a C xs→bg G vs es→bg G (.ref a :: vs) ((c,xs) :: es)
def av (μ:Nat→Addr) (S:Sto) (H:Hp) (v:V):Vl→Prop
 | .d x=>Rep (vh μ S H) v x
 | .r n=>v=.ref (μ n)∧n < S.length
 | .fd kvs=>∃ (a:Addr) (vs:List V) (o:Obj),v=.ref a∧vs.length=kvs.length∧vh μ S H a=some (.frz o (.dK ((kvs.map (·.1)).zip vs)))∧ah (vh μ S H) vs (kvs.map (·.2))
 | .fn x=>∃ f:Addr,mg x=some (.ref f)∧v=.ref f
 | .sc ns=>∃ l:Addr,v=.ref l∧SqL K (vh μ S H) l (ns.map V.int)
 | .pr x n=>∃ (a:Addr) (u:V),v=.ref a∧vh μ S H a=some (.tup [u,.ref (μ n)])∧Rep (vh μ S H) u x∧n < S.length
 | .xc c xs=>∃ (a C:Addr),v=.ref a∧mg c=some (.ref C)∧fu (vh μ S H) a C xs
 | .kt ws=>∃ a:Addr,v=.ref a∧uZ K a ws
 | .xl es=>∃ (l:Addr) (vs:List V),v=.ref l∧vh μ S H l=some (.lst vs)∧bg mg (vh μ S H) vs es
inductive aH (μ:Nat→Addr) (S:Sto) (H:Hp):List V→List Vl→Prop
 | nil:aH μ S H [] []
 | cons {v:V} {x:Vl} {vs:List V} {xs:List Vl}:av K mg μ S H v x→aH μ S H vs xs→aH μ S H (v :: vs) (x :: xs)
structure aR (μ:Nat→Addr) (S:Sto) (H:Hp) (σ:St) (τ:Nv):Prop where
 len:σ.length=τ.length
 get:∀ (i:Nat) (x:Vl),τ[i]?=some (some x)→∃ v,σ[i]?=some (some v)∧av K mg μ S H v x
end
section
variable {K:PySem.W.Frag} {mg:Str→Option Value} {μ μ':Nat→Addr} {S S':Sto} {H H':Hp}
theorem SqL.mono (k:bw H H') (h:SqL K H l xs):SqL K H' l xs:=by
 rcases h with (h | ⟨o,h⟩) | h
 ·exact .inl (.inl (k _ _ h))
 ·exact .inl (.inr ⟨o,k _ _ h⟩)
 ·exact .inr h
theorem bg.mono (k:bw H H'):∀ {vs es},bg mg H vs es→bg mg H' vs es
 | _,_,.nil=>.nil
 | _,_,.cons a b c=>.cons a (b.mono k) (bg.mono k c)
theorem av.step (a:Step μ S H μ' S' H') (h:av K mg μ S H v x):av K mg μ' S' H' v x:=by
 cases x with
 | d x=>exact Rep.mono a.vis h
 | r n=>obtain ⟨rfl,hn⟩:=h;exact ⟨by rw [a.ag n hn],Nat.lt_of_lt_of_le hn a.le⟩
 | fd kvs=>obtain ⟨p,vs,o,e,l,q,r⟩:=h;exact ⟨p,vs,o,e,l,a.vis _ _ q,r.mono a.vis⟩
 | pr x n=>obtain ⟨p,u,e,q,r,hn⟩:=h;exact ⟨p,u,e,by rw [a.ag n hn];exact a.vis _ _ q,Rep.mono a.vis r,Nat.lt_of_lt_of_le hn a.le⟩
 | fn x=>exact h
 | sc ns=>obtain ⟨l,e,q⟩:=h;exact ⟨l,e,q.mono a.vis⟩
 | xc c xs=>obtain ⟨p,C,e,m,q⟩:=h;exact ⟨p,C,e,m,q.mono a.vis⟩
 | kt ws=>exact h
 | xl es=>obtain ⟨l,vs,e,q,r⟩:=h;exact ⟨l,vs,e,a.vis _ _ q,r.mono a.vis⟩
theorem aH.step (a:Step μ S H μ' S' H'):∀ {vs:List V} {xs:List Vl},aH K mg μ S H vs xs→aH K mg μ' S' H' vs xs
 | _,_,.nil=>.nil
 | _,_,.cons r t=>.cons (r.step a) (aH.step a t)
theorem aH.length:∀ {vs:List V} {xs:List Vl},aH K mg μ S H vs xs→vs.length=xs.length
 | _,_,.nil=>rfl
 | _,_,.cons _ t=>by simp [aH.length t]
theorem aH.get:∀ {vs:List V} {xs:List Vl} {i:Nat} {x:Vl},aH K mg μ S H vs xs→xs[i]?=some x→∃ v,vs[i]?=some v∧av K mg μ S H v x
 | _,_,_,_,.nil,e=>by simp at e
 | _,_,0,_,.cons r _,e=>by simp at e;subst e;exact ⟨_,rfl,r⟩
 | _,_,i+1,x,.cons _ t,e=>by
  obtain ⟨d,h1,h2⟩:=aH.get (i:=i) (x:=x) t (by simpa using e)
  exact ⟨d,by simpa using h1,h2⟩
theorem aH.iA:∀ {vs:List V} {ds:List D},ah (vh μ S H) vs ds→aH K mg μ S H vs (ds.map Vl.d)
 | _,_,.nil=>.nil
 | _,_,.cons r t=>.cons (show av K mg μ S H _ (.d _) from r) (aH.iA t)
theorem aR.step (a:Step μ S H μ' S' H') (h:aR K mg μ S H σ τ):aR K mg μ' S' H' σ τ:=
 ⟨h.len,fun i x e=>by obtain ⟨v,e1,r⟩:=h.get i x e;exact ⟨v,e1,r.step a⟩⟩
theorem aR.set (i:Nat) (h:aR K mg μ S H σ τ) (r:av K mg μ S H v x):aR K mg μ S H (σ.set i (some v)) (τ.set i (some x)):=by
 refine ⟨by rw [List.length_set,List.length_set];exact h.len,fun j y e=>?_⟩
 rw [List.getElem?_set] at e ⊢
 by_cases q:i=j
 ·subst q
  rw [if_pos rfl] at e ⊢
  by_cases hl:i < τ.length
  ·rw [if_pos hl] at e
   cases e
   exact ⟨v,by rw [if_pos (by rw [h.len];exact hl)],r⟩
  ·rw [if_neg hl] at e;cases e
 ·rw [if_neg q] at e ⊢
  exact h.get j y e
theorem aR.pre (k:Nat) (h:aR K mg μ S H σ τ):aR K mg μ S H (List.replicate k none++σ) (List.replicate k none++τ):=by
 refine ⟨by simp [h.len],fun i x e=>?_⟩
 by_cases hi:i < k
 ·rw [List.getElem?_append_left (by simpa using hi),List.getElem?_replicate,if_pos hi] at e
  cases e
 ·rw [List.getElem?_append_right (by simpa using hi)] at e ⊢
  simpa using h.get (i - k) x (by simpa using e)
theorem aR.beg (h:aH K mg μ S H vs us):aR K mg μ S H (L2.start N vs) (us.map some++List.replicate (N.length - us.length) none):=by
 have l:=h.length
 refine ⟨by simp [L2.start,l],fun i x e=>?_⟩
 unfold L2.start
 by_cases hi:i < us.length
 ·rw [List.getElem?_append_left (by simpa using hi),List.getElem?_map] at e
  cases q:us[i]? with
  | none=>rw [q] at e;cases e
  | some y=>
   rw [q] at e
   cases e
   obtain ⟨v,e1,r⟩:=h.get q
   exact ⟨v,by rw [List.getElem?_append_left (by simp;omega),List.getElem?_map,e1];rfl,r⟩
 ·rw [List.getElem?_append_right (by simpa using hi),List.getElem?_replicate] at e
  split at e<;>cases e
end
abbrev WX:=Str→List (Str×D)→Sto→(Nat→Addr)→Hp→Prop
abbrev W0:WX:=fun _ _ _ _ _=>False
def au {α β:Type} (Rl:(Nat→Addr)→Sto→Hp→β→α→Prop) (WE:WX) (μ:Nat→Addr) (S:Sto) (H:Hp) (res:R α) (Q:β→Hp→Prop):Prop:=match res with
 | .ok a S'=>∀ b μ' H',Step μ S H μ' S' H'→Rl μ' S' H' b a→Q b H'
 | .ex c xs S'=>∀ μ' H',Step μ S H μ' S' H'→WE c xs S' μ' H'
 | .bad=>False
section
variable {α β γ δ:Type} {Rl:(Nat→Addr)→Sto→Hp→β→α→Prop} {Rl2:(Nat→Addr)→Sto→Hp→δ→γ→Prop} {WE:WX} {μ μ1:Nat→Addr} {S S1:Sto} {H H1:Hp} {res:R α} {Q:β→Hp→Prop} {Q2:δ→Hp→Prop}
theorem au.shift (h:au Rl WE μ S H res Q) (a:Step μ S H μ1 S1 H1):au Rl WE μ1 S1 H1 res Q:=by
 cases res with
 | ok x S'=>exact fun b μ' H' st r=>h b μ' H' (a.trans st) r
 | ex c xs S'=>exact fun μ' H' st=>h μ' H' (a.trans st)
 | bad=>exact h
theorem au.bind (h:au Rl2 WE μ S H (res.bind f) Q2) (k:∀ b a S1 μ1 H1,Step μ S H μ1 S1 H1→Rl μ1 S1 H1 b a→au Rl2 WE μ1 S1 H1 (f a S1) Q2→Q b H1):au Rl WE μ S H res Q:=by
 cases res with
 | ok x S'=>exact fun b μ' H' st r=>k b x S' μ' H' st r (au.shift (show au Rl2 WE μ S H (f x S') Q2 from h) st)
 | ex c xs S'=>exact h
 | bad=>exact h
theorem au.here (hr:HR μ S H) (h:au Rl WE μ S H (.ok a S) Q) (r:Rl μ S H b a):Q b H:=h b μ H (Step.refl hr) r
end
inductive FlV where
 | nx | bk | ct | rt (v:V)
def Ends.at (D:Ends) (p:FlV×St) (H:Hp):Prop:=match p.1 with
 | .nx=>D.nx p.2 H
 | .bk=>D.bk p.2 H
 | .ct=>D.ct p.2 H
 | .rt v=>D.rt v H
section
variable (K:PySem.W.Frag) (mg:Str→Option Value)
def FlR (μ:Nat→Addr) (S:Sto) (H:Hp):FlV→Fl→Prop
 | .nx,.nx=>True
 | .bk,.bk=>True
 | .ct,.ct=>True
 | .rt v,.rt z=>av K mg μ S H v z
 | _,_=>False
def RlS (μ:Nat→Addr) (S:Sto) (H:Hp) (p:FlV×St) (q:Fl×Nv):Prop:=aR K mg μ S H p.2 q.2∧FlR K mg μ S H p.1 q.1
abbrev RlQ {α:Type} (_:Nat→Addr) (_:Sto) (_:Hp) (b a:α):Prop:=b=a
structure c5 (μ:Nat→Addr) (S:Sto) (H:Hp) (J:It) (I:Its):Prop where
 ok:I.ok S
 len:I.items.length≤sizeLine
 go:∀ i z μ' S' H',Step μ S H μ' S' H'→I.ok S'→I.items[i]?=some z→J.go i H'
 yld:∀ i z μ' S' H' x H2,Step μ S H μ' S' H'→I.ok S'→I.items[i]?=some z→J.yld i H' x H2→Step μ' S' H' μ' S' H2∧av K mg μ' S' H2 x z
 stop:∀ i μ' S' H',Step μ S H μ' S' H'→I.ok S'→I.items.length=i→J.stop i H'
def trE (WE:WX) (m:XE):TE:=fun σ H Q=>∃ μ S τ,HR μ S H∧aR K mg μ S H σ τ∧au (av K mg) WE μ S H (m τ S) Q
def trT (WE:WX) (m:XT):TT:=fun σ H Q=>∃ μ S τ,HR μ S H∧aR K mg μ S H σ τ∧au RlQ WE μ S H (m τ S) Q
def trA (WE:WX) (m:XA):TA:=fun σ H Q=>∃ μ S τ,HR μ S H∧aR K mg μ S H σ τ∧au (aH K mg) WE μ S H (m τ S) Q
def trO (WE:WX) (m:XO):TO:=fun σ H Q=>∃ μ S τ,HR μ S H∧aR K mg μ S H σ τ∧au RlQ WE μ S H (m τ S) Q
def trS (WE:WX) (m:XS):TS:=fun D σ H=>∃ μ S τ,HR μ S H∧aR K mg μ S H σ τ∧au (RlS K mg) WE μ S H (m τ S) D.at
def trG (WE:WX) (g:XG):TG:=fun v σ H Q=>∃ μ S τ z,HR μ S H∧aR K mg μ S H σ τ∧av K mg μ S H v z∧au (aR K mg) WE μ S H (g z τ S) Q
def vm (WE:WX) (g:XGs):TGs:=fun vs σ H Q=>∃ μ S τ zs,HR μ S H∧aR K mg μ S H σ τ∧aH K mg μ S H vs zs∧au (aR K mg) WE μ S H (g zs τ S) Q
def trI (WE:WX) (it:XI):TI:=fun σ H Rr=>∃ μ S τ,HR μ S H∧aR K mg μ S H σ τ∧au (c5 K mg) WE μ S H (it τ S) Rr
end
structure RE (X:Cx) (WE:WX) (e:Expr) (m:XE):Prop where
 h:PE X e (trE X.K X.mg WE m)
structure RT (X:Cx) (WE:WX) (e:Expr) (m:XT):Prop where
 h:PT X e (trT X.K X.mg WE m)
structure RW (X:Cx) (WE:WX) (e:Expr) (m:XT):Prop where
 h:PW X e (trT X.K X.mg WE m)
structure RA (X:Cx) (WE:WX) (es:List Expr) (m:XA):Prop where
 h:PA X es (trA X.K X.mg WE m)
structure RO (X:Cx) (WE:WX) (e:Option Expr) (m:XO):Prop where
 h:PO X e (trO X.K X.mg WE m)
structure RS (X:Cx) (WE:WX) (s:Stmt) (m:XS):Prop where
 h:PS X s (trS X.K X.mg WE m)
structure RB (X:Cx) (WE:WX) (s:List Stmt) (m:XS):Prop where
 h:PSs X s (trS X.K X.mg WE m)
structure RG (X:Cx) (WE:WX) (t:Expr) (g:XG):Prop where
 h:PG X t (trG X.K X.mg WE g)
structure RGs (X:Cx) (WE:WX) (ts:List Expr) (g:XGs):Prop where
 h:PGs X ts (vm X.K X.mg WE g)
structure RI (X:Cx) (WE:WX) (tg iter:Expr) (it:XI):Prop where
 h:PI X tg iter (trI X.K X.mg WE it)
structure RTs (X:Cx) (WE:WX) (ifs:List Expr) (m:XT):Prop where
 h:PTs X ifs (trT X.K X.mg WE m)
section
variable {X:Cx}
theorem PE.weak (h:PE X e t) (k:∀ σ H Q,t' σ H Q→t σ H Q):PE X e t':=fun pins s σ H Q I q=>h pins s σ H Q I (k σ H Q q)
theorem PT.weak (h:PT X e t) (k:∀ σ H Q,t' σ H Q→t σ H Q):PT X e t':=fun pins s σ H Q I q=>h pins s σ H Q I (k σ H Q q)
theorem PW.weak (h:PW X e t) (k:∀ σ H Q,t' σ H Q→t σ H Q):PW X e t':=fun wh pins s σ H Q I q=>h wh pins s σ H Q I (k σ H Q q)
theorem PA.weak (h:PA X e t) (k:∀ σ H Q,t' σ H Q→t σ H Q):PA X e t':=fun po pins s σ H Q I q=>h po pins s σ H Q I (k σ H Q q)
theorem PS.weak (h:PS X e t) (k:∀ D σ H,t' D σ H→t D σ H):PS X e t':=fun pins s σ H D I q=>h pins s σ H D I (k D σ H q)
theorem PSs.weak (h:PSs X e t) (k:∀ D σ H,t' D σ H→t D σ H):PSs X e t':=fun pins s σ H D I q=>h pins s σ H D I (k D σ H q)
theorem PG.weak (h:PG X e t) (k:∀ v σ H Q,t' v σ H Q→t v σ H Q):PG X e t':=fun pins s σ H v u Q I r q=>h pins s σ H v u Q I r (k v σ H Q q)
theorem PGs.weak (h:PGs X e t) (k:∀ v σ H Q,t' v σ H Q→t v σ H Q):PGs X e t':=fun pins s σ H v u Q I r q=>h pins s σ H v u Q I r (k v σ H Q q)
theorem PI.weak (h:PI X tg e t) (k:∀ σ H Q,t' σ H Q→t σ H Q):PI X tg e t':=fun pins s σ H Q I q=>h pins s σ H Q I (k σ H Q q)
end
def bF (K:PySem.W.Frag) (mg:Str→Option Value) (r:R2) (f:Vl→Vl→Sto→R Vl):Prop:=∀ (WE:WX) (μ:Nat→Addr) (S:Sto) (H:Hp) (v w:V) (x y:Vl) (Q:VK),HR μ S H→av K mg μ S H v x→av K mg μ S H w y→au (av K mg) WE μ S H (f x y S) Q→r v w H Q
def i7 (K:PySem.W.Frag) (mg:Str→Option Value) (r:List V→Hp→VK→Prop) (f:List Vl→Sto→R Vl):Prop:=∀ (WE:WX) (μ:Nat→Addr) (S:Sto) (H:Hp) (vs:List V) (xs:List Vl) (Q:VK),HR μ S H→aH K mg μ S H vs xs→au (av K mg) WE μ S H (f xs S) Q→r vs H Q
def ae (i:Nat):XE:=fun τ S=>match τ[i]? with
 | some (some v)=>.ok v S
 | _=>.bad
def xC (d:D):XE:=fun _ S=>.ok (.d d) S
def xFn (x:Str):XE:=fun _ S=>.ok (.fn x) S
def xOp (f:Vl→Vl→Sto→R Vl) (a b:XE):XE:=fun τ S=>(a τ S).bind fun x S1=>(b τ S1).bind fun y S2=>f x y S2
def xUn (f:Vl→Sto→R Vl) (a:XE):XE:=fun τ S=>(a τ S).bind fun x S1=>f x S1
def o9 (f f':Vl→Vl→Sto→R Vl) (a b c:XE):XE:=fun τ S=>(a τ S).bind fun x S1=>(b τ S1).bind fun y S2=>(f x y S2).bind fun z S3=>match z with
 | .d (.bl k)=>if k=true then (c τ S3).bind fun w S4=>f' y w S4 else .ok (.d (.bl false)) S3
 | _=>.bad
def asB (z:Vl) (S:Sto):R Bool:=match z with
 | .d (.bl b)=>.ok b S
 | _=>.bad
def bB (a:XE):XT:=fun τ S=>(a τ S).bind asB
def tru (z:Vl) (S:Sto):R Bool:=match z with
 | .d .non=>.ok false S
 | .d (.bl b)=>.ok b S
 | .d (.int i)=>.ok (i != 0) S
 | .d (.tup xs)=>.ok (!xs.isEmpty) S
 | .d (.lst xs)=>.ok (!xs.isEmpty) S
 | .r n=>match S[n]? with
  | some (.lst xs)=>.ok (!xs.isEmpty) S
  | some (.dct kvs)=>.ok (!kvs.isEmpty) S
  | _=>.bad
 | _=>.bad
def dc (a:XE):XT:=fun τ S=>(a τ S).bind tru
def vf (a b:XT):XT:=fun τ S=>(a τ S).bind fun c S1=>if c=true then b τ S1 else .ok false S1
def xOr (a b:XT):XT:=fun τ S=>(a τ S).bind fun c S1=>if c=true then .ok true S1 else b τ S1
def gQ (a:XT):XT:=fun τ S=>(a τ S).bind fun c S1=>.ok (!c) S1
def eg (a b:XE):XE:=fun τ S=>(a τ S).bind fun x S1=>(asB x S1).bind fun c S2=>if c=true then b τ S2 else .ok (.d (.bl false)) S2
def uW (a b:XE):XE:=fun τ S=>(a τ S).bind fun x S1=>(asB x S1).bind fun c S2=>if c=true then .ok (.d (.bl true)) S2 else b τ S2
def t_ (a:XE):XE:=fun τ S=>(a τ S).bind fun x S1=>(asB x S1).bind fun c S2=>.ok (.d (.bl (!c))) S2
def u_ (c:XT) (a b:XE):XE:=fun τ S=>(c τ S).bind fun k S1=>if k=true then a τ S1 else b τ S1
def aF:XA:=fun _ S=>.ok [] S
def af (a:XE) (r:XA):XA:=fun τ S=>(a τ S).bind fun x S1=>(r τ S1).bind fun xs S2=>.ok (x :: xs) S2
def cS:List Vl→Option (List D)
 | []=>some []
 | .d x :: r=>(cS r).map (x :: ·)
 | _=>none
def mkT (xs:List Vl) (S:Sto):R Vl:=match cS xs with
 | some ds=>if ds.length≤100000 then .ok (.d (.tup ds)) S else .bad
 | none=>.bad
def mkL (xs:List Vl) (S:Sto):R Vl:=match cS xs with
 | some ds=>if ds.length≤100000 then .ok (.d (.lst ds)) S else .bad
 | none=>.bad
def mkM (xs:List Vl) (S:Sto):R Vl:=match cS xs with
 | some ds=>if ds.length≤100000 then .ok (.r S.length) (S++[.lst ds]) else .bad
 | none=>.bad
def xN (f:List Vl→Sto→R Vl) (as:XA):XE:=fun τ S=>(as τ S).bind f
def frz (z:Vl) (S:Sto):R Vl:=match z with
 | .r n=>match S[n]? with
  | some (.lst xs)=>.ok (.d (.lst xs)) (S.set n .dead)
  | some (.dct kvs)=>.ok (.fd kvs) (S.set n .dead)
  | _=>.bad
 | z=>.ok z S
def xFz (a:XE):XE:=fun τ S=>(a τ S).bind frz
def ff:XO:=fun _ S=>.ok none S
def eN (a:XE):XO:=fun τ S=>(a τ S).bind fun x S1=>match x with
 | .d (.int i)=>.ok (some i) S1
 | _=>.bad
def xSl (f:Vl→Option Int→Option Int→Sto→R Vl) (a:XE) (l h:XO):XE:=fun τ S=>(a τ S).bind fun x S1=>(l τ S1).bind fun i S2=>(h τ S2).bind fun j S3=>f x i j S3
section
variable {X:Cx} {WE:WX} {a b c e:Expr} {xa xb xc xe:XE} {pos:Pos} {es:List Expr} {t u:XT}
theorem rv (i:Nat) (hN:X.N[i]?=some x:=by rfl) (hv:Vis X.env.scope x:=by first | exact Or.inl rfl | exact Or.inr (Or.inl rfl) | exact Or.inr (Or.inr rfl)) (hd:(x == ("__debug__":Str))=false:=by decide)
  (hcd:(x == ("__classdict__":Str))=false:=by decide):RE X WE (.Name x pos) (ae i):=⟨(j9 hN hv hd hcd).weak fun σ H Q ⟨μ,S,τ,hr,sr,p⟩=>by
 unfold ae at p
 split at p
 ·obtain ⟨v,e1,r⟩:=sr.get _ _ ‹_›
  exact ⟨v,e1,p.here hr r⟩
 ·exact p.elim⟩
theorem aj {i j}:RE X WE (.Constant (.int i) j pos) (xC (.int i)):=⟨qO.weak fun _ _ _ ⟨_,_,_,hr,_,p⟩=>p.here hr (Rep.int i)⟩
theorem dn {i j}:RE X WE (.Constant (.bool i) j pos) (xC (.bl i)):=⟨sF.weak fun _ _ _ ⟨_,_,_,hr,_,p⟩=>p.here hr (Rep.bl i)⟩
theorem jn {j}:RE X WE (.Constant .none j pos) (xC .non):=⟨qV.weak fun _ _ _ ⟨_,_,_,hr,_,p⟩=>p.here hr Rep.non⟩
theorem aE {x j}:RE X WE (.Constant (.str x) j pos) (xC (.str x)):=⟨pf.weak fun _ _ _ ⟨_,_,_,hr,_,p⟩=>p.here hr (Rep.str x)⟩
theorem two (hf:bF X.K X.mg r f) (h:trE X.K X.mg WE (xOp f xa xb) σ H Q):tOp r (trE X.K X.mg WE xa) (trE X.K X.mg WE xb) σ H Q:=by
 obtain ⟨μ,S,τ,hr,sr,p⟩:=h
 refine ⟨μ,S,τ,hr,sr,p.bind fun v x S1 μ1 H1 st1 r1 p1=>?_⟩
 refine ⟨μ1,S1,τ,st1.hr,sr.step st1,p1.bind fun w y S2 μ2 H2 st2 r2 p2=>?_⟩
 exact hf WE μ2 S2 H2 v w x y Q st2.hr (r1.step st2) r2 p2
theorem ax (ho:OpR X (binaryOp op) r) (hf:bF X.K X.mg r f) (ha:RE X WE a xa) (hb:RE X WE b xb):RE X WE (.BinOp a op b pos) (xOp f xa xb):=
 ⟨(uy ho ha.h hb.h).weak fun _ _ _ h=>two hf h⟩
theorem c7 (ho:OpR X (compareOp op) r) (hf:bF X.K X.mg r f) (ha:RE X WE a xa) (hb:RE X WE b xb) (hm:behindInMarks op b=false:=by first | exact j3 _ | with_unfolding_all rfl):RE X WE (.Compare a [op] [b] pos) (xOp f xa xb):=
 ⟨(mK ho ha.h hb.h hm).weak fun _ _ _ h=>two hf h⟩
theorem nj (h:trT X.K X.mg WE (bB xa) σ H Q):trE X.K X.mg WE xa σ H fun v H'=>∃ k,v=.bl k∧Q k H':=by
 obtain ⟨μ,S,τ,hr,sr,p⟩:=h
 refine ⟨μ,S,τ,hr,sr,p.bind fun v x S1 μ1 H1 st1 r1 p1=>?_⟩
 unfold asB at p1
 split at p1
 ·cases (show Rep (vh μ1 S1 H1) v (.bl _) from r1)
  exact ⟨_,rfl,p1.here st1.hr rfl⟩
 ·exact p1.elim
theorem bD (ho:OpR X (compareOp op) r) (hf:bF X.K X.mg r f) (ha:RE X WE a xa) (hb:RE X WE b xb) (hm:behindInMarks op b=false:=by first | exact j3 _ | with_unfolding_all rfl):RT X WE (.Compare a [op] [b] pos) (bB (xOp f xa xb)):=
 ⟨(mX ho ha.h hb.h hm).weak fun _ _ _ h=>two hf (nj h)⟩
theorem isE {α β:Type} {xs:List α} {ys:List β} (h:xs.length=ys.length):(!xs.isEmpty)=!ys.isEmpty:=by
  cases xs<;>cases ys<;>first | rfl | simp at h
theorem qH {K:PySem.W.Frag} {mg:Str→Option Value} {WE:WX} {μ:Nat→Addr} {S:Sto} {H:Hp} {v:V} {x:Vl} {Q:Bool→Hp→Prop} (hr:HR μ S H) (r:av K mg μ S H v x) (p:au RlQ WE μ S H (tru x S) Q):∃ k,k_ K v H k∧Q k H:=by
 unfold tru at p
 split at p
 ·cases (show Rep (vh μ S H) v .non from r);exact ⟨false,rfl,p.here hr rfl⟩
 ·cases (show Rep (vh μ S H) v (.bl _) from r);exact ⟨_,rfl,p.here hr rfl⟩
 ·cases (show Rep (vh μ S H) v (.int _) from r);exact ⟨_,rfl,p.here hr rfl⟩
 ·cases (show Rep (vh μ S H) v (.tup _) from r) with
  | tup h rs=>exact ⟨_,.inr (.inl ⟨_,SqT.of (aw h).2,rfl⟩),by rw [isE rs.length];exact p.here hr rfl⟩
 ·cases (show Rep (vh μ S H) v (.lst _) from r) with
  | lst h rs=>exact ⟨_,.inl ⟨_,SqL.of (aw h).2,rfl⟩,by rw [isE rs.length];exact p.here hr rfl⟩
 ·obtain ⟨rfl,hn⟩:=r
  split at p
  ·rename_i xs e
   obtain ⟨vs,h,rs⟩:=hr.ob _ _ e
   exact ⟨_,.inl ⟨_,SqL.of h,rfl⟩,by rw [isE rs.length];exact p.here hr rfl⟩
  ·rename_i kvs e
   obtain ⟨vs,l,h,rs⟩:=hr.ob _ _ e
   exact ⟨_,.inr (.inr ⟨_,h,rfl⟩),by rw [isE (ys:=kvs) (by simp [l])];exact p.here hr rfl⟩
  ·exact p.elim
 ·exact p.elim
theorem cN (ha:RE X WE a xa) (he:∀ whole,isTrue a X.env whole=(do let v ← whole;standAt a.pos;holding [v] (truthy v)):=by intro _;rfl):RT X WE a (dc xa):=
 ⟨(kQ ha.h he).weak fun σ H Q ⟨μ,S,τ,hr,sr,p⟩=>⟨μ,S,τ,hr,sr,p.bind fun v x S1 μ1 H1 st1 r1 p1=>qH st1.hr r1 p1⟩⟩
theorem gU (ha:RT X WE a t):RW X WE (.BoolOp .Or [a] pos) t:=⟨qT ha.h⟩
theorem f_ (ha:RT X WE a t) (hb:RW X WE (.BoolOp .Or (b :: es) pos) u):RW X WE (.BoolOp .Or (a :: b :: es) pos) (xOr t u):=
 ⟨(sV ha.h hb.h).weak fun σ H Q ⟨μ,S,τ,hr,sr,p⟩=>⟨μ,S,τ,hr,sr,p.bind fun k k' S1 μ1 H1 st1 r1 p1=>by
  cases (show k=k' from r1)
  try dsimp only at p1
  split at p1
  ·rename_i hk;rw [if_pos hk];exact p1.here st1.hr rfl
  ·rename_i hk;rw [if_neg hk];exact ⟨μ1,S1,τ,st1.hr,sr.step st1,p1⟩⟩⟩
theorem RW.rt (h:RW X WE a t):RT X WE a t:=⟨h.h.pt⟩
theorem gz (ha:RT X WE a t):RT X WE (.UnaryOp .Not a pos) (gQ t):=
 ⟨(n_ ha.h).weak fun σ H Q ⟨μ,S,τ,hr,sr,p⟩=>⟨μ,S,τ,hr,sr,p.bind fun k k' S1 μ1 H1 st1 r1 p1=>by
  cases (show k=k' from r1)
  exact p1.here st1.hr rfl⟩⟩
theorem o8 {K:PySem.W.Frag} {mg:Str→Option Value} {α β:Type} {Rl:(Nat→Addr)→Sto→Hp→β→α→Prop} {μ:Nat→Addr} {S:Sto} {H:Hp} {v:V} {x:Vl} {Q:β→Hp→Prop} {f:Bool→Sto→R α} (r:av K mg μ S H v x) (p:au Rl WE μ S H ((asB x S).bind f) Q):∃ k,v=.bl k∧au Rl WE μ S H (f k S) Q:=by
 unfold asB at p
 split at p
 ·cases (show Rep (vh μ S H) v (.bl _) from r)
  exact ⟨_,rfl,p⟩
 ·exact p.elim
theorem gZ {op} (ha:RE X WE a xa):RE X WE (.BoolOp op [a] pos) xa:=⟨pA ha.h⟩
theorem eP (ha:RE X WE a xa) (hb:RE X WE (.BoolOp .And (b :: es) pos) xb):RE X WE (.BoolOp .And (a :: b :: es) pos) (eg xa xb):=
 ⟨(oA ha.h hb.h).weak fun σ H Q ⟨μ,S,τ,hr,sr,p⟩=>⟨μ,S,τ,hr,sr,p.bind fun v x S1 μ1 H1 st1 r1 p1=>by
  obtain ⟨k,rfl,p1⟩:=o8 r1 p1
  refine ⟨k,rfl,?_⟩
  split at p1
  ·rename_i hk;rw [if_pos hk];exact ⟨μ1,S1,τ,st1.hr,sr.step st1,p1⟩
  ·rename_i hk;rw [if_neg hk];exact p1.here st1.hr (Rep.bl false)⟩⟩
theorem aq:RA X WE [] aF:=⟨cO.weak fun σ H Q ⟨μ,S,τ,hr,sr,p⟩=>p.here hr .nil⟩
theorem ai [n:NS e] (ha:RE X WE e xe) (hr:RA X WE es ts):RA X WE (e :: es) (af xe ts):=
 ⟨(bt ha.h hr.h (n.eq es X.env)).weak fun σ H Q ⟨μ,S,τ,hr,sr,p⟩=>⟨μ,S,τ,hr,sr,p.bind fun v x S1 μ1 H1 st1 r1 p1=>⟨μ1,S1,τ,st1.hr,sr.step st1,p1.bind fun vs xs S2 μ2 H2 st2 r2 p2=>
  p2.here st2.hr (.cons (r1.step st2) r2)⟩⟩⟩
theorem dr {K:PySem.W.Frag} {mg:Str→Option Value} {μ:Nat→Addr} {S:Sto} {H:Hp}:∀ {vs:List V} {xs:List Vl} {ds:List D},aH K mg μ S H vs xs→cS xs=some ds→ah (vh μ S H) vs ds
 | _,_,_,.nil,e=>by simp [cS] at e;subst e;exact .nil
 | _,_,ds,@aH.cons _ _ _ _ _ v x vs xs r t,e=>by
  cases x with
  | d x=>
   simp only [cS,Option.map_eq_some_iff] at e
   obtain ⟨es,e1,rfl⟩:=e
   exact .cons r (dr t e1)
  | _=>simp [cS] at e
theorem dD (h:n≤100000):n≤sizeLine:=by rw [sizeLine_eq];omega
theorem au.vx {K:PySem.W.Frag} {mg:Str→Option Value} {μ:Nat→Addr} {S:Sto} {H:Hp} {Q:VK} {vs:List V} {ds:List D} (hr:HR μ S H) (rs:ah (vh μ S H) vs ds) (p:au (av K mg) WE μ S H (.ok (.d (.tup ds)) S) Q) (q:Addr) (hq:H q=none):Q (.ref q) (upd H q (.tup vs)):=by
 have st:=Step.new hr hq (.tup vs)
 exact p _ μ _ st (Rep.tup (aI aB (hr.nal hq)) (rs.mono st.vis))
end
section
variable {X:Cx} {WE:WX} {a b c e:Expr} {xa xb xc xe:XE} {pos:Pos} {es:List Expr} {t u:XT} {K:PySem.W.Frag} {mg:Str→Option Value} {μ:Nat→Addr} {S:Sto} {H:Hp} {Q:VK} {vs:List V} {ds:List D}
theorem au.lI (hr:HR μ S H) (rs:ah (vh μ S H) vs ds) (p:au (av K mg) WE μ S H (.ok (.d (.lst ds)) S) Q) (q:Addr) (hq:H q=none):Q (.ref q) (upd H q (.lst vs)):=by
 have st:=Step.new hr hq (.lst vs)
 exact p _ μ _ st (Rep.lst (aI aB (hr.nal hq)) (rs.mono st.vis))
theorem au.qm (hr:HR μ S H) (rs:ah (vh μ S H) vs ds) (p:au (av K mg) WE μ S H (.ok (.r S.length) (S++[.lst ds])) Q) (q:Addr) (hq:H q=none):Q (.ref q) (upd H q (.lst vs)):=
 p _ _ _ (Step.alloc hr hq (ob:=.lst ds) ⟨vs,rfl,rs⟩) ⟨by rw [bq],by simp⟩
theorem dR {ts:XA} (h:RA X WE es ts):RE X WE (.List es pos) (xN mkL ts):=
 ⟨(gv h.h).weak fun σ H Q ⟨μ,S,τ,hr,sr,p⟩=>⟨μ,S,τ,hr,sr,p.bind fun vs xs S1 μ1 H1 st1 r1 p1=>by
  unfold mkL at p1
  split at p1
  ·rename_i ds e
   split at p1
   ·have rs:=dr r1 e
    refine ⟨dD (by rw [rs.length];assumption),fun q hq=>p1.lI st1.hr rs q hq⟩
   ·exact p1.elim
  ·exact p1.elim⟩⟩
theorem nh {ts:XA} (h:RA X WE es ts):RE X WE (.List es pos) (xN mkM ts):=
 ⟨(gv h.h).weak fun σ H Q ⟨μ,S,τ,hr,sr,p⟩=>⟨μ,S,τ,hr,sr,p.bind fun vs xs S1 μ1 H1 st1 r1 p1=>by
  unfold mkM at p1
  split at p1
  ·rename_i ds e
   split at p1
   ·have rs:=dr r1 e
    refine ⟨dD (by rw [rs.length];assumption),fun q hq=>p1.qm st1.hr rs q hq⟩
   ·exact p1.elim
  ·exact p1.elim⟩⟩
theorem ur (ha:RE X WE a xa):RE X WE a (xFz xa):=
 ⟨fun pins s σ H Q I ⟨μ,S,τ,hr,sr,p⟩=>by
  refine thn (ha.h pins s σ H (fun v H1=>∃ μ1 S1 x,HR μ1 S1 H1∧av X.K X.mg μ1 S1 H1 v x∧au (av X.K X.mg) WE μ1 S1 H1 (frz x S1) Q) I ⟨μ,S,τ,hr,sr,p.bind fun v x S1 μ1 H1 st1 r1 p1=>⟨μ1,S1,x,st1.hr,r1,p1⟩⟩) fun u s1 ⟨v,H1,I1,ru,μ1,S1,x,hr1,r1,p1⟩=>?_
  unfold frz at p1
  split at p1
  ·obtain ⟨rfl,hn⟩:=r1
   split at p1
   ·rename_i n xs e
    obtain ⟨vs,h,rs⟩:=hr1.ob _ _ e
    obtain ⟨st2,na⟩:=Step.freeze hr1 e (by simp)
    exact ⟨_,H1,I1,ru,p1 _ _ _ st2 (Rep.lst (aI h na) (rs.mono st2.vis))⟩
   ·rename_i n _ kvs e
    obtain ⟨vs,l,h,rs⟩:=hr1.ob _ _ e
    have ok:aK X.prog X.w H1 s1.heap (μ1 n) (.dK ((kvs.map (·.1)).zip vs)):=I1.hok _ _ h
    obtain ⟨z1,z2,ws,rel,o,es,ep,ho,r⟩:=ok
    obtain ⟨st2,na⟩:=Step.kI hr1 (.frz o (.dK ((kvs.map (·.1)).zip vs))) e (by simp)
    exact ⟨_,_,I1.write (o:=.frz o (.dK ((kvs.map (·.1)).zip vs))) (h':=s1.heap) (x:=μ1 n) (e:=μ1 n) (t':=s1.toks) (by rw [h];exact True.intro) (.inl rfl) (fun b q _ hq=>hq) ⟨o,ho⟩ (show _∧_ from ⟨ho,z1,z2,ws,rel,o,es,ep,ho,r⟩),ru,p1 _ _ _ st2 ⟨_,vs,o,rfl,l,aI aB na,rs.mono st2.vis⟩⟩
   ·exact p1.elim
  ·exact ⟨_,H1,I1,ru,p1.here hr1 r1⟩⟩
theorem cj {x:Str} {p:Pos} {id:String} {r:List V→Hp→VK→Prop} {f:List Vl→Sto→R Vl} {ts:XA} [n:NS e] (hc:cU X (.builtin id) r) (hf:i7 X.K X.mg r f) (hm:X.mg x=none) (hv:bootBuiltins x=some (.builtin id)) (ha:RA X WE (e :: es) ts) (hg:Gl X x:=by exact rfl) (hn:x≠"__name__":=by decide) (hdb:(x == ("__debug__":Str))=false:=by decide)
  (hpl:(backTo pos (starEach es X.env)).any (·.1)=false:=by rfl):RE X WE (.Call (.Name x p) (e :: es) [] pos) (xN f ts):=
 ⟨(lL hc hg hm hv ha.h hn hdb (n.eq es X.env) hpl).weak fun σ H Q ⟨μ,S,τ,hr,sr,p⟩=>⟨μ,S,τ,hr,sr,p.bind fun vs xs S1 μ1 H1 st1 r1 p1=>hf WE μ1 S1 H1 vs xs Q st1.hr r1 p1⟩⟩
theorem jW {x:Str} {p:Pos} {T:String} {r:List V→Hp→VK→Prop} {f:List Vl→Sto→R Vl} {ts:XA} [n:NS e] (hc:cU X (.type T) r) (hf:i7 X.K X.mg r f) (hm:X.mg x=none) (hv:bootBuiltins x=some (.type T)) (ha:RA X WE (e :: es) ts) (hg:Gl X x:=by exact rfl) (hn:x≠"__name__":=by decide) (hdb:(x == ("__debug__":Str))=false:=by decide)
  (hpl:(backTo pos (starEach es X.env)).any (·.1)=false:=by rfl):RE X WE (.Call (.Name x p) (e :: es) [] pos) (xN f ts):=
 ⟨(jB hc hg hm hv ha.h hn hdb (n.eq es X.env) hpl).weak fun σ H Q ⟨μ,S,τ,hr,sr,p⟩=>⟨μ,S,τ,hr,sr,p.bind fun vs xs S1 μ1 H1 st1 r1 p1=>hf WE μ1 S1 H1 vs xs Q st1.hr r1 p1⟩⟩
def spM (K:PySem.W.Frag) (mg:Str→Option Value) (F:XF):Sp:=fun vs H Q _=>∃ μ S us,HR μ S H∧aH K mg μ S H vs us∧au (av K mg) W0 μ S H (F us S) Q
def noX {α:Type} (r:R α):R α:=match r with
 | .ex _ _ _=>.bad
 | r=>r
def bj (F:XF) (as:XA):XE:=fun τ S=>(as τ S).bind fun us S1=>noX (F us S1)
theorem au.noX {α β:Type} {Rl:(Nat→Addr)→Sto→Hp→β→α→Prop} {res:R α} {Q:β→Hp→Prop} (h:au Rl WE μ S H (noX res) Q):au Rl W0 μ S H res Q:=by
 cases res with
 | ok a S'=>exact h
 | ex c xs S'=>exact h.elim
 | bad=>exact h.elim
end
section
variable {X:Cx} {WE:WX} {e:Expr} {es:List Expr} {pos p:Pos} {lev j:Nat} {ps:List Str} {F:XF} {x:Str} {ts:XA}
def OkE (P:Program) (w:World) (K:PySem.W.Frag) (mg:Str→Option Value) (lev:Nat) (x:Str) (ps:List Str) (M:XF):Prop:=∃ (f:Addr) (fd:FuncData),mg x=some (.ref f)∧PySem.W.keepIn K (.ref f)=true∧(∀ us:List Value,us.length=ps.length→bindArgs fd ⟨us,[]⟩=pure (ps.zip us))∧∀ base,bQ P w K mg base CX0 lev f fd ps (spM K mg M)
theorem aZ [n:NS e] (G:OkE X.prog X.w X.K X.mg lev x ps F) (hr:aW j X.A) (ha:RA X WE (e :: es) ts) (hj:lev≤j:=by decide) (hg:Gl X x:=by exact rfl)
  (hdb:(x == ("__debug__":Str))=false:=by decide) (hpl:(backTo pos (starEach es X.env)).any (·.1)=false:=by rfl):RE X WE (.Call (.Name x p) (e :: es) [] pos) (bj F ts):=by
 obtain ⟨f,fd,hm,hk,hb,G⟩:=G
 exact ⟨(nD (G X.base) (hr.mono hj) hg hm hk (.all hb) .nil sx ha.h hdb (n.eq es X.env) hpl).weak fun σ H Q ⟨μ,S,τ,hr,sr,p⟩=>⟨μ,S,τ,hr,sr,p.bind fun vs xs S1 μ1 H1 st1 r1 p1=>by
  rw [List.append_nil]
  exact ⟨μ1,S1,xs,st1.hr,r1,p1.noX⟩⟩⟩
end
def out (S:Sto) (z:Vl) (S':Sto):R Vl:=match z with
 | .r n=>if n < S.length then .ok (.r n) (S'.take S.length) else match S'[n]? with
  | some (.lst xs)=>.ok (.r S.length) (S'.take S.length++[.lst xs])
  | some (.dct kvs)=>.ok (.r S.length) (S'.take S.length++[.dct kvs])
  | _=>.bad
 | .pr x n=>if n < S.length then .ok (.pr x n) (S'.take S.length) else match S'[n]? with
  | some (.lst xs)=>.ok (.pr x S.length) (S'.take S.length++[.lst xs])
  | _=>.bad
 | z=>.ok z (S'.take S.length)
def leave (S:Sto) (r:R (Fl×Nv)):R Vl:=match r with
 | .ok q S'=>(match q.1 with
  | .nx=>out S (.d .non) S'
  | .rt z=>out S z S'
  | _=>.bad)
 | .ex c xs S'=>.ex c xs (S'.take S.length)
 | .bad=>.bad
def bf (k n:Nat) (b:XS):XF:=fun us S=>if us.length=k then leave S (b (us.map some++List.replicate (n - k) none) S) else .bad
section
variable {K:PySem.W.Frag} {mg:Str→Option Value} {μ μ':Nat→Addr} {S S':Sto} {H H':Hp} {Q:VK}
theorem br {k:Nat}:bw (vh μ S H) (vh μ (S.take k) H):=fun b u q=>by
 obtain ⟨z,q⟩:=aw q
 refine aI q ?_
 rintro ⟨m,u,e,d,rfl⟩
 exact z ⟨m,u,(bh e).2,d,rfl⟩
theorem m9 {k n:Nat} {ob:Ob} (hk:k≤S.length) (e0:S[n]?=some ob) (d0:ob≠.dead):bw (vh μ S H) (vh (ext μ k (μ n)) (S.take k++[ob]) H):=fun b u q=>by
 obtain ⟨z,q⟩:=aw q
 refine aI q ?_
 rintro ⟨m,u,e,d,rfl⟩
 have lt:(S.take k).length=k:=by rw [List.length_take];omega
 by_cases hm:m < k
 ·rw [List.getElem?_append_left (by omega)] at e
  exact z ⟨m,u,(bh e).2,d,by rw [dU (Nat.ne_of_lt hm)]⟩
 ·have hm':m=k:=by
   have:=(List.getElem?_eq_some_iff.mp e).1
   simp only [List.length_append,lt,List.length_singleton] at this
   omega
  subst hm'
  exact z ⟨n,ob,e0,d0,by rw [bq]⟩
theorem ka {WE:WX} {v:V} {z:Vl} (st:Step μ S H μ' S' H') (r:av K mg μ' S' H' v z) (p:au (av K mg) WE μ S H (out S z S') Q):Q v H':=by
 have st':=st.take
 cases z with
 | d x=>exact p v μ' H' st' (Rep.mono br r)
 | fd kvs=>obtain ⟨a,vs,o,e,l,h,rs⟩:=r;exact p v μ' H' st' ⟨a,vs,o,e,l,br _ _ h,rs.mono br⟩
 | fn x=>exact p v μ' H' st' r
 | sc ns=>obtain ⟨l,e,h⟩:=r;exact p v μ' H' st' ⟨l,e,h.mono br⟩
 | xc c xs=>obtain ⟨a,C,e,m,h⟩:=r;exact p v μ' H' st' ⟨a,C,e,m,h.mono br⟩
 | kt ws=>exact p v μ' H' st' r
 | xl es=>obtain ⟨l,vs,e,q,h⟩:=r;exact p v μ' H' st' ⟨l,vs,e,br _ _ q,h.mono br⟩
 | pr x n=>
  obtain ⟨a,u,rfl,h,ru,hn⟩:=r
  unfold out at p
  try dsimp only at p
  split at p
  ·exact p _ μ' H' st' ⟨a,u,rfl,br _ _ h,Rep.mono br ru,by rw [List.length_take];omega⟩
  ·have lt:(S'.take S.length).length=S.length:=by rw [List.length_take];have:=st.le;omega
   split at p
   ·rename_i xs e
    have k:=m9 (μ:=μ') (H:=H') (k:=S.length) st.le e (by simp)
    exact p _ _ H' (st.move (by omega) e (by simp)) ⟨a,u,rfl,by rw [bq];exact k _ _ h,Rep.mono k ru,by simp [lt]⟩
   ·exact p.elim
 | r n=>
  obtain ⟨rfl,hn⟩:=r
  unfold out at p
  try dsimp only at p
  split at p
  ·exact p _ μ' H' st' ⟨rfl,by rw [List.length_take];omega⟩
  ·have lt:(S'.take S.length).length=S.length:=by rw [List.length_take];have:=st.le;omega
   split at p
   ·rename_i xs e
    exact p _ _ H' (st.move (by omega) e (by simp)) ⟨by rw [bq],by simp [lt]⟩
   ·rename_i xs e
    exact p _ _ H' (st.move (by omega) e (by simp)) ⟨by rw [bq],by simp [lt]⟩
   ·exact p.elim
theorem uL {P:Program} {w:World} {base:Heap} {x qual:Str} {st:Stmt} {f:Addr} {fd:FuncData} {N ps:List Str} {lev:Nat} {m:XS} (F:Fun K x qual st f fd) (Sc:cH N ps (aC st))
  (hb:∀ (cdv:Value) (A:Around) (outer:List Env) (s:Shared) (H:Hp) (E:XK),aW lev (A.deeper (envOfC qual (aC st) s.heap.objs.size f cdv))→RB (dw CX0 P w K mg base N qual (aC st) f cdv A outer s H E).nox W0 (bc st) m) :
  bQ P w K mg base CX0 (lev+1) f fd ps (spM K mg (bf ps.length N.length m)):=by
 refine F.ok Sc (fun vs H Q E h=>?_) (fun cdv A outer s H vs Q E hr h=>?_)
 ·obtain ⟨μ,S,us,hr,rs,p⟩:=h
  unfold bf at p
  split at p
  ·rw [rs.length];assumption
  ·exact p.elim
 ·refine ⟨_,(hb cdv A outer s H E hr).h,?_⟩
  obtain ⟨μ,S,us,hr,rs,p⟩:=h
  unfold bf at p
  split at p
  ·rename_i hl
   have sr:aR K mg μ S H (start N vs) (us.map some++List.replicate (N.length - ps.length) none):=by
    rw [← hl];exact aR.beg rs
   refine ⟨μ,S,_,hr,sr,?_⟩
   generalize m (us.map some++List.replicate (N.length - ps.length) none) S=res at p
   cases res with
   | bad=>exact p.elim
   | ex c xs S'=>exact fun μ' H' st=>p μ' H' st.take
   | ok q S'=>
    obtain ⟨fl,τ'⟩:=q
    rintro ⟨fv,σ'⟩ μ' H' st ⟨sr',fr⟩
    cases fl with
    | nx=>
     cases fv with
     | nx=>exact ka (K:=K) (mg:=mg) (v:=.non) (z:=.d .non) st Rep.non p
     | _=>exact (show False from fr).elim
    | rt z=>
     cases fv with
     | rt v=>exact ka st fr p
     | _=>exact (show False from fr).elim
    | bk=>exact (show False from p).elim
    | ct=>exact (show False from p).elim
  ·exact p.elim
end
def bz:XS:=fun τ S=>.ok (.nx,τ) S
def aA (a b:XS):XS:=fun τ S=>(a τ S).bind fun q S1=>match q.1 with
 | .nx=>b q.2 S1
 | _=>.ok q S1
def i_ (e:XE):XS:=fun τ S=>(e τ S).bind fun _ S1=>.ok (.nx,τ) S1
def aY (e:XE):XS:=fun τ S=>(e τ S).bind fun z S1=>.ok (.rt z,τ) S1
def tM:XS:=fun τ S=>.ok (.rt (.d .non),τ) S
def ow:XS:=fun τ S=>.ok (.bk,τ) S
def ua:XS:=fun τ S=>.ok (.ct,τ) S
def xIf (c:XT) (a b:XS):XS:=fun τ S=>(c τ S).bind fun k S1=>if k=true then a τ S1 else b τ S1
def jl:XS:=fun _ _=>.bad
def aG (e:XE) (g:XG):XS:=fun τ S=>(e τ S).bind fun z S1=>(g z τ S1).bind fun τ1 S2=>.ok (.nx,τ1) S2
def gNm (i:Nat):XG:=fun z τ S=>.ok (τ.set i (some z)) S
def gTu (n:Nat) (g:XGs):XG:=fun z τ S=>match z with
 | .d (.tup xs)=>if xs.length=n then g (xs.map Vl.d) τ S else .bad
 | _=>.bad
def gN0:XGs:=fun zs τ S=>match zs with
 | []=>.ok τ S
 | _=>.bad
def gCo (g:XG) (gs:XGs):XGs:=fun zs τ S=>match zs with
 | z :: r=>(g z τ S).bind fun τ1 S1=>gs r τ1 S1
 | []=>.bad
def gSb (o i:XE) (f:Vl→Vl→Vl→Sto→R Unit):XG:=fun z τ S=>(o τ S).bind fun x S1=>(i τ S1).bind fun y S2=>(f x y z S2).bind fun _ S3=>.ok τ S3
def gok (gd:Option (Nat×Ob)) (S:Sto):Prop:=match gd with
 | none=>True
 | some (n,o)=>S[n]?=some o
open Classical in
noncomputable def cg (g:XG) (b:XS) (gd:Option (Nat×Ob)):List Vl→Nv→Sto→R (Fl×Nv)
 | [],τ,S=>.ok (.nx,τ) S
 | z :: zs,τ,S=>(g z τ S).bind fun τ1 S1=>(b τ1 S1).bind fun q S2=>match q.1 with
  | .bk=>.ok (.nx,q.2) S2
  | .rt v=>.ok (.rt v,q.2) S2
  | _=>if gok gd S2 then cg g b gd zs q.2 S2 else .bad
noncomputable def gL (it:XI) (g:XG) (b:XS):XS:=fun τ S=>(it τ S).bind fun I S1=>cg g b I.gd I.items τ S1
section
variable {X:Cx} {WE:WX} {e c tg iter:Expr} {xe:XE} {t:XT} {pos:Pos} {st:Stmt} {sts sts':List Stmt} {m m':XS} {g:XG} {gs:XGs} {it:XI}
theorem bo:RB X WE [] bz:=⟨iw.weak fun D σ H ⟨μ,S,τ,hr,sr,p⟩=>p.here (b:=(FlV.nx,σ)) hr ⟨sr,True.intro⟩⟩
theorem aD (h:RS X WE st m):RB X WE [st] m:=⟨n0 h.h⟩
theorem ao (h:RS X WE st m) (h':RB X WE sts m'):RB X WE (st :: sts) (aA m m'):=
 ⟨(eA h.h h'.h).weak fun D σ H ⟨μ,S,τ,hr,sr,p⟩=>⟨μ,S,τ,hr,sr,p.bind fun b q S1 μ1 H1 st1 r1 p1=>by
  obtain ⟨fv,σ1⟩:=b
  obtain ⟨fl,τ1⟩:=q
  obtain ⟨sr1,fr⟩:=r1
  cases fl with
  | nx=>cases fv with
   | nx=>exact ⟨μ1,S1,τ1,st1.hr,sr1,p1⟩
   | _=>exact (show False from fr).elim
  | bk=>cases fv with
   | bk=>exact (show D.at (FlV.bk,σ1) H1 from au.here (b:=(FlV.bk,σ1)) st1.hr p1 ⟨sr1,True.intro⟩)
   | _=>exact (show False from fr).elim
  | ct=>cases fv with
   | ct=>exact (show D.at (FlV.ct,σ1) H1 from au.here (b:=(FlV.ct,σ1)) st1.hr p1 ⟨sr1,True.intro⟩)
   | _=>exact (show False from fr).elim
  | rt z=>cases fv with
   | rt v=>exact (show D.at (FlV.rt v,σ1) H1 from au.here (b:=(FlV.rt v,σ1)) st1.hr p1 ⟨sr1,fr⟩)
   | _=>exact (show False from fr).elim⟩⟩
theorem nv (he:RE X WE e xe) (hs:swapsWith e none pos.line X.env=pure false:=by rfl):RS X WE (.Expr e pos) (i_ xe):=
 ⟨(h9 he.h hs).weak fun D σ H ⟨μ,S,τ,hr,sr,p⟩=>⟨μ,S,τ,hr,sr,p.bind fun v x S1 μ1 H1 st1 r1 p1=>p1.here (b:=(FlV.nx,σ)) st1.hr ⟨sr.step st1,True.intro⟩⟩⟩
theorem aM (he:RE X WE e xe):RS X WE (.Return (some e) pos) (aY xe):=
 ⟨(oU he.h).weak fun D σ H ⟨μ,S,τ,hr,sr,p⟩=>⟨μ,S,τ,hr,sr,p.bind fun v x S1 μ1 H1 st1 r1 p1=>p1.here (b:=(FlV.rt v,σ)) st1.hr ⟨sr.step st1,r1⟩⟩⟩
theorem bJ (hc:RT X WE c t) (ha:RB X WE sts m) (hb:RB X WE sts' m'):RS X WE (.If c sts sts' pos) (xIf t m m'):=
 ⟨(tQ hc.h ha.h hb.h).weak fun D σ H ⟨μ,S,τ,hr,sr,p⟩=>⟨μ,S,τ,hr,sr,p.bind fun k k' S1 μ1 H1 st1 r1 p1=>by
  cases (show k=k' from r1)
  try dsimp only at p1
  split at p1
  ·rename_i hk;rw [if_pos hk];exact ⟨μ1,S1,τ,st1.hr,sr.step st1,p1⟩
  ·rename_i hk;rw [if_neg hk];exact ⟨μ1,S1,τ,st1.hr,sr.step st1,p1⟩⟩⟩
structure LQ (sc:Scope) (N:List Str):Prop where
 nd:N.Nodup
theorem bW {i:Nat} {x:Str} {sc:Scope} (q:LQ sc X.N) (hi:X.N[i]?=some x:=by exact rfl) (hx:Loc X.env.scope x:=by first | exact .inl rfl | exact .inr rfl) (hf:X.fn x=true∨X.env.scope.names.lookup x=some .local:=by first | exact .inl rfl | exact .inr rfl | assumption):RG X WE (.Name x pos) (gNm i):=
 ⟨(nP q.nd hi hx hf).weak fun v σ H Q ⟨μ,S,τ,z,hr,sr,r,p⟩=>p.here hr (sr.set i r)⟩
theorem il:RGs X WE [] gN0:=⟨m8.weak fun vs σ H Q ⟨μ,S,τ,zs,hr,sr,r,p⟩=>by
 unfold gN0 at p
 split at p
 ·cases r;exact ⟨rfl,p.here hr sr⟩
 ·exact p.elim⟩
theorem dq {es:List Expr} (h:RG X WE e g) (h':RGs X WE es gs) (hs:(assignEach (e :: es) X.env).map (·.2)=assign e X.env :: (assignEach es X.env).map (·.2):=by rfl):RGs X WE (e :: es) (gCo g gs):=
 ⟨(kT h.h h'.h hs).weak fun vs σ H Q ⟨μ,S,τ,zs,hr,sr,r,p⟩=>by
  unfold gCo at p
  split at p
  ·cases r with
   | cons r1 rr=>exact ⟨_,_,rfl,μ,S,τ,_,hr,sr,r1,p.bind fun σ1 τ1 S1 μ1 H1 st1 sr1 p1=>⟨μ1,S1,τ1,_,st1.hr,sr1,rr.step st1,p1⟩⟩
  ·exact p.elim⟩
theorem jx {n:Nat} {es:List Expr} {k:Nat} (h:RGs X WE es gs) (hc:X.calm=true:=by exact rfl) (hn:(assignEach es X.env).length=n:=by rfl) (hst:(assignEach es X.env).findIdx? (·.1)=none:=by rfl):RG X WE (.Tuple es k pos) (gTu n gs):=
 ⟨(qa hc h.h hn hst).weak fun v σ H Q ⟨μ,S,τ,z,hr,sr,r,p⟩=>by
  unfold gTu at p
  split at p
  ·split at p
   ·rename_i xs hl
    cases (show Rep (vh μ S H) v (.tup xs) from r) with
    | tup h rs=>exact ⟨_,_,rfl,SqT.of (aw h).2,by rw [rs.length];exact hl,μ,S,τ,_,hr,sr,aH.iA rs,p⟩
   ·exact p.elim
  ·exact p.elim⟩
def ji (K:PySem.W.Frag) (mg:Str→Option Value) (ts:gN) (f:Vl→Vl→Vl→Sto→R Unit):Prop:=∀ (WE:WX) (μ:Nat→Addr) (S:Sto) (H:Hp) (o i v:V) (x y z:Vl) (Q:Unit→Hp→Prop),HR μ S H→av K mg μ S H o x→av K mg μ S H i y→av K mg μ S H v z→au (fun _ _ _ (_ _:Unit)=>True) WE μ S H (f x y z S) Q→ts o i v H (Q ())
theorem dE {o i:Expr} {xo xi:XE} {ts:gN} {f:Vl→Vl→Vl→Sto→R Unit} (ho:RE X WE o xo) (hi:RE X WE i xi) (hs:i5 X ts) (hf:ji X.K X.mg ts f)
  (ha:∀ v,assign (.Subscript o i pos) X.env v=(do
   let ov ← holding [v] (eval o X.env)
   let iv ← holding [v,ov] (eval i X.env)
   standAt pos
   holding [v,ov,iv] (setItem ov iv v)
   release [v,ov,iv] []):=by intro _;rfl):RG X WE (.Subscript o i pos) (gSb xo xi f):=
 ⟨(pq ho.h hi.h hs ha).weak fun v σ H Q ⟨μ,S,τ,z,hr,sr,r,p⟩=>⟨μ,S,τ,hr,sr,p.bind fun ov x S1 μ1 H1 st1 r1 p1=>⟨μ1,S1,τ,st1.hr,sr.step st1,p1.bind fun iv y S2 μ2 H2 st2 r2 p2=>
  hf WE μ2 S2 H2 ov iv v x y z (fun _ H3=>Q σ H3) st2.hr (r1.step st2) r2 (r.step (st1.trans st2)) (p2.bind fun _ _ S3 μ3 H3 st3 _ p3=>p3.here st3.hr (sr.step (st1.trans (st2.trans st3))))⟩⟩⟩
theorem dQ (he:RE X WE e xe) (hg:RG X WE tg g) (hs:swapsWithSole [tg] e pos.line X.env=pure false:=by rfl) (hw:swappedStores [tg] e X.env=pure none:=by rfl)
  (h1:(assignEach [tg] X.env).map (·.2)=[assign tg X.env]:=by rfl):RS X WE (.Assign [tg] e pos) (aG xe g):=
 ⟨(pF he.h hg.h hs hw h1).weak fun D σ H ⟨μ,S,τ,hr,sr,p⟩=>⟨μ,S,τ,hr,sr,p.bind fun v x S1 μ1 H1 st1 r1 p1=>⟨μ1,S1,τ,x,st1.hr,sr.step st1,r1,p1.bind fun σ2 τ2 S2 μ2 H2 st2 sr2 p2=>p2.here (b:=(FlV.nx,σ2)) st2.hr ⟨sr2,True.intro⟩⟩⟩⟩
theorem aN {i:Nat} {x:Str} {pos':Pos} {sc:Scope} (q:LQ sc X.N) (he:RE X WE e xe) (hi:X.N[i]?=some x:=by exact rfl) (hx:Loc X.env.scope x:=by first | exact .inl rfl | exact .inr rfl) (hs:swapsWith e (some (.Name x pos')) pos.line X.env=pure false:=by rfl) (hf:X.fn x=true∨X.env.scope.names.lookup x=some .local:=by first | exact .inl rfl | exact .inr rfl | assumption) :
  RS X WE (.Assign [.Name x pos'] e pos) (aG xe (gNm i)):=
 ⟨(pL q.nd hi hx he.h hs hf).weak fun D σ H ⟨μ,S,τ,hr,sr,p⟩=>⟨μ,S,τ,hr,sr,p.bind fun v x S1 μ1 H1 st1 r1 p1=>p1.here (b:=(FlV.nx,σ.set i (some v))) st1.hr ⟨(sr.step st1).set i r1,True.intro⟩⟩⟩
theorem qy {I:Its} {S:Sto} (h:gok I.gd S):I.ok S:=h
open Classical in
theorem jO (hi:RI X WE tg iter it) (hg:RG X WE tg g) (hb:RB X WE sts m) (hp:PassesOwn (model X.prog X.w) X.A X.env X.xe:=by first | exact PassesOwn.never | exact PassesOwn.leaving) (hc:X.calm=true:=by exact rfl) (hs:∀ x,foldedSetIterable iter X.env x=pure x:=by intro _;rfl):RS X WE (.For tg iter sts [] pos) (gL it g m):=
 ⟨(oC hp hc hi.h hg.h hb.h hs).weak fun D σ H ⟨μ,S,τ,hr,sr,p⟩=>⟨μ,S,τ,hr,sr,p.bind fun J I S1 μ1 H1 st1 io p1=>by
  refine ⟨fun i k σ' H'=>∃ μ' S' τ',Step μ1 S1 H1 μ' S' H'∧aR X.K X.mg μ' S' H' σ' τ'∧I.ok S'∧k+i=I.items.length∧au (RlS X.K X.mg) WE μ' S' H' (cg g m I.gd (I.items.drop i) τ' S') D.at,
   ⟨I.items.length,μ1,S1,τ,Step.refl st1.hr,sr.step st1,io.ok,by simp,p1⟩,?_⟩
  rintro i k σ' H' ⟨μ',S',τ',st',sr',ok',hk,p'⟩
  by_cases hlt:i < I.items.length
  ·have hz:I.items[i]?=some I.items[i]:=List.getElem?_eq_getElem hlt
   rw [List.drop_eq_getElem_cons hlt,cg] at p'
   refine .inr ⟨io.go i _ μ' S' H' st' ok' hz,_,fun σ2 H2 n=>⟨I.items.length - (i+1),by omega,n⟩,fun x H2 y=>?_⟩
   obtain ⟨st2,rx⟩:=io.yld i _ μ' S' H' x H2 st' ok' hz y
   refine ⟨μ',S',τ',_,st2.hr,sr'.step st2,rx,(p'.shift st2).bind fun σ3 τ3 S3 μ3 H3 st3 sr3 p3=>⟨μ3,S3,τ3,st3.hr,sr3,p3.bind fun q qq S4 μ4 H4 st4 r4 p4=>?_⟩⟩
   obtain ⟨fv,σ4⟩:=q
   obtain ⟨fl,τ4⟩:=qq
   obtain ⟨sr4,fr⟩:=r4
   have go:∀ {b},au (RlS X.K X.mg) WE μ4 S4 H4 (if gok I.gd S4 then cg g m I.gd (I.items.drop (i+1)) τ4 S4 else .bad) D.at→b=σ4→∃ μ' S' τ',Step μ1 S1 H1 μ' S' H4∧aR X.K X.mg μ' S' H4 b τ'∧I.ok S'∧I.items.length - (i+1)+(i+1)=I.items.length∧au (RlS X.K X.mg) WE μ' S' H4 (cg g m I.gd (I.items.drop (i+1)) τ' S') D.at:=by
    rintro b p5 rfl
    split at p5
    ·exact ⟨μ4,S4,τ4,st'.trans (st2.trans (st3.trans st4)),sr4,qy ‹_›,by omega,p5⟩
    ·exact p5.elim
   cases fl with
   | nx=>cases fv with
    | nx=>exact go p4 rfl
    | _=>exact (show False from fr).elim
   | ct=>cases fv with
    | ct=>exact go p4 rfl
    | _=>exact (show False from fr).elim
   | bk=>cases fv with
    | bk=>exact (show D.at (FlV.nx,σ4) H4 from au.here (b:=(FlV.nx,σ4)) st4.hr p4 ⟨sr4,True.intro⟩)
    | _=>exact (show False from fr).elim
   | rt z=>cases fv with
    | rt v=>exact (show D.at (FlV.rt v,σ4) H4 from au.here (b:=(FlV.rt v,σ4)) st4.hr p4 ⟨sr4,fr⟩)
    | _=>exact (show False from fr).elim
  ·rw [List.drop_eq_nil_of_le (by omega),cg] at p'
   exact .inl ⟨io.stop i μ' S' H' st' ok' (by omega),p'.here (b:=(FlV.nx,σ')) st'.hr ⟨sr',True.intro⟩⟩⟩⟩
end
open Classical in
noncomputable def du (g:XG) (t:XT) (e:XE) (n:Nat) (gd:Option (Nat×Ob)):List Vl→List D→Nv→Sto→R (List D)
 | [],acc,_,S=>if S[n]?=some (.lst acc) then .ok acc S else .bad
 | z :: zs,acc,τ,S=>(g z τ S).bind fun τ1 S1=>(t τ1 S1).bind fun b S2=>if b=true then (e τ1 S2).bind fun v S3=>(match v with
   | .d x=>if S3[n]?=some (.lst acc)∧gok gd (S3.set n (.lst (acc++[x]))) then du g t e n gd zs (acc++[x]) τ1 (S3.set n (.lst (acc++[x]))) else .bad
   | _=>.bad)
  else if gok gd S2 then du g t e n gd zs acc τ1 S2 else .bad
def gi (n:Nat) (acc:List D) (S:Sto):R Vl:=.ok (.d (.lst acc)) (if S.length=n+1 then S.take n else S.set n .dead)
noncomputable def je (fin:Nat→List D→Sto→R Vl) (it:XI) (k:Nat) (g:XG) (t:XT) (e:XE):XE:=fun τ S=>(it τ S).bind fun I S1=>(du g t e S1.length I.gd I.items [] (List.replicate k none++τ) (S1++[.lst []])).bind fun acc S2=>fin S1.length acc S2
noncomputable abbrev xLC:XI→Nat→XG→XT→XE→XE:=je gi
def fY (fin:Nat→List D→Sto→R Vl):Prop:=∀ (K:PySem.W.Frag) (mg:Str→Option Value) (WE:WX) (μ μ':Nat→Addr) (S S':Sto) (H H':Hp) (acc:List D) (D:Addr) (Q:VK),Step μ S H μ' S' H'→S'[S.length]?=some (.lst acc)→μ' S.length=D→au (av K mg) WE μ S H (fin S.length acc S') Q→Q (.ref D) H'
theorem eX:fY gi:=by
 intro K mg WE μ μ' S S' H H' acc D Q st e hD p
 obtain ⟨vs,h,rs⟩:=st.hr.ob _ _ e
 have hn:S.length < S'.length:=(List.getElem?_eq_some_iff.mp e).1
 unfold gi at p
 by_cases hl:S'.length=S.length+1
 ·rw [if_pos hl] at p
  refine p _ _ _ st.take (Rep.lst (vs:=vs) (aI (by rw [← hD];exact h) ?_) (rs.mono br))
  rintro ⟨m,u,e2,d2,q⟩
  obtain ⟨hm,e3⟩:=bh e2
  have:=st.hr.inj m S.length u _ e3 e d2 (by simp) (by rw [q,hD])
  omega
 ·rw [if_neg hl] at p
  obtain ⟨st2,na⟩:=Step.freeze st.hr e (by simp)
  refine p _ _ _ (st.trans st2) (Rep.lst (vs:=vs) (aI (by rw [← hD];exact h) (by rw [← hD];exact na)) (rs.mono st2.vis))
section
variable {X:Cx} {WE:WX} {tg elt iter:Expr} {ifs:List Expr} {scope:Scope} {pos:Pos} {it:XI} {g:XG} {t:XT} {e:XE} {N:List Str} {k:Nat} {fin:Nat→List D→Sto→R Vl}
theorem ny:RTs X WE [] (fun _ S=>.ok true S):=⟨fun pins s σ H Q I ⟨μ,S,τ,hr,sr,p⟩=>m5 pins s σ H Q I (p.here hr rfl)⟩
theorem mL {c:Expr} (h:RT X WE c t):RTs X WE [c] t:=⟨mQ h.h⟩
theorem au.iL {α β γ δ:Type} {Rl:(Nat→Addr)→Sto→Hp→β→α→Prop} {Rl2:(Nat→Addr)→Sto→Hp→δ→γ→Prop} {μ μ1:Nat→Addr} {S S1:Sto} {H H1:Hp} {res:R α} {Q:β→Hp→Prop} {Q2:δ→Hp→Prop} {f:α→Sto→R γ}
  (h:au Rl2 WE μ S H (res.bind f) Q2) (a:Step μ S H μ1 S1 H1) (kk:∀ b x S2 μ2 H2,Step μ1 S1 H1 μ2 S2 H2→Rl μ2 S2 H2 b x→au Rl2 WE μ S H (f x S2) Q2→Q b H2):au Rl WE μ1 S1 H1 res Q:=by
 cases res with
 | ok x S'=>exact fun b μ' H' st r=>kk b x S' μ' H' st r h
 | ex c xs S'=>exact fun μ' H' st=>h μ' H' (a.trans st)
 | bad=>exact h
open Classical in
theorem md (hfin:fY fin) {σ:St} {H:Hp} {Q:VK} (h:trE X.K X.mg WE (je fin it k g t e) σ H Q):tLC (trI X.K X.mg WE it) (trG X.K X.mg WE g) (trT X.K X.mg WE t) (trE X.K X.mg WE e) k σ H Q:=by
 obtain ⟨μ,S,τ,hr,sr,p⟩:=h
 refine ⟨μ,S,τ,hr,sr,p.bind fun J I S1 μ1 H1 st1 io p1=>fun D hD=>?_⟩
 have st0:Step μ1 S1 H1 (ext μ1 S1.length D) (S1++[.lst []]) (upd H1 D (.lst [])):=Step.alloc st1.hr hD (ob:=.lst []) ⟨[],rfl,.nil⟩
 have hlen:(S1++[Ob.lst []]).length=S1.length+1:=by simp
 refine ⟨fun i j σ' H'=>∃ μ' S' τ' acc,Step (ext μ1 S1.length D) (S1++[.lst []]) (upd H1 D (.lst [])) μ' S' H'∧aR X.K X.mg μ' S' H' σ' τ'∧I.ok S'∧j+i=I.items.length∧acc.length≤i ∧
   au (av X.K X.mg) WE μ1 S1 H1 ((du g t e S1.length I.gd (I.items.drop i) acc τ' S').bind fun acc S2=>fin S1.length acc S2) Q,
  ⟨I.items.length,_,_,_,[],Step.refl st0.hr,((sr.step st1).step st0).pre k,?_,by simp,Nat.le_refl _,p1⟩,?_⟩
 ·have ok:=io.ok
  unfold Its.ok at ok ⊢
  split
  ·trivial
  ·rename_i n o hg
   rw [hg] at ok
   have hn:n < S1.length:=(List.getElem?_eq_some_iff.mp ok).1
   rw [List.getElem?_append_left hn];exact ok
 rintro i j σ' H' ⟨μ',S',τ',acc,st',sr',ok',hj,hacc,p'⟩
 have stA:=st0.trans st'
 have hn:S1.length < S'.length:=by have:=st'.le;omega
 have hμ:μ' S1.length=D:=by rw [st'.ag S1.length (by omega),bq]
 by_cases hlt:i < I.items.length
 ·have hz:I.items[i]?=some I.items[i]:=List.getElem?_eq_getElem hlt
  rw [List.drop_eq_getElem_cons hlt,du] at p'
  refine .inr ⟨io.go i _ μ' S' H' stA ok' hz,_,fun σ2 H2 n=>⟨I.items.length - (i+1),by omega,n⟩,fun x H2 y=>?_⟩
  obtain ⟨st2,rx⟩:=io.yld i _ μ' S' H' x H2 stA ok' hz y
  have bb:∀ {α β γ:Type} (r:R α) (f:α→Sto→R β) (f':β→Sto→R γ),(r.bind f).bind f'=r.bind fun a S=>(f a S).bind f':=fun r f f'=>by cases r<;>rfl
  simp only [bb] at p'
  refine ⟨μ',S',τ',_,st2.hr,sr'.step st2,rx,p'.iL (stA.trans st2) fun σ3 τ3 S3 μ3 H3 st3 sr3 p3=>?_⟩
  refine ⟨μ3,S3,τ3,st3.hr,sr3,p3.iL (stA.trans (st2.trans st3)) fun b b' S4 μ4 H4 st4 r4 p4=>?_⟩
  cases (show b=b' from r4)
  have st24:=st2.trans (st3.trans st4)
  by_cases hb:b=true
  ·rw [if_pos hb] at p4 ⊢
   rw [bb] at p4
   refine ⟨μ4,S4,τ3,st4.hr,sr3.step st4,p4.iL (stA.trans st24) fun v z S5 μ5 H5 st5 r5 p5=>?_⟩
   have st25:=st24.trans st5
   cases z with
   | d x=>
    try dsimp only at p5
    by_cases hif:S5[S1.length]?=some (.lst acc)∧gok I.gd (S5.set S1.length (.lst (acc++[x])))
    ·rw [if_pos hif] at p5
     obtain ⟨vs,h5,rs⟩:=st5.hr.ob _ _ hif.1
     have hμ5:μ5 S1.length=D:=by rw [st25.ag S1.length (by omega)];exact hμ
     rw [hμ5] at h5
     have sp:Step μ5 S5 H5 μ5 (S5.set S1.length (.lst (acc++[x]))) (upd H5 (μ5 S1.length) (.lst (vs++[v]))):=Step.put st5.hr hif.1 (by simp) (ob:=.lst (acc++[x])) ⟨_,rfl,rs.append (.cons r5 .nil)⟩
     rw [hμ5] at sp
     have lz:=io.len
     have lv:=rs.length
     refine ⟨vs,h5,by omega,μ5,_,τ3,acc++[x],st'.trans (st25.trans sp),(sr3.step (st4.trans st5)).step sp,hif.2,by omega,by simp;omega,p5⟩
    ·rw [if_neg hif] at p5
     exact p5.elim
   | _=>exact p5.elim
  ·rw [if_neg hb] at p4 ⊢
   by_cases hif:gok I.gd S4
   ·rw [if_pos hif] at p4
    exact ⟨μ4,S4,τ3,acc,st'.trans st24,sr3.step st4,hif,by omega,by omega,p4⟩
   ·rw [if_neg hif] at p4
    exact p4.elim
 ·rw [List.drop_eq_nil_of_le (by omega),du] at p'
  refine .inl ⟨io.stop i μ' S' H' stA ok' (by omega),?_⟩
  by_cases hif:S'[S1.length]?=some (.lst acc)
  ·rw [if_pos hif] at p'
   exact hfin X.K X.mg WE μ1 μ' S1 S' H1 H' acc D Q stA hif hμ p'
  ·rw [if_neg hif] at p'
   exact p'.elim
theorem rt0:∀ C s H fp,RTs (aV X scope N C s H fp) WE [] (fun _ S=>.ok true S):=fun _ _ _ _=>ny
theorem lX {esc:Scope} {EN:List Str} (hfin:fY fin) (N:List Str) (q:LQ esc EN) (hi:RI X WE tg iter it) (hg:∀ C s H fp,LQ scope N→RG (aV X scope N C s H fp) WE tg g) (ht:∀ C s H fp,RTs (aV X scope N C s H fp) WE ifs t) (he:∀ C s H fp,RE (aV X scope N C s H fp) WE elt e) (hd:N.Nodup:=by decide +kernel)
  (Sc:bV esc scope EN N k:=by exact ⟨rfl,by decide +kernel,by decide +kernel,by decide +kernel,by decide +kernel,by decide +kernel⟩) (h1:X.env.scope=esc:=by exact rfl) (h2:X.N=EN:=by exact rfl) (hc:X.calm=true:=by exact rfl) (hs:∀ x,foldedSetIterable iter X.env x=pure x:=by intro _;rfl):RE X WE (.ListComp elt [⟨tg,iter,ifs,0⟩] scope pos) (je fin it k g t e):=
 ⟨(ug hc Sc h1 h2 hi.h (fun C s H fp=>(hg C s H fp ⟨hd⟩).h) (fun C s H fp=>(ht C s H fp).h) (fun C s H fp=>(he C s H fp).h) hs).weak fun σ H Q h=>md (X:=X) hfin h⟩
theorem lT {esc:Scope} {EN:List Str} {i:Nat} {y:Str} {py spos:Pos} (hfin:fY fin) (N:List Str) (q:LQ esc EN) (hi:RI X WE tg iter it) (hg:∀ C s H fp,LQ scope N→RG (aV X scope N C s H fp) WE tg g) (ht:∀ C s H fp,RTs (aV X scope N C s H fp) WE ifs t) (he:∀ C s H fp,RE (aV X scope N C s H fp) WE elt e)
  (hi':X.N[i]?=some y:=by exact rfl) (hy:Loc X.env.scope y:=by first | exact .inl rfl | exact .inr rfl) (hd:N.Nodup:=by decide +kernel)
  (Sc:bV esc scope EN N k:=by exact ⟨rfl,by decide +kernel,by decide +kernel,by decide +kernel,by decide +kernel,by decide +kernel⟩) (h1:X.env.scope=esc:=by exact rfl) (h2:X.N=EN:=by exact rfl) (hc:X.calm=true:=by exact rfl)
  (hsw:swapsWith (.ListComp elt [⟨tg,iter,ifs,0⟩] scope pos) (some (.Name y py)) spos.line X.env=pure true:=by rfl)
  (hs:∀ x,foldedSetIterable iter X.env x=pure x:=by intro _;rfl) (hf:X.fn y=true∨X.env.scope.names.lookup y=some .local:=by first | exact .inl rfl | exact .inr rfl | assumption) :
  RS X WE (.Assign [.Name y py] (.ListComp elt [⟨tg,iter,ifs,0⟩] scope pos) spos) (aG (je fin it k g t e) (gNm i)):=
 ⟨(rW (h2 ▸ q.nd) hi' hy hc Sc h1 h2 hi.h (fun C s H fp=>(hg C s H fp ⟨hd⟩).h) (fun C s H fp=>(ht C s H fp).h) (fun C s H fp=>(he C s H fp).h) hsw hs hf).weak fun D0 σ H ⟨μ,S,τ,hr,sr,p⟩=>by
  refine md (X:=X) (WE:=WE) (g:=g) (t:=t) (e:=e) hfin ⟨μ,S,τ,hr,sr,?_⟩
  exact p.bind fun v x S1 μ1 H1 st1 r1 p1=>p1.here (b:=(FlV.nx,σ.set i (some v))) st1.hr ⟨(sr.step st1).set i r1,True.intro⟩⟩
end
def cc (x:Vl) (S:Sto):Option (List D):=match x with
 | .d (.lst xs)=>some xs
 | .r n=>(match S[n]? with
  | some (.lst xs)=>some xs
  | _=>none)
 | _=>none
def cb (x:Vl) (S:Sto):Option (List D):=match x with
 | .d (.tup xs)=>some xs
 | x=>cc x S
section
variable {K:PySem.W.Frag} {mg:Str→Option Value} {μ:Nat→Addr} {S:Sto} {H:Hp} {v:V} {x:Vl} {ds:List D} {WE:WX} {Q:VK}
theorem cQ (hr:HR μ S H) (r:av K mg μ S H v x) (e:cc x S=some ds):∃ a vs,v=.ref a∧H a=some (.lst vs)∧ah (vh μ S H) vs ds:=by
 unfold cc at e
 split at e
 ·cases e
  cases (show Rep (vh μ S H) v (.lst _) from r) with
  | lst h rs=>exact ⟨_,_,rfl,(aw h).2,rs⟩
 ·split at e
  ·rename_i q
   cases e
   obtain ⟨rfl,hn⟩:=r
   obtain ⟨vs,h,rs⟩:=hr.ob _ _ q
   exact ⟨_,vs,rfl,h,rs⟩
  ·cases e
 ·cases e
theorem eK (hr:HR μ S H) (r:av K mg μ S H v x) (e:cb x S=some ds):∃ a vs,v=.ref a∧(H a=some (.lst vs)∨H a=some (.tup vs))∧ah (vh μ S H) vs ds:=by
 unfold cb at e
 split at e
 ·cases e
  cases (show Rep (vh μ S H) v (.tup _) from r) with
  | tup h rs=>exact ⟨_,_,rfl,.inr (aw h).2,rs⟩
 ·obtain ⟨a,vs,e1,e2,e3⟩:=cQ hr r e
  exact ⟨a,vs,e1,.inl e2,e3⟩
theorem da (h:H a=some (.lst vs)∨H a=some (.tup vs)):cP H a=some vs:=h.elim qg qu
theorem aJ (r:av K mg μ S H v (.d (.int i))):v=.int i:=by cases (show Rep (vh μ S H) v (.int i) from r);rfl
theorem e6 (r:av K mg μ S H v (.d (.bl i))):v=.bl i:=by cases (show Rep (vh μ S H) v (.bl i) from r);rfl
theorem cw (r:av K mg μ S H v (.d (.str i))):v=.str i:=by cases (show Rep (vh μ S H) v (.str i) from r);rfl
theorem bI (r:av K mg μ S H v (.d .non)):v=.non:=by cases (show Rep (vh μ S H) v .non from r);rfl
theorem kg (r:av K mg μ S H v (.d (.tup ds))):∃ a vs,v=.ref a∧H a=some (.tup vs)∧vh μ S H a=some (.tup vs)∧ah (vh μ S H) vs ds:=by
 cases (show Rep (vh μ S H) v (.tup _) from r) with
 | tup h rs=>exact ⟨_,_,rfl,(aw h).2,h,rs⟩
end
def oI (C:Int→Int→Prop) [∀ i j,Decidable (C i j)] (f:Int→Int→D) (x y:Vl) (S:Sto):R Vl:=match x,y with
 | .d (.int i),.d (.int j)=>if C i j then .ok (.d (f i j)) S else .bad
 | _,_=>.bad
def oI0 (f:Int→Int→D) (x y:Vl) (S:Sto):R Vl:=match x,y with
 | .d (.int i),.d (.int j)=>.ok (.d (f i j)) S
 | _,_=>.bad
section
variable {K:PySem.W.Frag} {mg:Str→Option Value}
theorem aO [∀ i j,Decidable (C i j)] (f:Int→Int→Int):bF K mg (rI C fun i j=>V.int (f i j)) (oI C fun i j=>D.int (f i j)):=by
 intro WE μ S H v w x y Q hr rx ry p
 unfold oI at p
 split at p
 ·split at p
  ·exact ⟨_,_,aJ rx,aJ ry,‹_›,p.here hr (Rep.int _)⟩
  ·exact p.elim
 ·exact p.elim
theorem oR (f:Int→Int→Int):bF K mg (rI0 fun i j=>V.int (f i j)) (oI0 fun i j=>D.int (f i j)):=by
 intro WE μ S H v w x y Q hr rx ry p
 unfold oI0 at p
 split at p
 ·exact ⟨_,_,aJ rx,aJ ry,p.here hr (Rep.int _)⟩
 ·exact p.elim
theorem eZ (f:Int→Int→Bool):bF K mg (rI0 fun i j=>V.bl (f i j)) (oI0 fun i j=>D.bl (f i j)):=by
 intro WE μ S H v w x y Q hr rx ry p
 unfold oI0 at p
 split at p
 ·exact ⟨_,_,aJ rx,aJ ry,p.here hr (Rep.bl _)⟩
 ·exact p.elim
end
instance (i j:Int):Decidable (de i j):=by unfold de;infer_instance
instance (i j:Int):Decidable (fm i j):=by unfold fm;infer_instance
instance (i j:Int):Decidable (fg i j):=by unfold fg;infer_instance
abbrev oV:=oI0 fun i j=>D.int (i - j)
abbrev cJ:=oI de fun i j=>D.int (i * j)
abbrev oMod:=oI (fun _ j=>0 < j) fun i j=>D.int (i % j)
abbrev oDiv:=oI fm fun i j=>D.int (i / j)
abbrev fq:=oI fg fun i j=>D.int (i ^ j.toNat)
abbrev oLt:=oI0 fun i j=>D.bl (decide (i < j))
abbrev oLe:=oI0 fun i j=>D.bl (decide (i≤j))
abbrev oGt:=oI0 fun i j=>D.bl (decide (j < i))
abbrev oGe:=oI0 fun i j=>D.bl (decide (j≤i))
def ve (x:Vl) (S:Sto):R Vl:=match x with
 | .d (.int i)=>.ok (.d (.int (-i))) S
 | _=>.bad
def aU (x y:Vl) (S:Sto):R Vl:=match x,y with
 | .d (.int i),.d (.int j)=>.ok (.d (.int (i+j))) S
 | .d (.tup a),.d (.tup b)=>if a.length+b.length≤100000 then .ok (.d (.tup (a++b))) S else .bad
 | .d (.str a),.d (.str b)=>if a.length+b.length≤100000 then .ok (.d (.str (a++b))) S else .bad
 | x,y=>(match cc x S,cc y S with
  | some a,some b=>if a.length+b.length≤100000 then .ok (.d (.lst (a++b))) S else .bad
  | _,_=>.bad)
def eqD (x y:Vl) (S:Sto):Option Bool:=match x,y with
 | .d .non,.d .non=>some true
 | .d .non,.d (.int _)=>some false
 | .d .non,.d (.str _)=>some false
 | .d (.int _),.d .non=>some false
 | .d (.str _),.d .non=>some false
 | .d (.int i),.d (.int j)=>some (decide (i=j))
 | .d (.bl i),.d (.bl j)=>some (decide (i=j))
 | .d (.str i),.d (.str j)=>some (decide (i=j))
 | .d (.int _),.d (.str _)=>some false
 | .d (.str _),.d (.int _)=>some false
 | .d (.tup a),.d (.tup b)=>if D.depth (.tup a)≤50 then some (D.bH a b) else none
 | x,y=>(match cc x S,cc y S with
  | some a,some b=>if D.depth (.lst a)≤50 then some (D.bH a b) else none
  | _,_=>none)
def oEq (x y:Vl) (S:Sto):R Vl:=match eqD x y S with
 | some b=>.ok (.d (.bl b)) S
 | none=>.bad
def oNe (x y:Vl) (S:Sto):R Vl:=match eqD x y S with
 | some b=>.ok (.d (.bl (!b))) S
 | none=>.bad
def oIs (x y:Vl) (S:Sto):R Vl:=match x,y with
 | .d (.bl a),.d (.bl b)=>.ok (.d (.bl (a == b))) S
 | .d .non,.d .non=>.ok (.d (.bl true)) S
 | .fn _,_=>.bad
 | .sc _,_=>.bad
 | _,.d .non=>.ok (.d (.bl false)) S
 | _,_=>.bad
def gg (x y:Vl) (S:Sto):R Vl:=match x,y with
 | .d (.bl a),.d (.bl b)=>.ok (.d (.bl (a != b))) S
 | .d .non,.d .non=>.ok (.d (.bl false)) S
 | .fn _,_=>.bad
 | .sc _,_=>.bad
 | _,.d .non=>.ok (.d (.bl true)) S
 | _,_=>.bad
section
variable {K:PySem.W.Frag} {mg:Str→Option Value}
def iV:R2:=fun x y H Q=>l9 x y H Q∨∃ i j,x=.str i∧y=.str j∧i.length+j.length≤sizeLine∧Q (.str (i++j)) H
theorem aL:OpR X (binaryOp .Add) iV:=m7.or iH
theorem aP:bF K mg iV aU:=by
 intro WE μ S H v w x y Q hr rx ry p
 unfold aU at p
 split at p
 ·exact .inl (.inl ⟨_,_,aJ rx,aJ ry,p.here hr (Rep.int _)⟩)
 ·split at p
  ·rename_i a b hl
   obtain ⟨p1,us,rfl,h1,g1,r1⟩:=kg rx
   obtain ⟨p2,ws,rfl,h2,g2,r2⟩:=kg ry
   have l1:=r1.length
   have l2:=r2.length
   refine .inl (.inr ⟨p1,p2,rfl,rfl,.inl ⟨us,ws,h1,h2,dD (by omega),fun e=>?_,fun _ e=>?_,fun _ _ q hq=>p.vx hr (r1.append r2) q hq⟩⟩)
   ·subst e
    have:a=[]:=List.eq_nil_of_length_eq_zero l1.symm
    subst this
    exact p.here hr (Rep.tup g2 r2)
   ·subst e
    have:b=[]:=List.eq_nil_of_length_eq_zero l2.symm
    subst this
    rw [List.append_nil] at p
    exact p.here hr (Rep.tup g1 r1)
  ·exact p.elim
 ·split at p
  ·exact .inr ⟨_,_,cw rx,cw ry,dD ‹_›,p.here hr (Rep.str _)⟩
  ·exact p.elim
 ·split at p
  ·rename_i a b e1 e2
   split at p
   ·obtain ⟨p1,us,rfl,h1,r1⟩:=cQ hr rx e1
    obtain ⟨p2,ws,rfl,h2,r2⟩:=cQ hr ry e2
    have l1:=r1.length
    have l2:=r2.length
    exact .inl (.inr ⟨p1,p2,rfl,rfl,.inr ⟨us,ws,h1,h2,dD (by omega),fun q hq=>p.lI hr (r1.append r2) q hq⟩⟩)
   ·exact p.elim
  ·exact p.elim
theorem l8 (hr:HR μ S H) (rx:av K mg μ S H v x) (ry:av K mg μ S H w y) (e:eqD x y S=some b) :
  (kF v w=true∧decide (v=w)=b)∨∃ d e,Rep H v d∧Rep H w e∧D.depth d≤50∧((∃ ds es,d=.tup ds∧e=.tup es)∨∃ ds es,d=.lst ds∧e=.lst es)∧D.eqv d e=b:=by
 unfold eqD at e
 split at e
 ·cases e;rw [bI rx,bI ry];exact .inl ⟨rfl,by decide⟩
 ·cases e;rw [bI rx,aJ ry];exact .inl ⟨rfl,by simp⟩
 ·cases e;rw [bI rx,cw ry];exact .inl ⟨rfl,by simp⟩
 ·cases e;rw [aJ rx,bI ry];exact .inl ⟨rfl,by simp⟩
 ·cases e;rw [cw rx,bI ry];exact .inl ⟨rfl,by simp⟩
 ·cases e;rw [aJ rx,aJ ry];exact .inl ⟨rfl,by simp only [V.int.injEq]⟩
 ·cases e;rw [e6 rx,e6 ry];exact .inl ⟨rfl,by simp only [V.bl.injEq]⟩
 ·cases e;rw [cw rx,cw ry];exact .inl ⟨rfl,by simp only [V.str.injEq]⟩
 ·cases e;rw [aJ rx,cw ry];exact .inl ⟨rfl,by simp⟩
 ·cases e;rw [cw rx,aJ ry];exact .inl ⟨rfl,by simp⟩
 ·split at e
  ·cases e
   refine .inr ⟨_,_,Rep.mono cv rx,Rep.mono cv ry,‹_›,.inl ⟨_,_,rfl,rfl⟩,?_⟩
   simp only [D.eqv]
  ·cases e
 ·split at e
  ·rename_i a b e1 e2
   split at e
   ·cases e
    obtain ⟨p1,us,rfl,h1,r1⟩:=cQ hr rx e1
    obtain ⟨p2,ws,rfl,h2,r2⟩:=cQ hr ry e2
    refine .inr ⟨.lst a,.lst b,.lst h1 (r1.mono cv),.lst h2 (r2.mono cv),‹_›,.inr ⟨_,_,rfl,rfl⟩,?_⟩
    simp only [D.eqv]
   ·cases e
  ·cases e
theorem gH:bF K mg rg oEq:=by
 intro WE μ S H v w x y Q hr rx ry p
 unfold oEq at p
 split at p
 ·rename_i b e
  have q:=p.here hr (Rep.bl b)
  rcases l8 hr rx ry e with ⟨h1,h2⟩ | ⟨d,d',h1,h2,h3,h4,h5⟩
  ·exact .inl ⟨h1,by rw [h2];exact q⟩
  ·exact .inr ⟨d,d',h1,h2,h3,h4,by rw [h5];exact q⟩
 ·exact p.elim
theorem d9:bF K mg p_ oNe:=by
 intro WE μ S H v w x y Q hr rx ry p
 unfold oNe at p
 split at p
 ·rename_i b e
  have q:=p.here hr (Rep.bl (!b))
  rcases l8 hr rx ry e with ⟨h1,h2⟩ | ⟨d,d',h1,h2,h3,h4,h5⟩
  ·exact .inl ⟨h1,by rw [h2];exact q⟩
  ·exact .inr ⟨d,d',h1,h2,h3,h4,by rw [h5];exact q⟩
 ·exact p.elim
theorem n3 (r:av K mg μ S H v x) (h1:x≠.d .non):v≠.non:=by
 rintro rfl
 cases x with
 | d x=>cases (show Rep (vh μ S H) .non x from r);exact h1 rfl
 | r n=>obtain ⟨e,_⟩:=r;cases e
 | fd kvs=>obtain ⟨_,_,_,e,_⟩:=r;cases e
 | pr x n=>obtain ⟨_,_,e,_⟩:=r;cases e
 | fn x=>obtain ⟨_,_,e⟩:=r;cases e
 | sc ns=>obtain ⟨_,e,_⟩:=r;cases e
 | xc c xs=>obtain ⟨_,_,e,_⟩:=r;cases e
 | kt ws=>obtain ⟨_,e,_⟩:=r;cases e
 | xl es=>obtain ⟨_,_,e,_⟩:=r;cases e
theorem j5:bF K mg qw oIs:=by
 intro WE μ S H v w x y Q hr rx ry p
 unfold oIs at p
 split at p
 ·rw [e6 rx,e6 ry];exact .inl ⟨_,_,rfl,rfl,p.here hr (Rep.bl _)⟩
 ·rw [bI rx,bI ry];exact .inr ⟨rfl,by rw [decide_eq_true rfl];exact p.here hr (Rep.bl _)⟩
 ·exact p.elim
 ·exact p.elim
 ·rename_i h _ _
  rw [bI ry]
  exact .inr ⟨rfl,by rw [decide_eq_false (n3 rx h)];exact p.here hr (Rep.bl _)⟩
 ·exact p.elim
end
def D.flat:D→Bool
 | .tup _=>false
 | .lst _=>false
 | _=>true
def inD (x:D) (ds:List D):Bool:=ds.any fun e=>D.eqv e x
def inX (x y:Vl) (S:Sto):Option Bool:=match x with
 | .d x=>(match cb y S with
  | some ds=>if (D.flat x && ds.all D.flat)=true then some (inD x ds) else (match cc y S with
   | some ds=>if D.bG ds≤50 then some (inD x ds) else none
   | none=>none)
  | none=>none)
 | _=>none
def oIn (x y:Vl) (S:Sto):R Vl:=match inX x y S with
 | some b=>.ok (.d (.bl b)) S
 | none=>.bad
def eH (x y:Vl) (S:Sto):R Vl:=match inX x y S with
 | some b=>.ok (.d (.bl (!b))) S
 | none=>.bad
def oIx (x y:Vl) (S:Sto):R Vl:=match y with
 | .d (.int i)=>(match cb x S with
  | some ds=>(match atI ds i with
   | some z=>.ok (.d z) S
   | none=>.bad)
  | none=>.bad)
 | _=>.bad
def cC (xs:List D) (lo hi:Option Int):List D:=(xs.drop (HT.sIx xs.length 0 lo)).take (HT.sIx xs.length xs.length hi - HT.sIx xs.length 0 lo)
def oSl (x:Vl) (lo hi:Option Int) (S:Sto):R Vl:=match x with
 | .d (.tup xs)=>.ok (.d (.tup (cC xs lo hi))) S
 | x=>(match cc x S with
  | some xs=>.ok (.d (.lst (cC xs lo hi))) S
  | none=>.bad)
def vy (x y:Vl) (S:Sto):R Vl:=match x,y with
 | .d (.tup xs),.d (.int i)=>if i=-1 then .ok (.d (.tup xs.reverse)) S else .bad
 | _,_=>.bad
section
variable {K:PySem.W.Frag} {mg:Str→Option Value}
theorem gE (r:Rep H v d) (h:D.flat d=true):bN v=true:=by cases r<;>first | rfl | cases h
theorem pK (r:Rep H v d) (q:Rep H w e) (h:D.flat d=true) (h':D.flat e=true):eqV v w=D.eqv d e:=by
  cases r<;>cases q<;>first | rfl | cases h | cases h' | simp [eqV,D.eqv]
theorem fO:∀ {vs:List V} {ds:List D},ah H vs ds→ds.all D.flat=true→vs.all bN=true
 | _,_,.nil,_=>rfl
 | _,_,.cons r t,h=>by
  rw [List.all_cons,Bool.and_eq_true] at h ⊢
  exact ⟨gE r h.1,fO t h.2⟩
theorem jw (r:Rep H v d) (h:D.flat d=true):∀ {vs:List V} {ds:List D},ah H vs ds→ds.all D.flat=true→inV v vs=inD d ds
 | _,_,.nil,_=>rfl
 | _,_,.cons q t,h'=>by
  rw [List.all_cons,Bool.and_eq_true] at h'
  have ih:=jw r h t h'.2
  unfold inV inD at ih ⊢
  rw [List.any_cons,List.any_cons,pK q r h'.1 h,ih]
def kN (neg:Bool):R2:=fun x y H Q=>qv neg x y H Q∨oP neg x y H Q
theorem in_of (hr:HR μ S H) (rx:av K mg μ S H v x) (ry:av K mg μ S H w y) (e:inX x y S=some b) (q:Q (.bl (if neg then !b else b)) H):kN neg v w H Q:=by
 unfold inX at e
 split at e
 ·rename_i x
  split at e
  ·rename_i ds e1
   obtain ⟨a,vs,rfl,ha,rs⟩:=eK hr ry e1
   split at e
   ·rename_i hf
    rw [Bool.and_eq_true] at hf
    cases e
    refine .inl ⟨a,vs,rfl,da ha,gE rx hf.1,fO rs hf.2,?_⟩
    rw [jw rx hf.1 rs hf.2]
    exact q
   ·split at e
    ·rename_i ds e2
     split at e
     ·cases e
      obtain ⟨a',vs',e3,ha',rs'⟩:=cQ hr ry e2
      cases e3
      exact .inr ⟨_,vs',x,_,rfl,ha',rs'.mono cv,Rep.mono cv rx,‹_›,q⟩
     ·cases e
    ·cases e
  ·cases e
 ·cases e
theorem mY (hu:X.A.units+64 < cLine):OpR X (compareOp .NotIn) (kN true):=jS.or (kj hu)
theorem mV:bF K mg (kN true) eH:=by
 intro WE μ S H v w x y Q hr rx ry p
 unfold eH at p
 split at p
 ·rename_i b e
  exact in_of hr rx ry e (p.here hr (Rep.bl (!b)))
 ·exact p.elim
theorem k8 (rs:ah H vs ds) (e:atI ds i=some z):∃ v,atI vs i=some v∧Rep H v z:=by
 unfold atI at e ⊢
 rw [rs.length]
 cases q:ixN ds.length i with
 | none=>rw [q] at e;cases e
 | some j=>
  rw [q] at e
  obtain ⟨v,e1,r⟩:=rs.get' (show ds[j]?=some z from e)
  exact ⟨v,e1,r⟩
theorem qt:bF K mg lD oIx:=by
 intro WE μ S H v w x y Q hr rx ry p
 unfold oIx at p
 split at p
 ·split at p
  ·rename_i ds e1
   obtain ⟨a,vs,rfl,ha,rs⟩:=eK hr rx e1
   split at p
   ·rename_i z e2
    obtain ⟨u,e3,ru⟩:=k8 rs e2
    rw [aJ ry]
    exact ⟨a,_,vs,u,rfl,rfl,da ha,e3,p.here hr ru⟩
   ·exact p.elim
  ·exact p.elim
 ·exact p.elim
theorem lq (rs:ah H vs ds) (lo hi:Option Int):ah H (fc vs lo hi) (cC ds lo hi):=by
 unfold fc cC
 rw [rs.length]
 exact (rs.drop _).take _
theorem mS:RO X WE none ff:=⟨fun pins s σ H Q I ⟨μ,S,τ,hr,sr,p⟩=>nZ pins s σ H Q I (p.here hr rfl)⟩
theorem fo (he:RE X WE e xa):RO X WE (some e) (eN xa):=⟨fun pins s σ H Q I ⟨μ,S,τ,hr,sr,p⟩=>nk he.h pins s σ H Q I ⟨μ,S,τ,hr,sr,p.bind fun v x S1 μ1 H1 st1 r1 p1=>by
 try dsimp only at p1
 split at p1
 ·exact ⟨_,aJ r1,p1.here st1.hr rfl⟩
 ·exact p1.elim⟩⟩
theorem bC (ha:RE X WE a xa) (hb:RE X WE b xb) (hs:fh b:=by exact fun _ _=>rfl):RE X WE (.Subscript a b pos) (xOp oIx xa xb):=⟨(l5 qS ha.h hb.h hs).weak fun _ _ _ h=>two (X:=X) qt h⟩
end
def df:List D→Option (List Bool)
 | []=>some []
 | .bl b :: r=>(df r).map (b :: ·)
 | _=>none
def intsOf:List D→Option (List Int)
 | []=>some []
 | .int b :: r=>(intsOf r).map (b :: ·)
 | _=>none
theorem eB:∀ {ds:List D} {bs:List Bool},df ds=some bs→ds=bs.map D.bl
 | [],_,e=>by simp [df] at e;subst e;rfl
 | d :: ds,bs,e=>by
  cases d with
  | bl b=>
   simp only [df,Option.map_eq_some_iff] at e
   obtain ⟨cs,e1,rfl⟩:=e
   rw [eB e1];rfl
  | _=>simp [df] at e
theorem ah.gx:∀ {vs:List V} {ns:List Bool},ah H vs (ns.map D.bl)→vs=ns.map V.bl
 | [],[],.nil=>rfl
 | v :: vs,n :: ns,.cons r t=>by
  cases r
  rw [List.map_cons,ah.gx t]
def cY (xs:List Vl) (S:Sto):R Vl:=match xs with
 | [x]=>(match cb x S with
  | some ds=>.ok (.d (.int ds.length)) S
  | none=>.bad)
 | _=>.bad
def jE (xs:List Vl) (S:Sto):R Vl:=match xs with
 | [x]=>(match cb x S with
  | some ds=>.ok (.d (.tup ds)) S
  | none=>.bad)
 | _=>.bad
def lW (xs:List Vl) (S:Sto):R Vl:=match xs with
 | [x]=>(match cb x S with
  | some ds=>.ok (.d (.lst ds)) S
  | none=>.bad)
 | _=>.bad
def dP (xs:List Vl) (S:Sto):R Vl:=match xs with
 | [x]=>(match cb x S with
  | some ds=>.ok (.r S.length) (S++[.lst ds])
  | none=>.bad)
 | _=>.bad
def vt (xs:List Vl) (S:Sto):R Vl:=match xs with
 | [.d (.int i),.d (.int j)]=>.ok (.d (.int (if j > i then j else i))) S
 | _=>.bad
def uG (xs:List Vl) (S:Sto):R Vl:=match xs with
 | [.d (.int i),.d (.int j)]=>.ok (.d (.int (if j < i then j else i))) S
 | _=>.bad
section
variable {K:PySem.W.Frag} {mg:Str→Option Value}
theorem aH.one (r:aH K mg μ S H vs [x]):∃ v,vs=[v]∧av K mg μ S H v x:=by
 cases r with | cons r t=>cases t;exact ⟨_,rfl,r⟩
theorem cn:i7 K mg lU cY:=by
 intro WE μ S H vs xs Q hr rs p
 unfold cY at p
 split at p
 ·obtain ⟨v,rfl,r⟩:=rs.one
  split at p
  ·obtain ⟨a,us,rfl,ha,rr⟩:=eK hr r ‹_›
   exact ⟨a,us,rfl,da ha,by rw [rr.length];exact p.here hr (Rep.int _)⟩
  ·exact p.elim
 ·exact p.elim
theorem i0:i7 K mg ju dP:=by
 intro WE μ S H vs xs Q hr rs p
 unfold dP at p
 split at p
 ·obtain ⟨v,rfl,r⟩:=rs.one
  split at p
  ·obtain ⟨a,us,rfl,ha,rr⟩:=eK hr r ‹_›
   exact ⟨a,us,rfl,da ha,fun q hq=>p.qm hr rr q hq⟩
  ·exact p.elim
 ·exact p.elim
end
def bP (T:String) (x:Vl) (S:Sto):R Vl:=match x with
 | .d d=>.ok (.d (.bl (isT T d))) S
 | .r n=>(match S[n]? with
  | some (.lst xs)=>.ok (.d (.bl (isT T (.lst xs)))) S
  | _=>.bad)
 | _=>.bad
section
variable {X:Cx} {WE:WX}
theorem aQ [n:NS e] (hm:X.mg "isinstance"=none) (hm2:X.mg nm=none) (hv:bootBuiltins nm=some (.type T)) (ha:RE X WE e xa) (hg:Gl X "isinstance":=by exact rfl) (hg2:Gl X nm:=by exact rfl) (ho:okT T=true:=by exact rfl)
  (hn:nm≠"__name__":=by decide) (hd:(nm == ("__debug__":Str))=false:=by decide) (hb:bootBuiltins "isinstance"=some (.builtin "isinstance"):=by decide +kernel)
  (hs2:starEach [.Name nm p2] X.env=(false,eval (.Name nm p2) X.env) :: starEach [] X.env:=by rfl) (hpl:(backTo pos (starEach [.Name nm p2] X.env)).any (·.1)=false:=by rfl) :
  RE X WE (.Call (.Name "isinstance" p) [e,.Name nm p2] [] pos) (xUn (bP T) xa):=
 ⟨(jF hg hm hg2 hm2 hv ho ha.h hn hd hb (n.eq _ X.env) hs2 hpl).weak fun σ H Q ⟨μ,S,τ,hr,sr,p⟩=>⟨μ,S,τ,hr,sr,p.bind fun v x S1 μ1 H1 st1 r1 p1=>by
  unfold bP at p1
  split at p1
  ·exact ⟨_,Rep.mono cv r1,p1.here st1.hr (Rep.bl _)⟩
  ·split at p1
   ·rename_i e
    obtain ⟨rfl,hn⟩:=r1
    obtain ⟨vs,h,rs⟩:=st1.hr.ob _ _ e
    exact ⟨_,Rep.lst h (rs.mono cv),p1.here st1.hr (Rep.bl _)⟩
   ·exact p1.elim
  ·exact p1.elim⟩⟩
def xLm (f:Nat→List D→D→Sto→R Vl) (o e:XE):XE:=fun τ S=>(o τ S).bind fun x S1=>match x with
 | .r n=>(match S1[n]? with
  | some (.lst _)=>(e τ S1).bind fun y S2=>(match y with
   | .d z=>(match S2[n]? with
    | some (.lst xs)=>f n xs z S2
    | _=>.bad)
   | _=>.bad)
  | _=>.bad)
 | _=>.bad
end
def vk (e:XE):XI:=fun τ S=>(e τ S).bind fun z S1=>match z with
 | .d (.tup xs)=>.ok ⟨xs.map Vl.d,none⟩ S1
 | .d (.lst xs)=>.ok ⟨xs.map Vl.d,none⟩ S1
 | .r n=>(match S1[n]? with
  | some (.lst xs)=>.ok ⟨xs.map Vl.d,some (n,.lst xs)⟩ S1
  | _=>.bad)
 | _=>.bad
def iY (as:XA):XI:=fun τ S=>(as τ S).bind fun zs S1=>match zs with
 | [.d (.int j)]=>if -100000≤j∧j≤100000 then .ok ⟨(List.range j.toNat).map fun i=>Vl.d (.int (i:Nat)),none⟩ S1 else .bad
 | _=>.bad
def vw (as:XA):XI:=fun τ S=>(as τ S).bind fun zs S1=>match zs with
 | [.d (.int i),.d (.int j)]=>if (-100000≤i∧i≤100000)∧-100000≤j∧j≤100000 then .ok ⟨(List.range (j - i).toNat).map fun k=>Vl.d (.int (i+(k:Nat))),none⟩ S1 else .bad
 | _=>.bad
section
variable {X:Cx} {WE:WX} {K:PySem.W.Frag} {mg:Str→Option Value} {μ:Nat→Addr} {S:Sto} {H:Hp}
theorem qc {lo:Int} {m:Nat} (hr:HR μ S H) (hm:m≤sizeLine):c5 K mg μ S H (Itr lo m) ⟨(List.range m).map fun k=>Vl.d (.int (lo+(k:Nat))),none⟩ where
 ok:=True.intro
 len:=by simpa using hm
 go:=fun i z μ' S' H' st _ e=>by
  have:=(List.getElem?_eq_some_iff.mp e).1
  exact (show i < m by simpa using this)
 yld:=fun i z μ' S' H' u H2 st _ e y=>by
  obtain ⟨rfl,rfl⟩:=y
  have hi:i < m:=by simpa using (List.getElem?_eq_some_iff.mp e).1
  rw [List.getElem?_map,List.getElem?_range hi] at e
  cases e
  exact ⟨Step.refl st.hr,Rep.int _⟩
 stop:=fun i μ' S' H' st _ hi=>(show m≤i by simpa using Nat.le_of_eq hi)
theorem fM {tg a:Expr} {as:XA} {p pos:Pos} (hg:Gl X "range") (hm:X.mg "range"=none) (ha:RA X WE [a] as) (hs:starEach [a] X.env=[(false,eval a X.env)]:=by rfl):RI X WE tg (.Call (.Name "range" p) [a] [] pos) (iY as):=
 ⟨(kf hg hm ha.h hs).weak fun σ H Rr ⟨μ,S,τ,hr,sr,p⟩=>⟨μ,S,τ,hr,sr,p.bind fun vs xs S1 μ1 H1 st1 r1 p1=>by
  try dsimp only at p1
  split at p1
  ·split at p1
   ·obtain ⟨v,rfl,r⟩:=r1.one
    rename_i j hj
    refine ⟨j,by rw [aJ r],by omega,by omega,p1.here st1.hr ?_⟩
    have q:=qc (K:=X.K) (mg:=X.mg) (lo:=0) (m:=j.toNat) st1.hr (dD (by omega))
    have z:∀ k:Nat,(0:Int)+k=k:=fun k=>by omega
    simp only [z] at q
    exact q
   ·exact p1.elim
  ·exact p1.elim⟩⟩
end
section
variable {X:Cx} {WE:WX}
def bO (x y z:Vl) (S:Sto):R Unit:=match x,y,z with
 | .r n,.d (.int k),.d w=>(match S[n]? with
  | some (.lst xs)=>(match ixN xs.length k with
   | some j=>.ok () (S.set n (.lst (xs.set j w)))
   | none=>.bad)
  | _=>.bad)
 | _,_,_=>.bad
theorem ah.set (r:Rep H v d):∀ {vs:List V} {ds:List D} (i:Nat),ah H vs ds→ah H (vs.set i v) (ds.set i d)
 | _,_,_,.nil=>.nil
 | _,_,0,.cons _ t=>.cons r t
 | _,_,i+1,.cons q t=>.cons q (ah.set r i t)
theorem c_ {K:PySem.W.Frag} {mg:Str→Option Value}:ji K mg iN bO:=by
 intro WE μ S H o i v x y z Q hr ro ri rv p
 unfold bO at p
 split at p
 ·split at p
  ·rename_i n k w _ xs e
   obtain ⟨rfl,hn⟩:=ro
   obtain ⟨vs,h,rs⟩:=hr.ob _ _ e
   split at p
   ·rename_i j ej
    refine ⟨_,vs,k,j,rfl,aJ ri,h,by rw [rs.length];exact ej,?_⟩
    exact p () _ _ (Step.put hr e (by simp) (ob:=.lst (xs.set j w)) ⟨_,rfl,rs.set rv j⟩) True.intro
   ·exact p.elim
  ·exact p.elim
 ·exact p.elim
theorem eU:i5 X iN:=set_list
end
def bA (k:Nat):List D→List Vl
 | []=>[]
 | x :: xs=>.d (.tup [.int k,x]) :: bA (k+1) xs
theorem dG:∀ (k:Nat) (xs:List D),(bA k xs).length=xs.length
 | _,[]=>rfl
 | k,x :: xs=>by simp [bA,dG (k+1) xs]
theorem cT:∀ (k:Nat) (xs:List D) (i:Nat),(bA k xs)[i]?=(xs[i]?).map fun x=>Vl.d (.tup [.int ((k+i:Nat):Int),x])
 | _,[],_=>by simp [bA]
 | k,x :: xs,0=>by simp [bA]
 | k,x :: xs,i+1=>by
  simp only [bA,List.getElem?_cons_succ,cT (k+1) xs i]
  congr 1
  funext z
  rw [show k+1+i=k+(i+1) by omega]
def kB (e:XE):XI:=fun τ S=>(e τ S).bind fun z S1=>match z with
 | .d (.lst xs)=>.ok ⟨bA 0 xs,none⟩ S1
 | _=>.bad
section
variable {X:Cx} {WE:WX} {K:PySem.W.Frag} {mg:Str→Option Value} {μ:Nat→Addr} {S:Sto} {H:Hp}
theorem kz (g:vh μ S H a=some (.lst vs)) (rs:ah (vh μ S H) vs xs) (hz:vs.length≤sizeLine):c5 K mg μ S H (Ite K a) ⟨bA 0 xs,none⟩ where
 ok:=True.intro
 len:=by simp only [dG];rw [← rs.length];exact hz
 go:=fun i z μ' S' H' st _ e=>by
  rw [cT] at e
  cases q:xs[i]? with
  | none=>rw [q] at e;cases e
  | some x=>
   obtain ⟨u,e2,_⟩:=rs.get' q
   exact ⟨vs,u,SqL.of (aw (st.vis _ _ g)).2,e2⟩
 yld:=fun i z μ' S' H' u H2 st _ e y=>by
  obtain ⟨p,w,hp,rfl,rfl,y⟩:=y
  rw [cT] at e
  cases q:xs[i]? with
  | none=>rw [q] at e;cases e
  | some x=>
   rw [q] at e
   cases e
   have e2:=y vs (SqL.of (aw (st.vis _ _ g)).2)
   obtain ⟨x',e3,r⟩:=rs.get e2
   rw [q] at e3;cases e3
   have st2:=Step.new st.hr hp (.tup [.int i,w])
   refine ⟨st2,Rep.tup (aI aB (st.hr.nal hp)) (.cons ?_ (.cons (Rep.mono (st.trans st2).vis r) .nil))⟩
   rw [Nat.zero_add]
   exact .int _
 stop:=fun i μ' S' H' st _ hi=>⟨vs,SqL.of (aw (st.vis _ _ g)).2,by rw [rs.length];rw [dG] at hi;exact Nat.le_of_eq hi⟩
end
section
variable {X:Cx} {WE:WX}
theorem kE (hg:Gl X "enumerate") (hm:X.mg "enumerate"=none) (hl:RE X WE l xl) (hb:bootBuiltins "enumerate"=some (.type "enumerate"):=by decide +kernel)
  (hs:starEach [l] X.env=[(false,eval l X.env)]:=by rfl):RI X WE (.Tuple es kk tp) (.Call (.Name "enumerate" p) [l] [] pos) (kB xl):=⟨by
 intro pins s σ H R I h
 obtain ⟨μ,S,τ,hr,sr,pp⟩:=h
 refine Call_ (cy I hg hm hb (PyProof.Rows.callWith_type1 (thn ((bt hl.h cO hs) pos pins s σ H (fun vs H1=>∃ x,vs=[x]∧∃ μ1 S1 z,HR μ1 S1 H1∧av X.K X.mg μ1 S1 H1 x z∧au (c5 X.K X.mg) WE μ1 S1 H1 (match z with
   | .d (.lst xs)=>.ok ⟨bA 0 xs,none⟩ S1
   | _=>.bad) R) I ?_) fun us s1 ⟨vs,H1,I1,r1,q1⟩=>?_) hs rfl))
 ·exact ⟨μ,S,τ,hr,sr,pp.bind fun v x S1 μ1 H1 st1 r1 p1=>⟨v,rfl,μ1,S1,x,st1.hr,r1,p1⟩⟩
 ·obtain ⟨x,e,μ1,S1,z,hr1,rz,p1⟩:=q1
  subst e
  obtain ⟨u,rfl,ru⟩:=vals1 r1
  split at p1
  ·cases (show Rep (vh μ1 S1 H1) x (.lst _) from rz) with
   | @lst a us _ g rs=>
    cases ru
    have hq:SqL X.K H1 a us:=SqL.of (aw g).2
    obtain ⟨its,rv,pl,hz⟩:=I1.list hq
    have q:=p1.here hr1 (kz g rs hz)
    refine call_enumerate_list pl.isList fun h' he hit hsz hk=>?_
    refine wpAny_pyIter_enum (s:={ s1 with heap:=h' }) he ?_
    have I2:Inv X pins σ H1 { s1 with heap:=h' }:=I1.kept (t':=s1.toks) hk
    refine ⟨s1.heap.objs.size+1,[s1.heap.objs.size+1,s1.heap.objs.size],_,_,H1,rfl,I2,jk a _ _ (Nat.succ_ne_self _),⟨⟨_,he⟩,hit⟩,fun b hb=>?_,q⟩
    have hle:s1.heap.objs.size≤b:=by
     rcases List.mem_cons.mp hb with z | z
     ·rw [z];exact Nat.le_succ _
     ·rw [List.mem_singleton.mp z];exact Nat.le_refl _
    exact I1.gM hle (I1.hok.fresh hle)
  ·exact p1.elim⟩
def gA (x:Vl) (lo hi:Option Int) (S:Sto):R Vl:=match x with
 | .sc ns=>.ok (.d (.lst (cC (ns.map D.int) lo hi))) S
 | _=>.bad
theorem j4 {e:Expr} {lo hi:Option Expr} {xa:XE} {xl xh:XO} {p2 pos:Pos} (he:RE X WE e xa) (hl:RO X WE lo xl) (hh:RO X WE hi xh):RE X WE (.Subscript e (.Slice lo hi none p2) pos) (xSl gA xa xl xh):=
 ⟨(kC nO he.h hl.h hh.h).weak fun σ H Q ⟨μ,S,τ,hr,sr,p⟩=>⟨μ,S,τ,hr,sr,p.bind fun v x S1 μ1 H1 st1 r1 p1=>⟨μ1,S1,τ,st1.hr,sr.step st1,p1.bind fun i i' S2 μ2 H2 st2 r2 p2=>⟨μ2,S2,τ,st2.hr,sr.step (st1.trans st2),p2.bind fun j j' S3 μ3 H3 st3 r3 p3=>by
  cases (show i=i' from r2)
  cases (show j=j' from r3)
  have rv:=r1.step (st2.trans st3)
  unfold gA at p3
  split at p3
  ·rename_i ns
   obtain ⟨l,rfl,hq⟩:=rv
   exact ⟨l,_,rfl,hq.mono cv,fun q hq=>p3.lI st3.hr (lq (ah.ints ns) i j) q hq⟩
  ·exact p3.elim⟩⟩⟩⟩
theorem lh:RB X WE sts jl:=⟨fun _ _ _ _ _ _ ⟨_,_,_,_,_,p⟩=>p.elim⟩
end
def Df (K:PySem.W.Frag) (mg:Str→Option Value) (x:Str) (st:Stmt):Prop:=∃ (f:Addr) (fd:FuncData),Fun K x x st f fd∧mg x=some (.ref f)
theorem sS {K:PySem.W.Frag} {h:Heap} {mg:Str→Option Value} {x:Str} {st:Stmt} {f:Addr} {oc:Value} {od an:Option Addr} {osl:Array (Option Value)} {kV doc pm cdv ct:Value} (X:K.In h) (G:h.Ns mainGlobals mg) (a:PySem.W.nsIn K mainGlobals x=some (some (.ref f)))
  (l:K.lookup f=some ⟨oc,od,.func (PySem.W.fnOf x x (ck st) (bc st) (aC st) .none kV doc pm an cdv ct),osl⟩) (c:PySem.W.codeIn K cdv x=true) (k:PySem.W.keepIn K (.ref f)=true):Df K mg x st:=⟨f,_,jr l c k,PySem.W.mg_of X G a⟩
theorem c6 {K:PySem.W.Frag} {mg:Str→Option Value} {P:Program} {w:World} {x:Str} {st:Stmt} {ps:List Str} {lev:Nat} {k n:Nat} {m:XS} {M:XF} (N:List Str) (F:Df K mg x st)
    (hb:∀ (base:Heap) (f:Addr) (cdv:Value) (A:Around) (outer:List Env) (s:Shared) (H:Hp) (E:XK),aW lev (A.deeper (envOfC x (aC st) s.heap.objs.size f cdv))→LQ (aC st) N→RB (dw CX0 P w K mg base N x (aC st) f cdv A outer s H E).nox W0 (bc st) m)
    (hM:M=bf k n m:=by rfl) (hk:ps.length=k:=by rfl) (hn:N.length=n:=by rfl) (Sc:cH N ps (aC st):=by exact ⟨rfl,rfl,rfl,by decide +kernel,rfl,by decide +kernel,by decide +kernel⟩)
    (hbd:∀ (kV doc pm:Value) (an:Option Addr) (cdv ct:Value) (us:List Value),us.length=ps.length→bindArgs (PySem.W.fnOf x x (ck st) (bc st) (aC st) .none kV doc pm an cdv ct) ⟨us,[]⟩=pure (ps.zip us):=by
      intro _ _ _ _ _ _ us hl
      rcases us with _ | ⟨a,_ | ⟨b,_ | ⟨c,_ | ⟨d,_ | ⟨e,_ | ⟨f,_ | ⟨g,us⟩⟩⟩⟩⟩⟩⟩<;>first | (simp at hl;done) | rfl):OkE P w K mg (lev+1) x ps M:=by
  subst hM hk hn
  obtain ⟨f,fd,F,hm⟩:=F
  refine ⟨f,fd,hm,F.kp,?_,fun base=>uL F Sc fun cdv A outer s H E hr=>hb base f cdv A outer s H E hr ⟨Sc.nd⟩⟩
  obtain ⟨oc,od,kV,doc,pm,an,cdv,ct,osl,rfl,lk,hcd⟩:=F.ex
  exact hbd kV doc pm an cdv ct
theorem bS {α β:Type} {a:α} {S:Sto} {f:α→Sto→R β}:(R.ok a S).bind f=f a S:=rfl
theorem rL {i:Nat} {z:Vl} {τ:Nv} {S:Sto}:gNm i z τ S=.ok (τ.set i (some z)) S:=rfl
theorem eu:leave S (.ok (.rt z,τ) S')=out S z S':=rfl
theorem j_:out S (.d x) S'=.ok (.d x) (S'.take S.length):=rfl
theorem mi (h:us.length=k):bf k n b us S=leave S (b (us.map some++List.replicate (n - k) none) S):=by unfold bf;rw [if_pos h]
open Classical in
theorem g6 {g:XG} {b:XS} {gd:Option (Nat×Ob)}:∀ {items:List Vl} {τ:Nv} {S:Sto} (I:Nat→Nv→Sto→Prop),I 0 τ S →
  (∀ i z τ S,items[i]?=some z→I i τ S→∃ τ1 S1 fl τ2 S2,g z τ S=.ok τ1 S1∧b τ1 S1=.ok (fl,τ2) S2∧(fl=.nx∨fl=.ct)∧gok gd S2∧I (i+1) τ2 S2) →
  ∃ τ' S',cg g b gd items τ S=.ok (.nx,τ') S'∧I items.length τ' S'
 | [],τ,S,I,h0,_=>⟨τ,S,rfl,h0⟩
 | z :: zs,τ,S,I,h0,hs=>by
  obtain ⟨τ1,S1,fl,τ2,S2,e1,e2,hf,hg,hI⟩:=hs 0 z τ S rfl h0
  obtain ⟨τ',S',e3,h3⟩:=g6 (items:=zs) (τ:=τ2) (S:=S2) (fun i=>I (i+1)) hI fun i z' τ S hz hi=>hs (i+1) z' τ S (by simpa using hz) hi
  refine ⟨τ',S',?_,h3⟩
  rw [cg,e1,bS,e2,bS]
  rcases hf with rfl | rfl
  ·dsimp only
   rw [if_pos hg];exact e3
  ·dsimp only
   rw [if_pos hg];exact e3
theorem j0 {it:XI} {t:XT} {e:XE} {τ:Nv} {S S1:Sto} {items:List Vl} (hit:it τ S=.ok ⟨items,none⟩ S1) (J:Nat→List D→Sto→Prop) (h0:J 0 [] S1)
  (hs:∀ i z acc Q,items[i]?=some z→J i acc Q→Q.length=S1.length→∃ b Q1,t (some z :: τ) (Q++[.lst acc])=.ok b (Q1++[.lst acc])∧Q1.length=S1.length ∧
   (b=true→∃ x Q2,e (some z :: τ) (Q1++[.lst acc])=.ok (.d x) (Q2++[.lst acc])∧Q2.length=S1.length∧J (i+1) (acc++[x]) Q2)∧(b=false→J (i+1) acc Q1)) :
  ∃ acc Q,xLC it 1 (gNm 0) t e τ S=.ok (.d (.lst acc)) Q∧Q.length=S1.length∧J items.length acc Q:=by
 have key:∀ (zs:List Vl) (i:Nat) (acc:List D) (o:Option Vl) (Q:Sto),(∀ j,zs[j]?=items[i+j]?)→J i acc Q→Q.length=S1.length→∃ acc' Q',du (gNm 0) t e S1.length none zs acc (o :: τ) (Q++[.lst acc])=.ok acc' (Q'++[.lst acc'])∧Q'.length=S1.length∧J (i+zs.length) acc' Q':=by
  intro zs
  induction zs with
  | nil=>
   intro i acc o Q _ hJ hl
   refine ⟨acc,Q,?_,hl,hJ⟩
   rw [du,if_pos]
   rw [← hl,List.getElem?_append_right (Nat.le_refl _)]
   simp
  | cons z zs ih=>
   intro i acc o Q hz hJ hl
   have hz0:items[i]?=some z:=by
    have:=hz 0
    simpa using this.symm
   have hz1:∀ j,zs[j]?=items[i+1+j]?:=fun j=>by
    have:=hz (j+1)
    rw [show i+1+j=i+(j+1) by omega]
    simpa using this
   obtain ⟨b,Q1,e1,l1,ht,hf⟩:=hs i z acc Q hz0 hJ hl
   rw [du,rL,bS,show (o :: τ).set 0 (some z)=some z :: τ from rfl,e1,bS]
   cases b with
   | true=>
    obtain ⟨x,Q2,e2,l2,hJ2⟩:=ht rfl
    rw [if_pos rfl,e2,bS]
    dsimp only
    have hn:(Q2++[Ob.lst acc])[S1.length]?=some (.lst acc):=by
     rw [← l2,List.getElem?_append_right (Nat.le_refl _)];simp
    rw [if_pos ⟨hn,True.intro⟩]
    have hset:(Q2++[Ob.lst acc]).set S1.length (.lst (acc++[x]))=Q2++[.lst (acc++[x])]:=by
     rw [← l2,List.set_append_right _ _ (Nat.le_refl _)];simp
    rw [hset]
    obtain ⟨acc',Q',e3,l3,h3⟩:=ih (i+1) (acc++[x]) (some z) Q2 hz1 hJ2 l2
    exact ⟨acc',Q',e3,l3,by rw [show i+(z :: zs).length=i+1+zs.length by simp;omega];exact h3⟩
   | false=>
    rw [if_neg Bool.false_ne_true,if_pos (show gok none (Q1++[Ob.lst acc]) from True.intro)]
    obtain ⟨acc',Q',e3,l3,h3⟩:=ih (i+1) acc (some z) Q1 hz1 (hf rfl) l1
    exact ⟨acc',Q',e3,l3,by rw [show i+(z :: zs).length=i+1+zs.length by simp;omega];exact h3⟩
 obtain ⟨acc,Q,e1,l1,h1⟩:=key items 0 [] none S1 (fun j=>by rw [Nat.zero_add]) h0 rfl
 refine ⟨acc,Q,?_,l1,by rw [Nat.zero_add] at h1;exact h1⟩
 show (it τ S).bind _=_
 rw [hit,bS]
 dsimp only
 rw [show List.replicate 1 (none:Option Vl)++τ=none :: τ from rfl,e1,bS]
 unfold gi
 rw [if_pos (by simp [l1]),← l1,List.take_left]
theorem ik (hit:it τ S=.ok ⟨items,none⟩ S1) (f:Vl→Option D)
  (hs:∀ z∈items,∀ S:Sto,(∀ x,f z=some x→t (some z :: τ) S=.ok true S∧e (some z :: τ) S=.ok (.d x) S)∧(f z=none→t (some z :: τ) S=.ok false S)) :
  xLC it 1 (gNm 0) t e τ S=.ok (.d (.lst (items.filterMap f))) S1:=by
 obtain ⟨acc,Q,e1,l1,h1⟩:=j0 (t:=t) (e:=e) hit (fun i acc Q=>acc=(items.take i).filterMap f∧Q=S1) ⟨rfl,rfl⟩ (by
  rintro i z acc Q hz ⟨rfl,rfl⟩ _
  have hm:=List.mem_of_getElem? hz
  have ht:items.take (i+1)=items.take i++[z]:=by rw [List.take_add_one,hz];rfl
  obtain ⟨h1,h2⟩:=hs z hm (Q++[.lst ((items.take i).filterMap f)])
  cases q:f z with
  | some x=>
   obtain ⟨h3,h4⟩:=h1 x q
   refine ⟨true,Q,h3,rfl,fun _=>⟨x,Q,h4,rfl,?_,rfl⟩,fun z=>(by cases z)⟩
   rw [ht,List.filterMap_append]
   simp [q]
  | none=>
   refine ⟨false,Q,h2 q,rfl,fun z=>(by cases z),fun _=>⟨?_,rfl⟩⟩
   rw [ht,List.filterMap_append]
   simp [q])
 obtain ⟨rfl,rfl⟩:=h1
 rw [List.take_length] at e1
 exact e1
theorem q0 (hit:it τ S=.ok ⟨items,none⟩ S1) (f:Vl→D) (hs:∀ z∈items,∀ S:Sto,e (some z :: τ) S=.ok (.d (f z)) S) :
  xLC it 1 (gNm 0) (fun _ S=>.ok true S) e τ S=.ok (.d (.lst (items.map f))) S1:=by
 have:=ik (t:=fun _ S=>.ok true S) (e:=e) hit (fun z=>some (f z)) fun z hz S=>⟨fun x hx=>⟨rfl,by cases hx;exact hs z hz S⟩,fun h=>by cases h⟩
 rw [this]
 congr 4
 rw [List.filterMap_eq_map']
end L2
namespace L2
section
variable {n:Nat} {b:XS} {x y z u v:Vl} {S:Sto}
theorem d_:bf 1 n b [x] S=leave S (b ([some x]++List.replicate (n - 1) none) S):=mi rfl
theorem eI:bf 2 n b [x,y] S=leave S (b ([some x,some y]++List.replicate (n - 2) none) S):=mi rfl
end
end L2
theorem L2.aa {α:Sort _} {a b:α} (h:a=b):a=b:=h
namespace L2
open PySem PySem.Spec PyProof.Rows
def og (f:Vl→Vl→Sto→R Vl) (r:R Vl) (b:XE) (τ:Nv):R Vl:=r.bind fun x S1=>(b τ S1).bind fun y S2=>f x y S2
def kS (f:Vl→Vl→Sto→R Vl) (x:Vl) (r:R Vl):R Vl:=r.bind fun y S2=>f x y S2
def un1 (f:Vl→Sto→R Vl) (r:R Vl):R Vl:=r.bind fun x S1=>f x S1
def ch3 (r:R Vl) (f:Vl→Vl→Sto→R Vl) (y:Vl) (c:XE) (τ:Nv):R Vl:=r.bind fun z S3=>match z with
 | .d (.bl k)=>if k=true then (c τ S3).bind fun w S4=>f y w S4 else .ok (.d (.bl false)) S3
 | _=>.bad
def ch2 (f f2:Vl→Vl→Sto→R Vl) (x:Vl) (r:R Vl) (c:XE) (τ:Nv):R Vl:=r.bind fun y S2=>ch3 (f x y S2) f2 y c τ
def ch1 (f f2:Vl→Vl→Sto→R Vl) (r:R Vl) (b c:XE) (τ:Nv):R Vl:=r.bind fun x S1=>ch2 f f2 x (b τ S1) c τ
def t1 (r:R Vl):R Bool:=r.bind asB
def tr1 (r:R Vl):R Bool:=r.bind tru
def kJ (r:R Bool) (b:XT) (τ:Nv):R Bool:=r.bind fun c S1=>if c=true then b τ S1 else .ok false S1
def or1 (r:R Bool) (b:XT) (τ:Nv):R Bool:=r.bind fun c S1=>if c=true then .ok true S1 else b τ S1
def p0 (r:R Bool):R Bool:=r.bind fun c S1=>.ok (!c) S1
def iZ (r:R Vl) (b:XE) (τ:Nv):R Vl:=r.bind fun x S1=>(asB x S1).bind fun c S2=>if c=true then b τ S2 else .ok (.d (.bl false)) S2
def kK (r:R Vl) (b:XE) (τ:Nv):R Vl:=r.bind fun x S1=>(asB x S1).bind fun c S2=>if c=true then .ok (.d (.bl true)) S2 else b τ S2
def lZ (r:R Vl):R Vl:=r.bind fun x S1=>(asB x S1).bind fun c S2=>.ok (.d (.bl (!c))) S2
def lK (r:R Bool) (a b:XE) (τ:Nv):R Vl:=r.bind fun k S1=>if k=true then a τ S1 else b τ S1
def co2 (x:Vl) (r:R (List Vl)):R (List Vl):=r.bind fun xs S2=>.ok (x :: xs) S2
def co1 (r:R Vl) (t:XA) (τ:Nv):R (List Vl):=r.bind fun x S1=>co2 x (t τ S1)
def n1 (f:List Vl→Sto→R Vl) (r:R (List Vl)):R Vl:=r.bind f
def c1 (F:XF) (r:R (List Vl)):R Vl:=r.bind fun us S1=>noX (F us S1)
def fz1 (r:R Vl):R Vl:=r.bind frz
def p1 (r:R Vl):R (Option Int):=r.bind fun x S1=>match x with
 | .d (.int i)=>.ok (some i) S1
 | _=>.bad
def sl3 (f:Vl→Option Int→Option Int→Sto→R Vl) (x:Vl) (i:Option Int) (r:R (Option Int)):R Vl:=r.bind fun j S3=>f x i j S3
def sl2 (f:Vl→Option Int→Option Int→Sto→R Vl) (x:Vl) (r:R (Option Int)) (h:XO) (τ:Nv):R Vl:=r.bind fun i S2=>sl3 f x i (h τ S2)
def sl1 (f:Vl→Option Int→Option Int→Sto→R Vl) (r:R Vl) (l h:XO) (τ:Nv):R Vl:=r.bind fun x S1=>sl2 f x (l τ S1) h τ
def lm4 (f:Nat→List D→D→Sto→R Vl) (n:Nat) (o:Option Ob) (z:D) (S:Sto):R Vl:=match o with
 | some (.lst xs)=>f n xs z S
 | _=>.bad
def lm3 (f:Nat→List D→D→Sto→R Vl) (n:Nat) (r:R Vl):R Vl:=r.bind fun y S2=>match y with
 | .d z=>lm4 f n S2[n]? z S2
 | _=>.bad
def lm2 (f:Nat→List D→D→Sto→R Vl) (n:Nat) (o:Option Ob) (e:XE) (τ:Nv) (S:Sto):R Vl:=match o with
 | some (.lst _)=>lm3 f n (e τ S)
 | _=>.bad
def lm1 (f:Nat→List D→D→Sto→R Vl) (r:R Vl) (e:XE) (τ:Nv):R Vl:=r.bind fun x S1=>match x with
 | .r n=>lm2 f n S1[n]? e τ S1
 | _=>.bad
def sq1 (r:R (Fl×Nv)) (b:XS):R (Fl×Nv):=r.bind fun q S1=>match q.1 with
 | .nx=>b q.2 S1
 | _=>.ok q S1
def ex1 (r:R Vl) (τ:Nv):R (Fl×Nv):=r.bind fun _ S1=>.ok (.nx,τ) S1
def rt1 (r:R Vl) (τ:Nv):R (Fl×Nv):=r.bind fun z S1=>.ok (.rt z,τ) S1
def if1 (r:R Bool) (a b:XS) (τ:Nv):R (Fl×Nv):=r.bind fun k S1=>if k=true then a τ S1 else b τ S1
def as2 (r:R Nv):R (Fl×Nv):=r.bind fun τ1 S2=>.ok (.nx,τ1) S2
def as1 (r:R Vl) (g:XG) (τ:Nv):R (Fl×Nv):=r.bind fun z S1=>as2 (g z τ S1)
def gc1 (r:R Nv) (gs:XGs) (zs:List Vl):R Nv:=r.bind fun τ1 S1=>gs zs τ1 S1
def gs3 (r:R Unit) (τ:Nv):R Nv:=r.bind fun _ S3=>.ok τ S3
def gs2 (x:Vl) (r:R Vl) (f:Vl→Vl→Vl→Sto→R Unit) (z:Vl) (τ:Nv):R Nv:=r.bind fun y S2=>gs3 (f x y z S2) τ
def gs1 (r:R Vl) (i:XE) (f:Vl→Vl→Vl→Sto→R Unit) (z:Vl) (τ:Nv):R Nv:=r.bind fun x S1=>gs2 x (i τ S1) f z τ
noncomputable def fo1 (r:R Its) (g:XG) (b:XS) (τ:Nv):R (Fl×Nv):=r.bind fun I S1=>cg g b I.gd I.items τ S1
def is2 (n:Nat) (o:Option Ob) (S:Sto):R Its:=match o with
 | some (.lst xs)=>.ok ⟨xs.map Vl.d,some (n,.lst xs)⟩ S
 | _=>.bad
def is1 (r:R Vl):R Its:=r.bind fun z S1=>match z with
 | .d (.tup xs)=>.ok ⟨xs.map Vl.d,none⟩ S1
 | .d (.lst xs)=>.ok ⟨xs.map Vl.d,none⟩ S1
 | .r n=>is2 n S1[n]? S1
 | _=>.bad
def ir1 (r:R (List Vl)):R Its:=r.bind fun zs S1=>match zs with
 | [.d (.int j)]=>if -100000≤j∧j≤100000 then .ok ⟨(List.range j.toNat).map fun i=>Vl.d (.int (i:Nat)),none⟩ S1 else .bad
 | _=>.bad
def ir2 (r:R (List Vl)):R Its:=r.bind fun zs S1=>match zs with
 | [.d (.int i),.d (.int j)]=>if (-100000≤i∧i≤100000)∧-100000≤j∧j≤100000 then .ok ⟨(List.range (j - i).toNat).map fun k=>Vl.d (.int (i+(k:Nat))),none⟩ S1 else .bad
 | _=>.bad
def ie1 (r:R Vl):R Its:=r.bind fun z S1=>match z with
 | .d (.lst xs)=>.ok ⟨bA 0 xs,none⟩ S1
 | _=>.bad
theorem iP {v:Vl} {τ:Nv} {S:Sto}:ae 0 (some v :: τ) S=.ok v S:=aa rfl
theorem gh {n:Nat} {o:Option Vl} {τ:Nv} {S:Sto}:ae (n+1) (o :: τ) S=ae n τ S:=aa rfl
theorem qs {x:D} {τ:Nv} {S:Sto}:xC x τ S=.ok (.d x) S:=aa rfl
theorem tq {x:Str} {τ:Nv} {S:Sto}:xFn x τ S=.ok (.fn x) S:=aa rfl
theorem se {f:Vl→Vl→Sto→R Vl} {a b:XE} {τ:Nv} {S:Sto}:xOp f a b τ S=og f (a τ S) b τ:=aa rfl
theorem rk {f:Vl→Vl→Sto→R Vl} {b:XE} {τ:Nv} {S1:Sto} {x:Vl}:og f (.ok x S1) b τ=kS f x (b τ S1):=aa rfl
theorem pE {f:Vl→Vl→Sto→R Vl} {S1:Sto} {x y:Vl}:kS f x (.ok y S1)=f x y S1:=aa rfl
theorem ui {u:Vl→Sto→R Vl} {a:XE} {τ:Nv} {S:Sto}:xUn u a τ S=un1 u (a τ S):=aa rfl
theorem uf {u:Vl→Sto→R Vl} {S1:Sto} {x:Vl}:un1 u (.ok x S1)=u x S1:=aa rfl
theorem kG {f f2:Vl→Vl→Sto→R Vl} {a b c:XE} {τ:Nv} {S:Sto}:o9 f f2 a b c τ S=ch1 f f2 (a τ S) b c τ:=aa rfl
theorem sA {f f2:Vl→Vl→Sto→R Vl} {b c:XE} {τ:Nv} {S1:Sto} {x:Vl}:ch1 f f2 (.ok x S1) b c τ=ch2 f f2 x (b τ S1) c τ:=aa rfl
theorem tZ {f f2:Vl→Vl→Sto→R Vl} {c:XE} {τ:Nv} {S1:Sto} {x y:Vl}:ch2 f f2 x (.ok y S1) c τ=ch3 (f x y S1) f2 y c τ:=aa rfl
theorem oN {f:Vl→Vl→Sto→R Vl} {c:XE} {τ:Nv} {S1:Sto} {y:Vl}:ch3 (.ok (.d (.bl true)) S1) f y c τ=kS f y (c τ S1):=aa rfl
theorem om {f:Vl→Vl→Sto→R Vl} {c:XE} {τ:Nv} {S1:Sto} {y:Vl}:ch3 (.ok (.d (.bl false)) S1) f y c τ=.ok (.d (.bl false)) S1:=aa rfl
theorem mz {a:XE} {τ:Nv} {S:Sto}:bB a τ S=t1 (a τ S):=aa rfl
theorem uN {k:Bool} {S:Sto}:t1 (.ok (.d (.bl k)) S)=.ok k S:=aa rfl
theorem oS {a:XE} {τ:Nv} {S:Sto}:dc a τ S=tr1 (a τ S):=aa rfl
theorem tU {z:Vl} {S:Sto}:tr1 (.ok z S)=tru z S:=aa rfl
theorem tT {k:Bool} {S:Sto}:tru (.d (.bl k)) S=.ok k S:=aa rfl
theorem tK {xs:List D} {S:Sto}:tru (.d (.tup xs)) S=.ok (!xs.isEmpty) S:=aa rfl
theorem sE {xs:List D} {S:Sto}:tru (.d (.lst xs)) S=.ok (!xs.isEmpty) S:=aa rfl
theorem si {S:Sto}:tru (.d .non) S=.ok false S:=aa rfl
theorem pT {a b:XT} {τ:Nv} {S:Sto}:vf a b τ S=kJ (a τ S) b τ:=aa rfl
theorem pX {b:XT} {τ:Nv} {S:Sto}:kJ (.ok true S) b τ=b τ S:=aa rfl
theorem qj {b:XT} {τ:Nv} {S:Sto}:kJ (.ok false S) b τ=.ok false S:=aa rfl
theorem tu {a b:XT} {τ:Nv} {S:Sto}:xOr a b τ S=or1 (a τ S) b τ:=aa rfl
theorem ux {b:XT} {τ:Nv} {S:Sto}:or1 (.ok true S) b τ=.ok true S:=aa rfl
theorem sH {b:XT} {τ:Nv} {S:Sto}:or1 (.ok false S) b τ=b τ S:=aa rfl
theorem qW {a:XT} {τ:Nv} {S:Sto}:gQ a τ S=p0 (a τ S):=aa rfl
theorem oK {S:Sto} {k:Bool}:p0 (.ok k S)=.ok (!k) S:=aa rfl
theorem nC {a b:XE} {τ:Nv} {S:Sto}:eg a b τ S=iZ (a τ S) b τ:=aa rfl
theorem nX {b:XE} {τ:Nv} {S:Sto}:iZ (.ok (.d (.bl true)) S) b τ=b τ S:=aa rfl
theorem nW {b:XE} {τ:Nv} {S:Sto}:iZ (.ok (.d (.bl false)) S) b τ=.ok (.d (.bl false)) S:=aa rfl
theorem oF {a b:XE} {τ:Nv} {S:Sto}:uW a b τ S=kK (a τ S) b τ:=aa rfl
theorem pV {b:XE} {τ:Nv} {S:Sto}:kK (.ok (.d (.bl true)) S) b τ=.ok (.d (.bl true)) S:=aa rfl
theorem qP {b:XE} {τ:Nv} {S:Sto}:kK (.ok (.d (.bl false)) S) b τ=b τ S:=aa rfl
theorem nR {a:XE} {τ:Nv} {S:Sto}:t_ a τ S=lZ (a τ S):=aa rfl
theorem mx {k:Bool} {S:Sto}:lZ (.ok (.d (.bl k)) S)=.ok (.d (.bl (!k))) S:=aa rfl
theorem oY {c:XT} {a b:XE} {τ:Nv} {S:Sto}:u_ c a b τ S=lK (c τ S) a b τ:=aa rfl
theorem pG {a b:XE} {τ:Nv} {S:Sto}:lK (.ok true S) a b τ=a τ S:=aa rfl
theorem pB {a b:XE} {τ:Nv} {S:Sto}:lK (.ok false S) a b τ=b τ S:=aa rfl
theorem jV {τ:Nv} {S:Sto}:aF τ S=.ok [] S:=aa rfl
theorem ij {a:XE} {r:XA} {τ:Nv} {S:Sto}:af a r τ S=co1 (a τ S) r τ:=aa rfl
theorem mq {r:XA} {τ:Nv} {S:Sto} {x:Vl}:co1 (.ok x S) r τ=co2 x (r τ S):=aa rfl
theorem lY {S:Sto} {x:Vl} {xs:List Vl}:co2 x (.ok xs S)=.ok (x :: xs) S:=aa rfl
theorem vi {r:XA} {τ:Nv} {S:Sto} {f:List Vl→Sto→R Vl}:xN f r τ S=n1 f (r τ S):=aa rfl
theorem uC {S:Sto} {xs:List Vl} {f:List Vl→Sto→R Vl}:n1 f (.ok xs S)=f xs S:=aa rfl
theorem iF {r:XA} {τ:Nv} {S:Sto} {F:XF}:bj F r τ S=c1 F (r τ S):=aa rfl
theorem qU {S:Sto} {xs:List Vl} {F:XF}:c1 F (.ok xs S)=noX (F xs S):=aa rfl
theorem mr {x:Vl} {S:Sto}:noX (R.ok x S)=.ok x S:=aa rfl
theorem sf {a:XE} {τ:Nv} {S:Sto}:xFz a τ S=fz1 (a τ S):=aa rfl
theorem rN {z:Vl} {S:Sto}:fz1 (.ok z S)=frz z S:=aa rfl
theorem oa {x:D} {S:Sto}:frz (.d x) S=.ok (.d x) S:=aa rfl
theorem jK {τ:Nv} {S:Sto}:ff τ S=.ok none S:=aa rfl
theorem nE {a:XE} {τ:Nv} {S:Sto}:eN a τ S=p1 (a τ S):=aa rfl
theorem vj {i:Int} {S:Sto}:p1 (.ok (.d (.int i)) S)=.ok (some i) S:=aa rfl
theorem ue {f:Vl→Option Int→Option Int→Sto→R Vl} {a:XE} {l h:XO} {τ:Nv} {S:Sto}:xSl f a l h τ S=sl1 f (a τ S) l h τ:=aa rfl
theorem tO {f:Vl→Option Int→Option Int→Sto→R Vl} {l h:XO} {τ:Nv} {S:Sto} {x:Vl}:sl1 f (.ok x S) l h τ=sl2 f x (l τ S) h τ:=aa rfl
theorem uh {f:Vl→Option Int→Option Int→Sto→R Vl} {h:XO} {τ:Nv} {S:Sto} {x:Vl} {i:Option Int}:sl2 f x (.ok i S) h τ=sl3 f x i (h τ S):=aa rfl
theorem sN {f:Vl→Option Int→Option Int→Sto→R Vl} {S:Sto} {x:Vl} {i j:Option Int}:sl3 f x i (.ok j S)=f x i j S:=aa rfl
theorem tV {f:Nat→List D→D→Sto→R Vl} {o e:XE} {τ:Nv} {S:Sto}:xLm f o e τ S=lm1 f (o τ S) e τ:=aa rfl
theorem r6 {f:Nat→List D→D→Sto→R Vl} {e:XE} {τ:Nv} {S:Sto} {n:Nat}:lm1 f (.ok (.r n) S) e τ=lm2 f n S[n]? e τ S:=aa rfl
theorem sy {f:Nat→List D→D→Sto→R Vl} {e:XE} {τ:Nv} {S:Sto} {n:Nat} {xs:List D}:lm2 f n (some (.lst xs)) e τ S=lm3 f n (e τ S):=aa rfl
theorem rR {f:Nat→List D→D→Sto→R Vl} {S:Sto} {n:Nat} {z:D}:lm3 f n (.ok (.d z) S)=lm4 f n S[n]? z S:=aa rfl
theorem tE {f:Nat→List D→D→Sto→R Vl} {S:Sto} {n:Nat} {xs:List D} {z:D}:lm4 f n (some (.lst xs)) z S=f n xs z S:=aa rfl
theorem e9 {τ:Nv} {S:Sto}:bz τ S=.ok (.nx,τ) S:=aa rfl
theorem gS {a b:XS} {τ:Nv} {S:Sto}:aA a b τ S=sq1 (a τ S) b:=aa rfl
theorem dh {b:XS} {τ:Nv} {S:Sto}:sq1 (.ok (.nx,τ) S) b=b τ S:=aa rfl
theorem sD {b:XS} {τ:Nv} {S:Sto} {v:Vl}:sq1 (.ok (.rt v,τ) S) b=.ok (.rt v,τ) S:=aa rfl
theorem sO {b:XS} {τ:Nv} {S:Sto}:sq1 (.ok (.bk,τ) S) b=.ok (.bk,τ) S:=aa rfl
theorem rK {b:XS} {τ:Nv} {S:Sto}:sq1 (.ok (.ct,τ) S) b=.ok (.ct,τ) S:=aa rfl
theorem mR {τ:Nv} {S:Sto} {e:XE}:i_ e τ S=ex1 (e τ S) τ:=aa rfl
theorem rV {τ:Nv} {S:Sto} {z:Vl}:ex1 (.ok z S) τ=.ok (.nx,τ) S:=aa rfl
theorem pD {τ:Nv} {S:Sto} {e:XE}:aY e τ S=rt1 (e τ S) τ:=aa rfl
theorem tJ {τ:Nv} {S:Sto} {z:Vl}:rt1 (.ok z S) τ=.ok (.rt z,τ) S:=aa rfl
theorem mF {τ:Nv} {S:Sto}:tM τ S=.ok (.rt (.d .non),τ) S:=aa rfl
theorem mW {τ:Nv} {S:Sto}:ua τ S=.ok (.ct,τ) S:=aa rfl
theorem lj {τ:Nv} {S:Sto}:ow τ S=.ok (.bk,τ) S:=aa rfl
theorem mj {a b:XS} {τ:Nv} {S:Sto} {t:XT}:xIf t a b τ S=if1 (t τ S) a b τ:=aa rfl
theorem pd {a b:XS} {τ:Nv} {S:Sto}:if1 (.ok true S) a b τ=a τ S:=aa rfl
theorem gy {a b:XS} {τ:Nv} {S:Sto}:if1 (.ok false S) a b τ=b τ S:=aa rfl
theorem hV {τ:Nv} {S:Sto} {e:XE} {g:XG}:aG e g τ S=as1 (e τ S) g τ:=aa rfl
theorem gb {τ:Nv} {S:Sto} {z:Vl} {g:XG}:as1 (.ok z S) g τ=as2 (g z τ S):=aa rfl
theorem eT {τ1:Nv} {S:Sto}:as2 (.ok τ1 S)=.ok (.nx,τ1) S:=aa rfl
theorem gf {τ:Nv} {S:Sto} {z:Vl} {i:Nat}:gNm i z τ S=.ok (τ.set i (some z)) S:=aa rfl
theorem su {gs:XGs} {τ:Nv} {S:Sto} {xs:List D} {n:Nat}:gTu n gs (.d (.tup xs)) τ S=if xs.length=n then gs (xs.map Vl.d) τ S else .bad:=aa rfl
theorem sQ {τ:Nv} {S:Sto}:gN0 [] τ S=.ok τ S:=aa rfl
theorem t6 {g:XG} {gs:XGs} {τ:Nv} {S:Sto} {z:Vl} {zs:List Vl}:gCo g gs (z :: zs) τ S=gc1 (g z τ S) gs zs:=aa rfl
theorem uc {gs:XGs} {τ1:Nv} {S:Sto} {zs:List Vl}:gc1 (.ok τ1 S) gs zs=gs zs τ1 S:=aa rfl
theorem lV {τ:Nv} {S:Sto} {z:Vl} {o e:XE} {f:Vl→Vl→Vl→Sto→R Unit}:gSb o e f z τ S=gs1 (o τ S) e f z τ:=aa rfl
theorem mn {τ:Nv} {S:Sto} {z x:Vl} {e:XE} {f:Vl→Vl→Vl→Sto→R Unit}:gs1 (.ok x S) e f z τ=gs2 x (e τ S) f z τ:=aa rfl
theorem l_ {τ:Nv} {S:Sto} {z x y:Vl} {f:Vl→Vl→Vl→Sto→R Unit}:gs2 x (.ok y S) f z τ=gs3 (f x y z S) τ:=aa rfl
theorem iX {τ:Nv} {S:Sto}:gs3 (.ok () S) τ=.ok τ S:=aa rfl
theorem jZ {it:XI} {g:XG} {b:XS} {τ:Nv} {S:Sto}:gL it g b τ S=fo1 (it τ S) g b τ:=aa rfl
theorem lS {g:XG} {b:XS} {τ:Nv} {S:Sto} {I:Its}:fo1 (.ok I S) g b τ=cg g b I.gd I.items τ S:=aa rfl
theorem qh {τ:Nv} {S:Sto} {e:XE}:vk e τ S=is1 (e τ S):=aa rfl
theorem oQ {S:Sto} {xs:List D}:is1 (.ok (.d (.tup xs)) S)=.ok ⟨xs.map Vl.d,none⟩ S:=aa rfl
theorem pb {S:Sto} {xs:List D}:is1 (.ok (.d (.lst xs)) S)=.ok ⟨xs.map Vl.d,none⟩ S:=aa rfl
theorem rn {S:Sto} {n:Nat}:is1 (.ok (.r n) S)=is2 n S[n]? S:=aa rfl
theorem sU {S:Sto} {xs:List D} {n:Nat}:is2 n (some (.lst xs)) S=.ok ⟨xs.map Vl.d,some (n,.lst xs)⟩ S:=aa rfl
theorem qo {τ:Nv} {S:Sto} {as:XA}:iY as τ S=ir1 (as τ S):=aa rfl
theorem pY {τ:Nv} {S:Sto} {as:XA}:vw as τ S=ir2 (as τ S):=aa rfl
theorem pM {τ:Nv} {S:Sto} {e:XE}:kB e τ S=ie1 (e τ S):=aa rfl
theorem tH {S:Sto} {xs:List D}:ie1 (.ok (.d (.lst xs)) S)=.ok ⟨bA 0 xs,none⟩ S:=aa rfl
theorem i3 {j:Int} {S:Sto} (h:-100000≤j∧j≤100000):ir1 (.ok [.d (.int j)] S)=.ok ⟨(List.range j.toNat).map fun i=>Vl.d (.int (i:Nat)),none⟩ S:=by rw [show ir1 (.ok [.d (.int j)] S)=if -100000≤j∧j≤100000 then .ok ⟨(List.range j.toNat).map fun i=>Vl.d (.int (i:Nat)),none⟩ S else .bad from rfl,if_pos h]
theorem sT {i j:Int} {S:Sto} (h:(-100000≤i∧i≤100000)∧-100000≤j∧j≤100000):ir2 (.ok [.d (.int i),.d (.int j)] S)=.ok ⟨(List.range (j - i).toNat).map fun k=>Vl.d (.int (i+(k:Nat))),none⟩ S:=by rw [show ir2 (.ok [.d (.int i),.d (.int j)] S)=if (-100000≤i∧i≤100000)∧-100000≤j∧j≤100000 then .ok ⟨(List.range (j - i).toNat).map fun k=>Vl.d (.int (i+(k:Nat))),none⟩ S else .bad from rfl,if_pos h]
theorem uM {i j:Int} {S:Sto} {g:Int→Int→D}:oI0 g (.d (.int i)) (.d (.int j)) S=.ok (.d (g i j)) S:=aa rfl
theorem oZ {i j:Int} {S:Sto}:aU (.d (.int i)) (.d (.int j)) S=.ok (.d (.int (i+j))) S:=aa rfl
theorem t8 {i:Int} {S:Sto}:ve (.d (.int i)) S=.ok (.d (.int (-i))) S:=aa rfl
theorem qA {S:Sto} {xs ys:List D} (h:xs.length+ys.length≤100000):aU (.d (.tup xs)) (.d (.tup ys)) S=.ok (.d (.tup (xs++ys))) S:=by rw [show aU (.d (.tup xs)) (.d (.tup ys)) S=if xs.length+ys.length≤100000 then .ok (.d (.tup (xs++ys))) S else .bad from rfl,if_pos h]
theorem oJ {S:Sto} {xs ys:List D} (h:xs.length+ys.length≤100000):aU (.d (.lst xs)) (.d (.lst ys)) S=.ok (.d (.lst (xs++ys))) S:=by rw [show aU (.d (.lst xs)) (.d (.lst ys)) S=if xs.length+ys.length≤100000 then .ok (.d (.lst (xs++ys))) S else .bad from rfl,if_pos h]
theorem sP {i j:Int} {S:Sto}:oEq (.d (.int i)) (.d (.int j)) S=.ok (.d (.bl (decide (i=j)))) S:=aa rfl
theorem r0 {i j:Int} {S:Sto}:oNe (.d (.int i)) (.d (.int j)) S=.ok (.d (.bl (!decide (i=j)))) S:=aa rfl
theorem r8 {S:Sto} {s t:Str}:oEq (.d (.str s)) (.d (.str t)) S=.ok (.d (.bl (decide (s=t)))) S:=aa rfl
theorem sM {S:Sto} {s t:Str}:oNe (.d (.str s)) (.d (.str t)) S=.ok (.d (.bl (!decide (s=t)))) S:=aa rfl
theorem tj {S:Sto} {p q:Bool}:oEq (.d (.bl p)) (.d (.bl q)) S=.ok (.d (.bl (decide (p=q)))) S:=aa rfl
theorem r_ {S:Sto} {p q:Bool}:oNe (.d (.bl p)) (.d (.bl q)) S=.ok (.d (.bl (!decide (p=q)))) S:=aa rfl
theorem rP {S:Sto} {p q:Bool}:oIs (.d (.bl p)) (.d (.bl q)) S=.ok (.d (.bl (p == q))) S:=aa rfl
theorem pw {S:Sto}:oIs (.d .non) (.d .non) S=.ok (.d (.bl true)) S:=aa rfl
theorem oj {S:Sto} {xs:List D}:oIs (.d (.tup xs)) (.d .non) S=.ok (.d (.bl false)) S:=aa rfl
theorem rq {S:Sto} {xs:List D}:oIs (.d (.lst xs)) (.d .non) S=.ok (.d (.bl false)) S:=aa rfl
theorem ou {i:Int} {S:Sto}:oIs (.d (.int i)) (.d .non) S=.ok (.d (.bl false)) S:=aa rfl
theorem ll {S:Sto}:gg (.d .non) (.d .non) S=.ok (.d (.bl false)) S:=aa rfl
theorem kv {S:Sto} {xs:List D}:gg (.d (.tup xs)) (.d .non) S=.ok (.d (.bl true)) S:=aa rfl
theorem lM {S:Sto} {xs:List D}:gg (.d (.lst xs)) (.d .non) S=.ok (.d (.bl true)) S:=aa rfl
theorem kY {i:Int} {S:Sto}:gg (.d (.int i)) (.d .non) S=.ok (.d (.bl true)) S:=aa rfl
theorem tw {T:String} {x:D} {S:Sto}:bP T (.d x) S=.ok (.d (.bl (isT T x))) S:=aa rfl
theorem qY {S:Sto} {xs:List D}:cY [.d (.tup xs)] S=.ok (.d (.int xs.length)) S:=aa rfl
theorem o7 {S:Sto} {xs:List D}:cY [.d (.lst xs)] S=.ok (.d (.int xs.length)) S:=aa rfl
theorem rA {S:Sto} {xs:List D}:jE [.d (.tup xs)] S=.ok (.d (.tup xs)) S:=aa rfl
theorem qZ {S:Sto} {xs:List D}:jE [.d (.lst xs)] S=.ok (.d (.tup xs)) S:=aa rfl
theorem rm {S:Sto} {xs:List D}:lW [.d (.tup xs)] S=.ok (.d (.lst xs)) S:=aa rfl
theorem oH {S:Sto} {xs:List D}:lW [.d (.lst xs)] S=.ok (.d (.lst xs)) S:=aa rfl
theorem nI {S:Sto} {xs:List D}:dP [.d (.tup xs)] S=.ok (.r S.length) (S++[.lst xs]):=aa rfl
theorem nK {S:Sto} {xs:List D}:dP [.d (.lst xs)] S=.ok (.r S.length) (S++[.lst xs]):=aa rfl
theorem ud {i j:Int} {S:Sto}:vt [.d (.int i),.d (.int j)] S=.ok (.d (.int (if j > i then j else i))) S:=aa rfl
theorem sY {i j:Int} {S:Sto}:uG [.d (.int i),.d (.int j)] S=.ok (.d (.int (if j < i then j else i))) S:=aa rfl
theorem iQ {i:Int} {S:Sto} {xs:List D} {z:D} (h:atI xs i=some z):oIx (.d (.lst xs)) (.d (.int i)) S=.ok (.d z) S:=by rw [show oIx (.d (.lst xs)) (.d (.int i)) S=(match atI xs i with | some z=>.ok (.d z) S | none=>.bad) from rfl,h]
theorem f9 {i:Int} {S:Sto} {xs:List D} {z:D} {n:Nat} (e:S[n]?=some (.lst xs)) (h:atI xs i=some z):oIx (.r n) (.d (.int i)) S=.ok (.d z) S:=by
 have:cb (.r n) S=some xs:=by unfold cb cc;dsimp only;rw [e]
 unfold oIx;dsimp only;rw [this];dsimp only;rw [h]
theorem tP {xs:List D} {i j:Option Int} {S:Sto}:oSl (.d (.tup xs)) i j S=.ok (.d (.tup (cC xs i j))) S:=aa rfl
theorem sv {xs:List D} {i j:Option Int} {S:Sto}:oSl (.d (.lst xs)) i j S=.ok (.d (.lst (cC xs i j))) S:=aa rfl
theorem t7 {ns:List Int} {i j:Option Int} {S:Sto}:gA (.sc ns) i j S=.ok (.d (.lst (cC (ns.map D.int) i j))) S:=aa rfl
theorem tW {S:Sto} {xs:List D}:vy (.d (.tup xs)) (.d (.int (-1))) S=.ok (.d (.tup xs.reverse)) S:=aa rfl
theorem tm {i j:Int} {S:Sto}:oV (.d (.int i)) (.d (.int j)) S=.ok (.d (.int (i - j))) S:=aa rfl
theorem uH {i j:Int} {S:Sto}:oLt (.d (.int i)) (.d (.int j)) S=.ok (.d (.bl (decide (i < j)))) S:=aa rfl
theorem vn {i j:Int} {S:Sto}:oLe (.d (.int i)) (.d (.int j)) S=.ok (.d (.bl (decide (i≤j)))) S:=aa rfl
theorem vv {i j:Int} {S:Sto}:oGt (.d (.int i)) (.d (.int j)) S=.ok (.d (.bl (decide (j < i)))) S:=aa rfl
theorem uQ {i j:Int} {S:Sto}:oGe (.d (.int i)) (.d (.int j)) S=.ok (.d (.bl (decide (j≤i)))) S:=aa rfl
theorem tY {i j:Int} {S:Sto} (h:de i j):cJ (.d (.int i)) (.d (.int j)) S=.ok (.d (.int (i * j))) S:=by rw [show cJ (.d (.int i)) (.d (.int j)) S=if de i j then .ok (.d (.int (i * j))) S else .bad from rfl,if_pos h]
theorem ml {i j:Int} {S:Sto} (h:0 < j):oMod (.d (.int i)) (.d (.int j)) S=.ok (.d (.int (i % j))) S:=by rw [show oMod (.d (.int i)) (.d (.int j)) S=if 0 < j then .ok (.d (.int (i % j))) S else .bad from rfl,if_pos h]
theorem sW {i j:Int} {S:Sto} (h:fm i j):oDiv (.d (.int i)) (.d (.int j)) S=.ok (.d (.int (i / j))) S:=by rw [show oDiv (.d (.int i)) (.d (.int j)) S=if fm i j then .ok (.d (.int (i / j))) S else .bad from rfl,if_pos h]
theorem iS {i j:Int} {S:Sto} (h:fg i j):fq (.d (.int i)) (.d (.int j)) S=.ok (.d (.int (i ^ j.toNat))) S:=by rw [show fq (.d (.int i)) (.d (.int j)) S=if fg i j then .ok (.d (.int (i ^ j.toNat))) S else .bad from rfl,if_pos h]
theorem sd {i j:Int} (h1:-(2 ^ 64) < j) (h2:j < 2 ^ 64):de i j:=.inr ⟨h1,h2⟩
theorem qB:mkT [] S=.ok (.d (.tup [])) S:=aa rfl
theorem rJ:mkL [] S=.ok (.d (.lst [])) S:=aa rfl
theorem pN:mkM [] S=.ok (.r S.length) (S++[.lst []]):=aa rfl
theorem oo:mkT [.d a] S=.ok (.d (.tup [a])) S:=aa rfl
theorem qX:mkL [.d a] S=.ok (.d (.lst [a])) S:=aa rfl
theorem pP:mkM [.d a] S=.ok (.r S.length) (S++[.lst [a]]):=aa rfl
theorem oh:mkT [.d a,.d b] S=.ok (.d (.tup [a,b])) S:=aa rfl
theorem rF:mkL [.d a,.d b] S=.ok (.d (.lst [a,b])) S:=aa rfl
theorem oi:mkM [.d a,.d b] S=.ok (.r S.length) (S++[.lst [a,b]]):=aa rfl
theorem o6:mkT [.d a,.d b,.d c] S=.ok (.d (.tup [a,b,c])) S:=aa rfl
theorem oO:mkL [.d a,.d b,.d c] S=.ok (.d (.lst [a,b,c])) S:=aa rfl
theorem qr:mkM [.d a,.d b,.d c] S=.ok (.r S.length) (S++[.lst [a,b,c]]):=aa rfl
theorem qQ:mkT [.d a,.d b,.d c,.d d] S=.ok (.d (.tup [a,b,c,d])) S:=aa rfl
theorem rD:mkL [.d a,.d b,.d c,.d d] S=.ok (.d (.lst [a,b,c,d])) S:=aa rfl
theorem oW:mkT [.d a,.d b,.d c,.d d,.d e] S=.ok (.d (.tup [a,b,c,d,e])) S:=aa rfl
theorem qD:mkL [.d a,.d b,.d c,.d d,.d e] S=.ok (.d (.lst [a,b,c,d,e])) S:=aa rfl
theorem qk:mkT [.d a,.d b,.d c,.d d,.d e,.d f] S=.ok (.d (.tup [a,b,c,d,e,f])) S:=aa rfl
theorem qe:mkL [.d a,.d b,.d c,.d d,.d e,.d f] S=.ok (.d (.lst [a,b,c,d,e,f])) S:=aa rfl
theorem pS:mkT [.d a,.d b,.d c,.d d,.d e,.d f,.d g] S=.ok (.d (.tup [a,b,c,d,e,f,g])) S:=aa rfl
theorem qI:mkL [.d a,.d b,.d c,.d d,.d e,.d f,.d g] S=.ok (.d (.lst [a,b,c,d,e,f,g])) S:=aa rfl
theorem rH:mkT [.d a,.d b,.d c,.d d,.d e,.d f,.d g,.d h] S=.ok (.d (.tup [a,b,c,d,e,f,g,h])) S:=aa rfl
theorem qi:mkL [.d a,.d b,.d c,.d d,.d e,.d f,.d g,.d h] S=.ok (.d (.lst [a,b,c,d,e,f,g,h])) S:=aa rfl
theorem o_:mkT [.d a,.d b,.d c,.d d,.d e,.d f,.d g,.d h,.d i] S=.ok (.d (.tup [a,b,c,d,e,f,g,h,i])) S:=aa rfl
theorem oX:mkL [.d a,.d b,.d c,.d d,.d e,.d f,.d g,.d h,.d i] S=.ok (.d (.lst [a,b,c,d,e,f,g,h,i])) S:=aa rfl
theorem m4:mkT [.d a,.d b,.d c,.d d,.d e,.d f,.d g,.d h,.d i,.d j] S=.ok (.d (.tup [a,b,c,d,e,f,g,h,i,j])) S:=aa rfl
theorem nM:mkL [.d a,.d b,.d c,.d d,.d e,.d f,.d g,.d h,.d i,.d j] S=.ok (.d (.lst [a,b,c,d,e,f,g,h,i,j])) S:=aa rfl
theorem mI:mkT [.d a,.d b,.d c,.d d,.d e,.d f,.d g,.d h,.d i,.d j,.d k] S=.ok (.d (.tup [a,b,c,d,e,f,g,h,i,j,k])) S:=aa rfl
theorem my:mkL [.d a,.d b,.d c,.d d,.d e,.d f,.d g,.d h,.d i,.d j,.d k] S=.ok (.d (.lst [a,b,c,d,e,f,g,h,i,j,k])) S:=aa rfl
theorem mJ:mkT [.d a,.d b,.d c,.d d,.d e,.d f,.d g,.d h,.d i,.d j,.d k,.d l] S=.ok (.d (.tup [a,b,c,d,e,f,g,h,i,j,k,l])) S:=aa rfl
theorem nJ:mkL [.d a,.d b,.d c,.d d,.d e,.d f,.d g,.d h,.d i,.d j,.d k,.d l] S=.ok (.d (.lst [a,b,c,d,e,f,g,h,i,j,k,l])) S:=aa rfl
theorem lO {R:Sto}:(R++[x])[R.length]?=some x:=by simp
theorem ky {R:Sto}:(R++[x]).set R.length y=R++[y]:=by simp
theorem lN {R:Sto}:(R++[x,y])[R.length]?=some x:=by simp
theorem kR {R:Sto}:(R++[x,y]).set R.length z=R++[z,y]:=by simp
theorem kr {R:Sto}:(R++[x,y])[R.length+1]?=some y:=by simp
theorem lF {R:Sto}:(R++[x,y]).set (R.length+1) z=R++[x,z]:=by simp
theorem jN (ns:List Int):(ns.map D.int).all D.flat=true:=by rw [List.all_map];exact List.all_eq_true.mpr fun _ _=>rfl
theorem nq (w:Int) (ns:List Int):inD (.int w) (ns.map D.int)=decide (w∈ns):=by
 unfold inD
 rw [List.any_map,Bool.eq_iff_iff,List.any_eq_true,decide_eq_true_eq]
 constructor
 ·rintro ⟨x,hx,e⟩
  have e':(x == w)=true:=e
  rw [← (beq_iff_eq.mp e')];exact hx
 ·intro h
  exact ⟨w,h,by show (w == w)=true;simp⟩
theorem dy {ns:List Int} (h:cb y S=some (ns.map D.int)):inX (.d (.int w)) y S=some (decide (w∈ns)):=by
 unfold inX
 dsimp only
 rw [h]
 dsimp only
 rw [show D.flat (.int w)=true from rfl,jN,if_pos (by rfl),nq]
theorem uq {ns:List Int}:oIn (.d (.int w)) (.d (.tup (ns.map D.int))) S=.ok (.d (.bl (decide (w∈ns)))) S:=by unfold oIn;rw [dy (ns:=ns) rfl]
theorem rB {ns:List Int}:eH (.d (.int w)) (.d (.tup (ns.map D.int))) S=.ok (.d (.bl (!decide (w∈ns)))) S:=by unfold eH;rw [dy (ns:=ns) rfl]
theorem sZ {ns:List Int}:oIn (.d (.int w)) (.d (.lst (ns.map D.int))) S=.ok (.d (.bl (decide (w∈ns)))) S:=by unfold oIn;rw [dy (ns:=ns) rfl]
theorem ox {ns:List Int}:eH (.d (.int w)) (.d (.lst (ns.map D.int))) S=.ok (.d (.bl (!decide (w∈ns)))) S:=by unfold eH;rw [dy (ns:=ns) rfl]
theorem gG (f:α→Int):∀ l:List α,intsOf (l.map fun x=>D.int (f x))=some (l.map f)
 | []=>rfl
 | x :: l=>by simp [intsOf,gG f l]
theorem rS (hC:xLC it 1 (gNm 0) t e τ S=r) (hit:it τ S=.ok ⟨items,none⟩ S1) (J:Nat→List D→Sto→Prop) (h0:J 0 [] S1)
  (hs:∀ i z acc Q,items[i]?=some z→J i acc Q→Q.length=S1.length→∃ b Q1,t (some z :: τ) (Q++[.lst acc])=.ok b (Q1++[.lst acc])∧Q1.length=S1.length ∧
   (b=true→∃ x Q2,e (some z :: τ) (Q1++[.lst acc])=.ok (.d x) (Q2++[.lst acc])∧Q2.length=S1.length∧J (i+1) (acc++[x]) Q2)∧(b=false→J (i+1) acc Q1)) :
  ∃ acc Q,r=.ok (.d (.lst acc)) Q∧Q.length=S1.length∧J items.length acc Q:=by
 obtain ⟨acc,Q,e1,h⟩:=j0 (t:=t) (e:=e) hit J h0 hs
 exact ⟨acc,Q,hC.symm.trans e1,h⟩
theorem rp (hC:xLC it 1 (gNm 0) (fun _ S=>.ok true S) e τ S=r) (hit:it τ S=.ok ⟨items,none⟩ S1) (J:Nat→List D→Sto→Prop) (h0:J 0 [] S1)
  (hs:∀ i z acc Q,items[i]?=some z→J i acc Q→Q.length=S1.length→∃ x Q2,e (some z :: τ) (Q++[.lst acc])=.ok (.d x) (Q2++[.lst acc])∧Q2.length=S1.length∧J (i+1) (acc++[x]) Q2) :
  ∃ acc Q,r=.ok (.d (.lst acc)) Q∧Q.length=S1.length∧J items.length acc Q:=
 rS hC hit J h0 fun i z acc Q hz hJ hl=>⟨true,Q,rfl,hl,fun _=>hs i z acc Q hz hJ hl,fun z=>(by cases z)⟩
theorem kh (hL:gL it g b τ S=r) (hit:it τ S=.ok ⟨items,gd⟩ S1) (I:Nat→Nv→Sto→Prop) (h0:I 0 τ S1)
  (hs:∀ i z τ S,items[i]?=some z→I i τ S→∃ τ1 S1 fl τ2 S2,g z τ S=.ok τ1 S1∧b τ1 S1=.ok (fl,τ2) S2∧(fl=.nx∨fl=.ct)∧gok gd S2∧I (i+1) τ2 S2):∃ τ' S',r=.ok (.nx,τ') S'∧I items.length τ' S':=by
 obtain ⟨τ',S',e,h⟩:=g6 (g:=g) (b:=b) (gd:=gd) I h0 hs
 refine ⟨τ',S',?_,h⟩
 rw [← hL,jZ,hit,lS]
 exact e
theorem nz (h:((List.range n).map fun i=>Vl.d (.int (i:Nat)))[i]?=some z):i < n∧z=.d (.int i):=by
 have hi:i < n:=by simpa using (List.getElem?_eq_some_iff.mp h).1
 rw [List.getElem?_map,List.getElem?_range hi] at h
 exact ⟨hi,(Option.some.inj h).symm⟩
end L2
namespace L2
open PySem PySem.Spec PyProof.Rows ZS
def cK (xs ys:List D):List Vl:=List.zipWith (fun x y=>Vl.d (.tup [x,y])) xs ys
theorem hR:(cK xs ys).length=min xs.length ys.length:=by simp [cK]
theorem gp {xs ys:List D} {i:Nat} {z:Vl} (h:(cK xs ys)[i]?=some z):∃ x y,xs[i]?=some x∧ys[i]?=some y∧z=.d (.tup [x,y]):=by
 unfold cK at h
 rw [List.getElem?_zipWith] at h
 cases q:xs[i]? with
 | none=>rw [q] at h;cases h
 | some x=>
  cases q2:ys[i]? with
  | none=>rw [q,q2] at h;cases h
  | some y=>rw [q,q2] at h;cases h;exact ⟨x,y,rfl,rfl,rfl⟩
def kU:D→Option (Bool×List D)
 | .tup xs=>some (false,xs)
 | .lst xs=>some (true,xs)
 | _=>none
def iW (zs:List Vl) (S:Sto):R Its:=match zs with
 | [.d x,.d y]=>(match kU x,kU y with
  | some p,some q=>.ok ⟨cK p.2 q.2,none⟩ S
  | _,_=>.bad)
 | _=>.bad
def iZp (as:XA):XI:=fun τ S=>(as τ S).bind iW
section
variable {X:Cx} {WE:WX} {K:PySem.W.Frag} {mg:Str→Option Value} {μ:Nat→Addr} {S:Sto} {H:Hp}
theorem jo (r:Rep G v x) (h:kU x=some p):∃ a vs,v=.ref a∧G a=some (Sq p.1 vs)∧ah G vs p.2:=by
 cases r with
 | tup g rs=>cases h;exact ⟨_,_,rfl,g,rs⟩
 | lst g rs=>cases h;exact ⟨_,_,rfl,g,rs⟩
 | _=>cases h
theorem rh {vs us:List V} (g:vh μ S H t=some (Sq b vs)) (rs:ah (vh μ S H) vs xs) (g2:vh μ S H u=some (Sq c us)) (rs2:ah (vh μ S H) us ys) (hz:vs.length≤sizeLine):c5 K mg μ S H (Itg b c t u) ⟨cK xs ys,none⟩ where
 ok:=True.intro
 len:=by show (cK xs ys).length≤sizeLine;rw [hR];rw [rs.length] at hz;omega
 go:=fun i z μ' S' H' st _ e=>by
  obtain ⟨x,y,e1,e2,_⟩:=gp e
  obtain ⟨a,q1,_⟩:=rs.get' e1
  obtain ⟨b,q2,_⟩:=rs2.get' e2
  exact ⟨vs,us,a,b,(aw (st.vis _ _ g)).2,(aw (st.vis _ _ g2)).2,q1,q2⟩
 yld:=fun i z μ' S' H' v H2 st _ e yy=>by
  obtain ⟨p,a,b,hp,rfl,rfl,y1,y2⟩:=yy
  obtain ⟨x,y,e1,e2,rfl⟩:=gp e
  have q1:=y1 vs (aw (st.vis _ _ g)).2
  have q2:=y2 us (aw (st.vis _ _ g2)).2
  obtain ⟨x',e3,r1⟩:=rs.get q1
  obtain ⟨y',e4,r2⟩:=rs2.get q2
  rw [e1] at e3;cases e3
  rw [e2] at e4;cases e4
  have st2:=Step.new st.hr hp (.tup [a,b])
  exact ⟨st2,Rep.tup (aI aB (st.hr.nal hp)) (.cons (Rep.mono (st.trans st2).vis r1) (.cons (Rep.mono (st.trans st2).vis r2) .nil))⟩
 stop:=fun i μ' S' H' st _ hi=>by
  replace hi:(cK xs ys).length=i:=hi
  rw [hR] at hi
  have l1:=rs.length
  have l2:=rs2.length
  exact ⟨vs,us,(aw (st.vis _ _ g)).2,(aw (st.vis _ _ g2)).2,by omega,by omega,by omega⟩
theorem rG (hg:Gl X "zip") (hm:X.mg "zip"=none) (ha:RA X WE [a,b] xa) (hb:bootBuiltins "zip"=some (.type "zip"):=by decide +kernel)
  (hs:starEach [a,b] X.env=[(false,eval a X.env),(false,eval b X.env)]:=by rfl) (hs2:starEach [b] X.env=[(false,eval b X.env)]:=by rfl):RI X WE (.Tuple es kk tp) (.Call (.Name "zip" p) [a,b] [] pos) (iZp xa):=⟨by
 intro pins s σ H R I h
 obtain ⟨μ,S,τ,hr,sr,pp⟩:=h
 refine Call_ (cy I hg hm hb (PyProof.Rows.callWith_type1 (thn (ha.h pos pins s σ H (fun vs H1=>∃ μ1 S1 zs,HR μ1 S1 H1∧aH X.K X.mg μ1 S1 H1 vs zs∧au (c5 X.K X.mg) WE μ1 S1 H1 (iW zs S1) R) I ?_) fun us s1 ⟨vs,H1,I1,r1,q1⟩=>?_) (by rw [hs,hs2]) (by rw [hs2];rfl)))
 ·exact ⟨μ,S,τ,hr,sr,pp.bind fun v x S1 μ1 H1 st1 r1 p1=>⟨μ1,S1,x,st1.hr,r1,p1⟩⟩
 ·obtain ⟨μ1,S1,zs,hr1,rz,p1⟩:=q1
  have fp:∀ b∈[s1.heap.objs.size+4,s1.heap.objs.size+2,s1.heap.objs.size+3,s1.heap.objs.size,s1.heap.objs.size+1],s1.heap.objs.size≤b:=by
   intro b hb
   simp only [List.mem_cons,List.not_mem_nil,or_false] at hb
   rcases hb with z | z | z | z | z<;>rw [z]
   ·exact Nat.le_add_right _ _
   ·exact Nat.le_add_right _ _
   ·exact Nat.le_add_right _ _
   ·exact Nat.le_refl _
   ·exact Nat.le_add_right _ _
  unfold iW at p1
  split at p1
  ·split at p1
   ·rename_i p q e1 e2
    cases rz with
    | cons q1 q2=>cases q2 with
     | cons q2 q3=>
      cases q3
      obtain ⟨u1,u2,rfl,ru,rw'⟩:=r1.two
      obtain ⟨t,vs,rfl,g,rs⟩:=jo q1 e1
      obtain ⟨u,us,rfl,g2,rs2⟩:=jo q2 e2
      cases ru;cases rw'
      obtain ⟨its,rv,pl,hz⟩:=I1.sq (aw g).2
      obtain ⟨its2,rv2,pl2,hz2⟩:=I1.sq (aw g2).2
      refine jH p.1 q.1 pl pl2 fun h' z1 z2 z3 z4 z5 hk=>?_
      refine wpAny_pyIter_zip (s:={ s1 with heap:=h' }) z1 ?_
      have I2:Inv X pins σ H1 { s1 with heap:=h' }:=I1.kept (t':=s1.toks) hk
      exact ⟨s1.heap.objs.size+4,_,_,_,H1,rfl,I2,kq p.1 q.1 t u s1.heap.objs.size,⟨z1,z2,⟨_,_,z3⟩,z4,z5⟩,fun b hb=>I1.gM (fp b hb) (I1.hok.fresh (fp b hb)),p1.here hr1 (rh g rs g2 rs2 hz)⟩
   ·exact p1.elim
  ·exact p1.elim⟩
end
def xLf (f:List D→D→Sto→R Vl) (o e:XE):XE:=fun τ S=>(o τ S).bind fun x S1=>match x with
 | .d (.lst xs)=>(e τ S1).bind fun y S2=>(match y with
  | .d z=>f xs z S2
  | _=>.bad)
 | _=>.bad
def n6 (xs:List D) (z:D) (S:Sto):R Vl:=match z,intsOf xs with
 | .int k,some ns=>.ok (.d (.int (ns.count k:Nat))) S
 | _,_=>.bad
def kW (r:V→List V→Hp→VK→Prop) (f:List D→D→Sto→R Vl):Prop:=∀ (K:PySem.W.Frag) (mg:Str→Option Value) (WE:WX) (μ:Nat→Addr) (S:Sto) (H:Hp) (a:Addr) (xs:List D) (vs:List V) (w:V) (z:D) (Q:VK),HR μ S H→H a=some (.lst vs)→ah (vh μ S H) vs xs→Rep (vh μ S H) w z→au (av K mg) WE μ S H (f xs z S) Q→r (.ref a) [w] H Q
section
variable {X:Cx} {WE:WX}
theorem me {r:V→List V→Hp→VK→Prop} {f:List D→D→Sto→R Vl} {name:Str} {id:String} {o e:Expr} {xo xe:XE} {apos cpos:Pos} (slot:Slot "list" name id) (hty:typeOf (.builtin id)=pure (.type "method_descriptor")) (hm:MtM X id r) (hf:kW r f) (ho:RE X WE o xo) (he:RE X WE e xe)
  (hbase:attributeBase o name X.env (eval o X.env)=eval o X.env:=by rfl)
  (hfew:((backTo cpos (starEach [e] X.env)).all (fun x=>!x.1) && (backToKw cpos (keywordEach [] X.env)).all (fun x=>x.1.isSome) && decide ([e].length+([]:List Keyword).length+(if ([]:List Keyword).isEmpty then 0 else 1) < 30))=true:=by rfl)
  (hline:(apos.endLine == cpos.line)=true:=by rfl) (hs:starEach [e] X.env=(false,eval e X.env) :: starEach [] X.env:=by rfl):RE X WE (.Call (.Attribute o name apos) [e] [] cpos) (xLf f xo xe):=
 ⟨(so slot hty hm ho.h he.h hbase hfew hline hs).weak fun σ H Q ⟨μ,S,τ,hr,sr,p⟩=>⟨μ,S,τ,hr,sr,p.bind fun v x S1 μ1 H1 st1 r1 p1=>by
  try dsimp only at p1
  split at p1
  ·rename_i xs
   cases (show Rep (vh μ1 S1 H1) v (.lst _) from r1) with
   | @lst a vs _ g rs=>
    refine ⟨a,vs,rfl,(aw g).2,μ1,S1,τ,st1.hr,sr.step st1,p1.bind fun w y S2 μ2 H2 st2 r2 p2=>?_⟩
    try dsimp only at p2
    split at p2
    ·exact hf X.K X.mg WE μ2 S2 H2 a xs vs w _ Q st2.hr (aw (st2.vis _ _ g)).2 (rs.mono st2.vis) r2 p2
    ·exact p2.elim
  ·exact p1.elim⟩⟩
end
def vg (xs:List Vl) (S:Sto):R Vl:=match xs with
 | [.d (.int i)]=>.ok (.d (.int i)) S
 | [.d (.bl k)]=>.ok (.d (.int (if k then 1 else 0))) S
 | _=>.bad
theorem n8:vg [.d (.bl k)] S=.ok (.d (.int (if k then 1 else 0))) S:=aa rfl
def trP (K:PySem.W.Frag) (mg:Str→Option Value) (WE:WX) (ms:List (XE×XE)):List (TE×TE):=ms.map fun m=>(trE K mg WE m.1,trE K mg WE m.2)
structure RP (X:Cx) (WE:WX) (pos:Pos) (ks:List (Option Expr)) (vs:List Expr) (ms:List (XE×XE)):Prop where
 h:PPs X pos ks vs (trP X.K X.mg WE ms)
section
variable {X:Cx} {WE:WX} {pos:Pos}
inductive iI (K:PySem.W.Frag) (mg:Str→Option Value) (μ:Nat→Addr) (S:Sto) (H:Hp):List (V×V)→List (Vl×Vl)→Prop
 | nil:iI K mg μ S H [] []
 | cons {v w:V} {x y:Vl} {vs:List (V×V)} {xs:List (Vl×Vl)}:av K mg μ S H v x→av K mg μ S H w y→iI K mg μ S H vs xs→iI K mg μ S H ((v,w) :: vs) ((x,y) :: xs)
end
set_option maxRecDepth 100000
section
variable {prog:Program} {w:World} {A:Around} {E:Value→Shared→Prop} {s:Shared} {z TI TO i1 i2:Addr} {fp1 fp2:List Addr} {n1 n2 k:Nat} {P1 P2:Nat→Value→Prop} {S1 S2:Nat→Heap→Prop}
set_option hygiene false in
local macro_rules | `(tactic| walk_at "zi") => `(tactic| (
  have q1:S1 k g0:=D1.frame _ _ _ h1 fun c hc o q=>e0.extBut c o (fun y=>D.z1 (y ▸ hc)) q
  have q2:S2 k g0:=D2.frame _ _ _ h2 fun c hc o q=>e0.extBut c o (fun y=>D.z2 (y ▸ hc)) q
  refine wpAny_bind (wpAny_bind (wpAny_bind (wpAny_holding ?_)))
  refine (show wpAny _ _ (Builtin.SmallTypes.nextOf (.ref i1)>>=_) _ _ _ from wpAny_bind (D1.item k _ _ _ l1 q1 fun x g2 t2 p1 q1' e2=>wpAny_pure (wpAny_pure ?_)))
  replace e2:Heap.SameBut i1 g0 g2:=e2
  refine wpAny_bind (wpAny_bind (wpAny_holding ?_))
  have r2:S2 k g2:=D2.frame _ _ _ q2 fun c hc o q=>e2.extBut c o (fun y=>D.i12 (y ▸ hc)) q
  refine (show wpAny _ _ (Builtin.SmallTypes.nextOf (.ref i2)>>=_) _ _ _ from wpAny_bind (D2.item k _ _ _ l2 r2 fun y g4 t4 p2 r2' e4=>wpAny_pure (wpAny_pure (wpAny_pure ?_))))
  replace e4:Heap.SameBut i2 g2 g4:=e4
  refine wpAny_bind (wpAny_newTuple ?_ (by show 2≤sizeLine;decide))
  have hsz:g4.objs.size=s.heap.objs.size:=by rw [e4.1,e2.1,e0.1]
  refine wpAny_pure ⟨_,rfl,?_⟩
  show Q (.ref g4.objs.size) _
  rw [hsz]
  have up:∀ c o,g4.get? c=some o→(g4.push { cls:=.type "tuple",data:=.seq #[x,y] }).get? c=some o:=fun c o q=>Heap.get?_push_of_some _ q
  refine hQ x y _ _ p1 p2 (up _ _ (e4.extBut _ _ D.i2z.symm (e2.extBut _ _ D.i1z.symm hz0))) (up _ _ (e4.extBut _ _ D.TI2 (e2.extBut _ _ D.TI1 (e0.extBut _ _ D.TIz hTI)))) ?_ ?_ ?_ fun c o c1 c3 c4 q=>up _ _ (e4.extBut _ _ c4 (e2.extBut _ _ c3 (e0.extBut _ _ c1 q)))
  ·exact D1.frame _ _ _ q1' fun c hc o q=>up _ _ (e4.extBut c o (fun y=>D.i21 (y ▸ hc)) q)
  ·exact D2.frame _ _ _ r2' fun c hc o q=>up _ _ q
  ·rw [← hsz];exact Heap.get?_push_size _ rfl
 ))
set_option hygiene false in
local macro_rules | `(tactic| walk_at "ze") => `(tactic| (
  have q1:S1 k g0:=D1.frame _ _ _ h1 fun c hc o q=>e0.extBut c o (fun y=>D.z1 (y ▸ hc)) q
  have q2:S2 k g0:=D2.frame _ _ _ h2 fun c hc o q=>e0.extBut c o (fun y=>D.z2 (y ▸ hc)) q
  refine wpAny_bind (wpAny_bind (wpAny_bind (wpAny_holding ?_)))
  rcases hend with hk | ⟨hk,hk2⟩
  ·subst hk
   refine (show wpAny _ _ (Builtin.SmallTypes.nextOf (.ref i1)>>=_) _ _ _ from wpAny_bind (D1.done _ _ _ q1 fun g2 e e2 he=>?_))
   replace e2:Heap.ExtBut i1 g0 g2:=e2
   exact hE g2 e _ (fun c o c1 _ c3 _ q=>e2 _ _ c3 (e0.extBut _ _ c1 q)) he
  ·subst hk2
   refine (show wpAny _ _ (Builtin.SmallTypes.nextOf (.ref i1)>>=_) _ _ _ from wpAny_bind (D1.item k _ _ _ hk q1 fun x g2 t2 p1 q1' e2=>wpAny_pure (wpAny_pure ?_)))
   replace e2:Heap.SameBut i1 g0 g2:=e2
   refine wpAny_bind (wpAny_bind (wpAny_holding ?_))
   have r2:S2 k g2:=D2.frame _ _ _ q2 fun c hc o q=>e2.extBut c o (fun y=>D.i12 (y ▸ hc)) q
   refine (show wpAny _ _ (Builtin.SmallTypes.nextOf (.ref i2)>>=_) _ _ _ from wpAny_bind (D2.done _ _ _ r2 fun g4 e e4 he=>?_))
   replace e4:Heap.ExtBut i2 g2 g4:=e4
   exact hE g4 e _ (fun c o c1 _ c3 c4 q=>e4 _ _ c4 (e2.extBut _ _ c3 (e0.extBut _ _ c1 q))) he
 ))
end
set_option maxRecDepth 100000
structure vE (prog:Program) (w:World) (A:Around) (I d:Addr) (wr:List Addr) (ps:List (Key×V)) (St:Nat→Heap→Prop):Prop where
 nd:d∉wr
 frame:∀ i h h',St i h→(∀ b o,b≠d→h.get? b=some o→h'.get? b=some o)→St i h'
 item:∀ i (s:Shared) (Q:Option Value→Shared→Prop) (E:Value→Shared→Prop),i < ps.length→St i s.heap→d < s.heap.objs.size →
  (∀ T k v x y h' tk,ps[i]?=some (k,v)→(ek prog w).is k x=true→RelV v y→h'.IsTuple T #[x,y]→St (i+1) h'→(∀ b o,b∉wr→s.heap.get? b=some o→h'.get? b=some o)→Q (some (.ref T)) { s with heap:=h',toks:=tk }) →
  wpAny (model prog w) A (pyNext (.ref I)) Q E s
 done:∀ (s:Shared) (Q:Option Value→Shared→Prop) (E:Value→Shared→Prop),St ps.length s.heap→(∀ h' tk,(∀ b o,b∉wr→s.heap.get? b=some o→h'.get? b=some o)→Q none { s with heap:=h',toks:=tk })→wpAny (model prog w) A (pyNext (.ref I)) Q E s
set_option maxRecDepth 100000
set_option maxRecDepth 100000
inductive fz (H:Hp):List V→List (Key×V)→Prop
 | nil:fz H [] []
 | cons {T:Addr} {k:Key} {v:V} {vs:List V} {ps:List (Key×V)}:H T=some (.tup [kV k,v])→fz H vs ps→fz H (.ref T :: vs) ((k,v) :: ps)
set_option maxRecDepth 100000
def sg (c:Nat):Str:=⟨#[c]⟩
def Itx (x:Str):It:=⟨fun i _=>i < x.cps.size,fun i H v H'=>H'=H∧∃ c,x.cps[i]?=some c∧v=.str (sg c),fun i _=>x.cps.size≤i⟩
theorem kb {P:Program} {w:World} {K:PySem.W.Frag} {tg:Expr} (it:Addr) (x:Str) (t:Tok):Turn P w K tg (Itx x) [it] it (fun i h=>h.IsStrIter it "str_ascii_iterator" x t i) where
 mem:=by simp
 obj:=fun i h st b hb=>by
  have e:b=it:=by simpa using hb
  subst e
  obtain ⟨o,e,c,d⟩:=st
  exact ⟨o,e,fun v z=>by rw [d] at z;cases z⟩
 keep:=fun i h h' st k=>by
  obtain ⟨o,e,r⟩:=st
  exact ⟨o,k it (by simp) o e,r⟩
 item:=by
  intro X hP hw hK hc i pins s σ H E I hf st hg
  subst hP hw hK
  have hg:i < x.cps.size:=hg
  have hx:x.cps[i]?=some x.cps[i]:=Array.getElem?_eq_getElem hg
  obtain ⟨f0,f1,f2,f3,f4,f5⟩:=hf it (by simp)
  refine wpAny_pyNext_ascii_item st hx fun h' st' sb=>?_
  have I1:Inv X pins σ H { s with heap:=h',toks:=s.toks+1 }:=I.turned (t':=s.toks+1) (fun b o hb e=>(sb.2 b hb).trans e) f0 f1 f3 f4 f5
  obtain ⟨o,e,c,d⟩:=id st'
  exact ⟨_,rfl,jf (s:={ s with heap:=h',toks:=s.toks+1 }) e c d (by decide) ⟨.str (sg x.cps[i]),H,I1,⟨_,rfl⟩,⟨rfl,_,hx,rfl⟩,st',fun b hb=>(hf b hb).1⟩⟩
 done:=by
  intro X hP hw hK hc i pins s σ H E I hf st hg
  subst hP hw hK
  obtain ⟨f0,f1,f2,f3,f4,f5⟩:=hf it (by simp)
  exact wpAny_pyNext_ascii_end (I.ok.hd hc) st (Array.getElem?_eq_none hg) fun h' eb=>⟨rfl,I.turned (t':=s.toks) (fun b o hb e=>eb b o hb e) f0 f1 f3 f4 f5⟩
 self:=fun _ _ _ _ _ st h=>wpAny_pyIter_striter_ascii st h
section
variable {X:Cx} {WE:WX} {K:PySem.W.Frag} {mg:Str→Option Value} {μ:Nat→Addr} {S:Sto} {H:Hp}
theorem mM (hr:HR μ S H) (hm:x.cps.size≤sizeLine):c5 K mg μ S H (Itx x) ⟨x.cps.toList.map fun c=>Vl.d (.str (sg c)),none⟩ where
 ok:=True.intro
 len:=by simpa using hm
 go:=fun i z μ' S' H' st _ e=>by
  have:=(List.getElem?_eq_some_iff.mp e).1
  exact (show i < x.cps.size by simpa using this)
 yld:=fun i z μ' S' H' u H2 st _ e y=>by
  obtain ⟨rfl,c,hc,rfl⟩:=y
  rw [List.getElem?_map,Array.getElem?_toList,hc] at e
  cases e
  exact ⟨Step.refl st.hr,Rep.str _⟩
 stop:=fun i μ' S' H' st _ hi=>(show x.cps.size≤i by simpa using Nat.le_of_eq hi)
def kx (e:XE):XI:=fun τ S=>(e τ S).bind fun z S1=>match z with
 | .d (.str x)=>if x.cps.size≤1000∧x.cps.all (· < 128)=true then .ok ⟨x.cps.toList.map fun c=>Vl.d (.str (sg c)),none⟩ S1 else .bad
 | _=>.bad
theorem ng {tg l:Expr} {xl:XE} (hl:RE X WE l xl):RI X WE tg l (kx xl):=⟨by
 intro pins s σ H Rr I h
 obtain ⟨μ,S,τ,hr,sr,p⟩:=h
 refine thn (hl.h pins s σ H _ I ⟨μ,S,τ,hr,sr,p.bind (Q:=fun v H1=>∃ μ1 S1 z,HR μ1 S1 H1∧av X.K X.mg μ1 S1 H1 v z∧au (c5 X.K X.mg) WE μ1 S1 H1 (match z with
   | .d (.str x)=>if x.cps.size≤1000∧x.cps.all (· < 128)=true then .ok ⟨x.cps.toList.map fun c=>Vl.d (.str (sg c)),none⟩ S1 else .bad
   | _=>.bad) Rr) fun v x S1 μ1 H1 st1 r1 p1=>⟨μ1,S1,x,st1.hr,r1,p1⟩⟩) fun v s1 ⟨u,H1,I1,ru,μ1,S1,z,hr1,r1,p1⟩=>?_
 split at p1
 ·split at p1
  ·rename_i hc
   cases (show Rep (vh μ1 S1 H1) u (.str _) from r1) with
   | str _=>
    obtain ⟨t,rfl⟩:=ru
    refine wpAny_pyIter_ascii hc.2 ?_
    refine ⟨s1.heap.objs.size,[s1.heap.objs.size],_,_,H1,rfl,I1.kept (t':=s1.toks) fun b o e=>Heap.get?_push_of_some _ e,kb _ _ t,⟨_,Heap.get?_push_size _ rfl,rfl,rfl⟩,fun b hb=>?_,p1.here hr1 (mM hr1 (Nat.le_trans hc.1 (by decide)))⟩
    rw [List.mem_singleton.mp hb]
    exact I1.gM (Nat.le_refl _) (I1.hok.fresh (Nat.le_refl _))
  ·exact p1.elim
 ·exact p1.elim⟩
end
set_option maxRecDepth 100000
section
variable {X:Cx}
def pz:R2:=fun x y H Q=>∃ d z,Rep H x d∧y=.str z∧Q (.bl (D.eqv d (.str z))) H
theorem oq (hu:X.A.units+64 < cLine):OpR X (compareOp .Eq) pz:=by
 intro pins s σ H x y v u Q I rx ry h
 obtain ⟨d,z,r,rfl,q⟩:=h
 obtain ⟨t,rfl⟩:=ry
 have hu':X.A.units < cLine:=by omega
 have go:∀ b,SeqAt.RcAt X.A s v (.str z t) b→D.eqv d (.str z)=b→wpAny (model X.prog X.w) X.A (compareOp .Eq v (.str z t)) (EP X pins σ Q) X.xe s:=fun b hr e=>hr X.prog X.w X.xe _ ⟨.bl b,H,I,rfl,by rw [← e];exact q⟩
 cases r with
 | non=>cases rx;exact go _ (SeqAt.RcAt.none_str z t) rfl
 | bl b=>cases rx;exact go _ (SeqAt.RcAt.bool_str b z t) rfl
 | int i=>obtain ⟨t2,rfl⟩:=rx;exact go _ (SeqAt.RcAt.int_str i t2 z t) rfl
 | str a=>obtain ⟨t2,rfl⟩:=rx;exact go _ (SeqAt.RcAt.str_str a t2 z t) rfl
 | tup h r=>
  cases rx
  obtain ⟨its,rv,p,hz⟩:=I.tuple (SqT.of h)
  exact go _ (SeqAt.RcAt.tuple_str z t p hu') rfl
 | lst h r=>
  cases rx
  obtain ⟨its,rv,p,hz⟩:=I.list (SqL.of h)
  exact go _ (SeqAt.RcAt.list_str z t p.isList hu') rfl
def mh:R2:=fun x y H Q=>∃ a b,x=.str a∧y=.str b∧Q (.bl (!Txt.contains b a)) H
theorem nr:OpR X (compareOp .NotIn) mh:=by
 intro pins s σ H x y v u Q I rx ry h
 obtain ⟨a,b,rfl,rfl,q⟩:=h
 obtain ⟨t,rfl⟩:=rx
 obtain ⟨t2,rfl⟩:=ry
 exact P.notIn_str ⟨.bl _,H,I,rfl,q⟩
end
section
variable {X:Cx} {WE:WX} {K:PySem.W.Frag} {mg:Str→Option Value}
def lG (x y:Vl) (S:Sto):R Vl:=match x,y with
 | .d d,.d (.str z)=>.ok (.d (.bl (D.eqv d (.str z)))) S
 | _,_=>.bad
theorem nL:bF K mg pz lG:=by
 intro WE μ S H v w x y Q hr rx ry p
 unfold lG at p
 split at p
 ·cases (show Rep (vh μ S H) w (.str _) from ry)
  exact ⟨_,_,Rep.mono cv rx,rfl,p.here hr (Rep.bl _)⟩
 ·exact p.elim
def wordsOf:List D→Option (List Str)
 | []=>some []
 | .str x :: l=>(wordsOf l).map (x :: ·)
 | _=>none
theorem eL:∀ {ds:List D} {ws:List Str},wordsOf ds=some ws→ds=ws.map D.str
 | [],ws,h=>by cases h;rfl
 | .str x :: l,ws,h=>by
  unfold wordsOf at h
  cases q:wordsOf l with
  | none=>rw [q] at h;cases h
  | some u=>rw [q] at h;cases h;rw [eL q];rfl
 | .non :: _,_,h=>by cases h
 | .bl _ :: _,_,h=>by cases h
 | .int _ :: _,_,h=>by cases h
 | .tup _ :: _,_,h=>by cases h
 | .lst _ :: _,_,h=>by cases h
theorem eW:∀ {vs:List V} {ws:List Str},ah H vs (ws.map D.str)→vs=ws.map V.str
 | [],[],_=>rfl
 | [],_ :: _,h=>by cases h
 | _ :: _,[],h=>by cases h
 | v :: vs,w :: ws,h=>by
  cases h with
  | cons h1 h2=>cases h1;rw [eW h2];rfl
def fX (x y:Vl) (S:Sto):R Vl:=match x,y with
 | .d (.str a),.d (.str b)=>.ok (.d (.bl (!Txt.contains b a))) S
 | _,_=>.bad
theorem lg:bF K mg mh fX:=by
 intro WE μ S H v w x y Q hr rx ry p
 unfold fX at p
 split at p
 ·cases (show Rep (vh μ S H) v (.str _) from rx)
  cases (show Rep (vh μ S H) w (.str _) from ry)
  exact ⟨_,_,rfl,rfl,p.here hr (Rep.bl _)⟩
 ·exact p.elim
end
set_option maxRecDepth 100000
inductive DL:List (Option Expr)→List Expr→List (Str×Int)→Prop
 | nil:DL [] [] []
 | cons {k:Str} {n:Int} {i j:Nat} {p q:Pos} {ks:List (Option Expr)} {vs:List Expr} {l:List (Str×Int)}:DL ks vs l→DL (some (.Constant (.str k) i p) :: ks) (.Constant (.int n) j q :: vs) ((k,n) :: l)
inductive DLv:List (Str×Int)→List (Value×Value)→Prop
 | nil:DLv [] []
 | cons {k:Str} {n:Int} {t u:Tok} {l:List (Str×Int)} {r:List (Value×Value)}:DLv l r→DLv ((k,n) :: l) ((.str k t,.int n u) :: r)
set_option maxRecDepth 100000
section
variable {X:Cx}
def tSm (r:V→List V→Hp→VK→Prop) (to te:TE):TE:=fun σ H Q=>to σ H fun x H1=>∃ z,x=.str z∧te σ H1 fun y H2=>r (.str z) [y] H2 Q
theorem rX {r:V→List V→Hp→VK→Prop} {name:Str} {id:String} {o e:Expr} {to te:TE} {apos cpos:Pos} (slot:Slot "str" name id) (hty:typeOf (.builtin id)=pure (.type "method_descriptor")) (hm:MtM X id r) (ho:PE X o to) (he:PE X e te)
  (hbase:attributeBase o name X.env (eval o X.env)=eval o X.env:=by rfl)
  (hfew:((backTo cpos (starEach [e] X.env)).all (fun x=>!x.1) && (backToKw cpos (keywordEach [] X.env)).all (fun x=>x.1.isSome) && decide ([e].length+([]:List Keyword).length+(if ([]:List Keyword).isEmpty then 0 else 1) < 30))=true:=by rfl)
  (hline:(apos.endLine == cpos.line)=true:=by rfl) (hs:starEach [e] X.env=(false,eval e X.env) :: starEach [] X.env:=by rfl):PE X (.Call (.Attribute o name apos) [e] [] cpos) (tSm r to te):=by
 intro pins s σ H Q I h
 refine wpAny_Call_method_late hbase hfew hline rfl (thn (ho pins s σ H _ I h) fun v s1 ⟨x,H1,I1,r1,z,e0,q1⟩=>?_)
 subst e0
 have r1':=r1
 obtain ⟨t,rfl⟩:=r1'
 refine ⟨"str",_,PySem.F.plainAttrs_str,slot,hty,typeIs_str _ _ _,(fun _ e=>nomatch e),?_⟩
 have hA:=(bt he cO hs) cpos pins s1 σ H1 (fun vs H2=>∃ y,vs=[y]∧r (.str z) [y] H2 Q) I1 (by
  refine cast (congrArg (te σ H1) ?_) q1
  funext y H2
  refine propext ⟨fun q=>⟨y,rfl,q⟩,fun ⟨y',e',q⟩=>?_⟩
  cases e'
  exact q)
 rw [hs] at hA ⊢
 refine Calls.callWith_builtin (by show (false || (backTo cpos (starEach ([]:List Expr) X.env)).any (·.1))=false;rfl) (Calls.evalArgs_plain ?_)
 exact thn hA fun us s2 ⟨vs,H2,I2,r2,y,e2,q2⟩=>hm pins s2 σ H2 (.str z) vs _ us Q I2 r1 r2 (by rw [e2];exact q2)
theorem fD:∀ {ws:List Str} {its:List Value},Vals (ws.map V.str) its→∃ l:List (Str×Tok),its=strValues l∧l.map (·.1)=ws
 | [],_,r=>by cases r;exact ⟨[],rfl,rfl⟩
 | w :: ws,_,r=>by
  cases r with
  | cons h r=>
   obtain ⟨t,rfl⟩:=h
   obtain ⟨l,e1,e2⟩:=fD r
   exact ⟨(w,t) :: l,by rw [e1];rfl,by rw [List.map_cons,e2]⟩
def rJoin:V→List V→Hp→VK→Prop:=fun x vs H Q=>∃ (a:Str) (l:Addr) (ws:List Str),x=.str a∧vs=[.ref l]∧H l=some (.lst (ws.map V.str))∧JoinOk a ws=true∧Q (.str (Txt.join a ws)) H
theorem ni:MtM X "str.join" rJoin:=by
 intro pins s σ H x vs v us Q I rx rv h
 obtain ⟨a,l,ws,rfl,rfl,hl,hj,q⟩:=h
 obtain ⟨t,rfl⟩:=rx
 obtain ⟨u,rfl,ru⟩:=vals1 rv
 cases ru
 obtain ⟨its,r,pl,hz⟩:=I.list (SqL.of hl)
 obtain ⟨k,rfl,e2⟩:=fD r
 exact SC.join pl.isList e2 hj fun t' tk=>⟨.str _,H,I.tok _,⟨_,rfl⟩,q⟩
end
section
variable {X:Cx} {WE:WX} {K:PySem.W.Frag} {mg:Str→Option Value}
def qz (r:V→List V→Hp→VK→Prop) (f:Str→Vl→Sto→R Vl):Prop:=∀ (K:PySem.W.Frag) (mg:Str→Option Value) (WE:WX) (μ:Nat→Addr) (S:Sto) (H:Hp) (a:Str) (w:V) (z:Vl) (Q:VK),HR μ S H→av K mg μ S H w z→au (av K mg) WE μ S H (f a z S) Q→r (.str a) [w] H Q
def xSm (f:Str→Vl→Sto→R Vl) (o e:XE):XE:=fun τ S=>(o τ S).bind fun x S1=>match x with
 | .d (.str a)=>(e τ S1).bind fun z S2=>f a z S2
 | _=>.bad
theorem tX {r:V→List V→Hp→VK→Prop} {f:Str→Vl→Sto→R Vl} {name:Str} {id:String} {o e:Expr} {xo xe:XE} {apos cpos:Pos} (slot:Slot "str" name id) (hty:typeOf (.builtin id)=pure (.type "method_descriptor")) (hm:MtM X id r) (hf:qz r f) (ho:RE X WE o xo) (he:RE X WE e xe)
  (hbase:attributeBase o name X.env (eval o X.env)=eval o X.env:=by rfl)
  (hfew:((backTo cpos (starEach [e] X.env)).all (fun x=>!x.1) && (backToKw cpos (keywordEach [] X.env)).all (fun x=>x.1.isSome) && decide ([e].length+([]:List Keyword).length+(if ([]:List Keyword).isEmpty then 0 else 1) < 30))=true:=by rfl)
  (hline:(apos.endLine == cpos.line)=true:=by rfl) (hs:starEach [e] X.env=(false,eval e X.env) :: starEach [] X.env:=by rfl):RE X WE (.Call (.Attribute o name apos) [e] [] cpos) (xSm f xo xe):=
 ⟨(rX slot hty hm ho.h he.h hbase hfew hline hs).weak fun σ H Q ⟨μ,S,τ,hr,sr,p⟩=>⟨μ,S,τ,hr,sr,p.bind fun v x S1 μ1 H1 st1 r1 p1=>by
  try dsimp only at p1
  split at p1
  ·cases (show Rep (vh μ1 S1 H1) v (.str _) from r1)
   exact ⟨_,rfl,μ1,S1,τ,st1.hr,sr.step st1,p1.bind fun w y S2 μ2 H2 st2 r2 p2=>hf X.K X.mg WE μ2 S2 H2 _ w y Q st2.hr r2 p2⟩
  ·exact p1.elim⟩⟩
def eM (a:Str) (z:Vl) (S:Sto):R Vl:=match cc z S with
 | some ds=>(match wordsOf ds with
  | some ws=>if JoinOk a ws=true then .ok (.d (.str (Txt.join a ws))) S else .bad
  | none=>.bad)
 | none=>.bad
theorem jC:qz rJoin eM:=by
 intro K mg WE μ S H a w z Q hr rw' p
 unfold eM at p
 split at p
 ·rename_i ds e1
  split at p
  ·rename_i ws e2
   split at p
   ·obtain ⟨l,vs,rfl,hl,rs⟩:=cQ hr rw' e1
    have:=eL e2
    subst this
    have:=eW rs
    subst this
    exact ⟨_,l,ws,rfl,rfl,hl,‹_›,p.here hr (Rep.str _)⟩
   ·exact p.elim
  ·exact p.elim
 ·exact p.elim
end
end L2
namespace L2
open PySem PySem.Spec PyProof.Rows Builtin Builtin.Str
set_option maxRecDepth 100000
set_option maxRecDepth 100000
structure vD (P:Program) (w:World) (outer:List Env) (H:Hp) (s:Shared) (a:Addr) (H':Hp) (s':Shared) (B:Heap):Prop where
 os:s'.os=s.os
 bare:AllBare s'.gens
 un:Un (frs outer) [] H H' s.heap s'.heap
 hok:HOk P w H' s'.heap
 new:s.heap.get? a=none
 free:H' a=none
 trk:∀ b o,H' b=some o→∃ u,B.get? b=some u
 old:∀ b o,s.heap.get? b=some o→H b=none→b∉frs outer→B.get? b=some o
 dm:∀ b o,H b=some o→∃ o',H' b=some o'
theorem aK.some_at (x:aK P w H h a o):∃ u,h.get? a=some u:=by
 cases o with
 | lst xs=>obtain ⟨_,_,_,_,e⟩:=x;exact ⟨_,e⟩
 | tup xs=>obtain ⟨_,_,_,ob,e,_⟩:=x;exact ⟨_,e⟩
 | dK kvs=>obtain ⟨_,_,_,_,o,_,_,e,_⟩:=x;exact ⟨_,e⟩
 | dT kvs=>obtain ⟨_,_,_,_,o,_,_,e,_⟩:=x;exact ⟨_,e⟩
 | set S n=>obtain ⟨o,_,_,_,e,_⟩:=x;exact ⟨_,e⟩
 | ins C dx fs=>obtain ⟨_,_,_,e,_⟩:=x;exact ⟨_,e⟩
 | own y=>exact x
 | xd fs=>obtain ⟨_,⟨_,_,_,e,_⟩,_⟩:=x;exact ⟨_,e⟩
 | rng lo hi=>obtain ⟨_,_,_,e⟩:=x;exact ⟨_,e⟩
 | frz ob u=>obtain ⟨e,_⟩:=x;exact ⟨_,e⟩
 | tbl ps=>exact ⟨_,x⟩
 | met f y=>exact ⟨_,x⟩
 | ext φ=>exact x.2.1
section
variable {X:Cx} {pins:List (Addr×Obj)} {σ:St} {H:Hp} {s:Shared} {a:Addr}
theorem Inv.gj (I:Inv X pins σ H s) (n:s.heap.get? a=none):H a=none:=by
 cases q:H a with
 | none=>rfl
 | some o=>
  obtain ⟨u,hu⟩:=(I.hok a o q).some_at
  rw [n] at hu
  cases hu
theorem Inv.u6 (I:Inv X pins σ H s) (n:s.heap.get? a=none) (hex:X.ex=[]:=by exact rfl):X.s₀.heap.get? a=none:=by
 cases q:X.s₀.heap.get? a with
 | none=>rfl
 | some o=>
  obtain ⟨o',e'⟩:=I.base.there a o q (by rw [hex];intro z;cases z)
  rw [n] at e';cases e'
end
def Ec (K:PySem.W.Frag) (mg:Str→Option Value) (c:Str):Prop:=∃ C:Addr,mg c=some (.ref C)∧PySem.W.excIn K C [.type "ValueError",.type "Exception",.type "BaseException",.type "object"] "ValueError.__new__"=true
theorem l7 {K:PySem.W.Frag} {h:Heap} (X:K.In h) (G:h.Ns mainGlobals mg) (a:PySem.W.nsIn K mainGlobals c=some (some (.ref C))) (q:PySem.W.excIn K C [.type "ValueError",.type "Exception",.type "BaseException",.type "object"] "ValueError.__new__"=true):Ec K mg c:=⟨C,PySem.W.mg_of X G a,q⟩
open PySem.W in
theorem ib {K:PySem.W.Frag} {h:Heap} (X:K.In h) (q:PySem.W.excIn K C bmB newId=true):∃ bm N nm q bs hdct sn sub ab col dd k0 k1 k2 k3 k5 mN,h.get? C=some (excClassObj nm q C N bs bm hdct sn sub ab col dd k0 k1 k2 k3 k5 newId)∧h.Ns N mN∧mN "__init__"=none∧OwnTail h bmB bm:=by
 unfold excIn at q
 split at q
 ·rename_i dd cd sl ho
  split at q
  ·rename_i C' bm k0 k1 k2 k3 n k5 hm hs
   simp only [Bool.and_eq_true,beq_iff_eq,Bool.not_eq_true'] at q
   obtain ⟨⟨⟨⟨⟨rfl,rfl⟩,hdel⟩,ht⟩,hok⟩,hni⟩:=q
   obtain ⟨nm,bs,mro,ns,qn,hd,sn,sub,ab,col,del⟩:=cd
   dsimp only at hm hdel hok hni
   subst hm hdel
   have hsl:sl=#[k0,k1,k2,k3,some (.builtin n),k5]:=by
    obtain ⟨l⟩:=sl
    simp only at hs
    rw [hs]
   subst hsl
   exact ⟨bm,ns,nm,qn,bs,hd,sn,sub,ab,col,dd,k0,k1,k2,k3,k5,_,X _ _ ho,.of_isNs (isNs_of_in X hok),nsMap_none_of_in X hok hni,tail_of_in X ht⟩
  ·cases q
 ·cases q
section
variable {X:Cx} {pins pins':List (Addr×Obj)} {σ:St} {H:Hp} {s:Shared} {E:Value→Shared→Prop}
theorem Inv.l6 (I:Inv X pins σ H s) (n:H a=none) (h0:X.s₀.heap.get? a=none) (hl:a≠X.env.locals) (hc:∀ x c,X.env.cells.lookup x=some c→a≠c) (hp:∀ p∈X.pn++pins,p.1≠a) (new:aK X.prog X.w (upd H a o) s.heap a o):Inv X pins σ (upd H a o) s:=by
 have sm:∀ b u,H b=some u→upd H a o b=some u:=fun b u q=>by rw [ak (ay q n)];exact q
 refine ⟨I.ok,I.os,I.bare,⟨I.base.keep,I.base.slot,fun b u q n' hx=>?_,I.base.there,fun b xs q=>sm _ _ (I.base.tups b xs q),fun b u xs q=>sm _ _ (I.base.frzs b u xs q),fun b ps q=>?_⟩,I.loc,I.cell,?_,fun x c q=>?_,fun p hpp=>?_,fun b u q=>?_,I.len⟩
 ·rw [ak (fun z=>by rw [z,h0] at q;cases q)]
  exact I.base.free b u q n' hx
 ·obtain ⟨more,e⟩:=I.base.tbls b ps q
  exact ⟨more,sm _ _ e⟩
 ·rw [ak (Ne.symm hl)];exact I.free
 ·rw [ak (Ne.symm (hc x c q))];exact I.freeC x c q
 ·obtain ⟨e,n1,r⟩:=I.pin p hpp
  exact ⟨e,by rw [ak (hp p hpp)];exact n1,r⟩
 ·by_cases z:b=a
  ·subst z
   rw [aB] at q
   cases q
   exact new
  ·rw [ak z] at q
   exact (I.hok b u q).dO (fun _ _ _ e=>e) (fun c e=>sm _ _ e) fun c xs e=>sm _ _ e
end
end L2
namespace L2
open PySem PySem.Spec PyProof.Rows PySem.W Builtin Builtin.ObjectAttr Builtin.Getset_descriptor
set_option maxRecDepth 100000
structure Cf (K:PySem.W.Frag) (mg:Str→Option Value) (c:Str) (C:Addr):Prop where
 bound:mg c=some (.ref C)
 cls:isClsIn K C=true
 ty:typeIn K (.ref C)=some (.type "type")
 exc:subIn K (.ref C) (.type "BaseException")=some true
 val:subIn K (.ref C) (.type "ValueError")=some true
 ga:findIn K (.ref C) "__getattribute__"=some (some (.builtin "BaseException.__getattribute__"))
 gn:findIn K (.ref C) "__getattr__"=some none
 gc:findIn K (.ref C) "__class__"=some (some (.builtin "object.__class__"))
 ob:mroIn K C (.type "object")=some true
section
variable {prog:Program} {w:World} {A:Around} {E:Value→Shared→Prop} {h:Heap} {g:Array GenState} {d:Drawn} {t:Nat} {os:OsState} {a C:Addr} {o:Obj} {K:PySem.W.Frag} {mg:Str→Option Value} {c:Str}
theorem bU {M:Model} (hx:h.get? a=some o) (hc:o.cls=.ref C):Looks M h (typeOf (.ref a)) (.ref C):=by
 rw [← hc]
 exact (Looks.ld hx).andThen .now
theorem oB {R:Result→Shared→Prop} (X:K.In h) (F:Cf K mg c C) (hx:h.get? a=some o) (hc:o.cls=.ref C) (hq:R (.ok (.ret (.ref C))) ⟨h,g,d,t,os⟩) :
  codeAny (model prog w) A (.call (.builtin "getset_descriptor.__get__") ⟨[.builtin "object.__class__",.ref a,.ref C],[]⟩) R ⟨h,g,d,t,os⟩:=by
 have L0:=bU (M:=model prog w) hx hc
 have L1:=looks_mroIn (M:=model prog w) X F.ob
 refine codeAny_call_builtin KF.slot_gs.plain KF.entry_gs (KF.slot_gs.check _ _ _ _ _ _ _ _ KF.type_class (KF.args_gs _ _ _) ?_)
 unfold Builtin.«getset_descriptor.__get__» descrGet
 rw [dga_obj]
 refine wpAny_bind (wpAny_pure ?_)
 unfold descrGetter descrCheckInstance descrNameAndClass isInstance
 simp only [KF.owner_class]
 repeat lk
 refine ⟨Code.quiet_builtin _ (by decide +kernel),codeAny_builtin KF.entry_class ?_⟩
 unfold Builtin.«object.__class__» shownTypeOf
 repeat lk
 exact hq
theorem lR {tk:Tok} {Q:Fin→Shared→Prop} (X:K.In h) (F:Cf K mg c C) (hx:h.get? a=some o) (hc:o.cls=.ref C) (hq:Q (.done (.ret (.ref C))) ⟨h,g,d,t,os⟩) :
  wpAny (model prog w) A (Builtin.«object.__getattribute__» ⟨[.ref a,.str "__class__" tk],[]⟩) Q E ⟨h,g,d,t,os⟩:=by
 have L0:=bU (M:=model prog w) hx hc
 have L1:=looks_findIn (M:=model prog w) X F.gc
 have hT5:(⟨h,g,d,t,os⟩:Shared).TypeIs (.builtin "object.__class__") "getset_descriptor":=PySem.F.typeOf_object_class
 have f5:=PySem.F.typeOf_object_class
 have f6:=PySem.F.slot_gs_get.lookup
 have f7:=PySem.F.slot_gs_set.lookup
 repeat (any_goals (first | assumption | with_reducible refine L0.at ?_ | with_reducible refine L1.at ?_ | wp_step))
 refine oB X F hx hc ?_
 repeat (any_goals (first | assumption | wp_step))
theorem g_ {M:Model} {nameV:Value} {Q:Unit→Shared→Prop} (X:K.In h) (F:Cf K mg c C) (hx:h.get? a=some o) (hc:o.cls=.ref C) (hq:Q () ⟨h,g,d,t,os⟩):wpAny M A (checkBuiltinCall "BaseException.__getattribute__" ⟨[.ref a,nameV],[]⟩) Q E ⟨h,g,d,t,os⟩:=by
 have hk:builtinKind "BaseException.__getattribute__"=some .slot:=by decide +kernel
 have hsplit:splitId "BaseException.__getattribute__"=some ("BaseException","__getattribute__"):=by decide +kernel
 have L0:=bU (M:=M) hx hc
 have L1:=looks_subIn (M:=M) X F.exc
 have ha:=PySem.F.args_bexc_ga (.ref a) nameV
 simp only [checkBuiltinCall,hk,hsplit]
 refine wpAny_bind ?_
 ·unfold isInstance
  repeat (first | with_reducible refine wpAny_bind (L0.at ?_) | with_reducible refine wpAny_bind (L1.at ?_) | with_reducible refine L0.at ?_ | with_reducible refine L1.at ?_ | wp_step)
  exact hq
theorem nF {tk:Tok} {R:Result→Shared→Prop} (X:K.In h) (F:Cf K mg c C) (hx:h.get? a=some o) (hc:o.cls=.ref C) (hq:R (.ok (.ret (.ref C))) ⟨h,g,d,t,os⟩) :
  codeAny (model prog w) A (.call (.builtin "BaseException.__getattribute__") ⟨[.ref a,.str "__class__" tk],[]⟩) R ⟨h,g,d,t,os⟩:=
 codeAny_call_builtin (by decide +kernel) PySem.F.entry_bexc_ga (g_ X F hx hc (lR X F hx hc hq))
theorem sC {tk:Tok} {Q:Value→Shared→Prop} (X:K.In h) (F:Cf K mg c C) (hx:h.get? a=some o) (hc:o.cls=.ref C) (hq:Q (.ref C) ⟨h,g,d,t,os⟩) :
  wpAny (model prog w) A (getAttrBy (.ref a) (.str "__class__" tk) false) Q E ⟨h,g,d,t,os⟩:=by
 have L0:=bU (M:=model prog w) hx hc
 have L1:=looks_findIn (M:=model prog w) X F.ga
 have L2:=looks_findIn (M:=model prog w) X F.gn
 have f3:=PySem.F.attr_ValueError.ga.bind (.ref a)
 have hx2:(Value.builtin "BaseException.__getattribute__" == Value.builtin "object.__getattribute__")=false:=by decide +kernel
 have hx1:(onTheHeap (Value.ref C) && Value.builtin "BaseException.__getattribute__" == Value.builtin "object.__getattribute__")=false:=by rw [hx2];rfl
 repeat (any_goals (first | assumption | with_reducible refine L0.at ?_ | with_reducible refine L1.at ?_ | with_reducible refine L2.at ?_ | wp_step))
 refine nF X F hx hc ?_
 repeat (any_goals (first | assumption | wp_step))
theorem mZ {Q:Option Value→Shared→Prop} (X:K.In h) (F:Cf K mg c C) (hx:h.get? a=some o) (hc:o.cls=.ref C) (hq:Q (some (.ref C)) ⟨h,g,d,t+1,os⟩):wpAny (model prog w) A (getAttr? (.ref a) "__class__") Q E ⟨h,g,d,t,os⟩:=by
 unfold getAttr? getAttrBy?
 repeat (any_goals (first | assumption | with_reducible apply sC X F hx hc | wp_step))
end
theorem pj {K:PySem.W.Frag} {mg:Str→Option Value} {c:Str} {C a:Addr} (F:Cf K mg c C):KitX K (.ref a) (.ref C) (fun h=>∃ o,h.get? a=some o∧o.cls=.ref C) where
 ty:=fun _ _ _ ⟨o,hx,hc⟩=>bU hx hc
 it:=fun _ _ X _=>by
  obtain ⟨cdD,hcD⟩:=Option.isSome_iff_exists.mp F.cls
  unfold clsIn at hcD
  split at hcD
  ·rename_i c' d' cd' sl' ho
   intro A' Q' E' s' k q
   unfold isType loadHead
   exact wpAny_bind (wpAny_loadPart (k _ _ (X _ _ ho)) (wpAny_pure q))
  ·cases hcD
 ne:=fun h tp dd its n sl X htp=>by
  obtain ⟨cdD,hcD⟩:=Option.isSome_iff_exists.mp F.cls
  refine Bool.eq_false_iff.mpr fun q=>?_
  have e:C=tp:=Value.ref.inj (beq_iff_eq.mp q)
  subst e
  unfold clsIn at hcD
  split at hcD
  ·rename_i c' d' cd' sl' ho
   have z:=(X _ _ ho).symm.trans htp
   cases z
  ·cases hcD
 ca:=fun {_ _ _ _ _ s} X ⟨o,hx,hc⟩ k=>by
  obtain ⟨h,g,d,t,os⟩:=s
  exact mZ X F hx hc k
def Isb (K:PySem.W.Frag) (mg:Str→Option Value) (c d:Str) (b:Bool):Prop:=∃ C D:Addr,mg c=some (.ref C)∧mg d=some (.ref D)∧subIn K (.ref C) (.ref D)=some b∧(b=true∨(Value.ref C == Value.ref D)=false)
def Isa (K:PySem.W.Frag) (mg:Str→Option Value) (c:Str) (v:Value) (b:Bool):Prop:=∃ C:Addr,Cf K mg c C∧kitOne K (.ref C) v=some b
theorem sj {K:PySem.W.Frag} {h:Heap} {mg:Str→Option Value} {c:Str} {C:Addr} (X:K.In h) (G:h.Ns mainGlobals mg) (a:nsIn K mainGlobals c=some (some (.ref C))) (b1:isClsIn K C=true) (b2:typeIn K (.ref C)=some (.type "type")) (b3:subIn K (.ref C) (.type "BaseException")=some true) (b4:subIn K (.ref C) (.type "ValueError")=some true) (b5:findIn K (.ref C) "__getattribute__"=some (some (.builtin "BaseException.__getattribute__"))) (b6:findIn K (.ref C) "__getattr__"=some none) (b7:findIn K (.ref C) "__class__"=some (some (.builtin "object.__class__"))) (b8:mroIn K C (.type "object")=some true):∃ C,Cf K mg c C:=⟨C,mg_of X G a,b1,b2,b3,b4,b5,b6,b7,b8⟩
theorem qb {K:PySem.W.Frag} {h:Heap} {mg:Str→Option Value} {c d:Str} {C D:Addr} {b:Bool} (X:K.In h) (G:h.Ns mainGlobals mg) (a:nsIn K mainGlobals c=some (some (.ref C))) (a':nsIn K mainGlobals d=some (some (.ref D))) (q:subIn K (.ref C) (.ref D)=some b) (z:b=true∨(Value.ref C == Value.ref D)=false):Isb K mg c d b:=⟨C,D,mg_of X G a,mg_of X G a',q,z⟩
theorem ia {K:PySem.W.Frag} {mg:Str→Option Value} {c d:Str} {b:Bool} (h1:∃ C,Cf K mg c C) (h2:∃ D,Cf K mg d D) (h:Isb K mg c d b):∃ D,mg d=some (.ref D)∧Isa K mg c (.ref D) b:=by
 obtain ⟨C,F⟩:=h1
 obtain ⟨D,G⟩:=h2
 obtain ⟨C',D',e1,e2,q,z⟩:=h
 obtain rfl:C=C':=by rw [F.bound] at e1;cases e1;rfl
 obtain rfl:D=D':=by rw [G.bound] at e2;cases e2;rfl
 refine ⟨D,G.bound,C,F,?_⟩
 unfold kitOne
 by_cases hb:(Value.ref C == Value.ref D)=true
 ·rw [if_pos hb]
  rcases z with rfl | z
  ·rfl
  ·rw [z] at hb;cases hb
 ·rw [if_neg hb]
  unfold kitCls
  dsimp only
  rw [if_pos (by rw [show (clsIn K D).isSome=true from G.cls,G.ty];rfl),q]
theorem iv {K:PySem.W.Frag} {mg:Str→Option Value} {c:Str} (h1:∃ C,Cf K mg c C):Isa K mg c (.type "ValueError") true:=by
 obtain ⟨C,F⟩:=h1
 refine ⟨C,F,?_⟩
 unfold kitOne kitCls
 rw [if_neg (by intro z;cases (beq_iff_eq.mp z))]
 dsimp only
 rw [if_pos (by decide +kernel),F.val]
def bX (c d:Str):Bool:=d == "WishError" || c == d
structure XsF (K:PySem.W.Frag) (mg:Str→Option Value) (cs ex:List Str):Prop where
 cf:∀ c∈ex,∃ C,Cf K mg c C
 sb:∀ c∈cs,∀ d∈ex,Isb K mg c d (bX c d)
 le:∀ c∈cs,c∈ex
section
variable {K:PySem.W.Frag} {mg:Str→Option Value} {cs ex:List Str}
theorem cX (F:XsF K mg cs ex) {d:Str} (h:d∈ex):∀ c∈cs,∃ D,mg d=some (.ref D)∧Isa K mg c (.ref D) (bX c d):=fun c hc=>ia (F.cf c (F.le c hc)) (F.cf d h) (F.sb c hc d h)
theorem uE (F:XsF K mg cs ex):∀ c∈cs,Isa K mg c (.type "ValueError") true:=fun c hc=>iv (F.cf c (F.le c hc))
end
theorem mU {K:PySem.W.Frag} {h:Heap} {mg:Str→Option Value} {c d:Str} {C D:Addr} {b b':Bool} (X:K.In h) (G:h.Ns mainGlobals mg) (a:nsIn K mainGlobals c=some (some (.ref C))) (a':nsIn K mainGlobals d=some (some (.ref D))) (q:subIn K (.ref C) (.ref D)=some b) (z:b=true∨(Value.ref C == Value.ref D)=false) (e:b=b'):Isb K mg c d b':=e ▸ qb X G a a' q z
def isX (cs:List Str) (f:Str→Bool) (z:Vl) (S:Sto):R Vl:=match z with
 | .xc c _=>if c∈cs then .ok (.d (.bl (f c))) S else .bad
 | _=>.bad
section
variable {X:Cx} {WE:WX} {e:Expr} {xa:XE} {nm:Str} {p p2 pos:Pos} {cs:List Str} {f:Str→Bool}
theorem ic {v:Value} {y:V} [n:NS e] (hT:PE X (.Name nm p2) (tC y)) (ry:∀ u,RelV y u→u=v) (hI:∀ c∈cs,Isa X.K X.mg c v (f c)) (hm:X.mg "isinstance"=none) (ha:RE X WE e xa) (hg:Gl X "isinstance":=by exact rfl)
  (hb:bootBuiltins "isinstance"=some (.builtin "isinstance"):=by decide +kernel)
  (hs2:starEach [.Name nm p2] X.env=(false,eval (.Name nm p2) X.env) :: starEach [] X.env:=by rfl) (hpl:(backTo pos (starEach [.Name nm p2] X.env)).any (·.1)=false:=by rfl) :
  RE X WE (.Call (.Name "isinstance" p) [e,.Name nm p2] [] pos) (xUn (isX cs f) xa):=⟨by
 have he:=n.eq [.Name nm p2] X.env
 intro pins s σ H Q I h
 refine wpAny_Call_Name_kw (cy I hg hm hb ?_ (by decide) (by decide))
 refine PyProof.Rows.callWith_builtin1 (thn ((bt ha.h (bt hT cO hs2) he) pos pins s σ H (fun vs H1=>∃ x μ1 S1 z,vs=[x,y]∧HR μ1 S1 H1∧av X.K X.mg μ1 S1 H1 x z∧au (av X.K X.mg) WE μ1 S1 H1 (isX cs f z S1) Q) I ?_) fun us s1 ⟨vs,H1,I1,r1,q1⟩=>?_) he hpl
 ·obtain ⟨μ,S,τ,hr,sr,p⟩:=h
  exact ⟨μ,S,τ,hr,sr,p.bind fun v x S1 μ1 H1 st1 r1 p1=>⟨v,μ1,S1,x,rfl,st1.hr,r1,p1⟩⟩
 ·obtain ⟨x,μ1,S1,z,rfl,hr1,rz,p1⟩:=q1
  obtain ⟨u1,u2,rfl,ru,rw'⟩:=r1.two
  cases ry u2 rw'
  unfold isX at p1
  split at p1
  ·rename_i c xs
   split at p1
   ·rename_i hc
    obtain ⟨a,C,rfl,hmc,od,hH,_⟩:=rz
    cases ru
    obtain ⟨C',F,hk⟩:=hI c hc
    obtain rfl:C=C':=Value.ref.inj (Option.some.inj (hmc.symm.trans F.bound))
    obtain ⟨o,ho,hcls,_⟩:=(I1.hok a _ (aw hH).2).1
    exact kia_one (pj F) I1.kIn ⟨o,ho,hcls⟩ hk (by intro z;cases z) fun tk=>⟨.bl (f c),H1,I1.tok tk,rfl,p1.here hr1 (Rep.bl _)⟩
   ·exact p1.elim
  ·exact p1.elim⟩
theorem bu [n:NS e] (hI:∀ c∈cs,∃ D,X.mg nm=some (.ref D)∧Isa X.K X.mg c (.ref D) (f c)) (hD:∃ D,Cf X.K X.mg nm D) (hm:X.mg "isinstance"=none) (ha:RE X WE e xa) (hg:Gl X "isinstance":=by exact rfl) (hg2:Gl X nm:=by exact rfl) (hd:(nm == ("__debug__":Str))=false:=by decide)
  (hb:bootBuiltins "isinstance"=some (.builtin "isinstance"):=by decide +kernel)
  (hs2:starEach [.Name nm p2] X.env=(false,eval (.Name nm p2) X.env) :: starEach [] X.env:=by rfl) (hpl:(backTo pos (starEach [.Name nm p2] X.env)).any (·.1)=false:=by rfl) :
  RE X WE (.Call (.Name "isinstance" p) [e,.Name nm p2] [] pos) (xUn (isX cs f) xa):=by
 obtain ⟨D,G⟩:=hD
 exact ic (v:=.ref D) (y:=.ref D) (nT hg2 G.bound rfl hd) (fun u r=>r) (fun c hc=>by
  obtain ⟨D',e,h⟩:=hI c hc
  rw [G.bound] at e
  cases e
  exact h) hm ha hg hb hs2 hpl
end
theorem cZ:∀ bs:List Bool,ReadsAll hp (bs.map Value.bool) (bs.map PyData.bool) []
 | []=>.nil
 | b :: bs=>.cons (as:=[]) (bs:=[]) (.bool b) (cZ bs)
theorem fS (bs:List Bool):(bs.map PyData.bool).all Shape.bool.has=true:=by
 rw [List.all_map,List.all_eq_true]
 intro b _
 rfl
theorem dA (k:Bool):∀ bs:List Bool,Spec.countIn (.bool k) (bs.map PyData.bool)=(bs.count k:Nat)
 | []=>rfl
 | b :: bs=>by
  rw [List.map_cons,Spec.countIn,dA k bs,List.count_cons]
  cases b<;>cases k<;>simp [Spec.same]<;>omega
theorem fQ:∀ {ns:List Bool} {j:Nat},j < ns.idxOf k→∀ (h2:j < ns.length),(ns[j] == k)=false
 | n :: r,0,h,_=>by
  by_cases e:n=k
  ·subst e;simp at h
  ·simpa using e
 | n :: r,j+1,h,h2=>by
  by_cases e:n=k
  ·subst e;simp at h
  ·have hb:(n == k)=false:=by simpa using e
   have h':j < r.idxOf k:=by
    rw [List.idxOf_cons,hb] at h
    exact Nat.lt_of_succ_lt_succ h
   exact fQ h' (Nat.lt_of_succ_lt_succ h2)
def iC:V→List V→Hp→VK→Prop:=fun x vs H Q=>∃ (l:Addr) (bs:List Bool) (k:Bool),x=.ref l∧vs=[.bl k]∧H l=some (.lst (bs.map V.bl))∧Q (.int (bs.count k:Nat)) H
def iq:V→List V→Hp→VK→Prop:=fun x vs H Q=>∃ (l:Addr) (bs:List Bool) (k:Bool),x=.ref l∧vs=[.bl k]∧H l=some (.lst (bs.map V.bl))∧k∈bs∧bs.length≤1000∧Q (.int (bs.idxOf k:Nat)) H
section
variable {X:Cx} {WE:WX}
theorem jX:MtM X "list.count" iC:=by
 intro pins s σ H x vs v us Q I rx rv h
 obtain ⟨l,bs,k,rfl,rfl,hH,q⟩:=h
 cases rx
 obtain ⟨u,rfl,ru⟩:=rv.one
 cases ru
 obtain ⟨its,r,pl,hz⟩:=I.list (SqL.of hH)
 have hits:=fk r
 subst hits
 refine count_list_bools (xs:=bs.map PyData.bool) (hp:=s.heap) pl.isList (cZ bs) (fS bs) ?_
 rw [dA]
 exact ⟨.int _,H,I.kept (t':=s.toks+1) fun b o e=>e,⟨_,rfl⟩,q⟩
theorem jm:MtM X "list.index" iq:=by
 intro pins s σ H x vs v us Q I rx rv h
 obtain ⟨l,bs,k,rfl,rfl,hH,hk,hb,q⟩:=h
 cases rx
 obtain ⟨u,rfl,ru⟩:=rv.one
 cases ru
 obtain ⟨its,r,pl,hz⟩:=I.list (SqL.of hH)
 have hits:=fk r
 subst hits
 obtain ⟨⟨cls,dd,data,sl⟩,ho,hc,n,hd⟩:=pl.isList
 simp only at hc hd
 subst hc hd
 have hj:bs.idxOf k < bs.length:=List.idxOf_lt_length_iff.mpr hk
 refine call_meets PySem.F.slot_list_index ⟨_,ho,rfl⟩ PySem.F.entry_list_index (PySem.F.args_list_index_2 _ _)
  (PySem.SeqAt.list_indexAt l (bs.map Value.bool).toArray n dd sl (.bool k) (isBoolOf k) (bs.idxOf k) (by simpa using hj) (by omega) ?_ ?_) ⟨ho,fun y hy=>eq_isBoolOf k (cZ (hp:=s.heap) bs) (fS bs) y (by simpa using hy) _ _,?_⟩
 ·simp only [List.getElem_toArray,List.getElem_map,isBoolOf]
  simpa using List.getElem_idxOf hj
 ·intro j hjs hlt
  simp only [List.getElem_toArray,List.getElem_map,isBoolOf]
  exact fQ hlt (by simpa using hjs)
 ·exact ⟨.int _,H,I.kept (t':=s.toks+1) fun b o e=>e,⟨_,rfl⟩,q⟩
end
def iG (xs:List D) (z:D) (S:Sto):R Vl:=match z,df xs with
 | .bl k,some bs=>.ok (.d (.int (bs.count k:Nat))) S
 | _,_=>.bad
def ja (xs:List D) (z:D) (S:Sto):R Vl:=match z,df xs with
 | .bl k,some bs=>if k∈bs∧bs.length≤1000 then .ok (.d (.int (bs.idxOf k:Nat))) S else .bad
 | _,_=>.bad
theorem jz:kW iC iG:=by
 intro K mg WE μ S H a xs vs w z Q hr h rs rw' p
 unfold iG at p
 split at p
 ·rename_i k bs e1
  cases rw'
  rw [eB e1] at rs
  rw [ah.gx rs] at h
  exact ⟨_,bs,k,rfl,rfl,h,p.here hr (Rep.int _)⟩
 ·exact p.elim
theorem jv:kW iq ja:=by
 intro K mg WE μ S H a xs vs w z Q hr h rs rw' p
 unfold ja at p
 split at p
 ·rename_i k bs e1
  split at p
  ·rename_i hc
   cases rw'
   rw [eB e1] at rs
   rw [ah.gx rs] at h
   exact ⟨_,bs,k,rfl,rfl,h,hc.1,hc.2,p.here hr (Rep.int _)⟩
  ·exact p.elim
 ·exact p.elim
end L2
namespace L2
open PySem PySem.Spec PyProof.Rows PySem.W Builtin Builtin.ObjectAttr
set_option maxRecDepth 100000
abbrev veM:List Value:=[.type "ValueError",.type "Exception",.type "BaseException",.type "object"]
def exN (e C:Addr) (od:Option Addr) (h:Heap):Prop:=∃ t,h.get? e=some ⟨.ref C,od,.fields #[.ref t,.none,.none,.none,.bool false,.none],#[]⟩
structure Nw (K:PySem.W.Frag) (mg:Str→Option Value) (c qual:Str) (st:Stmt) (C W fI:Addr) (fd:FuncData):Prop where
 cf:Cf K mg c C
 we:Ec K mg "WishError"
 w:mg "WishError"=some (.ref W)
 obj:∃ nm q N bs sn sub ab col dd k0 k1 k2 k3 k5,K.lookup C=some (excClassObj nm q C N bs (.ref W :: veM) true sn sub ab col dd k0 k1 k2 k3 k5 "ValueError.__new__")
 fi:findIn K (.ref C) "__init__"=some (some (.ref fI))
 ft:typeIn K (.ref fI)=some (.type "function")
 sa:findIn K (.ref C) "__setattr__"=some (some (.builtin "object.__setattr__"))
 nu:findIn K (.ref C) "number"=some none
 wga:specialIn K (.ref W) "__getattribute__"=some (some (.builtin "type.__getattribute__"))
 wrd:readsIn K W (.type "type")=true
 wfc:findCls K (.ref W) (.type "type") "__init__"=some (.val (.builtin "ValueError.__init__"))
 fn:Fun K "__init__" qual st fI fd
 kp:keepIn K (.ref C)=true
section
variable {K:PySem.W.Frag} {mg:Str→Option Value} {c qual:Str} {st:Stmt} {C W fI:Addr} {fd:FuncData}
theorem Nw.tail (F:Nw K mg c qual st C W fI fd) (X:K.In h):OwnTail h veM (.ref W :: veM):=by
 obtain ⟨W',hm,hq⟩:=F.we
 obtain rfl:W'=W:=by rw [F.w] at hm;cases hm;rfl
 obtain ⟨bm,N,nm,q,bs,hdct,sn,sub,ab,col,dd,k0,k1,k2,k3,k5,mN,hC,hN,hni,T⟩:=ib X hq
 exact .own hC hN hni .base
variable {prog:Program} {w:World} {A:Around} {E:Value→Shared→Prop} {h:Heap} {g:Array GenState} {d:Drawn} {t:Nat} {os:OsState} {v:Value}
theorem Nw.km (F:Nw K mg c qual st C W fI fd) (X:K.In h)
  (hq:∀ h' e,Heap.MadeExcOf h h' e (.ref C) [v]→wpAny (model prog w) A (call (.ref fI) [.ref e,v]) (fun r s'=>r=.none∧Q (.done (.ret (.ref e))) s') E ⟨h',g,d,t,os⟩) :
  wpAny (model prog w) A (Builtin.«type.__call__» ⟨[.ref C,v],[]⟩) Q E ⟨h,g,d,t,os⟩:=by
 have B:=PySem.F.excBase_ValueError
 have T:=F.tail X
 obtain ⟨nm,q,N,bs,sn,sub,ab,col,dd,k0,k1,k2,k3,k5,hC⟩:=F.obj
 replace hC:=X _ _ hC
 repeat (first | with_reducible refine wpAny_loadPart_at hC ?_ | with_reducible refine wpAny_madeBy_exc hC ?_ | wp_step)
 refine codeAny_call_builtin_code (Code.quiet_builtin _ B.quiet) (wpAny_check_new_subT B T hC ?_)
 refine codeAny_exc_new_subT B T hC ?_ (by show 1≤sizeLine;decide)
 show wpAny _ _ _ _ _ _
 have kp:∀ b o,h.get? b=some o→((h.push { cls:=.type "tuple",data:=.seq [v].toArray }).push { cls:=.ref C,data:=.fields #[.ref h.objs.size,.none,.none,.none,.bool false,.none] }).get? b=some o:=fun b o e=>Heap.get?_push_of_some _ (Heap.get?_push_of_some _ e)
 have hC1:=kp _ _ hC
 have hget:((h.push { cls:=.type "tuple",data:=.seq [v].toArray }).push { cls:=.ref C,data:=.fields #[.ref h.objs.size,.none,.none,.none,.bool false,.none] }).get? (h.objs.size+1)=some
   { cls:=.ref C,data:=.fields #[.ref h.objs.size,.none,.none,.none,.bool false,.none] }:=by heap_get
 have hcC:(Value.ref C :: .ref W :: veM).contains (.ref C)=true:=by simp
 have X1:=X.keeps kp
 unfold isInstance
 repeat (first | with_reducible refine wpAny_loadPart_at hget ?_ | (with_reducible refine wpAny_isSubtype_exc hC1 ?_;rw [hcC]) | wp_step)
 show wpAny _ _ (typeLookup (.ref C) _) _ _ _
 refine (looks_findIn X1 F.fi).at ?_
 refine wpAny_holding (wpAny_bind ?_)
 unfold bindSpecial
 refine wpAny_bind ((looks_typeIn X1 F.ft).at ?_)
 rw [if_pos (by decide)]
 refine wpAny_pure (wpAny_bind (wpAny_mono (hq _ (h.objs.size+1) ⟨kp,Heap.get?_none_of_le (Nat.le_succ _),h.objs.size,hget,Heap.get?_none_of_le (Nat.le_refl _),?_⟩) (fun r s' hr=>?_) fun _ _ x=>x))
 ·exact Heap.get?_push_of_some _ (Heap.get?_push_at rfl rfl)
 ·obtain ⟨rfl,hQ⟩:=hr
  wp_walk
  exact hQ
theorem Nw.call (F:Nw K mg c qual st C W fI fd) (X:K.In h)
  (hq:∀ h' e,Heap.MadeExcOf h h' e (.ref C) [v]→wpAny (model prog w) (A.under (.builtin "type.__call__" ⟨[.ref C,v],[]⟩)) (PySem.call (.ref fI) [.ref e,v]) (fun r s'=>r=.none∧Q (.ref e) s') E ⟨h',g,d,t,os⟩) :
  wpAny (model prog w) A (PySem.call (.ref C) [v]) Q E ⟨h,g,d,t,os⟩:=by
 obtain ⟨nm,q,N,bs,sn,sub,ab,col,dd,k0,k1,k2,k3,k5,hC⟩:=F.obj
 replace hC:=X _ _ hC
 have f1:=tc_lookup
 have f2:=tc_bind (.ref C)
 have hT:(⟨h,g,d,t,os⟩:Shared).TypeIs (.ref C) "type":=⟨_,hC,rfl⟩
 refine wpAny_call (codeAny_of_tree ?_)
 show wpAny _ _ (callAny (.ref C) _) _ _ _
 repeat (any_goals (first | assumption | with_reducible refine wpAny_loadPart_at hC ?_ | wp_step))
 refine ⟨rfl,?_⟩
 refine codeAny_call_builtin_at (Code.quiet_builtin _ (by decide +kernel)) entry_typeCall (wpAny_check_type_call_sub hC (F.km X fun h' e hm=>?_))
 exact hq h' e hm
theorem Nw.set (F:Nw K mg c qual st C W fI fd) (X:K.In h) (hx:h.get? e=some ⟨.ref C,none,.fields vs,#[]⟩)
  (hq:∀ h' tk,h'.get? e=some ⟨.ref C,some h.objs.size,.fields vs,#[]⟩→h'.Ns1 h.objs.size (fun y=>if y="number" then some v else none)→(∀ b o,b≠e→h.get? b=some o→h'.get? b=some o)→Q () ⟨h',g,d,tk,os⟩) :
  wpAny (model prog w) A (setAttr (.ref e) "number" v) Q E ⟨h,g,d,t,os⟩:=by
 obtain ⟨nm,q,N,bs,sn,sub,ab,col,dd,k0,k1,k2,k3,k5,hC⟩:=F.obj
 replace hC:=X _ _ hC
 have SF:=PySem.F.store_ValueError
 have L0:=bU (M:=model prog w) hx rfl
 have L1:=looks_findIn (M:=model prog w) X F.sa
 have f3:=SF.slot.bind (.ref e)
 unfold setAttr callSpecial? specialOf
 repeat (any_goals (first | assumption | with_reducible refine L0.at ?_ | with_reducible refine L1.at ?_ | wp_step))
 have sub:Looks (model prog w) h (isInstance (.ref e) (.type "object")) true:=L0.andThen (looks_mroIn X F.cf.ob)
 refine codeAny_call_builtin SF.slot.plain SF.entry (@check_slot (model prog w) _ _ ⟨h,g,d,t+1,os⟩ "object.__setattr__" "object" "__setattr__" (.ref e) [.str "number" t,v] [] _ SF.kind SF.split sub (SF.args (.ref e) (.str "number" t) v) ?_)
 rw [show ([Value.ref e]++[Value.str (Str.ofString "number") t,v])=[Value.ref e,Value.str (Str.ofString "number") t,v] from rfl,osa_eq,refuse_eq]
 refine wpAny_bind (wpAny_bind (L0.at (wpAny_bind (wpAny_mroOf_exc hC ?_))))
 rw [refuseLoop_ref,refuseLoop_ref,SF.passes]
 refine wpAny_pure (wpAny_bind (L0.at (wpAny_bind ((looks_findIn X F.nu).at (wpAny_bind (wpAny_pure ?_))))))
 have hx1:(h.push { cls:=.type "dict",data:=.dict #[] }).get? e=some ⟨.ref C,none,.fields vs,#[]⟩:=Heap.get?_push_of_some _ hx
 have hxs:e≠h.objs.size:=Nat.ne_of_lt (Heap.lt_size hx)
 refine wpAny_bind (m:=ownStreamTells (.ref e) (.ref C)) (wpAny_pure (wpAny_bind (m:=ownDictForStores (.ref e)) ?_))
 unfold ownDictForStores instanceDict
 repeat (first | with_reducible refine wpAny_loadPart_at hx ?_ | with_reducible refine wpAny_loadPart_at hC ?_ | with_reducible refine wpAny_bind ?_ | lk)
 refine wpAny_update' hx1 ?_
 refine wpAny_pure ?_
 have hgd:((h.push { cls:=.type "dict",data:=.dict #[] }).update e fun o=>{ cls:=o.cls,dict:=some h.objs.size,data:=o.data,slots:=o.slots }).get? h.objs.size=some { cls:=.type "dict",data:=.dict #[] }:=
  (Heap.get?_update_ne _ _ _ _ hxs.symm).trans (Heap.get?_push_at rfl rfl)
 have hnd:((h.push { cls:=.type "dict",data:=.dict #[] }).update e fun o=>{ cls:=o.cls,dict:=some h.objs.size,data:=o.data,slots:=o.slots }).Ns h.objs.size (fun _=>none):=
  ⟨_,#[],_,hgd,rfl,fun e he=>absurd he (by simp),fun _=>rfl⟩
 show wpAny _ _ (storeInDict h.objs.size (.str "number" t) "number" v) _ _ _
 unfold storeInDict newKeyGuard
 refine wpAny_bind (wpAny_pure (wpAny_bind (wpAny_nsSet1 (Heap.Ns1.of_empty hnd) fun h' hn' hs=>?_)))
 obtain ⟨oD,esD,epD,hoD,hdD,hcD⟩:=hn'.count (Within.cons "number" v Within.nil)
 refine wpAny_bind (wpAny_lookBehind hoD (by rw [hdD];exact pastItsLine_dict (Nat.le_trans hcD (by rw [List.length_cons,List.length_nil,sizeLine_eq];omega))) ?_)
 refine wpAny_pure (wpAny_pure (wpAny_pure (hq h' _ ((hs.2 e hxs).trans (Heap.get?_update_self _ hx1 rfl)) hn' fun b o hb q=>?_)))
 exact (hs.2 b (Nat.ne_of_lt (Heap.lt_size q))).trans ((Heap.get?_update_ne _ _ _ _ hb).trans (Heap.get?_push_of_some _ q))
variable {a dx:Addr} {o:Obj} {mA:Str→Option Value}
theorem Nw.jM (F:Nw K mg c qual st C W fI fd) (X:K.In h) (hx:h.get? a=some o) (hc:o.cls=.ref C) (hnc:∀ c,o.data≠.cls c) (hd:o.dict=some dx) (hns:h.Ns1 dx mA) (hv:mA "number"=some v) (hq:Q (.done (.ret v)) ⟨h,g,d,t,os⟩) :
  wpAny (model prog w) A (Builtin.«object.__getattribute__» ⟨[.ref a,.str "number" tk],[]⟩) Q E ⟨h,g,d,t,os⟩:=by
 obtain ⟨nm,q,N,bs,sn,sub,ab,col,dd,k0,k1,k2,k3,k5,hC⟩:=F.obj
 replace hC:=X _ _ hC
 have L0:=bU (M:=model prog w) hx hc
 have L1:=looks_findIn (M:=model prog w) X F.nu
 repeat (any_goals (first | assumption | with_reducible refine L0.at ?_ | with_reducible refine L1.at ?_ | wp_step))
 split
 ·rename_i c hcd
  exact absurd hcd (hnc c)
 unfold instanceDict
 repeat (first | (with_reducible refine wpAny_loadPart_at hx ?_;rw [hc]) | with_reducible refine wpAny_loadPart_at hC ?_ | wp_step)
 rw [hd]
 repeat (first | (with_reducible refine wpAny_nsGet hns.ns ?_;rw [hv]) | wp_step)
 exact hq
theorem Nw.get (F:Nw K mg c qual st C W fI fd) (X:K.In h) (hx:h.get? a=some o) (hc:o.cls=.ref C) (hnc:∀ c,o.data≠.cls c) (hd:o.dict=some dx) (hns:h.Ns1 dx mA) (hv:mA "number"=some v) (hh:handedOut v=pure v) (hq:Q v ⟨h,g,d,t+1,os⟩) :
  wpAny (model prog w) A (getAttr (.ref a) "number" expr) Q E ⟨h,g,d,t,os⟩:=by
 have L0:=bU (M:=model prog w) hx hc
 have L1:=looks_findIn (M:=model prog w) X F.cf.ga
 have L2:=looks_findIn (M:=model prog w) X F.cf.gn
 have f3:=PySem.F.attr_ValueError.ga.bind (.ref a)
 have hx0:(expr && onTheHeap (Value.builtin "BaseException.__getattribute__"))=false:=by cases expr<;>rfl
 have hx2:(Value.builtin "BaseException.__getattribute__" == Value.builtin "object.__getattribute__")=false:=by decide +kernel
 have hx1:(onTheHeap (Value.ref C) && Value.builtin "BaseException.__getattribute__" == Value.builtin "object.__getattribute__")=false:=by rw [hx2];rfl
 unfold getAttr getAttrBy
 repeat (any_goals (first | assumption | with_reducible refine L0.at ?_ | with_reducible refine L1.at ?_ | with_reducible refine L2.at ?_ | wp_step))
 refine codeAny_call_builtin (by decide +kernel) PySem.F.entry_bexc_ga (g_ X F.cf hx hc (F.jM X hx hc hnc hd hns hv ?_))
 repeat (any_goals (first | assumption | wp_step))
theorem Nw.t5 (F:Nw K mg c qual st C W fI fd) (X:K.In h) (hx:h.get? e=some ⟨.ref C,od,.fields #[.ref t0,.none,.none,.none,.bool false,.none],#[]⟩)
  (hq:∀ h',exN e C od h'→(∀ b o,b≠e→h.get? b=some o→h'.get? b=some o)→Q .none ⟨h',g,d,t,os⟩):wpAny (model prog w) A (PySem.call (.builtin "ValueError.__init__") [.ref e,x]) Q E ⟨h,g,d,t,os⟩:=by
 have B:=PySem.F.excBase_ValueError
 have T:=F.tail X
 obtain ⟨nm,q,N,bs,sn,sub,ab,col,dd,k0,k1,k2,k3,k5,hC⟩:=F.obj
 replace hC:=X _ _ hC
 refine wpAny_call (codeAny_call_builtin B.init.plain B.initEntry (wpAny_check_init_subT B T hC hx rfl ?_))
 wp_walk
 refine hq _ ⟨h.objs.size,?_⟩ fun b o hb q=>?_
 ·rw [Heap.get?_update_self _ (Heap.get?_push_of_some _ hx) rfl]
  rfl
 ·rw [Heap.get?_update_other _ _ (Ne.symm hb)]
  exact Heap.get?_push_of_some _ q
end
end L2
namespace L2
open PySem PySem.Spec PyProof.Rows PySem.W
set_option maxRecDepth 100000
def tFs:TE:=fun σ H Q=>∃ n:Int,σ[1]?=some (some (.int n))∧n.natAbs < 2 ^ 60∧∀ x,Q (.str x) H
section
variable {X:Cx} {a b:Str} {j1 j2:Nat} {p1 p2 p3 p4 p5 p6 p7 p8 p9 p10 q1 q2 q3 q4:Pos} {c qual:Str} {st:Stmt} {C W fI:Addr} {fd:FuncData}
theorem tf (hv:PE X (.Name "number" p5) (fb 1)) (ha:a.length≤300:=by decide) (hb:b.length≤300:=by decide):PE X (.JoinedStr [.Constant (.str a) j1 p4,.FormattedValue (.Name "number" p5) (-1) none p6,.Constant (.str b) j2 p7] p8) tFs:=by
 rintro pins s σ H Q I ⟨n,h1,hn,q⟩
 have hl:n.natAbs.log2 < 60:=by
  by_cases z:n.natAbs=0
  ·rw [z];decide
  ·exact (Nat.log2_lt z).mpr hn
 have hz:(Str.ofString (toString n)).length≤61:=by
  rw [PySem.ofString_length]
  exact int_text_length_le (by decide) hl
 have hs:1000≤sizeLine:=by decide
 have l0:(Str.empty++a).length≤300:=by rw [strLen_append,show Str.empty.length=0 from rfl];omega
 have l1:(Str.empty++a++Str.ofString (toString n)).length≤361:=by rw [strLen_append];omega
 have l2:(Str.empty++a++Str.ofString (toString n)++b).length≤661:=by rw [strLen_append];omega
 refine wpAny_JoinedStr ?_
 refine Calls.Constant_str ⟨a,_,rfl,by omega,?_⟩
 refine FormattedValue_plain (thn (hv pins _ σ H (fun v H'=>v=.int n∧H'=H) (I.tok _) ⟨_,h1,rfl,rfl⟩) ?_)
 rintro u s1 ⟨v,H1,I1,r,rfl,rfl⟩
 obtain ⟨t,rfl⟩:=r
 refine wpAny_formatField_int (by omega) ⟨_,_,rfl,by omega,?_⟩
 exact Calls.Constant_str ⟨b,_,rfl,by omega,by omega,.str _,H1,(I1.tok _),⟨_,rfl⟩,q _⟩
def NwS (C:Addr) (σ:St) (H:Hp) (e:Addr) (n:Int):Prop:=σ[0]?=some (some (.ref e))∧σ[1]?=some (some (.int n))∧n.natAbs < 2 ^ 60∧H e=some (.ext (exN e C none))
theorem gu (x:exN e C od h):aK P w H h e (.ext (exN e C od)):=by
 obtain ⟨t,ht⟩:=id x
 exact ⟨x,⟨_,ht⟩,fun h1 h2 ⟨t,e1⟩ k=>⟨t,k _ e1⟩⟩
theorem lp (F:Nw X.K X.mg c qual st C W fI fd) (hs:PE X (.Name "self" p3) (fb 0)) (hf:PE X f tFs) (hg:Gl X "WishError")
  (ht:eval (.Call (.Attribute (.Name "WishError" p1) "__init__" p2) [.Name "self" p3,f] [] p9) X.env=(do
   let ov ← eval (.Name "WishError" p1) X.env
   standAt p2.atName
   let (f',first) ← holding [ov] (getMethod ov "__init__" pl)
   callWith p9 f' first (backTo p9 (starEach [.Name "self" p3,f] X.env)) (backToKw p9 (keywordEach [] X.env))))
  (h1:starEach [.Name "self" p3,f] X.env=(false,eval (.Name "self" p3) X.env) :: starEach [f] X.env) (h2:starEach [f] X.env=(false,eval f X.env) :: starEach [] X.env) (h3:(backTo p9 (starEach [f] X.env)).any (·.1)=false) :
  PE X (.Call (.Attribute (.Name "WishError" p1) "__init__" p2) [.Name "self" p3,f] [] p9) (fun σ H Q=>∃ e n,NwS C σ H e n∧Q .non H):=by
 rintro pins s σ H Q I ⟨e,n,⟨e0,e1,hn,hH⟩,q⟩
 refine PySem.W.methodCall_KW (pl:=pl) (c8 I hg F.w ?_ (by decide)) ht
 refine method_cls I.kIn F.wga (cls_value I.kIn F.wrd F.wfc (by decide +kernel) ?_)
 refine PyProof.Rows.callWith_builtin1 (thn ((bt hs (bt hf cO h2) h1) p9 pins _ σ H (fun vs H1=>(∃ x,vs=[.ref e,.str x])∧H1=H) (I.tok _) ⟨_,e0,n,e1,hn,fun x=>⟨⟨x,rfl⟩,rfl⟩⟩) ?_) h1 h3
 rintro us s1 ⟨vs,H1,I1,r,⟨x,rfl⟩,rfl⟩
 obtain ⟨u1,u2,rfl,ru,rx⟩:=r.two
 cases ru
 obtain ⟨t0,hx⟩:=(I1.hok e _ hH).1
 refine F.t5 I1.kIn hx fun h' y k=>?_
 have I2:Inv X pins σ (upd H1 e (.ext (exN e C none))) { s1 with heap:=h',toks:=s1.toks }:=I1.write (by rw [hH];exact True.intro) (.inl rfl) (fun b u hb z=>k b u hb z) (by obtain ⟨t,z⟩:=y;exact ⟨_,z⟩) (gu y)
 rw [show upd H1 e (.ext (exN e C none))=H1 from by funext b;unfold upd;split<;>simp_all] at I2
 exact ⟨.non,H1,I2,rfl,q⟩
theorem mO (F:Nw X.K X.mg c qual st C W fI fd) (hs:PE X (.Name "self" q1) (fb 0)) (hv:PE X (.Name "number" q3) (fb 1)) (hsw:swapsWith (.Name "number" q3) (some (.Attribute (.Name "self" q1) "number" q2)) q4.line X.env=pure false):PS X (.Assign [.Attribute (.Name "self" q1) "number" q2] (.Name "number" q3) q4) (fun D σ H=>∃ e n,NwS C σ H e n∧∀ dx,H dx=none→dx≠e→D.nx σ (upd (upd H e (.ext (exN e C (some dx)))) dx (.xd [("number",.int n)]))):=by
 rintro pins s σ H D I ⟨e,n,⟨e0,e1,hn,hH⟩,q⟩
 refine plainObj_wpAny_Assign_Attribute (thn (hv pins s σ H (fun v H'=>v=.int n∧H'=H) I ⟨_,e1,rfl,rfl⟩) ?_) hsw
 rintro u s1 ⟨v,H1,I1,ru,rfl,rfl⟩
 refine thn (hs pins s1 σ H1 (fun v H'=>v=.ref e∧H'=H1) I1 ⟨_,e0,rfl,rfl⟩) ?_
 rintro ov s2 ⟨v,H2,I2,rv,rfl,rfl⟩
 cases rv
 obtain ⟨t0,hx⟩:=(I2.hok e _ hH).1
 refine F.set I2.kIn hx fun h' tk y1 y2 k=>?_
 have I3:Inv X pins σ (upd H2 e (.ext (exN e C (some s2.heap.objs.size)))) { s2 with heap:=h',toks:=tk }:=I2.write (by rw [hH];exact True.intro) (.inl rfl) k ⟨_,y1⟩ (gu ⟨t0,y1⟩)
 have nd:H2 s2.heap.objs.size=none:=I2.hok.fresh (Nat.le_refl _)
 have ne:s2.heap.objs.size≠e:=Nat.ne_of_gt (Heap.lt_size hx)
 refine ⟨σ,_,I3.l6 (o:=.xd [("number",.int n)]) (by rw [ak ne];exact nd) (Heap.get?_none_of_le I2.sz) (Nat.ne_of_gt I2.lt) (fun x c hc=>?_) (fun p hp=>Nat.ne_of_lt (Heap.lt_size (I2.pin p hp).1)) ⟨_,y2,fun f=>?_⟩,q _ nd ne⟩
 ·obtain ⟨v,o,ho,_⟩:=I2.cell x c hc
  exact Nat.ne_of_gt (Heap.lt_size ho)
 ·by_cases z:f="number"
  ·subst z
   rw [if_pos rfl]
   exact ru
  ·rw [if_neg z,List.lookup_cons,beq_eq_false_iff_ne.mpr z]
   exact True.intro
end
def spN (C:Addr):Sp:=fun vs H Q _=>∃ (e:Addr) (n:Int),vs=[.ref e,.int n]∧n.natAbs < 2 ^ 60∧H e=some (.ext (exN e C none))∧∀ dx,H dx=none→dx≠e→Q .non (upd (upd H e (.ext (exN e C (some dx)))) dx (.xd [("number",.int n)]))
def OkN (P:Program) (w:World) (K:PySem.W.Frag) (mg:Str→Option Value) (lev:Nat) (c:Str):Prop:=∃ (qual:Str) (st:Stmt) (C W fI:Addr) (fd:FuncData),Nw K mg c qual st C W fI fd∧(∀ us:List Value,us.length=2→bindArgs fd ⟨us,[]⟩=pure ((["self","number"]:List Str).zip us))∧∀ base CX,bQ P w K mg base CX lev fI fd ["self","number"] (spN C)
theorem vc {K:PySem.W.Frag} {mg:Str→Option Value} {P:Program} {w:World} {lev:Nat} {c qual:Str} {st:Stmt} (F:∃ (C W fI:Addr) (fd:FuncData),Nw K mg c qual st C W fI fd)
    (hb:∀ (CX:CXT) (base:Heap) (f C W:Addr) (fd:FuncData) (cdv:Value) (A:Around) (outer:List Env) (s:Shared) (H:Hp) (E:XK),Nw K mg c qual st C W f fd →
      PSs (dw CX P w K mg base ["self","number"] qual (aC st) f cdv A outer s H E) (bc st) (fun D σ H=>∃ e n,NwS C σ H e n∧∀ dx,H dx=none→dx≠e→D.nx σ (upd (upd H e (.ext (exN e C (some dx)))) dx (.xd [("number",.int n)]))))
    (Sc:cH ["self","number"] ["self","number"] (aC st):=by exact ⟨rfl,rfl,rfl,by decide +kernel,rfl,by decide +kernel,by decide +kernel⟩)
    (hbd:∀ (kV doc pm:Value) (an:Option Addr) (cdv ct:Value) (us:List Value),us.length=2→bindArgs (PySem.W.fnOf "__init__" qual (ck st) (bc st) (aC st) .none kV doc pm an cdv ct) ⟨us,[]⟩=pure ((["self","number"]:List Str).zip us):=by
      intro _ _ _ _ _ _ us hl
      rcases us with _ | ⟨a,_ | ⟨b,_ | ⟨c,us⟩⟩⟩<;>first | (simp at hl;done) | rfl):OkN P w K mg (lev+1) c:=by
  obtain ⟨C,W,fI,fd,F⟩:=F
  obtain ⟨oc,od,kV,doc,pm,an,cdv,ct,osl,rfl,lk,hcd⟩:=F.fn.ex
  refine ⟨qual,st,C,W,fI,_,F,hbd kV doc pm an cdv ct,fun base CX=>mv lk hcd Sc (fun vs H Q E h=>?_) fun A outer s H vs Q E hr h=>⟨_,hb CX base fI C W _ cdv A outer s H E F,?_⟩⟩
  · obtain ⟨e,n,rfl,_⟩:=h
    rfl
  · obtain ⟨e,n,rfl,hn,hH,q⟩:=h
    exact ⟨e,n,⟨rfl,rfl,hn,hH⟩,q⟩
section
variable {X:Cx} {pins:List (Addr×Obj)} {σ:St} {H:Hp} {s:Shared} {a:Addr}
theorem Inv.js (I:Inv X pins σ H s) (kp:∀ b o,s.heap.get? b=some o→h'.get? b=some o) (n:s.heap.get? a=none) (new:aK X.prog X.w (upd H a o) h' a o) (hex:X.ex=[]):Inv X pins σ (upd H a o) { s with heap:=h',toks:=t' }:=by
 refine (I.kept (t':=t') kp).l6 (I.gj n) (I.u6 n hex) ?_ (fun x c q z=>?_) (fun p hp z=>?_) new
 ·rintro rfl
  obtain ⟨_,⟨o,_,_,ho,_⟩,_⟩:=I.loc
  rw [n] at ho;cases ho
 ·obtain ⟨v,oc,ho,_⟩:=I.cell x c q
  rw [← z,n] at ho;cases ho
 ·have:=(I.pin p hp).1
  rw [z,n] at this;cases this
theorem uw {c:Str} {k:Nat} {n:Int} {t:Tok} {qual:Str} {st:Stmt} {C W fI:Addr} {fd:FuncData} (F:Nw X.K X.mg c qual st C W fI fd) (hb:∀ us:List Value,us.length=2→bindArgs fd ⟨us,[]⟩=pure ((["self","number"]:List Str).zip us)) (Fn:bQ X.prog X.w X.K X.mg X.base CX0 k fI fd ["self","number"] (spN C)) (hr:aW (k+1) X.A) (I:Inv X pins σ H s) (hn:n.natAbs < 2 ^ 60) (hex:X.ex=[]) {Q:Value→Shared→Prop}
  (hq:∀ e dx s',s.heap.get? e=none→H dx=none→dx≠e→Inv X pins σ (upd (upd H e (.ext (exN e C (some dx)))) dx (.xd [("number",.int n)])) s'→Q (.ref e) s') :
  wpAny (model X.prog X.w) X.A (PySem.call (.ref C) [.int n t]) Q X.xe s:=by
 obtain ⟨hp,g,d,tk,os⟩:=s
 refine F.call I.kIn fun h' e hm=>?_
 obtain ⟨t0,ht,_⟩:=hm.there
 have I2:Inv X pins σ (upd H e (.ext (exN e C none))) ⟨h',g,d,tk,os⟩:=I.js hm.keeps hm.new (gu ⟨t0,ht⟩) hex
 have fe:=I.gj hm.new
 refine wpAny_call (codeAny_mono (Fn.run _ X.stack _ _ ⟨[.ref e,.int n t],[]⟩ [.ref e,.int n t] [.ref e,.int n] (fun v H'=>v=.non∧∃ dx,H dx=none∧dx≠e∧H'=upd (upd H e (.ext (exN e C (some dx)))) dx (.xd [("number",.int n)])) E0 (hr.make C [.int n t] []) (I2.pZ.make C [.int n t] []) (.of_eq (hb _ rfl)) (.cons rfl (.cons ⟨t,rfl⟩ .nil))
  ⟨e,n,rfl,hn,aB,fun dx h1 h2=>⟨rfl,dx,by rw [ak h2] at h1;exact h1,h2,by rw [nG]⟩⟩) fun r s' hq'=>?_)
 cases r with
 | error e=>exact False.elim hq'
 | ok fl=>
  cases fl with
  | ret u=>
   obtain ⟨v,H',I3,rv,rfl,dx,d1,d2,rfl⟩:=I2.after hq'
   exact ⟨rv,hq e dx s' hm.new d1 d2 I3⟩
  | next=>exact False.elim hq'
  | brk=>exact False.elim hq'
  | cont=>exact False.elim hq'
end
instance {e:Expr} {x:Str} {p:Pos}:NS (.Attribute e x p):=⟨fun _ _=>rfl⟩
section
variable {X:Cx} {WE:WX} {e:Expr} {xe:XE} {c:Str} {np cpos pos:Pos} {k j:Nat}
def kD (c:Str) (a:XE):XE:=fun τ S=>(a τ S).bind fun z S1=>match z with
 | .xc c' [(f,.int n)]=>if c'=c∧f="number" then .ok (.d (.int n)) S1 else .bad
 | _=>.bad
theorem rj (O:OkN X.prog X.w X.K X.mg k c) (he:RE X WE e xe) (hb:attributeBase e "number" X.env (eval e X.env)=eval e X.env:=by rfl):RE X WE (.Attribute e "number" p) (kD c xe):=⟨by
 intro pins s σ H Q I ⟨μ,S,τ,hr,sr,q⟩
 obtain ⟨qual,st,C,W,fI,fd,F,_⟩:=O
 refine nc hb (thn (he.h pins s σ H (fun v H1=>∃ (μ1:Nat→Addr) (S1:Sto) (n:Int),HR μ1 S1 H1∧av X.K X.mg μ1 S1 H1 v (.xc c [("number",.int n)])∧Q (.int n) H1) I ⟨μ,S,τ,hr,sr,q.bind fun v z S1 μ1 H1 st1 r1 p1=>?_⟩) ?_)
 ·split at p1
  ·split at p1
   ·rename_i hc
    obtain ⟨rfl,rfl⟩:=hc
    exact ⟨μ1,S1,_,st1.hr,r1,p1.here st1.hr (Rep.int _)⟩
   ·exact p1.elim
  ·exact p1.elim
 ·rintro u s1 ⟨v,H1,I1,ru,μ1,S1,n,hr1,⟨a,C',rfl,hm,od,hG,hx⟩,q1⟩
  cases ru
  obtain rfl:C'=C:=by rw [F.cf.bound] at hm;cases hm;rfl
  obtain ⟨dx,vs,rfl,hl,hd,rs⟩:=hx (by simp)
  obtain ⟨o,ho,hcl,hdd,ws,hdf⟩:=(I1.hok a _ (aw hG).2).1
  obtain ⟨mA,hns,hA⟩:=I1.hok dx _ (aw hd).2
  cases rs with
  | cons r1 r2=>
   cases r2
   cases (show Rep _ _ (.int _) from r1)
   have hn:iU (some (V.int n)) (mA "number"):=hA "number"
   generalize e:mA "number"=y at hn
   cases y with
   | none=>exact hn.elim
   | some u=>
    obtain ⟨t,rfl⟩:=(show RelV (.int n) u from hn)
    obtain ⟨hp,g,d,tk,os⟩:=s1
    exact F.get I1.kIn ho hcl (by rw [hdf];intro c z;cases z) (hdd _ rfl) hns e rfl ⟨.int n,H1,I1.tok _,⟨t,rfl⟩,q1⟩⟩
end
theorem t9 (h1:PE X ce (fun σ H Q=>∃ e n,NwS C σ H e n∧Q .non H)) (h2:PS X as (fun D σ H=>∃ e n,NwS C σ H e n∧∀ dx,H dx=none→dx≠e→D.nx σ (upd (upd H e (.ext (exN e C (some dx)))) dx (.xd [("number",.int n)])))) (hs:swapsWith ce none pos.line X.env=pure false:=by rfl) :
  PSs X [.Expr ce pos,as] (fun D σ H=>∃ e n,NwS C σ H e n∧∀ dx,H dx=none→dx≠e→D.nx σ (upd (upd H e (.ext (exN e C (some dx)))) dx (.xd [("number",.int n)]))):=by
 rintro pins s σ H D I ⟨e,n,a,q⟩
 exact eA (h9 h1 hs) (eA h2 iw) pins s σ H D I ⟨e,n,a,e,n,a,q⟩
theorem tF {K:PySem.W.Frag} {h:Heap} {mg:Str→Option Value} {c qual:Str} {st:Stmt} {C W fI N:Addr} {nm q:Str} {bs sub:List Value} {sn:List Str} {ab:Bool} {col:Option Bool} {dd od an:Option Addr} {k0 k1 k2 k3 k5:Option Value} {oc kV doc pm cdv ct:Value} {osl:Array (Option Value)} (X:K.In h) (G:h.Ns mainGlobals mg)
  (a:nsIn K mainGlobals c=some (some (.ref C))) (b1:isClsIn K C=true) (b2:typeIn K (.ref C)=some (.type "type")) (b3:subIn K (.ref C) (.type "BaseException")=some true) (b4:subIn K (.ref C) (.type "ValueError")=some true) (b5:findIn K (.ref C) "__getattribute__"=some (some (.builtin "BaseException.__getattribute__"))) (b6:findIn K (.ref C) "__getattr__"=some none) (b7:findIn K (.ref C) "__class__"=some (some (.builtin "object.__class__"))) (b8:mroIn K C (.type "object")=some true)
  (w:nsIn K mainGlobals "WishError"=some (some (.ref W))) (xq:excIn K W [.type "ValueError",.type "Exception",.type "BaseException",.type "object"] "ValueError.__new__"=true) (l:K.lookup C=some (excClassObj nm q C N bs (.ref W :: [.type "ValueError",.type "Exception",.type "BaseException",.type "object"]) true sn sub ab col dd k0 k1 k2 k3 k5 "ValueError.__new__"))
  (d1:findIn K (.ref C) "__init__"=some (some (.ref fI))) (d2:typeIn K (.ref fI)=some (.type "function")) (d3:findIn K (.ref C) "__setattr__"=some (some (.builtin "object.__setattr__"))) (d4:findIn K (.ref C) "number"=some none) (d5:specialIn K (.ref W) "__getattribute__"=some (some (.builtin "type.__getattribute__"))) (d6:readsIn K W (.type "type")=true) (d7:findCls K (.ref W) (.type "type") "__init__"=some (.val (.builtin "ValueError.__init__")))
  (e1:K.lookup fI=some ⟨oc,od,.func (PySem.W.fnOf "__init__" qual (ck st) (bc st) (aC st) .none kV doc pm an cdv ct),osl⟩) (e2:codeIn K cdv qual=true) (e3:keepIn K (.ref fI)=true) (e4:keepIn K (.ref C)=true):∃ (C W fI:Addr) (fd:FuncData),Nw K mg c qual st C W fI fd:=
 ⟨C,W,fI,_,⟨mg_of X G a,b1,b2,b3,b4,b5,b6,b7,b8⟩,l7 X G w xq,mg_of X G w,⟨nm,q,N,bs,sn,sub,ab,col,dd,k0,k1,k2,k3,k5,l⟩,d1,d2,d3,d4,d5,d6,d7,jr e1 e2 e3,e4⟩
end L2
namespace L2
open PySem PySem.Spec PyProof.Rows PySem.W
set_option maxRecDepth 100000
theorem hU (x:excAt e C od h):aK P w H h e (.ext (excAt e C od)):=by
 obtain ⟨o,ho,r⟩:=id x
 exact ⟨x,⟨_,ho⟩,fun h1 h2 ⟨o,e1,r⟩ k=>⟨o,k _ e1,r⟩⟩
def xMk (c:Str) (a:XE):XE:=fun τ S=>(a τ S).bind fun _ S1=>.ok (.xc c []) S1
def iM (c:Str) (a:XE):XE:=fun τ S=>(a τ S).bind fun z S1=>match z with
 | .d (.int n)=>if n.natAbs < 2 ^ 60 then .ok (.xc c [("number",.int n)]) S1 else .bad
 | _=>.bad
section
variable {X:Cx} {WE:WX} {e:Expr} {xe:XE} {c:Str} {np cpos pos:Pos} {k j:Nat}
theorem cF (O:Ec X.K X.mg c) (he:RA X WE [e] (af xe aF)) (hex:X.ex=[]:=by exact rfl) (hg:Gl X c:=by exact rfl) (hd:(c == ("__debug__":Str))=false:=by decide)
  (hs:starEach [e] X.env=[(false,eval e X.env)]:=by rfl):RE X WE (.Call (.Name c np) [e] [] cpos) (xMk c xe):=⟨by
 intro pins s σ H Q I ⟨μ,S,τ,hr,sr,p⟩
 obtain ⟨C,hm,hq⟩:=O
 refine wpAny_Call_Name_kw (c8 I hg hm ?_ hd)
 have ha:=he.h cpos pins s σ H (fun vs H1=>∃ (v:V),vs=[v]∧∃ μ1 S1,HR μ1 S1 H1∧∀ u μ' H',Step μ1 S1 H1 μ' S1 H'→av X.K X.mg μ' S1 H' u (.xc c [])→Q u H') I ⟨μ,S,τ,hr,sr,?_⟩
 ·rw [hs] at ha ⊢
  unfold callWith
  refine wpAny_bind (wpAny_holding (Calls.evalArgs_plain (wpAny_mono ha (fun us s2 z=>wpAny_bind (wpAny_standAt ?_)) fun _ _ y=>y)))
  obtain ⟨vs,H1,I1,r1,v,rfl,μ1,S1,hr1,hw⟩:=z
  obtain ⟨bm,N,nm,q,bs,hdct,sn,sub,ab,col,dd,k0,k1,k2,k3,k5,mN,hC,hN,hni,T⟩:=ib I1.kIn hq
  have l1:=r1.length
  obtain ⟨hp,g,d,tk,os⟩:=s2
  refine wpAny_bind (wpAny_keeperOf_exc hC ?_)
  refine wpAny_bind (wpAny_call_exc_subT (hrest:=by show us.length≤sizeLine;rw [← l1];exact (by decide:1≤sizeLine)) PySem.F.excBase_ValueError T hC hN hni fun h' e hx=>wpAny_bind (wpAny_holding (wpAny_point (wpAny_pure ?_))))
  obtain ⟨t,ht,_⟩:=hx.there
  have nd:=I1.gj hx.new
  exact ⟨.ref e,_,I1.js hx.keeps hx.new (hU (od:=none) ⟨_,ht,rfl,fun _ z=>(by cases z),_,rfl⟩) hex,rfl,hw _ μ1 _ (Step.new hr1 nd _) ⟨e,C,rfl,hm,none,aI aB (hr1.nal nd),fun n=>absurd rfl n⟩⟩
 ·unfold xMk at p
  unfold af aF
  generalize xe τ S=res at p ⊢
  cases res with
  | ok x S1=>
   intro b μ' H' st rv
   cases rv with
   | cons r1 r2=>
    cases r2
    exact ⟨_,rfl,μ',S1,st.hr,fun u μ2 H2 st2 r=>p u μ2 H2 (st.trans st2) r⟩
  | ex c' ys S1=>exact p
  | bad=>exact p⟩
theorem qJ (O:OkN X.prog X.w X.K X.mg k c) (hrm:aW j X.A) (he:RA X WE [e] (af xe aF)) (hj:k+1≤j:=by decide) (hex:X.ex=[]:=by exact rfl) (hg:Gl X c:=by exact rfl) (hd:(c == ("__debug__":Str))=false:=by decide)
  (hs:starEach [e] X.env=[(false,eval e X.env)]:=by rfl):RE X WE (.Call (.Name c np) [e] [] cpos) (iM c xe):=⟨by
 intro pins s σ H Q I ⟨μ,S,τ,hr,sr,p⟩
 obtain ⟨qual,st,C,W,fI,fd,F,hb,Fn⟩:=O
 have hm:=F.cf.bound
 refine wpAny_Call_Name_kw (c8 I hg hm ?_ hd)
 have ha:=he.h cpos pins s σ H (fun vs H1=>∃ (n:Int),vs=[.int n]∧n.natAbs < 2 ^ 60∧∃ μ1 S1,HR μ1 S1 H1∧∀ u μ' H',Step μ1 S1 H1 μ' S1 H'→av X.K X.mg μ' S1 H' u (.xc c [("number",.int n)])→Q u H') I ⟨μ,S,τ,hr,sr,?_⟩
 ·refine PySem.W.callWith_K (h₀:=X.base) I.ok.mod.kin F.kp (thn ha fun us s1 ⟨vs,H1,I1,r1,n,e0,hn,μ1,S1,hr1,hw⟩=>⟨I1.kIn,?_⟩) hs (by rfl)
  subst e0
  obtain ⟨u,rfl,ru⟩:=vals1 r1
  obtain ⟨t,rfl⟩:=ru
  refine uw F hb (Fn X.base CX0) (hrm.mono hj) I1 hn hex fun e dx s' ne nd dne I2=>?_
  have fe:=I1.gj ne
  have h2:upd (upd H1 e (.ext (exN e C (some dx)))) dx (.xd [("number",.int n)]) e=some (.ext (exN e C (some dx))):=by rw [ak (Ne.symm dne),aB]
  obtain ⟨t0,ht⟩:=(I2.hok e _ h2).1
  have I3:=I2.write (o:=.ext (excAt e C (some dx))) (t':=s'.toks) (h':=s'.heap) (by rw [h2];exact True.intro) (.inl rfl) (fun b u hb z=>z) ⟨_,ht⟩ (hU ⟨_,ht,rfl,fun _ z=>z,_,rfl⟩)
  rw [show upd (upd (upd H1 e (.ext (exN e C (some dx)))) dx (.xd [("number",.int n)])) e (.ext (excAt e C (some dx)))=upd (upd H1 dx (.xd [("number",.int n)])) e (.ext (excAt e C (some dx))) from by
   funext b
   unfold upd
   by_cases z:b=e<;>simp only [z,if_true,if_false]] at I3
  have st1:=Step.new hr1 nd (.xd [("number",.int n)])
  have fe1:upd H1 dx (.xd [("number",.int n)]) e=none:=by rw [ak (Ne.symm dne)];exact fe
  have st2:=Step.new st1.hr fe1 (.ext (excAt e C (some dx)))
  exact ⟨.ref e,_,I3,rfl,hw _ μ1 _ (st1.trans st2) ⟨e,C,rfl,hm,some dx,aI aB (st1.hr.nal fe1),fun _=>⟨dx,[.int n],rfl,rfl,st2.vis _ _ (aI aB (hr1.nal nd)),.cons (Rep.int _) .nil⟩⟩⟩
 ·unfold iM at p
  unfold af aF
  generalize xe τ S=res at p ⊢
  cases res with
  | ok x S1=>
   intro b μ' H' st rv
   cases rv with
   | cons r1 r2=>
    cases r2
    unfold R.bind at p
    dsimp only at p
    split at p
    ·split at p
     ·cases (show Rep _ _ (.int _) from r1)
      exact ⟨_,rfl,‹_›,μ',S1,st.hr,fun u μ2 H2 st2 r=>p u μ2 H2 (st.trans st2) r⟩
     ·exact p.elim
    ·exact p.elim
  | ex c' ys S1=>exact p
  | bad=>exact p⟩
variable {K:PySem.W.Frag} {mg:Str→Option Value}
def xcs:List Vl→Option (List (Str×List (Str×D)))
 | []=>some []
 | .xc c xs :: vs=>(xcs vs).map ((c,xs) :: ·)
 | _=>none
theorem iz:∀ {xs:List Vl} {vs:List V} {es},xcs xs=some es→aH K mg μ S H vs xs→bg mg (vh μ S H) vs es
 | [],_,_,e,r=>by cases r;cases e;exact .nil
 | x :: xs,_,_,e,r=>by
  cases r with
  | cons r1 r2=>
   unfold xcs at e
   split at e
   ·cases ‹_ :: _=[]›
   ·rename_i q;cases q
    obtain ⟨es,e1,rfl⟩:=Option.map_eq_some_iff.mp e
    obtain ⟨a,C,rfl,hm,hx⟩:=r1
    exact .cons hm hx (iz e1 r2)
   ·cases e
theorem bg.length:∀ {vs es},bg mg G vs es→vs.length=es.length
 | _,_,.nil=>rfl
 | _,_,.cons _ _ r=>by rw [List.length_cons,List.length_cons,r.length]
theorem bg.append:∀ {vs es},bg mg G vs es→bg mg G ws fs→bg mg G (vs++ws) (es++fs)
 | _,_,.nil,r=>r
 | _,_,.cons a b c,r=>.cons a b (c.append r)
theorem bg.get:∀ {vs es} {i:Nat} {c xs},bg mg G vs es→es[i]?=some (c,xs)→∃ a C,vs[i]?=some (.ref a)∧mg c=some (.ref C)∧fu G a C xs
 | _,_,0,_,_,.cons (a:=a) (C:=C) h1 h2 _,e=>by cases e;exact ⟨a,C,rfl,h1,h2⟩
 | _,_,i+1,_,_,.cons _ _ r,e=>r.get (i:=i) e
theorem newX (hr:HR μ S H) (rs:bg mg (vh μ S H) vs es) (p:au (av K mg) WE μ S H (.ok (.xl es) S) Q) (q:Addr) (hq:H q=none):Q (.ref q) (upd H q (.lst vs)):=by
 have st:=Step.new hr hq (.lst vs)
 exact p _ μ _ st ⟨q,vs,rfl,aI aB (hr.nal hq),rs.mono st.vis⟩
def mkX (xs:List Vl) (S:Sto):R Vl:=match xcs xs with
 | some es=>if es.length≤1000 then .ok (.xl es) S else .bad
 | none=>.bad
theorem ip {es:List Expr} {ts:XA} (h:RA X WE es ts):RE X WE (.List es pos) (xN mkX ts):=
 ⟨(gv h.h).weak fun σ H Q ⟨μ,S,τ,hr,sr,p⟩=>⟨μ,S,τ,hr,sr,p.bind fun vs xs S1 μ1 H1 st1 r1 p1=>by
  unfold mkX at p1
  split at p1
  ·rename_i ds e
   split at p1
   ·have rs:=iz e r1
    exact ⟨dD (by rw [rs.length];omega),fun q hq=>newX st1.hr rs p1 q hq⟩
   ·exact p1.elim
  ·exact p1.elim⟩⟩
def fZ (x y:Vl) (S:Sto):R Vl:=match x,y with
 | .xl a,.xl b=>if a.length+b.length≤1000 then .ok (.xl (a++b)) S else .bad
 | _,_=>.bad
theorem kO:bF K mg iV fZ:=by
 intro WE μ S H v w x y Q hr rx ry p
 unfold fZ at p
 split at p
 ·split at p
  ·obtain ⟨l1,us,rfl,h1,r1⟩:=rx
   obtain ⟨l2,ws,rfl,h2,r2⟩:=ry
   have e1:=r1.length
   have e2:=r2.length
   exact .inl (.inr ⟨l1,l2,rfl,rfl,.inr ⟨us,ws,(aw h1).2,(aw h2).2,dD (by omega),fun q hq=>newX hr (r1.append r2) p q hq⟩⟩)
  ·exact p.elim
 ·exact p.elim
def gX (x y:Vl) (S:Sto):R Vl:=match x,y with
 | .xl a,.d (.int i)=>(match atI a i with
  | some (c,xs)=>.ok (.xc c xs) S
  | none=>.bad)
 | _,_=>.bad
theorem nH:bF K mg lD gX:=by
 intro WE μ S H v w x y Q hr rx ry p
 unfold gX at p
 split at p
 ·split at p
  ·rename_i e
   obtain ⟨l,us,rfl,h,r⟩:=rx
   rw [aJ ry]
   unfold atI at e
   rw [← r.length] at e
   obtain ⟨j,ej,e⟩:=Option.bind_eq_some_iff.mp e
   obtain ⟨a,C,e1,hm,hx⟩:=r.get e
   exact ⟨l,_,us,.ref a,rfl,rfl,da (.inl (aw h).2),by unfold atI;rw [ej];exact e1,p.here hr ⟨a,C,rfl,hm,hx⟩⟩
  ·exact p.elim
 ·exact p.elim
theorem qM (ha:RE X WE a xa) (hb:RE X WE b xb) (hs:fh b:=by exact fun _ _=>rfl):RE X WE (.Subscript a b pos) (xOp gX xa xb):=⟨(l5 qS ha.h hb.h hs).weak fun _ _ _ h=>two (X:=X) nH h⟩
theorem rQ (g:vh μ S H a=some (.lst vs)) (rs:bg mg (vh μ S H) vs es) (hz:vs.length≤sizeLine):c5 K mg μ S H (Itl K a) ⟨es.map fun x=>Vl.xc x.1 x.2,none⟩ where
 ok:=True.intro
 len:=by simp only [List.length_map];rw [← rs.length];exact hz
 go:=fun i z μ' S' H' st _ e=>by
  rw [List.getElem?_map] at e
  obtain ⟨⟨c,xs⟩,e1,rfl⟩:=Option.map_eq_some_iff.mp e
  obtain ⟨a,C,e2,_⟩:=rs.get e1
  exact ⟨vs,_,SqL.of (aw (st.vis _ _ g)).2,e2⟩
 yld:=fun i z μ' S' H' u H2 st _ e y=>by
  obtain ⟨rfl,y⟩:=y
  rw [List.getElem?_map] at e
  obtain ⟨⟨c,xs⟩,e1,rfl⟩:=Option.map_eq_some_iff.mp e
  have e2:=y vs (SqL.of (aw (st.vis _ _ g)).2)
  obtain ⟨a,C,e3,hm,hx⟩:=rs.get e1
  rw [e2] at e3;cases e3
  exact ⟨Step.refl st.hr,a,C,rfl,hm,hx.mono st.vis⟩
 stop:=fun i μ' S' H' st _ hi=>⟨vs,SqL.of (aw (st.vis _ _ g)).2,by rw [rs.length];simpa using Nat.le_of_eq hi⟩
def iXl (e:XE):XI:=fun τ S=>(e τ S).bind fun z S1=>match z with
 | .xl es=>.ok ⟨es.map fun x=>Vl.xc x.1 x.2,none⟩ S1
 | _=>.bad
theorem uz {tg l:Expr} {xl:XE} (hl:RE X WE l xl):RI X WE tg l (iXl xl):=⟨by
 intro pins s σ H Rr I h
 obtain ⟨μ,S,τ,hr,sr,p⟩:=h
 refine thn (hl.h pins s σ H _ I ⟨μ,S,τ,hr,sr,p.bind (Q:=fun v H1=>∃ μ1 S1 z,HR μ1 S1 H1∧av X.K X.mg μ1 S1 H1 v z∧au (c5 X.K X.mg) WE μ1 S1 H1 (match z with
   | .xl es=>.ok ⟨es.map fun x=>Vl.xc x.1 x.2,none⟩ S1
   | _=>.bad) Rr) fun v x S1 μ1 H1 st1 r1 p1=>⟨μ1,S1,x,st1.hr,r1,p1⟩⟩) fun v s1 ⟨u,H1,I1,ru,μ1,S1,z,hr1,r1,p1⟩=>?_
 split at p1
 ·obtain ⟨a,vs,rfl,g,rs⟩:=r1
  cases ru
  obtain ⟨its,rv,pp,hz⟩:=I1.list (SqL.of (aw g).2)
  refine wpAny_pyIter_list pp.isList ?_
  refine ⟨s1.heap.objs.size,[s1.heap.objs.size],_,_,H1,rfl,I1.kept (t':=s1.toks) fun b o e=>Heap.get?_push_of_some _ e,jD a _,⟨_,Heap.get?_push_size _ rfl,rfl,rfl⟩,fun b hb=>?_,p1.here hr1 (rQ g rs hz)⟩
  rw [List.mem_singleton.mp hb]
  exact I1.gM (Nat.le_refl _) (I1.hok.fresh (Nat.le_refl _))
 ·exact p1.elim⟩
end
theorem el {n d k:Nat}:HT.sIx n d (some (k:Int))=min k n:=by
 unfold HT.sIx
 first | (dsimp only;split<;>omega) | (simp;omega) | omega
theorem gW:HT.sIx n d none=d:=rfl
theorem pC {xs:List D} {k:Nat}:cC xs none (some (k:Int))=xs.take k:=by
 unfold cC
 rw [gW,el,List.drop_zero,Nat.sub_zero]
 by_cases h:k≤xs.length
 ·rw [Nat.min_eq_left h]
 ·rw [Nat.min_eq_right (by omega),List.take_of_length_le (Nat.le_refl _),List.take_of_length_le (by omega)]
theorem pO {xs:List D} {a b:Nat}:cC xs (some (a:Int)) (some (b:Int))=(xs.drop a).take (b - a):=by
 unfold cC
 rw [el,el]
 by_cases h:a≤xs.length
 ·rw [Nat.min_eq_left h]
  by_cases hb:b≤xs.length
  ·rw [Nat.min_eq_left hb]
  ·rw [Nat.min_eq_right (by omega),List.take_of_length_le (by simp),List.take_of_length_le (by simp;omega)]
 ·rw [Nat.min_eq_right (show xs.length≤a by omega),List.drop_of_length_le (Nat.le_refl _),List.drop_of_length_le (by omega)]
  simp
theorem lE {xs:List D} {i:Nat} {z:D} (h:xs[i]?=some z):atI xs (i:Int)=some z:=by
 have hi:=(List.getElem?_eq_some_iff.mp h).1
 unfold atI
 rw [jc (by omega) (by omega)]
 show xs[((i:Nat):Int).toNat]?=_
 rw [Int.toNat_natCast];exact h
theorem oM {xs:List D} {i:Int} (h0:0≤i) (h1:i < xs.length):∃ z,atI xs i=some z∧z∈xs:=by
 have hk:i.toNat < xs.length:=by omega
 refine ⟨xs[i.toNat],?_,List.getElem_mem hk⟩
 have:=lE (xs:=xs) (i:=i.toNat) (List.getElem?_eq_getElem hk)
 rw [show ((i.toNat:Nat):Int)=i by omega] at this
 exact this
def lf2 (f:List D→D→Sto→R Vl) (xs:List D) (r:R Vl):R Vl:=r.bind fun y S2=>match y with
 | .d z=>f xs z S2
 | _=>.bad
def lf1 (f:List D→D→Sto→R Vl) (r:R Vl) (e:XE) (τ:Nv):R Vl:=r.bind fun x S1=>match x with
 | .d (.lst xs)=>lf2 f xs (e τ S1)
 | _=>.bad
theorem rM:xLf f o e τ S=lf1 f (o τ S) e τ:=aa rfl
theorem tI:lf1 f (.ok (.d (.lst xs)) S) e τ=lf2 f xs (e τ S):=aa rfl
theorem sI:lf2 f xs (.ok (.d z) S)=f xs z S:=aa rfl
theorem uo {ns:List Int}:n6 (ns.map D.int) (.int k) S=.ok (.d (.int (ns.count k:Nat))) S:=by
 unfold n6
 rw [show intsOf (ns.map D.int)=some ns by rw [gG (fun x=>x) ns];simp]
def zp1 (r:R (List Vl)):R Its:=r.bind iW
theorem s_:iZp as τ S=zp1 (as τ S):=aa rfl
theorem tB:zp1 (.ok [.d (.tup xs),.d (.tup ys)] S)=.ok ⟨cK xs ys,none⟩ S:=aa rfl
theorem uj:zp1 (.ok [.d (.lst xs),.d (.tup ys)] S)=.ok ⟨cK xs ys,none⟩ S:=aa rfl
theorem sJ:zp1 (.ok [.d (.lst xs),.d (.lst ys)] S)=.ok ⟨cK xs ys,none⟩ S:=aa rfl
end L2
set_option maxHeartbeats 4000000
namespace My
open PySem L2
def csX:List Str:=["Free","NoLine","NoName","NoStand","NoText","NoWish","NoWorth","WishError","Settled","TooMany"]
noncomputable def fN:XS:=(gL (kB (xSl gA (ae 0) (eN (xC (.int 12))) (eN (xC (.int 63))))) (gTu 2 (gCo (gNm 2) (gCo (gNm 3) gN0))) (aG (xOp aU (xOp oIx (ae 1) (xOp oMod (ae 2) (xC (.int 12)))) (ae 3)) (gSb (ae 1) (xOp oMod (ae 2) (xC (.int 12))) bO)))
noncomputable def fR:XS:=(aA (aG (xN dP (af (xSl gA (ae 0) ff (eN (xC (.int 12)))) aF)) (gNm 1))
 (aA fN
 (aY (xN mkM (af (xFz (ae 1)) (af (xC (.int 0)) (af (xC (.int 0)) aF)))))))
noncomputable def dv:XF:=bf 1 4 fR
noncomputable def fL:XS:=(aA (aG (xC (.int 0)) (gSb (ae 0) (xC (.int 2)) bO))
 (aY (ae 0)))
noncomputable def dg:XF:=bf 1 1 fL
noncomputable def et:XS:=(aA (xIf (bB (xOp oGe (ae 0) (xOp fq (xC (.int 10)) (xC (.int 18))))) (aY (ae 0)) bz)
 (aA (aG (xOp oMod (xOp aU (xOp aU (xOp cJ (xOp oMod (ae 0) (xC (.int 1000000007))) (xC (.int 69069))) (xOp cJ (ae 1) (xC (.int 40503)))) (xC (.int 977))) (xC (.int 2147483629))) (gNm 2))
 (aA (aG (xOp oMod (xOp aU (xOp aU (xOp cJ (ae 2) (ae 2)) (xOp cJ (ae 1) (xC (.int 7919)))) (xOp oMod (ae 0) (xC (.int 65537)))) (xC (.int 2147483587))) (gNm 3))
 (aA (aG (xOp oMod (xOp aU (xOp aU (xOp cJ (ae 3) (ae 3)) (xOp cJ (ae 2) (xC (.int 31)))) (xC (.int 5))) (xC (.int 2147483563))) (gNm 4))
 (aY (xOp aU (xOp cJ (xOp aU (xOp cJ (ae 2) (xC (.int 2147483659))) (ae 3)) (xC (.int 2147483693))) (ae 4)))))))
noncomputable def bZ:XF:=bf 2 5 et
noncomputable def fK:XS:=(aA (xIf (bB (xOp oLt (xOp oIx (ae 0) (xC (.int 2))) (ae 1))) (aA (aG (xOp oIx (ae 0) (xC (.int 1))) (gNm 2))
 (aA (aG (xC (.int 0)) (gNm 3))
 (aA (xIf (bB (xOp oLt (ae 2) (xN cY (af (xOp oIx (ae 0) (xC (.int 0))) aF)))) (aG (xOp oIx (xOp oIx (ae 0) (xC (.int 0))) (ae 2)) (gNm 3)) (xIf (bB (xOp oGt (xN cY (af (xOp oIx (ae 0) (xC (.int 0))) aF)) (xC (.int 0)))) (aG (xOp oMod (xOp oIx (xOp oIx (ae 0) (xC (.int 0))) (xOp oMod (xOp aU (xOp cJ (ae 2) (xC (.int 5))) (xC (.int 3))) (xN cY (af (xOp oIx (ae 0) (xC (.int 0))) aF)))) (xOp aU (xOp fq (xC (.int 10)) (xC (.int 17))) (ae 2))) (gNm 3)) bz))
 (aA (aG (xOp aU (ae 2) (xC (.int 1))) (gSb (ae 0) (xC (.int 1)) bO))
 (aG (bj bZ (af (ae 3) (af (ae 2) aF))) (gSb (ae 0) (xC (.int 2)) bO)))))) bz)
 (aA (aG (xOp oMod (xOp oIx (ae 0) (xC (.int 2))) (ae 1)) (gNm 4))
 (aA (aG (xOp oDiv (xOp oIx (ae 0) (xC (.int 2))) (ae 1)) (gSb (ae 0) (xC (.int 2)) bO))
 (aY (ae 4)))))
noncomputable def cq:XF:=bf 2 5 fK
noncomputable def cz:XE:=(xLC (kx (ae 2)) 1 (gNm 0) (bB (xOp fX (ae 0) (ae 2))) (ae 0))
noncomputable def dz:XS:=(aA (aG (xC (.str " !\"#$&'()*+,-./0123456789:;<=>?@ABCDEFGHIJKLMNOPQRSTUVWXYZ[\\]^_`")) (gNm 2))
 (aA (aG (xOp aU (ae 2) (xC (.str "abcdefghijklmnopqrstuvwxyz{|}~\t\n"))) (gNm 2))
 (aA (aG cz (gNm 3))
 (aY (xOp oIx (ae 3) (bj cq (af (ae 0) (af (xN cY (af (ae 3) aF)) aF))))))))
noncomputable def b_:XF:=bf 2 4 dz
noncomputable def dB:XS:=(aY (bj b_ (af (ae 0) (af (xC (.str "")) aF))))
noncomputable def b9:XF:=bf 1 1 dB
noncomputable def d8:XS:=(aA (aG (xN mkL (af (xUn (isX csX (bX · "Free")) (ae 0)) (af (xUn (isX csX (bX · "NoLine")) (ae 0)) (af (xUn (isX csX (bX · "NoName")) (ae 0)) aF)))) (gNm 1))
 (aA (aG (xOp aU (ae 1) (xN mkL (af (xUn (isX csX (bX · "NoStand")) (ae 0)) (af (xUn (isX csX (bX · "NoText")) (ae 0)) (af (xUn (isX csX (bX · "NoWish")) (ae 0)) aF))))) (gNm 1))
 (aA (aG (xOp aU (ae 1) (xN mkL (af (xUn (isX csX (bX · "NoWorth")) (ae 0)) (af (xUn (isX csX (bX · "Settled")) (ae 0)) (af (xUn (isX csX (bX · "TooMany")) (ae 0)) aF))))) (gNm 1))
 (aA (xIf (xOr (bB (xOp oNe (xLf iG (ae 1) (xC (.bl true))) (xC (.int 1)))) (xOr (gQ (dc (xUn (isX csX (bX · "WishError")) (ae 0)))) (gQ (dc (xUn (isX csX (fun _=>true)) (ae 0)))))) (aY (xC (.str "odd"))) bz)
 (aY (xOp oIx (xN mkL (af (xC (.str "free")) (af (xC (.str "line")) (af (xC (.str "name")) (af (xC (.str "stand")) (af (xC (.str "text")) (af (xC (.str "wish")) (af (xC (.str "worth")) (af (xC (.str "fixed")) (af (xC (.str "many")) aF)))))))))) (xLf ja (ae 1) (xC (.bl true)))))))))
noncomputable def a_:XF:=bf 1 2 d8
noncomputable def jP (s_l_same:XF):XE:=(xLC (iZp (af (ae 0) (af (ae 1) aF))) 2 (gTu 2 (gCo (gNm 0) (gCo (gNm 1) gN0))) (fun _ S=>.ok true S) (bj s_l_same (af (ae 0) (af (ae 1) aF))))
noncomputable def dC (s_l_same:XF):XS:=(aA (xIf (bB (xOp oIs (ae 1) (xC .non))) (aY (xOp oIs (ae 0) (xC .non))) bz)
 (aA (xIf (xOr (dc (xUn (bP "bool") (ae 1))) (dc (xUn (bP "bool") (ae 0)))) (aY (eg (xUn (bP "bool") (ae 1)) (eg (xUn (bP "bool") (ae 0)) (xOp oEq (ae 0) (ae 1))))) bz)
 (aA (xIf (dc (xUn (bP "int") (ae 1))) (aY (eg (xUn (bP "int") (ae 0)) (xOp oEq (ae 0) (ae 1)))) bz)
 (aA (xIf (dc (xUn (bP "str") (ae 1))) (aY (eg (xUn (bP "str") (ae 0)) (xOp oEq (ae 0) (ae 1)))) bz)
 (aA (xIf (xOr (bB (xOp oNe (xUn (bP "tuple") (ae 1)) (xUn (bP "tuple") (ae 0)))) (bB (xOp oNe (xUn (bP "list") (ae 1)) (xUn (bP "list") (ae 0))))) (aY (xC (.bl false))) bz)
 (aA (xIf (bB (xOp oNe (xN cY (af (ae 0) aF)) (xN cY (af (ae 1) aF)))) (aY (xC (.bl false))) bz)
 (aY (xOp eH (xC (.bl false)) (jP s_l_same)))))))))
noncomputable def bR:Nat→XF
 | 0=>bf 2 2 jl
 | n+1=>bf 2 2 (dC (bR n))
noncomputable def gR:XE:=(xLC (iY (af (xOp aU (xC (.int 1)) (bj cq (af (ae 1) (af (xC (.int 5)) aF)))) aF)) 1 (gNm 0) (fun _ S=>.ok true S) (bj b9 (af (ae 2) aF)))
noncomputable def gk:XE:=(xLC (iXl (ae 5)) 1 (gNm 0) (fun _ S=>.ok true S) (bj a_ (af (ae 0) aF)))
noncomputable def jQ:XS:=(gL (iY (af (xC (.int 3)) aF)) (gNm 2) (aA (i_ (bj dg (af (ae 1) aF)))
 (aA (aG (xSm eM (xC (.str "")) gR) (gNm 3))
 (aA (aG (xOp oV (bj cq (af (ae 1) (af (xOp fq (xC (.int 10)) (xC (.int 6))) aF))) (xC (.int 9))) (gNm 4))
 (aA (aG (xN mkX (af (xMk "Free" (ae 3)) (af (xMk "NoLine" (ae 3)) (af (xMk "NoName" (ae 3)) (af (xMk "NoStand" (ae 3)) (af (xMk "NoText" (ae 3)) (af (iM "NoWish" (ae 4)) (af (xMk "NoWorth" (ae 3)) aF)))))))) (gNm 5))
 (aA (aG (xOp fZ (ae 5) (xN mkX (af (xMk "Settled" (ae 3)) (af (xMk "TooMany" (ae 3)) aF)))) (gNm 5))
 (aA (aG gk (gNm 6))
 (aA (xIf (bB (xOp oNe (ae 6) (xN mkL (af (xC (.str "free")) (af (xC (.str "line")) (af (xC (.str "name")) (af (xC (.str "stand")) (af (xC (.str "text")) (af (xC (.str "wish")) (af (xC (.str "worth")) (af (xC (.str "fixed")) (af (xC (.str "many")) aF)))))))))))) (aY (xC (.bl false))) bz)
 (xIf (gQ (dc (bj (bR 10) (af (kD "NoWish" (xOp gX (ae 5) (xC (.int 5)))) (af (ae 4) aF))))) (aY (xC (.bl false))) bz)))))))))
noncomputable def jh:XS:=(aA (aG (bj dv (af (ae 0) aF)) (gNm 1))
 (aA jQ
 (aY (xOp lG (bj a_ (af (xMk "WishError" (xC (.str "a"))) aF)) (xC (.str "odd"))))))
noncomputable def i6:XF:=bf 1 7 jh
local macro_rules | `(tactic| walk_at "mx") => do
 let a:=("rM tI sI uo n8 s_ tB uj sJ iP gh qs tq se rk pE ui uf kG sA tZ oN om mz uN oS tU tT tK sE si pT pX qj tu ux sH qW oK nC nX nW oF pV qP nR mx oY pG pB jV ij mq lY vi uC iF qU mr sf rN oa jK nE vj ue tO uh sN tV r6 sy rR tE e9 gS dh sD sO rK mR rV pD tJ mF mW lj mj pd gy hV gb eT gf su sQ t6 uc lV mn l_ iX jZ lS qh oQ pb rn sU qo pY pM tH uM oZ t8 sP r0 r8 sM tj r_ rP pw oj rq ou ll kv lM kY tw qY o7 rA qZ rm oH nI nK ud sY tP sv t7 tW tm uH vn vv uQ qB oo oh o6 qQ oW qk pS rH o_ m4 mI mJ rJ qX rF oO rD qD qe qI qi oX nM my nJ pN pP oi qr lO ky lN kR kr lF uq rB sZ ox".splitOn " ").toArray.map fun s=>Lean.mkIdent (Lean.Name.mkStr `L2 s)
 let b:=("List.getElem?_cons_zero List.getElem?_cons_succ List.set_cons_zero List.set_cons_succ List.map_cons List.map_nil List.length_cons List.length_nil List.cons_append List.nil_append List.replicate_succ List.replicate_zero List.append_nil Nat.reduceSub Nat.reduceAdd Nat.zero_add Bool.not_true Bool.not_false decide_true decide_false beq_self_eq_true if_true if_false Int.reduceNeg".splitOn " ").toArray.map fun s=>Lean.mkIdent s.toName
 `(tactic| simp only [$[$a:term],*,$[$b:term],*,↓reduceIte])
local macro_rules | `(tactic| walk_at "mo") => `(tactic| first
  | rw [ml (by first | decide | omega)]
  | rw [tY (by first | exact sd (by decide) (by decide) | exact Or.inl ⟨by omega,by omega⟩ | exact Or.inr ⟨by omega,by omega⟩)]
  | rw [sW ⟨by first | decide | omega,by first | decide | omega⟩]
  | rw [iS ⟨by decide,by decide,by decide⟩]
  | rw [qA (by first | (simp only [List.length_cons,List.length_nil,List.length_map];omega) | (simp;omega))]
  | rw [oJ (by first | (simp only [List.length_cons,List.length_nil,List.length_map];omega) | (simp;omega))]
  | rw [i3 (by omega)]
  | rw [sT (by omega)])
local macro_rules | `(tactic| walk_at "mm") => `(tactic| repeat (first | walk_at "mx" | walk_at "mo"))
local macro_rules | `(tactic| erw [$rs,*]) => `(tactic| (rw [$rs,*]; walk_at "mx"))
local macro_rules | `(tactic| simp? [$ls,*]) => `(tactic| repeat (first | walk_at "mx" | simp only [Bool.false_eq_true, $ls,*]))
def bx (cells:List Int) (at' pool:Int):Ob:=.lst [.lst (cells.map D.int),.int at',.int pool]
def Pen (o:Ob):Prop:=∃ cells at' pool,o=bx cells at' pool∧cells.length≤63∧0≤at'∧0≤pool
theorem ef:leave S (.ok (.rt (.d x),τ) S)=.ok (.d x) S:=by rw [eu,j_,List.take_length]
theorem gq:leave S (.ok (.rt (.d x),τ) S')=.ok (.d x) (S'.take S.length):=by rw [eu,j_]
theorem j6 (cell at':Int) (h:0≤at') (S:Sto):∃ r:Int,0≤r∧bZ [.d (.int cell),.d (.int at')] S=.ok (.d (.int r)) S:=by
 unfold bZ
 rw [eI]
 unfold et
 walk_at "mx"
 erw [iS ⟨by decide,by decide,by decide⟩]
 by_cases hc:(10:Int) ^ (18:Int).toNat≤cell
 ·rw [decide_eq_true hc]
  refine ⟨cell,Int.le_trans (by decide) hc,?_⟩
  walk_at "mx"
  exact ef
 ·rw [decide_eq_false hc]
  walk_at "mm"
  generalize hone:(cell % 1000000007 * 69069+at' * 40503+977) % 2147483629=one
  have o1:0≤one:=by rw [← hone];exact Int.emod_nonneg _ (by decide)
  have o2:one < 2147483629:=by rw [← hone];exact Int.emod_lt_of_pos _ (by decide)
  walk_at "mm"
  generalize htwo:(one * one+at' * 7919+cell % 65537) % 2147483587=two
  have o3:0≤two:=by rw [← htwo];exact Int.emod_nonneg _ (by decide)
  have o4:two < 2147483587:=by rw [← htwo];exact Int.emod_lt_of_pos _ (by decide)
  walk_at "mm"
  generalize hthree:(two * two+one * 31+5) % 2147483563=three
  have o5:0≤three:=by rw [← hthree];exact Int.emod_nonneg _ (by decide)
  walk_at "mm"
  exact ⟨(one * 2147483659+two) * 2147483693+three,by omega,ef⟩
theorem eS {R:Sto}:oIx (.r 0) (.d (.int 0)) (bx cells at' pool :: R)=.ok (.d (.lst (cells.map D.int))) (bx cells at' pool :: R):=f9 rfl rfl
theorem tL {R:Sto}:oIx (.r 0) (.d (.int 1)) (bx cells at' pool :: R)=.ok (.d (.int at')) (bx cells at' pool :: R):=f9 rfl rfl
theorem iT {R:Sto}:oIx (.r 0) (.d (.int 2)) (bx cells at' pool :: R)=.ok (.d (.int pool)) (bx cells at' pool :: R):=f9 rfl rfl
theorem qC {R:Sto}:bO (.r 0) (.d (.int 1)) (.d (.int v)) (bx cells at' pool :: R)=.ok () (bx cells v pool :: R):=aa rfl
theorem gF {R:Sto}:bO (.r 0) (.d (.int 2)) (.d (.int v)) (bx cells at' pool :: R)=.ok () (bx cells at' v :: R):=aa rfl
theorem fj {ns:List Int} {i:Int} (h0:0≤i) (h1:i < ns.length):∃ n,atI (ns.map D.int) i=some (.int n)∧n∈ns:=by
 have hk:i.toNat < ns.length:=by omega
 refine ⟨ns[i.toNat],?_,List.getElem_mem hk⟩
 unfold atI
 rw [jc h0 (by simpa using h1)]
 show (ns.map D.int)[i.toNat]?=_
 rw [List.getElem?_map,List.getElem?_eq_getElem hk]
 rfl
theorem di {R:Sto}:(o' :: R).take (o :: R).length=o' :: R:=by rw [show (o :: R).length=(o' :: R).length from rfl,List.take_length]
theorem e_ {o:Ob} {R:Sto} {m:Int} (hp:Pen o) (h0:0 < m) (h1:m < 1073741824):∃ (k:Int) (o':Ob),0≤k∧k < m∧Pen o'∧cq [.r 0,.d (.int m)] (o :: R)=.ok (.d (.int k)) (o' :: R):=by
 obtain ⟨cells,at',pool,rfl,hl,ha,hq⟩:=hp
 unfold cq
 rw [eI]
 unfold fK
 have tail:∀ (at2 pool2:Int) (o2 o3:Option Vl),0≤at2→0≤pool2→∃ (k:Int) (o':Ob),0≤k∧k < m∧Pen o' ∧
   leave (bx cells at' pool :: R) ((aA (aG (xOp oMod (xOp oIx (ae 0) (xC (.int 2))) (ae 1)) (gNm 4)) (aA (aG (xOp oDiv (xOp oIx (ae 0) (xC (.int 2))) (ae 1)) (gSb (ae 0) (xC (.int 2)) bO)) (aY (ae 4)))) [some (.r 0),some (.d (.int m)),o2,o3,none] (bx cells at2 pool2 :: R))=.ok (.d (.int k)) (o' :: R):=by
  intro at2 pool2 o2 o3 g1 g2
  walk_at "mx"
  rw [iT]
  walk_at "mm"
  rw [iT]
  walk_at "mm"
  rw [gF]
  walk_at "mm"
  exact ⟨pool2 % m,_,Int.emod_nonneg _ (by omega),Int.emod_lt_of_pos _ h0,⟨cells,at2,pool2 / m,rfl,hl,g1,Int.ediv_nonneg g2 (by omega)⟩,by rw [gq,di]⟩
 erw [gS,mj]
 rw [iT]
 walk_at "mm"
 by_cases hc:pool < m
 ·erw [decide_eq_true hc]
  rw [tL]
  walk_at "mm"
  rw [eS]
  walk_at "mm"
  have fin:∀ cell:Int,∃ (k:Int) (o':Ob),0≤k∧k < m∧Pen o'∧leave (bx cells at' pool :: R) (sq1 ((aA (aG (xOp aU (ae 2) (xC (.int 1))) (gSb (ae 0) (xC (.int 1)) bO)) (aG (bj bZ (af (ae 3) (af (ae 2) aF))) (gSb (ae 0) (xC (.int 2)) bO))) [some (.r 0),some (.d (.int m)),some (.d (.int at')),some (.d (.int cell)),none] (bx cells at' pool :: R))
    (aA (aG (xOp oMod (xOp oIx (ae 0) (xC (.int 2))) (ae 1)) (gNm 4)) (aA (aG (xOp oDiv (xOp oIx (ae 0) (xC (.int 2))) (ae 1)) (gSb (ae 0) (xC (.int 2)) bO)) (aY (ae 4)))))=.ok (.d (.int k)) (o' :: R):=by
   intro cell
   erw [gS,hV]
   rw [qC]
   rw [iX,eT,dh,hV,iF]
   obtain ⟨r,hr,er⟩:=j6 cell at' ha (bx cells (at'+1) pool :: R)
   simp only [ij,jV,gh,iP,mq,lY,qU,er,mr,gb,lV,mn,l_,qs,gF,iX,eT,dh]
   exact tail (at'+1) r _ _ (by omega) hr
  by_cases hin:at' < ((cells.map D.int).length:Int)
  ·erw [decide_eq_true hin]
   rw [eS]
   obtain ⟨n,en,_⟩:=fj (ns:=cells) ha (by simpa using hin)
   walk_at "mx"
   rw [iQ en]
   rw [gb,gf,eT,dh]
   exact fin n
  ·erw [decide_eq_false hin]
   rw [eS]
   walk_at "mm"
   by_cases hpos:(0:Int) < ((cells.map D.int).length:Int)
   ·erw [decide_eq_true hpos]
    rw [eS]
    walk_at "mm"
    rw [eS]
    walk_at "mm"
    obtain ⟨n,en,_⟩:=fj (ns:=cells) (i:=(at' * 5+3) % ((cells.map D.int).length:Int)) (Int.emod_nonneg _ (by omega)) (by have:=Int.emod_lt_of_pos (at' * 5+3) hpos;simpa using this)
    erw [iQ en]
    erw [iS ⟨by decide,by decide,by decide⟩]
    rw [ml (by have:(0:Int) < 10 ^ (17:Int).toNat:=(by decide);omega)]
    rw [gb,gf,eT,dh]
    exact fin _
   ·rw [decide_eq_false hpos]
    rw [gy,e9,dh]
    exact fin 0
 ·rw [decide_eq_false hc]
  rw [gy,e9,dh]
  exact tail at' pool _ _ ha hq
structure GoodW (m:Int) (ws:List Int):Prop where
 rise:ws.Pairwise (· < ·)
 lim:∀ w∈ws,-9≤w∧w≤9
 pos:1≤ws.length
 le:(ws.length:Int)≤m
structure vC (n m:Int) (wss:List (List Int)):Prop where
 pos:1≤wss.length
 le:(wss.length:Int)≤n
 all:∀ ws∈wss,GoodW m ws
theorem m6 {R:Sto} (hp:Pen o):∃ o',Pen o'∧dg [.r 0] (o :: R)=.ok (.r 0) (o' :: R):=by
 obtain ⟨cells,at',pool,rfl,hl,ha,hq⟩:=hp
 unfold dg
 rw [d_]
 unfold fL
 walk_at "mx"
 erw [gF]
 refine ⟨bx cells at' 0,⟨cells,at',0,rfl,hl,ha,Int.le_refl 0⟩,?_⟩
 rw [eu]
 unfold out
 dsimp only
 rw [if_pos (by simp),di]
theorem lH {xs:List D} {i:Nat} {z:Vl} (h:(bA 0 xs)[i]?=some z):∃ x,xs[i]?=some x∧z=.d (.tup [.int i,x]):=by
 rw [cT] at h
 cases q:xs[i]? with
 | none=>rw [q] at h;cases h
 | some x=>rw [q] at h;cases h;exact ⟨x,rfl,by rw [Nat.zero_add]⟩
theorem nU (ns:List Int):∃ o,Pen o∧dv [.sc ns] []=.ok (.r 0) [o]:=by
 unfold dv
 rw [d_]
 unfold fR
 walk_at "mx"
 rw [show (12:Int)=((12:Nat):Int) from rfl,pC,← List.map_take]
 obtain ⟨τ',S',e2,cs,x2,x3,rfl,rfl,hl⟩:=kh (show _=fN [some (.sc ns),some (.r 0),none,none] [.lst ((ns.take 12).map D.int)] from rfl)
  (S1:=[.lst ((ns.take 12).map D.int)]) (gd:=none) (items:=bA 0 (((ns.map D.int).drop 12).take (63 - 12))) (by
   walk_at "mx"
   rw [show (12:Int)=((12:Nat):Int) from rfl,show (63:Int)=((63:Nat):Int) from rfl,pO])
  (fun i τ S=>∃ (cs:List Int) (x2 x3:Option Vl),τ=[some (.sc ns),some (.r 0),x2,x3]∧S=[.lst (cs.map D.int)]∧cs.length=(ns.take 12).length) ⟨_,none,none,rfl,rfl,rfl⟩ (by
   rintro i z τ S hz ⟨cs,x2,x3,rfl,rfl,hl⟩
   obtain ⟨x,ex,rfl⟩:=lH hz
   have hx:x∈ns.map D.int:=List.mem_of_mem_drop (List.mem_of_mem_take (List.mem_of_getElem? ex))
   obtain ⟨v,_,rfl⟩:=List.mem_map.mp hx
   have hlen:12 < ns.length:=by
    have:=(List.getElem?_eq_some_iff.mp ex).1
    simp at this
    omega
   have hcs:cs.length=12:=by rw [hl];simp;omega
   have h0:0≤((i:Nat):Int) % 12:=Int.emod_nonneg _ (by decide)
   have h1:((i:Nat):Int) % 12 < 12:=Int.emod_lt_of_pos _ (by decide)
   obtain ⟨c,ec,_⟩:=fj (ns:=cs) (i:=((i:Nat):Int) % 12) h0 (by omega)
   have hix:ixN (cs.map D.int).length (((i:Nat):Int) % 12)=some (((i:Nat):Int) % 12).toNat:=jc h0 (by rw [List.length_map];omega)
   refine ⟨_,_,.nx,_,_,by walk_at "mm";rfl,by
    walk_at "mm"
    rw [f9 (xs:=cs.map D.int) rfl ec]
    walk_at "mm"
    rw [show bO (.r 0) (.d (.int (((i:Nat):Int) % 12))) (.d (.int (c+v))) [Ob.lst (cs.map D.int)]=.ok () [.lst ((cs.map D.int).set (((i:Nat):Int) % 12).toNat (.int (c+v)))] by
     unfold bO
     simp only [List.getElem?_cons_zero,hix]
     rfl]
    walk_at "mx"
    rfl,.inl rfl,True.intro,cs.set (((i:Nat):Int) % 12).toNat (c+v),_,_,rfl,by rw [List.map_set],by rw [List.length_set];exact hl⟩)
 erw [e2]
 refine ⟨bx cs 0 0,⟨cs,0,0,rfl,by rw [hl];simp;omega,Int.le_refl 0,Int.le_refl 0⟩,?_⟩
 rfl
structure vB (k:Nat) (ns:List Int):Prop where
 dom:∀ n∈ns,0≤n∧n < (k:Int)
 pos:1≤ns.length
 le:ns.length≤k
 nd:ns.Nodup
theorem uu {xs:List D} {i:Int} (h0:0≤i) (h1:i < (xs.length:Int)):∃ z∈xs,∀ S,oIx (.d (.lst xs)) (.d (.int i)) S=.ok (.d z) S:=by
 obtain ⟨z,e,hz⟩:=oM h0 h1
 exact ⟨z,hz,fun S=>iQ e⟩
theorem uF {a b:Str} {S:Sto} (h:a.length+b.length≤100000):aU (.d (.str a)) (.d (.str b)) S=.ok (.d (.str (a++b))) S:=by rw [show aU (.d (.str a)) (.d (.str b)) S=if a.length+b.length≤100000 then .ok (.d (.str (a++b))) S else .bad from rfl,if_pos h]
def sgs:Str:=(" !\"#$&'()*+,-./0123456789:;<=>?@ABCDEFGHIJKLMNOPQRSTUVWXYZ[\\]^_`":Str)++("abcdefghijklmnopqrstuvwxyz{|}~\t\n":Str)
theorem mB:sgs.cps.toList.all (fun c=>decide (c < 128))=true:=by decide +kernel
theorem ig:sgs.cps.toList.length=96:=by decide +kernel
theorem nS:∀ c,c < 128→Txt.contains "" (sg c)=false:=by decide +kernel
theorem nY {o:Ob} {R:Sto} (hp:Pen o):∃ (c:Nat) (o':Ob),c < 128∧Pen o'∧b9 [.r 0] (o :: R)=.ok (.d (.str (sg c))) (o' :: R):=by
 have hc:∀ c∈sgs.cps.toList,c < 128:=fun c h=>of_decide_eq_true (List.all_eq_true.mp mB c h)
 have eC:cz [some (.r 0),some (.d (.str "")),some (.d (.str sgs)),none] (o :: R)=.ok (.d (.lst (sgs.cps.toList.map fun c=>D.str (sg c)))) (o :: R):=by
  unfold cz
  rw [ik (items:=sgs.cps.toList.map fun c=>Vl.d (.str (sg c))) (S1:=o :: R) (by
   unfold kx
   rw [gh,gh,iP,bS]
   dsimp only
   rw [if_pos ⟨by decide +kernel,by decide +kernel⟩]) (fun z=>match z with | .d d=>some d | _=>none) (by
   intro z hz S
   obtain ⟨c,h,rfl⟩:=List.mem_map.mp hz
   refine ⟨fun x hx=>?_,fun hx=>by cases hx⟩
   cases hx
   refine ⟨?_,by walk_at "mx"⟩
   walk_at "mx"
   rw [show fX (.d (.str (sg c))) (.d (.str "")) S=.ok (.d (.bl (!Txt.contains "" (sg c)))) S from rfl,nS c (hc c h)]
   walk_at "mx")]
  rw [List.filterMap_map]
  have:∀ l:List Nat,l.filterMap ((fun z=>match z with | Vl.d d=>some d | _=>none) ∘ fun c=>Vl.d (.str (sg c)))=l.map fun c=>D.str (sg c):=fun l=>by
   induction l with
   | nil=>rfl
   | cons a l ih=>rw [List.filterMap_cons,List.map_cons,← ih];rfl
  rw [this]
 obtain ⟨v,o1,v0,v1,hp1,e1⟩:=e_ (R:=R) (m:=96) hp (by decide) (by decide)
 obtain ⟨z,hz,ez⟩:=uu (xs:=sgs.cps.toList.map fun c=>D.str (sg c)) (i:=v) v0 (by rw [List.length_map,ig];exact v1)
 obtain ⟨c,h,rfl⟩:=List.mem_map.mp hz
 refine ⟨c,o1,hc c h,hp1,?_⟩
 have e2:b_ [.r 0,.d (.str "")] (o :: R)=.ok (.d (.str (sg c))) (o1 :: R):=by
  unfold b_
  rw [eI]
  unfold dz
  walk_at "mx"
  erw [uF (by decide +kernel)]
  erw [show (" !\"#$&'()*+,-./0123456789:;<=>?@ABCDEFGHIJKLMNOPQRSTUVWXYZ[\\]^_`":Str)++("abcdefghijklmnopqrstuvwxyz{|}~\t\n":Str)=sgs from rfl,eC]
  erw [List.length_map,ig,show ((96:Nat):Int)=96 from rfl,e1]
  erw [ez]
  rw [gq,di]
 unfold b9
 rw [d_]
 unfold dB
 walk_at "mx"
 erw [e2]
 rw [gq,di]
def mk1 (c:Str) (r:R Vl):R Vl:=r.bind fun _ S1=>.ok (.xc c []) S1
theorem ma:xMk c a τ S=mk1 c (a τ S):=aa rfl
theorem mm:mk1 c (.ok z S)=.ok (.xc c []) S:=aa rfl
def mn1 (c:Str) (r:R Vl):R Vl:=r.bind fun z S1=>match z with
 | .d (.int n)=>if n.natAbs < 2 ^ 60 then .ok (.xc c [("number",.int n)]) S1 else .bad
 | _=>.bad
theorem pk:iM c a τ S=mn1 c (a τ S):=aa rfl
theorem rO (h:n.natAbs < 2 ^ 60):mn1 c (.ok (.d (.int n)) S)=.ok (.xc c [("number",.int n)]) S:=if_pos h
def nu1 (c:Str) (r:R Vl):R Vl:=r.bind fun z S1=>match z with
 | .xc c' [(f,.int n)]=>if c'=c∧f="number" then .ok (.d (.int n)) S1 else .bad
 | _=>.bad
theorem pe:kD c a τ S=nu1 c (a τ S):=aa rfl
theorem sh:nu1 c (.ok (.xc c [("number",.int n)]) S)=.ok (.d (.int n)) S:=if_pos ⟨rfl,rfl⟩
def sm1 (f:Str→Vl→Sto→R Vl) (x:Vl) (r:R Vl):R Vl:=match x with
 | .d (.str a)=>r.bind fun z S2=>f a z S2
 | _=>.bad
theorem sL:xSm f (xC (.str a)) e τ S=sm1 f (.d (.str a)) (e τ S):=aa rfl
theorem sk:sm1 f (.d (.str a)) (.ok z S)=f a z S:=aa rfl
def xsN (n:Int):List (Str×List (Str×D)):=[("Free",[]),("NoLine",[]),("NoName",[]),("NoStand",[]),("NoText",[]),("NoWish",[("number",.int n)]),("NoWorth",[]),("Settled",[]),("TooMany",[])]
def wdX:List Str:=["free","line","name","stand","text","wish","worth","fixed","many"]
def wd (z:Vl):D:=match z with
 | .xc c _=>.str (wdX.getD ((["Free","NoLine","NoName","NoStand","NoText","NoWish","NoWorth","Settled","TooMany"]:List Str).idxOf c) "odd")
 | _=>.non
theorem bM (h:d8 [some (.xc c xs),none] S=.ok (.rt (.d z),τ) S):a_ [.xc c xs] S=.ok (.d z) S:=by
 unfold a_
 rw [d_,show [some (Vl.xc c xs)]++List.replicate (2 - 1) none=[some (.xc c xs),none] from rfl,h,ef]
def bls (k:Nat):Nv:=[none,some (.d (.lst ((List.range 9).map fun i=>.bl (decide (i=k)))))]
theorem tN (h:x∈xsN n):a_ [.xc x.1 x.2] S=.ok (.d (wd (.xc x.1 x.2))) S:=by
 unfold xsN at h
 simp only [List.mem_cons,List.not_mem_nil,or_false] at h
 rcases h with rfl | rfl | rfl | rfl | rfl | rfl | rfl | rfl | rfl
 ·exact bM (τ:=(bls 0).set 0 (some (.xc "Free" []))) (by kernel_rfl)
 ·exact bM (τ:=(bls 1).set 0 (some (.xc "NoLine" []))) (by kernel_rfl)
 ·exact bM (τ:=(bls 2).set 0 (some (.xc "NoName" []))) (by kernel_rfl)
 ·exact bM (τ:=(bls 3).set 0 (some (.xc "NoStand" []))) (by kernel_rfl)
 ·exact bM (τ:=(bls 4).set 0 (some (.xc "NoText" []))) (by kernel_rfl)
 ·exact bM (τ:=(bls 5).set 0 (some (.xc "NoWish" [("number",.int n)]))) (by kernel_rfl)
 ·exact bM (τ:=(bls 6).set 0 (some (.xc "NoWorth" []))) (by kernel_rfl)
 ·exact bM (τ:=(bls 7).set 0 (some (.xc "Settled" []))) (by kernel_rfl)
 ·exact bM (τ:=(bls 8).set 0 (some (.xc "TooMany" []))) (by kernel_rfl)
theorem tG:a_ [.xc "WishError" []] S=.ok (.d (.str "odd")) S:=bM (τ:=(bls 9).set 0 (some (.xc "WishError" []))) (by kernel_rfl)
theorem mD:gk [x0,x1,x2,x3,x4,some (.xl (xsN n)),x6] S=.ok (.d (.lst (wdX.map D.str))) S:=by
 unfold gk
 rw [q0 (items:=(xsN n).map fun x=>Vl.xc x.1 x.2) (S1:=S) rfl wd (by
  intro z hz S
  obtain ⟨x,hx,rfl⟩:=List.mem_map.mp hz
  simp? [tN hx])]
 rfl
theorem oG:bR 10 [.d (.int n),.d (.int n)] S=.ok (.d (.bl true)) S:=by
 rw [show bR 10=bf 2 2 (dC (bR 9)) from rfl,eI]
 unfold dC
 simp? [show isT "bool" (D.int n)=false from rfl,show isT "int" (D.int n)=true from rfl,ef]
theorem words_of:∀ ws:List Str,wordsOf (ws.map D.str)=some ws
 | []=>rfl
 | w :: ws=>by
  show (wordsOf (ws.map D.str)).map (w :: ·)=_
  rw [words_of ws]
  rfl
theorem k6 {ws:List Str} (h:ws.length≤5) (h1:∀ w∈ws,w.length=1):JoinOk "" ws=true:=by
 unfold JoinOk
 have key:∀ (l:List Str) (n:Nat),(∀ w∈l,w.length=1)→l.foldl (fun a w=>a+w.length+("":Str).length) n=n+l.length:=by
  intro l
  induction l with
  | nil=>intro n _;rfl
  | cons w l ih=>
   intro n hw
   rw [List.foldl_cons,ih _ fun x hx=>hw x (.tail _ hx),hw w (.head _),List.length_cons,show ("":Str).length=0 from rfl]
   omega
 rw [List.foldl_toArray,key ws 0 h1]
 rw [Nat.zero_add]
 generalize ws.length=n at h ⊢
 match n,h with
 | 0,_ | 1,_ | 2,_ | 3,_ | 4,_ | 5,_=>rfl
theorem mE {R:Sto} (hp:Pen o):∃ (x:Str) (o':Ob),Pen o'∧xSm eM (xC (.str "")) gR [x0,some (.r 0),x2,x3,x4,x5,x6] (o :: R)=.ok (.d (.str x)) (o' :: R):=by
 obtain ⟨a,o1,a0,a1,hp1,e1⟩:=e_ (R:=R) (m:=5) hp (by decide) (by decide)
 obtain ⟨acc,Q,e4,hl,o3,ws,hp3,rfl,rfl,hw,hn⟩:=rp (show _=gR [x0,some (.r 0),x2,x3,x4,x5,x6] (o :: R) from rfl) (S1:=o1 :: R) (items:=(List.range (1+a).toNat).map fun i=>Vl.d (.int (i:Nat))) (by
   simp? [e1]
   rw [i3 (by omega)])
  (fun i acc Q=>∃ (o3:Ob) (ws:List Str),Pen o3∧acc=ws.map D.str∧Q=o3 :: R∧ws.length=i∧∀ w∈ws,w.length=1) ⟨o1,[],hp1,rfl,rfl,rfl,by simp⟩ (by
   rintro i z acc Q hz ⟨o3,ws,hp3,rfl,rfl,hw,hn⟩ hl
   obtain ⟨c,o4,_,hp4,e2⟩:=nY (R:=R++[.lst (ws.map D.str)]) hp3
   refine ⟨.str (sg c),o4 :: R,by simp? [e2],by simp,o4,ws++[sg c],hp4,by simp,rfl,by simp [hw],fun w hm=>?_⟩
   rcases List.mem_append.mp hm with h | h
   ·exact hn w h
   ·rw [List.mem_singleton.mp h];rfl)
 refine ⟨Txt.join "" ws,o3,hp3,?_⟩
 rw [sL,e4,sk,show eM "" (.d (.lst (ws.map D.str))) (o3 :: R)=(match wordsOf (ws.map D.str) with
  | some ws=>if JoinOk "" ws=true then .ok (.d (.str (Txt.join "" ws))) (o3 :: R) else .bad
  | none=>.bad) from rfl,words_of]
 exact if_pos (k6 (by rw [hw];simp;omega) hn)
theorem kX (ns:List Int):i6 [.sc ns] []=.ok (.d (.bl true)) []:=by
 unfold i6
 rw [d_]
 unfold jh
 obtain ⟨o,hp,e0⟩:=nU ns
 obtain ⟨τ',S',e,o',y2,y3,y4,y5,y6,hp',rfl,rfl⟩:=kh (show _=jQ [some (.sc ns),some (.r 0),none,none,none,none,none] [o] from rfl) (S1:=[o]) (gd:=none) (items:=(List.range 3).map fun i=>Vl.d (.int (i:Nat))) (by walk_at "mx";rw [i3 (by decide)];rfl)
  (fun i τ S'=>∃ (o':Ob) (y2 y3 y4 y5 y6:Option Vl),Pen o'∧τ=[some (.sc ns),some (.r 0),y2,y3,y4,y5,y6]∧S'=[o']) ⟨o,_,_,_,_,_,hp,rfl,rfl⟩ (by
   rintro i z τ S' hz ⟨o',y2,y3,y4,y5,y6,hp',rfl,rfl⟩
   obtain ⟨hi,rfl⟩:=nz hz
   obtain ⟨o1,hp1,e1⟩:=m6 (R:=[]) hp'
   obtain ⟨x,o2,hp2,e2⟩:=mE (R:=[]) (x0:=some (.sc ns)) (x2:=some (.d (.int (i:Nat)))) (x3:=y3) (x4:=y4) (x5:=y5) (x6:=y6) hp1
   obtain ⟨a,o3,a0,a1,hp3,e3⟩:=e_ (R:=[]) (m:=1000000) hp2 (by decide) (by decide)
   have hm:mn1 "NoWish" (.ok (.d (.int (a - 9))) [o3])=.ok (.xc "NoWish" [("number",.int (a - 9))]) [o3]:=rO (by omega)
   have e4:oNe (.d (.lst (wdX.map D.str))) (.d (.lst [.str "free",.str "line",.str "name",.str "stand",.str "text",.str "wish",.str "worth",.str "fixed",.str "many"])) [o3]=.ok (.d (.bl false)) [o3]:=by kernel_rfl
   refine ⟨_,_,.nx,_,[o3],gf,?_,.inl rfl,trivial,o3,some (.d (.int (i:Nat))),some (.d (.str x)),some (.d (.int (a - 9))),some (.xl (xsN (a - 9))),some (.d (.lst (wdX.map D.str))),hp3,rfl,rfl⟩
   simp? [e1,e2,show fq (.d (.int 10)) (.d (.int 6)) [o2]=.ok (.d (.int 1000000)) [o2] from rfl,e3,ma,mm,pk,hm,show mkX [.xc "Free" [],.xc "NoLine" [],.xc "NoName" [],.xc "NoStand" [],.xc "NoText" [],.xc "NoWish" [("number",.int (a - 9))],.xc "NoWorth" []] [o3]=.ok (.xl ((xsN (a - 9)).take 7)) [o3] from rfl,
    show mkX [.xc "Settled" [],.xc "TooMany" []] [o3]=.ok (.xl ((xsN (a - 9)).drop 7)) [o3] from rfl,show fZ (.xl ((xsN (a - 9)).take 7)) (.xl ((xsN (a - 9)).drop 7)) [o3]=.ok (.xl (xsN (a - 9))) [o3] from rfl,mD,e4,pe,show gX (.xl (xsN (a - 9))) (.d (.int 5)) [o3]=.ok (.xc "NoWish" [("number",.int (a - 9))]) [o3] from rfl,sh,oG])
 simp? [e0,e,ma,mm,tG]
 rfl
def exX:List Str:=["Free","NoLine","NoName","NoStand","NoText","NoWish","NoWorth","Settled","TooMany","WishError"]
def top (i:Nat):Stmt:=PySem.Challenge.pw_wishstrike_k08_refusals_apart.main.body.getD i (.Pass ⟨0,0,0,0⟩)
def mth (i:Nat):Stmt:=match top i with
 | .ClassDef _ _ _ (s :: _) ..=>s
 | s=>s
structure Txt (K:PySem.W.Frag) (mg:Str→Option Value):Prop where
 l_spread:Df K mg "_law_spread" (top 12)
 l_open:Df K mg "_law_open" (top 13)
 l_anew:Df K mg "_law_anew" (top 14)
 l_take:Df K mg "_law_take" (top 15)
 l_sign_but:Df K mg "_law_sign_but" (top 16)
 l_any_sign:Df K mg "_law_any_sign" (top 17)
 l_same:Df K mg "_law_same" (top 18)
 l_refusal:Df K mg "_law_refusal" (top 19)
 law:Df K mg "law" (top 20)
 z_ValueError:mg "ValueError"=none
 z_bool:mg "bool"=none
 z_enumerate:mg "enumerate"=none
 z_int:mg "int"=none
 z_isinstance:mg "isinstance"=none
 z_len:mg "len"=none
 z_list:mg "list"=none
 z_range:mg "range"=none
 z_str:mg "str"=none
 z_tuple:mg "tuple"=none
 z_zip:mg "zip"=none
 xs:XsF K mg csX exX
 ec_Free:Ec K mg "Free"
 ec_NoLine:Ec K mg "NoLine"
 ec_NoName:Ec K mg "NoName"
 ec_NoStand:Ec K mg "NoStand"
 ec_NoText:Ec K mg "NoText"
 nw_NoWish:∃ (C W fI:Addr) (fd:FuncData),Nw K mg "NoWish" "NoWish.__init__" (mth 2) C W fI fd
 ec_NoWorth:Ec K mg "NoWorth"
 ec_WishError:Ec K mg "WishError"
 ec_Settled:Ec K mg "Settled"
 ec_TooMany:Ec K mg "TooMany"
theorem fU:bootBuiltins "ValueError"=some (.type "ValueError"):=by decide +kernel
theorem ei:bootBuiltins "bool"=some (.type "bool"):=by decide +kernel
theorem jy:bootBuiltins "int"=some (.type "int"):=by decide +kernel
theorem c9:bootBuiltins "len"=some (.builtin "len"):=by decide +kernel
theorem fA:bootBuiltins "list"=some (.type "list"):=by decide +kernel
theorem ki:bootBuiltins "str"=some (.type "str"):=by decide +kernel
theorem gP:bootBuiltins "tuple"=some (.type "tuple"):=by decide +kernel
section
variable {P:Program} {w:World} {K:PySem.W.Frag} {mg:Str→Option Value}
theorem fF (T:Txt K mg):OkN P w K mg 1 "NoWish":=vc T.nw_NoWish fun _ _ _ _ _ _ _ _ _ _ _ _ F=>t9 (lp F (pv 0) (tf (pv 1)) rfl rfl rfl rfl rfl) (mO F (pv 0) (pv 1) rfl)
theorem jR (T:Txt K mg):OkE P w K mg 1 "_law_open" ["script"] dv:=by
 refine c6 ["script","cells","k","cell"] T.l_open fun _ _ _ _ _ _ _ _ hr q=>?_
 exact (ao (aN q (jW i9 i0 T.z_list fA (ai (j4 (rv 0) mS (fo aj)) aq)))
 (ao (jO (kE rfl T.z_enumerate (j4 (rv 0) (fo aj) (fo aj))) (jx (dq (bW q) (dq (bW q) il))) (aD (dQ (ax aL aP (bC (rv 1) (ax bL (aO _) (rv 2) aj)) (rv 3)) (dE (rv 1) (ax bL (aO _) (rv 2) aj) eU c_))))
 (aD (aM (nh (ai (ur (rv 1)) (ai aj (ai aj aq))))))))
theorem j7 (T:Txt K mg):OkE P w K mg 1 "_law_anew" ["pen"] dg:=by
 refine c6 ["pen"] T.l_anew fun _ _ _ _ _ _ _ _ hr q=>?_
 exact (ao (dQ aj (dE (rv 0) aj eU c_))
 (aD (aM (rv 0))))
theorem hW (T:Txt K mg):OkE P w K mg 1 "_law_spread" ["cell","at"] bZ:=by
 refine c6 ["cell","at","one","two","three"] T.l_spread fun _ _ _ _ _ _ _ _ hr q=>?_
 exact (ao (bJ (bD tS (eZ _) (rv 0) (ax gr (aO _) aj aj)) (aD (aM (rv 0))) bo)
 (ao (aN q (ax bL (aO _) (ax aL aP (ax aL aP (ax bY (aO _) (ax bL (aO _) (rv 0) aj) aj) (ax bY (aO _) (rv 1) aj)) aj) aj))
 (ao (aN q (ax bL (aO _) (ax aL aP (ax aL aP (ax bY (aO _) (rv 2) (rv 2)) (ax bY (aO _) (rv 1) aj)) (ax bL (aO _) (rv 0) aj)) aj))
 (ao (aN q (ax bL (aO _) (ax aL aP (ax aL aP (ax bY (aO _) (rv 3) (rv 3)) (ax bY (aO _) (rv 2) aj)) aj) aj))
 (aD (aM (ax aL aP (ax bY (aO _) (ax aL aP (ax bY (aO _) (rv 2) aj) (rv 3)) aj) (rv 4))))))))
theorem dW (T:Txt K mg):OkE P w K mg 2 "_law_take" ["pen","many"] cq:=by
 refine c6 ["pen","many","at","cell","found"] T.l_take fun _ _ _ _ _ _ _ _ hr q=>?_
 exact (ao (bJ (bD l4 (eZ _) (bC (rv 0) aj) (rv 1)) (ao (aN q (bC (rv 0) aj))
 (ao (aN q aj)
 (ao (bJ (bD l4 (eZ _) (rv 2) (cj bT cn T.z_len c9 (ai (bC (rv 0) aj) aq))) (aD (aN q (bC (bC (rv 0) aj) (rv 2)))) (aD (bJ (bD tD (eZ _) (cj bT cn T.z_len c9 (ai (bC (rv 0) aj) aq)) aj) (aD (aN q (ax bL (aO _) (bC (bC (rv 0) aj) (ax bL (aO _) (ax aL aP (ax bY (aO _) (rv 2) aj) aj) (cj bT cn T.z_len c9 (ai (bC (rv 0) aj) aq)))) (ax aL aP (ax gr (aO _) aj aj) (rv 2))))) bo)))
 (ao (dQ (ax aL aP (rv 2) aj) (dE (rv 0) aj eU c_))
 (aD (dQ (aZ (hW T) hr (ai (rv 3) (ai (rv 2) aq))) (dE (rv 0) aj eU c_))))))) bo)
 (ao (aN q (ax bL (aO _) (bC (rv 0) aj) (rv 1)))
 (ao (dQ (ax mC (aO _) (bC (rv 0) aj) (rv 1)) (dE (rv 0) aj eU c_))
 (aD (aM (rv 4))))))
theorem fV (T:Txt K mg):OkE P w K mg 3 "_law_sign_but" ["pen","others"] b_:=by
 refine c6 ["pen","others","all_signs","some"] T.l_sign_but fun _ _ _ _ _ _ _ _ hr q=>?_
 refine' (ao (aN q aE)
 (ao (aN q (ax aL aP (rv 2) aE))
 (ao (lT eX ["sign","pen","others","all_signs","some"] q (ng (rv 2)) ?g0 ?t0 ?e0)
 (aD (aM (bC (rv 3) (aZ (dW T) hr (ai (rv 0) (ai (cj bT cn T.z_len c9 (ai (rv 3) aq)) aq)))))))))
 (case g0=>intro _ _ _ _ q;exact (bW q))
 (case t0=>intro _ _ _ _;exact (mL (bD nr lg (rv 0) (rv 2))))
 (case e0=>intro _ _ _ _;exact (rv 0))
theorem fT (T:Txt K mg):OkE P w K mg 4 "_law_any_sign" ["pen"] b9:=by
 refine c6 ["pen"] T.l_any_sign fun _ _ _ _ _ _ _ _ hr q=>?_
 exact (aD (aM (aZ (fV T) hr (ai (rv 0) (ai aE aq)))))
theorem dI (T:Txt K mg):OkE P w K mg 1 "_law_refusal" ["caught"] a_:=by
 refine c6 ["caught","some"] T.l_refusal fun _ _ _ _ _ _ _ _ hr q=>?_
 have hu:=hr.units
 exact (ao (aN q (dR (ai (bu (cX T.xs (by decide)) (T.xs.cf _ (by decide)) T.z_isinstance (rv 0)) (ai (bu (cX T.xs (by decide)) (T.xs.cf _ (by decide)) T.z_isinstance (rv 0)) (ai (bu (cX T.xs (by decide)) (T.xs.cf _ (by decide)) T.z_isinstance (rv 0)) aq)))))
 (ao (aN q (ax aL aP (rv 1) (dR (ai (bu (cX T.xs (by decide)) (T.xs.cf _ (by decide)) T.z_isinstance (rv 0)) (ai (bu (cX T.xs (by decide)) (T.xs.cf _ (by decide)) T.z_isinstance (rv 0)) (ai (bu (cX T.xs (by decide)) (T.xs.cf _ (by decide)) T.z_isinstance (rv 0)) aq))))))
 (ao (aN q (ax aL aP (rv 1) (dR (ai (bu (cX T.xs (by decide)) (T.xs.cf _ (by decide)) T.z_isinstance (rv 0)) (ai (bu (cX T.xs (by decide)) (T.xs.cf _ (by decide)) T.z_isinstance (rv 0)) (ai (bu (cX T.xs (by decide)) (T.xs.cf _ (by decide)) T.z_isinstance (rv 0)) aq))))))
 (ao (bJ (RW.rt (f_ (bD (dN hu) d9 (me PySem.F.slot_list_count PySem.F.type_list_count jX jz (rv 1) dn) aj) (f_ (gz (cN (bu (cX T.xs (by decide)) (T.xs.cf _ (by decide)) T.z_isinstance (rv 0)))) (gU (gz (cN (ic (iy (v:=.ty "ValueError") rfl T.z_ValueError fU rfl) (fun u r=>r) (uE T.xs) T.z_isinstance (rv 0)))))))) (aD (aM aE)) bo)
 (aD (aM (bC (dR (ai aE (ai aE (ai aE (ai aE (ai aE (ai aE (ai aE (ai aE (ai aE aq)))))))))) (me PySem.F.slot_list_index PySem.F.type_list_index jm jv (rv 1) dn))))))))
theorem eV (T:Txt K mg):∀ n:Nat,OkE P w K mg (0+n+1) "_law_same" ["found","due"] (bR n)
 | 0=>c6 ["found","due"] T.l_same fun _ _ _ _ _ _ _ _ hr q=>lh
 | n+1=>by
  have ih:=eV T n
  have dS:=fun (_:Txt K mg)=>ih
  · refine c6 ["found","due"] T.l_same fun _ _ _ _ _ _ _ _ hr q=>?_
    have hu:=hr.units
    refine' (ao (bJ (bD j8 j5 (rv 1) jn) (aD (aM (c7 j8 j5 (rv 0) jn))) bo)
 (ao (bJ (RW.rt (f_ (cN (aQ T.z_isinstance T.z_bool ei (rv 1))) (gU (cN (aQ T.z_isinstance T.z_bool ei (rv 0)))))) (aD (aM (eP (aQ T.z_isinstance T.z_bool ei (rv 1)) (eP (aQ T.z_isinstance T.z_bool ei (rv 0)) (gZ (c7 (gO hu) gH (rv 0) (rv 1))))))) bo)
 (ao (bJ (cN (aQ T.z_isinstance T.z_int jy (rv 1))) (aD (aM (eP (aQ T.z_isinstance T.z_int jy (rv 0)) (gZ (c7 (gO hu) gH (rv 0) (rv 1)))))) bo)
 (ao (bJ (cN (aQ T.z_isinstance T.z_str ki (rv 1))) (aD (aM (eP (aQ T.z_isinstance T.z_str ki (rv 0)) (gZ (c7 (gO hu) gH (rv 0) (rv 1)))))) bo)
 (ao (bJ (RW.rt (f_ (bD (dN hu) d9 (aQ T.z_isinstance T.z_tuple gP (rv 1)) (aQ T.z_isinstance T.z_tuple gP (rv 0))) (gU (bD (dN hu) d9 (aQ T.z_isinstance T.z_list fA (rv 1)) (aQ T.z_isinstance T.z_list fA (rv 0)))))) (aD (aM dn)) bo)
 (ao (bJ (bD (dN hu) d9 (cj bT cn T.z_len c9 (ai (rv 0) aq)) (cj bT cn T.z_len c9 (ai (rv 1) aq))) (aD (aM dn)) bo)
 (aD (aM (c7 (mY hu) mV dn (lX eX ["one","other","found","due"] q (rG rfl T.z_zip (ai (rv 0) (ai (rv 1) aq))) ?g0 rt0 ?e0))))))))))
    (case g0=>intro _ _ _ _ q;exact (jx (dq (bW q) (dq (bW q) il))))
    (case e0=>intro _ _ _ _;exact (aZ (dS T) hr (ai (rv 0) (ai (rv 1) aq)) (by omega)))
theorem dS (T:Txt K mg):OkE P w K mg 11 "_law_same" ["found","due"] (bR 10):=(eV T 10)
theorem qE (T:Txt K mg):OkE P w K mg 12 "law" ["script"] i6:=by
 refine c6 ["script","pen","turn","text","number","some","words"] T.law fun _ _ _ _ _ _ _ _ hr q=>?_
 have hu:=hr.units
 refine' (ao (aN q (aZ (jR T) hr (ai (rv 0) aq)))
 (ao (jO (fM rfl T.z_range (ai aj aq)) (bW q) (ao (nv (aZ (j7 T) hr (ai (rv 1) aq)))
 (ao (aN q (tX PySem.F.slot_str_join PySem.F.type_str_join ni jC aE (lX eX ["k","script","pen","turn","text","number","some","words"] q (fM rfl T.z_range (ai (ax aL aP aj (aZ (dW T) hr (ai (rv 1) (ai aj aq)))) aq)) ?g0 rt0 ?e0)))
 (ao (aN q (ax pa (oR _) (aZ (dW T) hr (ai (rv 1) (ai (ax gr (aO _) aj aj) aq))) aj))
 (ao (aN q (ip (ai (cF T.ec_Free (ai (rv 3) aq)) (ai (cF T.ec_NoLine (ai (rv 3) aq)) (ai (cF T.ec_NoName (ai (rv 3) aq)) (ai (cF T.ec_NoStand (ai (rv 3) aq)) (ai (cF T.ec_NoText (ai (rv 3) aq)) (ai (qJ (fF T) hr (ai (rv 4) aq)) (ai (cF T.ec_NoWorth (ai (rv 3) aq)) aq)))))))))
 (ao (aN q (ax aL kO (rv 5) (ip (ai (cF T.ec_Settled (ai (rv 3) aq)) (ai (cF T.ec_TooMany (ai (rv 3) aq)) aq)))))
 (ao (lT eX ["one","script","pen","turn","text","number","some","words"] q (uz (rv 5)) ?g1 rt0 ?e1)
 (ao (bJ (bD (dN hu) d9 (rv 6) (dR (ai aE (ai aE (ai aE (ai aE (ai aE (ai aE (ai aE (ai aE (ai aE aq))))))))))) (aD (aM dn)) bo)
 (aD (bJ (gz (cN (aZ (dS T) hr (ai (rj (fF T) (qM (rv 5) aj)) (ai (rv 4) aq))))) (aD (aM dn)) bo))))))))))
 (aD (aM (c7 (oq hu) nL (aZ (dI T) hr (ai (cF T.ec_WishError (ai aE aq)) aq)) aE)))))
 (case g0=>intro _ _ _ _ q;exact (bW q))
 (case e0=>intro _ _ _ _;exact (aZ (fT T) hr (ai (rv 2) aq)))
 (case g1=>intro _ _ _ _ q;exact (bW q))
 (case e1=>intro _ _ _ _;exact (aZ (dI T) hr (ai (rv 0) aq)))
end
end My
namespace PySem.W.Fast
def tw1296352486034281246:=()
def tw12922553935947478378:=()
def tw11529309971420857993:=()
def tw2680600448237686913:=()
def tw17601689275918349295:=()
def tw775746016712323889:=()
def tw13804033601723032256:=()
def tw9844894689872169654:=()
def tw10742771706170950428:=()
def tw12273316622351816355:=()
def tw13449500872588702800:=()
def tw7395315373879495916:=()
def tw2209270652883021439:=()
def tw16345578898060602303:=()
def tw2554946808537849466:=()
def tw4797178512349165000:=()
def tw3132053685992520947:=()
def tw16851093004144096908:=()
def tw15477826947988325420:=()
def tw7485806723861990027:=()
def tw7177558819598857311:=()
def tw3968224069707459156:=()
def tw13211227351737005136:=()
def tw143526692721226085:=()
def tw16362956179265160575:=()
def tw13043891452646088948:=()
def tw10697507898223291028:=()
def tw7659136747610195555:=()
def tw17271261646558273995:=()
def tw17507378960852452518:=()
def tw14880759742527078578:=()
def tw4303502613071081747:=()
def tw9575878384039085319:=()
def tw15699311013358060253:=()
def tw10412474530082171565:=()
def tw13283756417916963241:=()
def tw2128797848772684284:=()
def tw539655099547768574:=()
def tw14520120641245458641:=()
def tw14596294888792842918:=()
def tw14368095311692579769:=()
def tw16270511993435561370:=()
def tw4602698822641913486:=()
def tw4656810034666863082:=()
def tw17875385338126993432:=()
def tw2278612703878559820:=()
def tw9405850783950172437:=()
def tw3667160541385834771:=()
def tw5551760952698089959:=()
def tw9719560107841918782:=()
def tw46859346958068063:=()
def tw7366454316468208380:=()
def tw11887096709546099145:=()
def tw8569504287946248102:=()
def tw17339411606525655967:=()
def tw1646859492123159241:=()
def tw7146504213129162735:=()
def tw6492712990510544954:=()
def tw6760562628168849455:=()
def tw17826124655082789238:=()
def tw9660816276662668083:=()
def tw8774076336339155383:=()
def tw3759670032618133266:=()
def tw2130165399867952487:=()
def tw13999388216656146705:=()
def tw11548750599545163027:=()
def tw17707074554393709628:=()
def tw17473486036206740731:=()
def tw11829211812734957457:=()
def tw14932711321228348225:=()
def tw6370239036020159524:=()
def tw13670332214873377718:=()
def tw17406713604731119164:=()
def tw18263705232867860946:=()
def tw17955408939080323617:=()
def tw17383175483212029631:=()
def tw10343512611490302031:=()
def tw15445867792073859614:=()
def tw9061681346591824712:=()
def tw3807656013173454085:=()
def tw16869267123123818758:=()
def tw1662280985247473348:=()
def tw1472590947025698869:=()
def tw4629202615712432484:=()
def tw17520963925895837161:=()
def tw4977250035400449107:=()
def tw2428215140685211705:=()
def tw13767966711216157118:=()
def tw6353106238767891489:=()
def tw3743331195802640639:=()
def tw18175632989313836870:=()
def tw11342424999869828106:=()
def tw570229882843727262:=()
def tw5374297475606763311:=()
def tw7355234454973435043:=()
def tw16100230243534211936:=()
def tw15682394569884617870:=()
def tw9241032545671559894:=()
def tw14104641138961522554:=()
def tw11648425862570143469:=()
def tw9637303061950145120:=()
def tw4951377916270058221:=()
def tw13700619674529287463:=()
def tw11063060486495933943:=()
def tw15610929472891562929:=()
def tw9804251024071892573:=()
def tw2495710121033146835:=()
def tw16871500875774226546:=()
def tw16654656914067160136:=()
def tw12261203432351195816:=()
def tw11912984815328393933:=()
def tw7048114968259385933:=()
def tw8715824432945414072:=()
def tw2331535116650803182:=()
def tw14349553624126807994:=()
def tw12541358377857871574:=()
def tw6258358739195965079:=()
def tw10024289874770263449:=()
def tw11684768634037849122:=()
def tw4091266229372956097:=()
def tw5390312951072324831:=()
def tw1734670180430787191:=()
def tw7170402600276030838:=()
def tw3363021037221675906:=()
def tw16670530551715655896:=()
def tw14722726743930163767:=()
def tw13919363000422165672:=()
def tw12847567685888968212:=()
def tw1269471845318186582:=()
def tw12565174565695658873:=()
def tw11495644698526877063:=()
def tw10518121080489676851:=()
def tw5627331457238932383:=()
def tw14481858730483595171:=()
def tw12828021313565845930:=()
def tw9986694819207228266:=()
def tw685289287543717408:=()
def tw4284366751448668939:=()
def tw5948558272240938493:=()
def tw3680111151475497095:=()
def tw6657536767554026716:=()
def tw9139746843900156860:=()
def tw8294779098032084016:=()
def tw7925526509202009413:=()
def tw6164758735622063640:=()
def tw4827319063001488474:=()
def tw4259861219031683302:=()
def tw2135816197006940767:=()
def tw14605736749262406054:=()
def tw13403462150491693775:=()
def tw10887100505688155897:=()
def tw9437192205365527263:=()
def tw8274805117247425842:=()
def tw2991319924664282868:=()
def tw18189732775474352090:=()
def tw18125704226560447445:=()
def tw16847347650862903385:=()
def tw16257026571233973811:=()
def tw15149885371642801872:=()
def tw14431377368123801562:=()
def tw12470346443606308003:=()
def tw13763932767809744562:=()
def tw9916517054569266931:=()
def tw8138255943648677534:=()
def tw7965752290020228002:=()
def tw7690987130604528600:=()
def tw7296790504936616231:=()
def tw5475307901572699402:=()
def tw4037863501753350649:=()
def tw15830863830116560187:=()
def tw12767518769872622919:=()
def tw7461008796727582845:=()
def tw5868052708577333549:=()
def tw457826286580469166:=()
def tw18395769333080197714:=()
def tw16845975776495451930:=()
def tw16187988743323466824:=()
def tw1500442898228532692:=()
def tw13016020825484970825:=()
def tw13000326693237317989:=()
def tw10490959670797296599:=()
def tw9456083166112850168:=()
def tw9434473917798333780:=()
def tw9348446090161894743:=()
def tw8152833144365700918:=()
def tw8031636223342760158:=()
def tw7938399066553640805:=()
def tw7805178376031987835:=()
def tw6844250998410435968:=()
def tw4983971270770809273:=()
def tw4970168222900048858:=()
def tw4907319195260236740:=()
def tw4661298193666837389:=()
def tw4583563077174755156:=()
def tw4092895403260763165:=()
def tw3683521067505887632:=()
def tw3577116589582592924:=()
def tw3515228444221293436:=()
def tw1922823673341154676:=()
def tw17689700654756373463:=()
end PySem.W.Fast
namespace My
open PySem L2
def iJ (K:PySem.W.Frag):Sp:=fun vs H Q _=>∃ (l:Addr) (ns:List Int),vs=[.ref l]∧SqL K H l (ns.map V.int)∧ns.length≤63∧∀ H',Q (.bl true) H'
theorem all_mk {l:PySem.W.OpenLaw} {w:World} {K:PySem.W.Frag} {mg:Str→Option Value} {fa:Addr} (hfa:mg "law"=some (.ref fa)) (T:Txt K mg) :
  ∃ fd:FuncData,(∀ (s:Shared) (v:Value),BindsTo s fd ⟨[v],[]⟩ [("script",v)])∧∀ base:Heap,K.In base→base.Ns mainGlobals mg→bQ l.prog w K mg base CX0 12 fa fd ["script"] (iJ K):=by
 obtain ⟨f,fd,m,kp,b,F⟩:=qE (P:=l.prog) (w:=w) T
 have e2:f=fa:=(Value.ref.inj (Option.some.inj (hfa.symm.trans m))).symm
 subst e2
 refine ⟨fd,fun s v=>.of_eq (b [v] rfl),fun base _ _=>(F base).imp fun vs H Q E h=>?_⟩
 obtain ⟨l,ns,rfl,hS,hl,hQ⟩:=h
 refine ⟨fun _=>l,[],[.sc ns],⟨fun n o h=>(by cases h),fun n m o o' h=>(by cases h)⟩,.cons ⟨l,rfl,SqL.mono (fun b o h=>aI h (by rintro ⟨n,o',e,_⟩;cases e)) hS⟩ .nil,?_⟩
 rw [kX ns]
 intro b μ' H' st r
 cases r
 exact hQ H'
theorem walk {l:PySem.W.OpenLaw} {q:Program} {loose:List Str} {XP:(Str→Option Value)→Heap→Prop} {YP:World→Heap→Prop} {d:DefRec} {K:Params→PySem.W.Frag} (hn:l.most=some 63) (hdf:d.params.defaults=[])
  (hY:∀ (w:World) (h:Heap),YP w h→(K w.params).In h)
  (F:∀ (w:World) (mg:Str→Option Value) (fa:Addr) (h:Heap),(K w.params).In h→h.Ns mainGlobals mg→mg d.name=some (.ref fa) →
   ∃ fd:FuncData,(∀ (s:Shared) (u:Value),BindsTo s fd ⟨[u],[]⟩ [("script",u)])∧∀ base:Heap,(K w.params).In base→base.Ns mainGlobals mg→bQ l.prog w (K w.params) mg base CX0 12 fa fd ["script"] (iJ (K w.params))) :
  PySem.W.WalkO q loose XP YP l.row.toRowW d [] (fun f vs=>PySem.call f vs):=
 L2.n4 (n:=63) (k:=12) (x:="script") (CX:=fun _=>CX0) (sp:=fun w=>iJ (K w.params)) hn (by decide) hdf ⟨rfl,by decide,by decide⟩ hY F (fun _ _ a ns hl _ hS=>⟨a,ns,rfl,hS,hl,fun _=>rfl⟩) fun _ _ _ _ _ z=>z
end My
open PySem PySem.W PyProof.Rows
set_option maxRecDepth 100000 in
set_option maxHeartbeats 0 in
theorem PySem.Challenge.cw_wishstrike_k08_refusals_apart_holds : PySem.Challenge.rw_wishstrike_k08_refusals_apart.Holds := by
  w_on;o_law;k_head;(case hw=>w_witness2)
  k_fill
  refine My.walk (l:=PySem.Challenge.rw_wishstrike_k08_refusals_apart) rfl rfl (fun w h Y=>PySem.W.kIn_of Y) ?F
  case F=>
    intro w mg fa h KX G hmg
    refine' My.all_mk hmg ?T
    (case T=>constructor<;>first | (refine' PySem.W.mg_none_of KX G ?z;(case z=>k_is)) | (refine' L2.sS KX G ?a ?l ?c ?k;(case a=>k_is);(case l=>k_is);(case c=>k_is);(case k=>k_is)) | (refine' L2.l7 KX G ?a ?xq;(case a=>k_is);(case xq=>k_exc)) | (constructor;(case le=>decide);all_goals (repeat' (first | exact (fun _ z=>absurd z List.not_mem_nil) | refine List.forall_mem_cons.mpr ⟨?_,?_⟩));all_goals first | (refine' L2.sj KX G ?a ?b1 ?b2 ?b3 ?b4 ?b5 ?b6 ?b7 ?b8;(case a=>k_is);(case b1=>k_is);(case b2=>k_is);(case b3=>k_is);(case b4=>k_is);(case b5=>k_is);(case b6=>k_is);(case b7=>k_is);(case b8=>k_is)) | (refine' L2.mU KX G ?a ?a' ?xq ?z ?e;(case a=>k_is);(case a'=>k_is);(case xq=>k_is);(case z=>first | exact Or.inl rfl | exact Or.inr (by decide));(case e=>decide +kernel))) | (refine' L2.tF KX G ?a ?b1 ?b2 ?b3 ?b4 ?b5 ?b6 ?b7 ?b8 ?w ?xq ?l ?d1 ?d2 ?d3 ?d4 ?d5 ?d6 ?d7 ?e1 ?e2 ?e3 ?e4;(case a=>k_is);(case b1=>k_is);(case b2=>k_is);(case b3=>k_is);(case b4=>k_is);(case b5=>k_is);(case b6=>k_is);(case b7=>k_is);(case b8=>k_is);(case w=>k_is);(case xq=>k_exc);(case l=>k_is);(case d1=>k_is);(case d2=>k_is);(case d3=>k_is);(case d4=>k_is);(case d5=>k_is);(case d6=>k_is);(case d7=>k_is);(case e1=>k_is);(case e2=>k_is);(case e3=>k_is);(case e4=>k_is)))
#print axioms PySem.Challenge.cw_wishstrike_k08_refusals_apart_holds
