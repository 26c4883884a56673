import PyProof.Rows.All
import Wide.All
import OpenK.AllK
import Wide.FinOn
import Lean
import PyProof.EqAt
import PyProof.EqKinds
import PyProof.TupleCall
import PySem.Challenge.RW_wishstrike_k06_names_settled
set_option Elab.async false
set_option linter.all false
set_option maxRecDepth 100000
namespace L2
open PySem PySem.Spec PyProof.Rows
abbrev Key:=Sum Int Str
def uc:Key→Value→Bool
 | .inl k,v=>Value.isInt k v
 | .inr x,v=>Value.isStrOf x v
def Cc (w:World):Key→Int
 | .inl k=>hashInt k
 | .inr x=>hashStr w x
theorem bO:∀ {k:Key} {v:Value},uc k v=true→(∃ i t,k=Sum.inl i∧v=Value.int i t)∨(∃ x t,k=Sum.inr x∧v=Value.str x t)
 | .inl i,v,h=>by
  obtain ⟨t,e⟩:=Value.isInt_shape (k:=i) (v:=v) h
  exact .inl ⟨i,t,rfl,e⟩
 | .inr x,v,h=>by
  obtain ⟨t,e⟩:=Value.isStrOf_shape (x:=x) (v:=v) h
  exact .inr ⟨x,t,rfl,e⟩
theorem yw (a b:Int):decide ((Sum.inl a:Key)=Sum.inl b)=(a == b):=by
 by_cases e:a=b
 ·subst e;simp
 ·have h:¬(Sum.inl a:Key)=Sum.inl b:=fun q=>e (Sum.inl.inj q)
  rw [decide_eq_false h]
  exact (beq_eq_false_iff_ne.mpr e).symm
theorem yV (a b:Str):decide ((Sum.inr a:Key)=Sum.inr b)=decide (a=b):=by
 by_cases e:a=b
 ·subst e;simp
 ·have h:¬(Sum.inr a:Key)=Sum.inr b:=fun q=>e (Sum.inr.inj q)
  rw [decide_eq_false h,decide_eq_false e]
theorem wx (a:Int) (b:Str):decide ((Sum.inl a:Key)=Sum.inr b)=false:=decide_eq_false (fun q=>nomatch q)
theorem wu (a:Str) (b:Int):decide ((Sum.inr a:Key)=Sum.inl b)=false:=decide_eq_false (fun q=>nomatch q)
def iZ (prog:Program) (w:World):PySem.KeyKind prog w Key where
 is:=uc
 hash:=Cc w
 inj:=fun v a b ha hb=>by
  rcases bO ha with ⟨i,t,rfl,rfl⟩ | ⟨x,t,rfl,rfl⟩
  ·rcases bO hb with ⟨j,u,rfl,e⟩ | ⟨y,u,rfl,e⟩
   ·injection e with e1 _;rw [e1]
   ·exact nomatch e
  ·rcases bO hb with ⟨j,u,rfl,e⟩ | ⟨y,u,rfl,e⟩
   ·exact nomatch e
   ·injection e with e1 _;rw [e1]
 byValue:=fun k v h=>by
  rcases bO h with ⟨i,t,rfl,rfl⟩ | ⟨x,t,rfl,rfl⟩<;>rfl
 pyHash:=fun hv h=>by
  rcases bO hv with ⟨i,t,rfl,rfl⟩ | ⟨x,t,rfl,rfl⟩
  ·exact wpAny_pyHash_int h
  ·exact wpAny_pyHash_str h
 eqBool:=fun hu hv h=>by
  rcases bO hu with ⟨i,t,rfl,rfl⟩ | ⟨x,t,rfl,rfl⟩
  ·rcases bO hv with ⟨j,u,rfl,rfl⟩ | ⟨y,u,rfl,rfl⟩
   ·rw [yw] at h;exact wpAny_eqBool_int h
   ·rw [wx] at h;exact SeqAt.EqAt.int_str i t y u _ _ _ _ h
  ·rcases bO hv with ⟨j,u,rfl,rfl⟩ | ⟨y,u,rfl,rfl⟩
   ·rw [wu] at h;exact SeqAt.EqAt.str_int x t j u _ _ _ _ h
   ·rw [yV] at h;exact wpAny_eqBool_str h
 «strs»:=fun k x t v h=>by
  rcases bO h with ⟨i,u,rfl,e⟩ | ⟨y,u,rfl,e⟩
  ·exact nomatch e
  ·injection e with e1 _
   subst e1
   cases v<;>rfl
inductive V where
 | non | bl (b:Bool) | int (i:Int) | str (x:Str) | byt (b:Array UInt8) | flt (b:UInt64) | ref (a:Addr) | ty (n:String)
 deriving DecidableEq
def RelV:V→Value→Prop
 | .non,u=>u=Value.none
 | .bl b,u=>u=Value.bool b
 | .int i,u=>∃ t,u=Value.int i t
 | .str x,u=>∃ t,u=Value.str x t
 | .byt b,u=>∃ t,u=Value.bytes b t
 | .flt b,u=>∃ t,u=Value.float b t
 | .ref a,u=>u=Value.ref a
 | .ty n,u=>u=Value.type n
abbrev Vals:List V→List Value→Prop:=Paired RelV
theorem Vals.length {xs:List V} {us:List Value} (r:Vals xs us):xs.length=us.length:=Paired.length r
theorem Vals.get:∀ {xs:List V} {us:List Value} {i:Nat} {x:V},Vals xs us→xs[i]?=some x→∃ u,us[i]?=some u∧RelV x u
 | _,_,_,_,.nil,e=>by simp at e
 | _,_,0,_,.cons r _,e=>by simp at e;subst e;exact ⟨_,rfl,r⟩
 | _,_,i+1,x,.cons _ t,e=>by
  obtain ⟨u,h1,h2⟩:=Vals.get (i:=i) (x:=x) t (by simpa using e)
  exact ⟨u,by simpa using h1,h2⟩
theorem Vals.set {x:V} {u:Value} (r:RelV x u):∀ {xs:List V} {us:List Value} (i:Nat),Vals xs us→Vals (xs.set i x) (us.set i u)
 | _,_,_,.nil=>.nil
 | _,_,0,.cons _ t=>.cons r t
 | _,_,i+1,.cons q t=>.cons q (Vals.set r i t)
theorem Vals.append:∀ {xs ys:List V} {us ws:List Value},Vals xs us→Vals ys ws→Vals (xs++ys) (us++ws)
 | _,_,_,_,.nil,s=>s
 | _,_,_,_,.cons r t,s=>.cons r (Vals.append t s)
theorem Vals.take:∀ {xs:List V} {us:List Value} (n:Nat),Vals xs us→Vals (xs.take n) (us.take n)
 | _,_,0,_=>.nil
 | _,_,_+1,.nil=>.nil
 | _,_,n+1,.cons r t=>.cons r (Vals.take n t)
theorem Vals.drop:∀ {xs:List V} {us:List Value} (n:Nat),Vals xs us→Vals (xs.drop n) (us.drop n)
 | _,_,0,r=>r
 | _,_,_+1,.nil=>.nil
 | _,_,n+1,.cons _ t=>Vals.drop n t
def tQ:Option V→Option Value→Prop
 | some v,some u=>RelV v u
 | none,none=>True
 | _,_=>False
def KV {κ:Type}:List (κ×V)→List (κ×Value)→Prop:=Paired fun (p:κ×V) (q:κ×Value)=>p.1=q.1∧RelV p.2 q.2
def kV:Key→V
 | .inl i=>.int i
 | .inr x=>.str x
inductive HO where
 | lst (xs:List V)
 | tup (xs:List V)
 | dK (kvs:List (Key×V)) | dT (kvs:List (List Key×V))
 | set (S:Int→Bool) (n:Nat)
 | ins (C dx:Addr) (fs:List (Str×V))
 | own (x:Addr)
 | xd (fs:List (Str×V))
 | met (f x:Addr)
 | rng (lo hi:Int)
 | frz (o:Obj) (u:HO)
 | tbl (ps:Array Value)
 | ext (φ:Heap→Prop)
abbrev Hp:=Addr→Option HO
def upd (H:Hp) (a:Addr) (o:HO):Hp:=fun b=>if b=a then some o else H b
theorem bE {H:Hp} {a:Addr} {o:HO}:upd H a o a=some o:=by unfold upd;rw [if_pos rfl]
theorem aB {H:Hp} {a b:Addr} {o:HO} (h:b≠a):upd H a o b=H b:=by unfold upd;rw [if_neg h]
theorem aS {H:Hp} {a b:Addr} {o:HO} (h:H a=some o) (h':H b=none):a≠b:=by
 intro e;subst e;rw [h] at h';cases h'
section
variable (P:Program) (w:World)
def bC (H:Hp) (h:Heap) (a:Addr):HO→Prop
 | .lst xs=>xs.length≤sizeLine∧∃ (its:List Value) (n:Nat),Vals xs its∧h.get? a=some { cls:=.type "list",data:=.seq its.toArray n }
 | .tup xs=>xs.length≤sizeLine∧∃ its:List Value,Vals xs its∧IsTup h a its.toArray
 | .dK kvs=>kvs.length≤sizeLine∧(a == sysModules)=false∧∃ vs,KV kvs vs∧h.DictOf (iZ P w) a vs
 | .dT kvs=>kvs.length≤sizeLine∧(a == sysModules)=false∧∃ xs:List (List Key×Addr×Value),
   Paired (fun (p:List Key×V) (q:List Key×Addr×Value)=>p.1=q.1∧H q.2.1=some (.tup (p.1.map kV))∧RelV p.2 q.2.2) kvs xs ∧
   ∃ o es ep,h.get? a=some o∧o.ExactDict∧o.data=.dict es ep∧es.toList=xs.map (entryOfKey (tupleKind (iZ P w)))∧(xs.map (·.1)).Nodup
 | .set S n=>h.SetOf (intKind P w) a S n
 | .ins C dx fs=>H dx=some (.own a)∧fs.length≤1000∧dx≠a∧h.get? a=some (PySem.W.instObj C dx) ∧
   ∃ mA,h.Ns1 dx mA∧(∀ f,tQ (fs.lookup f) (mA f))∧PySem.Within mA (fs.map (·.1))
 | .own _=>∃ o,h.get? a=some o
 | .xd fs=>∃ mA,h.Ns1 a mA∧∀ f,tQ (fs.lookup f) (mA f)
 | .rng lo hi=>∃ t u v,h.get? a=some { cls:=.type "range",data:=.fields #[.int lo t,.int hi u,.int 1 v] }
 | .frz o u=>h.get? a=some o∧bC H h a u
 | .tbl ps=>h.get? a=some { cls:=.none,data:=.fields ps }
 | .met f x=>h.get? a=some (PySem.W.methodObj (.ref f) (.ref x))
 | .ext φ=>φ h∧(∃ o,h.get? a=some o)∧∀ h1 h2:Heap,φ h1→(∀ o,h1.get? a=some o→h2.get? a=some o)→φ h2
def HOk (H:Hp) (h:Heap):Prop:=∀ a o,H a=some o→bC P w H h a o
end
section
variable {P:Program} {w:World} {H H':Hp} {h h':Heap} {a:Addr} {o:HO}
theorem bC.lt (x:bC P w H h a o):a < h.objs.size:=by
 cases o with
 | lst xs=>obtain ⟨_,_,_,_,e⟩:=x;exact Heap.lt_size e
 | tup xs=>obtain ⟨_,_,_,p⟩:=x;exact p.lt
 | dK kvs=>obtain ⟨_,_,_,_,o,_,_,e,_⟩:=x;exact Heap.lt_size e
 | dT kvs=>obtain ⟨_,_,_,_,o,_,_,e,_⟩:=x;exact Heap.lt_size e
 | set S n=>obtain ⟨o,_,_,_,e,_⟩:=x;exact Heap.lt_size e
 | ins C dx fs=>obtain ⟨_,_,_,e,_⟩:=x;exact Heap.lt_size e
 | own y=>obtain ⟨_,e⟩:=x;exact Heap.lt_size e
 | xd fs=>obtain ⟨_,⟨_,_,_,e,_⟩,_⟩:=x;exact Heap.lt_size e
 | rng lo hi=>obtain ⟨_,_,_,e⟩:=x;exact Heap.lt_size e
 | frz ob u=>obtain ⟨e,_⟩:=x;exact Heap.lt_size e
 | tbl ps=>exact Heap.lt_size (show h.get? a=some _ from x)
 | met f y=>exact Heap.lt_size (show h.get? a=some _ from x)
 | ext φ=>obtain ⟨_,⟨_,e⟩,_⟩:=x;exact Heap.lt_size e
theorem Paired.y_ {α β:Type} {F G:α→β→Prop}:∀ {l₁:List α} {l₂:List β},Paired F l₁ l₂→(∀ a b,F a b→G a b)→Paired G l₁ l₂
 | _,_,.nil,_=>.nil
 | _,_,.cons r t,f=>.cons (f _ _ r) (Paired.y_ t f)
theorem bC.fR (x:bC P w H h a o) (k:∀ b u,(b=a∨H b=some (.own a))→h.get? b=some u→h'.get? b=some u)
  (ho:∀ b,H b=some (.own a)→H' b=some (.own a)) (ht:∀ b xs,H b=some (.tup xs)→H' b=some (.tup xs)):bC P w H' h' a o:=by
 induction o with
 | lst xs=>obtain ⟨z,its,n,r,e⟩:=x;exact ⟨z,its,n,r,k _ _ (.inl rfl) e⟩
 | tup xs=>obtain ⟨z,its,r,ob,e,c⟩:=x;exact ⟨z,its,r,ob,k _ _ (.inl rfl) e,c⟩
 | dK kvs=>obtain ⟨z,y,vs,r,ob,es,ep,e,c⟩:=x;exact ⟨z,y,vs,r,ob,es,ep,k _ _ (.inl rfl) e,c⟩
 | dT kvs=>
  obtain ⟨z,y,xs,r,ob,es,ep,e,c⟩:=x
  exact ⟨z,y,xs,Paired.y_ r fun p q z=>⟨z.1,ht _ _ z.2.1,z.2.2⟩,ob,es,ep,k _ _ (.inl rfl) e,c⟩
 | set S n=>obtain ⟨ob,es,ep,t,e,c⟩:=x;exact ⟨ob,es,ep,t,k _ _ (.inl rfl) e,c⟩
 | ins C dx fs=>
  obtain ⟨d,z,ne,e,mA,⟨od,es,ep,e2,c⟩,r⟩:=x
  exact ⟨ho _ d,z,ne,k _ _ (.inl rfl) e,mA,⟨od,es,ep,k _ _ (.inr d) e2,c⟩,r⟩
 | own y=>obtain ⟨ob,e⟩:=x;exact ⟨ob,k _ _ (.inl rfl) e⟩
 | xd fs=>obtain ⟨mA,⟨od,es,ep,e,c⟩,r⟩:=x;exact ⟨mA,⟨od,es,ep,k _ _ (.inl rfl) e,c⟩,r⟩
 | rng lo hi=>obtain ⟨t,u,v,e⟩:=x;exact ⟨t,u,v,k _ _ (.inl rfl) e⟩
 | frz ob u ih=>obtain ⟨e,q⟩:=x;exact ⟨k _ _ (.inl rfl) e,ih q⟩
 | tbl ps=>
  have e:h.get? a=some { cls:=.none,data:=.fields ps }:=x
  show h'.get? a=some { cls:=.none,data:=.fields ps }
  exact k a _ (.inl rfl) e
 | met f y=>
  have e:h.get? a=some (PySem.W.methodObj (.ref f) (.ref y)):=x
  show h'.get? a=some (PySem.W.methodObj (.ref f) (.ref y))
  exact k a _ (.inl rfl) e
 | ext φ=>obtain ⟨p,⟨o,e⟩,st⟩:=x;exact ⟨st _ _ p fun o q=>k _ _ (.inl rfl) q,⟨o,k _ _ (.inl rfl) e⟩,st⟩
theorem HOk.lt (x:HOk P w H h) (e:H a=some o):a < h.objs.size:=(x a o e).lt
theorem HOk.fresh (x:HOk P w H h) (e:h.objs.size≤a):H a=none:=by
 cases q:H a with
 | none=>rfl
 | some u=>exact absurd (Nat.lt_of_lt_of_le (x.lt q) e) (Nat.lt_irrefl _)
theorem HOk.kept (x:HOk P w H h) (k:∀ b u,h.get? b=some u→h'.get? b=some u):HOk P w H h':=fun a o e=>
 (x a o e).fR (fun b u _ q=>k b u q) (fun _ q=>q) fun _ _ q=>q
theorem HOk.laid (x:HOk P w H h) (k:∀ b u,h.get? b=some u→h'.get? b=some u) (hp:h.objs.size≤a) (new:bC P w (upd H a o) h' a o):HOk P w (upd H a o) h':=fun b u e=>by
 have hn:=x.fresh hp
 by_cases hb:b=a
 ·subst hb;rw [bE] at e;cases e;exact new
 ·rw [aB hb] at e
  exact (x b u e).fR (fun c v _ q=>k c v q) (fun c q=>by rw [aB (aS q hn)];exact q) fun c xs q=>by rw [aB (aS q hn)];exact q
end
def Rd (H:Hp) (a:Addr) (u:HO):Prop:=H a=some u∨∃ o,H a=some (.frz o u)
theorem Rd.ok {P:Program} {w:World} {H:Hp} {h:Heap} {a:Addr} {u:HO} (r:Rd H a u) (x:HOk P w H h):bC P w H h a u:=by
 rcases r with r | ⟨o,r⟩
 ·exact x a u r
 ·obtain ⟨_,q⟩:=x a _ r
  exact q
def Mut:Option HO→Prop
 | some (.lst _)=>True
 | some (.dK _)=>True
 | some (.dT _)=>True
 | some (.set _ _)=>True
 | some (.ins _ _ _)=>True
 | some (.ext _)=>True
 | _=>False
section
variable {P:Program} {w:World} {H:Hp} {h h':Heap} {x e:Addr} {o':HO}
theorem HOk.write (ok:HOk P w H h) (mu:Mut (H x)) (he:e=x∨H e=some (.own x)) (k:∀ b u,b≠e→h.get? b=some u→h'.get? b=some u) (heo:∃ u,h'.get? e=some u)
  (new:bC P w (upd H x o') h' x o'):HOk P w (upd H x o') h':=fun b u q=>by
 have nown:∀ c y,H c=some (.own y)→c≠x:=fun c y r z=>by subst z;rw [r] at mu;exact mu
 have ntup:∀ c xs,H c=some (.tup xs)→c≠x:=fun c xs r z=>by subst z;rw [r] at mu;exact mu
 by_cases hb:b=x
 ·subst hb;rw [bE] at q;cases q;exact new
 ·rw [aB hb] at q
  by_cases hbe:b=e
  ·have q':H b=some (.own x):=by
    rcases he with z | z
    ·exact absurd (hbe.trans z) hb
    ·rw [hbe];exact z
   rw [q] at q';cases q'
   obtain ⟨v,hv⟩:=heo
   exact ⟨v,by rw [hbe];exact hv⟩
  ·refine (ok b u q).fR (fun c v hc r=>k c v ?_ r) (fun c r=>by rw [aB (nown c b r)];exact r) fun c xs r=>by rw [aB (ntup c xs r)];exact r
   rcases hc with rfl | hc
   ·exact hbe
   ·rintro rfl
    rcases he with z | z
    ·exact nown c b hc z
    ·rw [hc] at z;cases z;exact hb rfl
end
structure Un (fs ex:List Addr) (H H':Hp) (h h':Heap):Prop where
 keep:∀ b o,h.get? b=some o→H b=none→b∉fs→b∉ex→h'.get? b=some o
 slot:∀ b o,h.get? b=some o→H b=none→b∈fs→b∉ex→∃ sl,h'.get? b=some { o with slots:=sl }
 free:∀ b o,h.get? b=some o→H b=none→b∉ex→H' b=none
 there:∀ b o,h.get? b=some o→b∉ex→∃ o',h'.get? b=some o'
 tups:∀ b xs,H b=some (.tup xs)→H' b=some (.tup xs)
 frzs:∀ b o u,H b=some (.frz o u)→H' b=some (.frz o u)
 tbls:∀ b ps,H b=some (.tbl ps)→∃ more,H' b=some (.tbl (ps++more))
section
variable {fs fs' ex ex':List Addr} {H H1 H2:Hp} {h h1 h2 h':Heap} {a x e:Addr} {o:HO}
theorem Un.any (u:Un fs ex H H1 h h1) {b:Addr} {ob:Obj} (q:h.get? b=some ob) (n:H b=none) (hx:b∉ex):∃ sl,h1.get? b=some { ob with slots:=sl }:=by
 by_cases hb:b∈fs
 ·exact u.slot b ob q n hb hx
 ·exact ⟨ob.slots,u.keep b ob q n hb hx⟩
theorem Un.kept (k:∀ b u,h.get? b=some u→h'.get? b=some u):Un fs ex H H h h':=
 ⟨fun b ob q _ _ _=>k b ob q,fun b ob q _ _ _=>⟨ob.slots,k b ob q⟩,fun _ _ _ n _=>n,fun b ob q _=>⟨ob,k b ob q⟩,fun _ _ q=>q,fun _ _ _ q=>q,fun _ ps q=>⟨#[],by rw [q];simp⟩⟩
theorem Un.refl:Un fs ex H H h h:=Un.kept fun _ _ q=>q
theorem Un.laid (k:∀ b u,h.get? b=some u→h'.get? b=some u) (hp:h.objs.size≤a) (hn:H a=none):Un fs ex H (upd H a o) h h' where
 keep:=fun b u q _ _ _=>k b u q
 slot:=fun b u q _ _ _=>⟨u.slots,k b u q⟩
 free:=fun b u q n _=>by rw [aB (Nat.ne_of_lt (Nat.lt_of_lt_of_le (Heap.lt_size q) hp))];exact n
 there:=fun b u q _=>⟨u,k b u q⟩
 tups:=fun b xs q=>by rw [aB (aS q hn)];exact q
 frzs:=fun b u xs q=>by rw [aB (aS q hn)];exact q
 tbls:=fun b ps q=>⟨#[],by rw [aB (aS q hn),q];simp⟩
theorem Un.write (mu:Mut (H x)) (he:e=x∨H e=some (.own x)) (k:∀ b u,b≠e→h.get? b=some u→h'.get? b=some u) (heo:∃ u,h'.get? e=some u):Un fs ex H (upd H x o) h h':=by
 have hx:∀ b,H b=none→b≠x:=fun b n z=>by subst z;rw [n] at mu;exact mu
 have hb:∀ b,H b=none→b≠e:=fun b n z=>by
  subst z
  rcases he with r | r
  ·exact hx b n r
  ·rw [n] at r;cases r
 have hm:∀ b u,H b=some u→¬Mut (some u)→b≠x:=fun b u q nm z=>by subst z;rw [q] at mu;exact nm mu
 refine ⟨fun b u q n _ _=>k b u (hb b n) q,fun b u q n _ _=>⟨u.slots,k b u (hb b n) q⟩,fun b u q n _=>by rw [aB (hx b n)];exact n,fun b u q _=>?_,
  fun b xs q=>by rw [aB (hm b _ q fun z=>z)];exact q,fun b u xs q=>by rw [aB (hm b _ q fun z=>z)];exact q,fun b ps q=>⟨#[],by rw [aB (hm b _ q fun z=>z),q];simp⟩⟩
 by_cases hbe:b=e
 ·subst hbe;exact heo
 ·exact ⟨u,k b u hbe q⟩
end
def trk (h:Heap) (H:Hp):List Addr:=(List.range h.objs.size).filter fun a=>(H a).isSome
def gC (h:Heap) (H:Hp):Heap:=PySem.W.hideAll h (trk h H)
theorem qB (h:Heap) (H:Hp):(gC h H).objs.size=h.objs.size:=PySem.W.hideAll_size _ _
theorem tu {h:Heap} {H:Hp} {b:Addr} {o:Obj} (e:h.get? b=some o) (n:H b=none):(gC h H).get? b=some o:=
 PySem.W.hideAll_get _ e fun hm=>by
  have q:(H b).isSome=true:=(List.mem_filter.mp hm).2
  rw [n] at q;simp at q
theorem uY {h:Heap} {H:Hp} {b:Addr} {o:Obj} (e:(gC h H).get? b=some o):h.get? b=some o∧H b=none:=by
 have e':h.get? b=some o:=PySem.W.of_hideAll (trk h H) e
 refine ⟨e',?_⟩
 cases q:H b with
 | none=>rfl
 | some x=>
  have hm:b∈trk h H:=List.mem_filter.mpr ⟨List.mem_range.mpr (Heap.lt_size e'),by simp [q]⟩
  have z:(gC h H).get? b=none:=PySem.W.hideAll_none (trk h H) hm
  rw [z] at e;cases e
def vU (g h:Heap) (L:Addr):List (Addr×Obj):=(List.range h.objs.size).filterMap fun a=>if a=L∨(g.get? a).isSome=true then none else (h.get? a).map fun o=>(a,o)
def rest (g h:Heap) (L d:Addr):List (Addr×Obj):=(vU g h L).filter fun p=>decide (p.1≠d)
structure Mod (K:PySem.W.Frag) (mg:Str→Option Value) (base:Heap):Prop where
 kin:K.In base
 glob:base.Ns mainGlobals mg
 blt:∃ mb,base.Ns builtinsNs mb∧∀ x:Str,x≠"__name__"→mb x=bootBuiltins x
 nolimit:base.NoLimit
structure Cx where
 prog:Program
 w:World
 K:PySem.W.Frag
 mg:Str→Option Value
 base:Heap
 A:Around
 N:List Str
 s₀:Shared
 H₀:Hp
 env:Env
 outer:List Env
 stack:List Env
 ex:List Addr
 fn:Str→Bool
 calm:Bool
 pn:List (Addr×Obj)
 xe:Value→Shared→Prop
def frs (l:List Env):List Addr:=l.filterMap (·.frame)
abbrev Cx.fs (X:Cx):List Addr:=frs X.outer
def Vis (sc:Scope) (x:Str):Prop:=sc.names.lookup x=some .local∨sc.names.lookup x=some .cell∨sc.names.lookup x=some .free
def Loc (sc:Scope) (x:Str):Prop:=sc.names.lookup x=some .local∨sc.names.lookup x=some .cell
def Look (env:Env) (h:Heap) (m:Str→Option Value) (x:Str) (u:Value):Prop:=
 (env.kindOf x=some .local∧m x=some u)∨((env.kindOf x=some .cell∨env.kindOf x=some .free)∧∃ c,env.cells.lookup x=some c∧h.IsCell c (some u))
structure Cx.Ok (X:Cx):Prop where
 mod:Mod X.K X.mg X.base
 kind:X.env.scope.kind=.function
 glob:X.env.globals=mainGlobals
 blt:X.env.builtins=builtinsNs
 above:X.s₀.heap.objs.size≤X.env.locals
 inj:∀ x y c,X.env.cells.lookup x=some c→X.env.cells.lookup y=some c→x=y
 has:∀ x,(X.env.kindOf x=some .cell∨X.env.kindOf x=some .free)→∃ c,X.env.cells.lookup x=some c
 cab:∀ x c,X.fn x=true→X.env.cells.lookup x=some c→X.s₀.heap.objs.size≤c
 hd:X.calm=true→X.A.handled=none
 frames:X.A.frames=some X.stack
 stk:X.stack=X.outer∨(X.stack=X.env :: X.outer∧X.env.frame=some X.env.locals)
 exf:∀ b∈X.ex,b≠X.env.locals∧∀ x c,X.env.cells.lookup x=some c→c≠b
 bs:∀ b o,X.base.get? b=some o→X.s₀.heap.get? b=some o∧X.H₀ b=none
 bsz:X.base.objs.size≤X.s₀.heap.objs.size
 noex:∀ b o,X.base.get? b=some o→b∉X.ex
 exfs:∀ b∈X.ex,b∉X.fs
 d6:X.s₀.heap.FunFrames X.base X.outer
 frf:∀ b∈X.fs,X.H₀ b=none
structure Inv (X:Cx) (pins:List (Addr×Obj)) (σ:List (Option V)) (H:Hp) (s:Shared):Prop where
 ok:X.Ok
 os:s.os=X.s₀.os
 bare:AllBare s.gens
 base:Un X.fs X.ex X.H₀ H X.s₀.heap s.heap
 loc:∃ m,s.heap.Ns X.env.locals m∧∀ (i:Nat) (x:Str) (v:V),X.N[i]?=some x→σ[i]?=some (some v)→Vis X.env.scope x→∃ u,RelV v u∧Look X.env s.heap m x u
 cell:∀ x c,X.env.cells.lookup x=some c→∃ v,s.heap.IsCell c v
 free:H X.env.locals=none
 freeC:∀ x c,X.env.cells.lookup x=some c→H c=none
 pin:∀ p∈X.pn++pins,s.heap.get? p.1=some p.2∧H p.1=none∧p.1≠X.env.locals∧p.1∉X.fs∧∀ v,p.2.data≠.cell v
 hok:HOk X.prog X.w H s.heap
 len:σ.length=X.N.length
section
variable {X:Cx} {pins:List (Addr×Obj)} {σ:List (Option V)} {H H':Hp} {s:Shared} {h':Heap}
theorem Cx.Ok.CG (ok:X.Ok) {b:Addr} {o:Obj} (e:X.base.get? b=some o):b∉X.fs:=fun hb=>by
 have:=(ok.d6.mem hb).1
 rw [e] at this;cases this
theorem Inv.bs (I:Inv X pins σ H s):∀ b o,X.base.get? b=some o→s.heap.get? b=some o∧H b=none:=fun b o e=>
 ⟨I.base.keep b o (I.ok.bs b o e).1 (I.ok.bs b o e).2 (I.ok.CG e) (I.ok.noex b o e),I.base.free b o (I.ok.bs b o e).1 (I.ok.bs b o e).2 (I.ok.noex b o e)⟩
theorem Inv.bk (I:Inv X pins σ H s):∀ b o,X.base.get? b=some o→s.heap.get? b=some o:=fun b o e=>(I.bs b o e).1
theorem Inv.mod (I:Inv X pins σ H s):Mod X.K X.mg X.base:=I.ok.mod
theorem Inv.kIn (I:Inv X pins σ H s):X.K.In s.heap:=I.ok.mod.kin.keeps I.bk
theorem Inv.lt (I:Inv X pins σ H s):X.env.locals < s.heap.objs.size:=let ⟨_,hn,_⟩:=I.loc;hn.lt
theorem Inv.sz (I:Inv X pins σ H s):X.s₀.heap.objs.size≤s.heap.objs.size:=Nat.le_trans I.ok.above (Nat.le_of_lt I.lt)
theorem Inv.yv (I:Inv X pins σ H s) {a:Addr} (h:s.heap.objs.size≤a):a∉X.fs:=fun hb=>by
 obtain ⟨_,o,ho,_⟩:=I.ok.d6.mem hb
 exact absurd (Nat.lt_of_lt_of_le (Heap.lt_size ho) (Nat.le_trans I.sz h)) (Nat.lt_irrefl _)
theorem Inv.cne (I:Inv X pins σ H s):∀ x c,X.env.cells.lookup x=some c→c≠X.env.locals:=fun x c e z=>by
 obtain ⟨v,o,ho,hd⟩:=I.cell x c e
 obtain ⟨m,⟨o',es,ep,ho',hd',_⟩,_⟩:=I.loc
 rw [z,ho'] at ho;cases ho;rw [hd'] at hd;cases hd
theorem Inv.d6 (I:Inv X pins σ H s):s.heap.FunFrames X.base X.outer:=by
 have all:∀ (l:List Env),(∀ b∈frs l,b∈X.fs)→X.s₀.heap.FunFrames X.base l→s.heap.FunFrames X.base l:=by
  intro l
  induction l with
  | nil=>intro _ _;trivial
  | cons env r ih=>
   intro hs hl
   obtain ⟨hk,⟨L,o,hf,hn,ho,hd⟩,hr⟩:=hl
   have hL:L∈X.fs:=hs L (by unfold frs;rw [List.filterMap_cons,hf];exact List.mem_cons_self)
   obtain ⟨sl,e⟩:=I.base.slot L o ho (I.ok.frf L hL) hL fun z=>I.ok.exfs L z hL
   exact ⟨hk,⟨L,_,hf,hn,e,hd⟩,ih (fun b hb=>hs b (by unfold frs;rw [List.filterMap_cons,hf];exact List.mem_cons_of_mem _ hb)) hr⟩
 exact all X.outer (fun _ hb=>hb) I.ok.d6
theorem Inv.stack (I:Inv X pins σ H s):s.heap.FunFrames X.base X.stack:=by
 rcases I.ok.stk with e | ⟨e,hf⟩
 ·rw [e];exact I.d6
 ·rw [e]
  obtain ⟨m,hn,_⟩:=I.loc
  refine .cons (by rw [I.ok.kind];decide) hf hn ?_ I.d6
  exact Heap.get?_none_of_le (Nat.le_trans I.ok.bsz I.ok.above)
theorem Inv.gi (I:Inv X pins σ H s):∀ b∈frs X.stack,b∈X.env.locals :: X.fs:=fun b hb=>by
 rcases I.ok.stk with e | ⟨e,hf⟩
 ·rw [e] at hb;exact List.mem_cons_of_mem _ hb
 ·rw [e] at hb
  unfold frs at hb
  rw [List.filterMap_cons,hf] at hb
  exact hb
theorem Inv.ku (I:Inv X pins σ H s):∀ b∈frs X.stack,H b=none:=fun b hb=>by
 rcases List.mem_cons.mp (I.gi b hb) with e | hb
 ·rw [e];exact I.free
 ·obtain ⟨_,o,ho,_⟩:=I.ok.d6.mem hb
  exact I.base.free b o ho (I.ok.frf b hb) fun z=>I.ok.exfs b z hb
theorem Inv.step {g':Array GenState} {t':Nat} {d':Drawn} {ch:List Addr} (I:Inv X pins σ H s)
  (hch:∀ b∈ch,(b∈X.ex∨X.s₀.heap.objs.size≤b)∧b≠X.env.locals∧(∀ x c,X.env.cells.lookup x=some c→c≠b)∧∀ p∈X.pn++pins,p.1≠b)
  (keep:∀ b o,b≠X.env.locals→b∉X.fs→b∉ch→s.heap.get? b=some o→H b=none→h'.get? b=some o)
  (slot:∀ b o,b≠X.env.locals→b∈X.fs→b∉ch→s.heap.get? b=some o→H b=none→∃ sl,h'.get? b=some { o with slots:=sl }) (free:∀ b o,b∉ch→s.heap.get? b=some o→H b=none→H' b=none)
  (there:∀ b o,b∉ch→s.heap.get? b=some o→∃ o',h'.get? b=some o')
  (tups:∀ b xs,H b=some (.tup xs)→H' b=some (.tup xs)) (frzs:∀ b o u,H b=some (.frz o u)→H' b=some (.frz o u)) (tbls:∀ b ps,H b=some (.tbl ps)→∃ more,H' b=some (.tbl (ps++more)))
  (ns:∀ m,s.heap.Ns X.env.locals m→h'.Ns X.env.locals m) (hok:HOk X.prog X.w H' h') (hg:AllBare g') :
  Inv X pins σ H' { s with heap:=h',gens:=g',drawn:=d',toks:=t' }:=by
 have neL:∀ b o,X.s₀.heap.get? b=some o→b≠X.env.locals:=fun b o e=>Nat.ne_of_lt (Nat.lt_of_lt_of_le (Heap.lt_size e) I.ok.above)
 have neC:∀ b o,X.s₀.heap.get? b=some o→b∉X.ex→b∉ch:=fun b o e hx hb=>by
  rcases (hch b hb).1 with z | z
  ·exact hx z
  ·exact absurd (Nat.lt_of_lt_of_le (Heap.lt_size e) z) (Nat.lt_irrefl _)
 have cellK:∀ x c,X.env.cells.lookup x=some c→∀ v,s.heap.IsCell c v→h'.IsCell c v:=fun x c e v ⟨o,ho,hd⟩=>by
  have nch:c∉ch:=fun z=>(hch c z).2.2.1 x c e rfl
  by_cases hc:c∈X.fs
  ·obtain ⟨sl,q⟩:=slot c o (I.cne x c e) hc nch ho (I.freeC x c e)
   exact ⟨_,q,hd⟩
  ·exact ⟨o,keep c o (I.cne x c e) hc nch ho (I.freeC x c e),hd⟩
 refine ⟨I.ok,I.os,hg,⟨fun b o e n hb hx=>?_,fun b o e n hb hx=>?_,fun b o e n hx=>?_,fun b o e hx=>?_,fun b xs e=>tups b xs (I.base.tups b xs e),fun b o xs e=>frzs b o xs (I.base.frzs b o xs e),fun b ps e=>?_⟩,?_,fun x c e=>?_,?_,fun x c e=>?_,fun p hp=>?_,hok,I.len⟩
 ·exact keep b o (neL b o e) hb (neC b o e hx) (I.base.keep b o e n hb hx) (I.base.free b o e n hx)
 ·obtain ⟨sl,e1⟩:=I.base.slot b o e n hb hx
  obtain ⟨sl',e2⟩:=slot b _ (neL b o e) hb (neC b o e hx) e1 (I.base.free b o e n hx)
  exact ⟨sl',e2⟩
 ·obtain ⟨o',e1⟩:=I.base.there b o e hx
  exact free b o' (neC b o e hx) e1 (I.base.free b o e n hx)
 ·obtain ⟨o',e1⟩:=I.base.there b o e hx
  exact there b o' (neC b o e hx) e1
 ·obtain ⟨m1,e1⟩:=I.base.tbls b ps e
  obtain ⟨m2,e2⟩:=tbls b _ e1
  exact ⟨m1++m2,by rw [e2,Array.append_assoc]⟩
 ·obtain ⟨m,hn,hl⟩:=I.loc
  refine ⟨m,ns m hn,fun i x v e1 e2 e3=>?_⟩
  obtain ⟨u,r,l⟩:=hl i x v e1 e2 e3
  refine ⟨u,r,?_⟩
  rcases l with l | ⟨k,c,e,z⟩
  ·exact .inl l
  ·exact .inr ⟨k,c,e,cellK x c e _ z⟩
 ·obtain ⟨v,z⟩:=I.cell x c e
  exact ⟨v,cellK x c e v z⟩
 ·obtain ⟨m,⟨o,_,_,ho,_⟩,_⟩:=I.loc
  exact free _ o (fun z=>(hch _ z).2.1 rfl) ho I.free
 ·obtain ⟨v,o,ho,hd⟩:=I.cell x c e
  exact free c o (fun z=>(hch c z).2.2.1 x c e rfl) ho (I.freeC x c e)
 ·obtain ⟨e,n,ne,nf,d⟩:=I.pin p hp
  have nch:p.1∉ch:=fun z=>(hch p.1 z).2.2.2 p hp rfl
  exact ⟨keep p.1 p.2 ne nf nch e n,free p.1 p.2 nch e n,ne,nf,d⟩
theorem Inv.un {t':Nat} (I:Inv X pins σ H s) (u:Un X.fs [] H H' s.heap h') (hok:HOk X.prog X.w H' h'):Inv X pins σ H' { s with heap:=h',toks:=t' }:=by
 obtain ⟨m,⟨o,es,ep,ho,r⟩,_⟩:=id I.loc
 obtain ⟨sl,hL⟩:=u.any ho I.free (by simp)
 exact I.step (g':=s.gens) (d':=s.drawn) (ch:=[]) (fun _ z=>nomatch z) (fun b o _ hb _ e n=>u.keep b o e n hb (by simp)) (fun b o _ hb _ e n=>u.slot b o e n hb (by simp)) (fun b o _ e n=>u.free b o e n (by simp)) (fun b o _ e=>u.there b o e (by simp)) u.tups u.frzs u.tbls (fun m' hm=>by
  obtain ⟨o',es',ep',ho',r'⟩:=hm
  rw [ho] at ho';cases ho'
  exact ⟨_,es',ep',hL,r'⟩) hok I.bare
theorem Inv.call {g':Array GenState} {t':Nat} {d':Drawn} {ch:List Addr} (I:Inv X pins σ H s) (u:Un (frs X.stack) ch H H' s.heap h') (hok:HOk X.prog X.w H' h') (hg:AllBare g')
  (hch:∀ b∈ch,(b∈X.ex∨X.s₀.heap.objs.size≤b)∧b≠X.env.locals∧(∀ x c,X.env.cells.lookup x=some c→c≠b)∧∀ p∈X.pn++pins,p.1≠b) :
  Inv X pins σ H' { s with heap:=h',gens:=g',drawn:=d',toks:=t' }:=by
 obtain ⟨m,⟨o,es,ep,ho,r⟩,_⟩:=id I.loc
 obtain ⟨sl,hL⟩:=u.any ho I.free fun z=>(hch _ z).2.1 rfl
 exact I.step (ch:=ch) hch (fun b o hL hb hc e n=>u.keep b o e n (fun z=>(List.mem_cons.mp (I.gi b z)).elim hL hb) hc) (fun b o _ _ hc e n=>u.any e n hc) (fun b o hc e n=>u.free b o e n hc) (fun b o hc e=>u.there b o e hc) u.tups u.frzs u.tbls (fun m' hm=>by
  obtain ⟨o',es',ep',ho',r'⟩:=hm
  rw [ho] at ho';cases ho'
  exact ⟨_,es',ep',hL,r'⟩) hok hg
theorem Inv.turned {t':Nat} {it:Addr} (I:Inv X pins σ H s) (k:∀ b o,b≠it→s.heap.get? b=some o→h'.get? b=some o) (hn:H it=none) (hL:it≠X.env.locals)
  (h1:it∈X.ex∨X.s₀.heap.objs.size≤it) (h2:∀ x c,X.env.cells.lookup x=some c→c≠it) (h3:∀ p∈X.pn++pins,p.1≠it):Inv X pins σ H { s with heap:=h',toks:=t' }:=by
 have nit:∀ b u,H b=some u→b≠it:=fun b u e z=>by rw [z,hn] at e;cases e
 refine I.step (g':=s.gens) (d':=s.drawn) (ch:=[it]) (fun b hb=>?_) (fun b o _ _ hc e _=>k b o (fun z=>hc (by simp [z])) e) (fun b o _ _ hc e _=>⟨o.slots,k b o (fun z=>hc (by simp [z])) e⟩) (fun _ _ _ _ n=>n)
  (fun b o hc e=>⟨o,k b o (fun z=>hc (by simp [z])) e⟩) (fun _ _ e=>e) (fun _ _ _ e=>e) (fun b ps e=>⟨#[],by rw [e];simp⟩) (fun m hm=>?_) (fun b u e=>?_) I.bare
 ·have e:b=it:=by simpa using hb
  subst e
  exact ⟨h1,hL,h2,h3⟩
 ·obtain ⟨o,es,ep,ho,r⟩:=hm
  exact ⟨o,es,ep,k _ o (Ne.symm hL) ho,r⟩
 ·refine (I.hok b u e).fR (fun c v hc q=>k c v ?_ q) (fun _ q=>q) fun _ _ q=>q
  rcases hc with z | z
  ·rw [z];exact nit b u e
  ·exact nit c _ z
theorem Inv.tok (I:Inv X pins σ H s) (t:Nat):Inv X pins σ H { s with toks:=t }:=I.un (h':=s.heap) (t':=t) Un.refl I.hok
theorem Inv.kept {t':Nat} (I:Inv X pins σ H s) (k:∀ b u,s.heap.get? b=some u→h'.get? b=some u):Inv X pins σ H { s with heap:=h',toks:=t' }:=I.un (Un.kept k) (I.hok.kept k)
theorem Inv.laid {a:Addr} {o:HO} {t':Nat} (I:Inv X pins σ H s) (k:∀ b u,s.heap.get? b=some u→h'.get? b=some u) (hp:s.heap.objs.size≤a) (new:bC X.prog X.w (upd H a o) h' a o) :
  Inv X pins σ (upd H a o) { s with heap:=h',toks:=t' }:=I.un (Un.laid k hp (I.hok.fresh hp)) (I.hok.laid k hp new)
theorem Inv.write {x e:Addr} {o:HO} {t':Nat} (I:Inv X pins σ H s) (mu:Mut (H x)) (he:e=x∨H e=some (.own x)) (k:∀ b u,b≠e→s.heap.get? b=some u→h'.get? b=some u) (heo:∃ u,h'.get? e=some u)
  (new:bC X.prog X.w (upd H x o) h' x o):Inv X pins σ (upd H x o) { s with heap:=h',toks:=t' }:=I.un (Un.write mu he k heo) (I.hok.write mu he k heo new)
theorem Inv.weak {σ':List (Option V)} (I:Inv X pins σ H s) (hl:σ'.length=σ.length) (w:∀ (i:Nat) v,σ'[i]?=some (some v)→σ[i]?=some (some v)):Inv X pins σ' H s:=
 ⟨I.ok,I.os,I.bare,I.base,let ⟨m,hn,hl'⟩:=I.loc;⟨m,hn,fun i x v e1 e2 e3=>hl' i x v e1 (w i v e2) e3⟩,I.cell,I.free,I.freeC,I.pin,I.hok,hl.trans I.len⟩
theorem Inv.nJ {pins':List (Addr×Obj)} (I:Inv X pins σ H s) (h:∀ p∈pins',s.heap.get? p.1=some p.2∧H p.1=none∧p.1≠X.env.locals∧p.1∉X.fs∧∀ v,p.2.data≠.cell v):Inv X pins' σ H s:=
 ⟨I.ok,I.os,I.bare,I.base,I.loc,I.cell,I.free,I.freeC,fun p hp=>(List.mem_append.mp hp).elim (fun z=>I.pin p (List.mem_append_left _ z)) (h p),I.hok,I.len⟩
theorem mF {N:List Str} (hN:N.Nodup) {i j:Nat} {x:Str} (a:N[i]?=some x) (b:N[j]?=some x):i=j:=by
 obtain ⟨h1,e1⟩:=List.getElem?_eq_some_iff.mp a
 obtain ⟨h2,e2⟩:=List.getElem?_eq_some_iff.mp b
 exact (List.getElem_inj hN).mp (e1.trans e2.symm)
theorem qC {M:Model} {A:Around} {E:Value→Shared→Prop} {i:Nat} {x:Str} {v:V} {u:Value} {Q:Unit→Shared→Prop} (I:Inv X pins σ H s) (hN:X.N.Nodup) (hi:X.N[i]?=some x) (hx:Loc X.env.scope x) (r:RelV v u)
  (h:∀ s',Inv X pins (σ.set i (some v)) H s'→(∃ a,Heap.SameBut a s.heap s'.heap∧(a=X.env.locals∨X.env.cells.lookup x=some a))→Q () s') (hf:X.fn x=true∨X.env.scope.names.lookup x=some .local:=by first | exact .inl rfl | exact .inr rfl | assumption):wpAny M A (storeName X.env x u) Q E s:=by
 obtain ⟨m,hn,hl⟩:=id I.loc
 have hcls:(X.env.scope.kind == .class || (X.env.scope.kind == .module && X.env.locals != X.env.globals))=false:=by rw [I.ok.kind];rfl
 have hiσ:i < σ.length:=by rw [I.len];exact (List.getElem?_eq_some_iff.mp hi).1
 have cne:=I.cne
 have tracked:∀ {a:Addr} {h':Heap},(∃ o,s.heap.get? a=some o∧H a=none)→Heap.SameBut a s.heap h'→HOk X.prog X.w H h':=fun {a h'} ha hs b ob e=>by
  obtain ⟨_,_,hfree⟩:=ha
  refine (I.hok b ob e).fR (fun c w' hc q=>(hs.2 c ?_).trans q) (fun _ q=>q) fun _ _ q=>q
  rintro rfl
  rcases hc with rfl | hc
  ·rw [hfree] at e;cases e
  ·rw [hfree] at hc;cases hc
 rcases hx with hk | hk
 ·refine wpAny_storeName_local hk hn (fun h' hn' hs=>?_) hcls
  obtain ⟨oL,_,_,hoL,_⟩:=id hn
  refine h _ ⟨I.ok,I.os,I.bare,⟨fun b o e n hb hx=>?_,fun b o e n hb hx=>?_,I.base.free,fun b o e hx=>?_,I.base.tups,I.base.frzs,I.base.tbls⟩,⟨_,hn',fun j y v' e1 e2 e3=>?_⟩,fun y c e=>?_,I.free,I.freeC,fun p hp=>?_,tracked ⟨oL,hoL,I.free⟩ hs,by simpa using I.len⟩ ⟨_,hs,.inl rfl⟩
  ·exact (hs.2 b (Nat.ne_of_lt (Nat.lt_of_lt_of_le (Heap.lt_size e) I.ok.above))).trans (I.base.keep b o e n hb hx)
  ·obtain ⟨sl,e1⟩:=I.base.slot b o e n hb hx
   exact ⟨sl,(hs.2 b (Nat.ne_of_lt (Nat.lt_of_lt_of_le (Heap.lt_size e) I.ok.above))).trans e1⟩
  ·obtain ⟨o',e1⟩:=I.base.there b o e hx
   exact ⟨o',(hs.2 b (Nat.ne_of_lt (Nat.lt_of_lt_of_le (Heap.lt_size e) I.ok.above))).trans e1⟩
  ·by_cases hj:j=i
   ·subst hj
    rw [hi] at e1;cases e1
    rw [List.getElem?_set_self hiσ] at e2
    cases e2
    exact ⟨u,r,.inl ⟨hk,by simp⟩⟩
   ·rw [List.getElem?_set_ne (Ne.symm hj)] at e2
    obtain ⟨u',r',q⟩:=hl j y v' e1 e2 e3
    refine ⟨u',r',?_⟩
    rcases q with ⟨k,e⟩ | ⟨k,c,e,z⟩
    ·refine .inl ⟨k,?_⟩
     have:y≠x:=fun e=>hj (mF hN e1 (e ▸ hi))
     simp [this,e]
    ·exact .inr ⟨k,c,e,z.sameBut hs (cne y c e)⟩
  ·obtain ⟨w',z⟩:=I.cell y c e
   exact ⟨w',z.sameBut hs (cne y c e)⟩
  ·obtain ⟨e,n,ne,nf,d⟩:=I.pin p hp
   exact ⟨(hs.2 p.1 ne).trans e,n,ne,nf,d⟩
 ·have hfn:X.fn x=true:=by
   rcases hf with z | z
   ·exact z
   ·rw [z] at hk;cases hk
  obtain ⟨c,hc⟩:=I.ok.has x (.inl hk)
  obtain ⟨w',z⟩:=I.cell x c hc
  refine wpAny_storeName_cell I.ok.kind hk hc z (fun h' hc' hs=>?_)
  obtain ⟨oc,hoc,hocd⟩:=id z
  refine h { s with heap:=h' } ⟨I.ok,I.os,I.bare,⟨fun b o e n hb hx=>?_,fun b o e n hb hx=>?_,I.base.free,fun b o e hx=>?_,I.base.tups,I.base.frzs,I.base.tbls⟩,⟨m,hn.sameBut hs (Ne.symm (cne x c hc)),fun j y v' e1 e2 e3=>?_⟩,fun y c' e=>?_,I.free,I.freeC,fun p hp=>?_,tracked ⟨oc,hoc,I.freeC x c hc⟩ hs,by simpa using I.len⟩ ⟨c,hs,.inr hc⟩
  ·exact (hs.2 b (Nat.ne_of_lt (Nat.lt_of_lt_of_le (Heap.lt_size e) (I.ok.cab x c hfn hc)))).trans (I.base.keep b o e n hb hx)
  ·obtain ⟨sl,e1⟩:=I.base.slot b o e n hb hx
   exact ⟨sl,(hs.2 b (Nat.ne_of_lt (Nat.lt_of_lt_of_le (Heap.lt_size e) (I.ok.cab x c hfn hc)))).trans e1⟩
  ·obtain ⟨o',e1⟩:=I.base.there b o e hx
   exact ⟨o',(hs.2 b (Nat.ne_of_lt (Nat.lt_of_lt_of_le (Heap.lt_size e) (I.ok.cab x c hfn hc)))).trans e1⟩
  ·by_cases hj:j=i
   ·subst hj
    rw [hi] at e1;cases e1
    rw [List.getElem?_set_self hiσ] at e2
    cases e2
    exact ⟨u,r,.inr ⟨.inl hk,c,hc,hc'⟩⟩
   ·rw [List.getElem?_set_ne (Ne.symm hj)] at e2
    obtain ⟨u',r',q⟩:=hl j y v' e1 e2 e3
    refine ⟨u',r',?_⟩
    rcases q with q | ⟨k,c',e,z'⟩
    ·exact .inl q
    ·refine .inr ⟨k,c',e,z'.sameBut hs ?_⟩
     rintro rfl
     exact hj (mF hN e1 (I.ok.inj _ _ _ e hc ▸ hi))
  ·by_cases hcc:c'=c
   ·subst hcc;exact ⟨_,hc'⟩
   ·obtain ⟨w2,z2⟩:=I.cell y c' e
    exact ⟨w2,z2.sameBut hs hcc⟩
  ·obtain ⟨e,n,ne,nf,d⟩:=I.pin p hp
   refine ⟨(hs.2 p.1 ?_).trans e,n,ne,nf,d⟩
   intro q
   rw [q,hoc] at e
   have q':oc=p.2:=Option.some.inj e
   exact d w' (by rw [← q'];exact hocd)
theorem gv {M:Model} {A:Around} {E:Value→Shared→Prop} {i:Nat} {x:Str} {v:V} {u:Value} {Q:Unit→Shared→Prop} (I:Inv X pins σ H s) (hN:X.N.Nodup) (hi:X.N[i]?=some x) (hx:Loc X.env.scope x) (r:RelV v u)
  (h:∀ s',Inv X pins (σ.set i (some v)) H s'→Q () s') (hf:X.fn x=true∨X.env.scope.names.lookup x=some .local:=by first | exact .inl rfl | exact .inr rfl | assumption):wpAny M A (storeName X.env x u) Q E s:=
 qC I hN hi hx r (fun s' I' _=>h s' I') hf
theorem Inv.ur {s':Shared} {ch:List Addr} (I:Inv X pins σ H s) (ho:s'.os=s.os) (u:Un (frs X.stack) ch H H' s.heap s'.heap) (hok:HOk X.prog X.w H' s'.heap) (hg:AllBare s'.gens)
  (hch:∀ b∈ch,(b∈X.ex∨X.s₀.heap.objs.size≤b)∧b≠X.env.locals∧(∀ x c,X.env.cells.lookup x=some c→c≠b)∧∀ p∈X.pn++pins,p.1≠b):Inv X pins σ H' s':=by
 obtain ⟨h',g',d',t',o'⟩:=s'
 have e:o'=s.os:=ho
 subst e
 exact I.call (g':=g') (t':=t') (d':=d') u hok hg hch
end
abbrev XK:=Value→Option Addr→Hp→Prop
abbrev St:=List (Option V)
abbrev VK:=V→Hp→Prop
abbrev TE:=St→Hp→VK→Prop
abbrev TT:=St→Hp→(Bool→Hp→Prop)→Prop
abbrev TA:=St→Hp→(List V→Hp→Prop)→Prop
structure Ends where
 nx:St→Hp→Prop
 rt:VK
 bk:St→Hp→Prop:=fun _ _=>False
 ct:St→Hp→Prop:=fun _ _=>False
abbrev TS:=Ends→St→Hp→Prop
def EP (X:Cx) (pins:List (Addr×Obj)) (σ:St) (Q:VK) (u:Value) (s':Shared):Prop:=∃ v H',Inv X pins σ H' s'∧RelV v u∧Q v H'
def TP (X:Cx) (pins:List (Addr×Obj)) (σ:St) (Q:Bool→Hp→Prop) (b:Bool) (s':Shared):Prop:=∃ H',Inv X pins σ H' s'∧Q b H'
def AP (X:Cx) (pins:List (Addr×Obj)) (σ:St) (Q:List V→Hp→Prop) (us:List Value) (s':Shared):Prop:=∃ vs H',Inv X pins σ H' s'∧Vals vs us∧Q vs H'
def SP (X:Cx) (pins:List (Addr×Obj)) (D:Ends) (f:Flow) (s':Shared):Prop:=
 match f with
 | .next=>∃ σ' H',Inv X pins σ' H' s'∧D.nx σ' H'
 | .brk=>∃ σ' H',Inv X pins σ' H' s'∧D.bk σ' H'
 | .cont=>∃ σ' H',Inv X pins σ' H' s'∧D.ct σ' H'
 | .ret u=>∃ v σ' H',Inv X pins σ' H' s'∧RelV v u∧D.rt v H'
def PE (X:Cx) (e:Expr) (t:TE):Prop:=
 ∀ (pins:List (Addr×Obj)) (s:Shared) (σ:St) (H:Hp) (Q:VK),Inv X pins σ H s→t σ H Q→wpAny (model X.prog X.w) X.A (eval e X.env) (EP X pins σ Q) X.xe s
def PT (X:Cx) (e:Expr) (t:TT):Prop:=
 ∀ (pins:List (Addr×Obj)) (s:Shared) (σ:St) (H:Hp) (Q:Bool→Hp→Prop),Inv X pins σ H s→t σ H Q→wpAny (model X.prog X.w) X.A (isTrue e X.env (eval e X.env)) (TP X pins σ Q) X.xe s
def PW (X:Cx) (e:Expr) (t:TT):Prop:=
 ∀ (whole:Sem Value) (pins:List (Addr×Obj)) (s:Shared) (σ:St) (H:Hp) (Q:Bool→Hp→Prop),Inv X pins σ H s→t σ H Q→wpAny (model X.prog X.w) X.A (isTrue e X.env whole) (TP X pins σ Q) X.xe s
theorem PW.pt {X:Cx} {e:Expr} {t:TT} (h:PW X e t):PT X e t:=h _
def PA (X:Cx) (es:List Expr) (t:TA):Prop:=
 ∀ (pos:Pos) (pins:List (Addr×Obj)) (s:Shared) (σ:St) (H:Hp) (Q:List V→Hp→Prop),Inv X pins σ H s→t σ H Q→wpAny (model X.prog X.w) X.A (spliced (backTo pos (starEach es X.env))) (AP X pins σ Q) X.xe s
def PS (X:Cx) (st:Stmt) (t:TS):Prop:=
 ∀ (pins:List (Addr×Obj)) (s:Shared) (σ:St) (H:Hp) (D:Ends),Inv X pins σ H s→t D σ H→wpAny (model X.prog X.w) X.A (exec st X.env) (SP X pins D) X.xe s
def PSs (X:Cx) (st:List Stmt) (t:TS):Prop:=
 ∀ (pins:List (Addr×Obj)) (s:Shared) (σ:St) (H:Hp) (D:Ends),Inv X pins σ H s→t D σ H→wpAny (model X.prog X.w) X.A (execs st X.env) (SP X pins D) X.xe s
theorem thn {α:Type} {t:Sem α} {Q Q':α→Shared→Prop} {M:Model} {A:Around} {E:Value→Shared→Prop} {s:Shared} (h:wpAny M A t Q E s) (hQ:∀ a s,Q a s→Q' a s):wpAny M A t Q' E s:=wpAny_mono h hQ fun _ _ x=>x
section
variable {X:Cx}
def BQ (i:Nat):TE:=fun σ H Q=>∃ v,σ[i]?=some (some v)∧Q v H
def tC (v:V):TE:=fun _ H Q=>Q v H
theorem wy {i:Nat} {x:Str} {pos:Pos} (hN:X.N[i]?=some x) (hv:Vis X.env.scope x) (hd:(x == ("__debug__":Str))=false:=by decide) (hcd:(x == ("__classdict__":Str))=false:=by decide):PE X (.Name x pos) (BQ i):=by
 intro pins s σ H Q I h
 obtain ⟨v,e,h⟩:=h
 obtain ⟨m,hn,hl⟩:=I.loc
 obtain ⟨u,r,l⟩:=hl i x v hN e hv
 have fin:EP X pins σ Q u s:=⟨v,H,I,r,h⟩
 rcases l with ⟨hk,hm⟩ | ⟨hk,c,hc,hcell⟩
 ·exact wpAny_Name (wpAny_loadName_local I.ok.kind hk hn hm fin) hd
 ·rcases hk with hk | hk
  ·exact wpAny_Name (wpAny_loadName_cell I.ok.kind hk hc hcell fin) hd
  ·exact wpAny_Name (wpAny_loadName_free I.ok.kind hk hc hcell fin hcd) hd
theorem x_ {i j pos}:PE X (.Constant (.int i) j pos) (tC (.int i)):=fun _ _ _ H _ I h=>wpAny_Constant_int ⟨.int i,H,I.tok _,⟨_,rfl⟩,h⟩
theorem zX {b j pos}:PE X (.Constant (.bool b) j pos) (tC (.bl b)):=fun _ _ _ H _ I h=>Constant_bool ⟨.bl b,H,I,rfl,h⟩
theorem zm {j pos}:PE X (.Constant .none j pos) (tC .non):=fun _ _ _ H _ I h=>Constant_none ⟨.non,H,I,rfl,h⟩
theorem zJ {x j pos}:PE X (.Constant (.str x) j pos) (tC (.str x)):=fun _ _ _ H _ I h=>Calls.Constant_str ⟨.str x,H,I.tok _,⟨_,rfl⟩,h⟩
def Gl (X:Cx) (x:Str):Prop:=X.env.kindOf x=some .globalImplicit
theorem kg {E:Value→Shared→Prop} {pins:List (Addr×Obj)} {s:Shared} {σ:St} {H:Hp} {x:Str} {u:Value} {pos:Pos} {Q:Value→Shared→Prop} (I:Inv X pins σ H s) (hg:Gl X x) (hm:X.mg x=some u) (h:Q u s)
  (hd:(x == ("__debug__":Str))=false:=by decide):wpAny (model X.prog X.w) X.A (eval (.Name x pos) X.env) Q E s:=
 Calls.Name_function_global I.ok.kind hg (Calls.loadGlobal_global (by rw [I.ok.glob];exact I.mod.glob.keeps I.bk) hm h) hd
theorem cu {E:Value→Shared→Prop} {pins:List (Addr×Obj)} {s:Shared} {σ:St} {H:Hp} {x:Str} {u:Value} {pos:Pos} {Q:Value→Shared→Prop} (I:Inv X pins σ H s) (hg:Gl X x) (hm:X.mg x=none) (hv:bootBuiltins x=some u) (h:Q u s)
  (hn:x≠"__name__":=by decide) (hd:(x == ("__debug__":Str))=false:=by decide):wpAny (model X.prog X.w) X.A (eval (.Name x pos) X.env) Q E s:=by
 obtain ⟨mb,h1,h2⟩:=I.mod.blt
 exact Calls.Name_function_global I.ok.kind hg (Calls.loadGlobal_builtin (by rw [I.ok.glob];exact I.mod.glob.keeps I.bk) hm (by rw [I.ok.blt];exact h1.keeps I.bk) ((h2 x hn).trans hv) h) hd
theorem uR {x:Str} {v:V} {u:Value} {pos:Pos} (hg:Gl X x) (hm:X.mg x=some u) (r:RelV v u) (hd:(x == ("__debug__":Str))=false:=by decide):PE X (.Name x pos) (tC v):=
 fun _ _ _ H _ I h=>kg I hg hm ⟨v,H,I,r,h⟩ hd
theorem nK {x:Str} {v:V} {u:Value} {pos:Pos} (hg:Gl X x) (hm:X.mg x=none) (hv:bootBuiltins x=some u) (r:RelV v u) (hn:x≠"__name__":=by decide) (hd:(x == ("__debug__":Str))=false:=by decide):PE X (.Name x pos) (tC v):=
 fun _ _ _ H _ I h=>cu I hg hm hv ⟨v,H,I,r,h⟩ hn hd
variable {a b:Expr} {ta tb:TE} {pos:Pos}
variable {tA tB':TT} {rest:List Expr}
def Cu (t u:TT):TT:=fun σ H Q=>t σ H fun c H1=>if c=true then u σ H1 Q else Q false H1
def tOr (t u:TT):TT:=fun σ H Q=>t σ H fun c H1=>if c=true then Q true H1 else u σ H1 Q
def Cz (t:TT):TT:=fun σ H Q=>t σ H fun c H1=>Q (!c) H1
theorem uT (ha:PT X a tA):PW X (.BoolOp .And [a] pos) tA:=by
 intro wh pins s σ H Q I h
 refine isTrue_and (thn (ha pins s σ H Q I h) fun c s1 e=>?_)
 cases c with
 | true=>exact isTrue_and_nil e
 | false=>exact e
theorem xH (ha:PT X a tA):PW X (.BoolOp .Or [a] pos) tA:=by
 intro wh pins s σ H Q I h
 refine isTrue_or (thn (ha pins s σ H Q I h) fun c s1 e=>?_)
 cases c with
 | false=>exact isTrue_or_nil e
 | true=>exact e
theorem zF (ha:PT X a tA) (hb:PW X (.BoolOp .And (b :: rest) pos) tB'):PW X (.BoolOp .And (a :: b :: rest) pos) (Cu tA tB'):=by
 intro wh pins s σ H Q I h
 refine isTrue_and (thn (ha pins s σ H _ I h) fun c s1 ⟨H1,I1,q1⟩=>?_)
 cases c with
 | true=>exact hb wh pins s1 σ H1 Q I1 q1
 | false=>exact ⟨H1,I1,q1⟩
theorem Am (ha:PT X a tA) (hb:PW X (.BoolOp .Or (b :: rest) pos) tB'):PW X (.BoolOp .Or (a :: b :: rest) pos) (tOr tA tB'):=by
 intro wh pins s σ H Q I h
 refine isTrue_or (thn (ha pins s σ H _ I h) fun c s1 ⟨H1,I1,q1⟩=>?_)
 cases c with
 | true=>exact ⟨H1,I1,q1⟩
 | false=>exact hb wh pins s1 σ H1 Q I1 q1
theorem zA (ha:PT X a tA):PT X (.UnaryOp .Not a pos) (Cz tA):=by
 intro pins s σ H Q I h
 exact isTrue_not (ha pins s σ H (fun c H1=>Q (!c) H1) I h)
def Bs (ta tb:TE):TE:=fun σ H Q=>ta σ H fun x H1=>∃ c,x=.bl c∧if c=true then tb σ H1 Q else Q (.bl false) H1
def Aa (ta:TE):TE:=fun σ H Q=>ta σ H fun x H1=>∃ c,x=.bl c∧Q (.bl (!c)) H1
theorem xE {op} {t:TE} (h:PE X a t):PE X (.BoolOp op [a] pos) t:=fun pins s σ H Q I hw=>BoolOp_one (h pins s σ H Q I hw)
theorem zk (ha:PE X a ta) (hb:PE X (.BoolOp .And (b :: rest) pos) tb):PE X (.BoolOp .And (a :: b :: rest) pos) (Bs ta tb):=by
 intro pins s σ H Q I h
 refine BoolOp_and (thn (ha pins s σ H _ I h) fun v s1 ⟨x,H1,I1,r1,q1⟩=>?_)
 obtain ⟨c,rfl,q1⟩:=q1
 cases r1
 refine wpAny_truthy_bool ?_
 cases c with
 | true=>exact hb pins s1 σ H1 Q I1 q1
 | false=>exact ⟨.bl false,H1,I1,rfl,q1⟩
theorem xG (ha:PE X a ta):PE X (.UnaryOp .Not a pos) (Aa ta):=by
 intro pins s σ H Q I h
 refine UnaryOp_ (thn (ha pins s σ H _ I h) fun v s1 ⟨x,H1,I1,r1,q1⟩=>?_)
 obtain ⟨c,rfl,q1⟩:=q1
 cases r1
 exact not_of (wpAny_truthy_bool ⟨.bl (!c),H1,I1,rfl,q1⟩)
def tIf (t:TT) (ta tb:TE):TE:=fun σ H Q=>t σ H fun c H1=>if c=true then ta σ H1 Q else tb σ H1 Q
theorem rN {c:Expr} (hc:PT X c tA) (ha:PE X a ta) (hb:PE X b tb):PE X (.IfExp c a b pos) (tIf tA ta tb):=by
 intro pins s σ H Q I h
 refine wpAny_IfExp (thn (hc pins s σ H _ I h) fun d s1 ⟨H1,I1,q1⟩=>?_)
 cases d with
 | true=>exact ha pins s1 σ H1 Q I1 q1
 | false=>exact hb pins s1 σ H1 Q I1 q1
end
def SqL (K:PySem.W.Frag) (H:Hp) (a:Addr) (xs:List V):Prop:=
 Rd H a (.lst xs) ∨
  ∃ (o:Obj) (its:Array Value) (n:Nat),K.lookup a=some o∧o.cls=.type "list"∧o.dict=none∧o.data=.seq its n∧its.size≤sizeLine∧Vals xs its.toList
def SqT (K:PySem.W.Frag) (H:Hp) (a:Addr) (xs:List V):Prop:=
 Rd H a (.tup xs) ∨
  ∃ (o:Obj) (its:Array Value) (n:Nat),K.lookup a=some o∧o.cls=.type "tuple"∧o.data=.seq its n∧its.size≤sizeLine∧Vals xs its.toList
def B7:Value→Option V
 | .none=>some .non
 | .bool b=>some (.bl b)
 | .int i _=>some (.int i)
 | .str x _=>some (.str x)
 | .bytes b _=>some (.byt b)
 | .float b _=>some (.flt b)
 | .ref a=>some (.ref a)
 | .type n=>some (.ty n)
 | _=>none
theorem RelV.abs {x:V} {u:Value} (r:RelV x u):B7 u=some x:=by
 cases x with
 | non=>cases r;rfl
 | bl _=>cases r;rfl
 | int _=>obtain ⟨t,rfl⟩:=r;rfl
 | str _=>obtain ⟨t,rfl⟩:=r;rfl
 | byt _=>obtain ⟨t,rfl⟩:=r;rfl
 | flt _=>obtain ⟨t,rfl⟩:=r;rfl
 | ref _=>cases r;rfl
 | ty _=>cases r;rfl
theorem RelV.inj {x y:V} {u:Value} (r:RelV x u) (q:RelV y u):x=y:=Option.some.inj (r.abs.symm.trans q.abs)
theorem Vals.inj:∀ {xs ys:List V} {us:List Value},Vals xs us→Vals ys us→xs=ys
 | _,_,_,.nil,.nil=>rfl
 | _,_,_,.cons r t,.cons r' t'=>by rw [r.inj r',Vals.inj t t']
section
variable {X:Cx} {pins:List (Addr×Obj)} {σ:St} {H:Hp} {s:Shared} {a:Addr} {xs ys:List V}
theorem SqL.of {K:PySem.W.Frag} (h:H a=some (.lst xs)):SqL K H a xs:=.inl (.inl h)
theorem SqT.of {K:PySem.W.Frag} (h:H a=some (.tup xs)):SqT K H a xs:=.inl (.inl h)
theorem Inv.list (I:Inv X pins σ H s) (h:SqL X.K H a xs):∃ its:List Value,Vals xs its∧PlainL s.heap a its.toArray∧xs.length≤sizeLine:=by
 rcases h with h | ⟨o,its,n,hk,hc,hd,hs,hz,r⟩
 ·obtain ⟨z,its,n,r,e⟩:=h.ok I.hok
  exact ⟨its,r,⟨_,n,e,rfl,rfl,rfl⟩,z⟩
 ·refine ⟨its.toList,r,⟨o,n,I.kIn a o hk,hc,hd,by simpa using hs⟩,?_⟩
  have e:=r.length
  simp only [Array.length_toList] at e
  omega
theorem Inv.tuple (I:Inv X pins σ H s) (h:SqT X.K H a xs):∃ its:List Value,Vals xs its∧IsTup s.heap a its.toArray∧xs.length≤sizeLine:=by
 rcases h with h | ⟨o,its,n,hk,hc,hs,hz,r⟩
 ·obtain ⟨z,its,r,p⟩:=h.ok I.hok
  exact ⟨its,r,p,z⟩
 ·refine ⟨its.toList,r,⟨o,I.kIn a o hk,hc,n,by simpa using hs⟩,?_⟩
  have e:=r.length
  simp only [Array.length_toList] at e
  omega
theorem Inv.lY (I:Inv X pins σ H s) (h:SqL X.K H a xs) (h':SqL X.K H a ys):xs=ys:=by
 obtain ⟨its,r,⟨o,n,e,_,_,d⟩,_⟩:=I.list h
 obtain ⟨its',r',⟨o',n',e',_,_,d'⟩,_⟩:=I.list h'
 rw [e] at e';cases e'
 rw [d] at d'
 injection d' with d1 _
 have:its=its':=by simpa using congrArg Array.toList d1
 subst this
 exact r.inj r'
theorem Inv.p_ (I:Inv X pins σ H s) (h:SqT X.K H a xs) (h':SqT X.K H a ys):xs=ys:=by
 obtain ⟨its,r,⟨o,e,_,n,d⟩,_⟩:=I.tuple h
 obtain ⟨its',r',⟨o',e',_,n',d'⟩,_⟩:=I.tuple h'
 rw [e] at e';cases e'
 rw [d] at d'
 injection d' with d1 _
 have:its=its':=by simpa using congrArg Array.toList d1
 subst this
 exact r.inj r'
end
abbrev Cx.fU (X:Cx) (E:Value→Shared→Prop):Cx:={ X with xe:=E }
abbrev Cx.nox (X:Cx):Cx:=X.fU fun _ _=>False
theorem Cx.Ok.fU {X:Cx} (ok:X.Ok) (E:Value→Shared→Prop):(X.fU E).Ok:=
 ⟨ok.mod,ok.kind,ok.glob,ok.blt,ok.above,ok.inj,ok.has,ok.cab,ok.hd,ok.frames,ok.stk,ok.exf,ok.bs,ok.bsz,ok.noex,ok.exfs,ok.d6,ok.frf⟩
theorem Cx.Ok.eI {X:Cx} {E:Value→Shared→Prop} (ok:(X.fU E).Ok):X.Ok:=
 ⟨ok.mod,ok.kind,ok.glob,ok.blt,ok.above,ok.inj,ok.has,ok.cab,ok.hd,ok.frames,ok.stk,ok.exf,ok.bs,ok.bsz,ok.noex,ok.exfs,ok.d6,ok.frf⟩
section
variable {X:Cx} {pins:List (Addr×Obj)} {σ:St} {H:Hp} {s:Shared} {E:Value→Shared→Prop}
theorem Inv.fU (I:Inv X pins σ H s) (E:Value→Shared→Prop):Inv (X.fU E) pins σ H s:=⟨I.ok.fU E,I.os,I.bare,I.base,I.loc,I.cell,I.free,I.freeC,I.pin,I.hok,I.len⟩
theorem Inv.eI (I:Inv (X.fU E) pins σ H s):Inv X pins σ H s:=⟨I.ok.eI,I.os,I.bare,I.base,I.loc,I.cell,I.free,I.freeC,I.pin,I.hok,I.len⟩
theorem SP.eI {D:Ends} {f:Flow} {s':Shared} (h:SP (X.fU E) pins D f s'):SP X pins D f s':=by
 cases f with
 | next=>obtain ⟨σ',H',I,q⟩:=h;exact ⟨σ',H',I.eI,q⟩
 | brk=>obtain ⟨σ',H',I,q⟩:=h;exact ⟨σ',H',I.eI,q⟩
 | cont=>obtain ⟨σ',H',I,q⟩:=h;exact ⟨σ',H',I.eI,q⟩
 | ret u=>obtain ⟨v,σ',H',I,r,q⟩:=h;exact ⟨v,σ',H',I.eI,r,q⟩
theorem PSs.nox {st:List Stmt} {t:TS} (h:PSs X.nox st t):PSs X st t:=fun pins s σ H D I hw=>
 wpAny_mono (h pins s σ H D (I.fU _) hw) (fun _ _ q=>q.eI) fun _ _ z=>False.elim z
end
section
variable {X:Cx} {st:Stmt} {rest:List Stmt} {t u:TS} {e:Expr} {te:TE} {pos:Pos}
def AU:TS:=fun D σ H=>D.nx σ H
def Cs (t u:TS):TS:=fun D σ H=>t { D with nx:=u D } σ H
theorem vO:PSs X [] AU:=fun _ _ σ H _ I h=>wpAny_execs_nil ⟨σ,H,I,h⟩
theorem sI (h1:PS X st t) (h2:PSs X rest u):PSs X (st :: rest) (Cs t u):=by
 intro pins s σ H D I h
 refine wpAny_execs_cons (thn (h1 pins s σ H { D with nx:=u D } I h) fun f s1 q=>?_)
 cases f with
 | next=>
  obtain ⟨σ',H',I',q⟩:=q
  exact h2 pins s1 σ' H' D I' q
 | ret v=>exact q
 | brk=>exact q
 | cont=>exact q
theorem vY (h1:PS X st t):PSs X [st] t:=by
 intro pins s σ H D I h
 refine wpAny_execs_cons (thn (h1 pins s σ H D I h) fun f s1 q=>?_)
 cases f with
 | next=>exact wpAny_execs_nil q
 | ret v=>exact q
 | brk=>exact q
 | cont=>exact q
theorem Inv.quiet {pins:List (Addr×Obj)} {σ:St} {H:Hp} {s:Shared} (I:Inv X pins σ H s):interactive X.env=false:=by simp [interactive,I.ok.kind]
def A9 (te:TE):TS:=fun D σ H=>te σ H fun _ H1=>D.nx σ H1
theorem v9 (he:PE X e te) (hs:swapsWith e none pos.line X.env=pure false:=by rfl):PS X (.Expr e pos) (A9 te):=by
 intro pins s σ H D I h
 exact wpAny_Expr_any (thn (he pins s σ H _ I h) fun v s1 ⟨x,H1,I1,r1,q1⟩=>⟨σ,H1,I1,q1⟩) I.quiet hs
def BU (te:TE):TS:=fun D σ H=>te σ H D.rt
theorem yH (he:PE X e te):PS X (.Return (some e) pos) (BU te):=by
 intro pins s σ H D I h
 exact wpAny_Return_some (thn (he pins s σ H _ I h) fun v s1 ⟨x,H1,I1,r1,q1⟩=>⟨x,σ,H1,I1,r1,q1⟩)
def B2 (c:TT) (t u:TS):TS:=fun D σ H=>c σ H fun b H1=>if b=true then t D σ H1 else u D σ H1
theorem Bj {c:Expr} {a b:List Stmt} {tc:TT} (hc:PT X c tc) (ha:PSs X a t) (hb:PSs X b u):PS X (.If c a b pos) (B2 tc t u):=by
 intro pins s σ H D I h
 refine wpAny_If (thn (hc pins s σ H _ I h) fun d s1 ⟨H1,I1,q1⟩=>?_)
 cases d with
 | true=>exact ha pins s1 σ H1 D I1 q1
 | false=>exact hb pins s1 σ H1 D I1 q1
end
abbrev TG:=V→St→Hp→(St→Hp→Prop)→Prop
abbrev TGs:=List V→St→Hp→(St→Hp→Prop)→Prop
def PG (X:Cx) (target:Expr) (t:TG):Prop:=
 ∀ (pins:List (Addr×Obj)) (s:Shared) (σ:St) (H:Hp) (v:V) (u:Value) (Q:St→Hp→Prop),Inv X pins σ H s→RelV v u→t v σ H Q →
  wpAny (model X.prog X.w) X.A (assign target X.env u) (fun _ s'=>∃ σ' H',Inv X pins σ' H' s'∧Q σ' H') X.xe s
def PGs (X:Cx) (ts:List Expr) (t:TGs):Prop:=
 ∀ (pins:List (Addr×Obj)) (s:Shared) (σ:St) (H:Hp) (vs:List V) (us:List Value) (Q:St→Hp→Prop),Inv X pins σ H s→Vals vs us→t vs σ H Q →
  wpAny (model X.prog X.w) X.A (assignInOrder ((assignEach ts X.env).map (·.2)) us) (fun _ s'=>∃ σ' H',Inv X pins σ' H' s'∧Q σ' H') X.xe s
abbrev ml:=V→V→V→Hp→(Hp→Prop)→Prop
def pf (X:Cx) (t:ml):Prop:=
 ∀ (pins:List (Addr×Obj)) (s:Shared) (σ:St) (H:Hp) (o i v:V) (ov iv u:Value) (Q:Hp→Prop),Inv X pins σ H s→RelV o ov→RelV i iv→RelV v u→t o i v H Q →
  wpAny (model X.prog X.w) X.A (setItem ov iv u) (fun _ s'=>∃ H',Inv X pins σ H' s'∧Q H') X.xe s
section
variable {X:Cx} {pos:Pos}
def t9 (i:Nat):TG:=fun v σ H Q=>Q (σ.set i (some v)) H
theorem vD {i:Nat} {x:Str} (hN:X.N.Nodup) (hi:X.N[i]?=some x) (hx:Loc X.env.scope x) (hf:X.fn x=true∨X.env.scope.names.lookup x=some .local:=by first | exact .inl rfl | exact .inr rfl | assumption):PG X (.Name x pos) (t9 i):=by
 intro pins s σ H v u Q I r h
 exact wpAny_assign_Name (gv I hN hi hx r (fun s' I'=>⟨_,H,I',h⟩) hf)
def Cp:TGs:=fun vs σ H Q=>vs=[]∧Q σ H
def Ar (t:TG) (u:TGs):TGs:=fun vs σ H Q=>∃ v r,vs=v :: r∧t v σ H fun σ' H'=>u r σ' H' Q
theorem vz:PGs X [] Cp:=by
 intro pins s σ H vs us Q I r h
 obtain ⟨e,h⟩:=h
 subst e
 cases r
 exact assignInOrder_nil ⟨σ,H,I,h⟩
theorem sO {e:Expr} {es:List Expr} {t:TG} {u:TGs} (h1:PG X e t) (h2:PGs X es u)
  (hs:(assignEach (e :: es) X.env).map (·.2)=assign e X.env :: (assignEach es X.env).map (·.2):=by rfl):PGs X (e :: es) (Ar t u):=by
 intro pins s σ H vs us Q I r h
 obtain ⟨v,vr,e1,h⟩:=h
 subst e1
 cases r with
 | cons r rr=>
  rw [hs]
  refine assignInOrder_cons (thn (h1 pins s σ H _ _ _ I r h) fun _ s1 ⟨σ1,H1,I1,q1⟩=>?_)
  exact h2 pins s1 σ1 H1 _ _ Q I1 rr q1
def Ct (K:PySem.W.Frag) (n:Nat) (t:TGs):TG:=fun v σ H Q=>∃ a xs,v=.ref a∧SqT K H a xs∧xs.length=n∧t xs σ H Q
theorem yP {es:List Expr} {k:Nat} {t:TGs} {n:Nat} (hc:X.calm=true) (h:PGs X es t)
  (hn:(assignEach es X.env).length=n:=by rfl) (hst:(assignEach es X.env).findIdx? (·.1)=none:=by rfl):PG X (.Tuple es k pos) (Ct X.K n t):=by
 intro pins s σ H v u Q I r hw
 obtain ⟨a,xs,e1,hq,hl,hw⟩:=hw
 subst e1
 cases r
 obtain ⟨its,rv,ht,hz⟩:=I.tuple hq
 refine assign_Tuple_tuple (I.ok.hd hc) ht (by simp [hn,← hl,rv.length]) hst fun h' hx=>?_
 have I1:Inv X pins σ H { s with heap:=h' }:=I.kept (t':=s.toks) fun b o e=>hx b o (Nat.ne_of_lt (Heap.lt_size e)) e
 exact h pins _ σ H xs _ Q I1 (by simpa using rv) hw
def CF (to ti:TE) (t:ml):TG:=fun v σ H Q=>to σ H fun o H1=>ti σ H1 fun i H2=>t o i v H2 fun H3=>Q σ H3
theorem zi {o i:Expr} {to ti:TE} {t:ml} (ho:PE X o to) (hi:PE X i ti) (hs:pf X t)
  (ha:∀ v,assign (.Subscript o i pos) X.env v=(do
   let ov ← holding [v] (eval o X.env)
   let iv ← holding [v,ov] (eval i X.env)
   standAt pos
   holding [v,ov,iv] (setItem ov iv v)
   release [v,ov,iv] []):=by intro _;rfl):PG X (.Subscript o i pos) (CF to ti t):=by
 intro pins s σ H v u Q I r h
 rw [ha]
 refine wpAny_bind (wpAny_holding (thn (ho pins s σ H _ I h) fun ov s1 ⟨x,H1,I1,r1,q1⟩=>?_))
 refine wpAny_bind (wpAny_holding (thn (hi pins s1 σ H1 _ I1 q1) fun iv s2 ⟨y,H2,I2,r2,q2⟩=>?_))
 refine wpAny_bind (wpAny_standAt (wpAny_bind (wpAny_holding (thn (hs pins s2 σ H2 x y v ov iv u _ I2 r1 r2 r q2) fun _ s3 ⟨H3,I3,q3⟩=>?_))))
 exact wpAny_release ⟨σ,H3,I3,q3⟩
def yL (te:TE) (g:TG):TS:=fun D σ H=>te σ H fun x H1=>g x σ H1 D.nx
theorem xA {tg e:Expr} {te:TE} {g:TG} (he:PE X e te) (hg:PG X tg g) (hs:swapsWithSole [tg] e pos.line X.env=pure false:=by rfl) (hw:swappedStores [tg] e X.env=pure none:=by rfl)
  (h1:(assignEach [tg] X.env).map (·.2)=[assign tg X.env]:=by rfl):PS X (.Assign [tg] e pos) (yL te g):=by
 intro pins s σ H D I h
 refine wpAny_Assign_stores (thn (he pins s σ H _ I h) fun v s1 ⟨x,H1,I1,r1,q1⟩=>?_) hs hw
 rw [h1]
 exact thn (hg pins s1 σ H1 x v _ I1 r1 q1) fun _ s2 q=>q
theorem zw {i:Nat} {x:Str} {e:Expr} {te:TE} {pos':Pos} (hN:X.N.Nodup) (hi:X.N[i]?=some x) (hx:Loc X.env.scope x) (he:PE X e te) (hs:swapsWith e (some (.Name x pos')) pos.line X.env=pure false:=by rfl) (hf:X.fn x=true∨X.env.scope.names.lookup x=some .local:=by first | exact .inl rfl | exact .inr rfl | assumption) :
  PS X (.Assign [.Name x pos'] e pos) (yL te (t9 i)):=by
 intro pins s σ H D I h
 refine wpAny_Assign_Name (thn (he pins s σ H _ I h) fun v s1 ⟨y,H1,I1,r1,q1⟩=>?_) hs
 exact gv I1 hN hi hx r1 (fun s2 I2=>⟨_,H1,I2,q1⟩) hf
end
structure It where
 go:Nat→Hp→Prop
 yld:Nat→Hp→V→Hp→Prop
 stop:Nat→Hp→Prop
def d9 (X:Cx) (pins:List (Addr×Obj)) (H:Hp) (b:Addr):Prop:=
 H b=none∧b≠X.env.locals∧b∉X.fs∧(b∈X.ex∨X.s₀.heap.objs.size≤b)∧(∀ x c,X.env.cells.lookup x=some c→c≠b)∧∀ p∈X.pn++pins,p.1≠b
theorem Inv.jn {X:Cx} {pins:List (Addr×Obj)} {σ:St} {H H':Hp} {s:Shared} {b:Addr} (I:Inv X pins σ H s) (hb:s.heap.objs.size≤b) (hn:H' b=none):d9 X pins H' b:=by
 refine ⟨hn,Nat.ne_of_gt (Nat.lt_of_lt_of_le I.lt hb),I.yv hb,.inr (Nat.le_trans I.sz hb),fun x c e z=>?_,fun p hp z=>?_⟩
 ·obtain ⟨v,q⟩:=I.cell x c e
  exact absurd (Nat.lt_of_lt_of_le q.lt (by rw [z];exact hb)) (Nat.lt_irrefl _)
 ·exact absurd (Nat.lt_of_lt_of_le (Heap.lt_size (I.pin p hp).1) (by rw [z];exact hb)) (Nat.lt_irrefl _)
structure Turn (P:Program) (w:World) (K:PySem.W.Frag) (tg:Expr) (J:It) (fp:List Addr) (it:Addr) (tn:Nat→Heap→Prop):Prop where
 mem:it∈fp
 obj:∀ i h,tn i h→∀ b∈fp,∃ o,h.get? b=some o∧∀ v,o.data≠.cell v
 keep:∀ i h h',tn i h→(∀ b∈fp,∀ o,h.get? b=some o→h'.get? b=some o)→tn i h'
 item:∀ (X:Cx),X.prog=P→X.w=w→X.K=K→X.calm=true→∀ (i:Nat) (pins:List (Addr×Obj)) (s:Shared) (σ:St) (H:Hp) (E:Value→Shared→Prop),Inv X pins σ H s→(∀ b∈fp,d9 X pins H b)→tn i s.heap→J.go i H →
  wpAny (model P w) X.A (pyNext (.ref it)) (fun r s1=>∃ u,r=some u ∧
   wpAny (model P w) X.A (letOwnedTupleGo tg (.ref it) u) (fun _ s2=>∃ x H',Inv X pins σ H' s2∧RelV x u∧J.yld i H x H'∧tn (i+1) s2.heap∧∀ b∈fp,H' b=none) E s1) E s
 done:∀ (X:Cx),X.prog=P→X.w=w→X.K=K→X.calm=true→∀ (i:Nat) (pins:List (Addr×Obj)) (s:Shared) (σ:St) (H:Hp) (E:Value→Shared→Prop),Inv X pins σ H s→(∀ b∈fp,d9 X pins H b)→tn i s.heap→J.stop i H →
  wpAny (model P w) X.A (pyNext (.ref it)) (fun r s1=>r=none∧Inv X pins σ H s1) E s
 self:∀ (A:Around) (i:Nat) (s:Shared) (Q:Value→Shared→Prop) (E:Value→Shared→Prop),tn i s.heap→Q (.ref it) s→wpAny (model P w) A (pyIter (.ref it)) Q E s
abbrev TI:=St→Hp→(It→Hp→Prop)→Prop
def PIE (X:Cx) (pins:List (Addr×Obj)) (σ:St) (tg:Expr) (R:It→Hp→Prop) (itv:Value) (s2:Shared):Prop:=
 ∃ (it:Addr) (fp:List Addr) (tn:Nat→Heap→Prop) (J:It) (H':Hp),itv=.ref it∧Inv X pins σ H' s2∧Turn X.prog X.w X.K tg J fp it tn∧tn 0 s2.heap∧(∀ b∈fp,d9 X pins H' b)∧R J H'
def PI (X:Cx) (tg iter:Expr) (wi:TI):Prop:=
 ∀ (pins:List (Addr×Obj)) (s:Shared) (σ:St) (H:Hp) (R:It→Hp→Prop),Inv X pins σ H s→wi σ H R →
  wpAny (model X.prog X.w) X.A (eval iter X.env) (fun v s1=>wpAny (model X.prog X.w) X.A (pyIter v) (PIE X pins σ tg R) X.xe s1) X.xe s
theorem pa {M : Model} {A : Around} {E : Value → Shared → Prop} {s : Shared} {tg : Expr} {it : Addr} {u : Value} {o : Obj} {n : String} {vs : Array Value} {Q : Unit → Shared → Prop} (ho : s.heap.get? it = some o) (hc : o.cls = .type n) (hd : o.data = .fields vs)
    (hn : ["enumerate", "zip", "dict_itemiterator", "dict_reverseitemiterator", "odict_iterator", "itertools.zip_longest", "itertools.pairwise"].contains n = false) (hQ : Q () s) : wpAny M A (letOwnedTupleGo tg (.ref it) u) Q E s := by
  unfold letOwnedTupleGo
  cases tg <;> first
    | exact wpAny_pure hQ
    | (cases u <;> first
        | exact wpAny_pure hQ
        | (refine wpAny_bind (wpAny_load ho ?_)
           rw [hc, hd]
           show wpAny M A (if (["enumerate", "zip", "dict_itemiterator", "dict_reverseitemiterator", "odict_iterator", "itertools.zip_longest", "itertools.pairwise"].contains n && vs[0]? == some (rawInt _)) = true then _ else _) Q E s
           rw [if_neg (by intro h; rw [hn, Bool.false_and] at h; cases h)]
           exact wpAny_pure hQ))
def Itl (K:PySem.W.Frag) (a:Addr):It:=
 ⟨fun i H=>∃ xs x,SqL K H a xs∧xs[i]?=some x,fun i H x H'=>H'=H∧∀ xs,SqL K H a xs→xs[i]?=some x,fun i H=>∃ xs,SqL K H a xs∧xs.length≤i⟩
def Itt (K:PySem.W.Frag) (a:Addr):It:=
 ⟨fun i H=>∃ xs x,SqT K H a xs∧xs[i]?=some x,fun i H x H'=>H'=H∧∀ xs,SqT K H a xs→xs[i]?=some x,fun i H=>∃ xs,SqT K H a xs∧xs.length≤i⟩
def Itr (lo:Int) (n:Nat):It:=⟨fun i _=>i < n,fun i H x H'=>H'=H∧x=.int (lo+i),fun i _=>n≤i⟩
theorem pY {P:Program} {w:World} {K:PySem.W.Frag} {tg:Expr} (a it:Addr):Turn P w K tg (Itl K a) [it] it (fun i h=>h.IsListIter it a i) where
 mem:=by simp
 obj:=fun i h st b hb=>by
  have e:b=it:=by simpa using hb
  subst e
  obtain ⟨o,e,c,d⟩:=st
  exact ⟨o,e,fun v z=>by rw [d] at z;cases z⟩
 keep:=fun i h h' st k=>st.at fun o e=>k it (by simp) o e
 item:=by
  intro X hP hw hK hc i pins s σ H E I hf st hg
  subst hP hw hK
  obtain ⟨xs,x,hq,hx⟩:=hg
  obtain ⟨its,rv,p,hz⟩:=I.list hq
  obtain ⟨u,hu,ru⟩:=rv.get hx
  obtain ⟨f0,f1,f2,f3,f4,f5⟩:=hf it (by simp)
  refine wpAny_pyNext_list_item st p.isList (x:=u) (by simpa using hu) fun h' st' sb=>?_
  have I1:Inv X pins σ H { s with heap:=h' }:=I.turned (t':=s.toks) (fun b o hb e=>(sb.2 b hb).trans e) f0 f1 f3 f4 f5
  obtain ⟨o,e,c,d⟩:=id st'
  exact ⟨u,rfl,pa (s:={ s with heap:=h' }) e c d (by decide) ⟨x,H,I1,ru,⟨rfl,fun ys hy=>by rw [I.lY hy hq];exact hx⟩,st',fun b hb=>(hf b hb).1⟩⟩
 done:=by
  intro X hP hw hK hc i pins s σ H E I hf st hg
  subst hP hw hK
  obtain ⟨xs,hq,hx⟩:=hg
  obtain ⟨its,rv,p,hz⟩:=I.list hq
  obtain ⟨f0,f1,f2,f3,f4,f5⟩:=hf it (by simp)
  have hl:=rv.length
  exact wpAny_pyNext_list_end (I.ok.hd hc) st p.isList (by simp;omega) fun h' eb=>⟨rfl,I.turned (t':=s.toks) (fun b o hb e=>eb b o hb e) f0 f1 f3 f4 f5⟩
 self:=fun _ _ _ _ _ st h=>wpAny_pyIter_listiter st h
theorem pG {P:Program} {w:World} {K:PySem.W.Frag} {tg:Expr} (a it:Addr):Turn P w K tg (Itt K a) [it] it (fun i h=>h.IsTupleIter it a i) where
 mem:=by simp
 obj:=fun i h st b hb=>by
  have e:b=it:=by simpa using hb
  subst e
  obtain ⟨o,e,c,d⟩:=st
  exact ⟨o,e,fun v z=>by rw [d] at z;cases z⟩
 keep:=fun i h h' st k=>st.at fun o e=>k it (by simp) o e
 item:=by
  intro X hP hw hK hc i pins s σ H E I hf st hg
  subst hP hw hK
  obtain ⟨xs,x,hq,hx⟩:=hg
  obtain ⟨its,rv,p,hz⟩:=I.tuple hq
  obtain ⟨u,hu,ru⟩:=rv.get hx
  obtain ⟨f0,f1,f2,f3,f4,f5⟩:=hf it (by simp)
  refine wpAny_pyNext_tuple_item st (show s.heap.IsTuple a its.toArray from p) (x:=u) (by simpa using hu) fun h' st' sb=>?_
  have I1:Inv X pins σ H { s with heap:=h' }:=I.turned (t':=s.toks) (fun b o hb e=>(sb.2 b hb).trans e) f0 f1 f3 f4 f5
  obtain ⟨o,e,c,d⟩:=id st'
  exact ⟨u,rfl,pa (s:={ s with heap:=h' }) e c d (by decide) ⟨x,H,I1,ru,⟨rfl,fun ys hy=>by rw [I.p_ hy hq];exact hx⟩,st',fun b hb=>(hf b hb).1⟩⟩
 done:=by
  intro X hP hw hK hc i pins s σ H E I hf st hg
  subst hP hw hK
  obtain ⟨xs,hq,hx⟩:=hg
  obtain ⟨its,rv,p,hz⟩:=I.tuple hq
  obtain ⟨f0,f1,f2,f3,f4,f5⟩:=hf it (by simp)
  have hl:=rv.length
  exact wpAny_pyNext_tuple_end (I.ok.hd hc) st (show s.heap.IsTuple a its.toArray from p) (by simp;omega) fun h' eb=>⟨rfl,I.turned (t':=s.toks) (fun b o hb e=>eb b o hb e) f0 f1 f3 f4 f5⟩
 self:=fun _ _ _ _ _ st h=>wpAny_pyIter_tupleiter st h
theorem pR {P:Program} {w:World} {K:PySem.W.Frag} {tg:Expr} (it:Addr) (lo:Int) (n:Nat):Turn P w K tg (Itr lo n) [it] it (fun i h=>IsRangeIter h it (lo+(i:Nat) * 1) ((n:Int) - (i:Nat)) 1) where
 mem:=by simp
 obj:=fun i h st b hb=>by
  have e:b=it:=by simpa using hb
  subst e
  exact ⟨_,st,fun v z=>by
   have z':Data.fields _=Data.cell v:=z
   cases z'⟩
 keep:=fun i h h' st k=>k it (by simp) _ st
 item:=by
  intro X hP hw hK hc i pins s σ H E I hf st hg
  subst hP hw hK
  obtain ⟨f0,f1,f2,f3,f4,f5⟩:=hf it (by simp)
  have W:=Walks.range (prog:=X.prog) (w:=X.w) (I.ok.hd hc) it lo 1 n
  refine W.item i s _ _ hg st fun v h' tk hv st' kk=>?_
  obtain ⟨t,rfl⟩:=hv
  have I1:Inv X pins σ H { s with heap:=h',toks:=tk }:=I.turned (fun b o hb e=>kk b o (by simpa using hb) e) f0 f1 f3 f4 f5
  refine ⟨_,rfl,pa (s:={ s with heap:=h',toks:=tk }) (n:="range_iterator") st' rfl rfl (by decide) ⟨.int (lo+i),H,I1,⟨t,?_⟩,⟨rfl,rfl⟩,st',fun b hb=>(hf b hb).1⟩⟩
  rw [Int.mul_one]
 done:=by
  intro X hP hw hK hc i pins s σ H E I hf st hg
  subst hP hw hK
  obtain ⟨f0,f1,f2,f3,f4,f5⟩:=hf it (by simp)
  exact wpAny_pyNext_range_end (I.ok.hd hc) st (by have:n≤i:=hg;omega) fun h' eb=>⟨rfl,I.turned (t':=s.toks) (fun b o hb e=>eb b o hb e) f0 f1 f3 f4 f5⟩
 self:=fun _ _ _ _ _ st h=>wpAny_pyIter_rangeiter st h
section
variable {X:Cx} {tg:Expr}
theorem mX {pins:List (Addr×Obj)} {σ:St} {H:Hp} {s:Shared} {R:It→Hp→Prop} {E:Value→Shared→Prop} {lo hi:Int} {t u v:Tok} {tk:Nat} (I:Inv X pins σ H s) (h1:-(2 ^ 62)≤lo) (h2:lo < 2 ^ 62) (h3:-(2 ^ 62)≤hi) (h4:hi < 2 ^ 62)
  (q:R (Itr lo (hi - lo).toNat) H):wpAny (model X.prog X.w) X.A (pyIter (.ref s.heap.objs.size)) (PIE X pins σ tg R) E { s with heap:=s.heap.push { cls:=.type "range",data:=.fields #[.int lo t,.int hi u,.int 1 v] },toks:=tk }:=by
 refine wpAny_pyIter_range (IsRange.new ..) (small_one h1 h2 h3 h4) ?_
 have I1:Inv X pins σ H { s with heap:=s.heap.push { cls:=.type "range",data:=.fields #[.int lo t,.int hi u,.int 1 v] },toks:=tk }:=I.kept fun b o e=>Heap.get?_push_of_some _ e
 refine ⟨(s.heap.push { cls:=.type "range",data:=.fields #[.int lo t,.int hi u,.int 1 v] }).objs.size,[(s.heap.push { cls:=.type "range",data:=.fields #[.int lo t,.int hi u,.int 1 v] }).objs.size],_,_,H,rfl,
  I1.kept (t':=tk) fun b o e=>Heap.get?_push_of_some _ e,pR _ lo (hi - lo).toNat,?_,fun b hb=>?_,q⟩
 ·have e1:lo+((0:Nat):Int) * 1=lo:=by simp
  have e2:(((hi - lo).toNat:Nat):Int) - ((0:Nat):Int)=Builtin.Range.rangeSize lo hi 1:=by rw [rangeSize_one];split<;>omega
  show IsRangeIter _ _ (lo+((0:Nat):Int) * 1) ((((hi - lo).toNat:Nat):Int) - ((0:Nat):Int)) 1
  rw [e1,e2]
  exact Heap.get?_push_size _ rfl
 ·have e:b=(s.heap.push { cls:=.type "range",data:=.fields #[.int lo t,.int hi u,.int 1 v] }).objs.size:=by simpa using hb
  subst e
  exact I1.jn (Nat.le_refl _) (I1.hok.fresh (Nat.le_refl _))
def AQ (ta:TA):TI:=fun σ H R=>ta σ H fun vs H1=>∃ j:Int,vs=[.int j]∧-(2 ^ 62)≤j∧j < 2 ^ 62∧R (Itr 0 j.toNat) H1
def Ba (ta:TA):TI:=fun σ H R=>ta σ H fun vs H1=>∃ i j:Int,vs=[.int i,.int j]∧(-(2 ^ 62)≤i∧i < 2 ^ 62∧-(2 ^ 62)≤j∧j < 2 ^ 62)∧R (Itr i (j - i).toNat) H1
theorem qQ {a:Expr} {ta:TA} {p pos:Pos} (hg:Gl X "range") (hm:X.mg "range"=none) (ha:PA X [a] ta) (hs:starEach [a] X.env=[(false,eval a X.env)]:=by rfl):PI X tg (.Call (.Name "range" p) [a] [] pos) (AQ ta):=by
 intro pins s σ H R I h
 refine Call_ (cu I hg hm boot_range (PyProof.Rows.callWith_type1 (thn (ha pos pins s σ H _ I h) fun us s1 ⟨vs,H1,I1,r1,q1⟩=>?_) hs rfl))
 obtain ⟨j,e,q1,q2,q⟩:=q1
 subst e
 cases r1 with
 | cons r rr=>
  cases rr
  obtain ⟨t,rfl⟩:=r
  exact call_range_1 (mX I1 (by omega) (by omega) q1 q2 (by simpa using q))
theorem qS {a b:Expr} {ta:TA} {p pos:Pos} (hg:Gl X "range") (hm:X.mg "range"=none) (ha:PA X [a,b] ta) (hs:starEach [a,b] X.env=[(false,eval a X.env),(false,eval b X.env)]:=by rfl) (hs2:starEach [b] X.env=[(false,eval b X.env)]:=by rfl) :
  PI X tg (.Call (.Name "range" p) [a,b] [] pos) (Ba ta):=by
 intro pins s σ H R I h
 refine Call_ (cu I hg hm boot_range (PyProof.Rows.callWith_type1 (thn (ha pos pins s σ H _ I h) fun us s1 ⟨vs,H1,I1,r1,q1⟩=>?_) (by rw [hs,hs2]) (by rw [hs2];rfl)))
 obtain ⟨i,j,e,⟨q1,q2,q3,q4⟩,q⟩:=q1
 subst e
 cases r1 with
 | cons r rr=>
  cases rr with
  | cons r' rr=>
   cases rr
   obtain ⟨t,rfl⟩:=r
   obtain ⟨t',rfl⟩:=r'
   exact call_range_2 (mX I1 q1 q2 q3 q4 q)
def CA (wi:TI) (g:TG) (tb:TS):TS:=fun D σ H=>wi σ H fun J H1=>∃ W:Nat→Nat→St→Hp→Prop,(∃ m,W 0 m σ H1)∧∀ i m σ H,W i m σ H →
 (J.stop i H∧D.nx σ H)∨(J.go i H∧∃ N:St→Hp→Prop,(∀ σ' H',N σ' H'→∃ m',m' < m∧W (i+1) m' σ' H')∧∀ x H',J.yld i H x H'→g x σ H' fun σ2 H2=>tb { D with nx:=N,ct:=N,bk:=D.nx } σ2 H2)
def iE (fp:List Addr) (h:Heap):List (Addr×Obj):=fp.filterMap fun b=>(h.get? b).map fun o=>(b,o)
theorem eP {fp:List Addr} {h:Heap} {b:Addr} {o:Obj} (hb:b∈fp) (e:h.get? b=some o):(b,o)∈iE fp h:=List.mem_filterMap.mpr ⟨b,hb,by rw [e];rfl⟩
theorem p7 {fp:List Addr} {h:Heap} {p:Addr×Obj} (hp:p∈iE fp h):p.1∈fp∧h.get? p.1=some p.2:=by
 obtain ⟨b,hb,e⟩:=List.mem_filterMap.mp hp
 cases q:h.get? b with
 | none=>rw [q] at e;cases e
 | some o=>
  rw [q] at e
  have e':(b,o)=p:=Option.some.inj e
  subst e'
  exact ⟨hb,q⟩
theorem Inv.pinned {pins:List (Addr×Obj)} {σ:St} {H:Hp} {s:Shared} {fp:List Addr} (I:Inv X pins σ H s) (hf:∀ b∈fp,d9 X pins H b) (ho:∀ b∈fp,∃ o,s.heap.get? b=some o∧∀ v,o.data≠.cell v):Inv X (pins++iE fp s.heap) σ H s:=
 I.nJ fun p hp=>(List.mem_append.mp hp).elim (fun z=>I.pin p (List.mem_append_right _ z)) fun z=>by
  obtain ⟨hb,e⟩:=p7 z
  obtain ⟨f0,f1,f2,_⟩:=hf p.1 hb
  obtain ⟨o,e',d⟩:=ho p.1 hb
  rw [e] at e';cases e'
  exact ⟨e,f0,f1,f2,d⟩
theorem Inv.gD {pins pl:List (Addr×Obj)} {σ:St} {H:Hp} {s:Shared} (I:Inv X (pins++pl) σ H s):Inv X pins σ H s:=I.nJ fun p hp=>I.pin p (List.mem_append_right _ (List.mem_append_left _ hp))
theorem wz {iter:Expr} {body:List Stmt} {wi:TI} {g:TG} {tb:TS} {pos:Pos} (hp:PassesOwn (model X.prog X.w) X.A X.env X.xe) (hc:X.calm=true) (hi:PI X tg iter wi) (hg:PG X tg g) (hb:PSs X body tb)
  (hs:∀ x,foldedSetIterable iter X.env x=pure x:=by intro _;rfl):PS X (.For tg iter body [] pos) (CA wi g tb):=by
 intro pins s σ H D I h
 refine wpAny_For (thn (hi pins s σ H _ I h) fun v s1 h1=>thn h1 fun itv s2 h2=>?_) hs
 obtain ⟨it,fp,tn,J,H2,e,I2,T,st2,f2,W,⟨m0,w0⟩,turn⟩:=h2
 subst e
 have stat:∀ {H':Hp},(∀ b∈fp,H' b=none)→∀ b∈fp,d9 X pins H' b:=fun hn b hb=>⟨hn b hb,(f2 b hb).2⟩
 refine codeAny_forLoop_any (fun n s'=>∃ i σ' H',Inv X pins σ' H' s'∧tn i s'.heap∧(∀ b∈fp,H' b=none)∧W i n σ' H') ?_ m0 ⟨0,σ,H2,I2,st2,fun b hb=>(f2 b hb).1,w0⟩
 rintro n s3 ⟨i,σ3,H3,I3,st3,fr3,w3⟩
 rcases turn i n σ3 H3 w3 with ⟨stop,qn⟩ | ⟨go,N,hN,step⟩
 ·refine wpAny_passesOwn hp (thn (T.done X rfl rfl rfl hc i pins s3 σ3 H3 X.xe I3 (stat fr3) st3 stop) fun r s4 ⟨hr,I4⟩=>?_)
  subst hr
  exact wpAny_execs_nil ⟨σ3,H3,I4,qn⟩
 ·refine wpAny_passesOwn hp (thn (T.item X rfl rfl rfl hc i pins s3 σ3 H3 X.xe I3 (stat fr3) st3 go) fun r s4 ⟨u,hr,h4⟩=>?_)
  subst hr
  refine wpAny_passesOwn hp (thn h4 fun _ s5 ⟨x,H5,I5,r5,y5,st5,fr5⟩=>?_)
  have I5':=I5.pinned (stat fr5) (T.obj _ _ st5)
  refine wpAny_passesOwn hp (thn (hg _ s5 σ3 H5 x u _ I5' r5 (step x H5 y5)) fun _ s6 ⟨σ6,H6,I6,q6⟩=>?_)
  refine wpAny_passesOwn hp (thn (hb _ s6 σ6 H6 _ I6 q6) fun f s7 q7=>?_)
  have again:∀ {σ7:St} {H7:Hp},Inv X (pins++iE fp s5.heap) σ7 H7 s7→N σ7 H7→∃ m,m < n∧∃ i σ' H',Inv X pins σ' H' s7∧tn i s7.heap∧(∀ b∈fp,H' b=none)∧W i m σ' H':=fun {σ7 H7} I7 n7=>by
   obtain ⟨m',hm,w7⟩:=hN σ7 H7 n7
   refine ⟨m',hm,i+1,σ7,H7,I7.gD,T.keep _ _ _ st5 fun b hb o e=>(I7.pin (b,o) (List.mem_append_right _ (List.mem_append_right _ (eP hb e)))).1,fun b hb=>?_,w7⟩
   obtain ⟨o,e,d⟩:=T.obj _ _ st5 b hb
   exact (I7.pin (b,o) (List.mem_append_right _ (List.mem_append_right _ (eP hb e)))).2.1
  cases f with
  | next=>obtain ⟨σ7,H7,I7,n7⟩:=q7;exact again I7 n7
  | cont=>obtain ⟨σ7,H7,I7,n7⟩:=q7;exact again I7 n7
  | brk=>obtain ⟨σ7,H7,I7,q7⟩:=q7;exact ⟨σ7,H7,I7.gD,q7⟩
  | ret v=>obtain ⟨x7,σ7,H7,I7,r7,q7⟩:=q7;exact ⟨x7,σ7,H7,I7.gD,r7,q7⟩
end
abbrev R2:=V→V→Hp→VK→Prop
def OpR (X:Cx) (f:Value→Value→Sem Value) (r:R2):Prop:=
 ∀ (pins:List (Addr×Obj)) (s:Shared) (σ:St) (H:Hp) (x y:V) (v u:Value) (Q:VK),Inv X pins σ H s→RelV x v→RelV y u→r x y H Q →
  wpAny (model X.prog X.w) X.A (f v u) (EP X pins σ Q) X.xe s
def UnR (X:Cx) (f:Value→Sem Value) (r:V→Hp→VK→Prop):Prop:=
 ∀ (pins:List (Addr×Obj)) (s:Shared) (σ:St) (H:Hp) (x:V) (v:Value) (Q:VK),Inv X pins σ H s→RelV x v→r x H Q →
  wpAny (model X.prog X.w) X.A (f v) (EP X pins σ Q) X.xe s
def bH (X:Cx) (f:Value) (r:List V→Hp→VK→Prop):Prop:=
 ∀ (pins:List (Addr×Obj)) (s:Shared) (σ:St) (H:Hp) (xs:List V) (us:List Value) (Q:VK),Inv X pins σ H s→Vals xs us→r xs H Q →
  wpAny (model X.prog X.w) X.A (call f us) (EP X pins σ Q) X.xe s
def Ck (X:Cx) (r:V→Hp→(Bool→Hp→Prop)→Prop):Prop:=
 ∀ (pins:List (Addr×Obj)) (s:Shared) (σ:St) (H:Hp) (x:V) (v:Value) (Q:Bool→Hp→Prop),Inv X pins σ H s→RelV x v→r x H Q →
  wpAny (model X.prog X.w) X.A (truthy v) (TP X pins σ Q) X.xe s
def tOp (r:R2) (ta tb:TE):TE:=fun σ H Q=>ta σ H fun x H1=>tb σ H1 fun y H2=>r x y H2 Q
def tUn (r:V→Hp→VK→Prop) (ta:TE):TE:=fun σ H Q=>ta σ H fun x H1=>r x H1 Q
def rI (C:Int→Int→Prop) (g:Int→Int→V):R2:=fun x y H Q=>∃ i j,x=.int i∧y=.int j∧C i j∧Q (g i j) H
def rI0 (g:Int→Int→V):R2:=fun x y H Q=>∃ i j,x=.int i∧y=.int j∧Q (g i j) H
def rU (g:Int→V):V→Hp→VK→Prop:=fun x H Q=>∃ i,x=.int i∧Q (g i) H
section
variable {X:Cx} {a b c:Expr} {ta tb tc:TE} {pos:Pos}
theorem tN (ha:PE X a ta) (hb:PE X b tb) {pins:List (Addr×Obj)} {s:Shared} {σ:St} {H:Hp} {R:V→V→Hp→Prop} (I:Inv X pins σ H s)
  (h:ta σ H fun x H1=>tb σ H1 fun y H2=>R x y H2) {Q:Value→Shared→Prop} {f:Value→Value→Sem Value}
  (hf:∀ v u s2 x y H2,Inv X pins σ H2 s2→RelV x v→RelV y u→R x y H2→wpAny (model X.prog X.w) X.A (f v u) Q X.xe s2) :
  wpAny (model X.prog X.w) X.A (eval a X.env) (fun v s₁=>wpAny (model X.prog X.w) X.A (eval b X.env) (fun u s₂=>wpAny (model X.prog X.w) X.A (f v u) Q X.xe s₂) X.xe s₁) X.xe s:=by
 refine thn (ha pins s σ H _ I h) fun v s1 ⟨x,H1,I1,r1,q1⟩=>?_
 refine thn (hb pins s1 σ H1 _ I1 q1) fun u s2 ⟨y,H2,I2,r2,q2⟩=>?_
 exact hf v u s2 x y H2 I2 r1 r2 q2
theorem Aj {op:Operator} {r:R2} (ho:OpR X (binaryOp op) r) (ha:PE X a ta) (hb:PE X b tb):PE X (.BinOp a op b pos) (tOp r ta tb):=by
 intro pins s σ H Q I h
 exact wpAny_BinOp (tN ha hb I h fun v u s2 x y H2 I2 rx ry q=>ho pins s2 σ H2 x y v u Q I2 rx ry q)
theorem Ao {op:UnaryOp} {r:V→Hp→VK→Prop} (ho:UnR X (unaryOp op) r) (ha:PE X a ta):PE X (.UnaryOp op a pos) (tUn r ta):=by
 intro pins s σ H Q I h
 exact UnaryOp_ (thn (ha pins s σ H _ I h) fun v s1 ⟨x,H1,I1,r1,q1⟩=>ho pins s1 σ H1 x v Q I1 r1 q1)
theorem opI {f:Value→Value→Sem Value} {C:Int→Int→Prop} {g:Int→Int→Int}
  (rule:∀ (i j:Int) (t u:Tok) (s:Shared) (Q:Value→Shared→Prop) (E:Value→Shared→Prop),C i j→Q (.int (g i j) s.toks) { s with toks:=s.toks+1 }→wpAny (model X.prog X.w) X.A (f (.int i t) (.int j u)) Q E s) :
  OpR X f (rI C fun i j=>.int (g i j)):=by
 intro pins s σ H x y v u Q I rx ry h
 obtain ⟨i,j,rfl,rfl,hc,q⟩:=h
 obtain ⟨t,rfl⟩:=rx
 obtain ⟨t',rfl⟩:=ry
 exact rule i j t t' s _ _ hc ⟨.int (g i j),H,I.tok _,⟨_,rfl⟩,q⟩
theorem yg {f:Value→Value→Sem Value} {g:Int→Int→Int}
  (rule:∀ (i j:Int) (t u:Tok) (s:Shared) (Q:Value→Shared→Prop) (E:Value→Shared→Prop),Q (.int (g i j) s.toks) { s with toks:=s.toks+1 }→wpAny (model X.prog X.w) X.A (f (.int i t) (.int j u)) Q E s) :
  OpR X f (rI0 fun i j=>.int (g i j)):=by
 intro pins s σ H x y v u Q I rx ry h
 obtain ⟨i,j,rfl,rfl,q⟩:=h
 obtain ⟨t,rfl⟩:=rx
 obtain ⟨t',rfl⟩:=ry
 exact rule i j t t' s _ _ ⟨.int (g i j),H,I.tok _,⟨_,rfl⟩,q⟩
theorem oR {f:Value→Value→Sem Value} {g:Int→Int→Bool}
  (rule:∀ (i j:Int) (t u:Tok) (s:Shared) (Q:Value→Shared→Prop) (E:Value→Shared→Prop),Q (.bool (g i j)) s→wpAny (model X.prog X.w) X.A (f (.int i t) (.int j u)) Q E s) :
  OpR X f (rI0 fun i j=>.bl (g i j)):=by
 intro pins s σ H x y v u Q I rx ry h
 obtain ⟨i,j,rfl,rfl,q⟩:=h
 obtain ⟨t,rfl⟩:=rx
 obtain ⟨t',rfl⟩:=ry
 exact rule i j t t' s _ _ ⟨.bl (g i j),H,I,rfl,q⟩
def kn (i j:Int):Prop:=0 < j∧j < 1073741824
def kd (i j:Int):Prop:=0≤j∧j≤1000000∧i.natAbs < 2 ^ 64
def gz (i j:Int):Prop:=(-(2 ^ 64) < i∧i < 2 ^ 64)∨(-(2 ^ 64) < j∧j < 2 ^ 64)
theorem gz.ok {i j:Int} (h:gz i j):IntMulOk i j:=by
 rcases h with ⟨h1,h2⟩ | ⟨h1,h2⟩
 ·exact .of_left (intBits_le_64 h1 h2)
 ·exact .of_right (intBits_le_64 h1 h2)
theorem we:OpR X (binaryOp .Add) (rI0 fun i j=>.int (i+j)):=yg fun _ _ _ _ _ _ _ q=>add_int q
theorem c_:OpR X (binaryOp .Sub) (rI0 fun i j=>.int (i - j)):=yg fun _ _ _ _ _ _ _ q=>sub_int q
theorem dF:OpR X (binaryOp .Mult) (rI gz fun i j=>.int (i * j)):=opI fun _ _ _ _ _ _ _ hc q=>mul_int q hc.ok
theorem vy:OpR X (binaryOp .FloorDiv) (rI kn fun i j=>.int (i / j)):=opI fun i j _ _ _ _ _ hc q=>by
 have h1:(0:Int) < j:=hc.1
 have h2:j < 1073741824:=hc.2
 exact floordiv_int (by omega) (by rw [Int.fdiv_eq_ediv_of_nonneg i (by omega)];exact q) (.inl (PyProof.noPylong_small (by omega)))
theorem dc:OpR X (binaryOp .Mod) (rI (fun _ j=>0 < j) fun i j=>.int (i % j)):=opI fun i j _ _ _ _ _ hc q=>by
 have h1:(0:Int) < j:=hc
 exact mod_int' (by omega) (by rw [Int.fmod_eq_emod_of_nonneg i (by omega)];exact q)
theorem jO:OpR X (binaryOp .Pow) (rI kd fun i j=>.int (i ^ j.toNat)):=opI fun _ _ _ _ _ _ _ hc q=>pow_int_small hc.1 hc.2.1 hc.2.2 q
theorem unI {f:Value→Sem Value} {g:Int→Int}
  (rule:∀ (i:Int) (t:Tok) (s:Shared) (Q:Value→Shared→Prop) (E:Value→Shared→Prop),Q (.int (g i) s.toks) { s with toks:=s.toks+1 }→wpAny (model X.prog X.w) X.A (f (.int i t)) Q E s) :
  UnR X f (rU fun i=>.int (g i)):=by
 intro pins s σ H x v Q I rx h
 obtain ⟨i,rfl,q⟩:=h
 obtain ⟨t,rfl⟩:=rx
 exact rule i t s _ _ ⟨.int (g i),H,I.tok _,⟨_,rfl⟩,q⟩
theorem dB:UnR X (unaryOp .USub) (rU fun i=>.int (-i)):=unI fun _ _ _ _ _ q=>neg_int q
end
def rS:V→V→Bool
 | .non,.non=>true | .non,.int _=>true | .int _,.non=>true | .non,.bl _=>true | .bl _,.non=>true | .non,.str _=>true | .str _,.non=>true
 | .int _,.int _=>true | .bl _,.bl _=>true | .str _,.str _=>true | .byt _,.byt _=>true
 | .int _,.str _=>true | .str _,.int _=>true | .bl _,.str _=>true | .str _,.bl _=>true
 | _,_=>false
def rEq:R2:=fun x y H Q=>rS x y=true∧Q (.bl (decide (x=y))) H
def rNe:R2:=fun x y H Q=>rS x y=true∧Q (.bl (!decide (x=y))) H
theorem nU {i j:Int}:decide (V.int i=V.int j)=(i == j):=by
 rw [Bool.eq_iff_iff]
 simp
theorem qG {i j:Bool}:decide (V.bl i=V.bl j)=(i == j):=by
 rw [Bool.eq_iff_iff]
 simp
theorem nM {i j:Str}:decide (V.str i=V.str j)=(i == j):=by
 rw [Bool.eq_iff_iff]
 simp
theorem nX {i j:Array UInt8}:decide (V.byt i=V.byt j)=(i.toList == j.toList):=by
 rw [Bool.eq_iff_iff]
 cases i
 cases j
 simp
section
variable {X:Cx} {a b c:Expr} {ta tb tc:TE} {pos:Pos}
theorem aX {pins:List (Addr×Obj)} {σ:St} {H:Hp} {s:Shared} {Q:VK} {k k':Bool} (I:Inv X pins σ H s) (q:Q (.bl k) H) (e:k=k'):EP X pins σ Q (.bool k') s:=by
 subst e
 exact ⟨.bl k,H,I,rfl,q⟩
theorem A4:OpR X (compareOp .Eq) rEq:=by
 intro pins s σ H x y v u Q I rx ry h
 obtain ⟨hs,q⟩:=h
 cases x with
 | non=>
  cases rx
  cases y with
  | non=>cases ry;exact PySem.EqNone.eq_none_none (aX I q (by simp))
  | bl j=>cases ry;exact PySem.EqNone.eq_none_bool (aX I q (by simp))
  | int j=>obtain ⟨t',rfl⟩:=ry;exact PySem.EqNone.eq_none_int (aX I q (by simp))
  | str j=>obtain ⟨t',rfl⟩:=ry;exact PySem.EqNone.eq_none_str (aX I q (by simp))
  | _=>exact absurd (show false=true from hs) Bool.false_ne_true
 | bl i=>
  cases rx
  cases y with
  | non=>cases ry;exact PySem.EqNone.eq_bool_none (aX I q (by simp))
  | bl j=>cases ry;exact eq_bool (aX I q qG)
  | str j=>obtain ⟨t',rfl⟩:=ry;exact PySem.EqMixed.eq_bool_str (aX I q (by simp))
  | _=>exact absurd (show false=true from hs) Bool.false_ne_true
 | int i=>
  obtain ⟨t,rfl⟩:=rx
  cases y with
  | non=>cases ry;exact PySem.EqNone.eq_int_none (aX I q (by simp))
  | int j=>obtain ⟨t',rfl⟩:=ry;exact eq_int (aX I q nU)
  | str j=>obtain ⟨t',rfl⟩:=ry;exact PySem.EqMixed.eq_int_str (aX I q (by simp))
  | _=>exact absurd (show false=true from hs) Bool.false_ne_true
 | str i=>
  obtain ⟨t,rfl⟩:=rx
  cases y with
  | non=>cases ry;exact PySem.EqNone.eq_str_none (aX I q (by simp))
  | bl j=>cases ry;exact PySem.EqMixed.eq_str_bool (aX I q (by simp))
  | int j=>obtain ⟨t',rfl⟩:=ry;exact PySem.EqMixed.eq_str_int (aX I q (by simp))
  | str j=>obtain ⟨t',rfl⟩:=ry;exact eq_str (aX I q nM)
  | _=>exact absurd (show false=true from hs) Bool.false_ne_true
 | byt i=>
  obtain ⟨t,rfl⟩:=rx
  cases y with
  | byt j=>obtain ⟨t',rfl⟩:=ry;exact PySem.W.eq_bytes (aX I q nX)
  | _=>exact absurd (show false=true from hs) Bool.false_ne_true
 | _=>cases y<;>exact absurd (show false=true from hs) Bool.false_ne_true
theorem Bp:OpR X (compareOp .NotEq) rNe:=by
 intro pins s σ H x y v u Q I rx ry h
 obtain ⟨hs,q⟩:=h
 cases x with
 | non=>
  cases rx
  cases y with
  | non=>cases ry;exact PySem.EqNone.ne_none_none (aX I q (by simp))
  | bl j=>cases ry;exact PySem.EqNone.ne_none_bool (aX I q (by simp))
  | int j=>obtain ⟨t',rfl⟩:=ry;exact PySem.EqNone.ne_none_int (aX I q (by simp))
  | str j=>obtain ⟨t',rfl⟩:=ry;exact PySem.EqNone.ne_none_str (aX I q (by simp))
  | _=>exact absurd (show false=true from hs) Bool.false_ne_true
 | bl i=>
  cases rx
  cases y with
  | non=>cases ry;exact PySem.EqNone.ne_bool_none (aX I q (by simp))
  | bl j=>cases ry;exact ne_bool (aX I q (congrArg not qG))
  | str j=>obtain ⟨t',rfl⟩:=ry;exact PySem.EqMixed.ne_bool_str (aX I q (by simp))
  | _=>exact absurd (show false=true from hs) Bool.false_ne_true
 | int i=>
  obtain ⟨t,rfl⟩:=rx
  cases y with
  | non=>cases ry;exact PySem.EqNone.ne_int_none (aX I q (by simp))
  | int j=>obtain ⟨t',rfl⟩:=ry;exact ne_int (aX I q (congrArg not nU))
  | str j=>obtain ⟨t',rfl⟩:=ry;exact PySem.EqMixed.ne_int_str (aX I q (by simp))
  | _=>exact absurd (show false=true from hs) Bool.false_ne_true
 | str i=>
  obtain ⟨t,rfl⟩:=rx
  cases y with
  | non=>cases ry;exact PySem.EqNone.ne_str_none (aX I q (by simp))
  | bl j=>cases ry;exact PySem.EqMixed.ne_str_bool (aX I q (by simp))
  | int j=>obtain ⟨t',rfl⟩:=ry;exact PySem.EqMixed.ne_str_int (aX I q (by simp))
  | str j=>obtain ⟨t',rfl⟩:=ry;exact ne_str (aX I q (congrArg not nM))
  | _=>exact absurd (show false=true from hs) Bool.false_ne_true
 | byt i=>
  obtain ⟨t,rfl⟩:=rx
  cases y with
  | byt j=>obtain ⟨t',rfl⟩:=ry;exact PySem.W.ne_bytes (aX I q (congrArg not nX))
  | _=>exact absurd (show false=true from hs) Bool.false_ne_true
 | _=>cases y<;>exact absurd (show false=true from hs) Bool.false_ne_true
theorem gm:OpR X (compareOp .Lt) (rI0 fun i j=>.bl (decide (i < j))):=oR fun _ _ _ _ _ _ _ q=>lt_int q
theorem iW:OpR X (compareOp .LtE) (rI0 fun i j=>.bl (decide (i≤j))):=oR fun _ _ _ _ _ _ _ q=>le_int q
theorem i0:OpR X (compareOp .Gt) (rI0 fun i j=>.bl (decide (j < i))):=oR fun _ _ _ _ _ _ _ q=>gt_int q
theorem ue:OpR X (compareOp .GtE) (rI0 fun i j=>.bl (decide (j≤i))):=oR fun _ _ _ _ _ _ _ q=>ge_int q
theorem wQ:OpR X (compareOp .Is) (fun x y H Q=>y=.non∧Q (.bl (decide (x=.non))) H):=by
  intro pins s σ H x y v u Q I rx ry h
  obtain ⟨rfl,q⟩:=h
  cases ry
  refine is_none_gen (aX I q ?_)
  cases x<;>first
    | (cases rx;rfl)
    | (obtain ⟨t,rfl⟩:=rx;rfl)
theorem OpR.or {f:Value→Value→Sem Value} {r r':R2} (h:OpR X f r) (h':OpR X f r'):OpR X f (fun x y H Q=>r x y H Q∨r' x y H Q):=by
 intro pins s σ H x y v u Q I rx ry q
 rcases q with q | q
 ·exact h pins s σ H x y v u Q I rx ry q
 ·exact h' pins s σ H x y v u Q I rx ry q
theorem qm (b:Expr) {op:CmpOp} (h:op≠.In:=by decide) (h2:op≠.NotIn:=by decide):behindInMarks op b=false:=by
  have e1:(op == CmpOp.In)=false:=by cases op<;>first | rfl | exact absurd rfl h
  have e2:(op == CmpOp.NotIn)=false:=by cases op<;>first | rfl | exact absurd rfl h2
  cases b<;>simp [behindInMarks,e1,e2]
theorem uJ {op:CmpOp} {r:R2} (ho:OpR X (compareOp op) r) (ha:PE X a ta) (hb:PE X b tb) (hm:behindInMarks op b=false):PE X (.Compare a [op] [b] pos) (tOp r ta tb):=by
 intro pins s σ H Q I h
 exact wpAny_Compare1 (tN ha hb I h fun v u s2 x y H2 I2 rx ry q=>ho pins s2 σ H2 x y v u Q I2 rx ry q) hm
def ua (t:TE):TT:=fun σ H Q=>t σ H fun x H'=>∃ k,x=.bl k∧Q k H'
theorem vt {op:CmpOp} {r:R2} (ho:OpR X (compareOp op) r) (ha:PE X a ta) (hb:PE X b tb) (hm:behindInMarks op b=false):PT X (.Compare a [op] [b] pos) (ua (tOp r ta tb)):=by
 intro pins s σ H Q I h
 refine wpAny_isTrue_Compare1 (thn (ha pins s σ H _ I h) fun v s1 ⟨x,H1,I1,r1,q1⟩=>thn (hb pins s1 σ H1 _ I1 q1) fun u s2 ⟨y,H2,I2,r2,q2⟩=>
  thn (ho pins s2 σ H2 x y v u _ I2 r1 r2 q2) fun c s3 ⟨z,H3,I3,r3,k,e,q3⟩=>?_) hm
 subst e
 cases r3
 exact wpAny_truthy_bool ⟨H3,I3,q3⟩
def lU (r r':R2) (ta tb tc:TE):TE:=fun σ H Q=>ta σ H fun x H1=>tb σ H1 fun y H2=>r x y H2 fun z H3=>∃ k,z=.bl k ∧
 (if k=true then tc σ H3 fun w' H4=>r' y w' H4 Q else Q (.bl false) H3)
theorem r_ {op op':CmpOp} {r r':R2} (ho:OpR X (compareOp op) r) (ho':OpR X (compareOp op') r') (ha:PE X a ta) (hb:PE X b tb) (hc:PE X c tc)
  (hm:lastMarks [op,op'] [b,c]=false:=by with_unfolding_all rfl):PE X (.Compare a [op,op'] [b,c] pos) (lU r r' ta tb tc):=by
 intro pins s σ H Q I h
 refine Compare_chain (thn (ha pins s σ H _ I h) fun v s1 ⟨x,H1,I1,r1,q1⟩=>chain_link (thn (hb pins s1 σ H1 _ I1 q1) fun u s2 ⟨y,H2,I2,r2,q2⟩=>
  thn (ho pins s2 σ H2 x y v u _ I2 r1 r2 q2) fun d s3 ⟨z,H3,I3,r3,k,e,q3⟩=>?_)) hm
 subst e
 cases r3
 refine wpAny_truthy_bool ?_
 cases k with
 | false=>exact ite_ff ⟨.bl false,H3,I3,rfl,q3⟩
 | true=>exact ite_tt (chain_last (thn (hc pins s3 σ H3 _ I3 q3) fun w' s4 ⟨z',H4,I4,r4,q4⟩=>ho' pins s4 σ H4 y z' u w' Q I4 r2 r4 q4))
theorem si {op op':CmpOp} {r r':R2} (ho:OpR X (compareOp op) r) (ho':OpR X (compareOp op') r') (ha:PE X a ta) (hb:PE X b tb) (hc:PE X c tc)
  (hm:lastMarks [op,op'] [b,c]=false:=by with_unfolding_all rfl):PT X (.Compare a [op,op'] [b,c] pos) (ua (lU r r' ta tb tc)):=by
 intro pins s σ H Q I h
 refine isTrue_chain (thn (ha pins s σ H _ I h) fun v s1 ⟨x,H1,I1,r1,q1⟩=>test_link (thn (hb pins s1 σ H1 _ I1 q1) fun u s2 ⟨y,H2,I2,r2,q2⟩=>
  thn (ho pins s2 σ H2 x y v u _ I2 r1 r2 q2) fun d s3 ⟨z,H3,I3,r3,k,e,q3⟩=>?_)) hm
 subst e
 cases r3
 refine wpAny_truthy_bool ?_
 cases k with
 | false=>
  obtain ⟨k',e',q'⟩:=q3
  cases e'
  exact ite_ff ⟨H3,I3,q'⟩
 | true=>
  refine ite_tt (test_last (thn (hc pins s3 σ H3 _ I3 q3) fun w' s4 ⟨z',H4,I4,r4,q4⟩=>thn (ho' pins s4 σ H4 y z' u w' _ I4 r2 r4 q4) fun d' s5 ⟨z2,H5,I5,r5,k2,e2,q5⟩=>?_))
  subst e2
  cases r5
  exact wpAny_truthy_bool ⟨H5,I5,q5⟩
def sP (K:PySem.W.Frag) (x:V) (H:Hp) (k:Bool):Prop:=
 match x with
 | .non=>k=false
 | .bl b=>k=b
 | .int i=>k=(i != 0)
 | .str y=>y.length≤sizeLine∧k=((y.length:Int) != 0)
 | .byt y=>y.size≤sizeLine∧k=((y.size:Int) != 0)
 | .ref p=>(∃ xs,SqL K H p xs∧k=!xs.isEmpty)∨(∃ xs,SqT K H p xs∧k=!xs.isEmpty)∨∃ kvs,H p=some (.dK kvs)∧k=!kvs.isEmpty
 | _=>False
theorem oQ {κ:Type} {kvs:List (κ×V)} {vs:List (κ×Value)} (r:KV kvs vs):(!vs.isEmpty)=!kvs.isEmpty:=by
 cases r<;>rfl
theorem jE {xs:List V} {its:List Value} (r:Vals xs its):(!its.toArray.isEmpty)=!xs.isEmpty:=by
 cases r<;>simp
theorem ir:(sizeLine:Nat) < 2 ^ 63:=by rw [sizeLine_eq];decide
theorem xt:Ck X (fun x H Q=>∃ k,sP X.K x H k∧Q k H):=by
 intro pins s σ H x v Q I rx h
 obtain ⟨k,e,q⟩:=h
 have hl:=ir
 have hs:sizeLine=16777216:=sizeLine_eq
 cases x with
 | non=>
  cases rx
  have e':k=false:=e
  subst e'
  exact truthy_none ⟨H,I,q⟩
 | bl b=>
  cases rx
  have e':k=b:=e
  subst e'
  exact wpAny_truthy_bool ⟨H,I,q⟩
 | int i=>
  obtain ⟨t,rfl⟩:=rx
  have e':k=(i != 0):=e
  subst e'
  exact PySem.P.truthy_int ⟨H,I,q⟩
 | str y=>
  obtain ⟨t,rfl⟩:=rx
  obtain ⟨hy,e'⟩:y.length≤sizeLine∧k=((y.length:Int) != 0):=e
  subst e'
  exact PySem.P.truthy_str (by omega) ⟨H,I.tok _,q⟩
 | byt y=>
  obtain ⟨t,rfl⟩:=rx
  obtain ⟨hy,e'⟩:y.size≤sizeLine∧k=((y.size:Int) != 0):=e
  subst e'
  exact PySem.W.truthy_bytes (by omega) ⟨H,I.tok _,q⟩
 | ref p=>
  cases rx
  have e':(∃ xs,SqL X.K H p xs∧k=!xs.isEmpty)∨(∃ xs,SqT X.K H p xs∧k=!xs.isEmpty)∨∃ kvs,H p=some (.dK kvs)∧k=!kvs.isEmpty:=e
  rcases e' with ⟨xs,hx,e'⟩ | ⟨xs,hx,e'⟩ | ⟨kvs,hx,e'⟩
  ·subst e'
   obtain ⟨its,r,pl,hz⟩:=I.list hx
   have hlen:=r.length
   exact wpAny_truthy_list pl.isList (by simp only [List.size_toArray];omega) ⟨H,I.tok _,by rw [jE r];exact q⟩
  ·subst e'
   obtain ⟨its,r,pl,hz⟩:=I.tuple hx
   have hlen:=r.length
   exact truthy_tuple pl (by simp only [List.size_toArray];omega) ⟨H,I.tok _,by rw [jE r];exact q⟩
  ·subst e'
   obtain ⟨hz,hS,vs,r,m⟩:kvs.length≤sizeLine∧(p == sysModules)=false∧∃ vs,KV kvs vs∧s.heap.DictOf (iZ X.prog X.w) p vs:=I.hok p _ hx
   have hlen:kvs.length=vs.length:=Paired.length r
   exact wpAny_truthy_dict hS m (by omega) ⟨H,I.tok _,by rw [oQ r];exact q⟩
 | _=>exact (show False from e).elim
theorem tf (ha:PE X a ta) (he:∀ whole,isTrue a X.env whole=(do let v ← whole;standAt a.pos;holding [v] (truthy v))) :
  PT X a (fun σ H Q=>ta σ H fun x H'=>∃ k,sP X.K x H' k∧Q k H'):=by
 intro pins s σ H Q I h
 exact isTrue_plain (thn (ha pins s σ H _ I h) fun v s1 ⟨x,H1,I1,r1,q1⟩=>xt pins s1 σ H1 x v Q I1 r1 q1) (he _)
theorem pF:OpR X (binaryOp .Add) (fun x y H Q=>∃ i j,x=.str i∧y=.str j∧i.length+j.length≤sizeLine∧Q (.str (i++j)) H):=by
 intro pins s σ H x y v u Q I rx ry h
 obtain ⟨i,j,rfl,rfl,hz,q⟩:=h
 obtain ⟨t,rfl⟩:=rx
 obtain ⟨t',rfl⟩:=ry
 exact add_str (fun t' tk=>⟨.str (i++j),H,I.tok _,⟨_,rfl⟩,q⟩) hz
theorem vals1 {x:V} {us:List Value} (r:Vals [x] us):∃ u,us=[u]∧RelV x u:=by
 cases r with
 | cons r1 r2=>cases r2;exact ⟨_,rfl,r1⟩
theorem vals2 {x y:V} {us:List Value} (r:Vals [x,y] us):∃ u w',us=[u,w']∧RelV x u∧RelV y w':=by
 cases r with
 | cons r1 r2=>
  cases r2 with
  | cons r3 r4=>cases r4;exact ⟨_,_,rfl,r1,r3⟩
theorem qr (hc:X.calm=true):bH X (.builtin "max") (fun xs H Q=>∃ i j,xs=[.int i,.int j]∧Q (.int (if j > i then j else i)) H):=by
 intro pins s σ H xs us Q I r h
 obtain ⟨i,j,rfl,q⟩:=h
 obtain ⟨u,w',rfl,⟨t,rfl⟩,⟨t',rfl⟩⟩:=vals2 r
 refine max_two_ints (I.ok.hd hc) fun h' tk k=>⟨_,H,I.kept k,?_,q⟩
 by_cases hj:j > i
 ·rw [if_pos hj,if_pos hj];exact ⟨_,rfl⟩
 ·rw [if_neg hj,if_neg hj];exact ⟨_,rfl⟩
theorem qO (hc:X.calm=true):bH X (.builtin "min") (fun xs H Q=>∃ i j,xs=[.int i,.int j]∧Q (.int (if j < i then j else i)) H):=by
 intro pins s σ H xs us Q I r h
 obtain ⟨i,j,rfl,q⟩:=h
 obtain ⟨u,w',rfl,⟨t,rfl⟩,⟨t',rfl⟩⟩:=vals2 r
 refine min_two_ints (I.ok.hd hc) fun h' tk k=>⟨_,H,I.kept k,?_,q⟩
 by_cases hj:j < i
 ·rw [if_pos hj,if_pos hj];exact ⟨_,rfl⟩
 ·rw [if_neg hj,if_neg hj];exact ⟨_,rfl⟩
def BP (K:PySem.W.Frag) (x:V) (H:Hp) (n:Nat):Prop:=
 match x with
 | .str y=>y.length≤sizeLine∧n=y.length
 | .byt y=>y.size≤sizeLine∧n=y.size
 | .ref p=>(∃ xs,SqL K H p xs∧n=xs.length)∨∃ xs,SqT K H p xs∧n=xs.length
 | _=>False
theorem mx:bH X (.builtin "len") (fun xs H Q=>∃ x n,xs=[x]∧BP X.K x H n∧Q (.int n) H):=by
 intro pins s σ H xs us Q I r h
 obtain ⟨x,n,rfl,e,q⟩:=h
 obtain ⟨u,rfl,rx⟩:=vals1 r
 have hl:=ir
 have hs:sizeLine=16777216:=sizeLine_eq
 cases x with
 | str y=>
  obtain ⟨t,rfl⟩:=rx
  obtain ⟨hy,e'⟩:y.length≤sizeLine∧n=y.length:=e
  subst e'
  exact len_str (by omega) ⟨.int _,H,I.tok _,⟨_,rfl⟩,q⟩
 | byt y=>
  obtain ⟨t,rfl⟩:=rx
  obtain ⟨hy,e'⟩:y.size≤sizeLine∧n=y.size:=e
  subst e'
  exact PySem.W.len_bytes (by omega) ⟨.int _,H,I.tok _,⟨_,rfl⟩,q⟩
 | ref p=>
  cases rx
  have e':(∃ xs,SqL X.K H p xs∧n=xs.length)∨∃ xs,SqT X.K H p xs∧n=xs.length:=e
  rcases e' with ⟨xs,hx,e'⟩ | ⟨xs,hx,e'⟩
  ·subst e'
   obtain ⟨its,r',pl,hz⟩:=I.list hx
   have hlen:=r'.length
   exact Calls.call_len_list pl.isList (by simp only [List.size_toArray];omega) ⟨.int xs.length,H,I.tok _,⟨_,by simp only [List.size_toArray];rw [hlen]⟩,q⟩
  ·subst e'
   obtain ⟨its,r',pl,hz⟩:=I.tuple hx
   have hlen:=r'.length
   exact len_tuple pl (by simp only [List.size_toArray];omega) ⟨.int xs.length,H,I.tok _,⟨_,by simp only [List.size_toArray];rw [hlen]⟩,q⟩
 | _=>exact (show False from e).elim
end
structure tD (h:Heap) (x dx C:Addr) (mA:Str→Option Value):Prop where
 obj:h.get? x=some (PySem.W.instObj C dx)
 ns:h.Ns1 dx mA
 ne:dx≠x
theorem qz {h:Heap} {dx:Addr} {mA:Str→Option Value} (n:h.Ns1 dx mA):∃ od,h.get? dx=some od∧∀ name,PySem.W.lookIn name od=some (mA name):=by
 obtain ⟨o,es,ep,ho,hd,hk,_,hm⟩:=n
 refine ⟨o,ho,fun name=>?_⟩
 have e:=hm name
 unfold nsFind findBy at e
 rw [← Array.find?_toList] at e
 unfold PySem.W.lookIn
 rw [hd]
 dsimp only
 split
 ·rename_i y q
  rw [q] at e
  exact congrArg some e
 ·rename_i q
  rw [q] at e
  have a:es.toList.any (·.refKey)=false:=by
   rw [List.any_eq_false]
   intro y hy
   obtain ⟨z,t,hkey⟩:=hk y (Array.mem_toList_iff.mp hy)
   simp [DictEntry.refKey,hkey]
  have a':¬es.toList.any (·.refKey)=true:=by rw [a];exact Bool.false_ne_true
  rw [if_neg a']
  exact congrArg some e
theorem tD.look {h:Heap} {x dx C:Addr} {mA:Str→Option Value} (I:tD h x dx C mA):∃ od,PySem.W.InstAt h x (PySem.W.instObj C dx) C (some od)∧∀ name,PySem.W.lookIn name od=some (mA name):=
 let ⟨od,ho,hl⟩:=qz I.ns
 ⟨od,⟨I.obj,rfl,rfl,ho⟩,hl⟩
section
variable {P:Program} {w:World} {H H':Hp} {h h':Heap} {a C dx:Addr} {fs fs':List (Str×V)}
theorem vf (hok:HOk P w H h) (e:H a=some (.ins C dx fs)):∃ mA,tD h a dx C mA∧(∀ f,tQ (fs.lookup f) (mA f))∧PySem.Within mA (fs.map (·.1))∧fs.length≤1000∧H dx=some (.own a):=by
 obtain ⟨d,z,ne,ob,mA,n,r,q⟩:=(show bC P w H h a (.ins C dx fs) from hok a _ e)
 exact ⟨mA,⟨ob,n,ne⟩,r,q,z,d⟩
end
structure Cls (K:PySem.W.Frag) (C:Addr):Prop where
 pg:PySem.W.plainGet K C Str.empty=true
 hd:PySem.W.hasDictIn K C=true
 po:PySem.W.plainOver K C=true
 sa:PySem.W.findIn K (.ref C) "__setattr__"=some (some (.builtin "object.__setattr__"))
theorem Cls.get {K:PySem.W.Frag} {C:Addr} (c:Cls K C) (f:Str):PySem.W.plainGet K C f=true:=c.pg
structure Con (K:PySem.W.Frag) (C:Addr) (f:Str) (v:V) (u:Value):Prop where
 at_:PySem.W.findIn K (.ref C) f=some (some u)
 rel:RelV v u
 get:PySem.W.specialIn K u "__get__"=some none
 cp:PySem.W.copiedNames.contains f=false
structure Meth (K:PySem.W.Frag) (C:Addr) (m:Str) (f:Addr):Prop where
 at_:PySem.W.findIn K (.ref C) m=some (some (.ref f))
 fn:PySem.W.isFn K (.ref f)=true
 kp:PySem.W.keepIn K (.ref f)=true
section
variable {X:Cx} {pins:List (Addr×Obj)} {σ:St} {H:Hp} {s:Shared} {A:Around} {E:Value→Shared→Prop} {Q:Value→Shared→Prop} {c:Value} {b:Bool}
inductive d8 (K:PySem.W.Frag) (H:Hp):V→Value→Prop where
 | non:d8 K H .non (.type "NoneType")
 | bl (x:Bool):d8 K H (.bl x) (.type "bool")
 | int (i:Int):d8 K H (.int i) (.type "int")
 | str (x:Str):d8 K H (.str x) (.type "str")
 | flt (x:UInt64):d8 K H (.flt x) (.type "float")
 | lst {a:Addr} {xs:List V} (e:H a=some (.lst xs)):d8 K H (.ref a) (.type "list")
 | frz {a:Addr} {o:Obj} {xs:List V} (e:H a=some (.frz o (.lst xs))):d8 K H (.ref a) (.type "list")
 | tup {a:Addr} {xs:List V} (e:H a=some (.tup xs)):d8 K H (.ref a) (.type "tuple")
 | dK {a:Addr} {kvs:List (Key×V)} (e:H a=some (.dK kvs)):d8 K H (.ref a) (.type "dict")
 | dT {a:Addr} {kvs:List (List Key×V)} (e:H a=some (.dT kvs)):d8 K H (.ref a) (.type "dict")
 | ins {a C dx:Addr} {fs:List (Str×V)} (e:H a=some (.ins C dx fs)) (cl:Cls K C) (ha:PySem.W.findIn K (.ref C) "__class__"=some (some (.builtin "object.__class__")))
   (hn:PySem.W.specialIn K (.builtin "object.__class__") "__get__"=some (some (.builtin "getset_descriptor.__get__"))) (htk:PySem.W.takesIn K (.builtin "object.__class__")=some true)
   (hm:PySem.W.mroIn K C (.type "object")=some true):d8 K H (.ref a) (.ref C)
theorem qy {x:V} {u t:Value} (I:Inv X pins σ H s) (rx:RelV x u) (ty:d8 X.K H x t) (e:PySem.W.kitOne X.K t c=some b) (h:∀ tk,Q (.bool b) { s with toks:=tk }) :
  wpAny (model X.prog X.w) A (call (.builtin "isinstance") [u,c]) Q E s:=by
 cases ty with
 | non=>cases (show u=Value.none from rx);exact PySem.W.kia_one PySem.W.kitx_none I.kIn True.intro e (fun z=>nomatch z) h
 | bl y=>cases (show u=Value.bool y from rx);exact PySem.W.kia_one PySem.W.kitx_bool I.kIn True.intro e (fun z=>nomatch z) h
 | int i=>obtain ⟨t,q⟩:=(show ∃ t,u=Value.int i t from rx);cases q;exact PySem.W.kia_one PySem.W.kitx_int I.kIn True.intro e (fun z=>nomatch z) h
 | str y=>obtain ⟨t,q⟩:=(show ∃ t,u=Value.str y t from rx);cases q;exact PySem.W.kia_one PySem.W.kitx_str I.kIn True.intro e (fun z=>nomatch z) h
 | flt y=>obtain ⟨t,q⟩:=(show ∃ t,u=Value.float y t from rx);cases q;exact PySem.W.kia_one PySem.W.kitx_float I.kIn True.intro e (fun z=>nomatch z) h
 | @lst a xs ea=>
  cases (show u=Value.ref a from rx)
  obtain ⟨_,_,n,_,h1⟩:=(show bC X.prog X.w H s.heap a (.lst xs) from I.hok a _ ea)
  exact PySem.W.kia_one PySem.W.kitx_list I.kIn ⟨_,h1,rfl⟩ e (fun z=>nomatch z) h
 | @frz a ob xs ea=>
  cases (show u=Value.ref a from rx)
  obtain ⟨_,_,_,n,_,h1⟩:=(show bC X.prog X.w H s.heap a (.frz ob (.lst xs)) from I.hok a _ ea)
  exact PySem.W.kia_one PySem.W.kitx_list I.kIn ⟨_,h1,rfl⟩ e (fun z=>nomatch z) h
 | @tup a xs ea=>
  cases (show u=Value.ref a from rx)
  obtain ⟨_,_,_,p⟩:=(show bC X.prog X.w H s.heap a (.tup xs) from I.hok a _ ea)
  obtain ⟨o,h1,h2,_⟩:=p
  exact PySem.W.kia_one PySem.W.kitx_tuple I.kIn ⟨o,h1,h2⟩ e (fun z=>nomatch z) h
 | @dK a kvs ea=>
  cases (show u=Value.ref a from rx)
  obtain ⟨_,_,vs,_,p⟩:=(show bC X.prog X.w H s.heap a (.dK kvs) from I.hok a _ ea)
  obtain ⟨o,es,ep,h1,h2,_⟩:=p
  exact PySem.W.kia_one PySem.W.kitx_dict I.kIn ⟨o,h1,h2.1⟩ e (fun z=>nomatch z) h
 | @dT a kvs ea=>
  cases (show u=Value.ref a from rx)
  obtain ⟨_,_,xs,_,o,es,ep,h1,h2,_⟩:=(show bC X.prog X.w H s.heap a (.dT kvs) from I.hok a _ ea)
  exact PySem.W.kia_one PySem.W.kitx_dict I.kIn ⟨o,h1,h2.1⟩ e (fun z=>nomatch z) h
 | @ins a C dx fs ea cl ha hn htk hm=>
  cases (show u=Value.ref a from rx)
  obtain ⟨mA,O,_⟩:=vf I.hok ea
  obtain ⟨od,J,_⟩:=O.look
  exact PySem.W.kia_one (PySem.W.kitx_own (cl.get _) cl.hd ha hn htk hm) I.kIn J e (fun z=>nomatch z) h
end
structure bY (k:Nat) (A:Around):Prop where
 hd:A.handled=none
 dp:A.depth+3 * k+5 < recursionLimit
 un:A.units+16 * k+200 < cLine
theorem bY.mono {j k:Nat} {A:Around} (r:bY k A) (h:j≤k):bY j A:=⟨r.hd,by have:=r.dp;omega,by have:=r.un;omega⟩
theorem bY.deeper {k:Nat} {A:Around} (r:bY (k+1) A) (env:Env):bY k (A.deeper env):=
 ⟨r.hd,by have:=r.dp;show A.depth+1+3 * k+5 < _;omega,by have:=r.un;show A.units+3+16 * k+200 < _;omega⟩
theorem bY.depth {k:Nat} {A:Around} (r:bY k A):A.depth < recursionLimit:=by have:=r.dp;omega
theorem bY.units {k:Nat} {A:Around} (r:bY k A):A.units+64 < cLine:=by have:=r.un;omega
def Ce:TA:=fun _ H Q=>Q [] H
def Bq (ta:TE) (tr:TA):TA:=fun σ H Q=>ta σ H fun x H1=>tr σ H1 fun xs H2=>Q (x :: xs) H2
section
variable {X:Cx} {e:Expr} {es:List Expr} {te:TE} {t:TA} {pos:Pos}
theorem fz:PA X [] Ce:=fun _ _ _ _ H Q I h=>Calls.spliced_nil ⟨[],H,I,.nil,h⟩
theorem cW (ha:PE X e te) (hr:PA X es t) (hs:starEach (e :: es) X.env=(false,eval e X.env) :: starEach es X.env:=by rfl):PA X (e :: es) (Bq te t):=by
 intro pos pins s σ H Q I h
 rw [hs]
 show wpAny _ _ (spliced ((false,eval e X.env) :: backTo pos (starEach es X.env))) _ _ s
 refine Calls.spliced_cons (thn (ha pins s σ H _ I h) fun u s1 ⟨x,H1,I1,r1,q1⟩=>?_)
 exact thn (hr pos pins s1 σ H1 _ I1 q1) fun us s2 ⟨xs,H2,I2,r2,q2⟩=>⟨x :: xs,H2,I2,.cons r1 r2,q2⟩
def Cw (t:TA):TE:=fun σ H Q=>t σ H fun xs H1=>xs.length≤sizeLine∧∀ p,H1 p=none→Q (.ref p) (upd H1 p (.tup xs))
def Cy (t:TA):TE:=fun σ H Q=>t σ H fun xs H1=>xs.length≤sizeLine∧∀ p,H1 p=none→Q (.ref p) (upd H1 p (.lst xs))
theorem xB {x1} (h:PA X es t):PE X (.Tuple es x1 pos) (Cw t):=by
 intro pins s σ H Q I hq
 refine wpAny_Tuple_spliced (thn (h pos pins s σ H _ I hq) fun us s1 ⟨xs,H1,I1,r,z,q⟩=>⟨by rw [← r.length];exact z,?_⟩)
 have hf:H1 s1.heap.objs.size=none:=I1.hok.fresh (Nat.le_refl _)
 refine ⟨.ref s1.heap.objs.size,upd H1 s1.heap.objs.size (.tup xs),I1.laid (t':=s1.toks) (fun b u e=>Heap.get?_push_of_some _ e) (Nat.le_refl _) ?_,rfl,q _ hf⟩
 exact ⟨z,us,r,⟨_,Heap.get?_push_size _ rfl,rfl,_,rfl⟩⟩
theorem rg (h:PA X es t):PE X (.List es pos) (Cy t):=by
 intro pins s σ H Q I hq
 refine wpAny_List_spliced (thn (h pos pins s σ H _ I hq) fun us s1 ⟨xs,H1,I1,r,z,q⟩=>⟨by rw [← r.length];exact z,?_⟩)
 have hf:H1 s1.heap.objs.size=none:=I1.hok.fresh (Nat.le_refl _)
 refine ⟨.ref s1.heap.objs.size,upd H1 s1.heap.objs.size (.lst xs),I1.laid (t':=s1.toks) (fun b u e=>Heap.get?_push_of_some _ e) (Nat.le_refl _) ?_,rfl,q _ hf⟩
 exact ⟨z,us,0,r,Heap.get?_push_size _ rfl⟩
end
abbrev Sp:=List V→Hp→VK→XK→Prop
abbrev CXT:=List Env→Hp→Shared→XK→Value→Shared→Prop
structure oB (P:Program) (w:World) (K:PySem.W.Frag) (mg:Str→Option Value) (base:Heap) (A:Around) (outer:List Env) (s:Shared) (H:Hp):Prop where
 frames:A.frames=some outer
 mod:Mod K mg base
 bs:∀ b o,base.get? b=some o→s.heap.get? b=some o∧H b=none
 bsz:base.objs.size≤s.heap.objs.size
 d6:s.heap.FunFrames base outer
 frf:∀ b∈frs outer,H b=none
 hok:HOk P w H s.heap
 bare:AllBare s.gens
def CE (outer:List Env) (P:Program) (w:World) (H:Hp) (s:Shared) (Q:VK) (u:Value) (s':Shared):Prop:=
 ∃ v H',s'.os=s.os∧AllBare s'.gens∧Un (frs outer) [] H H' s.heap s'.heap∧HOk P w H' s'.heap∧RelV v u∧Q v H'
def CR (CX:CXT) (outer:List Env) (P:Program) (w:World) (H:Hp) (s:Shared) (Q:VK) (E:XK) (r:Result) (s':Shared):Prop:=
 match r with
 | .ok (.ret u)=>CE outer P w H s Q u s'
 | .ok _=>False
 | .error e=>CX outer H s E e s'
structure dv (P:Program) (w:World) (K:PySem.W.Frag) (mg:Str→Option Value) (base:Heap) (CX:CXT) (k:Nat) (f:Addr) (fd:FuncData) (ps:List Str) (sp:Sp):Prop where
 len:∀ vs H Q E,sp vs H Q E→vs.length=ps.length
 run:∀ (A:Around) (outer:List Env) (s:Shared) (H:Hp) (args:Args) (us:List Value) (vs:List V) (Q:VK) (E:XK),bY k A→oB P w K mg base A outer s H→BindsTo s fd args (ps.zip us)→Vals vs us→sp vs H Q E →
  codeAny (model P w) A (.call (.ref f) args) (CR CX outer P w H s Q E) s
theorem dv.imp {P:Program} {w:World} {K:PySem.W.Frag} {mg:Str→Option Value} {base:Heap} {CX:CXT} {k:Nat} {f:Addr} {fd:FuncData} {ps:List Str} {sp sp':Sp} (F:dv P w K mg base CX k f fd ps sp)
  (h:∀ vs H Q E,sp' vs H Q E→sp vs H Q E):dv P w K mg base CX k f fd ps sp':=
 ⟨fun vs H Q E q=>F.len vs H Q E (h _ _ _ _ q),fun A outer s H args us vs Q E hr he hb hv hs=>F.run A outer s H args us vs Q E hr he hb hv (h _ _ _ _ hs)⟩
section
variable {X:Cx} {pins:List (Addr×Obj)} {σ:St} {H:Hp} {s s':Shared}
theorem Inv.BS (I:Inv X pins σ H s):oB X.prog X.w X.K X.mg X.base X.A X.stack s H:=
 ⟨I.ok.frames,I.ok.mod,I.bs,Nat.le_trans I.ok.bsz I.sz,I.stack,I.ku,I.hok,I.bare⟩
theorem Inv.after {Q:VK} {u:Value} (I:Inv X pins σ H s) (h:CE X.stack X.prog X.w H s Q u s'):EP X pins σ Q u s':=by
 obtain ⟨v,H',os,bare,un,hok,r,q⟩:=h
 obtain ⟨hh,g,d,t,os'⟩:=s'
 obtain rfl:os'=s.os:=os
 exact ⟨v,H',I.call (h':=hh) (g':=g) (d':=d) (t':=t) (ch:=[]) un hok bare (fun b z=>absurd z (by simp)),r,q⟩
end
def Bh (sp:Sp) (dvs:List V) (E:XK) (t:TA):TE:=fun σ H Q=>t σ H fun vs H1=>sp (vs++dvs) H1 Q E
def Binds (K:PySem.W.Frag) (fd:FuncData) (ps:List Str) (ds:List Value):Prop:=
 ∀ (s:Shared) (us:List Value),K.In s.heap→(us++ds).length=ps.length→BindsTo s fd ⟨us,[]⟩ (ps.zip (us++ds))
theorem Binds.all {K:PySem.W.Frag} {fd:FuncData} {ps:List Str} (h:∀ us:List Value,us.length=ps.length→bindArgs fd ⟨us,[]⟩=pure (ps.zip us)):Binds K fd ps []:=fun s us _ hl=>by
 rw [List.append_nil] at hl ⊢
 exact .of_eq (h us hl)
def Passes (CX:CXT) (X:Cx) (E:XK):Prop:=∀ (pins:List (Addr×Obj)) (σ:St) (H:Hp) (s:Shared) (e:Value) (s':Shared),Inv X pins σ H s→CX X.stack H s E e s'→X.xe e s'
section
variable {X:Cx} {CX:CXT} {k:Nat} {f C:Addr} {fd:FuncData} {ps:List Str} {sp:Sp} {dvs:List V} {ds:List Value} {E:XK} {x m:Str} {p pos apos:Pos} {e o:Expr} {es:List Expr} {ta:TE} {t:TA}
theorem xJ {pins:List (Addr×Obj)} {σ:St} {H:Hp} {s:Shared} {Q:VK} {us:List Value} {vs:List V} (F:dv X.prog X.w X.K X.mg X.base CX k f fd ps sp) (hr:bY k X.A) (hb:Binds X.K fd ps ds) (hd:Vals dvs ds) (hx:Passes CX X E)
  (I:Inv X pins σ H s) (r:Vals vs us) (h:sp (vs++dvs) H Q E):wpAny (model X.prog X.w) X.A (call (.ref f) us) (EP X pins σ Q) X.xe s:=by
 have r2:Vals (vs++dvs) (us++ds):=r.append hd
 have hl:(us++ds).length=ps.length:=by rw [← r2.length];exact F.len _ _ _ _ h
 refine wpAny_call (codeAny_mono (F.run X.A X.stack s H ⟨us,[]⟩ (us++ds) (vs++dvs) Q E hr I.BS (hb s us I.kIn hl) r2 h) fun r s' hq=>?_)
 cases r with
 | error e=>exact hx pins σ H s e s' I hq
 | ok fl=>
  cases fl with
  | ret u=>exact I.after hq
  | next=>exact False.elim hq
  | brk=>exact False.elim hq
  | cont=>exact False.elim hq
theorem nL (F:dv X.prog X.w X.K X.mg X.base CX k f fd ps sp) (hr:bY k X.A) (hg:Gl X x) (hm:X.mg x=some (.ref f)) (hk:PySem.W.keepIn X.K (.ref f)=true) (hb:Binds X.K fd ps ds) (hd:Vals dvs ds) (hx:Passes CX X E)
  (ha:PA X (e :: es) t) (hdb:(x == ("__debug__":Str))=false:=by decide) (he:starEach (e :: es) X.env=(false,eval e X.env) :: starEach es X.env:=by rfl) (hpl:(backTo pos (starEach es X.env)).any (·.1)=false:=by rfl) :
  PE X (.Call (.Name x p) (e :: es) [] pos) (Bh sp dvs E t):=by
 intro pins s σ H Q I h
 refine wpAny_Call_Name_kw (kg I hg hm ?_ hdb)
 refine PySem.W.callWith_K (h₀:=X.base) I.ok.mod.kin hk (thn (ha pos pins s σ H _ I h) fun us s1 ⟨vs,H1,I1,r,q⟩=>⟨I1.kIn,?_⟩) he hpl
 exact xJ F hr hb hd hx I1 r q
structure Mk (K:PySem.W.Frag) (C f:Addr):Prop where
 makes:PySem.W.makesIn K C=true
 init:PySem.W.findIn K (.ref C) "__init__"=some (some (.ref f))
 fn:PySem.W.isFn K (.ref f)=true
 kp:PySem.W.keepIn K (.ref C)=true
end
section
variable {X:Cx} {CX:CXT} {k:Nat} {f C:Addr} {fd:FuncData} {ps ks:List Str} {sp:Sp} {E:XK} {x m:Str} {p pos apos kpos:Pos} {e o:Expr} {es:List Expr} {kws:List Keyword} {te ta:TE} {t tk:TA} {nm:Option Str}
structure CH (K:PySem.W.Frag) (fd:FuncData) (ps ks:List Str) (g:List Value→List Value→List Value) (gV:List V→List V→List V):Prop where
 to:∀ (s:Shared) (us ws:List Value),K.In s.heap→(g us ws).length=ps.length→BindsTo s fd ⟨us,ks.zip ws⟩ (ps.zip (g us ws))
 rel:∀ {vs:List V} {us:List Value} {zs:List V} {ws:List Value},Vals vs us→Vals zs ws→Vals (gV vs zs) (g us ws)
variable {g:List Value→List Value→List Value} {gV:List V→List V→List V}
end
structure d_ (N P:List Str) (sc:Scope):Prop where
 kind:sc.kind=.function
 co:sc.isCoroutine=false
 gen:sc.isGenerator=false
 nd:N.Nodup
 pre:N.take P.length=P
 par:∀ x∈P,sc.names.lookup x=some .local∨sc.names.lookup x=some .cell
 nofree:∀ y∈sc.names,y.2≠.free
theorem kz {kindOf:Str→Option NameKind} {x:Str}:∀ {binds:List (Str×Value)} {m:Str→Option Value},(∀ v,(x,v)∉binds)→bindL kindOf binds m x=m x
 | [],_,_=>rfl
 | (n,v) :: r,m,h=>by
  unfold bindL
  rw [kz fun w hw=>h w (List.mem_cons_of_mem _ hw)]
  split
  ·have:x≠n:=by rintro rfl;exact h v List.mem_cons_self
   simp [this]
  ·rfl
theorem kA {kindOf:Str→Option NameKind} {x:Str}:∀ {binds:List (Str×Value)} {m:Str→Option Value},(∀ v,(x,v)∉binds)→bindC kindOf binds m x=m x
 | [],_,_=>rfl
 | (n,v) :: r,m,h=>by
  unfold bindC
  rw [kA fun w hw=>h w (List.mem_cons_of_mem _ hw)]
  split
  ·rfl
  ·have:x≠n:=by rintro rfl;exact h v List.mem_cons_self
   simp [this]
theorem kL {kindOf:Str→Option NameKind} {x:Str} {v:Value}:∀ {P:List Str} {vs:List Value} {i:Nat} {m:Str→Option Value},P.Nodup→P[i]?=some x→vs[i]?=some v→kindOf x=some .local →
  bindL kindOf (P.zip vs) m x=some v
 | [],_,_,_,_,h,_,_=>by simp at h
 | _ :: _,[],_,_,_,_,h,_=>by simp at h
 | p :: P,w :: vs,0,m,nd,h1,h2,hk=>by
  simp at h1 h2;subst h1;subst h2
  show bindL kindOf ((p,w) :: P.zip vs) m p=_
  unfold bindL
  rw [kz fun v hv=>(List.nodup_cons.mp nd).1 (List.of_mem_zip hv).1,if_pos hk]
  simp
 | p :: P,w :: vs,i+1,m,nd,h1,h2,hk=>by
  show bindL kindOf ((p,w) :: P.zip vs) m x=_
  unfold bindL
  exact kL (i:=i) (List.nodup_cons.mp nd).2 (by simpa using h1) (by simpa using h2) hk
theorem kJ {kindOf:Str→Option NameKind} {x:Str} {v:Value}:∀ {P:List Str} {vs:List Value} {i:Nat} {m:Str→Option Value},P.Nodup→P[i]?=some x→vs[i]?=some v→kindOf x≠some .local →
  bindC kindOf (P.zip vs) m x=some v
 | [],_,_,_,_,h,_,_=>by simp at h
 | _ :: _,[],_,_,_,_,h,_=>by simp at h
 | p :: P,w :: vs,0,m,nd,h1,h2,hk=>by
  simp at h1 h2;subst h1;subst h2
  show bindC kindOf ((p,w) :: P.zip vs) m p=_
  unfold bindC
  rw [kA fun v hv=>(List.nodup_cons.mp nd).1 (List.of_mem_zip hv).1,if_neg hk]
  simp
 | p :: P,w :: vs,i+1,m,nd,h1,h2,hk=>by
  show bindC kindOf ((p,w) :: P.zip vs) m x=_
  unfold bindC
  exact kJ (i:=i) (List.nodup_cons.mp nd).2 (by simpa using h1) (by simpa using h2) hk
def start (N:List Str) (vs:List V):St:=vs.map some++List.replicate (N.length - vs.length) none
def dr (CX:CXT) (P:Program) (w:World) (K:PySem.W.Frag) (mg:Str→Option Value) (base:Heap) (N:List Str) (qual:Str) (scope:Scope) (f:Addr) (cd:Value) (A:Around) (outer:List Env) (s:Shared) (H:Hp) (E:XK):Cx where
 prog:=P
 w:=w
 K:=K
 mg:=mg
 base:=base
 A:=A.deeper (envOfC qual scope s.heap.objs.size f cd)
 N:=N
 s₀:=s
 H₀:=H
 env:=envOfC qual scope s.heap.objs.size f cd
 outer:=outer
 stack:=envOfC qual scope s.heap.objs.size f cd :: outer
 ex:=[]
 calm:=true
 fn:=fun _=>true
 pn:=[]
 xe:=fun e s'=>wpAny (model P w) (A.deeper (envOfC qual scope s.heap.objs.size f cd)) (leaving (envOfC qual scope s.heap.objs.size f cd) e) (fun _ s''=>CX outer H s E e s'') (fun e' s''=>CX outer H s E e' s'') s'
theorem lV {sc:Scope} {n:Nat} {x:Str} (h:sc.names.lookup x=some .cell):∃ c,(cellsFrom n sc.names []).lookup x=some c:=by
 have q:=PySem.W.cellsFrom_some sc.names n [] (.inl h)
 exact Option.isSome_iff_exists.mp q
theorem qP {CX:CXT} {P:Program} {w:World} {K:PySem.W.Frag} {mg:Str→Option Value} {base:Heap} {N ps:List Str} {qual:Str} {scope:Scope} {f:Addr} {cd:Value} {A:Around} {outer:List Env} {s s1:Shared} {H:Hp} {E:XK} {us:List Value} {vs:List V}
  (S:d_ N ps scope) (hd:A.handled=none) (e0:oB P w K mg base A outer s H) (hl:vs.length=ps.length) (r:Vals vs us)
  (x:InCallC s s.heap.objs.size (bindL (envOfC qual scope s.heap.objs.size f cd).kindOf (ps.zip us) fun _=>none) (cellsFrom (s.heap.objs.size+1) scope.names []) (bindC (envOfC qual scope s.heap.objs.size f cd).kindOf (ps.zip us) fun _=>none) s1) :
  Inv (dr CX P w K mg base N qual scope f cd A outer s H E) [] (start N vs) H s1:=by
 have hpl:ps.length≤N.length:=by have:=congrArg List.length S.pre;rw [List.length_take] at this;omega
 obtain ⟨h1,tk,rfl,hk⟩:=x.done
 have noA:∀ b:Addr,b∉(dr CX P w K mg base N qual scope f cd A outer s H E).ex:=fun b z=>absurd (show b∈([]:List Addr) from z) (by simp)
 refine ⟨⟨e0.mod,S.kind,rfl,rfl,Nat.le_refl _,fun y z c h1 h2=>?_,fun y hy=>?_,fun y c _ h=>?_,fun _=>hd,Around.frames_deeper e0.frames,.inr ⟨rfl,rfl⟩,fun b z=>absurd z (noA b),e0.bs,e0.bsz,fun b _ _=>noA b,fun b z=>absurd z (noA b),e0.d6,e0.frf⟩,
  rfl,e0.bare,Un.kept hk,⟨_,x.toInCall.ns,fun i y v h1 h2 h3=>?_⟩,fun y c h=>⟨_,x.cell y c h⟩,e0.hok.fresh (Nat.le_refl _),fun y c h=>?_,fun p hp=>absurd (show p∈([]:List (Addr×Obj)) from hp) (by simp),e0.hok.kept hk,?_⟩
 ·exact name_of_addr x.apart (PySem.mem_of_lookup h1) (PySem.mem_of_lookup h2)
 ·have hy:scope.names.lookup y=some .cell∨scope.names.lookup y=some .free:=hy
  rcases hy with hy | hy
  ·exact lV hy
  ·exact absurd rfl (S.nofree _ (PySem.mem_of_lookup hy))
 ·exact Nat.le_of_lt (x.above y c (PySem.mem_of_lookup h))
 ·have hi:i < vs.length:=by
   unfold start at h2
   by_cases hi:i < vs.length
   ·exact hi
   ·rw [List.getElem?_append_right (by simpa using hi)] at h2
    rw [List.getElem?_replicate] at h2
    split at h2<;>cases h2
  have ha:vs[i]?=some v:=by
   unfold start at h2
   rw [List.getElem?_append_left (by simpa using hi),List.getElem?_map] at h2
   cases e:vs[i]? with
   | none=>rw [e] at h2;cases h2
   | some a=>rw [e] at h2;cases h2;rfl
  obtain ⟨u,hu,rv⟩:=r.get ha
  have hp:ps[i]?=some y:=by
   rw [← S.pre,List.getElem?_take_of_lt (by omega)];exact h1
  have ndP:ps.Nodup:=by rw [← S.pre];exact S.nd.sublist (List.take_sublist _ _)
  refine ⟨u,rv,?_⟩
  rcases S.par y (List.mem_of_getElem? hp) with k | k
  ·exact .inl ⟨k,kL ndP hp hu k⟩
  ·obtain ⟨c,e⟩:=lV (n:=s.heap.objs.size+1) k
   refine .inr ⟨.inl k,c,e,?_⟩
   have q:=x.cell y c e
   rw [kJ ndP hp hu (by show scope.names.lookup y≠_;rw [k];decide)] at q
   exact q
 ·exact e0.hok.fresh (Nat.le_of_lt (x.above y c (PySem.mem_of_lookup h)))
 ·unfold start
  show _=N.length
  rw [List.length_append,List.length_map,List.length_replicate]
  omega
theorem uh {CX:CXT} {P:Program} {w:World} {K:PySem.W.Frag} {mg:Str→Option Value} {base:Heap} {k:Nat} {f:Addr} {name qual:Str} {params:Arguments} {body:List Stmt} {scope:Scope} {dV kV doc pm cdv ct oc:Value} {an od:Option Addr}
  {osl:Array (Option Value)} {N ps:List Str} {sp:Sp} (lk:K.lookup f=some ⟨oc,od,.func (PySem.W.fnOf name qual params body scope dV kV doc pm an cdv ct),osl⟩) (hcd:PySem.W.codeIn K cdv qual=true) (S:d_ N ps scope)
  (len:∀ vs H Q E,sp vs H Q E→vs.length=ps.length)
  (hbody:∀ (A:Around) (outer:List Env) (s:Shared) (H:Hp) (vs:List V) (Q:VK) (E:XK),bY k (A.deeper (envOfC qual scope s.heap.objs.size f cdv))→sp vs H Q E →
   ∃ t,PSs (dr CX P w K mg base N qual scope f cdv A outer s H E) body t∧t { nx:=fun _ H'=>Q .non H',rt:=Q } (start N vs) H) :
  dv P w K mg base CX (k+1) f (PySem.W.fnOf name qual params body scope dV kV doc pm an cdv ct) ps sp:=by
 refine ⟨len,fun A outer s H args us vs Q E hr e0 hb r hsp=>?_⟩
 have hl:=len _ _ _ _ hsp
 have KX:K.In s.heap:=e0.mod.kin.keeps fun b o e=>(e0.bs b o e).1
 have lim:s.heap.NoLimit:=e0.mod.nolimit.keeps fun b o e=>(e0.bs b o e).1
 have hkind:∀ y∈ps.zip us,scope.names.lookup y.1=some .local∨(scope.names.lookup y.1=some .cell∧((cellsFrom (s.heap.objs.size+1) scope.names []).lookup y.1).isSome=true):=fun ⟨n,v⟩ hy=>by
  rcases S.par n (List.of_mem_zip hy).1 with q | q
  ·exact .inl q
  ·exact .inr ⟨q,PySem.W.cellsFrom_some _ _ _ (.inl q)⟩
 refine codeAny_call_function hr.depth (KX _ _ lk) rfl S.co S.gen rfl (PySem.W.codeRec_of KX hcd) (hb _ _ _ _ ?_)
 refine wpAny_newFunctionEnv_cells S.kind hkind fun env he s1 x=>?_
 subst he
 refine ⟨lim.keeps x.toInCall.keep,codeAny_func ?_⟩
 obtain ⟨t,ht,hq⟩:=hbody A outer s H vs Q E (hr.deeper _) hsp
 have I:Inv (dr CX P w K mg base N qual scope f cdv A outer s H E) [] (start N vs) H s1:=qP S hr.hd e0 hl r x
 refine wpAny_mono (ht [] s1 (start N vs) H _ I hq) (fun fl s' hs=>?_) fun e s' hs=>hs
 have fin:∀ {σ':St} {H':Hp} {v:V} {u:Value},Inv (dr CX P w K mg base N qual scope f cdv A outer s H E) [] σ' H' s'→RelV v u→Q v H'→CE outer P w H s Q u s':=
  fun {σ' H' v u} J rv q=>⟨v,H',J.os,J.bare,J.base,J.hok,rv,q⟩
 cases fl with
 | ret u=>
  obtain ⟨v,σ',H',J,rv,q⟩:=hs
  exact fin J rv q
 | next=>
  obtain ⟨σ',H',J,q⟩:=hs
  exact fin (v:=V.non) (u:=Value.none) J rfl q
 | brk=>
  obtain ⟨_,_,_,q⟩:=hs
  exact False.elim q
 | cont=>
  obtain ⟨_,_,_,q⟩:=hs
  exact False.elim q
section
variable {X:Cx} {x:Str} {p pos:Pos} {e:Expr} {es:List Expr} {t:TA} {id T:String} {r:List V→Hp→VK→Prop}
def tCB (r:List V→Hp→VK→Prop) (t:TA):TE:=fun σ H Q=>t σ H fun vs H1=>r vs H1 Q
theorem tE (hc:bH X (.builtin id) r) (hg:Gl X x) (hm:X.mg x=none) (hv:bootBuiltins x=some (.builtin id)) (ha:PA X (e :: es) t) (hn:x≠"__name__":=by decide) (hdb:(x == ("__debug__":Str))=false:=by decide)
  (he:starEach (e :: es) X.env=(false,eval e X.env) :: starEach es X.env:=by rfl) (hpl:(backTo pos (starEach es X.env)).any (·.1)=false:=by rfl):PE X (.Call (.Name x p) (e :: es) [] pos) (tCB r t):=by
 intro pins s σ H Q I h
 refine wpAny_Call_Name_kw (cu I hg hm hv ?_ hn hdb)
 exact PyProof.Rows.callWith_builtin1 (thn (ha pos pins s σ H _ I h) fun us s1 ⟨vs,H1,I1,r1,q1⟩=>hc pins s1 σ H1 vs us Q I1 r1 q1) he hpl
theorem p0 (hc:bH X (.type T) r) (hg:Gl X x) (hm:X.mg x=none) (hv:bootBuiltins x=some (.type T)) (ha:PA X (e :: es) t) (hn:x≠"__name__":=by decide) (hdb:(x == ("__debug__":Str))=false:=by decide)
  (he:starEach (e :: es) X.env=(false,eval e X.env) :: starEach es X.env:=by rfl) (hpl:(backTo pos (starEach es X.env)).any (·.1)=false:=by rfl):PE X (.Call (.Name x p) (e :: es) [] pos) (tCB r t):=by
 intro pins s σ H Q I h
 refine wpAny_Call_Name_kw (cu I hg hm hv ?_ hn hdb)
 exact PyProof.Rows.callWith_type1 (thn (ha pos pins s σ H _ I h) fun us s1 ⟨vs,H1,I1,r1,q1⟩=>hc pins s1 σ H1 vs us Q I1 r1 q1) he hpl
end
end L2
namespace HT
open PySem PyProof.Rows
section
variable {prog:Program} {w:World} {A:Around} {E:Value→Shared→Prop} {s:Shared}
theorem u_ {t b:Addr} {vs ws:List Value} {Q:Value→Shared→Prop} (ht:IsTup s.heap t vs.toArray) (hb:IsTup s.heap b ws.toArray) (hv:vs≠[])
  (h1:ws=[]→Q (.ref t) s) (h2:ws≠[]→Q (.ref s.heap.objs.size) { s with heap:=s.heap.push { cls:=.type "tuple",data:=.seq (vs++ws).toArray } })
  (hsz:vs.length+ws.length≤sizeLine):wpAny (model prog w) A (binaryOp .Add (.ref t) (.ref b)) Q E s:=by
 obtain ⟨⟨cls,dd,data,sl⟩,ho,hc,n,hd⟩:=id ht
 obtain ⟨⟨cls2,dd2,data2,sl2⟩,ho2,hc2,n2,hd2⟩:=id hb
 simp only at hc hd hc2 hd2
 subst hc hd hc2 hd2
 have e:vs.toArray++ws.toArray=(vs++ws).toArray:=by simp
 by_cases hw:ws=[]
 ·exact concat_meets ⟨_,ho,rfl⟩ ⟨_,ho2,rfl⟩ noFill_tuple_add seq_tuple_add PySem.F.slot_tuple_add PySem.F.entry_tuple_add (PySem.F.args_tuple_add_2 _ _)
   (tuple_addW1 t b vs.toArray ws.toArray n n2 dd dd2 sl sl2 (by simpa using hv) (by simp [hw])) ⟨ho,ho2,h1 hw⟩
 ·refine concat_meets ⟨_,ho,rfl⟩ ⟨_,ho2,rfl⟩ noFill_tuple_add seq_tuple_add PySem.F.slot_tuple_add PySem.F.entry_tuple_add (PySem.F.args_tuple_add_2 _ _)
   (tuple_addW2 t b vs.toArray ws.toArray n n2 dd dd2 sl sl2 (by simpa using hv) (by simpa using hw) (by rw [List.size_toArray,List.size_toArray];exact hsz)) ⟨ho,ho2,?_⟩
  rw [e]
  exact h2 hw
def sIx (n d:Nat):Option Int→Nat
 | none=>d
 | some v=>if v < 0 then (v+(n:Int)).toNat else min v.toNat n
theorem jy (n d:Nat):sIx n d none=d:=rfl
theorem fZ (n d k:Nat):sIx n d (some (k:Int))=min k n:=by
 show (if (k:Int) < 0 then ((k:Int)+(n:Int)).toNat else min (k:Int).toNat n)=min k n
 rw [if_neg (by omega),Int.toNat_natCast]
theorem xK (n d:Nat) (hd:d≤n) (o:Option Int):sIx n d o≤n:=by
 cases o with
 | none=>exact hd
 | some v=>
  show (if v < 0 then (v+(n:Int)).toNat else min v.toNat n)≤n
  by_cases hv:v < 0
  ·rw [if_pos hv];omega
  ·rw [if_neg hv];exact Nat.min_le_right _ _
theorem oq (v:Int) (n d:Nat):(if v < 0 then max (v+(n:Int)) 0 else min v (n:Int))=((sIx n d (some v):Nat):Int):=by
 show (if v < 0 then max (v+(n:Int)) 0 else min v (n:Int))=(((if v < 0 then (v+(n:Int)).toNat else min v.toNat n):Nat):Int)
 by_cases hv:v < 0
 ·simp only [if_pos hv];omega
 ·simp only [if_neg hv];omega
theorem pO (lo hi:Option Int) (n:Nat):Builtin.Slice.sliceAdjust lo hi 1 (n:Int)=(((sIx n 0 lo:Nat):Int),((sIx n n hi:Nat):Int)):=by
 have h1:¬((1:Int) < 0):=by omega
 unfold Builtin.Slice.sliceAdjust
 simp only [h1,if_false]
 refine Prod.ext ?_ ?_
 ·cases lo with
  | none=>rfl
  | some v=>exact oq v n 0
 ·cases hi with
  | none=>rfl
  | some v=>exact oq v n n
theorem ph (i j:Nat):Builtin.Slice.slicePlaces (i:Int) (j:Int) 1=j - i:=by
 unfold Builtin.Slice.slicePlaces
 have h1:(1:Int) > 0:=by omega
 simp only [h1,if_true,Int.ediv_one]
 split<;>omega
theorem j5 {v:Value} {o:Option Int} {Q:Option Int→Shared→Prop} (p:IsPart v o) (h:Q o s):wpAny (model prog w) A (Builtin.Slice.slicePartIndex v) Q E s:=by
 cases p with
 | none=>exact slicePart_none h
 | int i t=>exact slicePart_int h
theorem fB {sl:Addr} {vl vu:Value} {lo hi:Option Int} {n:Nat} {Q:Int×Int×Nat→Shared→Prop} (hs:s.heap.IsSliceOf sl vl vu .none) (pl:IsPart vl lo) (pu:IsPart vu hi)
  (h:Q (((sIx n 0 lo:Nat):Int),1,sIx n n hi - sIx n 0 lo) s):wpAny (model prog w) A (Builtin.Slice.sliceApplied (.ref sl) (pure (n:Int))) Q E s:=by
 obtain ⟨os,hos,hcs,hds⟩:=id hs
 unfold Builtin.Slice.sliceApplied Builtin.Slice.sliceFields
 refine wpAny_bind (wpAny_bind (wpAny_field hos hds (x:=vl) rfl (wpAny_bind (wpAny_field hos hds (x:=vu) rfl (wpAny_bind (wpAny_field hos hds (x:=.none) rfl (wpAny_pure ?_)))))))
 refine wpAny_bind (slicePart_none ?_)
 show wpAny _ _ (if ((1:Int) == 0)=true then _ else _) _ _ s
 rw [if_neg (by decide)]
 refine wpAny_bind (j5 pl (wpAny_bind (j5 pu (wpAny_bind (wpAny_pure ?_)))))
 show wpAny _ _ (match Builtin.Slice.sliceAdjust lo hi 1 (n:Int) with | (lo,hi)=>pure (lo,(1:Int),Builtin.Slice.slicePlaces lo hi 1)) _ _ s
 rw [pO lo hi n]
 show wpAny _ _ (pure (((sIx n 0 lo:Nat):Int),(1:Int),Builtin.Slice.slicePlaces ((sIx n 0 lo:Nat):Int) ((sIx n n hi:Nat):Int) 1)) _ _ s
 rw [ph]
 exact wpAny_pure h
theorem sQ (xs:Array Value) (i k:Nat):((List.range k).filterMap fun (m:Nat)=>xs[((i:Int)+(m:Int) * 1).toNat]?).toArray=((xs.toList.drop i).take k).toArray:=by
 have e:(fun (m:Nat)=>xs[((i:Int)+(m:Int) * 1).toNat]?)=fun m=>xs[i+m]?:=by
  funext m
  have:((i:Int)+(m:Int) * 1).toNat=i+m:=by omega
  rw [this]
 rw [e]
 have:=pick_run xs i k
 rw [List.filterMap_map] at this
 have e2:((fun x=>xs[x]?) ∘ fun x=>i+x)=fun m=>xs[i+m]?:=rfl
 rw [e2] at this
 rw [this]
theorem i8 {t sl:Addr} {items:Array Value} {vl vu:Value} {lo hi:Option Int} {Q:Value→Shared→Prop} (ht:IsTup s.heap t items) (hs:s.heap.IsSliceOf sl vl vu .none) (pl:IsPart vl lo) (pu:IsPart vu hi)
    (hw:¬(sIx items.size 0 lo=0∧sIx items.size items.size hi=items.size))
    (h:Q (.ref s.heap.objs.size) { s with heap:=s.heap.push { cls:=.type "tuple",data:=.seq ((items.toList.drop (sIx items.size 0 lo)).take (sIx items.size items.size hi - sIx items.size 0 lo)).toArray } })
    (hsz:items.size≤sizeLine):wpAny (model prog w) A (getItem (.ref t) (.ref sl)) Q E s:=by
  have htake:sizeOk (.seq ((items.toList.drop (sIx items.size 0 lo)).take (sIx items.size items.size hi - sIx items.size 0 lo)).toArray):=by
    show ((items.toList.drop (sIx items.size 0 lo)).take (sIx items.size items.size hi - sIx items.size 0 lo)).toArray.size≤sizeLine
    rw [List.size_toArray,List.length_take,List.length_drop,Array.length_toList]
    omega
  have hj:sIx items.size items.size hi≤items.size:=xK _ _ (Nat.le_refl _) hi
  obtain ⟨os,hos,hcs,hds⟩:=id hs
  have hTs:s.TypeIs (.ref sl) "slice":=⟨os,hos,hcs⟩
  unfold getItem
  try with_reducible refine wpAny_holding ?_
  first | refine wpAny_bind (wpAny_pure ?_) | skip
  refine wpAny_bind (wpAny_sequenceKey ht.typeIs (by decide) ?_)
  refine wpAny_bind (wpAny_callSpecial?_slot (name:=Str.ofString "__getitem__") ht.typeIs PyProof.Rows.slot_tuple_getitem
    (wpAny_call_entry PyProof.Rows.slot_tuple_getitem ht.typeIs entry_tuple_getitem ?_ (args_tuple_getitem _ _)))
  show wpAny _ _ (Builtin.Tuple.tupleItemsOf (.ref t)>>=_) _ _ s
  refine wpAny_bind (tupleItemsOf_ ht ?_)
  refine wpAny_bind (wpAny_typeOf hTs ?_)
  rw [if_pos (by decide)]
  refine wpAny_bind (fB hs pl pu ?_)
  have hno:¬((((sIx items.size 0 lo:Nat):Int) == 0 && (1:Int) == 1 && (sIx items.size items.size hi - sIx items.size 0 lo) == items.size)=true):=by
    intro q
    rw [Bool.and_eq_true,Bool.and_eq_true] at q
    have q1:((sIx items.size 0 lo:Nat):Int)=0:=eq_of_beq q.1.1
    have q2:sIx items.size items.size hi - sIx items.size 0 lo=items.size:=eq_of_beq q.2
    exact hw ⟨by omega,by omega⟩
  show wpAny _ _ (if (((sIx items.size 0 lo:Nat):Int) == 0 && (1:Int) == 1 && (sIx items.size items.size hi - sIx items.size 0 lo) == items.size)=true then _ else _) _ _ s
  rw [if_neg hno,sQ]
  first
    | exact wpAny_bind (m:=Builtin.Tuple.tupleExact _) (wpAny_newObj_type (wpAny_pure ⟨_,rfl,wpAny_pure h⟩) htake)
    | exact wpAny_bind (m:=Builtin.Tuple.tupleExact _) (wpAny_newObj_type (wpAny_bind (wpAny_pure (wpAny_pure ⟨_,rfl,wpAny_pure h⟩))) htake)
    | exact wpAny_bind (wpAny_bind (m:=Builtin.Tuple.tupleExact _) (wpAny_newObj_type (wpAny_pure (wpAny_pure ⟨_,rfl,wpAny_pure h⟩)) htake))
    | exact wpAny_bind (wpAny_bind (m:=Builtin.Tuple.tupleExact _) (wpAny_newObj_type (wpAny_pure ⟨_,rfl,wpAny_pure h⟩) htake))
end
end HT
namespace L2
open PySem PySem.Spec PyProof.Rows
abbrev TO:=St→Hp→(Option Int→Hp→Prop)→Prop
def PO (X:Cx) (e:Option Expr) (t:TO):Prop:=
 ∀ (pins:List (Addr×Obj)) (s:Shared) (σ:St) (H:Hp) (Q:Option Int→Hp→Prop),Inv X pins σ H s→t σ H Q →
  wpAny (model X.prog X.w) X.A (evalPart e X.env) (fun u s'=>∃ o H',Inv X pins σ H' s'∧IsPart u o∧Q o H') X.xe s
def vR:TO:=fun _ H Q=>Q none H
def Bm (t:TE):TO:=fun σ H Q=>t σ H fun x H1=>∃ i,x=.int i∧Q (some i) H1
theorem intsAre_of {ns:List Int}:∀ {us:List Value},Vals (ns.map V.int) us→IntsAre us ns:=by
 induction ns with
 | nil=>intro us r;rw [List.map_nil] at r;cases r;exact .nil
 | cons n ns ih=>
  intro us r
  rw [List.map_cons] at r
  cases r with
  | cons r1 r2=>
   obtain ⟨t,e⟩:=r1
   subst e
   exact .cons n t (ih r2)
section
variable {X:Cx} {e:Expr} {te:TE} {lo hi:Option Expr} {tl th:TO} {pos p2:Pos}
theorem uN:PO X none vR:=by
 intro pins s σ H Q I h
 rw [evalPart_none]
 exact wpAny_pure ⟨none,H,I,.none,h⟩
theorem vj (h:PE X e te):PO X (some e) (Bm te):=by
 intro pins s σ H Q I hw
 rw [evalPart_some]
 refine thn (h pins s σ H _ I hw) fun u s1 ⟨x,H1,I1,r1,q1⟩=>?_
 obtain ⟨i,rfl,q⟩:=q1
 obtain ⟨t,rfl⟩:=r1
 exact ⟨some i,H1,I1,.int i t,q⟩
def SlR (X:Cx) (r:V→Option Int→Option Int→Hp→VK→Prop):Prop:=
 ∀ (pins:List (Addr×Obj)) (s:Shared) (σ:St) (H:Hp) (x:V) (v vl vu:Value) (lo hi:Option Int) (sl:Addr) (Q:VK),Inv X pins σ H s→RelV x v→s.heap.IsSliceOf sl vl vu .none→IsPart vl lo→IsPart vu hi→r x lo hi H Q →
  ∃ T id,typeLookup (.type T) "__getitem__"=pure (some (.builtin id))∧s.TypeIs v T∧wpAny (model X.prog X.w) X.A (getItem v (.ref sl)) (EP X pins σ Q) X.xe s
def tSl (r:V→Option Int→Option Int→Hp→VK→Prop) (te:TE) (tl th:TO):TE:=fun σ H Q=>te σ H fun x H1=>tl σ H1 fun l H2=>th σ H2 fun u H3=>r x l u H3 Q
theorem md {r:V→Option Int→Option Int→Hp→VK→Prop} (hr:SlR X r) (he:PE X e te) (hl:PO X lo tl) (hu:PO X hi th):PE X (.Subscript e (.Slice lo hi none p2) pos) (tSl r te tl th):=by
 intro pins s σ H Q I h
 refine Subscript_ (thn (he pins s σ H _ I h) fun v s1 ⟨x,H1,I1,r1,q1⟩=>?_)
 refine wpAny_Slice (thn (hl pins s1 σ H1 _ I1 q1) fun vl s2 ⟨l,H2,I2,pl,q2⟩=>thn (hu pins s2 σ H2 _ I2 q2) fun vu s3 ⟨u,H3,I3,pu,q3⟩=>?_)
 rw [evalPart_none]
 refine wpAny_pure ?_
 have I4:Inv X pins σ H3 { s3 with heap:=s3.heap.push { cls:=.type "slice",data:=.fields #[vl,vu,.none] } }:=I3.kept (t':=s3.toks) fun b ob q=>Heap.get?_push_of_some _ q
 obtain ⟨T,id,hT,ht,hg⟩:=hr pins { s3 with heap:=s3.heap.push { cls:=.type "slice",data:=.fields #[vl,vu,.none] } } σ H3 x v vl vu l u s3.heap.objs.size Q I4 r1 (Heap.IsSliceOf.new ..) pl pu q3
 show wpAny (model X.prog X.w) X.A (subscriptTail e (.Slice lo hi none p2) v (.ref s3.heap.objs.size)) (EP X pins σ Q) X.xe { s3 with heap:=s3.heap.push { cls:=.type "slice",data:=.fields #[vl,vu,.none] } }
 exact tail_any (ops:=[.ref s3.heap.objs.size,v]) ht hT hg (by with_unfolding_all rfl)
def e_ (xs:List V) (lo hi:Option Int):List V:=(xs.drop (HT.sIx xs.length 0 lo)).take (HT.sIx xs.length xs.length hi - HT.sIx xs.length 0 lo)
theorem jh (xs:List V) (lo hi:Option Int):(e_ xs lo hi).length≤xs.length:=by
 unfold e_
 rw [List.length_take,List.length_drop]
 omega
def Cn (K:PySem.W.Frag):V→Option Int→Option Int→Hp→VK→Prop:=fun x lo hi H Q=>∃ a xs,x=.ref a∧SqT K H a xs ∧
 ¬(HT.sIx xs.length 0 lo=0∧HT.sIx xs.length xs.length hi=xs.length)∧∀ p,H p=none→Q (.ref p) (upd H p (.tup (e_ xs lo hi)))
theorem wq:SlR X (Cn X.K):=by
 intro pins s σ H x v vl vu lo hi sl Q I rx hs pl pu h
 obtain ⟨a,xs,rfl,hx,hw,q⟩:=h
 cases rx
 obtain ⟨its,r,ht,hz⟩:=I.tuple hx
 have hlen:its.toArray.size=xs.length:=by rw [List.size_toArray];exact r.length.symm
 refine ⟨"tuple",_,PyProof.Rows.slot_tuple_getitem.lookup,ht.typeIs,?_⟩
 refine HT.i8 ht hs pl pu (by rw [hlen];exact hw) ?_ (by rw [hlen];exact hz)
 rw [hlen]
 refine ⟨.ref s.heap.objs.size,_,I.laid (t':=s.toks) (o:=.tup (e_ xs lo hi)) (fun b ob q=>Heap.get?_push_of_some _ q) (Nat.le_refl _) ?_,rfl,q _ (I.hok.fresh (Nat.le_refl _))⟩
 exact ⟨Nat.le_trans (jh xs lo hi) hz,_,(r.drop (HT.sIx xs.length 0 lo)).take (HT.sIx xs.length xs.length hi - HT.sIx xs.length 0 lo),IsTup.new _ _⟩
def zV (K:PySem.W.Frag):R2:=fun x y H Q=>∃ a b xs ys,x=.ref a∧y=.ref b∧SqT K H a xs∧SqT K H b ys∧xs≠[]∧xs.length+ys.length≤sizeLine ∧
 (ys=[]→Q (.ref a) H)∧(ys≠[]→∀ p,H p=none→Q (.ref p) (upd H p (.tup (xs++ys))))
theorem Vals.iU {xs:List V} {us:List Value} (r:Vals xs us):us=[]↔xs=[]:=by
 cases r with
 | nil=>simp
 | cons _ _=>simp
theorem vH:OpR X (binaryOp .Add) (zV X.K):=by
 intro pins s σ H x y v u Q I rx ry h
 obtain ⟨a,b,xs,ys,rfl,rfl,ha,hb,hx,hz,q1,q2⟩:=h
 cases rx
 cases ry
 obtain ⟨its,r1,p1,_⟩:=I.tuple ha
 obtain ⟨its2,r2,p2,_⟩:=I.tuple hb
 refine HT.u_ p1 p2 (fun z=>hx (r1.iU.mp z)) (fun z=>⟨.ref a,H,I,rfl,q1 (r2.iU.mp z)⟩) (fun z=>?_) (by rw [← r1.length,← r2.length];exact hz)
 refine ⟨.ref s.heap.objs.size,_,I.laid (t':=s.toks) (o:=.tup (xs++ys)) (fun b ob q=>Heap.get?_push_of_some _ q) (Nat.le_refl _) ?_,rfl,q2 (fun w=>z (r2.iU.mpr w)) _ (I.hok.fresh (Nat.le_refl _))⟩
 exact ⟨by rw [List.length_append];exact hz,_,r1.append r2,IsTup.new _ _⟩
end
def ixN (n:Nat) (i:Int):Option Nat:=if 0≤i then (if i < n then some i.toNat else none) else if -(n:Int)≤i then some (i+n).toNat else none
def atI {α:Type} (xs:List α) (i:Int):Option α:=(ixN xs.length i).bind fun j=>xs[j]?
theorem n_ {n:Nat} {i:Int} {j:Nat} (h:ixN n i=some j):seqIndex? i n=some j∧j < n∧-(n:Int)≤i∧i < n:=by
 unfold ixN at h
 by_cases h0:0≤i
 ·rw [if_pos h0] at h
  by_cases h1:i < n
  ·rw [if_pos h1] at h
   have e:i.toNat=j:=Option.some.inj h
   exact ⟨by rw [seqIndex_of h0 h1,e],by omega,by omega,h1⟩
  ·rw [if_neg h1] at h;cases h
 ·rw [if_neg h0] at h
  by_cases h1:-(n:Int)≤i
  ·rw [if_pos h1] at h
   have e:(i+n).toNat=j:=Option.some.inj h
   exact ⟨by rw [seqIndex_neg (by omega) h1,e],by omega,h1,by omega⟩
  ·rw [if_neg h1] at h;cases h
theorem nZ {α:Type} {xs:List α} {i:Int} {v:α} (h:atI xs i=some v):∃ j,seqIndex? i xs.length=some j∧xs[j]?=some v∧j < xs.length∧-(xs.length:Int)≤i∧i < xs.length:=by
 unfold atI at h
 cases e:ixN xs.length i with
 | none=>rw [e] at h;cases h
 | some j=>
  rw [e] at h
  obtain ⟨h1,h2,h3,h4⟩:=n_ e
  exact ⟨j,h1,h,h2,h3,h4⟩
def nR (b:Expr):Prop:=∀ o i,subscripted b false o i=operate [o,i] (getItem o i)
def IxR (X:Cx) (r:R2):Prop:=
 ∀ (value slice:Expr) (pins:List (Addr×Obj)) (s:Shared) (σ:St) (H:Hp) (x y:V) (v u:Value) (Q:VK),Inv X pins σ H s→RelV x v→RelV y u→r x y H Q →
  subscripted slice false v u=operate [v,u] (getItem v u)→wpAny (model X.prog X.w) X.A (subscriptTail value slice v u) (EP X pins σ Q) X.xe s
section
variable {X:Cx} {a b:Expr} {ta tb:TE} {pos:Pos}
theorem zU {r:R2} (hr:IxR X r) (ha:PE X a ta) (hb:PE X b tb) (hs:nR b):PE X (.Subscript a b pos) (tOp r ta tb):=by
 intro pins s σ H Q I h
 exact Subscript_ (tN ha hb I h fun v u s2 x y H2 I2 rx ry q=>hr a b pins s2 σ H2 x y v u Q I2 rx ry q (hs _ _))
def B8 (K:PySem.W.Frag):R2:=fun x y H Q=>∃ p xs i v,x=.ref p∧y=.int i∧SqL K H p xs∧atI xs i=some v∧Q v H
def Cg (K:PySem.W.Frag):R2:=fun x y H Q=>∃ p xs i v,x=.ref p∧y=.int i∧SqT K H p xs∧atI xs i=some v∧Q v H
theorem uK:IxR X (B8 X.K):=by
 intro value slice pins s σ H x y v u Q I rx ry h hs
 obtain ⟨p,xs,i,z,rfl,rfl,hq,he,q⟩:=h
 cases rx
 obtain ⟨t,rfl⟩:=ry
 obtain ⟨its,r,pl,hz⟩:=I.list hq
 obtain ⟨j,h1,h2,h3,h4,h5⟩:=nZ he
 obtain ⟨w,ew,rw'⟩:=r.get h2
 have hl:=r.length
 have hn:=ir
 have fin:EP X pins σ Q w s:=⟨z,H,I,rw',q⟩
 by_cases h0:0≤i
 ·have hj:i.toNat=j:=by
   rw [seqIndex_of h0 h5] at h1
   exact Option.some.inj h1
  exact item_listR pl.isList h0 (by omega) (by rw [hj];simpa using ew) fin hs
 ·have hj:(i+(its.toArray.size:Int)).toNat=j:=by
   rw [seqIndex_neg (by omega) h4] at h1
   rw [List.size_toArray,← hl]
   exact Option.some.inj h1
  exact subscriptTail_builtinR (x:=w) pl.isList.typeIs slot_list_getitem.lookup
   (wpAny_getItem_list_neg (Q:=fun r s'=>r=w∧EP X pins σ Q r s') pl.isList (by omega) (by rw [List.size_toArray]<;>omega) (by omega) (by rw [hj];simpa using ew) ⟨rfl,fin⟩) hs
theorem wL:IxR X (Cg X.K):=by
 intro value slice pins s σ H x y v u Q I rx ry h hs
 obtain ⟨p,xs,i,z,rfl,rfl,hq,he,q⟩:=h
 cases rx
 obtain ⟨t,rfl⟩:=ry
 obtain ⟨its,r,pl,hz⟩:=I.tuple hq
 obtain ⟨j,h1,h2,h3,h4,h5⟩:=nZ he
 obtain ⟨w,ew,rw'⟩:=r.get h2
 have hl:=r.length
 have hn:=ir
 have fin:EP X pins σ Q w s:=⟨z,H,I,rw',q⟩
 exact subscriptTail_builtinR (x:=w) pl.typeIs slot_tuple_getitem.lookup
  (getItem_tuple (j:=j) (Q:=fun r s'=>r=w∧EP X pins σ Q r s') pl (by omega) (by omega) (by rw [List.size_toArray,← hl];exact h1) (by simpa using ew) ⟨rfl,fin⟩) hs
theorem oy (its:List Value) (n j:Nat) (u:Value):Obj.mapSeq (·.setIfInBounds j u) { cls:=.type "list",data:=.seq its.toArray n }={ cls:=.type "list",data:=.seq (its.set j u).toArray n }:=by
 simp [Obj.mapSeq]
theorem Inv.lst {pins:List (Addr×Obj)} {σ:St} {H:Hp} {s:Shared} {p:Addr} {xs:List V} (I:Inv X pins σ H s) (h:H p=some (.lst xs)) :
  ∃ (its:List Value) (n:Nat),Vals xs its∧s.heap.get? p=some { cls:=.type "list",data:=.seq its.toArray n }∧xs.length≤sizeLine:=by
 obtain ⟨z,its,n,r,e⟩:=I.hok p _ h
 exact ⟨its,n,r,e,z⟩
theorem Inv.xD {pins:List (Addr×Obj)} {σ:St} {H:Hp} {s:Shared} {p:Addr} {xs ys:List V} {its its':List Value} {n n':Nat} {f:Obj→Obj} (I:Inv X pins σ H s) (h:H p=some (.lst xs))
  (ho:s.heap.get? p=some { cls:=.type "list",data:=.seq its.toArray n }) (hf:f { cls:=.type "list",data:=.seq its.toArray n }={ cls:=.type "list",data:=.seq its'.toArray n' }) (r:Vals ys its') (hz:ys.length≤sizeLine) (t:Nat) :
  Inv X pins σ (upd H p (.lst ys)) { s with heap:=s.heap.update p f,toks:=t }:=by
 have e:(s.heap.update p f).get? p=some { cls:=.type "list",data:=.seq its'.toArray n' }:=by
  rw [Heap.get?_update_self f ho (by rw [hf]<;>rfl),hf]
 refine I.write (x:=p) (e:=p) (by rw [h];trivial) (.inl rfl) (fun b u hb q=>(Heap.get?_update_other _ _ (Ne.symm hb)).trans q) ⟨_,e⟩ ?_
 exact ⟨hz,its',n',r,e⟩
def oG:V→V→V→Hp→(Hp→Prop)→Prop:=fun o i v H Q=>∃ p xs k j,o=.ref p∧i=.int k∧H p=some (.lst xs)∧ixN xs.length k=some j∧Q (upd H p (.lst (xs.set j v)))
theorem set_list:pf X oG:=by
 intro pins s σ H o i v ov iv u Q I ro ri rv h
 obtain ⟨p,xs,k,j,rfl,rfl,hp,hj,q⟩:=h
 cases ro
 obtain ⟨t,rfl⟩:=ri
 obtain ⟨its,n,r,ho,hz⟩:=I.lst hp
 obtain ⟨h1,h2,h3,h4⟩:=n_ hj
 have hl:=r.length
 have hn:=ir
 have I':Inv X pins σ (upd H p (.lst (xs.set j v))) { s with heap:=s.heap.update p (Obj.mapSeq (·.setIfInBounds j u)) }:=
  I.xD hp ho (oy its n j u) (r.set rv j) (by rw [List.length_set];exact hz) s.toks
 by_cases h0:0≤k
 ·have hk:k.toNat=j:=by
   rw [seqIndex_of h0 h4] at h1
   exact Option.some.inj h1
  exact PySem.W.ki_setAt ho h0 (by omega) (by rw [List.size_toArray,← hl];exact h4) (by rw [hk];exact ⟨_,I',q⟩)
 ·have hk:(k+(its.toArray.size:Int)).toNat=j:=by
   rw [seqIndex_neg (by omega) h3] at h1
   rw [List.size_toArray,← hl]
   exact Option.some.inj h1
  exact PySem.W.ki_setBack ho (by omega) (by rw [List.size_toArray,← hl];exact h3) (by omega) (by rw [hk];exact ⟨_,I',q⟩)
theorem mV (lo hi:Option Int) (n:Nat):(sliceBounds lo hi none n).1=((HT.sIx n 0 lo:Nat):Int)∧(sliceBounds lo hi none n).2.1=((HT.sIx n n hi:Nat):Int)∧(sliceBounds lo hi none n).2.2=1:=by
 refine ⟨?_,?_,rfl⟩
 ·cases lo with
  | none=>simp [sliceBounds,HT.sIx]
  | some i=>
   simp only [sliceBounds,HT.sIx,Option.getD_none,show (1:Int) > 0 by decide,if_true]
   by_cases h:i < 0
   ·simp only [h,if_true]<;>omega
   ·simp only [h,if_false]<;>omega
 ·cases hi with
  | none=>simp [sliceBounds,HT.sIx]
  | some i=>
   simp only [sliceBounds,HT.sIx,Option.getD_none,show (1:Int) > 0 by decide,if_true]
   by_cases h:i < 0
   ·simp only [h,if_true]<;>omega
   ·simp only [h,if_false]<;>omega
theorem lr (its:List Value) (lo hi:Option Int):slicePick its.toArray lo hi none=((its.drop (HT.sIx its.length 0 lo)).take (HT.sIx its.length its.length hi - HT.sIx its.length 0 lo)).toArray:=by
 obtain ⟨h1,h2,h3⟩:=mV lo hi its.toArray.size
 unfold slicePick
 rw [h1,h2,h3]
 simp only [sliceRange_one,pick_run,List.size_toArray]<;>rfl
def Cb (K:PySem.W.Frag):V→Option Int→Option Int→Hp→VK→Prop:=fun x lo hi H Q=>∃ a xs,x=.ref a∧SqL K H a xs∧∀ p,H p=none→Q (.ref p) (upd H p (.lst (e_ xs lo hi)))
theorem nP:SlR X (Cb X.K):=by
 intro pins s σ H x v vl vu lo hi sl Q I rx hs pl pu h
 obtain ⟨a,xs,rfl,hx,q⟩:=h
 cases rx
 obtain ⟨its,r,ht,hz⟩:=I.list hx
 have hlen:=r.length
 refine ⟨"list",_,slot_list_getitem.lookup,ht.isList.typeIs,?_⟩
 refine wpAny_getItem_list_slice ht.isList hs pl pu .none (by simp) ?_ (by rw [List.size_toArray]<;>omega)
 rw [lr,← hlen]
 refine ⟨.ref s.heap.objs.size,_,I.laid (t':=s.toks) (o:=.lst (e_ xs lo hi)) (fun b ob q=>Heap.get?_push_of_some _ q) (Nat.le_refl _) ?_,rfl,q _ (I.hok.fresh (Nat.le_refl _))⟩
 exact ⟨Nat.le_trans (jh xs lo hi) hz,_,0,(r.drop (HT.sIx xs.length 0 lo)).take (HT.sIx xs.length xs.length hi - HT.sIx xs.length 0 lo),Heap.get?_push_size _ rfl⟩
def dj:V→Bool
 | .non=>true
 | .bl _=>true
 | .int _=>true
 | .str _=>true
 | _=>false
def eqV:V→V→Bool
 | .non,.non=>true
 | .bl a,.bl b=>a == b
 | .bl a,.int b=>(if a then 1 else 0) == b
 | .int a,.bl b=>a == (if b then 1 else 0)
 | .int a,.int b=>a == b
 | .str a,.str b=>a == b
 | _,_=>false
theorem ic {A:Around} {s:Shared} {y x:V} {u v:Value} (ry:RelV y u) (rx:RelV x v) (fy:dj y=true) (fx:dj x=true):SeqAt.EqAt A s u v (eqV y x):=by
 cases y with
 | non=>
  cases ry
  cases x with
  | non=>cases rx;exact SeqAt.EqAt.same _
  | bl b=>cases rx;exact SeqAt.EqAt.none_bool b
  | int b=>obtain ⟨t,rfl⟩:=rx;exact SeqAt.EqAt.none_int b t
  | str b=>obtain ⟨t,rfl⟩:=rx;exact SeqAt.EqAt.none_str b t
  | _=>exact absurd (show false=true from fx) Bool.false_ne_true
 | bl a=>
  cases ry
  cases x with
  | non=>cases rx;exact SeqAt.EqAt.bool_none a
  | bl b=>cases rx;exact SeqAt.EqAt.bool_bool a b
  | int b=>obtain ⟨t,rfl⟩:=rx;exact SeqAt.EqAt.bool_int a b t
  | str b=>obtain ⟨t,rfl⟩:=rx;exact SeqAt.EqAt.bool_str a b t
  | _=>exact absurd (show false=true from fx) Bool.false_ne_true
 | int a=>
  obtain ⟨t',rfl⟩:=ry
  cases x with
  | non=>cases rx;exact SeqAt.EqAt.int_none a t'
  | bl b=>cases rx;exact SeqAt.EqAt.int_bool a t' b
  | int b=>obtain ⟨t,rfl⟩:=rx;exact SeqAt.EqAt.int_int a t' b t
  | str b=>obtain ⟨t,rfl⟩:=rx;exact SeqAt.EqAt.int_str a t' b t
  | _=>exact absurd (show false=true from fx) Bool.false_ne_true
 | str a=>
  obtain ⟨t',rfl⟩:=ry
  cases x with
  | non=>cases rx;exact SeqAt.EqAt.str_none a t'
  | bl b=>cases rx;exact SeqAt.EqAt.str_bool a t' b
  | int b=>obtain ⟨t,rfl⟩:=rx;exact SeqAt.EqAt.str_int a t' b t
  | str b=>obtain ⟨t,rfl⟩:=rx;exact SeqAt.EqAt.str_str a t' b t
  | _=>exact absurd (show false=true from fx) Bool.false_ne_true
 | _=>exact absurd (show false=true from fy) Bool.false_ne_true
def eqU (x:V) (u:Value):Bool:=match u with
 | .none=>eqV .non x
 | .bool b=>eqV (.bl b) x
 | .int i _=>eqV (.int i) x
 | .str z _=>eqV (.str z) x
 | _=>false
theorem qA {x y:V} {u:Value} (r:RelV y u) (f:dj y=true):eqU x u=eqV y x:=by
 cases y with
 | non=>cases r;rfl
 | bl b=>cases r;rfl
 | int i=>obtain ⟨t,rfl⟩:=r;rfl
 | str z=>obtain ⟨t,rfl⟩:=r;rfl
 | _=>exact absurd (show false=true from f) Bool.false_ne_true
theorem gj {x:V}:∀ {xs:List V} {us:List Value},Vals xs us→xs.all dj=true→us.any (eqU x)=xs.any fun y=>eqV y x
 | _,_,.nil,_=>rfl
 | y :: xs,u :: us,.cons r t,f=>by
  rw [List.all_cons,Bool.and_eq_true] at f
  rw [List.any_cons,List.any_cons,qA r f.1,gj t f.2]
theorem fh {A:Around} {s:Shared} {x:V} {v:Value} (rx:RelV x v) (fx:dj x=true):∀ {xs:List V} {us:List Value},Vals xs us→xs.all dj=true→∀ u∈us,SeqAt.EqAt A s u v (eqU x u)
 | _,_,.nil,_=>fun u hu=>by cases hu
 | y :: xs,u :: us,.cons r t,f=>fun u' hu=>by
  rw [List.all_cons,Bool.and_eq_true] at f
  rcases List.mem_cons.mp hu with rfl | hu
  ·rw [qA r f.1];exact ic r rx f.1 fx
  ·exact fh rx fx t f.2 u' hu
def inV (x:V) (xs:List V):Bool:=xs.any fun y=>eqV y x
def rIn (K:PySem.W.Frag) (neg:Bool):R2:=fun x y H Q=>∃ p xs,y=.ref p∧(SqL K H p xs∨SqT K H p xs)∧dj x=true∧xs.all dj=true∧Q (.bl (if neg then !inV x xs else inV x xs)) H
theorem kW:OpR X (compareOp .In) (rIn X.K false):=by
 intro pins s σ H x y v u Q I rx ry h
 obtain ⟨p,xs,rfl,hq,fx,fs,q⟩:=h
 cases ry
 rcases hq with hq | hq
 ·obtain ⟨its,r,pl,hz⟩:=I.list hq
  refine SeqAt.in_listAt (eqU x) pl.isList (fun w hw=>fh rx fx r fs w (by simpa using hw)) ⟨.bl _,H,I,rfl,?_⟩
  rw [show its.toArray.any (eqU x)=its.any (eqU x) by simp,gj r fs]
  exact q
 ·obtain ⟨its,r,pl,hz⟩:=I.tuple hq
  refine SeqAt.in_tupleAt (eqU x) pl (fun w hw=>fh rx fx r fs w (by simpa using hw)) ⟨.bl _,H,I,rfl,?_⟩
  rw [show its.toArray.any (eqU x)=its.any (eqU x) by simp,gj r fs]
  exact q
theorem iI:OpR X (compareOp .NotIn) (rIn X.K true):=by
 intro pins s σ H x y v u Q I rx ry h
 obtain ⟨p,xs,rfl,hq,fx,fs,q⟩:=h
 cases ry
 rcases hq with hq | hq
 ·obtain ⟨its,r,pl,hz⟩:=I.list hq
  refine SeqAt.notIn_listAt (eqU x) pl.isList (fun w hw=>fh rx fx r fs w (by simpa using hw)) ⟨.bl _,H,I,rfl,?_⟩
  rw [show its.toArray.any (eqU x)=its.any (eqU x) by simp,gj r fs]
  exact q
 ·obtain ⟨its,r,pl,hz⟩:=I.tuple hq
  refine SeqAt.notIn_tupleAt (eqU x) pl (fun w hw=>fh rx fx r fs w (by simpa using hw)) ⟨.bl _,H,I,rfl,?_⟩
  rw [show its.toArray.any (eqU x)=its.any (eqU x) by simp,gj r fs]
  exact q
theorem bH.or {f:Value} {r r':List V→Hp→VK→Prop} (h:bH X f r) (h':bH X f r'):bH X f (fun xs H Q=>r xs H Q∨r' xs H Q):=by
 intro pins s σ H xs us Q I rs q
 rcases q with q | q
 ·exact h pins s σ H xs us Q I rs q
 ·exact h' pins s σ H xs us Q I rs q
theorem iG:bH X (.type "list") (fun xs H Q=>∃ p ys,xs=[.ref p]∧(SqL X.K H p ys∨SqT X.K H p ys)∧∀ l,H l=none→Q (.ref l) (upd H l (.lst ys))):=by
 intro pins s σ H xs us Q I r h
 obtain ⟨p,ys,rfl,hq,q⟩:=h
 obtain ⟨u,rfl,rx⟩:=vals1 r
 cases rx
 have fin:∀ (its:List Value),Vals ys its→ys.length≤sizeLine→∀ (h':Heap) (c':Nat),(∀ b o',s.heap.get? b=some o'→h'.get? b=some o') →
   h'.get? s.heap.objs.size=some { cls:=.type "list",dict:=none,data:=.seq its.toArray c',slots:=#[] }→EP X pins σ Q (.ref s.heap.objs.size) { s with heap:=h' }:=fun its r' hz h' c' kp e=>
  ⟨.ref s.heap.objs.size,_,I.laid (t':=s.toks) kp (Nat.le_refl _) (show bC X.prog X.w _ h' _ (.lst ys) from ⟨hz,its,c',r',e⟩),rfl,q _ (I.hok.fresh (Nat.le_refl _))⟩
 rcases hq with hq | hq
 ·obtain ⟨its,r',pl,hz⟩:=I.list hq
  have hlen:=r'.length
  obtain ⟨o,ho,hc,n,hd⟩:=pl.isList
  exact call_list_seq p (.inl rfl) ho hc hd (fun h' c' kp e=>fin its r' hz h' c' kp e) (by simp only [List.size_toArray]<;>omega)
 ·obtain ⟨its,r',pl,hz⟩:=I.tuple hq
  have hlen:=r'.length
  obtain ⟨o,ho,hc,n,hd⟩:=pl
  exact call_list_seq p (.inr rfl) ho hc hd (fun h' c' kp e=>fin its r' hz h' c' kp e) (by simp only [List.size_toArray]<;>omega)
theorem gX:bH X (.type "tuple") (fun xs H Q=>∃ p ys,xs=[.ref p]∧((SqL X.K H p ys∧∀ l,H l=none→Q (.ref l) (upd H l (.tup ys)))∨(SqT X.K H p ys∧Q (.ref p) H))):=by
 intro pins s σ H xs us Q I r h
 obtain ⟨p,ys,rfl,h⟩:=h
 obtain ⟨u,rfl,rx⟩:=vals1 r
 cases rx
 rcases h with ⟨hq,q⟩ | ⟨hq,q⟩
 ·obtain ⟨its,r',pl,hz⟩:=I.list hq
  have hlen:=r'.length
  refine call_tuple_list pl.isList (fun h' kp=>?_) (by simp only [List.size_toArray]<;>omega)
  have I1:Inv X pins σ H { s with heap:=h' }:=I.kept (t':=s.toks) kp
  have I2:Inv X pins σ (upd H h'.objs.size (.tup ys)) { s with heap:=h'.push { cls:=.type "tuple",data:=.seq its.toArray } }:=
   I1.laid (t':=s.toks) (fun b o e=>Heap.get?_push_of_some _ e) (Nat.le_refl _) (show bC X.prog X.w _ _ _ (.tup ys) from ⟨hz,its,r',IsTup.new _ _⟩)
  exact ⟨.ref h'.objs.size,_,I2,rfl,q _ (I1.hok.fresh (Nat.le_refl _))⟩
 ·obtain ⟨its,r',pl,hz⟩:=I.tuple hq
  exact call_tuple_same pl ⟨.ref p,H,I,rfl,q⟩
def tyV (K:PySem.W.Frag) (T:String) (x:V) (H:Hp):Prop:=match x with
 | .str _=>T="str"
 | .int _=>T="int"
 | .ref p=>(T="list"∧∃ xs,SqL K H p xs)∨(T="tuple"∧∃ o,K.lookup p=some o∧o.cls=.type "tuple"∧o.dict=none) ∨
   (T="dict"∧((∃ kvs,H p=some (.dK kvs))∨∃ kvs,H p=some (.dT kvs)))∨(T="set"∧∃ S n,H p=some (.set S n))
 | _=>False
theorem qk {pins:List (Addr×Obj)} {σ:St} {H:Hp} {s:Shared} {T:String} {x:V} {v:Value} (I:Inv X pins σ H s) (r:RelV x v) (ty:tyV X.K T x H) :
  s.TypeIs v T∧∀ a,v=.ref a→∃ ob,s.heap.get? a=some ob∧ob.dict=none:=by
 cases x with
 | str z=>
  obtain ⟨t,rfl⟩:=r
  cases (show T="str" from ty)
  exact ⟨typeIs_str s z t,fun _ e=>nomatch e⟩
 | int i=>
  obtain ⟨t,rfl⟩:=r
  cases (show T="int" from ty)
  exact ⟨typeIs_int s i t,fun _ e=>nomatch e⟩
 | ref p=>
  cases r
  rcases ty with ⟨rfl,xs,hq⟩ | ⟨rfl,o,hk,hc,hd⟩ | ⟨rfl,hk⟩ | ⟨rfl,S,n,hk⟩
  ·obtain ⟨its,_,pl,_⟩:=I.list hq
   refine ⟨pl.isList.typeIs,fun a e=>?_⟩
   cases e
   obtain ⟨o,n,e,c,hd,_⟩:=pl
   exact ⟨o,e,hd⟩
  ·refine ⟨⟨o,I.kIn p o hk,hc⟩,fun a e=>?_⟩
   cases e
   exact ⟨o,I.kIn _ o hk,hd⟩
  ·have z:∃ o,s.heap.get? p=some o∧o.ExactDict:=by
    rcases hk with ⟨kvs,hk⟩ | ⟨kvs,hk⟩
    ·obtain ⟨_,_,_,_,o,_,_,e,ex,_⟩:=I.hok p _ hk
     exact ⟨o,e,ex⟩
    ·obtain ⟨_,_,_,_,o,_,_,e,ex,_⟩:=I.hok p _ hk
     exact ⟨o,e,ex⟩
   obtain ⟨o,e,ex⟩:=z
   refine ⟨⟨o,e,ex.1⟩,fun a e2=>?_⟩
   cases e2
   exact ⟨o,e,ex.2.1⟩
  ·obtain ⟨o,_,_,_,e,ex,_⟩:=I.hok p _ hk
   refine ⟨⟨o,e,ex.1⟩,fun a e2=>?_⟩
   cases e2
   exact ⟨o,e,ex.2.1⟩
 | _=>exact False.elim ty
variable {o e:Expr} {es:List Expr} {to:TE} {t:TA} {name:Str} {apos cpos:Pos} {T id:String} {r:V→List V→Hp→VK→Prop}
end
def MtM (X:Cx) (id:String) (r:V→List V→Hp→VK→Prop):Prop:=
 ∀ (pins:List (Addr×Obj)) (s:Shared) (σ:St) (H:Hp) (x:V) (xs:List V) (v:Value) (us:List Value) (Q:VK),Inv X pins σ H s→RelV x v→Vals xs us→r x xs H Q →
  wpAny (model X.prog X.w) X.A (call (.builtin id) (v :: us)) (EP X pins σ Q) X.xe s
theorem Vals.one:∀ {x:V} {us:List Value},Vals [x] us→∃ u,us=[u]∧RelV x u
 | _,_,.cons r .nil=>⟨_,rfl,r⟩
theorem Vals.two:∀ {x y:V} {us:List Value},Vals [x,y] us→∃ u v,us=[u,v]∧RelV x u∧RelV y v
 | _,_,_,.cons r (.cons q .nil)=>⟨_,_,rfl,r,q⟩
theorem Vals.reverse {xs:List V} {us:List Value} (h:Vals xs us):Vals xs.reverse us.reverse:=by
 induction h with
 | nil=>exact .nil
 | cons r t ih=>rw [List.reverse_cons,List.reverse_cons];exact Vals.append ih (.cons r .nil)
section
variable {X:Cx} {pins:List (Addr×Obj)} {σ:St} {H:Hp} {s:Shared} {l b:Addr} {xs ys zs:List V}
theorem Inv.Cd {its its':List Value} {n:Nat} {f:Array Value→Array Value} {t':Nat} (I:Inv X pins σ H s) (hH:H l=some (.lst xs))
  (e:s.heap.get? l=some { cls:=.type "list",data:=.seq its.toArray n }) (hf:f its.toArray=its'.toArray) (hv:Vals ys its') (hz:ys.length≤sizeLine) :
  Inv X pins σ (upd H l (.lst ys)) { s with heap:=s.heap.update l (Obj.mapSeq f),toks:=t' }:=by
 have q:=PySem.IsL.update e f
 rw [hf] at q
 refine I.write (x:=l) (e:=l) (by rw [hH];exact trivial) (.inl rfl) (fun b' u hb hu=>(Heap.get?_update_other s.heap (Obj.mapSeq f) (Ne.symm hb)).trans hu) ⟨_,q⟩ ?_
 exact ⟨hz,its',_,hv,q⟩
theorem Inv.BZ {its:List Value} {t':Nat} (I:Inv X pins σ H s) (hv:Vals ys its) (hz:ys.length≤sizeLine) :
  Inv X pins σ (upd H s.heap.objs.size (.lst ys)) { s with heap:=s.heap.push { cls:=.type "list",data:=.seq its.toArray },toks:=t' }:=
 I.laid (fun _ _ q=>Heap.get?_push_of_some _ q) (Nat.le_refl _) ⟨hz,its,0,hv,Heap.get?_push_size _ rfl⟩
theorem Inv.fresh (I:Inv X pins σ H s):H s.heap.objs.size=none:=I.hok.fresh (Nat.le_refl _)
theorem Inv.tB (I:Inv X pins σ H s) (hH:H l=some (.lst xs)):xs.length≤sizeLine∧∃ (its:List Value) (n:Nat),Vals xs its∧xs.length=its.length∧s.heap.get? l=some { cls:=.type "list",data:=.seq its.toArray n }:=by
 obtain ⟨z,its,n,r,e⟩:=I.hok l _ hH
 exact ⟨z,its,n,r,r.length,e⟩
theorem mW {n:Nat} (h:n≤sizeLine):Builtin.List.listTooLong n=false:=by
 unfold Builtin.List.listTooLong
 exact decide_eq_false (by omega)
end
section
variable {X:Cx}
def vk:V→List V→Hp→VK→Prop:=fun x vs H Q=>∃ l xs y,x=.ref l∧vs=[y]∧H l=some (.lst xs)∧xs.length < sizeLine∧Q .non (upd H l (.lst (xs++[y])))
theorem kM:MtM X "list.append" vk:=by
 intro pins s σ H x vs v us Q I rx rv h
 obtain ⟨l,xs,y,rfl,rfl,hH,hz,q⟩:=h
 cases rx
 obtain ⟨u,rfl,ru⟩:=rv.one
 obtain ⟨z,its,n,r,hl,e⟩:=I.tB hH
 refine call_meets F.slot_list_append ⟨_,e,rfl⟩ F.entry_list_append (F.args_list_append_2 _ _) (PySem.list_append l its.toArray n u (by rw [List.size_toArray];omega)) ⟨e,?_⟩
 refine ⟨.non,_,I.Cd (its':=its++[u]) hH e (by simp) (r.append (.cons ru .nil)) ?_,rfl,q⟩
 rw [List.length_append,List.length_singleton]
 omega
def Cj:R2:=fun x y H Q=>∃ l b xs zs,x=.ref l∧y=.ref b∧H l=some (.lst xs)∧H b=some (.lst zs)∧xs.length+zs.length≤sizeLine∧∀ p,H p=none→Q (.ref p) (upd H p (.lst (xs++zs)))
theorem zt:OpR X (binaryOp .Add) Cj:=by
 intro pins s σ H x y v u Q I rx ry h
 obtain ⟨l,b,xs,zs,rfl,rfl,hH,hB,hz,q⟩:=h
 cases rx
 cases ry
 obtain ⟨z,its,n,r,hl,e⟩:=I.tB hH
 obtain ⟨z2,its2,n2,r2,hl2,e2⟩:=I.tB hB
 refine PySem.P.add_list e e2 ?_ (by rw [List.size_toArray,List.size_toArray];omega)
 have ea:its.toArray++its2.toArray=(its++its2).toArray:=by simp
 rw [ea]
 exact ⟨.ref _,_,I.BZ (t':=s.toks) (r.append r2) (by rw [List.length_append];omega),rfl,q _ I.fresh⟩
end
section
variable {prog:Program} {w:World} {A:Around} {E:Value→Shared→Prop} {s:Shared}
theorem o_ {a c n:Nat} (hac:a≤c) (hc:c≤n):sliceBounds (some (a:Int)) (some (c:Int)) none n=((a:Int),(c:Int),1):=by
 simp only [sliceBounds,Option.getD_none]
 have h1:¬((a:Int) < 0):=by omega
 have h2:¬((c:Int) < 0):=by omega
 simp only [h1,h2,if_false,show (1:Int) > 0 by decide,if_true]
 congr 1
 ·omega
 ·congr 1;omega
set_option maxRecDepth 100000 in
theorem wc {l b sl : Addr} {items new : Array Value} {n n2 : Nat} {vl vu : Value} {a c : Nat} {Q : Unit → Shared → Prop}
    (e : s.heap.get? l = some { cls := .type "list", data := .seq items n }) (e2 : s.heap.get? b = some { cls := .type "list", data := .seq new n2 }) (hne : l ≠ b)
    (hs : s.heap.IsSliceOf sl vl vu .none) (pl : IsPart vl (some (a : Int))) (pu : IsPart vu (some (c : Int))) (hac : a ≤ c) (hc : c ≤ items.size)
    (hsz : items.size + new.size ≤ sizeLine) (h : Q () { s with heap := s.heap.update l (Obj.mapSeq fun xs => xs.extract 0 a ++ new ++ xs.extract c xs.size) }) :
    wpAny (model prog w) A (setItem (.ref l) (.ref sl) (.ref b)) Q E s := by
  have hl : s.heap.IsList l items := PySem.IsL.isList e
  have hb : s.heap.IsList b new := PySem.IsL.isList e2
  obtain ⟨os, hos, hcs, hds⟩ := id hs
  have hTs : s.TypeIs (.ref sl) "slice" := ⟨os, hos, hcs⟩
  have hstep : ¬ ((rawPart none == rawInt 0) = true) := Bool.false_ne_true
  have hsame : Builtin.List.listSameRef (.ref l) (.ref b) = false := by
    unfold Builtin.List.listSameRef
    exact beq_eq_false_iff_ne.mpr hne
  have hmax : (max (a : Int) (c : Int)).toNat = c := by omega
  have hz' : ((fun xs : Array Value => xs.extract 0 a ++ new ++ xs.extract c xs.size) items).size ≤ sizeLine + 1 := by
    simp only [Array.size_append, Array.size_extract]
    omega
  unfold setItem
  try with_reducible refine wpAny_holding ?_
  first | refine wpAny_bind (wpAny_pure ?_) | skip
  refine wpAny_bind (wpAny_sequenceKey hl.typeIs (by decide) ?_)
  refine wpAny_bind (wpAny_callSpecial?_slot (name := Str.ofString "__setitem__") hl.typeIs slot_list_setitem
    (wpAny_call_entry slot_list_setitem hl.typeIs entry_list_setitem ?_ (args_list_setitem _ _ _)))
  show wpAny _ _ (Builtin.List.listSubscript? (.ref sl) >>= _) _ _ s
  refine wpAny_bind ?_
  unfold Builtin.List.listSubscript?
  refine wpAny_bind (wpAny_specialOf hTs slice_no_index ?_)
  simp only [Option.isNone_none, if_true]
  refine wpAny_pure ?_
  show wpAny _ _ (typeOf (.ref sl) >>= _) _ _ s
  refine wpAny_bind (wpAny_typeOf hTs ?_)
  first
    | rw [if_neg (by decide)]
    | refine PySem.W.KFB.if_not (by decide) ?_
  rw [listSliceParts_eq]
  refine wpAny_bind (wpAny_bind (wpAny_field hos hds (x := .none) rfl (wpAny_bind (wpAny_listPart .none ?_))))
  rw [if_neg hstep]
  refine wpAny_bind (wpAny_field hos hds (x := vl) rfl (wpAny_bind (wpAny_listPart pl ?_)))
  refine wpAny_bind (wpAny_field hos hds (x := vu) rfl (wpAny_bind (wpAny_listPart pu (wpAny_pure ?_))))
  first
    | simp only [hsame, Bool.false_eq_true, if_false]
    | refine PySem.W.KFB.if_not hsame ?_
    | (dsimp only
       rw [if_neg (by rw [hsame]; exact Bool.false_ne_true)])
  refine wpAny_bind (m := Builtin.List.listAllItems (.ref b) "must assign iterable to extended slice") ?_
  unfold Builtin.List.listAllItems
  refine wpAny_bind (wpAny_typeOf hb.typeIs ?_)
  first
    | refine PySem.W.KFB.if_so (by decide) ?_
    | rw [if_pos (by decide)]
    | simp only [beq_self_eq_true, Bool.true_or, if_true]
  unfold Builtin.List.listItems
  refine wpAny_bind (wpAny_seqItems e2 rfl (wpAny_pure ?_))
  refine wpAny_bind (wpAny_bind (wpAny_seqItems e rfl (wpAny_pure ?_)))
  refine wpAny_bind (wpAny_of_eq ((sliceIndices_raw (some (a : Int)) (some (c : Int)) none items.size (by simp)).trans (congrArg (pure : Int × Int × Int → Sem (Int × Int × Int)) (o_ hac hc))) ?_)
  show wpAny _ _ (if ((1 : Int) == 1) = true then _ else _) _ _ s
  rw [if_pos (by decide)]
  refine wpAny_bind (wpAny_rule ?_)
  first
    | simp only [mW hsz, Bool.false_eq_true, if_false]
    | refine PySem.W.KFB.if_not (mW hsz) ?_
  first | refine wpAny_bind (wpAny_pure ?_) | skip
  show wpAny _ _ (updateSeq l (fun xs => xs.extract 0 ((a : Int)).toNat ++ new ++ xs.extract (max (a : Int) (c : Int)).toNat xs.size) >>= _) _ _ s
  rw [hmax, Int.toNat_natCast]
  refine wpAny_bind (wpAny_updateSeq (hz := Nat.le_trans (Nat.le_add_right _ _) hsz) (_hz' := hz') e rfl ?_)
  refine wpAny_bind (wpAny_letGo ?_)
  first
    | exact wpAny_bind (wpAny_pure (wpAny_pure ⟨.none, rfl, wpAny_pure h⟩))
    | exact wpAny_pure ⟨.none, rfl, wpAny_pure h⟩
end
end L2
namespace Att
open PySem PySem.W PySem.Calls PyProof.Rows
theorem jU {P:Params} {h:Heap}:∀ (ns:List Int) (vs:List Value),WellAll P h vs (ns.map WData.int)→IntsAre vs ns:=by
 intro ns
 induction ns with
 | nil=>
  intro vs w
  rw [List.map_nil] at w
  cases w
  exact .nil
 | cons n ns ih=>
  intro vs w
  rw [List.map_cons] at w
  cases w with
  | cons a b=>
   cases a
   exact .cons _ _ (ih _ b)
theorem rm {l:OpenLaw} {n:Nat} (hn:l.most=some n) {P:Params} {h:Heap} {args:List WData} {vals:List Value}
    (hpre:l.row.toRowW.claim.pre args=true) (hwl:WellAll P h vals args) :
    ∃ a vs ns,vals=[Value.ref a]∧args=[WData.list (ns.map WData.int)]∧h.get? a=some { cls:=.type "list",data:=.seq vs.toArray }∧IntsAre vs ns∧ns.length≤n:=by
  have hsh:WShape.hasAll [] args [.list .int]=true:=(pre_splitW hpre).1
  have hc:l.pre.holds [] { args:=args }=true:=(pre_splitW hpre).2
  obtain ⟨d,r,rfl,h1,h2⟩:=hasAllW_cons hsh
  obtain rfl:=hasAllW_nil h2
  obtain ⟨xs,rfl,h3⟩:=hasW_list h1
  obtain ⟨ns,rfl⟩:=items_int h3
  have hlen:ns.length≤n:=by
    unfold OpenLaw.pre at hc
    have h4:(WTm.not (.lt (.lit (.int (n:Int))) (.len (.arg 0)))).holds [] { args:=[.list (ns.map .int)] }=true:=by
      have h4:=(holds_andW hc).1
      rw [hn] at h4
      exact h4
    have h5:=condW_of h4 (w_not (w_lt w_lit (w_len_list (w_arg rfl))))
    rw [List.length_map] at h5
    refine Nat.le_of_not_lt fun q=>?_
    have q':(n:Int) < ((ns.length:Nat):Int):=by omega
    first
      | (rw [decide_eq_true q'] at h5;exact absurd h5 (by decide))
      | (simp at h5;omega)
  cases hwl with
  | cons w1 w2=>
    cases w2
    cases w1 with
    | list ho hall=>exact ⟨_,_,ns,rfl,rfl,ho,jU ns _ hall,hlen⟩
theorem qh (l:OpenLaw) (args:List WData):l.row.toRowW.claim.post args (.bool true) args=true:=
 postW_of (r:=l.row.toRowW) (X:=(true == true))
  (show WShape.has [] (.bool true) .bool=true by first | rfl | decide | simp [WShape.has,WShape.arms,WShape.armsAll])
  (show (WTm.eq .res (.lit (.bool true))).value [] { args:=args,res:=some (.bool true),after:=args }=some (.bool (true == true)) from w_eq_bool (w_res rfl) w_lit) rfl
theorem nC {l:OpenLaw} {n:Nat} {q:Program} {loose:List Str} {XP:(Str→Option Value)→Heap→Prop} {YP:World→Heap→Prop} {d:DefRec}
  (hn:l.most=some n) (hdf:d.params.defaults=[])
  (call:∀ (w:World) (s₀ s₁:Shared) (mg mb:Str→Option Value) (fa:Addr) (o:Obj) (pm cd doc:Value) (a:Addr) (vs:List Value) (ns:List Int),
   Ground q loose [] XP w s₀ mg mb s₁.heap→YP w s₁.heap →
   s₁.heap.get? fa=some o→o.data=.func (docDef d.name d.params d.body d.scope pm cd doc)→s₁.heap.CodeRec cd d.name→mg d.name=some (.ref fa) →
   s₁.heap.get? a=some { cls:=.type "list",data:=.seq vs.toArray }→IntsAre vs ns→ns.length≤n→s₁.gens=#[] →
   codeAny (model l.prog w) callerA (.call (.ref fa) ⟨[.ref a],[]⟩) (fun r s'=>r=.ok (.ret (.bool true))∧OldK s₁.heap s'.heap∧s'.os=s₁.os∧AllBare s'.gens) s₁) :
  WalkO q loose XP YP l.row.toRowW d [] (fun f vs=>PySem.call f vs):=by
 intro w s₀ s₁ mg mb G Y fa o pm cd doc dV kV ho hd hcd hD hmg hg args vals as hpre hlay hrd hwl hlo
 obtain rfl:dV=.none:=Dflts.none hD hdf
 obtain rfl:kV=.none:=Dflts.noKw hD
 obtain ⟨a,vs,ns,rfl,rfl,hobj,hints,hlen⟩:=rm hn hpre hwl
 refine enter_call (codeAny_mono (call w s₀ s₁ mg mb fa o pm cd doc a vs ns G Y ho (fd_plain hd) hcd hmg hobj hints hlen hg) fun r s' hq=>?_)
 obtain ⟨rfl,h2,h3,h4⟩:=hq
 exact ⟨.inl ⟨.bool true,.bool true,[],rfl,fun _=>rfl,.bool true,qh l _,fun _=>⟨List.Pairwise.nil,fun _ hm=>(nomatch hm)⟩⟩,h2,h3,h4⟩
end Att
namespace L2
open PySem PySem.Spec PyProof.Rows
theorem et:∀ {vs:List Value} {ns:List Int},IntsAre vs ns→Vals (ns.map V.int) vs
 | _,_,.nil=>.nil
 | _,_,.cons n t h=>.cons ⟨t,rfl⟩ (et h)
def sR (H:Hp):Prop:=∀ b,H b=none∨∃ o xs,H b=some (.frz o (.lst xs))
theorem se {P:Program} {w:World} {K:PySem.W.Frag} {mg mb:Str→Option Value} {CX:CXT} {k:Nat} {fa a:Addr} {fd:FuncData} {x:Str} {sp:Sp} {s₁:Shared} {vs:List Value} {ns:List Int}
  (KX:K.In s₁.heap) (hns:s₁.heap.Ns mainGlobals mg) (hb:s₁.heap.Ns builtinsNs mb) (hbb:∀ x:Str,x≠"__name__"→mb x=bootBuiltins x) (hlim:s₁.heap.NoLimit) (hg:s₁.gens=#[])
  (ha:s₁.heap.get? a=some { cls:=.type "list",data:=.seq vs.toArray }) (hi:IntsAre vs ns) (hl:ns.length≤sizeLine) (hr:bY k callerA)
  (F:∀ base:Heap,K.In base→base.Ns mainGlobals mg→dv P w K mg base CX k fa fd [x] sp) (hbind:∀ (s:Shared) (u:Value),BindsTo s fd ⟨[u],[]⟩ [(x,u)])
  (hsp:∀ H:Hp,sR H→SqL K H a (ns.map V.int)→sp [.ref a] H (fun v _=>v=.bl true) fun _ _ _=>False)
  (hCX:∀ H e s',CX [] H s₁ (fun _ _ _=>False) e s'→False) :
  codeAny (model P w) callerA (.call (.ref fa) ⟨[.ref a],[]⟩) (fun r s'=>r=.ok (.ret (.bool true))∧OldK s₁.heap s'.heap∧s'.os=s₁.os∧AllBare s'.gens) s₁:=by
 have rv:=et hi
 have lenV:=hi.length
 have core:∀ H:Hp,sR H→SqL K H a (ns.map V.int)→HOk P w H s₁.heap→(∀ b,H b≠none→b=a)→(H a≠none→K.lookup a=none) →
   codeAny (model P w) callerA (.call (.ref fa) ⟨[.ref a],[]⟩) (fun r s'=>r=.ok (.ret (.bool true))∧OldK s₁.heap s'.heap∧s'.os=s₁.os∧AllBare s'.gens) s₁:=by
  intro H hO hS hok hA hK
  have base_of:∀ {b:Addr} {o:Obj},s₁.heap.get? b=some o→H b=none→(gC s₁.heap H).get? b=some o:=fun e n=>tu e n
  have noA:∀ {b:Addr} {o:Obj} {es:Array DictEntry} {ep:Nat},s₁.heap.get? b=some o→o.data=.dict es ep→H b=none:=fun {b o es ep} e d=>by
   cases q:H b with
   | none=>rfl
   | some u=>
    have e':b=a:=hA b (by rw [q];simp)
    subst e'
    rw [ha] at e;cases e
    have d':Data.seq vs.toArray _=Data.dict es ep:=d
    cases d'
  have nsK:∀ {b:Addr} {m:Str→Option Value},s₁.heap.Ns b m→(gC s₁.heap H).Ns b m:=fun {b m} ⟨o,es,ep,e,d,r⟩=>⟨o,es,ep,base_of e (noA e d),d,r⟩
  have hKb:K.In (gC s₁.heap H):=fun b o e=>base_of (KX b o e) (by
   cases q:H b with
   | none=>rfl
   | some u=>
    have e':b=a:=hA b (by rw [q];simp)
    subst e'
    rw [hK (by rw [q];simp)] at e;cases e)
  have hM:Mod K mg (gC s₁.heap H):=⟨hKb,nsK hns,⟨mb,nsK hb,hbb⟩,let ⟨mc,h1,h2⟩:=hlim;⟨mc,nsK h1,h2⟩⟩
  have e0:oB P w K mg (gC s₁.heap H) callerA [] s₁ H:=⟨rfl,hM,fun b o e=>uY e,Nat.le_of_eq (qB _ _),trivial,fun b hb=>absurd (show b∈([]:List Addr) from hb) (by simp),hok,.of_eq hg⟩
  refine codeAny_mono ((F _ hKb (nsK hns)).run callerA [] s₁ H ⟨[.ref a],[]⟩ [.ref a] [.ref a] _ _ hr e0 (hbind s₁ (.ref a)) (.cons rfl .nil) (hsp H hO hS)) fun r s' h=>?_
  cases r with
  | error e=>exact (hCX H e s' h).elim
  | ok fl=>
   cases fl with
   | next=>exact False.elim h
   | brk=>exact False.elim h
   | cont=>exact False.elim h
   | ret u=>
    obtain ⟨v,H',os,bare,un,hok',r',q⟩:=h
    have q':v=.bl true:=q
    subst q'
    obtain rfl:u=Value.bool true:=r'
    refine ⟨rfl,OldK.of_keep fun b o e=>?_,os,bare⟩
    cases q:H b with
    | none=>exact un.keep b o e q (by intro z;exact absurd (show b∈([]:List Addr) from z) (by simp)) (by simp)
    | some u=>
     rcases hO b with z | ⟨ob,xs,z⟩
     ·rw [q] at z;cases z
     ·have z2:=un.frzs b ob _ z
      obtain ⟨e1,_⟩:=hok b _ z
      obtain ⟨e2,_⟩:=hok' b _ z2
      rw [e] at e1;cases e1
      exact e2
 cases hk:K.lookup a with
 | some o=>
  have e:=KX a o hk
  rw [ha] at e
  cases e
  refine core (fun _=>none) (fun _=>.inl rfl) (.inr ⟨_,vs.toArray,_,hk,rfl,rfl,rfl,by rw [List.size_toArray,lenV];exact hl,by simpa using rv⟩) (fun b u z=>by have z':(none:Option HO)=some u:=z;cases z') (fun b z=>absurd rfl z) fun z=>absurd rfl z
 | none=>
  refine core (fun b=>if b=a then some (.frz { cls:=.type "list",data:=.seq vs.toArray } (.lst (ns.map V.int))) else none) (fun b=>?_) (.inl (.inr ⟨{ cls:=.type "list",data:=.seq vs.toArray },if_pos rfl⟩)) (fun b u z=>?_) (fun b z=>?_) fun _=>hk
  ·by_cases hb:b=a
   ·exact .inr ⟨_,_,if_pos hb⟩
   ·exact .inl (if_neg hb)
  ·by_cases hb:b=a
   ·have z':=(if_pos hb).symm.trans z
    cases z'
    subst hb
    exact ⟨ha,by rw [List.length_map];exact hl,vs,_,rv,ha⟩
   ·have z':=(if_neg hb).symm.trans z
    cases z'
  ·by_cases hb:b=a
   ·exact hb
   ·exact absurd (if_neg hb) z
theorem vw {l:PySem.W.OpenLaw} {n k:Nat} {q:Program} {loose:List Str} {XP:(Str→Option Value)→Heap→Prop} {YP:World→Heap→Prop} {d:DefRec} {K:Params→PySem.W.Frag} {CX:World→CXT} {sp:World→Sp} {x:Str}
  (hn:l.most=some n) (hn2:n≤sizeLine) (hdf:d.params.defaults=[]) (hr:bY k callerA)
  (hY:∀ (w:World) (h:Heap),YP w h→(K w.params).In h)
  (F:∀ (w:World) (mg:Str→Option Value) (fa:Addr) (h:Heap),(K w.params).In h→h.Ns mainGlobals mg→mg d.name=some (.ref fa) →
   ∃ fd:FuncData,(∀ (s:Shared) (u:Value),BindsTo s fd ⟨[u],[]⟩ [(x,u)]) ∧
    ∀ base:Heap,(K w.params).In base→base.Ns mainGlobals mg→dv l.prog w (K w.params) mg base (CX w) k fa fd [x] (sp w))
  (hsp:∀ (w:World) (H:Hp) (a:Addr) (ns:List Int),ns.length≤n→sR H→SqL (K w.params) H a (ns.map V.int)→sp w [.ref a] H (fun v _=>v=.bl true) fun _ _ _=>False)
  (hCX:∀ (w:World) (H:Hp) (s:Shared) (e:Value) (s':Shared),CX w [] H s (fun _ _ _=>False) e s'→False) :
  PySem.W.WalkO q loose XP YP l.row.toRowW d [] (fun f vs=>PySem.call f vs):=by
 refine Att.nC hn hdf fun w s₀ s₁ mg mb fa o pm cd doc a vs ns G Y ho hd hcd hmg hobj hints hlen hg=>?_
 have KX:=hY w _ Y
 obtain ⟨fd,hb,hF⟩:=F w mg fa _ KX G.T.g hmg
 exact se KX G.T.g G.T.b G.T.builtins G.T.nolimit hg hobj hints (Nat.le_trans hlen hn2) hr hF hb (fun H hO hS=>hsp w H a ns hlen hO hS) fun H e s'=>hCX w H s₁ e s'
def eY (s:Stmt):Arguments:=match s with
 | .FunctionDef _ a _ _ _ _ _ _ _ _=>a
 | _=>{ posonlyargs:=[],args:=[],vararg:=none,kwonlyargs:=[],kw_defaults:=[],kwarg:=none,defaults:=[] }
def cm (s:Stmt):List Stmt:=match s with
 | .FunctionDef _ _ b _ _ _ _ _ _ _=>b
 | _=>[]
def aQ (s:Stmt):Scope:=match s with
 | .FunctionDef _ _ _ _ _ _ sc _ _ _=>sc
 | _=>{ kind:=.function,names:=[],isGenerator:=false,isCoroutine:=false }
abbrev CX0:CXT:=fun _ _ _ _ _ _=>False
abbrev E0:XK:=fun _ _ _=>False
theorem BE {X:Cx}:Passes CX0 X E0:=fun _ _ _ _ _ _ _ h=>h.elim
structure Fun (K:PySem.W.Frag) (x qual:Str) (st:Stmt) (f:Addr) (fd:FuncData):Prop where
 ex:∃ (oc:Value) (od:Option Addr) (kV doc pm:Value) (an:Option Addr) (cdv ct:Value) (osl:Array (Option Value)),
  fd=PySem.W.fnOf x qual (eY st) (cm st) (aQ st) .none kV doc pm an cdv ct∧K.lookup f=some ⟨oc,od,.func fd,osl⟩∧PySem.W.codeIn K cdv qual=true
 kp:PySem.W.keepIn K (.ref f)=true
section
variable {P:Program} {w:World} {K:PySem.W.Frag} {mg:Str→Option Value} {base:Heap}
theorem Fun.ok {x qual:Str} {st:Stmt} {f:Addr} {fd:FuncData} {N ps:List Str} {k:Nat} {sp:Sp} (F:Fun K x qual st f fd) (S:d_ N ps (aQ st)) (len:∀ vs H Q E,sp vs H Q E→vs.length=ps.length)
  (hbody:∀ (cdv:Value) (A:Around) (outer:List Env) (s:Shared) (H:Hp) (vs:List V) (Q:VK) (E:XK),bY k (A.deeper (envOfC qual (aQ st) s.heap.objs.size f cdv))→sp vs H Q E →
   ∃ t,PSs (dr CX0 P w K mg base N qual (aQ st) f cdv A outer s H E).nox (cm st) t∧t { nx:=fun _ H'=>Q .non H',rt:=Q } (start N vs) H):dv P w K mg base CX0 (k+1) f fd ps sp:=by
 obtain ⟨oc,od,kV,doc,pm,an,cdv,ct,osl,rfl,lk,hcd⟩:=F.ex
 refine uh lk hcd S len fun A outer s H vs Q E hr hsp=>?_
 obtain ⟨t,h,q⟩:=hbody cdv A outer s H vs Q E hr hsp
 exact ⟨t,h.nox,q⟩
theorem yd {x qual:Str} {st:Stmt} {f:Addr} {oc:Value} {od an:Option Addr} {osl:Array (Option Value)} {kV doc pm cdv ct:Value} (l:K.lookup f=some ⟨oc,od,.func (PySem.W.fnOf x qual (eY st) (cm st) (aQ st) .none kV doc pm an cdv ct),osl⟩)
  (c:PySem.W.codeIn K cdv qual=true) (k:PySem.W.keepIn K (.ref f)=true):Fun K x qual st f (PySem.W.fnOf x qual (eY st) (cm st) (aQ st) .none kV doc pm an cdv ct):=⟨⟨oc,od,kV,doc,pm,an,cdv,ct,osl,rfl,l,c⟩,k⟩
end
theorem dw {n:Nat} (h:n≤1000):n < sizeLine:=Nat.lt_of_le_of_lt h (by decide)
def cP (H H':Hp):Prop:=∀ b o,H b=some o→H' b=some o
def fq (env:Env):List (Str×NameKind)→List (Str×Addr)→List (Str×Addr)
 | [],acc=>acc
 | (n,k) :: r,acc=>fq env r (if k == .free then (n,(env.cells.lookup n).getD 0) :: acc else acc)
theorem jY {scope:Scope} {env:Env} (h:∀ y∈scope.names,y.2=.free→∃ c,env.cells.lookup y.1=some c):closureFor scope env=pure (fq env scope.names []):=by
 have all:∀ (l:List (Str×NameKind)) (acc:List (Str×Addr)),(∀ y∈l,y.2=.free→∃ c,env.cells.lookup y.1=some c) →
   (forIn l acc fun (x:Str×NameKind) (r:List (Str×Addr))=>match x with
    | (name,kind)=>if (kind == NameKind.free)=true then (do let a ← cellOf env name;pure (ForInStep.yield ((name,a) :: r))) else pure (ForInStep.yield r):Sem (List (Str×Addr)))=pure (fq env l acc):=by
  intro l
  induction l with
  | nil=>intro acc _;rfl
  | cons y r ih=>
   intro acc hl
   obtain ⟨n,k⟩:=y
   have hr:∀ y∈r,y.2=.free→∃ c,env.cells.lookup y.1=some c:=fun y hy=>hl y (List.mem_cons_of_mem _ hy)
   rw [List.forIn_cons]
   by_cases hk:k=.free
   ·subst hk
    obtain ⟨c,hc⟩:=hl _ List.mem_cons_self rfl
    have e:cellOf env n=pure c:=by unfold cellOf;rw [show env.cells.lookup n=some c from hc]
    simp only [beq_self_eq_true,if_true,e,pure_bind]
    rw [ih _ hr]
    simp only [fq,beq_self_eq_true,if_true,show env.cells.lookup n=some c from hc,Option.getD_some]
   ·have hb:(k == NameKind.free)=false:=by simpa using hk
    simp only [hb,Bool.false_eq_true,if_false,pure_bind]
    rw [ih _ hr]
    simp only [fq,hb,Bool.false_eq_true,if_false]
 have q:=all scope.names [] h
 unfold closureFor
 simp only [bind_pure] at q ⊢
 exact q
theorem lX {env:Env}:∀ {l:List (Str×NameKind)} {acc:List (Str×Addr)} {x:Str} {c:Addr},(∀ y∈l,y.2=.free→∃ c,env.cells.lookup y.1=some c) →
  (∀ x c,(x,c)∈acc→env.cells.lookup x=some c)→(x,c)∈fq env l acc→env.cells.lookup x=some c
 | [],_,_,_,_,ha,h=>ha _ _ h
 | (n,k) :: r,acc,x,c,hl,ha,h=>by
  refine lX (l:=r) (fun y hy=>hl y (List.mem_cons_of_mem _ hy)) (fun x c hm=>?_) h
  by_cases hk:(k == NameKind.free)=true
  ·rw [if_pos hk] at hm
   rcases List.mem_cons.mp hm with e | e
   ·cases e
    obtain ⟨c',hc⟩:=hl _ List.mem_cons_self (by simpa using hk)
    have hc':env.cells.lookup n=some c':=hc
    rw [hc'];rfl
   ·exact ha _ _ e
  ·rw [if_neg hk] at hm;exact ha _ _ hm
theorem cS {env:Env} {l:List (Str×NameKind)} {x:Str} {c:Addr} (hl:∀ y∈l,y.2=.free→∃ c,env.cells.lookup y.1=some c) (h:(fq env l []).lookup x=some c):env.cells.lookup x=some c:=
 lX hl (fun _ _ z=>absurd z (by simp)) (PySem.mem_of_lookup h)
theorem jl {env:Env}:∀ {l:List (Str×NameKind)} {acc:List (Str×Addr)} {x:Str},((x,NameKind.free)∈l∨∃ c,(x,c)∈acc)→∃ c,(x,c)∈fq env l acc
 | [],_,_,h=>h.elim (fun z=>absurd z (by simp)) fun z=>z
 | (n,k) :: r,acc,x,h=>by
  refine jl (l:=r) ?_
  rcases h with h | ⟨c,h⟩
  ·rcases List.mem_cons.mp h with e | e
   ·cases e
    exact .inr ⟨_,by rw [if_pos (by simp)];exact List.mem_cons_self⟩
   ·exact .inl e
  ·by_cases hk:(k == NameKind.free)=true
   ·exact .inr ⟨c,by rw [if_pos hk];exact List.mem_cons_of_mem _ h⟩
   ·exact .inr ⟨c,by rw [if_neg hk];exact h⟩
theorem c7 {β:Type}:∀ {l:List (Str×β)} {x:Str} {c:β},(x,c)∈l→∃ c',l.lookup x=some c'
 | [],_,_,h=>nomatch h
 | (n,d) :: r,x,c,h=>by
  rw [List.lookup_cons]
  cases e:x == n with
  | true=>exact ⟨d,rfl⟩
  | false=>
   rcases List.mem_cons.mp h with q | q
   ·cases q;simp at e
   ·exact c7 q
def cv (X:Cx) (scope:Scope) (N:List Str) (C:Addr) (s:Shared) (H:Hp) (fp:List Addr):Cx:=
 { X with N:=N,s₀:=s,H₀:=H,env:=compEnvC scope (fq X.env scope.names []) C X.env,outer:=X.stack,ex:=fp,fn:=fun _=>false,pn:=[],xe:=fun _ _=>False }
structure eV (esc scope:Scope) (EN N:List Str) (k:Nat):Prop where
 kind:scope.kind=.function
 nocell:∀ y∈scope.names,y.2≠.cell
 names:∀ y∈scope.names,y.2=.local→scope.names.lookup y.1=some .local
 frees:∀ y∈scope.names,y.2=.free→esc.names.lookup y.1=some .cell∨esc.names.lookup y.1=some .free
 len:N.length=k+EN.length
 nm:(((N.drop k).zip EN).all fun p=>(decide (p.1=p.2) && decide (scope.names.lookup p.1=some .free)) || decide (scope.names.lookup p.1=none))=true
theorem bX {scope:Scope} {env:Env} {x:Str} {k:NameKind}:∀ {l:List (Str×NameKind)},
  (l.map fun (n,k)=>if (k == NameKind.free && env.scope.kind == .function && env.kindOf n == some .cell) then (n,NameKind.cell) else (n,k)).lookup x=some k →
  l.lookup x=some k∨(l.lookup x=some .free∧k=.cell∧env.kindOf x=some .cell)
 | [],h=>by simp at h
 | (n,k') :: r,h=>by
  have ih:=@bX scope env x k r
  cases hx:x == n with
  | true=>
   have e:x=n:=by simpa using hx
   subst e
   by_cases hc:(k' == NameKind.free && env.scope.kind == .function && env.kindOf x == some .cell)=true
   ·simp only [List.map_cons,if_pos hc,List.lookup_cons,hx] at h
    cases h
    have hc2:(k'=.free∧env.scope.kind=.function)∧env.kindOf x=some .cell:=by simpa using hc
    exact .inr ⟨by simp [List.lookup_cons,hc2.1.1],rfl,hc2.2⟩
   ·simp only [List.map_cons,if_neg hc,List.lookup_cons,hx] at h
    exact .inl (by simpa [List.lookup_cons] using h)
  | false=>
   have h':(r.map fun (n,k)=>if (k == NameKind.free && env.scope.kind == .function && env.kindOf n == some .cell) then (n,NameKind.cell) else (n,k)).lookup x=some k:=by
    by_cases hc:(k' == NameKind.free && env.scope.kind == .function && env.kindOf n == some .cell)=true
    ·simpa only [List.map_cons,if_pos hc,List.lookup_cons,hx] using h
    ·simpa only [List.map_cons,if_neg hc,List.lookup_cons,hx] using h
   rw [List.lookup_cons,hx]
   exact ih h'
theorem iM {scope:Scope} {env:Env} {x:Str}:∀ {l:List (Str×NameKind)},l.lookup x=some .free →
  (l.map fun (n,k)=>if (k == NameKind.free && env.scope.kind == .function && env.kindOf n == some .cell) then (n,NameKind.cell) else (n,k)).lookup x=some .cell ∨
  (l.map fun (n,k)=>if (k == NameKind.free && env.scope.kind == .function && env.kindOf n == some .cell) then (n,NameKind.cell) else (n,k)).lookup x=some .free
 | [],h=>by simp at h
 | (n,k') :: r,h=>by
  have ih:=@iM scope env x r
  cases hx:x == n with
  | true=>
   by_cases hc:(k' == NameKind.free && env.scope.kind == .function && env.kindOf n == some .cell)=true
   ·exact .inl (by simp only [List.map_cons,if_pos hc,List.lookup_cons,hx])
   ·refine .inr ?_
    simp only [List.map_cons,if_neg hc,List.lookup_cons,hx]
    simpa only [List.lookup_cons,hx] using h
  | false=>
   have h':r.lookup x=some .free:=by simpa only [List.lookup_cons,hx] using h
   by_cases hc:(k' == NameKind.free && env.scope.kind == .function && env.kindOf n == some .cell)=true
   ·simpa only [List.map_cons,if_pos hc,List.lookup_cons,hx] using ih h'
   ·simpa only [List.map_cons,if_neg hc,List.lookup_cons,hx] using ih h'
section
variable {X:Cx} {pins:List (Addr×Obj)} {σ:St} {H:Hp} {s:Shared} {scope:Scope} {N:List Str} {k:Nat} {fp:List Addr}
theorem eV.cells (S:eV X.env.scope scope X.N N k) (ok:X.Ok):∀ y∈scope.names,y.2=.free→∃ c,X.env.cells.lookup y.1=some c:=fun y hy hf=>ok.has y.1 (S.frees y hy hf)
theorem Inv.v7 {h4:Heap} {tk:Nat} (I:Inv X pins σ H s) (S:eV X.env.scope scope X.N N k) (hf:∀ b∈fp,d9 X pins H b) (hlt:∀ b∈fp,b < s.heap.objs.size) (hn:h4.Ns s.heap.objs.size fun _=>none) (hk:∀ b o,s.heap.get? b=some o→h4.get? b=some o) :
  Inv (cv X scope N s.heap.objs.size s H fp) [] (List.replicate k none++σ) H { s with heap:=h4,toks:=tk }:=by
 have hcells:=S.cells I.ok
 have noA:∀ p:Addr×Obj,p∈(cv X scope N s.heap.objs.size s H fp).pn++[]→False:=fun p hp=>absurd (show p∈([]:List (Addr×Obj)) from hp) (by simp)
 refine ⟨⟨I.ok.mod,S.kind,I.ok.glob,I.ok.blt,Nat.le_refl _,fun y z c h1 h2=>?_,fun y hy=>?_,fun y c h=>?_,I.ok.hd,I.ok.frames,.inl rfl,fun b hb=>?_,I.bs,Nat.le_trans I.ok.bsz I.sz,fun b o e hb=>?_,fun b hb hz=>?_,I.stack,I.ku⟩,
  rfl,I.bare,Un.kept hk,⟨_,hn,fun i y v h1 h2 h3=>?_⟩,fun y c h=>?_,I.hok.fresh (Nat.le_refl _),fun y c h=>?_,fun p hp=>(noA p hp).elim,I.hok.kept hk,?_⟩
 ·exact I.ok.inj y z c (cS hcells h1) (cS hcells h2)
 ·have hy:(relabel scope X.env).names.lookup y=some .cell∨(relabel scope X.env).names.lookup y=some .free:=hy
  have hfree:scope.names.lookup y=some .free:=by
   rcases hy with q | q
   ·rcases bX (scope:=scope) q with q | ⟨q,_⟩
    ·exact absurd rfl (S.nocell _ (PySem.mem_of_lookup q))
    ·exact q
   ·rcases bX (scope:=scope) q with q | ⟨q,z,_⟩
    ·exact q
    ·cases z
  obtain ⟨c,hc⟩:=jl (env:=X.env) (l:=scope.names) (acc:=[]) (.inl (PySem.mem_of_lookup hfree))
  exact c7 hc
 ·exact absurd h (by show ¬(false=true);decide)
 ·obtain ⟨f0,f1,f2,f3,f4,f5⟩:=hf b hb
  exact ⟨Nat.ne_of_lt (hlt b hb),fun x c h=>f4 x c (cS hcells h)⟩
 ·obtain ⟨f0,f1,f2,f3,f4,f5⟩:=hf b hb
  rcases f3 with q | q
  ·exact I.ok.noex b o e q
  ·exact absurd (Nat.lt_of_lt_of_le (Heap.lt_size (I.ok.bs b o e).1) q) (Nat.lt_irrefl _)
 ·obtain ⟨f0,f1,f2,f3,f4,f5⟩:=hf b hb
  rcases List.mem_cons.mp (I.gi b hz) with z | z
  ·exact f1 z
  ·exact f2 z
 ·
  have hi:k≤i:=by
   refine Nat.le_of_not_lt fun q=>?_
   rw [List.getElem?_append_left (by simpa using q),List.getElem?_replicate] at h2
   split at h2<;>cases h2
  obtain ⟨j,rfl⟩:=Nat.exists_eq_add_of_le hi
  have h2':σ[j]?=some (some v):=by
   rw [List.getElem?_append_right (by simp)] at h2
   simpa using h2
  have hy:(relabel scope X.env).names.lookup y=some .local∨(relabel scope X.env).names.lookup y=some .cell∨(relabel scope X.env).names.lookup y=some .free:=h3
  have hjn:j < X.N.length:=by
   have:=(List.getElem?_eq_some_iff.mp h2').1
   rw [I.len] at this
   exact this
  have hyn:N[k+j]?=some y:=h1
  have hnm:=List.all_eq_true.mp S.nm (y,X.N[j]) (by
   refine List.mem_iff_getElem?.mpr ⟨j,?_⟩
   rw [List.getElem?_zip_eq_some]
   exact ⟨by rw [List.getElem?_drop];exact hyn,by simp [hjn]⟩)
  have hvis:scope.names.lookup y≠none:=by
   rcases hy with q | q | q
   ·rcases bX (scope:=scope) q with q | ⟨q,_⟩<;>rw [q]<;>simp
   ·rcases bX (scope:=scope) q with q | ⟨q,_⟩<;>rw [q]<;>simp
   ·rcases bX (scope:=scope) q with q | ⟨q,_⟩<;>rw [q]<;>simp
  have hnm2:y=X.N[j]∧scope.names.lookup y=some .free:=by
   rcases (Bool.or_eq_true _ _).mp hnm with q | q
   ·exact ⟨of_decide_eq_true ((Bool.and_eq_true _ _).mp q).1,of_decide_eq_true ((Bool.and_eq_true _ _).mp q).2⟩
   ·exact absurd (of_decide_eq_true q) hvis
  obtain ⟨hyj,hfree⟩:=hnm2
  have hk2:=S.frees _ (PySem.mem_of_lookup hfree) rfl
  have hvis2:Vis X.env.scope y:=.inr hk2
  obtain ⟨m,hm,hl⟩:=I.loc
  obtain ⟨u,ru,lk⟩:=hl j y v (by rw [hyj];simp [hjn]) h2' hvis2
  refine ⟨u,ru,?_⟩
  rcases lk with ⟨q,_⟩ | ⟨_,c,hc,hcell⟩
  ·rcases hk2 with z | z
   ·exact absurd (q.symm.trans (show X.env.kindOf y=some .cell from z)) (by simp)
   ·exact absurd (q.symm.trans (show X.env.kindOf y=some .free from z)) (by simp)
  ·refine .inr ⟨iM (scope:=scope) hfree,c,?_,hcell.keeps hk⟩
   obtain ⟨c',hc'⟩:=jl (env:=X.env) (l:=scope.names) (acc:=[]) (.inl (PySem.mem_of_lookup hfree))
   obtain ⟨c2,hc2⟩:=c7 hc'
   have q:=cS hcells hc2
   rw [hc] at q;cases q
   exact hc2
 ·obtain ⟨v,q⟩:=I.cell y c (cS hcells h)
  exact ⟨v,q.keeps hk⟩
 ·exact I.freeC y c (cS hcells h)
 ·show (List.replicate k none++σ).length=N.length
  rw [List.length_append,List.length_replicate,S.len,I.len]
end
section
variable {prog:Program} {w:World} {A:Around} {R:Result→Shared→Prop} {s:Shared}
theorem eX {env:Env} {R:Value→Shared→Prop}:∀ (x:Value) (s':Shared),False→notedBy (model prog w) A env R x s':=fun _ _ h=>h.elim
theorem mH {elt target iter:Expr} {ifs:List Expr} {scope:Scope} {pos:Pos} {it acc:Value} {env:Env} (I:Nat→Shared→Prop)
  (turn:∀ n s,I n s→wpAny (model prog w) A (pyNext it) (fun r s₁=>match r with
   | none=>R (.ok .next) s₁
   | some v=>wpAny (model prog w) A (letOwnedTupleGo target it v) (fun _ s₁'=>wpAny (model prog w) A (assign target env v) (fun _ s₂=>
     wpAny (model prog w) A (forIn ifs true fun c r=>if r=true then do let ok ← isTrue c env (eval c env);pure (ForInStep.yield ok) else pure (ForInStep.yield r)) (fun ok s₃=>
      if ok=true then wpAny (model prog w) A (eval elt env) (fun x s₄=>
       wpAny (model prog w) A (call (.builtin "list.append") [acc,x]) (fun _ s₅=>∃ m,m < n∧I m s₅) (fun _ _=>False) s₄) (fun _ _=>False) s₃
      else ∃ m,m < n∧I m s₃) (fun _ _=>False) s₂) (fun _ _=>False) s₁') (fun _ _=>False) s₁) (fun _ _=>False) s)
  (n:Nat) (h:I n s) :
  codeAny (model prog w) A (.compLoop (.ListComp elt [⟨target,iter,ifs,0⟩] scope pos) 0 it acc env) R s:=by
 refine codeAny_loop rfl I (fun n s hI=>?_) n h
 show wpAny _ A ((compTurn (.ListComp elt [⟨target,iter,ifs,0⟩] scope pos) 0 it acc env).onRaise (fun x=>do noteFrame x env;theTreesLotGoes x)) _ _ s
 refine wpAny_noted ?_
 rw [compTurn_list]
 refine wpAny_bind (wpAny_standAt (wpAny_bind (wpAny_mono (turn n s hI) (fun r s₁ h₁=>?_) eX)))
 cases r with
 | none=>exact wpAny_pure h₁
 | some v=>
  refine wpAny_bind (wpAny_mono h₁ (fun _ s₁' h₁'=>?_) eX)
  refine wpAny_bind (wpAny_mono h₁' (fun _ s₂ h₂=>wpAny_bind (wpAny_mono h₂ (fun ok s₃ h₃=>?_) eX)) eX)
  cases ok with
  | false=>exact wpAny_pure ⟨rfl,h₃⟩
  | true=>
   exact wpAny_bind (wpAny_bind (wpAny_mono h₃ (fun x s₄ h₄=>wpAny_bind (wpAny_mono h₄ (fun _ s₅ h₅=>wpAny_pure (wpAny_pure ⟨rfl,h₅⟩)) eX)) eX))
end
def PTs (X:Cx) (ifs:List Expr) (t:TT):Prop:=
 ∀ (pins:List (Addr×Obj)) (s:Shared) (σ:St) (H:Hp) (Q:Bool→Hp→Prop),Inv X pins σ H s→t σ H Q →
  wpAny (model X.prog X.w) X.A (forIn ifs true fun c r=>if r=true then do let ok ← isTrue c X.env (eval c X.env);pure (ForInStep.yield ok) else pure (ForInStep.yield r)) (TP X pins σ Q) X.xe s
def BW:TT:=fun _ H Q=>Q true H
theorem ve {X:Cx}:PTs X [] BW:=fun _ _ _ H _ I h=>wpAny_tests_nil ⟨H,I,h⟩
theorem u7 {X:Cx} {c:Expr} {t:TT} (h:PT X c t):PTs X [c] t:=fun pins s σ H Q I q=>wpAny_tests_one (h pins s σ H Q I q)
def LCW (J:It) (g:TG) (tt:TT) (te:TE) (k:Nat) (D:Addr) (σ:St) (H1:Hp) (Q:Hp→Prop):Prop:=
 ∃ W:Nat→Nat→St→Hp→Prop,(∃ m,W 0 m (List.replicate k none++σ) (upd H1 D (.lst [])))∧∀ i m σ' H',W i m σ' H' →
  (J.stop i H'∧Q H')∨(J.go i H'∧∃ N:St→Hp→Prop,(∀ σ2 H2,N σ2 H2→∃ m',m' < m∧W (i+1) m' σ2 H2) ∧
   ∀ x H2,J.yld i H' x H2→g x σ' H2 fun σ3 H3=>tt σ3 H3 fun b H4=>if b=true then te σ3 H4 fun v H5=>∃ xs,H5 D=some (.lst xs)∧xs.length < sizeLine∧N σ3 (upd H5 D (.lst (xs++[v]))) else N σ3 H4)
def tLC (wi:TI) (g:TG) (tt:TT) (te:TE) (k:Nat):TE:=fun σ H Q=>wi σ H fun J H1=>∀ D,H1 D=none→LCW J g tt te k D σ H1 fun H2=>Q (.ref D) H2
section
variable {X:Cx} {tg elt iter:Expr} {ifs:List Expr} {scope:Scope} {pos:Pos} {wi:TI} {g:TG} {tt:TT} {te:TE} {N:List Str} {k:Nat}
theorem tq {pins:List (Addr×Obj)} {σ:St} {H2:Hp} {s2:Shared} {it:Addr} {fp:List Addr} {tn:Nat→Heap→Prop} {J:It} {E:Value→Shared→Prop} {QD:Addr→Hp→Prop} {RR:Value→Addr→Result→Shared→Prop}
  (hc:X.calm=true) (S:eV X.env.scope scope X.N N k) (hg:∀ C s H fp,PG (cv X scope N C s H fp) tg g) (ht:∀ C s H fp,PTs (cv X scope N C s H fp) ifs tt) (he:∀ C s H fp,PE (cv X scope N C s H fp) elt te)
  (I2:Inv X pins σ H2 s2) (T:Turn X.prog X.w X.K tg J fp it tn) (st2:tn 0 s2.heap) (f2:∀ b∈fp,d9 X pins H2 b) (q:∀ D,H2 D=none→LCW J g tt te k D σ H2 (QD D))
  (hRR:∀ (D C:Addr) (s':Shared) (H':Hp) (m:Str→Option Value),s2.heap.objs.size < C→Inv X pins σ H' s'→s'.heap.Ns C m→H' C=none→C≠X.env.locals→C∉X.fs→X.s₀.heap.objs.size≤C→(∀ x c,X.env.cells.lookup x=some c→c≠C)→(∀ p∈X.pn++pins,p.1≠C)→QD D H'→RR (.ref D) C (.ok .next) s') :
  wpAny (model X.prog X.w) X.A (newList []) (fun acc s₃=>wpAny (model X.prog X.w) X.A (newFunctionEnv scope X.env.globals (fq X.env scope.names []) [] X.env.qual none .none (some X.env)) (fun cenv s₄=>
   codeAny (model X.prog X.w) X.A (.compStart (.ListComp elt [⟨tg,iter,ifs,0⟩] scope pos) 0 (.ref it) acc { cenv with scope:=relabel scope X.env }) (RR acc cenv.locals) s₄) E s₃) E s2:=by
 have hD:H2 s2.heap.objs.size=none:=I2.hok.fresh (Nat.le_refl _)
 obtain ⟨W,⟨m0,w0⟩,turn⟩:=q _ hD
 refine wpAny_newObj_type ?_
 have I3:Inv X pins σ (upd H2 s2.heap.objs.size (.lst [])) { s2 with heap:=s2.heap.push { cls:=.type "list",dict:=none,data:=.seq ([]:List Value).toArray } }:=by
  refine I2.laid (t':=s2.toks) (fun b u e=>Heap.get?_push_of_some _ e) (Nat.le_refl _) ?_
  exact ⟨Nat.zero_le _,[],0,.nil,Heap.get?_push_size _ rfl⟩
 have k3:∀ b o,s2.heap.get? b=some o→(s2.heap.push { cls:=.type "list",dict:=none,data:=.seq ([]:List Value).toArray }).get? b=some o:=fun b o e=>Heap.get?_push_of_some _ e
 generalize hs3:({ s2 with heap:=s2.heap.push { cls:=.type "list",dict:=none,data:=.seq ([]:List Value).toArray } }:Shared)=s3 at I3 ⊢
 have hsz:s3.heap.objs.size=s2.heap.objs.size+1:=by rw [← hs3];exact Heap.size_push ..
 have k3':∀ b o,s2.heap.get? b=some o→s3.heap.get? b=some o:=by rw [← hs3];exact k3
 generalize hDe:s2.heap.objs.size=D at *
 have fpD:∀ b∈fp,b < D:=fun b hb=>by
  obtain ⟨o,e,_⟩:=T.obj _ _ st2 b hb
  rw [← hDe];exact Heap.lt_size e
 have f3:∀ b∈fp,d9 X pins (upd H2 D (.lst [])) b:=fun b hb=>by
  refine ⟨?_,(f2 b hb).2⟩
  rw [aB (Nat.ne_of_lt (fpD b hb))]
  exact (f2 b hb).1
 refine wpAny_newFunctionEnv S.nocell (by intro y hy;simp at hy) (fun h4 hn4 hs4=>?_) S.kind
 try dsimp only at hn4 hs4 ⊢
 have k4:∀ b o,s3.heap.get? b=some o→h4.get? b=some o:=fun b o e=>hs4.extBut b o (Nat.ne_of_lt (Heap.lt_size e)) (Heap.get?_push_of_some _ e)
 have I4:=I3.v7 (h4:=h4) (tk:=s3.toks+0) S f3 (fun b hb=>by rw [hsz];exact Nat.lt_succ_of_lt (fpD b hb)) hn4 k4
 have st4:tn 0 h4:=T.keep _ _ _ st2 fun b hb o e=>k4 b o (k3' b o e)
 have fr4:∀ b∈fp,(upd H2 D (.lst [])) b=none:=fun b hb=>(f3 b hb).1
 generalize hC:s3.heap.objs.size=C at *
 have hX:∀ (H':Hp),(∀ b∈fp,H' b=none)→∀ b∈fp,d9 (cv X scope N C s3 (upd H2 D (.lst [])) fp) [] H' b:=fun H' hn b hb=>by
  obtain ⟨g0,g1,g2,g3,g4,g5⟩:=f3 b hb
  refine ⟨hn b hb,?_,?_,.inl hb,?_,fun p hp=>absurd (show p∈([]:List (Addr×Obj)) from hp) (by simp)⟩
  ·exact Nat.ne_of_lt (Nat.lt_of_lt_of_eq (Nat.lt_succ_of_lt (fpD b hb)) hsz.symm)
  ·intro z
   rcases List.mem_cons.mp (I3.gi b z) with z | z
   ·exact g1 z
   ·exact g2 z
  ·intro x c h
   exact g4 x c (cS (S.cells I3.ok) h)
 have fin:∀ (s':Shared) (σ':St) (H':Hp),Inv (cv X scope N C s3 (upd H2 D (.lst [])) fp) [] σ' H' s'→QD D H'→RR (.ref D) C (.ok .next) s':=by
  intro s' σ' H' I' qd
  obtain ⟨m,hm,_⟩:=id I'.loc
  have IX:Inv X pins σ H' s':=by
   refine I3.ur (s':=s') (ch:=fp) I'.os I'.base I'.hok I'.bare fun b hb=>?_
   obtain ⟨g0,g1,g2,g3,g4,g5⟩:=f3 b hb
   exact ⟨g3,g1,g4,g5⟩
  have hlt:=I3.lt
  rw [hC] at hlt
  refine hRR D C s' H' m (Nat.lt_of_lt_of_eq (Nat.lt_succ_self D) hsz.symm) IX hm I'.free (Nat.ne_of_gt hlt) (I3.yv (Nat.le_of_eq hC)) (Nat.le_trans I3.sz (Nat.le_of_eq hC)) (fun x c e z=>?_) (fun p hp z=>?_) qd
  ·obtain ⟨v,hv⟩:=I3.cell x c e
   have q:=hv.lt
   rw [hC,z] at q
   exact Nat.lt_irrefl _ q
  ·have q:=Heap.lt_size (I3.pin p hp).1
   rw [hC,z] at q
   exact Nat.lt_irrefl _ q
 have loop:∀ s₀:Shared,s₀={ s3 with heap:=h4,toks:=s3.toks+([]:List (Str×Value)).length } →
   codeAny (model X.prog X.w) X.A (.compLoop (.ListComp elt [⟨tg,iter,ifs,0⟩] scope pos) 0 (.ref it) (.ref D) (compEnvC scope (fq X.env scope.names []) C X.env)) (RR (.ref D) C) s₀:=by
  rintro s₀ rfl
  refine mH (fun n s'=>∃ i σ' H',Inv (cv X scope N C s3 (upd H2 D (.lst [])) fp) [] σ' H' s'∧tn i s'.heap∧(∀ b∈fp,H' b=none)∧W i n σ' H') ?_ m0 ⟨0,_,_,I4,st4,fr4,w0⟩
  rintro n s5 ⟨i,σ5,H5,I5,st5,fr5,w5⟩
  rcases turn i n σ5 H5 w5 with ⟨stop,qn⟩ | ⟨go,NN,hN,step⟩
  ·refine thn (T.done (cv X scope N C s3 (upd H2 D (.lst [])) fp) rfl rfl rfl hc i [] s5 σ5 H5 _ I5 (hX _ fr5) st5 stop) fun r s6 ⟨hr,I6⟩=>?_
   subst hr
   exact fin s6 σ5 H5 I6 qn
  ·refine thn (T.item (cv X scope N C s3 (upd H2 D (.lst [])) fp) rfl rfl rfl hc i [] s5 σ5 H5 _ I5 (hX _ fr5) st5 go) fun r s6 ⟨u,hr,h6⟩=>?_
   subst hr
   refine thn h6 fun _ s7 ⟨x,H7,I7,r7,y7,st7,fr7⟩=>?_
   have I7':=I7.pinned (hX _ fr7) (T.obj _ _ st7)
   have back:∀ {s9:Shared} {σ9:St} {H9:Hp},Inv (cv X scope N C s3 (upd H2 D (.lst [])) fp) ([]++iE fp s7.heap) σ9 H9 s9→NN σ9 H9→∃ m,m < n∧∃ i σ' H',Inv (cv X scope N C s3 (upd H2 D (.lst [])) fp) [] σ' H' s9∧tn i s9.heap∧(∀ b∈fp,H' b=none)∧W i m σ' H':=fun {s9 σ9 H9} I9 n9=>by
    obtain ⟨m',hm,w9⟩:=hN σ9 H9 n9
    refine ⟨m',hm,i+1,σ9,H9,I9.gD,T.keep _ _ _ st7 fun b hb o e=>(I9.pin (b,o) (List.mem_append_right _ (List.mem_append_right _ (eP hb e)))).1,fun b hb=>?_,w9⟩
    obtain ⟨o,e,d⟩:=T.obj _ _ st7 b hb
    exact (I9.pin (b,o) (List.mem_append_right _ (List.mem_append_right _ (eP hb e)))).2.1
   refine thn (hg C s3 _ fp _ s7 σ5 H7 x u _ I7' r7 (step x H7 y7)) fun _ s8 ⟨σ8,H8,I8,q8⟩=>?_
   refine thn (ht C s3 _ fp _ s8 σ8 H8 _ I8 q8) fun ok s9 ⟨H9,I9,q9⟩=>?_
   cases ok with
   | false=>
    rw [if_neg Bool.false_ne_true] at q9
    rw [if_neg Bool.false_ne_true]
    exact back I9 q9
   | true=>
    rw [if_pos rfl] at q9
    rw [if_pos rfl]
    refine thn (he C s3 _ fp _ s9 σ8 H9 _ I9 q9) fun y s10 ⟨v,H10,I10,r10,q10⟩=>?_
    obtain ⟨xs,hD10,hz,qN⟩:=q10
    refine thn (kM (X:=cv X scope N C s3 (upd H2 D (.lst [])) fp) _ s10 σ8 H10 (.ref D) [v] (.ref D) [y] (fun _ H'=>NN σ8 H') I10 rfl (.cons r10 .nil) ⟨D,xs,v,rfl,rfl,hD10,hz,qN⟩) fun _ s11 ⟨_,H11,I11,_,q11⟩=>?_
    exact back I11 q11
 exact codeAny_compStart_list (loop _ rfl) (T.self _ 0 _ _ _ st4 (loop _ rfl))
theorem Ai {esc:Scope} {EN:List Str} (hc:X.calm=true) (S:eV esc scope EN N k) (h1:X.env.scope=esc) (h2:X.N=EN) (hi:PI X tg iter wi) (hg:∀ C s H fp,PG (cv X scope N C s H fp) tg g) (ht:∀ C s H fp,PTs (cv X scope N C s H fp) ifs tt) (he:∀ C s H fp,PE (cv X scope N C s H fp) elt te)
  (hs:∀ x,foldedSetIterable iter X.env x=pure x:=by intro _;rfl):PE X (.ListComp elt [⟨tg,iter,ifs,0⟩] scope pos) (tLC wi g tt te k):=by
 subst h1 h2
 intro pins s σ H Q I h
 rw [eval_ListComp]
 refine wpAny_comprehension_free (use:=none) rfl hs (jY (S.cells I.ok)) S.kind S.names (thn (hi pins s σ H _ I h) fun v s1 h1=>thn h1 fun itv s2 h2=>?_)
 obtain ⟨it,fp,tn,J,H2,e,I2,T,st2,f2,q⟩:=h2
 subst e
 refine tq (RR:=fun acc C=>compPost (model X.prog X.w) X.A X.xe none (EP X pins σ Q) acc C) hc S hg ht he I2 T st2 f2 q ?_
 intro D C s' H' m hC IX hm hn hL hF hS hcell hp qd
 refine ⟨m,hm,fun h' sb=>?_⟩
 exact ⟨.ref D,H',IX.turned (t':=s'.toks) (fun b o hb e=>sb.extBut b o hb e) hn hL (.inr hS) hcell hp,rfl,qd⟩
end
inductive D where
 | non | bl (b:Bool) | int (i:Int) | str (x:Str) | tup (xs:List D) | lst (xs:List D)
mutual
def D.eqv:D→D→Bool
 | .non,.non=>true
 | .bl a,.bl b=>a == b
 | .bl a,.int b=>(if a then 1 else 0) == b
 | .int a,.bl b=>a == (if b then 1 else 0)
 | .int a,.int b=>a == b
 | .str a,.str b=>a == b
 | .tup xs,.tup ys=>D.bt xs ys
 | .lst xs,.lst ys=>D.bt xs ys
 | _,_=>false
def D.bt:List D→List D→Bool
 | [],[]=>true
 | x :: xs,y :: ys=>D.eqv x y && D.bt xs ys
 | _,_=>false
end
mutual
theorem D.eqv_refl:∀ d:D,D.eqv d d=true
 | .non=>rfl
 | .bl a=>by simp [D.eqv]
 | .int a=>by simp [D.eqv]
 | .str a=>by simp [D.eqv]
 | .tup xs=>by simp only [D.eqv];exact D.iw xs
 | .lst xs=>by simp only [D.eqv];exact D.iw xs
theorem D.iw:∀ ds:List D,D.bt ds ds=true
 | []=>rfl
 | d :: ds=>by simp only [D.bt,D.eqv_refl d,D.iw ds,Bool.and_self]
end
mutual
def D.depth:D→Nat
 | .tup xs=>D.bN xs+1
 | .lst xs=>D.bN xs+1
 | _=>0
def D.bN:List D→Nat
 | []=>0
 | x :: xs=>max (D.depth x) (D.bN xs)
end
mutual
inductive Rep (H:Hp):V→D→Prop
 | non:Rep H .non .non
 | bl (b:Bool):Rep H (.bl b) (.bl b)
 | int (i:Int):Rep H (.int i) (.int i)
 | str (x:Str):Rep H (.str x) (.str x)
 | tup {a:Addr} {vs:List V} {ds:List D}:H a=some (.tup vs)→aq H vs ds→Rep H (.ref a) (.tup ds)
 | lst {a:Addr} {vs:List V} {ds:List D}:H a=some (.lst vs)→aq H vs ds→Rep H (.ref a) (.lst ds)
inductive aq (H:Hp):List V→List D→Prop
 | nil:aq H [] []
 | cons {v:V} {d:D} {vs:List V} {ds:List D}:Rep H v d→aq H vs ds→aq H (v :: vs) (d :: ds)
end
theorem aq.length {H:Hp}:∀ {vs:List V} {ds:List D},aq H vs ds→vs.length=ds.length
 | _,_,.nil=>rfl
 | _,_,.cons _ t=>by simp [aq.length t]
theorem aq.get {H:Hp}:∀ {vs:List V} {ds:List D} {i:Nat} {v:V},aq H vs ds→vs[i]?=some v→∃ d,ds[i]?=some d∧Rep H v d
 | _,_,_,_,.nil,e=>by simp at e
 | _,_,0,_,.cons r _,e=>by simp at e;subst e;exact ⟨_,rfl,r⟩
 | _,_,i+1,v,.cons _ t,e=>by
  obtain ⟨d,h1,h2⟩:=aq.get (i:=i) (v:=v) t (by simpa using e)
  exact ⟨d,by simpa using h1,h2⟩
theorem aq.get' {H:Hp}:∀ {vs:List V} {ds:List D} {i:Nat} {d:D},aq H vs ds→ds[i]?=some d→∃ v,vs[i]?=some v∧Rep H v d
 | _,_,_,_,.nil,e=>by simp at e
 | _,_,0,_,.cons r _,e=>by simp at e;subst e;exact ⟨_,rfl,r⟩
 | _,_,i+1,v,.cons _ t,e=>by
  obtain ⟨d,h1,h2⟩:=aq.get' (i:=i) (d:=v) t (by simpa using e)
  exact ⟨d,by simpa using h1,h2⟩
theorem aq.append {H:Hp}:∀ {vs us:List V} {ds es:List D},aq H vs ds→aq H us es→aq H (vs++us) (ds++es)
 | _,_,_,_,.nil,s=>s
 | _,_,_,_,.cons r t,s=>.cons r (aq.append t s)
theorem aq.take {H:Hp}:∀ {vs:List V} {ds:List D} (n:Nat),aq H vs ds→aq H (vs.take n) (ds.take n)
 | _,_,0,_=>.nil
 | _,_,_+1,.nil=>.nil
 | _,_,n+1,.cons r t=>.cons r (aq.take n t)
theorem aq.drop {H:Hp}:∀ {vs:List V} {ds:List D} (n:Nat),aq H vs ds→aq H (vs.drop n) (ds.drop n)
 | _,_,0,r=>r
 | _,_,_+1,.nil=>.nil
 | _,_,n+1,.cons _ t=>aq.drop n t
theorem aq.reverse {H:Hp}:∀ {vs:List V} {ds:List D},aq H vs ds→aq H vs.reverse ds.reverse
 | _,_,.nil=>.nil
 | _,_,.cons r t=>by rw [List.reverse_cons,List.reverse_cons];exact (aq.reverse t).append (.cons r .nil)
mutual
theorem Rep.mono {H H':Hp} (e:cP H H'):∀ {v:V} {d:D},Rep H v d→Rep H' v d
 | _,_,.non=>.non
 | _,_,.bl b=>.bl b
 | _,_,.int i=>.int i
 | _,_,.str x=>.str x
 | _,_,.tup h r=>.tup (e _ _ h) (aq.mono e r)
 | _,_,.lst h r=>.lst (e _ _ h) (aq.mono e r)
theorem aq.mono {H H':Hp} (e:cP H H'):∀ {vs:List V} {ds:List D},aq H vs ds→aq H' vs ds
 | _,_,.nil=>.nil
 | _,_,.cons r t=>.cons (Rep.mono e r) (aq.mono e t)
end
mutual
theorem Rep.inj {H:Hp}:∀ {v:V} {d e:D},Rep H v d→Rep H v e→d=e
 | _,_,_,.non,.non=>rfl
 | _,_,_,.bl _,.bl _=>rfl
 | _,_,_,.int _,.int _=>rfl
 | _,_,_,.str _,.str _=>rfl
 | _,_,_,.tup h r,.tup h' r'=>by rw [h] at h';cases h';rw [aq.inj r r']
 | _,_,_,.tup h r,.lst h' r'=>by rw [h] at h';cases h'
 | _,_,_,.lst h r,.tup h' r'=>by rw [h] at h';cases h'
 | _,_,_,.lst h r,.lst h' r'=>by rw [h] at h';cases h';rw [aq.inj r r']
theorem aq.inj {H:Hp}:∀ {vs:List V} {ds es:List D},aq H vs ds→aq H vs es→ds=es
 | _,_,_,.nil,.nil=>rfl
 | _,_,_,.cons r t,.cons r' t'=>by rw [Rep.inj r r',aq.inj t t']
end
theorem aq.ints {H:Hp}:∀ (ns:List Int),aq H (ns.map V.int) (ns.map D.int)
 | []=>.nil
 | n :: ns=>.cons (.int n) (aq.ints ns)
theorem aq.ka {H:Hp}:∀ {vs:List V} {ns:List Int},aq H vs (ns.map D.int)→vs=ns.map V.int
 | [],[],.nil=>rfl
 | v :: vs,n :: ns,.cons r t=>by
  cases r
  rw [List.map_cons,aq.ka t]
theorem D.bQ:∀ (ds es:List D),D.bt ds es=((List.range (min ds.length es.length)).all (fun j=>D.eqv (ds.getD j .non) (es.getD j .non)) && ds.length == es.length)
 | [],[]=>rfl
 | [],e :: es=>by simp [D.bt]
 | d :: ds,[]=>by simp [D.bt]
 | d :: ds,e :: es=>by
  have ih:=D.bQ ds es
  have q:min (d :: ds).length (e :: es).length=min ds.length es.length+1:=by simp only [List.length_cons];omega
  rw [q,List.range_succ_eq_map,List.all_cons,List.all_map]
  have z:((d :: ds).length == (e :: es).length)=(ds.length == es.length):=by
   rw [Bool.eq_iff_iff];simp
  rw [z,D.bt,ih,Bool.and_assoc]
  rfl
theorem D.eU:∀ {ds:List D} {i:Nat} {d:D},ds[i]?=some d→D.depth d≤D.bN ds
 | [],_,_,e=>by simp at e
 | x :: xs,0,d,e=>by
  simp at e;subst e
  exact Nat.le_max_left _ _
 | x :: xs,i+1,d,e=>Nat.le_trans (D.eU (ds:=xs) (i:=i) (by simpa using e)) (Nat.le_max_right _ _)
section
variable {X:Cx}
theorem rl {pins:List (Addr×Obj)} {σ:St} {H:Hp} {s:Shared} (I:Inv X pins σ H s):∀ (n:Nat) (A:Around) (x y:V) (u v:Value) (d e:D),A.units+n < cLine→D.depth d≤n→RelV x u→RelV y v→Rep H x d→Rep H y e →
  SeqAt.EqAt A s u v (D.eqv d e):=by
 intro n
 induction n with
 | zero=>
  intro A x y u v d e hu hd ru rv rx ry
  have hu':A.units < cLine:=by omega
  cases rx with
  | tup h r=>simp [D.depth] at hd
  | lst h r=>simp [D.depth] at hd
  | non=>
   cases ry with
   | tup h r=>
    cases ru;cases rv
    obtain ⟨its,rv,p,hz⟩:=I.tuple (SqT.of h)
    exact SeqAt.EqAt.none_tuple p hu'
   | lst h r=>
    cases ru;cases rv
    obtain ⟨its,rv,p,hz⟩:=I.list (SqL.of h)
    exact SeqAt.EqAt.none_list p.isList hu'
   | _=>simp only [D.eqv];exact ic ru rv rfl rfl
  | bl a=>
   cases ry with
   | tup h r=>
    cases ru;cases rv
    obtain ⟨its,rv,p,hz⟩:=I.tuple (SqT.of h)
    exact SeqAt.EqAt.bool_tuple a p hu'
   | lst h r=>
    cases ru;cases rv
    obtain ⟨its,rv,p,hz⟩:=I.list (SqL.of h)
    exact SeqAt.EqAt.bool_list a p.isList hu'
   | _=>simp only [D.eqv];exact ic ru rv rfl rfl
  | int a=>
   cases ry with
   | tup h r=>
    obtain ⟨t,rfl⟩:=ru;cases rv
    obtain ⟨its,rv,p,hz⟩:=I.tuple (SqT.of h)
    exact SeqAt.EqAt.int_tuple a t p hu'
   | lst h r=>
    obtain ⟨t,rfl⟩:=ru;cases rv
    obtain ⟨its,rv,p,hz⟩:=I.list (SqL.of h)
    exact SeqAt.EqAt.int_list a t p.isList hu'
   | _=>simp only [D.eqv];exact ic ru rv rfl rfl
  | str a=>
   cases ry with
   | tup h r=>
    obtain ⟨t,rfl⟩:=ru;cases rv
    obtain ⟨its,rv,p,hz⟩:=I.tuple (SqT.of h)
    exact SeqAt.EqAt.str_tuple a t p hu'
   | lst h r=>
    obtain ⟨t,rfl⟩:=ru;cases rv
    obtain ⟨its,rv,p,hz⟩:=I.list (SqL.of h)
    exact SeqAt.EqAt.str_list a t p.isList hu'
   | _=>simp only [D.eqv];exact ic ru rv rfl rfl
 | succ n ih=>
  intro A x y u v d e hu hd ru rv rx ry
  have hu':A.units < cLine:=by omega
  have items:∀ {vs us:List V} {ds es:List D} {its its2:List Value},D.bN ds≤n→Vals vs its→Vals us its2→aq H vs ds→aq H us es →
    ∀ j (h1:j < its.toArray.size) (h2:j < its2.toArray.size),SeqAt.EqAt A.in1 s its.toArray[j] its2.toArray[j] (D.eqv (ds.getD j .non) (es.getD j .non)):=by
   intro vs us ds es its its2 hdd r1 r2 q1 q2 j h1 h2
   have h1':j < its.length:=by simpa using h1
   have h2':j < its2.length:=by simpa using h2
   have l1:=r1.length
   have l2:=r2.length
   have m1:=q1.length
   have m2:=q2.length
   have e1:vs[j]?=some (vs[j]'(by omega)):=List.getElem?_eq_getElem _
   have e2:us[j]?=some (us[j]'(by omega)):=List.getElem?_eq_getElem _
   obtain ⟨a1,b1,c1⟩:=r1.get e1
   obtain ⟨a2,b2,c2⟩:=r2.get e2
   obtain ⟨f1,g1,k1⟩:=q1.get e1
   obtain ⟨f2,g2,k2⟩:=q2.get e2
   have z1:its.toArray[j]=a1:=by
    have:its[j]?=some its[j]:=List.getElem?_eq_getElem h1'
    rw [b1] at this
    simpa using (Option.some.inj this).symm
   have z2:its2.toArray[j]=a2:=by
    have:its2[j]?=some its2[j]:=List.getElem?_eq_getElem h2'
    rw [b2] at this
    simpa using (Option.some.inj this).symm
   rw [z1,z2,List.getD_eq_getElem?_getD,List.getD_eq_getElem?_getD,g1,g2]
   refine ih A.in1 _ _ _ _ _ _ ?_ (Nat.le_trans (D.eU g1) hdd) c1 c2 k1 k2
   show A.units+1+n < cLine
   omega
  cases rx with
  | @tup a vs ds h r=>
   obtain ⟨its,rv1,p,hz⟩:=I.tuple (SqT.of h)
   cases ry with
   | @tup b us es h' r'=>
    cases ru;cases rv
    obtain ⟨its2,rv2,p2,hz2⟩:=I.tuple (SqT.of h')
    by_cases hab:a=b
    ·subst hab
     rw [h] at h';cases h'
     rw [aq.inj r' r,D.eqv_refl]
     exact SeqAt.EqAt.same _
    ·have hdd:D.bN ds≤n:=by simp only [D.depth] at hd;omega
     have q:=SeqAt.EqAt.of_refs hab (SeqAt.RcAt.tuples (e:=fun j=>D.eqv (ds.getD j .non) (es.getD j .non)) p p2 hu' (items hdd rv1 rv2 r r'))
     rw [List.size_toArray,List.size_toArray,← rv1.length,← rv2.length,r.length,r'.length,← D.bQ] at q
     simp only [D.eqv]
     exact q
   | @lst b us es h' r'=>
    cases ru;cases rv
    obtain ⟨its2,rv2,p2,hz2⟩:=I.list (SqL.of h')
    simp only [D.eqv]
    exact SeqAt.EqAt.tuple_list p p2.isList hu'
   | non=>cases ru;cases rv;simp only [D.eqv];exact SeqAt.EqAt.tuple_none p hu'
   | bl c=>cases ru;cases rv;simp only [D.eqv];exact SeqAt.EqAt.tuple_bool c p hu'
   | int c=>cases ru;obtain ⟨t,rfl⟩:=rv;simp only [D.eqv];exact SeqAt.EqAt.tuple_int c t p hu'
   | str c=>cases ru;obtain ⟨t,rfl⟩:=rv;simp only [D.eqv];exact SeqAt.EqAt.tuple_str c t p hu'
  | @lst a vs ds h r=>
   obtain ⟨its,rv1,p,hz⟩:=I.list (SqL.of h)
   cases ry with
   | @lst b us es h' r'=>
    cases ru;cases rv
    obtain ⟨its2,rv2,p2,hz2⟩:=I.list (SqL.of h')
    by_cases hab:a=b
    ·subst hab
     rw [h] at h';cases h'
     rw [aq.inj r' r,D.eqv_refl]
     exact SeqAt.EqAt.same _
    ·have hdd:D.bN ds≤n:=by simp only [D.depth] at hd;omega
     have l1:=rv1.length
     have l2:=rv2.length
     have m1:=r.length
     have m2:=r'.length
     by_cases hl:ds.length=es.length
     ·have q:=SeqAt.EqAt.of_refs hab (SeqAt.RcAt.lists (e:=fun j=>D.eqv (ds.getD j .non) (es.getD j .non)) p.isList p2.isList (by simp;omega) hu' (items hdd rv1 rv2 r r'))
      have z:D.bt ds es=(List.range its.toArray.size).all fun j=>D.eqv (ds.getD j .non) (es.getD j .non):=by
       rw [D.bQ,← hl,Nat.min_self,List.size_toArray,← l1,m1]
       simp
      simp only [D.eqv]
      rw [z]
      exact q
     ·have q:=SeqAt.EqAt.of_refs hab (SeqAt.RcAt.lists_lengths p.isList p2.isList (by simp;omega) hu')
      have z:D.bt ds es=false:=by
       rw [D.bQ]
       simp [hl]
      simp only [D.eqv]
      rw [z]
      exact q
   | @tup b us es h' r'=>
    cases ru;cases rv
    obtain ⟨its2,rv2,p2,hz2⟩:=I.tuple (SqT.of h')
    simp only [D.eqv]
    exact SeqAt.EqAt.list_tuple p.isList p2 hu'
   | non=>cases ru;cases rv;simp only [D.eqv];exact SeqAt.EqAt.list_none p.isList hu'
   | bl c=>cases ru;cases rv;simp only [D.eqv];exact SeqAt.EqAt.list_bool c p.isList hu'
   | int c=>cases ru;obtain ⟨t,rfl⟩:=rv;simp only [D.eqv];exact SeqAt.EqAt.list_int c t p.isList hu'
   | str c=>cases ru;obtain ⟨t,rfl⟩:=rv;simp only [D.eqv];exact SeqAt.EqAt.list_str c t p.isList hu'
  | non=>exact SeqAt.EqAt.of_in1 (ih A.in1 _ y u v _ e (by show A.units+1+n < cLine;omega) (by simp [D.depth]) ru rv .non ry)
  | bl c=>exact SeqAt.EqAt.of_in1 (ih A.in1 _ y u v _ e (by show A.units+1+n < cLine;omega) (by simp [D.depth]) ru rv (.bl c) ry)
  | int c=>exact SeqAt.EqAt.of_in1 (ih A.in1 _ y u v _ e (by show A.units+1+n < cLine;omega) (by simp [D.depth]) ru rv (.int c) ry)
  | str c=>exact SeqAt.EqAt.of_in1 (ih A.in1 _ y u v _ e (by show A.units+1+n < cLine;omega) (by simp [D.depth]) ru rv (.str c) ry)
end
section
variable {X:Cx}
def sG:R2:=fun x y H Q=>∃ a b,x=.bl a∧y=.bl b∧Q (.bl (a == b)) H
theorem sL:OpR X (compareOp .Is) sG:=by
 intro pins s σ H x y v u Q I rx ry h
 obtain ⟨a,b,rfl,rfl,q⟩:=h
 cases rx;cases ry
 exact is_bool ⟨.bl _,H,I,rfl,q⟩
def isT (T:String):D→Bool
 | .non=>false
 | .bl _=>T == "bool" || T == "int"
 | .int _=>T == "int"
 | .str _=>T == "str"
 | .tup _=>T == "tuple"
 | .lst _=>T == "list"
def okT (T:String):Bool:=T == "bool" || T == "int" || T == "str" || T == "tuple" || T == "list"
theorem BL {K:PySem.W.Frag} {H:Hp} {x:V} {d:D} {T:String} (r:Rep H x d) (h:okT T=true):∃ t,d8 K H x t∧PySem.W.kitOne K t (.type T)=some (isT T d):=by
  have h5:T="bool"∨T="int"∨T="str"∨T="tuple"∨T="list":=by simpa [okT,or_assoc] using h
  cases r with
  | non=>exact ⟨_,.non,by rcases h5 with e | e | e | e | e<;>subst e<;>first | rfl | kernel_rfl⟩
  | bl b=>exact ⟨_,.bl b,by rcases h5 with e | e | e | e | e<;>subst e<;>first | rfl | kernel_rfl⟩
  | int i=>exact ⟨_,.int i,by rcases h5 with e | e | e | e | e<;>subst e<;>first | rfl | kernel_rfl⟩
  | str x=>exact ⟨_,.str x,by rcases h5 with e | e | e | e | e<;>subst e<;>first | rfl | kernel_rfl⟩
  | tup h r=>exact ⟨_,.tup h,by rcases h5 with e | e | e | e | e<;>subst e<;>first | rfl | kernel_rfl⟩
  | lst h r=>exact ⟨_,.lst h,by rcases h5 with e | e | e | e | e<;>subst e<;>first | rfl | kernel_rfl⟩
def B_ (T:String) (te:TE):TE:=fun σ H Q=>te σ H fun x H1=>∃ d,Rep H1 x d∧Q (.bl (isT T d)) H1
theorem q0 {e:Expr} {te:TE} {nm:Str} {T:String} {p p2 pos:Pos} (hg:Gl X "isinstance") (hm:X.mg "isinstance"=none) (hg2:Gl X nm) (hm2:X.mg nm=none) (hv:bootBuiltins nm=some (.type T)) (ho:okT T=true) (ha:PE X e te)
  (hn:nm≠"__name__":=by decide) (hd:(nm == ("__debug__":Str))=false:=by decide) (hb:bootBuiltins "isinstance"=some (.builtin "isinstance"):=by decide +kernel)
  (he:starEach [e,.Name nm p2] X.env=(false,eval e X.env) :: starEach [.Name nm p2] X.env:=by rfl) (hs2:starEach [.Name nm p2] X.env=(false,eval (.Name nm p2) X.env) :: starEach [] X.env:=by rfl) (hpl:(backTo pos (starEach [.Name nm p2] X.env)).any (·.1)=false:=by rfl) :
  PE X (.Call (.Name "isinstance" p) [e,.Name nm p2] [] pos) (B_ T te):=by
 intro pins s σ H Q I h
 have hT:PE X (.Name nm p2) (tC (.ty T)):=nK hg2 hm2 hv rfl hn hd
 refine wpAny_Call_Name_kw (cu I hg hm hb ?_ (by decide) (by decide))
 refine PyProof.Rows.callWith_builtin1 (thn ((cW ha (cW hT fz hs2) he) pos pins s σ H (fun vs H1=>∃ x d,vs=[x,.ty T]∧Rep H1 x d∧Q (.bl (isT T d)) H1) I ?_) fun us s1 ⟨vs,H1,I1,r1,q1⟩=>?_) he hpl
 ·refine (show te σ H fun x H1=>_ from ?_)
  refine cast (congrArg (te σ H) ?_) h
  funext x H1
  refine propext ⟨fun ⟨d,r,q⟩=>⟨x,d,rfl,r,q⟩,fun ⟨x',d,e,r,q⟩=>?_⟩
  cases e
  exact ⟨d,r,q⟩
 ·obtain ⟨x,d,e,r,q⟩:=q1
  subst e
  obtain ⟨u,w',rfl,ru,rw'⟩:=r1.two
  obtain ⟨t,ty,k⟩:=BL (K:=X.K) r ho
  cases (show w'=Value.type T from rw')
  exact qy I1 ru ty k fun tk=>⟨.bl _,H1,I1.tok tk,rfl,q⟩
end
section
variable {X:Cx} {pins:List (Addr×Obj)} {σ:St} {H:Hp} {s:Shared} {h':Heap} {fp:List Addr}
theorem Inv.ju {a:Addr} {o:HO} {t':Nat} (I:Inv X pins σ H s) (ha:s.heap.objs.size≤a) (hk:∀ b u,b∉fp→s.heap.get? b=some u→h'.get? b=some u) (hf:∀ b∈fp,d9 X pins H b) (new:bC X.prog X.w (upd H a o) h' a o) :
  Inv X pins σ (upd H a o) { s with heap:=h',toks:=t' }:=by
 have hn:H a=none:=I.hok.fresh ha
 have nfp:∀ b u,H b=some u→b∉fp:=fun b u e z=>by
  have q:=(hf b z).1
  rw [e] at q
  cases q
 have hne:∀ b (u:Obj),s.heap.get? b=some u→b≠a:=fun b u e=>Nat.ne_of_lt (Nat.lt_of_lt_of_le (Heap.lt_size e) ha)
 refine I.step (g':=s.gens) (d':=s.drawn) (ch:=fp) (fun b hb=>?_) (fun b u _ _ hc e _=>hk b u hc e) (fun b u _ _ hc e _=>⟨u.slots,hk b u hc e⟩) (fun b u _ e n=>?_)
  (fun b u hc e=>⟨u,hk b u hc e⟩) (fun b xs e=>?_) (fun b u xs e=>?_) (fun b ps e=>⟨#[],?_⟩) (fun m hm=>?_) (fun b u e=>?_) I.bare
 ·obtain ⟨f0,f1,f2,f3,f4,f5⟩:=hf b hb
  exact ⟨f3,f1,f4,f5⟩
 ·rw [aB (hne b u e)];exact n
 ·rw [aB (aS e hn)];exact e
 ·rw [aB (aS e hn)];exact e
 ·rw [aB (aS e hn),e];simp
 ·obtain ⟨u,es,ep,ho,r⟩:=hm
  exact ⟨u,es,ep,hk _ u (fun z=>(hf _ z).2.1 rfl) ho,r⟩
 ·by_cases hb:b=a
  ·subst hb;rw [bE] at e;cases e;exact new
  ·rw [aB hb] at e
   refine (I.hok b u e).fR (fun c v hc q=>hk c v ?_ q) (fun c q=>by rw [aB (aS q hn)];exact q) fun c xs q=>by rw [aB (aS q hn)];exact q
   rcases hc with z | z
   ·rw [z];exact nfp b u e
   ·exact nfp c _ z
theorem Inv.nF {t':Nat} (I:Inv X pins σ H s) (hk:∀ b u,b∉fp→s.heap.get? b=some u→h'.get? b=some u) (hf:∀ b∈fp,d9 X pins H b):Inv X pins σ H { s with heap:=h',toks:=t' }:=by
 have nfp:∀ b u,H b=some u→b∉fp:=fun b u e z=>by
  have q:=(hf b z).1
  rw [e] at q
  cases q
 refine I.step (g':=s.gens) (d':=s.drawn) (ch:=fp) (fun b hb=>?_) (fun b u _ _ hc e _=>hk b u hc e) (fun b u _ _ hc e _=>⟨u.slots,hk b u hc e⟩) (fun b u _ e n=>n)
  (fun b u hc e=>⟨u,hk b u hc e⟩) (fun b xs e=>e) (fun b u xs e=>e) (fun b ps e=>⟨#[],?_⟩) (fun m hm=>?_) (fun b u e=>?_) I.bare
 ·obtain ⟨f0,f1,f2,f3,f4,f5⟩:=hf b hb
  exact ⟨f3,f1,f4,f5⟩
 ·rw [e];simp
 ·obtain ⟨u,es,ep,ho,r⟩:=hm
  exact ⟨u,es,ep,hk _ u (fun z=>(hf _ z).2.1 rfl) ho,r⟩
 ·refine (I.hok b u e).fR (fun c v hc q=>hk c v ?_ q) (fun _ q=>q) fun _ _ q=>q
  rcases hc with z | z
  ·rw [z];exact nfp b u e
  ·exact nfp c _ z
end
def Ite (K:PySem.W.Frag) (l:Addr):It:=
 ⟨fun i H=>∃ xs x,SqL K H l xs∧xs[i]?=some x,fun i H x H'=>∃ p y,H p=none∧x=.ref p∧H'=upd H p (.tup [.int i,y])∧∀ xs,SqL K H l xs→xs[i]?=some y,fun i H=>∃ xs,SqL K H l xs∧xs.length≤i⟩
theorem pW {P:Program} {w:World} {K:PySem.W.Frag} {es:List Expr} {kk:Nat} {tp:Pos} (l e it:Addr) (hne:e≠it) :
  Turn P w K (.Tuple es kk tp) (Ite K l) [e,it] e (fun i h=>(∃ old,IsEnum h e it ((i:Nat):Int) old)∧h.IsListIter it l i) where
 mem:=by simp
 obj:=fun i h st b hb=>by
  obtain ⟨⟨old,he⟩,hit⟩:=st
  rcases List.mem_cons.mp hb with z | z
  ·subst z;exact ⟨_,he,fun v z=>by
    have z':Data.fields _=Data.cell v:=z
    cases z'⟩
  ·have z:b=it:=List.mem_singleton.mp z
   subst z
   obtain ⟨o,q,_,d⟩:=hit
   exact ⟨o,q,fun v z=>by rw [d] at z;cases z⟩
 keep:=fun i h h' st k=>by
  obtain ⟨⟨old,he⟩,hit⟩:=st
  exact ⟨⟨old,k e (by simp) _ he⟩,hit.at fun o q=>k it (by simp) o q⟩
 item:=by
  intro X hP hw hK hc i pins s σ H E I hf st hg
  subst hP hw hK
  obtain ⟨⟨old,he⟩,hit⟩:=st
  obtain ⟨xs,x,hq,hx⟩:=hg
  obtain ⟨its,rv,p,hz⟩:=I.list hq
  obtain ⟨u,hu,ru⟩:=rv.get hx
  refine wpAny_pyNext_enum_item he hit p.isList (x:=u) (by simpa using hu) hne fun h1 ho1 hit1 ht1 hz1 hk1=>?_
  refine ⟨_,rfl,wpAny_letOwnedTupleGo_enum (s:={ s with heap:=h1,toks:=s.toks+1 }) ho1 fun h2 he2 hs2=>?_⟩
  have helt:e < s.heap.objs.size:=Heap.lt_size he
  have ht2:h2.get? s.heap.objs.size=some { cls:=.type "tuple",data:=.seq #[.int i s.toks,u] }:=hs2.extBut _ _ (Nat.ne_of_gt helt) ht1
  have k2:∀ b o,b∉[e,it]→s.heap.get? b=some o→h2.get? b=some o:=fun b o hb q=>by
   have hb1:b≠e:=fun z=>hb (by simp [z])
   have hb2:b≠it:=fun z=>hb (by simp [z])
   exact hs2.extBut b o hb1 (hk1 b o hb1 hb2 q)
  have I2:Inv X pins σ (upd H s.heap.objs.size (.tup [.int i,x])) { s with heap:=h2,toks:=s.toks+1 }:=by
   refine I.ju (fp:=[e,it]) (Nat.le_refl _) k2 hf ?_
   exact ⟨by show 2≤sizeLine;decide,[.int i s.toks,u],.cons ⟨_,rfl⟩ (.cons ru .nil),⟨_,ht2,rfl,_,rfl⟩⟩
  refine ⟨.ref s.heap.objs.size,_,I2,rfl,⟨s.heap.objs.size,x,I.hok.fresh (Nat.le_refl _),rfl,rfl,fun ys hy=>by rw [I.lY hy hq];exact hx⟩,⟨⟨_,by simpa using he2⟩,?_⟩,fun b hb=>?_⟩
  ·exact hit1.extBut hs2.extBut (Ne.symm hne)
  ·have hlt:b < s.heap.objs.size:=by
    rcases List.mem_cons.mp hb with z | z
    ·rw [z];exact helt
    ·have z:b=it:=List.mem_singleton.mp z
     subst z
     obtain ⟨o,q,_⟩:=hit
     exact Heap.lt_size q
   rw [aB (Nat.ne_of_lt hlt)]
   exact (hf b hb).1
 done:=by
  intro X hP hw hK hc i pins s σ H E I hf st hg
  subst hP hw hK
  obtain ⟨⟨old,he⟩,hit⟩:=st
  obtain ⟨xs,hq,hx⟩:=hg
  obtain ⟨its,rv,p,hz⟩:=I.list hq
  have hl:=rv.length
  obtain ⟨f0,f1,f2,f3,f4,f5⟩:=hf it (by simp)
  exact wpAny_pyNext_enum_end (I.ok.hd hc) he hit p.isList (by simp;omega) fun h' eb=>⟨rfl,I.turned (t':=s.toks) (fun b o hb e=>eb b o hb e) f0 f1 f3 f4 f5⟩
 self:=fun _ _ _ _ _ st h=>by
  obtain ⟨⟨old,he⟩,_⟩:=st
  exact wpAny_pyIter_enum he h
section
variable {prog:Program} {w:World} {A:Around} {E:Value→Shared→Prop} {s:Shared}
theorem oz {it t:Addr} {i:Nat} {items:Array Value} {x:Value} {Q:Value→Shared→Prop} (hit:s.heap.IsTupleIter it t i) (ht:s.heap.IsTuple t items) (hx:items[i]?=some x)
  (hQ:∀ h',h'.IsTupleIter it t (i+1)→Heap.SameBut it s.heap h'→Q x { s with heap:=h' }):wpAny (model prog w) A (Builtin.SmallTypes.nextOf (.ref it)) Q E s:=by
 obtain ⟨o,ho,hc,hd⟩:=id hit
 obtain ⟨ot,hot,_,nt,hdt⟩:=ht
 unfold Builtin.SmallTypes.nextOf
 refine wpAny_bind (wpAny_callSpecial?_slot (name:=Str.ofString "__next__") hit.typeIs F.slot_tuple_iterator_next (wpAny_call_entry F.slot_tuple_iterator_next hit.typeIs F.entry_tuple_iterator_next ?_ (F.args_tuple_iterator_next_1 _)))
 refine (show wpAny _ _ (field (.ref it) 0>>=_) _ _ s from wpAny_bind (wpAny_field ho hd (x:=.ref t) rfl ?_))
 show wpAny _ _ (if (Value.ref t == Value.none)=true then _ else _) _ _ s
 rw [if_neg (by intro z;exact Bool.false_ne_true z)]
 refine (show wpAny _ _ (field (.ref it) 1>>=_) _ _ s from wpAny_bind (wpAny_field ho hd (x:=.int i 0) rfl ?_))
 refine (show wpAny _ _ (seqItems? (.ref t)>>=_) _ _ s from wpAny_bind (wpAny_seqItems hot hdt ?_))
 simp only [Int.toNat_natCast,hx]
 refine wpAny_bind (wpAny_setField ho hd (by simp) (wpAny_pure ⟨x,rfl,wpAny_pure (hQ _ ⟨_,Heap.get?_update_self _ ho (Obj.isFreed_of_fields (Obj.data_mapFields hd _)),(Obj.cls_mapFields ..).trans hc,?_⟩ (Heap.SameBut.update ..))⟩))
 rw [Obj.data_mapFields hd];simp [rawInt]
theorem qu {it t:Addr} {i:Nat} {items:Array Value} {Q:Value→Shared→Prop} (hh:A.handled=none) (hit:s.heap.IsTupleIter it t i) (ht:s.heap.IsTuple t items) (hx:items[i]?=none)
  (hE:∀ h' e,Heap.ExtBut it s.heap h'→(∃ o,h'.get? e=some o∧o.cls=.type "StopIteration")→E (.ref e) { s with heap:=h' }):wpAny (model prog w) A (Builtin.SmallTypes.nextOf (.ref it)) Q E s:=by
 obtain ⟨o,ho,hc,hd⟩:=id hit
 obtain ⟨ot,hot,_,nt,hdt⟩:=ht
 unfold Builtin.SmallTypes.nextOf
 refine wpAny_bind (wpAny_callSpecial?_slot (name:=Str.ofString "__next__") hit.typeIs F.slot_tuple_iterator_next (wpAny_call_entry F.slot_tuple_iterator_next hit.typeIs F.entry_tuple_iterator_next ?_ (F.args_tuple_iterator_next_1 _)))
 refine (show wpAny _ _ (field (.ref it) 0>>=_) _ _ s from wpAny_bind (wpAny_field ho hd (x:=.ref t) rfl ?_))
 show wpAny _ _ (if (Value.ref t == Value.none)=true then _ else _) _ _ s
 rw [if_neg (by intro z;exact Bool.false_ne_true z)]
 refine (show wpAny _ _ (field (.ref it) 1>>=_) _ _ s from wpAny_bind (wpAny_field ho hd (x:=.int i 0) rfl ?_))
 refine (show wpAny _ _ (seqItems? (.ref t)>>=_) _ _ s from wpAny_bind (wpAny_seqItems hot hdt ?_))
 simp only [Int.toNat_natCast,hx]
 refine wpAny_bind (wpAny_rule (wpAny_bind (wpAny_setField ho hd (by simp) ?_)))
 refine (show wpAny _ _ (newExc (.type "StopIteration") []>>=_) _ _ _ from wpAny_bind ?_)
 simp only [newExc,newTuple]
 refine wpAny_bind (wpAny_newObj_type (wpAny_bind (m:=firstArgMember _ _) (wpAny_of_eq (a:=Value.none) (by first | rfl | (simp only [firstArgMember];rfl)) (wpAny_newObj_type ?_ (by size_fits)))) (by size_fits))
 simp only [raiseNew]
 refine wpAny_bind (wpAny_handled ?_)
 first | rw [show A.in1.handled=none from hh] | rw [hh]
 exact wpAny_bind (wpAny_pure (wpAny_throw (hE _ _ (((Heap.SameBut.update ..).extBut.push _).push _) ⟨_,Heap.get?_push_size _ rfl,rfl⟩)))
end
theorem f_ {prog:Program} {w:World} {A:Around} (hh:A.handled=none) (it t:Addr) (hne:t≠it) (items:Array Value) :
  Draws prog w A it [it,t] items.size (fun i v=>items[i]?=some v) (fun i h=>h.IsTupleIter it t i∧h.IsTuple t items) where
 live:=fun _ _ st=>let ⟨o,ho,_⟩:=st.1;⟨o,ho⟩
 frame:=fun _ _ _ st hk=>⟨st.1.at fun o e=>hk it (by simp) o e,st.2.at fun o e=>hk t (by simp) o e⟩
 item:=fun i s Q E hi st hQ=>oz st.1 st.2 (x:=items[i]) (by simp [hi]) fun h' a b=>hQ _ h' s.toks (by simp [hi]) ⟨a,st.2.extBut b.extBut hne⟩ b
 done:=fun s Q E st hE=>qu hh st.1 st.2 (by simp) hE
structure cq (z TI TO i1 i2:Addr) (fp1 fp2:List Addr):Prop where
 TIz:TI≠z
 TOz:TO≠z
 TITO:TI≠TO
 z1:z∉fp1
 z2:z∉fp2
 TO1:TO∉fp1
 TO2:TO∉fp2
 i12:i1∉fp2
 i21:i2∉fp1
 m1:i1∈fp1
 m2:i2∈fp2
 TI1:TI≠i1
 TI2:TI≠i2
section
variable {prog:Program} {w:World} {A:Around} {E:Value→Shared→Prop} {s:Shared} {z TI TO i1 i2:Addr} {fp1 fp2:List Addr} {n1 n2 k:Nat} {P1 P2:Nat→Value→Prop} {S1 S2:Nat→Heap→Prop} {a b:Value}
theorem cq.i1z (D:cq z TI TO i1 i2 fp1 fp2):i1≠z:=fun e=>D.z1 (e ▸ D.m1)
theorem cq.i2z (D:cq z TI TO i1 i2 fp1 fp2):i2≠z:=fun e=>D.z2 (e ▸ D.m2)
theorem cq.TOi1 (D:cq z TI TO i1 i2 fp1 fp2):TO≠i1:=fun e=>D.TO1 (e ▸ D.m1)
theorem cq.TOi2 (D:cq z TI TO i1 i2 fp1 fp2):TO≠i2:=fun e=>D.TO2 (e ▸ D.m2)
theorem i9 {a:Addr} {Q:Option Obj→Shared→Prop} (h:Q (s.heap.get? a) s):wpAny (model prog w) A (loadIfAlive a) Q E s:=
 fun _ _ _=>h
abbrev cB (h:Heap) (z TI TO:Addr) (own:Value) (fl:Bool):Prop:=h.get? z=some { cls:=.type "zip",dict:=none,data:=.fields #[own,.bool fl,.bool false,.ref TI,.ref TO],slots:=#[] }
def jB (h:Heap) (own:Value):Prop:=own=.none∨∃ T:Addr,own=rawInt T∧h.get? T=none
theorem nH {own:Value} {fl:Bool} {Q:Bool→Shared→Prop} (hz:cB s.heap z TI TO own fl) (hf:jB s.heap own) (h:Q true s):wpAny (model prog w) A (Builtin.SmallTypes.ownedTupleIsFree (.ref z)) Q E s:=by
 unfold Builtin.SmallTypes.ownedTupleIsFree
 rcases hf with rfl | ⟨T,rfl,hT⟩
 ·exact wpAny_bind (wpAny_field hz rfl (x:=.none) rfl (wpAny_pure h))
 ·refine wpAny_bind (wpAny_field hz rfl (x:=rawInt T) rfl ?_)
  refine (show wpAny _ _ (loadIfAlive ((T:Int)).toNat>>=_) _ _ _ from wpAny_bind (i9 ?_))
  rw [Int.toNat_natCast,hT]
  exact wpAny_ite_true rfl (wpAny_pure h)
theorem qi {Q:Value→Shared→Prop} (D:cq z TI TO i1 i2 fp1 fp2) (D1:Draws prog w A i1 fp1 n1 P1 S1) (D2:Draws prog w A i2 fp2 n2 P2 S2) {own:Value} {fl:Bool} (hz:cB s.heap z TI TO own fl) (hfr:jB s.heap own) (hTI:IsPair s.heap TI (.ref i1) (.ref i2)) (hTO:IsPair s.heap TO a b)
  (h1:S1 k s.heap) (h2:S2 k s.heap) (l1:k < n1) (l2:k < n2)
  (hQ:∀ x y h' tk,P1 k x→P2 k y→IsZip h' z TI TO (rawInt s.heap.objs.size)→IsPair h' TI (.ref i1) (.ref i2)→IsPair h' TO x y→S1 (k+1) h'→S2 (k+1) h'→IsPair h' s.heap.objs.size x y→h'.objs.size=s.heap.objs.size+1 →
   (∀ c o,c≠z→c≠TO→c≠i1→c≠i2→s.heap.get? c=some o→h'.get? c=some o)→Q (.ref s.heap.objs.size) { s with heap:=h',toks:=tk }) :
  wpAny (model prog w) A (Builtin.«zip.__next__» ⟨[.ref z],[]⟩) (fun fin s'=>∃ v,fin=.done (.ret v)∧Q v s') E s:=by
 refine (show wpAny _ _ (field (.ref z) 2>>=_) _ _ _ from wpAny_bind (wpAny_field hz rfl (x:=.bool false) rfl ?_))
 refine (show wpAny _ _ (field (.ref z) 3>>=_) _ _ _ from wpAny_bind (wpAny_field hz rfl (x:=.ref TI) rfl ?_))
 refine wpAny_bind (wpAny_seqItems hTI rfl ?_)
 refine (show wpAny _ _ (Builtin.SmallTypes.ownedTupleIsFree (.ref z)>>=_) _ _ _ from wpAny_bind (nH hz hfr ?_))
 simp only [if_true]
 refine wpAny_bind (wpAny_rule (wpAny_bind (wpAny_field hz rfl (x:=.ref TO) rfl ?_)))
 refine wpAny_bind (wpAny_setField_rec hz (by simp) fun g1 hz1 e1=>?_)
 replace hz1:cB g1 z TI TO .ellipsis fl:=hz1
 replace e1:Heap.SameBut z s.heap g1:=e1
 refine wpAny_bind ?_
 simp only [List.zipIdx_cons,List.zipIdx_nil,List.forIn_cons,List.forIn_nil]
 refine wpAny_bind (wpAny_bind (wpAny_onRaise ?_))
 have q1:S1 k g1:=D1.frame _ _ _ h1 fun c hc o q=>e1.extBut c o (fun y=>D.z1 (y ▸ hc)) q
 have q2:S2 k g1:=D2.frame _ _ _ h2 fun c hc o q=>e1.extBut c o (fun y=>D.z2 (y ▸ hc)) q
 refine (show wpAny _ _ (Builtin.SmallTypes.nextOf (.ref i1)>>=_) _ _ _ from wpAny_bind (D1.item k _ _ _ l1 q1 fun x g2 t2 p1 q1' e2=>wpAny_pure ?_))
 replace e2:Heap.SameBut i1 g1 g2:=e2
 have hTO2:IsPair g2 TO a b:=e2.extBut _ _ D.TOi1 (e1.extBut _ _ D.TOz hTO)
 refine wpAny_bind (wpAny_seqItems hTO2 rfl (wpAny_bind (wpAny_updateSeq_pair hTO2 fun g3 hTO3 e3=>?_)))
 replace hTO3:IsPair g3 TO x b:=hTO3
 replace e3:Heap.SameBut TO g2 g3:=e3
 refine wpAny_bind (wpAny_letGo (wpAny_pure ?_))
 refine wpAny_bind (wpAny_bind (wpAny_onRaise ?_))
 have r1:S1 (k+1) g3:=D1.frame _ _ _ q1' fun c hc o q=>e3.extBut c o (fun y=>D.TO1 (y ▸ hc)) q
 have r2:S2 k g3:=D2.frame _ _ _ q2 fun c hc o q=>e3.extBut c o (fun y=>D.TO2 (y ▸ hc)) (e2.extBut c o (fun y=>D.i12 (y ▸ hc)) q)
 refine (show wpAny _ _ (Builtin.SmallTypes.nextOf (.ref i2)>>=_) _ _ _ from wpAny_bind (D2.item k _ _ _ l2 r2 fun y g4 t4 p2 r2' e4=>wpAny_pure ?_))
 replace e4:Heap.SameBut i2 g3 g4:=e4
 have hTO4:IsPair g4 TO x b:=e4.extBut _ _ D.TOi2 hTO3
 refine wpAny_bind (wpAny_seqItems hTO4 rfl (wpAny_bind (wpAny_updateSeq_pair hTO4 fun g5 hTO5 e5=>?_)))
 replace hTO5:IsPair g5 TO x y:=hTO5
 replace e5:Heap.SameBut TO g4 g5:=e5
 refine wpAny_bind (wpAny_letGo (wpAny_pure (wpAny_pure ?_)))
 refine wpAny_bind (wpAny_seqItems hTO5 rfl (wpAny_bind (wpAny_newTuple ?_)))
 have hsz:g5.objs.size=s.heap.objs.size:=by rw [e5.1,e4.1,e3.1,e2.1,e1.1]
 have hz5:cB g5 z TI TO .ellipsis fl:=e5.extBut _ _ D.TOz.symm (e4.extBut _ _ D.i2z.symm (e3.extBut _ _ D.TOz.symm (e2.extBut _ _ D.i1z.symm hz1)))
 have k5:∀ c o,c≠z→c≠TO→c≠i1→c≠i2→s.heap.get? c=some o→g5.get? c=some o:=fun c o c1 c2 c3 c4 q=>
  e5.extBut _ _ c2 (e4.extBut _ _ c4 (e3.extBut _ _ c2 (e2.extBut _ _ c3 (e1.extBut _ _ c1 q))))
 have u1:S1 (k+1) g5:=D1.frame _ _ _ r1 fun c hc o q=>e5.extBut c o (fun y=>D.TO1 (y ▸ hc)) (e4.extBut c o (fun y=>D.i21 (y ▸ hc)) q)
 have u2:S2 (k+1) g5:=D2.frame _ _ _ r2' fun c hc o q=>e5.extBut c o (fun y=>D.TO2 (y ▸ hc)) q
 have hzl:z < g5.objs.size:=Heap.lt_size hz5
 refine (show wpAny _ _ (Builtin.SmallTypes.ownedTupleHandOut (.ref z) (.ref g5.objs.size)>>=_) _ _ _ from wpAny_bind ?_)
 unfold Builtin.SmallTypes.ownedTupleHandOut
 have hz6:cB (g5.push { cls:=.type "tuple",data:=.seq #[x,y] }) z TI TO .ellipsis fl:=Heap.get?_push_of_some _ hz5
 refine wpAny_bind (wpAny_setField_rec hz6 (by simp) fun g7 hz7 e7=>?_)
 replace hz7:cB g7 z TI TO (rawInt g5.objs.size) fl:=hz7
 refine wpAny_setField_rec hz7 (by simp) fun g8 hz8 e8=>?_
 replace hz8:IsZip g8 z TI TO (rawInt g5.objs.size):=hz8
 replace e7:Heap.SameBut z (g5.push { cls:=.type "tuple",data:=.seq #[x,y] }) g7:=e7
 replace e8:Heap.SameBut z g7 g8:=e8
 have up:∀ c o,c≠z→g5.get? c=some o→g8.get? c=some o:=fun c o c1 q=>e8.extBut _ _ c1 (e7.extBut _ _ c1 (Heap.get?_push_of_some _ q))
 have hT8:IsPair g8 g5.objs.size x y:=e8.extBut _ _ (Nat.ne_of_gt hzl) (e7.extBut _ _ (Nat.ne_of_gt hzl) (Heap.get?_push_size _ rfl))
 have z8:g8.objs.size=g5.objs.size+1:=by rw [e8.1,e7.1,Heap.size_push]
 rw [hsz] at hz8 hT8 z8
 refine wpAny_pure ⟨_,rfl,?_⟩
 show Q (.ref g5.objs.size) _
 rw [hsz]
 exact hQ x y g8 _ p1 p2 hz8 (up _ _ D.TIz (k5 _ _ D.TIz D.TITO D.TI1 D.TI2 hTI)) (up _ _ D.TOz hTO5) (D1.frame _ _ _ u1 fun c hc o q=>up c o (fun y=>D.z1 (y ▸ hc)) q) (D2.frame _ _ _ u2 fun c hc o q=>up c o (fun y=>D.z2 (y ▸ hc)) q) hT8 z8
  fun c o c1 c2 c3 c4 q=>up c o c1 (k5 c o c1 c2 c3 c4 q)
theorem sE {Q:PySem.Fin→Shared→Prop} (D:cq z TI TO i1 i2 fp1 fp2) (D1:Draws prog w A i1 fp1 n1 P1 S1) (D2:Draws prog w A i2 fp2 n2 P2 S2) {own:Value} {fl:Bool} (hz:cB s.heap z TI TO own fl) (hfr:jB s.heap own) (hTI:IsPair s.heap TI (.ref i1) (.ref i2)) (hTO:IsPair s.heap TO a b)
  (h1:S1 k s.heap) (h2:S2 k s.heap) (hend:k=n1∨(k < n1∧k=n2))
  (hE:∀ h' e tk,(∀ c o,c≠z→c≠TO→c≠i1→c≠i2→s.heap.get? c=some o→h'.get? c=some o)→(∃ o,h'.get? e=some o∧o.cls=.type "StopIteration")→E (.ref e) { s with heap:=h',toks:=tk }) :
  wpAny (model prog w) A (Builtin.«zip.__next__» ⟨[.ref z],[]⟩) Q E s:=by
 refine (show wpAny _ _ (field (.ref z) 2>>=_) _ _ _ from wpAny_bind (wpAny_field hz rfl (x:=.bool false) rfl ?_))
 refine (show wpAny _ _ (field (.ref z) 3>>=_) _ _ _ from wpAny_bind (wpAny_field hz rfl (x:=.ref TI) rfl ?_))
 refine wpAny_bind (wpAny_seqItems hTI rfl ?_)
 refine (show wpAny _ _ (Builtin.SmallTypes.ownedTupleIsFree (.ref z)>>=_) _ _ _ from wpAny_bind (nH hz hfr ?_))
 simp only [if_true]
 refine wpAny_bind (wpAny_rule (wpAny_bind (wpAny_field hz rfl (x:=.ref TO) rfl ?_)))
 refine wpAny_bind (wpAny_setField_rec hz (by simp) fun g1 hz1 e1=>?_)
 replace hz1:cB g1 z TI TO .ellipsis fl:=hz1
 replace e1:Heap.SameBut z s.heap g1:=e1
 refine wpAny_bind ?_
 simp only [List.zipIdx_cons,List.zipIdx_nil,List.forIn_cons,List.forIn_nil]
 refine wpAny_bind (wpAny_bind (wpAny_onRaise ?_))
 have q1:S1 k g1:=D1.frame _ _ _ h1 fun c hc o q=>e1.extBut c o (fun y=>D.z1 (y ▸ hc)) q
 have q2:S2 k g1:=D2.frame _ _ _ h2 fun c hc o q=>e1.extBut c o (fun y=>D.z2 (y ▸ hc)) q
 rcases hend with hk | ⟨hk,hk2⟩
 ·subst hk
  refine (show wpAny _ _ (Builtin.SmallTypes.nextOf (.ref i1)>>=_) _ _ _ from wpAny_bind (D1.done _ _ _ q1 fun g2 e e2 he=>?_))
  obtain ⟨oe,hoe,hce⟩:=he
  replace e2:Heap.ExtBut i1 g1 g2:=e2
  have hz2:cB g2 z TI TO .ellipsis fl:=e2 _ _ D.i1z.symm hz1
  have hez:e≠z:=fun x=>by subst x;rw [hz2] at hoe;cases hoe;simp at hce
  refine wpAny_setField_rec hz2 (by simp) fun g3 _ e3=>hE g3 e _ (fun c o c1 _ c3 _ q=>e3.extBut _ _ c1 (e2 _ _ c3 (e1.extBut _ _ c1 q))) ⟨oe,e3.extBut _ _ hez hoe,hce⟩
 ·subst hk2
  refine (show wpAny _ _ (Builtin.SmallTypes.nextOf (.ref i1)>>=_) _ _ _ from wpAny_bind (D1.item k _ _ _ hk q1 fun x g2 t2 p1 q1' e2=>wpAny_pure ?_))
  replace e2:Heap.SameBut i1 g1 g2:=e2
  have hTO2:IsPair g2 TO a b:=e2.extBut _ _ D.TOi1 (e1.extBut _ _ D.TOz hTO)
  refine wpAny_bind (wpAny_seqItems hTO2 rfl (wpAny_bind (wpAny_updateSeq_pair hTO2 fun g3 hTO3 e3=>?_)))
  replace e3:Heap.SameBut TO g2 g3:=e3
  refine wpAny_bind (wpAny_letGo (wpAny_pure ?_))
  refine wpAny_bind (wpAny_bind (wpAny_onRaise ?_))
  have r2:S2 k g3:=D2.frame _ _ _ q2 fun c hc o q=>e3.extBut c o (fun y=>D.TO2 (y ▸ hc)) (e2.extBut c o (fun y=>D.i12 (y ▸ hc)) q)
  refine (show wpAny _ _ (Builtin.SmallTypes.nextOf (.ref i2)>>=_) _ _ _ from wpAny_bind (D2.done _ _ _ r2 fun g4 e e4 he=>?_))
  obtain ⟨oe,hoe,hce⟩:=he
  replace e4:Heap.ExtBut i2 g3 g4:=e4
  have hz4:cB g4 z TI TO .ellipsis fl:=e4 _ _ D.i2z.symm (e3.extBut _ _ D.TOz.symm (e2.extBut _ _ D.i1z.symm hz1))
  have hez:e≠z:=fun x=>by subst x;rw [hz4] at hoe;cases hoe;simp at hce
  refine wpAny_setField_rec hz4 (by simp) fun g5 _ e5=>hE g5 e _ (fun c o c1 c2 c3 c4 q=>e5.extBut _ _ c1 (e4 _ _ c4 (e3.extBut _ _ c2 (e2.extBut _ _ c3 (e1.extBut _ _ c1 q))))) ⟨oe,e5.extBut _ _ hez hoe,hce⟩
end
section
variable {prog:Program} {w:World} {A:Around} {E:Value→Shared→Prop} {s:Shared} {z TI TO i1 i2:Addr} {fp1 fp2:List Addr} {n1 n2 k:Nat} {P1 P2:Nat→Value→Prop} {S1 S2:Nat→Heap→Prop} {a b:Value}
theorem kB {Q:Option Value→Shared→Prop} (D:cq z TI TO i1 i2 fp1 fp2) (D1:Draws prog w A.in1 i1 fp1 n1 P1 S1) (D2:Draws prog w A.in1 i2 fp2 n2 P2 S2) {own:Value} {fl:Bool} (hz:cB s.heap z TI TO own fl) (hfr:jB s.heap own) (hTI:IsPair s.heap TI (.ref i1) (.ref i2)) (hTO:IsPair s.heap TO a b)
  (h1:S1 k s.heap) (h2:S2 k s.heap) (l1:k < n1) (l2:k < n2)
  (hQ:∀ x y h' tk,P1 k x→P2 k y→IsZip h' z TI TO (rawInt s.heap.objs.size)→IsPair h' TI (.ref i1) (.ref i2)→IsPair h' TO x y→S1 (k+1) h'→S2 (k+1) h'→IsPair h' s.heap.objs.size x y→h'.objs.size=s.heap.objs.size+1 →
   (∀ c o,c≠z→c≠TO→c≠i1→c≠i2→s.heap.get? c=some o→h'.get? c=some o)→Q (some (.ref s.heap.objs.size)) { s with heap:=h',toks:=tk }) :
  wpAny (model prog w) A (pyNext (.ref z)) Q E s:=by
 have hT:s.TypeIs (.ref z) "zip":=⟨_,hz,rfl⟩
 unfold pyNext
 exact wpAny_bind (wpAny_attempt (wpAny_callSpecial?_slot (name:=Str.ofString "__next__") hT F.slot_zip_next (wpAny_call_entry F.slot_zip_next hT F.entry_zip_next
  (qi D D1 D2 hz hfr hTI hTO h1 h2 l1 l2 fun x y h' tk a1 a2 a3 a4 a5 a6 a7 a8 a9 a10=>wpAny_pure (hQ x y h' tk a1 a2 a3 a4 a5 a6 a7 a8 a9 a10)) (F.args_zip_next_1 _))))
theorem mv {Q:Option Value→Shared→Prop} (D:cq z TI TO i1 i2 fp1 fp2) (D1:Draws prog w A.in1 i1 fp1 n1 P1 S1) (D2:Draws prog w A.in1 i2 fp2 n2 P2 S2) {own:Value} {fl:Bool} (hz:cB s.heap z TI TO own fl) (hfr:jB s.heap own) (hTI:IsPair s.heap TI (.ref i1) (.ref i2)) (hTO:IsPair s.heap TO a b)
  (h1:S1 k s.heap) (h2:S2 k s.heap) (hend:k=n1∨(k < n1∧k=n2))
  (hQ:∀ h' tk,(∀ c o,c≠z→c≠TO→c≠i1→c≠i2→s.heap.get? c=some o→h'.get? c=some o)→Q none { s with heap:=h',toks:=tk }):wpAny (model prog w) A (pyNext (.ref z)) Q E s:=by
 have hT:s.TypeIs (.ref z) "zip":=⟨_,hz,rfl⟩
 unfold pyNext
 refine wpAny_bind (wpAny_attempt (wpAny_callSpecial?_slot (name:=Str.ofString "__next__") hT F.slot_zip_next (wpAny_call_entry F.slot_zip_next hT F.entry_zip_next
  (sE D D1 D2 hz hfr hTI hTO h1 h2 hend fun h' e tk hk he=>?_) (F.args_zip_next_1 _))))
 obtain ⟨o,ho,hc⟩:=he
 exact wpAny_bind (wpAny_isInstance (T:="StopIteration") (b:=true) ⟨o,ho,hc⟩ isSubtype_stop (wpAny_pure (hQ _ tk hk)))
abbrev zT (h:Heap) (t:Addr):Heap:=h.push { cls:=.type "tuple_iterator",data:=.fields #[.ref t,.int 0 0] }
abbrev zTT (h:Heap) (t u:Addr):Heap:=zT (zT h t) u
abbrev zPI (h:Heap) (t u:Addr):Heap:=(zTT h t u).push { cls:=.type "tuple",data:=.seq #[.ref h.objs.size,.ref (zT h t).objs.size] }
abbrev zPO (h:Heap) (t u:Addr):Heap:=(zPI h t u).push { cls:=.type "tuple",data:=.seq #[.none,.none] }
abbrev j9 (h:Heap) (t u:Addr):Heap:=(zPO h t u).push { cls:=.type "zip",data:=.fields #[.none,.bool false,.bool false,.ref (zTT h t u).objs.size,.ref (zPI h t u).objs.size] }
theorem sW (t u:Addr) (xs ys:Array Value):Meets (Builtin.«zip.__new__» ⟨[.type "zip",.ref t,.ref u],[]⟩) (fun _ R s=>s.heap.IsTuple t xs∧s.heap.IsTuple u ys∧R (.ok (.ret (.ref (zPO s.heap t u).objs.size))) { s with heap:=j9 s.heap t u }):=
 .of_wp fun prog w A R s h=>by
  obtain ⟨hp,g,d,tk,os⟩:=s
  obtain ⟨ht,hu,h⟩:=h
  have hsub:=sub_zip
  have h1:Heap.IsTuple (Shared.heap ⟨hp,g,d,tk,os⟩) t xs:=ht
  have h2:Heap.IsTuple (Shared.heap ⟨hp.push { cls:=.type "tuple_iterator",data:=.fields #[.ref t,.int 0 0] },g,d,tk,os⟩) u ys:=by
   obtain ⟨o,e,r⟩:=hu
   exact ⟨o,Heap.get?_push_of_some _ e,r⟩
  wp_walk using wpAny_pyIter_tuple h1,wpAny_pyIter_tuple h2
  exact ⟨_,rfl,h⟩
theorem rJ {t u:Addr} {xs ys:Array Value} {Q:Value→Shared→Prop} (ht:s.heap.IsTuple t xs) (hu:s.heap.IsTuple u ys)
  (h:∀ h',IsZip h' (s.heap.objs.size+4) (s.heap.objs.size+2) (s.heap.objs.size+3) .none→IsPair h' (s.heap.objs.size+2) (.ref s.heap.objs.size) (.ref (s.heap.objs.size+1))→IsPair h' (s.heap.objs.size+3) .none .none →
   h'.IsTupleIter s.heap.objs.size t 0→h'.IsTupleIter (s.heap.objs.size+1) u 0→(∀ c o,s.heap.get? c=some o→h'.get? c=some o)→Q (.ref (s.heap.objs.size+4)) { s with heap:=h' }) :
  wpAny (model prog w) A (call (.type "zip") [.ref t,.ref u]) Q E s:=by
 refine callType_new F.called_zip (by decide) (F.typeCall_zip_2 _ _) (F.newCall_zip_2 _ _) (fun obj=>F.args_object_init_3 obj _ _) F.entry_zip_new (sW t u xs ys) ⟨ht,hu,?_⟩
 have s1:(zT s.heap t).objs.size=s.heap.objs.size+1:=Heap.size_push ..
 have s2:(zTT s.heap t u).objs.size=s.heap.objs.size+2:=by rw [Heap.size_push,s1]
 have s3:(zPI s.heap t u).objs.size=s.heap.objs.size+3:=by rw [Heap.size_push,s2]
 have s4:(zPO s.heap t u).objs.size=s.heap.objs.size+4:=by rw [Heap.size_push,s3]
 have g5:(j9 s.heap t u).get? (zPO s.heap t u).objs.size=some _:=Heap.get?_push_size _ rfl
 have g4:(j9 s.heap t u).get? (zPI s.heap t u).objs.size=some _:=Heap.get?_push_of_some _ (Heap.get?_push_size _ rfl)
 have g3:(j9 s.heap t u).get? (zTT s.heap t u).objs.size=some _:=Heap.get?_push_of_some _ (Heap.get?_push_of_some _ (Heap.get?_push_size _ rfl))
 have g2:(j9 s.heap t u).get? (zT s.heap t).objs.size=some _:=Heap.get?_push_of_some _ (Heap.get?_push_of_some _ (Heap.get?_push_of_some _ (Heap.get?_push_size _ rfl)))
 have g1:(j9 s.heap t u).get? s.heap.objs.size=some _:=Heap.get?_push_of_some _ (Heap.get?_push_of_some _ (Heap.get?_push_of_some _ (Heap.get?_push_of_some _ (Heap.get?_push_size _ rfl))))
 show _∧_
 rw [s2,s3,s4] at g5
 rw [s1,s2] at g3
 rw [s3] at g4
 rw [s1] at g2
 rw [s4]
 exact ⟨⟨_,g5,rfl⟩,h _ g5 g3 g4 ⟨_,g1,rfl,rfl⟩ ⟨_,g2,rfl,rfl⟩ fun c o q=>Heap.get?_push_of_some _ (Heap.get?_push_of_some _ (Heap.get?_push_of_some _ (Heap.get?_push_of_some _ (Heap.get?_push_of_some _ q))))⟩
end
def Itz (t u:Addr):It:=
  ⟨fun i H=>∃ xs ys x y,H t=some (.tup xs)∧H u=some (.tup ys)∧xs[i]?=some x∧ys[i]?=some y,fun i H v H'=>∃ p x y,H p=none∧v=.ref p∧H'=upd H p (.tup [x,y])∧(∀ xs,H t=some (.tup xs)→xs[i]?=some x)∧∀ ys,H u=some (.tup ys)→ys[i]?=some y,
   fun i H=>∃ xs ys,H t=some (.tup xs)∧H u=some (.tup ys)∧i≤xs.length∧i≤ys.length∧(i=xs.length∨i=ys.length)⟩
theorem jA {N t u:Addr} (ht:∀ c∈[N+4,N+2,N+3,N,N+1],t≠c) (hu:∀ c∈[N+4,N+2,N+3,N,N+1],u≠c):cq (N+4) (N+2) (N+3) N (N+1) [N,t] [N+1,u]:=by
 have d:∀ i j:Nat,i≠j→(N+i:Nat)≠N+j:=fun i j h e=>h (Nat.add_left_cancel e)
 have t4:=ht (N+4) (by simp);have t3:=ht (N+3) (by simp);have t1:=ht (N+1) (by simp)
 have u4:=hu (N+4) (by simp);have u3:=hu (N+3) (by simp);have u0:=hu N (by simp)
 refine ⟨d 2 4 (by decide),d 3 4 (by decide),d 2 3 (by decide),fun h=>?_,fun h=>?_,fun h=>?_,fun h=>?_,fun h=>?_,fun h=>?_,by simp,by simp,d 2 0 (by decide),d 2 1 (by decide)⟩
 ·rcases List.mem_cons.mp h with z | z
  ·exact d 4 0 (by decide) z
  ·exact t4 (List.mem_singleton.mp z).symm
 ·rcases List.mem_cons.mp h with z | z
  ·exact d 4 1 (by decide) z
  ·exact u4 (List.mem_singleton.mp z).symm
 ·rcases List.mem_cons.mp h with z | z
  ·exact d 3 0 (by decide) z
  ·exact t3 (List.mem_singleton.mp z).symm
 ·rcases List.mem_cons.mp h with z | z
  ·exact d 3 1 (by decide) z
  ·exact u3 (List.mem_singleton.mp z).symm
 ·rcases List.mem_cons.mp h with z | z
  ·exact d 0 1 (by decide) z
  ·exact u0 (List.mem_singleton.mp z).symm
 ·rcases List.mem_cons.mp h with z | z
  ·exact d 1 0 (by decide) z
  ·exact t1 (List.mem_singleton.mp z).symm
theorem tF {P:Program} {w:World} {K:PySem.W.Frag} {es:List Expr} {kk:Nat} {tp:Pos} (t u N:Addr) :
  Turn P w K (.Tuple es kk tp) (Itz t u) [N+4,N+2,N+3,N,N+1] (N+4)
   (fun i h=>IsZip h (N+4) (N+2) (N+3) .none∧IsPair h (N+2) (.ref N) (.ref (N+1))∧(∃ a b,IsPair h (N+3) a b)∧h.IsTupleIter N t i∧h.IsTupleIter (N+1) u i) where
 mem:=by simp
 obj:=fun i h st b hb=>by
  obtain ⟨h1,h2,⟨x,y,h3⟩,⟨o4,h4,_,d4⟩,⟨o5,h5,_,d5⟩⟩:=st
  simp only [List.mem_cons,List.not_mem_nil,or_false] at hb
  rcases hb with z | z | z | z | z
  ·rw [z];exact ⟨_,h1,fun v z=>by
    have z':Data.fields _=Data.cell v:=z
    cases z'⟩
  ·rw [z];exact ⟨_,h2,fun v z=>by
    have z':Data.seq _ _=Data.cell v:=z
    cases z'⟩
  ·rw [z];exact ⟨_,h3,fun v z=>by
    have z':Data.seq _ _=Data.cell v:=z
    cases z'⟩
  ·rw [z];exact ⟨o4,h4,fun v z=>by rw [d4] at z;cases z⟩
  ·rw [z];exact ⟨o5,h5,fun v z=>by rw [d5] at z;cases z⟩
 keep:=fun i h h' st k=>by
  obtain ⟨h1,h2,⟨x,y,h3⟩,h4,h5⟩:=st
  exact ⟨k _ (by simp) _ h1,k _ (by simp) _ h2,⟨x,y,k _ (by simp) _ h3⟩,h4.at fun o q=>k _ (by simp) o q,h5.at fun o q=>k _ (by simp) o q⟩
 item:=by
  intro X hP hw hK hc i pins s σ H E I hf st hg
  subst hP hw hK
  obtain ⟨h1,h2,⟨a0,b0,h3⟩,h4,h5⟩:=st
  obtain ⟨xs,ys,x,y,hx,hy,ex,ey⟩:=hg
  obtain ⟨its,rv,p,hz⟩:=I.tuple (SqT.of hx)
  obtain ⟨its2,rv2,p2,hz2⟩:=I.tuple (SqT.of hy)
  obtain ⟨a,ha,ra⟩:=rv.get ex
  obtain ⟨b,hb,rb⟩:=rv2.get ey
  have D0:=jA (N:=N) (t:=t) (u:=u) (fun c hc e=>by rw [e,(hf c hc).1] at hx;cases hx) (fun c hc e=>by rw [e,(hf c hc).1] at hy;cases hy)
  have hA:X.A.in1.handled=none:=I.ok.hd hc
  have tn:t≠N:=fun e=>by rw [e,(hf N (by simp)).1] at hx;cases hx
  have un:u≠N+1:=fun e=>by rw [e,(hf (N+1) (by simp)).1] at hy;cases hy
  have la:i < its.toArray.size:=by
   have:=(List.getElem?_eq_some_iff.mp ha).1
   simpa using this
  have lb:i < its2.toArray.size:=by
   have:=(List.getElem?_eq_some_iff.mp hb).1
   simpa using this
  refine kB D0 (f_ (prog:=X.prog) (w:=X.w) hA N t tn its.toArray) (f_ (prog:=X.prog) (w:=X.w) hA (N+1) u un its2.toArray) h1 (.inl rfl) h2 h3 ⟨h4,p⟩ ⟨h5,p2⟩ la lb fun x' y' g1 tk px py z1 z2 z3 z4 z5 z6 z7 k1=>?_
  obtain rfl:x'=a:=by
   have e:its.toArray[i]?=some x':=px
   rw [List.getElem?_toArray,ha] at e
   exact (Option.some.inj e).symm
  obtain rfl:y'=b:=by
   have e:its2.toArray[i]?=some y':=py
   rw [List.getElem?_toArray,hb] at e
   exact (Option.some.inj e).symm
  refine ⟨_,rfl,wpAny_letOwnedTupleGo_zip (s:={ s with heap:=g1,toks:=tk }) z1 fun g2 y1 e2=>?_⟩
  replace e2:Heap.SameBut (N+4) g1 g2:=e2
  have hl4:N+4 < s.heap.objs.size:=Heap.lt_size h1
  have d:∀ i j:Nat,i≠j→(N+i:Nat)≠N+j:=fun i j h e=>h (Nat.add_left_cancel e)
  have ht2:IsPair g2 s.heap.objs.size x' y':=e2.extBut _ _ (Nat.ne_of_gt hl4) z6
  have k2:∀ c o,c∉[N+4,N+2,N+3,N,N+1]→s.heap.get? c=some o→g2.get? c=some o:=fun c o hc q=>by
   have c4:c≠N+4:=fun z=>hc (by simp [z])
   have c3:c≠N+3:=fun z=>hc (by simp [z])
   have c0:c≠N:=fun z=>hc (by simp [z])
   have c1:c≠N+1:=fun z=>hc (by simp [z])
   exact e2.extBut c o c4 (k1 c o c4 c3 c0 c1 q)
  have I2:Inv X pins σ (upd H s.heap.objs.size (.tup [x,y])) { s with heap:=g2,toks:=tk }:=by
   refine I.ju (fp:=[N+4,N+2,N+3,N,N+1]) (Nat.le_refl _) k2 hf ?_
   exact ⟨by show 2≤sizeLine;decide,[x',y'],.cons ra (.cons rb .nil),⟨_,ht2,rfl,_,rfl⟩⟩
  refine ⟨.ref s.heap.objs.size,_,I2,rfl,⟨s.heap.objs.size,x,y,I.hok.fresh (Nat.le_refl _),rfl,rfl,fun zs hy=>?_,fun zs hy'=>?_⟩,⟨y1,e2.extBut _ _ (d 2 4 (by decide)) z2,⟨_,_,e2.extBut _ _ (d 3 4 (by decide)) z3⟩,z4.1.extBut e2.extBut (d 0 4 (by decide)),z5.1.extBut e2.extBut (d 1 4 (by decide))⟩,fun b hb=>?_⟩
  ·rw [hx] at hy;cases hy;exact ex
  ·rw [hy] at hy';cases hy';exact ey
  ·have hlt:b < s.heap.objs.size:=by
    simp only [List.mem_cons,List.not_mem_nil,or_false] at hb
    rcases hb with z | z | z | z | z
    ·rw [z];exact hl4
    ·rw [z];exact Heap.lt_size h2
    ·rw [z];exact Heap.lt_size h3
    ·obtain ⟨o,q,_⟩:=h4;rw [z];exact Heap.lt_size q
    ·obtain ⟨o,q,_⟩:=h5;rw [z];exact Heap.lt_size q
   rw [aB (Nat.ne_of_lt hlt)]
   exact (hf b hb).1
 done:=by
  intro X hP hw hK hc i pins s σ H E I hf st hg
  subst hP hw hK
  obtain ⟨h1,h2,⟨a0,b0,h3⟩,h4,h5⟩:=st
  obtain ⟨xs,ys,hx,hy,lx,ly,hend⟩:=hg
  obtain ⟨its,rv,p,hz⟩:=I.tuple (SqT.of hx)
  obtain ⟨its2,rv2,p2,hz2⟩:=I.tuple (SqT.of hy)
  have D0:=jA (N:=N) (t:=t) (u:=u) (fun c hc e=>by rw [e,(hf c hc).1] at hx;cases hx) (fun c hc e=>by rw [e,(hf c hc).1] at hy;cases hy)
  have hA:X.A.in1.handled=none:=I.ok.hd hc
  have tn:t≠N:=fun e=>by rw [e,(hf N (by simp)).1] at hx;cases hx
  have un:u≠N+1:=fun e=>by rw [e,(hf (N+1) (by simp)).1] at hy;cases hy
  have l1:=rv.length
  have l2:=rv2.length
  refine mv D0 (f_ (prog:=X.prog) (w:=X.w) hA N t tn its.toArray) (f_ (prog:=X.prog) (w:=X.w) hA (N+1) u un its2.toArray) h1 (.inl rfl) h2 h3 ⟨h4,p⟩ ⟨h5,p2⟩ ?_ fun h' tk hk=>⟨rfl,?_⟩
  ·simp only [List.size_toArray]
   omega
  ·refine I.nF (fp:=[N+4,N+2,N+3,N,N+1]) (fun c o hc q=>?_) hf
   exact hk c o (fun z=>hc (by simp [z])) (fun z=>hc (by simp [z])) (fun z=>hc (by simp [z])) (fun z=>hc (by simp [z])) q
 self:=fun _ _ _ _ _ st h=>wpAny_pyIter_zip st.1 h
section
variable {prog:Program} {w:World} {A:Around} {E:Value→Shared→Prop} {s:Shared}
theorem tO {t sl:Addr} {items:Array Value} {vl vu:Value} {lo hi:Option Int} {Q:Value→Shared→Prop} (ht:IsTup s.heap t items) (hs:s.heap.IsSliceOf sl vl vu .none) (pl:IsPart vl lo) (pu:IsPart vu hi)
    (hw:HT.sIx items.size 0 lo=0∧HT.sIx items.size items.size hi=items.size) (h:Q (.ref t) s):wpAny (model prog w) A (getItem (.ref t) (.ref sl)) Q E s:=by
  obtain ⟨os,hos,hcs,hds⟩:=id hs
  have hTs:s.TypeIs (.ref sl) "slice":=⟨os,hos,hcs⟩
  unfold getItem
  try with_reducible refine wpAny_holding ?_
  first | refine wpAny_bind (wpAny_pure ?_) | skip
  refine wpAny_bind (wpAny_sequenceKey ht.typeIs (by decide) ?_)
  refine wpAny_bind (wpAny_callSpecial?_slot (name:=Str.ofString "__getitem__") ht.typeIs PyProof.Rows.slot_tuple_getitem (wpAny_call_entry PyProof.Rows.slot_tuple_getitem ht.typeIs entry_tuple_getitem ?_ (args_tuple_getitem _ _)))
  refine (show wpAny _ _ (Builtin.Tuple.tupleItemsOf (.ref t)>>=_) _ _ s from wpAny_bind (tupleItemsOf_ ht (wpAny_bind (wpAny_typeOf hTs ?_))))
  rw [if_pos (by decide)]
  refine wpAny_bind (HT.fB hs pl pu ?_)
  have yes:(((HT.sIx items.size 0 lo:Nat):Int) == 0 && (1:Int) == 1 && (HT.sIx items.size items.size hi - HT.sIx items.size 0 lo) == items.size)=true:=by
    rw [hw.1,hw.2];simp
  show wpAny _ _ (if (((HT.sIx items.size 0 lo:Nat):Int) == 0 && (1:Int) == 1 && (HT.sIx items.size items.size hi - HT.sIx items.size 0 lo) == items.size)=true then _ else _) _ _ s
  rw [if_pos yes]
  obtain ⟨o,ho,hcl,n,hd⟩:=id ht
  have hT:s.TypeIs (.ref t) "tuple":=⟨o,ho,hcl⟩
  have hx:wpAny (model prog w) A.in1 (Builtin.Tuple.tupleIsExact (.ref t)) (fun b s'=>b=true∧s'=s) E s:=by
    unfold Builtin.Tuple.tupleIsExact
    first
      | exact wpAny_bind (wpAny_typeOf hT (wpAny_pure ⟨by decide,rfl⟩))
      | (refine wpAny_bind (wpAny_typeOf hT ?_);exact wpAny_pure ⟨by simp,rfl⟩)
  refine wpAny_bind (wpAny_mono hx (fun b s' hb=>?_) fun _ _ x=>x)
  obtain ⟨rfl,rfl⟩:=hb
  rw [if_pos rfl]
  exact wpAny_bind (wpAny_rule (wpAny_pure ⟨_,rfl,wpAny_pure h⟩))
theorem pj {sl:Addr} {tk:Tok} {n:Nat} {Q:Int×Int×Nat→Shared→Prop} (hs:s.heap.IsSliceOf sl .none .none (.int (-1) tk)) (h:Q ((n:Int) - 1,-1,n) s):wpAny (model prog w) A (Builtin.Slice.sliceApplied (.ref sl) (pure (n:Int))) Q E s:=by
 obtain ⟨os,hos,hcs,hds⟩:=id hs
 unfold Builtin.Slice.sliceApplied Builtin.Slice.sliceFields
 refine wpAny_bind (wpAny_bind (wpAny_field hos hds (x:=.none) rfl (wpAny_bind (wpAny_field hos hds (x:=.none) rfl (wpAny_bind (wpAny_field hos hds (x:=.int (-1) tk) rfl (wpAny_pure ?_)))))))
 refine wpAny_bind (slicePart_int ?_)
 show wpAny _ _ (if ((-1:Int) == 0)=true then _ else _) _ _ s
 rw [if_neg (by decide)]
 refine wpAny_bind (slicePart_none (wpAny_bind (slicePart_none (wpAny_bind (wpAny_pure ?_)))))
 show wpAny _ _ (pure ((n:Int) - 1,(-1:Int),Builtin.Slice.slicePlaces ((n:Int) - 1) (-1) (-1))) _ _ s
 have e:Builtin.Slice.slicePlaces ((n:Int) - 1) (-1) (-1)=n:=by
  unfold Builtin.Slice.slicePlaces
  have h1:¬((-1:Int) > 0):=by decide
  simp only [h1,if_false]
  have h2:(-(-1:Int))=1:=by decide
  rw [h2,Int.ediv_one]
  split<;>omega
 rw [e]
 exact wpAny_pure h
theorem vd (xs:List Value):((List.range xs.length).filterMap fun (m:Nat)=>xs.toArray[(((xs.length:Nat):Int) - 1+(m:Int) * (-1)).toNat]?)=xs.reverse:=by
 apply List.ext_getElem?
 intro i
 have key:∀ (k:Nat),k≤xs.length→((List.range k).filterMap fun (m:Nat)=>xs.toArray[(((xs.length:Nat):Int) - 1+(m:Int) * (-1)).toNat]?)=xs.reverse.take k:=by
  intro k
  induction k with
  | zero=>intro _;simp
  | succ k ih=>
   intro hk
   have e:(((xs.length:Nat):Int) - 1+(k:Int) * (-1)).toNat=xs.length - 1 - k:=by omega
   rw [List.range_succ,List.filterMap_append,ih (by omega),List.take_add_one]
   congr 1
   simp only [List.filterMap_cons,List.filterMap_nil,e]
   rw [List.getElem?_reverse (by omega)]
   have h2:xs.length - 1 - k < xs.length:=by omega
   simp [h2]
 rw [key xs.length (Nat.le_refl _),List.take_of_length_le (by simp)]
theorem tG {t sl:Addr} {its:List Value} {tk:Tok} {Q:Value→Shared→Prop} (ht:IsTup s.heap t its.toArray) (hs:s.heap.IsSliceOf sl .none .none (.int (-1) tk)) (hsz:its.length≤sizeLine)
    (h:Q (.ref s.heap.objs.size) { s with heap:=s.heap.push { cls:=.type "tuple",data:=.seq its.reverse.toArray } }):wpAny (model prog w) A (getItem (.ref t) (.ref sl)) Q E s:=by
  obtain ⟨os,hos,hcs,hds⟩:=id hs
  have hTs:s.TypeIs (.ref sl) "slice":=⟨os,hos,hcs⟩
  unfold getItem
  try with_reducible refine wpAny_holding ?_
  first | refine wpAny_bind (wpAny_pure ?_) | skip
  refine wpAny_bind (wpAny_sequenceKey ht.typeIs (by decide) ?_)
  refine wpAny_bind (wpAny_callSpecial?_slot (name:=Str.ofString "__getitem__") ht.typeIs PyProof.Rows.slot_tuple_getitem (wpAny_call_entry PyProof.Rows.slot_tuple_getitem ht.typeIs entry_tuple_getitem ?_ (args_tuple_getitem _ _)))
  refine (show wpAny _ _ (Builtin.Tuple.tupleItemsOf (.ref t)>>=_) _ _ s from wpAny_bind (tupleItemsOf_ ht (wpAny_bind (wpAny_typeOf hTs ?_))))
  rw [if_pos (by decide)]
  refine wpAny_bind (pj hs ?_)
  have no:¬(((((its.toArray.size:Nat):Int) - 1 == 0) && ((-1:Int) == 1) && (its.toArray.size == its.toArray.size))=true):=by
    intro q
    rw [Bool.and_eq_true,Bool.and_eq_true] at q
    exact absurd q.1.2 (by decide)
  show wpAny _ _ (if ((((its.toArray.size:Nat):Int) - 1 == 0) && ((-1:Int) == 1) && (its.toArray.size == its.toArray.size))=true then _ else _) _ _ s
  rw [if_neg no]
  have z:its.toArray.size=its.length:=List.size_toArray ..
  rw [z]
  rw [vd]
  have htake:sizeOk (.seq its.reverse.toArray):=by
    show its.reverse.toArray.size≤sizeLine
    rw [List.size_toArray,List.length_reverse];exact hsz
  first
    | exact wpAny_bind (m:=Builtin.Tuple.tupleExact _) (wpAny_newObj_type (wpAny_pure ⟨_,rfl,wpAny_pure h⟩) htake)
    | exact wpAny_bind (m:=Builtin.Tuple.tupleExact _) (wpAny_newObj_type (wpAny_bind (wpAny_pure (wpAny_pure ⟨_,rfl,wpAny_pure h⟩))) htake)
    | exact wpAny_bind (wpAny_bind (m:=Builtin.Tuple.tupleExact _) (wpAny_newObj_type (wpAny_pure (wpAny_pure ⟨_,rfl,wpAny_pure h⟩)) htake))
    | exact wpAny_bind (wpAny_bind (m:=Builtin.Tuple.tupleExact _) (wpAny_newObj_type (wpAny_pure ⟨_,rfl,wpAny_pure h⟩) htake))
theorem yG {t b:Addr} {ws:List Value} {Q:Value→Shared→Prop} (ht:IsTup s.heap t ([]:List Value).toArray) (hb:IsTup s.heap b ws.toArray) (h:Q (.ref b) s):wpAny (model prog w) A (binaryOp .Add (.ref t) (.ref b)) Q E s:=by
 obtain ⟨⟨cls,dd,data,sl⟩,ho,hc,n,hd⟩:=id ht
 obtain ⟨⟨cls2,dd2,data2,sl2⟩,ho2,hc2,n2,hd2⟩:=id hb
 simp only at hc hd hc2 hd2
 subst hc hd hc2 hd2
 exact concat_meets ⟨_,ho,rfl⟩ ⟨_,ho2,rfl⟩ noFill_tuple_add seq_tuple_add PySem.F.slot_tuple_add PySem.F.entry_tuple_add (PySem.F.args_tuple_add_2 _ _) (tuple_addW0 t b _ _ n n2 dd dd2 sl sl2 (by simp)) ⟨ho,ho2,h⟩
end
section
variable {X:Cx}
def fi (n:Nat) (lo hi:Option Int):Prop:=HT.sIx n 0 lo=0∧HT.sIx n n hi=n
instance (n:Nat) (lo hi:Option Int):Decidable (fi n lo hi):=inferInstanceAs (Decidable (_∧_))
def Bn (K:PySem.W.Frag):V→Option Int→Option Int→Hp→VK→Prop:=fun x lo hi H Q=>∃ a xs,x=.ref a∧SqT K H a xs∧(fi xs.length lo hi→Q (.ref a) H)∧(¬fi xs.length lo hi→∀ p,H p=none→Q (.ref p) (upd H p (.tup (e_ xs lo hi))))
theorem vx:SlR X (Bn X.K):=by
 intro pins s σ H x v vl vu lo hi sl Q I rx hs pl pu h
 obtain ⟨a,xs,rfl,hx,q1,q2⟩:=h
 by_cases hw:fi xs.length lo hi
 ·cases rx
  obtain ⟨its,r,ht,hz⟩:=I.tuple hx
  have hlen:its.toArray.size=xs.length:=by rw [List.size_toArray];exact r.length.symm
  refine ⟨"tuple",_,PyProof.Rows.slot_tuple_getitem.lookup,ht.typeIs,?_⟩
  exact tO ht hs pl pu (by rw [hlen];exact hw) ⟨.ref a,H,I,rfl,q1 hw⟩
 ·exact wq pins s σ H (.ref a) v vl vu lo hi sl Q I rx hs pl pu ⟨a,xs,rfl,hx,hw,q2 hw⟩
def zB (K:PySem.W.Frag):R2:=fun x y H Q=>∃ a b xs ys,x=.ref a∧y=.ref b∧SqT K H a xs∧SqT K H b ys∧xs.length+ys.length≤sizeLine ∧
 (xs=[]→Q (.ref b) H)∧(xs≠[]→ys=[]→Q (.ref a) H)∧(xs≠[]→ys≠[]→∀ p,H p=none→Q (.ref p) (upd H p (.tup (xs++ys))))
theorem sX:OpR X (binaryOp .Add) (zB X.K):=by
 intro pins s σ H x y v u Q I rx ry h
 obtain ⟨a,b,xs,ys,rfl,rfl,ha,hb,hz,q1,q2,q3⟩:=h
 by_cases hx:xs=[]
 ·cases rx
  cases ry
  obtain ⟨its,r1,p1,_⟩:=I.tuple ha
  obtain ⟨its2,r2,p2,_⟩:=I.tuple hb
  obtain rfl:its=[]:=r1.iU.mpr hx
  exact yG p1 p2 ⟨.ref b,H,I,rfl,q1 hx⟩
 ·exact vH pins s σ H (.ref a) (.ref b) v u Q I rx ry ⟨a,b,xs,ys,rfl,rfl,ha,hb,hx,hz,q2 hx,q3 hx⟩
def tH:R2:=fun x y H Q=>∃ d e,Rep H x d∧Rep H y e∧D.depth d≤50∧((∃ ds es,d=.tup ds∧e=.tup es)∨∃ ds es,d=.lst ds∧e=.lst es)∧Q (.bl (D.eqv d e)) H
def s_:R2:=fun x y H Q=>∃ d e,Rep H x d∧Rep H y e∧D.depth d≤50∧((∃ ds es,d=.tup ds∧e=.tup es)∨∃ ds es,d=.lst ds∧e=.lst es)∧Q (.bl (!D.eqv d e)) H
theorem gF {pins:List (Addr×Obj)} {σ:St} {H:Hp} {s:Shared} {A:Around} {vs us:List V} {ds es:List D} {its its2:List Value} (I:Inv X pins σ H s) (hu:A.units+64 < cLine) (hd:D.bN ds≤50) (r1:Vals vs its) (r2:Vals us its2) (q1:aq H vs ds) (q2:aq H us es) :
  ∀ j (h1:j < its.toArray.size) (h2:j < its2.toArray.size),SeqAt.EqAt A.in1 s its.toArray[j] its2.toArray[j] (D.eqv (ds.getD j .non) (es.getD j .non)):=by
 intro j h1 h2
 have h1':j < its.length:=by simpa using h1
 have h2':j < its2.length:=by simpa using h2
 have l1:=r1.length
 have l2:=r2.length
 have e1:vs[j]?=some (vs[j]'(by omega)):=List.getElem?_eq_getElem _
 have e2:us[j]?=some (us[j]'(by omega)):=List.getElem?_eq_getElem _
 obtain ⟨a1,b1,c1⟩:=r1.get e1
 obtain ⟨a2,b2,c2⟩:=r2.get e2
 obtain ⟨f1,g1,k1⟩:=q1.get e1
 obtain ⟨f2,g2,k2⟩:=q2.get e2
 have z1:its.toArray[j]=a1:=by
  have:its[j]?=some its[j]:=List.getElem?_eq_getElem h1'
  rw [b1] at this
  simpa using (Option.some.inj this).symm
 have z2:its2.toArray[j]=a2:=by
  have:its2[j]?=some its2[j]:=List.getElem?_eq_getElem h2'
  rw [b2] at this
  simpa using (Option.some.inj this).symm
 rw [z1,z2,List.getD_eq_getElem?_getD,List.getD_eq_getElem?_getD,g1,g2]
 exact rl I 60 A.in1 _ _ _ _ _ _ (by show A.units+1+60 < cLine;omega) (Nat.le_trans (D.eU g1) (by omega)) c1 c2 k1 k2
theorem yF (hu:X.A.units+64 < cLine):OpR X (compareOp .Eq) tH:=by
 intro pins s σ H x y v u Q I rx ry h
 obtain ⟨d,e,r1,r2,hd,hk,q⟩:=h
 rcases hk with ⟨ds,es,rfl,rfl⟩ | ⟨ds,es,rfl,rfl⟩
 ·cases r1 with
  | tup h1 q1=>
   cases r2 with
   | tup h2 q2=>
    cases rx;cases ry
    obtain ⟨its,rv1,p1,_⟩:=I.tuple (SqT.of h1)
    obtain ⟨its2,rv2,p2,_⟩:=I.tuple (SqT.of h2)
    refine SeqAt.eq_tupleAt (e:=fun j=>D.eqv (ds.getD j .non) (es.getD j .non)) p1 p2 (by omega) (gF I hu (by simp only [D.depth] at hd;omega) rv1 rv2 q1 q2) ⟨.bl _,H,I,rfl,?_⟩
    rw [List.size_toArray,List.size_toArray,← rv1.length,← rv2.length,q1.length,q2.length,← D.bQ]
    simpa only [D.eqv] using q
 ·cases r1 with
  | lst h1 q1=>
   cases r2 with
   | lst h2 q2=>
    cases rx;cases ry
    obtain ⟨its,rv1,p1,_⟩:=I.list (SqL.of h1)
    obtain ⟨its2,rv2,p2,_⟩:=I.list (SqL.of h2)
    have l1:=rv1.length
    have l2:=rv2.length
    have m1:=q1.length
    have m2:=q2.length
    by_cases hl:ds.length=es.length
    ·refine SeqAt.eq_listAt (e:=fun j=>D.eqv (ds.getD j .non) (es.getD j .non)) p1.isList p2.isList (by simp;omega) (by omega) (gF I hu (by simp only [D.depth] at hd;omega) rv1 rv2 q1 q2) ⟨.bl _,H,I,rfl,?_⟩
     have z:D.bt ds es=(List.range its.toArray.size).all fun j=>D.eqv (ds.getD j .non) (es.getD j .non):=by
      rw [D.bQ,← hl,Nat.min_self,List.size_toArray,← l1,m1];simp
     rw [← z]
     simpa only [D.eqv] using q
    ·refine SeqAt.eq_list_lengthsAt p1.isList p2.isList (by simp;omega) (by omega) ⟨.bl _,H,I,rfl,?_⟩
     have z:D.bt ds es=false:=by rw [D.bQ];simp [hl]
     simpa only [D.eqv,z] using q
theorem yi (hu:X.A.units+64 < cLine):OpR X (compareOp .NotEq) s_:=by
 intro pins s σ H x y v u Q I rx ry h
 obtain ⟨d,e,r1,r2,hd,hk,q⟩:=h
 rcases hk with ⟨ds,es,rfl,rfl⟩ | ⟨ds,es,rfl,rfl⟩
 ·cases r1 with
  | tup h1 q1=>
   cases r2 with
   | tup h2 q2=>
    cases rx;cases ry
    obtain ⟨its,rv1,p1,_⟩:=I.tuple (SqT.of h1)
    obtain ⟨its2,rv2,p2,_⟩:=I.tuple (SqT.of h2)
    refine SeqAt.RcNeAt.tuples (e:=fun j=>D.eqv (ds.getD j .non) (es.getD j .non)) p1 p2 (by omega) (gF I hu (by simp only [D.depth] at hd;omega) rv1 rv2 q1 q2) _ _ _ _ ⟨.bl _,H,I,rfl,?_⟩
    rw [List.size_toArray,List.size_toArray,← rv1.length,← rv2.length,q1.length,q2.length,← D.bQ]
    simpa only [D.eqv] using q
 ·cases r1 with
  | lst h1 q1=>
   cases r2 with
   | lst h2 q2=>
    cases rx;cases ry
    obtain ⟨its,rv1,p1,_⟩:=I.list (SqL.of h1)
    obtain ⟨its2,rv2,p2,_⟩:=I.list (SqL.of h2)
    have l1:=rv1.length
    have l2:=rv2.length
    have m1:=q1.length
    have m2:=q2.length
    by_cases hl:ds.length=es.length
    ·refine SeqAt.RcNeAt.lists (e:=fun j=>D.eqv (ds.getD j .non) (es.getD j .non)) p1.isList p2.isList (by simp;omega) (by omega) (gF I hu (by simp only [D.depth] at hd;omega) rv1 rv2 q1 q2) _ _ _ _ ⟨.bl _,H,I,rfl,?_⟩
     have z:D.bt ds es=(List.range its.toArray.size).all fun j=>D.eqv (ds.getD j .non) (es.getD j .non):=by
      rw [D.bQ,← hl,Nat.min_self,List.size_toArray,← l1,m1];simp
     rw [← z]
     simpa only [D.eqv] using q
    ·refine SeqAt.RcNeAt.lists_lengths p1.isList p2.isList (by simp;omega) (by omega) _ _ _ _ ⟨.bl _,H,I,rfl,?_⟩
     have z:D.bt ds es=false:=by rw [D.bQ];simp [hl]
     simpa only [D.eqv,z,Bool.not_false] using q
theorem xx (hu:X.A.units+64 < cLine):OpR X (compareOp .Eq) (fun x y H Q=>rEq x y H Q∨tH x y H Q):=A4.or (yF hu)
theorem yt (hu:X.A.units+64 < cLine):OpR X (compareOp .NotEq) (fun x y H Q=>rNe x y H Q∨s_ x y H Q):=Bp.or (yi hu)
theorem yj:OpR X (compareOp .Is) (fun x y H Q=>sG x y H Q∨(y=.non∧Q (.bl (decide (x=.non))) H)):=sL.or wQ
theorem iY:∀ {bs:List Bool} {us:List Value},Vals (bs.map V.bl) us→us=bs.map Value.bool
 | [],_,h=>by cases h;rfl
 | b :: bs,_,h=>by
  cases h with
  | cons r t=>cases r;rw [iY t];rfl
theorem qa (hc:X.calm=true):bH X (.builtin "all") (fun xs H Q=>∃ (p:Addr) (bs:List Bool),xs=[.ref p]∧SqL X.K H p (bs.map V.bl)∧Q (.bl (bs.all id)) H):=by
 intro pins s σ H xs us Q I r h
 obtain ⟨p,bs,rfl,hq,q⟩:=h
 obtain ⟨u,rfl,rx⟩:=vals1 r
 cases rx
 obtain ⟨its,rv,pl,hz⟩:=I.list hq
 have hits:=iY rv
 subst hits
 have hA:X.A.in1.handled=none:=I.ok.hd hc
 obtain ⟨o,ho,hcl,n,hd⟩:=pl.isList
 have hne:p≠s.heap.objs.size:=Nat.ne_of_lt (Heap.lt_size ho)
 refine call_all_walk (wpAny_pyIter_list pl.isList ?_)
 refine ⟨s.heap.objs.size,_,_,_,_,_,fun i=>bs.getD i true,rfl,Walks.list (prog:=X.prog) (w:=X.w) hA s.heap.objs.size p hne (bs.map Value.bool).toArray,⟨⟨_,Heap.get?_push_size _ rfl,rfl,rfl⟩,⟨o,Heap.get?_push_of_some _ ho,hcl,n,hd⟩⟩,?_,fun h' tk hk=>?_⟩
 ·intro i v s' Q' E' hP hQ
  have hP':(bs.map Value.bool).toArray[i]?=some v:=hP
  rw [List.getElem?_toArray,List.getElem?_map] at hP'
  cases e:bs[i]? with
  | none=>rw [e] at hP';cases hP'
  | some b=>
   rw [e] at hP'
   cases hP'
   have hQ:Q' (bs.getD i true) s':=hQ
   rw [List.getD_eq_getElem?_getD,e] at hQ
   exact wpAny_truthy_bool hQ
 ·have z:(List.range (bs.map Value.bool).toArray.size).all (fun i=>bs.getD i true)=bs.all id:=by
   rw [List.size_toArray,List.length_map,Bool.eq_iff_iff,List.all_eq_true,List.all_eq_true]
   constructor
   ·intro h b hb
    obtain ⟨i,hi,e⟩:=List.mem_iff_getElem.mp hb
    have:=h i (List.mem_range.mpr hi)
    rw [List.getD_eq_getElem?_getD,List.getElem?_eq_getElem hi] at this
    simpa [e] using this
   ·intro h i hi
    have hi':=List.mem_range.mp hi
    rw [List.getD_eq_getElem?_getD,List.getElem?_eq_getElem hi']
    exact h _ (List.getElem_mem hi')
  rw [z]
  have I1:Inv X pins σ H { s with heap:=s.heap.push { cls:=.type "list_iterator",data:=.fields #[.ref p,.int 0 0] } }:=I.kept (t':=s.toks) fun b o e=>Heap.get?_push_of_some _ e
  have fk:d9 X pins H s.heap.objs.size:=I.jn (Nat.le_refl _) (I.hok.fresh (Nat.le_refl _))
  obtain ⟨f0,f1,f2,f3,f4,f5⟩:=fk
  exact ⟨.bl _,H,I1.turned (t':=tk) (it:=s.heap.objs.size) (fun b o hb e=>hk b o (fun z=>hb (List.mem_singleton.mp z)) e) f0 f1 f3 f4 f5,rfl,q⟩
theorem mS:bH X (.builtin "sorted") (fun xs H Q=>∃ (p:Addr) (ns:List Int),xs=[.ref p]∧SqL X.K H p (ns.map V.int)∧ns.length < 64∧∀ (l:Addr) (ms:List Int),H l=none→List.Perm ms ns→ms.Pairwise (·≤·)→Q (.ref l) (upd H l (.lst (ms.map V.int)))):=by
 intro pins s σ H xs us Q I r h
 obtain ⟨p,ns,rfl,hq,hl,q⟩:=h
 obtain ⟨u,rfl,rx⟩:=vals1 r
 cases rx
 obtain ⟨its,rv,pl,hz⟩:=I.list hq
 have hI:IntsAre its ns:=intsAre_of rv
 have h64:its.length < 64:=by rw [← rv.length,List.length_map];exact hl
 refine sorted_ints pl.isList hI h64 fun out ms hout hperm hpair=>?_
 obtain ⟨e,he⟩:=sortedAll_at s.heap its out
 refine ⟨.ref (s.heap.objs.size+1),_,I.laid (t':=s.toks) (o:=.lst (ms.map V.int)) (fun b ob q=>sortedAll_old q) (Nat.le_succ _) ?_,rfl,q _ ms (I.hok.fresh (Nat.le_succ _)) hperm hpair⟩
 have hlm:ms.length=ns.length:=hperm.length_eq
 exact ⟨by rw [List.length_map];have:(64:Nat)≤sizeLine:=(by decide);omega,out.toList,e,et hout,by simpa using he⟩
end
def fu (H:Hp) (p:Addr):Option (List V):=match H p with
 | some (.lst xs)=>some xs
 | some (.tup xs)=>some xs
 | _=>none
theorem yk {H:Hp} {p:Addr} {xs:List V} (h:H p=some (.tup xs)):fu H p=some xs:=by unfold fu;rw [h]
theorem yN {H:Hp} {p:Addr} {xs:List V} (h:H p=some (.lst xs)):fu H p=some xs:=by unfold fu;rw [h]
theorem gf {H:Hp} {p:Addr} {xs:List V} (h:fu H p=some xs):H p=some (.lst xs)∨H p=some (.tup xs):=by
 unfold fu at h
 split at h
 ·cases h;exact .inl ‹_›
 ·cases h;exact .inr ‹_›
 ·cases h
section
variable {X:Cx}
def yh:R2:=fun x y H Q=>∃ p i xs v,x=.ref p∧y=.int i∧fu H p=some xs∧atI xs i=some v∧Q v H
theorem CC:IxR X yh:=by
 intro value slice pins s σ H x y v u Q I rx ry q hs
 obtain ⟨p,i,xs,w',rfl,rfl,h,e,q⟩:=q
 rcases gf h with h | h
 ·exact uK value slice pins s σ H _ _ v u Q I rx ry ⟨p,xs,i,w',rfl,rfl,SqL.of h,e,q⟩ hs
 ·exact wL value slice pins s σ H _ _ v u Q I rx ry ⟨p,xs,i,w',rfl,rfl,SqT.of h,e,q⟩ hs
def uG:List V→Hp→VK→Prop:=fun vs H Q=>∃ p xs,vs=[.ref p]∧fu H p=some xs∧Q (.int xs.length) H
theorem aO:bH X (.builtin "len") uG:=by
 intro pins s σ H vs us Q I r h
 obtain ⟨p,xs,rfl,h,q⟩:=h
 rcases gf h with h | h
 ·exact mx pins s σ H _ us Q I r ⟨_,_,rfl,.inl ⟨xs,SqL.of h,rfl⟩,q⟩
 ·exact mx pins s σ H _ us Q I r ⟨_,_,rfl,.inr ⟨xs,SqT.of h,rfl⟩,q⟩
def l8:List V→Hp→VK→Prop:=fun vs H Q=>∃ p xs,vs=[.ref p]∧fu H p=some xs∧∀ l,H l=none→Q (.ref l) (upd H l (.lst xs))
theorem eO:bH X (.type "list") l8:=by
 intro pins s σ H vs us Q I r h
 obtain ⟨p,xs,rfl,h,q⟩:=h
 rcases gf h with h | h
 ·exact iG pins s σ H _ us Q I r ⟨p,xs,rfl,.inl (SqL.of h),q⟩
 ·exact iG pins s σ H _ us Q I r ⟨p,xs,rfl,.inr (SqT.of h),q⟩
def nG:List V→Hp→VK→Prop:=fun vs H Q=>∃ p,vs=[.ref p]∧((∃ xs,H p=some (.lst xs)∧∀ l,H l=none→Q (.ref l) (upd H l (.tup xs)))∨∃ xs,H p=some (.tup xs)∧Q (.ref p) H)
theorem fQ:bH X (.type "tuple") nG:=by
 intro pins s σ H vs us Q I r h
 obtain ⟨p,rfl,⟨xs,h,q⟩ | ⟨xs,h,q⟩⟩:=h
 ·exact gX pins s σ H _ us Q I r ⟨p,xs,rfl,.inl ⟨SqL.of h,q⟩⟩
 ·exact gX pins s σ H _ us Q I r ⟨p,xs,rfl,.inr ⟨SqT.of h,q⟩⟩
def BV:V→Option Int→Option Int→Hp→VK→Prop:=fun x lo hi H Q=>∃ p,x=.ref p∧((∃ xs,H p=some (.tup xs)∧(fi xs.length lo hi→Q (.ref p) H)∧(¬fi xs.length lo hi→∀ l,H l=none→Q (.ref l) (upd H l (.tup (e_ xs lo hi))))) ∨
 ∃ xs,H p=some (.lst xs)∧∀ l,H l=none→Q (.ref l) (upd H l (.lst (e_ xs lo hi))))
theorem CD:SlR X BV:=by
 intro pins s σ H x v vl vu lo hi sl Q I rx hs pl pu h
 obtain ⟨p,rfl,⟨xs,h,q1,q2⟩ | ⟨xs,h,q⟩⟩:=h
 ·exact vx pins s σ H _ v vl vu lo hi sl Q I rx hs pl pu ⟨p,xs,rfl,SqT.of h,q1,q2⟩
 ·exact nP pins s σ H _ v vl vu lo hi sl Q I rx hs pl pu ⟨p,xs,rfl,SqL.of h,q⟩
def t5 (neg:Bool):R2:=fun x y H Q=>∃ p xs,y=.ref p∧fu H p=some xs∧dj x=true∧xs.all dj=true∧Q (.bl (if neg then !inV x xs else inV x xs)) H
theorem zx:OpR X (compareOp .In) (t5 false):=by
 intro pins s σ H x y v u Q I rx ry h
 obtain ⟨p,xs,rfl,h,f1,f2,q⟩:=h
 rcases gf h with h | h
 ·exact kW pins s σ H _ _ v u Q I rx ry ⟨p,xs,rfl,.inl (SqL.of h),f1,f2,q⟩
 ·exact kW pins s σ H _ _ v u Q I rx ry ⟨p,xs,rfl,.inr (SqT.of h),f1,f2,q⟩
theorem qW:OpR X (compareOp .NotIn) (t5 true):=by
 intro pins s σ H x y v u Q I rx ry h
 obtain ⟨p,xs,rfl,h,f1,f2,q⟩:=h
 rcases gf h with h | h
 ·exact iI pins s σ H _ _ v u Q I rx ry ⟨p,xs,rfl,.inl (SqL.of h),f1,f2,q⟩
 ·exact iI pins s σ H _ _ v u Q I rx ry ⟨p,xs,rfl,.inr (SqT.of h),f1,f2,q⟩
def uw:R2:=fun x y H Q=>(∃ i j,x=.int i∧y=.int j∧Q (.int (i+j)) H)∨∃ a b,x=.ref a∧y=.ref b ∧
  ((∃ xs ys,H a=some (.tup xs)∧H b=some (.tup ys)∧xs.length+ys.length≤sizeLine∧(xs=[]→Q (.ref b) H)∧(xs≠[]→ys=[]→Q (.ref a) H)∧(xs≠[]→ys≠[]→∀ p,H p=none→Q (.ref p) (upd H p (.tup (xs++ys))))) ∨
   ∃ xs ys,H a=some (.lst xs)∧H b=some (.lst ys)∧xs.length+ys.length≤sizeLine∧∀ p,H p=none→Q (.ref p) (upd H p (.lst (xs++ys))))
theorem wa:OpR X (binaryOp .Add) uw:=by
 intro pins s σ H x y v u Q I rx ry h
 rcases h with ⟨i,j,rfl,rfl,q⟩ | ⟨a,b,rfl,rfl,⟨xs,ys,h1,h2,hz,q1,q2,q3⟩ | ⟨xs,ys,h1,h2,hz,q⟩⟩
 ·exact we pins s σ H _ _ v u Q I rx ry ⟨i,j,rfl,rfl,q⟩
 ·exact sX pins s σ H _ _ v u Q I rx ry ⟨a,b,xs,ys,rfl,rfl,SqT.of h1,SqT.of h2,hz,q1,q2,q3⟩
 ·exact zt pins s σ H _ _ v u Q I rx ry ⟨a,b,xs,ys,rfl,rfl,h1,h2,hz,q⟩
def y9:R2:=fun x y H Q=>rEq x y H Q∨tH x y H Q
def ye:R2:=fun x y H Q=>rNe x y H Q∨s_ x y H Q
theorem eB (hu:X.A.units+64 < cLine):OpR X (compareOp .Eq) y9:=xx hu
theorem fw (hu:X.A.units+64 < cLine):OpR X (compareOp .NotEq) ye:=yt hu
def xX:R2:=fun x y H Q=>sG x y H Q∨(y=.non∧Q (.bl (decide (x=.non))) H)
theorem mP:OpR X (compareOp .Is) xX:=yj
def uD:List V→Hp→VK→Prop:=fun vs H Q=>∃ (p:Addr) (bs:List Bool),vs=[.ref p]∧H p=some (.lst (bs.map V.bl))∧Q (.bl (bs.all id)) H
theorem iL (hc:X.calm=true):bH X (.builtin "all") uD:=by
 intro pins s σ H vs us Q I r h
 obtain ⟨p,bs,rfl,h,q⟩:=h
 exact qa hc pins s σ H _ us Q I r ⟨p,bs,rfl,SqL.of h,q⟩
def mz:List V→Hp→VK→Prop:=fun vs H Q=>∃ (p:Addr) (ns:List Int),vs=[.ref p]∧H p=some (.lst (ns.map V.int))∧ns.length < 64∧∀ (l:Addr) (ms:List Int),H l=none→List.Perm ms ns→ms.Pairwise (·≤·)→Q (.ref l) (upd H l (.lst (ms.map V.int)))
theorem me:bH X (.builtin "sorted") mz:=by
 intro pins s σ H vs us Q I r h
 obtain ⟨p,ns,rfl,h,hl,q⟩:=h
 exact mS pins s σ H _ us Q I r ⟨p,ns,rfl,SqL.of h,hl,q⟩
def xn:List V→Hp→VK→Prop:=fun vs H Q=>∃ i j,vs=[.int i,.int j]∧Q (.int (if j > i then j else i)) H
def yD:List V→Hp→VK→Prop:=fun vs H Q=>∃ i j,vs=[.int i,.int j]∧Q (.int (if j < i then j else i)) H
theorem qp (hc:X.calm=true):bH X (.builtin "max") xn:=qr hc
theorem rn (hc:X.calm=true):bH X (.builtin "min") yD:=qO hc
def CB (to te:TE):TE:=fun σ H Q=>to σ H fun x H1=>∃ l xs0,x=.ref l∧H1 l=some (.lst xs0)∧te σ H1 fun y H2=>∃ xs,H2 l=some (.lst xs)∧xs.length < sizeLine∧Q .non (upd H2 l (.lst (xs++[y])))
theorem wd {o e:Expr} {to te:TE} {apos cpos:Pos} (ho:PE X o to) (he:PE X e te)
  (hbase:attributeBase o "append" X.env (eval o X.env)=eval o X.env:=by rfl)
  (hfew:((backTo cpos (starEach [e] X.env)).all (fun x=>!x.1) && (backToKw cpos (keywordEach [] X.env)).all (fun x=>x.1.isSome) && decide ([e].length+([]:List Keyword).length+(if ([]:List Keyword).isEmpty then 0 else 1) < 30))=true:=by rfl)
  (hline:(apos.endLine == cpos.line)=true:=by rfl) (hs:starEach [e] X.env=(false,eval e X.env) :: starEach [] X.env:=by rfl):PE X (.Call (.Attribute o "append" apos) [e] [] cpos) (CB to te):=by
 intro pins s σ H Q I h
 refine wpAny_Call_method_late hbase hfew hline rfl (thn (ho pins s σ H _ I h) fun v s1 ⟨x,H1,I1,r1,l,xs0,e0,hl,q1⟩=>?_)
 subst e0
 have ty:tyV X.K "list" (.ref l) H1:=.inl ⟨rfl,_,SqL.of hl⟩
 obtain ⟨h1,h2⟩:=qk I1 r1 ty
 refine ⟨"list",_,PySem.F.plainAttrs_list,PySem.F.slot_list_append,PySem.F.type_list_append,h1,h2,?_⟩
 have hA:=(cW he fz hs) cpos pins s1 σ H1 (fun vs H2=>∃ y,vs=[y]∧∃ xs,H2 l=some (.lst xs)∧xs.length < sizeLine∧Q .non (upd H2 l (.lst (xs++[y])))) I1 (by
  refine cast (congrArg (te σ H1) ?_) q1
  funext y H2
  refine propext ⟨fun q=>⟨y,rfl,q⟩,fun ⟨y',e',q⟩=>?_⟩
  cases e'
  exact q)
 rw [hs] at hA ⊢
 refine Calls.callWith_builtin (by show (false || (backTo cpos (starEach ([]:List Expr) X.env)).any (·.1))=false;rfl) (Calls.evalArgs_plain ?_)
 exact thn hA fun us s2 ⟨vs,H2,I2,r2,y,e2,xs,h3,hz,q2⟩=>kM pins s2 σ H2 (.ref l) vs v us Q I2 r1 r2 ⟨l,xs,y,rfl,e2,h3,hz,q2⟩
def A0 (te ts:TE):TE:=fun σ H Q=>te σ H fun x H1=>ts σ H1 fun y H2=>∃ a xs,x=.ref a∧y=.int (-1)∧H2 a=some (.tup xs)∧∀ p,H2 p=none→Q (.ref p) (upd H2 p (.tup xs.reverse))
end
theorem vJ {X:Cx} {e st:Expr} {te ts:TE} {p2 pos:Pos} (he:PE X e te) (hs:PE X st ts):PE X (.Subscript e (.Slice none none (some st) p2) pos) (A0 te ts):=by
 intro pins s σ H Q I h
 refine Subscript_ (thn (he pins s σ H _ I h) fun v s1 ⟨x,H1,I1,r1,q1⟩=>?_)
 refine wpAny_Slice ?_
 rw [evalPart_none]
 refine wpAny_pure (wpAny_pure ?_)
 rw [evalPart_some]
 refine thn (hs pins s1 σ H1 _ I1 q1) fun u s2 ⟨y,H2,I2,r2,q2⟩=>?_
 obtain ⟨a,xs,rfl,rfl,hx,q⟩:=q2
 cases r1
 obtain ⟨tk,rfl⟩:=r2
 have I3:Inv X pins σ H2 { s2 with heap:=s2.heap.push { cls:=.type "slice",data:=.fields #[.none,.none,.int (-1) tk] } }:=I2.kept (t':=s2.toks) fun b ob q=>Heap.get?_push_of_some _ q
 obtain ⟨its,r,ht,hz⟩:=I3.tuple (SqT.of hx)
 show wpAny (model X.prog X.w) X.A (subscriptTail e (.Slice none none (some st) p2) (.ref a) (.ref s2.heap.objs.size)) (EP X pins σ Q) X.xe { s2 with heap:=s2.heap.push { cls:=.type "slice",data:=.fields #[.none,.none,.int (-1) tk] } }
 refine tail_any (ops:=[.ref a,.ref s2.heap.objs.size]) ht.typeIs PyProof.Rows.slot_tuple_getitem.lookup (tG ht (Heap.IsSliceOf.new ..) (by rw [← r.length];exact hz) ?_) (by with_unfolding_all rfl)
 refine ⟨.ref _,_,I3.laid (t':=s2.toks) (o:=.tup xs.reverse) (fun b ob q=>Heap.get?_push_of_some _ q) (Nat.le_refl _) ?_,rfl,q _ (I3.hok.fresh (Nat.le_refl _))⟩
 exact ⟨by rw [List.length_reverse];exact hz,_,r.reverse,IsTup.new _ _⟩
theorem pJ {n:Nat} {k:Int} (h0:0≤k) (h:k < (n:Int)):ixN n k=some k.toNat:=by
 unfold ixN
 rw [if_pos h0,if_pos h]
class NS (e:Expr):Prop where
 eq:∀ (es:List Expr) (env:Env),starEach (e :: es) env=(false,eval e env) :: starEach es env
instance {c:Const} {k:Nat} {p:Pos}:NS (.Constant c k p):=⟨fun _ _=>rfl⟩
instance {x:Str} {p:Pos}:NS (.Name x p):=⟨fun _ _=>rfl⟩
instance {es:List Expr} {k:Nat} {p:Pos}:NS (.Tuple es k p):=⟨fun _ _=>rfl⟩
instance {es:List Expr} {p:Pos}:NS (.List es p):=⟨fun _ _=>rfl⟩
instance {a:Expr} {o:Operator} {b:Expr} {p:Pos}:NS (.BinOp a o b p):=⟨fun _ _=>rfl⟩
instance {o:UnaryOp} {a:Expr} {p:Pos}:NS (.UnaryOp o a p):=⟨fun _ _=>rfl⟩
instance {f:Expr} {es:List Expr} {ks:List Keyword} {p:Pos}:NS (.Call f es ks p):=⟨fun _ _=>rfl⟩
instance {a b:Expr} {p:Pos}:NS (.Subscript a b p):=⟨fun _ _=>rfl⟩
instance {a:Expr} {os:List CmpOp} {bs:List Expr} {p:Pos}:NS (.Compare a os bs p):=⟨fun _ _=>rfl⟩
instance {o:BoolOp} {es:List Expr} {p:Pos}:NS (.BoolOp o es p):=⟨fun _ _=>rfl⟩
instance {a b c:Expr} {p:Pos}:NS (.IfExp a b c p):=⟨fun _ _=>rfl⟩
instance {e:Expr} {gs:List Comprehension} {sc:Scope} {p:Pos}:NS (.ListComp e gs sc p):=⟨fun _ _=>rfl⟩
structure PL (X:Cx) (es:List Expr) (t:TA):Prop where
 h:PA X es t
section
variable {X:Cx}
def tLm (r:V→List V→Hp→VK→Prop) (to te:TE):TE:=fun σ H Q=>to σ H fun x H1=>∃ l xs0,x=.ref l∧H1 l=some (.lst xs0)∧te σ H1 fun y H2=>r (.ref l) [y] H2 Q
theorem Bx {r:V→List V→Hp→VK→Prop} {name:Str} {id:String} {o e:Expr} {to te:TE} {apos cpos:Pos} (slot:Slot "list" name id) (hty:typeOf (.builtin id)=pure (.type "method_descriptor")) (hm:MtM X id r) (ho:PE X o to) (he:PE X e te)
  (hbase:attributeBase o name X.env (eval o X.env)=eval o X.env:=by rfl)
  (hfew:((backTo cpos (starEach [e] X.env)).all (fun x=>!x.1) && (backToKw cpos (keywordEach [] X.env)).all (fun x=>x.1.isSome) && decide ([e].length+([]:List Keyword).length+(if ([]:List Keyword).isEmpty then 0 else 1) < 30))=true:=by rfl)
  (hline:(apos.endLine == cpos.line)=true:=by rfl) (hs:starEach [e] X.env=(false,eval e X.env) :: starEach [] X.env:=by rfl):PE X (.Call (.Attribute o name apos) [e] [] cpos) (tLm r to te):=by
 intro pins s σ H Q I h
 refine wpAny_Call_method_late hbase hfew hline rfl (thn (ho pins s σ H _ I h) fun v s1 ⟨x,H1,I1,r1,l,xs0,e0,hl,q1⟩=>?_)
 subst e0
 have ty:tyV X.K "list" (.ref l) H1:=.inl ⟨rfl,_,SqL.of hl⟩
 obtain ⟨h1,h2⟩:=qk I1 r1 ty
 refine ⟨"list",_,PySem.F.plainAttrs_list,slot,hty,h1,h2,?_⟩
 have hA:=(cW he fz hs) cpos pins s1 σ H1 (fun vs H2=>∃ y,vs=[y]∧r (.ref l) [y] H2 Q) I1 (by
  refine cast (congrArg (te σ H1) ?_) q1
  funext y H2
  refine propext ⟨fun q=>⟨y,rfl,q⟩,fun ⟨y',e',q⟩=>?_⟩
  cases e'
  exact q)
 rw [hs] at hA ⊢
 refine Calls.callWith_builtin (by show (false || (backTo cpos (starEach ([]:List Expr) X.env)).any (·.1))=false;rfl) (Calls.evalArgs_plain ?_)
 exact thn hA fun us s2 ⟨vs,H2,I2,r2,y,e2,q2⟩=>hm pins s2 σ H2 (.ref l) vs v us Q I2 r1 r2 (by rw [e2];exact q2)
theorem nE {f:Nat→V}:∀ (us:List Value) (k:Nat),(∀ j v,us[j]?=some v→RelV (f (k+j)) v)→Vals ((List.range' k us.length).map f) us
 | [],_,_=>.nil
 | u :: us,k,h=>by
  rw [List.length_cons,List.range'_succ,List.map_cons]
  refine .cons (h 0 u rfl) (nE us (k+1) fun j v e=>?_)
  have:=h (j+1) v (by simpa using e)
  rw [show k+1+j=k+(j+1) by omega]
  exact this
def tLR (ta:TA):TE:=fun σ H Q=>ta σ H fun vs H1=>∃ j:Int,vs=[.int j]∧0≤j∧j≤1000∧∀ l,H1 l=none→Q (.ref l) (upd H1 l (.lst ((List.range j.toNat).map fun i=>V.int (i:Nat))))
theorem mm {a:Expr} {ta:TA} {p1 p2 pos1 pos2:Pos} (hc:X.calm=true) (hgl:Gl X "list") (hml:X.mg "list"=none) (hgr:Gl X "range") (hmr:X.mg "range"=none) (hbl:bootBuiltins "list"=some (.type "list")) (ha:PA X [a] ta)
  (hs:starEach [a] X.env=[(false,eval a X.env)]:=by rfl)
  (hs2:starEach [Expr.Call (.Name "range" p2) [a] [] pos2] X.env=(false,eval (Expr.Call (.Name "range" p2) [a] [] pos2) X.env) :: starEach [] X.env:=by rfl) :
  PE X (.Call (.Name "list" p1) [.Call (.Name "range" p2) [a] [] pos2] [] pos1) (tLR ta):=by
 intro pins s σ H Q I h
 refine wpAny_Call_Name_kw (cu I hgl hml hbl ?_)
 refine PyProof.Rows.callWith_type1 ?_ hs2 rfl
 rw [hs2]
 show wpAny _ _ (spliced ((false,eval (Expr.Call (.Name "range" p2) [a] [] pos2) X.env) :: backTo pos1 (starEach [] X.env))) _ _ s
 refine Calls.spliced_cons ?_
 refine Call_ (cu I hgr hmr boot_range (PyProof.Rows.callWith_type1 (thn (ha pos2 pins s σ H _ I h) fun us s1 ⟨vs,H1,I1,r1,q1⟩=>?_) hs rfl))
 obtain ⟨j,e,j0,j1,q⟩:=q1
 subst e
 cases r1 with
 | cons r rr=>
  cases rr
  obtain ⟨t,rfl⟩:=r
  refine call_range_1 ?_
  have hA:X.A.handled=none:=I.ok.hd hc
  have I2:Inv X pins σ H1 { s1 with heap:=s1.heap.push { cls:=.type "range",data:=.fields #[.int 0 s1.toks,.int j t,.int 1 (s1.toks+1)] },toks:=s1.toks+1+1 }:=I1.kept fun b o e=>Heap.get?_push_of_some _ e
  refine wpAny_pure ?_
  have hsz:Builtin.Range.rangeSize 0 j 1=((j.toNat:Nat):Int):=by rw [rangeSize_one];split<;>omega
  refine call_list_range hA (IsRange.new ..) (small_one (by omega) (by omega) (by omega) (by omega)) hsz (by omega) fun h' tk acc c' hk hnew hit=>?_
  have hvals:Vals ((List.range j.toNat).map fun i=>V.int (i:Nat)) acc.toList:=by
   have hl:acc.toList.length=j.toNat:=by rw [Array.length_toList];exact hit.1
   rw [← hl,List.range_eq_range']
   refine nE acc.toList 0 fun i v e=>?_
   obtain ⟨t2,rfl⟩:=hit.2 i v (by simpa using e)
   exact ⟨t2,by congr 1;omega⟩
  refine ⟨.ref _,_,I2.laid (t':=tk) (o:=.lst ((List.range j.toNat).map fun i=>V.int (i:Nat))) hk (Nat.le_refl _) ⟨?_,acc.toList,c',hvals,?_⟩,rfl,q _ (I2.hok.fresh (Nat.le_refl _))⟩
  ·rw [List.length_map,List.length_range]
   exact Nat.le_of_lt (dw (by omega))
  ·simpa using hnew
end
section
variable {X:Cx}
theorem tZ:∀ {x y:V} {u:Value},RelV x u→RelV y u→x=y:=by
  intro x y u h1 h2
  cases x<;>cases y<;>simp only [RelV] at h1 h2<;>first
    | rfl
    | (subst h1;cases h2;done)
    | (subst h1;cases h2;rfl)
    | (obtain ⟨t,rfl⟩:=h1;cases h2;done)
    | (obtain ⟨t,rfl⟩:=h1;obtain ⟨t2,e⟩:=h2;cases e;rfl)
    | (obtain ⟨t,rfl⟩:=h1;obtain ⟨t2,e⟩:=h2;cases e;done)
    | (obtain ⟨t,rfl⟩:=h2;cases h1;done)
def sk (neg:Bool):R2:=fun x y H Q=>∃ (p:Addr) (vs:List V) (d:D) (ds:List D),y=.ref p∧H p=some (.lst vs)∧aq H vs ds∧Rep H x d∧D.bN ds≤50∧Q (.bl (if neg then !ds.any (fun e=>D.eqv e d) else ds.any fun e=>D.eqv e d)) H
theorem nQ {pins:List (Addr×Obj)} {σ:St} {H:Hp} {s:Shared} {p:Addr} {vs:List V} {d:D} {ds:List D} {x:V} {v:Value} (hu:X.A.units+64 < cLine) (I:Inv X pins σ H s) (rx:RelV x v) (hq:H p=some (.lst vs)) (rs:aq H vs ds) (rd:Rep H x d) (hd:D.bN ds≤50) :
  ∃ (its:List Value) (e:Value→Bool),s.heap.IsList p its.toArray∧(∀ y∈its.toArray,SeqAt.EqAt X.A.in1 s y v (e y))∧its.toArray.any e=ds.any fun e=>D.eqv e d:=by
 classical
 obtain ⟨its,r,pl,hz⟩:=I.list (SqL.of hq)
 have l1:=r.length
 have l2:=rs.length
 have key:∀ (j:Nat) (u:Value),its[j]?=some u→∃ (y:V) (e:D),vs[j]?=some y∧ds[j]?=some e∧RelV y u∧Rep H y e:=by
  intro j u hj
  have hlt:=(List.getElem?_eq_some_iff.mp hj).1
  have e1:vs[j]?=some (vs[j]'(by omega)):=List.getElem?_eq_getElem _
  obtain ⟨a1,b1,c1⟩:=r.get e1
  obtain ⟨f1,g1,k1⟩:=rs.get e1
  rw [hj] at b1
  cases b1
  exact ⟨_,f1,e1,g1,c1,k1⟩
 refine ⟨its,fun u=>decide (∃ (j:Nat) (y:V) (e:D),its[j]?=some u∧vs[j]?=some y∧ds[j]?=some e∧D.eqv e d=true),pl.isList,?_,?_⟩
 ·intro u hm
  have hm':u∈its:=by simpa using hm
  obtain ⟨j,hj⟩:=List.mem_iff_getElem?.mp hm'
  obtain ⟨y,e,h1,h2,h3,h4⟩:=key j u hj
  have q:=rl I 60 X.A.in1 y x u v e d (by show X.A.units+1+60 < cLine;omega) (Nat.le_trans (D.eU h2) (by omega)) h3 rx h4 rd
  have z:decide (∃ (j:Nat) (y:V) (e:D),its[j]?=some u∧vs[j]?=some y∧ds[j]?=some e∧D.eqv e d=true)=D.eqv e d:=by
   rw [Bool.eq_iff_iff,decide_eq_true_eq]
   refine ⟨fun ⟨j',y',e',g1,g2,g3,g4⟩=>?_,fun h=>⟨j,y,e,hj,h1,h2,h⟩⟩
   obtain ⟨y2,e2,k1,k2,k3,k4⟩:=key j' u g1
   rw [g2] at k1;cases k1
   rw [g3] at k2;cases k2
   have:=tZ h3 k3
   subst this
   rw [Rep.inj h4 k4]
   exact g4
  show SeqAt.EqAt X.A.in1 s u v (decide _)
  rw [z]
  exact q
 ·rw [List.any_toArray,Bool.eq_iff_iff,List.any_eq_true,List.any_eq_true]
  constructor
  ·rintro ⟨u,hu',h⟩
   obtain ⟨j,y,e,g1,g2,g3,g4⟩:=of_decide_eq_true h
   exact ⟨e,List.mem_of_getElem? g3,g4⟩
  ·rintro ⟨e,he,h⟩
   obtain ⟨j,hj⟩:=List.mem_iff_getElem?.mp he
   have hlt:=(List.getElem?_eq_some_iff.mp hj).1
   have e1:its[j]?=some (its[j]'(by omega)):=List.getElem?_eq_getElem _
   obtain ⟨y,e',h1,h2,h3,h4⟩:=key j _ e1
   exact ⟨_,List.mem_of_getElem? e1,decide_eq_true ⟨j,y,e,e1,h1,hj,h⟩⟩
theorem wY (hu:X.A.units+64 < cLine):OpR X (compareOp .In) (sk false):=by
 intro pins s σ H x y v u Q I rx ry h
 obtain ⟨p,vs,d,ds,rfl,hq,rs,rd,hd,q⟩:=h
 cases ry
 obtain ⟨its,e,h1,h2,h3⟩:=nQ hu I rx hq rs rd hd
 refine SeqAt.in_listAt e h1 h2 ⟨.bl _,H,I,rfl,?_⟩
 rw [h3]
 exact q
theorem qD (hu:X.A.units+64 < cLine):OpR X (compareOp .NotIn) (sk true):=by
 intro pins s σ H x y v u Q I rx ry h
 obtain ⟨p,vs,d,ds,rfl,hq,rs,rd,hd,q⟩:=h
 cases ry
 obtain ⟨its,e,h1,h2,h3⟩:=nQ hu I rx hq rs rd hd
 refine SeqAt.notIn_listAt e h1 h2 ⟨.bl _,H,I,rfl,?_⟩
 rw [h3]
 exact q
end
section
variable {prog:Program} {w:World} {A:Around} {E:Value→Shared→Prop} {s:Shared}
abbrev zL (h:Heap) (t:Addr):Heap:=h.push { cls:=.type "list_iterator",data:=.fields #[.ref t,.int 0 0] }
abbrev yTT (h:Heap) (t u:Addr):Heap:=zT (zL h t) u
abbrev yPI (h:Heap) (t u:Addr):Heap:=(yTT h t u).push { cls:=.type "tuple",data:=.seq #[.ref h.objs.size,.ref (zL h t).objs.size] }
abbrev yPO (h:Heap) (t u:Addr):Heap:=(yPI h t u).push { cls:=.type "tuple",data:=.seq #[.none,.none] }
abbrev ky (h:Heap) (t u:Addr):Heap:=(yPO h t u).push { cls:=.type "zip",data:=.fields #[.none,.bool false,.bool false,.ref (yTT h t u).objs.size,.ref (yPI h t u).objs.size] }
theorem tM (t u:Addr) (xs ys:Array Value):Meets (Builtin.«zip.__new__» ⟨[.type "zip",.ref t,.ref u],[]⟩) (fun _ R s=>s.heap.IsList t xs∧s.heap.IsTuple u ys∧R (.ok (.ret (.ref (yPO s.heap t u).objs.size))) { s with heap:=ky s.heap t u }):=
 .of_wp fun prog w A R s h=>by
  obtain ⟨hp,g,d,tk,os⟩:=s
  obtain ⟨ht,hu,h⟩:=h
  have hsub:=sub_zip
  have h1:Heap.IsList (Shared.heap ⟨hp,g,d,tk,os⟩) t xs:=ht
  have h2:Heap.IsTuple (Shared.heap ⟨hp.push { cls:=.type "list_iterator",data:=.fields #[.ref t,.int 0 0] },g,d,tk,os⟩) u ys:=by
   obtain ⟨o,e,r⟩:=hu
   exact ⟨o,Heap.get?_push_of_some _ e,r⟩
  wp_walk using wpAny_pyIter_list h1,wpAny_pyIter_tuple h2
  exact ⟨_,rfl,h⟩
theorem qI {t u:Addr} {xs ys:Array Value} {Q:Value→Shared→Prop} (ht:s.heap.IsList t xs) (hu:s.heap.IsTuple u ys)
  (h:∀ h',IsZip h' (s.heap.objs.size+4) (s.heap.objs.size+2) (s.heap.objs.size+3) .none→IsPair h' (s.heap.objs.size+2) (.ref s.heap.objs.size) (.ref (s.heap.objs.size+1))→IsPair h' (s.heap.objs.size+3) .none .none →
   h'.IsListIter s.heap.objs.size t 0→h'.IsTupleIter (s.heap.objs.size+1) u 0→(∀ c o,s.heap.get? c=some o→h'.get? c=some o)→Q (.ref (s.heap.objs.size+4)) { s with heap:=h' }) :
  wpAny (model prog w) A (call (.type "zip") [.ref t,.ref u]) Q E s:=by
 refine callType_new F.called_zip (by decide) (F.typeCall_zip_2 _ _) (F.newCall_zip_2 _ _) (fun obj=>F.args_object_init_3 obj _ _) F.entry_zip_new (tM t u xs ys) ⟨ht,hu,?_⟩
 have s1:(zL s.heap t).objs.size=s.heap.objs.size+1:=Heap.size_push ..
 have s2:(yTT s.heap t u).objs.size=s.heap.objs.size+2:=by rw [Heap.size_push,s1]
 have s3:(yPI s.heap t u).objs.size=s.heap.objs.size+3:=by rw [Heap.size_push,s2]
 have s4:(yPO s.heap t u).objs.size=s.heap.objs.size+4:=by rw [Heap.size_push,s3]
 have g5:(ky s.heap t u).get? (yPO s.heap t u).objs.size=some _:=Heap.get?_push_size _ rfl
 have g4:(ky s.heap t u).get? (yPI s.heap t u).objs.size=some _:=Heap.get?_push_of_some _ (Heap.get?_push_size _ rfl)
 have g3:(ky s.heap t u).get? (yTT s.heap t u).objs.size=some _:=Heap.get?_push_of_some _ (Heap.get?_push_of_some _ (Heap.get?_push_size _ rfl))
 have g2:(ky s.heap t u).get? (zL s.heap t).objs.size=some _:=Heap.get?_push_of_some _ (Heap.get?_push_of_some _ (Heap.get?_push_of_some _ (Heap.get?_push_size _ rfl)))
 have g1:(ky s.heap t u).get? s.heap.objs.size=some _:=Heap.get?_push_of_some _ (Heap.get?_push_of_some _ (Heap.get?_push_of_some _ (Heap.get?_push_of_some _ (Heap.get?_push_size _ rfl))))
 show _∧_
 rw [s2,s3,s4] at g5
 rw [s1,s2] at g3
 rw [s3] at g4
 rw [s1] at g2
 rw [s4]
 exact ⟨⟨_,g5,rfl⟩,h _ g5 g3 g4 ⟨_,g1,rfl,rfl⟩ ⟨_,g2,rfl,rfl⟩ fun c o q=>Heap.get?_push_of_some _ (Heap.get?_push_of_some _ (Heap.get?_push_of_some _ (Heap.get?_push_of_some _ (Heap.get?_push_of_some _ q))))⟩
end
def Ity (t u:Addr):It:=
  ⟨fun i H=>∃ xs ys x y,H t=some (.lst xs)∧H u=some (.tup ys)∧xs[i]?=some x∧ys[i]?=some y,fun i H v H'=>∃ p x y,H p=none∧v=.ref p∧H'=upd H p (.tup [x,y])∧(∀ xs,H t=some (.lst xs)→xs[i]?=some x)∧∀ ys,H u=some (.tup ys)→ys[i]?=some y,
   fun i H=>∃ xs ys,H t=some (.lst xs)∧H u=some (.tup ys)∧i≤xs.length∧i≤ys.length∧(i=xs.length∨i=ys.length)⟩
theorem qe {P:Program} {w:World} {K:PySem.W.Frag} {es:List Expr} {kk:Nat} {tp:Pos} (t u N:Addr) :
  Turn P w K (.Tuple es kk tp) (Ity t u) [N+4,N+2,N+3,N,N+1] (N+4)
   (fun i h=>IsZip h (N+4) (N+2) (N+3) .none∧IsPair h (N+2) (.ref N) (.ref (N+1))∧(∃ a b,IsPair h (N+3) a b)∧h.IsListIter N t i∧h.IsTupleIter (N+1) u i) where
 mem:=by simp
 obj:=fun i h st b hb=>by
  obtain ⟨h1,h2,⟨x,y,h3⟩,⟨o4,h4,_,d4⟩,⟨o5,h5,_,d5⟩⟩:=st
  simp only [List.mem_cons,List.not_mem_nil,or_false] at hb
  rcases hb with z | z | z | z | z
  ·rw [z];exact ⟨_,h1,fun v z=>by
    have z':Data.fields _=Data.cell v:=z
    cases z'⟩
  ·rw [z];exact ⟨_,h2,fun v z=>by
    have z':Data.seq _ _=Data.cell v:=z
    cases z'⟩
  ·rw [z];exact ⟨_,h3,fun v z=>by
    have z':Data.seq _ _=Data.cell v:=z
    cases z'⟩
  ·rw [z];exact ⟨o4,h4,fun v z=>by rw [d4] at z;cases z⟩
  ·rw [z];exact ⟨o5,h5,fun v z=>by rw [d5] at z;cases z⟩
 keep:=fun i h h' st k=>by
  obtain ⟨h1,h2,⟨x,y,h3⟩,h4,h5⟩:=st
  exact ⟨k _ (by simp) _ h1,k _ (by simp) _ h2,⟨x,y,k _ (by simp) _ h3⟩,h4.at fun o q=>k _ (by simp) o q,h5.at fun o q=>k _ (by simp) o q⟩
 item:=by
  intro X hP hw hK hc i pins s σ H E I hf st hg
  subst hP hw hK
  obtain ⟨h1,h2,⟨a0,b0,h3⟩,h4,h5⟩:=st
  obtain ⟨xs,ys,x,y,hx,hy,ex,ey⟩:=hg
  obtain ⟨its,rv,p,hz⟩:=I.list (SqL.of hx)
  obtain ⟨its2,rv2,p2,hz2⟩:=I.tuple (SqT.of hy)
  obtain ⟨a,ha,ra⟩:=rv.get ex
  obtain ⟨b,hb,rb⟩:=rv2.get ey
  have D0:=jA (N:=N) (t:=t) (u:=u) (fun c hc e=>by rw [e,(hf c hc).1] at hx;cases hx) (fun c hc e=>by rw [e,(hf c hc).1] at hy;cases hy)
  have hA:X.A.in1.handled=none:=I.ok.hd hc
  have tn:t≠N:=fun e=>by rw [e,(hf N (by simp)).1] at hx;cases hx
  have un:u≠N+1:=fun e=>by rw [e,(hf (N+1) (by simp)).1] at hy;cases hy
  have la:i < its.toArray.size:=by
   have:=(List.getElem?_eq_some_iff.mp ha).1
   simpa using this
  have lb:i < its2.toArray.size:=by
   have:=(List.getElem?_eq_some_iff.mp hb).1
   simpa using this
  refine kB D0 (Draws.list (prog:=X.prog) (w:=X.w) hA N t tn its.toArray) (f_ (prog:=X.prog) (w:=X.w) hA (N+1) u un its2.toArray) h1 (.inl rfl) h2 h3 ⟨h4,p.isList⟩ ⟨h5,p2⟩ la lb fun x' y' g1 tk px py z1 z2 z3 z4 z5 z6 z7 k1=>?_
  obtain rfl:x'=a:=by
   have e:its.toArray[i]?=some x':=px
   rw [List.getElem?_toArray,ha] at e
   exact (Option.some.inj e).symm
  obtain rfl:y'=b:=by
   have e:its2.toArray[i]?=some y':=py
   rw [List.getElem?_toArray,hb] at e
   exact (Option.some.inj e).symm
  refine ⟨_,rfl,wpAny_letOwnedTupleGo_zip (s:={ s with heap:=g1,toks:=tk }) z1 fun g2 y1 e2=>?_⟩
  replace e2:Heap.SameBut (N+4) g1 g2:=e2
  have hl4:N+4 < s.heap.objs.size:=Heap.lt_size h1
  have d:∀ i j:Nat,i≠j→(N+i:Nat)≠N+j:=fun i j h e=>h (Nat.add_left_cancel e)
  have ht2:IsPair g2 s.heap.objs.size x' y':=e2.extBut _ _ (Nat.ne_of_gt hl4) z6
  have k2:∀ c o,c∉[N+4,N+2,N+3,N,N+1]→s.heap.get? c=some o→g2.get? c=some o:=fun c o hc q=>by
   have c4:c≠N+4:=fun z=>hc (by simp [z])
   have c3:c≠N+3:=fun z=>hc (by simp [z])
   have c0:c≠N:=fun z=>hc (by simp [z])
   have c1:c≠N+1:=fun z=>hc (by simp [z])
   exact e2.extBut c o c4 (k1 c o c4 c3 c0 c1 q)
  have I2:Inv X pins σ (upd H s.heap.objs.size (.tup [x,y])) { s with heap:=g2,toks:=tk }:=by
   refine I.ju (fp:=[N+4,N+2,N+3,N,N+1]) (Nat.le_refl _) k2 hf ?_
   exact ⟨by show 2≤sizeLine;decide,[x',y'],.cons ra (.cons rb .nil),⟨_,ht2,rfl,_,rfl⟩⟩
  refine ⟨.ref s.heap.objs.size,_,I2,rfl,⟨s.heap.objs.size,x,y,I.hok.fresh (Nat.le_refl _),rfl,rfl,fun zs hy=>?_,fun zs hy'=>?_⟩,⟨y1,e2.extBut _ _ (d 2 4 (by decide)) z2,⟨_,_,e2.extBut _ _ (d 3 4 (by decide)) z3⟩,z4.1.extBut e2.extBut (d 0 4 (by decide)),z5.1.extBut e2.extBut (d 1 4 (by decide))⟩,fun b hb=>?_⟩
  ·rw [hx] at hy;cases hy;exact ex
  ·rw [hy] at hy';cases hy';exact ey
  ·have hlt:b < s.heap.objs.size:=by
    simp only [List.mem_cons,List.not_mem_nil,or_false] at hb
    rcases hb with z | z | z | z | z
    ·rw [z];exact hl4
    ·rw [z];exact Heap.lt_size h2
    ·rw [z];exact Heap.lt_size h3
    ·obtain ⟨o,q,_⟩:=h4;rw [z];exact Heap.lt_size q
    ·obtain ⟨o,q,_⟩:=h5;rw [z];exact Heap.lt_size q
   rw [aB (Nat.ne_of_lt hlt)]
   exact (hf b hb).1
 done:=by
  intro X hP hw hK hc i pins s σ H E I hf st hg
  subst hP hw hK
  obtain ⟨h1,h2,⟨a0,b0,h3⟩,h4,h5⟩:=st
  obtain ⟨xs,ys,hx,hy,lx,ly,hend⟩:=hg
  obtain ⟨its,rv,p,hz⟩:=I.list (SqL.of hx)
  obtain ⟨its2,rv2,p2,hz2⟩:=I.tuple (SqT.of hy)
  have D0:=jA (N:=N) (t:=t) (u:=u) (fun c hc e=>by rw [e,(hf c hc).1] at hx;cases hx) (fun c hc e=>by rw [e,(hf c hc).1] at hy;cases hy)
  have hA:X.A.in1.handled=none:=I.ok.hd hc
  have tn:t≠N:=fun e=>by rw [e,(hf N (by simp)).1] at hx;cases hx
  have un:u≠N+1:=fun e=>by rw [e,(hf (N+1) (by simp)).1] at hy;cases hy
  have l1:=rv.length
  have l2:=rv2.length
  refine mv D0 (Draws.list (prog:=X.prog) (w:=X.w) hA N t tn its.toArray) (f_ (prog:=X.prog) (w:=X.w) hA (N+1) u un its2.toArray) h1 (.inl rfl) h2 h3 ⟨h4,p.isList⟩ ⟨h5,p2⟩ ?_ fun h' tk hk=>⟨rfl,?_⟩
  ·simp only [List.size_toArray]
   omega
  ·refine I.nF (fp:=[N+4,N+2,N+3,N,N+1]) (fun c o hc q=>?_) hf
   exact hk c o (fun z=>hc (by simp [z])) (fun z=>hc (by simp [z])) (fun z=>hc (by simp [z])) (fun z=>hc (by simp [z])) q
 self:=fun _ _ _ _ _ st h=>wpAny_pyIter_zip st.1 h
end L2
namespace ZS
open PySem
def Ri (l:List Nat):Prop:=l.Pairwise (· < ·)
theorem pI (xs:Array Nat) (j p:Nat) (h1:∀ i,i < p→xs.getD i j < j) (h2:∀ i,p≤i→i < xs.size→¬xs.getD i j < j):∀ (fuel lo hi:Nat),lo≤p→p≤hi→hi≤xs.size→hi - lo≤fuel→SetTable.below.go xs j fuel lo hi=p
 | 0,lo,hi,a,b,c,d=>by rw [SetTable.below.go];omega
 | fuel+1,lo,hi,a,b,c,d=>by
  rw [SetTable.below.go]
  by_cases hl:lo < hi
  ·rw [if_pos hl]
   dsimp only
   have m1:lo≤(lo+hi) / 2:=by omega
   have m2:(lo+hi) / 2 < hi:=by omega
   by_cases hm:xs.getD ((lo+hi) / 2) j < j
   ·rw [if_pos hm]
    have:(lo+hi) / 2 < p:=by
     refine Nat.lt_of_not_le fun z=>?_
     exact h2 _ z (by omega) hm
    exact pI xs j p h1 h2 fuel _ _ (by omega) b c (by omega)
   ·rw [if_neg hm]
    have:p≤(lo+hi) / 2:=by
     refine Nat.le_of_not_lt fun z=>?_
     exact hm (h1 _ z)
    exact pI xs j p h1 h2 fuel _ _ a this (by omega) (by omega)
  ·rw [if_neg hl];omega
theorem getD_list {l:List Nat} {i j:Nat} (h:i < l.length):l.toArray.getD i j=l[i]:=by simp [Array.getD,h]
theorem below_at {l:List Nat} {j p:Nat} (hp:p≤l.length) (h1:∀ i (h:i < l.length),i < p→l[i] < j) (h2:∀ i (h:i < l.length),p≤i→j≤l[i]):SetTable.below l.toArray j=p:=by
 unfold SetTable.below
 refine pI l.toArray j p (fun i hi=>?_) (fun i hi hs=>?_) _ _ _ (Nat.zero_le _) (by simpa using hp) (Nat.le_refl _) (by omega)
 ·rw [getD_list (by omega)];exact h1 i (by omega) hi
 ·rw [getD_list (by simpa using hs)]
  have:=h2 i (by simpa using hs) hi
  omega
theorem lC {l:List Nat} (h:Ri l) {i k:Nat} (hk:k < l.length) (hi:i < k):l[i] < l[k]:=List.pairwise_iff_getElem.mp h i k (by omega) hk hi
theorem qc {l:List Nat} (h:Ri l) (j:Nat):∃ p,p≤l.length∧SetTable.below l.toArray j=p∧(∀ x∈l.take p,x < j)∧(∀ x∈l.drop p,j≤x):=by
 induction l with
 | nil=>exact ⟨0,Nat.le_refl _,below_at (Nat.le_refl _) (fun i h=>by simp at h) (fun i h=>by simp at h),by simp,by simp⟩
 | cons a l ih=>
  obtain ⟨h1,h2⟩:=List.pairwise_cons.mp h
  obtain ⟨p,hp,_,ha,hb⟩:=ih h2
  by_cases hj:a < j
  ·have q1:∀ x∈(a :: l).take (p+1),x < j:=by
    intro x hx
    rw [List.take_succ_cons] at hx
    rcases List.mem_cons.mp hx with e | e
    ·omega
    ·exact ha x e
   have q2:∀ x∈(a :: l).drop (p+1),j≤x:=by
    intro x hx
    rw [List.drop_succ_cons] at hx
    exact hb x hx
   refine ⟨p+1,by simp;omega,below_at (by simp;omega) (fun i hi hip=>?_) (fun i hi hip=>?_),q1,q2⟩
   ·refine q1 _ ?_
    rw [List.mem_iff_getElem]
    exact ⟨i,by rw [List.length_take];simp at hi ⊢;omega,by rw [List.getElem_take]⟩
   ·refine q2 _ ?_
    rw [List.mem_iff_getElem]
    exact ⟨i - (p+1),by simp at hi ⊢;omega,by rw [List.getElem_drop];congr 1;omega⟩
  ·have q2:∀ x∈a :: l,j≤x:=by
    intro x hx
    rcases List.mem_cons.mp hx with e | e
    ·omega
    ·have:=h1 x e;omega
   refine ⟨0,Nat.zero_le _,below_at (Nat.zero_le _) (fun i hi hip=>by omega) (fun i hi _=>q2 _ (List.getElem_mem hi)),by simp,by simpa using q2⟩
theorem kI {l:List Nat} (h:Ri l) {i:Nat} (hi:i < l.length):SetTable.below l.toArray (l[i]+1)=i+1∧SetTable.below l.toArray l[i]=i:=by
 constructor
 ·refine below_at (by omega) (fun k hk hki=>?_) (fun k hk hki=>?_)
  ·by_cases e:k=i
   ·subst e;omega
   ·have:=lC h hi (show k < i by omega);omega
  ·have:=lC h hk (show i < k by omega);omega
 ·refine below_at (by omega) (fun k hk hki=>lC h hi hki) (fun k hk hki=>?_)
  by_cases e:k=i
  ·subst e;omega
  ·have:=lC h hk (show i < k by omega);omega
theorem oT {l:List Nat}:SetTable.below l.toArray 0=0:=below_at (Nat.zero_le _) (fun i hi h=>by omega) (fun i hi _=>Nat.zero_le _)
theorem rH {l:List Nat} (h:Ri l) {j p:Nat} (hj:j∉l) (ha:∀ x∈l.take p,x < j) (hb:∀ x∈l.drop p,j≤x):Ri (l.take p++j :: l.drop p):=by
 have hs:Ri (l.take p++l.drop p):=by rw [List.take_append_drop];exact h
 obtain ⟨s1,s2,s3⟩:=List.pairwise_append.mp hs
 refine List.pairwise_append.mpr ⟨s1,List.pairwise_cons.mpr ⟨fun x hx=>?_,s2⟩,fun x hx y hy=>?_⟩
 ·have:=hb x hx
  have:x≠j:=fun e=>hj (by rw [← e];exact List.mem_of_mem_drop hx)
  omega
 ·rcases List.mem_cons.mp hy with e | e
  ·rw [e];exact ha x hx
  ·exact s3 x hx y e
theorem slot_of {t:SetTable} {l:List Nat} (hp:t.place=l.toArray) (hr:Ri l) (hd:t.dummies=#[]) (j:Nat):(j∉l→t.slot j=.empty)∧(j∈l→∃ i,t.slot j=.live i):=by
 have hh:SetTable.has #[] j=false:=by simp [SetTable.has]
 constructor
 ·intro hj
  unfold SetTable.slot
  dsimp only
  rw [hp,hd,hh]
  have:(l.toArray[SetTable.below l.toArray j]? == some j)=false:=by
   rw [beq_eq_false_iff_ne]
   intro e
   rw [List.getElem?_toArray] at e
   exact hj (List.mem_of_getElem? e)
  rw [this]
  rfl
 ·intro hj
  obtain ⟨i,hi,rfl⟩:=List.mem_iff_getElem.mp hj
  refine ⟨i,?_⟩
  unfold SetTable.slot
  dsimp only
  rw [hp,(kI hr hi).2,List.getElem?_toArray,List.getElem?_eq_getElem hi]
  simp
def nxt (m i:Nat):Nat:=(i * 5+1) % (m+1)
def orb (m:Nat):Nat→Nat→Nat
 | 0,i=>i
 | n+1,i=>orb m n (nxt m i)
def marks (m:Nat):Nat→Nat→Nat→Nat
 | 0,_,acc=>acc
 | n+1,i,acc=>marks m n (nxt m i) (acc ||| (1 <<< i))
def full (m:Nat):Bool:=marks m (m+1) 0 0 == 2 ^ (m+1) - 1 && orb m (m+1) 0 == 0
theorem Ax:full 7=true:=by decide +kernel
theorem yS:full 31=true:=by decide +kernel
theorem vI:full 127=true:=by decide +kernel
theorem uZ:full 511=true:=by decide +kernel
theorem kN {m:Nat}:∀ (n i acc e:Nat),(marks m n i acc).testBit e=true→acc.testBit e=true∨∃ k,k < n∧orb m k i=e
 | 0,i,acc,e,h=>.inl h
 | n+1,i,acc,e,h=>by
  rw [marks] at h
  rcases kN n _ _ e h with q | ⟨k,hk,q⟩
  ·rw [Nat.testBit_or,Bool.or_eq_true] at q
   rcases q with q | q
   ·exact .inl q
   ·refine .inr ⟨0,by omega,?_⟩
    rw [Nat.one_shiftLeft,Nat.testBit_two_pow] at q
    simpa [orb] using q
  ·exact .inr ⟨k+1,by omega,q⟩
theorem iV {m:Nat}:∀ (a b i:Nat),orb m (a+b) i=orb m b (orb m a i)
 | 0,b,i=>by simp [orb]
 | a+1,b,i=>by
  rw [show a+1+b=(a+b)+1 by omega,orb,iV a b,orb]
theorem uk {m e:Nat} (hf:full m=true) (he:e≤m):∃ k,k≤m∧orb m k 0=e:=by
 unfold full at hf
 rw [Bool.and_eq_true,beq_iff_eq,beq_iff_eq] at hf
 have q:(marks m (m+1) 0 0).testBit e=true:=by
  rw [hf.1,Nat.testBit_two_pow_sub_one]
  simp;omega
 rcases kN _ _ _ _ q with z | ⟨k,hk,z⟩
 ·simp at z
 ·exact ⟨k,by omega,z⟩
theorem reach {m e i:Nat} (hf:full m=true) (he:e≤m) (hi:i≤m):∃ k,k≤m∧orb m k i=e:=by
 obtain ⟨a,ha,ea⟩:=uk hf hi
 obtain ⟨b,hb,eb⟩:=uk hf he
 have h0:orb m (m+1) 0=0:=by
  unfold full at hf
  rw [Bool.and_eq_true,beq_iff_eq,beq_iff_eq] at hf
  exact hf.2
 by_cases hab:a≤b
 ·refine ⟨b - a,by omega,?_⟩
  rw [← ea,← iV,show a+(b - a)=b by omega,eb]
 ·refine ⟨m+1 - a+b,by omega,?_⟩
  rw [← ea,← iV,show a+(m+1 - a+b)=(m+1)+b by omega,iV,h0,eb]
def lp (m:Nat):Nat→Nat×Nat→Nat×Nat
 | 0,x=>x
 | n+1,x=>lp m n (SetTable.leap m x.1 x.2)
theorem qX {m:Nat}:∀ (a b:Nat) (x:Nat×Nat),lp m (a+b) x=lp m b (lp m a x)
 | 0,b,x=>by simp [lp]
 | a+1,b,x=>by
  rw [show a+1+b=(a+b)+1 by omega,lp,qX a b,lp]
theorem oj {m:Nat}:∀ (n:Nat) (x:Nat×Nat),(lp m n x).2=x.2 / 32 ^ n
 | 0,x=>by simp [lp]
 | n+1,x=>by
  rw [lp,oj n]
  show x.2 / 32 / 32 ^ n=_
  rw [Nat.div_div_eq_div_mul,Nat.pow_succ,Nat.mul_comm]
theorem qL {m:Nat}:∀ (n i:Nat),lp m n (i,0)=(orb m n i,0)
 | 0,i=>rfl
 | n+1,i=>by
  rw [lp,orb]
  have:SetTable.leap m i 0=(nxt m i,0):=by simp [SetTable.leap,nxt]
  rw [this,qL n]
theorem zY {m:Nat} (x:Nat×Nat) (h:x.1≤m):∀ n,(lp m n x).1≤m:=by
 intro n
 induction n generalizing x with
 | zero=>exact h
 | succ n ih=>
  rw [lp]
  exact ih _ (by show _ % (m+1)≤m;have:=Nat.mod_lt (x.1 * 5+1+x.2 / 32) (show m+1 > 0 by omega);omega)
theorem nO {m e i p:Nat} (hf:full m=true) (he:e≤m) (hi:i≤m) (hp:p < 2 ^ 64):∃ k,k < SetTable.turns m∧(lp m k (i,p)).1=e:=by
 have h13:(lp m 13 (i,p)).2=0:=by
  rw [oj]
  exact Nat.div_eq_of_lt (Nat.lt_of_lt_of_le hp (by decide))
 obtain ⟨k,hk,ek⟩:=reach hf he (zY (i,p) hi 13)
 refine ⟨13+k,by unfold SetTable.turns;omega,?_⟩
 rw [qX]
 have z:lp m 13 (i,p)=((lp m 13 (i,p)).1,0):=by rw [← h13]
 rw [z,qL]
 exact ek
theorem oi (h:Int):SetTable.bits h < 2 ^ 64:=by
 unfold SetTable.bits
 have:=Int.emod_lt_of_pos h (show (0:Int) < 2 ^ 64 by decide)
 omega
theorem room {l:List Nat} {m:Nat} (hn:l.length≤m):∃ e,e≤m∧e∉l:=by
 refine Classical.byContradiction fun h=>?_
 have hall:∀ e∈List.range (m+1),e∈l:=fun e he=>Classical.byContradiction fun z=>h ⟨e,by have:=List.mem_range.mp he;omega,z⟩
 have:=List.Nodup.length_le_of_subset (List.nodup_range (n:=m+1)) hall
 rw [List.length_range] at this
 omega
theorem rX {t:SetTable} {l:List Nat} (hp:t.place=l.toArray) (hr:Ri l) (hd:t.dummies=#[]) (h:Int) :
  ∀ (k:Nat) (fuel:Nat) (q:SetTable.Probe),q.dummy=none→q.more≤9→10 * k+q.more+1≤fuel→(lp t.mask k (q.i,q.perturb)).1∉l→(k=0→q.j=q.i∨q.j∉l)→(q.more≤9) →
   (k=0→q.j∉l)→∃ j,SetTable.probe.go t (fun _=>h+1) h fuel q=some (.empty j none)∧j∉l:=by
 intro k
 induction k with
 | zero=>
  intro fuel q h1 h2 h3 h4 h5 h6 h7
  obtain ⟨f,rfl⟩:∃ f,fuel=f+1:=⟨fuel - 1,by omega⟩
  refine ⟨q.j,?_,h7 rfl⟩
  rw [SetTable.probe.go,(slot_of hp hr hd q.j).1 (h7 rfl)]
  dsimp only
  rw [h1]
 | succ k ih=>
  intro fuel q h1 h2 h3 h4 h5 h6 h7
  have run:∀ (r fuel:Nat) (q:SetTable.Probe),q.more=r→q.dummy=none→10 * (k+1)+r+1≤fuel→(lp t.mask (k+1) (q.i,q.perturb)).1∉l→∃ j,SetTable.probe.go t (fun _=>h+1) h fuel q=some (.empty j none)∧j∉l:=by
   intro r
   induction r with
   | zero=>
    intro fuel q hm hdm hfu hl
    obtain ⟨f,rfl⟩:∃ f,fuel=f+1:=⟨fuel - 1,by omega⟩
    by_cases hj:q.j∈l
    ·obtain ⟨i,ei⟩:=(slot_of hp hr hd q.j).2 hj
     rw [SetTable.probe.go,ei]
     dsimp only
     have hne:(h+1 == h)=false:=by rw [beq_eq_false_iff_ne];omega
     rw [hne]
     have ha:t.advance q={ q with j:=(SetTable.leap t.mask q.i q.perturb).1,more:=SetTable.runEnd t.mask (SetTable.leap t.mask q.i q.perturb).1 - (SetTable.leap t.mask q.i q.perturb).1,i:=(SetTable.leap t.mask q.i q.perturb).1,perturb:=(SetTable.leap t.mask q.i q.perturb).2 }:=by
      unfold SetTable.advance
      rw [if_neg (by omega)]
     have hmore:(t.advance q).more≤9:=by
      rw [ha]
      dsimp only
      unfold SetTable.runEnd
      split<;>omega
     have hl':(lp t.mask k ((t.advance q).i,(t.advance q).perturb)).1∉l:=by rw [ha];exact hl
     refine ih f (t.advance q) (by rw [ha];exact hdm) hmore (by omega) hl' (fun _=>.inl (by rw [ha])) hmore fun hk=>?_
     rw [ha]
     dsimp only
     subst hk
     exact hl
    ·refine ⟨q.j,?_,hj⟩
     rw [SetTable.probe.go,(slot_of hp hr hd q.j).1 hj]
     dsimp only
     rw [hdm]
   | succ r ihr=>
    intro fuel q hm hdm hfu hl
    obtain ⟨f,rfl⟩:∃ f,fuel=f+1:=⟨fuel - 1,by omega⟩
    by_cases hj:q.j∈l
    ·obtain ⟨i,ei⟩:=(slot_of hp hr hd q.j).2 hj
     rw [SetTable.probe.go,ei]
     dsimp only
     have hne:(h+1 == h)=false:=by rw [beq_eq_false_iff_ne];omega
     rw [hne]
     have ha:t.advance q={ q with j:=q.j+1,more:=q.more - 1 }:=by
      unfold SetTable.advance
      rw [if_pos (by omega)]
     refine ihr f (t.advance q) (by rw [ha];dsimp only;omega) (by rw [ha];exact hdm) (by omega) (by rw [ha];exact hl)
    ·refine ⟨q.j,?_,hj⟩
     rw [SetTable.probe.go,(slot_of hp hr hd q.j).1 hj]
     dsimp only
     rw [hdm]
  exact run q.more fuel q rfl h1 h3 h4
theorem rp {t:SetTable} {l:List Nat} (hp:t.place=l.toArray) (hr:Ri l) (hd:t.dummies=#[]) (hf:full t.mask=true) (hn:l.length≤t.mask) (h:Int):∃ j,t.freeSlot h=some (j,false)∧j∉l:=by
 obtain ⟨e,he,hel⟩:=room hn
 have hi:SetTable.bits h % (t.mask+1)≤t.mask:=by have:=Nat.mod_lt (SetTable.bits h) (show t.mask+1 > 0 by omega);omega
 obtain ⟨k,hk,ek⟩:=nO hf he hi (oi h)
 have hmore:(t.probeStart h).more≤9:=by
  unfold SetTable.probeStart SetTable.runEnd
  dsimp only
  split<;>omega
 have q:=rX hp hr hd h k (10 * SetTable.turns t.mask) (t.probeStart h) rfl hmore (by omega) (by
  show (lp t.mask k (SetTable.bits h % (t.mask+1),SetTable.bits h)).1∉l
  rw [ek];exact hel) (fun _=>.inl rfl) hmore (fun hk0=>by
   subst hk0
   show SetTable.bits h % (t.mask+1)∉l
   rw [show SetTable.bits h % (t.mask+1)=e from ek];exact hel)
 obtain ⟨j,ej,hj⟩:=q
 refine ⟨j,?_,hj⟩
 unfold SetTable.freeSlot SetTable.probe
 rw [ej]
 rfl
end ZS
namespace ZS
open PySem
theorem nY {m e:Nat} {owner:Array (Option Nat)} (he:owner.getD e (some 0)=none):∀ (k fuel i p:Nat),(lp m k (i,p)).1=e→k < fuel→∃ j,SetTable.layClean.free m owner fuel i p=some j∧owner.getD j (some 0)=none
 | k,0,i,p,_,h=>by omega
 | k,fuel+1,i,p,hk,h=>by
  rw [SetTable.layClean.free]
  cases hf:(List.range (SetTable.runEnd m i+1 - i)).find? fun k=>(owner.getD (i+k) (some 0)).isNone with
  | some x=>
   refine ⟨i+x,rfl,?_⟩
   have:=List.find?_some hf
   simpa using this
  | none=>
   have hno:=List.find?_eq_none.mp hf
   cases k with
   | zero=>
    have hi:i=e:=hk
    have:=hno 0 (List.mem_range.mpr (by unfold SetTable.runEnd;split<;>omega))
    rw [Nat.add_zero,hi,he] at this
    simp at this
   | succ k=>
    dsimp only
    exact nY he k fuel _ _ hk (by omega)
theorem m8 {α β:Type} {f g:α→Option β}:∀ {l:List α},(∀ x∈l,f x=g x)→l.filterMap f=l.filterMap g
 | [],_=>rfl
 | a :: l,h=>by
  rw [List.filterMap_cons,List.filterMap_cons,h a (List.mem_cons_self ..),m8 fun x hx=>h x (List.mem_cons_of_mem _ hx)]
def vals (m:Nat) (owner:Array (Option Nat)):List Nat:=(List.range (m+1)).filterMap fun j=>owner.getD j none
theorem t8 (m:Nat):vals m (Array.replicate (m+1) none)=[]:=by
 unfold vals
 rw [List.filterMap_eq_nil_iff]
 intro j hj
 simp [Array.getD]
theorem sC {m j k:Nat} {owner:Array (Option Nat)} (hs:owner.size=m+1) (hj:owner.getD j (some 0)=none):(vals m (owner.setIfInBounds j (some k))).Perm (k :: vals m owner):=by
 have hjs:j < owner.size:=by
  refine Nat.lt_of_not_le fun z=>?_
  simp [Array.getD,Nat.not_lt.mpr z] at hj
 have hjv:owner.getD j none=none:=by
  simp [Array.getD,hjs] at hj ⊢
  exact hj
 have hmem:j∈List.range (m+1):=List.mem_range.mpr (by omega)
 have pe:=List.perm_cons_erase hmem
 have nd:(List.range (m+1)).Nodup:=List.nodup_range
 unfold vals
 refine (pe.filterMap _).trans ?_
 refine List.Perm.trans ?_ ((pe.filterMap (fun j=>owner.getD j none)).cons k).symm
 rw [List.filterMap_cons,List.filterMap_cons]
 have e1:(owner.setIfInBounds j (some k)).getD j none=some k:=by simp [Array.getD,hjs]
 rw [e1,hjv]
 dsimp only
 refine List.Perm.cons k (List.Perm.of_eq ?_)
 refine m8 fun x hx=>?_
 have hne:x≠j:=fun e=>by
  rw [e] at hx
  exact (List.Nodup.mem_erase_iff nd).mp hx |>.1 rfl
 simp only [Array.getD,Array.size_setIfInBounds]
 split
 ·rw [Array.getInternal_eq_getElem,Array.getInternal_eq_getElem,Array.getElem_setIfInBounds_ne (by assumption) (fun e=>hne e.symm)]
 ·rfl
theorem sy {m:Nat} {owner:Array (Option Nat)} (hs:owner.size=m+1) (h:(vals m owner).length≤m):∃ e,e≤m∧owner.getD e (some 0)=none:=by
 refine Classical.byContradiction fun hno=>?_
 have all:∀ j∈List.range (m+1),(owner.getD j none).isSome=true:=fun j hj=>by
  have hj':=List.mem_range.mp hj
  cases e:owner.getD j none with
  | some x=>rfl
  | none=>
   refine absurd ⟨j,by omega,?_⟩ hno
   simp [Array.getD,show j < owner.size by omega] at e ⊢
   exact e
 have len:∀ l:List Nat,(∀ j∈l,(owner.getD j none).isSome=true)→(l.filterMap fun j=>owner.getD j none).length=l.length:=by
  intro l
  induction l with
  | nil=>intro _;rfl
  | cons a l ih=>
   intro hl
   obtain ⟨x,hx⟩:=Option.isSome_iff_exists.mp (hl a (List.mem_cons_self ..))
   rw [List.filterMap_cons,hx]
   dsimp only
   rw [List.length_cons,List.length_cons,ih fun j hj=>hl j (List.mem_cons_of_mem _ hj)]
 have:=len _ all
 rw [List.length_range] at this
 unfold vals at h
 omega
def i7 (m:Nat) (acc:Option (Array (Option Nat)×Nat)) (h:Int):Option (Array (Option Nat)×Nat):=do
  let (owner,k) ← acc
  let j ← SetTable.layClean.free m owner (SetTable.turns m) (SetTable.bits h % (m+1)) (SetTable.bits h)
  pure (owner.setIfInBounds j (some k),k+1)
theorem mL {m:Nat} (hf:full m=true):∀ (hs:List Int) (owner:Array (Option Nat)) (k:Nat),owner.size=m+1→(vals m owner).Perm (List.range k)→k+hs.length≤m →
  ∃ owner',hs.foldl (i7 m) (some (owner,k))=some (owner',k+hs.length)∧owner'.size=m+1∧(vals m owner').Perm (List.range (k+hs.length))
 | [],owner,k,h1,h2,h3=>⟨owner,rfl,h1,by simpa using h2⟩
 | h :: hs,owner,k,h1,h2,h3=>by
  have hlen:(vals m owner).length=k:=by rw [h2.length_eq,List.length_range]
  obtain ⟨e,he,hen⟩:=sy h1 (by simp at h3;omega)
  have hi:SetTable.bits h % (m+1)≤m:=by have:=Nat.mod_lt (SetTable.bits h) (show m+1 > 0 by omega);omega
  obtain ⟨q,hq,eq⟩:=nO hf he hi (oi h)
  obtain ⟨j,ej,hj⟩:=nY (m:=m) hen q (SetTable.turns m) _ _ eq hq
  have st:i7 m (some (owner,k)) h=some (owner.setIfInBounds j (some k),k+1):=by
   unfold i7
   show (SetTable.layClean.free m owner (SetTable.turns m) (SetTable.bits h % (m+1)) (SetTable.bits h)).bind _=_
   rw [ej]
   rfl
  have p2:(vals m (owner.setIfInBounds j (some k))).Perm (List.range (k+1)):=by
   refine (sC h1 hj).trans ((h2.cons k).trans ?_)
   rw [List.range_succ]
   exact (List.perm_append_singleton k _).symm
  obtain ⟨o',a1,a2,a3⟩:=mL hf hs _ (k+1) (by rw [Array.size_setIfInBounds];exact h1) p2 (by simp at h3;omega)
  refine ⟨o',?_,a2,by simp only [List.length_cons];rw [show k+(hs.length+1)=k+1+hs.length by omega];exact a3⟩
  rw [List.foldl_cons,st,a1]
  simp only [List.length_cons]
  rw [show k+(hs.length+1)=k+1+hs.length by omega]
theorem nA {m:Nat} (hf:full m=true) (hs:Array Int) (hn:hs.size≤m):∃ owner,SetTable.layClean m hs=some owner∧owner.size=m+1∧(vals m owner).Perm (List.range hs.size):=by
 obtain ⟨o,a1,a2,a3⟩:=mL hf hs.toList (Array.replicate (m+1) none) 0 (by simp) (by rw [t8];simp) (by simpa using hn)
 refine ⟨o,?_,a2,by simpa using a3⟩
 unfold SetTable.layClean
 rw [← Array.foldl_toList]
 have:(fun (acc:Option (Array (Option Nat)×Nat)) (h:Int)=>(do
  let (owner,k) ← acc
  let j ← SetTable.layClean.free m owner (SetTable.turns m) (SetTable.bits h % (m+1)) (SetTable.bits h)
  pure (owner.setIfInBounds j (some k),k+1):Option (Array (Option Nat)×Nat)))=i7 m:=rfl
 rw [this,a1]
 rfl
theorem gG (f:Nat→Option Nat):∀ l:List Nat,((l.filterMap fun j=>(f j).map (j,·)).map (·.1))=l.filter fun j=>(f j).isSome
 | []=>rfl
 | a :: l=>by
  rw [List.filterMap_cons,List.filter_cons]
  cases f a with
  | none=>simpa using gG f l
  | some x=>simp [gG f l]
theorem gy (f:Nat→Option Nat):∀ l:List Nat,((l.filterMap fun j=>(f j).map (j,·)).map (·.2))=l.filterMap f
 | []=>rfl
 | a :: l=>by
  rw [List.filterMap_cons,List.filterMap_cons]
  cases f a with
  | none=>simpa using gy f l
  | some x=>simp [gy f l]
theorem nV {α:Type}:∀ (xs:List α),(List.range xs.length).filterMap (fun i=>xs[i]?)=xs
 | []=>rfl
 | x :: xs=>by
  rw [List.length_cons,List.range_succ_eq_map,List.filterMap_cons]
  simp only [List.getElem?_cons_zero]
  rw [List.filterMap_map]
  have:((fun i=>(x :: xs)[i]?) ∘ Nat.succ)=fun i=>xs[i]?:=by funext i;simp
  rw [this,nV xs]
theorem sj {t:SetTable} {es:Array (Int×Value)} {wanted:Nat} (hf:full (SetTable.sizeAbove wanted - 1)=true) (hn:es.size≤SetTable.sizeAbove wanted - 1) :
  ∃ es' t' l,relayAll t es wanted=(es',t',false)∧es'.toList.Perm es.toList∧t'.place=l.toArray∧Ri l∧l.length=es.size∧t'.dummies=#[]∧t'.mask=SetTable.sizeAbove wanted - 1∧t'.plain=t.plain∧t'.led=t.led:=by
 obtain ⟨owner,e1,e2,e3⟩:=nA hf (es.map (·.1)) (by simpa using hn)
 rw [Array.size_map] at e3
 generalize hm:SetTable.sizeAbove wanted - 1=m at *
 let f:Nat→Option Nat:=fun j=>owner.getD j none
 have r1:t.relaid (es.map (·.1)) wanted=some ({ mask:=m,place:=((List.range (m+1)).filter fun j=>(f j).isSome).toArray,dummies:=#[],finger:=t.finger,led:=t.led,moves:=t.movedTo m,plain:=t.plain },(vals m owner).toArray):=by
  unfold SetTable.relaid SetTable.laid
  rw [hm,e1]
  show some _=some _
  rw [← gG f,show vals m owner=(List.range (m+1)).filterMap f from rfl,← gy f]
 have po:((vals m owner).toArray.filterMap (fun (i:Nat)=>es[i]?)).toList.Perm es.toList:=by
  rw [Array.toList_filterMap]
  refine (e3.filterMap _).trans (List.Perm.of_eq ?_)
  have:(fun (i:Nat)=>es[i]?)=fun (i:Nat)=>es.toList[i]?:=by funext i;rw [Array.getElem?_toList]
  rw [this,← Array.length_toList,nV]
 have lpl:((List.range (m+1)).filter fun j=>(f j).isSome).length=es.size:=by
  rw [← gG f,List.length_map,← List.length_map (f:=(·.2)),gy f]
  show (vals m owner).length=es.size
  rw [e3.length_eq,List.length_range]
 have so:((vals m owner).toArray.filterMap (fun (i:Nat)=>es[i]?)).size=es.size:=by
  rw [← Array.length_toList,po.length_eq,Array.length_toList]
 refine ⟨_,{ mask:=m,place:=((List.range (m+1)).filter fun j=>(f j).isSome).toArray,dummies:=#[],finger:=t.finger,led:=t.led,moves:=t.movedTo m,plain:=t.plain },(List.range (m+1)).filter fun j=>(f j).isSome,?_,po,rfl,?_,lpl,rfl,rfl,rfl,rfl⟩
 ·unfold relayAll
  rw [r1]
  dsimp only
  have c1:coversAll (vals m owner).toArray es.size=true:=by
   unfold coversAll
   rw [List.isPerm_iff]
   exact e3
  have c2:SetTable.fits { mask:=m,place:=((List.range (m+1)).filter fun j=>(f j).isSome).toArray,dummies:=#[],finger:=t.finger,led:=t.led,moves:=t.movedTo m,plain:=t.plain } ((vals m owner).toArray.filterMap (fun (i:Nat)=>es[i]?)).size=true:=by
   unfold SetTable.fits SetTable.fill
   rw [so]
   simp only [List.size_toArray,lpl]
   simpa using hn
  rw [c1,c2]
  rfl
 ·exact List.Pairwise.filter _ List.pairwise_lt_range
end ZS
namespace ZS
open PySem
end ZS
namespace ZS
open PySem
end ZS
namespace L2
open PySem PySem.Spec PyProof.Rows ZS
def dD (m:Nat):Bool:=m == 7 || m == 31 || m == 127 || m == 511
theorem og {m:Nat} (h:dD m=true):full m=true:=by
 simp only [dD,Bool.or_eq_true,beq_iff_eq] at h
 rcases h with ((h | h) | h) | h<;>subst h
 ·exact Ax
 ·exact yS
 ·exact vI
 ·exact uZ
def fX (w:World) (h:Heap) (a:Addr) (ks:List Int):Prop:=
 ∃ (o:Obj) (es:Array (Int×Value)) (ep:Nat) (t:SetTable) (pl:List Nat),h.get? a=some o∧o.ExactSet∧o.data=.set es ep t∧dD t.mask=true∧t.dummies=#[]∧t.plain=true∧t.led=!(w.params.followText "set-order") ∧
  t.place=pl.toArray∧(Ri pl∧pl.length=ks.length∧ks.length * 5 < t.mask * 3)∧IntsAre (es.toList.map Prod.snd) ks∧(∀ e∈es.toList,∃ k,Value.isInt k e.2=true∧e.1=hashInt k)∧ks.Nodup∧ks.length≤300
theorem cG:∀ {vs:List Value} {ns:List Int},IntsAre vs ns→vs.length=ns.length
 | _,_,.nil=>rfl
 | _,_,.cons n t r=>by simp [cG r]
theorem fits_of {t:SetTable} {n:Nat} (h2:t.dummies=#[]) (h3:t.place.size=n) (hn:n≤t.mask):t.fits n=true:=by
 unfold SetTable.fits SetTable.fill
 rw [h2,h3]
 simp
 omega
theorem fH {k:Int} {t:Tok}:Value.isInt k (.int k t)=true:=by simp [Value.isInt]
theorem isInt_iff {k j:Int} {t:Tok}:Value.isInt k (.int j t)=true↔k=j:=by
 constructor
 ·intro h
  obtain ⟨t',e⟩:=Value.isInt_shape h
  cases e;rfl
 ·rintro rfl;exact fH
theorem iq:∀ {es:List (Int×Value)} {ks:List Int} {k:Int},IntsAre (es.map Prod.snd) ks→(k∈ks↔(es.findIdx? fun e=>Value.isInt k e.2).isSome=true)
 | [],_,k,r=>by cases r;simp
 | e :: es,_,k,r=>by
  obtain ⟨h,v⟩:=e
  cases r with
  | cons n t r=>
   have ih:=iq (k:=k) r
   rw [List.findIdx?_cons]
   by_cases hk:k=n
   ·subst hk
    simp [fH]
   ·have:Value.isInt k (.int n t)=false:=by rw [← Bool.not_eq_true,isInt_iff];exact hk
    simp only [this,List.mem_cons,hk,false_or]
    rw [ih]
    simp
theorem hG {α:Type} (xs:Array α) (p:Nat) (x:α) (hp:p≤xs.size):(SetTable.insertAt xs p x).toList=xs.toList.take p++x :: xs.toList.drop p:=by
 unfold SetTable.insertAt
 simp
 rw [List.take_of_length_le (by simp)]
section
variable {prog:Program} {w:World} {A:Around} {E:Value→Shared→Prop} {s:Shared}
theorem IntsAre.app:∀ {vs us:List Value} {ns ms:List Int},IntsAre vs ns→IntsAre us ms→IntsAre (vs++us) (ns++ms)
 | _,_,_,_,.nil,r=>r
 | _,_,_,_,.cons n t q,r=>.cons n t (IntsAre.app q r)
theorem IntsAre.ub:∀ {vs:List Value} {ns:List Int} (p:Nat),IntsAre vs ns→IntsAre (vs.take p) (ns.take p)
 | _,_,0,_=>.nil
 | _,_,_+1,.nil=>.nil
 | _,_,p+1,.cons n t q=>.cons n t (IntsAre.ub p q)
theorem IntsAre.uA:∀ {vs:List Value} {ns:List Int} (p:Nat),IntsAre vs ns→IntsAre (vs.drop p) (ns.drop p)
 | _,_,0,r=>r
 | _,_,_+1,.nil=>.nil
 | _,_,p+1,.cons _ _ q=>IntsAre.uA p q
theorem k8:∀ {vs us:List Value},List.Perm vs us→∀ {ns:List Int},IntsAre us ns→∃ ms,IntsAre vs ms∧List.Perm ms ns:=by
 intro vs us hp
 induction hp with
 | nil=>intro ns r;exact ⟨ns,r,.refl _⟩
 | cons x _ ih=>
  intro ns r
  cases r with
  | cons n t r=>
   obtain ⟨ms,a,b⟩:=ih r
   exact ⟨n :: ms,.cons n t a,b.cons n⟩
 | swap x y l=>
  intro ns r
  cases r with
  | cons n t r=>cases r with
   | cons n' t' r=>exact ⟨n' :: n :: _,.cons n' t' (.cons n t r),.swap ..⟩
 | trans _ _ ih1 ih2=>
  intro ns r
  obtain ⟨ms,a,b⟩:=ih2 r
  obtain ⟨ms',a',b'⟩:=ih1 a
  exact ⟨ms',a',b'.trans b⟩
theorem tP {t':SetTable} {es':Array (Int×Value)} {n:Nat} (hm:dD t'.mask=true) (hn:es'.size=n) (h1:¬n * 5 < t'.mask * 3) (h2:n * 5 < t'.mask * 3+5) (h3:n≤300) :
  dD (SetTable.sizeAbove (SetTable.grown n) - 1)=true∧n * 5 < (SetTable.sizeAbove (SetTable.grown n) - 1) * 3:=by
 simp only [dD,Bool.or_eq_true,beq_iff_eq] at hm
 rcases hm with ((hm | hm) | hm) | hm<;>rw [hm] at h1 h2
 ·have:n=5:=by omega
  subst this;decide +kernel
 ·have:n=19:=by omega
  subst this;decide +kernel
 ·have:n=77:=by omega
  subst this;decide +kernel
 ·omega
theorem tY {a:Addr} {ks:List Int} {k:Int} {tk:Tok} {Q:Bool→Shared→Prop} (hS:fX w s.heap a ks) (hl:k∉ks→ks.length < 300)
  (h:∀ (h':Heap) (ks':List Int) (b:Bool),Heap.SameBut a s.heap h'→fX w h' a ks'→(∀ x,x∈ks'↔x∈ks∨x=k)→(k∈ks→ks'.length=ks.length)→(k∉ks→ks'.length=ks.length+1)→Q b { s with heap:=h',toks:=s.toks+1 }) :
  wpAny (model prog w) A (setAdd a (.int k tk)) Q E s:=by
 obtain ⟨o,es,ep,t,pl,g1,g2,g3,g4,g5,g6,g7,g8,g9,g10,g11,g12,g13⟩:=hS
 obtain ⟨g9,lpl,g14⟩:=g9
 have hmask:=og g4
 have lks:es.size=ks.length:=by
  have:=cG g10
  rw [List.length_map,Array.length_toList] at this
  exact this
 have hmk:7≤t.mask:=by
  have q:=g4
  simp only [dD,Bool.or_eq_true,beq_iff_eq] at q
  omega
 have hfit:t.fits es.size=true:=fits_of g5 (by rw [g8,lks];simpa using lpl) (by omega)
 have hel:ElemsOf (intKind prog w) es.toList:=fun e he=>by
  obtain ⟨k',e1,e2⟩:=g11 e he
  refine ⟨⟨k',e1,e2⟩,?_⟩
  obtain ⟨t',e'⟩:=Value.isInt_shape e1
  rw [e'];rfl
 have hint:(intKind prog w).is k (.int k tk)=true:=fH (k:=k) (t:=tk)
 unfold setAdd
 refine wpAny_holding (wpAny_bind ((intKind prog w).pyHash (k:=k) (v:=.int k tk) hint ?_))
 unfold setAddHashed
 refine wpAny_holding ?_
 show wpAny _ _ (setAddHashedIn a (.int k tk) _ (99999+1)) _ _ _
 rw [setAddHashedIn.eq_2]
 refine wpAny_bind (wpAny_setState_of g1 g3 hfit ?_)
 show wpAny _ _ (if byScan (.int k tk) es=true then _ else _) _ _ _
 rw [if_pos (byScan_of (knd:=intKind prog w) rfl (by unfold scanBound;omega) hel)]
 refine wpAny_bind ?_
 unfold setAddByScan
 refine wpAny_bind (wpAny_rule (wpAny_bind (wpAny_setScan_of (knd:=intKind prog w) (k:=k) hint g1 g3 hfit hel ?_)))
 have hfi:=iq (k:=k) g10
 by_cases hm:k∈ks
 ·have hs:=hfi.mp hm
  cases hf:List.findIdx? (fun e=>(intKind prog w).is k e.snd) es.toList with
  | none=>
   have hf':List.findIdx? (fun e:Int×Value=>Value.isInt k e.2) es.toList=none:=hf
   rw [hf'] at hs;cases hs
  | some j=>
   refine wpAny_pure (wpAny_pure ?_)
   exact h s.heap ks false (Heap.SameBut.refl ..) ⟨o,es,ep,t,pl,g1,g2,g3,g4,g5,g6,g7,g8,⟨g9,lpl,g14⟩,g10,g11,g12,g13⟩ (fun x=>⟨.inl,fun z=>z.elim id fun e=>e ▸ hm⟩) (fun _=>rfl) (fun z=>absurd hm z)
 ·have hl3:=hl hm
  have hnone:List.findIdx? (fun e=>(intKind prog w).is k e.snd) es.toList=none:=by
   have hf':List.findIdx? (fun e:Int×Value=>Value.isInt k e.2) es.toList=none:=by
    cases hf:List.findIdx? (fun e:Int×Value=>Value.isInt k e.2) es.toList with
    | none=>rfl
    | some j=>exact absurd (hfi.mpr (by rw [hf];rfl)) hm
   exact hf'
  rw [hnone]
  obtain ⟨j,hfree,hjl⟩:=rp g8 g9 g5 hmask (show pl.length≤t.mask by omega) (hashInt k)
  obtain ⟨p,hple,hpb,hpa,hpc⟩:=qc g9 j
  have hp:SetTable.below pl.toArray j=p:=hpb
  have les0:es.size=pl.length:=by omega
  have riN:Ri (pl.take p++j :: pl.drop p):=rH g9 hjl hpa hpc
  have liN:(SetTable.insertAt pl.toArray p j).toList=pl.take p++j :: pl.drop p:=by
   have:=hG pl.toArray p j (by simpa using hple)
   simpa using this
  refine show _ from ?_
  ·have hput:t.put j=({ mask:=t.mask,place:=SetTable.insertAt t.place p j,dummies:=#[],finger:=t.finger,led:=t.led,moves:=t.moves,plain:=t.plain },p):=by
    unfold SetTable.put
    rw [g8,hp,g5]
    rfl
   generalize ht':({ mask:=t.mask,place:=SetTable.insertAt t.place p j,dummies:=#[],finger:=t.finger,led:=t.led,moves:=t.moves,plain:=t.plain }:SetTable)=t' at hput
   have m1:t'.mask=t.mask:=by rw [← ht']
   have m2:t'.dummies=#[]:=by rw [← ht']
   have m3:t'.plain=true:=by rw [← ht'];exact g6
   have m4:t'.led=!(w.params.followText "set-order"):=by rw [← ht'];exact g7
   have m5:t'.place=(pl.take p++j :: pl.drop p).toArray:=by rw [← ht',g8,← liN]
   have lpl':(pl.take p++j :: pl.drop p).length=ks.length+1:=by simp;omega
   have les:(SetTable.insertAt es p (hashInt k,Value.int k tk)).toList=es.toList.take p++(hashInt k,Value.int k tk) :: es.toList.drop p:=hG _ _ _ (by omega)
   generalize hes:SetTable.insertAt es p (hashInt k,Value.int k tk)=es' at les
   have lsz:es'.size=ks.length+1:=by
    rw [← Array.length_toList,les]
    simp
    omega
   have hfit':t'.fits es'.size=true:=fits_of m2 (by rw [m5,lsz];simpa using lpl') (by omega)
   have hlay:layNew t es (hashInt k) (.int k tk)=(es',t',false,false):=by
    unfold layNew
    rw [hfree]
    simp only [hput,hes]
    unfold SetTable.orStandIn
    rw [if_pos hfit',hfit']
    rfl
   have hlay2:layNew t es ((intKind prog w).hash k) (.int k tk)=(es',t',false,false):=hlay
   rw [hlay2]
   dsimp only
   refine wpAny_bind (wpAny_pure ?_)
   rw [if_pos m3,hashByValue_scannable 8 (x:=.int k tk) rfl]
   refine wpAny_bind (wpAny_pure ?_)
   have hpk:plainKind (Value.int k tk)=true:=rfl
   rw [if_pos hpk]
   have h1000:(1000:Nat)≤sizeLine:=Nat.le_of_lt (dw (Nat.le_refl 1000))
   have hsz:¬es'.size > sizeLine:=by rw [lsz];omega
   have i1:IntsAre (es'.toList.map Prod.snd) (ks.take p++k :: ks.drop p):=by
    rw [les,List.map_append,List.map_cons,List.map_take,List.map_drop]
    exact IntsAre.app (IntsAre.ub p g10) (.cons k tk (IntsAre.uA p g10))
   have i2:∀ e∈es'.toList,∃ k,Value.isInt k e.2=true∧e.1=hashInt k:=by
    intro e he
    rw [les] at he
    rcases List.mem_append.mp he with z | z
    ·exact g11 e (List.mem_of_mem_take z)
    ·rcases List.mem_cons.mp z with z | z
     ·rw [z];exact ⟨k,fH,rfl⟩
     ·exact g11 e (List.mem_of_mem_drop z)
   have hperm:List.Perm (ks.take p++k :: ks.drop p) (k :: ks):=by
    have:=List.perm_middle (a:=k) (l₁:=ks.take p) (l₂:=ks.drop p)
    rw [List.take_append_drop] at this
    exact this
   have kl:(ks.take p++k :: ks.drop p).length=ks.length+1:=by rw [hperm.length_eq];rfl
   have i3:(ks.take p++k :: ks.drop p).Nodup:=by
    rw [hperm.nodup_iff,List.nodup_cons]
    exact ⟨hm,g12⟩
   have i4:∀ x,x∈ks.take p++k :: ks.drop p↔x∈ks∨x=k:=by
    intro x
    rw [hperm.mem_iff,List.mem_cons]
    exact or_comm
   generalize hks:ks.take p++k :: ks.drop p=ks' at i1 kl i3 i4
   have hfill:t'.fill=ks.length+1:=by
    unfold SetTable.fill
    rw [m2,m5]
    simp only [List.size_toArray,lpl']
    rfl
   have putS:∀ (e2:Array (Int×Value)) (t2:SetTable) (o2:Obj) (e1:Array (Int×Value)) (n1:Nat) (t1:SetTable),o2.data=.set e1 n1 t1→Obj.putSet e2 t2 o2={ o2 with data:=.set e2 (n1+1) t2 }:=by
    intro e2 t2 o2 e1 n1 t1 hd
    obtain ⟨oc,od,oda,osl⟩:=o2
    have hd':oda=.set e1 n1 t1:=hd
    subst hd'
    rfl
   refine wpAny_bind ?_
   unfold storeSet
   refine wpAny_bind (wpAny_load' g1 ?_)
   rw [g3]
   dsimp only
   rw [if_neg hsz]
   refine wpAny_update' g1 ?_
   have hupd:=putS es' t' o es ep t g3
   have gN:(s.heap.update a (Obj.putSet es' t')).get? a=some { o with data:=.set es' (ep+1) t' }:=by
    rw [← hupd]
    exact Heap.get?_update_self _ g1 (by rw [hupd];rfl)
   have sbN:Heap.SameBut a s.heap (s.heap.update a (Obj.putSet es' t')):=Heap.SameBut.update ..
   by_cases hfull:(ks.length+1) * 5 < t.mask * 3
   ·have hf0:(!false && t'.tooFull)=false:=by
     unfold SetTable.tooFull
     rw [hfill,m1]
     simp
     omega
    rw [hf0]
    rw [if_neg (by simp)]
    refine wpAny_pure (wpAny_pure ?_)
    exact h _ ks' true sbN ⟨_,es',ep+1,t',_,gN,g2,rfl,by rw [m1];exact g4,m2,m3,m4,m5,⟨riN,by rw [lpl',kl],by rw [kl,m1];exact hfull⟩,i1,i2,i3,by omega⟩ i4 (fun z=>absurd z hm) (fun _=>kl)
   ·have hf1:(!false && t'.tooFull)=true:=by
     unfold SetTable.tooFull
     rw [hfill,m1]
     simp
     omega
    rw [hf1]
    rw [if_pos rfl]
    obtain ⟨w1,w2⟩:=tP (t':=t') (es':=es') (n:=ks.length+1) (by rw [m1];exact g4) lsz (by rw [m1];exact hfull) (by rw [m1];omega) (by omega)
    rw [lsz]
    obtain ⟨e2,t2,l2,r1,r2,r3,r4,r5,r6,r7,r8,r9⟩:=sj (t:=t') (es:=es') (wanted:=SetTable.grown (ks.length+1)) (og w1) (by rw [lsz];omega)
    rw [r1]
    dsimp only
    have lsz2:e2.size=ks.length+1:=by rw [← Array.length_toList,r2.length_eq,Array.length_toList,lsz]
    obtain ⟨ks2,j1,j2⟩:=k8 (r2.map Prod.snd) i1
    refine wpAny_bind (wpAny_pure ?_)
    refine wpAny_bind ?_
    refine wpAny_bind (wpAny_load' gN ?_)
    dsimp only
    rw [if_neg (by rw [lsz2];omega)]
    refine wpAny_update' gN ?_
    refine wpAny_pure (wpAny_pure ?_)
    have gM:((s.heap.update a (Obj.putSet es' t')).update a (Obj.putSet e2 t2)).get? a=some { o with data:=.set e2 (ep+1+1) t2 }:=by
     have hq:=putS e2 t2 { o with data:=.set es' (ep+1) t' } es' (ep+1) t' rfl
     rw [← hq]
     exact Heap.get?_update_self _ gN (by rw [hq];rfl)
    refine h _ ks2 true (sbN.trans (Heap.SameBut.update ..)) ⟨_,e2,ep+1+1,t2,l2,gM,g2,rfl,by rw [r7];exact w1,r6,by rw [r8];exact m3,by rw [r9];exact m4,r3,⟨r4,by rw [r5,lsz,j2.length_eq,kl],by rw [r7,j2.length_eq,kl];exact w2⟩,j1,fun e he=>i2 e (r2.mem_iff.mp he),j2.nodup_iff.mpr i3,by rw [j2.length_eq,kl];omega⟩ (fun x=>by rw [j2.mem_iff];exact i4 x) (fun z=>absurd z hm) (fun _=>by rw [j2.length_eq,kl])
end
section
variable {prog:Program} {w:World} {A:Around} {E:Value→Shared→Prop} {s:Shared}
theorem fX.at {h h':Heap} {S:Addr} {ks:List Int} (H:fX w h S ks) (k:∀ o,h.get? S=some o→h'.get? S=some o):fX w h' S ks:=by
 obtain ⟨o,es,ep,t,pl,g1,r⟩:=H
 exact ⟨o,es,ep,t,pl,k o g1,r⟩
theorem kX {R:Result→Shared→Prop} {I:Addr} {fp wr:List Addr} {n:Nat} {P:Nat→Value→Prop} {St:Nat→Heap→Prop} (W:Walks prog w A.in1 I fp wr n P St) (S:Addr) (hSf:S∉fp) (val:Nat→Int) (hval:∀ i v,P i v→∃ t,v=Value.int (val i) t) (hn:n≤300) :
  ∀ (k i:Nat) (s:Shared) (ks:List Int),n - i=k→i≤n→St i s.heap→fX w s.heap S ks→(∀ x,x∈ks↔∃ j,j < i∧val j=x)→ks.length≤i →
   (∀ (h':Heap) (tk:Nat) (ks':List Int),(∀ b o,b≠S→b∉wr→s.heap.get? b=some o→h'.get? b=some o)→fX w h' S ks'→(∀ x,x∈ks'↔∃ j,j < n∧val j=x)→R (.ok (.ret .none)) { s with heap:=h',toks:=tk }) →
   codeAny (model prog w) A (Code.builtin "set.update.loop" ⟨[.ref S,.ref I],[]⟩) R s:=by
 have hSw:S∉wr:=fun h=>hSf (W.sub S h)
 intro k
 induction k with
 | zero=>
  intro i s ks hk hi hst hS hks hlen hR
  have hin:i=n:=by omega
  subst hin
  refine codeAny_builtin F.entry_set_update_loop ?_
  rw [Around.under_plainId F.plain_set_update_loop]
  refine (show wpAny _ _ (pyNext (.ref I)>>=_) _ _ _ from wpAny_bind (W.done s _ _ hst fun h' tk hk'=>?_))
  exact wpAny_pure (hR h' tk ks (fun b o _ hw e=>hk' b o hw e) (hS.at fun o e=>hk' S o hSw e) hks)
 | succ k ih=>
  intro i s ks hk hi hst hS hks hlen hR
  refine codeAny_builtin F.entry_set_update_loop ?_
  rw [Around.under_plainId F.plain_set_update_loop]
  refine (show wpAny _ _ (pyNext (.ref I)>>=_) _ _ _ from wpAny_bind (W.item i s _ _ (by omega) hst fun v h' tk hP hst' hk'=>?_))
  obtain ⟨t,rfl⟩:=hval i v hP
  refine (show wpAny _ _ (holding [Value.int (val i) t] (setAdd S (.int (val i) t))>>=_) _ _ _ from wpAny_bind (wpAny_holding ?_))
  refine tY (s:={ s with heap:=h',toks:=tk }) (hS.at fun o e=>hk' S o hSw e) (fun _=>by omega) fun h2 ks2 b sb hS2 hm l1 l2=>?_
  refine wpAny_pure ⟨plainId_quiet F.plain_set_update_loop _,ih (i+1) _ ks2 (by omega) (by omega) ?_ hS2 ?_ ?_ fun h3 tk3 ks3 q1 q2 q3=>?_⟩
  ·exact W.frame _ _ _ hst' fun b hb' o e=>sb.extBut b o (fun z=>hSf (z ▸ hb')) e
  ·intro x
   rw [hm,hks]
   constructor
   ·rintro (⟨j,h1,h2⟩ | rfl)
    ·exact ⟨j,by omega,h2⟩
    ·exact ⟨i,by omega,rfl⟩
   ·rintro ⟨j,h1,h2⟩
    by_cases e:j=i
    ·subst e;exact .inr h2.symm
    ·exact .inl ⟨j,by omega,h2⟩
  ·by_cases hin:val i∈ks
   ·have:=l1 hin;omega
   ·have:=l2 hin;omega
  ·exact hR h3 tk3 ks3 (fun b o hb1 hb2 e=>q1 b o hb1 hb2 (sb.extBut b o hb1 (hk' b o hb2 e))) q2 q3
theorem kZ (a:Value) {Q₁:Value→Shared→Prop}
  (h:Q₁ (.ref s.heap.objs.size) { s with heap:=s.heap.push { cls:=.type "set",data:=.set #[] 0 (SetTable.fresh 0 0 (!(w.params.followText "set-order"))) } }) :
  codeAny (model prog w) A (Code.call (.builtin "set.__new__") ⟨[.type "set",a],[]⟩) (wants Q₁ E) s:=by
 refine codeAny_of_tree ?_
 refine (show wpAny _ _ (checkBuiltinCall "set.__new__" ⟨[.type "set",a],[]⟩>>=_) _ _ _ from wpAny_bind (wpAny_of_eq (F.newCall_set_1 a) (wpAny_pure ⟨plainId_quiet F.plain_set_new _,codeAny_builtin F.entry_set_new ?_⟩)))
 rw [Around.under_plainId F.plain_set_new]
 have hsub:=sub_set_self
 refine (show wpAny _ _ (Builtin.Frozenset.newClass "set" _>>=_) _ _ _ from wpAny_bind ?_)
 unfold Builtin.Frozenset.newClass
 refine wpAny_bind (wpAny_pure ?_)
 refine wpAny_ite_false rfl (wpAny_bind (wpAny_of_eq hsub (wpAny_ite_false rfl (wpAny_pure ?_))))
 refine (show wpAny _ _ (newSet (.type "set")>>=_) _ _ _ from wpAny_bind ?_)
 unfold newSet
 refine wpAny_bind ?_
 unfold setsByText
 refine wpAny_bind (wpAny_askSetting (wpAny_pure ?_))
 exact (show wpAny _ _ (newObj (.type "set") (Data.set #[] 0 (SetTable.fresh 0 0 (!(w.params.followText "set-order"))))) _ _ _ from wpAny_newObj_type (wpAny_pure h) (by first | size_fits | (intro _;decide)))
theorem fT:∀ {vs:List Value} {ns:List Int} {i:Nat} {v:Value},IntsAre vs ns→vs[i]?=some v→∃ t,v=Value.int (ns.getD i 0) t
 | _,_,_,_,.nil,e=>by simp at e
 | _,_,0,_,.cons n t _,e=>⟨t,by simpa using e.symm⟩
 | _,_,i+1,v,.cons n t r,e=>by
  obtain ⟨t',e'⟩:=fT (i:=i) (v:=v) r (by simpa using e)
  exact ⟨t',by simpa using e'⟩
def l_ (h:Heap) (l:Addr) (items:Array Value) (k:Bool):Prop:=if k=true then h.IsList l items else h.IsTuple l items
theorem qU {S l:Addr} {items:Array Value} {ns:List Int} {F:PySem.Fin→Shared→Prop} {hp:Heap} {g:Array GenState} {d:Drawn} {tk:Nat} {os:OsState} (hh:A.handled=none) (hS:hp.get? S=some { cls:=.type "set",data:=.set #[] 0 (SetTable.fresh 0 0 (!(w.params.followText "set-order"))) }) (k:Bool) (hl:l_ hp l items k) (hi:IntsAre items.toList ns) (hn:ns.length≤300)
    (h:∀ (h':Heap) (tk':Nat) (ks:List Int),fX w h' S ks→(∀ x,x∈ks↔x∈ns)→(∀ b o,b≠S→hp.get? b=some o→h'.get? b=some o)→F (.done (.ret .none)) ⟨h',g,d,tk',os⟩) :
    wpAny (model prog w) A (Builtin.«set.__init__» ⟨[.ref S,.ref l],[]⟩) F E ⟨hp,g,d,tk,os⟩:=by
  cases k with
  | false=>
    replace hl:hp.IsTuple l items:=hl
    have hT:Shared.TypeIs ⟨hp,g,d,tk,os⟩ (.ref S) "set":=⟨_,hS,rfl⟩
    have hTt:Shared.TypeIs ⟨hp,g,d,tk,os⟩ (.ref l) "tuple":=hl.typeIs
    unfold Builtin.«set.__init__»
    refine wpAny_bind ?_
    unfold noKeywords
    refine wpAny_ite_true rfl (wpAny_pure ?_)
    dsimp only
    refine wpAny_bind ?_
    unfold typeNameOfCut
    refine wpAny_bind ?_
    unfold shownTypeOf
    refine wpAny_bind (wpAny_typeOf hT ?_)
    first
    | refine wpAny_ite_false rfl (wpAny_pure ?_)
    | refine wpAny_pure ?_
    refine (show wpAny _ _ (pure _) _ _ _ from wpAny_pure ?_)
    refine wpAny_bind ?_
    unfold checkCount
    refine wpAny_ite_false rfl (wpAny_ite_false rfl (wpAny_ite_false rfl (wpAny_pure ?_)))
    refine wpAny_bind (wpAny_pure ?_)
    refine wpAny_bind ?_
    unfold setUsed
    refine wpAny_bind (wpAny_setState_of hS rfl (by rfl) (wpAny_pure ?_))
    refine wpAny_ite_false rfl ?_
    refine wpAny_bind ?_
    unfold Builtin.Frozenset.updateFrom
    refine wpAny_bind ?_
    unfold Builtin.Frozenset.isAnySet
    refine (show wpAny _ _ (isInstance (.ref l) (.type "set")>>=_) _ _ _ from wpAny_bind (wpAny_isInstance hTt PySem.F.sub_tuple_set ?_))
    refine (show wpAny _ _ (isInstance (.ref l) (.type "frozenset")) _ _ _ from wpAny_isInstance hTt PySem.F.sub_tuple_frozenset ?_)
    refine wpAny_ite_false rfl (wpAny_bind (wpAny_typeOf hTt (wpAny_ite_false rfl (wpAny_bind (wpAny_pyIter_tuple hl ?_)))))
    refine wpAny_bind (wpAny_runValue ?_)
    have hlt:S < hp.objs.size:=Heap.lt_size hS
    obtain ⟨o,ho,hor⟩:=hl
    have hlt2:l < hp.objs.size:=Heap.lt_size ho
    have hne:l≠hp.objs.size:=Nat.ne_of_lt hlt2
    have W:=Walks.tuple (prog:=prog) (w:=w) (A:=A.in1) hh hp.objs.size l hne items
    have lit:items.size=ns.length:=by rw [← Array.length_toList];exact cG hi
    have hSl:S≠l:=fun e=>by
      rw [e,ho] at hS
      cases hS
      exact absurd (Value.type.inj hor.1) (by decide)
    refine kX W S (by simp only [List.mem_cons,List.not_mem_nil,or_false,not_or];exact ⟨Nat.ne_of_lt hlt,hSl⟩) (fun i=>ns.getD i 0) ?_ (by omega) items.size 0 _ [] (by omega) (Nat.zero_le _) ?_ ?_ ?_ (Nat.le_refl 0) ?_
    · intro i v hv
      exact fT hi (by simpa using hv)
    · exact ⟨⟨_,Heap.get?_push_size _ rfl,rfl,rfl⟩,⟨o,Heap.get?_push_of_some _ ho,hor⟩⟩
    · refine ⟨_,#[],0,_,[],Heap.get?_push_of_some _ hS,⟨rfl,rfl,rfl⟩,rfl,(show dD 7=true by decide),rfl,rfl,rfl,rfl,⟨List.Pairwise.nil,rfl,(show 0 * 5 < 7 * 3 by decide)⟩,.nil,by simp,List.nodup_nil,by simp⟩
    · intro x
      simp
    · intro h' tk' ks' q1 q2 q3
      refine wpAny_pure (wpAny_pure (h h' tk' ks' q2 ?_ ?_))
      · intro x
        rw [q3]
        constructor
        · rintro ⟨j,hj,rfl⟩
          show ns.getD j 0∈ns
          rw [List.getD_eq_getElem?_getD,List.getElem?_eq_getElem (show j < ns.length by omega)]
          exact List.getElem_mem _
        · intro hx
          obtain ⟨j,hj,e⟩:=List.mem_iff_getElem.mp hx
          refine ⟨j,by omega,?_⟩
          show ns.getD j 0=x
          rw [List.getD_eq_getElem?_getD,List.getElem?_eq_getElem hj]
          exact e
      · intro b o' hbS e
        refine q1 b o' hbS ?_ (Heap.get?_push_of_some _ e)
        simp only [List.mem_singleton]
        exact Nat.ne_of_lt (Heap.lt_size e)
  | true=>
    replace hl:hp.IsList l items:=hl
    have hT:Shared.TypeIs ⟨hp,g,d,tk,os⟩ (.ref S) "set":=⟨_,hS,rfl⟩
    have hTt:Shared.TypeIs ⟨hp,g,d,tk,os⟩ (.ref l) "list":=hl.typeIs
    unfold Builtin.«set.__init__»
    refine wpAny_bind ?_
    unfold noKeywords
    refine wpAny_ite_true rfl (wpAny_pure ?_)
    dsimp only
    refine wpAny_bind ?_
    unfold typeNameOfCut
    refine wpAny_bind ?_
    unfold shownTypeOf
    refine wpAny_bind (wpAny_typeOf hT ?_)
    first
    | refine wpAny_ite_false rfl (wpAny_pure ?_)
    | refine wpAny_pure ?_
    refine (show wpAny _ _ (pure _) _ _ _ from wpAny_pure ?_)
    refine wpAny_bind ?_
    unfold checkCount
    refine wpAny_ite_false rfl (wpAny_ite_false rfl (wpAny_ite_false rfl (wpAny_pure ?_)))
    refine wpAny_bind (wpAny_pure ?_)
    refine wpAny_bind ?_
    unfold setUsed
    refine wpAny_bind (wpAny_setState_of hS rfl (by rfl) (wpAny_pure ?_))
    refine wpAny_ite_false rfl ?_
    refine wpAny_bind ?_
    unfold Builtin.Frozenset.updateFrom
    refine wpAny_bind ?_
    unfold Builtin.Frozenset.isAnySet
    refine (show wpAny _ _ (isInstance (.ref l) (.type "set")>>=_) _ _ _ from wpAny_bind (wpAny_isInstance hTt PySem.F.sub_list_set ?_))
    refine (show wpAny _ _ (isInstance (.ref l) (.type "frozenset")) _ _ _ from wpAny_isInstance hTt PySem.F.sub_list_frozenset ?_)
    refine wpAny_ite_false rfl (wpAny_bind (wpAny_typeOf hTt (wpAny_ite_false rfl (wpAny_bind (wpAny_pyIter_list hl ?_)))))
    refine wpAny_bind (wpAny_runValue ?_)
    have hlt:S < hp.objs.size:=Heap.lt_size hS
    obtain ⟨o,ho,hor⟩:=hl
    have hlt2:l < hp.objs.size:=Heap.lt_size ho
    have hne:l≠hp.objs.size:=Nat.ne_of_lt hlt2
    have W:=Walks.list (prog:=prog) (w:=w) (A:=A.in1) hh hp.objs.size l hne items
    have lit:items.size=ns.length:=by rw [← Array.length_toList];exact cG hi
    have hSl:S≠l:=fun e=>by
      rw [e,ho] at hS
      cases hS
      exact absurd (Value.type.inj hor.1) (by decide)
    refine kX W S (by simp only [List.mem_cons,List.not_mem_nil,or_false,not_or];exact ⟨Nat.ne_of_lt hlt,hSl⟩) (fun i=>ns.getD i 0) ?_ (by omega) items.size 0 _ [] (by omega) (Nat.zero_le _) ?_ ?_ ?_ (Nat.le_refl 0) ?_
    · intro i v hv
      exact fT hi (by simpa using hv)
    · exact ⟨⟨_,Heap.get?_push_size _ rfl,rfl,rfl⟩,⟨o,Heap.get?_push_of_some _ ho,hor⟩⟩
    · refine ⟨_,#[],0,_,[],Heap.get?_push_of_some _ hS,⟨rfl,rfl,rfl⟩,rfl,(show dD 7=true by decide),rfl,rfl,rfl,rfl,⟨List.Pairwise.nil,rfl,(show 0 * 5 < 7 * 3 by decide)⟩,.nil,by simp,List.nodup_nil,by simp⟩
    · intro x
      simp
    · intro h' tk' ks' q1 q2 q3
      refine wpAny_pure (wpAny_pure (h h' tk' ks' q2 ?_ ?_))
      · intro x
        rw [q3]
        constructor
        · rintro ⟨j,hj,rfl⟩
          show ns.getD j 0∈ns
          rw [List.getD_eq_getElem?_getD,List.getElem?_eq_getElem (show j < ns.length by omega)]
          exact List.getElem_mem _
        · intro hx
          obtain ⟨j,hj,e⟩:=List.mem_iff_getElem.mp hx
          refine ⟨j,by omega,?_⟩
          show ns.getD j 0=x
          rw [List.getD_eq_getElem?_getD,List.getElem?_eq_getElem hj]
          exact e
      · intro b o' hbS e
        refine q1 b o' hbS ?_ (Heap.get?_push_of_some _ e)
        simp only [List.mem_singleton]
        exact Nat.ne_of_lt (Heap.lt_size e)
theorem rk {l:Addr} {items:Array Value} {ns:List Int} {Q:Value→Shared→Prop} (hh:A.handled=none) (k:Bool) (hl:l_ s.heap l items k) (hi:IntsAre items.toList ns) (hn:ns.length≤300)
  (h:∀ (h':Heap) (tk:Nat) (ks:List Int),fX w h' s.heap.objs.size ks→(∀ x,x∈ks↔x∈ns)→(∀ b o,s.heap.get? b=some o→h'.get? b=some o)→Q (.ref s.heap.objs.size) { s with heap:=h',toks:=tk }):wpAny (model prog w) A (call (.type "set") [.ref l]) Q E s:=by
 obtain ⟨c,tl,hmro⟩:=F.called_set.mro
 have hmade:=F.called_set.made
 have hsub:=F.called_set.sub
 have h1:=F.called_set.notType
 have h2:=F.called_set.canCreate
 have hct:=F.typeCall_set_1 (Value.ref l)
 refine wpAny_call (codeAny_of_tree ?_)
 refine (show wpAny _ _ (pure (Fin.again (Code.builtin "type.__call__" ⟨[.type "set",.ref l],[]⟩))) _ _ _ from wpAny_pure ⟨Code.quiet_builtin _ (by decide +kernel),codeAny_builtin F.entry_type_call ?_⟩)
 rw [Around.under_plain (weight_type_call_type "set" [Value.ref l] []) rfl]
 unfold Builtin.«type.__call__»
 dsimp only
 refine wpAny_ite_false rfl (wpAny_ite_false (by rw [h2];rfl) (wpAny_bind (wpAny_of_eq hct (wpAny_bind (wpAny_of_eq hmro (wpAny_ite_false rfl (wpAny_bind (wpAny_of_eq hmade ?_))))))))
 dsimp only
 refine wpAny_bind (wpAny_pure (wpAny_bind (wpAny_holding (wpAny_call (codeAny_mono (kZ (E:=fun _ _=>False) (Q₁:=fun obj s₁=>obj=.ref s.heap.objs.size∧s₁={ s with heap:=s.heap.push { cls:=.type "set",data:=.set #[] 0 (SetTable.fresh 0 0 (!(w.params.followText "set-order"))) } }) (.ref l) ⟨rfl,rfl⟩) fun r s₁ hr=>?_)))))
 generalize hs1:({ s with heap:=s.heap.push { cls:=.type "set",data:=.set #[] 0 (SetTable.fresh 0 0 (!(w.params.followText "set-order"))) } }:Shared)=sN at hr
 cases r with
 | error e=>exact False.elim hr
 | ok f=>
  cases f with
  | ret v=>
   obtain ⟨e1,e2⟩:=hr
   subst e1 e2
   have hT:Shared.TypeIs s₁ (.ref s.heap.objs.size) "set":=by
    rw [← hs1]
    exact ⟨_,Heap.get?_push_size _ rfl,rfl⟩
   show wpAny _ _ _ _ _ _
   refine wpAny_bind (wpAny_isInstance (T:="set") (b:=true) hT hsub ?_)
   refine wpAny_ite_false rfl (wpAny_bind (wpAny_holding ?_))
   refine wpAny_callSpecial?_slot (name:=Str.ofString "__init__") hT F.called_set.init (wpAny_call (codeAny_call_builtin F.called_set.init.plain F.entry_set_init (check_set_init_1 hT ?_)))
   subst hs1
   obtain ⟨hp,g,d,tk,os⟩:=s
   refine qU (hp:=hp.push _) hh (Heap.get?_push_size _ rfl) k (by
    cases k with
    | false=>
     obtain ⟨o,e,r⟩:=(show Heap.IsTuple _ l items from hl)
     exact (show Heap.IsTuple _ l items from ⟨o,Heap.get?_push_of_some _ e,r⟩)
    | true=>
     obtain ⟨o,e,r⟩:=(show Heap.IsList _ l items from hl)
     exact (show Heap.IsList _ l items from ⟨o,Heap.get?_push_of_some _ e,r⟩)) hi hn fun h' tk' ks q1 q2 q3=>?_
   refine wpAny_ite_false rfl (wpAny_pure (h h' tk' ks q1 q2 fun b o e=>q3 b o (Nat.ne_of_lt (Heap.lt_size e)) (Heap.get?_push_of_some _ e)))
  | _=>exact False.elim hr
end
theorem bj:Slot "set_iterator" (Str.ofString "__next__") "set_iterator.__next__":=
 Slot.of (owner:="set_iterator") (n:="__next__") (by rw [typeLookup_type,builtinLookup_eq_fast];rfl) (by decide +kernel) (by decide +kernel) (by decide +kernel) (Or.inl (by decide +kernel)) (by rw [isSubtype_type];rfl) (by decide +kernel)
theorem c5:entryFor table "set_iterator.__next__"=some Builtin.«set_iterator.__next__»:=entryFor_of_tree (by rfl)
theorem kb:entryFor table "set.__iter__"=some Builtin.«frozenset.__iter__»:=entryFor_alias (id':="frozenset.__iter__") (by rfl) (by decide +kernel) (by decide +kernel) (by rfl)
theorem eC:List.lookup (String.ofList "set_iterator".toList) Manifest.owners=some Manifest.sig_set_iterator:=by rfl
theorem dg (a:Value):argsOk "set_iterator.__next__" ⟨[a],[]⟩:=by
 have h:Manifest.signature? "set_iterator.__next__"=List.lookup (String.ofList (['_','_','t','x','e','n','_','_']:List Char).reverse) Manifest.sig_set_iterator:=signature?_of (o:=['r','o','t','a','r','e','t','i','_','t','e','s']) (by decide +kernel) eC
 unfold argsOk
 rw [h]
 rfl
theorem rT {prog:Program} {w:World} {A:Around} {E:Value→Shared→Prop} {s:Shared} {r:Addr} {Q:Bool→Shared→Prop} (hT:s.TypeIs (.ref r) "set") (h:Q false s):wpAny (model prog w) A (Builtin.List.listLengthHint (.ref r)) Q E s:=by
 unfold Builtin.List.listLengthHint
 refine wpAny_bind (wpAny_specialOf hT F.slot_set_len.lookup ?_)
 dsimp only
 rw [show splitId "set.__len__"=some ("set","__len__") by decide +kernel]
 dsimp only
 refine wpAny_bind (wpAny_isInstance hT F.called_set.sub (wpAny_ite_false rfl ?_))
 refine wpAny_ite_true rfl (wpAny_bind (wpAny_typeOf hT ?_))
 exact wpAny_pure h
theorem jH {α:Type}:∀ (l:List α) (k:Nat) (h:k < l.length),List.Perm (l[k] :: l.eraseIdx k) l
 | x :: l,0,_=>by simp
 | x :: l,k+1,h=>by
  have hk:k < l.length:=by simpa using h
  have ih:=jH l k hk
  simp only [List.getElem_cons_succ,List.eraseIdx_cons_succ]
  exact (List.Perm.swap ..).trans (List.Perm.cons x ih)
theorem nW {α:Type} (next:Nat→Nat):∀ (fuel a:Nat) (l:List α) (acc:Array α),fuel=l.length→List.Perm (pickOrder.go next fuel a l acc).toList (acc.toList++l)
 | 0,a,l,acc,h=>by
  have:l=[]:=List.eq_nil_of_length_eq_zero h.symm
  subst this
  rw [pickOrder.go.eq_1,List.append_nil]
 | fuel+1,a,l,acc,h=>by
  rw [pickOrder.go.eq_2]
  have hlt:next a % l.length < l.length:=Nat.mod_lt _ (by omega)
  rw [List.getElem?_eq_getElem hlt]
  refine (nW next fuel (a+1) (l.eraseIdx (next a % l.length)) (acc.push l[next a % l.length]) (by rw [List.length_eraseIdx_of_lt hlt];omega)).trans ?_
  rw [Array.toList_push,List.append_assoc]
  refine List.Perm.append_left _ ?_
  rw [List.singleton_append]
  exact jH l _ hlt
theorem pU {α:Type} (next:Nat→Nat) (xs:Array α):List.Perm (pickOrder next xs).toList xs.toList:=by
 unfold pickOrder
 have:=nW next xs.size 0 xs.toList #[] (by simp)
 simpa using this
section
variable {prog:Program} {w:World} {A:Around} {E:Value→Shared→Prop} {s:Shared}
abbrev de (w:World):Bool:=w.params.followText "set-order"
def orderOf (w:World) (S:Addr) (ep:Nat) (es:Array (Int×Value)):Array (Int×Value):=if de w=true then pickOrder (w.params.setOrder S ep) es else es
theorem jX (w:World) (S:Addr) (ep:Nat) (es:Array (Int×Value)):List.Perm (orderOf w S ep es).toList es.toList:=by
 unfold orderOf
 split
 ·exact pU _ _
 ·exact List.Perm.refl _
def slotAt (w:World) (pl:List Nat):Nat→Nat
 | 0=>0
 | i+1=>if de w=true then 0 else pl.getD i 0+1
structure fE (w:World) (o:Obj) (es:Array (Int×Value)) (ep:Nat) (t:SetTable) (pl:List Nat):Prop where
 dat:o.data=.set es ep t
 cls:o.cls=.type "set"
 dum:t.dummies=#[]
 plain:t.plain=true
 led:t.led=!de w
 place:t.place=pl.toArray
 ri:ZS.Ri pl
 lpl:pl.length=es.size
 room:es.size≤t.mask
 few:es.size≤300
def gA (w:World) (S:Addr) (es:Array (Int×Value)) (ep:Nat) (pl:List Nat) (i:Nat):Obj:={ cls:=.type "set_iterator",data:=.fields #[rawInt (slotAt w pl i:Nat),rawInt (i:Nat),.ref S,rawInt (es.size:Nat),rawInt (ep:Nat)] }
theorem fE.fits {o:Obj} {es:Array (Int×Value)} {ep:Nat} {t:SetTable} {pl:List Nat} (H:fE w o es ep t pl):t.fits es.size=true:=
 fits_of H.dum (by rw [H.place];simpa using H.lpl) H.room
theorem oN {pl:List Nat} {i:Nat} (h:ZS.Ri pl) (hi:i≤pl.length) (hw:de w=false):SetTable.below pl.toArray (slotAt w pl i)=i:=by
 cases i with
 | zero=>exact ZS.oT
 | succ i=>
  show SetTable.below pl.toArray (if de w=true then 0 else pl.getD i 0+1)=i+1
  rw [hw,if_neg (by simp),List.getD_eq_getElem?_getD,List.getElem?_eq_getElem (show i < pl.length by omega)]
  exact (ZS.kI h (by omega)).1
theorem ma {S:Addr} {o:Obj} {es:Array (Int×Value)} {ep:Nat} {t:SetTable} {pl:List Nat} {i:Nat} {Q:Option (Value×Nat)→Shared→Prop} (H:fE w o es ep t pl) (hS:s.heap.get? S=some o) (hi:i≤es.size)
  (h:Q (((orderOf w S ep es)[i]?).map fun e=>(e.2,slotAt w pl (i+1))) s):wpAny (model prog w) A (setNext S (slotAt w pl i) i ep) Q E s:=by
 unfold setNext
 refine wpAny_bind (wpAny_setState_of hS H.dat H.fits ?_)
 dsimp only
 unfold setsByText
 refine wpAny_bind (wpAny_bind (wpAny_askSetting (wpAny_pure ?_)))
 show wpAny _ _ (if de w=true then _ else _) _ _ _
 by_cases hb:de w=true
 ·rw [if_pos hb]
  refine wpAny_ite_false (by simp) ?_
  refine wpAny_bind ?_
  unfold setWalk
  refine wpAny_bind (wpAny_setState_of hS H.dat H.fits ?_)
  dsimp only
  unfold setsByText
  refine wpAny_bind (wpAny_bind (wpAny_askSetting (wpAny_pure ?_)))
  show wpAny _ _ (if de w=true then _ else _) _ _ _
  rw [if_pos hb]
  refine wpAny_bind (wpAny_askSetting (wpAny_pure (wpAny_pure ?_)))
  have e1:orderOf w S ep es=pickOrder (w.params.setOrder S ep) es:=by unfold orderOf;rw [if_pos hb]
  rw [e1] at h
  have e2:slotAt w pl (i+1)=slotAt w pl i:=by
   cases i with
   | zero=>simp [slotAt,hb]
   | succ j=>simp [slotAt,hb]
  rw [e2] at h
  exact h
 ·rw [if_neg hb]
  have hbf:de w=false:=by simpa using hb
  refine wpAny_ite_false (by
   show decide ((!t.plain && decide (es.size > 1))=true)=false
   rw [H.plain]
   rfl) ?_
  refine wpAny_bind ?_
  refine wpAny_ite_false (by
   rw [H.led,hbf]
   rfl) (wpAny_pure (wpAny_pure ?_))
  have e1:orderOf w S ep es=es:=by unfold orderOf;rw [if_neg hb]
  rw [e1] at h
  have lpl:=H.lpl
  rw [H.place,oN H.ri (by omega) hbf]
  by_cases hlt:i < es.size
  ·have a1:es[i]?=some es[i]:=by simp [hlt]
   have a2:pl.toArray[i]?=some (pl.getD i 0):=by
    rw [List.getElem?_toArray,List.getD_eq_getElem?_getD,List.getElem?_eq_getElem (show i < pl.length by omega)]
    rfl
   rw [a1] at h
   rw [a1,a2]
   have e3:slotAt w pl (i+1)=pl.getD i 0+1:=by simp [slotAt,hb]
   rw [e3] at h
   exact h
  ·have a1:es[i]?=none:=by simp;omega
   rw [a1] at h
   rw [a1]
   exact h
theorem fE.typeIs {o:Obj} {es:Array (Int×Value)} {ep:Nat} {t:SetTable} {pl:List Nat} {S:Addr} (H:fE w o es ep t pl) (hS:s.heap.get? S=some o):s.TypeIs (.ref S) "set":=⟨o,hS,H.cls⟩
theorem oC {S:Addr} {o:Obj} {es:Array (Int×Value)} {ep:Nat} {t:SetTable} {pl:List Nat} {Q:Value→Shared→Prop} (H:fE w o es ep t pl) (hS:s.heap.get? S=some o)
  (h:Q (.ref s.heap.objs.size) { s with heap:=s.heap.push (gA w S es ep pl 0) }):wpAny (model prog w) A (pyIter (.ref S)) Q E s:=by
 refine wpAny_pyIter_slot (H.typeIs hS) F.slot_set_iter (wpAny_call_entry F.slot_set_iter (H.typeIs hS) kb ?_ (F.args_set_iter_1 _))
 unfold Builtin.«frozenset.__iter__»
 refine wpAny_bind ?_
 unfold Builtin.Frozenset.slot0 slotArgs
 refine wpAny_bind (wpAny_ite_false rfl (wpAny_ite_false rfl (wpAny_pure ?_)))
 refine wpAny_pure ?_
 refine wpAny_bind ?_
 unfold Builtin.Frozenset.sizeOf setEntries
 refine wpAny_bind (wpAny_bind (wpAny_setState_of hS H.dat H.fits (wpAny_pure (wpAny_pure ?_))))
 refine wpAny_bind ?_
 unfold setDrawn
 refine wpAny_bind (wpAny_setState_of hS H.dat H.fits ?_)
 dsimp only
 unfold setsByText
 refine wpAny_bind (wpAny_bind (wpAny_askSetting (wpAny_pure (wpAny_pure ?_))))
 refine wpAny_ite_false (by
  show decide ((!de w && (!t.plain && decide (es.size > 1)))=true)=false
  rw [H.plain]
  simp) ?_
 refine wpAny_bind (wpAny_pure ?_)
 refine wpAny_bind ?_
 unfold setEpoch
 refine wpAny_bind (wpAny_setState_of hS H.dat H.fits (wpAny_pure ?_))
 refine wpAny_bind ?_
 unfold newFields
 exact wpAny_newObj_type (wpAny_pure ⟨_,rfl,"set_iterator",_,⟨_,Heap.get?_push_size _ rfl,rfl⟩,bj.lookup,h⟩) (by first | size_fits | (intro _;decide) | decide)
end
section
variable {prog:Program} {w:World} {A:Around} {E:Value→Shared→Prop} {s:Shared}
theorem rf {S I:Addr} {o:Obj} {es:Array (Int×Value)} {ep:Nat} {t:SetTable} {pl:List Nat} {i:Nat} {x:Int×Value} {Q:Value→Shared→Prop} (H:fE w o es ep t pl) (hI:s.heap.get? I=some (gA w S es ep pl i)) (hS:s.heap.get? S=some o) (hx:(orderOf w S ep es)[i]?=some x) (hi:i≤es.size)
  (hQ:∀ h',h'.get? I=some (gA w S es ep pl (i+1))→Heap.SameBut I s.heap h'→Q x.2 { s with heap:=h' }) :
  wpAny (model prog w) A (Builtin.«set_iterator.__next__» ⟨[.ref I],[]⟩) (fun fin s'=>∃ v,fin=.done (.ret v)∧Q v s') E s:=by
 unfold Builtin.«set_iterator.__next__»
 refine wpAny_bind ?_
 unfold slotArgs
 refine wpAny_ite_false rfl (wpAny_ite_false rfl (wpAny_pure ?_))
 dsimp only
 refine wpAny_bind (wpAny_fieldsOf hI rfl ?_)
 refine (show wpAny _ _ (setEntries S>>=_) _ _ _ from wpAny_bind ?_)
 unfold setEntries
 refine wpAny_bind (wpAny_setState_of hS H.dat H.fits (wpAny_pure ?_))
 refine wpAny_ite_false (by simp) ?_
 refine (show wpAny _ _ (setNext S ((slotAt w pl i:Nat):Int).toNat ((i:Nat):Int).toNat ((ep:Nat):Int).toNat>>=_) _ _ _ from wpAny_bind ?_)
 rw [Int.toNat_natCast,Int.toNat_natCast,Int.toNat_natCast]
 refine ma H hS hi ?_
 rw [hx]
 dsimp only [Option.map]
 refine wpAny_bind (wpAny_setField_rec hI (by simp) fun h1 g1 e1=>?_)
 refine wpAny_bind (wpAny_setField_rec g1 (by simp) fun h2 g2 e2=>?_)
 refine wpAny_pure ⟨_,rfl,hQ h2 ?_ (e1.trans e2)⟩
 rw [g2]
 rfl
theorem tX {S I:Addr} {o:Obj} {es:Array (Int×Value)} {ep:Nat} {t:SetTable} {pl:List Nat} {i:Nat} {Q:PySem.Fin→Shared→Prop} (hh:A.handled=none) (H:fE w o es ep t pl) (hI:s.heap.get? I=some (gA w S es ep pl i)) (hS:s.heap.get? S=some o) (hx:(orderOf w S ep es)[i]?=none) (hi:i≤es.size)
  (hE:∀ h' e,Heap.ExtBut I s.heap h'→(∃ o,h'.get? e=some o∧o.cls=.type "StopIteration")→E (.ref e) { s with heap:=h' }) :
  wpAny (model prog w) A (Builtin.«set_iterator.__next__» ⟨[.ref I],[]⟩) Q E s:=by
 unfold Builtin.«set_iterator.__next__»
 refine wpAny_bind ?_
 unfold slotArgs
 refine wpAny_ite_false rfl (wpAny_ite_false rfl (wpAny_pure ?_))
 dsimp only
 refine wpAny_bind (wpAny_fieldsOf hI rfl ?_)
 refine (show wpAny _ _ (setEntries S>>=_) _ _ _ from wpAny_bind ?_)
 unfold setEntries
 refine wpAny_bind (wpAny_setState_of hS H.dat H.fits (wpAny_pure ?_))
 refine wpAny_ite_false (by simp) ?_
 refine (show wpAny _ _ (setNext S ((slotAt w pl i:Nat):Int).toNat ((i:Nat):Int).toNat ((ep:Nat):Int).toNat>>=_) _ _ _ from wpAny_bind ?_)
 rw [Int.toNat_natCast,Int.toNat_natCast,Int.toNat_natCast]
 refine ma H hS hi ?_
 rw [hx]
 dsimp only [Option.map]
 refine wpAny_bind (wpAny_setField hI rfl (by simp) ?_)
 refine (show wpAny _ _ (newExc (.type "StopIteration") []>>=_) _ _ _ from wpAny_bind ?_)
 simp only [newExc,newTuple]
 refine wpAny_bind (wpAny_newObj_type (wpAny_bind (m:=firstArgMember _ _) (wpAny_of_eq (a:=Value.none) (by first | rfl | (simp only [firstArgMember];rfl)) (wpAny_newObj_type ?_ (by size_fits)))) (by size_fits))
 simp only [raiseNew]
 refine wpAny_bind (wpAny_handled ?_)
 first | rw [show A.in1.handled=none from hh] | rw [hh]
 exact wpAny_bind (wpAny_pure (wpAny_throw (hE _ _ (((Heap.SameBut.update ..).extBut.push _).push _) ⟨_,Heap.get?_push_size _ rfl,rfl⟩)))
theorem c6:Slot "set_iterator" (Str.ofString "__iter__") "set_iterator.__iter__":=Slot.of (owner:="set_iterator") (n:="__iter__") (by rw [typeLookup_type,builtinLookup_eq_fast];rfl) (by decide +kernel) (by decide +kernel) (by decide +kernel) (Or.inl (by decide +kernel)) (by rw [isSubtype_type];rfl) (by decide +kernel)
theorem fG:entryFor table "set_iterator.__iter__"=some Builtin.«dict_keyiterator.__iter__»:=entryFor_alias (id':="dict_keyiterator.__iter__") (by rfl) (by decide +kernel) (by decide +kernel) (by rfl)
theorem fV (a:Value):argsOk "set_iterator.__iter__" ⟨[a],[]⟩:=by
 have h:Manifest.signature? "set_iterator.__iter__"=List.lookup (String.ofList (['_','_','r','e','t','i','_','_']:List Char).reverse) Manifest.sig_set_iterator:=signature?_of (o:=['r','o','t','a','r','e','t','i','_','t','e','s']) (by decide +kernel) eC
 unfold argsOk
 rw [h]
 rfl
theorem gr (w:World) (S:Addr) (ep:Nat) (es:Array (Int×Value)):(orderOf w S ep es).size=es.size:=by
 have:=(jX w S ep es).length_eq
 simpa using this
theorem pX (hh:A.handled=none) {S I:Addr} (hne:S≠I) {o:Obj} {es:Array (Int×Value)} {ep:Nat} {t:SetTable} {pl:List Nat} (H:fE w o es ep t pl) :
  Walks prog w A I [I,S] [I] es.size (fun i v=>∃ x,(orderOf w S ep es)[i]?=some x∧v=x.2) (fun i h=>h.get? I=some (gA w S es ep pl i)∧h.get? S=some o) where
 sub:=fun b hb=>by rw [List.mem_singleton.mp hb];simp
 frame:=fun i h h' st hk=>⟨hk I (by simp) _ st.1,hk S (by simp) _ st.2⟩
 item:=fun i s Q E hi st hQ=>by
  have hx:(orderOf w S ep es)[i]?=some ((orderOf w S ep es)[i]'(by rw [gr];exact hi)):=by rw [Array.getElem?_eq_getElem]
  have hT:s.TypeIs (.ref I) "set_iterator":=⟨_,st.1,rfl⟩
  unfold pyNext
  refine wpAny_bind (wpAny_attempt (wpAny_callSpecial?_slot (name:=Str.ofString "__next__") hT bj (wpAny_call_entry bj hT c5 ?_ (dg _))))
  refine rf H st.1 st.2 hx (by omega) fun h' g1 e1=>wpAny_pure ?_
  exact hQ _ h' s.toks ⟨_,hx,rfl⟩ ⟨g1,e1.extBut _ _ hne st.2⟩ fun b o hb q=>e1.extBut b o (fun z=>hb (by simp [z])) q
 done:=fun s Q E st hQ=>by
  have hx:(orderOf w S ep es)[es.size]?=none:=by rw [Array.getElem?_eq_none_iff,gr];exact Nat.le_refl _
  have hT:s.TypeIs (.ref I) "set_iterator":=⟨_,st.1,rfl⟩
  unfold pyNext
  refine wpAny_bind (wpAny_attempt (wpAny_callSpecial?_slot (name:=Str.ofString "__next__") hT bj (wpAny_call_entry bj hT c5 ?_ (dg _))))
  refine tX hh H st.1 st.2 hx (Nat.le_refl _) fun h' e ext he=>?_
  obtain ⟨o',ho',hc'⟩:=he
  exact wpAny_bind (wpAny_isInstance (T:="StopIteration") (b:=true) ⟨o',ho',hc'⟩ isSubtype_stop (wpAny_pure (hQ _ s.toks fun b o hb q=>ext b o (fun z=>hb (by simp [z])) q)))
 self:=fun i s Q E st h=>by
  have hT:s.TypeIs (.ref I) "set_iterator":=⟨_,st.1,rfl⟩
  exact wpAny_pyIter_slot hT c6 (wpAny_call_entry c6 hT fG (wpAny_pure ⟨_,rfl,"set_iterator",_,hT,bj.lookup,h⟩) (fV _))
theorem wb {S:Addr} {o:Obj} {es:Array (Int×Value)} {ep:Nat} {t:SetTable} {pl:List Nat} (H:fE w o es ep t pl) :
  PySem.W.KdlSrc prog w "set" S S es.size (fun i v=>∃ x,(orderOf w S ep es)[i]?=some x∧v=x.2) (fun h=>h.get? S=some o) where
 type:=fun s hs=>H.typeIs hs
 there:=fun h hs=>⟨Heap.lt_size hs,Heap.lt_size hs⟩
 keep:=fun h h' hs hk=>hk S (.inl rfl) o hs
 notList:=by decide
 notTuple:=by decide
 hint:=fun A E s Q hs h=>rT (H.typeIs hs) h
 iter:=fun A s hh hs=>⟨gA w S es ep pl 0,fun i h=>h.get? s.heap.objs.size=some (gA w S es ep pl i)∧h.get? S=some o,fun E Q hq=>oC H hs hq,
  pX hh (Nat.ne_of_lt (Heap.lt_size hs)) H,Heap.get?_push_size _ rfl,Heap.get?_push_of_some _ hs⟩
end
def pP:Value→Int
 | .int k _=>k
 | _=>0
theorem intsAre_map:∀ {vs:List Value} {ns:List Int},IntsAre vs ns→(∀ v∈vs,∃ k t,v=Value.int k t)∧ns=vs.map pP
 | _,_,.nil=>⟨by simp,rfl⟩
 | _,_,.cons n t r=>by
  obtain ⟨h1,h2⟩:=intsAre_map r
  refine ⟨fun v hv=>?_,by rw [List.map_cons,← h2];rfl⟩
  rcases List.mem_cons.mp hv with z | z
  ·exact ⟨n,t,z⟩
  ·exact h1 v z
theorem j4:∀ (vs:List Value),(∀ v∈vs,∃ k t,v=Value.int k t)→IntsAre vs (vs.map pP)
 | [],_=>.nil
 | v :: vs,h=>by
  obtain ⟨k,t,rfl⟩:=h v (by simp)
  exact .cons k t (j4 vs fun u hu=>h u (by simp [hu]))
theorem lP {vs us:List Value} {ns:List Int} (hp:List.Perm vs us) (r:IntsAre us ns):∃ ms,IntsAre vs ms∧List.Perm ms ns:=by
 obtain ⟨h1,h2⟩:=intsAre_map r
 refine ⟨vs.map pP,j4 vs fun v hv=>h1 v (hp.mem_iff.mp hv),?_⟩
 rw [h2]
 exact hp.map pP
def jz (N:Nat):Prop:=∀ {prog:Program} {w:World} {A:Around} {E:Value→Shared→Prop} {s:Shared} {a:Addr} {vs:List Value} {ns:List Int} {n:Nat} {P:PySem.Fin→Shared→Prop},s.heap.get? a=some (seqObj "list" vs.toArray n)→IntsAre vs ns→vs.length < N→(∀ (out:Array Value) (ns':List Int),IntsAre out.toList ns'→ns'.Perm ns→ns'.Pairwise (·≤·)→P (.done (.ret .none)) { s with heap:=sortedHeap s.heap a vs out })→wpAny (model prog w) A (Builtin.«list.sort» ⟨[.ref a],[]⟩) P E s
theorem yf:jz 64:=fun ho hI h64 h=>list_sort_tree ho hI h64 h
section
variable {prog:Program} {w:World} {A:Around} {E:Value→Shared→Prop} {s:Shared}
theorem pq {N:Nat} (T:jz N) (hN:N≤301) {S:Addr} {ks:List Int} {Q:Value→Shared→Prop} (hh:A.handled=none) (hS:fX w s.heap S ks) (h64:ks.length < N)
  (h:∀ (h':Heap) (tk:Nat) (out:Array Value) (ms:List Int) (l:Addr) (c:Nat),(∀ b o,s.heap.get? b=some o→h'.get? b=some o)→S < l→h'.get? l=some (seqObj "list" out c)→IntsAre out.toList ms→ms.Pairwise (· < ·)→(∀ x,x∈ms↔x∈ks)→ms.length≤300→Q (.ref l) { s with heap:=h',toks:=tk }) :
  wpAny (model prog w) A (call (.builtin "sorted") [.ref S]) Q E s:=by
 obtain ⟨o,es,ep,t,pl,g1,g2,g3,g4,g5,g6,g7,g8,g9,g10,g11,g12,g13⟩:=hS
 obtain ⟨g9,lpl,g14⟩:=g9
 have lks:es.size=ks.length:=by
  have:=cG g10
  rw [List.length_map,Array.length_toList] at this
  exact this
 have H:fE w o es ep t pl:=⟨g3,g2.1,g5,g6,g7,g8,g9,by omega,by omega,by omega⟩
 refine Calls.call_function_entry kind_sorted plain_sorted entry_sorted (args_sorted1 _) ?_
 unfold Builtin.sorted
 refine wpAny_bind ?_
 unfold checkCount
 refine wpAny_ite_false rfl (wpAny_ite_false rfl (wpAny_ite_false rfl (wpAny_pure ?_)))
 refine wpAny_bind (PySem.W.kdu_collect (wb H) hh g1 (Nat.le_trans H.few (Nat.le_of_lt (dw (by decide)))) fun h1 tk acc hk hacc=>?_)
 have hacc1:acc.toList=(orderOf w S ep es).toList.map Prod.snd:=by
  refine List.ext_getElem? fun i=>?_
  by_cases hi:i < acc.size
  ·have e1:acc.toList[i]?=some acc[i]:=by simp [hi]
   obtain ⟨x,hx,hv⟩:=hacc.2 i acc[i] (by simp [hi])
   rw [e1,List.getElem?_map]
   rw [show (orderOf w S ep es).toList[i]?=some x by simpa using hx]
   rw [hv]
   rfl
  ·rw [List.getElem?_eq_none (by simp;omega),List.getElem?_eq_none]
   rw [List.length_map,Array.length_toList,gr]
   have:=hacc.1
   omega
 obtain ⟨ns0,i1,i2⟩:=lP (vs:=acc.toList) (by rw [hacc1];exact (jX w S ep es).map Prod.snd) g10
 have l0:acc.toList.length=ks.length:=by rw [cG i1];exact i2.length_eq
 refine wpAny_bind (wpAny_newList ?_ (by rw [l0];exact Nat.le_of_lt (dw (by omega))))
 refine wpAny_bind (wpAny_holding ?_)
 have hat:(h1.push (seqObj "list" acc.toList.toArray 0)).get? h1.objs.size=some (seqObj "list" acc.toList.toArray 0):=Heap.get?_push_size _ rfl
 refine wpAny_call_entry slot_list_sort ⟨_,hat,rfl⟩ entry_list_sort ?_ (args_list_sort _)
 refine T hat i1 (by omega) fun out ms r1 r2 r3=>⟨_,rfl,wpAny_pure ⟨_,rfl,?_⟩⟩
 obtain ⟨c,hc⟩:=sortedHeap_at (out:=out) hat
 have hnd:ms.Nodup:=r2.nodup_iff.mpr (i2.nodup_iff.mpr g12)
 refine h _ tk out ms h1.objs.size c ?_ ?_ hc r1 ?_ ?_ ?_
 ·intro b o' e
  have e1:=hk b o' e
  have hb:b < h1.objs.size:=Heap.lt_size e1
  rw [sortedHeap_old (Nat.ne_of_lt hb) (by rw [Heap.size_push];exact Nat.lt_succ_of_lt hb)]
  exact Heap.get?_push_of_some _ e1
 ·exact Heap.lt_size (hk S o g1)
 ·exact (List.Pairwise.and r3 hnd).imp fun z=>by have:=z.1;have:=z.2;omega
 ·intro x
  rw [r2.mem_iff,i2.mem_iff]
 ·have:=r2.length_eq
  have:=i2.length_eq
  omega
end
end L2
namespace L2
open PySem PySem.Spec PyProof.Rows ZS
def hT (ks:List Int):Int:=reduceHash (Builtin.Tuple.tupleHashOf (ks.map hashInt))
def qF:List (TE×TE)→St→Hp→(List (V×V)→Hp→Prop)→Prop
 | [],_,H,Q=>Q [] H
 | (tk,tv) :: r,σ,H,Q=>tk σ H fun x H1=>tv σ H1 fun y H2=>qF r σ H2 fun ps H3=>Q ((x,y) :: ps) H3
abbrev VV:List (V×V)→List (Value×Value)→Prop:=Paired fun p q=>RelV p.1 q.1∧RelV p.2 q.2
def PPs (X:Cx) (pos:Pos) (keys:List (Option Expr)) (values:List Expr) (trs:List (TE×TE)):Prop:=
 ∀ (pins:List (Addr×Obj)) (s:Shared) (σ:St) (H:Hp) (Q:List (V×V)→Hp→Prop),Inv X pins σ H s→qF trs σ H Q →
  wpAny (model X.prog X.w) X.A (evalPairs (pairTrees keys values X.env pos)) (fun vs s'=>∃ ps H',Inv X pins σ H' s'∧VV ps vs∧Q ps H') X.xe s
structure M1 (X:Cx) (o:Expr) (m:Str) (apos:Pos) (e:Expr) (cpos:Pos):Prop where
 base:attributeBase o m X.env (eval o X.env)=eval o X.env
 few:((backTo cpos (starEach [e] X.env)).all (fun x=>!x.1) && (backToKw cpos (keywordEach [] X.env)).all (fun x=>x.1.isSome)
  && decide (([e]:List Expr).length+([]:List Keyword).length+(if ([]:List Keyword).isEmpty then 0 else 1) < 30))=true
 line:(apos.endLine == cpos.line)=true
 trees:backTo cpos (starEach [e] X.env)=[(false,eval e X.env)]
structure M2 (X:Cx) (o:Expr) (m:Str) (apos:Pos) (e f:Expr) (cpos:Pos):Prop where
 base:attributeBase o m X.env (eval o X.env)=eval o X.env
 few:((backTo cpos (starEach [e,f] X.env)).all (fun x=>!x.1) && (backToKw cpos (keywordEach [] X.env)).all (fun x=>x.1.isSome)
  && decide (([e,f]:List Expr).length+([]:List Keyword).length+(if ([]:List Keyword).isEmpty then 0 else 1) < 30))=true
 line:(apos.endLine == cpos.line)=true
 trees:backTo cpos (starEach [e,f] X.env)=[(false,eval e X.env),(false,eval f X.env)]
inductive Vl where
 | d (x:D) | r (n:Nat) | fd (kvs:List (Key×D)) | fn (x:Str) | sc (ns:List Int) | pr (x:D) (n:Nat) | xc (c:Str) (xs:List (Str×D))
inductive Ob where
 | lst (xs:List D) | dct (kvs:List (Key×D)) | dead
abbrev Sto:=List Ob
inductive R (α:Type) where
 | ok (a:α) (S:Sto) | ex (c:Str) (xs:List (Str×D)) (S:Sto) | bad
def R.bind {α β:Type} (x:R α) (f:α→Sto→R β):R β:=match x with
 | .ok a S=>f a S
 | .ex c xs S=>.ex c xs S
 | .bad=>.bad
abbrev Nv:=List (Option Vl)
abbrev XE:=Nv→Sto→R Vl
abbrev XT:=Nv→Sto→R Bool
abbrev XA:=Nv→Sto→R (List Vl)
abbrev XO:=Nv→Sto→R (Option Int)
inductive Fl where
 | nx | bk | ct | rt (v:Vl)
abbrev XS:=Nv→Sto→R (Fl×Nv)
abbrev XG:=Vl→Nv→Sto→R Nv
abbrev XGs:=List Vl→Nv→Sto→R Nv
abbrev XF:=List Vl→Sto→R Vl
structure Its where
 items:List Vl
 gd:Option (Nat×Ob)
def Its.ok (I:Its) (S:Sto):Prop:=match I.gd with
 | none=>True
 | some (n,o)=>S[n]?=some o
abbrev XI:=Nv→Sto→R Its
def Al (μ:Nat→Addr) (S:Sto) (b:Addr):Prop:=∃ n o,S[n]?=some o∧o≠.dead∧μ n=b
open Classical in
noncomputable def vh (μ:Nat→Addr) (S:Sto) (H:Hp):Hp:=fun b=>if Al μ S b then none else H b
section
variable {μ μ' μ1 μ2:Nat→Addr} {S S' S1 S2:Sto} {H H' H1 H2:Hp} {b:Addr} {o:HO}
theorem bx (h:H b=some o) (n:¬Al μ S b):vh μ S H b=some o:=by unfold vh;rw [if_neg n];exact h
theorem aG (h:vh μ S H b=some o):¬Al μ S b∧H b=some o:=by
 unfold vh at h
 split at h
 ·cases h
 ·exact ⟨‹_›,h⟩
theorem eM:cP (vh μ S H) H:=fun _ _ h=>(aG h).2
def ObR (μ:Nat→Addr) (S:Sto) (H:Hp) (a:Addr):Ob→Prop
 | .lst ds=>∃ vs,H a=some (.lst vs)∧aq (vh μ S H) vs ds
 | .dct kvs=>∃ vs:List V,vs.length=kvs.length∧H a=some (.dK ((kvs.map (·.1)).zip vs))∧aq (vh μ S H) vs (kvs.map (·.2))
 | .dead=>True
structure HR (μ:Nat→Addr) (S:Sto) (H:Hp):Prop where
 ob:∀ n o,S[n]?=some o→ObR μ S H (μ n) o
 inj:∀ n m o o',S[n]?=some o→S[m]?=some o'→o≠.dead→o'≠.dead→μ n=μ m→n=m
theorem ObR.some {a:Addr} {ob:Ob} (h:ObR μ S H a ob) (n:ob≠.dead):∃ o,H a=Option.some o:=by
 cases ob with
 | lst ds=>obtain ⟨vs,e,_⟩:=h;exact ⟨_,e⟩
 | dct kvs=>obtain ⟨vs,_,e,_⟩:=h;exact ⟨_,e⟩
 | dead=>exact absurd rfl n
theorem HR.al (h:HR μ S H) (a:Al μ S b):∃ o,H b=some o:=by
 obtain ⟨n,ob,e,nd,rfl⟩:=a
 exact (h.ob n ob e).some nd
theorem HR.nal (h:HR μ S H) (e:H b=none):¬Al μ S b:=fun a=>by
 obtain ⟨o,q⟩:=h.al a
 rw [e] at q;cases q
theorem ObR.mono {a:Addr} {ob:Ob} (h:ObR μ S H a ob) (e:ob≠.dead→H' a=H a) (k:cP (vh μ S H) (vh μ' S' H')):ObR μ' S' H' a ob:=by
 cases ob with
 | lst ds=>obtain ⟨vs,q,r⟩:=h;exact ⟨vs,by rw [e (by simp)];exact q,r.mono k⟩
 | dct kvs=>obtain ⟨vs,l,q,r⟩:=h;exact ⟨vs,l,by rw [e (by simp)];exact q,r.mono k⟩
 | dead=>exact True.intro
structure Step (μ:Nat→Addr) (S:Sto) (H:Hp) (μ':Nat→Addr) (S':Sto) (H':Hp):Prop where
 ag:∀ n,n < S.length→μ' n=μ n
 le:S.length≤S'.length
 hr:HR μ' S' H'
 dd:∀ n:Nat,S[n]?=some Ob.dead→S'[n]?=some Ob.dead
 nw:∀ n o,S.length≤n→S'[n]?=some o→o≠.dead→H (μ' n)=none
 ko:∀ b o,H b=some o→¬Al μ S b→H' b=some o
 dm:∀ b o,H b=some o→∃ o',H' b=some o'
theorem Step.refl (h:HR μ S H):Step μ S H μ S H:=
 ⟨fun _ _=>rfl,Nat.le_refl _,h,fun _ e=>e,fun n o l e _=>(by rw [List.getElem?_eq_none l] at e;cases e),fun _ _ e _=>e,fun _ o e=>⟨o,e⟩⟩
theorem Step.nal (a:Step μ S H μ' S' H') (h:H b=some o) (n:¬Al μ S b):¬Al μ' S' b:=by
 rintro ⟨k,ob,e,nd,rfl⟩
 by_cases hk:k < S.length
 ·have e0:S[k]?=some S[k]:=List.getElem?_eq_getElem hk
  by_cases hd:S[k]=.dead
  ·rw [hd] at e0
   rw [a.dd k e0] at e
   cases e
   exact nd rfl
  ·exact n ⟨k,_,e0,hd,(a.ag k hk).symm⟩
 ·rw [a.nw k ob (by omega) e nd] at h
  cases h
theorem Step.vis (a:Step μ S H μ' S' H'):cP (vh μ S H) (vh μ' S' H'):=fun b o h=>by
 obtain ⟨n,h⟩:=aG h
 exact bx (a.ko b o h n) (a.nal h n)
theorem Step.trans (a:Step μ S H μ1 S1 H1) (b:Step μ1 S1 H1 μ2 S2 H2):Step μ S H μ2 S2 H2 where
 ag:=fun n h=>(b.ag n (Nat.lt_of_lt_of_le h a.le)).trans (a.ag n h)
 le:=Nat.le_trans a.le b.le
 hr:=b.hr
 dd:=fun n e=>b.dd n (a.dd n e)
 nw:=fun n o l e nd=>by
  by_cases hn:n < S1.length
  ·rw [b.ag n hn]
   refine a.nw n S1[n] l (List.getElem?_eq_getElem hn) fun z=>?_
   have e0:S1[n]?=some S1[n]:=List.getElem?_eq_getElem hn
   rw [z] at e0
   rw [b.dd n e0] at e
   cases e
   exact nd rfl
  ·have q:=b.nw n o (by omega) e nd
   cases e2:H (μ2 n) with
   | none=>rfl
   | some u=>
    obtain ⟨u',e3⟩:=a.dm _ _ e2
    rw [q] at e3;cases e3
 ko:=fun c o h n=>b.ko c o (a.ko c o h n) (a.nal h n)
 dm:=fun c o h=>by
  obtain ⟨o1,e1⟩:=a.dm c o h
  exact b.dm c o1 e1
theorem Step.new (h:HR μ S H) {p:Addr} (hp:H p=none) (o:HO):Step μ S H μ S (upd H p o):=by
 have k:cP (vh μ S H) (vh μ S (upd H p o)):=fun b u q=>by
  obtain ⟨n,q⟩:=aG q
  exact bx (by rw [aB (aS q hp)];exact q) n
 refine ⟨fun _ _=>rfl,Nat.le_refl _,⟨fun n ob e=>?_,h.inj⟩,fun _ e=>e,fun n ob l e _=>(by rw [List.getElem?_eq_none l] at e;cases e),fun b u q _=>by rw [aB (aS q hp)];exact q,fun b u q=>⟨u,by rw [aB (aS q hp)];exact q⟩⟩
 refine (h.ob n ob e).mono (fun nd=>?_) k
 obtain ⟨u,q⟩:=(h.ob n ob e).some nd
 exact aB (aS q hp)
def ext (μ:Nat→Addr) (k:Nat) (p:Addr):Nat→Addr:=fun n=>if n=k then p else μ n
theorem cC {k:Nat} {p:Addr}:ext μ k p k=p:=by unfold ext;rw [if_pos rfl]
theorem il {k n:Nat} {p:Addr} (h:n≠k):ext μ k p n=μ n:=by unfold ext;rw [if_neg h]
def ObL (G:Hp):Ob→HO→Prop
 | .lst ds,o=>∃ vs,o=.lst vs∧aq G vs ds
 | .dct kvs,o=>∃ vs:List V,vs.length=kvs.length∧o=.dK ((kvs.map (·.1)).zip vs)∧aq G vs (kvs.map (·.2))
 | .dead,_=>False
theorem ObL.ne {G:Hp} {ob:Ob} {o:HO} (h:ObL G ob o):ob≠.dead:=by
 rintro rfl
 exact h
theorem ObL.at {ob:Ob} {o:HO} {a:Addr} {G:Hp} (h:ObL G ob o) (e:H a=some o) (k:cP G (vh μ S H)):ObR μ S H a ob:=by
 cases ob with
 | lst ds=>obtain ⟨vs,rfl,r⟩:=h;exact ⟨vs,e,r.mono k⟩
 | dct kvs=>obtain ⟨vs,l,rfl,r⟩:=h;exact ⟨vs,l,e,r.mono k⟩
 | dead=>exact h.elim
theorem Step.alloc (h:HR μ S H) {p:Addr} (hp:H p=none) {ob:Ob} {o:HO} (hl:ObL (vh μ S H) ob o):Step μ S H (ext μ S.length p) (S++[ob]) (upd H p o):=by
 have nd:=hl.ne
 have old:∀ n u,n < S.length→(S++[ob])[n]?=some u→S[n]?=some u∧ext μ S.length p n=μ n:=fun n u hn e=>by
  rw [List.getElem?_append_left hn] at e
  exact ⟨e,il (Nat.ne_of_lt hn)⟩
 have new:∀ n u,S.length≤n→(S++[ob])[n]?=some u→n=S.length∧u=ob:=fun n u hn e=>by
  rw [List.getElem?_append_right hn] at e
  have hz:n - S.length=0:=by
   refine Nat.eq_zero_of_not_pos fun z=>?_
   rw [List.getElem?_eq_none (by simp;omega)] at e;cases e
  rw [hz] at e
  exact ⟨by omega,by simpa using e.symm⟩
 have nal:∀ {b u},H b=some u→¬Al μ S b→¬Al (ext μ S.length p) (S++[ob]) b:=by
  rintro b u q n ⟨k,v,e,d,rfl⟩
  by_cases hk:k < S.length
  ·obtain ⟨e1,e2⟩:=old k v hk e
   exact n ⟨k,v,e1,d,e2.symm⟩
  ·obtain ⟨rfl,rfl⟩:=new k v (by omega) e
   rw [cC,hp] at q;cases q
 have k:cP (vh μ S H) (vh (ext μ S.length p) (S++[ob]) (upd H p o)):=fun b u q=>by
  obtain ⟨n,q⟩:=aG q
  exact bx (by rw [aB (aS q hp)];exact q) (nal q n)
 refine ⟨fun n hn=>il (Nat.ne_of_lt hn),by simp,⟨fun n u e=>?_,fun n m u v e1 e2 d1 d2 q=>?_⟩,fun n e=>?_,fun n u l e _=>?_,fun b u q _=>by rw [aB (aS q hp)];exact q,fun b u q=>⟨u,by rw [aB (aS q hp)];exact q⟩⟩
 ·by_cases hn:n < S.length
  ·obtain ⟨e1,e2⟩:=old n u hn e
   rw [e2]
   refine (h.ob n u e1).mono (fun nd=>?_) k
   obtain ⟨x,q⟩:=(h.ob n u e1).some nd
   exact aB (aS q hp)
  ·obtain ⟨rfl,rfl⟩:=new n u (by omega) e
   rw [cC]
   exact hl.at bE k
 ·by_cases hn:n < S.length
  ·obtain ⟨a1,a2⟩:=old n u hn e1
   obtain ⟨x,qx⟩:=(h.ob n u a1).some d1
   by_cases hm:m < S.length
   ·obtain ⟨b1,b2⟩:=old m v hm e2
    rw [a2,b2] at q
    exact h.inj n m u v a1 b1 d1 d2 q
   ·obtain ⟨rfl,rfl⟩:=new m v (by omega) e2
    rw [a2,cC] at q
    rw [q,hp] at qx;cases qx
  ·obtain ⟨rfl,rfl⟩:=new n u (by omega) e1
   by_cases hm:m < S.length
   ·obtain ⟨b1,b2⟩:=old m v hm e2
    obtain ⟨x,qx⟩:=(h.ob m v b1).some d2
    rw [b2,cC] at q
    rw [← q,hp] at qx;cases qx
   ·exact (new m v (by omega) e2).1.symm
 ·have hn:n < S.length:=by
   refine Nat.lt_of_not_le fun z=>?_
   rw [List.getElem?_eq_none z] at e;cases e
  rw [List.getElem?_append_left hn];exact e
 ·obtain ⟨rfl,rfl⟩:=new n u l e
  rw [cC];exact hp
theorem d3 {n m:Nat} {ob u:Ob} (hn:n < S.length) (e:(S.set n ob)[m]?=some u):(m=n∧u=ob)∨(m≠n∧S[m]?=some u):=by
 rw [List.getElem?_set] at e
 by_cases q:n=m
 ·subst q
  rw [if_pos rfl,if_pos hn] at e
  exact .inl ⟨rfl,(Option.some.inj e).symm⟩
 ·rw [if_neg q] at e
  exact .inr ⟨fun z=>q z.symm,e⟩
theorem Step.put (h:HR μ S H) {n:Nat} {ob ob0:Ob} {o:HO} (e0:S[n]?=some ob0) (d0:ob0≠.dead) (hl:ObL (vh μ S H) ob o):Step μ S H μ (S.set n ob) (upd H (μ n) o):=by
 have nd:=hl.ne
 have hn:n < S.length:=(List.getElem?_eq_some_iff.mp e0).1
 have al0:Al μ S (μ n):=⟨n,ob0,e0,d0,rfl⟩
 have al:∀ {b},Al μ (S.set n ob) b→Al μ S b:=by
  rintro b ⟨m,u,e,d,rfl⟩
  rcases d3 hn e with ⟨rfl,rfl⟩ | ⟨z,q⟩
  ·exact al0
  ·exact ⟨m,u,q,d,rfl⟩
 have k:cP (vh μ S H) (vh μ (S.set n ob) (upd H (μ n) o)):=fun b u q=>by
  obtain ⟨z,q⟩:=aG q
  exact bx (by rw [aB (fun c=>z (by rw [c];exact al0))];exact q) fun c=>z (al c)
 refine ⟨fun _ _=>rfl,by rw [List.length_set];exact Nat.le_refl _,⟨fun m u e=>?_,fun m m' u v e1 e2 d1 d2 q=>?_⟩,fun m e=>?_,fun m u l e _=>?_,fun b u q z=>by rw [aB (fun c=>z (by rw [c];exact al0))];exact q,fun b u q=>?_⟩
 ·rcases d3 hn e with ⟨rfl,rfl⟩ | ⟨z,q⟩
  ·exact hl.at bE k
  ·refine (h.ob m u q).mono (fun d=>aB fun c=>z (h.inj m n u ob0 q e0 d d0 c)) k
 ·have a1:∃ w,S[m]?=some w∧w≠.dead:=by
   rcases d3 hn e1 with ⟨rfl,rfl⟩ | ⟨z,q⟩
   ·exact ⟨ob0,e0,d0⟩
   ·exact ⟨u,q,d1⟩
  have a2:∃ w,S[m']?=some w∧w≠.dead:=by
   rcases d3 hn e2 with ⟨rfl,rfl⟩ | ⟨z,q⟩
   ·exact ⟨ob0,e0,d0⟩
   ·exact ⟨v,q,d2⟩
  obtain ⟨w1,x1,y1⟩:=a1
  obtain ⟨w2,x2,y2⟩:=a2
  exact h.inj m m' w1 w2 x1 x2 y1 y2 q
 ·rw [List.getElem?_set_ne]
  ·exact e
  ·rintro rfl
   rw [e0] at e;cases e;exact d0 rfl
 ·rw [List.getElem?_eq_none (by rw [List.length_set];exact l)] at e;cases e
 ·by_cases z:b=μ n
  ·subst z;exact ⟨o,bE⟩
  ·exact ⟨u,by rw [aB z];exact q⟩
theorem Step.freeze (h:HR μ S H) {n:Nat} {ob:Ob} (e0:S[n]?=some ob) (d0:ob≠.dead):Step μ S H μ (S.set n .dead) H∧¬Al μ (S.set n .dead) (μ n):=by
 have hn:n < S.length:=(List.getElem?_eq_some_iff.mp e0).1
 have al:∀ {b},Al μ (S.set n .dead) b→Al μ S b:=by
  rintro b ⟨m,u,e,d,rfl⟩
  rcases d3 hn e with ⟨rfl,rfl⟩ | ⟨z,q⟩
  ·exact absurd rfl d
  ·exact ⟨m,u,q,d,rfl⟩
 have k:cP (vh μ S H) (vh μ (S.set n .dead) H):=fun b u q=>by
  obtain ⟨z,q⟩:=aG q
  exact bx q fun c=>z (al c)
 have inn:∀ m u,(S.set n .dead)[m]?=some u→u≠.dead→S[m]?=some u∧m≠n:=fun m u e d=>by
  rcases d3 hn e with ⟨rfl,rfl⟩ | ⟨z,q⟩
  ·exact absurd rfl d
  ·exact ⟨q,z⟩
 refine ⟨⟨fun _ _=>rfl,by rw [List.length_set];exact Nat.le_refl _,⟨fun m u e=>?_,fun m m' u v e1 e2 d1 d2 q=>h.inj m m' u v (inn m u e1 d1).1 (inn m' v e2 d2).1 d1 d2 q⟩,fun m e=>?_,fun m u l e _=>?_,fun b u q z=>q,fun b u q=>⟨u,q⟩⟩,?_⟩
 ·by_cases d:u=.dead
  ·subst d;exact True.intro
  ·exact (h.ob m u (inn m u e d).1).mono (fun _=>rfl) k
 ·by_cases z:m=n
  ·subst z;rw [List.getElem?_set,if_pos rfl,if_pos hn]
  ·rw [List.getElem?_set_ne (fun c=>z c.symm)];exact e
 ·rw [List.getElem?_eq_none (by rw [List.length_set];exact l)] at e;cases e
 ·rintro ⟨m,u,e,d,q⟩
  obtain ⟨e1,z⟩:=inn m u e d
  exact z (h.inj m n u ob e1 e0 d d0 q)
theorem Step.sD (h:HR μ S H) {n:Nat} {ob:Ob} (o':HO) (e0:S[n]?=some ob) (d0:ob≠.dead):Step μ S H μ (S.set n .dead) (upd H (μ n) o')∧¬Al μ (S.set n .dead) (μ n):=by
 have hn:n < S.length:=(List.getElem?_eq_some_iff.mp e0).1
 have al0:Al μ S (μ n):=⟨n,ob,e0,d0,rfl⟩
 obtain ⟨st,na⟩:=Step.freeze h e0 d0
 have k:cP (vh μ S H) (vh μ (S.set n .dead) (upd H (μ n) o')):=fun b u q=>by
  obtain ⟨z,q'⟩:=aG q
  exact bx (by rw [aB (fun c=>z (by rw [c];exact al0))];exact q') (aG (st.vis b u q)).1
 refine ⟨⟨st.ag,st.le,⟨fun m u e=>?_,st.hr.inj⟩,st.dd,fun m u l e d=>st.nw m u l e d,fun b u q z=>by rw [aB (fun c=>z (by rw [c];exact al0))];exact q,fun b u q=>?_⟩,na⟩
 ·rcases d3 hn e with ⟨rfl,rfl⟩ | ⟨z,q⟩
  ·exact True.intro
  ·by_cases d:u=.dead
   ·subst d;exact True.intro
   ·exact (h.ob m u q).mono (fun _=>aB fun c=>z (h.inj m n u ob q e0 d d0 c)) k
 ·by_cases z:b=μ n
  ·subst z;exact ⟨o',bE⟩
  ·exact ⟨u,by rw [aB z];exact q⟩
theorem cy {k n:Nat} {u:Ob} (e:(S.take k)[n]?=some u):n < k∧S[n]?=some u:=by
 rw [List.getElem?_take] at e
 split at e
 ·exact ⟨‹_›,e⟩
 ·cases e
theorem Step.take (a:Step μ S H μ' S' H'):Step μ S H μ' (S'.take S.length) H':=by
 have al:∀ {b},Al μ' (S'.take S.length) b→Al μ' S' b:=by
  rintro b ⟨m,u,e,d,rfl⟩
  exact ⟨m,u,(cy e).2,d,rfl⟩
 have k:cP (vh μ' S' H') (vh μ' (S'.take S.length) H'):=fun b u q=>by
  obtain ⟨z,q⟩:=aG q
  exact bx q fun c=>z (al c)
 refine ⟨a.ag,by rw [List.length_take];have:=a.le;omega,⟨fun m u e=>(a.hr.ob m u (cy e).2).mono (fun _=>rfl) k,fun m m' u v e1 e2=>a.hr.inj m m' u v (cy e1).2 (cy e2).2⟩,fun n e=>?_,fun n u l e _=>?_,a.ko,a.dm⟩
 ·have hn:n < S.length:=(List.getElem?_eq_some_iff.mp e).1
  rw [List.getElem?_take,if_pos hn]
  exact a.dd n e
 ·have:=(cy e).1
  omega
theorem Step.move (a:Step μ S H μ' S' H') {n:Nat} {ob:Ob} (hn:S.length≤n) (e0:S'[n]?=some ob) (d0:ob≠.dead):Step μ S H (ext μ' S.length (μ' n)) (S'.take S.length++[ob]) H':=by
 have lt:(S'.take S.length).length=S.length:=by rw [List.length_take];have:=a.le;omega
 have get:∀ m u,(S'.take S.length++[ob])[m]?=some u→∃ j,S'[j]?=some u∧ext μ' S.length (μ' n) m=μ' j∧((m < S.length∧j=m)∨(m=S.length∧j=n)):=fun m u e=>by
  by_cases hm:m < S.length
  ·rw [List.getElem?_append_left (by omega)] at e
   exact ⟨m,(cy e).2,il (Nat.ne_of_lt hm),.inl ⟨hm,rfl⟩⟩
  ·rw [List.getElem?_append_right (by omega)] at e
   have hz:m - (S'.take S.length).length=0:=by
    refine Nat.eq_zero_of_not_pos fun z=>?_
    rw [List.getElem?_eq_none (by simp;omega)] at e;cases e
   rw [hz] at e
   have hm':m=S.length:=by omega
   subst hm'
   obtain rfl:ob=u:=by simpa using e
   exact ⟨n,e0,cC,.inr ⟨rfl,rfl⟩⟩
 have al:∀ {b},Al (ext μ' S.length (μ' n)) (S'.take S.length++[ob]) b→Al μ' S' b:=by
  rintro b ⟨m,u,e,d,rfl⟩
  obtain ⟨j,q,z,_⟩:=get m u e
  exact ⟨j,u,q,d,z.symm⟩
 have k:cP (vh μ' S' H') (vh (ext μ' S.length (μ' n)) (S'.take S.length++[ob]) H'):=fun b u q=>by
  obtain ⟨z,q⟩:=aG q
  exact bx q fun c=>z (al c)
 refine ⟨fun m hm=>(il (Nat.ne_of_lt hm)).trans (a.ag m hm),by rw [List.length_append,lt];simp,⟨fun m u e=>?_,fun m m' u v e1 e2 d1 d2 q=>?_⟩,fun m e=>?_,fun m u l e d=>?_,a.ko,a.dm⟩
 ·obtain ⟨j,q,z,_⟩:=get m u e
  rw [z]
  exact (a.hr.ob j u q).mono (fun _=>rfl) k
 ·obtain ⟨j,q1,z1,w1⟩:=get m u e1
  obtain ⟨j',q2,z2,w2⟩:=get m' v e2
  rw [z1,z2] at q
  have:=a.hr.inj j j' u v q1 q2 d1 d2 q
  omega
 ·have hm:m < S.length:=(List.getElem?_eq_some_iff.mp e).1
  rw [List.getElem?_append_left (by omega),List.getElem?_take,if_pos hm]
  exact a.dd m e
 ·obtain ⟨j,q,z,w⟩:=get m u e
  rw [z]
  have hj:S.length≤j:=by omega
  exact a.nw j u hj q d
end
section
variable (K:PySem.W.Frag) (mg:Str→Option Value)
def excAt (a C:Addr) (od:Option Addr) (h:Heap):Prop:=∃ o,h.get? a=some o∧o.cls=.ref C∧∀ d,od=some d→o.dict=some d
def pk (G:Hp) (a C:Addr) (xs:List (Str×D)):Prop:=∃ od,G a=some (.ext (excAt a C od))∧(xs≠[]→∃ (dx:Addr) (vs:List V),od=some dx∧vs.length=xs.length∧G dx=some (.xd ((xs.map (·.1)).zip vs))∧aq G vs (xs.map (·.2)))
theorem pk.mono {G G':Hp} {a C:Addr} {xs:List (Str×D)} (k:cP G G') (h:pk G a C xs):pk G' a C xs:=by
 obtain ⟨od,e,h⟩:=h
 refine ⟨od,k _ _ e,fun n=>?_⟩
 obtain ⟨dx,vs,q1,q2,q3,q4⟩:=h n
 exact ⟨dx,vs,q1,q2,k _ _ q3,q4.mono k⟩
def aM (μ:Nat→Addr) (S:Sto) (H:Hp) (v:V):Vl→Prop
 | .d x=>Rep (vh μ S H) v x
 | .r n=>v=.ref (μ n)∧n < S.length
 | .fd kvs=>∃ (a:Addr) (vs:List V) (o:Obj),v=.ref a∧vs.length=kvs.length∧vh μ S H a=some (.frz o (.dK ((kvs.map (·.1)).zip vs)))∧aq (vh μ S H) vs (kvs.map (·.2))
 | .fn x=>∃ f:Addr,mg x=some (.ref f)∧v=.ref f
 | .sc ns=>∃ l:Addr,v=.ref l∧SqL K (vh μ S H) l (ns.map V.int)
 | .pr x n=>∃ (a:Addr) (u:V),v=.ref a∧vh μ S H a=some (.tup [u,.ref (μ n)])∧Rep (vh μ S H) u x∧n < S.length
 | .xc c xs=>∃ (a C:Addr),v=.ref a∧mg c=some (.ref C)∧pk (vh μ S H) a C xs
inductive bf (μ:Nat→Addr) (S:Sto) (H:Hp):List V→List Vl→Prop
 | nil:bf μ S H [] []
 | cons {v:V} {x:Vl} {vs:List V} {xs:List Vl}:aM K mg μ S H v x→bf μ S H vs xs→bf μ S H (v :: vs) (x :: xs)
structure bK (μ:Nat→Addr) (S:Sto) (H:Hp) (σ:St) (τ:Nv):Prop where
 len:σ.length=τ.length
 get:∀ (i:Nat) (x:Vl),τ[i]?=some (some x)→∃ v,σ[i]?=some (some v)∧aM K mg μ S H v x
end
section
variable {K:PySem.W.Frag} {mg:Str→Option Value} {μ μ':Nat→Addr} {S S':Sto} {H H':Hp}
theorem SqL.mono {l:Addr} {xs:List V} {H H':Hp} (k:cP H H') (h:SqL K H l xs):SqL K H' l xs:=by
 rcases h with (h | ⟨o,h⟩) | h
 ·exact .inl (.inl (k _ _ h))
 ·exact .inl (.inr ⟨o,k _ _ h⟩)
 ·exact .inr h
theorem aM.step {v:V} {x:Vl} (a:Step μ S H μ' S' H') (h:aM K mg μ S H v x):aM K mg μ' S' H' v x:=by
 cases x with
 | d x=>exact Rep.mono a.vis h
 | r n=>obtain ⟨rfl,hn⟩:=h;exact ⟨by rw [a.ag n hn],Nat.lt_of_lt_of_le hn a.le⟩
 | fd kvs=>obtain ⟨p,vs,o,e,l,q,r⟩:=h;exact ⟨p,vs,o,e,l,a.vis _ _ q,r.mono a.vis⟩
 | pr x n=>obtain ⟨p,u,e,q,r,hn⟩:=h;exact ⟨p,u,e,by rw [a.ag n hn];exact a.vis _ _ q,Rep.mono a.vis r,Nat.lt_of_lt_of_le hn a.le⟩
 | fn x=>exact h
 | sc ns=>obtain ⟨l,e,q⟩:=h;exact ⟨l,e,q.mono a.vis⟩
 | xc c xs=>obtain ⟨p,C,e,m,q⟩:=h;exact ⟨p,C,e,m,q.mono a.vis⟩
theorem bf.step (a:Step μ S H μ' S' H'):∀ {vs:List V} {xs:List Vl},bf K mg μ S H vs xs→bf K mg μ' S' H' vs xs
 | _,_,.nil=>.nil
 | _,_,.cons r t=>.cons (r.step a) (bf.step a t)
theorem bf.length:∀ {vs:List V} {xs:List Vl},bf K mg μ S H vs xs→vs.length=xs.length
 | _,_,.nil=>rfl
 | _,_,.cons _ t=>by simp [bf.length t]
theorem bf.get:∀ {vs:List V} {xs:List Vl} {i:Nat} {x:Vl},bf K mg μ S H vs xs→xs[i]?=some x→∃ v,vs[i]?=some v∧aM K mg μ S H v x
 | _,_,_,_,.nil,e=>by simp at e
 | _,_,0,_,.cons r _,e=>by simp at e;subst e;exact ⟨_,rfl,r⟩
 | _,_,i+1,x,.cons _ t,e=>by
  obtain ⟨d,h1,h2⟩:=bf.get (i:=i) (x:=x) t (by simpa using e)
  exact ⟨d,by simpa using h1,h2⟩
theorem bf.n8:∀ {vs:List V} {ds:List D},aq (vh μ S H) vs ds→bf K mg μ S H vs (ds.map Vl.d)
 | _,_,.nil=>.nil
 | _,_,.cons r t=>.cons (show aM K mg μ S H _ (.d _) from r) (bf.n8 t)
theorem bK.step {σ:St} {τ:Nv} (a:Step μ S H μ' S' H') (h:bK K mg μ S H σ τ):bK K mg μ' S' H' σ τ:=
 ⟨h.len,fun i x e=>by obtain ⟨v,e1,r⟩:=h.get i x e;exact ⟨v,e1,r.step a⟩⟩
theorem bK.set {σ:St} {τ:Nv} {v:V} {x:Vl} (i:Nat) (h:bK K mg μ S H σ τ) (r:aM K mg μ S H v x):bK K mg μ S H (σ.set i (some v)) (τ.set i (some x)):=by
 refine ⟨by rw [List.length_set,List.length_set];exact h.len,fun j y e=>?_⟩
 rw [List.getElem?_set] at e ⊢
 by_cases q:i=j
 ·subst q
  rw [if_pos rfl] at e ⊢
  by_cases hl:i < τ.length
  ·rw [if_pos hl] at e
   cases e
   exact ⟨v,by rw [if_pos (by rw [h.len];exact hl)],r⟩
  ·rw [if_neg hl] at e;cases e
 ·rw [if_neg q] at e ⊢
  exact h.get j y e
theorem bK.pre {σ:St} {τ:Nv} (k:Nat) (h:bK K mg μ S H σ τ):bK K mg μ S H (List.replicate k none++σ) (List.replicate k none++τ):=by
 refine ⟨by simp [h.len],fun i x e=>?_⟩
 by_cases hi:i < k
 ·rw [List.getElem?_append_left (by simpa using hi),List.getElem?_replicate,if_pos hi] at e
  cases e
 ·rw [List.getElem?_append_right (by simpa using hi)] at e ⊢
  simpa using h.get (i - k) x (by simpa using e)
theorem bK.beg {N:List Str} {vs:List V} {us:List Vl} (h:bf K mg μ S H vs us):bK K mg μ S H (L2.start N vs) (us.map some++List.replicate (N.length - us.length) none):=by
 have l:=h.length
 refine ⟨by simp [L2.start,l],fun i x e=>?_⟩
 unfold L2.start
 by_cases hi:i < us.length
 ·rw [List.getElem?_append_left (by simpa using hi),List.getElem?_map] at e
  cases q:us[i]? with
  | none=>rw [q] at e;cases e
  | some y=>
   rw [q] at e
   cases e
   obtain ⟨v,e1,r⟩:=h.get q
   exact ⟨v,by rw [List.getElem?_append_left (by simp;omega),List.getElem?_map,e1];rfl,r⟩
 ·rw [List.getElem?_append_right (by simpa using hi),List.getElem?_replicate] at e
  split at e<;>cases e
end
abbrev WX:=Str→List (Str×D)→Sto→(Nat→Addr)→Hp→Prop
abbrev W0:WX:=fun _ _ _ _ _=>False
def aJ {α β:Type} (Rl:(Nat→Addr)→Sto→Hp→β→α→Prop) (WE:WX) (μ:Nat→Addr) (S:Sto) (H:Hp) (res:R α) (Q:β→Hp→Prop):Prop:=match res with
 | .ok a S'=>∀ b μ' H',Step μ S H μ' S' H'→Rl μ' S' H' b a→Q b H'
 | .ex c xs S'=>∀ μ' H',Step μ S H μ' S' H'→WE c xs S' μ' H'
 | .bad=>False
section
variable {α β γ δ:Type} {Rl:(Nat→Addr)→Sto→Hp→β→α→Prop} {Rl2:(Nat→Addr)→Sto→Hp→δ→γ→Prop} {WE:WX} {μ μ1:Nat→Addr} {S S1:Sto} {H H1:Hp} {res:R α} {Q:β→Hp→Prop} {Q2:δ→Hp→Prop}
theorem aJ.shift (h:aJ Rl WE μ S H res Q) (a:Step μ S H μ1 S1 H1):aJ Rl WE μ1 S1 H1 res Q:=by
 cases res with
 | ok x S'=>exact fun b μ' H' st r=>h b μ' H' (a.trans st) r
 | ex c xs S'=>exact fun μ' H' st=>h μ' H' (a.trans st)
 | bad=>exact h
theorem aJ.bind {f:α→Sto→R γ} (h:aJ Rl2 WE μ S H (res.bind f) Q2) (k:∀ b a S1 μ1 H1,Step μ S H μ1 S1 H1→Rl μ1 S1 H1 b a→aJ Rl2 WE μ1 S1 H1 (f a S1) Q2→Q b H1):aJ Rl WE μ S H res Q:=by
 cases res with
 | ok x S'=>exact fun b μ' H' st r=>k b x S' μ' H' st r (aJ.shift (show aJ Rl2 WE μ S H (f x S') Q2 from h) st)
 | ex c xs S'=>exact h
 | bad=>exact h
theorem aJ.here {a:α} {b:β} (hr:HR μ S H) (h:aJ Rl WE μ S H (.ok a S) Q) (r:Rl μ S H b a):Q b H:=h b μ H (Step.refl hr) r
end
inductive FlV where
 | nx | bk | ct | rt (v:V)
def Ends.at (D:Ends) (p:FlV×St) (H:Hp):Prop:=match p.1 with
 | .nx=>D.nx p.2 H
 | .bk=>D.bk p.2 H
 | .ct=>D.ct p.2 H
 | .rt v=>D.rt v H
section
variable (K:PySem.W.Frag) (mg:Str→Option Value)
def FlR (μ:Nat→Addr) (S:Sto) (H:Hp):FlV→Fl→Prop
 | .nx,.nx=>True
 | .bk,.bk=>True
 | .ct,.ct=>True
 | .rt v,.rt z=>aM K mg μ S H v z
 | _,_=>False
def RlS (μ:Nat→Addr) (S:Sto) (H:Hp) (p:FlV×St) (q:Fl×Nv):Prop:=bK K mg μ S H p.2 q.2∧FlR K mg μ S H p.1 q.1
abbrev RlQ {α:Type} (_:Nat→Addr) (_:Sto) (_:Hp) (b a:α):Prop:=b=a
structure fm (μ:Nat→Addr) (S:Sto) (H:Hp) (J:It) (I:Its):Prop where
 ok:I.ok S
 len:I.items.length≤sizeLine
 go:∀ i z μ' S' H',Step μ S H μ' S' H'→I.ok S'→I.items[i]?=some z→J.go i H'
 yld:∀ i z μ' S' H' x H2,Step μ S H μ' S' H'→I.ok S'→I.items[i]?=some z→J.yld i H' x H2→Step μ' S' H' μ' S' H2∧aM K mg μ' S' H2 x z
 stop:∀ i μ' S' H',Step μ S H μ' S' H'→I.ok S'→I.items.length=i→J.stop i H'
def trE (WE:WX) (m:XE):TE:=fun σ H Q=>∃ μ S τ,HR μ S H∧bK K mg μ S H σ τ∧aJ (aM K mg) WE μ S H (m τ S) Q
def trT (WE:WX) (m:XT):TT:=fun σ H Q=>∃ μ S τ,HR μ S H∧bK K mg μ S H σ τ∧aJ RlQ WE μ S H (m τ S) Q
def trA (WE:WX) (m:XA):TA:=fun σ H Q=>∃ μ S τ,HR μ S H∧bK K mg μ S H σ τ∧aJ (bf K mg) WE μ S H (m τ S) Q
def trO (WE:WX) (m:XO):TO:=fun σ H Q=>∃ μ S τ,HR μ S H∧bK K mg μ S H σ τ∧aJ RlQ WE μ S H (m τ S) Q
def trS (WE:WX) (m:XS):TS:=fun D σ H=>∃ μ S τ,HR μ S H∧bK K mg μ S H σ τ∧aJ (RlS K mg) WE μ S H (m τ S) D.at
def trG (WE:WX) (g:XG):TG:=fun v σ H Q=>∃ μ S τ z,HR μ S H∧bK K mg μ S H σ τ∧aM K mg μ S H v z∧aJ (bK K mg) WE μ S H (g z τ S) Q
def BY (WE:WX) (g:XGs):TGs:=fun vs σ H Q=>∃ μ S τ zs,HR μ S H∧bK K mg μ S H σ τ∧bf K mg μ S H vs zs∧aJ (bK K mg) WE μ S H (g zs τ S) Q
def trI (WE:WX) (it:XI):TI:=fun σ H Rr=>∃ μ S τ,HR μ S H∧bK K mg μ S H σ τ∧aJ (fm K mg) WE μ S H (it τ S) Rr
end
structure RE (X:Cx) (WE:WX) (e:Expr) (m:XE):Prop where
 h:PE X e (trE X.K X.mg WE m)
structure RT (X:Cx) (WE:WX) (e:Expr) (m:XT):Prop where
 h:PT X e (trT X.K X.mg WE m)
structure RW (X:Cx) (WE:WX) (e:Expr) (m:XT):Prop where
 h:PW X e (trT X.K X.mg WE m)
structure RA (X:Cx) (WE:WX) (es:List Expr) (m:XA):Prop where
 h:PA X es (trA X.K X.mg WE m)
structure RO (X:Cx) (WE:WX) (e:Option Expr) (m:XO):Prop where
 h:PO X e (trO X.K X.mg WE m)
structure RS (X:Cx) (WE:WX) (s:Stmt) (m:XS):Prop where
 h:PS X s (trS X.K X.mg WE m)
structure RB (X:Cx) (WE:WX) (s:List Stmt) (m:XS):Prop where
 h:PSs X s (trS X.K X.mg WE m)
structure RG (X:Cx) (WE:WX) (t:Expr) (g:XG):Prop where
 h:PG X t (trG X.K X.mg WE g)
structure RGs (X:Cx) (WE:WX) (ts:List Expr) (g:XGs):Prop where
 h:PGs X ts (BY X.K X.mg WE g)
structure RI (X:Cx) (WE:WX) (tg iter:Expr) (it:XI):Prop where
 h:PI X tg iter (trI X.K X.mg WE it)
structure RTs (X:Cx) (WE:WX) (ifs:List Expr) (m:XT):Prop where
 h:PTs X ifs (trT X.K X.mg WE m)
section
variable {X:Cx}
theorem PE.weak {e:Expr} {t t':TE} (h:PE X e t) (k:∀ σ H Q,t' σ H Q→t σ H Q):PE X e t':=fun pins s σ H Q I q=>h pins s σ H Q I (k σ H Q q)
theorem PT.weak {e:Expr} {t t':TT} (h:PT X e t) (k:∀ σ H Q,t' σ H Q→t σ H Q):PT X e t':=fun pins s σ H Q I q=>h pins s σ H Q I (k σ H Q q)
theorem PW.weak {e:Expr} {t t':TT} (h:PW X e t) (k:∀ σ H Q,t' σ H Q→t σ H Q):PW X e t':=fun wh pins s σ H Q I q=>h wh pins s σ H Q I (k σ H Q q)
theorem PA.weak {e:List Expr} {t t':TA} (h:PA X e t) (k:∀ σ H Q,t' σ H Q→t σ H Q):PA X e t':=fun po pins s σ H Q I q=>h po pins s σ H Q I (k σ H Q q)
theorem PS.weak {e:Stmt} {t t':TS} (h:PS X e t) (k:∀ D σ H,t' D σ H→t D σ H):PS X e t':=fun pins s σ H D I q=>h pins s σ H D I (k D σ H q)
theorem PSs.weak {e:List Stmt} {t t':TS} (h:PSs X e t) (k:∀ D σ H,t' D σ H→t D σ H):PSs X e t':=fun pins s σ H D I q=>h pins s σ H D I (k D σ H q)
theorem PG.weak {e:Expr} {t t':TG} (h:PG X e t) (k:∀ v σ H Q,t' v σ H Q→t v σ H Q):PG X e t':=fun pins s σ H v u Q I r q=>h pins s σ H v u Q I r (k v σ H Q q)
theorem PGs.weak {e:List Expr} {t t':TGs} (h:PGs X e t) (k:∀ v σ H Q,t' v σ H Q→t v σ H Q):PGs X e t':=fun pins s σ H v u Q I r q=>h pins s σ H v u Q I r (k v σ H Q q)
theorem PI.weak {tg e:Expr} {t t':TI} (h:PI X tg e t) (k:∀ σ H Q,t' σ H Q→t σ H Q):PI X tg e t':=fun pins s σ H Q I q=>h pins s σ H Q I (k σ H Q q)
end
def cw (K:PySem.W.Frag) (mg:Str→Option Value) (r:R2) (f:Vl→Vl→Sto→R Vl):Prop:=∀ (WE:WX) (μ:Nat→Addr) (S:Sto) (H:Hp) (v w:V) (x y:Vl) (Q:VK),HR μ S H→aM K mg μ S H v x→aM K mg μ S H w y→aJ (aM K mg) WE μ S H (f x y S) Q→r v w H Q
def ze (K:PySem.W.Frag) (mg:Str→Option Value) (r:V→Hp→VK→Prop) (f:Vl→Sto→R Vl):Prop:=∀ (WE:WX) (μ:Nat→Addr) (S:Sto) (H:Hp) (v:V) (x:Vl) (Q:VK),HR μ S H→aM K mg μ S H v x→aJ (aM K mg) WE μ S H (f x S) Q→r v H Q
def fS (K:PySem.W.Frag) (mg:Str→Option Value) (r:List V→Hp→VK→Prop) (f:List Vl→Sto→R Vl):Prop:=∀ (WE:WX) (μ:Nat→Addr) (S:Sto) (H:Hp) (vs:List V) (xs:List Vl) (Q:VK),HR μ S H→bf K mg μ S H vs xs→aJ (aM K mg) WE μ S H (f xs S) Q→r vs H Q
def ae (i:Nat):XE:=fun τ S=>match τ[i]? with
 | some (some v)=>.ok v S
 | _=>.bad
def xC (d:D):XE:=fun _ S=>.ok (.d d) S
def xFn (x:Str):XE:=fun _ S=>.ok (.fn x) S
def xOp (f:Vl→Vl→Sto→R Vl) (a b:XE):XE:=fun τ S=>(a τ S).bind fun x S1=>(b τ S1).bind fun y S2=>f x y S2
def xUn (f:Vl→Sto→R Vl) (a:XE):XE:=fun τ S=>(a τ S).bind fun x S1=>f x S1
def fF (f f':Vl→Vl→Sto→R Vl) (a b c:XE):XE:=fun τ S=>(a τ S).bind fun x S1=>(b τ S1).bind fun y S2=>(f x y S2).bind fun z S3=>match z with
 | .d (.bl k)=>if k=true then (c τ S3).bind fun w S4=>f' y w S4 else .ok (.d (.bl false)) S3
 | _=>.bad
def asB (z:Vl) (S:Sto):R Bool:=match z with
 | .d (.bl b)=>.ok b S
 | _=>.bad
def aI (a:XE):XT:=fun τ S=>(a τ S).bind asB
def tru (z:Vl) (S:Sto):R Bool:=match z with
 | .d .non=>.ok false S
 | .d (.bl b)=>.ok b S
 | .d (.int i)=>.ok (i != 0) S
 | .d (.tup xs)=>.ok (!xs.isEmpty) S
 | .d (.lst xs)=>.ok (!xs.isEmpty) S
 | .r n=>match S[n]? with
  | some (.lst xs)=>.ok (!xs.isEmpty) S
  | some (.dct kvs)=>.ok (!kvs.isEmpty) S
  | _=>.bad
 | _=>.bad
def bI (a:XE):XT:=fun τ S=>(a τ S).bind tru
def iB (a b:XT):XT:=fun τ S=>(a τ S).bind fun c S1=>if c=true then b τ S1 else .ok false S1
def xOr (a b:XT):XT:=fun τ S=>(a τ S).bind fun c S1=>if c=true then .ok true S1 else b τ S1
def cg (a:XT):XT:=fun τ S=>(a τ S).bind fun c S1=>.ok (!c) S1
def cJ (a b:XE):XE:=fun τ S=>(a τ S).bind fun x S1=>(asB x S1).bind fun c S2=>if c=true then b τ S2 else .ok (.d (.bl false)) S2
def Cm (a b:XE):XE:=fun τ S=>(a τ S).bind fun x S1=>(asB x S1).bind fun c S2=>if c=true then .ok (.d (.bl true)) S2 else b τ S2
def jK (a:XE):XE:=fun τ S=>(a τ S).bind fun x S1=>(asB x S1).bind fun c S2=>.ok (.d (.bl (!c))) S2
def o7 (c:XT) (a b:XE):XE:=fun τ S=>(c τ S).bind fun k S1=>if k=true then a τ S1 else b τ S1
def ak:XA:=fun _ S=>.ok [] S
def aa (a:XE) (r:XA):XA:=fun τ S=>(a τ S).bind fun x S1=>(r τ S1).bind fun xs S2=>.ok (x :: xs) S2
def fJ:List Vl→Option (List D)
 | []=>some []
 | .d x :: r=>(fJ r).map (x :: ·)
 | _=>none
def mkT (xs:List Vl) (S:Sto):R Vl:=match fJ xs with
 | some ds=>if ds.length≤100000 then .ok (.d (.tup ds)) S else .bad
 | none=>.bad
def mkL (xs:List Vl) (S:Sto):R Vl:=match fJ xs with
 | some ds=>if ds.length≤100000 then .ok (.d (.lst ds)) S else .bad
 | none=>.bad
def mkM (xs:List Vl) (S:Sto):R Vl:=match fJ xs with
 | some ds=>if ds.length≤100000 then .ok (.r S.length) (S++[.lst ds]) else .bad
 | none=>.bad
def xN (f:List Vl→Sto→R Vl) (as:XA):XE:=fun τ S=>(as τ S).bind f
def frz (z:Vl) (S:Sto):R Vl:=match z with
 | .r n=>match S[n]? with
  | some (.lst xs)=>.ok (.d (.lst xs)) (S.set n .dead)
  | some (.dct kvs)=>.ok (.fd kvs) (S.set n .dead)
  | _=>.bad
 | z=>.ok z S
def xFz (a:XE):XE:=fun τ S=>(a τ S).bind frz
def bF:XO:=fun _ S=>.ok none S
def bW (a:XE):XO:=fun τ S=>(a τ S).bind fun x S1=>match x with
 | .d (.int i)=>.ok (some i) S1
 | _=>.bad
def xSl (f:Vl→Option Int→Option Int→Sto→R Vl) (a:XE) (l h:XO):XE:=fun τ S=>(a τ S).bind fun x S1=>(l τ S1).bind fun i S2=>(h τ S2).bind fun j S3=>f x i j S3
section
variable {X:Cx} {WE:WX} {a b c e:Expr} {xa xb xc xe:XE} {pos:Pos} {es:List Expr} {t u:XT}
theorem rv (i:Nat) {x:Str} (hN:X.N[i]?=some x:=by rfl) (hv:Vis X.env.scope x:=by first | exact Or.inl rfl | exact Or.inr (Or.inl rfl) | exact Or.inr (Or.inr rfl)) (hd:(x == ("__debug__":Str))=false:=by decide)
  (hcd:(x == ("__classdict__":Str))=false:=by decide):RE X WE (.Name x pos) (ae i):=⟨(wy hN hv hd hcd).weak fun σ H Q ⟨μ,S,τ,hr,sr,p⟩=>by
 unfold ae at p
 split at p
 ·obtain ⟨v,e1,r⟩:=sr.get _ _ ‹_›
  exact ⟨v,e1,p.here hr r⟩
 ·exact p.elim⟩
theorem aj {i j}:RE X WE (.Constant (.int i) j pos) (xC (.int i)):=⟨x_.weak fun _ _ _ ⟨_,_,_,hr,_,p⟩=>p.here hr (Rep.int i)⟩
theorem cc {i j}:RE X WE (.Constant (.bool i) j pos) (xC (.bl i)):=⟨zX.weak fun _ _ _ ⟨_,_,_,hr,_,p⟩=>p.here hr (Rep.bl i)⟩
theorem eG {j}:RE X WE (.Constant .none j pos) (xC .non):=⟨zm.weak fun _ _ _ ⟨_,_,_,hr,_,p⟩=>p.here hr Rep.non⟩
theorem bp {x j}:RE X WE (.Constant (.str x) j pos) (xC (.str x)):=⟨zJ.weak fun _ _ _ ⟨_,_,_,hr,_,p⟩=>p.here hr (Rep.str x)⟩
theorem two {r:R2} {f:Vl→Vl→Sto→R Vl} (hf:cw X.K X.mg r f) {σ:St} {H:Hp} {Q:VK} (h:trE X.K X.mg WE (xOp f xa xb) σ H Q):tOp r (trE X.K X.mg WE xa) (trE X.K X.mg WE xb) σ H Q:=by
 obtain ⟨μ,S,τ,hr,sr,p⟩:=h
 refine ⟨μ,S,τ,hr,sr,p.bind fun v x S1 μ1 H1 st1 r1 p1=>?_⟩
 refine ⟨μ1,S1,τ,st1.hr,sr.step st1,p1.bind fun w y S2 μ2 H2 st2 r2 p2=>?_⟩
 exact hf WE μ2 S2 H2 v w x y Q st2.hr (r1.step st2) r2 p2
theorem aw {op:Operator} {r:R2} {f:Vl→Vl→Sto→R Vl} (ho:OpR X (binaryOp op) r) (hf:cw X.K X.mg r f) (ha:RE X WE a xa) (hb:RE X WE b xb):RE X WE (.BinOp a op b pos) (xOp f xa xb):=
 ⟨(Aj ho ha.h hb.h).weak fun _ _ _ h=>two hf h⟩
theorem eQ {op:UnaryOp} {r:V→Hp→VK→Prop} {f:Vl→Sto→R Vl} (ho:UnR X (unaryOp op) r) (hf:ze X.K X.mg r f) (ha:RE X WE a xa):RE X WE (.UnaryOp op a pos) (xUn f xa):=
 ⟨(Ao ho ha.h).weak fun σ H Q ⟨μ,S,τ,hr,sr,p⟩=>⟨μ,S,τ,hr,sr,p.bind fun v x S1 μ1 H1 st1 r1 p1=>hf WE μ1 S1 H1 v x Q st1.hr r1 p1⟩⟩
theorem dW {op:CmpOp} {r:R2} {f:Vl→Vl→Sto→R Vl} (ho:OpR X (compareOp op) r) (hf:cw X.K X.mg r f) (ha:RE X WE a xa) (hb:RE X WE b xb) (hm:behindInMarks op b=false:=by first | exact qm _ | with_unfolding_all rfl):RE X WE (.Compare a [op] [b] pos) (xOp f xa xb):=
 ⟨(uJ ho ha.h hb.h hm).weak fun _ _ _ h=>two hf h⟩
theorem nI {σ:St} {H:Hp} {Q:Bool→Hp→Prop} (h:trT X.K X.mg WE (aI xa) σ H Q):trE X.K X.mg WE xa σ H fun v H'=>∃ k,v=.bl k∧Q k H':=by
 obtain ⟨μ,S,τ,hr,sr,p⟩:=h
 refine ⟨μ,S,τ,hr,sr,p.bind fun v x S1 μ1 H1 st1 r1 p1=>?_⟩
 unfold asB at p1
 split at p1
 ·cases (show Rep (vh μ1 S1 H1) v (.bl _) from r1)
  exact ⟨_,rfl,p1.here st1.hr rfl⟩
 ·exact p1.elim
theorem bc {op:CmpOp} {r:R2} {f:Vl→Vl→Sto→R Vl} (ho:OpR X (compareOp op) r) (hf:cw X.K X.mg r f) (ha:RE X WE a xa) (hb:RE X WE b xb) (hm:behindInMarks op b=false:=by first | exact qm _ | with_unfolding_all rfl):RT X WE (.Compare a [op] [b] pos) (aI (xOp f xa xb)):=
 ⟨(vt ho ha.h hb.h hm).weak fun _ _ _ h=>two hf (nI h)⟩
theorem lN {r r':R2} {f f':Vl→Vl→Sto→R Vl} (hf:cw X.K X.mg r f) (hf':cw X.K X.mg r' f') {σ:St} {H:Hp} {Q:VK} (h:trE X.K X.mg WE (fF f f' xa xb xc) σ H Q):lU r r' (trE X.K X.mg WE xa) (trE X.K X.mg WE xb) (trE X.K X.mg WE xc) σ H Q:=by
 obtain ⟨μ,S,τ,hr,sr,p⟩:=h
 refine ⟨μ,S,τ,hr,sr,p.bind fun v x S1 μ1 H1 st1 r1 p1=>?_⟩
 refine ⟨μ1,S1,τ,st1.hr,sr.step st1,p1.bind fun w y S2 μ2 H2 st2 r2 p2=>?_⟩
 refine hf WE μ2 S2 H2 v w x y _ st2.hr (r1.step st2) r2 (p2.bind fun z zz S3 μ3 H3 st3 r3 p3=>?_)
 try dsimp only at p3
 split at p3
 ·cases (show Rep (vh μ3 S3 H3) z (.bl _) from r3)
  refine ⟨_,rfl,?_⟩
  split at p3
  ·rename_i k hk
   rw [if_pos hk]
   refine ⟨μ3,S3,τ,st3.hr,sr.step (st1.trans (st2.trans st3)),p3.bind fun q qq S4 μ4 H4 st4 r4 p4=>?_⟩
   exact hf' WE μ4 S4 H4 w q y qq Q st4.hr (r2.step (st3.trans st4)) r4 p4
  ·rename_i k hk
   rw [if_neg hk]
   exact p3.here st3.hr (Rep.bl false)
 ·exact p3.elim
theorem mi {op op':CmpOp} {r r':R2} {f f':Vl→Vl→Sto→R Vl} (ho:OpR X (compareOp op) r) (hf:cw X.K X.mg r f) (ho':OpR X (compareOp op') r') (hf':cw X.K X.mg r' f') (ha:RE X WE a xa) (hb:RE X WE b xb) (hc:RE X WE c xc)
  (hm:lastMarks [op,op'] [b,c]=false:=by with_unfolding_all rfl):RE X WE (.Compare a [op,op'] [b,c] pos) (fF f f' xa xb xc):=⟨(r_ ho ho' ha.h hb.h hc.h hm).weak fun _ _ _ h=>lN hf hf' h⟩
theorem sM {op op':CmpOp} {r r':R2} {f f':Vl→Vl→Sto→R Vl} (ho:OpR X (compareOp op) r) (hf:cw X.K X.mg r f) (ho':OpR X (compareOp op') r') (hf':cw X.K X.mg r' f') (ha:RE X WE a xa) (hb:RE X WE b xb) (hc:RE X WE c xc)
  (hm:lastMarks [op,op'] [b,c]=false:=by with_unfolding_all rfl):RT X WE (.Compare a [op,op'] [b,c] pos) (aI (fF f f' xa xb xc)):=⟨(si ho ho' ha.h hb.h hc.h hm).weak fun _ _ _ h=>lN hf hf' (nI h)⟩
theorem isE {α β:Type} {xs:List α} {ys:List β} (h:xs.length=ys.length):(!xs.isEmpty)=!ys.isEmpty:=by
  cases xs<;>cases ys<;>first | rfl | simp at h
theorem wC {K:PySem.W.Frag} {mg:Str→Option Value} {WE:WX} {μ:Nat→Addr} {S:Sto} {H:Hp} {v:V} {x:Vl} {Q:Bool→Hp→Prop} (hr:HR μ S H) (r:aM K mg μ S H v x) (p:aJ RlQ WE μ S H (tru x S) Q):∃ k,sP K v H k∧Q k H:=by
 unfold tru at p
 split at p
 ·cases (show Rep (vh μ S H) v .non from r);exact ⟨false,rfl,p.here hr rfl⟩
 ·cases (show Rep (vh μ S H) v (.bl _) from r);exact ⟨_,rfl,p.here hr rfl⟩
 ·cases (show Rep (vh μ S H) v (.int _) from r);exact ⟨_,rfl,p.here hr rfl⟩
 ·cases (show Rep (vh μ S H) v (.tup _) from r) with
  | tup h rs=>exact ⟨_,.inr (.inl ⟨_,SqT.of (aG h).2,rfl⟩),by rw [isE rs.length];exact p.here hr rfl⟩
 ·cases (show Rep (vh μ S H) v (.lst _) from r) with
  | lst h rs=>exact ⟨_,.inl ⟨_,SqL.of (aG h).2,rfl⟩,by rw [isE rs.length];exact p.here hr rfl⟩
 ·obtain ⟨rfl,hn⟩:=r
  split at p
  ·rename_i xs e
   obtain ⟨vs,h,rs⟩:=hr.ob _ _ e
   exact ⟨_,.inl ⟨_,SqL.of h,rfl⟩,by rw [isE rs.length];exact p.here hr rfl⟩
  ·rename_i kvs e
   obtain ⟨vs,l,h,rs⟩:=hr.ob _ _ e
   exact ⟨_,.inr (.inr ⟨_,h,rfl⟩),by rw [isE (ys:=kvs) (by simp [l])];exact p.here hr rfl⟩
  ·exact p.elim
 ·exact p.elim
theorem bA (ha:RE X WE a xa) (he:∀ whole,isTrue a X.env whole=(do let v ← whole;standAt a.pos;holding [v] (truthy v)):=by intro _;rfl):RT X WE a (bI xa):=
 ⟨(tf ha.h he).weak fun σ H Q ⟨μ,S,τ,hr,sr,p⟩=>⟨μ,S,τ,hr,sr,p.bind fun v x S1 μ1 H1 st1 r1 p1=>wC st1.hr r1 p1⟩⟩
theorem vn (ha:RT X WE a t):RW X WE (.BoolOp .And [a] pos) t:=⟨uT ha.h⟩
theorem dH (ha:RT X WE a t):RW X WE (.BoolOp .Or [a] pos) t:=⟨xH ha.h⟩
theorem mw (ha:RT X WE a t) (hb:RW X WE (.BoolOp .And (b :: es) pos) u):RW X WE (.BoolOp .And (a :: b :: es) pos) (iB t u):=
 ⟨(zF ha.h hb.h).weak fun σ H Q ⟨μ,S,τ,hr,sr,p⟩=>⟨μ,S,τ,hr,sr,p.bind fun k k' S1 μ1 H1 st1 r1 p1=>by
  cases (show k=k' from r1)
  try dsimp only at p1
  split at p1
  ·rename_i hk;rw [if_pos hk];exact ⟨μ1,S1,τ,st1.hr,sr.step st1,p1⟩
  ·rename_i hk;rw [if_neg hk];exact p1.here st1.hr rfl⟩⟩
theorem cK (ha:RT X WE a t) (hb:RW X WE (.BoolOp .Or (b :: es) pos) u):RW X WE (.BoolOp .Or (a :: b :: es) pos) (xOr t u):=
 ⟨(Am ha.h hb.h).weak fun σ H Q ⟨μ,S,τ,hr,sr,p⟩=>⟨μ,S,τ,hr,sr,p.bind fun k k' S1 μ1 H1 st1 r1 p1=>by
  cases (show k=k' from r1)
  try dsimp only at p1
  split at p1
  ·rename_i hk;rw [if_pos hk];exact p1.here st1.hr rfl
  ·rename_i hk;rw [if_neg hk];exact ⟨μ1,S1,τ,st1.hr,sr.step st1,p1⟩⟩⟩
theorem RW.rt (h:RW X WE a t):RT X WE a t:=⟨h.h.pt⟩
theorem bZ (ha:RT X WE a t):RT X WE (.UnaryOp .Not a pos) (cg t):=
 ⟨(zA ha.h).weak fun σ H Q ⟨μ,S,τ,hr,sr,p⟩=>⟨μ,S,τ,hr,sr,p.bind fun k k' S1 μ1 H1 st1 r1 p1=>by
  cases (show k=k' from r1)
  exact p1.here st1.hr rfl⟩⟩
theorem rA {K:PySem.W.Frag} {mg:Str→Option Value} {α β:Type} {Rl:(Nat→Addr)→Sto→Hp→β→α→Prop} {μ:Nat→Addr} {S:Sto} {H:Hp} {v:V} {x:Vl} {Q:β→Hp→Prop} {f:Bool→Sto→R α} (r:aM K mg μ S H v x) (p:aJ Rl WE μ S H ((asB x S).bind f) Q):∃ k,v=.bl k∧aJ Rl WE μ S H (f k S) Q:=by
 unfold asB at p
 split at p
 ·cases (show Rep (vh μ S H) v (.bl _) from r)
  exact ⟨_,rfl,p⟩
 ·exact p.elim
theorem dQ {op} (ha:RE X WE a xa):RE X WE (.BoolOp op [a] pos) xa:=⟨xE ha.h⟩
theorem cN (ha:RE X WE a xa) (hb:RE X WE (.BoolOp .And (b :: es) pos) xb):RE X WE (.BoolOp .And (a :: b :: es) pos) (cJ xa xb):=
 ⟨(zk ha.h hb.h).weak fun σ H Q ⟨μ,S,τ,hr,sr,p⟩=>⟨μ,S,τ,hr,sr,p.bind fun v x S1 μ1 H1 st1 r1 p1=>by
  obtain ⟨k,rfl,p1⟩:=rA r1 p1
  refine ⟨k,rfl,?_⟩
  split at p1
  ·rename_i hk;rw [if_pos hk];exact ⟨μ1,S1,τ,st1.hr,sr.step st1,p1⟩
  ·rename_i hk;rw [if_neg hk];exact p1.here st1.hr (Rep.bl false)⟩⟩
theorem pT (ha:RE X WE a xa):RE X WE (.UnaryOp .Not a pos) (jK xa):=
 ⟨(xG ha.h).weak fun σ H Q ⟨μ,S,τ,hr,sr,p⟩=>⟨μ,S,τ,hr,sr,p.bind fun v x S1 μ1 H1 st1 r1 p1=>by
  obtain ⟨k,rfl,p1⟩:=rA r1 p1
  exact ⟨k,rfl,p1.here st1.hr (Rep.bl _)⟩⟩⟩
theorem qw (hc:RT X WE c t) (ha:RE X WE a xa) (hb:RE X WE b xb):RE X WE (.IfExp c a b pos) (o7 t xa xb):=
 ⟨(rN hc.h ha.h hb.h).weak fun σ H Q ⟨μ,S,τ,hr,sr,p⟩=>⟨μ,S,τ,hr,sr,p.bind fun k k' S1 μ1 H1 st1 r1 p1=>by
  cases (show k=k' from r1)
  try dsimp only at p1
  split at p1
  ·rename_i hk;rw [if_pos hk];exact ⟨μ1,S1,τ,st1.hr,sr.step st1,p1⟩
  ·rename_i hk;rw [if_neg hk];exact ⟨μ1,S1,τ,st1.hr,sr.step st1,p1⟩⟩⟩
theorem ai:RA X WE [] ak:=⟨fz.weak fun σ H Q ⟨μ,S,τ,hr,sr,p⟩=>p.here hr .nil⟩
theorem ah {ts:XA} [n:NS e] (ha:RE X WE e xe) (hr:RA X WE es ts):RA X WE (e :: es) (aa xe ts):=
 ⟨(cW ha.h hr.h (n.eq es X.env)).weak fun σ H Q ⟨μ,S,τ,hr,sr,p⟩=>⟨μ,S,τ,hr,sr,p.bind fun v x S1 μ1 H1 st1 r1 p1=>⟨μ1,S1,τ,st1.hr,sr.step st1,p1.bind fun vs xs S2 μ2 H2 st2 r2 p2=>
  p2.here st2.hr (.cons (r1.step st2) r2)⟩⟩⟩
theorem eN {K:PySem.W.Frag} {mg:Str→Option Value} {μ:Nat→Addr} {S:Sto} {H:Hp}:∀ {vs:List V} {xs:List Vl} {ds:List D},bf K mg μ S H vs xs→fJ xs=some ds→aq (vh μ S H) vs ds
 | _,_,_,.nil,e=>by simp [fJ] at e;subst e;exact .nil
 | _,_,ds,@bf.cons _ _ _ _ _ v x vs xs r t,e=>by
  cases x with
  | d x=>
   simp only [fJ,Option.map_eq_some_iff] at e
   obtain ⟨es,e1,rfl⟩:=e
   exact .cons r (eN t e1)
  | _=>simp [fJ] at e
theorem jt {n:Nat} (h:n≤100000):n≤sizeLine:=by rw [sizeLine_eq];omega
theorem aJ.mK {K:PySem.W.Frag} {mg:Str→Option Value} {μ:Nat→Addr} {S:Sto} {H:Hp} {Q:VK} {vs:List V} {ds:List D} (hr:HR μ S H) (rs:aq (vh μ S H) vs ds) (p:aJ (aM K mg) WE μ S H (.ok (.d (.tup ds)) S) Q) (q:Addr) (hq:H q=none):Q (.ref q) (upd H q (.tup vs)):=by
 have st:=Step.new hr hq (.tup vs)
 exact p _ μ _ st (Rep.tup (bx bE (hr.nal hq)) (rs.mono st.vis))
theorem bz {ts:XA} {k:Nat} (h:RA X WE es ts):RE X WE (.Tuple es k pos) (xN mkT ts):=
 ⟨(xB h.h).weak fun σ H Q ⟨μ,S,τ,hr,sr,p⟩=>⟨μ,S,τ,hr,sr,p.bind fun vs xs S1 μ1 H1 st1 r1 p1=>by
  unfold mkT at p1
  split at p1
  ·rename_i ds e
   split at p1
   ·have rs:=eN r1 e
    refine ⟨jt (by rw [rs.length];assumption),fun q hq=>p1.mK st1.hr rs q hq⟩
   ·exact p1.elim
  ·exact p1.elim⟩⟩
end
section
variable {X:Cx} {WE:WX} {a b c e:Expr} {xa xb xc xe:XE} {pos:Pos} {es:List Expr} {t u:XT} {K:PySem.W.Frag} {mg:Str→Option Value} {μ:Nat→Addr} {S:Sto} {H:Hp} {Q:VK} {vs:List V} {ds:List D}
theorem aJ.gP (hr:HR μ S H) (rs:aq (vh μ S H) vs ds) (p:aJ (aM K mg) WE μ S H (.ok (.d (.lst ds)) S) Q) (q:Addr) (hq:H q=none):Q (.ref q) (upd H q (.lst vs)):=by
 have st:=Step.new hr hq (.lst vs)
 exact p _ μ _ st (Rep.lst (bx bE (hr.nal hq)) (rs.mono st.vis))
theorem aJ.wJ (hr:HR μ S H) (rs:aq (vh μ S H) vs ds) (p:aJ (aM K mg) WE μ S H (.ok (.r S.length) (S++[.lst ds])) Q) (q:Addr) (hq:H q=none):Q (.ref q) (upd H q (.lst vs)):=
 p _ _ _ (Step.alloc hr hq (ob:=.lst ds) ⟨vs,rfl,rs⟩) ⟨by rw [cC],by simp⟩
theorem bT {ts:XA} (h:RA X WE es ts):RE X WE (.List es pos) (xN mkL ts):=
 ⟨(rg h.h).weak fun σ H Q ⟨μ,S,τ,hr,sr,p⟩=>⟨μ,S,τ,hr,sr,p.bind fun vs xs S1 μ1 H1 st1 r1 p1=>by
  unfold mkL at p1
  split at p1
  ·rename_i ds e
   split at p1
   ·have rs:=eN r1 e
    refine ⟨jt (by rw [rs.length];assumption),fun q hq=>p1.gP st1.hr rs q hq⟩
   ·exact p1.elim
  ·exact p1.elim⟩⟩
theorem oh {ts:XA} (h:RA X WE es ts):RE X WE (.List es pos) (xN mkM ts):=
 ⟨(rg h.h).weak fun σ H Q ⟨μ,S,τ,hr,sr,p⟩=>⟨μ,S,τ,hr,sr,p.bind fun vs xs S1 μ1 H1 st1 r1 p1=>by
  unfold mkM at p1
  split at p1
  ·rename_i ds e
   split at p1
   ·have rs:=eN r1 e
    refine ⟨jt (by rw [rs.length];assumption),fun q hq=>p1.wJ st1.hr rs q hq⟩
   ·exact p1.elim
  ·exact p1.elim⟩⟩
theorem AX (ha:RE X WE a xa):RE X WE a (xFz xa):=
 ⟨fun pins s σ H Q I ⟨μ,S,τ,hr,sr,p⟩=>by
  refine thn (ha.h pins s σ H (fun v H1=>∃ μ1 S1 x,HR μ1 S1 H1∧aM X.K X.mg μ1 S1 H1 v x∧aJ (aM X.K X.mg) WE μ1 S1 H1 (frz x S1) Q) I ⟨μ,S,τ,hr,sr,p.bind fun v x S1 μ1 H1 st1 r1 p1=>⟨μ1,S1,x,st1.hr,r1,p1⟩⟩) fun u s1 ⟨v,H1,I1,ru,μ1,S1,x,hr1,r1,p1⟩=>?_
  unfold frz at p1
  split at p1
  ·obtain ⟨rfl,hn⟩:=r1
   split at p1
   ·rename_i n xs e
    obtain ⟨vs,h,rs⟩:=hr1.ob _ _ e
    obtain ⟨st2,na⟩:=Step.freeze hr1 e (by simp)
    exact ⟨_,H1,I1,ru,p1 _ _ _ st2 (Rep.lst (bx h na) (rs.mono st2.vis))⟩
   ·rename_i n _ kvs e
    obtain ⟨vs,l,h,rs⟩:=hr1.ob _ _ e
    have ok:bC X.prog X.w H1 s1.heap (μ1 n) (.dK ((kvs.map (·.1)).zip vs)):=I1.hok _ _ h
    obtain ⟨z1,z2,ws,rel,o,es,ep,ho,r⟩:=ok
    obtain ⟨st2,na⟩:=Step.sD hr1 (.frz o (.dK ((kvs.map (·.1)).zip vs))) e (by simp)
    exact ⟨_,_,I1.write (o:=.frz o (.dK ((kvs.map (·.1)).zip vs))) (h':=s1.heap) (x:=μ1 n) (e:=μ1 n) (t':=s1.toks) (by rw [h];exact True.intro) (.inl rfl) (fun b q _ hq=>hq) ⟨o,ho⟩ (show _∧_ from ⟨ho,z1,z2,ws,rel,o,es,ep,ho,r⟩),ru,p1 _ _ _ st2 ⟨_,vs,o,rfl,l,bx bE na,rs.mono st2.vis⟩⟩
   ·exact p1.elim
  ·exact ⟨_,H1,I1,ru,p1.here hr1 r1⟩⟩
theorem aK {x:Str} {p:Pos} {id:String} {r:List V→Hp→VK→Prop} {f:List Vl→Sto→R Vl} {ts:XA} [n:NS e] (hc:bH X (.builtin id) r) (hf:fS X.K X.mg r f) (hm:X.mg x=none) (hv:bootBuiltins x=some (.builtin id)) (ha:RA X WE (e :: es) ts) (hg:Gl X x:=by exact rfl) (hn:x≠"__name__":=by decide) (hdb:(x == ("__debug__":Str))=false:=by decide)
  (hpl:(backTo pos (starEach es X.env)).any (·.1)=false:=by rfl):RE X WE (.Call (.Name x p) (e :: es) [] pos) (xN f ts):=
 ⟨(tE hc hg hm hv ha.h hn hdb (n.eq es X.env) hpl).weak fun σ H Q ⟨μ,S,τ,hr,sr,p⟩=>⟨μ,S,τ,hr,sr,p.bind fun vs xs S1 μ1 H1 st1 r1 p1=>hf WE μ1 S1 H1 vs xs Q st1.hr r1 p1⟩⟩
theorem cR {x:Str} {p:Pos} {T:String} {r:List V→Hp→VK→Prop} {f:List Vl→Sto→R Vl} {ts:XA} [n:NS e] (hc:bH X (.type T) r) (hf:fS X.K X.mg r f) (hm:X.mg x=none) (hv:bootBuiltins x=some (.type T)) (ha:RA X WE (e :: es) ts) (hg:Gl X x:=by exact rfl) (hn:x≠"__name__":=by decide) (hdb:(x == ("__debug__":Str))=false:=by decide)
  (hpl:(backTo pos (starEach es X.env)).any (·.1)=false:=by rfl):RE X WE (.Call (.Name x p) (e :: es) [] pos) (xN f ts):=
 ⟨(p0 hc hg hm hv ha.h hn hdb (n.eq es X.env) hpl).weak fun σ H Q ⟨μ,S,τ,hr,sr,p⟩=>⟨μ,S,τ,hr,sr,p.bind fun vs xs S1 μ1 H1 st1 r1 p1=>hf WE μ1 S1 H1 vs xs Q st1.hr r1 p1⟩⟩
def spM (K:PySem.W.Frag) (mg:Str→Option Value) (F:XF):Sp:=fun vs H Q _=>∃ μ S us,HR μ S H∧bf K mg μ S H vs us∧aJ (aM K mg) W0 μ S H (F us S) Q
def noX {α:Type} (r:R α):R α:=match r with
 | .ex _ _ _=>.bad
 | r=>r
def ax (F:XF) (as:XA):XE:=fun τ S=>(as τ S).bind fun us S1=>noX (F us S1)
theorem aJ.noX {α β:Type} {Rl:(Nat→Addr)→Sto→Hp→β→α→Prop} {res:R α} {Q:β→Hp→Prop} (h:aJ Rl WE μ S H (noX res) Q):aJ Rl W0 μ S H res Q:=by
 cases res with
 | ok a S'=>exact h
 | ex c xs S'=>exact h.elim
 | bad=>exact h.elim
end
section
variable {X:Cx} {WE:WX} {e:Expr} {es:List Expr} {pos p:Pos} {lev j:Nat} {ps:List Str} {F:XF} {x:Str} {ts:XA}
def OkE (P:Program) (w:World) (K:PySem.W.Frag) (mg:Str→Option Value) (lev:Nat) (x:Str) (ps:List Str) (M:XF):Prop:=∃ (f:Addr) (fd:FuncData),mg x=some (.ref f)∧PySem.W.keepIn K (.ref f)=true∧(∀ us:List Value,us.length=ps.length→bindArgs fd ⟨us,[]⟩=pure (ps.zip us))∧∀ base,dv P w K mg base CX0 lev f fd ps (spM K mg M)
theorem av [n:NS e] (G:OkE X.prog X.w X.K X.mg lev x ps F) (hr:bY j X.A) (ha:RA X WE (e :: es) ts) (hj:lev≤j:=by decide) (hg:Gl X x:=by exact rfl)
  (hdb:(x == ("__debug__":Str))=false:=by decide) (hpl:(backTo pos (starEach es X.env)).any (·.1)=false:=by rfl):RE X WE (.Call (.Name x p) (e :: es) [] pos) (ax F ts):=by
 obtain ⟨f,fd,hm,hk,hb,G⟩:=G
 exact ⟨(nL (G X.base) (hr.mono hj) hg hm hk (.all hb) .nil BE ha.h hdb (n.eq es X.env) hpl).weak fun σ H Q ⟨μ,S,τ,hr,sr,p⟩=>⟨μ,S,τ,hr,sr,p.bind fun vs xs S1 μ1 H1 st1 r1 p1=>by
  rw [List.append_nil]
  exact ⟨μ1,S1,xs,st1.hr,r1,p1.noX⟩⟩⟩
end
def out (S:Sto) (z:Vl) (S':Sto):R Vl:=match z with
 | .r n=>if n < S.length then .ok (.r n) (S'.take S.length) else match S'[n]? with
  | some (.lst xs)=>.ok (.r S.length) (S'.take S.length++[.lst xs])
  | some (.dct kvs)=>.ok (.r S.length) (S'.take S.length++[.dct kvs])
  | _=>.bad
 | .pr x n=>if n < S.length then .ok (.pr x n) (S'.take S.length) else match S'[n]? with
  | some (.lst xs)=>.ok (.pr x S.length) (S'.take S.length++[.lst xs])
  | _=>.bad
 | z=>.ok z (S'.take S.length)
def leave (S:Sto) (r:R (Fl×Nv)):R Vl:=match r with
 | .ok q S'=>(match q.1 with
  | .nx=>out S (.d .non) S'
  | .rt z=>out S z S'
  | _=>.bad)
 | .ex c xs S'=>.ex c xs (S'.take S.length)
 | .bad=>.bad
def a_ (k n:Nat) (b:XS):XF:=fun us S=>if us.length=k then leave S (b (us.map some++List.replicate (n - k) none) S) else .bad
section
variable {K:PySem.W.Frag} {mg:Str→Option Value} {μ μ':Nat→Addr} {S S':Sto} {H H':Hp} {Q:VK}
theorem dy {k:Nat}:cP (vh μ S H) (vh μ (S.take k) H):=fun b u q=>by
 obtain ⟨z,q⟩:=aG q
 refine bx q ?_
 rintro ⟨m,u,e,d,rfl⟩
 exact z ⟨m,u,(cy e).2,d,rfl⟩
theorem vF {k n:Nat} {ob:Ob} (hk:k≤S.length) (e0:S[n]?=some ob) (d0:ob≠.dead):cP (vh μ S H) (vh (ext μ k (μ n)) (S.take k++[ob]) H):=fun b u q=>by
 obtain ⟨z,q⟩:=aG q
 refine bx q ?_
 rintro ⟨m,u,e,d,rfl⟩
 have lt:(S.take k).length=k:=by rw [List.length_take];omega
 by_cases hm:m < k
 ·rw [List.getElem?_append_left (by omega)] at e
  exact z ⟨m,u,(cy e).2,d,by rw [il (Nat.ne_of_lt hm)]⟩
 ·have hm':m=k:=by
   have:=(List.getElem?_eq_some_iff.mp e).1
   simp only [List.length_append,lt,List.length_singleton] at this
   omega
  subst hm'
  exact z ⟨n,ob,e0,d0,by rw [cC]⟩
theorem jT {WE:WX} {v:V} {z:Vl} (st:Step μ S H μ' S' H') (r:aM K mg μ' S' H' v z) (p:aJ (aM K mg) WE μ S H (out S z S') Q):Q v H':=by
 have st':=st.take
 cases z with
 | d x=>exact p v μ' H' st' (Rep.mono dy r)
 | fd kvs=>obtain ⟨a,vs,o,e,l,h,rs⟩:=r;exact p v μ' H' st' ⟨a,vs,o,e,l,dy _ _ h,rs.mono dy⟩
 | fn x=>exact p v μ' H' st' r
 | sc ns=>obtain ⟨l,e,h⟩:=r;exact p v μ' H' st' ⟨l,e,h.mono dy⟩
 | xc c xs=>obtain ⟨a,C,e,m,h⟩:=r;exact p v μ' H' st' ⟨a,C,e,m,h.mono dy⟩
 | pr x n=>
  obtain ⟨a,u,rfl,h,ru,hn⟩:=r
  unfold out at p
  try dsimp only at p
  split at p
  ·exact p _ μ' H' st' ⟨a,u,rfl,dy _ _ h,Rep.mono dy ru,by rw [List.length_take];omega⟩
  ·have lt:(S'.take S.length).length=S.length:=by rw [List.length_take];have:=st.le;omega
   split at p
   ·rename_i xs e
    have k:=vF (μ:=μ') (H:=H') (k:=S.length) st.le e (by simp)
    exact p _ _ H' (st.move (by omega) e (by simp)) ⟨a,u,rfl,by rw [cC];exact k _ _ h,Rep.mono k ru,by simp [lt]⟩
   ·exact p.elim
 | r n=>
  obtain ⟨rfl,hn⟩:=r
  unfold out at p
  try dsimp only at p
  split at p
  ·exact p _ μ' H' st' ⟨rfl,by rw [List.length_take];omega⟩
  ·have lt:(S'.take S.length).length=S.length:=by rw [List.length_take];have:=st.le;omega
   split at p
   ·rename_i xs e
    exact p _ _ H' (st.move (by omega) e (by simp)) ⟨by rw [cC],by simp [lt]⟩
   ·rename_i xs e
    exact p _ _ H' (st.move (by omega) e (by simp)) ⟨by rw [cC],by simp [lt]⟩
   ·exact p.elim
theorem B5 {P:Program} {w:World} {base:Heap} {x qual:Str} {st:Stmt} {f:Addr} {fd:FuncData} {N ps:List Str} {lev:Nat} {m:XS} (F:Fun K x qual st f fd) (Sc:d_ N ps (aQ st))
  (hb:∀ (cdv:Value) (A:Around) (outer:List Env) (s:Shared) (H:Hp) (E:XK),bY lev (A.deeper (envOfC qual (aQ st) s.heap.objs.size f cdv))→RB (dr CX0 P w K mg base N qual (aQ st) f cdv A outer s H E).nox W0 (cm st) m) :
  dv P w K mg base CX0 (lev+1) f fd ps (spM K mg (a_ ps.length N.length m)):=by
 refine F.ok Sc (fun vs H Q E h=>?_) (fun cdv A outer s H vs Q E hr h=>?_)
 ·obtain ⟨μ,S,us,hr,rs,p⟩:=h
  unfold a_ at p
  split at p
  ·rw [rs.length];assumption
  ·exact p.elim
 ·refine ⟨_,(hb cdv A outer s H E hr).h,?_⟩
  obtain ⟨μ,S,us,hr,rs,p⟩:=h
  unfold a_ at p
  split at p
  ·rename_i hl
   have sr:bK K mg μ S H (start N vs) (us.map some++List.replicate (N.length - ps.length) none):=by
    rw [← hl];exact bK.beg rs
   refine ⟨μ,S,_,hr,sr,?_⟩
   generalize m (us.map some++List.replicate (N.length - ps.length) none) S=res at p
   cases res with
   | bad=>exact p.elim
   | ex c xs S'=>exact fun μ' H' st=>p μ' H' st.take
   | ok q S'=>
    obtain ⟨fl,τ'⟩:=q
    rintro ⟨fv,σ'⟩ μ' H' st ⟨sr',fr⟩
    cases fl with
    | nx=>
     cases fv with
     | nx=>exact jT (K:=K) (mg:=mg) (v:=.non) (z:=.d .non) st Rep.non p
     | _=>exact (show False from fr).elim
    | rt z=>
     cases fv with
     | rt v=>exact jT st fr p
     | _=>exact (show False from fr).elim
    | bk=>exact (show False from p).elim
    | ct=>exact (show False from p).elim
  ·exact p.elim
end
def aN:XS:=fun τ S=>.ok (.nx,τ) S
def az (a b:XS):XS:=fun τ S=>(a τ S).bind fun q S1=>match q.1 with
 | .nx=>b q.2 S1
 | _=>.ok q S1
def gB (e:XE):XS:=fun τ S=>(e τ S).bind fun _ S1=>.ok (.nx,τ) S1
def aH (e:XE):XS:=fun τ S=>(e τ S).bind fun z S1=>.ok (.rt z,τ) S1
def zS:XS:=fun τ S=>.ok (.rt (.d .non),τ) S
def zy:XS:=fun τ S=>.ok (.bk,τ) S
def zW:XS:=fun τ S=>.ok (.ct,τ) S
def xIf (c:XT) (a b:XS):XS:=fun τ S=>(c τ S).bind fun k S1=>if k=true then a τ S1 else b τ S1
def lT:XS:=fun _ _=>.bad
def aT (e:XE) (g:XG):XS:=fun τ S=>(e τ S).bind fun z S1=>(g z τ S1).bind fun τ1 S2=>.ok (.nx,τ1) S2
def gNm (i:Nat):XG:=fun z τ S=>.ok (τ.set i (some z)) S
def gTu (n:Nat) (g:XGs):XG:=fun z τ S=>match z with
 | .d (.tup xs)=>if xs.length=n then g (xs.map Vl.d) τ S else .bad
 | _=>.bad
def gN0:XGs:=fun zs τ S=>match zs with
 | []=>.ok τ S
 | _=>.bad
def gCo (g:XG) (gs:XGs):XGs:=fun zs τ S=>match zs with
 | z :: r=>(g z τ S).bind fun τ1 S1=>gs r τ1 S1
 | []=>.bad
def gSb (o i:XE) (f:Vl→Vl→Vl→Sto→R Unit):XG:=fun z τ S=>(o τ S).bind fun x S1=>(i τ S1).bind fun y S2=>(f x y z S2).bind fun _ S3=>.ok τ S3
def gok (gd:Option (Nat×Ob)) (S:Sto):Prop:=match gd with
 | none=>True
 | some (n,o)=>S[n]?=some o
open Classical in
noncomputable def b_ (g:XG) (b:XS) (gd:Option (Nat×Ob)):List Vl→Nv→Sto→R (Fl×Nv)
 | [],τ,S=>.ok (.nx,τ) S
 | z :: zs,τ,S=>(g z τ S).bind fun τ1 S1=>(b τ1 S1).bind fun q S2=>match q.1 with
  | .bk=>.ok (.nx,q.2) S2
  | .rt v=>.ok (.rt v,q.2) S2
  | _=>if gok gd S2 then b_ g b gd zs q.2 S2 else .bad
noncomputable def ed (it:XI) (g:XG) (b:XS):XS:=fun τ S=>(it τ S).bind fun I S1=>b_ g b I.gd I.items τ S1
section
variable {X:Cx} {WE:WX} {e c tg iter:Expr} {xe:XE} {t:XT} {pos:Pos} {st:Stmt} {sts sts':List Stmt} {m m':XS} {g:XG} {gs:XGs} {it:XI}
theorem ba:RB X WE [] aN:=⟨vO.weak fun D σ H ⟨μ,S,τ,hr,sr,p⟩=>p.here (b:=(FlV.nx,σ)) hr ⟨sr,True.intro⟩⟩
theorem au (h:RS X WE st m):RB X WE [st] m:=⟨vY h.h⟩
theorem ao (h:RS X WE st m) (h':RB X WE sts m'):RB X WE (st :: sts) (az m m'):=
 ⟨(sI h.h h'.h).weak fun D σ H ⟨μ,S,τ,hr,sr,p⟩=>⟨μ,S,τ,hr,sr,p.bind fun b q S1 μ1 H1 st1 r1 p1=>by
  obtain ⟨fv,σ1⟩:=b
  obtain ⟨fl,τ1⟩:=q
  obtain ⟨sr1,fr⟩:=r1
  cases fl with
  | nx=>cases fv with
   | nx=>exact ⟨μ1,S1,τ1,st1.hr,sr1,p1⟩
   | _=>exact (show False from fr).elim
  | bk=>cases fv with
   | bk=>exact (show D.at (FlV.bk,σ1) H1 from aJ.here (b:=(FlV.bk,σ1)) st1.hr p1 ⟨sr1,True.intro⟩)
   | _=>exact (show False from fr).elim
  | ct=>cases fv with
   | ct=>exact (show D.at (FlV.ct,σ1) H1 from aJ.here (b:=(FlV.ct,σ1)) st1.hr p1 ⟨sr1,True.intro⟩)
   | _=>exact (show False from fr).elim
  | rt z=>cases fv with
   | rt v=>exact (show D.at (FlV.rt v,σ1) H1 from aJ.here (b:=(FlV.rt v,σ1)) st1.hr p1 ⟨sr1,fr⟩)
   | _=>exact (show False from fr).elim⟩⟩
theorem iR (he:RE X WE e xe) (hs:swapsWith e none pos.line X.env=pure false:=by rfl):RS X WE (.Expr e pos) (gB xe):=
 ⟨(v9 he.h hs).weak fun D σ H ⟨μ,S,τ,hr,sr,p⟩=>⟨μ,S,τ,hr,sr,p.bind fun v x S1 μ1 H1 st1 r1 p1=>p1.here (b:=(FlV.nx,σ)) st1.hr ⟨sr.step st1,True.intro⟩⟩⟩
theorem aC (he:RE X WE e xe):RS X WE (.Return (some e) pos) (aH xe):=
 ⟨(yH he.h).weak fun D σ H ⟨μ,S,τ,hr,sr,p⟩=>⟨μ,S,τ,hr,sr,p.bind fun v x S1 μ1 H1 st1 r1 p1=>p1.here (b:=(FlV.rt v,σ)) st1.hr ⟨sr.step st1,r1⟩⟩⟩
theorem bh (hc:RT X WE c t) (ha:RB X WE sts m) (hb:RB X WE sts' m'):RS X WE (.If c sts sts' pos) (xIf t m m'):=
 ⟨(Bj hc.h ha.h hb.h).weak fun D σ H ⟨μ,S,τ,hr,sr,p⟩=>⟨μ,S,τ,hr,sr,p.bind fun k k' S1 μ1 H1 st1 r1 p1=>by
  cases (show k=k' from r1)
  try dsimp only at p1
  split at p1
  ·rename_i hk;rw [if_pos hk];exact ⟨μ1,S1,τ,st1.hr,sr.step st1,p1⟩
  ·rename_i hk;rw [if_neg hk];exact ⟨μ1,S1,τ,st1.hr,sr.step st1,p1⟩⟩⟩
structure LQ (sc:Scope) (N:List Str):Prop where
 nd:N.Nodup
theorem bw {i:Nat} {x:Str} {sc:Scope} (q:LQ sc X.N) (hi:X.N[i]?=some x:=by exact rfl) (hx:Loc X.env.scope x:=by first | exact .inl rfl | exact .inr rfl) (hf:X.fn x=true∨X.env.scope.names.lookup x=some .local:=by first | exact .inl rfl | exact .inr rfl | assumption):RG X WE (.Name x pos) (gNm i):=
 ⟨(vD q.nd hi hx hf).weak fun v σ H Q ⟨μ,S,τ,z,hr,sr,r,p⟩=>p.here hr (sr.set i r)⟩
theorem n3:RGs X WE [] gN0:=⟨vz.weak fun vs σ H Q ⟨μ,S,τ,zs,hr,sr,r,p⟩=>by
 unfold gN0 at p
 split at p
 ·cases r;exact ⟨rfl,p.here hr sr⟩
 ·exact p.elim⟩
theorem gU {es:List Expr} (h:RG X WE e g) (h':RGs X WE es gs) (hs:(assignEach (e :: es) X.env).map (·.2)=assign e X.env :: (assignEach es X.env).map (·.2):=by rfl):RGs X WE (e :: es) (gCo g gs):=
 ⟨(sO h.h h'.h hs).weak fun vs σ H Q ⟨μ,S,τ,zs,hr,sr,r,p⟩=>by
  unfold gCo at p
  split at p
  ·cases r with
   | cons r1 rr=>exact ⟨_,_,rfl,μ,S,τ,_,hr,sr,r1,p.bind fun σ1 τ1 S1 μ1 H1 st1 sr1 p1=>⟨μ1,S1,τ1,_,st1.hr,sr1,rr.step st1,p1⟩⟩
  ·exact p.elim⟩
theorem pV {n:Nat} {es:List Expr} {k:Nat} (h:RGs X WE es gs) (hc:X.calm=true:=by exact rfl) (hn:(assignEach es X.env).length=n:=by rfl) (hst:(assignEach es X.env).findIdx? (·.1)=none:=by rfl):RG X WE (.Tuple es k pos) (gTu n gs):=
 ⟨(yP hc h.h hn hst).weak fun v σ H Q ⟨μ,S,τ,z,hr,sr,r,p⟩=>by
  unfold gTu at p
  split at p
  ·split at p
   ·rename_i xs hl
    cases (show Rep (vh μ S H) v (.tup xs) from r) with
    | tup h rs=>exact ⟨_,_,rfl,SqT.of (aG h).2,by rw [rs.length];exact hl,μ,S,τ,_,hr,sr,bf.n8 rs,p⟩
   ·exact p.elim
  ·exact p.elim⟩
def rh (K:PySem.W.Frag) (mg:Str→Option Value) (ts:ml) (f:Vl→Vl→Vl→Sto→R Unit):Prop:=∀ (WE:WX) (μ:Nat→Addr) (S:Sto) (H:Hp) (o i v:V) (x y z:Vl) (Q:Unit→Hp→Prop),HR μ S H→aM K mg μ S H o x→aM K mg μ S H i y→aM K mg μ S H v z→aJ (fun _ _ _ (_ _:Unit)=>True) WE μ S H (f x y z S) Q→ts o i v H (Q ())
theorem iu {o i:Expr} {xo xi:XE} {ts:ml} {f:Vl→Vl→Vl→Sto→R Unit} (ho:RE X WE o xo) (hi:RE X WE i xi) (hs:pf X ts) (hf:rh X.K X.mg ts f)
  (ha:∀ v,assign (.Subscript o i pos) X.env v=(do
   let ov ← holding [v] (eval o X.env)
   let iv ← holding [v,ov] (eval i X.env)
   standAt pos
   holding [v,ov,iv] (setItem ov iv v)
   release [v,ov,iv] []):=by intro _;rfl):RG X WE (.Subscript o i pos) (gSb xo xi f):=
 ⟨(zi ho.h hi.h hs ha).weak fun v σ H Q ⟨μ,S,τ,z,hr,sr,r,p⟩=>⟨μ,S,τ,hr,sr,p.bind fun ov x S1 μ1 H1 st1 r1 p1=>⟨μ1,S1,τ,st1.hr,sr.step st1,p1.bind fun iv y S2 μ2 H2 st2 r2 p2=>
  hf WE μ2 S2 H2 ov iv v x y z (fun _ H3=>Q σ H3) st2.hr (r1.step st2) r2 (r.step (st1.trans st2)) (p2.bind fun _ _ S3 μ3 H3 st3 _ p3=>p3.here st3.hr (sr.step (st1.trans (st2.trans st3))))⟩⟩⟩
theorem ib (he:RE X WE e xe) (hg:RG X WE tg g) (hs:swapsWithSole [tg] e pos.line X.env=pure false:=by rfl) (hw:swappedStores [tg] e X.env=pure none:=by rfl)
  (h1:(assignEach [tg] X.env).map (·.2)=[assign tg X.env]:=by rfl):RS X WE (.Assign [tg] e pos) (aT xe g):=
 ⟨(xA he.h hg.h hs hw h1).weak fun D σ H ⟨μ,S,τ,hr,sr,p⟩=>⟨μ,S,τ,hr,sr,p.bind fun v x S1 μ1 H1 st1 r1 p1=>⟨μ1,S1,τ,x,st1.hr,sr.step st1,r1,p1.bind fun σ2 τ2 S2 μ2 H2 st2 sr2 p2=>p2.here (b:=(FlV.nx,σ2)) st2.hr ⟨sr2,True.intro⟩⟩⟩⟩
theorem aZ {i:Nat} {x:Str} {pos':Pos} {sc:Scope} (q:LQ sc X.N) (he:RE X WE e xe) (hi:X.N[i]?=some x:=by exact rfl) (hx:Loc X.env.scope x:=by first | exact .inl rfl | exact .inr rfl) (hs:swapsWith e (some (.Name x pos')) pos.line X.env=pure false:=by rfl) (hf:X.fn x=true∨X.env.scope.names.lookup x=some .local:=by first | exact .inl rfl | exact .inr rfl | assumption) :
  RS X WE (.Assign [.Name x pos'] e pos) (aT xe (gNm i)):=
 ⟨(zw q.nd hi hx he.h hs hf).weak fun D σ H ⟨μ,S,τ,hr,sr,p⟩=>⟨μ,S,τ,hr,sr,p.bind fun v x S1 μ1 H1 st1 r1 p1=>p1.here (b:=(FlV.nx,σ.set i (some v))) st1.hr ⟨(sr.step st1).set i r1,True.intro⟩⟩⟩
theorem wN {I:Its} {S:Sto} (h:gok I.gd S):I.ok S:=h
open Classical in
theorem dE (hi:RI X WE tg iter it) (hg:RG X WE tg g) (hb:RB X WE sts m) (hp:PassesOwn (model X.prog X.w) X.A X.env X.xe:=by exact PassesOwn.never) (hc:X.calm=true:=by exact rfl) (hs:∀ x,foldedSetIterable iter X.env x=pure x:=by intro _;rfl):RS X WE (.For tg iter sts [] pos) (ed it g m):=
 ⟨(wz hp hc hi.h hg.h hb.h hs).weak fun D σ H ⟨μ,S,τ,hr,sr,p⟩=>⟨μ,S,τ,hr,sr,p.bind fun J I S1 μ1 H1 st1 io p1=>by
  refine ⟨fun i k σ' H'=>∃ μ' S' τ',Step μ1 S1 H1 μ' S' H'∧bK X.K X.mg μ' S' H' σ' τ'∧I.ok S'∧k+i=I.items.length∧aJ (RlS X.K X.mg) WE μ' S' H' (b_ g m I.gd (I.items.drop i) τ' S') D.at,
   ⟨I.items.length,μ1,S1,τ,Step.refl st1.hr,sr.step st1,io.ok,by simp,p1⟩,?_⟩
  rintro i k σ' H' ⟨μ',S',τ',st',sr',ok',hk,p'⟩
  by_cases hlt:i < I.items.length
  ·have hz:I.items[i]?=some I.items[i]:=List.getElem?_eq_getElem hlt
   rw [List.drop_eq_getElem_cons hlt,b_] at p'
   refine .inr ⟨io.go i _ μ' S' H' st' ok' hz,_,fun σ2 H2 n=>⟨I.items.length - (i+1),by omega,n⟩,fun x H2 y=>?_⟩
   obtain ⟨st2,rx⟩:=io.yld i _ μ' S' H' x H2 st' ok' hz y
   refine ⟨μ',S',τ',_,st2.hr,sr'.step st2,rx,(p'.shift st2).bind fun σ3 τ3 S3 μ3 H3 st3 sr3 p3=>⟨μ3,S3,τ3,st3.hr,sr3,p3.bind fun q qq S4 μ4 H4 st4 r4 p4=>?_⟩⟩
   obtain ⟨fv,σ4⟩:=q
   obtain ⟨fl,τ4⟩:=qq
   obtain ⟨sr4,fr⟩:=r4
   have go:∀ {b},aJ (RlS X.K X.mg) WE μ4 S4 H4 (if gok I.gd S4 then b_ g m I.gd (I.items.drop (i+1)) τ4 S4 else .bad) D.at→b=σ4→∃ μ' S' τ',Step μ1 S1 H1 μ' S' H4∧bK X.K X.mg μ' S' H4 b τ'∧I.ok S'∧I.items.length - (i+1)+(i+1)=I.items.length∧aJ (RlS X.K X.mg) WE μ' S' H4 (b_ g m I.gd (I.items.drop (i+1)) τ' S') D.at:=by
    rintro b p5 rfl
    split at p5
    ·exact ⟨μ4,S4,τ4,st'.trans (st2.trans (st3.trans st4)),sr4,wN ‹_›,by omega,p5⟩
    ·exact p5.elim
   cases fl with
   | nx=>cases fv with
    | nx=>exact go p4 rfl
    | _=>exact (show False from fr).elim
   | ct=>cases fv with
    | ct=>exact go p4 rfl
    | _=>exact (show False from fr).elim
   | bk=>cases fv with
    | bk=>exact (show D.at (FlV.nx,σ4) H4 from aJ.here (b:=(FlV.nx,σ4)) st4.hr p4 ⟨sr4,True.intro⟩)
    | _=>exact (show False from fr).elim
   | rt z=>cases fv with
    | rt v=>exact (show D.at (FlV.rt v,σ4) H4 from aJ.here (b:=(FlV.rt v,σ4)) st4.hr p4 ⟨sr4,fr⟩)
    | _=>exact (show False from fr).elim
  ·rw [List.drop_eq_nil_of_le (by omega),b_] at p'
   exact .inl ⟨io.stop i μ' S' H' st' ok' (by omega),p'.here (b:=(FlV.nx,σ')) st'.hr ⟨sr',True.intro⟩⟩⟩⟩
end
open Classical in
noncomputable def eK (g:XG) (t:XT) (e:XE) (n:Nat) (gd:Option (Nat×Ob)):List Vl→List D→Nv→Sto→R (List D)
 | [],acc,_,S=>if S[n]?=some (.lst acc) then .ok acc S else .bad
 | z :: zs,acc,τ,S=>(g z τ S).bind fun τ1 S1=>(t τ1 S1).bind fun b S2=>if b=true then (e τ1 S2).bind fun v S3=>(match v with
   | .d x=>if S3[n]?=some (.lst acc)∧gok gd (S3.set n (.lst (acc++[x]))) then eK g t e n gd zs (acc++[x]) τ1 (S3.set n (.lst (acc++[x]))) else .bad
   | _=>.bad)
  else if gok gd S2 then eK g t e n gd zs acc τ1 S2 else .bad
def jJ (n:Nat) (acc:List D) (S:Sto):R Vl:=.ok (.d (.lst acc)) (if S.length=n+1 then S.take n else S.set n .dead)
noncomputable def tw (fin:Nat→List D→Sto→R Vl) (it:XI) (k:Nat) (g:XG) (t:XT) (e:XE):XE:=fun τ S=>(it τ S).bind fun I S1=>(eK g t e S1.length I.gd I.items [] (List.replicate k none++τ) (S1++[.lst []])).bind fun acc S2=>fin S1.length acc S2
noncomputable abbrev xLC:XI→Nat→XG→XT→XE→XE:=tw jJ
def oS (fin:Nat→List D→Sto→R Vl):Prop:=∀ (K:PySem.W.Frag) (mg:Str→Option Value) (WE:WX) (μ μ':Nat→Addr) (S S':Sto) (H H':Hp) (acc:List D) (D:Addr) (Q:VK),Step μ S H μ' S' H'→S'[S.length]?=some (.lst acc)→μ' S.length=D→aJ (aM K mg) WE μ S H (fin S.length acc S') Q→Q (.ref D) H'
theorem fg:oS jJ:=by
 intro K mg WE μ μ' S S' H H' acc D Q st e hD p
 obtain ⟨vs,h,rs⟩:=st.hr.ob _ _ e
 have hn:S.length < S'.length:=(List.getElem?_eq_some_iff.mp e).1
 unfold jJ at p
 by_cases hl:S'.length=S.length+1
 ·rw [if_pos hl] at p
  refine p _ _ _ st.take (Rep.lst (vs:=vs) (bx (by rw [← hD];exact h) ?_) (rs.mono dy))
  rintro ⟨m,u,e2,d2,q⟩
  obtain ⟨hm,e3⟩:=cy e2
  have:=st.hr.inj m S.length u _ e3 e d2 (by simp) (by rw [q,hD])
  omega
 ·rw [if_neg hl] at p
  obtain ⟨st2,na⟩:=Step.freeze st.hr e (by simp)
  refine p _ _ _ (st.trans st2) (Rep.lst (vs:=vs) (bx (by rw [← hD];exact h) (by rw [← hD];exact na)) (rs.mono st2.vis))
section
variable {X:Cx} {WE:WX} {tg elt iter:Expr} {ifs:List Expr} {scope:Scope} {pos:Pos} {it:XI} {g:XG} {t:XT} {e:XE} {N:List Str} {k:Nat} {fin:Nat→List D→Sto→R Vl}
theorem vi:RTs X WE [] (fun _ S=>.ok true S):=⟨fun pins s σ H Q I ⟨μ,S,τ,hr,sr,p⟩=>ve pins s σ H Q I (p.here hr rfl)⟩
theorem vv {c:Expr} (h:RT X WE c t):RTs X WE [c] t:=⟨u7 h.h⟩
theorem aJ.pM {α β γ δ:Type} {Rl:(Nat→Addr)→Sto→Hp→β→α→Prop} {Rl2:(Nat→Addr)→Sto→Hp→δ→γ→Prop} {μ μ1:Nat→Addr} {S S1:Sto} {H H1:Hp} {res:R α} {Q:β→Hp→Prop} {Q2:δ→Hp→Prop} {f:α→Sto→R γ}
  (h:aJ Rl2 WE μ S H (res.bind f) Q2) (a:Step μ S H μ1 S1 H1) (kk:∀ b x S2 μ2 H2,Step μ1 S1 H1 μ2 S2 H2→Rl μ2 S2 H2 b x→aJ Rl2 WE μ S H (f x S2) Q2→Q b H2):aJ Rl WE μ1 S1 H1 res Q:=by
 cases res with
 | ok x S'=>exact fun b μ' H' st r=>kk b x S' μ' H' st r h
 | ex c xs S'=>exact fun μ' H' st=>h μ' H' (a.trans st)
 | bad=>exact h
open Classical in
theorem z_ (hfin:oS fin) {σ:St} {H:Hp} {Q:VK} (h:trE X.K X.mg WE (tw fin it k g t e) σ H Q):tLC (trI X.K X.mg WE it) (trG X.K X.mg WE g) (trT X.K X.mg WE t) (trE X.K X.mg WE e) k σ H Q:=by
 obtain ⟨μ,S,τ,hr,sr,p⟩:=h
 refine ⟨μ,S,τ,hr,sr,p.bind fun J I S1 μ1 H1 st1 io p1=>fun D hD=>?_⟩
 have st0:Step μ1 S1 H1 (ext μ1 S1.length D) (S1++[.lst []]) (upd H1 D (.lst [])):=Step.alloc st1.hr hD (ob:=.lst []) ⟨[],rfl,.nil⟩
 have hlen:(S1++[Ob.lst []]).length=S1.length+1:=by simp
 refine ⟨fun i j σ' H'=>∃ μ' S' τ' acc,Step (ext μ1 S1.length D) (S1++[.lst []]) (upd H1 D (.lst [])) μ' S' H'∧bK X.K X.mg μ' S' H' σ' τ'∧I.ok S'∧j+i=I.items.length∧acc.length≤i ∧
   aJ (aM X.K X.mg) WE μ1 S1 H1 ((eK g t e S1.length I.gd (I.items.drop i) acc τ' S').bind fun acc S2=>fin S1.length acc S2) Q,
  ⟨I.items.length,_,_,_,[],Step.refl st0.hr,((sr.step st1).step st0).pre k,?_,by simp,Nat.le_refl _,p1⟩,?_⟩
 ·have ok:=io.ok
  unfold Its.ok at ok ⊢
  split
  ·trivial
  ·rename_i n o hg
   rw [hg] at ok
   have hn:n < S1.length:=(List.getElem?_eq_some_iff.mp ok).1
   rw [List.getElem?_append_left hn];exact ok
 rintro i j σ' H' ⟨μ',S',τ',acc,st',sr',ok',hj,hacc,p'⟩
 have stA:=st0.trans st'
 have hn:S1.length < S'.length:=by have:=st'.le;omega
 have hμ:μ' S1.length=D:=by rw [st'.ag S1.length (by omega),cC]
 by_cases hlt:i < I.items.length
 ·have hz:I.items[i]?=some I.items[i]:=List.getElem?_eq_getElem hlt
  rw [List.drop_eq_getElem_cons hlt,eK] at p'
  refine .inr ⟨io.go i _ μ' S' H' stA ok' hz,_,fun σ2 H2 n=>⟨I.items.length - (i+1),by omega,n⟩,fun x H2 y=>?_⟩
  obtain ⟨st2,rx⟩:=io.yld i _ μ' S' H' x H2 stA ok' hz y
  have bb:∀ {α β γ:Type} (r:R α) (f:α→Sto→R β) (f':β→Sto→R γ),(r.bind f).bind f'=r.bind fun a S=>(f a S).bind f':=fun r f f'=>by cases r<;>rfl
  simp only [bb] at p'
  refine ⟨μ',S',τ',_,st2.hr,sr'.step st2,rx,p'.pM (stA.trans st2) fun σ3 τ3 S3 μ3 H3 st3 sr3 p3=>?_⟩
  refine ⟨μ3,S3,τ3,st3.hr,sr3,p3.pM (stA.trans (st2.trans st3)) fun b b' S4 μ4 H4 st4 r4 p4=>?_⟩
  cases (show b=b' from r4)
  have st24:=st2.trans (st3.trans st4)
  by_cases hb:b=true
  ·rw [if_pos hb] at p4 ⊢
   rw [bb] at p4
   refine ⟨μ4,S4,τ3,st4.hr,sr3.step st4,p4.pM (stA.trans st24) fun v z S5 μ5 H5 st5 r5 p5=>?_⟩
   have st25:=st24.trans st5
   cases z with
   | d x=>
    try dsimp only at p5
    by_cases hif:S5[S1.length]?=some (.lst acc)∧gok I.gd (S5.set S1.length (.lst (acc++[x])))
    ·rw [if_pos hif] at p5
     obtain ⟨vs,h5,rs⟩:=st5.hr.ob _ _ hif.1
     have hμ5:μ5 S1.length=D:=by rw [st25.ag S1.length (by omega)];exact hμ
     rw [hμ5] at h5
     have sp:Step μ5 S5 H5 μ5 (S5.set S1.length (.lst (acc++[x]))) (upd H5 (μ5 S1.length) (.lst (vs++[v]))):=Step.put st5.hr hif.1 (by simp) (ob:=.lst (acc++[x])) ⟨_,rfl,rs.append (.cons r5 .nil)⟩
     rw [hμ5] at sp
     have lz:=io.len
     have lv:=rs.length
     refine ⟨vs,h5,by omega,μ5,_,τ3,acc++[x],st'.trans (st25.trans sp),(sr3.step (st4.trans st5)).step sp,hif.2,by omega,by simp;omega,p5⟩
    ·rw [if_neg hif] at p5
     exact p5.elim
   | _=>exact p5.elim
  ·rw [if_neg hb] at p4 ⊢
   by_cases hif:gok I.gd S4
   ·rw [if_pos hif] at p4
    exact ⟨μ4,S4,τ3,acc,st'.trans st24,sr3.step st4,hif,by omega,by omega,p4⟩
   ·rw [if_neg hif] at p4
    exact p4.elim
 ·rw [List.drop_eq_nil_of_le (by omega),eK] at p'
  refine .inl ⟨io.stop i μ' S' H' stA ok' (by omega),?_⟩
  by_cases hif:S'[S1.length]?=some (.lst acc)
  ·rw [if_pos hif] at p'
   exact hfin X.K X.mg WE μ1 μ' S1 S' H1 H' acc D Q stA hif hμ p'
  ·rw [if_neg hif] at p'
   exact p'.elim
theorem rt0:∀ C s H fp,RTs (cv X scope N C s H fp) WE [] (fun _ S=>.ok true S):=fun _ _ _ _=>vi
theorem gp {esc:Scope} {EN:List Str} (hfin:oS fin) (N:List Str) (q:LQ esc EN) (hi:RI X WE tg iter it) (hg:∀ C s H fp,LQ scope N→RG (cv X scope N C s H fp) WE tg g) (ht:∀ C s H fp,RTs (cv X scope N C s H fp) WE ifs t) (he:∀ C s H fp,RE (cv X scope N C s H fp) WE elt e) (hd:N.Nodup:=by decide +kernel)
  (Sc:eV esc scope EN N k:=by exact ⟨rfl,by decide +kernel,by decide +kernel,by decide +kernel,by decide +kernel,by decide +kernel⟩) (h1:X.env.scope=esc:=by exact rfl) (h2:X.N=EN:=by exact rfl) (hc:X.calm=true:=by exact rfl) (hs:∀ x,foldedSetIterable iter X.env x=pure x:=by intro _;rfl):RE X WE (.ListComp elt [⟨tg,iter,ifs,0⟩] scope pos) (tw fin it k g t e):=
 ⟨(Ai hc Sc h1 h2 hi.h (fun C s H fp=>(hg C s H fp ⟨hd⟩).h) (fun C s H fp=>(ht C s H fp).h) (fun C s H fp=>(he C s H fp).h) hs).weak fun σ H Q h=>z_ (X:=X) hfin h⟩
end
def cU (x:Vl) (S:Sto):Option (List D):=match x with
 | .d (.lst xs)=>some xs
 | .r n=>(match S[n]? with
  | some (.lst xs)=>some xs
  | _=>none)
 | _=>none
def bU (x:Vl) (S:Sto):Option (List D):=match x with
 | .d (.tup xs)=>some xs
 | x=>cU x S
section
variable {K:PySem.W.Frag} {mg:Str→Option Value} {μ:Nat→Addr} {S:Sto} {H:Hp} {v:V} {x:Vl} {ds:List D} {WE:WX} {Q:VK}
theorem dU (hr:HR μ S H) (r:aM K mg μ S H v x) (e:cU x S=some ds):∃ a vs,v=.ref a∧H a=some (.lst vs)∧aq (vh μ S H) vs ds:=by
 unfold cU at e
 split at e
 ·cases e
  cases (show Rep (vh μ S H) v (.lst _) from r) with
  | lst h rs=>exact ⟨_,_,rfl,(aG h).2,rs⟩
 ·split at e
  ·rename_i q
   cases e
   obtain ⟨rfl,hn⟩:=r
   obtain ⟨vs,h,rs⟩:=hr.ob _ _ q
   exact ⟨_,vs,rfl,h,rs⟩
  ·cases e
 ·cases e
theorem fb (hr:HR μ S H) (r:aM K mg μ S H v x) (e:bU x S=some ds):∃ a vs,v=.ref a∧(H a=some (.lst vs)∨H a=some (.tup vs))∧aq (vh μ S H) vs ds:=by
 unfold bU at e
 split at e
 ·cases e
  cases (show Rep (vh μ S H) v (.tup _) from r) with
  | tup h rs=>exact ⟨_,_,rfl,.inr (aG h).2,rs⟩
 ·obtain ⟨a,vs,e1,e2,e3⟩:=dU hr r e
  exact ⟨a,vs,e1,.inl e2,e3⟩
theorem gb {a:Addr} {vs:List V} (h:H a=some (.lst vs)∨H a=some (.tup vs)):fu H a=some vs:=h.elim yN yk
theorem aV {i:Int} (r:aM K mg μ S H v (.d (.int i))):v=.int i:=by cases (show Rep (vh μ S H) v (.int i) from r);rfl
theorem jC {i:Bool} (r:aM K mg μ S H v (.d (.bl i))):v=.bl i:=by cases (show Rep (vh μ S H) v (.bl i) from r);rfl
theorem eF {i:Str} (r:aM K mg μ S H v (.d (.str i))):v=.str i:=by cases (show Rep (vh μ S H) v (.str i) from r);rfl
theorem cZ (r:aM K mg μ S H v (.d .non)):v=.non:=by cases (show Rep (vh μ S H) v .non from r);rfl
theorem gg (r:aM K mg μ S H v (.d (.tup ds))):∃ a vs,v=.ref a∧H a=some (.tup vs)∧vh μ S H a=some (.tup vs)∧aq (vh μ S H) vs ds:=by
 cases (show Rep (vh μ S H) v (.tup _) from r) with
 | tup h rs=>exact ⟨_,_,rfl,(aG h).2,h,rs⟩
end
def oI (C:Int→Int→Prop) [∀ i j,Decidable (C i j)] (f:Int→Int→D) (x y:Vl) (S:Sto):R Vl:=match x,y with
 | .d (.int i),.d (.int j)=>if C i j then .ok (.d (f i j)) S else .bad
 | _,_=>.bad
def oI0 (f:Int→Int→D) (x y:Vl) (S:Sto):R Vl:=match x,y with
 | .d (.int i),.d (.int j)=>.ok (.d (f i j)) S
 | _,_=>.bad
section
variable {K:PySem.W.Frag} {mg:Str→Option Value}
theorem bG {C:Int→Int→Prop} [∀ i j,Decidable (C i j)] (f:Int→Int→Int):cw K mg (rI C fun i j=>V.int (f i j)) (oI C fun i j=>D.int (f i j)):=by
 intro WE μ S H v w x y Q hr rx ry p
 unfold oI at p
 split at p
 ·split at p
  ·exact ⟨_,_,aV rx,aV ry,‹_›,p.here hr (Rep.int _)⟩
  ·exact p.elim
 ·exact p.elim
theorem da (f:Int→Int→Int):cw K mg (rI0 fun i j=>V.int (f i j)) (oI0 fun i j=>D.int (f i j)):=by
 intro WE μ S H v w x y Q hr rx ry p
 unfold oI0 at p
 split at p
 ·exact ⟨_,_,aV rx,aV ry,p.here hr (Rep.int _)⟩
 ·exact p.elim
theorem bB (f:Int→Int→Bool):cw K mg (rI0 fun i j=>V.bl (f i j)) (oI0 fun i j=>D.bl (f i j)):=by
 intro WE μ S H v w x y Q hr rx ry p
 unfold oI0 at p
 split at p
 ·exact ⟨_,_,aV rx,aV ry,p.here hr (Rep.bl _)⟩
 ·exact p.elim
end
instance (i j:Int):Decidable (gz i j):=by unfold gz;infer_instance
instance (i j:Int):Decidable (kn i j):=by unfold kn;infer_instance
instance (i j:Int):Decidable (kd i j):=by unfold kd;infer_instance
abbrev c9:=oI0 fun i j=>D.int (i - j)
abbrev fc:=oI gz fun i j=>D.int (i * j)
abbrev oMod:=oI (fun _ j=>0 < j) fun i j=>D.int (i % j)
abbrev oDiv:=oI kn fun i j=>D.int (i / j)
abbrev jv:=oI kd fun i j=>D.int (i ^ j.toNat)
abbrev oLt:=oI0 fun i j=>D.bl (decide (i < j))
abbrev oLe:=oI0 fun i j=>D.bl (decide (i≤j))
abbrev oGt:=oI0 fun i j=>D.bl (decide (j < i))
abbrev oGe:=oI0 fun i j=>D.bl (decide (j≤i))
def c8 (x:Vl) (S:Sto):R Vl:=match x with
 | .d (.int i)=>.ok (.d (.int (-i))) S
 | _=>.bad
def aP (x y:Vl) (S:Sto):R Vl:=match x,y with
 | .d (.int i),.d (.int j)=>.ok (.d (.int (i+j))) S
 | .d (.tup a),.d (.tup b)=>if a.length+b.length≤100000 then .ok (.d (.tup (a++b))) S else .bad
 | .d (.str a),.d (.str b)=>if a.length+b.length≤100000 then .ok (.d (.str (a++b))) S else .bad
 | x,y=>(match cU x S,cU y S with
  | some a,some b=>if a.length+b.length≤100000 then .ok (.d (.lst (a++b))) S else .bad
  | _,_=>.bad)
def eqD (x y:Vl) (S:Sto):Option Bool:=match x,y with
 | .d .non,.d .non=>some true
 | .d .non,.d (.int _)=>some false
 | .d .non,.d (.str _)=>some false
 | .d (.int _),.d .non=>some false
 | .d (.str _),.d .non=>some false
 | .d (.int i),.d (.int j)=>some (decide (i=j))
 | .d (.bl i),.d (.bl j)=>some (decide (i=j))
 | .d (.str i),.d (.str j)=>some (decide (i=j))
 | .d (.int _),.d (.str _)=>some false
 | .d (.str _),.d (.int _)=>some false
 | .d (.tup a),.d (.tup b)=>if D.depth (.tup a)≤50 then some (D.bt a b) else none
 | x,y=>(match cU x S,cU y S with
  | some a,some b=>if D.depth (.lst a)≤50 then some (D.bt a b) else none
  | _,_=>none)
def oEq (x y:Vl) (S:Sto):R Vl:=match eqD x y S with
 | some b=>.ok (.d (.bl b)) S
 | none=>.bad
def oNe (x y:Vl) (S:Sto):R Vl:=match eqD x y S with
 | some b=>.ok (.d (.bl (!b))) S
 | none=>.bad
def oIs (x y:Vl) (S:Sto):R Vl:=match x,y with
 | .d (.bl a),.d (.bl b)=>.ok (.d (.bl (a == b))) S
 | .d .non,.d .non=>.ok (.d (.bl true)) S
 | .fn _,_=>.bad
 | .sc _,_=>.bad
 | _,.d .non=>.ok (.d (.bl false)) S
 | _,_=>.bad
def lG (x y:Vl) (S:Sto):R Vl:=match x,y with
 | .d (.bl a),.d (.bl b)=>.ok (.d (.bl (a != b))) S
 | .d .non,.d .non=>.ok (.d (.bl false)) S
 | .fn _,_=>.bad
 | .sc _,_=>.bad
 | _,.d .non=>.ok (.d (.bl true)) S
 | _,_=>.bad
section
variable {K:PySem.W.Frag} {mg:Str→Option Value}
theorem cY:ze K mg (rU fun i=>.int (-i)) c8:=by
 intro WE μ S H v x Q hr rx p
 unfold c8 at p
 split at p
 ·exact ⟨_,aV rx,p.here hr (Rep.int _)⟩
 ·exact p.elim
def uy:R2:=fun x y H Q=>uw x y H Q∨∃ i j,x=.str i∧y=.str j∧i.length+j.length≤sizeLine∧Q (.str (i++j)) H
theorem aF {X:Cx}:OpR X (binaryOp .Add) uy:=wa.or pF
theorem aE:cw K mg uy aP:=by
 intro WE μ S H v w x y Q hr rx ry p
 unfold aP at p
 split at p
 ·exact .inl (.inl ⟨_,_,aV rx,aV ry,p.here hr (Rep.int _)⟩)
 ·split at p
  ·rename_i a b hl
   obtain ⟨p1,us,rfl,h1,g1,r1⟩:=gg rx
   obtain ⟨p2,ws,rfl,h2,g2,r2⟩:=gg ry
   have l1:=r1.length
   have l2:=r2.length
   refine .inl (.inr ⟨p1,p2,rfl,rfl,.inl ⟨us,ws,h1,h2,jt (by omega),fun e=>?_,fun _ e=>?_,fun _ _ q hq=>p.mK hr (r1.append r2) q hq⟩⟩)
   ·subst e
    have:a=[]:=List.eq_nil_of_length_eq_zero l1.symm
    subst this
    exact p.here hr (Rep.tup g2 r2)
   ·subst e
    have:b=[]:=List.eq_nil_of_length_eq_zero l2.symm
    subst this
    rw [List.append_nil] at p
    exact p.here hr (Rep.tup g1 r1)
  ·exact p.elim
 ·split at p
  ·exact .inr ⟨_,_,eF rx,eF ry,jt ‹_›,p.here hr (Rep.str _)⟩
  ·exact p.elim
 ·split at p
  ·rename_i a b e1 e2
   split at p
   ·obtain ⟨p1,us,rfl,h1,r1⟩:=dU hr rx e1
    obtain ⟨p2,ws,rfl,h2,r2⟩:=dU hr ry e2
    have l1:=r1.length
    have l2:=r2.length
    exact .inl (.inr ⟨p1,p2,rfl,rfl,.inr ⟨us,ws,h1,h2,jt (by omega),fun q hq=>p.gP hr (r1.append r2) q hq⟩⟩)
   ·exact p.elim
  ·exact p.elim
theorem uj {μ:Nat→Addr} {S:Sto} {H:Hp} {v w:V} {x y:Vl} {b:Bool} (hr:HR μ S H) (rx:aM K mg μ S H v x) (ry:aM K mg μ S H w y) (e:eqD x y S=some b) :
  (rS v w=true∧decide (v=w)=b)∨∃ d e,Rep H v d∧Rep H w e∧D.depth d≤50∧((∃ ds es,d=.tup ds∧e=.tup es)∨∃ ds es,d=.lst ds∧e=.lst es)∧D.eqv d e=b:=by
 unfold eqD at e
 split at e
 ·cases e;rw [cZ rx,cZ ry];exact .inl ⟨rfl,by decide⟩
 ·cases e;rw [cZ rx,aV ry];exact .inl ⟨rfl,by simp⟩
 ·cases e;rw [cZ rx,eF ry];exact .inl ⟨rfl,by simp⟩
 ·cases e;rw [aV rx,cZ ry];exact .inl ⟨rfl,by simp⟩
 ·cases e;rw [eF rx,cZ ry];exact .inl ⟨rfl,by simp⟩
 ·cases e;rw [aV rx,aV ry];exact .inl ⟨rfl,by simp only [V.int.injEq]⟩
 ·cases e;rw [jC rx,jC ry];exact .inl ⟨rfl,by simp only [V.bl.injEq]⟩
 ·cases e;rw [eF rx,eF ry];exact .inl ⟨rfl,by simp only [V.str.injEq]⟩
 ·cases e;rw [aV rx,eF ry];exact .inl ⟨rfl,by simp⟩
 ·cases e;rw [eF rx,aV ry];exact .inl ⟨rfl,by simp⟩
 ·split at e
  ·cases e
   refine .inr ⟨_,_,Rep.mono eM rx,Rep.mono eM ry,‹_›,.inl ⟨_,_,rfl,rfl⟩,?_⟩
   simp only [D.eqv]
  ·cases e
 ·split at e
  ·rename_i a b e1 e2
   split at e
   ·cases e
    obtain ⟨p1,us,rfl,h1,r1⟩:=dU hr rx e1
    obtain ⟨p2,ws,rfl,h2,r2⟩:=dU hr ry e2
    refine .inr ⟨.lst a,.lst b,.lst h1 (r1.mono eM),.lst h2 (r2.mono eM),‹_›,.inr ⟨_,_,rfl,rfl⟩,?_⟩
    simp only [D.eqv]
   ·cases e
  ·cases e
theorem el:cw K mg y9 oEq:=by
 intro WE μ S H v w x y Q hr rx ry p
 unfold oEq at p
 split at p
 ·rename_i b e
  have q:=p.here hr (Rep.bl b)
  rcases uj hr rx ry e with ⟨h1,h2⟩ | ⟨d,d',h1,h2,h3,h4,h5⟩
  ·exact .inl ⟨h1,by rw [h2];exact q⟩
  ·exact .inr ⟨d,d',h1,h2,h3,h4,by rw [h5];exact q⟩
 ·exact p.elim
theorem fe:cw K mg ye oNe:=by
 intro WE μ S H v w x y Q hr rx ry p
 unfold oNe at p
 split at p
 ·rename_i b e
  have q:=p.here hr (Rep.bl (!b))
  rcases uj hr rx ry e with ⟨h1,h2⟩ | ⟨d,d',h1,h2,h3,h4,h5⟩
  ·exact .inl ⟨h1,by rw [h2];exact q⟩
  ·exact .inr ⟨d,d',h1,h2,h3,h4,by rw [h5];exact q⟩
 ·exact p.elim
theorem vG {μ:Nat→Addr} {S:Sto} {H:Hp} {v:V} {x:Vl} (r:aM K mg μ S H v x) (h1:x≠.d .non):v≠.non:=by
 rintro rfl
 cases x with
 | d x=>cases (show Rep (vh μ S H) .non x from r);exact h1 rfl
 | r n=>obtain ⟨e,_⟩:=r;cases e
 | fd kvs=>obtain ⟨_,_,_,e,_⟩:=r;cases e
 | pr x n=>obtain ⟨_,_,e,_⟩:=r;cases e
 | fn x=>obtain ⟨_,_,e⟩:=r;cases e
 | sc ns=>obtain ⟨_,e,_⟩:=r;cases e
 | xc c xs=>obtain ⟨_,_,e,_⟩:=r;cases e
theorem m9:cw K mg xX oIs:=by
 intro WE μ S H v w x y Q hr rx ry p
 unfold oIs at p
 split at p
 ·rw [jC rx,jC ry];exact .inl ⟨_,_,rfl,rfl,p.here hr (Rep.bl _)⟩
 ·rw [cZ rx,cZ ry];exact .inr ⟨rfl,by rw [decide_eq_true rfl];exact p.here hr (Rep.bl _)⟩
 ·exact p.elim
 ·exact p.elim
 ·rename_i h _ _
  rw [cZ ry]
  exact .inr ⟨rfl,by rw [decide_eq_false (vG rx h)];exact p.here hr (Rep.bl _)⟩
 ·exact p.elim
end
def D.flat:D→Bool
 | .tup _=>false
 | .lst _=>false
 | _=>true
def inD (x:D) (ds:List D):Bool:=ds.any fun e=>D.eqv e x
def inX (x y:Vl) (S:Sto):Option Bool:=match x with
 | .d x=>(match bU y S with
  | some ds=>if (D.flat x && ds.all D.flat)=true then some (inD x ds) else (match cU y S with
   | some ds=>if D.bN ds≤50 then some (inD x ds) else none
   | none=>none)
  | none=>none)
 | _=>none
def oIn (x y:Vl) (S:Sto):R Vl:=match inX x y S with
 | some b=>.ok (.d (.bl b)) S
 | none=>.bad
def dI (x y:Vl) (S:Sto):R Vl:=match inX x y S with
 | some b=>.ok (.d (.bl (!b))) S
 | none=>.bad
def oIx (x y:Vl) (S:Sto):R Vl:=match y with
 | .d (.int i)=>(match bU x S with
  | some ds=>(match atI ds i with
   | some z=>.ok (.d z) S
   | none=>.bad)
  | none=>.bad)
 | _=>.bad
def cx (xs:List D) (lo hi:Option Int):List D:=(xs.drop (HT.sIx xs.length 0 lo)).take (HT.sIx xs.length xs.length hi - HT.sIx xs.length 0 lo)
def oSl (x:Vl) (lo hi:Option Int) (S:Sto):R Vl:=match x with
 | .d (.tup xs)=>.ok (.d (.tup (cx xs lo hi))) S
 | x=>(match cU x S with
  | some xs=>.ok (.d (.lst (cx xs lo hi))) S
  | none=>.bad)
def kq (x y:Vl) (S:Sto):R Vl:=match x,y with
 | .d (.tup xs),.d (.int i)=>if i=-1 then .ok (.d (.tup xs.reverse)) S else .bad
 | _,_=>.bad
section
variable {K:PySem.W.Frag} {mg:Str→Option Value}
theorem mh {H:Hp} {v:V} {d:D} (r:Rep H v d) (h:D.flat d=true):dj v=true:=by cases r<;>first | rfl | cases h
theorem wF {H:Hp} {v w:V} {d e:D} (r:Rep H v d) (q:Rep H w e) (h:D.flat d=true) (h':D.flat e=true):eqV v w=D.eqv d e:=by
  cases r<;>cases q<;>first | rfl | cases h | cases h' | simp [eqV,D.eqv]
theorem kC {H:Hp}:∀ {vs:List V} {ds:List D},aq H vs ds→ds.all D.flat=true→vs.all dj=true
 | _,_,.nil,_=>rfl
 | _,_,.cons r t,h=>by
  rw [List.all_cons,Bool.and_eq_true] at h ⊢
  exact ⟨mh r h.1,kC t h.2⟩
theorem qo {H:Hp} {v:V} {d:D} (r:Rep H v d) (h:D.flat d=true):∀ {vs:List V} {ds:List D},aq H vs ds→ds.all D.flat=true→inV v vs=inD d ds
 | _,_,.nil,_=>rfl
 | _,_,.cons q t,h'=>by
  rw [List.all_cons,Bool.and_eq_true] at h'
  have ih:=qo r h t h'.2
  unfold inV inD at ih ⊢
  rw [List.any_cons,List.any_cons,wF q r h'.1 h,ih]
def lM (neg:Bool):R2:=fun x y H Q=>t5 neg x y H Q∨sk neg x y H Q
theorem in_of {μ:Nat→Addr} {S:Sto} {H:Hp} {v w:V} {x y:Vl} {b neg:Bool} {Q:VK} (hr:HR μ S H) (rx:aM K mg μ S H v x) (ry:aM K mg μ S H w y) (e:inX x y S=some b) (q:Q (.bl (if neg then !b else b)) H):lM neg v w H Q:=by
 unfold inX at e
 split at e
 ·rename_i x
  split at e
  ·rename_i ds e1
   obtain ⟨a,vs,rfl,ha,rs⟩:=fb hr ry e1
   split at e
   ·rename_i hf
    rw [Bool.and_eq_true] at hf
    cases e
    refine .inl ⟨a,vs,rfl,gb ha,mh rx hf.1,kC rs hf.2,?_⟩
    rw [qo rx hf.1 rs hf.2]
    exact q
   ·split at e
    ·rename_i ds e2
     split at e
     ·cases e
      obtain ⟨a',vs',e3,ha',rs'⟩:=dU hr ry e2
      cases e3
      exact .inr ⟨_,vs',x,_,rfl,ha',rs'.mono eM,Rep.mono eM rx,‹_›,q⟩
     ·cases e
    ·cases e
  ·cases e
 ·cases e
theorem wD {X:Cx} (hu:X.A.units+64 < cLine):OpR X (compareOp .In) (lM false):=zx.or (wY hu)
theorem kj {X:Cx} (hu:X.A.units+64 < cLine):OpR X (compareOp .NotIn) (lM true):=qW.or (qD hu)
theorem wK:cw K mg (lM false) oIn:=by
 intro WE μ S H v w x y Q hr rx ry p
 unfold oIn at p
 split at p
 ·rename_i b e
  exact in_of hr rx ry e (p.here hr (Rep.bl b))
 ·exact p.elim
theorem j_:cw K mg (lM true) dI:=by
 intro WE μ S H v w x y Q hr rx ry p
 unfold dI at p
 split at p
 ·rename_i b e
  exact in_of hr rx ry e (p.here hr (Rep.bl (!b)))
 ·exact p.elim
theorem tj {H:Hp} {vs:List V} {ds:List D} {i:Int} {z:D} (rs:aq H vs ds) (e:atI ds i=some z):∃ v,atI vs i=some v∧Rep H v z:=by
 unfold atI at e ⊢
 rw [rs.length]
 cases q:ixN ds.length i with
 | none=>rw [q] at e;cases e
 | some j=>
  rw [q] at e
  obtain ⟨v,e1,r⟩:=rs.get' (show ds[j]?=some z from e)
  exact ⟨v,e1,r⟩
theorem zr:cw K mg yh oIx:=by
 intro WE μ S H v w x y Q hr rx ry p
 unfold oIx at p
 split at p
 ·split at p
  ·rename_i ds e1
   obtain ⟨a,vs,rfl,ha,rs⟩:=fb hr rx e1
   split at p
   ·rename_i z e2
    obtain ⟨u,e3,ru⟩:=tj rs e2
    rw [aV ry]
    exact ⟨a,_,vs,u,rfl,rfl,gb ha,e3,p.here hr ru⟩
   ·exact p.elim
  ·exact p.elim
 ·exact p.elim
theorem jm {H:Hp} {vs:List V} {ds:List D} (rs:aq H vs ds) (lo hi:Option Int):aq H (e_ vs lo hi) (cx ds lo hi):=by
 unfold e_ cx
 rw [rs.length]
 exact (rs.drop _).take _
theorem qg {α:Type} {xs:List D} {lo hi:Option Int} (h:fi xs.length lo hi):cx xs lo hi=xs:=by
 unfold cx
 rw [h.1,h.2]
 simp
theorem dY {X:Cx} {WE:WX} {e:Expr} {lo hi:Option Expr} {xa:XE} {xl xh:XO} {p2 pos:Pos} (he:RE X WE e xa) (hl:RO X WE lo xl) (hh:RO X WE hi xh):RE X WE (.Subscript e (.Slice lo hi none p2) pos) (xSl oSl xa xl xh):=
 ⟨(md CD he.h hl.h hh.h).weak fun σ H Q ⟨μ,S,τ,hr,sr,p⟩=>⟨μ,S,τ,hr,sr,p.bind fun v x S1 μ1 H1 st1 r1 p1=>⟨μ1,S1,τ,st1.hr,sr.step st1,p1.bind fun i i' S2 μ2 H2 st2 r2 p2=>⟨μ2,S2,τ,st2.hr,sr.step (st1.trans st2),p2.bind fun j j' S3 μ3 H3 st3 r3 p3=>by
  cases (show i=i' from r2)
  cases (show j=j' from r3)
  have rv:=r1.step (st2.trans st3)
  unfold oSl at p3
  split at p3
  ·rename_i xs
   obtain ⟨a,vs,rfl,h,g,rs⟩:=gg rv
   refine ⟨a,rfl,.inl ⟨vs,h,fun hw=>?_,fun hw q hq=>p3.mK st3.hr (jm rs i j) q hq⟩⟩
   rw [rs.length] at hw
   rw [qg (α:=Unit) hw] at p3
   exact p3.here st3.hr (Rep.tup g rs)
  ·split at p3
   ·rename_i xs e1
    obtain ⟨a,vs,rfl,h,rs⟩:=dU st3.hr rv e1
    exact ⟨a,rfl,.inr ⟨vs,h,fun q hq=>p3.gP st3.hr (jm rs i j) q hq⟩⟩
   ·exact p3.elim⟩⟩⟩⟩
theorem cF {X:Cx} {WE:WX}:RO X WE none bF:=⟨fun pins s σ H Q I ⟨μ,S,τ,hr,sr,p⟩=>uN pins s σ H Q I (p.here hr rfl)⟩
theorem cb {X:Cx} {WE:WX} {e:Expr} {xa:XE} (he:RE X WE e xa):RO X WE (some e) (bW xa):=⟨fun pins s σ H Q I ⟨μ,S,τ,hr,sr,p⟩=>vj he.h pins s σ H Q I ⟨μ,S,τ,hr,sr,p.bind fun v x S1 μ1 H1 st1 r1 p1=>by
 try dsimp only at p1
 split at p1
 ·exact ⟨_,aV r1,p1.here st1.hr rfl⟩
 ·exact p1.elim⟩⟩
theorem bg {X:Cx} {WE:WX} {a b:Expr} {xa xb:XE} {pos:Pos} (ha:RE X WE a xa) (hb:RE X WE b xb) (hs:nR b:=by exact fun _ _=>rfl):RE X WE (.Subscript a b pos) (xOp oIx xa xb):=⟨(zU CC ha.h hb.h hs).weak fun _ _ _ h=>two (X:=X) zr h⟩
theorem rL {X:Cx} {WE:WX} {e st:Expr} {xa xb:XE} {p2 pos:Pos} (he:RE X WE e xa) (hs:RE X WE st xb):RE X WE (.Subscript e (.Slice none none (some st) p2) pos) (xOp kq xa xb):=
 ⟨(vJ he.h hs.h).weak fun σ H Q ⟨μ,S,τ,hr,sr,p⟩=>⟨μ,S,τ,hr,sr,p.bind fun v x S1 μ1 H1 st1 r1 p1=>⟨μ1,S1,τ,st1.hr,sr.step st1,p1.bind fun w y S2 μ2 H2 st2 r2 p2=>by
  have rv:=r1.step st2
  unfold kq at p2
  split at p2
  ·split at p2
   ·rename_i hi
    obtain ⟨a,vs,rfl,h,g,rs⟩:=gg rv
    exact ⟨a,vs,rfl,by rw [aV r2,hi],h,fun q hq=>p2.mK st2.hr rs.reverse q hq⟩
   ·exact p2.elim
  ·exact p2.elim⟩⟩⟩
end
def dA:List D→Option (List Bool)
 | []=>some []
 | .bl b :: r=>(dA r).map (b :: ·)
 | _=>none
def intsOf:List D→Option (List Int)
 | []=>some []
 | .int b :: r=>(intsOf r).map (b :: ·)
 | _=>none
theorem gS:∀ {ds:List D} {bs:List Bool},dA ds=some bs→ds=bs.map D.bl
 | [],_,e=>by simp [dA] at e;subst e;rfl
 | d :: ds,bs,e=>by
  cases d with
  | bl b=>
   simp only [dA,Option.map_eq_some_iff] at e
   obtain ⟨cs,e1,rfl⟩:=e
   rw [gS e1];rfl
  | _=>simp [dA] at e
theorem iF:∀ {ds:List D} {bs:List Int},intsOf ds=some bs→ds=bs.map D.int
 | [],_,e=>by simp [intsOf] at e;subst e;rfl
 | d :: ds,bs,e=>by
  cases d with
  | int b=>
   simp only [intsOf,Option.map_eq_some_iff] at e
   obtain ⟨cs,e1,rfl⟩:=e
   rw [iF e1];rfl
  | _=>simp [intsOf] at e
theorem gH:∀ bs:List Int,intsOf (bs.map D.int)=some bs
 | []=>rfl
 | b :: bs=>by simp [intsOf,gH bs]
theorem aq.jG {H:Hp}:∀ {vs:List V} {ns:List Bool},aq H vs (ns.map D.bl)→vs=ns.map V.bl
 | [],[],.nil=>rfl
 | v :: vs,n :: ns,.cons r t=>by
  cases r
  rw [List.map_cons,aq.jG t]
def insI (x:Int):List Int→List Int
 | []=>[x]
 | y :: ys=>if x≤y then x :: y :: ys else y :: insI x ys
def sortI:List Int→List Int
 | []=>[]
 | x :: xs=>insI x (sortI xs)
theorem insI_perm (x:Int):∀ ys,(insI x ys).Perm (x :: ys)
 | []=>.refl _
 | y :: ys=>by
  unfold insI
  split
  ·exact .refl _
  ·exact ((insI_perm x ys).cons y).trans (.swap x y ys)
theorem sortI_perm:∀ xs,(sortI xs).Perm xs
 | []=>.refl _
 | x :: xs=>(insI_perm x _).trans ((sortI_perm xs).cons x)
theorem kO (x:Int):∀ ys:List Int,ys.Pairwise (·≤·)→(insI x ys).Pairwise (·≤·)
 | [],_=>by simp [insI]
 | y :: ys,h=>by
  unfold insI
  split
  ·rename_i hxy
   refine List.pairwise_cons.mpr ⟨fun z hz=>?_,h⟩
   rcases List.mem_cons.mp hz with e | e
   ·omega
   ·have:=(List.pairwise_cons.mp h).1 z e;omega
  ·rename_i hxy
   obtain ⟨h1,h2⟩:=List.pairwise_cons.mp h
   refine List.pairwise_cons.mpr ⟨fun z hz=>?_,kO x ys h2⟩
   rcases List.mem_cons.mp ((insI_perm x ys).mem_iff.mp hz) with e | e
   ·omega
   ·exact h1 z e
theorem gL:∀ xs,(sortI xs).Pairwise (·≤·)
 | []=>.nil
 | x :: xs=>kO x _ (gL xs)
theorem ki:∀ {xs ys:List Int},xs.Perm ys→xs.Pairwise (·≤·)→ys.Pairwise (·≤·)→xs=ys
 | [],ys,h,_,_=>by rw [List.nil_perm.mp h]
 | x :: xs,[],h,_,_=>by simpa using h.length_eq
 | x :: xs,y :: ys,h,h1,h2=>by
  obtain ⟨a1,a2⟩:=List.pairwise_cons.mp h1
  obtain ⟨b1,b2⟩:=List.pairwise_cons.mp h2
  have hx:x∈y :: ys:=h.mem_iff.mp (List.mem_cons_self ..)
  have hy:y∈x :: xs:=h.mem_iff.mpr (List.mem_cons_self ..)
  have e:x=y:=by
   rcases List.mem_cons.mp hx with e | e
   ·exact e
   ·rcases List.mem_cons.mp hy with e' | e'
    ·exact e'.symm
    ·have:=a1 y e';have:=b1 x e;omega
  subst e
  rw [ki (List.Perm.cons_inv h) a2 b2]
theorem lO {xs ys:List Int} (h:ys.Perm xs) (h1:ys.Pairwise (·≤·)):ys=sortI xs:=ki (h.trans (sortI_perm xs).symm) h1 (gL xs)
def br (xs:List Vl) (S:Sto):R Vl:=match xs with
 | [x]=>(match bU x S with
  | some ds=>.ok (.d (.int ds.length)) S
  | none=>.bad)
 | _=>.bad
def fC (xs:List Vl) (S:Sto):R Vl:=match xs with
 | [x]=>(match bU x S with
  | some ds=>.ok (.d (.tup ds)) S
  | none=>.bad)
 | _=>.bad
def dS (xs:List Vl) (S:Sto):R Vl:=match xs with
 | [x]=>(match bU x S with
  | some ds=>.ok (.d (.lst ds)) S
  | none=>.bad)
 | _=>.bad
def iP (xs:List Vl) (S:Sto):R Vl:=match xs with
 | [x]=>(match bU x S with
  | some ds=>.ok (.r S.length) (S++[.lst ds])
  | none=>.bad)
 | _=>.bad
def iO (xs:List Vl) (S:Sto):R Vl:=match xs with
 | [x]=>(match (cU x S).bind dA with
  | some bs=>.ok (.d (.bl (bs.all id))) S
  | none=>.bad)
 | _=>.bad
def pQ (xs:List Vl) (S:Sto):R Vl:=match xs with
 | [.d (.int i),.d (.int j)]=>.ok (.d (.int (if j > i then j else i))) S
 | _=>.bad
def pK (xs:List Vl) (S:Sto):R Vl:=match xs with
 | [.d (.int i),.d (.int j)]=>.ok (.d (.int (if j < i then j else i))) S
 | _=>.bad
section
variable {K:PySem.W.Frag} {mg:Str→Option Value}
theorem bf.one {μ:Nat→Addr} {S:Sto} {H:Hp} {vs:List V} {x:Vl} (r:bf K mg μ S H vs [x]):∃ v,vs=[v]∧aM K mg μ S H v x:=by
 cases r with | cons r t=>cases t;exact ⟨_,rfl,r⟩
theorem bf.two {μ:Nat→Addr} {S:Sto} {H:Hp} {vs:List V} {x y:Vl} (r:bf K mg μ S H vs [x,y]):∃ v w,vs=[v,w]∧aM K mg μ S H v x∧aM K mg μ S H w y:=by
 cases r with | cons r t=>cases t with | cons r' t'=>cases t';exact ⟨_,_,rfl,r,r'⟩
theorem aY:fS K mg uG br:=by
 intro WE μ S H vs xs Q hr rs p
 unfold br at p
 split at p
 ·obtain ⟨v,rfl,r⟩:=rs.one
  split at p
  ·obtain ⟨a,us,rfl,ha,rr⟩:=fb hr r ‹_›
   exact ⟨a,us,rfl,gb ha,by rw [rr.length];exact p.here hr (Rep.int _)⟩
  ·exact p.elim
 ·exact p.elim
theorem gK:fS K mg nG fC:=by
 intro WE μ S H vs xs Q hr rs p
 unfold fC at p
 split at p
 ·rename_i x
  obtain ⟨v,rfl,r⟩:=rs.one
  split at p
  ·rename_i ds e
   unfold bU at e
   split at e
   ·cases e
    obtain ⟨a,us,rfl,h,g,rr⟩:=gg r
    exact ⟨a,rfl,.inr ⟨us,h,p.here hr (Rep.tup g rr)⟩⟩
   ·obtain ⟨a,us,rfl,h,rr⟩:=dU hr r e
    exact ⟨a,rfl,.inl ⟨us,h,fun q hq=>p.mK hr rr q hq⟩⟩
  ·exact p.elim
 ·exact p.elim
theorem ij:fS K mg l8 dS:=by
 intro WE μ S H vs xs Q hr rs p
 unfold dS at p
 split at p
 ·obtain ⟨v,rfl,r⟩:=rs.one
  split at p
  ·obtain ⟨a,us,rfl,ha,rr⟩:=fb hr r ‹_›
   exact ⟨a,us,rfl,gb ha,fun q hq=>p.gP hr rr q hq⟩
  ·exact p.elim
 ·exact p.elim
theorem oX:fS K mg l8 iP:=by
 intro WE μ S H vs xs Q hr rs p
 unfold iP at p
 split at p
 ·obtain ⟨v,rfl,r⟩:=rs.one
  split at p
  ·obtain ⟨a,us,rfl,ha,rr⟩:=fb hr r ‹_›
   exact ⟨a,us,rfl,gb ha,fun q hq=>p.wJ hr rr q hq⟩
  ·exact p.elim
 ·exact p.elim
theorem jk:fS K mg uD iO:=by
 intro WE μ S H vs xs Q hr rs p
 unfold iO at p
 split at p
 ·obtain ⟨v,rfl,r⟩:=rs.one
  split at p
  ·rename_i bs e
   obtain ⟨ds,e1,e2⟩:=Option.bind_eq_some_iff.mp e
   obtain ⟨a,us,rfl,ha,rr⟩:=dU hr r e1
   rw [gS e2] at rr
   rw [aq.jG rr] at ha
   exact ⟨a,bs,rfl,ha,p.here hr (Rep.bl _)⟩
  ·exact p.elim
 ·exact p.elim
theorem su:fS K mg xn pQ:=by
 intro WE μ S H vs xs Q hr rs p
 unfold pQ at p
 split at p
 ·obtain ⟨v,w,rfl,r1,r2⟩:=rs.two
  exact ⟨_,_,by rw [aV r1,aV r2],p.here hr (Rep.int _)⟩
 ·exact p.elim
theorem rO:fS K mg yD pK:=by
 intro WE μ S H vs xs Q hr rs p
 unfold pK at p
 split at p
 ·obtain ⟨v,w,rfl,r1,r2⟩:=rs.two
  exact ⟨_,_,by rw [aV r1,aV r2],p.here hr (Rep.int _)⟩
 ·exact p.elim
end
def bD (T:String) (x:Vl) (S:Sto):R Vl:=match x with
 | .d d=>.ok (.d (.bl (isT T d))) S
 | .r n=>(match S[n]? with
  | some (.lst xs)=>.ok (.d (.bl (isT T (.lst xs)))) S
  | _=>.bad)
 | _=>.bad
section
variable {X:Cx} {WE:WX}
theorem aR {e:Expr} {xa:XE} {nm:Str} {T:String} {p p2 pos:Pos} [n:NS e] (hm:X.mg "isinstance"=none) (hm2:X.mg nm=none) (hv:bootBuiltins nm=some (.type T)) (ha:RE X WE e xa) (hg:Gl X "isinstance":=by exact rfl) (hg2:Gl X nm:=by exact rfl) (ho:okT T=true:=by exact rfl)
  (hn:nm≠"__name__":=by decide) (hd:(nm == ("__debug__":Str))=false:=by decide) (hb:bootBuiltins "isinstance"=some (.builtin "isinstance"):=by decide +kernel)
  (hs2:starEach [.Name nm p2] X.env=(false,eval (.Name nm p2) X.env) :: starEach [] X.env:=by rfl) (hpl:(backTo pos (starEach [.Name nm p2] X.env)).any (·.1)=false:=by rfl) :
  RE X WE (.Call (.Name "isinstance" p) [e,.Name nm p2] [] pos) (xUn (bD T) xa):=
 ⟨(q0 hg hm hg2 hm2 hv ho ha.h hn hd hb (n.eq _ X.env) hs2 hpl).weak fun σ H Q ⟨μ,S,τ,hr,sr,p⟩=>⟨μ,S,τ,hr,sr,p.bind fun v x S1 μ1 H1 st1 r1 p1=>by
  unfold bD at p1
  split at p1
  ·exact ⟨_,Rep.mono eM r1,p1.here st1.hr (Rep.bl _)⟩
  ·split at p1
   ·rename_i e
    obtain ⟨rfl,hn⟩:=r1
    obtain ⟨vs,h,rs⟩:=st1.hr.ob _ _ e
    exact ⟨_,Rep.lst h (rs.mono eM),p1.here st1.hr (Rep.bl _)⟩
   ·exact p1.elim
  ·exact p1.elim⟩⟩
def xLm (f:Nat→List D→D→Sto→R Vl) (o e:XE):XE:=fun τ S=>(o τ S).bind fun x S1=>match x with
 | .r n=>(match S1[n]? with
  | some (.lst _)=>(e τ S1).bind fun y S2=>(match y with
   | .d z=>(match S2[n]? with
    | some (.lst xs)=>f n xs z S2
    | _=>.bad)
   | _=>.bad)
  | _=>.bad)
 | _=>.bad
def ke (n:Nat) (xs:List D) (z:D) (S:Sto):R Vl:=if xs.length < 100000 then .ok (.d .non) (S.set n (.lst (xs++[z]))) else .bad
theorem zl {o e:Expr} {xo xe:XE} {apos cpos:Pos} (ho:RE X WE o xo) (he:RE X WE e xe)
  (hbase:attributeBase o "append" X.env (eval o X.env)=eval o X.env:=by rfl)
  (hfew:((backTo cpos (starEach [e] X.env)).all (fun x=>!x.1) && (backToKw cpos (keywordEach [] X.env)).all (fun x=>x.1.isSome) && decide ([e].length+([]:List Keyword).length+(if ([]:List Keyword).isEmpty then 0 else 1) < 30))=true:=by rfl)
  (hline:(apos.endLine == cpos.line)=true:=by rfl) (hs:starEach [e] X.env=(false,eval e X.env) :: starEach [] X.env:=by rfl):RE X WE (.Call (.Attribute o "append" apos) [e] [] cpos) (xLm ke xo xe):=
 ⟨(wd ho.h he.h hbase hfew hline hs).weak fun σ H Q ⟨μ,S,τ,hr,sr,p⟩=>⟨μ,S,τ,hr,sr,p.bind fun v x S1 μ1 H1 st1 r1 p1=>by
  try dsimp only at p1
  split at p1
  ·rename_i n
   obtain ⟨rfl,hn⟩:=r1
   split at p1
   ·rename_i xs0 e0
    obtain ⟨vs0,h0,_⟩:=st1.hr.ob _ _ e0
    refine ⟨_,vs0,rfl,h0,μ1,S1,τ,st1.hr,sr.step st1,p1.bind fun w y S2 μ2 H2 st2 r2 p2=>?_⟩
    try dsimp only at p2
    split at p2
    ·split at p2
     ·rename_i z _ xs e2
      obtain ⟨vs,h2,rs⟩:=st2.hr.ob _ _ e2
      rw [st2.ag n hn] at h2
      unfold ke at p2
      split at p2
      ·have lv:=rs.length
       have sp:=Step.put st2.hr e2 (by simp) (ob:=.lst (xs++[z])) ⟨_,rfl,rs.append (.cons r2 .nil)⟩
       rw [st2.ag n hn] at sp
       refine ⟨vs,h2,by rw [sizeLine_eq];omega,p2 _ _ _ sp Rep.non⟩
      ·exact p2.elim
     ·exact p2.elim
    ·exact p2.elim
   ·exact p1.elim
  ·exact p1.elim⟩⟩
end
def ee (e:XE):XI:=fun τ S=>(e τ S).bind fun z S1=>match z with
 | .d (.tup xs)=>.ok ⟨xs.map Vl.d,none⟩ S1
 | .d (.lst xs)=>.ok ⟨xs.map Vl.d,none⟩ S1
 | .r n=>(match S1[n]? with
  | some (.lst xs)=>.ok ⟨xs.map Vl.d,some (n,.lst xs)⟩ S1
  | _=>.bad)
 | _=>.bad
def ji (as:XA):XI:=fun τ S=>(as τ S).bind fun zs S1=>match zs with
 | [.d (.int j)]=>if -100000≤j∧j≤100000 then .ok ⟨(List.range j.toNat).map fun i=>Vl.d (.int (i:Nat)),none⟩ S1 else .bad
 | _=>.bad
def sv (as:XA):XI:=fun τ S=>(as τ S).bind fun zs S1=>match zs with
 | [.d (.int i),.d (.int j)]=>if (-100000≤i∧i≤100000)∧-100000≤j∧j≤100000 then .ok ⟨(List.range (j - i).toNat).map fun k=>Vl.d (.int (i+(k:Nat))),none⟩ S1 else .bad
 | _=>.bad
section
variable {X:Cx} {WE:WX} {K:PySem.W.Frag} {mg:Str→Option Value} {μ:Nat→Addr} {S:Sto} {H:Hp}
theorem eW {xs:List D} {i:Nat} {z:Vl} (e:(xs.map Vl.d)[i]?=some z):∃ x,xs[i]?=some x∧z=.d x:=by
 rw [List.getElem?_map] at e
 cases q:xs[i]? with
 | none=>rw [q] at e;cases e
 | some x=>rw [q] at e;cases e;exact ⟨x,rfl,rfl⟩
theorem xQ {a:Addr} {vs:List V} {xs:List D} (g:vh μ S H a=some (.tup vs)) (rs:aq (vh μ S H) vs xs) (hz:vs.length≤sizeLine):fm K mg μ S H (Itt K a) ⟨xs.map Vl.d,none⟩ where
 ok:=True.intro
 len:=by simp only [List.length_map];rw [← rs.length];exact hz
 go:=fun i z μ' S' H' st _ e=>by
  obtain ⟨x,e1,rfl⟩:=eW e
  obtain ⟨u,e2,_⟩:=rs.get' e1
  exact ⟨vs,u,SqT.of (aG (st.vis _ _ g)).2,e2⟩
 yld:=fun i z μ' S' H' u H2 st _ e y=>by
  obtain ⟨rfl,y⟩:=y
  obtain ⟨x,e1,rfl⟩:=eW e
  have e2:=y vs (SqT.of (aG (st.vis _ _ g)).2)
  obtain ⟨x',e3,r⟩:=rs.get e2
  rw [e1] at e3;cases e3
  exact ⟨Step.refl st.hr,Rep.mono st.vis r⟩
 stop:=fun i μ' S' H' st _ hi=>⟨vs,SqT.of (aG (st.vis _ _ g)).2,by rw [rs.length];simpa using Nat.le_of_eq hi⟩
theorem wm {a:Addr} {vs:List V} {xs:List D} (g:vh μ S H a=some (.lst vs)) (rs:aq (vh μ S H) vs xs) (hz:vs.length≤sizeLine):fm K mg μ S H (Itl K a) ⟨xs.map Vl.d,none⟩ where
 ok:=True.intro
 len:=by simp only [List.length_map];rw [← rs.length];exact hz
 go:=fun i z μ' S' H' st _ e=>by
  obtain ⟨x,e1,rfl⟩:=eW e
  obtain ⟨u,e2,_⟩:=rs.get' e1
  exact ⟨vs,u,SqL.of (aG (st.vis _ _ g)).2,e2⟩
 yld:=fun i z μ' S' H' u H2 st _ e y=>by
  obtain ⟨rfl,y⟩:=y
  obtain ⟨x,e1,rfl⟩:=eW e
  have e2:=y vs (SqL.of (aG (st.vis _ _ g)).2)
  obtain ⟨x',e3,r⟩:=rs.get e2
  rw [e1] at e3;cases e3
  exact ⟨Step.refl st.hr,Rep.mono st.vis r⟩
 stop:=fun i μ' S' H' st _ hi=>⟨vs,SqL.of (aG (st.vis _ _ g)).2,by rw [rs.length];simpa using Nat.le_of_eq hi⟩
theorem yo {n:Nat} {vs:List V} {xs:List D} (hn:n < S.length) (e0:S[n]?=some (.lst xs)) (rs:aq (vh μ S H) vs xs) (hz:vs.length≤sizeLine):fm K mg μ S H (Itl K (μ n)) ⟨xs.map Vl.d,some (n,.lst xs)⟩ where
 ok:=e0
 len:=by simp only [List.length_map];rw [← rs.length];exact hz
 go:=fun i z μ' S' H' st ok e=>by
  obtain ⟨us,h,rs'⟩:=st.hr.ob n _ ok
  rw [st.ag n hn] at h
  obtain ⟨x,e1,rfl⟩:=eW e
  obtain ⟨u,e2,_⟩:=rs'.get' e1
  exact ⟨us,u,SqL.of h,e2⟩
 yld:=fun i z μ' S' H' u H2 st ok e y=>by
  obtain ⟨rfl,y⟩:=y
  obtain ⟨us,h,rs'⟩:=st.hr.ob n _ ok
  rw [st.ag n hn] at h
  obtain ⟨x,e1,rfl⟩:=eW e
  have e2:=y us (SqL.of h)
  obtain ⟨x',e3,r⟩:=rs'.get e2
  rw [e1] at e3;cases e3
  exact ⟨Step.refl st.hr,r⟩
 stop:=fun i μ' S' H' st ok hi=>by
  replace hi:=Nat.le_of_eq hi
  obtain ⟨us,h,rs'⟩:=st.hr.ob n _ ok
  rw [st.ag n hn] at h
  exact ⟨us,SqL.of h,by rw [rs'.length];simpa using hi⟩
theorem qM {lo:Int} {m:Nat} (hr:HR μ S H) (hm:m≤sizeLine):fm K mg μ S H (Itr lo m) ⟨(List.range m).map fun k=>Vl.d (.int (lo+(k:Nat))),none⟩ where
 ok:=True.intro
 len:=by simpa using hm
 go:=fun i z μ' S' H' st _ e=>by
  have:=(List.getElem?_eq_some_iff.mp e).1
  exact (show i < m by simpa using this)
 yld:=fun i z μ' S' H' u H2 st _ e y=>by
  obtain ⟨rfl,rfl⟩:=y
  have hi:i < m:=by simpa using (List.getElem?_eq_some_iff.mp e).1
  rw [List.getElem?_map,List.getElem?_range hi] at e
  cases e
  exact ⟨Step.refl st.hr,Rep.int _⟩
 stop:=fun i μ' S' H' st _ hi=>(show m≤i by simpa using Nat.le_of_eq hi)
theorem eD {tg l:Expr} {xl:XE} (hl:RE X WE l xl):RI X WE tg l (ee xl):=⟨by
 intro pins s σ H Rr I h
 obtain ⟨μ,S,τ,hr,sr,p⟩:=h
 refine thn (hl.h pins s σ H _ I ⟨μ,S,τ,hr,sr,p.bind (Q:=fun v H1=>∃ μ1 S1 z,HR μ1 S1 H1∧aM X.K X.mg μ1 S1 H1 v z∧aJ (fm X.K X.mg) WE μ1 S1 H1 (match z with
   | .d (.tup xs)=>.ok ⟨xs.map Vl.d,none⟩ S1
   | .d (.lst xs)=>.ok ⟨xs.map Vl.d,none⟩ S1
   | .r n=>(match S1[n]? with
    | some (.lst xs)=>.ok ⟨xs.map Vl.d,some (n,.lst xs)⟩ S1
    | _=>.bad)
   | _=>.bad) Rr) fun v x S1 μ1 H1 st1 r1 p1=>⟨μ1,S1,x,st1.hr,r1,p1⟩⟩) fun v s1 ⟨u,H1,I1,ru,μ1,S1,z,hr1,r1,p1⟩=>?_
 have goT:∀ a vs xs,u=.ref a→vh μ1 S1 H1 a=some (.tup vs)→aq (vh μ1 S1 H1) vs xs→Rr (Itt X.K a) H1→wpAny (model X.prog X.w) X.A (pyIter v) (PIE X pins σ tg Rr) X.xe s1:=by
  rintro a vs xs rfl g rs q
  cases ru
  obtain ⟨its,rv,pp,hz⟩:=I1.tuple (SqT.of (aG g).2)
  refine wpAny_pyIter_tuple (show s1.heap.IsTuple a its.toArray from pp) ?_
  refine ⟨s1.heap.objs.size,[s1.heap.objs.size],_,_,H1,rfl,I1.kept (t':=s1.toks) fun b o e=>Heap.get?_push_of_some _ e,pG a _,⟨_,Heap.get?_push_size _ rfl,rfl,rfl⟩,fun b hb=>?_,q⟩
  rw [List.mem_singleton.mp hb]
  exact I1.jn (Nat.le_refl _) (I1.hok.fresh (Nat.le_refl _))
 have goL:∀ a vs,u=.ref a→H1 a=some (.lst vs)→Rr (Itl X.K a) H1→wpAny (model X.prog X.w) X.A (pyIter v) (PIE X pins σ tg Rr) X.xe s1:=by
  rintro a vs rfl g q
  cases ru
  obtain ⟨its,rv,pp,hz⟩:=I1.list (SqL.of g)
  refine wpAny_pyIter_list pp.isList ?_
  refine ⟨s1.heap.objs.size,[s1.heap.objs.size],_,_,H1,rfl,I1.kept (t':=s1.toks) fun b o e=>Heap.get?_push_of_some _ e,pY a _,⟨_,Heap.get?_push_size _ rfl,rfl,rfl⟩,fun b hb=>?_,q⟩
  rw [List.mem_singleton.mp hb]
  exact I1.jn (Nat.le_refl _) (I1.hok.fresh (Nat.le_refl _))
 split at p1
 ·obtain ⟨a,vs,rfl,h,g,rs⟩:=gg r1
  obtain ⟨its,rv,pp,hz⟩:=I1.tuple (SqT.of h)
  exact goT a vs _ rfl g rs (p1.here hr1 (xQ g rs hz))
 ·cases (show Rep (vh μ1 S1 H1) u (.lst _) from r1) with
  | lst g rs=>
   obtain ⟨its,rv,pp,hz⟩:=I1.list (SqL.of (aG g).2)
   exact goL _ _ rfl (aG g).2 (p1.here hr1 (wm g rs hz))
 ·split at p1
  ·rename_i e
   obtain ⟨rfl,hn⟩:=r1
   obtain ⟨vs,h,rs⟩:=hr1.ob _ _ e
   obtain ⟨its,rv,pp,hz⟩:=I1.list (SqL.of h)
   exact goL _ _ rfl h (p1.here hr1 (yo hn e rs hz))
  ·exact p1.elim
 ·exact p1.elim⟩
theorem eA {tg a:Expr} {as:XA} {p pos:Pos} (hg:Gl X "range") (hm:X.mg "range"=none) (ha:RA X WE [a] as) (hs:starEach [a] X.env=[(false,eval a X.env)]:=by rfl):RI X WE tg (.Call (.Name "range" p) [a] [] pos) (ji as):=
 ⟨(qQ hg hm ha.h hs).weak fun σ H Rr ⟨μ,S,τ,hr,sr,p⟩=>⟨μ,S,τ,hr,sr,p.bind fun vs xs S1 μ1 H1 st1 r1 p1=>by
  try dsimp only at p1
  split at p1
  ·split at p1
   ·obtain ⟨v,rfl,r⟩:=r1.one
    rename_i j hj
    refine ⟨j,by rw [aV r],by omega,by omega,p1.here st1.hr ?_⟩
    have q:=qM (K:=X.K) (mg:=X.mg) (lo:=0) (m:=j.toNat) st1.hr (jt (by omega))
    have z:∀ k:Nat,(0:Int)+k=k:=fun k=>by omega
    simp only [z] at q
    exact q
   ·exact p1.elim
  ·exact p1.elim⟩⟩
theorem qZ {tg a b:Expr} {as:XA} {p pos:Pos} (hg:Gl X "range") (hm:X.mg "range"=none) (ha:RA X WE [a,b] as) (hs:starEach [a,b] X.env=[(false,eval a X.env),(false,eval b X.env)]:=by rfl) (hs2:starEach [b] X.env=[(false,eval b X.env)]:=by rfl):RI X WE tg (.Call (.Name "range" p) [a,b] [] pos) (sv as):=
 ⟨(qS hg hm ha.h hs hs2).weak fun σ H Rr ⟨μ,S,τ,hr,sr,p⟩=>⟨μ,S,τ,hr,sr,p.bind fun vs xs S1 μ1 H1 st1 r1 p1=>by
  try dsimp only at p1
  split at p1
  ·split at p1
   ·obtain ⟨v,w,rfl,r,r'⟩:=r1.two
    rename_i i j hj
    exact ⟨i,j,by rw [aV r,aV r'],⟨by omega,by omega,by omega,by omega⟩,p1.here st1.hr (qM st1.hr (by rw [sizeLine_eq];omega))⟩
   ·exact p1.elim
  ·exact p1.elim⟩⟩
end
section
variable {prog:Program} {w:World} {A:Around} {E:Value→Shared→Prop} {s:Shared}
theorem nv {l:Addr} {vs:List Value} {Q:List Value→Shared→Prop} (hl:IsTup s.heap l vs.toArray)
  (h:Q vs { s with heap:=(s.heap.push (seqObj "list" #[] 0)).update s.heap.objs.size (Obj.mapSeq (·++vs.toArray)) }) (hsz:vs.length≤sizeLine:=by size_fits) :
  wpAny (model prog w) A (collect (.ref l)) Q E s:=by
 obtain ⟨o,ho,hc,n,hd⟩:=id hl
 unfold collect
 refine wpAny_bind (wpAny_runValue (codeAny_builtin entry_proto_collect' ?_))
 show wpAny _ _ (do again (.builtin "list.__iadd__" ⟨[← newList [],.ref l],[]⟩)) _ _ s
 refine wpAny_bind (wpAny_newList (wpAny_pure ⟨Code.quiet_builtin _ (by decide +kernel),codeAny_builtin entry_list_iadd' ?_⟩))
 show wpAny _ _ (Builtin.List.listExtendWith (.ref s.heap.objs.size) (.ref l) (.ref s.heap.objs.size)) _ _ { s with heap:=s.heap.push (seqObj "list" #[] 0) }
 unfold Builtin.List.listExtendWith
 have ho':(s.heap.push (seqObj "list" #[] 0)).get? l=some o:=Heap.get?_push_of_some _ ho
 refine wpAny_bind (wpAny_typeOf (T:="tuple") ⟨o,ho',hc⟩ ?_)
 have ht:(Value.type "tuple" == Value.type "tuple")=true:=by rfl
 rw [if_pos (by rw [ht];simp)]
 refine wpAny_bind (listItems_at ho' hd ?_)
 refine wpAny_bind (listItems_at (xs:=#[]) (n:=0) (Heap.get?_push_size _ rfl) rfl ?_)
 rw [if_neg (by simp)]
 refine wpAny_bind (listUpdate_at (xs:=#[]) (n:=0) (Heap.get?_push_size _ rfl) rfl ?_ (Nat.zero_le _) (by show (#[]++vs.toArray).size≤sizeLine+1;simp only [Array.size_append,List.size_toArray,List.length_nil];omega))
 refine wpAny_pure ?_
 show wpAny (model prog w) A (do
   let o ← load s.heap.objs.size
   match o.data with
   | .seq xs _=>pure xs.toList
   | _=>unsupported "internal:collect") Q E { s with heap:=(s.heap.push (seqObj "list" #[] 0)).update s.heap.objs.size (Obj.mapSeq (·++vs.toArray)) }
 refine wpAny_bind (wpAny_load (get?_update_seq (Heap.get?_push_size _ rfl) _) ?_)
 show wpAny _ _ (pure ((#[]:Array Value)++vs.toArray).toList) Q E _
 rw [show ((#[]:Array Value)++vs.toArray).toList=vs by simp]
 exact wpAny_pure h
theorem pL {l:Addr} {vs:List Value} {ns:List Int} {Q:Value→Shared→Prop} (hl:IsTup s.heap l vs.toArray) (hI:IntsAre vs ns) (h64:vs.length < 64)
  (h:∀ (out:Array Value) (ns':List Int),IntsAre out.toList ns'→ns'.Perm ns→ns'.Pairwise (·≤·)→Q (.ref (s.heap.objs.size+1)) { s with heap:=sortedAll s.heap vs out }) :
  wpAny (model prog w) A (call (.builtin "sorted") [.ref l]) Q E s:=by
 refine Calls.call_function_entry kind_sorted plain_sorted entry_sorted (args_sorted1 _) ?_
 unfold Builtin.«sorted»
 refine wpAny_bind (m:=checkCount "sorted" 1 1 _) (wpAny_pure ?_)
 refine wpAny_bind (nv hl ?_ (Nat.le_of_lt (dw (by omega))))
 refine wpAny_bind (wpAny_newList ?_)
 have hsz:((s.heap.push (seqObj "list" #[] 0)).update s.heap.objs.size (Obj.mapSeq (·++vs.toArray))).objs.size=s.heap.objs.size+1:=by
  rw [Heap.size_update,size_push']
 have hoL:(((s.heap.push (seqObj "list" #[] 0)).update s.heap.objs.size (Obj.mapSeq (·++vs.toArray))).push (seqObj "list" vs.toArray 0)).get? (s.heap.objs.size+1)=some (seqObj "list" vs.toArray 0):=by
  rw [← hsz];exact Heap.get?_push_size _ rfl
 show wpAny _ _ _ _ _ { s with heap:=((s.heap.push (seqObj "list" #[] 0)).update s.heap.objs.size (Obj.mapSeq (·++vs.toArray))).push (seqObj "list" vs.toArray 0) }
 rw [hsz]
 refine wpAny_bind (wpAny_holding (wpAny_call_entry slot_list_sort ⟨_,hoL,rfl⟩ entry_list_sort (list_sort_tree hoL hI h64 fun out ns' a1 a2 a3=>⟨_,rfl,?_⟩) (args_list_sort _)))
 exact wpAny_pure ⟨_,rfl,h out ns' a1 a2 a3⟩
end
section
variable {X:Cx}
def rK:List V→Hp→VK→Prop:=fun vs H Q=>∃ (p:Addr) (ns:List Int),vs=[.ref p]∧H p=some (.tup (ns.map V.int))∧ns.length < 64∧∀ (l:Addr) (ms:List Int),H l=none→List.Perm ms ns→ms.Pairwise (·≤·)→Q (.ref l) (upd H l (.lst (ms.map V.int)))
theorem oZ:bH X (.builtin "sorted") rK:=by
 intro pins s σ H xs us Q I r h
 obtain ⟨p,ns,rfl,hq,hl,q⟩:=h
 obtain ⟨u,rfl,rx⟩:=vals1 r
 cases rx
 obtain ⟨its,rv,pl,hz⟩:=I.tuple (SqT.of hq)
 have hI:IntsAre its ns:=intsAre_of rv
 have h64:its.length < 64:=by rw [← rv.length,List.length_map];exact hl
 refine pL pl hI h64 fun out ms hout hperm hpair=>?_
 obtain ⟨e,he⟩:=sortedAll_at s.heap its out
 refine ⟨.ref (s.heap.objs.size+1),_,I.laid (t':=s.toks) (o:=.lst (ms.map V.int)) (fun b ob q=>sortedAll_old q) (Nat.le_succ _) ?_,rfl,q _ ms (I.hok.fresh (Nat.le_succ _)) hperm hpair⟩
 have hlm:ms.length=ns.length:=hperm.length_eq
 exact ⟨by rw [List.length_map];have:(64:Nat)≤sizeLine:=(by decide);omega,out.toList,e,et hout,by simpa using he⟩
def qv:List V→Hp→VK→Prop:=fun vs H Q=>mz vs H Q∨rK vs H Q
theorem pE:bH X (.builtin "sorted") qv:=me.or oZ
def i6 (xs:List Vl) (S:Sto):R Vl:=match xs with
 | [x]=>(match (bU x S).bind intsOf with
  | some ns=>if ns.length < 64 then .ok (.d (.lst ((sortI ns).map D.int))) S else .bad
  | none=>.bad)
 | _=>.bad
theorem rG {K:PySem.W.Frag} {mg:Str→Option Value}:fS K mg qv i6:=by
 intro WE μ S H vs xs Q hr rs p
 unfold i6 at p
 split at p
 ·obtain ⟨v,rfl,r⟩:=rs.one
  split at p
  ·rename_i ns e
   split at p
   ·rename_i hb
    obtain ⟨ds,e1,e2⟩:=Option.bind_eq_some_iff.mp e
    obtain ⟨a,us,rfl,ha,rr⟩:=fb hr r e1
    rw [iF e2] at rr
    rw [aq.ka rr] at ha
    rcases ha with ha | ha
    ·refine .inl ⟨a,ns,rfl,ha,hb,fun l ms hl h1 h2=>?_⟩
     rw [lO h1 h2]
     exact p.gP hr (aq.ints _) l hl
    ·refine .inr ⟨a,ns,rfl,ha,hb,fun l ms hl h1 h2=>?_⟩
     rw [lO h1 h2]
     exact p.gP hr (aq.ints _) l hl
   ·exact p.elim
  ·exact p.elim
 ·exact p.elim
end
section
variable {X:Cx} {WE:WX}
def dq (x y z:Vl) (S:Sto):R Unit:=match x,y,z with
 | .r n,.d (.int k),.d w=>(match S[n]? with
  | some (.lst xs)=>(match ixN xs.length k with
   | some j=>.ok () (S.set n (.lst (xs.set j w)))
   | none=>.bad)
  | _=>.bad)
 | _,_,_=>.bad
theorem aq.set {H:Hp} {v:V} {d:D} (r:Rep H v d):∀ {vs:List V} {ds:List D} (i:Nat),aq H vs ds→aq H (vs.set i v) (ds.set i d)
 | _,_,_,.nil=>.nil
 | _,_,0,.cons _ t=>.cons r t
 | _,_,i+1,.cons q t=>.cons q (aq.set r i t)
theorem fY {K:PySem.W.Frag} {mg:Str→Option Value}:rh K mg oG dq:=by
 intro WE μ S H o i v x y z Q hr ro ri rv p
 unfold dq at p
 split at p
 ·split at p
  ·rename_i n k w _ xs e
   obtain ⟨rfl,hn⟩:=ro
   obtain ⟨vs,h,rs⟩:=hr.ob _ _ e
   split at p
   ·rename_i j ej
    refine ⟨_,vs,k,j,rfl,aV ri,h,by rw [rs.length];exact ej,?_⟩
    exact p () _ _ (Step.put hr e (by simp) (ob:=.lst (xs.set j w)) ⟨_,rfl,rs.set rv j⟩) True.intro
   ·exact p.elim
  ·exact p.elim
 ·exact p.elim
theorem jL:pf X oG:=set_list
def lrg (fin:List D→Sto→R Vl) (zs:List Vl) (S:Sto):R Vl:=match zs with
 | [.d (.int j)]=>if 0≤j∧j≤1000 then fin ((List.range j.toNat).map fun i=>D.int (i:Nat)) S else .bad
 | _=>.bad
def o9 (ds:List D) (S:Sto):R Vl:=.ok (.d (.lst ds)) S
theorem j6 {H:Hp}:∀ l:List Nat,aq H (l.map fun i=>V.int (i:Nat)) (l.map fun i=>D.int (i:Nat))
 | []=>.nil
 | n :: l=>.cons (.int _) (j6 l)
theorem lK {a:Expr} {as:XA} {p1 p2 pos1 pos2:Pos} (hc:X.calm=true) (hgl:Gl X "list") (hml:X.mg "list"=none) (hgr:Gl X "range") (hmr:X.mg "range"=none) (hbl:bootBuiltins "list"=some (.type "list")) (ha:RA X WE [a] as)
  (hs:starEach [a] X.env=[(false,eval a X.env)]:=by rfl)
  (hs2:starEach [Expr.Call (.Name "range" p2) [a] [] pos2] X.env=(false,eval (Expr.Call (.Name "range" p2) [a] [] pos2) X.env) :: starEach [] X.env:=by rfl) :
  RE X WE (.Call (.Name "list" p1) [.Call (.Name "range" p2) [a] [] pos2] [] pos1) (xN (lrg o9) as):=
 ⟨(mm hc hgl hml hgr hmr hbl ha.h hs hs2).weak fun σ H Q ⟨μ,S,τ,hr,sr,p⟩=>⟨μ,S,τ,hr,sr,p.bind fun vs xs S1 μ1 H1 st1 r1 p1=>by
  unfold lrg at p1
  split at p1
  ·split at p1
   ·rename_i j hj
    obtain ⟨v,rfl,r⟩:=r1.one
    exact ⟨j,by rw [aV r],hj.1,hj.2,fun l hl=>p1.gP st1.hr (j6 _) l hl⟩
   ·exact p1.elim
  ·exact p1.elim⟩⟩
end
def fj (x:Int):List Int→List Int
 | []=>[x]
 | y :: ys=>if x < y then x :: y :: ys else if x=y then y :: ys else y :: fj x ys
def bM:List Int→List Int
 | []=>[]
 | x :: xs=>fj x (bM xs)
theorem jr (x z:Int):∀ ys,z∈fj x ys↔z=x∨z∈ys
 | []=>by simp [fj]
 | y :: ys=>by
  unfold fj
  split
  ·simp
  ·split
   ·rename_i h;subst h;simp
   ·simp only [List.mem_cons,jr x z ys]
    constructor
    ·rintro (h | h | h)
     ·exact .inr (.inl h)
     ·exact .inl h
     ·exact .inr (.inr h)
    ·rintro (h | h | h)
     ·exact .inr (.inl h)
     ·exact .inl h
     ·exact .inr (.inr h)
theorem ix (z:Int):∀ xs,z∈bM xs↔z∈xs
 | []=>by simp [bM]
 | x :: xs=>by rw [bM,jr,ix z xs,List.mem_cons]
theorem kH (x:Int):∀ ys:List Int,ys.Pairwise (· < ·)→(fj x ys).Pairwise (· < ·)
 | [],_=>by simp [fj]
 | y :: ys,h=>by
  obtain ⟨h1,h2⟩:=List.pairwise_cons.mp h
  unfold fj
  split
  ·rename_i hxy
   refine List.pairwise_cons.mpr ⟨fun z hz=>?_,h⟩
   rcases List.mem_cons.mp hz with e | e
   ·omega
   ·have:=h1 z e;omega
  ·split
   ·exact h
   ·refine List.pairwise_cons.mpr ⟨fun z hz=>?_,kH x ys h2⟩
    rcases (jr x z ys).mp hz with e | e
    ·omega
    ·exact h1 z e
theorem eR:∀ xs,(bM xs).Pairwise (· < ·)
 | []=>.nil
 | x :: xs=>kH x _ (eR xs)
theorem kr {xs:List Int} (h:xs.Pairwise (· < ·)):xs.Nodup:=h.imp fun z=>by omega
theorem rZ {xs ys:List Int} (h:∀ z,z∈xs↔z∈ys) (h1:xs.Pairwise (· < ·)) (h2:ys.Pairwise (· < ·)):xs=ys:=
 ki ((List.perm_ext_iff_of_nodup (kr h1) (kr h2)).mpr h) (h1.imp fun z=>by omega) (h2.imp fun z=>by omega)
theorem mZ {xs ys:List Int} (h:∀ z,z∈ys↔z∈xs) (h1:ys.Pairwise (· < ·)):ys=bM xs:=rZ (fun z=>by rw [h,ix]) h1 (eR xs)
theorem oD {ks ns:List Int} (h1:ks.Nodup) (h2:∀ x,x∈ks↔x∈ns):ks.length=(bM ns).length:=
 ((List.perm_ext_iff_of_nodup h1 (kr (eR ns))).mpr fun z=>by rw [h2,ix]).length_eq
section
variable {X:Cx} {WE:WX}
def SqI (H:Hp) (a:Addr) (ns:List Int):Prop:=H a=some (.lst (ns.map V.int))∨H a=some (.tup (ns.map V.int))
def Ci (N:Nat) (te:TE):TE:=fun σ H Q=>te σ H fun x H1=>∃ (a:Addr) (ns:List Int),x=.ref a∧SqI H1 a ns∧ns.length≤300∧(bM ns).length < N∧∀ l:Addr,H1 l=none→Q (.ref l) (upd H1 l (.lst ((bM ns).map V.int)))
theorem SqI.at {pins:List (Addr×Obj)} {σ:St} {H:Hp} {s:Shared} {a:Addr} {ns:List Int} (I:Inv X pins σ H s) (h:SqI H a ns):∃ (its:List Value) (k:Bool),IntsAre its ns∧l_ s.heap a its.toArray k:=by
 rcases h with h | h
 ·obtain ⟨its,rv,pl,hz⟩:=I.list (SqL.of h)
  exact ⟨its,true,intsAre_of rv,pl.isList⟩
 ·obtain ⟨its,rv,pl,hz⟩:=I.tuple (SqT.of h)
  exact ⟨its,false,intsAre_of rv,pl⟩
theorem wI {N:Nat} (T:jz N) (hN:N≤301) {e:Expr} {te:TE} {p1 p2 pos1 pos2:Pos} (hc:X.calm=true) (hgs:Gl X "sorted") (hms:X.mg "sorted"=none) (hgt:Gl X "set") (hmt:X.mg "set"=none) (hbs:bootBuiltins "sorted"=some (.builtin "sorted")) (hbt:bootBuiltins "set"=some (.type "set")) (he:PE X e te)
  (hs:starEach [e] X.env=(false,eval e X.env) :: starEach [] X.env:=by rfl)
  (hs2:starEach [Expr.Call (.Name "set" p2) [e] [] pos2] X.env=(false,eval (Expr.Call (.Name "set" p2) [e] [] pos2) X.env) :: starEach [] X.env:=by rfl) :
  PE X (.Call (.Name "sorted" p1) [.Call (.Name "set" p2) [e] [] pos2] [] pos1) (Ci N te):=by
 intro pins s σ H Q I h
 refine wpAny_Call_Name_kw (cu I hgs hms hbs ?_)
 rw [hs2]
 refine Calls.callWith_builtin (by show (false || (backTo pos1 (starEach ([]:List Expr) X.env)).any (·.1))=false;rfl) (Calls.evalArgs_plain ?_)
 show wpAny _ _ (spliced ((false,eval (Expr.Call (.Name "set" p2) [e] [] pos2) X.env) :: backTo pos1 (starEach [] X.env))) _ _ s
 refine Calls.spliced_cons ?_
 have hA:=(cW he fz hs) pos2 pins s σ H (fun vs H1=>∃ x,vs=[x]∧∃ (a:Addr) (ns:List Int),x=.ref a∧SqI H1 a ns∧ns.length≤300∧(bM ns).length < N∧∀ l:Addr,H1 l=none→Q (.ref l) (upd H1 l (.lst ((bM ns).map V.int)))) I (by
  refine cast (congrArg (te σ H) ?_) h
  funext y H2
  refine propext ⟨fun q=>⟨y,rfl,q⟩,fun ⟨y',e',q⟩=>?_⟩
  cases e'
  exact q)
 refine Call_ (cu I hgt hmt hbt (PyProof.Rows.callWith_type1 (thn hA fun us s1 ⟨vs,H1,I1,r1,x,e1,a,ns,e2,hx,hn,hb,q⟩=>?_) hs rfl))
 subst e1 e2
 obtain ⟨u,rfl,rx⟩:=vals1 r1
 cases rx
 obtain ⟨its,k,hI,pl⟩:=hx.at I1
 have hA0:X.A.handled=none:=I.ok.hd hc
 refine rk hA0 k pl (by simpa using hI) hn fun h' tk ks S1 S2 S3=>?_
 refine wpAny_pure ?_
 have hnd:ks.Nodup:=by obtain ⟨_,_,_,_,_,_,_,_,_,_,_,_,_,_,_,_,g,_⟩:=S1;exact g
 have lk:=oD hnd S2
 refine pq T hN hA0 S1 (by omega) fun h2 tk2 out ms l c k1 k2 k3 k4 k5 k6 k7=>?_
 have em:ms=bM ns:=mZ (fun x=>by rw [k6,S2]) k5
 subst em
 refine ⟨.ref l,_,I1.laid (t':=tk2) (o:=.lst ((bM ns).map V.int)) (fun b o e=>k1 b o (S3 b o e)) (Nat.le_of_lt k2) ⟨?_,out.toList,c,et k4,?_⟩,rfl,q l (I1.hok.fresh (Nat.le_of_lt k2))⟩
 ·rw [List.length_map]
  exact Nat.le_of_lt (dw (by omega))
 ·simpa [seqObj] using k3
def pd (N:Nat) (x:Vl) (S:Sto):R Vl:=match (bU x S).bind intsOf with
 | some ns=>if ns.length≤300∧(bM ns).length < N then .ok (.d (.lst ((bM ns).map D.int))) S else .bad
 | none=>.bad
theorem zj {K:PySem.W.Frag} {mg:Str→Option Value} {μ:Nat→Addr} {S:Sto} {H:Hp} {v:V} {x:Vl} {ns:List Int} (hr:HR μ S H) (r:aM K mg μ S H v x) (e:(bU x S).bind intsOf=some ns):∃ a,v=.ref a∧SqI H a ns:=by
 obtain ⟨ds,e1,e2⟩:=Option.bind_eq_some_iff.mp e
 obtain ⟨a,us,rfl,ha,rr⟩:=fb hr r e1
 rw [iF e2] at rr
 rw [aq.ka rr] at ha
 exact ⟨a,rfl,ha⟩
abbrev oSS:=pd 64
theorem wW {N:Nat} (T:jz N) (hN:N≤301) {e:Expr} {xa:XE} {p1 p2 pos1 pos2:Pos} [n:NS e] (hc:X.calm=true) (hgs:Gl X "sorted") (hms:X.mg "sorted"=none) (hgt:Gl X "set") (hmt:X.mg "set"=none) (hbs:bootBuiltins "sorted"=some (.builtin "sorted")) (hbt:bootBuiltins "set"=some (.type "set")) (he:RE X WE e xa)
  (hs2:starEach [Expr.Call (.Name "set" p2) [e] [] pos2] X.env=(false,eval (Expr.Call (.Name "set" p2) [e] [] pos2) X.env) :: starEach [] X.env:=by rfl) :
  RE X WE (.Call (.Name "sorted" p1) [.Call (.Name "set" p2) [e] [] pos2] [] pos1) (xUn (pd N) xa):=
 ⟨(wI T hN hc hgs hms hgt hmt hbs hbt he.h (n.eq _ X.env) hs2).weak fun σ H Q ⟨μ,S,τ,hr,sr,p⟩=>⟨μ,S,τ,hr,sr,p.bind fun v x S1 μ1 H1 st1 r1 p1=>by
  unfold pd at p1
  split at p1
  ·rename_i ns e1
   split at p1
   ·rename_i hb
    obtain ⟨a,rfl,sq⟩:=zj st1.hr r1 e1
    exact ⟨a,ns,rfl,sq,hb.1,hb.2,fun l hl=>p1.gP st1.hr (aq.ints _) l hl⟩
   ·exact p1.elim
  ·exact p1.elim⟩⟩
theorem Bc {e:Expr} {xa:XE} {p1 p2 pos1 pos2:Pos} [n:NS e] (hc:X.calm=true) (hgs:Gl X "sorted") (hms:X.mg "sorted"=none) (hgt:Gl X "set") (hmt:X.mg "set"=none) (hbs:bootBuiltins "sorted"=some (.builtin "sorted")) (hbt:bootBuiltins "set"=some (.type "set")) (he:RE X WE e xa)
  (hs2:starEach [Expr.Call (.Name "set" p2) [e] [] pos2] X.env=(false,eval (Expr.Call (.Name "set" p2) [e] [] pos2) X.env) :: starEach [] X.env:=by rfl) :
  RE X WE (.Call (.Name "sorted" p1) [.Call (.Name "set" p2) [e] [] pos2] [] pos1) (xUn oSS xa):=wW yf (by decide) hc hgs hms hgt hmt hbs hbt he hs2
end
def cL (k:Nat):List D→List Vl
 | []=>[]
 | x :: xs=>.d (.tup [.int k,x]) :: cL (k+1) xs
theorem h_:∀ (k:Nat) (xs:List D),(cL k xs).length=xs.length
 | _,[]=>rfl
 | k,x :: xs=>by simp [cL,h_ (k+1) xs]
theorem fI:∀ (k:Nat) (xs:List D) (i:Nat),(cL k xs)[i]?=(xs[i]?).map fun x=>Vl.d (.tup [.int ((k+i:Nat):Int),x])
 | _,[],_=>by simp [cL]
 | k,x :: xs,0=>by simp [cL]
 | k,x :: xs,i+1=>by
  simp only [cL,List.getElem?_cons_succ,fI (k+1) xs i]
  congr 1
  funext z
  rw [show k+1+i=k+(i+1) by omega]
def sg (e:XE):XI:=fun τ S=>(e τ S).bind fun z S1=>match z with
 | .d (.lst xs)=>.ok ⟨cL 0 xs,none⟩ S1
 | _=>.bad
section
variable {X:Cx} {WE:WX} {K:PySem.W.Frag} {mg:Str→Option Value} {μ:Nat→Addr} {S:Sto} {H:Hp}
theorem sh {a:Addr} {vs:List V} {xs:List D} (g:vh μ S H a=some (.lst vs)) (rs:aq (vh μ S H) vs xs) (hz:vs.length≤sizeLine):fm K mg μ S H (Ite K a) ⟨cL 0 xs,none⟩ where
 ok:=True.intro
 len:=by simp only [h_];rw [← rs.length];exact hz
 go:=fun i z μ' S' H' st _ e=>by
  rw [fI] at e
  cases q:xs[i]? with
  | none=>rw [q] at e;cases e
  | some x=>
   obtain ⟨u,e2,_⟩:=rs.get' q
   exact ⟨vs,u,SqL.of (aG (st.vis _ _ g)).2,e2⟩
 yld:=fun i z μ' S' H' u H2 st _ e y=>by
  obtain ⟨p,w,hp,rfl,rfl,y⟩:=y
  rw [fI] at e
  cases q:xs[i]? with
  | none=>rw [q] at e;cases e
  | some x=>
   rw [q] at e
   cases e
   have e2:=y vs (SqL.of (aG (st.vis _ _ g)).2)
   obtain ⟨x',e3,r⟩:=rs.get e2
   rw [q] at e3;cases e3
   have st2:=Step.new st.hr hp (.tup [.int i,w])
   refine ⟨st2,Rep.tup (bx bE (st.hr.nal hp)) (.cons ?_ (.cons (Rep.mono (st.trans st2).vis r) .nil))⟩
   rw [Nat.zero_add]
   exact .int _
 stop:=fun i μ' S' H' st _ hi=>⟨vs,SqL.of (aG (st.vis _ _ g)).2,by rw [rs.length];rw [h_] at hi;exact Nat.le_of_eq hi⟩
end
section
variable {X:Cx} {WE:WX}
theorem tR {es:List Expr} {kk:Nat} {tp:Pos} {l:Expr} {xl:XE} {p pos:Pos} (hg:Gl X "enumerate") (hm:X.mg "enumerate"=none) (hl:RE X WE l xl) (hb:bootBuiltins "enumerate"=some (.type "enumerate"):=by decide +kernel)
  (hs:starEach [l] X.env=[(false,eval l X.env)]:=by rfl):RI X WE (.Tuple es kk tp) (.Call (.Name "enumerate" p) [l] [] pos) (sg xl):=⟨by
 intro pins s σ H R I h
 obtain ⟨μ,S,τ,hr,sr,pp⟩:=h
 refine Call_ (cu I hg hm hb (PyProof.Rows.callWith_type1 (thn ((cW hl.h fz hs) pos pins s σ H (fun vs H1=>∃ x,vs=[x]∧∃ μ1 S1 z,HR μ1 S1 H1∧aM X.K X.mg μ1 S1 H1 x z∧aJ (fm X.K X.mg) WE μ1 S1 H1 (match z with
   | .d (.lst xs)=>.ok ⟨cL 0 xs,none⟩ S1
   | _=>.bad) R) I ?_) fun us s1 ⟨vs,H1,I1,r1,q1⟩=>?_) hs rfl))
 ·exact ⟨μ,S,τ,hr,sr,pp.bind fun v x S1 μ1 H1 st1 r1 p1=>⟨v,rfl,μ1,S1,x,st1.hr,r1,p1⟩⟩
 ·obtain ⟨x,e,μ1,S1,z,hr1,rz,p1⟩:=q1
  subst e
  obtain ⟨u,rfl,ru⟩:=vals1 r1
  split at p1
  ·cases (show Rep (vh μ1 S1 H1) x (.lst _) from rz) with
   | @lst a us _ g rs=>
    cases ru
    have hq:SqL X.K H1 a us:=SqL.of (aG g).2
    obtain ⟨its,rv,pl,hz⟩:=I1.list hq
    have q:=p1.here hr1 (sh g rs hz)
    refine call_enumerate_list pl.isList fun h' he hit hsz hk=>?_
    refine wpAny_pyIter_enum (s:={ s1 with heap:=h' }) he ?_
    have I2:Inv X pins σ H1 { s1 with heap:=h' }:=I1.kept (t':=s1.toks) hk
    refine ⟨s1.heap.objs.size+1,[s1.heap.objs.size+1,s1.heap.objs.size],_,_,H1,rfl,I2,pW a _ _ (Nat.succ_ne_self _),⟨⟨_,he⟩,hit⟩,fun b hb=>?_,q⟩
    have hle:s1.heap.objs.size≤b:=by
     rcases List.mem_cons.mp hb with z | z
     ·rw [z];exact Nat.le_succ _
     ·rw [List.mem_singleton.mp z];exact Nat.le_refl _
    exact I1.jn hle (I1.hok.fresh hle)
  ·exact p1.elim⟩
def mG (x:Vl) (lo hi:Option Int) (S:Sto):R Vl:=match x with
 | .sc ns=>.ok (.d (.lst (cx (ns.map D.int) lo hi))) S
 | _=>.bad
theorem rC {e:Expr} {lo hi:Option Expr} {xa:XE} {xl xh:XO} {p2 pos:Pos} (he:RE X WE e xa) (hl:RO X WE lo xl) (hh:RO X WE hi xh):RE X WE (.Subscript e (.Slice lo hi none p2) pos) (xSl mG xa xl xh):=
 ⟨(md nP he.h hl.h hh.h).weak fun σ H Q ⟨μ,S,τ,hr,sr,p⟩=>⟨μ,S,τ,hr,sr,p.bind fun v x S1 μ1 H1 st1 r1 p1=>⟨μ1,S1,τ,st1.hr,sr.step st1,p1.bind fun i i' S2 μ2 H2 st2 r2 p2=>⟨μ2,S2,τ,st2.hr,sr.step (st1.trans st2),p2.bind fun j j' S3 μ3 H3 st3 r3 p3=>by
  cases (show i=i' from r2)
  cases (show j=j' from r3)
  have rv:=r1.step (st2.trans st3)
  unfold mG at p3
  split at p3
  ·rename_i ns
   obtain ⟨l,rfl,hq⟩:=rv
   exact ⟨l,_,rfl,hq.mono eM,fun q hq=>p3.gP st3.hr (jm (aq.ints ns) i j) q hq⟩
  ·exact p3.elim⟩⟩⟩⟩
theorem lR {sts:List Stmt}:RB X WE sts lT:=⟨fun _ _ _ _ _ _ ⟨_,_,_,_,_,p⟩=>p.elim⟩
end
def Df (K:PySem.W.Frag) (mg:Str→Option Value) (x:Str) (st:Stmt):Prop:=∃ (f:Addr) (fd:FuncData),Fun K x x st f fd∧mg x=some (.ref f)
theorem AE {K:PySem.W.Frag} {h:Heap} {mg:Str→Option Value} {x:Str} {st:Stmt} {f:Addr} {oc:Value} {od an:Option Addr} {osl:Array (Option Value)} {kV doc pm cdv ct:Value} (X:K.In h) (G:h.Ns mainGlobals mg) (a:PySem.W.nsIn K mainGlobals x=some (some (.ref f)))
  (l:K.lookup f=some ⟨oc,od,.func (PySem.W.fnOf x x (eY st) (cm st) (aQ st) .none kV doc pm an cdv ct),osl⟩) (c:PySem.W.codeIn K cdv x=true) (k:PySem.W.keepIn K (.ref f)=true):Df K mg x st:=⟨f,_,yd l c k,PySem.W.mg_of X G a⟩
theorem bV {K:PySem.W.Frag} {mg:Str→Option Value} {P:Program} {w:World} {x:Str} {st:Stmt} {ps:List Str} {lev:Nat} {k n:Nat} {m:XS} {M:XF} (N:List Str) (F:Df K mg x st)
    (hb:∀ (base:Heap) (f:Addr) (cdv:Value) (A:Around) (outer:List Env) (s:Shared) (H:Hp) (E:XK),bY lev (A.deeper (envOfC x (aQ st) s.heap.objs.size f cdv))→LQ (aQ st) N→RB (dr CX0 P w K mg base N x (aQ st) f cdv A outer s H E).nox W0 (cm st) m)
    (hM:M=a_ k n m:=by rfl) (hk:ps.length=k:=by rfl) (hn:N.length=n:=by rfl) (Sc:d_ N ps (aQ st):=by exact ⟨rfl,rfl,rfl,by decide +kernel,rfl,by decide +kernel,by decide +kernel⟩)
    (hbd:∀ (kV doc pm:Value) (an:Option Addr) (cdv ct:Value) (us:List Value),us.length=ps.length→bindArgs (PySem.W.fnOf x x (eY st) (cm st) (aQ st) .none kV doc pm an cdv ct) ⟨us,[]⟩=pure (ps.zip us):=by
      intro _ _ _ _ _ _ us hl
      rcases us with _ | ⟨a,_ | ⟨b,_ | ⟨c,_ | ⟨d,_ | ⟨e,_ | ⟨f,_ | ⟨g,us⟩⟩⟩⟩⟩⟩⟩<;>first | (simp at hl;done) | rfl):OkE P w K mg (lev+1) x ps M:=by
  subst hM hk hn
  obtain ⟨f,fd,F,hm⟩:=F
  refine ⟨f,fd,hm,F.kp,?_,fun base=>B5 F Sc fun cdv A outer s H E hr=>hb base f cdv A outer s H E hr ⟨Sc.nd⟩⟩
  obtain ⟨oc,od,kV,doc,pm,an,cdv,ct,osl,rfl,lk,hcd⟩:=F.ex
  exact hbd kV doc pm an cdv ct
theorem bL {α β:Type} {a:α} {S:Sto} {f:α→Sto→R β}:(R.ok a S).bind f=f a S:=rfl
theorem Aw {i:Nat} {z:Vl} {τ:Nv} {S:Sto}:gNm i z τ S=.ok (τ.set i (some z)) S:=rfl
theorem jo {S S':Sto} {z:Vl} {τ:Nv}:leave S (.ok (.rt z,τ) S')=out S z S':=rfl
theorem tm {S S':Sto} {τ:Nv}:leave S (.ok (.nx,τ) S')=out S (.d .non) S':=rfl
theorem mf {S S':Sto} {x:D}:out S (.d x) S'=.ok (.d x) (S'.take S.length):=rfl
theorem oE {k n:Nat} {b:XS} {us:List Vl} {S:Sto} (h:us.length=k):a_ k n b us S=leave S (b (us.map some++List.replicate (n - k) none) S):=by unfold a_;rw [if_pos h]
open Classical in
theorem mY {g:XG} {b:XS} {gd:Option (Nat×Ob)}:∀ {items:List Vl} {τ:Nv} {S:Sto} (I:Nat→Nv→Sto→Prop),I 0 τ S →
  (∀ i z τ S,items[i]?=some z→I i τ S→∃ τ1 S1 fl τ2 S2,g z τ S=.ok τ1 S1∧b τ1 S1=.ok (fl,τ2) S2∧(fl=.nx∨fl=.ct)∧gok gd S2∧I (i+1) τ2 S2) →
  ∃ τ' S',b_ g b gd items τ S=.ok (.nx,τ') S'∧I items.length τ' S'
 | [],τ,S,I,h0,_=>⟨τ,S,rfl,h0⟩
 | z :: zs,τ,S,I,h0,hs=>by
  obtain ⟨τ1,S1,fl,τ2,S2,e1,e2,hf,hg,hI⟩:=hs 0 z τ S rfl h0
  obtain ⟨τ',S',e3,h3⟩:=mY (items:=zs) (τ:=τ2) (S:=S2) (fun i=>I (i+1)) hI fun i z' τ S hz hi=>hs (i+1) z' τ S (by simpa using hz) hi
  refine ⟨τ',S',?_,h3⟩
  rw [b_,e1,bL,e2,bL]
  rcases hf with rfl | rfl
  ·dsimp only
   rw [if_pos hg];exact e3
  ·dsimp only
   rw [if_pos hg];exact e3
theorem qt {it:XI} {t:XT} {e:XE} {τ:Nv} {S S1:Sto} {items:List Vl} (hit:it τ S=.ok ⟨items,none⟩ S1) (J:Nat→List D→Sto→Prop) (h0:J 0 [] S1)
  (hs:∀ i z acc Q,items[i]?=some z→J i acc Q→Q.length=S1.length→∃ b Q1,t (some z :: τ) (Q++[.lst acc])=.ok b (Q1++[.lst acc])∧Q1.length=S1.length ∧
   (b=true→∃ x Q2,e (some z :: τ) (Q1++[.lst acc])=.ok (.d x) (Q2++[.lst acc])∧Q2.length=S1.length∧J (i+1) (acc++[x]) Q2)∧(b=false→J (i+1) acc Q1)) :
  ∃ acc Q,xLC it 1 (gNm 0) t e τ S=.ok (.d (.lst acc)) Q∧Q.length=S1.length∧J items.length acc Q:=by
 have key:∀ (zs:List Vl) (i:Nat) (acc:List D) (o:Option Vl) (Q:Sto),(∀ j,zs[j]?=items[i+j]?)→J i acc Q→Q.length=S1.length→∃ acc' Q',eK (gNm 0) t e S1.length none zs acc (o :: τ) (Q++[.lst acc])=.ok acc' (Q'++[.lst acc'])∧Q'.length=S1.length∧J (i+zs.length) acc' Q':=by
  intro zs
  induction zs with
  | nil=>
   intro i acc o Q _ hJ hl
   refine ⟨acc,Q,?_,hl,hJ⟩
   rw [eK,if_pos]
   rw [← hl,List.getElem?_append_right (Nat.le_refl _)]
   simp
  | cons z zs ih=>
   intro i acc o Q hz hJ hl
   have hz0:items[i]?=some z:=by
    have:=hz 0
    simpa using this.symm
   have hz1:∀ j,zs[j]?=items[i+1+j]?:=fun j=>by
    have:=hz (j+1)
    rw [show i+1+j=i+(j+1) by omega]
    simpa using this
   obtain ⟨b,Q1,e1,l1,ht,hf⟩:=hs i z acc Q hz0 hJ hl
   rw [eK,Aw,bL,show (o :: τ).set 0 (some z)=some z :: τ from rfl,e1,bL]
   cases b with
   | true=>
    obtain ⟨x,Q2,e2,l2,hJ2⟩:=ht rfl
    rw [if_pos rfl,e2,bL]
    dsimp only
    have hn:(Q2++[Ob.lst acc])[S1.length]?=some (.lst acc):=by
     rw [← l2,List.getElem?_append_right (Nat.le_refl _)];simp
    rw [if_pos ⟨hn,True.intro⟩]
    have hset:(Q2++[Ob.lst acc]).set S1.length (.lst (acc++[x]))=Q2++[.lst (acc++[x])]:=by
     rw [← l2,List.set_append_right _ _ (Nat.le_refl _)];simp
    rw [hset]
    obtain ⟨acc',Q',e3,l3,h3⟩:=ih (i+1) (acc++[x]) (some z) Q2 hz1 hJ2 l2
    exact ⟨acc',Q',e3,l3,by rw [show i+(z :: zs).length=i+1+zs.length by simp;omega];exact h3⟩
   | false=>
    rw [if_neg Bool.false_ne_true,if_pos (show gok none (Q1++[Ob.lst acc]) from True.intro)]
    obtain ⟨acc',Q',e3,l3,h3⟩:=ih (i+1) acc (some z) Q1 hz1 (hf rfl) l1
    exact ⟨acc',Q',e3,l3,by rw [show i+(z :: zs).length=i+1+zs.length by simp;omega];exact h3⟩
 obtain ⟨acc,Q,e1,l1,h1⟩:=key items 0 [] none S1 (fun j=>by rw [Nat.zero_add]) h0 rfl
 refine ⟨acc,Q,?_,l1,by rw [Nat.zero_add] at h1;exact h1⟩
 show (it τ S).bind _=_
 rw [hit,bL]
 dsimp only
 rw [show List.replicate 1 (none:Option Vl)++τ=none :: τ from rfl,e1,bL]
 unfold jJ
 rw [if_pos (by simp [l1]),← l1,List.take_left]
theorem nT {it:XI} {t:XT} {e:XE} {τ:Nv} {S S1:Sto} {items:List Vl} (hit:it τ S=.ok ⟨items,none⟩ S1) (f:Vl→Option D)
  (hs:∀ z∈items,∀ S:Sto,(∀ x,f z=some x→t (some z :: τ) S=.ok true S∧e (some z :: τ) S=.ok (.d x) S)∧(f z=none→t (some z :: τ) S=.ok false S)) :
  xLC it 1 (gNm 0) t e τ S=.ok (.d (.lst (items.filterMap f))) S1:=by
 obtain ⟨acc,Q,e1,l1,h1⟩:=qt (t:=t) (e:=e) hit (fun i acc Q=>acc=(items.take i).filterMap f∧Q=S1) ⟨rfl,rfl⟩ (by
  rintro i z acc Q hz ⟨rfl,rfl⟩ _
  have hm:=List.mem_of_getElem? hz
  have ht:items.take (i+1)=items.take i++[z]:=by rw [List.take_add_one,hz];rfl
  obtain ⟨h1,h2⟩:=hs z hm (Q++[.lst ((items.take i).filterMap f)])
  cases q:f z with
  | some x=>
   obtain ⟨h3,h4⟩:=h1 x q
   refine ⟨true,Q,h3,rfl,fun _=>⟨x,Q,h4,rfl,?_,rfl⟩,fun z=>(by cases z)⟩
   rw [ht,List.filterMap_append]
   simp [q]
  | none=>
   refine ⟨false,Q,h2 q,rfl,fun z=>(by cases z),fun _=>⟨?_,rfl⟩⟩
   rw [ht,List.filterMap_append]
   simp [q])
 obtain ⟨rfl,rfl⟩:=h1
 rw [List.take_length] at e1
 exact e1
theorem mO {it:XI} {e:XE} {τ:Nv} {S S1:Sto} {items:List Vl} (hit:it τ S=.ok ⟨items,none⟩ S1) (f:Vl→D) (hs:∀ z∈items,∀ S:Sto,e (some z :: τ) S=.ok (.d (f z)) S) :
  xLC it 1 (gNm 0) (fun _ S=>.ok true S) e τ S=.ok (.d (.lst (items.map f))) S1:=by
 have:=nT (t:=fun _ S=>.ok true S) (e:=e) hit (fun z=>some (f z)) fun z hz S=>⟨fun x hx=>⟨rfl,by cases hx;exact hs z hz S⟩,fun h=>by cases h⟩
 rw [this]
 congr 4
 rw [List.filterMap_eq_map']
end L2
namespace L2
section
variable {n:Nat} {b:XS} {x y z u v:Vl} {S:Sto}
theorem ck:a_ 1 n b [x] S=leave S (b ([some x]++List.replicate (n - 1) none) S):=oE rfl
theorem dz:a_ 2 n b [x,y] S=leave S (b ([some x,some y]++List.replicate (n - 2) none) S):=oE rfl
theorem cD:a_ 3 n b [x,y,z] S=leave S (b ([some x,some y,some z]++List.replicate (n - 3) none) S):=oE rfl
end
end L2
theorem L2.af {α:Sort _} {a b:α} (h:a=b):a=b:=h
namespace L2
open PySem PySem.Spec PyProof.Rows
def xg (f:Vl→Vl→Sto→R Vl) (r:R Vl) (b:XE) (τ:Nv):R Vl:=r.bind fun x S1=>(b τ S1).bind fun y S2=>f x y S2
def sH (f:Vl→Vl→Sto→R Vl) (x:Vl) (r:R Vl):R Vl:=r.bind fun y S2=>f x y S2
def un1 (f:Vl→Sto→R Vl) (r:R Vl):R Vl:=r.bind fun x S1=>f x S1
def ch3 (r:R Vl) (f:Vl→Vl→Sto→R Vl) (y:Vl) (c:XE) (τ:Nv):R Vl:=r.bind fun z S3=>match z with
 | .d (.bl k)=>if k=true then (c τ S3).bind fun w S4=>f y w S4 else .ok (.d (.bl false)) S3
 | _=>.bad
def ch2 (f f2:Vl→Vl→Sto→R Vl) (x:Vl) (r:R Vl) (c:XE) (τ:Nv):R Vl:=r.bind fun y S2=>ch3 (f x y S2) f2 y c τ
def ch1 (f f2:Vl→Vl→Sto→R Vl) (r:R Vl) (b c:XE) (τ:Nv):R Vl:=r.bind fun x S1=>ch2 f f2 x (b τ S1) c τ
def t1 (r:R Vl):R Bool:=r.bind asB
def tr1 (r:R Vl):R Bool:=r.bind tru
def rP (r:R Bool) (b:XT) (τ:Nv):R Bool:=r.bind fun c S1=>if c=true then b τ S1 else .ok false S1
def or1 (r:R Bool) (b:XT) (τ:Nv):R Bool:=r.bind fun c S1=>if c=true then .ok true S1 else b τ S1
def yq (r:R Bool):R Bool:=r.bind fun c S1=>.ok (!c) S1
def oU (r:R Vl) (b:XE) (τ:Nv):R Vl:=r.bind fun x S1=>(asB x S1).bind fun c S2=>if c=true then b τ S2 else .ok (.d (.bl false)) S2
def tI (r:R Vl) (b:XE) (τ:Nv):R Vl:=r.bind fun x S1=>(asB x S1).bind fun c S2=>if c=true then .ok (.d (.bl true)) S2 else b τ S2
def ui (r:R Vl):R Vl:=r.bind fun x S1=>(asB x S1).bind fun c S2=>.ok (.d (.bl (!c))) S2
def sx (r:R Bool) (a b:XE) (τ:Nv):R Vl:=r.bind fun k S1=>if k=true then a τ S1 else b τ S1
def co2 (x:Vl) (r:R (List Vl)):R (List Vl):=r.bind fun xs S2=>.ok (x :: xs) S2
def co1 (r:R Vl) (t:XA) (τ:Nv):R (List Vl):=r.bind fun x S1=>co2 x (t τ S1)
def n1 (f:List Vl→Sto→R Vl) (r:R (List Vl)):R Vl:=r.bind f
def c1 (F:XF) (r:R (List Vl)):R Vl:=r.bind fun us S1=>noX (F us S1)
def fz1 (r:R Vl):R Vl:=r.bind frz
def p1 (r:R Vl):R (Option Int):=r.bind fun x S1=>match x with
 | .d (.int i)=>.ok (some i) S1
 | _=>.bad
def sl3 (f:Vl→Option Int→Option Int→Sto→R Vl) (x:Vl) (i:Option Int) (r:R (Option Int)):R Vl:=r.bind fun j S3=>f x i j S3
def sl2 (f:Vl→Option Int→Option Int→Sto→R Vl) (x:Vl) (r:R (Option Int)) (h:XO) (τ:Nv):R Vl:=r.bind fun i S2=>sl3 f x i (h τ S2)
def sl1 (f:Vl→Option Int→Option Int→Sto→R Vl) (r:R Vl) (l h:XO) (τ:Nv):R Vl:=r.bind fun x S1=>sl2 f x (l τ S1) h τ
def lm4 (f:Nat→List D→D→Sto→R Vl) (n:Nat) (o:Option Ob) (z:D) (S:Sto):R Vl:=match o with
 | some (.lst xs)=>f n xs z S
 | _=>.bad
def lm3 (f:Nat→List D→D→Sto→R Vl) (n:Nat) (r:R Vl):R Vl:=r.bind fun y S2=>match y with
 | .d z=>lm4 f n S2[n]? z S2
 | _=>.bad
def lm2 (f:Nat→List D→D→Sto→R Vl) (n:Nat) (o:Option Ob) (e:XE) (τ:Nv) (S:Sto):R Vl:=match o with
 | some (.lst _)=>lm3 f n (e τ S)
 | _=>.bad
def lm1 (f:Nat→List D→D→Sto→R Vl) (r:R Vl) (e:XE) (τ:Nv):R Vl:=r.bind fun x S1=>match x with
 | .r n=>lm2 f n S1[n]? e τ S1
 | _=>.bad
def sq1 (r:R (Fl×Nv)) (b:XS):R (Fl×Nv):=r.bind fun q S1=>match q.1 with
 | .nx=>b q.2 S1
 | _=>.ok q S1
def ex1 (r:R Vl) (τ:Nv):R (Fl×Nv):=r.bind fun _ S1=>.ok (.nx,τ) S1
def rt1 (r:R Vl) (τ:Nv):R (Fl×Nv):=r.bind fun z S1=>.ok (.rt z,τ) S1
def if1 (r:R Bool) (a b:XS) (τ:Nv):R (Fl×Nv):=r.bind fun k S1=>if k=true then a τ S1 else b τ S1
def as2 (r:R Nv):R (Fl×Nv):=r.bind fun τ1 S2=>.ok (.nx,τ1) S2
def as1 (r:R Vl) (g:XG) (τ:Nv):R (Fl×Nv):=r.bind fun z S1=>as2 (g z τ S1)
def gc1 (r:R Nv) (gs:XGs) (zs:List Vl):R Nv:=r.bind fun τ1 S1=>gs zs τ1 S1
def gs3 (r:R Unit) (τ:Nv):R Nv:=r.bind fun _ S3=>.ok τ S3
def gs2 (x:Vl) (r:R Vl) (f:Vl→Vl→Vl→Sto→R Unit) (z:Vl) (τ:Nv):R Nv:=r.bind fun y S2=>gs3 (f x y z S2) τ
def gs1 (r:R Vl) (i:XE) (f:Vl→Vl→Vl→Sto→R Unit) (z:Vl) (τ:Nv):R Nv:=r.bind fun x S1=>gs2 x (i τ S1) f z τ
noncomputable def fo1 (r:R Its) (g:XG) (b:XS) (τ:Nv):R (Fl×Nv):=r.bind fun I S1=>b_ g b I.gd I.items τ S1
def is2 (n:Nat) (o:Option Ob) (S:Sto):R Its:=match o with
 | some (.lst xs)=>.ok ⟨xs.map Vl.d,some (n,.lst xs)⟩ S
 | _=>.bad
def is1 (r:R Vl):R Its:=r.bind fun z S1=>match z with
 | .d (.tup xs)=>.ok ⟨xs.map Vl.d,none⟩ S1
 | .d (.lst xs)=>.ok ⟨xs.map Vl.d,none⟩ S1
 | .r n=>is2 n S1[n]? S1
 | _=>.bad
def ir1 (r:R (List Vl)):R Its:=r.bind fun zs S1=>match zs with
 | [.d (.int j)]=>if -100000≤j∧j≤100000 then .ok ⟨(List.range j.toNat).map fun i=>Vl.d (.int (i:Nat)),none⟩ S1 else .bad
 | _=>.bad
def ir2 (r:R (List Vl)):R Its:=r.bind fun zs S1=>match zs with
 | [.d (.int i),.d (.int j)]=>if (-100000≤i∧i≤100000)∧-100000≤j∧j≤100000 then .ok ⟨(List.range (j - i).toNat).map fun k=>Vl.d (.int (i+(k:Nat))),none⟩ S1 else .bad
 | _=>.bad
def ie1 (r:R Vl):R Its:=r.bind fun z S1=>match z with
 | .d (.lst xs)=>.ok ⟨cL 0 xs,none⟩ S1
 | _=>.bad
theorem ud {v:Vl} {τ:Nv} {S:Sto}:ae 0 (some v :: τ) S=.ok v S:=af rfl
theorem ux {n:Nat} {o:Option Vl} {τ:Nv} {S:Sto}:ae (n+1) (o :: τ) S=ae n τ S:=af rfl
theorem xP {x:D} {τ:Nv} {S:Sto}:xC x τ S=.ok (.d x) S:=af rfl
theorem AD {x:Str} {τ:Nv} {S:Sto}:xFn x τ S=.ok (.fn x) S:=af rfl
theorem Ae {f:Vl→Vl→Sto→R Vl} {a b:XE} {τ:Nv} {S:Sto}:xOp f a b τ S=xg f (a τ S) b τ:=af rfl
theorem zb {f:Vl→Vl→Sto→R Vl} {b:XE} {τ:Nv} {S1:Sto} {x:Vl}:xg f (.ok x S1) b τ=sH f x (b τ S1):=af rfl
theorem xM {f:Vl→Vl→Sto→R Vl} {S1:Sto} {x y:Vl}:sH f x (.ok y S1)=f x y S1:=af rfl
theorem Au {u:Vl→Sto→R Vl} {a:XE} {τ:Nv} {S:Sto}:xUn u a τ S=un1 u (a τ S):=af rfl
theorem BG {u:Vl→Sto→R Vl} {S1:Sto} {x:Vl}:un1 u (.ok x S1)=u x S1:=af rfl
theorem sd {f f2:Vl→Vl→Sto→R Vl} {a b c:XE} {τ:Nv} {S:Sto}:fF f f2 a b c τ S=ch1 f f2 (a τ S) b c τ:=af rfl
theorem Bo {f f2:Vl→Vl→Sto→R Vl} {b c:XE} {τ:Nv} {S1:Sto} {x:Vl}:ch1 f f2 (.ok x S1) b c τ=ch2 f f2 x (b τ S1) c τ:=af rfl
theorem BO {f f2:Vl→Vl→Sto→R Vl} {c:XE} {τ:Nv} {S1:Sto} {x y:Vl}:ch2 f f2 x (.ok y S1) c τ=ch3 (f x y S1) f2 y c τ:=af rfl
theorem zo {f:Vl→Vl→Sto→R Vl} {c:XE} {τ:Nv} {S1:Sto} {y:Vl}:ch3 (.ok (.d (.bl true)) S1) f y c τ=sH f y (c τ S1):=af rfl
theorem xu {f:Vl→Vl→Sto→R Vl} {c:XE} {τ:Nv} {S1:Sto} {y:Vl}:ch3 (.ok (.d (.bl false)) S1) f y c τ=.ok (.d (.bl false)) S1:=af rfl
theorem vW {a:XE} {τ:Nv} {S:Sto}:aI a τ S=t1 (a τ S):=af rfl
theorem B1 {k:Bool} {S:Sto}:t1 (.ok (.d (.bl k)) S)=.ok k S:=af rfl
theorem qT {a:XE} {τ:Nv} {S:Sto}:bI a τ S=tr1 (a τ S):=af rfl
theorem uu {z:Vl} {S:Sto}:tr1 (.ok z S)=tru z S:=af rfl
theorem uH {k:Bool} {S:Sto}:tru (.d (.bl k)) S=.ok k S:=af rfl
theorem As {xs:List D} {S:Sto}:tru (.d (.tup xs)) S=.ok (!xs.isEmpty) S:=af rfl
theorem AA {xs:List D} {S:Sto}:tru (.d (.lst xs)) S=.ok (!xs.isEmpty) S:=af rfl
theorem BD {S:Sto}:tru (.d .non) S=.ok false S:=af rfl
theorem ym {a b:XT} {τ:Nv} {S:Sto}:iB a b τ S=rP (a τ S) b τ:=af rfl
theorem yr {b:XT} {τ:Nv} {S:Sto}:rP (.ok true S) b τ=b τ S:=af rfl
theorem xO {b:XT} {τ:Nv} {S:Sto}:rP (.ok false S) b τ=.ok false S:=af rfl
theorem BF {a b:XT} {τ:Nv} {S:Sto}:xOr a b τ S=or1 (a τ S) b τ:=af rfl
theorem BB {b:XT} {τ:Nv} {S:Sto}:or1 (.ok true S) b τ=.ok true S:=af rfl
theorem BI {b:XT} {τ:Nv} {S:Sto}:or1 (.ok false S) b τ=b τ S:=af rfl
theorem ql {a:XT} {τ:Nv} {S:Sto}:cg a τ S=yq (a τ S):=af rfl
theorem qK {S:Sto} {k:Bool}:yq (.ok k S)=.ok (!k) S:=af rfl
theorem uX {a b:XE} {τ:Nv} {S:Sto}:cJ a b τ S=oU (a τ S) b τ:=af rfl
theorem vT {b:XE} {τ:Nv} {S:Sto}:oU (.ok (.d (.bl true)) S) b τ=b τ S:=af rfl
theorem uU {b:XE} {τ:Nv} {S:Sto}:oU (.ok (.d (.bl false)) S) b τ=.ok (.d (.bl false)) S:=af rfl
theorem zp {a b:XE} {τ:Nv} {S:Sto}:Cm a b τ S=tI (a τ S) b τ:=af rfl
theorem wt {b:XE} {τ:Nv} {S:Sto}:tI (.ok (.d (.bl true)) S) b τ=.ok (.d (.bl true)) S:=af rfl
theorem xf {b:XE} {τ:Nv} {S:Sto}:tI (.ok (.d (.bl false)) S) b τ=b τ S:=af rfl
theorem uO {a:XE} {τ:Nv} {S:Sto}:jK a τ S=ui (a τ S):=af rfl
theorem vb {k:Bool} {S:Sto}:ui (.ok (.d (.bl k)) S)=.ok (.d (.bl (!k))) S:=af rfl
theorem yX {c:XT} {a b:XE} {τ:Nv} {S:Sto}:o7 c a b τ S=sx (c τ S) a b τ:=af rfl
theorem wU {a b:XE} {τ:Nv} {S:Sto}:sx (.ok true S) a b τ=a τ S:=af rfl
theorem zK {a b:XE} {τ:Nv} {S:Sto}:sx (.ok false S) a b τ=b τ S:=af rfl
theorem nc {τ:Nv} {S:Sto}:ak τ S=.ok [] S:=af rfl
theorem kv {a:XE} {r:XA} {τ:Nv} {S:Sto}:aa a r τ S=co1 (a τ S) r τ:=af rfl
theorem pN {r:XA} {τ:Nv} {S:Sto} {x:Vl}:co1 (.ok x S) r τ=co2 x (r τ S):=af rfl
theorem pC {S:Sto} {x:Vl} {xs:List Vl}:co2 x (.ok xs S)=.ok (x :: xs) S:=af rfl
theorem B0 {r:XA} {τ:Nv} {S:Sto} {f:List Vl→Sto→R Vl}:xN f r τ S=n1 f (r τ S):=af rfl
theorem Cq {S:Sto} {xs:List Vl} {f:List Vl→Sto→R Vl}:n1 f (.ok xs S)=f xs S:=af rfl
theorem km {r:XA} {τ:Nv} {S:Sto} {F:XF}:ax F r τ S=c1 F (r τ S):=af rfl
theorem sU {S:Sto} {xs:List Vl} {F:XF}:c1 F (.ok xs S)=noX (F xs S):=af rfl
theorem oF {x:Vl} {S:Sto}:noX (R.ok x S)=.ok x S:=af rfl
theorem A7 {a:XE} {τ:Nv} {S:Sto}:xFz a τ S=fz1 (a τ S):=af rfl
theorem zQ {z:Vl} {S:Sto}:fz1 (.ok z S)=frz z S:=af rfl
theorem yn {x:D} {S:Sto}:frz (.d x) S=.ok (.d x) S:=af rfl
theorem qY {τ:Nv} {S:Sto}:bF τ S=.ok none S:=af rfl
theorem vQ {a:XE} {τ:Nv} {S:Sto}:bW a τ S=p1 (a τ S):=af rfl
theorem BR {i:Int} {S:Sto}:p1 (.ok (.d (.int i)) S)=.ok (some i) S:=af rfl
theorem Bw {f:Vl→Option Int→Option Int→Sto→R Vl} {a:XE} {l h:XO} {τ:Nv} {S:Sto}:xSl f a l h τ S=sl1 f (a τ S) l h τ:=af rfl
theorem Ac {f:Vl→Option Int→Option Int→Sto→R Vl} {l h:XO} {τ:Nv} {S:Sto} {x:Vl}:sl1 f (.ok x S) l h τ=sl2 f x (l τ S) h τ:=af rfl
theorem AG {f:Vl→Option Int→Option Int→Sto→R Vl} {h:XO} {τ:Nv} {S:Sto} {x:Vl} {i:Option Int}:sl2 f x (.ok i S) h τ=sl3 f x i (h τ S):=af rfl
theorem Ak {f:Vl→Option Int→Option Int→Sto→R Vl} {S:Sto} {x:Vl} {i j:Option Int}:sl3 f x i (.ok j S)=f x i j S:=af rfl
theorem A1 {f:Nat→List D→D→Sto→R Vl} {o e:XE} {τ:Nv} {S:Sto}:xLm f o e τ S=lm1 f (o τ S) e τ:=af rfl
theorem zZ {f:Nat→List D→D→Sto→R Vl} {e:XE} {τ:Nv} {S:Sto} {n:Nat}:lm1 f (.ok (.r n) S) e τ=lm2 f n S[n]? e τ S:=af rfl
theorem Bz {f:Nat→List D→D→Sto→R Vl} {e:XE} {τ:Nv} {S:Sto} {n:Nat} {xs:List D}:lm2 f n (some (.lst xs)) e τ S=lm3 f n (e τ S):=af rfl
theorem Az {f:Nat→List D→D→Sto→R Vl} {S:Sto} {n:Nat} {z:D}:lm3 f n (.ok (.d z) S)=lm4 f n S[n]? z S:=af rfl
theorem Aq {f:Nat→List D→D→Sto→R Vl} {S:Sto} {n:Nat} {xs:List D} {z:D}:lm4 f n (some (.lst xs)) z S=f n xs z S:=af rfl
theorem i5 {τ:Nv} {S:Sto}:aN τ S=.ok (.nx,τ) S:=af rfl
theorem ft {a b:XS} {τ:Nv} {S:Sto}:az a b τ S=sq1 (a τ S) b:=af rfl
theorem gx {b:XS} {τ:Nv} {S:Sto}:sq1 (.ok (.nx,τ) S) b=b τ S:=af rfl
theorem BC {b:XS} {τ:Nv} {S:Sto} {v:Vl}:sq1 (.ok (.rt v,τ) S) b=.ok (.rt v,τ) S:=af rfl
theorem AF {b:XS} {τ:Nv} {S:Sto}:sq1 (.ok (.bk,τ) S) b=.ok (.bk,τ) S:=af rfl
theorem AS {b:XS} {τ:Nv} {S:Sto}:sq1 (.ok (.ct,τ) S) b=.ok (.ct,τ) S:=af rfl
theorem uM {τ:Nv} {S:Sto} {e:XE}:gB e τ S=ex1 (e τ S) τ:=af rfl
theorem BK {τ:Nv} {S:Sto} {z:Vl}:ex1 (.ok z S) τ=.ok (.nx,τ) S:=af rfl
theorem mR {τ:Nv} {S:Sto} {e:XE}:aH e τ S=rt1 (e τ S) τ:=af rfl
theorem AV {τ:Nv} {S:Sto} {z:Vl}:rt1 (.ok z S) τ=.ok (.rt z,τ) S:=af rfl
theorem v5 {τ:Nv} {S:Sto}:zS τ S=.ok (.rt (.d .non),τ) S:=af rfl
theorem vP {τ:Nv} {S:Sto}:zW τ S=.ok (.ct,τ) S:=af rfl
theorem tJ {τ:Nv} {S:Sto}:zy τ S=.ok (.bk,τ) S:=af rfl
theorem oM {a b:XS} {τ:Nv} {S:Sto} {t:XT}:xIf t a b τ S=if1 (t τ S) a b τ:=af rfl
theorem zE {a b:XS} {τ:Nv} {S:Sto}:if1 (.ok true S) a b τ=a τ S:=af rfl
theorem jN {a b:XS} {τ:Nv} {S:Sto}:if1 (.ok false S) a b τ=b τ S:=af rfl
theorem l5 {τ:Nv} {S:Sto} {e:XE} {g:XG}:aT e g τ S=as1 (e τ S) g τ:=af rfl
theorem lJ {τ:Nv} {S:Sto} {z:Vl} {g:XG}:as1 (.ok z S) g τ=as2 (g z τ S):=af rfl
theorem j8 {τ1:Nv} {S:Sto}:as2 (.ok τ1 S)=.ok (.nx,τ1) S:=af rfl
theorem cf {τ:Nv} {S:Sto} {z:Vl} {i:Nat}:gNm i z τ S=.ok (τ.set i (some z)) S:=af rfl
theorem z9 {gs:XGs} {τ:Nv} {S:Sto} {xs:List D} {n:Nat}:gTu n gs (.d (.tup xs)) τ S=if xs.length=n then gs (xs.map Vl.d) τ S else .bad:=af rfl
theorem AI {τ:Nv} {S:Sto}:gN0 [] τ S=.ok τ S:=af rfl
theorem Bg {g:XG} {gs:XGs} {τ:Nv} {S:Sto} {z:Vl} {zs:List Vl}:gCo g gs (z :: zs) τ S=gc1 (g z τ S) gs zs:=af rfl
theorem Ag {gs:XGs} {τ1:Nv} {S:Sto} {zs:List Vl}:gc1 (.ok τ1 S) gs zs=gs zs τ1 S:=af rfl
theorem t_ {τ:Nv} {S:Sto} {z:Vl} {o e:XE} {f:Vl→Vl→Vl→Sto→R Unit}:gSb o e f z τ S=gs1 (o τ S) e f z τ:=af rfl
theorem ug {τ:Nv} {S:Sto} {z x:Vl} {e:XE} {f:Vl→Vl→Vl→Sto→R Unit}:gs1 (.ok x S) e f z τ=gs2 x (e τ S) f z τ:=af rfl
theorem um {τ:Nv} {S:Sto} {z x y:Vl} {f:Vl→Vl→Vl→Sto→R Unit}:gs2 x (.ok y S) f z τ=gs3 (f x y z S) τ:=af rfl
theorem pD {τ:Nv} {S:Sto}:gs3 (.ok () S) τ=.ok τ S:=af rfl
theorem nh {it:XI} {g:XG} {b:XS} {τ:Nv} {S:Sto}:ed it g b τ S=fo1 (it τ S) g b τ:=af rfl
theorem pv {g:XG} {b:XS} {τ:Nv} {S:Sto} {I:Its}:fo1 (.ok I S) g b τ=b_ g b I.gd I.items τ S:=af rfl
theorem jP {τ:Nv} {S:Sto} {e:XE}:ee e τ S=is1 (e τ S):=af rfl
theorem lS {S:Sto} {xs:List D}:is1 (.ok (.d (.tup xs)) S)=.ok ⟨xs.map Vl.d,none⟩ S:=af rfl
theorem rF {S:Sto} {xs:List D}:is1 (.ok (.d (.lst xs)) S)=.ok ⟨xs.map Vl.d,none⟩ S:=af rfl
theorem yW {S:Sto} {n:Nat}:is1 (.ok (.r n) S)=is2 n S[n]? S:=af rfl
theorem Ah {S:Sto} {xs:List D} {n:Nat}:is2 n (some (.lst xs)) S=.ok ⟨xs.map Vl.d,some (n,.lst xs)⟩ S:=af rfl
theorem xy {τ:Nv} {S:Sto} {as:XA}:ji as τ S=ir1 (as τ S):=af rfl
theorem yU {τ:Nv} {S:Sto} {as:XA}:sv as τ S=ir2 (as τ S):=af rfl
theorem wA {τ:Nv} {S:Sto} {e:XE}:sg e τ S=ie1 (e τ S):=af rfl
theorem AH {S:Sto} {xs:List D}:ie1 (.ok (.d (.lst xs)) S)=.ok ⟨cL 0 xs,none⟩ S:=af rfl
theorem lE {j:Int} {S:Sto} (h:-100000≤j∧j≤100000):ir1 (.ok [.d (.int j)] S)=.ok ⟨(List.range j.toNat).map fun i=>Vl.d (.int (i:Nat)),none⟩ S:=by rw [show ir1 (.ok [.d (.int j)] S)=if -100000≤j∧j≤100000 then .ok ⟨(List.range j.toNat).map fun i=>Vl.d (.int (i:Nat)),none⟩ S else .bad from rfl,if_pos h]
theorem uz {i j:Int} {S:Sto} (h:(-100000≤i∧i≤100000)∧-100000≤j∧j≤100000):ir2 (.ok [.d (.int i),.d (.int j)] S)=.ok ⟨(List.range (j - i).toNat).map fun k=>Vl.d (.int (i+(k:Nat))),none⟩ S:=by rw [show ir2 (.ok [.d (.int i),.d (.int j)] S)=if (-100000≤i∧i≤100000)∧-100000≤j∧j≤100000 then .ok ⟨(List.range (j - i).toNat).map fun k=>Vl.d (.int (i+(k:Nat))),none⟩ S else .bad from rfl,if_pos h]
theorem BX {i j:Int} {S:Sto} {g:Int→Int→D}:oI0 g (.d (.int i)) (.d (.int j)) S=.ok (.d (g i j)) S:=af rfl
theorem zh {i j:Int} {S:Sto}:aP (.d (.int i)) (.d (.int j)) S=.ok (.d (.int (i+j))) S:=af rfl
theorem A2 {i:Int} {S:Sto}:c8 (.d (.int i)) S=.ok (.d (.int (-i))) S:=af rfl
theorem cO {S:Sto} {xs ys:List D} (h:xs.length+ys.length≤100000):aP (.d (.tup xs)) (.d (.tup ys)) S=.ok (.d (.tup (xs++ys))) S:=by rw [show aP (.d (.tup xs)) (.d (.tup ys)) S=if xs.length+ys.length≤100000 then .ok (.d (.tup (xs++ys))) S else .bad from rfl,if_pos h]
theorem iN {S:Sto} {xs ys:List D} (h:xs.length+ys.length≤100000):aP (.d (.lst xs)) (.d (.lst ys)) S=.ok (.d (.lst (xs++ys))) S:=by rw [show aP (.d (.lst xs)) (.d (.lst ys)) S=if xs.length+ys.length≤100000 then .ok (.d (.lst (xs++ys))) S else .bad from rfl,if_pos h]
theorem AJ {i j:Int} {S:Sto}:oEq (.d (.int i)) (.d (.int j)) S=.ok (.d (.bl (decide (i=j)))) S:=af rfl
theorem A6 {i j:Int} {S:Sto}:oNe (.d (.int i)) (.d (.int j)) S=.ok (.d (.bl (!decide (i=j)))) S:=af rfl
theorem A5 {S:Sto} {s t:Str}:oEq (.d (.str s)) (.d (.str t)) S=.ok (.d (.bl (decide (s=t)))) S:=af rfl
theorem zM {S:Sto} {s t:Str}:oNe (.d (.str s)) (.d (.str t)) S=.ok (.d (.bl (!decide (s=t)))) S:=af rfl
theorem AN {S:Sto} {p q:Bool}:oEq (.d (.bl p)) (.d (.bl q)) S=.ok (.d (.bl (decide (p=q)))) S:=af rfl
theorem Bl {S:Sto} {p q:Bool}:oNe (.d (.bl p)) (.d (.bl q)) S=.ok (.d (.bl (!decide (p=q)))) S:=af rfl
theorem AB {S:Sto} {xs ys:List D} (h:D.depth (.tup xs)≤50):oEq (.d (.tup xs)) (.d (.tup ys)) S=.ok (.d (.bl (D.bt xs ys))) S:=by
 have:eqD (.d (.tup xs)) (.d (.tup ys)) S=some (D.bt xs ys):=by rw [show eqD (.d (.tup xs)) (.d (.tup ys)) S=if D.depth (.tup xs)≤50 then some (D.bt xs ys) else none from rfl,if_pos h]
 unfold oEq;rw [this]
theorem zN {S:Sto} {xs ys:List D} (h:D.depth (.tup xs)≤50):oNe (.d (.tup xs)) (.d (.tup ys)) S=.ok (.d (.bl (!D.bt xs ys))) S:=by
 have:eqD (.d (.tup xs)) (.d (.tup ys)) S=some (D.bt xs ys):=by rw [show eqD (.d (.tup xs)) (.d (.tup ys)) S=if D.depth (.tup xs)≤50 then some (D.bt xs ys) else none from rfl,if_pos h]
 unfold oNe;rw [this]
theorem j7 {S:Sto} {xs ys:List D} (h:D.depth (.lst xs)≤50):oNe (.d (.lst xs)) (.d (.lst ys)) S=.ok (.d (.bl (!D.bt xs ys))) S:=by
 have:eqD (.d (.lst xs)) (.d (.lst ys)) S=some (D.bt xs ys):=by rw [show eqD (.d (.lst xs)) (.d (.lst ys)) S=if D.depth (.lst xs)≤50 then some (D.bt xs ys) else none from rfl,if_pos h]
 unfold oNe;rw [this]
theorem Af {S:Sto} {p q:Bool}:oIs (.d (.bl p)) (.d (.bl q)) S=.ok (.d (.bl (p == q))) S:=af rfl
theorem xp {S:Sto}:oIs (.d .non) (.d .non) S=.ok (.d (.bl true)) S:=af rfl
theorem yK {S:Sto} {xs:List D}:oIs (.d (.tup xs)) (.d .non) S=.ok (.d (.bl false)) S:=af rfl
theorem wH {S:Sto} {xs:List D}:oIs (.d (.lst xs)) (.d .non) S=.ok (.d (.bl false)) S:=af rfl
theorem yT {i:Int} {S:Sto}:oIs (.d (.int i)) (.d .non) S=.ok (.d (.bl false)) S:=af rfl
theorem t7 {S:Sto}:lG (.d .non) (.d .non) S=.ok (.d (.bl false)) S:=af rfl
theorem sS {S:Sto} {xs:List D}:lG (.d (.tup xs)) (.d .non) S=.ok (.d (.bl true)) S:=af rfl
theorem sT {S:Sto} {xs:List D}:lG (.d (.lst xs)) (.d .non) S=.ok (.d (.bl true)) S:=af rfl
theorem rQ {i:Int} {S:Sto}:lG (.d (.int i)) (.d .non) S=.ok (.d (.bl true)) S:=af rfl
theorem AZ {T:String} {x:D} {S:Sto}:bD T (.d x) S=.ok (.d (.bl (isT T x))) S:=af rfl
theorem my {S:Sto} {xs:List D}:br [.d (.tup xs)] S=.ok (.d (.int xs.length)) S:=af rfl
theorem wk {S:Sto} {xs:List D}:br [.d (.lst xs)] S=.ok (.d (.int xs.length)) S:=af rfl
theorem xY {S:Sto} {xs:List D}:fC [.d (.tup xs)] S=.ok (.d (.tup xs)) S:=af rfl
theorem zf {S:Sto} {xs:List D}:fC [.d (.lst xs)] S=.ok (.d (.tup xs)) S:=af rfl
theorem yB {S:Sto} {xs:List D}:dS [.d (.tup xs)] S=.ok (.d (.lst xs)) S:=af rfl
theorem xr {S:Sto} {xs:List D}:dS [.d (.lst xs)] S=.ok (.d (.lst xs)) S:=af rfl
theorem va {S:Sto} {xs:List D}:iP [.d (.tup xs)] S=.ok (.r S.length) (S++[.lst xs]):=af rfl
theorem uS {S:Sto} {xs:List D}:iP [.d (.lst xs)] S=.ok (.r S.length) (S++[.lst xs]):=af rfl
theorem Br {i j:Int} {S:Sto}:pQ [.d (.int i),.d (.int j)] S=.ok (.d (.int (if j > i then j else i))) S:=af rfl
theorem Bv {i j:Int} {S:Sto}:pK [.d (.int i),.d (.int j)] S=.ok (.d (.int (if j < i then j else i))) S:=af rfl
theorem dk {i:Int} {S:Sto} {xs:List D} {z:D} (h:atI xs i=some z):oIx (.d (.tup xs)) (.d (.int i)) S=.ok (.d z) S:=by rw [show oIx (.d (.tup xs)) (.d (.int i)) S=(match atI xs i with | some z=>.ok (.d z) S | none=>.bad) from rfl,h]
theorem lI {i:Int} {S:Sto} {xs:List D} {z:D} (h:atI xs i=some z):oIx (.d (.lst xs)) (.d (.int i)) S=.ok (.d z) S:=by rw [show oIx (.d (.lst xs)) (.d (.int i)) S=(match atI xs i with | some z=>.ok (.d z) S | none=>.bad) from rfl,h]
theorem lH {i:Int} {S:Sto} {xs:List D} {z:D} {n:Nat} (e:S[n]?=some (.lst xs)) (h:atI xs i=some z):oIx (.r n) (.d (.int i)) S=.ok (.d z) S:=by
 have:bU (.r n) S=some xs:=by unfold bU cU;dsimp only;rw [e]
 unfold oIx;dsimp only;rw [this];dsimp only;rw [h]
theorem Bi {xs:List D} {i j:Option Int} {S:Sto}:oSl (.d (.tup xs)) i j S=.ok (.d (.tup (cx xs i j))) S:=af rfl
theorem AW {xs:List D} {i j:Option Int} {S:Sto}:oSl (.d (.lst xs)) i j S=.ok (.d (.lst (cx xs i j))) S:=af rfl
theorem zR {ns:List Int} {i j:Option Int} {S:Sto}:mG (.sc ns) i j S=.ok (.d (.lst (cx (ns.map D.int) i j))) S:=af rfl
theorem Ay {S:Sto} {xs:List D}:kq (.d (.tup xs)) (.d (.int (-1))) S=.ok (.d (.tup xs.reverse)) S:=af rfl
theorem Bu {i j:Int} {S:Sto}:c9 (.d (.int i)) (.d (.int j)) S=.ok (.d (.int (i - j))) S:=af rfl
theorem Co {i j:Int} {S:Sto}:oLt (.d (.int i)) (.d (.int j)) S=.ok (.d (.bl (decide (i < j)))) S:=af rfl
theorem B9 {i j:Int} {S:Sto}:oLe (.d (.int i)) (.d (.int j)) S=.ok (.d (.bl (decide (i≤j)))) S:=af rfl
theorem B6 {i j:Int} {S:Sto}:oGt (.d (.int i)) (.d (.int j)) S=.ok (.d (.bl (decide (j < i)))) S:=af rfl
theorem B4 {i j:Int} {S:Sto}:oGe (.d (.int i)) (.d (.int j)) S=.ok (.d (.bl (decide (j≤i)))) S:=af rfl
theorem Bt {i j:Int} {S:Sto} (h:gz i j):fc (.d (.int i)) (.d (.int j)) S=.ok (.d (.int (i * j))) S:=by rw [show fc (.d (.int i)) (.d (.int j)) S=if gz i j then .ok (.d (.int (i * j))) S else .bad from rfl,if_pos h]
theorem uC {i j:Int} {S:Sto} (h:0 < j):oMod (.d (.int i)) (.d (.int j)) S=.ok (.d (.int (i % j))) S:=by rw [show oMod (.d (.int i)) (.d (.int j)) S=if 0 < j then .ok (.d (.int (i % j))) S else .bad from rfl,if_pos h]
theorem AR {i j:Int} {S:Sto} (h:kn i j):oDiv (.d (.int i)) (.d (.int j)) S=.ok (.d (.int (i / j))) S:=by rw [show oDiv (.d (.int i)) (.d (.int j)) S=if kn i j then .ok (.d (.int (i / j))) S else .bad from rfl,if_pos h]
theorem iS {i j:Int} {S:Sto} (h:kd i j):jv (.d (.int i)) (.d (.int j)) S=.ok (.d (.int (i ^ j.toNat))) S:=by rw [show jv (.d (.int i)) (.d (.int j)) S=if kd i j then .ok (.d (.int (i ^ j.toNat))) S else .bad from rfl,if_pos h]
theorem Bb {i j:Int} (h1:-(2 ^ 64) < j) (h2:j < 2 ^ 64):gz i j:=.inr ⟨h1,h2⟩
theorem w8 {S:Sto}:mkT [] S=.ok (.d (.tup [])) S:=af rfl
theorem zc {S:Sto}:mkL [] S=.ok (.d (.lst [])) S:=af rfl
theorem za {S:Sto}:mkM [] S=.ok (.r S.length) (S++[.lst []]):=af rfl
theorem xk {a:D} {S:Sto}:mkT [.d a] S=.ok (.d (.tup [a])) S:=af rfl
theorem xm {a:D} {S:Sto}:mkL [.d a] S=.ok (.d (.lst [a])) S:=af rfl
theorem yA {a:D} {S:Sto}:mkM [.d a] S=.ok (.r S.length) (S++[.lst [a]]):=af rfl
theorem xW {a b:D} {S:Sto}:mkT [.d a,.d b] S=.ok (.d (.tup [a,b])) S:=af rfl
theorem xv {a b:D} {S:Sto}:mkL [.d a,.d b] S=.ok (.d (.lst [a,b])) S:=af rfl
theorem wR {a b:D} {S:Sto}:mkM [.d a,.d b] S=.ok (.r S.length) (S++[.lst [a,b]]):=af rfl
theorem xT {a b c:D} {S:Sto}:mkT [.d a,.d b,.d c] S=.ok (.d (.tup [a,b,c])) S:=af rfl
theorem y0 {a b c:D} {S:Sto}:mkL [.d a,.d b,.d c] S=.ok (.d (.lst [a,b,c])) S:=af rfl
theorem xV {a b c:D} {S:Sto}:mkM [.d a,.d b,.d c] S=.ok (.r S.length) (S++[.lst [a,b,c]]):=af rfl
theorem yJ {a b c d:D} {S:Sto}:mkT [.d a,.d b,.d c,.d d] S=.ok (.d (.tup [a,b,c,d])) S:=af rfl
theorem zq {a b c d:D} {S:Sto}:mkL [.d a,.d b,.d c,.d d] S=.ok (.d (.lst [a,b,c,d])) S:=af rfl
theorem zC {a b c d e:D} {S:Sto}:mkT [.d a,.d b,.d c,.d d,.d e] S=.ok (.d (.tup [a,b,c,d,e])) S:=af rfl
theorem yb {a b c d e:D} {S:Sto}:mkL [.d a,.d b,.d c,.d d,.d e] S=.ok (.d (.lst [a,b,c,d,e])) S:=af rfl
theorem zH {a b c d e f:D} {S:Sto}:mkT [.d a,.d b,.d c,.d d,.d e,.d f] S=.ok (.d (.tup [a,b,c,d,e,f])) S:=af rfl
theorem yC {a b c d e f:D} {S:Sto}:mkL [.d a,.d b,.d c,.d d,.d e,.d f] S=.ok (.d (.lst [a,b,c,d,e,f])) S:=af rfl
theorem wO {a b c d e f g:D} {S:Sto}:mkT [.d a,.d b,.d c,.d d,.d e,.d f,.d g] S=.ok (.d (.tup [a,b,c,d,e,f,g])) S:=af rfl
theorem wG {a b c d e f g:D} {S:Sto}:mkL [.d a,.d b,.d c,.d d,.d e,.d f,.d g] S=.ok (.d (.lst [a,b,c,d,e,f,g])) S:=af rfl
theorem yR {a b c d e f g h:D} {S:Sto}:mkT [.d a,.d b,.d c,.d d,.d e,.d f,.d g,.d h] S=.ok (.d (.tup [a,b,c,d,e,f,g,h])) S:=af rfl
theorem yM {a b c d e f g h:D} {S:Sto}:mkL [.d a,.d b,.d c,.d d,.d e,.d f,.d g,.d h] S=.ok (.d (.lst [a,b,c,d,e,f,g,h])) S:=af rfl
theorem wZ {a b c d e f g h i:D} {S:Sto}:mkT [.d a,.d b,.d c,.d d,.d e,.d f,.d g,.d h,.d i] S=.ok (.d (.tup [a,b,c,d,e,f,g,h,i])) S:=af rfl
theorem wB {a b c d e f g h i:D} {S:Sto}:mkL [.d a,.d b,.d c,.d d,.d e,.d f,.d g,.d h,.d i] S=.ok (.d (.lst [a,b,c,d,e,f,g,h,i])) S:=af rfl
theorem vZ {a b c d e f g h i j:D} {S:Sto}:mkT [.d a,.d b,.d c,.d d,.d e,.d f,.d g,.d h,.d i,.d j] S=.ok (.d (.tup [a,b,c,d,e,f,g,h,i,j])) S:=af rfl
theorem vK {a b c d e f g h i j:D} {S:Sto}:mkL [.d a,.d b,.d c,.d d,.d e,.d f,.d g,.d h,.d i,.d j] S=.ok (.d (.lst [a,b,c,d,e,f,g,h,i,j])) S:=af rfl
theorem u9 {a b c d e f g h i j k:D} {S:Sto}:mkT [.d a,.d b,.d c,.d d,.d e,.d f,.d g,.d h,.d i,.d j,.d k] S=.ok (.d (.tup [a,b,c,d,e,f,g,h,i,j,k])) S:=af rfl
theorem vm {a b c d e f g h i j k:D} {S:Sto}:mkL [.d a,.d b,.d c,.d d,.d e,.d f,.d g,.d h,.d i,.d j,.d k] S=.ok (.d (.lst [a,b,c,d,e,f,g,h,i,j,k])) S:=af rfl
theorem vX {a b c d e f g h i j k l:D} {S:Sto}:mkT [.d a,.d b,.d c,.d d,.d e,.d f,.d g,.d h,.d i,.d j,.d k,.d l] S=.ok (.d (.tup [a,b,c,d,e,f,g,h,i,j,k,l])) S:=af rfl
theorem vN {a b c d e f g h i j k l:D} {S:Sto}:mkL [.d a,.d b,.d c,.d d,.d e,.d f,.d g,.d h,.d i,.d j,.d k,.d l] S=.ok (.d (.lst [a,b,c,d,e,f,g,h,i,j,k,l])) S:=af rfl
theorem n6 {o x:Ob} {R:Sto}:(o :: (R++[x]))[R.length+1]?=some x:=by simp
theorem tL {x:Ob} {R:Sto}:(R++[x])[R.length]?=some x:=by simp
theorem sV {x y:Ob} {R:Sto}:(R++[x]).set R.length y=R++[y]:=by simp
theorem sY {x y:Ob} {R:Sto}:(R++[x,y])[R.length]?=some x:=by simp
theorem r0 {x y z:Ob} {R:Sto}:(R++[x,y]).set R.length z=R++[z,y]:=by simp
theorem t6 {x y:Ob} {R:Sto}:(R++[x,y])[R.length+1]?=some y:=by simp
theorem sJ {x y z:Ob} {R:Sto}:(R++[x,y]).set (R.length+1) z=R++[x,z]:=by simp
theorem rq (ns:List Int):(ns.map D.int).all D.flat=true:=by rw [List.all_map];exact List.all_eq_true.mpr fun _ _=>rfl
theorem uV (w:Int) (ns:List Int):inD (.int w) (ns.map D.int)=decide (w∈ns):=by
 unfold inD
 rw [List.any_map,Bool.eq_iff_iff,List.any_eq_true,decide_eq_true_eq]
 constructor
 ·rintro ⟨x,hx,e⟩
  have e':(x == w)=true:=e
  rw [← (beq_iff_eq.mp e')];exact hx
 ·intro h
  exact ⟨w,h,by show (w == w)=true;simp⟩
theorem uo {n:Nat} {S:Sto} {xs:List D} (e:S[n]?=some (.lst xs)):bU (.r n) S=some xs:=by unfold bU cU;dsimp only;rw [e]
theorem fA {w:Int} {y:Vl} {S:Sto} {ns:List Int} (h:bU y S=some (ns.map D.int)):inX (.d (.int w)) y S=some (decide (w∈ns)):=by
 unfold inX
 dsimp only
 rw [h]
 dsimp only
 rw [show D.flat (.int w)=true from rfl,rq,if_pos (by rfl),uV]
theorem Be {w:Int} {ns:List Int} {S:Sto}:oIn (.d (.int w)) (.d (.tup (ns.map D.int))) S=.ok (.d (.bl (decide (w∈ns)))) S:=by unfold oIn;rw [fA (ns:=ns) rfl]
theorem xI {w:Int} {ns:List Int} {S:Sto}:dI (.d (.int w)) (.d (.tup (ns.map D.int))) S=.ok (.d (.bl (!decide (w∈ns)))) S:=by unfold dI;rw [fA (ns:=ns) rfl]
theorem AM {w:Int} {ns:List Int} {S:Sto}:oIn (.d (.int w)) (.d (.lst (ns.map D.int))) S=.ok (.d (.bl (decide (w∈ns)))) S:=by unfold oIn;rw [fA (ns:=ns) rfl]
theorem zd {w:Int} {ns:List Int} {S:Sto}:dI (.d (.int w)) (.d (.lst (ns.map D.int))) S=.ok (.d (.bl (!decide (w∈ns)))) S:=by unfold dI;rw [fA (ns:=ns) rfl]
theorem xR {w:Int} {ns:List Int} {n:Nat} {S:Sto} (e:S[n]?=some (.lst (ns.map D.int))):dI (.d (.int w)) (.r n) S=.ok (.d (.bl (!decide (w∈ns)))) S:=by unfold dI;rw [fA (uo e)]
theorem A8 {n:Nat} {xs:List D} {z:D} {S:Sto} (h:xs.length < 100000):ke n xs z S=.ok (.d .non) (S.set n (.lst (xs++[z]))):=by unfold ke;rw [if_pos h]
theorem v3 {x:Vl} {S:Sto} {ns:List Int} (e:bU x S=some (ns.map D.int)) (h:ns.length < 64):i6 [x] S=.ok (.d (.lst ((sortI ns).map D.int))) S:=by
 unfold i6
 dsimp only
 rw [e,Option.bind_some,gH]
 dsimp only
 rw [if_pos h]
theorem vS {n:Nat} {S:Sto} {ns:List Int} (e:S[n]?=some (.lst (ns.map D.int))) (h:ns.length < 64):i6 [.r n] S=.ok (.d (.lst ((sortI ns).map D.int))) S:=v3 (uo e) h
theorem uF {x:Vl} {S:Sto} {ns:List Int} (e:bU x S=some (ns.map D.int)) (h:ns.length≤300) (h2:(bM ns).length < 64):oSS x S=.ok (.d (.lst ((bM ns).map D.int))) S:=by
 unfold oSS pd
 rw [e,Option.bind_some,gH]
 dsimp only
 rw [if_pos ⟨h,h2⟩]
theorem mq (x:Int):∀ ys,(fj x ys).length≤ys.length+1
 | []=>by simp [fj]
 | y :: ys=>by
  unfold fj
  split
  ·simp
  ·split
   ·simp
   ·have:=mq x ys
    simp
    omega
theorem iJ:∀ xs,(bM xs).length≤xs.length
 | []=>by simp [bM]
 | x :: xs=>by
  have:=mq x (bM xs)
  have:=iJ xs
  rw [bM,List.length_cons]
  omega
theorem kK (ns:List Int):(sortI ns).length=ns.length:=(sortI_perm ns).length_eq
theorem rB (ns:List Int) (z:Int):z∈sortI ns↔z∈ns:=(sortI_perm ns).mem_iff
theorem sF {ns:List Int} (h:ns.Nodup):(sortI ns).Pairwise (· < ·):=((gL ns).and ((sortI_perm ns).nodup_iff.mpr h)).imp fun z=>by have:=z.1;have:=z.2;omega
theorem xw {ds:List D} {bs:List Bool} {S:Sto} (h:dA ds=some bs):iO [.d (.lst ds)] S=.ok (.d (.bl (bs.all id))) S:=by
 unfold iO
 dsimp only
 rw [show cU (.d (.lst ds)) S=some ds from rfl,Option.bind_some,h]
theorem om {α:Type} (f:α→Bool):∀ l:List α,dA (l.map fun x=>D.bl (f x))=some (l.map f)
 | []=>rfl
 | x :: l=>by simp [dA,om f l]
theorem m_ {α:Type} (f:α→Int):∀ l:List α,intsOf (l.map fun x=>D.int (f x))=some (l.map f)
 | []=>rfl
 | x :: l=>by simp [intsOf,m_ f l]
theorem mn {α:Type} {f:α→Bool} {l:List α} {S:Sto}:iO [.d (.lst (l.map fun x=>D.bl (f x)))] S=.ok (.d (.bl (l.all f))) S:=by rw [xw (om f l),List.all_map];rfl
theorem yc {j:Int} {S:Sto} (h:0≤j∧j≤1000):lrg o9 [.d (.int j)] S=.ok (.d (.lst ((List.range j.toNat).map fun i=>D.int (i:Nat)))) S:=by
 unfold lrg
 dsimp only
 rw [if_pos h]
 rfl
theorem Bf {it:XI} {t:XT} {e:XE} {τ:Nv} {S:Sto} {r:R Vl} (hC:xLC it 1 (gNm 0) t e τ S=r) {S1:Sto} {items:List Vl} (hit:it τ S=.ok ⟨items,none⟩ S1) (J:Nat→List D→Sto→Prop) (h0:J 0 [] S1)
  (hs:∀ i z acc Q,items[i]?=some z→J i acc Q→Q.length=S1.length→∃ b Q1,t (some z :: τ) (Q++[.lst acc])=.ok b (Q1++[.lst acc])∧Q1.length=S1.length ∧
   (b=true→∃ x Q2,e (some z :: τ) (Q1++[.lst acc])=.ok (.d x) (Q2++[.lst acc])∧Q2.length=S1.length∧J (i+1) (acc++[x]) Q2)∧(b=false→J (i+1) acc Q1)) :
  ∃ acc Q,r=.ok (.d (.lst acc)) Q∧Q.length=S1.length∧J items.length acc Q:=by
 obtain ⟨acc,Q,e1,h⟩:=qt (t:=t) (e:=e) hit J h0 hs
 exact ⟨acc,Q,hC.symm.trans e1,h⟩
theorem zG {it:XI} {e:XE} {τ:Nv} {S:Sto} {r:R Vl} (hC:xLC it 1 (gNm 0) (fun _ S=>.ok true S) e τ S=r) {S1:Sto} {items:List Vl} (hit:it τ S=.ok ⟨items,none⟩ S1) (J:Nat→List D→Sto→Prop) (h0:J 0 [] S1)
  (hs:∀ i z acc Q,items[i]?=some z→J i acc Q→Q.length=S1.length→∃ x Q2,e (some z :: τ) (Q++[.lst acc])=.ok (.d x) (Q2++[.lst acc])∧Q2.length=S1.length∧J (i+1) (acc++[x]) Q2) :
  ∃ acc Q,r=.ok (.d (.lst acc)) Q∧Q.length=S1.length∧J items.length acc Q:=
 Bf hC hit J h0 fun i z acc Q hz hJ hl=>⟨true,Q,rfl,hl,fun _=>hs i z acc Q hz hJ hl,fun z=>(by cases z)⟩
theorem nD {e:XE} {a:XE} {τ:Nv} {S S1:Sto} {r:R Vl} (hC:xLC (ee a) 1 (gNm 0) (fun _ S=>.ok true S) e τ S=r) {xs:List D} (ha:a τ S=.ok (.d (.tup xs)) S1) (f:D→D) (hs:∀ x∈xs,∀ S:Sto,e (some (.d x) :: τ) S=.ok (.d (f x)) S):r=.ok (.d (.lst (xs.map f))) S1:=by
 rw [← hC,mO (items:=xs.map Vl.d) (S1:=S1) (by rw [jP,ha,lS]) (fun z=>match z with | .d x=>f x | _=>.non) (by
  intro z hz S
  obtain ⟨x,hx,rfl⟩:=List.mem_map.mp hz
  exact hs x hx S)]
 rw [List.map_map]
 rfl
theorem eE {it:XI} {g:XG} {b:XS} {τ:Nv} {S:Sto} {r:R (Fl×Nv)} (hL:ed it g b τ S=r) {S1:Sto} {items:List Vl} {gd:Option (Nat×Ob)} (hit:it τ S=.ok ⟨items,gd⟩ S1) (I:Nat→Nv→Sto→Prop) (h0:I 0 τ S1)
  (hs:∀ i z τ S,items[i]?=some z→I i τ S→∃ τ1 S1 fl τ2 S2,g z τ S=.ok τ1 S1∧b τ1 S1=.ok (fl,τ2) S2∧(fl=.nx∨fl=.ct)∧gok gd S2∧I (i+1) τ2 S2):∃ τ' S',r=.ok (.nx,τ') S'∧I items.length τ' S':=by
 obtain ⟨τ',S',e,h⟩:=mY (g:=g) (b:=b) (gd:=gd) I h0 hs
 refine ⟨τ',S',?_,h⟩
 rw [← hL,nh,hit,pv]
 exact e
theorem lW {g:XG} {b:XS} {gd:Option (Nat×Ob)} (Pr:Vl→Sto→Prop):∀ {items:List Vl} {τ:Nv} {S:Sto} (I:Nat→Nv→Sto→Prop),I 0 τ S →
  (∀ i z τ S,items[i]?=some z→I i τ S→∃ τ1 S1 fl τ2 S2,g z τ S=.ok τ1 S1∧b τ1 S1=.ok (fl,τ2) S2∧(((fl=.nx∨fl=.ct)∧gok gd S2∧I (i+1) τ2 S2)∨∃ v,fl=.rt v∧Pr v S2)) →
  (∃ τ' S',b_ g b gd items τ S=.ok (.nx,τ') S'∧I items.length τ' S')∨∃ v τ' S',b_ g b gd items τ S=.ok (.rt v,τ') S'∧Pr v S'
 | [],τ,S,I,h0,_=>.inl ⟨τ,S,rfl,h0⟩
 | z :: zs,τ,S,I,h0,hs=>by
  obtain ⟨τ1,S1,fl,τ2,S2,e1,e2,h⟩:=hs 0 z τ S rfl h0
  rcases h with ⟨hf,hg,hI⟩ | ⟨v,rfl,hv⟩
  ·have st:b_ g b gd (z :: zs) τ S=b_ g b gd zs τ2 S2:=by
    rw [b_,e1,bL,e2,bL]
    rcases hf with rfl | rfl
    ·dsimp only;rw [if_pos hg]
    ·dsimp only;rw [if_pos hg]
   rw [st]
   exact lW Pr (items:=zs) (fun i=>I (i+1)) hI fun i z' τ S hz hi=>hs (i+1) z' τ S (by simpa using hz) hi
  ·refine .inr ⟨v,τ2,S2,?_,hv⟩
   rw [b_,e1,bL,e2,bL]
theorem vV {it:XI} {g:XG} {b:XS} {τ:Nv} {S:Sto} {r:R (Fl×Nv)} (hL:ed it g b τ S=r) (Pr:Vl→Sto→Prop) {S1:Sto} {items:List Vl} {gd:Option (Nat×Ob)} (hit:it τ S=.ok ⟨items,gd⟩ S1) (I:Nat→Nv→Sto→Prop) (h0:I 0 τ S1)
  (hs:∀ i z τ S,items[i]?=some z→I i τ S→∃ τ1 S1 fl τ2 S2,g z τ S=.ok τ1 S1∧b τ1 S1=.ok (fl,τ2) S2∧(((fl=.nx∨fl=.ct)∧gok gd S2∧I (i+1) τ2 S2)∨∃ v,fl=.rt v∧Pr v S2)) :
  (∃ τ' S',r=.ok (.nx,τ') S'∧I items.length τ' S')∨∃ v τ' S',r=.ok (.rt v,τ') S'∧Pr v S':=by
 have q:=lW (g:=g) (b:=b) (gd:=gd) Pr I h0 hs
 have e:r=b_ g b gd items τ S1:=by rw [← hL,nh,hit,pv]
 rw [e]
 exact q
theorem kh {n:Nat} {i:Nat} {z:Vl} (h:((List.range n).map fun i=>Vl.d (.int (i:Nat)))[i]?=some z):i < n∧z=.d (.int i):=by
 have hi:i < n:=by simpa using (List.getElem?_eq_some_iff.mp h).1
 rw [List.getElem?_map,List.getElem?_range hi] at h
 exact ⟨hi,(Option.some.inj h).symm⟩
theorem n5 {n:Nat}:((List.range n).map fun i=>Vl.d (.int (i:Nat))).length=n:=by simp
theorem rV {α β:Type} {f:α→β} {l:List α} {x:α}:(l++[x]).map f=l.map f++[f x]:=by rw [List.map_append];rfl
end L2
namespace L2
open PySem PySem.Spec PyProof.Rows ZS
def cH (xs ys:List D):List Vl:=List.zipWith (fun x y=>Vl.d (.tup [x,y])) xs ys
theorem gu {xs ys:List D}:(cH xs ys).length=min xs.length ys.length:=by simp [cH]
theorem gE {xs ys:List D} {i:Nat} {z:Vl} (h:(cH xs ys)[i]?=some z):∃ x y,xs[i]?=some x∧ys[i]?=some y∧z=.d (.tup [x,y]):=by
 unfold cH at h
 rw [List.getElem?_zipWith] at h
 cases q:xs[i]? with
 | none=>rw [q] at h;cases h
 | some x=>
  cases q2:ys[i]? with
  | none=>rw [q,q2] at h;cases h
  | some y=>rw [q,q2] at h;cases h;exact ⟨x,y,rfl,rfl,rfl⟩
def ox (zs:List Vl) (S:Sto):R Its:=match zs with
 | [.d (.tup xs),.d (.tup ys)]=>.ok ⟨cH xs ys,none⟩ S
 | [.d (.lst xs),.d (.tup ys)]=>.ok ⟨cH xs ys,none⟩ S
 | _=>.bad
def iZp (as:XA):XI:=fun τ S=>(as τ S).bind ox
section
variable {X:Cx} {WE:WX} {K:PySem.W.Frag} {mg:Str→Option Value} {μ:Nat→Addr} {S:Sto} {H:Hp}
theorem w_ {t u:Addr} {vs us:List V} {xs ys:List D} (g:vh μ S H t=some (.tup vs)) (rs:aq (vh μ S H) vs xs) (g2:vh μ S H u=some (.tup us)) (rs2:aq (vh μ S H) us ys) (hz:vs.length≤sizeLine):fm K mg μ S H (Itz t u) ⟨cH xs ys,none⟩ where
 ok:=True.intro
 len:=by show (cH xs ys).length≤sizeLine;rw [gu];rw [rs.length] at hz;omega
 go:=fun i z μ' S' H' st _ e=>by
  obtain ⟨x,y,e1,e2,_⟩:=gE e
  obtain ⟨a,q1,_⟩:=rs.get' e1
  obtain ⟨b,q2,_⟩:=rs2.get' e2
  exact ⟨vs,us,a,b,(aG (st.vis _ _ g)).2,(aG (st.vis _ _ g2)).2,q1,q2⟩
 yld:=fun i z μ' S' H' v H2 st _ e yy=>by
  obtain ⟨p,a,b,hp,rfl,rfl,y1,y2⟩:=yy
  obtain ⟨x,y,e1,e2,rfl⟩:=gE e
  have q1:=y1 vs (aG (st.vis _ _ g)).2
  have q2:=y2 us (aG (st.vis _ _ g2)).2
  obtain ⟨x',e3,r1⟩:=rs.get q1
  obtain ⟨y',e4,r2⟩:=rs2.get q2
  rw [e1] at e3;cases e3
  rw [e2] at e4;cases e4
  have st2:=Step.new st.hr hp (.tup [a,b])
  exact ⟨st2,Rep.tup (bx bE (st.hr.nal hp)) (.cons (Rep.mono (st.trans st2).vis r1) (.cons (Rep.mono (st.trans st2).vis r2) .nil))⟩
 stop:=fun i μ' S' H' st _ hi=>by
  replace hi:(cH xs ys).length=i:=hi
  rw [gu] at hi
  have l1:=rs.length
  have l2:=rs2.length
  exact ⟨vs,us,(aG (st.vis _ _ g)).2,(aG (st.vis _ _ g2)).2,by omega,by omega,by omega⟩
theorem uL {t u:Addr} {vs us:List V} {xs ys:List D} (g:vh μ S H t=some (.lst vs)) (rs:aq (vh μ S H) vs xs) (g2:vh μ S H u=some (.tup us)) (rs2:aq (vh μ S H) us ys) (hz:vs.length≤sizeLine):fm K mg μ S H (Ity t u) ⟨cH xs ys,none⟩ where
 ok:=True.intro
 len:=by show (cH xs ys).length≤sizeLine;rw [gu];rw [rs.length] at hz;omega
 go:=fun i z μ' S' H' st _ e=>by
  obtain ⟨x,y,e1,e2,_⟩:=gE e
  obtain ⟨a,q1,_⟩:=rs.get' e1
  obtain ⟨b,q2,_⟩:=rs2.get' e2
  exact ⟨vs,us,a,b,(aG (st.vis _ _ g)).2,(aG (st.vis _ _ g2)).2,q1,q2⟩
 yld:=fun i z μ' S' H' v H2 st _ e yy=>by
  obtain ⟨p,a,b,hp,rfl,rfl,y1,y2⟩:=yy
  obtain ⟨x,y,e1,e2,rfl⟩:=gE e
  have q1:=y1 vs (aG (st.vis _ _ g)).2
  have q2:=y2 us (aG (st.vis _ _ g2)).2
  obtain ⟨x',e3,r1⟩:=rs.get q1
  obtain ⟨y',e4,r2⟩:=rs2.get q2
  rw [e1] at e3;cases e3
  rw [e2] at e4;cases e4
  have st2:=Step.new st.hr hp (.tup [a,b])
  exact ⟨st2,Rep.tup (bx bE (st.hr.nal hp)) (.cons (Rep.mono (st.trans st2).vis r1) (.cons (Rep.mono (st.trans st2).vis r2) .nil))⟩
 stop:=fun i μ' S' H' st _ hi=>by
  replace hi:(cH xs ys).length=i:=hi
  rw [gu] at hi
  have l1:=rs.length
  have l2:=rs2.length
  exact ⟨vs,us,(aG (st.vis _ _ g)).2,(aG (st.vis _ _ g2)).2,by omega,by omega,by omega⟩
theorem wg {es:List Expr} {kk:Nat} {tp:Pos} {a b:Expr} {xa:XA} {p pos:Pos} (hg:Gl X "zip") (hm:X.mg "zip"=none) (ha:RA X WE [a,b] xa) (hb:bootBuiltins "zip"=some (.type "zip"):=by decide +kernel)
  (hs:starEach [a,b] X.env=[(false,eval a X.env),(false,eval b X.env)]:=by rfl) (hs2:starEach [b] X.env=[(false,eval b X.env)]:=by rfl):RI X WE (.Tuple es kk tp) (.Call (.Name "zip" p) [a,b] [] pos) (iZp xa):=⟨by
 intro pins s σ H R I h
 obtain ⟨μ,S,τ,hr,sr,pp⟩:=h
 refine Call_ (cu I hg hm hb (PyProof.Rows.callWith_type1 (thn (ha.h pos pins s σ H (fun vs H1=>∃ μ1 S1 zs,HR μ1 S1 H1∧bf X.K X.mg μ1 S1 H1 vs zs∧aJ (fm X.K X.mg) WE μ1 S1 H1 (ox zs S1) R) I ?_) fun us s1 ⟨vs,H1,I1,r1,q1⟩=>?_) (by rw [hs,hs2]) (by rw [hs2];rfl)))
 ·exact ⟨μ,S,τ,hr,sr,pp.bind fun v x S1 μ1 H1 st1 r1 p1=>⟨μ1,S1,x,st1.hr,r1,p1⟩⟩
 ·obtain ⟨μ1,S1,zs,hr1,rz,p1⟩:=q1
  have fp:∀ b∈[s1.heap.objs.size+4,s1.heap.objs.size+2,s1.heap.objs.size+3,s1.heap.objs.size,s1.heap.objs.size+1],s1.heap.objs.size≤b:=by
   intro b hb
   simp only [List.mem_cons,List.not_mem_nil,or_false] at hb
   rcases hb with z | z | z | z | z<;>rw [z]
   ·exact Nat.le_add_right _ _
   ·exact Nat.le_add_right _ _
   ·exact Nat.le_add_right _ _
   ·exact Nat.le_refl _
   ·exact Nat.le_add_right _ _
  unfold ox at p1
  split at p1
  ·rename_i xs ys
   cases rz with
   | cons q1 q2=>cases q2 with
    | cons q2 q3=>
     cases q3
     obtain ⟨u1,u2,rfl,ru,rw'⟩:=r1.two
     cases (show Rep (vh μ1 S1 H1) _ (.tup _) from q1) with
     | @tup t vs1 _ g rs=>
      cases (show Rep (vh μ1 S1 H1) _ (.tup _) from q2) with
      | @tup u vs2 _ g2 rs2=>
       cases ru;cases rw'
       obtain ⟨its,rv,pl,hz⟩:=I1.tuple (SqT.of (aG g).2)
       obtain ⟨its2,rv2,pl2,hz2⟩:=I1.tuple (SqT.of (aG g2).2)
       have q:=p1.here hr1 (w_ g rs g2 rs2 hz)
       refine rJ pl pl2 fun h' z1 z2 z3 z4 z5 hk=>?_
       refine wpAny_pyIter_zip (s:={ s1 with heap:=h' }) z1 ?_
       have I2:Inv X pins σ H1 { s1 with heap:=h' }:=I1.kept (t':=s1.toks) hk
       exact ⟨s1.heap.objs.size+4,_,_,_,H1,rfl,I2,tF t u s1.heap.objs.size,⟨z1,z2,⟨_,_,z3⟩,z4,z5⟩,fun b hb=>I1.jn (fp b hb) (I1.hok.fresh (fp b hb)),q⟩
  ·rename_i xs ys
   cases rz with
   | cons q1 q2=>cases q2 with
    | cons q2 q3=>
     cases q3
     obtain ⟨u1,u2,rfl,ru,rw'⟩:=r1.two
     cases (show Rep (vh μ1 S1 H1) _ (.lst _) from q1) with
     | @lst t vs1 _ g rs=>
      cases (show Rep (vh μ1 S1 H1) _ (.tup _) from q2) with
      | @tup u vs2 _ g2 rs2=>
       cases ru;cases rw'
       obtain ⟨its,rv,pl,hz⟩:=I1.list (SqL.of (aG g).2)
       obtain ⟨its2,rv2,pl2,hz2⟩:=I1.tuple (SqT.of (aG g2).2)
       have q:=p1.here hr1 (uL g rs g2 rs2 hz)
       refine qI pl.isList pl2 fun h' z1 z2 z3 z4 z5 hk=>?_
       refine wpAny_pyIter_zip (s:={ s1 with heap:=h' }) z1 ?_
       have I2:Inv X pins σ H1 { s1 with heap:=h' }:=I1.kept (t':=s1.toks) hk
       exact ⟨s1.heap.objs.size+4,_,_,_,H1,rfl,I2,qe t u s1.heap.objs.size,⟨z1,z2,⟨_,_,z3⟩,z4,z5⟩,fun b hb=>I1.jn (fp b hb) (I1.hok.fresh (fp b hb)),q⟩
  ·exact p1.elim⟩
end
def xLf (f:List D→D→Sto→R Vl) (o e:XE):XE:=fun τ S=>(o τ S).bind fun x S1=>match x with
 | .d (.lst xs)=>(e τ S1).bind fun y S2=>(match y with
  | .d z=>f xs z S2
  | _=>.bad)
 | _=>.bad
def yI (xs:List D) (z:D) (S:Sto):R Vl:=match z,intsOf xs with
 | .int k,some ns=>.ok (.d (.int (ns.count k:Nat))) S
 | _,_=>.bad
def tV (r:V→List V→Hp→VK→Prop) (f:List D→D→Sto→R Vl):Prop:=∀ (K:PySem.W.Frag) (mg:Str→Option Value) (WE:WX) (μ:Nat→Addr) (S:Sto) (H:Hp) (a:Addr) (xs:List D) (vs:List V) (w:V) (z:D) (Q:VK),HR μ S H→H a=some (.lst vs)→aq (vh μ S H) vs xs→Rep (vh μ S H) w z→aJ (aM K mg) WE μ S H (f xs z S) Q→r (.ref a) [w] H Q
section
variable {X:Cx} {WE:WX}
theorem uB {r:V→List V→Hp→VK→Prop} {f:List D→D→Sto→R Vl} {name:Str} {id:String} {o e:Expr} {xo xe:XE} {apos cpos:Pos} (slot:Slot "list" name id) (hty:typeOf (.builtin id)=pure (.type "method_descriptor")) (hm:MtM X id r) (hf:tV r f) (ho:RE X WE o xo) (he:RE X WE e xe)
  (hbase:attributeBase o name X.env (eval o X.env)=eval o X.env:=by rfl)
  (hfew:((backTo cpos (starEach [e] X.env)).all (fun x=>!x.1) && (backToKw cpos (keywordEach [] X.env)).all (fun x=>x.1.isSome) && decide ([e].length+([]:List Keyword).length+(if ([]:List Keyword).isEmpty then 0 else 1) < 30))=true:=by rfl)
  (hline:(apos.endLine == cpos.line)=true:=by rfl) (hs:starEach [e] X.env=(false,eval e X.env) :: starEach [] X.env:=by rfl):RE X WE (.Call (.Attribute o name apos) [e] [] cpos) (xLf f xo xe):=
 ⟨(Bx slot hty hm ho.h he.h hbase hfew hline hs).weak fun σ H Q ⟨μ,S,τ,hr,sr,p⟩=>⟨μ,S,τ,hr,sr,p.bind fun v x S1 μ1 H1 st1 r1 p1=>by
  try dsimp only at p1
  split at p1
  ·rename_i xs
   cases (show Rep (vh μ1 S1 H1) v (.lst _) from r1) with
   | @lst a vs _ g rs=>
    refine ⟨a,vs,rfl,(aG g).2,μ1,S1,τ,st1.hr,sr.step st1,p1.bind fun w y S2 μ2 H2 st2 r2 p2=>?_⟩
    try dsimp only at p2
    split at p2
    ·exact hf X.K X.mg WE μ2 S2 H2 a xs vs w _ Q st2.hr (aG (st2.vis _ _ g)).2 (rs.mono st2.vis) r2 p2
    ·exact p2.elim
  ·exact p1.elim⟩⟩
end
def Ca (xs:List Vl) (S:Sto):R Vl:=match xs with
 | [.d (.int i)]=>.ok (.d (.int i)) S
 | [.d (.bl k)]=>.ok (.d (.int (if k then 1 else 0))) S
 | _=>.bad
theorem yx {k:Bool} {S:Sto}:Ca [.d (.bl k)] S=.ok (.d (.int (if k then 1 else 0))) S:=af rfl
def trP (K:PySem.W.Frag) (mg:Str→Option Value) (WE:WX) (ms:List (XE×XE)):List (TE×TE):=ms.map fun m=>(trE K mg WE m.1,trE K mg WE m.2)
structure RP (X:Cx) (WE:WX) (pos:Pos) (ks:List (Option Expr)) (vs:List Expr) (ms:List (XE×XE)):Prop where
 h:PPs X pos ks vs (trP X.K X.mg WE ms)
section
variable {X:Cx} {WE:WX} {pos:Pos}
inductive oA (K:PySem.W.Frag) (mg:Str→Option Value) (μ:Nat→Addr) (S:Sto) (H:Hp):List (V×V)→List (Vl×Vl)→Prop
 | nil:oA K mg μ S H [] []
 | cons {v w:V} {x y:Vl} {vs:List (V×V)} {xs:List (Vl×Vl)}:aM K mg μ S H v x→aM K mg μ S H w y→oA K mg μ S H vs xs→oA K mg μ S H ((v,w) :: vs) ((x,y) :: xs)
end
set_option maxRecDepth 100000
section
variable {prog:Program} {w:World} {A:Around} {E:Value→Shared→Prop} {s:Shared} {z TI TO i1 i2:Addr} {fp1 fp2:List Addr} {n1 n2 k:Nat} {P1 P2:Nat→Value→Prop} {S1 S2:Nat→Heap→Prop}
set_option hygiene false in
local macro_rules | `(tactic| walk_at "zi") => `(tactic| (
  have q1:S1 k g0:=D1.frame _ _ _ h1 fun c hc o q=>e0.extBut c o (fun y=>D.z1 (y ▸ hc)) q
  have q2:S2 k g0:=D2.frame _ _ _ h2 fun c hc o q=>e0.extBut c o (fun y=>D.z2 (y ▸ hc)) q
  refine wpAny_bind (wpAny_bind (wpAny_bind (wpAny_holding ?_)))
  refine (show wpAny _ _ (Builtin.SmallTypes.nextOf (.ref i1)>>=_) _ _ _ from wpAny_bind (D1.item k _ _ _ l1 q1 fun x g2 t2 p1 q1' e2=>wpAny_pure (wpAny_pure ?_)))
  replace e2:Heap.SameBut i1 g0 g2:=e2
  refine wpAny_bind (wpAny_bind (wpAny_holding ?_))
  have r2:S2 k g2:=D2.frame _ _ _ q2 fun c hc o q=>e2.extBut c o (fun y=>D.i12 (y ▸ hc)) q
  refine (show wpAny _ _ (Builtin.SmallTypes.nextOf (.ref i2)>>=_) _ _ _ from wpAny_bind (D2.item k _ _ _ l2 r2 fun y g4 t4 p2 r2' e4=>wpAny_pure (wpAny_pure (wpAny_pure ?_))))
  replace e4:Heap.SameBut i2 g2 g4:=e4
  refine wpAny_bind (wpAny_newTuple ?_ (by show 2≤sizeLine;decide))
  have hsz:g4.objs.size=s.heap.objs.size:=by rw [e4.1,e2.1,e0.1]
  refine wpAny_pure ⟨_,rfl,?_⟩
  show Q (.ref g4.objs.size) _
  rw [hsz]
  have up:∀ c o,g4.get? c=some o→(g4.push { cls:=.type "tuple",data:=.seq #[x,y] }).get? c=some o:=fun c o q=>Heap.get?_push_of_some _ q
  refine hQ x y _ _ p1 p2 (up _ _ (e4.extBut _ _ D.i2z.symm (e2.extBut _ _ D.i1z.symm hz0))) (up _ _ (e4.extBut _ _ D.TI2 (e2.extBut _ _ D.TI1 (e0.extBut _ _ D.TIz hTI)))) ?_ ?_ ?_ fun c o c1 c3 c4 q=>up _ _ (e4.extBut _ _ c4 (e2.extBut _ _ c3 (e0.extBut _ _ c1 q)))
  ·exact D1.frame _ _ _ q1' fun c hc o q=>up _ _ (e4.extBut c o (fun y=>D.i21 (y ▸ hc)) q)
  ·exact D2.frame _ _ _ r2' fun c hc o q=>up _ _ q
  ·rw [← hsz];exact Heap.get?_push_size _ rfl
 ))
set_option hygiene false in
local macro_rules | `(tactic| walk_at "ze") => `(tactic| (
  have q1:S1 k g0:=D1.frame _ _ _ h1 fun c hc o q=>e0.extBut c o (fun y=>D.z1 (y ▸ hc)) q
  have q2:S2 k g0:=D2.frame _ _ _ h2 fun c hc o q=>e0.extBut c o (fun y=>D.z2 (y ▸ hc)) q
  refine wpAny_bind (wpAny_bind (wpAny_bind (wpAny_holding ?_)))
  rcases hend with hk | ⟨hk,hk2⟩
  ·subst hk
   refine (show wpAny _ _ (Builtin.SmallTypes.nextOf (.ref i1)>>=_) _ _ _ from wpAny_bind (D1.done _ _ _ q1 fun g2 e e2 he=>?_))
   replace e2:Heap.ExtBut i1 g0 g2:=e2
   exact hE g2 e _ (fun c o c1 _ c3 _ q=>e2 _ _ c3 (e0.extBut _ _ c1 q)) he
  ·subst hk2
   refine (show wpAny _ _ (Builtin.SmallTypes.nextOf (.ref i1)>>=_) _ _ _ from wpAny_bind (D1.item k _ _ _ hk q1 fun x g2 t2 p1 q1' e2=>wpAny_pure (wpAny_pure ?_)))
   replace e2:Heap.SameBut i1 g0 g2:=e2
   refine wpAny_bind (wpAny_bind (wpAny_holding ?_))
   have r2:S2 k g2:=D2.frame _ _ _ q2 fun c hc o q=>e2.extBut c o (fun y=>D.i12 (y ▸ hc)) q
   refine (show wpAny _ _ (Builtin.SmallTypes.nextOf (.ref i2)>>=_) _ _ _ from wpAny_bind (D2.done _ _ _ r2 fun g4 e e4 he=>?_))
   replace e4:Heap.ExtBut i2 g2 g4:=e4
   exact hE g4 e _ (fun c o c1 _ c3 c4 q=>e4 _ _ c4 (e2.extBut _ _ c3 (e0.extBut _ _ c1 q))) he
 ))
end
set_option maxRecDepth 100000
structure CL (prog:Program) (w:World) (A:Around) (I d:Addr) (wr:List Addr) (ps:List (Key×V)) (St:Nat→Heap→Prop):Prop where
 nd:d∉wr
 frame:∀ i h h',St i h→(∀ b o,b≠d→h.get? b=some o→h'.get? b=some o)→St i h'
 item:∀ i (s:Shared) (Q:Option Value→Shared→Prop) (E:Value→Shared→Prop),i < ps.length→St i s.heap→d < s.heap.objs.size →
  (∀ T k v x y h' tk,ps[i]?=some (k,v)→(iZ prog w).is k x=true→RelV v y→h'.IsTuple T #[x,y]→St (i+1) h'→(∀ b o,b∉wr→s.heap.get? b=some o→h'.get? b=some o)→Q (some (.ref T)) { s with heap:=h',toks:=tk }) →
  wpAny (model prog w) A (pyNext (.ref I)) Q E s
 done:∀ (s:Shared) (Q:Option Value→Shared→Prop) (E:Value→Shared→Prop),St ps.length s.heap→(∀ h' tk,(∀ b o,b∉wr→s.heap.get? b=some o→h'.get? b=some o)→Q none { s with heap:=h',toks:=tk })→wpAny (model prog w) A (pyNext (.ref I)) Q E s
set_option maxRecDepth 100000
set_option maxRecDepth 100000
inductive kx (H:Hp):List V→List (Key×V)→Prop
 | nil:kx H [] []
 | cons {T:Addr} {k:Key} {v:V} {vs:List V} {ps:List (Key×V)}:H T=some (.tup [kV k,v])→kx H vs ps→kx H (.ref T :: vs) ((k,v) :: ps)
set_option maxRecDepth 100000
structure gT (P:Program) (w:World) (outer:List Env) (H:Hp) (s:Shared) (a:Addr) (H':Hp) (s':Shared) (B:Heap):Prop where
 os:s'.os=s.os
 bare:AllBare s'.gens
 un:Un (frs outer) [] H H' s.heap s'.heap
 hok:HOk P w H' s'.heap
 new:s.heap.get? a=none
 free:H' a=none
 trk:∀ b o,H' b=some o→∃ u,B.get? b=some u
 old:∀ b o,s.heap.get? b=some o→H b=none→b∉frs outer→B.get? b=some o
 dm:∀ b o,H b=some o→∃ o',H' b=some o'
theorem bC.some_at {P:Program} {w:World} {H:Hp} {h:Heap} {a:Addr} {o:HO} (x:bC P w H h a o):∃ u,h.get? a=some u:=by
 cases o with
 | lst xs=>obtain ⟨_,_,_,_,e⟩:=x;exact ⟨_,e⟩
 | tup xs=>obtain ⟨_,_,_,ob,e,_⟩:=x;exact ⟨_,e⟩
 | dK kvs=>obtain ⟨_,_,_,_,o,_,_,e,_⟩:=x;exact ⟨_,e⟩
 | dT kvs=>obtain ⟨_,_,_,_,o,_,_,e,_⟩:=x;exact ⟨_,e⟩
 | set S n=>obtain ⟨o,_,_,_,e,_⟩:=x;exact ⟨_,e⟩
 | ins C dx fs=>obtain ⟨_,_,_,e,_⟩:=x;exact ⟨_,e⟩
 | own y=>exact x
 | xd fs=>obtain ⟨_,⟨_,_,_,e,_⟩,_⟩:=x;exact ⟨_,e⟩
 | rng lo hi=>obtain ⟨_,_,_,e⟩:=x;exact ⟨_,e⟩
 | frz ob u=>obtain ⟨e,_⟩:=x;exact ⟨_,e⟩
 | tbl ps=>exact ⟨_,x⟩
 | met f y=>exact ⟨_,x⟩
 | ext φ=>exact x.2.1
theorem HOk.A3 {P:Program} {w:World} {H:Hp} {h h' B:Heap} (x:HOk P w H h) (trk:∀ b o,H b=some o→∃ u,B.get? b=some u) (k:B.StaysIn h) (k':B.StaysIn h'):HOk P w H h':=fun a o e=>
 have st:∀ b o u,H b=some o→h.get? b=some u→h'.get? b=some u:=fun b o u e q=>by
  obtain ⟨v,hv⟩:=trk b o e
  have:=k b v hv
  rw [q] at this
  cases this
  exact k' b u hv
 (x a o e).fR (fun b u hb q=>by
  rcases hb with rfl | hb
  ·exact st _ _ _ e q
  ·exact st _ _ _ hb q) (fun _ q=>q) fun _ _ q=>q
theorem gT.move {P:Program} {w:World} {outer:List Env} {H H':Hp} {s s':Shared} {a:Addr} {B h':Heap} (F:gT P w outer H s a H' s' B) (hB:B.StaysIn s'.heap) (ff:s'.heap.FunFrames B outer) (hB':B.StaysIn h') (up:s'.heap.UpToSlots h'):gT P w outer H s a H' { s' with heap:=h' } B where
 os:=F.os
 bare:=F.bare
 un:=⟨fun b o e n hb _=>hB' b o (F.old b o e n hb),fun b o e n hb hx=>by
   obtain ⟨sl,e1⟩:=F.un.slot b o e n hb hx
   obtain ⟨_,o2,e2,nf⟩:=ff.mem hb
   rw [e1] at e2
   cases e2
   obtain ⟨sl2,e3⟩:=up b _ e1 nf
   exact ⟨sl2,e3⟩,F.un.free,fun b o e hx=>by
   cases q:H b with
   | some u=>
    obtain ⟨u',q'⟩:=F.dm b u q
    obtain ⟨v,hv⟩:=F.trk b u' q'
    exact ⟨v,hB' b v hv⟩
   | none=>
    by_cases hb:b∈frs outer
    ·obtain ⟨sl,e1⟩:=F.un.slot b o e q hb hx
     obtain ⟨_,o2,e2,nf⟩:=ff.mem hb
     rw [e1] at e2
     cases e2
     obtain ⟨sl2,e3⟩:=up b _ e1 nf
     exact ⟨_,e3⟩
    ·exact ⟨o,hB' b o (F.old b o e q hb)⟩,F.un.tups,F.un.frzs,F.un.tbls⟩
 hok:=F.hok.A3 F.trk hB hB'
 new:=F.new
 free:=F.free
 trk:=F.trk
 old:=F.old
 dm:=F.dm
section
variable {X:Cx} {pins:List (Addr×Obj)} {σ:St} {H H':Hp} {s s':Shared} {a:Addr} {B h':Heap}
theorem Inv.pB (I:Inv X pins σ H s) (F:gT X.prog X.w X.stack H s a H' s' B):Inv X pins σ H' s':=I.ur F.os F.un F.hok F.bare fun b z=>absurd z (by simp)
theorem Inv.uf (I:Inv X pins σ H' s') (hst:X.stack=X.env :: X.outer) (hex:X.ex=[]) (hB:B.StaysIn s'.heap) (ff:s'.heap.FunFrames B X.outer) (trk:∀ b o,H' b=some o→∃ u,B.get? b=some u)
  (old:∀ b o,X.s₀.heap.get? b=some o→X.H₀ b=none→b∉X.fs→B.get? b=some o) (new:X.s₀.heap.get? a=none) (free:H' a=none) (dm:∀ b o,X.H₀ b=some o→∃ o',H' b=some o') (hB':B.StaysIn h') (up:s'.heap.UpToSlots h') :
  gT X.prog X.w X.outer X.H₀ X.s₀ a H' { s' with heap:=h' } B:=by
 have u:=I.base
 rw [hex] at u
 have F0:gT X.prog X.w X.outer X.H₀ X.s₀ a H' s' B:=⟨I.os,I.bare,u,I.hok,new,free,trk,old,dm⟩
 exact F0.move hB ff hB' up
end
def CXE (P:Program) (w:World):CXT:=fun outer H s E e s'=>∃ (a C:Addr) (H':Hp) (B:Heap) (a0:Value),e=.ref a∧gT P w outer H s a H' s' B∧Heap.FlyingW B outer a (.ref C) a0 s'.heap∧E (.ref C) none H'
def XOk (X:Cx) (WE:WX):Prop:=∀ (pins:List (Addr×Obj)) (σ:St) (H:Hp) (s:Shared) (a C:Addr) (c:Str) (xs:List (Str×D)) (S:Sto) (μ:Nat→Addr) (H':Hp) (s':Shared) (B:Heap) (a0:Value),
 Inv X pins σ H s→gT X.prog X.w X.stack H s a H' s' B→Heap.FlyingW B X.stack a (.ref C) a0 s'.heap→X.mg c=some (.ref C)→HR μ S H'→WE c xs S μ H'→X.xe (.ref a) s'
def XMk (X:Cx) (WE:WX):Prop:=∀ (pins:List (Addr×Obj)) (σ:St) (H:Hp) (s:Shared) (a C:Addr) (c:Str) (us:List Value) (S:Sto) (μ:Nat→Addr) (h':Heap),
 Inv X pins σ H s→Heap.MadeExcOf s.heap h' a (.ref C) us→X.mg c=some (.ref C)→HR μ S H→WE c [] S μ H→X.xe (.ref a) { s with heap:=h' }
section
variable {P:Program} {w:World} {K:PySem.W.Frag} {mg:Str→Option Value} {base:Heap} {N:List Str} {qual:Str} {scope:Scope} {f:Addr} {cd:Value} {A:Around} {outer:List Env} {s:Shared} {H:Hp} {E:XK}
def kc (mg:Str→Option Value) (H:Hp) (E:XK):WX:=fun c _ _ _ H'=>(∀ b o,H b=some o→∃ o',H' b=some o')∧∀ C:Addr,mg c=some (.ref C)→E (.ref C) none H'
theorem vo:XOk (dr (CXE P w) P w K mg base N qual scope f cd A outer s H E) (kc mg H E):=by
 intro pins σ H1 s1 a C c xs S μ H' s' B a0 I F fl hm hr hw
 have I':=I.pB F
 show wpAny (model P w) (A.deeper (envOfC qual scope s.heap.objs.size f cd)) (leaving (envOfC qual scope s.heap.objs.size f cd) (.ref a)) _ _ s'
 refine wpAny_leaves_onW (L:=s.heap.objs.size) I.ok.frames rfl fl fun h' fl' up=>?_
 have ff:s'.heap.FunFrames B (envOfC qual scope s.heap.objs.size f cd :: outer):=fl.2.2.1
 refine ⟨a,C,H',B,a0,rfl,I'.uf rfl rfl fl.1 ff.2.2 F.trk (fun b o e n hb=>?_) ?_ F.free hw.1 fl'.1 up,fl',hw.2 C hm⟩
 ·have e1:=I.base.keep b o e n hb (by intro z;cases z)
  have n1:=I.base.free b o e n (by intro z;cases z)
  refine F.old b o e1 n1 fun z=>?_
  rcases List.mem_cons.mp (I.gi b z) with z | z
  ·rw [z] at e
   exact absurd (Heap.lt_size e) (Nat.lt_irrefl _)
  ·exact hb z
 ·cases q:s.heap.get? a with
  | none=>exact q
  | some o=>
   obtain ⟨o',e'⟩:=I.base.there a o q (by intro z;cases z)
   rw [F.new] at e'
   cases e'
theorem vL:XMk (dr (CXE P w) P w K mg base N qual scope f cd A outer s H E) (kc mg H E):=by
 intro pins σ H1 s1 a C c us S μ h' I hx hm hr hw
 have st:=I.stack
 have stf:=I.ku
 have hin:∀ env∈(envOfC qual scope s.heap.objs.size f cd :: outer),∀ b,env.frame=some b→b∈frs (envOfC qual scope s.heap.objs.size f cd :: outer):=fun env he b hb=>List.mem_filterMap.mpr ⟨env,he,hb⟩
 have hl:=PySem.W.funFrames_hide st hin
 have trk:∀ b o,H1 b=some o→∃ u,(PySem.W.hideAll s1.heap (frs (envOfC qual scope s.heap.objs.size f cd :: outer))).get? b=some u:=fun b o e=>by
  obtain ⟨u,hu⟩:=(I.hok b o e).some_at
  refine ⟨u,PySem.W.hideAll_get _ hu fun z=>?_⟩
  rw [stf b z] at e
  cases e
 have fa:H1 a=none:=by
  cases q:H1 a with
  | none=>rfl
  | some o=>
   obtain ⟨u,hu⟩:=(I.hok a o q).some_at
   rw [hx.new] at hu
   cases hu
 have I':Inv (dr (CXE P w) P w K mg base N qual scope f cd A outer s H E) pins σ H1 { s1 with heap:=h' }:=I.kept (t':=s1.toks) hx.keeps
 show wpAny (model P w) (A.deeper (envOfC qual scope s.heap.objs.size f cd)) (leaving (envOfC qual scope s.heap.objs.size f cd) (.ref a)) _ _ { s1 with heap:=h' }
 refine wpAny_leaves_madeW (L:=s.heap.objs.size) (h:=s1.heap) I.ok.frames rfl (fun b o q=>PySem.W.of_hideAll _ q) hl hx fun h2 t fl' _ _ up=>?_
 refine ⟨a,C,H1,_,.ref t,rfl,I'.uf (B:=PySem.W.hideAll s1.heap (frs (envOfC qual scope s.heap.objs.size f cd :: outer))) rfl rfl (fun b o q=>hx.keeps b o (PySem.W.of_hideAll _ q)) (hl.2.2.of_keeps fun b o hb _=>⟨o,hx.keeps b o hb,rfl⟩) trk (fun b o e n hb=>?_) ?_ fa hw.1 fl'.1 up,fl',hw.2 C hm⟩
 ·have e1:=I.base.keep b o e n hb (by intro z;cases z)
  refine PySem.W.hideAll_get _ e1 fun z=>?_
  rcases List.mem_cons.mp (I.gi b z) with z | z
  ·rw [z] at e
   exact absurd (Heap.lt_size e) (Nat.lt_irrefl _)
  ·exact hb z
 ·cases q:s.heap.get? a with
  | none=>exact q
  | some o=>
   obtain ⟨o',e'⟩:=I.base.there a o q (by intro z;cases z)
   rw [hx.new] at e'
   cases e'
end
def WEx (mg:Str→Option Value) (E:XK):WX:=fun c _ _ _ H'=>∀ C:Addr,mg c=some (.ref C)→E (.ref C) none H'
def spX (K:PySem.W.Frag) (mg:Str→Option Value) (F:XF):Sp:=fun vs H Q E=>∃ μ S us,HR μ S H∧bf K mg μ S H vs us∧aJ (aM K mg) (WEx mg E) μ S H (F us S) Q
def OkX (P:Program) (w:World) (K:PySem.W.Frag) (mg:Str→Option Value) (lev:Nat) (x:Str) (ps:List Str) (M:XF):Prop:=∃ (f:Addr) (fd:FuncData),mg x=some (.ref f)∧PySem.W.keepIn K (.ref f)=true∧(∀ us:List Value,us.length=ps.length→bindArgs fd ⟨us,[]⟩=pure (ps.zip us))∧∀ base,dv P w K mg base (CXE P w) lev f fd ps (spX K mg M)
def fo (F:XF) (as:XA):XE:=fun τ S=>(as τ S).bind fun us S1=>F us S1
def f9 (c:Str) (a:XE):XS:=fun τ S=>(a τ S).bind fun _ S1=>.ex c [] S1
section
variable {X:Cx} {WE:WX} {e:Expr} {es:List Expr} {pos p:Pos} {lev j:Nat} {ps:List Str} {F:XF} {x:Str} {ts:XA}
theorem fD [n:NS e] (G:OkX X.prog X.w X.K X.mg lev x ps F) (hx:XOk X WE) (hr:bY j X.A) (ha:RA X WE (e :: es) ts) (hj:lev≤j:=by decide) (hg:Gl X x:=by exact rfl)
  (hdb:(x == ("__debug__":Str))=false:=by decide) (hpl:(backTo pos (starEach es X.env)).any (·.1)=false:=by rfl):RE X WE (.Call (.Name x p) (e :: es) [] pos) (fo F ts):=by
 obtain ⟨f,fd,hm,hk,hb,G⟩:=G
 refine ⟨(nL (E:=fun Cv _ H'=>∃ c xs S μ,X.mg c=some Cv∧HR μ S H'∧WE c xs S μ H') (G X.base) (hr.mono hj) hg hm hk (.all hb) .nil ?_ ha.h hdb (n.eq es X.env) hpl).weak fun σ H Q ⟨μ,S,τ,hr,sr,p⟩=>⟨μ,S,τ,hr,sr,p.bind fun vs xs S1 μ1 H1 st1 r1 p1=>?_⟩⟩
 ·rintro pins σ H s e s' I ⟨a,C,H',B,a0,rfl,F,fl,c,xs,S,μ,hm,hr,hw⟩
  exact hx pins σ H s a C c xs S μ H' s' B a0 I F fl hm hr hw
 ·rw [List.append_nil]
  refine ⟨μ1,S1,xs,st1.hr,r1,?_⟩
  generalize F xs S1=res at p1
  cases res with
  | ok a S'=>exact p1
  | ex c ys S'=>exact fun μ' H' st C hC=>⟨c,ys,S',μ',hC,st.hr,p1 μ' H' st⟩
  | bad=>exact p1
end
def Ec (K:PySem.W.Frag) (mg:Str→Option Value) (c:Str):Prop:=∃ C:Addr,mg c=some (.ref C)∧PySem.W.excIn K C [.type "ValueError",.type "Exception",.type "BaseException",.type "object"] "ValueError.__new__"=true
theorem BA {K:PySem.W.Frag} {h:Heap} {mg:Str→Option Value} {c:Str} {C:Addr} (X:K.In h) (G:h.Ns mainGlobals mg) (a:PySem.W.nsIn K mainGlobals c=some (some (.ref C))) (q:PySem.W.excIn K C [.type "ValueError",.type "Exception",.type "BaseException",.type "object"] "ValueError.__new__"=true):Ec K mg c:=⟨C,PySem.W.mg_of X G a,q⟩
open PySem.W in
theorem v_ {K:PySem.W.Frag} {h:Heap} {C:Addr} {bmB:List Value} {newId:String} (X:K.In h) (q:PySem.W.excIn K C bmB newId=true):∃ bm N nm q bs hdct sn sub ab col dd k0 k1 k2 k3 k5 mN,h.get? C=some (excClassObj nm q C N bs bm hdct sn sub ab col dd k0 k1 k2 k3 k5 newId)∧h.Ns N mN∧mN "__init__"=none∧OwnTail h bmB bm:=by
 unfold excIn at q
 split at q
 ·rename_i dd cd sl ho
  split at q
  ·rename_i C' bm k0 k1 k2 k3 n k5 hm hs
   simp only [Bool.and_eq_true,beq_iff_eq,Bool.not_eq_true'] at q
   obtain ⟨⟨⟨⟨⟨rfl,rfl⟩,hdel⟩,ht⟩,hok⟩,hni⟩:=q
   obtain ⟨nm,bs,mro,ns,qn,hd,sn,sub,ab,col,del⟩:=cd
   dsimp only at hm hdel hok hni
   subst hm hdel
   have hsl:sl=#[k0,k1,k2,k3,some (.builtin n),k5]:=by
    obtain ⟨l⟩:=sl
    simp only at hs
    rw [hs]
   subst hsl
   exact ⟨bm,ns,nm,qn,bs,hd,sn,sub,ab,col,dd,k0,k1,k2,k3,k5,_,X _ _ ho,.of_isNs (isNs_of_in X hok),nsMap_none_of_in X hok hni,tail_of_in X ht⟩
  ·cases q
 ·cases q
section
variable {X:Cx} {WE:WX} {e:Expr} {xe:XE} {c:Str} {np cpos pos:Pos}
theorem jq (O:Ec X.K X.mg c) (hmk:XMk X WE) (he:RA X WE [e] (aa xe ak)) (hc:X.calm=true:=by exact rfl) (hg:Gl X c:=by exact rfl) (hd:(c == ("__debug__":Str))=false:=by decide)
  (hs:starEach [e] X.env=[(false,eval e X.env)]:=by rfl):RS X WE (.Raise (some (.Call (.Name c np) [e] [] cpos)) none pos) (f9 c xe):=⟨by
 intro pins s σ H D I h
 obtain ⟨μ,S,τ,hr,sr,p⟩:=h
 obtain ⟨C,hm,hq⟩:=O
 obtain ⟨bm,N,nm,q,bs,hdct,sn,sub,ab,col,dd,k0,k1,k2,k3,k5,mN,hC,hN,hni,T⟩:=v_ I.mod.kin hq
 refine wpAny_Raise_call_subT (C:=C) (nm:=nm) (q:=q) (N:=N) (bs:=bs) (bm:=bm) (hdct:=hdct) (sn:=sn) (sub:=sub) (ab:=ab) (col:=col) (dd:=dd) (k0:=k0) (k1:=k1) (k2:=k2) (k3:=k3) (k5:=k5)
  PySem.F.excBase_ValueError (mN:=mN) (T.hasType PySem.F.excBase_ValueError.hasBase) (I.ok.hd hc) (by rw [hs];rfl) hni (kg I hg hm ⟨rfl,?_⟩ hd)
 have ha:=he.h cpos pins s σ H (fun vs H1=>∃ (v:V),vs=[v]∧∃ μ1 S1,HR μ1 S1 H1∧WE c [] S1 μ1 H1) I ⟨μ,S,τ,hr,sr,?_⟩
 ·rw [hs] at ha ⊢
  refine Calls.evalArgs_plain (wpAny_mono ha (fun us s2 z=>?_) fun _ _ y=>y)
  obtain ⟨vs,H1,I1,r1,v,rfl,μ1,S1,hr1,hw⟩:=z
  have l1:=r1.length
  refine ⟨rfl,?_,I1.bk _ _ hC,hN.keeps I1.bk,T.keeps I1.bk,fun h' a hx=>hmk pins σ H1 s2 a C c us S1 μ1 h' I1 hx hm hr1 hw⟩
  show us.length≤sizeLine
  rw [← l1]
  exact (by decide:1≤sizeLine)
 ·unfold f9 at p
  unfold aa ak
  have q:aJ (RlS X.K X.mg) WE μ S H ((xe τ S).bind fun x S1=>(.ex c [] S1:R (Fl×Nv))) D.at:=p
  generalize xe τ S=res at q ⊢
  cases res with
  | ok x S1=>
   intro b μ' H' st rv
   cases rv with
   | cons r1 r2=>
    cases r2
    exact ⟨_,rfl,μ',S1,st.hr,q μ' H' st⟩
  | ex c' ys S1=>exact q
  | bad=>exact q⟩
end
section
variable {P:Program} {w:World} {K:PySem.W.Frag} {mg:Str→Option Value} {base:Heap}
theorem BN {x qual:Str} {st:Stmt} {f:Addr} {fd:FuncData} {N ps:List Str} {lev:Nat} {m:XS} (F:Fun K x qual st f fd) (Sc:d_ N ps (aQ st))
  (hb:∀ (cdv:Value) (A:Around) (outer:List Env) (s:Shared) (H:Hp) (E:XK),bY lev (A.deeper (envOfC qual (aQ st) s.heap.objs.size f cdv))→RB (dr (CXE P w) P w K mg base N qual (aQ st) f cdv A outer s H E) (kc mg H E) (cm st) m) :
  dv P w K mg base (CXE P w) (lev+1) f fd ps (spX K mg (a_ ps.length N.length m)):=by
 obtain ⟨oc,od,kV,doc,pm,an,cdv,ct,osl,rfl,lk,hcd⟩:=F.ex
 refine uh lk hcd Sc (fun vs H Q E h=>?_) (fun A outer s H vs Q E hr h=>?_)
 ·obtain ⟨μ,S,us,hr,rs,p⟩:=h
  unfold a_ at p
  split at p
  ·rw [rs.length];assumption
  ·exact p.elim
 ·refine ⟨_,(hb cdv A outer s H E hr).h,?_⟩
  obtain ⟨μ,S,us,hr,rs,p⟩:=h
  unfold a_ at p
  split at p
  ·rename_i hl
   have sr:bK K mg μ S H (start N vs) (us.map some++List.replicate (N.length - ps.length) none):=by
    rw [← hl];exact bK.beg rs
   refine ⟨μ,S,_,hr,sr,?_⟩
   generalize m (us.map some++List.replicate (N.length - ps.length) none) S=res at p
   cases res with
   | bad=>exact p.elim
   | ex c xs S'=>exact fun μ' H' st=>⟨st.dm,p μ' H' st.take⟩
   | ok q S'=>
    obtain ⟨fl,τ'⟩:=q
    rintro ⟨fv,σ'⟩ μ' H' st ⟨sr',fr⟩
    cases fl with
    | nx=>
     cases fv with
     | nx=>exact jT (K:=K) (mg:=mg) (v:=.non) (z:=.d .non) st Rep.non p
     | _=>exact (show False from fr).elim
    | rt z=>
     cases fv with
     | rt v=>exact jT st fr p
     | _=>exact (show False from fr).elim
    | bk=>exact (show False from p).elim
    | ct=>exact (show False from p).elim
  ·exact p.elim
end
theorem pb {K:PySem.W.Frag} {mg:Str→Option Value} {P:Program} {w:World} {x:Str} {st:Stmt} {ps:List Str} {lev:Nat} {k n:Nat} {m:XS} {M:XF} (N:List Str) (F:Df K mg x st)
    (hb:∀ (base:Heap) (f:Addr) (cdv:Value) (A:Around) (outer:List Env) (s:Shared) (H:Hp) (E:XK),bY lev (A.deeper (envOfC x (aQ st) s.heap.objs.size f cdv))→LQ (aQ st) N→XOk (dr (CXE P w) P w K mg base N x (aQ st) f cdv A outer s H E) (kc mg H E)→XMk (dr (CXE P w) P w K mg base N x (aQ st) f cdv A outer s H E) (kc mg H E)→RB (dr (CXE P w) P w K mg base N x (aQ st) f cdv A outer s H E) (kc mg H E) (cm st) m)
    (hM:M=a_ k n m:=by rfl) (hk:ps.length=k:=by rfl) (hn:N.length=n:=by rfl) (Sc:d_ N ps (aQ st):=by exact ⟨rfl,rfl,rfl,by decide +kernel,rfl,by decide +kernel,by decide +kernel⟩)
    (hbd:∀ (kV doc pm:Value) (an:Option Addr) (cdv ct:Value) (us:List Value),us.length=ps.length→bindArgs (PySem.W.fnOf x x (eY st) (cm st) (aQ st) .none kV doc pm an cdv ct) ⟨us,[]⟩=pure (ps.zip us):=by
      intro _ _ _ _ _ _ us hl
      rcases us with _ | ⟨a,_ | ⟨b,_ | ⟨c,_ | ⟨d,_ | ⟨e,_ | ⟨f,_ | ⟨g,us⟩⟩⟩⟩⟩⟩⟩<;>first | (simp at hl;done) | rfl):OkX P w K mg (lev+1) x ps M:=by
  subst hM hk hn
  obtain ⟨f,fd,F,hm⟩:=F
  refine ⟨f,fd,hm,F.kp,?_,fun base=>BN F Sc fun cdv A outer s H E hr=>hb base f cdv A outer s H E hr ⟨Sc.nd⟩ vo vL⟩
  obtain ⟨oc,od,kV,doc,pm,an,cdv,ct,osl,rfl,lk,hcd⟩:=F.ex
  exact hbd kV doc pm an cdv ct
abbrev Cx.dh (X:Cx) (pins:List (Addr×Obj)) (E:Value→Shared→Prop):Cx:={ X with pn:=X.pn++pins,xe:=E }
section
variable {X:Cx} {pins pins':List (Addr×Obj)} {σ:St} {H:Hp} {s:Shared} {E:Value→Shared→Prop}
theorem Cx.Ok.dh (ok:X.Ok):(X.dh pins E).Ok:=⟨ok.mod,ok.kind,ok.glob,ok.blt,ok.above,ok.inj,ok.has,ok.cab,ok.hd,ok.frames,ok.stk,ok.exf,ok.bs,ok.bsz,ok.noex,ok.exfs,ok.d6,ok.frf⟩
theorem Cx.Ok.cV (ok:(X.dh pins E).Ok):X.Ok:=⟨ok.mod,ok.kind,ok.glob,ok.blt,ok.above,ok.inj,ok.has,ok.cab,ok.hd,ok.frames,ok.stk,ok.exf,ok.bs,ok.bsz,ok.noex,ok.exfs,ok.d6,ok.frf⟩
theorem Inv.dh (I:Inv X pins σ H s):Inv (X.dh pins E) [] σ H s:=⟨I.ok.dh,I.os,I.bare,I.base,I.loc,I.cell,I.free,I.freeC,fun p hp=>I.pin p (by simpa using hp),I.hok,I.len⟩
theorem Inv.cV (I:Inv (X.dh pins E) pins' σ H s):Inv X pins σ H s:=⟨I.ok.cV,I.os,I.bare,I.base,I.loc,I.cell,I.free,I.freeC,fun p hp=>I.pin p (List.mem_append_left _ hp),I.hok,I.len⟩
theorem SP.cV {D:Ends} {f:Flow} {s':Shared} (h:SP (X.dh pins E) [] D f s'):SP X pins D f s':=by
 cases f with
 | next=>obtain ⟨σ',H',I,q⟩:=h;exact ⟨σ',H',I.cV,q⟩
 | brk=>obtain ⟨σ',H',I,q⟩:=h;exact ⟨σ',H',I.cV,q⟩
 | cont=>obtain ⟨σ',H',I,q⟩:=h;exact ⟨σ',H',I.cV,q⟩
 | ret u=>obtain ⟨v,σ',H',I,r,q⟩:=h;exact ⟨v,σ',H',I.cV,r,q⟩
theorem Inv.AO {a:Addr} {o:HO} (I:Inv X pins σ H s) (n:H a=none) (h0:X.s₀.heap.get? a=none) (hl:a≠X.env.locals) (hc:∀ x c,X.env.cells.lookup x=some c→a≠c) (hp:∀ p∈X.pn++pins,p.1≠a) (new:bC X.prog X.w (upd H a o) s.heap a o):Inv X pins σ (upd H a o) s:=by
 have sm:∀ b u,H b=some u→upd H a o b=some u:=fun b u q=>by rw [aB (aS q n)];exact q
 refine ⟨I.ok,I.os,I.bare,⟨I.base.keep,I.base.slot,fun b u q n' hx=>?_,I.base.there,fun b xs q=>sm _ _ (I.base.tups b xs q),fun b u xs q=>sm _ _ (I.base.frzs b u xs q),fun b ps q=>?_⟩,I.loc,I.cell,?_,fun x c q=>?_,fun p hpp=>?_,fun b u q=>?_,I.len⟩
 ·rw [aB (fun z=>by rw [z,h0] at q;cases q)]
  exact I.base.free b u q n' hx
 ·obtain ⟨more,e⟩:=I.base.tbls b ps q
  exact ⟨more,sm _ _ e⟩
 ·rw [aB (Ne.symm hl)];exact I.free
 ·rw [aB (Ne.symm (hc x c q))];exact I.freeC x c q
 ·obtain ⟨e,n1,r⟩:=I.pin p hpp
  exact ⟨e,by rw [aB (hp p hpp)];exact n1,r⟩
 ·by_cases z:b=a
  ·subst z
   rw [bE] at q
   cases q
   exact new
  ·rw [aB z] at q
   exact (I.hok b u q).fR (fun _ _ _ e=>e) (fun c e=>sm _ _ e) fun c xs e=>sm _ _ e
end
section
variable {X:Cx} {pins:List (Addr×Obj)} {σ:St} {H:Hp} {s:Shared}
theorem Inv.names {h':Heap} {m':Str→Option Value} {t':Nat} {σ':St} (I:Inv X pins σ H s) (hs:Heap.SameBut X.env.locals s.heap h') (hn:h'.Ns X.env.locals m') (hl:σ'.length=σ.length)
  (hv:∀ (i:Nat) (x:Str) (v:V),X.N[i]?=some x→σ'[i]?=some (some v)→Vis X.env.scope x→∃ u,RelV v u∧Look X.env h' m' x u):Inv X pins σ' H { s with heap:=h',toks:=t' }:=by
 have neL:∀ b o,X.s₀.heap.get? b=some o→b≠X.env.locals:=fun b o e=>Nat.ne_of_lt (Nat.lt_of_lt_of_le (Heap.lt_size e) I.ok.above)
 refine ⟨I.ok,I.os,I.bare,⟨fun b o e n hb hx=>(hs.2 b (neL b o e)).trans (I.base.keep b o e n hb hx),fun b o e n hb hx=>?_,I.base.free,fun b o e hx=>?_,I.base.tups,I.base.frzs,I.base.tbls⟩,⟨m',hn,hv⟩,fun x c e=>?_,I.free,I.freeC,fun p hp=>?_,fun b o q=>?_,hl.trans I.len⟩
 ·obtain ⟨sl,e1⟩:=I.base.slot b o e n hb hx
  exact ⟨sl,(hs.2 b (neL b o e)).trans e1⟩
 ·obtain ⟨o',e1⟩:=I.base.there b o e hx
  exact ⟨o',(hs.2 b (neL b o e)).trans e1⟩
 ·obtain ⟨v,z⟩:=I.cell x c e
  exact ⟨v,z.sameBut hs (I.cne x c e)⟩
 ·obtain ⟨e,n,ne,nf,d⟩:=I.pin p hp
  exact ⟨(hs.2 p.1 ne).trans e,n,ne,nf,d⟩
 ·refine (I.hok b o q).fR (fun c u hc e=>(hs.2 c ?_).trans e) (fun _ q=>q) fun _ _ q=>q
  intro z
  have fr:=I.free
  rcases hc with rfl | hc
  ·rw [z,fr] at q;cases q
  ·rw [z,fr] at hc;cases hc
end
def lZ (cs:List Str) (len iy:Nat) (m:XS):XS:=fun τ S=>match m τ S with
 | .ok q S'=>.ok q S'
 | .ex c _ S'=>if c∈cs then .ok (.nx,(List.replicate len none).set iy (some (.xc c []))) S' else .bad
 | .bad=>.bad
def Hit (K:PySem.W.Frag) (mg:Str→Option Value) (c:Str):Prop:=∃ C W:Addr,mg c=some (.ref C)∧mg "WishError"=some (.ref W)∧PySem.W.exmOne K (.ref C) (.ref W)=some true
section
variable {X:Cx} {WE:WX} {body:List Stmt} {m:XS} {np hpos apos py pn pos:Pos} {n y:Str} {cs:List Str}
theorem yz (ie iy:Nat) {esc:Scope} {EN:List Str} (lq:LQ esc EN) (hcs:∀ c∈cs,Hit X.K X.mg c) (hb:∀ (pins:List (Addr×Obj)) (E':Value→Shared→Prop) (WE':WX),XOk (X.dh pins E') WE'→RB (X.dh pins E') WE' body m)
  (h2:X.N=EN:=by exact rfl) (hie:X.N[ie]?=some n:=by exact rfl) (hiy:X.N[iy]?=some y:=by exact rfl) (hne:y≠n:=by decide) (hkn:X.env.kindOf n=some .local:=by exact rfl) (hky:X.env.kindOf y=some .local:=by exact rfl) (hst:X.stack=X.env :: X.outer:=by exact rfl) (hfr:X.env.frame=some X.env.locals:=by exact rfl)
  (hln:X.env.scope.names.lookup n=some .local:=by exact rfl) (hly:X.env.scope.names.lookup y=some .local:=by exact rfl) (hdn:(n == ("__debug__":Str))=false:=by decide)
  (hg:Gl X "WishError":=by exact rfl) (hsw:swapsWith (.Name n pn) (some (.Name y py)) apos.line X.env=pure false:=by rfl) (hlen:X.N.length=len:=by exact rfl) (hex:X.ex=[]:=by exact rfl) :
  RS X WE (.Try body [.ExceptHandler (some (.Name "WishError" np)) (some n) [.Assign [.Name y py] (.Name n pn) apos] hpos] [] [] pos) (lZ cs len iy m):=⟨by
 have hN:X.N.Nodup:=h2 ▸ lq.nd
 intro pins s σ H D I h
 obtain ⟨μ,S,τ,hr,sr,p⟩:=h
 refine wpAny_Try_except ?_
 have hx:XOk (X.dh pins fun e s₁=>wpAny (model X.prog X.w) X.A (noteFrame e X.env) (fun _ s₂=>wpAny (model X.prog X.w) X.A (setFlight e none) (fun _ s₃=>wpAny (model X.prog X.w) X.A (handleBy e X.env [.ExceptHandler (some (.Name "WishError" np)) (some n) [.Assign [.Name y py] (.Name n pn) apos] hpos]) (SP X pins D) X.xe s₃) X.xe s₂) X.xe s₁)
   (fun c xs S' μ' H'=>Step μ S H μ' S' H'∧m τ S=.ex c xs S'):=by
  intro pins' σ' H1 s1 a C c xs S2 μ2 H' s' B a0 I1 F fl hm hr2 hw
  obtain ⟨st,em⟩:=hw
  replace I1:Inv X pins σ' H1 s1:=I1.cV
  replace F:gT X.prog X.w X.stack H1 s1 a H' s' B:=F
  replace fl:Heap.FlyingW B X.stack a (.ref C) a0 s'.heap:=fl
  replace hm:X.mg c=some (.ref C):=hm
  unfold lZ at p
  rw [em] at p
  dsimp only at p
  by_cases hc:c∈cs
  case neg=>rw [if_neg hc] at p;exact p.elim
  rw [if_pos hc] at p
  obtain ⟨C2,W,hm2,hW,hxm⟩:=hcs c hc
  obtain rfl:C=C2:=by rw [hm] at hm2;cases hm2;rfl
  have frm:X.A.frames=some (X.env :: X.outer):=by rw [← hst];exact I.ok.frames
  have aL:a≠X.env.locals:=fun z=>by
   obtain ⟨_,⟨o,_,_,ho,_⟩,_⟩:=I1.loc
   rw [← z,F.new] at ho;cases ho
  show wpAny (model X.prog X.w) X.A (noteFrame (.ref a) X.env) _ _ s'
  refine wpAny_looks_onW frm hfr (hst ▸ fl) fun h3 held up3=>?_
  have F3:=F.move fl.1 fl.2.2.1 held.1 up3
  refine wpAny_landsW (s:={ s' with heap:=h3 }) held fun h4 fl4 up4=>?_
  have F4:=F3.move held.1 (hst ▸ held.2.2.1) fl4.1 up4
  have I4:=I1.pB F4
  refine wpAny_handleBy_cons (codeAny_handlers_test ?_) (by intro q;cases q)
  refine Calls.Name_function_global I4.ok.kind hg (Calls.loadGlobal_global (by rw [I4.ok.glob];exact I4.mod.glob.keeps I4.bk) hW ?_) (by decide)
  have LT:PySem.W.Looks (model X.prog X.w) h4 (typeOf (.ref a)) (.ref C):=by
   obtain ⟨ob,hob,hcc⟩:=fl4.there
   rw [← hcc]
   exact (PySem.W.Looks.ld hob).andThen .now
  refine PySem.W.exm_one I4.kIn LT hxm _ _ _ _ (fun _ _ e=>e) ?_
  refine codeAny_handlers_suite_as ?_
  refine lands_againW fl4 fun h5 fl5 up5=>?_
  have F5:=F4.move fl4.1 (hst ▸ fl4.2.2.1) fl5.1 up5
  have I5:=I1.pB F5
  have I5w:Inv X pins (List.replicate X.N.length none) H' _:=I5.weak (by rw [List.length_replicate];exact I5.len.symm) fun i v e=>by
   rw [List.getElem?_replicate] at e
   split at e<;>cases e
  have I5t:Inv X pins (List.replicate X.N.length none) (upd H' a (.ext (excAt a C none))) { s' with heap:=h5 }:=I5w.AO F.free (by
    cases q:X.s₀.heap.get? a with
    | none=>rfl
    | some o=>
     obtain ⟨o',e'⟩:=I1.base.there a o q (by rw [hex];intro z;cases z)
     rw [F.new] at e';cases e') aL (fun x c' q z=>by
    obtain ⟨v,oc,ho,_⟩:=I1.cell x c' q
    rw [← z,F.new] at ho;cases ho) (fun p hp z=>by
    have:=(I1.pin p hp).1
    rw [z,F.new] at this;cases this) (by
    obtain ⟨ob,hob,hcc⟩:=fl5.there
    exact ⟨⟨ob,hob,hcc,fun d e=>by cases e⟩,⟨ob,hob⟩,fun h1 h2 ⟨o,e1,e2,e3⟩ k=>⟨o,k o e1,e2,e3⟩⟩)
  refine gv I5t hN hie (.inl hln) (v:=.ref a) (u:=.ref a) rfl (fun s6 I6=>?_) (.inr hln)
  refine wpAny_execs_cons (wpAny_Assign_Name ?_ hsw)
  obtain ⟨m6,hn6,hl6⟩:=id I6.loc
  obtain ⟨u6,ru6,l6⟩:=hl6 ie n (.ref a) hie (by rw [List.getElem?_set_self (by rw [List.length_replicate];exact (List.getElem?_eq_some_iff.mp hie).1)]) (.inl hln)
  have l6':m6 n=some u6:=by
   rcases l6 with ⟨_,e⟩ | ⟨k,_⟩
   ·exact e
   ·rcases k with k | k<;>(rw [hkn] at k;cases k)
  refine wpAny_Name (wpAny_loadName_local I6.ok.kind hkn hn6 l6' ?_) hdn
  refine gv I6 hN hiy (.inl hly) ru6 (fun s7 I7=>?_) (.inr hly)
  refine wpAny_execs_nil ?_
  obtain ⟨m7,hn7,hl7⟩:=id I7.loc
  refine wpAny_nameGoes_keeps hkn hn7 (by rw [I7.ok.kind];rfl) fun h8 v8 hn8 hs8=>?_
  have hiyl:iy < X.N.length:=(List.getElem?_eq_some_iff.mp hiy).1
  refine ⟨(List.replicate X.N.length none).set iy (some (.ref a)),_,I7.names hs8 hn8 (by simp) (fun i x v e1 e2 e3=>?_),?_⟩
  ·have hi:i=iy:=by
    by_cases z:iy=i
    ·exact z.symm
    ·rw [List.getElem?_set_ne z,List.getElem?_replicate] at e2
     split at e2<;>cases e2
   subst hi
   rw [List.getElem?_set_self (by rw [List.length_replicate];exact hiyl)] at e2
   cases e2
   rw [hiy] at e1
   cases e1
   obtain ⟨u,ru,lu⟩:=hl7 i y (.ref a) hiy (by rw [List.getElem?_set_self (by simp;exact hiyl)]) e3
   refine ⟨u,ru,?_⟩
   rcases lu with ⟨k,e⟩ | ⟨k,_⟩
   ·exact .inl ⟨k,by simp only [hne,if_false];exact e⟩
   ·rcases k with k | k<;>(rw [hky] at k;cases k)
  ·have st2:=Step.new st.hr F.free (.ext (excAt a C none))
   refine p (FlV.nx,(List.replicate X.N.length none).set iy (some (.ref a))) μ2 _ (st.trans st2) ⟨⟨by simp [hlen],fun i x e=>?_⟩,True.intro⟩
   dsimp only at e ⊢
   rw [List.getElem?_set] at e ⊢
   by_cases z:iy=i
   ·subst z
    rw [if_pos rfl] at e ⊢
    rw [List.length_replicate] at e ⊢
    rw [← hlen,if_pos hiyl] at e
    cases e
    exact ⟨.ref a,by rw [if_pos hiyl],a,C,rfl,hm,none,bx bE (st.hr.nal F.free),fun z=>absurd rfl z⟩
   ·rw [if_neg z,List.getElem?_replicate] at e
    split at e<;>cases e
 refine wpAny_mono ((hb pins _ _ hx).h [] s σ H D I.dh ⟨μ,S,τ,hr,sr,?_⟩) (fun f s1 z=>?_) (fun e s1 z=>z)
 ·unfold lZ at p
  generalize em:m τ S=res at p
  cases res with
  | ok q S'=>exact p
  | ex c xs S'=>exact fun μ' H' st=>⟨st,rfl⟩
  | bad=>exact p.elim
 ·have z':=SP.cV z
  cases f with
  | next=>exact wpAny_execs_nil z'
  | _=>exact z'⟩
end
end L2
namespace L2
open PySem PySem.Spec PyProof.Rows PySem.W Builtin Builtin.ObjectAttr Builtin.Getset_descriptor
set_option maxRecDepth 100000
structure Cf (K:PySem.W.Frag) (mg:Str→Option Value) (c:Str) (C:Addr):Prop where
 bound:mg c=some (.ref C)
 cls:isClsIn K C=true
 ty:typeIn K (.ref C)=some (.type "type")
 exc:subIn K (.ref C) (.type "BaseException")=some true
 val:subIn K (.ref C) (.type "ValueError")=some true
 ga:findIn K (.ref C) "__getattribute__"=some (some (.builtin "BaseException.__getattribute__"))
 gn:findIn K (.ref C) "__getattr__"=some none
 gc:findIn K (.ref C) "__class__"=some (some (.builtin "object.__class__"))
 ob:mroIn K C (.type "object")=some true
section
variable {prog:Program} {w:World} {A:Around} {E:Value→Shared→Prop} {h:Heap} {g:Array GenState} {d:Drawn} {t:Nat} {os:OsState} {a C:Addr} {o:Obj} {K:PySem.W.Frag} {mg:Str→Option Value} {c:Str}
theorem gh {M:Model} (hx:h.get? a=some o) (hc:o.cls=.ref C):Looks M h (typeOf (.ref a)) (.ref C):=by
 rw [← hc]
 exact (Looks.ld hx).andThen .now
theorem zg {R:Result→Shared→Prop} (X:K.In h) (F:Cf K mg c C) (hx:h.get? a=some o) (hc:o.cls=.ref C) (hq:R (.ok (.ret (.ref C))) ⟨h,g,d,t,os⟩) :
  codeAny (model prog w) A (.call (.builtin "getset_descriptor.__get__") ⟨[.builtin "object.__class__",.ref a,.ref C],[]⟩) R ⟨h,g,d,t,os⟩:=by
 have L0:=gh (M:=model prog w) hx hc
 have L1:=looks_mroIn (M:=model prog w) X F.ob
 refine codeAny_call_builtin KF.slot_gs.plain KF.entry_gs (KF.slot_gs.check _ _ _ _ _ _ _ _ KF.type_class (KF.args_gs _ _ _) ?_)
 unfold Builtin.«getset_descriptor.__get__» descrGet
 rw [dga_obj]
 refine wpAny_bind (wpAny_pure ?_)
 unfold descrGetter descrCheckInstance descrNameAndClass isInstance
 simp only [KF.owner_class]
 repeat lk
 refine ⟨Code.quiet_builtin _ (by decide +kernel),codeAny_builtin KF.entry_class ?_⟩
 unfold Builtin.«object.__class__» shownTypeOf
 repeat lk
 exact hq
theorem rY {tk:Tok} {Q:Fin→Shared→Prop} (X:K.In h) (F:Cf K mg c C) (hx:h.get? a=some o) (hc:o.cls=.ref C) (hq:Q (.done (.ret (.ref C))) ⟨h,g,d,t,os⟩) :
  wpAny (model prog w) A (Builtin.«object.__getattribute__» ⟨[.ref a,.str "__class__" tk],[]⟩) Q E ⟨h,g,d,t,os⟩:=by
 have L0:=gh (M:=model prog w) hx hc
 have L1:=looks_findIn (M:=model prog w) X F.gc
 have hT5:(⟨h,g,d,t,os⟩:Shared).TypeIs (.builtin "object.__class__") "getset_descriptor":=PySem.F.typeOf_object_class
 have f5:=PySem.F.typeOf_object_class
 have f6:=PySem.F.slot_gs_get.lookup
 have f7:=PySem.F.slot_gs_set.lookup
 repeat (any_goals (first | assumption | with_reducible refine L0.at ?_ | with_reducible refine L1.at ?_ | wp_step))
 refine zg X F hx hc ?_
 repeat (any_goals (first | assumption | wp_step))
theorem sZ {M:Model} {nameV:Value} {Q:Unit→Shared→Prop} (X:K.In h) (F:Cf K mg c C) (hx:h.get? a=some o) (hc:o.cls=.ref C) (hq:Q () ⟨h,g,d,t,os⟩):wpAny M A (checkBuiltinCall "BaseException.__getattribute__" ⟨[.ref a,nameV],[]⟩) Q E ⟨h,g,d,t,os⟩:=by
 have hk:builtinKind "BaseException.__getattribute__"=some .slot:=by decide +kernel
 have hsplit:splitId "BaseException.__getattribute__"=some ("BaseException","__getattribute__"):=by decide +kernel
 have L0:=gh (M:=M) hx hc
 have L1:=looks_subIn (M:=M) X F.exc
 have ha:=PySem.F.args_bexc_ga (.ref a) nameV
 simp only [checkBuiltinCall,hk,hsplit]
 refine wpAny_bind ?_
 ·unfold isInstance
  repeat (first | with_reducible refine wpAny_bind (L0.at ?_) | with_reducible refine wpAny_bind (L1.at ?_) | with_reducible refine L0.at ?_ | with_reducible refine L1.at ?_ | wp_step)
  exact hq
theorem vB {tk:Tok} {R:Result→Shared→Prop} (X:K.In h) (F:Cf K mg c C) (hx:h.get? a=some o) (hc:o.cls=.ref C) (hq:R (.ok (.ret (.ref C))) ⟨h,g,d,t,os⟩) :
  codeAny (model prog w) A (.call (.builtin "BaseException.__getattribute__") ⟨[.ref a,.str "__class__" tk],[]⟩) R ⟨h,g,d,t,os⟩:=
 codeAny_call_builtin (by decide +kernel) PySem.F.entry_bexc_ga (sZ X F hx hc (rY X F hx hc hq))
theorem AK {tk:Tok} {Q:Value→Shared→Prop} (X:K.In h) (F:Cf K mg c C) (hx:h.get? a=some o) (hc:o.cls=.ref C) (hq:Q (.ref C) ⟨h,g,d,t,os⟩) :
  wpAny (model prog w) A (getAttrBy (.ref a) (.str "__class__" tk) false) Q E ⟨h,g,d,t,os⟩:=by
 have L0:=gh (M:=model prog w) hx hc
 have L1:=looks_findIn (M:=model prog w) X F.ga
 have L2:=looks_findIn (M:=model prog w) X F.gn
 have f3:=PySem.F.attr_ValueError.ga.bind (.ref a)
 have hx2:(Value.builtin "BaseException.__getattribute__" == Value.builtin "object.__getattribute__")=false:=by decide +kernel
 have hx1:(onTheHeap (Value.ref C) && Value.builtin "BaseException.__getattribute__" == Value.builtin "object.__getattribute__")=false:=by rw [hx2];rfl
 repeat (any_goals (first | assumption | with_reducible refine L0.at ?_ | with_reducible refine L1.at ?_ | with_reducible refine L2.at ?_ | wp_step))
 refine vB X F hx hc ?_
 repeat (any_goals (first | assumption | wp_step))
theorem uW {Q:Option Value→Shared→Prop} (X:K.In h) (F:Cf K mg c C) (hx:h.get? a=some o) (hc:o.cls=.ref C) (hq:Q (some (.ref C)) ⟨h,g,d,t+1,os⟩):wpAny (model prog w) A (getAttr? (.ref a) "__class__") Q E ⟨h,g,d,t,os⟩:=by
 unfold getAttr? getAttrBy?
 repeat (any_goals (first | assumption | with_reducible apply AK X F hx hc | wp_step))
end
theorem yY {K:PySem.W.Frag} {mg:Str→Option Value} {c:Str} {C a:Addr} (F:Cf K mg c C):KitX K (.ref a) (.ref C) (fun h=>∃ o,h.get? a=some o∧o.cls=.ref C) where
 ty:=fun _ _ _ ⟨o,hx,hc⟩=>gh hx hc
 it:=fun _ _ X _=>by
  obtain ⟨cdD,hcD⟩:=Option.isSome_iff_exists.mp F.cls
  unfold clsIn at hcD
  split at hcD
  ·rename_i c' d' cd' sl' ho
   intro A' Q' E' s' k q
   unfold isType loadHead
   exact wpAny_bind (wpAny_loadPart (k _ _ (X _ _ ho)) (wpAny_pure q))
  ·cases hcD
 ne:=fun h tp dd its n sl X htp=>by
  obtain ⟨cdD,hcD⟩:=Option.isSome_iff_exists.mp F.cls
  refine Bool.eq_false_iff.mpr fun q=>?_
  have e:C=tp:=Value.ref.inj (beq_iff_eq.mp q)
  subst e
  unfold clsIn at hcD
  split at hcD
  ·rename_i c' d' cd' sl' ho
   have z:=(X _ _ ho).symm.trans htp
   cases z
  ·cases hcD
 ca:=fun {_ _ _ _ _ s} X ⟨o,hx,hc⟩ k=>by
  obtain ⟨h,g,d,t,os⟩:=s
  exact uW X F hx hc k
def Isb (K:PySem.W.Frag) (mg:Str→Option Value) (c d:Str) (b:Bool):Prop:=∃ C D:Addr,mg c=some (.ref C)∧mg d=some (.ref D)∧subIn K (.ref C) (.ref D)=some b∧(b=true∨(Value.ref C == Value.ref D)=false)
def Isa (K:PySem.W.Frag) (mg:Str→Option Value) (c:Str) (v:Value) (b:Bool):Prop:=∃ C:Addr,Cf K mg c C∧kitOne K (.ref C) v=some b
theorem Bk {K:PySem.W.Frag} {h:Heap} {mg:Str→Option Value} {c:Str} {C:Addr} (X:K.In h) (G:h.Ns mainGlobals mg) (a:nsIn K mainGlobals c=some (some (.ref C))) (b1:isClsIn K C=true) (b2:typeIn K (.ref C)=some (.type "type")) (b3:subIn K (.ref C) (.type "BaseException")=some true) (b4:subIn K (.ref C) (.type "ValueError")=some true) (b5:findIn K (.ref C) "__getattribute__"=some (some (.builtin "BaseException.__getattribute__"))) (b6:findIn K (.ref C) "__getattr__"=some none) (b7:findIn K (.ref C) "__class__"=some (some (.builtin "object.__class__"))) (b8:mroIn K C (.type "object")=some true):∃ C,Cf K mg c C:=⟨C,mg_of X G a,b1,b2,b3,b4,b5,b6,b7,b8⟩
theorem wX {K:PySem.W.Frag} {h:Heap} {mg:Str→Option Value} {c d:Str} {C D:Addr} {b:Bool} (X:K.In h) (G:h.Ns mainGlobals mg) (a:nsIn K mainGlobals c=some (some (.ref C))) (a':nsIn K mainGlobals d=some (some (.ref D))) (q:subIn K (.ref C) (.ref D)=some b) (z:b=true∨(Value.ref C == Value.ref D)=false):Isb K mg c d b:=⟨C,D,mg_of X G a,mg_of X G a',q,z⟩
theorem ia {K:PySem.W.Frag} {mg:Str→Option Value} {c d:Str} {b:Bool} (h1:∃ C,Cf K mg c C) (h2:∃ D,Cf K mg d D) (h:Isb K mg c d b):∃ D,mg d=some (.ref D)∧Isa K mg c (.ref D) b:=by
 obtain ⟨C,F⟩:=h1
 obtain ⟨D,G⟩:=h2
 obtain ⟨C',D',e1,e2,q,z⟩:=h
 obtain rfl:C=C':=by rw [F.bound] at e1;cases e1;rfl
 obtain rfl:D=D':=by rw [G.bound] at e2;cases e2;rfl
 refine ⟨D,G.bound,C,F,?_⟩
 unfold kitOne
 by_cases hb:(Value.ref C == Value.ref D)=true
 ·rw [if_pos hb]
  rcases z with rfl | z
  ·rfl
  ·rw [z] at hb;cases hb
 ·rw [if_neg hb]
  unfold kitCls
  dsimp only
  rw [if_pos (by rw [show (clsIn K D).isSome=true from G.cls,G.ty];rfl),q]
theorem mU {K:PySem.W.Frag} {mg:Str→Option Value} {c:Str} (h1:∃ C,Cf K mg c C) (h2:∃ D,Cf K mg "WishError" D) (h:Isb K mg c "WishError" true):Hit K mg c:=by
 obtain ⟨C,F⟩:=h1
 obtain ⟨D,G⟩:=h2
 obtain ⟨C',D',e1,e2,q,z⟩:=h
 obtain rfl:C=C':=by rw [F.bound] at e1;cases e1;rfl
 obtain rfl:D=D':=by rw [G.bound] at e2;cases e2;rfl
 refine ⟨C,D,F.bound,G.bound,?_⟩
 unfold exmOne kitCls
 dsimp only
 rw [if_pos (by rw [G.exc];rfl),if_pos (by rw [show (clsIn K D).isSome=true from G.cls,G.ty];rfl),q]
theorem iv {K:PySem.W.Frag} {mg:Str→Option Value} {c:Str} (h1:∃ C,Cf K mg c C):Isa K mg c (.type "ValueError") true:=by
 obtain ⟨C,F⟩:=h1
 refine ⟨C,F,?_⟩
 unfold kitOne kitCls
 rw [if_neg (by intro z;cases (beq_iff_eq.mp z))]
 dsimp only
 rw [if_pos (by decide +kernel),F.val]
def isX (cs:List Str) (f:Str→Bool) (z:Vl) (S:Sto):R Vl:=match z with
 | .xc c _=>if c∈cs then .ok (.d (.bl (f c))) S else .bad
 | _=>.bad
section
variable {X:Cx} {WE:WX} {e:Expr} {xa:XE} {nm:Str} {p p2 pos:Pos} {cs:List Str} {f:Str→Bool}
theorem nN {v:Value} {y:V} [n:NS e] (hT:PE X (.Name nm p2) (tC y)) (ry:∀ u,RelV y u→u=v) (hI:∀ c∈cs,Isa X.K X.mg c v (f c)) (hm:X.mg "isinstance"=none) (ha:RE X WE e xa) (hg:Gl X "isinstance":=by exact rfl)
  (hb:bootBuiltins "isinstance"=some (.builtin "isinstance"):=by decide +kernel)
  (hs2:starEach [.Name nm p2] X.env=(false,eval (.Name nm p2) X.env) :: starEach [] X.env:=by rfl) (hpl:(backTo pos (starEach [.Name nm p2] X.env)).any (·.1)=false:=by rfl) :
  RE X WE (.Call (.Name "isinstance" p) [e,.Name nm p2] [] pos) (xUn (isX cs f) xa):=⟨by
 have he:=n.eq [.Name nm p2] X.env
 intro pins s σ H Q I h
 refine wpAny_Call_Name_kw (cu I hg hm hb ?_ (by decide) (by decide))
 refine PyProof.Rows.callWith_builtin1 (thn ((cW ha.h (cW hT fz hs2) he) pos pins s σ H (fun vs H1=>∃ x μ1 S1 z,vs=[x,y]∧HR μ1 S1 H1∧aM X.K X.mg μ1 S1 H1 x z∧aJ (aM X.K X.mg) WE μ1 S1 H1 (isX cs f z S1) Q) I ?_) fun us s1 ⟨vs,H1,I1,r1,q1⟩=>?_) he hpl
 ·obtain ⟨μ,S,τ,hr,sr,p⟩:=h
  exact ⟨μ,S,τ,hr,sr,p.bind fun v x S1 μ1 H1 st1 r1 p1=>⟨v,μ1,S1,x,rfl,st1.hr,r1,p1⟩⟩
 ·obtain ⟨x,μ1,S1,z,rfl,hr1,rz,p1⟩:=q1
  obtain ⟨u1,u2,rfl,ru,rw'⟩:=r1.two
  cases ry u2 rw'
  unfold isX at p1
  split at p1
  ·rename_i c xs
   split at p1
   ·rename_i hc
    obtain ⟨a,C,rfl,hmc,od,hH,_⟩:=rz
    cases ru
    obtain ⟨C',F,hk⟩:=hI c hc
    obtain rfl:C=C':=Value.ref.inj (Option.some.inj (hmc.symm.trans F.bound))
    obtain ⟨o,ho,hcls,_⟩:=(I1.hok a _ (aG hH).2).1
    exact kia_one (yY F) I1.kIn ⟨o,ho,hcls⟩ hk (by intro z;cases z) fun tk=>⟨.bl (f c),H1,I1.tok tk,rfl,p1.here hr1 (Rep.bl _)⟩
   ·exact p1.elim
  ·exact p1.elim⟩
theorem cE [n:NS e] (hI:∀ c∈cs,∃ D,X.mg nm=some (.ref D)∧Isa X.K X.mg c (.ref D) (f c)) (hD:∃ D,Cf X.K X.mg nm D) (hm:X.mg "isinstance"=none) (ha:RE X WE e xa) (hg:Gl X "isinstance":=by exact rfl) (hg2:Gl X nm:=by exact rfl) (hd:(nm == ("__debug__":Str))=false:=by decide)
  (hb:bootBuiltins "isinstance"=some (.builtin "isinstance"):=by decide +kernel)
  (hs2:starEach [.Name nm p2] X.env=(false,eval (.Name nm p2) X.env) :: starEach [] X.env:=by rfl) (hpl:(backTo pos (starEach [.Name nm p2] X.env)).any (·.1)=false:=by rfl) :
  RE X WE (.Call (.Name "isinstance" p) [e,.Name nm p2] [] pos) (xUn (isX cs f) xa):=by
 obtain ⟨D,G⟩:=hD
 exact nN (v:=.ref D) (y:=.ref D) (uR hg2 G.bound rfl hd) (fun u r=>r) (fun c hc=>by
  obtain ⟨D',e,h⟩:=hI c hc
  rw [G.bound] at e
  cases e
  exact h) hm ha hg hb hs2 hpl
end
theorem fW {hp:Heap}:∀ bs:List Bool,ReadsAll hp (bs.map Value.bool) (bs.map PyData.bool) []
 | []=>.nil
 | b :: bs=>.cons (as:=[]) (bs:=[]) (.bool b) (fW bs)
theorem kF (bs:List Bool):(bs.map PyData.bool).all Shape.bool.has=true:=by
 rw [List.all_map,List.all_eq_true]
 intro b _
 rfl
theorem gW (k:Bool):∀ bs:List Bool,Spec.countIn (.bool k) (bs.map PyData.bool)=(bs.count k:Nat)
 | []=>rfl
 | b :: bs=>by
  rw [List.map_cons,Spec.countIn,gW k bs,List.count_cons]
  cases b<;>cases k<;>simp [Spec.same]<;>omega
theorem kD {k:Bool}:∀ {ns:List Bool} {j:Nat},j < ns.idxOf k→∀ (h2:j < ns.length),(ns[j] == k)=false
 | n :: r,0,h,_=>by
  by_cases e:n=k
  ·subst e;simp at h
  ·simpa using e
 | n :: r,j+1,h,h2=>by
  by_cases e:n=k
  ·subst e;simp at h
  ·have hb:(n == k)=false:=by simpa using e
   have h':j < r.idxOf k:=by
    rw [List.idxOf_cons,hb] at h
    exact Nat.lt_of_succ_lt_succ h
   exact kD h' (Nat.lt_of_succ_lt_succ h2)
def ou:V→List V→Hp→VK→Prop:=fun x vs H Q=>∃ (l:Addr) (bs:List Bool) (k:Bool),x=.ref l∧vs=[.bl k]∧H l=some (.lst (bs.map V.bl))∧Q (.int (bs.count k:Nat)) H
def n4:V→List V→Hp→VK→Prop:=fun x vs H Q=>∃ (l:Addr) (bs:List Bool) (k:Bool),x=.ref l∧vs=[.bl k]∧H l=some (.lst (bs.map V.bl))∧k∈bs∧bs.length≤1000∧Q (.int (bs.idxOf k:Nat)) H
section
variable {X:Cx} {WE:WX}
theorem qH:MtM X "list.count" ou:=by
 intro pins s σ H x vs v us Q I rx rv h
 obtain ⟨l,bs,k,rfl,rfl,hH,q⟩:=h
 cases rx
 obtain ⟨u,rfl,ru⟩:=rv.one
 cases ru
 obtain ⟨its,r,pl,hz⟩:=I.list (SqL.of hH)
 have hits:=iY r
 subst hits
 refine count_list_bools (xs:=bs.map PyData.bool) (hp:=s.heap) pl.isList (fW bs) (kF bs) ?_
 rw [gW]
 exact ⟨.int _,H,I.kept (t':=s.toks+1) fun b o e=>e,⟨_,rfl⟩,q⟩
theorem qf:MtM X "list.index" n4:=by
 intro pins s σ H x vs v us Q I rx rv h
 obtain ⟨l,bs,k,rfl,rfl,hH,hk,hb,q⟩:=h
 cases rx
 obtain ⟨u,rfl,ru⟩:=rv.one
 cases ru
 obtain ⟨its,r,pl,hz⟩:=I.list (SqL.of hH)
 have hits:=iY r
 subst hits
 obtain ⟨⟨cls,dd,data,sl⟩,ho,hc,n,hd⟩:=pl.isList
 simp only at hc hd
 subst hc hd
 have hj:bs.idxOf k < bs.length:=List.idxOf_lt_length_iff.mpr hk
 refine call_meets PySem.F.slot_list_index ⟨_,ho,rfl⟩ PySem.F.entry_list_index (PySem.F.args_list_index_2 _ _)
  (PySem.SeqAt.list_indexAt l (bs.map Value.bool).toArray n dd sl (.bool k) (isBoolOf k) (bs.idxOf k) (by simpa using hj) (by omega) ?_ ?_) ⟨ho,fun y hy=>eq_isBoolOf k (fW (hp:=s.heap) bs) (kF bs) y (by simpa using hy) _ _,?_⟩
 ·simp only [List.getElem_toArray,List.getElem_map,isBoolOf]
  simpa using List.getElem_idxOf hj
 ·intro j hjs hlt
  simp only [List.getElem_toArray,List.getElem_map,isBoolOf]
  exact kD hlt (by simpa using hjs)
 ·exact ⟨.int _,H,I.kept (t':=s.toks+1) fun b o e=>e,⟨_,rfl⟩,q⟩
end
def ow (xs:List D) (z:D) (S:Sto):R Vl:=match z,dA xs with
 | .bl k,some bs=>.ok (.d (.int (bs.count k:Nat))) S
 | _,_=>.bad
def pA (xs:List D) (z:D) (S:Sto):R Vl:=match z,dA xs with
 | .bl k,some bs=>if k∈bs∧bs.length≤1000 then .ok (.d (.int (bs.idxOf k:Nat))) S else .bad
 | _,_=>.bad
theorem qJ:tV ou ow:=by
 intro K mg WE μ S H a xs vs w z Q hr h rs rw' p
 unfold ow at p
 split at p
 ·rename_i k bs e1
  cases rw'
  rw [gS e1] at rs
  rw [aq.jG rs] at h
  exact ⟨_,bs,k,rfl,rfl,h,p.here hr (Rep.int _)⟩
 ·exact p.elim
theorem p6:tV n4 pA:=by
 intro K mg WE μ S H a xs vs w z Q hr h rs rw' p
 unfold pA at p
 split at p
 ·rename_i k bs e1
  split at p
  ·rename_i hc
   cases rw'
   rw [gS e1] at rs
   rw [aq.jG rs] at h
   exact ⟨_,bs,k,rfl,rfl,h,hc.1,hc.2,p.here hr (Rep.int _)⟩
  ·exact p.elim
 ·exact p.elim
theorem B3 {X:Cx}:XOk X W0:=fun _ _ _ _ _ _ _ _ _ _ _ _ _ _ _ _ _ _ _ h=>h.elim
theorem fZ {n d k:Nat}:HT.sIx n d (some (k:Int))=min k n:=by
 unfold HT.sIx
 first | (dsimp only;split<;>omega) | (simp;omega) | omega
theorem jy {n d:Nat}:HT.sIx n d none=d:=rfl
theorem iz {xs:List D} {k:Nat}:cx xs none (some (k:Int))=xs.take k:=by
 unfold cx
 rw [jy,fZ,List.drop_zero,Nat.sub_zero]
 by_cases h:k≤xs.length
 ·rw [Nat.min_eq_left h]
 ·rw [Nat.min_eq_right (by omega),List.take_of_length_le (Nat.le_refl _),List.take_of_length_le (by omega)]
theorem jj {xs:List D} {k:Nat}:cx xs (some (k:Int)) none=xs.drop k:=by
 unfold cx
 rw [jy,fZ]
 by_cases h:k≤xs.length
 ·rw [Nat.min_eq_left h,List.take_of_length_le (by simp)]
 ·rw [Nat.min_eq_right (by omega),List.drop_of_length_le (Nat.le_refl _),List.drop_of_length_le (by omega)]
  simp
theorem xF {xs:List D} {a b:Nat}:cx xs (some (a:Int)) (some (b:Int))=(xs.drop a).take (b - a):=by
 unfold cx
 rw [fZ,fZ]
 by_cases h:a≤xs.length
 ·rw [Nat.min_eq_left h]
  by_cases hb:b≤xs.length
  ·rw [Nat.min_eq_left hb]
  ·rw [Nat.min_eq_right (by omega),List.take_of_length_le (by simp),List.take_of_length_le (by simp;omega)]
 ·rw [Nat.min_eq_right (show xs.length≤a by omega),List.drop_of_length_le (Nat.le_refl _),List.drop_of_length_le (by omega)]
  simp
theorem gJ (ns:List Int):D.bN (ns.map D.int)=0:=by
 induction ns with
 | nil=>rfl
 | cons n ns ih=>simp [D.bN,D.depth,ih]
theorem eH:∀ (xs ys:List Int),D.bt (xs.map D.int) (ys.map D.int)=decide (xs=ys)
 | [],[]=>by simp [D.bt]
 | [],y :: ys=>by simp [D.bt]
 | x :: xs,[]=>by simp [D.bt]
 | x :: xs,y :: ys=>by
  simp only [List.map_cons,D.bt,D.eqv,eH xs ys]
  by_cases h:x=y
  ·by_cases h2:xs=ys<;>simp [h,h2]
  ·simp [h]
theorem gO {xs:List D} {i:Nat} {z:D} (h:xs[i]?=some z):atI xs (i:Int)=some z:=by
 have hi:=(List.getElem?_eq_some_iff.mp h).1
 unfold atI
 rw [pJ (by omega) (by omega)]
 show xs[((i:Nat):Int).toNat]?=_
 rw [Int.toNat_natCast];exact h
theorem rE {xs:List D} {i:Int} (h0:0≤i) (h1:i < xs.length):∃ z,atI xs i=some z∧z∈xs:=by
 have hk:i.toNat < xs.length:=by omega
 refine ⟨xs[i.toNat],?_,List.getElem_mem hk⟩
 have:=gO (xs:=xs) (i:=i.toNat) (List.getElem?_eq_getElem hk)
 rw [show ((i.toNat:Nat):Int)=i by omega] at this
 exact this
def lf2 (f:List D→D→Sto→R Vl) (xs:List D) (r:R Vl):R Vl:=r.bind fun y S2=>match y with
 | .d z=>f xs z S2
 | _=>.bad
def lf1 (f:List D→D→Sto→R Vl) (r:R Vl) (e:XE) (τ:Nv):R Vl:=r.bind fun x S1=>match x with
 | .d (.lst xs)=>lf2 f xs (e τ S1)
 | _=>.bad
theorem z0 {f:List D→D→Sto→R Vl} {o e:XE} {τ:Nv} {S:Sto}:xLf f o e τ S=lf1 f (o τ S) e τ:=af rfl
theorem BH {f:List D→D→Sto→R Vl} {xs:List D} {e:XE} {τ:Nv} {S:Sto}:lf1 f (.ok (.d (.lst xs)) S) e τ=lf2 f xs (e τ S):=af rfl
theorem A_ {f:List D→D→Sto→R Vl} {xs:List D} {z:D} {S:Sto}:lf2 f xs (.ok (.d z) S)=f xs z S:=af rfl
theorem BM {ns:List Int} {k:Int} {S:Sto}:yI (ns.map D.int) (.int k) S=.ok (.d (.int (ns.count k:Nat))) S:=by
 unfold yI
 rw [show intsOf (ns.map D.int)=some ns by rw [m_ (fun x=>x) ns];simp]
def zp1 (r:R (List Vl)):R Its:=r.bind ox
theorem Bd {as:XA} {τ:Nv} {S:Sto}:iZp as τ S=zp1 (as τ S):=af rfl
theorem zP {xs ys:List D} {S:Sto}:zp1 (.ok [.d (.tup xs),.d (.tup ys)] S)=.ok ⟨cH xs ys,none⟩ S:=af rfl
theorem AY {xs ys:List D} {S:Sto}:zp1 (.ok [.d (.lst xs),.d (.tup ys)] S)=.ok ⟨cH xs ys,none⟩ S:=af rfl
end L2
set_option maxHeartbeats 4000000
namespace My
open PySem L2
def csX:List Str:=["NoStand","NoName","NoWorth"]
noncomputable def kU:XS:=(ed (sg (xSl mG (ae 0) (bW (xC (.int 12))) (bW (xC (.int 63))))) (gTu 2 (gCo (gNm 2) (gCo (gNm 3) gN0))) (aT (xOp aP (xOp oIx (ae 1) (xOp oMod (ae 2) (xC (.int 12)))) (ae 3)) (gSb (ae 1) (xOp oMod (ae 2) (xC (.int 12))) dq)))
noncomputable def kQ:XS:=(az (aT (xN iP (aa (xSl mG (ae 0) bF (bW (xC (.int 12)))) ak)) (gNm 1))
 (az kU
 (aH (xN mkM (aa (xFz (ae 1)) (aa (xC (.int 0)) (aa (xC (.int 0)) ak)))))))
noncomputable def gR:XF:=a_ 1 4 kQ
noncomputable def ja:XS:=(az (xIf (aI (xOp oGe (ae 0) (xOp jv (xC (.int 10)) (xC (.int 18))))) (aH (ae 0)) aN)
 (az (aT (xOp oMod (xOp aP (xOp aP (xOp fc (xOp oMod (ae 0) (xC (.int 1000000007))) (xC (.int 69069))) (xOp fc (ae 1) (xC (.int 40503)))) (xC (.int 977))) (xC (.int 2147483629))) (gNm 2))
 (az (aT (xOp oMod (xOp aP (xOp aP (xOp fc (ae 2) (ae 2)) (xOp fc (ae 1) (xC (.int 7919)))) (xOp oMod (ae 0) (xC (.int 65537)))) (xC (.int 2147483587))) (gNm 3))
 (az (aT (xOp oMod (xOp aP (xOp aP (xOp fc (ae 3) (ae 3)) (xOp fc (ae 2) (xC (.int 31)))) (xC (.int 5))) (xC (.int 2147483563))) (gNm 4))
 (aH (xOp aP (xOp fc (xOp aP (xOp fc (ae 2) (xC (.int 2147483659))) (ae 3)) (xC (.int 2147483693))) (ae 4)))))))
noncomputable def dX:XF:=a_ 2 5 ja
noncomputable def kS:XS:=(az (xIf (aI (xOp oLt (xOp oIx (ae 0) (xC (.int 2))) (ae 1))) (az (aT (xOp oIx (ae 0) (xC (.int 1))) (gNm 2))
 (az (aT (xC (.int 0)) (gNm 3))
 (az (xIf (aI (xOp oLt (ae 2) (xN br (aa (xOp oIx (ae 0) (xC (.int 0))) ak)))) (aT (xOp oIx (xOp oIx (ae 0) (xC (.int 0))) (ae 2)) (gNm 3)) (xIf (aI (xOp oGt (xN br (aa (xOp oIx (ae 0) (xC (.int 0))) ak)) (xC (.int 0)))) (aT (xOp oMod (xOp oIx (xOp oIx (ae 0) (xC (.int 0))) (xOp oMod (xOp aP (xOp fc (ae 2) (xC (.int 5))) (xC (.int 3))) (xN br (aa (xOp oIx (ae 0) (xC (.int 0))) ak)))) (xOp aP (xOp jv (xC (.int 10)) (xC (.int 17))) (ae 2))) (gNm 3)) aN))
 (az (aT (xOp aP (ae 2) (xC (.int 1))) (gSb (ae 0) (xC (.int 1)) dq))
 (aT (ax dX (aa (ae 3) (aa (ae 2) ak))) (gSb (ae 0) (xC (.int 2)) dq)))))) aN)
 (az (aT (xOp oMod (xOp oIx (ae 0) (xC (.int 2))) (ae 1)) (gNm 4))
 (az (aT (xOp oDiv (xOp oIx (ae 0) (xC (.int 2))) (ae 1)) (gSb (ae 0) (xC (.int 2)) dq))
 (aH (ae 4)))))
noncomputable def aD:XF:=a_ 2 5 kS
noncomputable def je:XS:=(ed (ji (aa (xOp aP (xC (.int 1)) (ax aD (aa (ae 0) (aa (ae 1) ak)))) ak)) (gNm 4) (az (aT (xOp aP (ae 2) (ax aD (aa (ae 0) (aa (xC (.int 5)) ak)))) (gNm 5))
 (az (xIf (aI (xOp oEq (ax aD (aa (ae 0) (aa (xC (.int 6)) ak))) (xC (.int 0)))) (aT (xOp c9 (ax aD (aa (ae 0) (aa (xC (.int 19)) ak))) (xC (.int 9))) (gNm 5)) aN)
 (xIf (aI (xOp dI (ae 5) (ae 3))) (gB (xLm ke (ae 3) (ae 5))) aN))))
noncomputable def jg:XS:=(az (aT (xN mkM ak) (gNm 3))
 (az je
 (aH (xN fC (aa (xN i6 (aa (ae 3) ak)) ak)))))
noncomputable def eS:XF:=a_ 3 6 jg
noncomputable def j3:XE:=(xLC (ji (aa (xOp aP (xC (.int 1)) (ax aD (aa (ae 0) (aa (ae 1) ak)))) ak)) 1 (gNm 0) (fun _ S=>.ok true S) (ax eS (aa (ae 1) (aa (ae 3) (aa (ae 4) ak)))))
noncomputable def jZ:XS:=(az (aT (xOp c9 (ax aD (aa (ae 0) (aa (xC (.int 15)) ak))) (xC (.int 9))) (gNm 3))
 (aH (xN fC (aa j3 ak))))
noncomputable def fL:XF:=a_ 3 4 jZ
noncomputable def kE:XS:=(az (aT (xC (.int 0)) (gSb (ae 0) (xC (.int 2)) dq))
 (aH (ae 0)))
noncomputable def gI:XF:=a_ 1 1 kE
noncomputable def fP:XS:=(az (xIf (aI (xOp oEq (ax aD (aa (ae 0) (aa (xC (.int 8)) ak))) (xC (.int 0)))) (aH (xOp c9 (ax aD (aa (ae 0) (aa (xC (.int 19)) ak))) (xC (.int 9)))) aN)
 (az (aT (xOp oIx (ae 1) (ax aD (aa (ae 0) (aa (xN br (aa (ae 1) ak)) ak)))) (gNm 2))
 (az (aT (xOp aP (xOp oIx (ae 2) (ax aD (aa (ae 0) (aa (xN br (aa (ae 2) ak)) ak)))) (xOp oIx (xN mkL (aa (xC (.int 0)) (aa (xC (.int 0)) (aa (xC (.int 0)) (aa (xC (.int 1)) (aa (xUn c8 (xC (.int 1))) ak)))))) (ax aD (aa (ae 0) (aa (xC (.int 5)) ak))))) (gNm 3))
 (aH (xN pQ (aa (xUn c8 (xC (.int 9))) (aa (xN pK (aa (xC (.int 9)) (aa (ae 3) ak))) ak)))))))
noncomputable def cX:XF:=a_ 2 4 fP
noncomputable def iH (s_l_same:XF):XE:=(xLC (iZp (aa (ae 0) (aa (ae 1) ak))) 2 (gTu 2 (gCo (gNm 0) (gCo (gNm 1) gN0))) (fun _ S=>.ok true S) (ax s_l_same (aa (ae 0) (aa (ae 1) ak))))
noncomputable def fO (s_l_same:XF):XS:=(az (xIf (aI (xOp oIs (ae 1) (xC .non))) (aH (xOp oIs (ae 0) (xC .non))) aN)
 (az (xIf (xOr (bI (xUn (bD "bool") (ae 1))) (bI (xUn (bD "bool") (ae 0)))) (aH (cJ (xUn (bD "bool") (ae 1)) (cJ (xUn (bD "bool") (ae 0)) (xOp oEq (ae 0) (ae 1))))) aN)
 (az (xIf (bI (xUn (bD "int") (ae 1))) (aH (cJ (xUn (bD "int") (ae 0)) (xOp oEq (ae 0) (ae 1)))) aN)
 (az (xIf (bI (xUn (bD "str") (ae 1))) (aH (cJ (xUn (bD "str") (ae 0)) (xOp oEq (ae 0) (ae 1)))) aN)
 (az (xIf (xOr (aI (xOp oNe (xUn (bD "tuple") (ae 1)) (xUn (bD "tuple") (ae 0)))) (aI (xOp oNe (xUn (bD "list") (ae 1)) (xUn (bD "list") (ae 0))))) (aH (xC (.bl false))) aN)
 (az (xIf (aI (xOp oNe (xN br (aa (ae 0) ak)) (xN br (aa (ae 1) ak)))) (aH (xC (.bl false))) aN)
 (aH (xOp dI (xC (.bl false)) (iH s_l_same)))))))))
noncomputable def bu:Nat→XF
 | 0=>a_ 2 2 lT
 | n+1=>a_ 2 2 (fO (bu n))
noncomputable def jc:XS:=(aH (cJ (xUn (bD "int") (ae 0)) (jK (xUn (bD "bool") (ae 0)))))
noncomputable def dG:XF:=a_ 1 1 jc
noncomputable def iQ:XS:=(aH (cJ (ax dG (aa (ae 0) ak)) (fF oLe oLe (ae 1) (ae 0) (ae 2))))
noncomputable def df:XF:=a_ 3 3 iQ
noncomputable def gY:XE:=(xLC (ee (ae 0)) 1 (gNm 0) (fun _ S=>.ok true S) (ax df (aa (ae 0) (aa (ae 2) (aa (ae 3) ak)))))
noncomputable def hU:XS:=(aH (cJ (xUn (bD "tuple") (ae 0)) (xN iO (aa gY ak))))
noncomputable def dP:XF:=a_ 3 3 hU
noncomputable def eL:XE:=(xLC (sv (aa (xC (.int 1)) (aa (xN br (aa (ae 0) ak)) ak))) 1 (gNm 0) (fun _ S=>.ok true S) (xOp oLt (xOp oIx (ae 1) (xOp c9 (ae 0) (xC (.int 1)))) (xOp oIx (ae 1) (ae 0))))
noncomputable def gZ:XS:=(aH (xN iO (aa eL ak)))
noncomputable def dM:XF:=a_ 1 1 gZ
noncomputable def hZ:XS:=(aH (cJ (ax dP (aa (ae 0) (aa (xUn c8 (xC (.int 9))) (aa (xC (.int 9)) ak)))) (cJ (fF oLe oLe (xC (.int 1)) (xN br (aa (ae 0) ak)) (xC (.int 4))) (ax dM (aa (ae 0) ak)))))
noncomputable def dJ:XF:=a_ 1 1 hZ
noncomputable def jf:XE:=(xLC (ee (ae 0)) 1 (gNm 0) (fun _ S=>.ok true S) (ax dJ (aa (ae 0) ak)))
noncomputable def jb:XS:=(az (xIf (xOr (cg (bI (xUn (bD "tuple") (ae 0)))) (cg (aI (fF oLe oLe (xC (.int 1)) (xN br (aa (ae 0) ak)) (xC (.int 4)))))) (aH (xC (.bl false))) aN)
 (aH (xN iO (aa jf ak))))
noncomputable def eT:XF:=a_ 1 1 jb
noncomputable def g_:XS:=(xIf (cg (bI (ax eT (aa (ae 0) ak)))) (f9 "NoStand" (xC (.str "this is no stand"))) aN)
noncomputable def dZ:XF:=a_ 1 1 g_
noncomputable def fK:XS:=(aH (ax df (aa (ae 0) (aa (xC (.int 0)) (aa (xOp c9 (xN br (aa (ae 1) ak)) (xC (.int 1))) ak)))))
noncomputable def cT:XF:=a_ 2 2 fK
noncomputable def ig:XS:=(xIf (cg (bI (ax cT (aa (ae 1) (aa (ae 0) ak))))) (f9 "NoName" (xC (.str "the stand has no such name"))) aN)
noncomputable def eg:XF:=a_ 2 2 ig
noncomputable def iC:XS:=(aH (cJ (ax dG (aa (ae 1) ak)) (xOp oIn (ae 1) (ae 0))))
noncomputable def eh:XF:=a_ 2 2 iC
noncomputable def eJ:XS:=(az (gB (fo eg (aa (ae 0) (aa (ae 1) ak))))
 (xIf (cg (bI (ax eh (aa (xOp oIx (ae 0) (ae 1)) (aa (ae 2) ak))))) (f9 "NoWorth" (xC (.str "the name has no such worth"))) aN))
noncomputable def cn:XF:=a_ 3 3 eJ
noncomputable def jW:XS:=(az (gB (fo dZ (aa (ae 0) ak)))
 (az (gB (fo cn (aa (ae 0) (aa (ae 1) (aa (ae 2) ak)))))
 (aH (xOp aP (xOp aP (xSl oSl (ae 0) bF (bW (ae 1))) (xN mkT (aa (xN mkT (aa (ae 2) ak)) ak))) (xSl oSl (ae 0) (bW (xOp aP (ae 1) (xC (.int 1)))) bF)))))
noncomputable def cM:XF:=a_ 3 3 jW
noncomputable def dR:XS:=(az (aT (xN mkL (aa (xUn (isX csX (fun c=>c == "Free")) (ae 0)) (aa (xUn (isX csX (fun c=>c == "NoLine")) (ae 0)) (aa (xUn (isX csX (fun c=>c == "NoName")) (ae 0)) ak)))) (gNm 1))
 (az (aT (xOp aP (ae 1) (xN mkL (aa (xUn (isX csX (fun c=>c == "NoStand")) (ae 0)) (aa (xUn (isX csX (fun c=>c == "NoText")) (ae 0)) (aa (xUn (isX csX (fun c=>c == "NoWish")) (ae 0)) ak))))) (gNm 1))
 (az (aT (xOp aP (ae 1) (xN mkL (aa (xUn (isX csX (fun c=>c == "NoWorth")) (ae 0)) (aa (xUn (isX csX (fun c=>c == "Settled")) (ae 0)) (aa (xUn (isX csX (fun c=>c == "TooMany")) (ae 0)) ak))))) (gNm 1))
 (az (xIf (xOr (aI (xOp oNe (xLf ow (ae 1) (xC (.bl true))) (xC (.int 1)))) (xOr (cg (bI (xUn (isX csX (fun _=>true)) (ae 0)))) (cg (bI (xUn (isX csX (fun _=>true)) (ae 0)))))) (aH (xC (.str "odd"))) aN)
 (aH (xOp oIx (xN mkL (aa (xC (.str "free")) (aa (xC (.str "line")) (aa (xC (.str "name")) (aa (xC (.str "stand")) (aa (xC (.str "text")) (aa (xC (.str "wish")) (aa (xC (.str "worth")) (aa (xC (.str "fixed")) (aa (xC (.str "many")) ak)))))))))) (xLf pA (ae 1) (xC (.bl true)))))))))
noncomputable def bP:XF:=a_ 1 2 dR
noncomputable def ik:XS:=(az (aT (xC .non) (gNm 3))
 (az (aT (xC .non) (gNm 4))
 (az (lZ csX 6 3 (aT (fo cM (aa (ae 0) (aa (ae 1) (aa (ae 2) ak)))) (gNm 4)))
 (aH (o7 (aI (xOp oIs (ae 3) (xC .non))) (ae 4) (ax bP (aa (ae 3) ak)))))))
noncomputable def cz:XF:=a_ 3 6 ik
noncomputable def h9:XS:=(aH (cJ (xUn (bD "int") (ae 0)) (jK (xUn (bD "bool") (ae 0)))))
noncomputable def bJ:XF:=a_ 1 1 h9
noncomputable def cA:XE:=(xLC (ee (ae 1)) 1 (gNm 0) (xOr (cg (bI (ax bJ (aa (ae 0) ak)))) (xOr (aI (xOp oLt (ae 0) (xUn c8 (xC (.int 9))))) (aI (xOp oGt (ae 0) (xC (.int 9)))))) (xC (.int 1)))
noncomputable def di:XS:=(ed (ee (ae 0)) (gNm 1) (az (xIf (xOr (cg (bI (xUn (bD "tuple") (ae 1)))) (xOr (aI (xOp oLt (xN br (aa (ae 1) ak)) (xC (.int 1)))) (aI (xOp oGt (xN br (aa (ae 1) ak)) (xC (.int 4)))))) (aH (xC (.bl false))) aN)
 (az (xIf (aI (xOp oNe cA (xN mkL ak))) (aH (xC (.bl false))) aN)
 (xIf (aI (xOp oNe (xN dS (aa (ae 1) ak)) (xUn oSS (ae 1)))) (aH (xC (.bl false))) aN))))
noncomputable def hV:XS:=(az (xIf (xOr (cg (bI (xUn (bD "tuple") (ae 0)))) (xOr (aI (xOp oLt (xN br (aa (ae 0) ak)) (xC (.int 1)))) (aI (xOp oGt (xN br (aa (ae 0) ak)) (xC (.int 4)))))) (aH (xC (.bl false))) aN)
 (az di
 (aH (xC (.bl true)))))
noncomputable def dN:XF:=a_ 1 2 hV
noncomputable def jw:XE:=(xLC (ji (aa (xN br (aa (ae 0) ak)) ak)) 1 (gNm 0) (fun _ S=>.ok true S) (o7 (aI (xOp oEq (ae 0) (ae 2))) (xN mkT (aa (ae 3) ak)) (xOp oIx (ae 1) (ae 0))))
noncomputable def mJ:XS:=(az (xIf (cg (bI (ax dN (aa (ae 0) ak)))) (aH (xC (.str "stand"))) aN)
 (az (xIf (xOr (cg (bI (ax bJ (aa (ae 1) ak)))) (xOr (aI (xOp oLt (ae 1) (xC (.int 0)))) (aI (xOp oGe (ae 1) (xN br (aa (ae 0) ak)))))) (aH (xC (.str "name"))) aN)
 (az (xIf (xOr (cg (bI (ax bJ (aa (ae 2) ak)))) (aI (xOp dI (ae 2) (xOp oIx (ae 0) (ae 1))))) (aH (xC (.str "worth"))) aN)
 (aH (xN fC (aa jw ak))))))
noncomputable def d7:XF:=a_ 3 3 mJ
noncomputable def fN (s_l_bent:XF):XS:=(az (xIf (iB (bI (xUn (bD "tuple") (ae 1))) (iB (aI (xOp oNe (ae 1) (xN mkT ak))) (iB (aI (xOp oGt (ae 2) (xC (.int 0)))) (aI (xOp oGt (ax aD (aa (ae 0) (aa (xC (.int 4)) ak))) (xC (.int 0))))))) (az (aT (ax aD (aa (ae 0) (aa (xN br (aa (ae 1) ak)) ak))) (gNm 3))
 (aH (xOp aP (xOp aP (xSl oSl (ae 1) bF (bW (ae 3))) (xN mkT (aa (ax s_l_bent (aa (ae 0) (aa (xOp oIx (ae 1) (ae 3)) (aa (xOp c9 (ae 2) (xC (.int 1))) ak)))) ak))) (xSl oSl (ae 1) (bW (xOp aP (ae 3) (xC (.int 1)))) bF)))) aN)
 (az (aT (xOp c9 (ax aD (aa (ae 0) (aa (xC (.int 23)) ak))) (xC (.int 11))) (gNm 4))
 (az (aT (xN mkL (aa (xC .non) (aa (xC (.bl true)) (aa (xC (.bl false)) (aa (xC (.str "")) (aa (xC (.str "unlike")) (aa (xC (.str "many")) (aa (xC (.str "sum")) (aa (xC (.str "row")) (aa (xC (.str "hand")) (aa (xC (.str "-")) (aa (xN mkT ak) (aa (xN mkL ak) (aa (xOp jv (xC (.int 10)) (xC (.int 20))) (aa (xC (.int 100)) (aa (xUn c8 (xC (.int 100))) (aa (xN mkT (aa (xC (.int 0)) ak)) (aa (xN mkL (aa (xC (.int 0)) ak)) ak)))))))))))))))))) (gNm 5))
 (az (xIf (bI (xUn (bD "tuple") (ae 1))) (az (aT (xN mkL (aa (xN dS (aa (ae 1) ak)) (aa (xOp aP (ae 1) (xSl oSl (ae 1) bF (bW (xC (.int 1))))) (aa (xSl oSl (ae 1) bF (bW (xUn c8 (xC (.int 1))))) (aa (xOp kq (ae 1) (xUn c8 (xC (.int 1)))) (aa (xOp aP (ae 1) (xN mkT (aa (ae 4) ak))) (aa (xSl oSl (ae 1) (bW (xC (.int 1))) bF) (aa (xN mkT (aa (ae 1) ak)) ak)))))))) (gNm 6))
 (aH (xOp oIx (xOp aP (ae 6) (xN mkL (aa (xOp oIx (ae 5) (ax aD (aa (ae 0) (aa (xC (.int 17)) ak)))) ak))) (ax aD (aa (ae 0) (aa (xC (.int 8)) ak)))))) aN)
 (az (xIf (bI (ax bJ (aa (ae 1) ak))) (az (aT (xN mkL (aa (xOp aP (ae 1) (xC (.int 1))) (aa (xOp c9 (ae 1) (xC (.int 1))) (aa (xOp c9 (xC (.int 0)) (ae 1)) (aa (ae 4) (aa (ae 4) (aa (xOp oEq (ae 1) (xC (.int 1))) (aa (xOp c9 (xC (.int 4)) (ae 1)) ak)))))))) (gNm 6))
 (aH (xOp oIx (xOp aP (ae 6) (xN mkL (aa (xOp oIx (ae 5) (ax aD (aa (ae 0) (aa (xC (.int 17)) ak)))) ak))) (ax aD (aa (ae 0) (aa (xC (.int 8)) ak)))))) aN)
 (aH (xOp oIx (ae 5) (ax aD (aa (ae 0) (aa (xC (.int 17)) ak))))))))))
noncomputable def du:Nat→XF
 | 0=>a_ 3 7 lT
 | n+1=>a_ 3 7 (fN (du n))
noncomputable def mj:XS:=(ed (ee (xOp aP (xN dS (aa (xOp oIx (ae 3) (ax aD (aa (ae 1) (aa (xN br (aa (ae 3) ak)) ak)))) ak)) (ae 4))) (gNm 6) (xIf (cg (bI (ax (bu 10) (aa (ax cz (aa (ae 3) (aa (ae 5) (aa (ae 6) ak)))) (aa (ax d7 (aa (ae 3) (aa (ae 5) (aa (ae 6) ak)))) ak))))) (aH (xC (.bl false))) aN))
noncomputable def mI:XS:=(ed (ee (xOp aP (xN (lrg o9) (aa (xN br (aa (ae 3) ak)) ak)) (ae 4))) (gNm 5) mj)
noncomputable def rD:XS:=(ed (ee (xOp aP (xOp oIx (ae 3) (ae 5)) (xN mkT (aa (xC .non) ak)))) (gNm 6) (xIf (cg (bI (ax (bu 10) (aa (ax cz (aa (ae 8) (aa (ae 5) (aa (ae 6) ak)))) (aa (ax d7 (aa (ae 8) (aa (ae 5) (aa (ae 6) ak)))) ak))))) (aH (xC (.bl false))) aN))
noncomputable def lL:XS:=(ed (ji (aa (xN br (aa (ae 3) ak)) ak)) (gNm 5) rD)
noncomputable def l4:XS:=(ed (ee (xN mkL (aa (ax (du 10) (aa (ae 1) (aa (ae 3) (aa (xC (.int 2)) ak)))) (aa (xOp aP (xOp aP (xSl oSl (ae 3) bF (bW (ae 7))) (xN mkT (aa (xOp kq (xOp oIx (ae 3) (ae 7)) (xUn c8 (xC (.int 1)))) ak))) (xSl oSl (ae 3) (bW (xOp aP (ae 7) (xC (.int 1)))) bF)) (aa (xOp aP (ae 3) (xN mkT (aa (xN mkT ak) ak))) ak))))) (gNm 8) lL)
noncomputable def p9:XS:=(ed (ji (aa (xC (.int 6)) ak)) (gNm 2) (az (aT (ax fL (aa (ax gI (aa (ae 1) ak)) (aa (xC (.int 4)) (aa (xC (.int 4)) ak)))) (gNm 3))
 (az (aT (xN mkL (aa (xC .non) (aa (xC (.bl true)) (aa (xC (.bl false)) (aa (xC (.str "0")) (aa (xN mkT (aa (xC (.int 0)) ak)) (aa (xUn c8 (xC (.int 1))) (aa (xOp jv (xC (.int 10)) (xC (.int 20))) (aa (xN br (aa (ae 3) ak)) (aa (ax cX (aa (ae 1) (aa (ae 3) ak))) (aa (xC (.int 5)) (aa (xN mkL (aa (xC (.int 0)) ak)) (aa (xN mkT (aa (xC (.int 0)) (aa (xN mkL (aa (xC (.int 1)) ak)) ak))) ak))))))))))))) (gNm 4))
 (az mI
 (az (aT (ax aD (aa (ae 1) (aa (xN br (aa (ae 3) ak)) ak))) (gNm 7))
 l4)))))
noncomputable def qR:XS:=(az (aT (ax gR (aa (ae 0) ak)) (gNm 1))
 (az p9
 (aH (xOp oEq (fo cM (aa (xN mkT (aa (xN mkT (aa (xC (.int 0)) (aa (xC (.int 1)) ak))) (aa (xN mkT (aa (xC (.int 1)) ak)) ak))) (aa (xC (.int 0)) (aa (xC (.int 1)) ak)))) (xN mkT (aa (xN mkT (aa (xC (.int 1)) ak)) (aa (xN mkT (aa (xC (.int 1)) ak)) ak)))))))
noncomputable def oV:XF:=a_ 1 9 qR
local macro_rules | `(tactic| walk_at "mx") => do
 let a:=("z0 BH A_ BM yx Bd zP AY ud ux xP AD Ae zb xM Au BG sd Bo BO zo xu vW B1 qT uu uH As AA BD ym yr xO BF BB BI ql qK uX vT uU zp wt xf uO vb yX wU zK nc kv pN pC B0 Cq km sU oF A7 zQ yn qY vQ BR Bw Ac AG Ak A1 zZ Bz Az Aq i5 ft gx BC AF AS uM BK mR AV v5 vP tJ oM zE jN l5 lJ j8 cf z9 AI Bg Ag t_ ug um pD nh pv jP lS rF yW Ah xy yU wA AH BX zh A2 AJ A6 A5 zM AN Bl Af xp yK wH yT t7 sS sT rQ AZ my wk xY zf yB xr va uS Br Bv Bi AW zR Ay Bu Co B9 B6 B4 w8 xk xW xT yJ zC zH wO yR wZ vZ u9 vX zc xm xv y0 zq yb yC wG yM wB vK vm vN za yA wR xV tL sV sY r0 t6 sJ Be xI AM zd".splitOn " ").toArray.map fun s=>Lean.mkIdent (Lean.Name.mkStr `L2 s)
 let b:=("List.getElem?_cons_zero List.getElem?_cons_succ List.set_cons_zero List.set_cons_succ List.map_cons List.map_nil List.length_cons List.length_nil List.cons_append List.nil_append List.replicate_succ List.replicate_zero List.append_nil Nat.reduceSub Nat.reduceAdd Nat.zero_add Bool.not_true Bool.not_false decide_true decide_false beq_self_eq_true if_true if_false Int.reduceNeg".splitOn " ").toArray.map fun s=>Lean.mkIdent s.toName
 `(tactic| simp only [$[$a:term],*,$[$b:term],*,↓reduceIte])
local macro_rules | `(tactic| walk_at "mo") => `(tactic| first
  | rw [uC (by first | decide | omega)]
  | rw [Bt (by first | exact Bb (by decide) (by decide) | exact Or.inl ⟨by omega,by omega⟩ | exact Or.inr ⟨by omega,by omega⟩)]
  | rw [AR ⟨by first | decide | omega,by first | decide | omega⟩]
  | rw [iS ⟨by decide,by decide,by decide⟩]
  | rw [cO (by first | (simp only [List.length_cons,List.length_nil,List.length_map];omega) | (simp;omega))]
  | rw [iN (by first | (simp only [List.length_cons,List.length_nil,List.length_map];omega) | (simp;omega))]
  | rw [lE (by omega)]
  | rw [uz (by omega)])
local macro_rules | `(tactic| walk_at "mm") => `(tactic| repeat (first | walk_at "mx" | walk_at "mo"))
local macro_rules | `(tactic| erw [$rs,*]) => `(tactic| (rw [$rs,*]; walk_at "mx"))
def cI (cells:List Int) (at' pool:Int):Ob:=.lst [.lst (cells.map D.int),.int at',.int pool]
def Pen (o:Ob):Prop:=∃ cells at' pool,o=cI cells at' pool∧cells.length≤63∧0≤at'∧0≤pool
theorem aA {S:Sto} {x:D} {τ:Nv}:leave S (.ok (.rt (.d x),τ) S)=.ok (.d x) S:=by rw [jo,mf,List.take_length]
theorem eo {S S':Sto} {x:D} {τ:Nv}:leave S (.ok (.rt (.d x),τ) S')=.ok (.d x) (S'.take S.length):=by rw [jo,mf]
theorem p8 (cell at':Int) (h:0≤at') (S:Sto):∃ r:Int,0≤r∧dX [.d (.int cell),.d (.int at')] S=.ok (.d (.int r)) S:=by
 unfold dX
 rw [dz]
 unfold ja
 walk_at "mx"
 erw [iS ⟨by decide,by decide,by decide⟩]
 by_cases hc:(10:Int) ^ (18:Int).toNat≤cell
 ·rw [decide_eq_true hc]
  refine ⟨cell,Int.le_trans (by decide) hc,?_⟩
  walk_at "mx"
  exact aA
 ·rw [decide_eq_false hc]
  walk_at "mm"
  generalize hone:(cell % 1000000007 * 69069+at' * 40503+977) % 2147483629=one
  have o1:0≤one:=by rw [← hone];exact Int.emod_nonneg _ (by decide)
  have o2:one < 2147483629:=by rw [← hone];exact Int.emod_lt_of_pos _ (by decide)
  walk_at "mm"
  generalize htwo:(one * one+at' * 7919+cell % 65537) % 2147483587=two
  have o3:0≤two:=by rw [← htwo];exact Int.emod_nonneg _ (by decide)
  have o4:two < 2147483587:=by rw [← htwo];exact Int.emod_lt_of_pos _ (by decide)
  walk_at "mm"
  generalize hthree:(two * two+one * 31+5) % 2147483563=three
  have o5:0≤three:=by rw [← hthree];exact Int.emod_nonneg _ (by decide)
  walk_at "mm"
  exact ⟨(one * 2147483659+two) * 2147483693+three,by omega,aA⟩
theorem jF {cells:List Int} {at' pool:Int} {R:Sto}:oIx (.r 0) (.d (.int 0)) (cI cells at' pool :: R)=.ok (.d (.lst (cells.map D.int))) (cI cells at' pool :: R):=lH rfl rfl
theorem zO {cells:List Int} {at' pool:Int} {R:Sto}:oIx (.r 0) (.d (.int 1)) (cI cells at' pool :: R)=.ok (.d (.int at')) (cI cells at' pool :: R):=lH rfl rfl
theorem oP {cells:List Int} {at' pool:Int} {R:Sto}:oIx (.r 0) (.d (.int 2)) (cI cells at' pool :: R)=.ok (.d (.int pool)) (cI cells at' pool :: R):=lH rfl rfl
theorem yE {cells:List Int} {at' pool v:Int} {R:Sto}:dq (.r 0) (.d (.int 1)) (.d (.int v)) (cI cells at' pool :: R)=.ok () (cI cells v pool :: R):=af rfl
theorem mr {cells:List Int} {at' pool v:Int} {R:Sto}:dq (.r 0) (.d (.int 2)) (.d (.int v)) (cI cells at' pool :: R)=.ok () (cI cells at' v :: R):=af rfl
theorem gk {ns:List Int} {i:Int} (h0:0≤i) (h1:i < ns.length):∃ n,atI (ns.map D.int) i=some (.int n)∧n∈ns:=by
 have hk:i.toNat < ns.length:=by omega
 refine ⟨ns[i.toNat],?_,List.getElem_mem hk⟩
 unfold atI
 rw [pJ h0 (by simpa using h1)]
 show (ns.map D.int)[i.toNat]?=_
 rw [List.getElem?_map,List.getElem?_eq_getElem hk]
 rfl
theorem cQ {o o':Ob} {R:Sto}:(o' :: R).take (o :: R).length=o' :: R:=by rw [show (o :: R).length=(o' :: R).length from rfl,List.take_length]
theorem bo {o:Ob} {R:Sto} {m:Int} (hp:Pen o) (h0:0 < m) (h1:m < 1073741824):∃ (k:Int) (o':Ob),0≤k∧k < m∧Pen o'∧aD [.r 0,.d (.int m)] (o :: R)=.ok (.d (.int k)) (o' :: R):=by
 obtain ⟨cells,at',pool,rfl,hl,ha,hq⟩:=hp
 unfold aD
 rw [dz]
 unfold kS
 have tail:∀ (at2 pool2:Int) (o2 o3:Option Vl),0≤at2→0≤pool2→∃ (k:Int) (o':Ob),0≤k∧k < m∧Pen o' ∧
   leave (cI cells at' pool :: R) ((az (aT (xOp oMod (xOp oIx (ae 0) (xC (.int 2))) (ae 1)) (gNm 4)) (az (aT (xOp oDiv (xOp oIx (ae 0) (xC (.int 2))) (ae 1)) (gSb (ae 0) (xC (.int 2)) dq)) (aH (ae 4)))) [some (.r 0),some (.d (.int m)),o2,o3,none] (cI cells at2 pool2 :: R))=.ok (.d (.int k)) (o' :: R):=by
  intro at2 pool2 o2 o3 g1 g2
  walk_at "mx"
  rw [oP]
  walk_at "mm"
  rw [oP]
  walk_at "mm"
  rw [mr]
  walk_at "mm"
  exact ⟨pool2 % m,_,Int.emod_nonneg _ (by omega),Int.emod_lt_of_pos _ h0,⟨cells,at2,pool2 / m,rfl,hl,g1,Int.ediv_nonneg g2 (by omega)⟩,by rw [eo,cQ]⟩
 erw [ft,oM]
 rw [oP]
 walk_at "mm"
 by_cases hc:pool < m
 ·erw [decide_eq_true hc]
  rw [zO]
  walk_at "mm"
  rw [jF]
  walk_at "mm"
  have fin:∀ cell:Int,∃ (k:Int) (o':Ob),0≤k∧k < m∧Pen o'∧leave (cI cells at' pool :: R) (sq1 ((az (aT (xOp aP (ae 2) (xC (.int 1))) (gSb (ae 0) (xC (.int 1)) dq)) (aT (ax dX (aa (ae 3) (aa (ae 2) ak))) (gSb (ae 0) (xC (.int 2)) dq))) [some (.r 0),some (.d (.int m)),some (.d (.int at')),some (.d (.int cell)),none] (cI cells at' pool :: R))
    (az (aT (xOp oMod (xOp oIx (ae 0) (xC (.int 2))) (ae 1)) (gNm 4)) (az (aT (xOp oDiv (xOp oIx (ae 0) (xC (.int 2))) (ae 1)) (gSb (ae 0) (xC (.int 2)) dq)) (aH (ae 4)))))=.ok (.d (.int k)) (o' :: R):=by
   intro cell
   erw [ft,l5]
   rw [yE]
   rw [pD,j8,gx,l5,km]
   obtain ⟨r,hr,er⟩:=p8 cell at' ha (cI cells (at'+1) pool :: R)
   simp only [kv,nc,ux,ud,pN,pC,sU,er,oF,lJ,t_,ug,um,xP,mr,pD,j8,gx]
   exact tail (at'+1) r _ _ (by omega) hr
  by_cases hin:at' < ((cells.map D.int).length:Int)
  ·erw [decide_eq_true hin]
   rw [jF]
   obtain ⟨n,en,_⟩:=gk (ns:=cells) ha (by simpa using hin)
   walk_at "mx"
   rw [lI en]
   rw [lJ,cf,j8,gx]
   exact fin n
  ·erw [decide_eq_false hin]
   rw [jF]
   walk_at "mm"
   by_cases hpos:(0:Int) < ((cells.map D.int).length:Int)
   ·erw [decide_eq_true hpos]
    rw [jF]
    walk_at "mm"
    rw [jF]
    walk_at "mm"
    obtain ⟨n,en,_⟩:=gk (ns:=cells) (i:=(at' * 5+3) % ((cells.map D.int).length:Int)) (Int.emod_nonneg _ (by omega)) (by have:=Int.emod_lt_of_pos (at' * 5+3) hpos;simpa using this)
    erw [lI en]
    erw [iS ⟨by decide,by decide,by decide⟩]
    rw [uC (by have:(0:Int) < 10 ^ (17:Int).toNat:=(by decide);omega)]
    rw [lJ,cf,j8,gx]
    exact fin _
   ·rw [decide_eq_false hpos]
    rw [jN,i5,gx]
    exact fin 0
 ·rw [decide_eq_false hc]
  rw [jN,i5,gx]
  exact tail at' pool _ _ ha hq
structure GoodW (m:Int) (ws:List Int):Prop where
 rise:ws.Pairwise (· < ·)
 lim:∀ w∈ws,-9≤w∧w≤9
 pos:1≤ws.length
 le:(ws.length:Int)≤m
def aW (ns:List Int):D:=.tup (ns.map D.int)
theorem qb {o:Ob} {R:Sto} {most near:Int} (hp:Pen o) (h0:0 < most) (h1:most≤50) (n0:-9≤near) (n1:near≤5):∃ (ws:List Int) (o':Ob),GoodW most ws∧Pen o'∧eS [.r 0,.d (.int most),.d (.int near)] (o :: R)=.ok (.d (aW ws)) (o' :: R):=by
 unfold eS
 rw [cD]
 unfold jg
 walk_at "mx"
 obtain ⟨k,o1,k0,k1,hp1,e1⟩:=bo (R:=R++[.lst []]) hp h0 (by omega)
 obtain ⟨τ',S',e2,o2,ws,x4,x5,hp2,rfl,rfl,nd,lim,le,pos⟩:=eE (show _=je [some (.r 0),some (.d (.int most)),some (.d (.int near)),some (.r (R.length+1)),none,none] (o :: (R++[.lst []])) from rfl)
  (S1:=o1 :: (R++[.lst []])) (gd:=none) (items:=(List.range (1+k).toNat).map fun i=>Vl.d (.int (i:Nat))) (by walk_at "mx";rw [e1];walk_at "mm")
  (fun i τ S=>∃ (o':Ob) (ws:List Int) (x4 x5:Option Vl),Pen o'∧τ=[some (.r 0),some (.d (.int most)),some (.d (.int near)),some (.r (R.length+1)),x4,x5]∧S=o' :: (R++[.lst (ws.map D.int)])∧ws.Nodup∧(∀ w∈ws,-9≤w∧w≤9)∧ws.length≤i∧(0 < i→0 < ws.length))
  ⟨o1,[],none,none,hp1,rfl,rfl,List.nodup_nil,by simp,Nat.le_refl _,by omega⟩ (by
   rintro i z τ S hz ⟨o',ws,x4,x5,hp',rfl,rfl,nd,lim,le,pos⟩
   have hi:i < (1+k).toNat:=by simpa using (List.getElem?_eq_some_iff.mp hz).1
   obtain ⟨a,oa,a0,a1,hpa,ea⟩:=bo (R:=R++[.lst (ws.map D.int)]) (m:=5) hp' (by decide) (by decide)
   obtain ⟨b,ob,b0,b1,hpb,eb⟩:=bo (R:=R++[.lst (ws.map D.int)]) (m:=6) hpa (by decide) (by decide)
   obtain ⟨c,oc,c0,c1,hpc,ec⟩:=bo (R:=R++[.lst (ws.map D.int)]) (m:=19) hpb (by decide) (by decide)
   have fin:∀ (v:Int) (q:Ob) (x5':Option Vl),-9≤v→v≤9→Pen q→x5'=some (.d (.int v))→∃ fl τ2 S2,(xIf (aI (xOp dI (ae 5) (ae 3))) (gB (xLm ke (ae 3) (ae 5))) aN) [some (.r 0),some (.d (.int most)),some (.d (.int near)),some (.r (R.length+1)),some z,x5'] (q :: (R++[.lst (ws.map D.int)]))=.ok (fl,τ2) S2∧(fl=.nx∨fl=.ct) ∧
     ∃ (o':Ob) (ws:List Int) (x4 x5:Option Vl),Pen o'∧τ2=[some (.r 0),some (.d (.int most)),some (.d (.int near)),some (.r (R.length+1)),x4,x5]∧S2=o' :: (R++[.lst (ws.map D.int)])∧ws.Nodup∧(∀ w∈ws,-9≤w∧w≤9)∧ws.length≤i+1∧(0 < i+1→0 < ws.length):=by
    rintro v q _ v0 v1 hq rfl
    walk_at "mx"
    rw [xR (ns:=ws) n6]
    by_cases hm:v∈ws
    ·erw [decide_eq_true hm]
     exact ⟨_,_,_,rfl,.inl rfl,q,ws,_,_,hq,rfl,rfl,nd,lim,by omega,fun _=>List.length_pos_of_mem hm⟩
    ·erw [decide_eq_false hm]
     erw [A8 (by rw [List.length_map];omega)]
     refine ⟨_,_,_,rfl,.inl rfl,q,ws++[v],_,_,hq,rfl,by rw [List.map_append];rfl,?_,?_,by simp;omega,fun _=>by simp⟩
     ·rw [List.nodup_append]
      refine ⟨nd,by simp,fun x hx y hy=>?_⟩
      rw [List.mem_singleton.mp hy]
      rintro rfl
      exact hm hx
     ·intro w hw
      rcases List.mem_append.mp hw with e | e
      ·exact lim w e
      ·rw [List.mem_singleton.mp e];omega
   by_cases hb:b=0
   ·subst hb
    obtain ⟨fl,τ2,S2,f1,f2,f3⟩:=fin (c - 9) oc _ (by omega) (by omega) hpc rfl
    refine ⟨_,_,fl,τ2,S2,cf,?_,f2,True.intro,f3⟩
    walk_at "mx"
    erw [ea]
    erw [eb]
    erw [ec]
    erw [← f1]
   ·obtain ⟨fl,τ2,S2,f1,f2,f3⟩:=fin (near+a) ob _ (by omega) (by omega) hpb rfl
    refine ⟨_,_,fl,τ2,S2,cf,?_,f2,True.intro,f3⟩
    walk_at "mx"
    erw [ea]
    erw [eb]
    erw [decide_eq_false hb]
    rw [← f1]
    walk_at "mx")
 erw [e2]
 rw [n5] at le pos
 erw [vS n6 (by omega)]
 refine ⟨sortI ws,o2,⟨sF nd,fun w hw=>lim w ((rB ws w).mp hw),by rw [kK];exact pos (by omega),by rw [kK];omega⟩,hp2,?_⟩
 rw [eo]
 simp [aW]
structure dC (n m:Int) (wss:List (List Int)):Prop where
 pos:1≤wss.length
 le:(wss.length:Int)≤n
 all:∀ ws∈wss,GoodW m ws
def ay (wss:List (List Int)):D:=.tup (wss.map aW)
theorem sf {o:Ob} {R:Sto} {names most:Int} (hp:Pen o) (h0:0 < names) (h1:names≤50) (m0:0 < most) (m1:most≤50):∃ (wss:List (List Int)) (o':Ob),dC names most wss∧Pen o'∧fL [.r 0,.d (.int names),.d (.int most)] (o :: R)=.ok (.d (ay wss)) (o' :: R):=by
 unfold fL
 rw [cD]
 unfold jZ
 walk_at "mx"
 obtain ⟨k,o1,k0,k1,hp1,e1⟩:=bo (R:=R) (m:=15) hp (by decide) (by decide)
 erw [e1]
 obtain ⟨j,o2,j0,j1,hp2,e2⟩:=bo (R:=R) hp1 h0 (by omega)
 obtain ⟨acc,Q,e4,hl,o3,wss,hp3,rfl,rfl,hw,hg⟩:=zG (show _=j3 [some (.r 0),some (.d (.int names)),some (.d (.int most)),some (.d (.int (k - 9)))] (o1 :: R) from rfl) (S1:=o2 :: R) (items:=(List.range (1+j).toNat).map fun i=>Vl.d (.int (i:Nat))) (by walk_at "mx";rw [e2];walk_at "mm")
  (fun i acc Q=>∃ (o':Ob) (wss:List (List Int)),Pen o'∧acc=wss.map aW∧Q=o' :: R∧wss.length=i∧∀ ws∈wss,GoodW most ws) ⟨o2,[],hp2,rfl,rfl,rfl,by simp⟩ (by
   rintro i z acc Q hz ⟨o',wss,hp',rfl,rfl,hw,hg⟩ _
   obtain ⟨hi,rfl⟩:=kh hz
   obtain ⟨ws,o3,gw,hp3,e3⟩:=qb (R:=R++[.lst (wss.map aW)]) (near:=k - 9) hp' m0 m1 (by omega) (by omega)
   refine ⟨aW ws,o3 :: R,?_,rfl,o3,wss++[ws],hp3,rV.symm,rfl,by simp [hw],fun x hx=>?_⟩
   ·walk_at "mx"
    erw [e3]
   ·rcases List.mem_append.mp hx with e | e
    ·exact hg x e
    ·rw [List.mem_singleton.mp e];exact gw)
 erw [e4]
 rw [n5] at hw
 exact ⟨wss,o3,⟨by omega,by omega,hg⟩,hp3,by rw [eo,cQ];rfl⟩
theorem uI {o:Ob} {R:Sto} (hp:Pen o):∃ o',Pen o'∧gI [.r 0] (o :: R)=.ok (.r 0) (o' :: R):=by
 obtain ⟨cells,at',pool,rfl,hl,ha,hq⟩:=hp
 unfold gI
 rw [ck]
 unfold kE
 walk_at "mx"
 erw [mr]
 refine ⟨cI cells at' 0,⟨cells,at',0,rfl,hl,ha,Int.le_refl 0⟩,?_⟩
 rw [jo]
 unfold out
 dsimp only
 rw [if_pos (by simp),cQ]
theorem sA {xs:List D} {i:Nat} {z:Vl} (h:(cL 0 xs)[i]?=some z):∃ x,xs[i]?=some x∧z=.d (.tup [.int i,x]):=by
 rw [fI] at h
 cases q:xs[i]? with
 | none=>rw [q] at h;cases h
 | some x=>rw [q] at h;cases h;exact ⟨x,rfl,by rw [Nat.zero_add]⟩
theorem vg (ns:List Int):∃ o,Pen o∧gR [.sc ns] []=.ok (.r 0) [o]:=by
 unfold gR
 rw [ck]
 unfold kQ
 walk_at "mx"
 rw [show (12:Int)=((12:Nat):Int) from rfl,iz,← List.map_take]
 obtain ⟨τ',S',e2,cs,x2,x3,rfl,rfl,hl⟩:=eE (show _=kU [some (.sc ns),some (.r 0),none,none] [.lst ((ns.take 12).map D.int)] from rfl)
  (S1:=[.lst ((ns.take 12).map D.int)]) (gd:=none) (items:=cL 0 (((ns.map D.int).drop 12).take (63 - 12))) (by
   walk_at "mx"
   rw [show (12:Int)=((12:Nat):Int) from rfl,show (63:Int)=((63:Nat):Int) from rfl,xF])
  (fun i τ S=>∃ (cs:List Int) (x2 x3:Option Vl),τ=[some (.sc ns),some (.r 0),x2,x3]∧S=[.lst (cs.map D.int)]∧cs.length=(ns.take 12).length) ⟨_,none,none,rfl,rfl,rfl⟩ (by
   rintro i z τ S hz ⟨cs,x2,x3,rfl,rfl,hl⟩
   obtain ⟨x,ex,rfl⟩:=sA hz
   have hx:x∈ns.map D.int:=List.mem_of_mem_drop (List.mem_of_mem_take (List.mem_of_getElem? ex))
   obtain ⟨v,_,rfl⟩:=List.mem_map.mp hx
   have hlen:12 < ns.length:=by
    have:=(List.getElem?_eq_some_iff.mp ex).1
    simp at this
    omega
   have hcs:cs.length=12:=by rw [hl];simp;omega
   have h0:0≤((i:Nat):Int) % 12:=Int.emod_nonneg _ (by decide)
   have h1:((i:Nat):Int) % 12 < 12:=Int.emod_lt_of_pos _ (by decide)
   obtain ⟨c,ec,_⟩:=gk (ns:=cs) (i:=((i:Nat):Int) % 12) h0 (by omega)
   have hix:ixN (cs.map D.int).length (((i:Nat):Int) % 12)=some (((i:Nat):Int) % 12).toNat:=pJ h0 (by rw [List.length_map];omega)
   refine ⟨_,_,.nx,_,_,by walk_at "mm";rfl,by
    walk_at "mm"
    rw [lH (xs:=cs.map D.int) rfl ec]
    walk_at "mm"
    rw [show dq (.r 0) (.d (.int (((i:Nat):Int) % 12))) (.d (.int (c+v))) [Ob.lst (cs.map D.int)]=.ok () [.lst ((cs.map D.int).set (((i:Nat):Int) % 12).toNat (.int (c+v)))] by
     unfold dq
     simp only [List.getElem?_cons_zero,hix]
     rfl]
    walk_at "mx"
    rfl,.inl rfl,True.intro,cs.set (((i:Nat):Int) % 12).toNat (c+v),_,_,rfl,by rw [List.map_set],by rw [List.length_set];exact hl⟩)
 erw [e2]
 refine ⟨cI cs 0 0,⟨cs,0,0,rfl,by rw [hl];simp;omega,Int.le_refl 0,Int.le_refl 0⟩,?_⟩
 rfl
structure CJ (k:Nat) (ns:List Int):Prop where
 dom:∀ n∈ns,0≤n∧n < (k:Int)
 pos:1≤ns.length
 le:ns.length≤k
 nd:ns.Nodup
theorem uP {o:Ob} {R:Sto} {wss:List (List Int)} {n m:Int} (hp:Pen o) (g:dC n m wss) (hn:n≤50) (hm:m≤50):∃ (w:Int) (o':Ob),(-9≤w∧w≤9)∧Pen o'∧cX [.r 0,.d (ay wss)] (o :: R)=.ok (.d (.int w)) (o' :: R):=by
 have g0:=g.pos
 have g1:=g.le
 unfold cX
 rw [dz]
 unfold fP
 obtain ⟨a,o1,a0,a1,hp1,e1⟩:=bo (R:=R) (m:=8) hp (by decide) (by decide)
 walk_at "mx"
 erw [e1]
 by_cases ha:a=0
 ·rw [decide_eq_true ha]
  obtain ⟨b,o2,b0,b1,hp2,e2⟩:=bo (R:=R) (m:=19) hp1 (by decide) (by decide)
  walk_at "mx"
  erw [e2]
  exact ⟨b - 9,o2,by omega,hp2,by rw [eo,cQ]⟩
 ·rw [decide_eq_false ha]
  obtain ⟨b,o2,b0,b1,hp2,e2⟩:=bo (R:=R) (m:=(wss.length:Int)) hp1 (by omega) (by omega)
  unfold ay
  walk_at "mx"
  erw [List.length_map,e2]
  have hb:b.toNat < wss.length:=by omega
  have hat:atI (wss.map aW) b=some (aW wss[b.toNat]):=by
   obtain ⟨k,rfl⟩:=Int.eq_ofNat_of_zero_le b0
   exact gO (by rw [List.getElem?_map,List.getElem?_eq_getElem (by simpa using hb)];rfl)
  have gw:=g.all _ (List.getElem_mem hb)
  generalize wss[b.toNat]=ws at hat gw
  have w0:=gw.pos
  have w1:=gw.le
  erw [dk hat]
  obtain ⟨c,o3,c0,c1,hp3,e3⟩:=bo (R:=R) (m:=(ws.length:Int)) hp2 (by omega) (by omega)
  erw [show aW ws=.tup (ws.map D.int) from rfl]
  erw [List.length_map,e3]
  obtain ⟨v,ev,_⟩:=gk (ns:=ws) (i:=c) c0 c1
  rw [dk ev]
  obtain ⟨d,o4,d0,d1,hp4,e4⟩:=bo (R:=R) (m:=5) hp3 (by decide) (by decide)
  walk_at "mx"
  erw [e4]
  obtain ⟨u,eu,_⟩:=gk (ns:=[0,0,0,1,-1]) (i:=d) d0 (by simpa using d1)
  erw [lI (show atI [D.int 0,D.int 0,D.int 0,D.int 1,D.int (-1)] d=some (.int u) from eu)]
  refine ⟨_,o4,?_,hp4,by rw [eo,cQ]⟩
  split<;>split at *<;>omega
abbrev Tri:=Int×Int×Int
structure CK (bs:List Tri):Prop where
 le:bs.length≤4
 rise:(bs.map (·.1)).Pairwise (· < ·)
 lim:∀ b∈bs,(-9≤b.1∧b.1≤9)∧0≤b.2.1∧b.2.1≤b.2.2∧b.2.2≤4
structure CI (ds:List Tri):Prop where
 le:ds.length≤12
 nd:ds.Nodup
 lim:∀ d∈ds,(0≤d.1∧d.1≤3)∧(-9≤d.2.1∧d.2.1≤9)∧0≤d.2.2∧d.2.2≤3
theorem e9 {xs:List D}:isT "tuple" (.tup xs)=true:=rfl
theorem vq {ns:List Int} (h:∀ k,k+1 < ns.length→ns.getD k 0 < ns.getD (k+1) 0):ns.Pairwise (· < ·):=by
 rw [List.pairwise_iff_getElem]
 have key:∀ d i,(hd:i+d+1 < ns.length)→ns.getD i 0 < ns.getD (i+d+1) 0:=by
  intro d
  induction d with
  | zero=>intro i hd;exact h i hd
  | succ d ih=>
   intro i hd
   have a:=ih i (by omega)
   have b:=h (i+d+1) (by omega)
   rw [show i+(d+1)+1=i+d+1+1 by omega]
   omega
 intro i j hi hj hij
 have:=key (j - i - 1) i (by omega)
 rw [show i+(j - i - 1)+1=j by omega,List.getD_eq_getElem?_getD,List.getD_eq_getElem?_getD,List.getElem?_eq_getElem hi,List.getElem?_eq_getElem hj] at this
 simpa using this
theorem vA {ns:List Int} (h:ns.Pairwise (· < ·)) {k:Nat} (hk:k+1 < ns.length):ns.getD k 0 < ns.getD (k+1) 0:=by
 rw [List.pairwise_iff_getElem] at h
 have:=h k (k+1) (by omega) hk (by omega)
 rw [List.getD_eq_getElem?_getD,List.getD_eq_getElem?_getD,List.getElem?_eq_getElem hk,List.getElem?_eq_getElem (by omega)]
 simpa using this
theorem rW {ns:List Int}:((List.range (ns.length - 1)).all fun k=>decide (ns.getD k 0 < ns.getD (k+1) 0))=decide (ns.Pairwise (· < ·)):=by
 rw [Bool.eq_iff_iff,List.all_eq_true,decide_eq_true_iff]
 constructor
 ·intro h
  exact vq fun k hk=>by simpa using h k (List.mem_range.mpr (by omega))
 ·intro h k hk
  have:=List.mem_range.mp hk
  exact decide_eq_true (vA h (by omega))
def nbL (ns:List Int):Vl→D
 | .d (.int j)=>.bl (decide (ns.getD (j.toNat - 1) 0 < ns.getD j.toNat 0))
 | _=>.non
theorem xZ {ns:List Int} {i:Nat} (h:i < ns.length):atI (ns.map D.int) (i:Int)=some (.int (ns.getD i 0)):=gO (by rw [List.getElem?_map,List.getElem?_eq_getElem h,List.getD_eq_getElem?_getD,List.getElem?_eq_getElem h];rfl)
theorem lA {ns:List Int} {S:Sto} (h:ns.length≤1000):dM [.d (aW ns)] S=.ok (.d (.bl (decide (ns.Pairwise (· < ·))))) S:=by
 unfold dM
 rw [ck]
 unfold gZ aW
 walk_at "mx"
 have key:eL [some (.d (.tup (ns.map D.int)))] S=.ok (.d (.lst ((List.range (ns.length - 1)).map fun k=>.bl (decide (ns.getD k 0 < ns.getD (k+1) 0))))) S:=by
  unfold eL
  rw [mO (items:=(List.range ((ns.length:Int) - 1).toNat).map fun k=>Vl.d (.int (1+(k:Nat)))) (S1:=S) (by walk_at "mx";rw [List.length_map,uz (by omega)]) (nbL ns) (by
   intro z hz S
   obtain ⟨k,hk,rfl⟩:=List.mem_map.mp hz
   have hk:=List.mem_range.mp hk
   walk_at "mx"
   erw [show (1:Int)+(k:Nat) - 1=(k:Nat) by omega,show (1:Int)+(k:Nat)=((k+1:Nat):Int) by omega,dk (xZ (by omega))]
   erw [dk (xZ (by omega))]
   rfl)]
  rw [List.map_map,show ((ns.length:Int) - 1).toNat=ns.length - 1 by omega]
  congr 3
  refine List.map_congr_left fun k hk=>?_
  show nbL ns (.d (.int (1+(k:Nat))))=_
  rw [show (1:Int)+(k:Nat)=((k+1:Nat):Int) by omega]
  rfl
 erw [key]
 erw [mn,rW]
 rw [aA]
def cX1 (F:XF) (r:R (List Vl)):R Vl:=r.bind fun us S1=>F us S1
theorem mE {F:XF} {as:XA} {τ:Nv} {S:Sto}:fo F as τ S=cX1 F (as τ S):=af rfl
theorem oH {F:XF} {us:List Vl} {S:Sto}:cX1 F (.ok us S)=F us S:=af rfl
def rz1 (c:Str) (r:R Vl):R (Fl×Nv):=r.bind fun _ S1=>.ex c [] S1
theorem tW {c:Str} {a:XE} {τ:Nv} {S:Sto}:f9 c a τ S=rz1 c (a τ S):=af rfl
theorem Ab {c:Str} {z:Vl} {S:Sto}:rz1 c (.ok z S)=.ex c [] S:=af rfl
theorem zv {c:Str} {xs:List (Str×D)} {S:Sto} {τ:Nv}:ex1 (.ex c xs S) τ=.ex c xs S:=af rfl
theorem Ap {c:Str} {xs:List (Str×D)} {S:Sto} {b:XS}:sq1 (.ex c xs S) b=.ex c xs S:=af rfl
theorem xj {c:Str} {xs:List (Str×D)} {S:Sto} {g:XG} {τ:Nv}:as1 (.ex c xs S) g τ=.ex c xs S:=af rfl
theorem vp {c:Str} {xs:List (Str×D)} {S:Sto}:leave S (.ex c xs S)=.ex c xs S:=by
 show R.ex c xs (S.take S.length)=_
 rw [List.take_length]
theorem vc {τ:Nv} {S:Sto}:leave S (.ok (.nx,τ) S)=.ok (.d .non) S:=by rw [tm,mf,List.take_length]
def tq1 (cs:List Str) (len iy:Nat) (r:R (Fl×Nv)):R (Fl×Nv):=match r with
 | .ok q S'=>.ok q S'
 | .ex c _ S'=>if c∈cs then .ok (.nx,(List.replicate len none).set iy (some (.xc c []))) S' else .bad
 | .bad=>.bad
theorem zu {cs:List Str} {len iy:Nat} {m:XS} {τ:Nv} {S:Sto}:lZ cs len iy m τ S=tq1 cs len iy (m τ S):=af rfl
theorem Av {cs:List Str} {len iy:Nat} {q:Fl×Nv} {S:Sto}:tq1 cs len iy (.ok q S)=.ok q S:=af rfl
theorem By {cs:List Str} {len iy:Nat} {c:Str} {xs:List (Str×D)} {S:Sto} (h:c∈cs):tq1 cs len iy (.ex c xs S)=.ok (.nx,(List.replicate len none).set iy (some (.xc c []))) S:=if_pos h
def bS:D→Bool
 | .int _=>true
 | _=>false
def inB (lo hi:Int):D→Bool
 | .int n=>decide (lo≤n) && decide (n≤hi)
 | _=>false
def intOf:D→Int
 | .int n=>n
 | _=>0
def cj:D→Bool
 | .tup xs=>xs.all (inB (-9) 9) && (decide (1≤(xs.length:Int)) && decide ((xs.length:Int)≤4) && decide ((xs.map intOf).Pairwise (· < ·)))
 | _=>false
def stB:D→Bool
 | .tup xs=>decide (1≤(xs.length:Int)) && decide ((xs.length:Int)≤4) && xs.all cj
 | _=>false
theorem uv {d:D} {S:Sto}:cJ (xUn (bD "int") (ae 0)) (jK (xUn (bD "bool") (ae 0))) [some (.d d)] S=.ok (.d (.bl (bS d))) S:=by
  walk_at "mx"
  cases d<;>first
    | (rw [show ∀ b,isT "int" (.bl b)=true from fun _=>rfl];walk_at "mx";rw [show ∀ b,isT "bool" (.bl b)=true from fun _=>rfl];rfl)
    | (rw [show ∀ b,isT "int" (.int b)=true from fun _=>rfl];walk_at "mx";rw [show ∀ b,isT "bool" (.int b)=false from fun _=>rfl];rfl)
    | rfl
theorem nS {d:D} {S:Sto}:dG [.d d] S=.ok (.d (.bl (bS d))) S:=by
 unfold dG
 rw [ck]
 unfold jc
 rw [mR]
 erw [show ([some (Vl.d d)]++List.replicate (1 - 1) none:Nv)=[some (.d d)] from rfl,uv]
 rw [aA]
theorem dt {d:D} {S:Sto}:bJ [.d d] S=.ok (.d (.bl (bS d))) S:=by
 unfold bJ
 rw [ck]
 unfold h9
 rw [mR]
 erw [show ([some (Vl.d d)]++List.replicate (1 - 1) none:Nv)=[some (.d d)] from rfl,uv]
 rw [aA]
theorem mM {d:D} {lo hi:Int} {S:Sto}:df [.d d,.d (.int lo),.d (.int hi)] S=.ok (.d (.bl (inB lo hi d))) S:=by
 unfold df
 rw [cD]
 unfold iQ
 walk_at "mx"
 rw [nS]
 cases d with
 | int n=>
  erw [show bS (.int n)=true from rfl]
  show _=R.ok (Vl.d (D.bl (decide (lo≤n) && decide (n≤hi)))) S
  by_cases h:lo≤n
  ·rw [decide_eq_true h];walk_at "mx";rw [aA,Bool.true_and]
  ·rw [decide_eq_false h];walk_at "mx";rw [aA,Bool.false_and]
 | _=>(rw [show bS _=false from rfl];walk_at "mx";rw [aA];rfl)
theorem js {d:D}:isT "tuple" d=(match d with | .tup _=>true | _=>false):=by cases d<;>rfl
theorem lQ {d:D} {lo hi:Int} {S:Sto}:dP [.d d,.d (.int lo),.d (.int hi)] S=.ok (.d (.bl (match d with | .tup xs=>xs.all (inB lo hi) | _=>false))) S:=by
 unfold dP
 rw [cD]
 unfold hU
 walk_at "mx"
 rw [js]
 cases d with
 | tup xs=>
  dsimp only
  walk_at "mx"
  rw [nD (show _=gY [some (.d (.tup xs)),some (.d (.int lo)),some (.d (.int hi))] S from rfl) (xs:=xs) (S1:=S) (by walk_at "mx") (fun d=>.bl (inB lo hi d)) (by
   intro x hx S
   walk_at "mx"
   rw [mM]
   walk_at "mx")]
  walk_at "mx"
  erw [mn]
  rw [aA]
 | _=>(dsimp only;walk_at "mx";rw [aA])
theorem iX {lo hi:Int}:∀ {xs:List D},xs.all (inB lo hi)=true→∃ ns:List Int,xs=ns.map D.int∧∀ n∈ns,lo≤n∧n≤hi
 | [],_=>⟨[],rfl,by simp⟩
 | d :: xs,h=>by
  rw [List.all_cons,Bool.and_eq_true] at h
  obtain ⟨ns,rfl,hn⟩:=iX h.2
  cases d with
  | int n=>
   have h1:(decide (lo≤n) && decide (n≤hi))=true:=h.1
   rw [Bool.and_eq_true] at h1
   refine ⟨n :: ns,rfl,fun m hm=>?_⟩
   rcases List.mem_cons.mp hm with e | e
   ·rw [e];exact ⟨of_decide_eq_true h1.1,of_decide_eq_true h1.2⟩
   ·exact hn m e
  | _=>exact absurd h.1 (by simp [inB])
theorem kf {ns:List Int}:(ns.map D.int).map intOf=ns:=by
 rw [List.map_map]
 exact (List.map_congr_left fun _ _=>rfl).trans (List.map_id ns)
theorem tS {d:D} {S:Sto}:dJ [.d d] S=.ok (.d (.bl (cj d))) S:=by
 unfold dJ
 rw [ck]
 unfold hZ
 walk_at "mx"
 rw [lQ]
 cases d with
 | tup xs=>
  dsimp only
  show _=R.ok (Vl.d (D.bl (xs.all (inB (-9) 9) && _))) S
  cases h:xs.all (inB (-9) 9) with
  | false=>walk_at "mx";rw [aA,Bool.false_and]
  | true=>
   obtain ⟨ns,rfl,hn⟩:=iX h
   walk_at "mx"
   rw [kf,List.length_map,Bool.true_and]
   by_cases h1:(1:Int)≤(ns.length:Int)
   ·erw [decide_eq_true h1]
    by_cases h2:(ns.length:Int)≤4
    ·erw [decide_eq_true h2]
     erw [show D.tup (ns.map D.int)=aW ns from rfl,lA (by omega)]
     rw [aA]
     rfl
    ·erw [decide_eq_false h2]
     rw [aA]
     rfl
   ·erw [decide_eq_false h1]
    rw [aA]
    rfl
 | _=>(dsimp only;walk_at "mx";rw [aA];rfl)
theorem vC {d:D} {S:Sto}:eT [.d d] S=.ok (.d (.bl (stB d))) S:=by
 unfold eT
 rw [ck]
 unfold jb
 walk_at "mx"
 rw [js]
 cases d with
 | tup xs=>
  dsimp only
  walk_at "mx"
  show _=R.ok (Vl.d (D.bl (decide (1≤(xs.length:Int)) && decide ((xs.length:Int)≤4) && xs.all cj))) S
  by_cases h1:(1:Int)≤(xs.length:Int)
  ·erw [decide_eq_true h1]
   by_cases h2:(xs.length:Int)≤4
   ·erw [decide_eq_true h2]
    rw [nD (show _=jf [some (.d (.tup xs))] S from rfl) (xs:=xs) (S1:=S) (by walk_at "mx") (fun d=>.bl (cj d)) (by
     intro x hx S
     walk_at "mx"
     rw [tS]
     walk_at "mx")]
    walk_at "mx"
    erw [mn]
    rw [aA]
    rfl
   ·erw [decide_eq_false h2]
    rw [aA]
    rfl
  ·erw [decide_eq_false h1]
   rw [aA]
   rfl
 | _=>(dsimp only;walk_at "mx";rw [aA];rfl)
theorem kG {ps:List Int}:decide (ps=bM ps)=decide (ps.Pairwise (· < ·)):=by
 rw [decide_eq_decide]
 exact ⟨fun h=>by rw [h];exact eR ps,fun h=>mZ (fun _=>Iff.rfl) h⟩
def iD:Vl→Option D
 | .d d=>if inB (-9) 9 d then none else some (.int 1)
 | _=>none
theorem vE {ys:List D}:∃ k:List Int,(ys.map Vl.d).filterMap iD=k.map D.int∧decide (k=[])=ys.all (inB (-9) 9):=by
 induction ys with
 | nil=>exact ⟨[],rfl,rfl⟩
 | cons d ys ih=>
  obtain ⟨k,e,h⟩:=ih
  rw [List.map_cons]
  cases q:inB (-9) 9 d with
  | true=>exact ⟨k,by rw [List.filterMap_cons,show iD (.d d)=none from if_pos q];exact e,by rw [List.all_cons,q,Bool.true_and];exact h⟩
  | false=>exact ⟨1 :: k,by rw [List.filterMap_cons,show iD (.d d)=some (.int 1) from if_neg (by rw [q];decide),e];rfl,by rw [List.all_cons,q,Bool.false_and];rfl⟩
theorem iT (k:List Int):D.depth (.lst (k.map D.int))≤50:=by unfold D.depth;rw [gJ];omega
theorem xS {d:D} {ys:List D} {x0:Option Vl} {S:Sto}:cA [x0,some (.d (.tup ys))] S=.ok (.d (.lst ((ys.map Vl.d).filterMap iD))) S:=by
 unfold cA
 refine nT (by walk_at "mx") iD ?_
 intro z hz S
 obtain ⟨d,hd,rfl⟩:=List.mem_map.mp hz
 have key:(xOr (cg (bI (ax bJ (aa (ae 0) ak)))) (xOr (aI (xOp oLt (ae 0) (xUn c8 (xC (.int 9))))) (aI (xOp oGt (ae 0) (xC (.int 9)))))) [some (.d d),x0,some (.d (.tup ys))] S=.ok (!inB (-9) 9 d) S:=by
  walk_at "mx"
  rw [dt]
  cases d with
  | int n=>
   erw [show bS (.int n)=true from rfl,show inB (-9) 9 (.int n)=(decide (-9≤n) && decide (n≤9)) from rfl]
   by_cases h:n < -9
   ·rw [decide_eq_true h,decide_eq_false (show ¬-9≤n by omega)];walk_at "mx";rfl
   ·rw [decide_eq_false h,decide_eq_true (show -9≤n by omega)];walk_at "mx"
    by_cases h2:9 < n
    ·rw [decide_eq_true h2,decide_eq_false (show ¬n≤9 by omega)];rfl
    ·rw [decide_eq_false h2,decide_eq_true (show n≤9 by omega)];rfl
  | _=>(rw [show bS _=false from rfl];walk_at "mx";rfl)
 constructor
 ·intro x hx
  cases q:inB (-9) 9 d with
  | true=>rw [show iD (.d d)=none from if_pos q] at hx;cases hx
  | false=>
   rw [show iD (.d d)=some (.int 1) from if_neg (by rw [q];decide)] at hx
   cases hx
   exact ⟨by rw [key,q];rfl,by walk_at "mx"⟩
 ·intro hx
  cases q:inB (-9) 9 d with
  | true=>rw [key,q];rfl
  | false=>rw [show iD (.d d)=some (.int 1) from if_neg (by rw [q];decide)] at hx;cases hx
theorem ni {xs:List D} {S:Sto}:(∃ x1,di [some (.d (.tup xs)),none] S=.ok (.nx,[some (.d (.tup xs)),x1]) S∧xs.all cj=true)∨∃ τ',di [some (.d (.tup xs)),none] S=.ok (.rt (.d (.bl false)),τ') S∧xs.all cj=false:=by
  have q:=vV (show _=di [some (.d (.tup xs)),none] S from rfl) (fun v S'=>v=.d (.bl false)∧S'=S∧xs.all cj=false) (S1:=S) (items:=xs.map Vl.d) (gd:=none) (by walk_at "mx")
    (fun i τ S'=>(∃ x1,τ=[some (.d (.tup xs)),x1])∧S'=S∧(xs.take i).all cj=true) ⟨⟨_,rfl⟩,rfl,rfl⟩ (by
      rintro i z τ S' hz ⟨⟨x1,rfl⟩,rfl,hi⟩
      rw [List.getElem?_map] at hz
      obtain ⟨d,hd,rfl⟩:∃ d,xs[i]?=some d∧Vl.d d=z:=by cases q:xs[i]? with | none=>rw [q] at hz;cases hz | some d=>rw [q] at hz;cases hz;exact ⟨d,rfl,rfl⟩
      have no:cj d=false→xs.all cj=false:=fun h=>by
        rw [← Bool.not_eq_true,List.all_eq_true]
        intro ha
        rw [ha d (List.mem_of_getElem? hd)] at h
        cases h
      have yes:cj d=true→(xs.take (i+1)).all cj=true:=fun h=>by
        rw [List.take_add_one,hd]
        simp [hi,h]
      have nt:isT "tuple" d=false→cj d=false→∃ τ1 S1 fl τ2 S2,gNm 1 (.d d) [some (.d (.tup xs)),x1] S'=.ok τ1 S1∧(az (xIf (xOr (cg (bI (xUn (bD "tuple") (ae 1)))) (xOr (aI (xOp oLt (xN br (aa (ae 1) ak)) (xC (.int 1)))) (aI (xOp oGt (xN br (aa (ae 1) ak)) (xC (.int 4)))))) (aH (xC (.bl false))) aN)
 (az (xIf (aI (xOp oNe cA (xN mkL ak))) (aH (xC (.bl false))) aN)
 (xIf (aI (xOp oNe (xN dS (aa (ae 1) ak)) (xUn oSS (ae 1)))) (aH (xC (.bl false))) aN))) τ1 S1=.ok (fl,τ2) S2∧(((fl=.nx∨fl=.ct)∧gok none S2∧(∃ x1,τ2=[some (.d (.tup xs)),x1])∧S2=S'∧(xs.take (i+1)).all cj=true)∨∃ v,fl=.rt v∧v=.d (.bl false)∧S2=S'∧xs.all cj=false):=fun h h'=>by
        refine ⟨_,_,.rt (.d (.bl false)),[some (.d (.tup xs)),some (.d d)],S',cf,?_,.inr ⟨_,rfl,rfl,rfl,no h'⟩⟩
        walk_at "mx"
        erw [h]
      cases d with
      | tup ys=>
        have ew:cj (.tup ys)=(ys.all (inB (-9) 9) && (decide (1≤(ys.length:Int)) && decide ((ys.length:Int)≤4) && decide ((ys.map intOf).Pairwise (· < ·)))):=rfl
        by_cases h1:(ys.length:Int) < 1
        · refine ⟨_,_,.rt (.d (.bl false)),[some (.d (.tup xs)),some (.d (.tup ys))],S',cf,?_,.inr ⟨_,rfl,rfl,rfl,no ?_⟩⟩
          · walk_at "mx"
            erw [e9]
            erw [decide_eq_true h1]
          · rw [ew,decide_eq_false (show ¬(1:Int)≤(ys.length:Int) by omega)]
            simp
        · by_cases h2:(4:Int) < (ys.length:Int)
          · refine ⟨_,_,.rt (.d (.bl false)),[some (.d (.tup xs)),some (.d (.tup ys))],S',cf,?_,.inr ⟨_,rfl,rfl,rfl,no ?_⟩⟩
            · walk_at "mx"
              erw [e9]
              erw [decide_eq_false h1]
              erw [decide_eq_true h2]
            · rw [ew,decide_eq_false (show ¬(ys.length:Int)≤4 by omega)]
              simp
          · obtain ⟨k,ek,hk⟩:=vE (ys:=ys)
            cases ha:ys.all (inB (-9) 9) with
            | false=>
              rw [ha] at hk
              refine ⟨_,_,.rt (.d (.bl false)),[some (.d (.tup xs)),some (.d (.tup ys))],S',cf,?_,.inr ⟨_,rfl,rfl,rfl,no (by rw [ew,ha];rfl)⟩⟩
              walk_at "mx"
              erw [e9]
              erw [decide_eq_false h1]
              erw [decide_eq_false h2]
              erw [xS (d:=.non),ek]
              erw [j7 (iT k),show ([]:List D)=([]:List Int).map D.int from rfl,eH,hk]
            | true=>
              rw [ha] at hk
              obtain ⟨ns,rfl,hn⟩:=iX ha
              rw [List.length_map] at h1 h2
              have e5:cj (.tup (ns.map D.int))=decide (ns.Pairwise (· < ·)):=by
                rw [ew,ha,kf,List.length_map,decide_eq_true (show (1:Int)≤(ns.length:Int) by omega),decide_eq_true (show (ns.length:Int)≤4 by omega)]
                rfl
              have st:∀ (r:R (Fl×Nv)),(xIf (aI (xOp oNe (xN dS (aa (ae 1) ak)) (xUn oSS (ae 1)))) (aH (xC (.bl false))) aN) [some (.d (.tup xs)),some (.d (.tup (ns.map D.int)))] S'=r →
                  (az (xIf (xOr (cg (bI (xUn (bD "tuple") (ae 1)))) (xOr (aI (xOp oLt (xN br (aa (ae 1) ak)) (xC (.int 1)))) (aI (xOp oGt (xN br (aa (ae 1) ak)) (xC (.int 4)))))) (aH (xC (.bl false))) aN)
 (az (xIf (aI (xOp oNe cA (xN mkL ak))) (aH (xC (.bl false))) aN)
 (xIf (aI (xOp oNe (xN dS (aa (ae 1) ak)) (xUn oSS (ae 1)))) (aH (xC (.bl false))) aN))) [some (.d (.tup xs)),some (.d (.tup (ns.map D.int)))] S'=r:=by
                rintro r rfl
                erw [ft]
                erw [e9]
                erw [List.length_map,decide_eq_false h1]
                erw [List.length_map,decide_eq_false h2]
                erw [xS (d:=.non),ek]
                erw [j7 (iT k),show ([]:List D)=([]:List Int).map D.int from rfl,eH,hk]
              by_cases hr:ns.Pairwise (· < ·)
              · refine ⟨_,_,.nx,[some (.d (.tup xs)),some (.d (.tup (ns.map D.int)))],S',cf,st _ ?_,.inl ⟨.inl rfl,trivial,⟨_,rfl⟩,rfl,yes (by rw [e5,decide_eq_true hr])⟩⟩
                walk_at "mx"
                erw [uF (ns:=ns) rfl (by omega) (by have:=iJ ns;omega)]
                erw [j7 (iT ns),eH,kG,decide_eq_true hr]
              · refine ⟨_,_,.rt (.d (.bl false)),[some (.d (.tup xs)),some (.d (.tup (ns.map D.int)))],S',cf,st _ ?_,.inr ⟨_,rfl,rfl,rfl,no (by rw [e5,decide_eq_false hr])⟩⟩
                walk_at "mx"
                erw [uF (ns:=ns) rfl (by omega) (by have:=iJ ns;omega)]
                erw [j7 (iT ns),eH,kG,decide_eq_false hr]
      | _=>exact nt rfl rfl)
  rcases q with ⟨τ',S',e,⟨x1,rfl⟩,rfl,h⟩ | ⟨v,τ',S',e,rfl,rfl,h⟩
  · rw [List.length_map,List.take_length] at h
    exact .inl ⟨x1,e,h⟩
  · exact .inr ⟨τ',e,h⟩
theorem gq {d:D} {S:Sto}:dN [.d d] S=.ok (.d (.bl (stB d))) S:=by
 unfold dN
 rw [ck]
 unfold hV
 erw [ft]
 rw [js]
 cases d with
 | tup xs=>
  dsimp only
  walk_at "mx"
  show _=R.ok (Vl.d (D.bl (decide (1≤(xs.length:Int)) && decide ((xs.length:Int)≤4) && xs.all cj))) S
  by_cases h1:(xs.length:Int) < 1
  ·erw [decide_eq_true h1,decide_eq_false (show ¬(1:Int)≤(xs.length:Int) by omega)]
   rw [aA]
   rfl
  ·erw [decide_eq_false h1,decide_eq_true (show (1:Int)≤(xs.length:Int) by omega)]
   by_cases h2:(4:Int) < (xs.length:Int)
   ·erw [decide_eq_true h2,decide_eq_false (show ¬(xs.length:Int)≤4 by omega)]
    rw [aA]
    rfl
   ·erw [decide_eq_false h2,decide_eq_true (show (xs.length:Int)≤4 by omega)]
    rcases ni (xs:=xs) (S:=S) with ⟨x1,e,h⟩ | ⟨τ',e,h⟩
    ·rw [e,h];walk_at "mx";rw [aA];rfl
    ·rw [e,h];walk_at "mx";rw [aA];rfl
 | _=>(dsimp only;walk_at "mx";rw [aA];rfl)
local macro_rules | `(tactic| walk_at "me") => `(tactic| repeat (first | walk_at "mx" | simp only [mE, oH, tW, Ab, zv, Ap, xj, vp, vc, zu, Av]))
theorem dO {d:D} {S:Sto}:dZ [.d d] S=if stB d=true then .ok (.d .non) S else .ex "NoStand" [] S:=by
 unfold dZ
 rw [ck]
 unfold g_
 walk_at "mx"
 rw [vC]
 cases stB d with
 | true=>walk_at "me"
 | false=>walk_at "me"<;>rfl
theorem uQ {d:D} (h:cj d=true):∃ ws,d=aW ws∧GoodW 4 ws:=by
 cases d with
 | tup xs=>
  have h:(xs.all (inB (-9) 9) && (decide (1≤(xs.length:Int)) && decide ((xs.length:Int)≤4) && decide ((xs.map intOf).Pairwise (· < ·))))=true:=h
  simp only [Bool.and_eq_true,decide_eq_true_eq] at h
  obtain ⟨h1,⟨h2,h3⟩,h4⟩:=h
  obtain ⟨ns,rfl,hn⟩:=iX h1
  rw [kf] at h4
  rw [List.length_map] at h2 h3
  exact ⟨ns,rfl,h4,hn,by omega,h3⟩
 | _=>cases h
theorem mD:∀ {xs:List D},xs.all cj=true→∃ wss:List (List Int),xs=wss.map aW∧∀ ws∈wss,GoodW 4 ws
 | [],_=>⟨[],rfl,by simp⟩
 | d :: xs,h=>by
  rw [List.all_cons,Bool.and_eq_true] at h
  obtain ⟨wss,rfl,hw⟩:=mD h.2
  obtain ⟨ws,rfl,g⟩:=uQ h.1
  refine ⟨ws :: wss,rfl,fun m hm=>?_⟩
  rcases List.mem_cons.mp hm with e | e
  ·rw [e];exact g
  ·exact hw m e
theorem Ad {d:D} (h:stB d=true):∃ wss,d=ay wss∧dC 4 4 wss:=by
 cases d with
 | tup xs=>
  have h:(decide (1≤(xs.length:Int)) && decide ((xs.length:Int)≤4) && xs.all cj)=true:=h
  simp only [Bool.and_eq_true,decide_eq_true_eq] at h
  obtain ⟨⟨h2,h3⟩,h1⟩:=h
  obtain ⟨wss,rfl,hw⟩:=mD h1
  rw [List.length_map] at h2 h3
  exact ⟨wss,rfl,by omega,h3,hw⟩
 | _=>cases h
theorem i_ {wss:List (List Int)} {a:D} {S:Sto}:eg [.d (ay wss),.d a] S=if inB 0 ((wss.length:Int) - 1) a=true then .ok (.d .non) S else .ex "NoName" [] S:=by
 unfold eg
 rw [dz]
 unfold ig
 walk_at "mx"
 have e:cT [.d a,.d (ay wss)] S=.ok (.d (.bl (inB 0 ((wss.length:Int) - 1) a))) S:=by
  unfold cT
  rw [dz]
  unfold fK ay
  walk_at "mx"
  erw [List.length_map,mM]
  rw [aA]
 rw [e]
 cases inB 0 ((wss.length:Int) - 1) a with
 | true=>walk_at "me"<;>rfl
 | false=>walk_at "me"<;>rfl
def hasB (ws:List Int):D→Bool
 | .int w=>decide (w∈ws)
 | _=>false
theorem nq {ws:List Int} {b:D} {S:Sto}:eh [.d (aW ws),.d b] S=.ok (.d (.bl (hasB ws b))) S:=by
 unfold eh
 rw [dz]
 unfold iC aW
 walk_at "mx"
 rw [nS]
 cases b with
 | int w=>rw [show bS (.int w)=true from rfl];walk_at "mx";rw [aA];rfl
 | _=>(rw [show bS _=false from rfl];walk_at "mx";rw [aA];rfl)
theorem jR {wss:List (List Int)} {i:Nat} {ws:List Int} (h:wss[i]?=some ws):atI (wss.map aW) (i:Int)=some (aW ws):=gO (by rw [List.getElem?_map,h];rfl)
theorem yu {n:Nat} {a:D} (h:inB 0 ((n:Int) - 1) a=true):∃ i:Nat,a=.int (i:Int)∧i < n:=by
 cases a with
 | int k=>
  have h:(decide (0≤k) && decide (k≤(n:Int) - 1))=true:=h
  simp only [Bool.and_eq_true,decide_eq_true_eq] at h
  obtain ⟨i,rfl⟩:=Int.eq_ofNat_of_zero_le h.1
  exact ⟨i,rfl,by omega⟩
 | _=>cases h
theorem ip {wss:List (List Int)} {i:Nat} {ws:List Int} {b:D} {S:Sto} (h:wss[i]?=some ws):cn [.d (ay wss),.d (.int (i:Int)),.d b] S=if hasB ws b=true then .ok (.d .non) S else .ex "NoWorth" [] S:=by
 have hi:=(List.getElem?_eq_some_iff.mp h).1
 have en:inB 0 ((wss.length:Int) - 1) (.int (i:Int))=true:=by
  show (decide (0≤(i:Int)) && decide ((i:Int)≤(wss.length:Int) - 1))=true
  rw [decide_eq_true (by omega),decide_eq_true (by omega)];rfl
 unfold cn
 rw [cD]
 unfold eJ
 walk_at "me"
 rw [i_,if_pos en]
 walk_at "me"
 rw [show ay wss=.tup (wss.map aW) from rfl,dk (jR h)]
 walk_at "me"
 rw [nq]
 cases hasB ws b with
 | true=>walk_at "me"<;>rfl
 | false=>walk_at "me"<;>rfl
theorem mC {wss:List (List Int)} {a b:D} {S:Sto} (h:inB 0 ((wss.length:Int) - 1) a=false):cn [.d (ay wss),.d a,.d b] S=.ex "NoName" [] S:=by
 unfold cn
 rw [cD]
 unfold eJ
 walk_at "me"
 rw [i_,if_neg (by rw [h];decide)]
 walk_at "me"
inductive Ans:D→D→D→Option Str→D→Prop
 | st {d a b:D}:stB d=false→Ans d a b (some "NoStand") (.str "stand")
 | nm {wss:List (List Int)} {a b:D}:dC 4 4 wss→stB (ay wss)=true→inB 0 ((wss.length:Int) - 1) a=false→Ans (ay wss) a b (some "NoName") (.str "name")
 | wo {wss:List (List Int)} {i:Nat} {ws:List Int} {b:D}:dC 4 4 wss→stB (ay wss)=true→wss[i]?=some ws→hasB ws b=false→Ans (ay wss) (.int (i:Int)) b (some "NoWorth") (.str "worth")
 | ok {wss:List (List Int)} {i:Nat} {ws:List Int} {w:Int}:dC 4 4 wss→stB (ay wss)=true→wss[i]?=some ws→w∈ws→Ans (ay wss) (.int (i:Int)) (.int w) none (ay (wss.set i [w]))
theorem x9 (d a b:D):∃ c z,Ans d a b c z:=by
 cases h:stB d with
 | false=>exact ⟨_,_,.st h⟩
 | true=>
  obtain ⟨wss,rfl,g⟩:=Ad h
  cases h2:inB 0 ((wss.length:Int) - 1) a with
  | false=>exact ⟨_,_,.nm g h h2⟩
  | true=>
   obtain ⟨i,rfl,hi⟩:=yu h2
   have e:wss[i]?=some wss[i]:=List.getElem?_eq_getElem hi
   cases h3:hasB wss[i] b with
   | false=>exact ⟨_,_,.wo g h e h3⟩
   | true=>
    cases b with
    | int w=>exact ⟨_,_,.ok g h e (of_decide_eq_true h3)⟩
    | _=>cases h3
theorem vM {α:Type} {l:List α} {i:Nat} {x:α} (h:i < l.length):l.take i++[x]++l.drop (i+1)=l.set i x:=by
 rw [List.set_eq_take_append_cons_drop,if_pos h]
 simp
theorem rM {wss:List (List Int)} {i:Nat} {w:Int}:(wss.map aW).set i (.tup [.int w])=(wss.set i [w]).map aW:=by rw [List.map_set];rfl
theorem kT {d a b z:D} {c:Option Str} {S:Sto} (h:Ans d a b c z):cM [.d d,.d a,.d b] S=(match c with | some c=>.ex c [] S | none=>.ok (.d z) S):=by
 unfold cM
 rw [cD]
 unfold jW
 cases h with
 | st h=>walk_at "me";rw [dO,if_neg (by rw [h];decide)];walk_at "me"
 | nm g h h2=>walk_at "me";rw [dO,if_pos h];walk_at "me";rw [mC h2];walk_at "me"
 | wo g h e h3=>walk_at "me";rw [dO,if_pos h];walk_at "me";rw [ip e,if_neg (by rw [h3];decide)];walk_at "me"
 | @ok wss i ws w g h e h3=>
  have hi:=(List.getElem?_eq_some_iff.mp e).1
  have gl:=g.le
  walk_at "me"
  rw [dO,if_pos h]
  walk_at "me"
  rw [ip e,if_pos (show hasB ws (.int w)=true from decide_eq_true h3)]
  unfold ay
  walk_at "me"
  rw [iz]
  rw [cO (by simp;omega)]
  walk_at "me"
  rw [show (i:Int)+1=((i+1:Nat):Int) by omega,jj]
  rw [cO (by simp;omega)]
  walk_at "me"
  rw [vM (by simpa using hi),rM,aA]
def bools (k:Nat):D:=.lst ((List.range 9).map fun i=>.bl (decide (i=k)))
theorem qj {S:Sto}:bP [.xc "NoStand" []] S=.ok (.d (.str "stand")) S:=by
 unfold bP
 rw [ck,show dR ([some (.xc "NoStand" [])]++List.replicate (2 - 1) none) S=.ok (.rt (.d (.str "stand")),[some (.xc "NoStand" []),some (.d (bools 3))]) S by kernel_rfl,aA]
theorem qE {S:Sto}:bP [.xc "NoName" []] S=.ok (.d (.str "name")) S:=by
 unfold bP
 rw [ck,show dR ([some (.xc "NoName" [])]++List.replicate (2 - 1) none) S=.ok (.rt (.d (.str "name")),[some (.xc "NoName" []),some (.d (bools 2))]) S by kernel_rfl,aA]
theorem rj {S:Sto}:bP [.xc "NoWorth" []] S=.ok (.d (.str "worth")) S:=by
 unfold bP
 rw [ck,show dR ([some (.xc "NoWorth" [])]++List.replicate (2 - 1) none) S=.ok (.rt (.d (.str "worth")),[some (.xc "NoWorth" []),some (.d (bools 6))]) S by kernel_rfl,aA]
theorem yZ {d a b z:D} {c:Option Str} {S:Sto} (h:Ans d a b c z):cz [.d d,.d a,.d b] S=.ok (.d z) S:=by
 have e:=kT (S:=S) h
 have key:∀ (c:Str) (z:D),cM [.d d,.d a,.d b] S=.ex c [] S→c∈csX→bP [.xc c []] S=.ok (.d z) S→cz [.d d,.d a,.d b] S=.ok (.d z) S:=fun c z e1 hm e2=>by
  unfold cz
  rw [cD]
  unfold ik
  walk_at "me"
  rw [e1]
  walk_at "me"
  rw [By hm]
  walk_at "me"
  rw [show oIs (.xc c []) (.d .non) S=.ok (.d (.bl false)) S from rfl]
  walk_at "me"
  rw [e2]
  walk_at "me"
  rw [aA]
 cases h with
 | st h=>exact key _ _ e (by decide) qj
 | nm g h h2=>exact key _ _ e (by decide) qE
 | wo g h e' h3=>exact key _ _ e (by decide) rj
 | @ok wss i ws w g h e' h3=>
  unfold cz
  rw [cD]
  unfold ik
  walk_at "me"
  rw [e]
  walk_at "me"
  rw [aA]
theorem AL {d a b z:D} {c:Option Str} {S:Sto} (h:Ans d a b c z):d7 [.d d,.d a,.d b] S=.ok (.d z) S:=by
 unfold d7
 rw [cD]
 unfold mJ
 cases h with
 | st h=>walk_at "mx";rw [gq,h];walk_at "mx";rw [aA]
 | @nm wss a b g h h2=>
  walk_at "mx"
  erw [gq,h]
  rw [dt]
  cases a with
  | int k=>
   have h2:(decide (0≤k) && decide (k≤(wss.length:Int) - 1))=false:=h2
   erw [show bS (.int k)=true from rfl]
   by_cases h3:k < 0
   ·rw [decide_eq_true h3];walk_at "mx";rw [aA]
   ·rw [decide_eq_true (show 0≤k by omega),Bool.true_and,decide_eq_false_iff_not] at h2
    rw [decide_eq_false h3]
    unfold ay
    walk_at "mx"
    erw [List.length_map,decide_eq_true (show (wss.length:Int)≤k by omega)]
    rw [aA]
  | _=>(rw [show bS _=false from rfl];walk_at "mx";rw [aA])
 | @wo wss i ws b g h e h3=>
  have hi:=(List.getElem?_eq_some_iff.mp e).1
  walk_at "mx"
  erw [gq,h]
  erw [dt,show bS (.int (i:Int))=true from rfl]
  rw [decide_eq_false (show ¬(i:Int) < 0 by omega)]
  unfold ay
  walk_at "mx"
  erw [List.length_map,decide_eq_false (show ¬(wss.length:Int)≤(i:Int) by omega)]
  rw [dt]
  cases b with
  | int w=>
   have h3:decide (w∈ws)=false:=h3
   erw [show bS (.int w)=true from rfl]
   rw [dk (jR e)]
   unfold aW
   walk_at "mx"
   erw [h3]
   rw [aA]
  | _=>(rw [show bS _=false from rfl];walk_at "mx";rw [aA])
 | @ok wss i ws w g h e h3=>
  have hi:=(List.getElem?_eq_some_iff.mp e).1
  walk_at "mx"
  erw [gq,h]
  erw [dt,show bS (.int (i:Int))=true from rfl]
  rw [decide_eq_false (show ¬(i:Int) < 0 by omega)]
  unfold ay
  walk_at "mx"
  erw [List.length_map,decide_eq_false (show ¬(wss.length:Int)≤(i:Int) by omega)]
  erw [dt,show bS (.int w)=true from rfl]
  rw [dk (jR e)]
  erw [show aW ws=.tup (ws.map D.int) from rfl]
  erw [decide_eq_true h3]
  have ec:jw [some (.d (.tup (wss.map aW))),some (.d (.int (i:Int))),some (.d (.int w))] S=.ok (.d (.lst ((wss.set i [w]).map aW))) S:=by
   unfold jw
   rw [mO (items:=(List.range wss.length).map fun k=>Vl.d (.int (k:Nat))) (S1:=S) (by walk_at "mx";rw [List.length_map,lE (by have:=g.le;omega)];rfl) (fun z=>match z with | .d (.int k)=>aW ((wss.set i [w]).getD k.toNat []) | _=>.non) (by
    intro z hz S
    obtain ⟨k,hk,rfl⟩:=List.mem_map.mp hz
    have hk:=List.mem_range.mp hk
    walk_at "mx"
    by_cases q:k=i
    ·subst q
     erw [decide_eq_true rfl]
     rw [show ((k:Int)).toNat=k from rfl,List.getD_eq_getElem?_getD,List.getElem?_set_self hi]
     rfl
    ·erw [decide_eq_false (show ¬(k:Int)=(i:Int) by omega)]
     rw [dk (jR (List.getElem?_eq_getElem hk)),show ((k:Int)).toNat=k from rfl,List.getD_eq_getElem?_getD,List.getElem?_set_ne (by omega),List.getElem?_eq_getElem hk]
     rfl)]
   rw [List.map_map]
   congr 3
   refine List.ext_getElem? fun k=>?_
   rw [List.getElem?_map,List.getElem?_map]
   rcases Nat.lt_or_ge k wss.length with hk | hk
   ·have h5:k < (wss.set i [w]).length:=by rw [List.length_set];exact hk
    rw [List.getElem?_eq_getElem (by simpa using hk),List.getElem?_eq_getElem h5,List.getElem_range]
    show some (aW ((wss.set i [w]).getD k []))=_
    rw [List.getD_eq_getElem?_getD,List.getElem?_eq_getElem h5]
    rfl
   ·rw [List.getElem?_eq_none (by simpa using hk),List.getElem?_eq_none (by simpa using hk)]
    rfl
  erw [ec]
  rw [aA]
theorem lcG {it:XI} {k:Nat} {g:XG} {t:XT} {e:XE} {τ:Nv} {S S1:Sto} {items:List Vl} (hit:it τ S=.ok ⟨items,none⟩ S1) (own:Vl→Nv) (f:Vl→D) (p:Vl→Bool) (hown:∀ z∈items,(own z).length=k) (hg:∀ z∈items,∀ ρ:Nv,ρ.length=k→∀ S:Sto,g z (ρ++τ) S=.ok (own z++τ) S)
  (ht:∀ z∈items,∀ S:Sto,t (own z++τ) S=.ok (p z) S) (he:∀ z∈items,p z=true→∀ S:Sto,e (own z++τ) S=.ok (.d (f z)) S):xLC it k g t e τ S=.ok (.d (.lst ((items.filter p).map f))) S1:=by
 have key:∀ (zs:List Vl) (acc:List D) (ρ:Nv),(∀ z∈zs,z∈items)→ρ.length=k→eK g t e S1.length none zs acc (ρ++τ) (S1++[.lst acc])=.ok (acc++(zs.filter p).map f) (S1++[.lst (acc++(zs.filter p).map f)]):=by
  intro zs
  induction zs with
  | nil=>
   intro acc ρ _ _
   rw [eK,if_pos (by simp)]
   simp
  | cons z zs ih=>
   intro acc ρ hz hl
   have hm:=hz z (List.mem_cons_self ..)
   rw [eK,hg z hm ρ hl,bL,ht z hm,bL]
   by_cases hp:p z=true
   ·rw [if_pos hp,he z hm hp,bL]
    dsimp only
    rw [if_pos ⟨by simp,True.intro⟩]
    rw [show (S1++[Ob.lst acc]).set S1.length (.lst (acc++[f z]))=S1++[.lst (acc++[f z])] by simp]
    rw [ih (acc++[f z]) (own z) (fun y hy=>hz y (List.mem_cons_of_mem _ hy)) (hown z hm),List.filter_cons_of_pos hp,List.map_cons,List.append_assoc]
    rfl
   ·rw [if_neg hp,if_pos (show gok none (S1++[Ob.lst acc]) from True.intro),ih acc (own z) (fun y hy=>hz y (List.mem_cons_of_mem _ hy)) (hown z hm),List.filter_cons_of_neg hp]
 show (it τ S).bind _=_
 rw [hit,bL]
 dsimp only
 rw [key items [] (List.replicate k none) (fun _ h=>h) (by simp),bL]
 unfold jJ
 rw [if_pos (by simp),List.take_left]
 simp
theorem tT {α:Type} {l:List α} {S:Sto}:dI (.d (.bl false)) (.d (.lst (l.map fun _=>D.bl true))) S=.ok (.d (.bl true)) S:=by
 unfold dI inX
 dsimp only
 rw [show bU (.d (.lst (l.map fun _=>D.bl true))) S=some (l.map fun _=>D.bl true) from rfl]
 dsimp only
 rw [if_pos (by rw [show D.flat (.bl false)=true from rfl,List.all_map];simp [D.flat])]
 unfold inD
 rw [List.any_map,show l.any ((fun e=>D.eqv e (D.bl false)) ∘ fun _=>D.bl true)=false from List.any_eq_false.mpr fun x _=>by simp [D.eqv]]
 rfl
theorem gQ:∀ {xs:List D} {z:Vl},z∈cH xs xs→∃ x∈xs,z=.d (.tup [x,x])
 | [],z,h=>by cases h
 | x :: xs,z,h=>by
  rcases List.mem_cons.mp (show z∈Vl.d (.tup [x,x]) :: cH xs xs from h) with e | e
  ·exact ⟨x,by simp,e⟩
  ·obtain ⟨y,hy,e2⟩:=gQ e
   exact ⟨y,by simp [hy],e2⟩
theorem yl {a:Int} {n:Nat} {S:Sto}:bu (n+1) [.d (.int a),.d (.int a)] S=.ok (.d (.bl true)) S:=by
 unfold bu
 rw [dz]
 unfold fO
 walk_at "mx"
 erw [show isT "bool" (.int a)=false from rfl]
 erw [show isT "bool" (.int a)=false from rfl]
 erw [show isT "int" (.int a)=true from rfl]
 erw [show isT "int" (.int a)=true from rfl]
 rw [aA]
theorem l9 {a:Str} {n:Nat} {S:Sto}:bu (n+1) [.d (.str a),.d (.str a)] S=.ok (.d (.bl true)) S:=by
 unfold bu
 rw [dz]
 unfold fO
 walk_at "mx"
 erw [show oIs (.d (.str a)) (.d .non) S=.ok (.d (.bl false)) S from rfl]
 erw [show isT "bool" (.str a)=false from rfl]
 erw [show isT "bool" (.str a)=false from rfl]
 erw [show isT "int" (.str a)=false from rfl]
 erw [show isT "str" (.str a)=true from rfl]
 erw [show isT "str" (.str a)=true from rfl]
 rw [aA]
theorem pZ {xs:List D} {n:Nat} {S:Sto} (h:∀ x∈xs,∀ S,bu n [.d x,.d x] S=.ok (.d (.bl true)) S):bu (n+1) [.d (.tup xs),.d (.tup xs)] S=.ok (.d (.bl true)) S:=by
 unfold bu
 rw [dz]
 unfold fO
 have e:iH (bu n) [some (.d (.tup xs)),some (.d (.tup xs))] S=.ok (.d (.lst ((cH xs xs).map fun _=>.bl true))) S:=by
  unfold iH
  rw [lcG (items:=cH xs xs) (S1:=S) (by walk_at "mx") (fun z=>match z with | .d (.tup [a,b])=>[some (.d a),some (.d b)] | _=>[none,none]) (fun _=>.bl true) (fun _=>true) ?_ ?_ ?_ ?_]
  ·rw [List.filter_eq_self.mpr (fun _ _=>rfl)]
  ·intro z hz
   obtain ⟨x,hx,rfl⟩:=gQ hz
   rfl
  ·intro z hz ρ hρ S
   obtain ⟨x,hx,rfl⟩:=gQ hz
   match ρ,hρ with
   | [_,_],_=>walk_at "mx"
  ·intro z hz S
   rfl
  ·intro z hz _ S
   obtain ⟨x,hx,rfl⟩:=gQ hz
   dsimp only
   walk_at "mx"
   erw [h x hx]
 walk_at "mx"
 erw [show isT "bool" (.tup xs)=false from rfl]
 erw [show isT "bool" (.tup xs)=false from rfl]
 erw [show isT "int" (.tup xs)=false from rfl]
 erw [show isT "str" (.tup xs)=false from rfl]
 erw [e]
 erw [tT]
 rw [aA]
theorem o8 {wss:List (List Int)} {S:Sto}:bu 10 [.d (ay wss),.d (ay wss)] S=.ok (.d (.bl true)) S:=by
 refine pZ (n:=9) fun x hx S=>?_
 obtain ⟨ws,_,rfl⟩:=List.mem_map.mp hx
 refine pZ (n:=8) fun x hx S=>?_
 obtain ⟨w,_,rfl⟩:=List.mem_map.mp hx
 exact yl (n:=7)
theorem BJ (d a b:D) (S:Sto):∃ z,cz [.d d,.d a,.d b] S=.ok (.d z) S∧d7 [.d d,.d a,.d b] S=.ok (.d z) S∧bu 10 [.d z,.d z] S=.ok (.d (.bl true)) S:=by
 obtain ⟨c,z,h⟩:=x9 d a b
 refine ⟨z,yZ h,AL h,?_⟩
 cases h with
 | st _=>exact l9 (n:=9)
 | nm _ _ _=>exact l9 (n:=9)
 | wo _ _ _ _=>exact l9 (n:=9)
 | ok _ _ _ _=>exact o8
noncomputable def bR:XS:=(az (aT (xOp c9 (ax aD (aa (ae 0) (aa (xC (.int 23)) ak))) (xC (.int 11))) (gNm 4))
 (az (aT (xN mkL (aa (xC .non) (aa (xC (.bl true)) (aa (xC (.bl false)) (aa (xC (.str "")) (aa (xC (.str "unlike")) (aa (xC (.str "many")) (aa (xC (.str "sum")) (aa (xC (.str "row")) (aa (xC (.str "hand")) (aa (xC (.str "-")) (aa (xN mkT ak) (aa (xN mkL ak) (aa (xOp jv (xC (.int 10)) (xC (.int 20))) (aa (xC (.int 100)) (aa (xUn c8 (xC (.int 100))) (aa (xN mkT (aa (xC (.int 0)) ak)) (aa (xN mkL (aa (xC (.int 0)) ak)) ak)))))))))))))))))) (gNm 5))
 (az (xIf (bI (xUn (bD "tuple") (ae 1))) (az (aT (xN mkL (aa (xN dS (aa (ae 1) ak)) (aa (xOp aP (ae 1) (xSl oSl (ae 1) bF (bW (xC (.int 1))))) (aa (xSl oSl (ae 1) bF (bW (xUn c8 (xC (.int 1))))) (aa (xOp kq (ae 1) (xUn c8 (xC (.int 1)))) (aa (xOp aP (ae 1) (xN mkT (aa (ae 4) ak))) (aa (xSl oSl (ae 1) (bW (xC (.int 1))) bF) (aa (xN mkT (aa (ae 1) ak)) ak)))))))) (gNm 6))
 (aH (xOp oIx (xOp aP (ae 6) (xN mkL (aa (xOp oIx (ae 5) (ax aD (aa (ae 0) (aa (xC (.int 17)) ak)))) ak))) (ax aD (aa (ae 0) (aa (xC (.int 8)) ak)))))) aN)
 (az (xIf (bI (ax bJ (aa (ae 1) ak))) (az (aT (xN mkL (aa (xOp aP (ae 1) (xC (.int 1))) (aa (xOp c9 (ae 1) (xC (.int 1))) (aa (xOp c9 (xC (.int 0)) (ae 1)) (aa (ae 4) (aa (ae 4) (aa (xOp oEq (ae 1) (xC (.int 1))) (aa (xOp c9 (xC (.int 4)) (ae 1)) ak)))))))) (gNm 6))
 (aH (xOp oIx (xOp aP (ae 6) (xN mkL (aa (xOp oIx (ae 5) (ax aD (aa (ae 0) (aa (xC (.int 17)) ak)))) ak))) (ax aD (aa (ae 0) (aa (xC (.int 8)) ak)))))) aN)
 (aH (xOp oIx (ae 5) (ax aD (aa (ae 0) (aa (xC (.int 17)) ak)))))))))
theorem uq {s:XF}:fN s=az (xIf (iB (bI (xUn (bD "tuple") (ae 1))) (iB (aI (xOp oNe (ae 1) (xN mkT ak))) (iB (aI (xOp oGt (ae 2) (xC (.int 0)))) (aI (xOp oGt (ax aD (aa (ae 0) (aa (xC (.int 4)) ak))) (xC (.int 0))))))) (az (aT (ax aD (aa (ae 0) (aa (xN br (aa (ae 1) ak)) ak))) (gNm 3))
 (aH (xOp aP (xOp aP (xSl oSl (ae 1) bF (bW (ae 3))) (xN mkT (aa (ax s (aa (ae 0) (aa (xOp oIx (ae 1) (ae 3)) (aa (xOp c9 (ae 2) (xC (.int 1))) ak)))) ak))) (xSl oSl (ae 1) (bW (xOp aP (ae 3) (xC (.int 1)))) bF)))) aN) bR:=rfl
theorem yp {a b c d e f g h i j k l m n o p q:D} {S:Sto}:mkL [.d a,.d b,.d c,.d d,.d e,.d f,.d g,.d h,.d i,.d j,.d k,.d l,.d m,.d n,.d o,.d p,.d q] S=.ok (.d (.lst [a,b,c,d,e,f,g,h,i,j,k,l,m,n,o,p,q])) S:=af rfl
theorem pick {xs:List D} {i:Int} (h0:0≤i) (h1:i < (xs.length:Int)):∃ z,∀ S,oIx (.d (.lst xs)) (.d (.int i)) S=.ok (.d z) S:=by
 obtain ⟨z,e,_⟩:=rE h0 h1
 exact ⟨z,fun S=>lI e⟩
def oJ:List D:=[.non,.bl true,.bl false,.str "",.str "unlike",.str "many",.str "sum",.str "row",.str "hand",.str "-",.tup [],.lst [],.int (10 ^ Int.toNat 20),.int 100,.int (-100),.tup [.int 0],.lst [.int 0]]
theorem yQ {o:Ob} {R:Sto} {xs:List D} {deep:D} (hp:Pen o) (hl:xs.length≤50):∃ (d:D) (o':Ob),Pen o'∧leave (o :: R) (bR [some (.r 0),some (.d (.tup xs)),some (.d deep),none,none,none,none] (o :: R))=.ok (.d d) (o' :: R):=by
 obtain ⟨a,o1,a0,a1,hp1,e1⟩:=bo (R:=R) (m:=23) hp (by decide) (by decide)
 obtain ⟨b,o2,b0,b1,hp2,e2⟩:=bo (R:=R) (m:=17) hp1 (by decide) (by decide)
 obtain ⟨c,o3,c0,c1,hp3,e3⟩:=bo (R:=R) (m:=8) hp2 (by decide) (by decide)
 have c1':cx xs none (some 1)=xs.take 1:=iz (k:=1)
 unfold bR
 walk_at "mx"
 rw [e1]
 repeat (first | walk_at "mx" | rw [yp] | rw [e9] | rw [c1'] | rw [iS ⟨by decide,by decide,by decide⟩] | rw [cO (by simp;omega)] | rw [cO (by simp)])
 rw [e2]
 obtain ⟨z,ez⟩:=pick (xs:=oJ) b0 b1
 have ez:=ez (o2 :: R)
 unfold oJ at ez
 walk_at "mx"
 erw [ez]
 erw [iN (by simp)]
 erw [e3]
 obtain ⟨z2,ez2⟩:=pick (xs:=[.lst xs,.tup (xs++xs.take 1),.tup (cx xs none (some (-1))),.tup xs.reverse,.tup (xs++[.int (a - 11)]),.tup (cx xs (some 1) none),.tup [.tup xs],z]) c0 c1
 erw [ez2 (o3 :: R)]
 exact ⟨z2,o3,hp3,by rw [eo,cQ]⟩
theorem w4 {o:Ob} {R:Sto} {n:Int} {deep:D} (hp:Pen o):∃ (d:D) (o':Ob),Pen o'∧leave (o :: R) (bR [some (.r 0),some (.d (.int n)),some (.d deep),none,none,none,none] (o :: R))=.ok (.d d) (o' :: R):=by
 obtain ⟨a,o1,a0,a1,hp1,e1⟩:=bo (R:=R) (m:=23) hp (by decide) (by decide)
 obtain ⟨b,o2,b0,b1,hp2,e2⟩:=bo (R:=R) (m:=17) hp1 (by decide) (by decide)
 obtain ⟨c,o3,c0,c1,hp3,e3⟩:=bo (R:=R) (m:=8) hp2 (by decide) (by decide)
 unfold bR
 walk_at "mx"
 rw [e1]
 repeat (first | walk_at "mx" | rw [yp] | rw [show isT "tuple" (.int n)=false from rfl] | rw [dt,show bS (.int n)=true from rfl] | rw [iS ⟨by decide,by decide,by decide⟩])
 rw [e2]
 obtain ⟨z,ez⟩:=pick (xs:=oJ) b0 b1
 have ez:=ez (o2 :: R)
 unfold oJ at ez
 walk_at "mx"
 erw [ez]
 erw [iN (by simp)]
 erw [e3]
 obtain ⟨z2,ez2⟩:=pick (xs:=[.int (n+1),.int (n - 1),.int (0 - n),.int (a - 11),.int (a - 11),.bl (decide (n=1)),.int (4 - n),z]) c0 c1
 erw [ez2 (o3 :: R)]
 exact ⟨z2,o3,hp3,by rw [eo,cQ]⟩
def lD (k:Nat) (x deep:D):Prop:=∀ (o:Ob) (R:Sto),Pen o→∃ (d:D) (o':Ob),Pen o'∧du k [.r 0,.d x,.d deep] (o :: R)=.ok (.d d) (o' :: R)
theorem ya {k:Nat} {n:Int} {deep:D}:lD (k+1) (.int n) deep:=fun o R hp=>by
 obtain ⟨d,o',hp',e⟩:=w4 (R:=R) (n:=n) (deep:=deep) hp
 refine ⟨d,o',hp',?_⟩
 rw [← e]
 show a_ 3 7 (fN (du k)) _ _=_
 erw [cD,uq,ft]
 erw [show isT "tuple" (.int n)=false from rfl]
theorem qs {k:Nat} {xs:List D} {deep:Int} (hl:xs.length≤50) (hd:D.depth (.tup xs)≤50) (hx:∀ x∈xs,lD k x (.int (deep - 1))):lD (k+1) (.tup xs) (.int deep):=fun o R hp=>by
 have skip:∀ (o:Ob),Pen o→∃ (d:D) (o':Ob),Pen o'∧leave (o :: R) (bR [some (.r 0),some (.d (.tup xs)),some (.d (.int deep)),none,none,none,none] (o :: R))=.ok (.d d) (o' :: R):=fun o hp=>yQ hp hl
 show ∃ (d:D) (o':Ob),Pen o'∧a_ 3 7 (fN (du k)) _ _=_
 erw [cD,uq,ft]
 erw [e9]
 rw [zN hd]
 cases xs with
 | nil=>
  erw [show D.bt [] []=true from rfl]
  exact skip o hp
 | cons y ys=>
  erw [show D.bt (y :: ys) []=false from rfl]
  by_cases h0:(0:Int) < deep
  ·erw [decide_eq_true h0]
   obtain ⟨a,o1,a0,a1,hp1,e1⟩:=bo (R:=R) (m:=4) hp (by decide) (by decide)
   erw [e1]
   by_cases h1:(0:Int) < a
   ·rw [decide_eq_true h1]
    have hpos:(0:Int) < ((y :: ys).length:Int):=by simp only [List.length_cons];omega
    have hlt:((y :: ys).length:Int) < 1073741824:=by omega
    generalize y :: ys=xs at hl hd hx skip hpos hlt
    walk_at "mx"
    obtain ⟨b,o2,b0,b1,hp2,e2⟩:=bo (R:=R) (m:=(xs.length:Int)) hp1 hpos hlt
    obtain ⟨i,rfl⟩:=Int.eq_ofNat_of_zero_le b0
    obtain ⟨z,ez,hz⟩:=rE b0 b1
    obtain ⟨d,o3,hp3,e3⟩:=hx z hz o2 R hp2
    erw [e2]
    erw [iz,dk ez]
    erw [e3]
    erw [cO (by simp;omega)]
    erw [show (i:Int)+1=((i+1:Nat):Int) by omega,jj,cO (by simp;omega)]
    exact ⟨_,o3,hp3,by rw [eo,cQ]⟩
   ·erw [decide_eq_false h1]
    obtain ⟨d,o',hp',e⟩:=skip o1 hp1
    exact ⟨d,o',hp',e⟩
  ·erw [decide_eq_false h0]
   exact skip o hp
theorem oo:∀ l:List (List Int),D.bN (l.map aW)≤1
 | []=>Nat.zero_le _
 | x :: l=>by
  have:=oo l
  show max (D.bN (x.map D.int)+1) (D.bN (l.map aW))≤1
  rw [gJ]
  omega
theorem pH {wss:List (List Int)} (g:dC 4 4 wss):lD 10 (ay wss) (.int 2):=by
 have h1:=g.le
 refine qs (k:=9) (deep:=2) (by rw [List.length_map];omega) (by show D.bN (wss.map aW)+1≤50;have:=oo wss;omega) fun x hx=>?_
 obtain ⟨ws,hw,rfl⟩:=List.mem_map.mp hx
 have h2:=(g.all ws hw).le
 refine qs (k:=8) (deep:=2 - 1) (by rw [List.length_map];omega) (by show D.bN (ws.map D.int)+1≤50;rw [gJ];omega) fun x hx=>?_
 obtain ⟨w,_,rfl⟩:=List.mem_map.mp hx
 exact ya (k:=7)
theorem Cr {a:XE} {τ:Nv} {xs:List D} {S S1:Sto} (ha:a τ S=.ok (.d (.tup xs)) S1):ee a τ S=.ok ⟨xs.map Vl.d,none⟩ S1:=by rw [jP,ha,lS]
theorem tK {a:XE} {τ:Nv} {xs:List D} {S S1:Sto} (ha:a τ S=.ok (.d (.lst xs)) S1):ee a τ S=.ok ⟨xs.map Vl.d,none⟩ S1:=by rw [jP,ha,rF]
theorem lF {xs:List D} {i:Nat} {z:Vl} (h:(xs.map Vl.d)[i]?=some z):∃ d∈xs,z=.d d:=by
 obtain ⟨d,hd,rfl⟩:=List.mem_map.mp (List.mem_of_getElem? h)
 exact ⟨d,hd,rfl⟩
theorem jx {wss:List (List Int)} {b:Int} (b0:0≤b) (b1:b < (wss.length:Int)):∃ ws∈wss,atI (wss.map aW) b=some (aW ws):=by
 obtain ⟨i,rfl⟩:=Int.eq_ofNat_of_zero_le b0
 have hi:i < wss.length:=by omega
 exact ⟨wss[i],List.getElem_mem hi,jR (List.getElem?_eq_getElem hi)⟩
theorem uE {τ:Nv} {i j k:Nat} {d a b:D} {S:Sto} (h1:∀ S,ae i τ S=.ok (.d d) S) (h2:∀ S,ae j τ S=.ok (.d a) S) (h3:∀ S,ae k τ S=.ok (.d b) S) :
  (xIf (cg (bI (ax (bu 10) (aa (ax cz (aa (ae i) (aa (ae j) (aa (ae k) ak)))) (aa (ax d7 (aa (ae i) (aa (ae j) (aa (ae k) ak)))) ak))))) (aH (xC (.bl false))) aN) τ S=.ok (.nx,τ) S:=by
 obtain ⟨z,e1,e2,e3⟩:=BJ d a b S
 simp only [oM,ql,qT,km,kv,nc,h1,h2,h3,pN,pC,sU,e1,e2,e3,oF,uu,uH,qK,Bool.not_true,jN,i5]
theorem wV {o:Ob} {R:Sto} {wss:List (List Int)} {od:List D} {a:D} {x0 x2 x6 x7 x8:Option Vl} (hp:Pen o) (g:dC 4 4 wss) (hl:od.length≤50) :
  ∃ (o':Ob) (y6:Option Vl),Pen o'∧mj [x0,some (.r 0),x2,some (.d (ay wss)),some (.d (.lst od)),some (.d a),x6,x7,x8] (o :: R)=.ok (.nx,[x0,some (.r 0),x2,some (.d (ay wss)),some (.d (.lst od)),some (.d a),y6,x7,x8]) (o' :: R):=by
 have g1:=g.le
 have g0:=g.pos
 obtain ⟨b,o1,b0,b1,hp1,e1⟩:=bo (R:=R) (m:=(wss.length:Int)) hp (by omega) (by omega)
 obtain ⟨ws,hw,ea⟩:=jx b0 b1
 have h4:=(g.all ws hw).le
 obtain ⟨τ',S',e,y6,rfl,rfl⟩:=eE (show _=mj [x0,some (.r 0),x2,some (.d (ay wss)),some (.d (.lst od)),some (.d a),x6,x7,x8] (o :: R) from rfl) (S1:=o1 :: R) (items:=(ws.map D.int++od).map Vl.d) (gd:=none)
  (tK (by
   unfold ay
   walk_at "mx"
   erw [List.length_map,e1]
   rw [dk ea]
   unfold aW
   walk_at "mx"
   rw [iN (by simp;omega)]))
  (fun _ τ S=>∃ y6,τ=[x0,some (.r 0),x2,some (.d (ay wss)),some (.d (.lst od)),some (.d a),y6,x7,x8]∧S=o1 :: R) ⟨_,rfl,rfl⟩ (by
   rintro i z τ S hz ⟨y6,rfl,rfl⟩
   obtain ⟨d,_,rfl⟩:=lF hz
   exact ⟨_,_,.nx,_,_,cf,uE (d:=ay wss) (a:=a) (b:=d) (fun _=>rfl) (fun _=>rfl) (fun _=>rfl),.inl rfl,trivial,_,rfl,rfl⟩)
 exact ⟨o1,y6,hp1,e⟩
theorem wM {o:Ob} {R:Sto} {wss:List (List Int)} {od:List D} {x0 x2 x5 x6 x7 x8:Option Vl} (hp:Pen o) (g:dC 4 4 wss) (hl:od.length≤50) :
  ∃ (o':Ob) (y5 y6:Option Vl),Pen o'∧mI [x0,some (.r 0),x2,some (.d (ay wss)),some (.d (.lst od)),x5,x6,x7,x8] (o :: R)=.ok (.nx,[x0,some (.r 0),x2,some (.d (ay wss)),some (.d (.lst od)),y5,y6,x7,x8]) (o' :: R):=by
 have g1:=g.le
 obtain ⟨τ',S',e,o',y5,y6,hp',rfl,rfl⟩:=eE (show _=mI [x0,some (.r 0),x2,some (.d (ay wss)),some (.d (.lst od)),x5,x6,x7,x8] (o :: R) from rfl) (S1:=o :: R) (items:=(((List.range wss.length).map fun i=>D.int (i:Nat))++od).map Vl.d) (gd:=none)
  (tK (by
   unfold ay
   walk_at "mx"
   rw [List.length_map]
   erw [show lrg o9 [.d (.int (wss.length:Int))] (o :: R)=.ok (.d (.lst ((List.range wss.length).map fun i=>D.int (i:Nat)))) (o :: R) from yc (by omega)]
   rw [iN (by simp;omega)]))
  (fun _ τ S=>∃ (o':Ob) (y5 y6:Option Vl),Pen o'∧τ=[x0,some (.r 0),x2,some (.d (ay wss)),some (.d (.lst od)),y5,y6,x7,x8]∧S=o' :: R) ⟨o,_,_,hp,rfl,rfl⟩ (by
   rintro i z τ S hz ⟨o',y5,y6,hp',rfl,rfl⟩
   obtain ⟨d,_,rfl⟩:=lF hz
   obtain ⟨o2,z6,hp2,e2⟩:=wV (R:=R) (a:=d) (x0:=x0) (x2:=x2) (x6:=y6) (x7:=x7) (x8:=x8) hp' g hl
   exact ⟨_,_,.nx,_,_,cf,e2,.inl rfl,trivial,o2,_,_,hp2,rfl,rfl⟩)
 exact ⟨o',y5,y6,hp',e⟩
theorem zI {S:Sto} {wss:List (List Int)} {t:D} {x0 x1 x2 x4 x5 x6 x7:Option Vl} (g:dC 4 4 wss) :
  ∃ (y5 y6:Option Vl),lL [x0,x1,x2,some (.d (ay wss)),x4,x5,x6,x7,some (.d t)] S=.ok (.nx,[x0,x1,x2,some (.d (ay wss)),x4,y5,y6,x7,some (.d t)]) S:=by
 have g1:=g.le
 obtain ⟨τ',S',e,y5,y6,rfl,rfl⟩:=eE (show _=lL [x0,x1,x2,some (.d (ay wss)),x4,x5,x6,x7,some (.d t)] S from rfl) (S1:=S) (items:=(List.range wss.length).map fun i=>Vl.d (.int (i:Nat))) (gd:=none)
  (by
   unfold ay
   walk_at "mx"
   rw [List.length_map,lE (by omega)]
   rfl)
  (fun _ τ S'=>∃ (y5 y6:Option Vl),τ=[x0,x1,x2,some (.d (ay wss)),x4,y5,y6,x7,some (.d t)]∧S'=S) ⟨_,_,rfl,rfl⟩ (by
   rintro i z τ S' hz ⟨y5,y6,rfl,rfl⟩
   obtain ⟨hi,rfl⟩:=kh hz
   obtain ⟨ws,hw,ea⟩:=jx (wss:=wss) (b:=(i:Int)) (by omega) (by omega)
   have h4:=(g.all ws hw).le
   obtain ⟨τ',S2,e2,z6,rfl,rfl⟩:=eE (show _=rD [x0,x1,x2,some (.d (ay wss)),x4,some (.d (.int (i:Nat))),y6,x7,some (.d t)] S' from rfl) (S1:=S') (items:=(ws.map D.int++[D.non]).map Vl.d) (gd:=none)
    (Cr (by
     unfold ay
     walk_at "mx"
     rw [dk ea]
     unfold aW
     walk_at "mx"
     rw [cO (by simp;omega)]))
    (fun _ τ S2=>∃ z6,τ=[x0,x1,x2,some (.d (ay wss)),x4,some (.d (.int (i:Nat))),z6,x7,some (.d t)]∧S2=S') ⟨_,rfl,rfl⟩ (by
     rintro j z τ S2 hz ⟨z6,rfl,rfl⟩
     obtain ⟨d,_,rfl⟩:=lF hz
     exact ⟨_,_,.nx,_,_,cf,uE (d:=t) (a:=.int (i:Nat)) (b:=d) (fun _=>rfl) (fun _=>rfl) (fun _=>rfl),.inl rfl,trivial,_,rfl,rfl⟩)
   exact ⟨_,_,.nx,_,_,cf,e2,.inl rfl,trivial,_,_,rfl,rfl⟩)
 exact ⟨y5,y6,e⟩
theorem xU {o:Ob} {R:Sto} {wss:List (List Int)} {b:Int} {x0 x2 x4 x5 x6 x8:Option Vl} (hp:Pen o) (g:dC 4 4 wss) (b0:0≤b) (b1:b < (wss.length:Int)) :
  ∃ (o':Ob) (y5 y6 y8:Option Vl),Pen o'∧l4 [x0,some (.r 0),x2,some (.d (ay wss)),x4,x5,x6,some (.d (.int b)),x8] (o :: R)=.ok (.nx,[x0,some (.r 0),x2,some (.d (ay wss)),x4,y5,y6,some (.d (.int b)),y8]) (o' :: R):=by
 have g1:=g.le
 obtain ⟨ws,hw,ea⟩:=jx b0 b1
 obtain ⟨i,rfl⟩:=Int.eq_ofNat_of_zero_le b0
 obtain ⟨t,o1,hp1,e1⟩:=pH g o R hp
 obtain ⟨τ',S',e,y5,y6,y8,rfl,rfl⟩:=eE (show _=l4 [x0,some (.r 0),x2,some (.d (ay wss)),x4,x5,x6,some (.d (.int (i:Int))),x8] (o :: R) from rfl) (S1:=o1 :: R) (items:=[t,.tup ((wss.map aW).take i++[.tup (ws.map D.int).reverse]++(wss.map aW).drop (i+1)),.tup (wss.map aW++[.tup []])].map Vl.d) (gd:=none)
  (tK (by
   walk_at "mx"
   rw [e1]
   unfold ay
   walk_at "mx"
   rw [iz,dk ea]
   unfold aW
   walk_at "mx"
   erw [cO (by simp;omega)]
   erw [show (i:Int)+1=((i+1:Nat):Int) by omega,jj,cO (by simp;omega)]
   rw [cO (by simp;omega)]
   walk_at "mx"))
  (fun _ τ S=>∃ (y5 y6 y8:Option Vl),τ=[x0,some (.r 0),x2,some (.d (ay wss)),x4,y5,y6,some (.d (.int (i:Int))),y8]∧S=o1 :: R) ⟨_,_,_,rfl,rfl⟩ (by
   rintro j z τ S hz ⟨y5,y6,y8,rfl,rfl⟩
   obtain ⟨d,_,rfl⟩:=lF hz
   obtain ⟨z5,z6,e2⟩:=zI (S:=o1 :: R) (t:=d) (x0:=x0) (x1:=some (.r 0)) (x2:=x2) (x4:=x4) (x5:=y5) (x6:=y6) (x7:=some (.d (.int (i:Int)))) g
   exact ⟨_,_,.nx,_,_,cf,e2,.inl rfl,trivial,_,_,_,rfl,rfl⟩)
 exact ⟨o1,y5,y6,y8,hp1,e⟩
theorem rR (ns:List Int):oV [.sc ns] []=.ok (.d (.bl true)) []:=by
 unfold oV
 rw [ck]
 unfold qR
 obtain ⟨o,hp,e0⟩:=vg ns
 walk_at "mx"
 erw [e0]
 obtain ⟨τ',S',e,o',y2,y3,y4,y5,y6,y7,y8,hp',rfl,rfl⟩:=eE (show _=p9 [some (.sc ns),some (.r 0),none,none,none,none,none,none,none] [o] from rfl) (S1:=[o]) (gd:=none) (items:=(List.range 6).map fun i=>Vl.d (.int (i:Nat))) (by walk_at "mx";rw [lE (by decide)];rfl)
  (fun i τ S'=>∃ (o':Ob) (y2 y3 y4 y5 y6 y7 y8:Option Vl),Pen o'∧τ=[some (.sc ns),some (.r 0),y2,y3,y4,y5,y6,y7,y8]∧S'=[o']) ⟨o,_,_,_,_,_,_,_,hp,rfl,rfl⟩ (by
   rintro i z τ S' hz ⟨o',y2,y3,y4,y5,y6,y7,y8,hp',rfl,rfl⟩
   obtain ⟨hi,rfl⟩:=kh hz
   obtain ⟨o1,hp1,e1⟩:=uI (R:=[]) hp'
   obtain ⟨wss,o2,gs,hp2,e2⟩:=sf (R:=[]) (names:=4) (most:=4) hp1 (by decide) (by decide) (by decide) (by decide)
   have h1:=gs.le
   have h0:=gs.pos
   obtain ⟨w,o3,hw,hp3,e3⟩:=uP (R:=[]) hp2 gs (by decide) (by decide)
   generalize hod:[D.non,.bl true,.bl false,.str "0",.tup [.int 0],.int (-1),.int (10 ^ Int.toNat 20),.int (wss.length:Int),.int w,.int 5,.lst [.int 0],.tup [.int 0,.lst [.int 1]]]=od
   obtain ⟨o4,z5,z6,hp4,e4⟩:=wM (R:=[]) (od:=od) (x0:=some (.sc ns)) (x2:=some (.d (.int (i:Nat)))) (x5:=y5) (x6:=y6) (x7:=y7) (x8:=y8) hp3 gs (by rw [← hod];simp)
   obtain ⟨b,o5,b0,b1,hp5,e5⟩:=bo (R:=[]) (m:=(wss.length:Int)) hp4 (by omega) (by omega)
   obtain ⟨o6,u5,u6,u8,hp6,e6⟩:=xU (R:=[]) (x0:=some (.sc ns)) (x2:=some (.d (.int (i:Nat)))) (x4:=some (.d (.lst od))) (x5:=z5) (x6:=z6) (x8:=y8) hp5 gs b0 b1
   refine ⟨_,_,.nx,[some (.sc ns),some (.r 0),some (.d (.int (i:Nat))),some (.d (ay wss)),some (.d (.lst od)),u5,u6,some (.d (.int b)),u8],[o6],cf,?_,.inl rfl,trivial,o6,_,_,_,_,_,_,_,hp6,rfl,rfl⟩
   walk_at "mx"
   erw [e1]
   erw [e2]
   erw [iS ⟨by decide,by decide,by decide⟩]
   erw [show br [.d (ay wss)] [o2]=.ok (.d (.int (wss.length:Int))) [o2] by unfold ay;rw [my,List.length_map]]
   erw [e3]
   erw [hod,e4]
   erw [show br [.d (ay wss)] [o4]=.ok (.d (.int (wss.length:Int))) [o4] by unfold ay;rw [my,List.length_map]]
   erw [e5]
   rw [e6])
 erw [e]
 have hs:=kT (S:=[o']) (Ans.ok (wss:=[[0,1],[1]]) (i:=0) (ws:=[0,1]) (w:=1) ⟨by decide,by decide,fun ws h=>by
  simp only [List.mem_cons,List.not_mem_nil,or_false] at h
  rcases h with rfl | rfl
  ·exact ⟨by simp,by simp,by decide,by decide⟩
  ·exact ⟨by simp,by simp,by decide,by decide⟩⟩ (by kernel_rfl) rfl (by simp))
 simp only [mE,oH]
 walk_at "mx"
 erw [oH,show cM [.d (.tup [.tup [.int 0,.int 1],.tup [.int 1]]),.d (.int 0),.d (.int 1)] [o']=.ok (.d (.tup [.tup [.int 1],.tup [.int 1]])) [o'] from hs]
 erw [AB (by decide)]
 rfl
def top (i:Nat):Stmt:=PySem.Challenge.pw_wishstrike_k06_names_settled.main.body.getD i (.Pass ⟨0,0,0,0⟩)
structure Txt (K:PySem.W.Frag) (mg:Str→Option Value):Prop where
 is_whole:Df K mg "is_whole" (top 12)
 is_within:Df K mg "is_within" (top 13)
 is_number_of:Df K mg "is_number_of" (top 14)
 are_within:Df K mg "are_within" (top 15)
 are_rising:Df K mg "are_rising" (top 16)
 are_worths:Df K mg "are_worths" (top 18)
 is_stand:Df K mg "is_stand" (top 19)
 has_worth:Df K mg "has_worth" (top 20)
 need_stand:Df K mg "need_stand" (top 21)
 need_name:Df K mg "need_name" (top 22)
 need_worth:Df K mg "need_worth" (top 23)
 settled:Df K mg "settled" (top 24)
 l_spread:Df K mg "_law_spread" (top 26)
 l_open:Df K mg "_law_open" (top 27)
 l_anew:Df K mg "_law_anew" (top 28)
 l_take:Df K mg "_law_take" (top 29)
 l_is_whole:Df K mg "_law_is_whole" (top 30)
 l_same:Df K mg "_law_same" (top 31)
 l_worths:Df K mg "_law_worths" (top 32)
 l_stand:Df K mg "_law_stand" (top 33)
 l_near_worth:Df K mg "_law_near_worth" (top 34)
 l_refusal:Df K mg "_law_refusal" (top 35)
 l_is_stand:Df K mg "_law_is_stand" (top 36)
 l_bent:Df K mg "_law_bent" (top 37)
 l_told:Df K mg "_law_told" (top 38)
 l_due:Df K mg "_law_due" (top 39)
 law:Df K mg "law" (top 40)
 z_ValueError:mg "ValueError"=none
 z_all:mg "all"=none
 z_bool:mg "bool"=none
 z_enumerate:mg "enumerate"=none
 z_int:mg "int"=none
 z_isinstance:mg "isinstance"=none
 z_len:mg "len"=none
 z_list:mg "list"=none
 z_max:mg "max"=none
 z_min:mg "min"=none
 z_range:mg "range"=none
 z_set:mg "set"=none
 z_sorted:mg "sorted"=none
 z_str:mg "str"=none
 z_tuple:mg "tuple"=none
 z_zip:mg "zip"=none
 cf_Free:∃ C,Cf K mg "Free" C
 cf_NoLine:∃ C,Cf K mg "NoLine" C
 cf_NoName:∃ C,Cf K mg "NoName" C
 cf_NoStand:∃ C,Cf K mg "NoStand" C
 cf_NoText:∃ C,Cf K mg "NoText" C
 cf_NoWish:∃ C,Cf K mg "NoWish" C
 cf_NoWorth:∃ C,Cf K mg "NoWorth" C
 cf_Settled:∃ C,Cf K mg "Settled" C
 cf_TooMany:∃ C,Cf K mg "TooMany" C
 cf_WishError:∃ C,Cf K mg "WishError" C
 ec_NoStand:Ec K mg "NoStand"
 s_NoStand_Free:Isb K mg "NoStand" "Free" false
 s_NoStand_NoLine:Isb K mg "NoStand" "NoLine" false
 s_NoStand_NoName:Isb K mg "NoStand" "NoName" false
 s_NoStand_NoStand:Isb K mg "NoStand" "NoStand" true
 s_NoStand_NoText:Isb K mg "NoStand" "NoText" false
 s_NoStand_NoWish:Isb K mg "NoStand" "NoWish" false
 s_NoStand_NoWorth:Isb K mg "NoStand" "NoWorth" false
 s_NoStand_Settled:Isb K mg "NoStand" "Settled" false
 s_NoStand_TooMany:Isb K mg "NoStand" "TooMany" false
 s_NoStand_WishError:Isb K mg "NoStand" "WishError" true
 ec_NoName:Ec K mg "NoName"
 s_NoName_Free:Isb K mg "NoName" "Free" false
 s_NoName_NoLine:Isb K mg "NoName" "NoLine" false
 s_NoName_NoName:Isb K mg "NoName" "NoName" true
 s_NoName_NoStand:Isb K mg "NoName" "NoStand" false
 s_NoName_NoText:Isb K mg "NoName" "NoText" false
 s_NoName_NoWish:Isb K mg "NoName" "NoWish" false
 s_NoName_NoWorth:Isb K mg "NoName" "NoWorth" false
 s_NoName_Settled:Isb K mg "NoName" "Settled" false
 s_NoName_TooMany:Isb K mg "NoName" "TooMany" false
 s_NoName_WishError:Isb K mg "NoName" "WishError" true
 ec_NoWorth:Ec K mg "NoWorth"
 s_NoWorth_Free:Isb K mg "NoWorth" "Free" false
 s_NoWorth_NoLine:Isb K mg "NoWorth" "NoLine" false
 s_NoWorth_NoName:Isb K mg "NoWorth" "NoName" false
 s_NoWorth_NoStand:Isb K mg "NoWorth" "NoStand" false
 s_NoWorth_NoText:Isb K mg "NoWorth" "NoText" false
 s_NoWorth_NoWish:Isb K mg "NoWorth" "NoWish" false
 s_NoWorth_NoWorth:Isb K mg "NoWorth" "NoWorth" true
 s_NoWorth_Settled:Isb K mg "NoWorth" "Settled" false
 s_NoWorth_TooMany:Isb K mg "NoWorth" "TooMany" false
 s_NoWorth_WishError:Isb K mg "NoWorth" "WishError" true
theorem lB:bootBuiltins "ValueError"=some (.type "ValueError"):=by decide +kernel
theorem l7:bootBuiltins "all"=some (.builtin "all"):=by decide +kernel
theorem eZ:bootBuiltins "bool"=some (.type "bool"):=by decide +kernel
theorem jV:bootBuiltins "int"=some (.type "int"):=by decide +kernel
theorem bq:bootBuiltins "len"=some (.builtin "len"):=by decide +kernel
theorem ef:bootBuiltins "list"=some (.type "list"):=by decide +kernel
theorem zD:bootBuiltins "max"=some (.builtin "max"):=by decide +kernel
theorem yO:bootBuiltins "min"=some (.builtin "min"):=by decide +kernel
theorem wj:bootBuiltins "set"=some (.type "set"):=by decide +kernel
theorem kP:bootBuiltins "sorted"=some (.builtin "sorted"):=by decide +kernel
theorem pS:bootBuiltins "str"=some (.type "str"):=by decide +kernel
theorem b9:bootBuiltins "tuple"=some (.type "tuple"):=by decide +kernel
section
variable {K:PySem.W.Frag} {mg:Str→Option Value}
theorem tU (T:Txt K mg):∀ c∈csX,∃ D,mg "Free"=some (.ref D)∧Isa K mg c (.ref D) (c == "Free"):=by
 intro c hc
 simp only [csX,List.mem_cons,List.not_mem_nil,or_false] at hc
 rcases hc with rfl | rfl | rfl
 · exact (show (("NoStand":Str) == ("Free":Str))=false by decide +kernel) ▸ (ia T.cf_NoStand T.cf_Free T.s_NoStand_Free)
 · exact (show (("NoName":Str) == ("Free":Str))=false by decide +kernel) ▸ (ia T.cf_NoName T.cf_Free T.s_NoName_Free)
 · exact (show (("NoWorth":Str) == ("Free":Str))=false by decide +kernel) ▸ (ia T.cf_NoWorth T.cf_Free T.s_NoWorth_Free)
theorem oK (T:Txt K mg):∀ c∈csX,∃ D,mg "NoLine"=some (.ref D)∧Isa K mg c (.ref D) (c == "NoLine"):=by
 intro c hc
 simp only [csX,List.mem_cons,List.not_mem_nil,or_false] at hc
 rcases hc with rfl | rfl | rfl
 · exact (show (("NoStand":Str) == ("NoLine":Str))=false by decide +kernel) ▸ (ia T.cf_NoStand T.cf_NoLine T.s_NoStand_NoLine)
 · exact (show (("NoName":Str) == ("NoLine":Str))=false by decide +kernel) ▸ (ia T.cf_NoName T.cf_NoLine T.s_NoName_NoLine)
 · exact (show (("NoWorth":Str) == ("NoLine":Str))=false by decide +kernel) ▸ (ia T.cf_NoWorth T.cf_NoLine T.s_NoWorth_NoLine)
theorem pz (T:Txt K mg):∀ c∈csX,∃ D,mg "NoName"=some (.ref D)∧Isa K mg c (.ref D) (c == "NoName"):=by
 intro c hc
 simp only [csX,List.mem_cons,List.not_mem_nil,or_false] at hc
 rcases hc with rfl | rfl | rfl
 · exact (show (("NoStand":Str) == ("NoName":Str))=false by decide +kernel) ▸ (ia T.cf_NoStand T.cf_NoName T.s_NoStand_NoName)
 · exact (show (("NoName":Str) == ("NoName":Str))=true by decide +kernel) ▸ (ia T.cf_NoName T.cf_NoName T.s_NoName_NoName)
 · exact (show (("NoWorth":Str) == ("NoName":Str))=false by decide +kernel) ▸ (ia T.cf_NoWorth T.cf_NoName T.s_NoWorth_NoName)
theorem nj (T:Txt K mg):∀ c∈csX,∃ D,mg "NoStand"=some (.ref D)∧Isa K mg c (.ref D) (c == "NoStand"):=by
 intro c hc
 simp only [csX,List.mem_cons,List.not_mem_nil,or_false] at hc
 rcases hc with rfl | rfl | rfl
 · exact (show (("NoStand":Str) == ("NoStand":Str))=true by decide +kernel) ▸ (ia T.cf_NoStand T.cf_NoStand T.s_NoStand_NoStand)
 · exact (show (("NoName":Str) == ("NoStand":Str))=false by decide +kernel) ▸ (ia T.cf_NoName T.cf_NoStand T.s_NoName_NoStand)
 · exact (show (("NoWorth":Str) == ("NoStand":Str))=false by decide +kernel) ▸ (ia T.cf_NoWorth T.cf_NoStand T.s_NoWorth_NoStand)
theorem oW (T:Txt K mg):∀ c∈csX,∃ D,mg "NoText"=some (.ref D)∧Isa K mg c (.ref D) (c == "NoText"):=by
 intro c hc
 simp only [csX,List.mem_cons,List.not_mem_nil,or_false] at hc
 rcases hc with rfl | rfl | rfl
 · exact (show (("NoStand":Str) == ("NoText":Str))=false by decide +kernel) ▸ (ia T.cf_NoStand T.cf_NoText T.s_NoStand_NoText)
 · exact (show (("NoName":Str) == ("NoText":Str))=false by decide +kernel) ▸ (ia T.cf_NoName T.cf_NoText T.s_NoName_NoText)
 · exact (show (("NoWorth":Str) == ("NoText":Str))=false by decide +kernel) ▸ (ia T.cf_NoWorth T.cf_NoText T.s_NoWorth_NoText)
theorem pw (T:Txt K mg):∀ c∈csX,∃ D,mg "NoWish"=some (.ref D)∧Isa K mg c (.ref D) (c == "NoWish"):=by
 intro c hc
 simp only [csX,List.mem_cons,List.not_mem_nil,or_false] at hc
 rcases hc with rfl | rfl | rfl
 · exact (show (("NoStand":Str) == ("NoWish":Str))=false by decide +kernel) ▸ (ia T.cf_NoStand T.cf_NoWish T.s_NoStand_NoWish)
 · exact (show (("NoName":Str) == ("NoWish":Str))=false by decide +kernel) ▸ (ia T.cf_NoName T.cf_NoWish T.s_NoName_NoWish)
 · exact (show (("NoWorth":Str) == ("NoWish":Str))=false by decide +kernel) ▸ (ia T.cf_NoWorth T.cf_NoWish T.s_NoWorth_NoWish)
theorem nu (T:Txt K mg):∀ c∈csX,∃ D,mg "NoWorth"=some (.ref D)∧Isa K mg c (.ref D) (c == "NoWorth"):=by
 intro c hc
 simp only [csX,List.mem_cons,List.not_mem_nil,or_false] at hc
 rcases hc with rfl | rfl | rfl
 · exact (show (("NoStand":Str) == ("NoWorth":Str))=false by decide +kernel) ▸ (ia T.cf_NoStand T.cf_NoWorth T.s_NoStand_NoWorth)
 · exact (show (("NoName":Str) == ("NoWorth":Str))=false by decide +kernel) ▸ (ia T.cf_NoName T.cf_NoWorth T.s_NoName_NoWorth)
 · exact (show (("NoWorth":Str) == ("NoWorth":Str))=true by decide +kernel) ▸ (ia T.cf_NoWorth T.cf_NoWorth T.s_NoWorth_NoWorth)
theorem nB (T:Txt K mg):∀ c∈csX,∃ D,mg "Settled"=some (.ref D)∧Isa K mg c (.ref D) (c == "Settled"):=by
 intro c hc
 simp only [csX,List.mem_cons,List.not_mem_nil,or_false] at hc
 rcases hc with rfl | rfl | rfl
 · exact (show (("NoStand":Str) == ("Settled":Str))=false by decide +kernel) ▸ (ia T.cf_NoStand T.cf_Settled T.s_NoStand_Settled)
 · exact (show (("NoName":Str) == ("Settled":Str))=false by decide +kernel) ▸ (ia T.cf_NoName T.cf_Settled T.s_NoName_Settled)
 · exact (show (("NoWorth":Str) == ("Settled":Str))=false by decide +kernel) ▸ (ia T.cf_NoWorth T.cf_Settled T.s_NoWorth_Settled)
theorem nk (T:Txt K mg):∀ c∈csX,∃ D,mg "TooMany"=some (.ref D)∧Isa K mg c (.ref D) (c == "TooMany"):=by
 intro c hc
 simp only [csX,List.mem_cons,List.not_mem_nil,or_false] at hc
 rcases hc with rfl | rfl | rfl
 · exact (show (("NoStand":Str) == ("TooMany":Str))=false by decide +kernel) ▸ (ia T.cf_NoStand T.cf_TooMany T.s_NoStand_TooMany)
 · exact (show (("NoName":Str) == ("TooMany":Str))=false by decide +kernel) ▸ (ia T.cf_NoName T.cf_TooMany T.s_NoName_TooMany)
 · exact (show (("NoWorth":Str) == ("TooMany":Str))=false by decide +kernel) ▸ (ia T.cf_NoWorth T.cf_TooMany T.s_NoWorth_TooMany)
theorem k_ (T:Txt K mg):∀ c∈csX,∃ D,mg "WishError"=some (.ref D)∧Isa K mg c (.ref D) true:=by
 intro c hc
 simp only [csX,List.mem_cons,List.not_mem_nil,or_false] at hc
 rcases hc with rfl | rfl | rfl
 · exact (ia T.cf_NoStand T.cf_WishError T.s_NoStand_WishError)
 · exact (ia T.cf_NoName T.cf_WishError T.s_NoName_WishError)
 · exact (ia T.cf_NoWorth T.cf_WishError T.s_NoWorth_WishError)
theorem hits (T:Txt K mg):∀ c∈csX,Hit K mg c:=by
 intro c hc
 simp only [csX,List.mem_cons,List.not_mem_nil,or_false] at hc
 rcases hc with rfl | rfl | rfl
 · exact mU T.cf_NoStand T.cf_WishError T.s_NoStand_WishError
 · exact mU T.cf_NoName T.cf_WishError T.s_NoName_WishError
 · exact mU T.cf_NoWorth T.cf_WishError T.s_NoWorth_WishError
theorem An (T:Txt K mg):∀ c∈csX,Isa K mg c (.type "ValueError") true:=by
 intro c hc
 simp only [csX,List.mem_cons,List.not_mem_nil,or_false] at hc
 rcases hc with rfl | rfl | rfl
 · exact iv T.cf_NoStand
 · exact iv T.cf_NoName
 · exact iv T.cf_NoWorth
end
section
variable {P:Program} {w:World} {K:PySem.W.Frag} {mg:Str→Option Value}
theorem q_ (T:Txt K mg):OkE P w K mg 1 "_law_open" ["script"] gR:=by
 refine bV ["script","cells","k","cell"] T.l_open fun _ _ _ _ _ _ _ _ hr q=>?_
 exact (ao (aZ q (cR eO oX T.z_list ef (ah (rC (rv 0) cF (cb aj)) ai)))
 (ao (dE (tR rfl T.z_enumerate (rC (rv 0) (cb aj) (cb aj))) (pV (gU (bw q) (gU (bw q) n3))) (au (ib (aw aF aE (bg (rv 1) (aw dc (bG _) (rv 2) aj)) (rv 3)) (iu (rv 1) (aw dc (bG _) (rv 2) aj) jL fY))))
 (au (aC (oh (ah (AX (rv 1)) (ah aj (ah aj ai))))))))
theorem nr (T:Txt K mg):OkE P w K mg 1 "_law_spread" ["cell","at"] dX:=by
 refine bV ["cell","at","one","two","three"] T.l_spread fun _ _ _ _ _ _ _ _ hr q=>?_
 exact (ao (bh (bc ue (bB _) (rv 0) (aw jO (bG _) aj aj)) (au (aC (rv 0))) ba)
 (ao (aZ q (aw dc (bG _) (aw aF aE (aw aF aE (aw dF (bG _) (aw dc (bG _) (rv 0) aj) aj) (aw dF (bG _) (rv 1) aj)) aj) aj))
 (ao (aZ q (aw dc (bG _) (aw aF aE (aw aF aE (aw dF (bG _) (rv 2) (rv 2)) (aw dF (bG _) (rv 1) aj)) (aw dc (bG _) (rv 0) aj)) aj))
 (ao (aZ q (aw dc (bG _) (aw aF aE (aw aF aE (aw dF (bG _) (rv 3) (rv 3)) (aw dF (bG _) (rv 2) aj)) aj) aj))
 (au (aC (aw aF aE (aw dF (bG _) (aw aF aE (aw dF (bG _) (rv 2) aj) (rv 3)) aj) (rv 4))))))))
theorem aU (T:Txt K mg):OkE P w K mg 2 "_law_take" ["pen","many"] aD:=by
 refine bV ["pen","many","at","cell","found"] T.l_take fun _ _ _ _ _ _ _ _ hr q=>?_
 exact (ao (bh (bc gm (bB _) (bg (rv 0) aj) (rv 1)) (ao (aZ q (bg (rv 0) aj))
 (ao (aZ q aj)
 (ao (bh (bc gm (bB _) (rv 2) (aK aO aY T.z_len bq (ah (bg (rv 0) aj) ai))) (au (aZ q (bg (bg (rv 0) aj) (rv 2)))) (au (bh (bc i0 (bB _) (aK aO aY T.z_len bq (ah (bg (rv 0) aj) ai)) aj) (au (aZ q (aw dc (bG _) (bg (bg (rv 0) aj) (aw dc (bG _) (aw aF aE (aw dF (bG _) (rv 2) aj) aj) (aK aO aY T.z_len bq (ah (bg (rv 0) aj) ai)))) (aw aF aE (aw jO (bG _) aj aj) (rv 2))))) ba)))
 (ao (ib (aw aF aE (rv 2) aj) (iu (rv 0) aj jL fY))
 (au (ib (av (nr T) hr (ah (rv 3) (ah (rv 2) ai))) (iu (rv 0) aj jL fY))))))) ba)
 (ao (aZ q (aw dc (bG _) (bg (rv 0) aj) (rv 1)))
 (ao (ib (aw vy (bG _) (bg (rv 0) aj) (rv 1)) (iu (rv 0) aj jL fY))
 (au (aC (rv 4))))))
theorem nz (T:Txt K mg):OkE P w K mg 3 "_law_worths" ["pen","most","near"] eS:=by
 refine bV ["pen","most","near","found","k","worth"] T.l_worths fun _ _ _ _ _ _ _ _ hr q=>?_
 have hu:=hr.units
 exact (ao (aZ q (oh ai))
 (ao (dE (eA rfl T.z_range (ah (aw aF aE aj (av (aU T) hr (ah (rv 0) (ah (rv 1) ai)))) ai)) (bw q) (ao (aZ q (aw aF aE (rv 2) (av (aU T) hr (ah (rv 0) (ah aj ai)))))
 (ao (bh (bc (eB hu) el (av (aU T) hr (ah (rv 0) (ah aj ai))) aj) (au (aZ q (aw c_ (da _) (av (aU T) hr (ah (rv 0) (ah aj ai))) aj))) ba)
 (au (bh (bc (kj hu) j_ (rv 5) (rv 3)) (au (iR (zl (rv 3) (rv 5)))) ba)))))
 (au (aC (cR fQ gK T.z_tuple b9 (ah (aK pE rG T.z_sorted kP (ah (rv 3) ai)) ai))))))
theorem oO (T:Txt K mg):OkE P w K mg 4 "_law_stand" ["pen","names","most"] fL:=by
 refine bV ["pen","names","most","near"] T.l_stand fun _ _ _ _ _ _ _ _ hr q=>?_
 refine' (ao (aZ q (aw c_ (da _) (av (aU T) hr (ah (rv 0) (ah aj ai))) aj))
 (au (aC (cR fQ gK T.z_tuple b9 (ah (gp fg ["name","pen","names","most","near"] q (eA rfl T.z_range (ah (aw aF aE aj (av (aU T) hr (ah (rv 0) (ah (rv 1) ai)))) ai)) ?g0 rt0 ?e0) ai)))))
 (case g0=>intro _ _ _ _ q;exact (bw q))
 (case e0=>intro _ _ _ _;exact (av (nz T) hr (ah (rv 1) (ah (rv 3) (ah (rv 4) ai)))))
theorem qV (T:Txt K mg):OkE P w K mg 1 "_law_anew" ["pen"] gI:=by
 refine bV ["pen"] T.l_anew fun _ _ _ _ _ _ _ _ hr q=>?_
 exact (ao (ib aj (iu (rv 0) aj jL fY))
 (au (aC (rv 0))))
theorem jQ (T:Txt K mg):OkE P w K mg 3 "_law_near_worth" ["pen","stand"] cX:=by
 refine bV ["pen","stand","worths","worth"] T.l_near_worth fun _ _ _ _ _ _ _ _ hr q=>?_
 have hu:=hr.units
 exact (ao (bh (bc (eB hu) el (av (aU T) hr (ah (rv 0) (ah aj ai))) aj) (au (aC (aw c_ (da _) (av (aU T) hr (ah (rv 0) (ah aj ai))) aj))) ba)
 (ao (aZ q (bg (rv 1) (av (aU T) hr (ah (rv 0) (ah (aK aO aY T.z_len bq (ah (rv 1) ai)) ai)))))
 (ao (aZ q (aw aF aE (bg (rv 2) (av (aU T) hr (ah (rv 0) (ah (aK aO aY T.z_len bq (ah (rv 2) ai)) ai)))) (bg (bT (ah aj (ah aj (ah aj (ah aj (ah (eQ dB cY aj) ai)))))) (av (aU T) hr (ah (rv 0) (ah aj ai))))))
 (au (aC (aK (qp rfl) su T.z_max zD (ah (eQ dB cY aj) (ah (aK (rn rfl) rO T.z_min yO (ah aj (ah (rv 3) ai))) ai))))))))
theorem jS (T:Txt K mg):∀ n:Nat,OkE P w K mg (0+n+1) "_law_same" ["found","due"] (bu n)
 | 0=>bV ["found","due"] T.l_same fun _ _ _ _ _ _ _ _ hr q=>lR
 | n+1=>by
  have ih:=jS T n
  have fM:=fun (_:Txt K mg)=>ih
  · refine bV ["found","due"] T.l_same fun _ _ _ _ _ _ _ _ hr q=>?_
    have hu:=hr.units
    refine' (ao (bh (bc mP m9 (rv 1) eG) (au (aC (dW mP m9 (rv 0) eG))) ba)
 (ao (bh (RW.rt (cK (bA (aR T.z_isinstance T.z_bool eZ (rv 1))) (dH (bA (aR T.z_isinstance T.z_bool eZ (rv 0)))))) (au (aC (cN (aR T.z_isinstance T.z_bool eZ (rv 1)) (cN (aR T.z_isinstance T.z_bool eZ (rv 0)) (dQ (dW (eB hu) el (rv 0) (rv 1))))))) ba)
 (ao (bh (bA (aR T.z_isinstance T.z_int jV (rv 1))) (au (aC (cN (aR T.z_isinstance T.z_int jV (rv 0)) (dQ (dW (eB hu) el (rv 0) (rv 1)))))) ba)
 (ao (bh (bA (aR T.z_isinstance T.z_str pS (rv 1))) (au (aC (cN (aR T.z_isinstance T.z_str pS (rv 0)) (dQ (dW (eB hu) el (rv 0) (rv 1)))))) ba)
 (ao (bh (RW.rt (cK (bc (fw hu) fe (aR T.z_isinstance T.z_tuple b9 (rv 1)) (aR T.z_isinstance T.z_tuple b9 (rv 0))) (dH (bc (fw hu) fe (aR T.z_isinstance T.z_list ef (rv 1)) (aR T.z_isinstance T.z_list ef (rv 0)))))) (au (aC cc)) ba)
 (ao (bh (bc (fw hu) fe (aK aO aY T.z_len bq (ah (rv 0) ai)) (aK aO aY T.z_len bq (ah (rv 1) ai))) (au (aC cc)) ba)
 (au (aC (dW (kj hu) j_ cc (gp fg ["one","other","found","due"] q (wg rfl T.z_zip (ah (rv 0) (ah (rv 1) ai))) ?g0 rt0 ?e0))))))))))
    (case g0=>intro _ _ _ _ q;exact (pV (gU (bw q) (gU (bw q) n3))))
    (case e0=>intro _ _ _ _;exact (av (fM T) hr (ah (rv 0) (ah (rv 1) ai)) (by omega)))
theorem fM (T:Txt K mg):OkE P w K mg 11 "_law_same" ["found","due"] (bu 10):=(jS T 10)
theorem jd (T:Txt K mg):OkE P w K mg 1 "is_whole" ["thing"] dG:=by
 refine bV ["thing"] T.is_whole fun _ _ _ _ _ _ _ _ hr q=>?_
 exact (au (aC (cN (aR T.z_isinstance T.z_int jV (rv 0)) (dQ (pT (aR T.z_isinstance T.z_bool eZ (rv 0)))))))
theorem iA (T:Txt K mg):OkE P w K mg 2 "is_within" ["thing","low","high"] df:=by
 refine bV ["thing","low","high"] T.is_within fun _ _ _ _ _ _ _ _ hr q=>?_
 exact (au (aC (cN (av (jd T) hr (ah (rv 0) ai)) (dQ (mi iW (bB _) iW (bB _) (rv 1) (rv 0) (rv 2))))))
theorem lj (T:Txt K mg):OkE P w K mg 3 "are_within" ["thing","low","high"] dP:=by
 refine bV ["thing","low","high"] T.are_within fun _ _ _ _ _ _ _ _ hr q=>?_
 refine' (au (aC (cN (aR T.z_isinstance T.z_tuple b9 (rv 0)) (dQ (aK (iL rfl) jk T.z_all l7 (ah (gp fg ["part","thing","low","high"] q (eD (rv 0)) ?g0 rt0 ?e0) ai))))))
 (case g0=>intro _ _ _ _ q;exact (bw q))
 (case e0=>intro _ _ _ _;exact (av (iA T) hr (ah (rv 0) (ah (rv 2) (ah (rv 3) ai)))))
theorem kY (T:Txt K mg):OkE P w K mg 1 "are_rising" ["things"] dM:=by
 refine bV ["things"] T.are_rising fun _ _ _ _ _ _ _ _ hr q=>?_
 refine' (au (aC (aK (iL rfl) jk T.z_all l7 (ah (gp fg ["at","things"] q (qZ rfl T.z_range (ah aj (ah (aK aO aY T.z_len bq (ah (rv 0) ai)) ai))) ?g0 rt0 ?e0) ai))))
 (case g0=>intro _ _ _ _ q;exact (bw q))
 (case e0=>intro _ _ _ _;exact (dW gm (bB _) (bg (rv 1) (aw c_ (da _) (rv 0) aj)) (bg (rv 1) (rv 0))))
theorem lh (T:Txt K mg):OkE P w K mg 4 "are_worths" ["thing"] dJ:=by
 refine bV ["thing"] T.are_worths fun _ _ _ _ _ _ _ _ hr q=>?_
 exact (au (aC (cN (av (lj T) hr (ah (rv 0) (ah (eQ dB cY aj) (ah aj ai)))) (cN (mi iW (bB _) iW (bB _) aj (aK aO aY T.z_len bq (ah (rv 0) ai)) aj) (dQ (av (kY T) hr (ah (rv 0) ai)))))))
theorem ny (T:Txt K mg):OkE P w K mg 5 "is_stand" ["thing"] eT:=by
 refine bV ["thing"] T.is_stand fun _ _ _ _ _ _ _ _ hr q=>?_
 refine' (ao (bh (RW.rt (cK (bZ (bA (aR T.z_isinstance T.z_tuple b9 (rv 0)))) (dH (bZ (sM iW (bB _) iW (bB _) aj (aK aO aY T.z_len bq (ah (rv 0) ai)) aj))))) (au (aC cc)) ba)
 (au (aC (aK (iL rfl) jk T.z_all l7 (ah (gp fg ["part","thing"] q (eD (rv 0)) ?g0 rt0 ?e0) ai)))))
 (case g0=>intro _ _ _ _ q;exact (bw q))
 (case e0=>intro _ _ _ _;exact (av (lh T) hr (ah (rv 0) ai)))
theorem ll (T:Txt K mg):OkX P w K mg 6 "need_stand" ["stand"] dZ:=by
 refine pb ["stand"] T.need_stand fun _ _ _ _ _ _ _ _ hr q hx hmk=>?_
 exact (au (bh (bZ (bA (av (ny T) hr (ah (rv 0) ai)))) (au (jq T.ec_NoStand hmk (ah bp ai))) ba))
theorem jI (T:Txt K mg):OkE P w K mg 3 "is_number_of" ["thing","things"] cT:=by
 refine bV ["thing","things"] T.is_number_of fun _ _ _ _ _ _ _ _ hr q=>?_
 exact (au (aC (av (iA T) hr (ah (rv 0) (ah aj (ah (aw c_ (da _) (aK aO aY T.z_len bq (ah (rv 1) ai)) aj) ai))))))
theorem mT (T:Txt K mg):OkX P w K mg 4 "need_name" ["stand","name"] eg:=by
 refine pb ["stand","name"] T.need_name fun _ _ _ _ _ _ _ _ hr q hx hmk=>?_
 exact (au (bh (bZ (bA (av (jI T) hr (ah (rv 1) (ah (rv 0) ai))))) (au (jq T.ec_NoName hmk (ah bp ai))) ba))
theorem mQ (T:Txt K mg):OkE P w K mg 2 "has_worth" ["worths","thing"] eh:=by
 refine bV ["worths","thing"] T.has_worth fun _ _ _ _ _ _ _ _ hr q=>?_
 have hu:=hr.units
 exact (au (aC (cN (av (jd T) hr (ah (rv 1) ai)) (dQ (dW (wD hu) wK (rv 1) (rv 0))))))
theorem k9 (T:Txt K mg):OkX P w K mg 5 "need_worth" ["stand","name","worth"] cn:=by
 refine pb ["stand","name","worth"] T.need_worth fun _ _ _ _ _ _ _ _ hr q hx hmk=>?_
 exact (ao (iR (fD (mT T) hx hr (ah (rv 0) (ah (rv 1) ai))))
 (au (bh (bZ (bA (av (mQ T) hr (ah (bg (rv 0) (rv 1)) (ah (rv 2) ai))))) (au (jq T.ec_NoWorth hmk (ah bp ai))) ba)))
theorem jD (T:Txt K mg):OkX P w K mg 7 "settled" ["stand","name","worth"] cM:=by
 refine pb ["stand","name","worth"] T.settled fun _ _ _ _ _ _ _ _ hr q hx hmk=>?_
 exact (ao (iR (fD (ll T) hx hr (ah (rv 0) ai)))
 (ao (iR (fD (k9 T) hx hr (ah (rv 0) (ah (rv 1) (ah (rv 2) ai)))))
 (au (aC (aw aF aE (aw aF aE (dY (rv 0) cF (cb (rv 1))) (bz (ah (bz (ah (rv 2) ai)) ai))) (dY (rv 0) (cb (aw aF aE (rv 1) aj)) cF))))))
theorem ng (T:Txt K mg):OkE P w K mg 1 "_law_refusal" ["caught"] bP:=by
 refine bV ["caught","some"] T.l_refusal fun _ _ _ _ _ _ _ _ hr q=>?_
 have hu:=hr.units
 exact (ao (aZ q (bT (ah (cE (tU T) T.cf_Free T.z_isinstance (rv 0)) (ah (cE (oK T) T.cf_NoLine T.z_isinstance (rv 0)) (ah (cE (pz T) T.cf_NoName T.z_isinstance (rv 0)) ai)))))
 (ao (aZ q (aw aF aE (rv 1) (bT (ah (cE (nj T) T.cf_NoStand T.z_isinstance (rv 0)) (ah (cE (oW T) T.cf_NoText T.z_isinstance (rv 0)) (ah (cE (pw T) T.cf_NoWish T.z_isinstance (rv 0)) ai))))))
 (ao (aZ q (aw aF aE (rv 1) (bT (ah (cE (nu T) T.cf_NoWorth T.z_isinstance (rv 0)) (ah (cE (nB T) T.cf_Settled T.z_isinstance (rv 0)) (ah (cE (nk T) T.cf_TooMany T.z_isinstance (rv 0)) ai))))))
 (ao (bh (RW.rt (cK (bc (fw hu) fe (uB PySem.F.slot_list_count PySem.F.type_list_count qH qJ (rv 1) cc) aj) (cK (bZ (bA (cE (k_ T) T.cf_WishError T.z_isinstance (rv 0)))) (dH (bZ (bA (nN (nK (v:=.ty "ValueError") rfl T.z_ValueError lB rfl) (fun u r=>r) (An T) T.z_isinstance (rv 0)))))))) (au (aC bp)) ba)
 (au (aC (bg (bT (ah bp (ah bp (ah bp (ah bp (ah bp (ah bp (ah bp (ah bp (ah bp ai)))))))))) (uB PySem.F.slot_list_index PySem.F.type_list_index qf p6 (rv 1) cc))))))))
theorem kR (T:Txt K mg):OkE P w K mg 8 "_law_told" ["stand","name","worth"] cz:=by
 refine bV ["stand","name","worth","caught","found","e"] T.l_told fun _ _ _ _ _ _ _ _ hr q=>?_
 exact (ao (aZ q eG)
 (ao (aZ q eG)
 (ao (yz 5 3 q (hits T) fun _ _ _ hx=>(au (aZ q (fD (jD T) hx hr (ah (rv 0) (ah (rv 1) (ah (rv 2) ai)))))))
 (au (aC (qw (bc mP m9 (rv 3) eG) (rv 4) (av (ng T) hr (ah (rv 3) ai))))))))
theorem dn (T:Txt K mg):OkE P w K mg 1 "_law_is_whole" ["thing"] bJ:=by
 refine bV ["thing"] T.l_is_whole fun _ _ _ _ _ _ _ _ hr q=>?_
 exact (au (aC (cN (aR T.z_isinstance T.z_int jV (rv 0)) (dQ (pT (aR T.z_isinstance T.z_bool eZ (rv 0)))))))
theorem lg (T:Txt K mg):OkE P w K mg 2 "_law_is_stand" ["thing"] dN:=by
 refine bV ["thing","worths"] T.l_is_stand fun _ _ _ _ _ _ _ _ hr q=>?_
 have hu:=hr.units
 refine' (ao (bh (RW.rt (cK (bZ (bA (aR T.z_isinstance T.z_tuple b9 (rv 0)))) (cK (bc gm (bB _) (aK aO aY T.z_len bq (ah (rv 0) ai)) aj) (dH (bc i0 (bB _) (aK aO aY T.z_len bq (ah (rv 0) ai)) aj))))) (au (aC cc)) ba)
 (ao (dE (eD (rv 0)) (bw q) (ao (bh (RW.rt (cK (bZ (bA (aR T.z_isinstance T.z_tuple b9 (rv 1)))) (cK (bc gm (bB _) (aK aO aY T.z_len bq (ah (rv 1) ai)) aj) (dH (bc i0 (bB _) (aK aO aY T.z_len bq (ah (rv 1) ai)) aj))))) (au (aC cc)) ba)
 (ao (bh (bc (fw hu) fe (gp fg ["worth","thing","worths"] q (eD (rv 1)) ?g0 ?t0 ?e0) (bT ai)) (au (aC cc)) ba)
 (au (bh (bc (fw hu) fe (cR eO ij T.z_list ef (ah (rv 1) ai)) (Bc rfl rfl T.z_sorted rfl T.z_set kP wj (rv 1))) (au (aC cc)) ba)))))
 (au (aC cc))))
 (case g0=>intro _ _ _ _ q;exact (bw q))
 (case t0=>intro _ _ _ _;exact (vv (RW.rt (cK (bZ (bA (av (dn T) hr (ah (rv 0) ai)))) (cK (bc gm (bB _) (rv 0) (eQ dB cY aj)) (dH (bc i0 (bB _) (rv 0) aj)))))))
 (case e0=>intro _ _ _ _;exact aj)
theorem mB (T:Txt K mg):OkE P w K mg 3 "_law_due" ["stand","name","worth"] d7:=by
 refine bV ["stand","name","worth"] T.l_due fun _ _ _ _ _ _ _ _ hr q=>?_
 have hu:=hr.units
 refine' (ao (bh (bZ (bA (av (lg T) hr (ah (rv 0) ai)))) (au (aC bp)) ba)
 (ao (bh (RW.rt (cK (bZ (bA (av (dn T) hr (ah (rv 1) ai)))) (cK (bc gm (bB _) (rv 1) aj) (dH (bc ue (bB _) (rv 1) (aK aO aY T.z_len bq (ah (rv 0) ai))))))) (au (aC bp)) ba)
 (ao (bh (RW.rt (cK (bZ (bA (av (dn T) hr (ah (rv 2) ai)))) (dH (bc (kj hu) j_ (rv 2) (bg (rv 0) (rv 1)))))) (au (aC bp)) ba)
 (au (aC (cR fQ gK T.z_tuple b9 (ah (gp fg ["at","stand","name","worth"] q (eA rfl T.z_range (ah (aK aO aY T.z_len bq (ah (rv 0) ai)) ai)) ?g0 rt0 ?e0) ai)))))))
 (case g0=>intro _ _ _ _ q;exact (bw q))
 (case e0=>intro _ _ _ _;exact (qw (bc (eB hu) el (rv 0) (rv 2)) (bz (ah (rv 3) ai)) (bg (rv 1) (rv 0))))
theorem jM (T:Txt K mg):∀ n:Nat,OkE P w K mg (2+n+1) "_law_bent" ["pen","thing","deep"] (du n)
 | 0=>bV ["pen","thing","deep","at","number","odd","some"] T.l_bent fun _ _ _ _ _ _ _ _ hr q=>lR
 | n+1=>by
  have ih:=jM T n
  have iK:=fun (_:Txt K mg)=>ih
  · refine bV ["pen","thing","deep","at","number","odd","some"] T.l_bent fun _ _ _ _ _ _ _ _ hr q=>?_
    have hu:=hr.units
    exact (ao (bh (RW.rt (mw (bA (aR T.z_isinstance T.z_tuple b9 (rv 1))) (mw (bc (fw hu) fe (rv 1) (bz ai)) (mw (bc i0 (bB _) (rv 2) aj) (vn (bc i0 (bB _) (av (aU T) hr (ah (rv 0) (ah aj ai)) (by omega)) aj)))))) (ao (aZ q (av (aU T) hr (ah (rv 0) (ah (aK aO aY T.z_len bq (ah (rv 1) ai)) ai)) (by omega)))
 (au (aC (aw aF aE (aw aF aE (dY (rv 1) cF (cb (rv 3))) (bz (ah (av (iK T) hr (ah (rv 0) (ah (bg (rv 1) (rv 3)) (ah (aw c_ (da _) (rv 2) aj) ai))) (by omega)) ai))) (dY (rv 1) (cb (aw aF aE (rv 3) aj)) cF))))) ba)
 (ao (aZ q (aw c_ (da _) (av (aU T) hr (ah (rv 0) (ah aj ai)) (by omega)) aj))
 (ao (aZ q (bT (ah eG (ah cc (ah cc (ah bp (ah bp (ah bp (ah bp (ah bp (ah bp (ah bp (ah (bz ai) (ah (bT ai) (ah (aw jO (bG _) aj aj) (ah aj (ah (eQ dB cY aj) (ah (bz (ah aj ai)) (ah (bT (ah aj ai)) ai)))))))))))))))))))
 (ao (bh (bA (aR T.z_isinstance T.z_tuple b9 (rv 1))) (ao (aZ q (bT (ah (cR eO ij T.z_list ef (ah (rv 1) ai)) (ah (aw aF aE (rv 1) (dY (rv 1) cF (cb aj))) (ah (dY (rv 1) cF (cb (eQ dB cY aj))) (ah (rL (rv 1) (eQ dB cY aj)) (ah (aw aF aE (rv 1) (bz (ah (rv 4) ai))) (ah (dY (rv 1) (cb aj) cF) (ah (bz (ah (rv 1) ai)) ai)))))))))
 (au (aC (bg (aw aF aE (rv 6) (bT (ah (bg (rv 5) (av (aU T) hr (ah (rv 0) (ah aj ai)) (by omega))) ai))) (av (aU T) hr (ah (rv 0) (ah aj ai)) (by omega)))))) ba)
 (ao (bh (bA (av (dn T) hr (ah (rv 1) ai) (by omega))) (ao (aZ q (bT (ah (aw aF aE (rv 1) aj) (ah (aw c_ (da _) (rv 1) aj) (ah (aw c_ (da _) aj (rv 1)) (ah (rv 4) (ah (rv 4) (ah (dW (eB hu) el (rv 1) aj) (ah (aw c_ (da _) aj (rv 1)) ai)))))))))
 (au (aC (bg (aw aF aE (rv 6) (bT (ah (bg (rv 5) (av (aU T) hr (ah (rv 0) (ah aj ai)) (by omega))) ai))) (av (aU T) hr (ah (rv 0) (ah aj ai)) (by omega)))))) ba)
 (au (aC (bg (rv 5) (av (aU T) hr (ah (rv 0) (ah aj ai)) (by omega))))))))))
theorem iK (T:Txt K mg):OkE P w K mg 13 "_law_bent" ["pen","thing","deep"] (du 10):=(jM T 10)
theorem w6 (T:Txt K mg):OkE P w K mg 14 "law" ["script"] oV:=by
 refine bV ["script","pen","turn","stand","odd","name","worth","at","thing"] T.law fun _ _ _ _ _ _ _ _ hr q=>?_
 have hu:=hr.units
 exact (ao (aZ q (av (q_ T) hr (ah (rv 0) ai)))
 (ao (dE (eA rfl T.z_range (ah aj ai)) (bw q) (ao (aZ q (av (oO T) hr (ah (av (qV T) hr (ah (rv 1) ai)) (ah aj (ah aj ai)))))
 (ao (aZ q (bT (ah eG (ah cc (ah cc (ah bp (ah (bz (ah aj ai)) (ah (eQ dB cY aj) (ah (aw jO (bG _) aj aj) (ah (aK aO aY T.z_len bq (ah (rv 3) ai)) (ah (av (jQ T) hr (ah (rv 1) (ah (rv 3) ai))) (ah aj (ah (bT (ah aj ai)) (ah (bz (ah aj (ah (bT (ah aj ai)) ai))) ai))))))))))))))
 (ao (dE (eD (aw aF aE (lK rfl rfl T.z_list rfl T.z_range ef (ah (aK aO aY T.z_len bq (ah (rv 3) ai)) ai)) (rv 4))) (bw q) (au (dE (eD (aw aF aE (cR eO ij T.z_list ef (ah (bg (rv 3) (av (aU T) hr (ah (rv 1) (ah (aK aO aY T.z_len bq (ah (rv 3) ai)) ai)))) ai)) (rv 4))) (bw q) (au (bh (bZ (bA (av (fM T) hr (ah (av (kR T) hr (ah (rv 3) (ah (rv 5) (ah (rv 6) ai)))) (ah (av (mB T) hr (ah (rv 3) (ah (rv 5) (ah (rv 6) ai)))) ai))))) (au (aC cc)) ba)))))
 (ao (aZ q (av (aU T) hr (ah (rv 1) (ah (aK aO aY T.z_len bq (ah (rv 3) ai)) ai))))
 (au (dE (eD (bT (ah (av (iK T) hr (ah (rv 1) (ah (rv 3) (ah aj ai)))) (ah (aw aF aE (aw aF aE (dY (rv 3) cF (cb (rv 7))) (bz (ah (rL (bg (rv 3) (rv 7)) (eQ dB cY aj)) ai))) (dY (rv 3) (cb (aw aF aE (rv 7) aj)) cF)) (ah (aw aF aE (rv 3) (bz (ah (bz ai) ai))) ai))))) (bw q) (au (dE (eA rfl T.z_range (ah (aK aO aY T.z_len bq (ah (rv 3) ai)) ai)) (bw q) (au (dE (eD (aw aF aE (bg (rv 3) (rv 5)) (bz (ah eG ai)))) (bw q) (au (bh (bZ (bA (av (fM T) hr (ah (av (kR T) hr (ah (rv 8) (ah (rv 5) (ah (rv 6) ai)))) (ah (av (mB T) hr (ah (rv 8) (ah (rv 5) (ah (rv 6) ai)))) ai))))) (au (aC cc)) ba)))))))))))))
 (au (aC (dW (eB hu) el (fD (jD T) B3 hr (ah (bz (ah (bz (ah aj (ah aj ai))) (ah (bz (ah aj ai)) ai))) (ah aj (ah aj ai)))) (bz (ah (bz (ah aj ai)) (ah (bz (ah aj ai)) ai))))))))
end
end My
namespace PySem.W.Fast
def tw4583282450944924752:=()
def tw3605677272836868446:=()
def tw5936132329277201459:=()
def tw1373745213593455779:=()
def tw6386384637076099131:=()
def tw2332035569535917305:=()
def tw17937723260926516270:=()
def tw14325005261501094504:=()
def tw2667823682701686046:=()
def tw6176946149731859458:=()
def tw12392335915000292648:=()
def tw6956589465885367791:=()
def tw9647642165016646518:=()
def tw3165466272272883635:=()
def tw1843615850721853306:=()
def tw6720423736897392173:=()
def tw4942777461430827896:=()
def tw12943940157388958378:=()
def tw18429457540717485166:=()
def tw15257741939685209071:=()
def tw8069281936799172857:=()
def tw4073519546429672563:=()
def tw382445334371259909:=()
def tw15791967983051686569:=()
def tw10189692517630223418:=()
def tw16450394913757409751:=()
def tw2092459118262882515:=()
def tw13614447792541239971:=()
def tw383428733373666657:=()
def tw11987110466877750176:=()
def tw12914696170199468100:=()
def tw15201541613451258756:=()
def tw14201374918414109677:=()
def tw12875253659332912096:=()
def tw10691040954419408601:=()
def tw4165316192956573662:=()
def tw5175433632640082714:=()
def tw12316690775179467121:=()
def tw1448663738855310583:=()
def tw11924564392868167621:=()
def tw10763111643775694767:=()
def tw13974017759733791714:=()
def tw15739112301451442669:=()
def tw9429689046755227122:=()
def tw554857660242799872:=()
def tw5867751597491253094:=()
def tw1930814466187710520:=()
def tw157917039337751135:=()
def tw769520394902555469:=()
def tw13236527688557032302:=()
def tw10764907170434255888:=()
def tw15561540883110181777:=()
def tw18176856859689780211:=()
def tw9299936605921549882:=()
def tw14372297944112350049:=()
def tw101668895893778912:=()
def tw9716273153550127432:=()
def tw6657699563698699497:=()
def tw15434301071073456332:=()
def tw4401180877067607626:=()
def tw6242651914608366821:=()
def tw17442858848357316520:=()
def tw14192964473506206706:=()
def tw8674909599287891205:=()
def tw15520682646271753617:=()
def tw7732525079343063493:=()
def tw9647121506627663438:=()
def tw4350178683566694362:=()
def tw7092293381975616990:=()
def tw3953731403277331138:=()
def tw4490487887980894526:=()
def tw2062910171657022954:=()
def tw11399016330090377823:=()
def tw429804903847967477:=()
def tw8834149719298025751:=()
def tw16678187684499647473:=()
def tw5075082892917195586:=()
def tw4486266121472116804:=()
def tw12067323571751921919:=()
def tw10368839337948809130:=()
def tw511436944825183296:=()
def tw9696457013868828701:=()
def tw10156884847279616955:=()
def tw4464869614037514488:=()
def tw7382837657087199640:=()
def tw2077295688948958473:=()
def tw14417845150469425747:=()
def tw15583430492613626326:=()
def tw10428374912440709083:=()
def tw18024221632054274186:=()
def tw10582900185246081555:=()
def tw2527106932645336136:=()
def tw5692761938233880021:=()
def tw421210735384239991:=()
def tw13926891208817907442:=()
def tw13610495514280569427:=()
def tw16323646735580507349:=()
def tw16863183443964061859:=()
def tw15887491498702894638:=()
def tw1873555142535964387:=()
def tw9810761026917641643:=()
def tw8146452280766622555:=()
def tw6409824772454094086:=()
def tw16111352367322254655:=()
def tw14836966252168527455:=()
def tw12479470720170091101:=()
def tw3981061314454877767:=()
def tw1053260976996187528:=()
def tw16451526399768198877:=()
def tw9840096492580121933:=()
def tw2648327751959520624:=()
def tw4460503819425338114:=()
def tw9041047057257852015:=()
def tw15738804663813224328:=()
def tw6465813351152418758:=()
def tw1118562126734719341:=()
def tw10823897030935526579:=()
def tw4155734262589209667:=()
def tw9871016361572650538:=()
def tw7076980877707142073:=()
def tw12753839834102182908:=()
def tw245244115420264681:=()
def tw201990590424124112:=()
def tw12114979597659386642:=()
def tw9148941834992087728:=()
def tw12314051548877989685:=()
def tw11191072236481858975:=()
def tw4591127194314469253:=()
def tw12627364454278248714:=()
def tw8330584508173864832:=()
def tw15322929444284599149:=()
def tw3006215348066398830:=()
def tw8620382693338500786:=()
def tw14365222053730548244:=()
def tw16591530269251782498:=()
def tw7486278237252035688:=()
def tw4212152167207924458:=()
def tw1882536039987452887:=()
def tw10449988749586530408:=()
def tw12656699147790014291:=()
def tw13559809210777672549:=()
def tw2214258519647173396:=()
def tw17264914507521202878:=()
def tw5278002020202428148:=()
def tw13580266958001121450:=()
def tw646015078506189869:=()
def tw1495772625019149546:=()
def tw14525650538218535792:=()
def tw15322029415480777586:=()
def tw15655649811329863651:=()
def tw15200985129015129510:=()
def tw5885865800917617337:=()
def tw13016627663449629346:=()
def tw2228653355032126094:=()
def tw7363954348841690949:=()
def tw7832546055113787418:=()
def tw9002817904632724254:=()
def tw17600522036597486116:=()
def tw8386442794689725510:=()
def tw2267697682265327091:=()
def tw12656204745620337919:=()
def tw13601506868538629537:=()
def tw10322034816767887777:=()
def tw6077147314486965227:=()
def tw13674399598545816347:=()
def tw11585870748711233290:=()
def tw8367770190947322150:=()
def tw17936153759543855391:=()
def tw17729222354475281681:=()
def tw13195891803263724284:=()
def tw528246383584821404:=()
def tw1206111973628803265:=()
def tw841394231195315777:=()
def tw7181638329563996513:=()
def tw14431999888128993097:=()
def tw11315484695963745274:=()
def tw213953710368682210:=()
def tw19551985381031342:=()
def tw15884863002320455499:=()
def tw13571457151919081893:=()
def tw5366518280350064942:=()
def tw12044171202006246913:=()
def tw854762305234837526:=()
def tw7319816466292668877:=()
def tw16485848457793227667:=()
def tw540139563698077100:=()
def tw8022440684394420064:=()
def tw5226086367235405922:=()
def tw17500440106773027894:=()
def tw17346141342884355980:=()
def tw15376676130439689275:=()
def tw15263397072716414015:=()
def tw14843903582246536747:=()
def tw13334434773899864732:=()
def tw12421021158304876226:=()
def tw11275339267582657221:=()
def tw3586127749452204442:=()
def tw9283556839059489568:=()
def tw16326587640775100655:=()
def tw15757408712493942686:=()
def tw9550030291954453985:=()
def tw14508260545928999227:=()
def tw5891509935562096478:=()
def tw12644067367854296276:=()
def tw8420111529949673335:=()
def tw8461205418241969239:=()
def tw6757239376482471741:=()
def tw1755441802259932320:=()
def tw16872663454261795042:=()
def tw10502308379300657085:=()
def tw16097725696912109134:=()
def tw5479237788397684968:=()
def tw8635056225451161669:=()
def tw7328711283000580146:=()
def tw6305559911611171592:=()
def tw6006143890102454514:=()
def tw3249922234778986771:=()
def tw18303760766221301443:=()
def tw16699888549443962361:=()
def tw16563956121221682446:=()
def tw14913912744647529676:=()
def tw13332127959600030436:=()
def tw7764649505316438591:=()
def tw7455923426372110281:=()
def tw6549922309010764179:=()
def tw4974760564434509454:=()
def tw15334491785028492032:=()
def tw14861211998343406276:=()
def tw14205310636405832805:=()
def tw13903282017845558255:=()
def tw11068758332657359846:=()
def tw10603053039047274126:=()
def tw8130010619624160614:=()
def tw6275169722682969883:=()
def tw4045932037848972428:=()
def tw17720372823090129663:=()
def tw17332420150982107461:=()
def tw16081229385949665686:=()
def tw13951620041984424618:=()
def tw13495761501096406462:=()
def tw1290320588768179335:=()
def tw12495461627205053947:=()
def tw7436571719021879129:=()
def tw6223029495023418656:=()
def tw4112018352000554097:=()
def tw2480290167652157510:=()
def tw14291589468657328097:=()
def tw14141645450228109242:=()
def tw13102180209684359932:=()
def tw11704459565657380814:=()
def tw10682343369183776085:=()
def tw10426591956194647179:=()
def tw9951988015383481439:=()
def tw9878739424942357873:=()
def tw9824092355636543949:=()
def tw95347015137676510:=()
def tw9447475192586436831:=()
def tw9361265431115730420:=()
def tw9280760722905386507:=()
def tw9109804249838791757:=()
end PySem.W.Fast
namespace My
open PySem L2
def oY (K:PySem.W.Frag):Sp:=fun vs H Q _=>∃ (l:Addr) (ns:List Int),vs=[.ref l]∧SqL K H l (ns.map V.int)∧ns.length≤63∧∀ H',Q (.bl true) H'
theorem all_mk {l:PySem.W.OpenLaw} {w:World} {K:PySem.W.Frag} {mg:Str→Option Value} {fa:Addr} (hfa:mg "law"=some (.ref fa)) (T:Txt K mg) :
  ∃ fd:FuncData,(∀ (s:Shared) (v:Value),BindsTo s fd ⟨[v],[]⟩ [("script",v)])∧∀ base:Heap,K.In base→base.Ns mainGlobals mg→dv l.prog w K mg base CX0 14 fa fd ["script"] (oY K):=by
 obtain ⟨f,fd,m,kp,b,F⟩:=w6 (P:=l.prog) (w:=w) T
 have e2:f=fa:=(Value.ref.inj (Option.some.inj (hfa.symm.trans m))).symm
 subst e2
 refine ⟨fd,fun s v=>.of_eq (b [v] rfl),fun base _ _=>(F base).imp fun vs H Q E h=>?_⟩
 obtain ⟨l,ns,rfl,hS,hl,hQ⟩:=h
 refine ⟨fun _=>l,[],[.sc ns],⟨fun n o h=>(by cases h),fun n m o o' h=>(by cases h)⟩,.cons ⟨l,rfl,SqL.mono (fun b o h=>bx h (by rintro ⟨n,o',e,_⟩;cases e)) hS⟩ .nil,?_⟩
 rw [rR ns]
 intro b μ' H' st r
 cases r
 exact hQ H'
theorem walk {l:PySem.W.OpenLaw} {q:Program} {loose:List Str} {XP:(Str→Option Value)→Heap→Prop} {YP:World→Heap→Prop} {d:DefRec} {K:Params→PySem.W.Frag} (hn:l.most=some 63) (hdf:d.params.defaults=[])
  (hY:∀ (w:World) (h:Heap),YP w h→(K w.params).In h)
  (F:∀ (w:World) (mg:Str→Option Value) (fa:Addr) (h:Heap),(K w.params).In h→h.Ns mainGlobals mg→mg d.name=some (.ref fa) →
   ∃ fd:FuncData,(∀ (s:Shared) (u:Value),BindsTo s fd ⟨[u],[]⟩ [("script",u)])∧∀ base:Heap,(K w.params).In base→base.Ns mainGlobals mg→dv l.prog w (K w.params) mg base CX0 14 fa fd ["script"] (oY (K w.params))) :
  PySem.W.WalkO q loose XP YP l.row.toRowW d [] (fun f vs=>PySem.call f vs):=
 L2.vw (n:=63) (k:=14) (x:="script") (CX:=fun _=>CX0) (sp:=fun w=>oY (K w.params)) hn (by decide) hdf ⟨rfl,by decide,by decide⟩ hY F (fun _ _ a ns hl _ hS=>⟨a,ns,rfl,hS,hl,fun _=>rfl⟩) fun _ _ _ _ _ z=>z
end My
open PySem PySem.W PyProof.Rows
set_option maxRecDepth 100000 in
set_option maxHeartbeats 0 in
theorem PySem.Challenge.cw_wishstrike_k06_names_settled_holds : PySem.Challenge.rw_wishstrike_k06_names_settled.Holds := by
  w_on;o_law;k_head;(case hw=>w_witness2)
  k_fill
  refine My.walk (l:=PySem.Challenge.rw_wishstrike_k06_names_settled) rfl rfl (fun w h Y=>PySem.W.kIn_of Y) ?F
  case F=>
    intro w mg fa h KX G hmg
    refine' My.all_mk hmg ?T
    (case T=>constructor<;>first | (refine' PySem.W.mg_none_of KX G ?z;(case z=>k_is)) | (refine' L2.AE KX G ?a ?l ?c ?k;(case a=>k_is);(case l=>k_is);(case c=>k_is);(case k=>k_is)) | (refine' L2.BA KX G ?a ?xq;(case a=>k_is);(case xq=>k_exc)) | (refine' L2.wX KX G ?a ?a' ?xq ?z;(case a=>k_is);(case a'=>k_is);(case xq=>k_is);(case z=>first | exact Or.inl rfl | exact Or.inr (by decide))) | (refine' L2.Bk KX G ?a ?b1 ?b2 ?b3 ?b4 ?b5 ?b6 ?b7 ?b8;(case a=>k_is);(case b1=>k_is);(case b2=>k_is);(case b3=>k_is);(case b4=>k_is);(case b5=>k_is);(case b6=>k_is);(case b7=>k_is);(case b8=>k_is)))
#print axioms PySem.Challenge.cw_wishstrike_k06_names_settled_holds
