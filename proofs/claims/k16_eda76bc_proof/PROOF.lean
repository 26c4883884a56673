import PyProof.Rows.All
import Wide.All
import OpenK.AllK
import Wide.FinOn
import Lean
import PyProof.EqAt
import PyProof.EqKinds
import PyProof.TupleCall
import PySem.Challenge.RW_wishstrike_k16_papers_of_many_judged
set_option Elab.async false
set_option linter.all false
set_option maxRecDepth 100000
namespace L2
open PySem PySem.Spec PyProof.Rows
abbrev Key:=Sum Int Str
def kB:Key→Value→Bool
 | .inl k,v=>Value.isInt k v
 | .inr x,v=>Value.isStrOf x v
def EE (w:World):Key→Int
 | .inl k=>hashInt k
 | .inr x=>hashStr w x
theorem bK:∀ {k:Key} {v:Value},kB k v=true→(∃ i t,k=Sum.inl i∧v=Value.int i t)∨(∃ x t,k=Sum.inr x∧v=Value.str x t)
 | .inl i,v,h=>by
  obtain ⟨t,e⟩:=Value.isInt_shape (k:=i) (v:=v) h
  exact .inl ⟨i,t,rfl,e⟩
 | .inr x,v,h=>by
  obtain ⟨t,e⟩:=Value.isStrOf_shape (x:=x) (v:=v) h
  exact .inr ⟨x,t,rfl,e⟩
theorem tJ (i:Int) (t:Tok):kB (.inl i) (.int i t)=true:=by simp [kB,Value.isInt]
theorem uX (x:Str) (t:Tok):kB (.inr x) (.str x t)=true:=by simp [kB,Value.isStrOf]
theorem zY (a b:Int):decide ((Sum.inl a:Key)=Sum.inl b)=(a == b):=by
 by_cases e:a=b
 ·subst e;simp
 ·have h:¬(Sum.inl a:Key)=Sum.inl b:=fun q=>e (Sum.inl.inj q)
  rw [decide_eq_false h]
  exact (beq_eq_false_iff_ne.mpr e).symm
theorem BK (a b:Str):decide ((Sum.inr a:Key)=Sum.inr b)=decide (a=b):=by
 by_cases e:a=b
 ·subst e;simp
 ·have h:¬(Sum.inr a:Key)=Sum.inr b:=fun q=>e (Sum.inr.inj q)
  rw [decide_eq_false h,decide_eq_false e]
theorem Am (a:Int) (b:Str):decide ((Sum.inl a:Key)=Sum.inr b)=false:=decide_eq_false (fun q=>nomatch q)
theorem zR (a:Str) (b:Int):decide ((Sum.inr a:Key)=Sum.inl b)=false:=decide_eq_false (fun q=>nomatch q)
def bc (prog:Program) (w:World):PySem.KeyKind prog w Key where
 is:=kB
 hash:=EE w
 inj:=fun v a b ha hb=>by
  rcases bK ha with ⟨i,t,rfl,rfl⟩ | ⟨x,t,rfl,rfl⟩
  ·rcases bK hb with ⟨j,u,rfl,e⟩ | ⟨y,u,rfl,e⟩
   ·injection e with e1 _;rw [e1]
   ·exact nomatch e
  ·rcases bK hb with ⟨j,u,rfl,e⟩ | ⟨y,u,rfl,e⟩
   ·exact nomatch e
   ·injection e with e1 _;rw [e1]
 byValue:=fun k v h=>by
  rcases bK h with ⟨i,t,rfl,rfl⟩ | ⟨x,t,rfl,rfl⟩<;>rfl
 pyHash:=fun hv h=>by
  rcases bK hv with ⟨i,t,rfl,rfl⟩ | ⟨x,t,rfl,rfl⟩
  ·exact wpAny_pyHash_int h
  ·exact wpAny_pyHash_str h
 eqBool:=fun hu hv h=>by
  rcases bK hu with ⟨i,t,rfl,rfl⟩ | ⟨x,t,rfl,rfl⟩
  ·rcases bK hv with ⟨j,u,rfl,rfl⟩ | ⟨y,u,rfl,rfl⟩
   ·rw [zY] at h;exact wpAny_eqBool_int h
   ·rw [Am] at h;exact SeqAt.EqAt.int_str i t y u _ _ _ _ h
  ·rcases bK hv with ⟨j,u,rfl,rfl⟩ | ⟨y,u,rfl,rfl⟩
   ·rw [zR] at h;exact SeqAt.EqAt.str_int x t j u _ _ _ _ h
   ·rw [BK] at h;exact wpAny_eqBool_str h
 «strs»:=fun k x t v h=>by
  rcases bK h with ⟨i,u,rfl,e⟩ | ⟨y,u,rfl,e⟩
  ·exact nomatch e
  ·injection e with e1 _
   subst e1
   cases v<;>rfl
theorem qD (prog:Program) (w:World) (i:Int) (t:Tok):(bc prog w).is (.inl i) (.int i t)=true:=tJ i t
theorem qE (prog:Program) (w:World) (x:Str) (t:Tok):(bc prog w).is (.inr x) (.str x t)=true:=uX x t
inductive V where
 | non | bl (b:Bool) | int (i:Int) | str (x:Str) | byt (b:Array UInt8) | flt (b:UInt64) | ref (a:Addr) | ty (n:String)
 deriving DecidableEq
def RelV:V→Value→Prop
 | .non,u=>u=Value.none
 | .bl b,u=>u=Value.bool b
 | .int i,u=>∃ t,u=Value.int i t
 | .str x,u=>∃ t,u=Value.str x t
 | .byt b,u=>∃ t,u=Value.bytes b t
 | .flt b,u=>∃ t,u=Value.float b t
 | .ref a,u=>u=Value.ref a
 | .ty n,u=>u=Value.type n
abbrev Vals:List V→List Value→Prop:=Paired RelV
theorem Vals.length {xs:List V} {us:List Value} (r:Vals xs us):xs.length=us.length:=Paired.length r
theorem Vals.get:∀ {xs:List V} {us:List Value} {i:Nat} {x:V},Vals xs us→xs[i]?=some x→∃ u,us[i]?=some u∧RelV x u
 | _,_,_,_,.nil,e=>by simp at e
 | _,_,0,_,.cons r _,e=>by simp at e;subst e;exact ⟨_,rfl,r⟩
 | _,_,i+1,x,.cons _ t,e=>by
  obtain ⟨u,h1,h2⟩:=Vals.get (i:=i) (x:=x) t (by simpa using e)
  exact ⟨u,by simpa using h1,h2⟩
theorem Vals.set {x:V} {u:Value} (r:RelV x u):∀ {xs:List V} {us:List Value} (i:Nat),Vals xs us→Vals (xs.set i x) (us.set i u)
 | _,_,_,.nil=>.nil
 | _,_,0,.cons _ t=>.cons r t
 | _,_,i+1,.cons q t=>.cons q (Vals.set r i t)
theorem Vals.append:∀ {xs ys:List V} {us ws:List Value},Vals xs us→Vals ys ws→Vals (xs++ys) (us++ws)
 | _,_,_,_,.nil,s=>s
 | _,_,_,_,.cons r t,s=>.cons r (Vals.append t s)
theorem Vals.take:∀ {xs:List V} {us:List Value} (n:Nat),Vals xs us→Vals (xs.take n) (us.take n)
 | _,_,0,_=>.nil
 | _,_,_+1,.nil=>.nil
 | _,_,n+1,.cons r t=>.cons r (Vals.take n t)
theorem Vals.drop:∀ {xs:List V} {us:List Value} (n:Nat),Vals xs us→Vals (xs.drop n) (us.drop n)
 | _,_,0,r=>r
 | _,_,_+1,.nil=>.nil
 | _,_,n+1,.cons _ t=>Vals.drop n t
def gj:Option V→Option Value→Prop
 | some v,some u=>RelV v u
 | none,none=>True
 | _,_=>False
def KV {κ:Type}:List (κ×V)→List (κ×Value)→Prop:=Paired fun (p:κ×V) (q:κ×Value)=>p.1=q.1∧RelV p.2 q.2
def kV:Key→V
 | .inl i=>.int i
 | .inr x=>.str x
inductive HO where
 | lst (xs:List V)
 | tup (xs:List V)
 | dK (kvs:List (Key×V)) | dT (kvs:List (List Key×V))
 | set (S:Int→Bool) (n:Nat)
 | ins (C dx:Addr) (fs:List (Str×V))
 | own (x:Addr)
 | xd (fs:List (Str×V))
 | met (f x:Addr)
 | rng (lo hi:Int)
 | frz (o:Obj) (u:HO)
 | tbl (ps:Array Value)
 | ext (φ:Heap→Prop)
abbrev Hp:=Addr→Option HO
def upd (H:Hp) (a:Addr) (o:HO):Hp:=fun b=>if b=a then some o else H b
theorem cj {H:Hp} {a:Addr} {o:HO}:upd H a o a=some o:=by unfold upd;rw [if_pos rfl]
theorem aN {H:Hp} {a b:Addr} {o:HO} (h:b≠a):upd H a o b=H b:=by unfold upd;rw [if_neg h]
theorem a9 {H:Hp} {a b:Addr} {o:HO} (h:H a=some o) (h':H b=none):a≠b:=by
 intro e;subst e;rw [h] at h';cases h'
section
variable (P:Program) (w:World)
def bA (H:Hp) (h:Heap) (a:Addr):HO→Prop
 | .lst xs=>xs.length≤sizeLine∧∃ (its:List Value) (n:Nat),Vals xs its∧h.get? a=some { cls:=.type "list",data:=.seq its.toArray n }
 | .tup xs=>xs.length≤sizeLine∧∃ its:List Value,Vals xs its∧IsTup h a its.toArray
 | .dK kvs=>kvs.length≤sizeLine∧(a == sysModules)=false∧∃ vs,KV kvs vs∧h.DictOf (bc P w) a vs
 | .dT kvs=>kvs.length≤sizeLine∧(a == sysModules)=false∧∃ xs:List (List Key×Addr×Value),
   Paired (fun (p:List Key×V) (q:List Key×Addr×Value)=>p.1=q.1∧H q.2.1=some (.tup (p.1.map kV))∧RelV p.2 q.2.2) kvs xs ∧
   ∃ o es ep,h.get? a=some o∧o.ExactDict∧o.data=.dict es ep∧es.toList=xs.map (entryOfKey (tupleKind (bc P w)))∧(xs.map (·.1)).Nodup
 | .set S n=>h.SetOf (intKind P w) a S n
 | .ins C dx fs=>H dx=some (.own a)∧fs.length≤1000∧dx≠a∧h.get? a=some (PySem.W.instObj C dx) ∧
   ∃ mA,h.Ns1 dx mA∧(∀ f,gj (fs.lookup f) (mA f))∧PySem.Within mA (fs.map (·.1))
 | .own _=>∃ o,h.get? a=some o
 | .xd fs=>∃ mA,h.Ns1 a mA∧∀ f,gj (fs.lookup f) (mA f)
 | .rng lo hi=>∃ t u v,h.get? a=some { cls:=.type "range",data:=.fields #[.int lo t,.int hi u,.int 1 v] }
 | .frz o u=>h.get? a=some o∧bA H h a u
 | .tbl ps=>h.get? a=some { cls:=.none,data:=.fields ps }
 | .met f x=>h.get? a=some (PySem.W.methodObj (.ref f) (.ref x))
 | .ext φ=>φ h∧(∃ o,h.get? a=some o)∧∀ h1 h2:Heap,φ h1→(∀ o,h1.get? a=some o→h2.get? a=some o)→φ h2
def HOk (H:Hp) (h:Heap):Prop:=∀ a o,H a=some o→bA P w H h a o
end
section
variable {P:Program} {w:World} {H H':Hp} {h h':Heap} {a:Addr} {o:HO}
theorem bA.lt (x:bA P w H h a o):a < h.objs.size:=by
 cases o with
 | lst xs=>obtain ⟨_,_,_,_,e⟩:=x;exact Heap.lt_size e
 | tup xs=>obtain ⟨_,_,_,p⟩:=x;exact p.lt
 | dK kvs=>obtain ⟨_,_,_,_,o,_,_,e,_⟩:=x;exact Heap.lt_size e
 | dT kvs=>obtain ⟨_,_,_,_,o,_,_,e,_⟩:=x;exact Heap.lt_size e
 | set S n=>obtain ⟨o,_,_,_,e,_⟩:=x;exact Heap.lt_size e
 | ins C dx fs=>obtain ⟨_,_,_,e,_⟩:=x;exact Heap.lt_size e
 | own y=>obtain ⟨_,e⟩:=x;exact Heap.lt_size e
 | xd fs=>obtain ⟨_,⟨_,_,_,e,_⟩,_⟩:=x;exact Heap.lt_size e
 | rng lo hi=>obtain ⟨_,_,_,e⟩:=x;exact Heap.lt_size e
 | frz ob u=>obtain ⟨e,_⟩:=x;exact Heap.lt_size e
 | tbl ps=>exact Heap.lt_size (show h.get? a=some _ from x)
 | met f y=>exact Heap.lt_size (show h.get? a=some _ from x)
 | ext φ=>obtain ⟨_,⟨_,e⟩,_⟩:=x;exact Heap.lt_size e
theorem Paired.zD {α β:Type} {F G:α→β→Prop}:∀ {l₁:List α} {l₂:List β},Paired F l₁ l₂→(∀ a b,F a b→G a b)→Paired G l₁ l₂
 | _,_,.nil,_=>.nil
 | _,_,.cons r t,f=>.cons (f _ _ r) (Paired.zD t f)
theorem bA.mV (x:bA P w H h a o) (k:∀ b u,(b=a∨H b=some (.own a))→h.get? b=some u→h'.get? b=some u)
  (ho:∀ b,H b=some (.own a)→H' b=some (.own a)) (ht:∀ b xs,H b=some (.tup xs)→H' b=some (.tup xs)):bA P w H' h' a o:=by
 induction o with
 | lst xs=>obtain ⟨z,its,n,r,e⟩:=x;exact ⟨z,its,n,r,k _ _ (.inl rfl) e⟩
 | tup xs=>obtain ⟨z,its,r,ob,e,c⟩:=x;exact ⟨z,its,r,ob,k _ _ (.inl rfl) e,c⟩
 | dK kvs=>obtain ⟨z,y,vs,r,ob,es,ep,e,c⟩:=x;exact ⟨z,y,vs,r,ob,es,ep,k _ _ (.inl rfl) e,c⟩
 | dT kvs=>
  obtain ⟨z,y,xs,r,ob,es,ep,e,c⟩:=x
  exact ⟨z,y,xs,Paired.zD r fun p q z=>⟨z.1,ht _ _ z.2.1,z.2.2⟩,ob,es,ep,k _ _ (.inl rfl) e,c⟩
 | set S n=>obtain ⟨ob,es,ep,t,e,c⟩:=x;exact ⟨ob,es,ep,t,k _ _ (.inl rfl) e,c⟩
 | ins C dx fs=>
  obtain ⟨d,z,ne,e,mA,⟨od,es,ep,e2,c⟩,r⟩:=x
  exact ⟨ho _ d,z,ne,k _ _ (.inl rfl) e,mA,⟨od,es,ep,k _ _ (.inr d) e2,c⟩,r⟩
 | own y=>obtain ⟨ob,e⟩:=x;exact ⟨ob,k _ _ (.inl rfl) e⟩
 | xd fs=>obtain ⟨mA,⟨od,es,ep,e,c⟩,r⟩:=x;exact ⟨mA,⟨od,es,ep,k _ _ (.inl rfl) e,c⟩,r⟩
 | rng lo hi=>obtain ⟨t,u,v,e⟩:=x;exact ⟨t,u,v,k _ _ (.inl rfl) e⟩
 | frz ob u ih=>obtain ⟨e,q⟩:=x;exact ⟨k _ _ (.inl rfl) e,ih q⟩
 | tbl ps=>
  have e:h.get? a=some { cls:=.none,data:=.fields ps }:=x
  show h'.get? a=some { cls:=.none,data:=.fields ps }
  exact k a _ (.inl rfl) e
 | met f y=>
  have e:h.get? a=some (PySem.W.methodObj (.ref f) (.ref y)):=x
  show h'.get? a=some (PySem.W.methodObj (.ref f) (.ref y))
  exact k a _ (.inl rfl) e
 | ext φ=>obtain ⟨p,⟨o,e⟩,st⟩:=x;exact ⟨st _ _ p fun o q=>k _ _ (.inl rfl) q,⟨o,k _ _ (.inl rfl) e⟩,st⟩
theorem HOk.lt (x:HOk P w H h) (e:H a=some o):a < h.objs.size:=(x a o e).lt
theorem HOk.fresh (x:HOk P w H h) (e:h.objs.size≤a):H a=none:=by
 cases q:H a with
 | none=>rfl
 | some u=>exact absurd (Nat.lt_of_lt_of_le (x.lt q) e) (Nat.lt_irrefl _)
theorem HOk.kept (x:HOk P w H h) (k:∀ b u,h.get? b=some u→h'.get? b=some u):HOk P w H h':=fun a o e=>
 (x a o e).mV (fun b u _ q=>k b u q) (fun _ q=>q) fun _ _ q=>q
theorem HOk.laid (x:HOk P w H h) (k:∀ b u,h.get? b=some u→h'.get? b=some u) (hp:h.objs.size≤a) (new:bA P w (upd H a o) h' a o):HOk P w (upd H a o) h':=fun b u e=>by
 have hn:=x.fresh hp
 by_cases hb:b=a
 ·subst hb;rw [cj] at e;cases e;exact new
 ·rw [aN hb] at e
  exact (x b u e).mV (fun c v _ q=>k c v q) (fun c q=>by rw [aN (a9 q hn)];exact q) fun c xs q=>by rw [aN (a9 q hn)];exact q
end
def Rd (H:Hp) (a:Addr) (u:HO):Prop:=H a=some u∨∃ o,H a=some (.frz o u)
theorem Rd.ok {P:Program} {w:World} {H:Hp} {h:Heap} {a:Addr} {u:HO} (r:Rd H a u) (x:HOk P w H h):bA P w H h a u:=by
 rcases r with r | ⟨o,r⟩
 ·exact x a u r
 ·obtain ⟨_,q⟩:=x a _ r
  exact q
def Mut:Option HO→Prop
 | some (.lst _)=>True
 | some (.dK _)=>True
 | some (.dT _)=>True
 | some (.set _ _)=>True
 | some (.ins _ _ _)=>True
 | some (.ext _)=>True
 | _=>False
section
variable {P:Program} {w:World} {H:Hp} {h h':Heap} {x e:Addr} {o':HO}
theorem HOk.write (ok:HOk P w H h) (mu:Mut (H x)) (he:e=x∨H e=some (.own x)) (k:∀ b u,b≠e→h.get? b=some u→h'.get? b=some u) (heo:∃ u,h'.get? e=some u)
  (new:bA P w (upd H x o') h' x o'):HOk P w (upd H x o') h':=fun b u q=>by
 have nown:∀ c y,H c=some (.own y)→c≠x:=fun c y r z=>by subst z;rw [r] at mu;exact mu
 have ntup:∀ c xs,H c=some (.tup xs)→c≠x:=fun c xs r z=>by subst z;rw [r] at mu;exact mu
 by_cases hb:b=x
 ·subst hb;rw [cj] at q;cases q;exact new
 ·rw [aN hb] at q
  by_cases hbe:b=e
  ·have q':H b=some (.own x):=by
    rcases he with z | z
    ·exact absurd (hbe.trans z) hb
    ·rw [hbe];exact z
   rw [q] at q';cases q'
   obtain ⟨v,hv⟩:=heo
   exact ⟨v,by rw [hbe];exact hv⟩
  ·refine (ok b u q).mV (fun c v hc r=>k c v ?_ r) (fun c r=>by rw [aN (nown c b r)];exact r) fun c xs r=>by rw [aN (ntup c xs r)];exact r
   rcases hc with rfl | hc
   ·exact hbe
   ·rintro rfl
    rcases he with z | z
    ·exact nown c b hc z
    ·rw [hc] at z;cases z;exact hb rfl
end
structure Un (fs ex:List Addr) (H H':Hp) (h h':Heap):Prop where
 keep:∀ b o,h.get? b=some o→H b=none→b∉fs→b∉ex→h'.get? b=some o
 slot:∀ b o,h.get? b=some o→H b=none→b∈fs→b∉ex→∃ sl,h'.get? b=some { o with slots:=sl }
 free:∀ b o,h.get? b=some o→H b=none→b∉ex→H' b=none
 there:∀ b o,h.get? b=some o→b∉ex→∃ o',h'.get? b=some o'
 tups:∀ b xs,H b=some (.tup xs)→H' b=some (.tup xs)
 frzs:∀ b o u,H b=some (.frz o u)→H' b=some (.frz o u)
 tbls:∀ b ps,H b=some (.tbl ps)→∃ more,H' b=some (.tbl (ps++more))
section
variable {fs fs' ex ex':List Addr} {H H1 H2:Hp} {h h1 h2 h':Heap} {a x e:Addr} {o:HO}
theorem Un.any (u:Un fs ex H H1 h h1) {b:Addr} {ob:Obj} (q:h.get? b=some ob) (n:H b=none) (hx:b∉ex):∃ sl,h1.get? b=some { ob with slots:=sl }:=by
 by_cases hb:b∈fs
 ·exact u.slot b ob q n hb hx
 ·exact ⟨ob.slots,u.keep b ob q n hb hx⟩
theorem Un.kept (k:∀ b u,h.get? b=some u→h'.get? b=some u):Un fs ex H H h h':=
 ⟨fun b ob q _ _ _=>k b ob q,fun b ob q _ _ _=>⟨ob.slots,k b ob q⟩,fun _ _ _ n _=>n,fun b ob q _=>⟨ob,k b ob q⟩,fun _ _ q=>q,fun _ _ _ q=>q,fun _ ps q=>⟨#[],by rw [q];simp⟩⟩
theorem Un.refl:Un fs ex H H h h:=Un.kept fun _ _ q=>q
theorem Un.laid (k:∀ b u,h.get? b=some u→h'.get? b=some u) (hp:h.objs.size≤a) (hn:H a=none):Un fs ex H (upd H a o) h h' where
 keep:=fun b u q _ _ _=>k b u q
 slot:=fun b u q _ _ _=>⟨u.slots,k b u q⟩
 free:=fun b u q n _=>by rw [aN (Nat.ne_of_lt (Nat.lt_of_lt_of_le (Heap.lt_size q) hp))];exact n
 there:=fun b u q _=>⟨u,k b u q⟩
 tups:=fun b xs q=>by rw [aN (a9 q hn)];exact q
 frzs:=fun b u xs q=>by rw [aN (a9 q hn)];exact q
 tbls:=fun b ps q=>⟨#[],by rw [aN (a9 q hn),q];simp⟩
theorem Un.write (mu:Mut (H x)) (he:e=x∨H e=some (.own x)) (k:∀ b u,b≠e→h.get? b=some u→h'.get? b=some u) (heo:∃ u,h'.get? e=some u):Un fs ex H (upd H x o) h h':=by
 have hx:∀ b,H b=none→b≠x:=fun b n z=>by subst z;rw [n] at mu;exact mu
 have hb:∀ b,H b=none→b≠e:=fun b n z=>by
  subst z
  rcases he with r | r
  ·exact hx b n r
  ·rw [n] at r;cases r
 have hm:∀ b u,H b=some u→¬Mut (some u)→b≠x:=fun b u q nm z=>by subst z;rw [q] at mu;exact nm mu
 refine ⟨fun b u q n _ _=>k b u (hb b n) q,fun b u q n _ _=>⟨u.slots,k b u (hb b n) q⟩,fun b u q n _=>by rw [aN (hx b n)];exact n,fun b u q _=>?_,
  fun b xs q=>by rw [aN (hm b _ q fun z=>z)];exact q,fun b u xs q=>by rw [aN (hm b _ q fun z=>z)];exact q,fun b ps q=>⟨#[],by rw [aN (hm b _ q fun z=>z),q];simp⟩⟩
 by_cases hbe:b=e
 ·subst hbe;exact heo
 ·exact ⟨u,k b u hbe q⟩
end
def trk (h:Heap) (H:Hp):List Addr:=(List.range h.objs.size).filter fun a=>(H a).isSome
def iU (h:Heap) (H:Hp):Heap:=PySem.W.hideAll h (trk h H)
theorem vg (h:Heap) (H:Hp):(iU h H).objs.size=h.objs.size:=PySem.W.hideAll_size _ _
theorem vv {h:Heap} {H:Hp} {b:Addr} {o:Obj} (e:h.get? b=some o) (n:H b=none):(iU h H).get? b=some o:=
 PySem.W.hideAll_get _ e fun hm=>by
  have q:(H b).isSome=true:=(List.mem_filter.mp hm).2
  rw [n] at q;simp at q
theorem yU {h:Heap} {H:Hp} {b:Addr} {o:Obj} (e:(iU h H).get? b=some o):h.get? b=some o∧H b=none:=by
 have e':h.get? b=some o:=PySem.W.of_hideAll (trk h H) e
 refine ⟨e',?_⟩
 cases q:H b with
 | none=>rfl
 | some x=>
  have hm:b∈trk h H:=List.mem_filter.mpr ⟨List.mem_range.mpr (Heap.lt_size e'),by simp [q]⟩
  have z:(iU h H).get? b=none:=PySem.W.hideAll_none (trk h H) hm
  rw [z] at e;cases e
def yM (g h:Heap) (L:Addr):List (Addr×Obj):=(List.range h.objs.size).filterMap fun a=>if a=L∨(g.get? a).isSome=true then none else (h.get? a).map fun o=>(a,o)
def rest (g h:Heap) (L d:Addr):List (Addr×Obj):=(yM g h L).filter fun p=>decide (p.1≠d)
structure Mod (K:PySem.W.Frag) (mg:Str→Option Value) (base:Heap):Prop where
 kin:K.In base
 glob:base.Ns mainGlobals mg
 blt:∃ mb,base.Ns builtinsNs mb∧∀ x:Str,x≠"__name__"→mb x=bootBuiltins x
 nolimit:base.NoLimit
structure Cx where
 prog:Program
 w:World
 K:PySem.W.Frag
 mg:Str→Option Value
 base:Heap
 A:Around
 N:List Str
 s₀:Shared
 H₀:Hp
 env:Env
 outer:List Env
 stack:List Env
 ex:List Addr
 fn:Str→Bool
 calm:Bool
 pn:List (Addr×Obj)
 xe:Value→Shared→Prop
def frs (l:List Env):List Addr:=l.filterMap (·.frame)
abbrev Cx.fs (X:Cx):List Addr:=frs X.outer
def Vis (sc:Scope) (x:Str):Prop:=sc.names.lookup x=some .local∨sc.names.lookup x=some .cell∨sc.names.lookup x=some .free
def Loc (sc:Scope) (x:Str):Prop:=sc.names.lookup x=some .local∨sc.names.lookup x=some .cell
def Look (env:Env) (h:Heap) (m:Str→Option Value) (x:Str) (u:Value):Prop:=
 (env.kindOf x=some .local∧m x=some u)∨((env.kindOf x=some .cell∨env.kindOf x=some .free)∧∃ c,env.cells.lookup x=some c∧h.IsCell c (some u))
structure Cx.Ok (X:Cx):Prop where
 mod:Mod X.K X.mg X.base
 kind:X.env.scope.kind=.function
 glob:X.env.globals=mainGlobals
 blt:X.env.builtins=builtinsNs
 above:X.s₀.heap.objs.size≤X.env.locals
 inj:∀ x y c,X.env.cells.lookup x=some c→X.env.cells.lookup y=some c→x=y
 has:∀ x,(X.env.kindOf x=some .cell∨X.env.kindOf x=some .free)→∃ c,X.env.cells.lookup x=some c
 cab:∀ x c,X.fn x=true→X.env.cells.lookup x=some c→X.s₀.heap.objs.size≤c
 hd:X.calm=true→X.A.handled=none
 frames:X.A.frames=some X.stack
 stk:X.stack=X.outer∨(X.stack=X.env :: X.outer∧X.env.frame=some X.env.locals)
 exf:∀ b∈X.ex,b≠X.env.locals∧∀ x c,X.env.cells.lookup x=some c→c≠b
 bs:∀ b o,X.base.get? b=some o→X.s₀.heap.get? b=some o∧X.H₀ b=none
 bsz:X.base.objs.size≤X.s₀.heap.objs.size
 noex:∀ b o,X.base.get? b=some o→b∉X.ex
 exfs:∀ b∈X.ex,b∉X.fs
 gr:X.s₀.heap.FunFrames X.base X.outer
 frf:∀ b∈X.fs,X.H₀ b=none
structure Inv (X:Cx) (pins:List (Addr×Obj)) (σ:List (Option V)) (H:Hp) (s:Shared):Prop where
 ok:X.Ok
 os:s.os=X.s₀.os
 bare:AllBare s.gens
 base:Un X.fs X.ex X.H₀ H X.s₀.heap s.heap
 loc:∃ m,s.heap.Ns X.env.locals m∧∀ (i:Nat) (x:Str) (v:V),X.N[i]?=some x→σ[i]?=some (some v)→Vis X.env.scope x→∃ u,RelV v u∧Look X.env s.heap m x u
 cell:∀ x c,X.env.cells.lookup x=some c→∃ v,s.heap.IsCell c v
 free:H X.env.locals=none
 freeC:∀ x c,X.env.cells.lookup x=some c→H c=none
 pin:∀ p∈X.pn++pins,s.heap.get? p.1=some p.2∧H p.1=none∧p.1≠X.env.locals∧p.1∉X.fs∧∀ v,p.2.data≠.cell v
 hok:HOk X.prog X.w H s.heap
 len:σ.length=X.N.length
section
variable {X:Cx} {pins:List (Addr×Obj)} {σ:List (Option V)} {H H':Hp} {s:Shared} {h':Heap}
theorem Cx.Ok.EG (ok:X.Ok) {b:Addr} {o:Obj} (e:X.base.get? b=some o):b∉X.fs:=fun hb=>by
 have:=(ok.gr.mem hb).1
 rw [e] at this;cases this
theorem Inv.bs (I:Inv X pins σ H s):∀ b o,X.base.get? b=some o→s.heap.get? b=some o∧H b=none:=fun b o e=>
 ⟨I.base.keep b o (I.ok.bs b o e).1 (I.ok.bs b o e).2 (I.ok.EG e) (I.ok.noex b o e),I.base.free b o (I.ok.bs b o e).1 (I.ok.bs b o e).2 (I.ok.noex b o e)⟩
theorem Inv.bk (I:Inv X pins σ H s):∀ b o,X.base.get? b=some o→s.heap.get? b=some o:=fun b o e=>(I.bs b o e).1
theorem Inv.mod (I:Inv X pins σ H s):Mod X.K X.mg X.base:=I.ok.mod
theorem Inv.kIn (I:Inv X pins σ H s):X.K.In s.heap:=I.ok.mod.kin.keeps I.bk
theorem Inv.lt (I:Inv X pins σ H s):X.env.locals < s.heap.objs.size:=let ⟨_,hn,_⟩:=I.loc;hn.lt
theorem Inv.sz (I:Inv X pins σ H s):X.s₀.heap.objs.size≤s.heap.objs.size:=Nat.le_trans I.ok.above (Nat.le_of_lt I.lt)
theorem Inv.AJ (I:Inv X pins σ H s) {a:Addr} (h:s.heap.objs.size≤a):a∉X.fs:=fun hb=>by
 obtain ⟨_,o,ho,_⟩:=I.ok.gr.mem hb
 exact absurd (Nat.lt_of_lt_of_le (Heap.lt_size ho) (Nat.le_trans I.sz h)) (Nat.lt_irrefl _)
theorem Inv.cne (I:Inv X pins σ H s):∀ x c,X.env.cells.lookup x=some c→c≠X.env.locals:=fun x c e z=>by
 obtain ⟨v,o,ho,hd⟩:=I.cell x c e
 obtain ⟨m,⟨o',es,ep,ho',hd',_⟩,_⟩:=I.loc
 rw [z,ho'] at ho;cases ho;rw [hd'] at hd;cases hd
theorem Inv.gr (I:Inv X pins σ H s):s.heap.FunFrames X.base X.outer:=by
 have all:∀ (l:List Env),(∀ b∈frs l,b∈X.fs)→X.s₀.heap.FunFrames X.base l→s.heap.FunFrames X.base l:=by
  intro l
  induction l with
  | nil=>intro _ _;trivial
  | cons env r ih=>
   intro hs hl
   obtain ⟨hk,⟨L,o,hf,hn,ho,hd⟩,hr⟩:=hl
   have hL:L∈X.fs:=hs L (by unfold frs;rw [List.filterMap_cons,hf];exact List.mem_cons_self)
   obtain ⟨sl,e⟩:=I.base.slot L o ho (I.ok.frf L hL) hL fun z=>I.ok.exfs L z hL
   exact ⟨hk,⟨L,_,hf,hn,e,hd⟩,ih (fun b hb=>hs b (by unfold frs;rw [List.filterMap_cons,hf];exact List.mem_cons_of_mem _ hb)) hr⟩
 exact all X.outer (fun _ hb=>hb) I.ok.gr
theorem Inv.stack (I:Inv X pins σ H s):s.heap.FunFrames X.base X.stack:=by
 rcases I.ok.stk with e | ⟨e,hf⟩
 ·rw [e];exact I.gr
 ·rw [e]
  obtain ⟨m,hn,_⟩:=I.loc
  refine .cons (by rw [I.ok.kind];decide) hf hn ?_ I.gr
  exact Heap.get?_none_of_le (Nat.le_trans I.ok.bsz I.ok.above)
theorem Inv.mL (I:Inv X pins σ H s):∀ b∈frs X.stack,b∈X.env.locals :: X.fs:=fun b hb=>by
 rcases I.ok.stk with e | ⟨e,hf⟩
 ·rw [e] at hb;exact List.mem_cons_of_mem _ hb
 ·rw [e] at hb
  unfold frs at hb
  rw [List.filterMap_cons,hf] at hb
  exact hb
theorem Inv.rA (I:Inv X pins σ H s):∀ b∈frs X.stack,H b=none:=fun b hb=>by
 rcases List.mem_cons.mp (I.mL b hb) with e | hb
 ·rw [e];exact I.free
 ·obtain ⟨_,o,ho,_⟩:=I.ok.gr.mem hb
  exact I.base.free b o ho (I.ok.frf b hb) fun z=>I.ok.exfs b z hb
theorem Inv.step {g':Array GenState} {t':Nat} {d':Drawn} {ch:List Addr} (I:Inv X pins σ H s)
  (hch:∀ b∈ch,(b∈X.ex∨X.s₀.heap.objs.size≤b)∧b≠X.env.locals∧(∀ x c,X.env.cells.lookup x=some c→c≠b)∧∀ p∈X.pn++pins,p.1≠b)
  (keep:∀ b o,b≠X.env.locals→b∉X.fs→b∉ch→s.heap.get? b=some o→H b=none→h'.get? b=some o)
  (slot:∀ b o,b≠X.env.locals→b∈X.fs→b∉ch→s.heap.get? b=some o→H b=none→∃ sl,h'.get? b=some { o with slots:=sl }) (free:∀ b o,b∉ch→s.heap.get? b=some o→H b=none→H' b=none)
  (there:∀ b o,b∉ch→s.heap.get? b=some o→∃ o',h'.get? b=some o')
  (tups:∀ b xs,H b=some (.tup xs)→H' b=some (.tup xs)) (frzs:∀ b o u,H b=some (.frz o u)→H' b=some (.frz o u)) (tbls:∀ b ps,H b=some (.tbl ps)→∃ more,H' b=some (.tbl (ps++more)))
  (ns:∀ m,s.heap.Ns X.env.locals m→h'.Ns X.env.locals m) (hok:HOk X.prog X.w H' h') (hg:AllBare g') :
  Inv X pins σ H' { s with heap:=h',gens:=g',drawn:=d',toks:=t' }:=by
 have neL:∀ b o,X.s₀.heap.get? b=some o→b≠X.env.locals:=fun b o e=>Nat.ne_of_lt (Nat.lt_of_lt_of_le (Heap.lt_size e) I.ok.above)
 have neC:∀ b o,X.s₀.heap.get? b=some o→b∉X.ex→b∉ch:=fun b o e hx hb=>by
  rcases (hch b hb).1 with z | z
  ·exact hx z
  ·exact absurd (Nat.lt_of_lt_of_le (Heap.lt_size e) z) (Nat.lt_irrefl _)
 have cellK:∀ x c,X.env.cells.lookup x=some c→∀ v,s.heap.IsCell c v→h'.IsCell c v:=fun x c e v ⟨o,ho,hd⟩=>by
  have nch:c∉ch:=fun z=>(hch c z).2.2.1 x c e rfl
  by_cases hc:c∈X.fs
  ·obtain ⟨sl,q⟩:=slot c o (I.cne x c e) hc nch ho (I.freeC x c e)
   exact ⟨_,q,hd⟩
  ·exact ⟨o,keep c o (I.cne x c e) hc nch ho (I.freeC x c e),hd⟩
 refine ⟨I.ok,I.os,hg,⟨fun b o e n hb hx=>?_,fun b o e n hb hx=>?_,fun b o e n hx=>?_,fun b o e hx=>?_,fun b xs e=>tups b xs (I.base.tups b xs e),fun b o xs e=>frzs b o xs (I.base.frzs b o xs e),fun b ps e=>?_⟩,?_,fun x c e=>?_,?_,fun x c e=>?_,fun p hp=>?_,hok,I.len⟩
 ·exact keep b o (neL b o e) hb (neC b o e hx) (I.base.keep b o e n hb hx) (I.base.free b o e n hx)
 ·obtain ⟨sl,e1⟩:=I.base.slot b o e n hb hx
  obtain ⟨sl',e2⟩:=slot b _ (neL b o e) hb (neC b o e hx) e1 (I.base.free b o e n hx)
  exact ⟨sl',e2⟩
 ·obtain ⟨o',e1⟩:=I.base.there b o e hx
  exact free b o' (neC b o e hx) e1 (I.base.free b o e n hx)
 ·obtain ⟨o',e1⟩:=I.base.there b o e hx
  exact there b o' (neC b o e hx) e1
 ·obtain ⟨m1,e1⟩:=I.base.tbls b ps e
  obtain ⟨m2,e2⟩:=tbls b _ e1
  exact ⟨m1++m2,by rw [e2,Array.append_assoc]⟩
 ·obtain ⟨m,hn,hl⟩:=I.loc
  refine ⟨m,ns m hn,fun i x v e1 e2 e3=>?_⟩
  obtain ⟨u,r,l⟩:=hl i x v e1 e2 e3
  refine ⟨u,r,?_⟩
  rcases l with l | ⟨k,c,e,z⟩
  ·exact .inl l
  ·exact .inr ⟨k,c,e,cellK x c e _ z⟩
 ·obtain ⟨v,z⟩:=I.cell x c e
  exact ⟨v,cellK x c e v z⟩
 ·obtain ⟨m,⟨o,_,_,ho,_⟩,_⟩:=I.loc
  exact free _ o (fun z=>(hch _ z).2.1 rfl) ho I.free
 ·obtain ⟨v,o,ho,hd⟩:=I.cell x c e
  exact free c o (fun z=>(hch c z).2.2.1 x c e rfl) ho (I.freeC x c e)
 ·obtain ⟨e,n,ne,nf,d⟩:=I.pin p hp
  have nch:p.1∉ch:=fun z=>(hch p.1 z).2.2.2 p hp rfl
  exact ⟨keep p.1 p.2 ne nf nch e n,free p.1 p.2 nch e n,ne,nf,d⟩
theorem Inv.un {t':Nat} (I:Inv X pins σ H s) (u:Un X.fs [] H H' s.heap h') (hok:HOk X.prog X.w H' h'):Inv X pins σ H' { s with heap:=h',toks:=t' }:=by
 obtain ⟨m,⟨o,es,ep,ho,r⟩,_⟩:=id I.loc
 obtain ⟨sl,hL⟩:=u.any ho I.free (by simp)
 exact I.step (g':=s.gens) (d':=s.drawn) (ch:=[]) (fun _ z=>nomatch z) (fun b o _ hb _ e n=>u.keep b o e n hb (by simp)) (fun b o _ hb _ e n=>u.slot b o e n hb (by simp)) (fun b o _ e n=>u.free b o e n (by simp)) (fun b o _ e=>u.there b o e (by simp)) u.tups u.frzs u.tbls (fun m' hm=>by
  obtain ⟨o',es',ep',ho',r'⟩:=hm
  rw [ho] at ho';cases ho'
  exact ⟨_,es',ep',hL,r'⟩) hok I.bare
theorem Inv.call {g':Array GenState} {t':Nat} {d':Drawn} {ch:List Addr} (I:Inv X pins σ H s) (u:Un (frs X.stack) ch H H' s.heap h') (hok:HOk X.prog X.w H' h') (hg:AllBare g')
  (hch:∀ b∈ch,(b∈X.ex∨X.s₀.heap.objs.size≤b)∧b≠X.env.locals∧(∀ x c,X.env.cells.lookup x=some c→c≠b)∧∀ p∈X.pn++pins,p.1≠b) :
  Inv X pins σ H' { s with heap:=h',gens:=g',drawn:=d',toks:=t' }:=by
 obtain ⟨m,⟨o,es,ep,ho,r⟩,_⟩:=id I.loc
 obtain ⟨sl,hL⟩:=u.any ho I.free fun z=>(hch _ z).2.1 rfl
 exact I.step (ch:=ch) hch (fun b o hL hb hc e n=>u.keep b o e n (fun z=>(List.mem_cons.mp (I.mL b z)).elim hL hb) hc) (fun b o _ _ hc e n=>u.any e n hc) (fun b o hc e n=>u.free b o e n hc) (fun b o hc e=>u.there b o e hc) u.tups u.frzs u.tbls (fun m' hm=>by
  obtain ⟨o',es',ep',ho',r'⟩:=hm
  rw [ho] at ho';cases ho'
  exact ⟨_,es',ep',hL,r'⟩) hok hg
theorem Inv.turned {t':Nat} {it:Addr} (I:Inv X pins σ H s) (k:∀ b o,b≠it→s.heap.get? b=some o→h'.get? b=some o) (hn:H it=none) (hL:it≠X.env.locals)
  (h1:it∈X.ex∨X.s₀.heap.objs.size≤it) (h2:∀ x c,X.env.cells.lookup x=some c→c≠it) (h3:∀ p∈X.pn++pins,p.1≠it):Inv X pins σ H { s with heap:=h',toks:=t' }:=by
 have nit:∀ b u,H b=some u→b≠it:=fun b u e z=>by rw [z,hn] at e;cases e
 refine I.step (g':=s.gens) (d':=s.drawn) (ch:=[it]) (fun b hb=>?_) (fun b o _ _ hc e _=>k b o (fun z=>hc (by simp [z])) e) (fun b o _ _ hc e _=>⟨o.slots,k b o (fun z=>hc (by simp [z])) e⟩) (fun _ _ _ _ n=>n)
  (fun b o hc e=>⟨o,k b o (fun z=>hc (by simp [z])) e⟩) (fun _ _ e=>e) (fun _ _ _ e=>e) (fun b ps e=>⟨#[],by rw [e];simp⟩) (fun m hm=>?_) (fun b u e=>?_) I.bare
 ·have e:b=it:=by simpa using hb
  subst e
  exact ⟨h1,hL,h2,h3⟩
 ·obtain ⟨o,es,ep,ho,r⟩:=hm
  exact ⟨o,es,ep,k _ o (Ne.symm hL) ho,r⟩
 ·refine (I.hok b u e).mV (fun c v hc q=>k c v ?_ q) (fun _ q=>q) fun _ _ q=>q
  rcases hc with z | z
  ·rw [z];exact nit b u e
  ·exact nit c _ z
theorem Inv.tok (I:Inv X pins σ H s) (t:Nat):Inv X pins σ H { s with toks:=t }:=I.un (h':=s.heap) (t':=t) Un.refl I.hok
theorem Inv.kept {t':Nat} (I:Inv X pins σ H s) (k:∀ b u,s.heap.get? b=some u→h'.get? b=some u):Inv X pins σ H { s with heap:=h',toks:=t' }:=I.un (Un.kept k) (I.hok.kept k)
theorem Inv.laid {a:Addr} {o:HO} {t':Nat} (I:Inv X pins σ H s) (k:∀ b u,s.heap.get? b=some u→h'.get? b=some u) (hp:s.heap.objs.size≤a) (new:bA X.prog X.w (upd H a o) h' a o) :
  Inv X pins σ (upd H a o) { s with heap:=h',toks:=t' }:=I.un (Un.laid k hp (I.hok.fresh hp)) (I.hok.laid k hp new)
theorem Inv.write {x e:Addr} {o:HO} {t':Nat} (I:Inv X pins σ H s) (mu:Mut (H x)) (he:e=x∨H e=some (.own x)) (k:∀ b u,b≠e→s.heap.get? b=some u→h'.get? b=some u) (heo:∃ u,h'.get? e=some u)
  (new:bA X.prog X.w (upd H x o) h' x o):Inv X pins σ (upd H x o) { s with heap:=h',toks:=t' }:=I.un (Un.write mu he k heo) (I.hok.write mu he k heo new)
theorem Inv.m8 {pins':List (Addr×Obj)} (I:Inv X pins σ H s) (h:∀ p∈pins',s.heap.get? p.1=some p.2∧H p.1=none∧p.1≠X.env.locals∧p.1∉X.fs∧∀ v,p.2.data≠.cell v):Inv X pins' σ H s:=
 ⟨I.ok,I.os,I.bare,I.base,I.loc,I.cell,I.free,I.freeC,fun p hp=>(List.mem_append.mp hp).elim (fun z=>I.pin p (List.mem_append_left _ z)) (h p),I.hok,I.len⟩
theorem qm {N:List Str} (hN:N.Nodup) {i j:Nat} {x:Str} (a:N[i]?=some x) (b:N[j]?=some x):i=j:=by
 obtain ⟨h1,e1⟩:=List.getElem?_eq_some_iff.mp a
 obtain ⟨h2,e2⟩:=List.getElem?_eq_some_iff.mp b
 exact (List.getElem_inj hN).mp (e1.trans e2.symm)
theorem uU {M:Model} {A:Around} {E:Value→Shared→Prop} {i:Nat} {x:Str} {v:V} {u:Value} {Q:Unit→Shared→Prop} (I:Inv X pins σ H s) (hN:X.N.Nodup) (hi:X.N[i]?=some x) (hx:Loc X.env.scope x) (r:RelV v u)
  (h:∀ s',Inv X pins (σ.set i (some v)) H s'→(∃ a,Heap.SameBut a s.heap s'.heap∧(a=X.env.locals∨X.env.cells.lookup x=some a))→Q () s') (hf:X.fn x=true∨X.env.scope.names.lookup x=some .local:=by first | exact .inl rfl | exact .inr rfl | assumption):wpAny M A (storeName X.env x u) Q E s:=by
 obtain ⟨m,hn,hl⟩:=id I.loc
 have hcls:(X.env.scope.kind == .class || (X.env.scope.kind == .module && X.env.locals != X.env.globals))=false:=by rw [I.ok.kind];rfl
 have hiσ:i < σ.length:=by rw [I.len];exact (List.getElem?_eq_some_iff.mp hi).1
 have cne:=I.cne
 have tracked:∀ {a:Addr} {h':Heap},(∃ o,s.heap.get? a=some o∧H a=none)→Heap.SameBut a s.heap h'→HOk X.prog X.w H h':=fun {a h'} ha hs b ob e=>by
  obtain ⟨_,_,hfree⟩:=ha
  refine (I.hok b ob e).mV (fun c w' hc q=>(hs.2 c ?_).trans q) (fun _ q=>q) fun _ _ q=>q
  rintro rfl
  rcases hc with rfl | hc
  ·rw [hfree] at e;cases e
  ·rw [hfree] at hc;cases hc
 rcases hx with hk | hk
 ·refine wpAny_storeName_local hk hn (fun h' hn' hs=>?_) hcls
  obtain ⟨oL,_,_,hoL,_⟩:=id hn
  refine h _ ⟨I.ok,I.os,I.bare,⟨fun b o e n hb hx=>?_,fun b o e n hb hx=>?_,I.base.free,fun b o e hx=>?_,I.base.tups,I.base.frzs,I.base.tbls⟩,⟨_,hn',fun j y v' e1 e2 e3=>?_⟩,fun y c e=>?_,I.free,I.freeC,fun p hp=>?_,tracked ⟨oL,hoL,I.free⟩ hs,by simpa using I.len⟩ ⟨_,hs,.inl rfl⟩
  ·exact (hs.2 b (Nat.ne_of_lt (Nat.lt_of_lt_of_le (Heap.lt_size e) I.ok.above))).trans (I.base.keep b o e n hb hx)
  ·obtain ⟨sl,e1⟩:=I.base.slot b o e n hb hx
   exact ⟨sl,(hs.2 b (Nat.ne_of_lt (Nat.lt_of_lt_of_le (Heap.lt_size e) I.ok.above))).trans e1⟩
  ·obtain ⟨o',e1⟩:=I.base.there b o e hx
   exact ⟨o',(hs.2 b (Nat.ne_of_lt (Nat.lt_of_lt_of_le (Heap.lt_size e) I.ok.above))).trans e1⟩
  ·by_cases hj:j=i
   ·subst hj
    rw [hi] at e1;cases e1
    rw [List.getElem?_set_self hiσ] at e2
    cases e2
    exact ⟨u,r,.inl ⟨hk,by simp⟩⟩
   ·rw [List.getElem?_set_ne (Ne.symm hj)] at e2
    obtain ⟨u',r',q⟩:=hl j y v' e1 e2 e3
    refine ⟨u',r',?_⟩
    rcases q with ⟨k,e⟩ | ⟨k,c,e,z⟩
    ·refine .inl ⟨k,?_⟩
     have:y≠x:=fun e=>hj (qm hN e1 (e ▸ hi))
     simp [this,e]
    ·exact .inr ⟨k,c,e,z.sameBut hs (cne y c e)⟩
  ·obtain ⟨w',z⟩:=I.cell y c e
   exact ⟨w',z.sameBut hs (cne y c e)⟩
  ·obtain ⟨e,n,ne,nf,d⟩:=I.pin p hp
   exact ⟨(hs.2 p.1 ne).trans e,n,ne,nf,d⟩
 ·have hfn:X.fn x=true:=by
   rcases hf with z | z
   ·exact z
   ·rw [z] at hk;cases hk
  obtain ⟨c,hc⟩:=I.ok.has x (.inl hk)
  obtain ⟨w',z⟩:=I.cell x c hc
  refine wpAny_storeName_cell I.ok.kind hk hc z (fun h' hc' hs=>?_)
  obtain ⟨oc,hoc,hocd⟩:=id z
  refine h { s with heap:=h' } ⟨I.ok,I.os,I.bare,⟨fun b o e n hb hx=>?_,fun b o e n hb hx=>?_,I.base.free,fun b o e hx=>?_,I.base.tups,I.base.frzs,I.base.tbls⟩,⟨m,hn.sameBut hs (Ne.symm (cne x c hc)),fun j y v' e1 e2 e3=>?_⟩,fun y c' e=>?_,I.free,I.freeC,fun p hp=>?_,tracked ⟨oc,hoc,I.freeC x c hc⟩ hs,by simpa using I.len⟩ ⟨c,hs,.inr hc⟩
  ·exact (hs.2 b (Nat.ne_of_lt (Nat.lt_of_lt_of_le (Heap.lt_size e) (I.ok.cab x c hfn hc)))).trans (I.base.keep b o e n hb hx)
  ·obtain ⟨sl,e1⟩:=I.base.slot b o e n hb hx
   exact ⟨sl,(hs.2 b (Nat.ne_of_lt (Nat.lt_of_lt_of_le (Heap.lt_size e) (I.ok.cab x c hfn hc)))).trans e1⟩
  ·obtain ⟨o',e1⟩:=I.base.there b o e hx
   exact ⟨o',(hs.2 b (Nat.ne_of_lt (Nat.lt_of_lt_of_le (Heap.lt_size e) (I.ok.cab x c hfn hc)))).trans e1⟩
  ·by_cases hj:j=i
   ·subst hj
    rw [hi] at e1;cases e1
    rw [List.getElem?_set_self hiσ] at e2
    cases e2
    exact ⟨u,r,.inr ⟨.inl hk,c,hc,hc'⟩⟩
   ·rw [List.getElem?_set_ne (Ne.symm hj)] at e2
    obtain ⟨u',r',q⟩:=hl j y v' e1 e2 e3
    refine ⟨u',r',?_⟩
    rcases q with q | ⟨k,c',e,z'⟩
    ·exact .inl q
    ·refine .inr ⟨k,c',e,z'.sameBut hs ?_⟩
     rintro rfl
     exact hj (qm hN e1 (I.ok.inj _ _ _ e hc ▸ hi))
  ·by_cases hcc:c'=c
   ·subst hcc;exact ⟨_,hc'⟩
   ·obtain ⟨w2,z2⟩:=I.cell y c' e
    exact ⟨w2,z2.sameBut hs hcc⟩
  ·obtain ⟨e,n,ne,nf,d⟩:=I.pin p hp
   refine ⟨(hs.2 p.1 ?_).trans e,n,ne,nf,d⟩
   intro q
   rw [q,hoc] at e
   have q':oc=p.2:=Option.some.inj e
   exact d w' (by rw [← q'];exact hocd)
theorem lj {M:Model} {A:Around} {E:Value→Shared→Prop} {i:Nat} {x:Str} {v:V} {u:Value} {Q:Unit→Shared→Prop} (I:Inv X pins σ H s) (hN:X.N.Nodup) (hi:X.N[i]?=some x) (hx:Loc X.env.scope x) (r:RelV v u)
  (h:∀ s',Inv X pins (σ.set i (some v)) H s'→Q () s') (hf:X.fn x=true∨X.env.scope.names.lookup x=some .local:=by first | exact .inl rfl | exact .inr rfl | assumption):wpAny M A (storeName X.env x u) Q E s:=
 uU I hN hi hx r (fun s' I' _=>h s' I') hf
theorem Inv.CH {s':Shared} {ch:List Addr} (I:Inv X pins σ H s) (ho:s'.os=s.os) (u:Un (frs X.stack) ch H H' s.heap s'.heap) (hok:HOk X.prog X.w H' s'.heap) (hg:AllBare s'.gens)
  (hch:∀ b∈ch,(b∈X.ex∨X.s₀.heap.objs.size≤b)∧b≠X.env.locals∧(∀ x c,X.env.cells.lookup x=some c→c≠b)∧∀ p∈X.pn++pins,p.1≠b):Inv X pins σ H' s':=by
 obtain ⟨h',g',d',t',o'⟩:=s'
 have e:o'=s.os:=ho
 subst e
 exact I.call (g':=g') (t':=t') (d':=d') u hok hg hch
end
abbrev XK:=Value→Option Addr→Hp→Prop
abbrev St:=List (Option V)
abbrev VK:=V→Hp→Prop
abbrev TE:=St→Hp→VK→Prop
abbrev TT:=St→Hp→(Bool→Hp→Prop)→Prop
abbrev TA:=St→Hp→(List V→Hp→Prop)→Prop
structure Ends where
 nx:St→Hp→Prop
 rt:VK
 bk:St→Hp→Prop:=fun _ _=>False
 ct:St→Hp→Prop:=fun _ _=>False
abbrev TS:=Ends→St→Hp→Prop
def EP (X:Cx) (pins:List (Addr×Obj)) (σ:St) (Q:VK) (u:Value) (s':Shared):Prop:=∃ v H',Inv X pins σ H' s'∧RelV v u∧Q v H'
def TP (X:Cx) (pins:List (Addr×Obj)) (σ:St) (Q:Bool→Hp→Prop) (b:Bool) (s':Shared):Prop:=∃ H',Inv X pins σ H' s'∧Q b H'
def AP (X:Cx) (pins:List (Addr×Obj)) (σ:St) (Q:List V→Hp→Prop) (us:List Value) (s':Shared):Prop:=∃ vs H',Inv X pins σ H' s'∧Vals vs us∧Q vs H'
def SP (X:Cx) (pins:List (Addr×Obj)) (D:Ends) (f:Flow) (s':Shared):Prop:=
 match f with
 | .next=>∃ σ' H',Inv X pins σ' H' s'∧D.nx σ' H'
 | .brk=>∃ σ' H',Inv X pins σ' H' s'∧D.bk σ' H'
 | .cont=>∃ σ' H',Inv X pins σ' H' s'∧D.ct σ' H'
 | .ret u=>∃ v σ' H',Inv X pins σ' H' s'∧RelV v u∧D.rt v H'
def PE (X:Cx) (e:Expr) (t:TE):Prop:=
 ∀ (pins:List (Addr×Obj)) (s:Shared) (σ:St) (H:Hp) (Q:VK),Inv X pins σ H s→t σ H Q→wpAny (model X.prog X.w) X.A (eval e X.env) (EP X pins σ Q) X.xe s
def PT (X:Cx) (e:Expr) (t:TT):Prop:=
 ∀ (pins:List (Addr×Obj)) (s:Shared) (σ:St) (H:Hp) (Q:Bool→Hp→Prop),Inv X pins σ H s→t σ H Q→wpAny (model X.prog X.w) X.A (isTrue e X.env (eval e X.env)) (TP X pins σ Q) X.xe s
def PW (X:Cx) (e:Expr) (t:TT):Prop:=
 ∀ (whole:Sem Value) (pins:List (Addr×Obj)) (s:Shared) (σ:St) (H:Hp) (Q:Bool→Hp→Prop),Inv X pins σ H s→t σ H Q→wpAny (model X.prog X.w) X.A (isTrue e X.env whole) (TP X pins σ Q) X.xe s
theorem PW.pt {X:Cx} {e:Expr} {t:TT} (h:PW X e t):PT X e t:=h _
def PA (X:Cx) (es:List Expr) (t:TA):Prop:=
 ∀ (pos:Pos) (pins:List (Addr×Obj)) (s:Shared) (σ:St) (H:Hp) (Q:List V→Hp→Prop),Inv X pins σ H s→t σ H Q→wpAny (model X.prog X.w) X.A (spliced (backTo pos (starEach es X.env))) (AP X pins σ Q) X.xe s
def PS (X:Cx) (st:Stmt) (t:TS):Prop:=
 ∀ (pins:List (Addr×Obj)) (s:Shared) (σ:St) (H:Hp) (D:Ends),Inv X pins σ H s→t D σ H→wpAny (model X.prog X.w) X.A (exec st X.env) (SP X pins D) X.xe s
def PSs (X:Cx) (st:List Stmt) (t:TS):Prop:=
 ∀ (pins:List (Addr×Obj)) (s:Shared) (σ:St) (H:Hp) (D:Ends),Inv X pins σ H s→t D σ H→wpAny (model X.prog X.w) X.A (execs st X.env) (SP X pins D) X.xe s
theorem thn {α:Type} {t:Sem α} {Q Q':α→Shared→Prop} {M:Model} {A:Around} {E:Value→Shared→Prop} {s:Shared} (h:wpAny M A t Q E s) (hQ:∀ a s,Q a s→Q' a s):wpAny M A t Q' E s:=wpAny_mono h hQ fun _ _ x=>x
section
variable {X:Cx}
def Ee (i:Nat):TE:=fun σ H Q=>∃ v,σ[i]?=some (some v)∧Q v H
def tC (v:V):TE:=fun _ H Q=>Q v H
theorem As {i:Nat} {x:Str} {pos:Pos} (hN:X.N[i]?=some x) (hv:Vis X.env.scope x) (hd:(x == ("__debug__":Str))=false:=by decide) (hcd:(x == ("__classdict__":Str))=false:=by decide):PE X (.Name x pos) (Ee i):=by
 intro pins s σ H Q I h
 obtain ⟨v,e,h⟩:=h
 obtain ⟨m,hn,hl⟩:=I.loc
 obtain ⟨u,r,l⟩:=hl i x v hN e hv
 have fin:EP X pins σ Q u s:=⟨v,H,I,r,h⟩
 rcases l with ⟨hk,hm⟩ | ⟨hk,c,hc,hcell⟩
 ·exact wpAny_Name (wpAny_loadName_local I.ok.kind hk hn hm fin) hd
 ·rcases hk with hk | hk
  ·exact wpAny_Name (wpAny_loadName_cell I.ok.kind hk hc hcell fin) hd
  ·exact wpAny_Name (wpAny_loadName_free I.ok.kind hk hc hcell fin hcd) hd
theorem zE {i j pos}:PE X (.Constant (.int i) j pos) (tC (.int i)):=fun _ _ _ H _ I h=>wpAny_Constant_int ⟨.int i,H,I.tok _,⟨_,rfl⟩,h⟩
theorem Dz {b j pos}:PE X (.Constant (.bool b) j pos) (tC (.bl b)):=fun _ _ _ H _ I h=>Constant_bool ⟨.bl b,H,I,rfl,h⟩
theorem BH {j pos}:PE X (.Constant .none j pos) (tC .non):=fun _ _ _ H _ I h=>Constant_none ⟨.non,H,I,rfl,h⟩
theorem zJ {x j pos}:PE X (.Constant (.str x) j pos) (tC (.str x)):=fun _ _ _ H _ I h=>Calls.Constant_str ⟨.str x,H,I.tok _,⟨_,rfl⟩,h⟩
def Gl (X:Cx) (x:Str):Prop:=X.env.kindOf x=some .globalImplicit
theorem yk {E:Value→Shared→Prop} {pins:List (Addr×Obj)} {s:Shared} {σ:St} {H:Hp} {x:Str} {u:Value} {pos:Pos} {Q:Value→Shared→Prop} (I:Inv X pins σ H s) (hg:Gl X x) (hm:X.mg x=some u) (h:Q u s)
  (hd:(x == ("__debug__":Str))=false:=by decide):wpAny (model X.prog X.w) X.A (eval (.Name x pos) X.env) Q E s:=
 Calls.Name_function_global I.ok.kind hg (Calls.loadGlobal_global (by rw [I.ok.glob];exact I.mod.glob.keeps I.bk) hm h) hd
theorem cH {E:Value→Shared→Prop} {pins:List (Addr×Obj)} {s:Shared} {σ:St} {H:Hp} {x:Str} {u:Value} {pos:Pos} {Q:Value→Shared→Prop} (I:Inv X pins σ H s) (hg:Gl X x) (hm:X.mg x=none) (hv:bootBuiltins x=some u) (h:Q u s)
  (hn:x≠"__name__":=by decide) (hd:(x == ("__debug__":Str))=false:=by decide):wpAny (model X.prog X.w) X.A (eval (.Name x pos) X.env) Q E s:=by
 obtain ⟨mb,h1,h2⟩:=I.mod.blt
 exact Calls.Name_function_global I.ok.kind hg (Calls.loadGlobal_builtin (by rw [I.ok.glob];exact I.mod.glob.keeps I.bk) hm (by rw [I.ok.blt];exact h1.keeps I.bk) ((h2 x hn).trans hv) h) hd
theorem yA {x:Str} {v:V} {u:Value} {pos:Pos} (hg:Gl X x) (hm:X.mg x=none) (hv:bootBuiltins x=some u) (r:RelV v u) (hn:x≠"__name__":=by decide) (hd:(x == ("__debug__":Str))=false:=by decide):PE X (.Name x pos) (tC v):=
 fun _ _ _ H _ I h=>cH I hg hm hv ⟨v,H,I,r,h⟩ hn hd
variable {a b:Expr} {ta tb:TE} {pos:Pos}
variable {tA tB':TT} {rest:List Expr}
def tOr (t u:TT):TT:=fun σ H Q=>t σ H fun c H1=>if c=true then Q true H1 else u σ H1 Q
def EO (t:TT):TT:=fun σ H Q=>t σ H fun c H1=>Q (!c) H1
theorem Bm (ha:PT X a tA):PW X (.BoolOp .Or [a] pos) tA:=by
 intro wh pins s σ H Q I h
 refine isTrue_or (thn (ha pins s σ H Q I h) fun c s1 e=>?_)
 cases c with
 | false=>exact isTrue_or_nil e
 | true=>exact e
theorem C6 (ha:PT X a tA) (hb:PW X (.BoolOp .Or (b :: rest) pos) tB'):PW X (.BoolOp .Or (a :: b :: rest) pos) (tOr tA tB'):=by
 intro wh pins s σ H Q I h
 refine isTrue_or (thn (ha pins s σ H _ I h) fun c s1 ⟨H1,I1,q1⟩=>?_)
 cases c with
 | true=>exact ⟨H1,I1,q1⟩
 | false=>exact hb wh pins s1 σ H1 Q I1 q1
theorem z3 (ha:PT X a tA):PT X (.UnaryOp .Not a pos) (EO tA):=by
 intro pins s σ H Q I h
 exact isTrue_not (ha pins s σ H (fun c H1=>Q (!c) H1) I h)
def CN (ta tb:TE):TE:=fun σ H Q=>ta σ H fun x H1=>∃ c,x=.bl c∧if c=true then tb σ H1 Q else Q (.bl false) H1
def CU (ta:TE):TE:=fun σ H Q=>ta σ H fun x H1=>∃ c,x=.bl c∧Q (.bl (!c)) H1
theorem Be {op} {t:TE} (h:PE X a t):PE X (.BoolOp op [a] pos) t:=fun pins s σ H Q I hw=>BoolOp_one (h pins s σ H Q I hw)
theorem A5 (ha:PE X a ta) (hb:PE X (.BoolOp .And (b :: rest) pos) tb):PE X (.BoolOp .And (a :: b :: rest) pos) (CN ta tb):=by
 intro pins s σ H Q I h
 refine BoolOp_and (thn (ha pins s σ H _ I h) fun v s1 ⟨x,H1,I1,r1,q1⟩=>?_)
 obtain ⟨c,rfl,q1⟩:=q1
 cases r1
 refine wpAny_truthy_bool ?_
 cases c with
 | true=>exact hb pins s1 σ H1 Q I1 q1
 | false=>exact ⟨.bl false,H1,I1,rfl,q1⟩
theorem Bz (ha:PE X a ta):PE X (.UnaryOp .Not a pos) (CU ta):=by
 intro pins s σ H Q I h
 refine UnaryOp_ (thn (ha pins s σ H _ I h) fun v s1 ⟨x,H1,I1,r1,q1⟩=>?_)
 obtain ⟨c,rfl,q1⟩:=q1
 cases r1
 exact not_of (wpAny_truthy_bool ⟨.bl (!c),H1,I1,rfl,q1⟩)
end
def SqL (K:PySem.W.Frag) (H:Hp) (a:Addr) (xs:List V):Prop:=
 Rd H a (.lst xs) ∨
  ∃ (o:Obj) (its:Array Value) (n:Nat),K.lookup a=some o∧o.cls=.type "list"∧o.dict=none∧o.data=.seq its n∧its.size≤sizeLine∧Vals xs its.toList
def SqT (K:PySem.W.Frag) (H:Hp) (a:Addr) (xs:List V):Prop:=
 Rd H a (.tup xs) ∨
  ∃ (o:Obj) (its:Array Value) (n:Nat),K.lookup a=some o∧o.cls=.type "tuple"∧o.data=.seq its n∧its.size≤sizeLine∧Vals xs its.toList
def D7:Value→Option V
 | .none=>some .non
 | .bool b=>some (.bl b)
 | .int i _=>some (.int i)
 | .str x _=>some (.str x)
 | .bytes b _=>some (.byt b)
 | .float b _=>some (.flt b)
 | .ref a=>some (.ref a)
 | .type n=>some (.ty n)
 | _=>none
theorem RelV.abs {x:V} {u:Value} (r:RelV x u):D7 u=some x:=by
 cases x with
 | non=>cases r;rfl
 | bl _=>cases r;rfl
 | int _=>obtain ⟨t,rfl⟩:=r;rfl
 | str _=>obtain ⟨t,rfl⟩:=r;rfl
 | byt _=>obtain ⟨t,rfl⟩:=r;rfl
 | flt _=>obtain ⟨t,rfl⟩:=r;rfl
 | ref _=>cases r;rfl
 | ty _=>cases r;rfl
theorem RelV.inj {x y:V} {u:Value} (r:RelV x u) (q:RelV y u):x=y:=Option.some.inj (r.abs.symm.trans q.abs)
theorem Vals.inj:∀ {xs ys:List V} {us:List Value},Vals xs us→Vals ys us→xs=ys
 | _,_,_,.nil,.nil=>rfl
 | _,_,_,.cons r t,.cons r' t'=>by rw [r.inj r',Vals.inj t t']
section
variable {X:Cx} {pins:List (Addr×Obj)} {σ:St} {H:Hp} {s:Shared} {a:Addr} {xs ys:List V}
theorem SqL.of {K:PySem.W.Frag} (h:H a=some (.lst xs)):SqL K H a xs:=.inl (.inl h)
theorem SqT.of {K:PySem.W.Frag} (h:H a=some (.tup xs)):SqT K H a xs:=.inl (.inl h)
theorem Inv.list (I:Inv X pins σ H s) (h:SqL X.K H a xs):∃ its:List Value,Vals xs its∧PlainL s.heap a its.toArray∧xs.length≤sizeLine:=by
 rcases h with h | ⟨o,its,n,hk,hc,hd,hs,hz,r⟩
 ·obtain ⟨z,its,n,r,e⟩:=h.ok I.hok
  exact ⟨its,r,⟨_,n,e,rfl,rfl,rfl⟩,z⟩
 ·refine ⟨its.toList,r,⟨o,n,I.kIn a o hk,hc,hd,by simpa using hs⟩,?_⟩
  have e:=r.length
  simp only [Array.length_toList] at e
  omega
theorem Inv.tuple (I:Inv X pins σ H s) (h:SqT X.K H a xs):∃ its:List Value,Vals xs its∧IsTup s.heap a its.toArray∧xs.length≤sizeLine:=by
 rcases h with h | ⟨o,its,n,hk,hc,hs,hz,r⟩
 ·obtain ⟨z,its,r,p⟩:=h.ok I.hok
  exact ⟨its,r,p,z⟩
 ·refine ⟨its.toList,r,⟨o,I.kIn a o hk,hc,n,by simpa using hs⟩,?_⟩
  have e:=r.length
  simp only [Array.length_toList] at e
  omega
theorem Inv.pQ (I:Inv X pins σ H s) (h:SqL X.K H a xs) (h':SqL X.K H a ys):xs=ys:=by
 obtain ⟨its,r,⟨o,n,e,_,_,d⟩,_⟩:=I.list h
 obtain ⟨its',r',⟨o',n',e',_,_,d'⟩,_⟩:=I.list h'
 rw [e] at e';cases e'
 rw [d] at d'
 injection d' with d1 _
 have:its=its':=by simpa using congrArg Array.toList d1
 subst this
 exact r.inj r'
theorem Inv.u7 (I:Inv X pins σ H s) (h:SqT X.K H a xs) (h':SqT X.K H a ys):xs=ys:=by
 obtain ⟨its,r,⟨o,e,_,n,d⟩,_⟩:=I.tuple h
 obtain ⟨its',r',⟨o',e',_,n',d'⟩,_⟩:=I.tuple h'
 rw [e] at e';cases e'
 rw [d] at d'
 injection d' with d1 _
 have:its=its':=by simpa using congrArg Array.toList d1
 subst this
 exact r.inj r'
end
abbrev Cx.iB (X:Cx) (E:Value→Shared→Prop):Cx:={ X with xe:=E }
abbrev Cx.nox (X:Cx):Cx:=X.iB fun _ _=>False
theorem Cx.Ok.iB {X:Cx} (ok:X.Ok) (E:Value→Shared→Prop):(X.iB E).Ok:=
 ⟨ok.mod,ok.kind,ok.glob,ok.blt,ok.above,ok.inj,ok.has,ok.cab,ok.hd,ok.frames,ok.stk,ok.exf,ok.bs,ok.bsz,ok.noex,ok.exfs,ok.gr,ok.frf⟩
theorem Cx.Ok.fm {X:Cx} {E:Value→Shared→Prop} (ok:(X.iB E).Ok):X.Ok:=
 ⟨ok.mod,ok.kind,ok.glob,ok.blt,ok.above,ok.inj,ok.has,ok.cab,ok.hd,ok.frames,ok.stk,ok.exf,ok.bs,ok.bsz,ok.noex,ok.exfs,ok.gr,ok.frf⟩
section
variable {X:Cx} {pins:List (Addr×Obj)} {σ:St} {H:Hp} {s:Shared} {E:Value→Shared→Prop}
theorem Inv.iB (I:Inv X pins σ H s) (E:Value→Shared→Prop):Inv (X.iB E) pins σ H s:=⟨I.ok.iB E,I.os,I.bare,I.base,I.loc,I.cell,I.free,I.freeC,I.pin,I.hok,I.len⟩
theorem Inv.fm (I:Inv (X.iB E) pins σ H s):Inv X pins σ H s:=⟨I.ok.fm,I.os,I.bare,I.base,I.loc,I.cell,I.free,I.freeC,I.pin,I.hok,I.len⟩
theorem SP.fm {D:Ends} {f:Flow} {s':Shared} (h:SP (X.iB E) pins D f s'):SP X pins D f s':=by
 cases f with
 | next=>obtain ⟨σ',H',I,q⟩:=h;exact ⟨σ',H',I.fm,q⟩
 | brk=>obtain ⟨σ',H',I,q⟩:=h;exact ⟨σ',H',I.fm,q⟩
 | cont=>obtain ⟨σ',H',I,q⟩:=h;exact ⟨σ',H',I.fm,q⟩
 | ret u=>obtain ⟨v,σ',H',I,r,q⟩:=h;exact ⟨v,σ',H',I.fm,r,q⟩
theorem PSs.nox {st:List Stmt} {t:TS} (h:PSs X.nox st t):PSs X st t:=fun pins s σ H D I hw=>
 wpAny_mono (h pins s σ H D (I.iB _) hw) (fun _ _ q=>q.fm) fun _ _ z=>False.elim z
end
section
variable {X:Cx} {st:Stmt} {rest:List Stmt} {t u:TS} {e:Expr} {te:TE} {pos:Pos}
def CZ:TS:=fun D σ H=>D.nx σ H
def Ep (t u:TS):TS:=fun D σ H=>t { D with nx:=u D } σ H
theorem yR:PSs X [] CZ:=fun _ _ σ H _ I h=>wpAny_execs_nil ⟨σ,H,I,h⟩
theorem wb (h1:PS X st t) (h2:PSs X rest u):PSs X (st :: rest) (Ep t u):=by
 intro pins s σ H D I h
 refine wpAny_execs_cons (thn (h1 pins s σ H { D with nx:=u D } I h) fun f s1 q=>?_)
 cases f with
 | next=>
  obtain ⟨σ',H',I',q⟩:=q
  exact h2 pins s1 σ' H' D I' q
 | ret v=>exact q
 | brk=>exact q
 | cont=>exact q
theorem zm (h1:PS X st t):PSs X [st] t:=by
 intro pins s σ H D I h
 refine wpAny_execs_cons (thn (h1 pins s σ H D I h) fun f s1 q=>?_)
 cases f with
 | next=>exact wpAny_execs_nil q
 | ret v=>exact q
 | brk=>exact q
 | cont=>exact q
theorem Inv.quiet {pins:List (Addr×Obj)} {σ:St} {H:Hp} {s:Shared} (I:Inv X pins σ H s):interactive X.env=false:=by simp [interactive,I.ok.kind]
def Dc (te:TE):TS:=fun D σ H=>te σ H fun _ H1=>D.nx σ H1
theorem yH (he:PE X e te) (hs:swapsWith e none pos.line X.env=pure false:=by rfl):PS X (.Expr e pos) (Dc te):=by
 intro pins s σ H D I h
 exact wpAny_Expr_any (thn (he pins s σ H _ I h) fun v s1 ⟨x,H1,I1,r1,q1⟩=>⟨σ,H1,I1,q1⟩) I.quiet hs
def ED (te:TE):TS:=fun D σ H=>te σ H D.rt
theorem zP (he:PE X e te):PS X (.Return (some e) pos) (ED te):=by
 intro pins s σ H D I h
 exact wpAny_Return_some (thn (he pins s σ H _ I h) fun v s1 ⟨x,H1,I1,r1,q1⟩=>⟨x,σ,H1,I1,r1,q1⟩)
def El (c:TT) (t u:TS):TS:=fun D σ H=>c σ H fun b H1=>if b=true then t D σ H1 else u D σ H1
theorem Co {c:Expr} {a b:List Stmt} {tc:TT} (hc:PT X c tc) (ha:PSs X a t) (hb:PSs X b u):PS X (.If c a b pos) (El tc t u):=by
 intro pins s σ H D I h
 refine wpAny_If (thn (hc pins s σ H _ I h) fun d s1 ⟨H1,I1,q1⟩=>?_)
 cases d with
 | true=>exact ha pins s1 σ H1 D I1 q1
 | false=>exact hb pins s1 σ H1 D I1 q1
end
abbrev TG:=V→St→Hp→(St→Hp→Prop)→Prop
abbrev TGs:=List V→St→Hp→(St→Hp→Prop)→Prop
def PG (X:Cx) (target:Expr) (t:TG):Prop:=
 ∀ (pins:List (Addr×Obj)) (s:Shared) (σ:St) (H:Hp) (v:V) (u:Value) (Q:St→Hp→Prop),Inv X pins σ H s→RelV v u→t v σ H Q →
  wpAny (model X.prog X.w) X.A (assign target X.env u) (fun _ s'=>∃ σ' H',Inv X pins σ' H' s'∧Q σ' H') X.xe s
def PGs (X:Cx) (ts:List Expr) (t:TGs):Prop:=
 ∀ (pins:List (Addr×Obj)) (s:Shared) (σ:St) (H:Hp) (vs:List V) (us:List Value) (Q:St→Hp→Prop),Inv X pins σ H s→Vals vs us→t vs σ H Q →
  wpAny (model X.prog X.w) X.A (assignInOrder ((assignEach ts X.env).map (·.2)) us) (fun _ s'=>∃ σ' H',Inv X pins σ' H' s'∧Q σ' H') X.xe s
abbrev oK:=V→V→V→Hp→(Hp→Prop)→Prop
def sf (X:Cx) (t:oK):Prop:=
 ∀ (pins:List (Addr×Obj)) (s:Shared) (σ:St) (H:Hp) (o i v:V) (ov iv u:Value) (Q:Hp→Prop),Inv X pins σ H s→RelV o ov→RelV i iv→RelV v u→t o i v H Q →
  wpAny (model X.prog X.w) X.A (setItem ov iv u) (fun _ s'=>∃ H',Inv X pins σ H' s'∧Q H') X.xe s
section
variable {X:Cx} {pos:Pos}
def xr (i:Nat):TG:=fun v σ H Q=>Q (σ.set i (some v)) H
theorem zo {i:Nat} {x:Str} (hN:X.N.Nodup) (hi:X.N[i]?=some x) (hx:Loc X.env.scope x) (hf:X.fn x=true∨X.env.scope.names.lookup x=some .local:=by first | exact .inl rfl | exact .inr rfl | assumption):PG X (.Name x pos) (xr i):=by
 intro pins s σ H v u Q I r h
 exact wpAny_assign_Name (lj I hN hi hx r (fun s' I'=>⟨_,H,I',h⟩) hf)
def EI:TGs:=fun vs σ H Q=>vs=[]∧Q σ H
def DD (t:TG) (u:TGs):TGs:=fun vs σ H Q=>∃ v r,vs=v :: r∧t v σ H fun σ' H'=>u r σ' H' Q
theorem ya:PGs X [] EI:=by
 intro pins s σ H vs us Q I r h
 obtain ⟨e,h⟩:=h
 subst e
 cases r
 exact assignInOrder_nil ⟨σ,H,I,h⟩
theorem vD {e:Expr} {es:List Expr} {t:TG} {u:TGs} (h1:PG X e t) (h2:PGs X es u)
  (hs:(assignEach (e :: es) X.env).map (·.2)=assign e X.env :: (assignEach es X.env).map (·.2):=by rfl):PGs X (e :: es) (DD t u):=by
 intro pins s σ H vs us Q I r h
 obtain ⟨v,vr,e1,h⟩:=h
 subst e1
 cases r with
 | cons r rr=>
  rw [hs]
  refine assignInOrder_cons (thn (h1 pins s σ H _ _ _ I r h) fun _ s1 ⟨σ1,H1,I1,q1⟩=>?_)
  exact h2 pins s1 σ1 H1 _ _ Q I1 rr q1
def EJ (K:PySem.W.Frag) (n:Nat) (t:TGs):TG:=fun v σ H Q=>∃ a xs,v=.ref a∧SqT K H a xs∧xs.length=n∧t xs σ H Q
theorem A7 {es:List Expr} {k:Nat} {t:TGs} {n:Nat} (hc:X.calm=true) (h:PGs X es t)
  (hn:(assignEach es X.env).length=n:=by rfl) (hst:(assignEach es X.env).findIdx? (·.1)=none:=by rfl):PG X (.Tuple es k pos) (EJ X.K n t):=by
 intro pins s σ H v u Q I r hw
 obtain ⟨a,xs,e1,hq,hl,hw⟩:=hw
 subst e1
 cases r
 obtain ⟨its,rv,ht,hz⟩:=I.tuple hq
 refine assign_Tuple_tuple (I.ok.hd hc) ht (by simp [hn,← hl,rv.length]) hst fun h' hx=>?_
 have I1:Inv X pins σ H { s with heap:=h' }:=I.kept (t':=s.toks) fun b o e=>hx b o (Nat.ne_of_lt (Heap.lt_size e)) e
 exact h pins _ σ H xs _ Q I1 (by simpa using rv) hw
def EW (to ti:TE) (t:oK):TG:=fun v σ H Q=>to σ H fun o H1=>ti σ H1 fun i H2=>t o i v H2 fun H3=>Q σ H3
theorem AA {o i:Expr} {to ti:TE} {t:oK} (ho:PE X o to) (hi:PE X i ti) (hs:sf X t)
  (ha:∀ v,assign (.Subscript o i pos) X.env v=(do
   let ov ← holding [v] (eval o X.env)
   let iv ← holding [v,ov] (eval i X.env)
   standAt pos
   holding [v,ov,iv] (setItem ov iv v)
   release [v,ov,iv] []):=by intro _;rfl):PG X (.Subscript o i pos) (EW to ti t):=by
 intro pins s σ H v u Q I r h
 rw [ha]
 refine wpAny_bind (wpAny_holding (thn (ho pins s σ H _ I h) fun ov s1 ⟨x,H1,I1,r1,q1⟩=>?_))
 refine wpAny_bind (wpAny_holding (thn (hi pins s1 σ H1 _ I1 q1) fun iv s2 ⟨y,H2,I2,r2,q2⟩=>?_))
 refine wpAny_bind (wpAny_standAt (wpAny_bind (wpAny_holding (thn (hs pins s2 σ H2 x y v ov iv u _ I2 r1 r2 r q2) fun _ s3 ⟨H3,I3,q3⟩=>?_))))
 exact wpAny_release ⟨σ,H3,I3,q3⟩
def Bq (te:TE) (g:TG):TS:=fun D σ H=>te σ H fun x H1=>g x σ H1 D.nx
theorem Bg {tg e:Expr} {te:TE} {g:TG} (he:PE X e te) (hg:PG X tg g) (hs:swapsWithSole [tg] e pos.line X.env=pure false:=by rfl) (hw:swappedStores [tg] e X.env=pure none:=by rfl)
  (h1:(assignEach [tg] X.env).map (·.2)=[assign tg X.env]:=by rfl):PS X (.Assign [tg] e pos) (Bq te g):=by
 intro pins s σ H D I h
 refine wpAny_Assign_stores (thn (he pins s σ H _ I h) fun v s1 ⟨x,H1,I1,r1,q1⟩=>?_) hs hw
 rw [h1]
 exact thn (hg pins s1 σ H1 x v _ I1 r1 q1) fun _ s2 q=>q
theorem AI {i:Nat} {x:Str} {e:Expr} {te:TE} {pos':Pos} (hN:X.N.Nodup) (hi:X.N[i]?=some x) (hx:Loc X.env.scope x) (he:PE X e te) (hs:swapsWith e (some (.Name x pos')) pos.line X.env=pure false:=by rfl) (hf:X.fn x=true∨X.env.scope.names.lookup x=some .local:=by first | exact .inl rfl | exact .inr rfl | assumption) :
  PS X (.Assign [.Name x pos'] e pos) (Bq te (xr i)):=by
 intro pins s σ H D I h
 refine wpAny_Assign_Name (thn (he pins s σ H _ I h) fun v s1 ⟨y,H1,I1,r1,q1⟩=>?_) hs
 exact lj I1 hN hi hx r1 (fun s2 I2=>⟨_,H1,I2,q1⟩) hf
end
section
variable {X:Cx} {pos:Pos}
end
structure It where
 go:Nat→Hp→Prop
 yld:Nat→Hp→V→Hp→Prop
 stop:Nat→Hp→Prop
def ef (X:Cx) (pins:List (Addr×Obj)) (H:Hp) (b:Addr):Prop:=
 H b=none∧b≠X.env.locals∧b∉X.fs∧(b∈X.ex∨X.s₀.heap.objs.size≤b)∧(∀ x c,X.env.cells.lookup x=some c→c≠b)∧∀ p∈X.pn++pins,p.1≠b
theorem Inv.lM {X:Cx} {pins:List (Addr×Obj)} {σ:St} {H H':Hp} {s:Shared} {b:Addr} (I:Inv X pins σ H s) (hb:s.heap.objs.size≤b) (hn:H' b=none):ef X pins H' b:=by
 refine ⟨hn,Nat.ne_of_gt (Nat.lt_of_lt_of_le I.lt hb),I.AJ hb,.inr (Nat.le_trans I.sz hb),fun x c e z=>?_,fun p hp z=>?_⟩
 ·obtain ⟨v,q⟩:=I.cell x c e
  exact absurd (Nat.lt_of_lt_of_le q.lt (by rw [z];exact hb)) (Nat.lt_irrefl _)
 ·exact absurd (Nat.lt_of_lt_of_le (Heap.lt_size (I.pin p hp).1) (by rw [z];exact hb)) (Nat.lt_irrefl _)
structure Turn (P:Program) (w:World) (K:PySem.W.Frag) (tg:Expr) (J:It) (fp:List Addr) (it:Addr) (tn:Nat→Heap→Prop):Prop where
 mem:it∈fp
 obj:∀ i h,tn i h→∀ b∈fp,∃ o,h.get? b=some o∧∀ v,o.data≠.cell v
 keep:∀ i h h',tn i h→(∀ b∈fp,∀ o,h.get? b=some o→h'.get? b=some o)→tn i h'
 item:∀ (X:Cx),X.prog=P→X.w=w→X.K=K→X.calm=true→∀ (i:Nat) (pins:List (Addr×Obj)) (s:Shared) (σ:St) (H:Hp) (E:Value→Shared→Prop),Inv X pins σ H s→(∀ b∈fp,ef X pins H b)→tn i s.heap→J.go i H →
  wpAny (model P w) X.A (pyNext (.ref it)) (fun r s1=>∃ u,r=some u ∧
   wpAny (model P w) X.A (letOwnedTupleGo tg (.ref it) u) (fun _ s2=>∃ x H',Inv X pins σ H' s2∧RelV x u∧J.yld i H x H'∧tn (i+1) s2.heap∧∀ b∈fp,H' b=none) E s1) E s
 done:∀ (X:Cx),X.prog=P→X.w=w→X.K=K→X.calm=true→∀ (i:Nat) (pins:List (Addr×Obj)) (s:Shared) (σ:St) (H:Hp) (E:Value→Shared→Prop),Inv X pins σ H s→(∀ b∈fp,ef X pins H b)→tn i s.heap→J.stop i H →
  wpAny (model P w) X.A (pyNext (.ref it)) (fun r s1=>r=none∧Inv X pins σ H s1) E s
 self:∀ (A:Around) (i:Nat) (s:Shared) (Q:Value→Shared→Prop) (E:Value→Shared→Prop),tn i s.heap→Q (.ref it) s→wpAny (model P w) A (pyIter (.ref it)) Q E s
abbrev TI:=St→Hp→(It→Hp→Prop)→Prop
def PIE (X:Cx) (pins:List (Addr×Obj)) (σ:St) (tg:Expr) (R:It→Hp→Prop) (itv:Value) (s2:Shared):Prop:=
 ∃ (it:Addr) (fp:List Addr) (tn:Nat→Heap→Prop) (J:It) (H':Hp),itv=.ref it∧Inv X pins σ H' s2∧Turn X.prog X.w X.K tg J fp it tn∧tn 0 s2.heap∧(∀ b∈fp,ef X pins H' b)∧R J H'
def PI (X:Cx) (tg iter:Expr) (wi:TI):Prop:=
 ∀ (pins:List (Addr×Obj)) (s:Shared) (σ:St) (H:Hp) (R:It→Hp→Prop),Inv X pins σ H s→wi σ H R →
  wpAny (model X.prog X.w) X.A (eval iter X.env) (fun v s1=>wpAny (model X.prog X.w) X.A (pyIter v) (PIE X pins σ tg R) X.xe s1) X.xe s
theorem tf {M : Model} {A : Around} {E : Value → Shared → Prop} {s : Shared} {tg : Expr} {it : Addr} {u : Value} {o : Obj} {n : String} {vs : Array Value} {Q : Unit → Shared → Prop} (ho : s.heap.get? it = some o) (hc : o.cls = .type n) (hd : o.data = .fields vs)
    (hn : ["enumerate", "zip", "dict_itemiterator", "dict_reverseitemiterator", "odict_iterator", "itertools.zip_longest", "itertools.pairwise"].contains n = false) (hQ : Q () s) : wpAny M A (letOwnedTupleGo tg (.ref it) u) Q E s := by
  unfold letOwnedTupleGo
  cases tg <;> first
    | exact wpAny_pure hQ
    | (cases u <;> first
        | exact wpAny_pure hQ
        | (refine wpAny_bind (wpAny_load ho ?_)
           rw [hc, hd]
           show wpAny M A (if (["enumerate", "zip", "dict_itemiterator", "dict_reverseitemiterator", "odict_iterator", "itertools.zip_longest", "itertools.pairwise"].contains n && vs[0]? == some (rawInt _)) = true then _ else _) Q E s
           rw [if_neg (by intro h; rw [hn, Bool.false_and] at h; cases h)]
           exact wpAny_pure hQ))
def Itl (K:PySem.W.Frag) (a:Addr):It:=
 ⟨fun i H=>∃ xs x,SqL K H a xs∧xs[i]?=some x,fun i H x H'=>H'=H∧∀ xs,SqL K H a xs→xs[i]?=some x,fun i H=>∃ xs,SqL K H a xs∧xs.length≤i⟩
def Itt (K:PySem.W.Frag) (a:Addr):It:=
 ⟨fun i H=>∃ xs x,SqT K H a xs∧xs[i]?=some x,fun i H x H'=>H'=H∧∀ xs,SqT K H a xs→xs[i]?=some x,fun i H=>∃ xs,SqT K H a xs∧xs.length≤i⟩
def Itr (lo:Int) (n:Nat):It:=⟨fun i _=>i < n,fun i H x H'=>H'=H∧x=.int (lo+i),fun i _=>n≤i⟩
theorem ue {P:Program} {w:World} {K:PySem.W.Frag} {tg:Expr} (a it:Addr):Turn P w K tg (Itl K a) [it] it (fun i h=>h.IsListIter it a i) where
 mem:=by simp
 obj:=fun i h st b hb=>by
  have e:b=it:=by simpa using hb
  subst e
  obtain ⟨o,e,c,d⟩:=st
  exact ⟨o,e,fun v z=>by rw [d] at z;cases z⟩
 keep:=fun i h h' st k=>st.at fun o e=>k it (by simp) o e
 item:=by
  intro X hP hw hK hc i pins s σ H E I hf st hg
  subst hP hw hK
  obtain ⟨xs,x,hq,hx⟩:=hg
  obtain ⟨its,rv,p,hz⟩:=I.list hq
  obtain ⟨u,hu,ru⟩:=rv.get hx
  obtain ⟨f0,f1,f2,f3,f4,f5⟩:=hf it (by simp)
  refine wpAny_pyNext_list_item st p.isList (x:=u) (by simpa using hu) fun h' st' sb=>?_
  have I1:Inv X pins σ H { s with heap:=h' }:=I.turned (t':=s.toks) (fun b o hb e=>(sb.2 b hb).trans e) f0 f1 f3 f4 f5
  obtain ⟨o,e,c,d⟩:=id st'
  exact ⟨u,rfl,tf (s:={ s with heap:=h' }) e c d (by decide) ⟨x,H,I1,ru,⟨rfl,fun ys hy=>by rw [I.pQ hy hq];exact hx⟩,st',fun b hb=>(hf b hb).1⟩⟩
 done:=by
  intro X hP hw hK hc i pins s σ H E I hf st hg
  subst hP hw hK
  obtain ⟨xs,hq,hx⟩:=hg
  obtain ⟨its,rv,p,hz⟩:=I.list hq
  obtain ⟨f0,f1,f2,f3,f4,f5⟩:=hf it (by simp)
  have hl:=rv.length
  exact wpAny_pyNext_list_end (I.ok.hd hc) st p.isList (by simp;omega) fun h' eb=>⟨rfl,I.turned (t':=s.toks) (fun b o hb e=>eb b o hb e) f0 f1 f3 f4 f5⟩
 self:=fun _ _ _ _ _ st h=>wpAny_pyIter_listiter st h
theorem rZ {P:Program} {w:World} {K:PySem.W.Frag} {tg:Expr} (a it:Addr):Turn P w K tg (Itt K a) [it] it (fun i h=>h.IsTupleIter it a i) where
 mem:=by simp
 obj:=fun i h st b hb=>by
  have e:b=it:=by simpa using hb
  subst e
  obtain ⟨o,e,c,d⟩:=st
  exact ⟨o,e,fun v z=>by rw [d] at z;cases z⟩
 keep:=fun i h h' st k=>st.at fun o e=>k it (by simp) o e
 item:=by
  intro X hP hw hK hc i pins s σ H E I hf st hg
  subst hP hw hK
  obtain ⟨xs,x,hq,hx⟩:=hg
  obtain ⟨its,rv,p,hz⟩:=I.tuple hq
  obtain ⟨u,hu,ru⟩:=rv.get hx
  obtain ⟨f0,f1,f2,f3,f4,f5⟩:=hf it (by simp)
  refine wpAny_pyNext_tuple_item st (show s.heap.IsTuple a its.toArray from p) (x:=u) (by simpa using hu) fun h' st' sb=>?_
  have I1:Inv X pins σ H { s with heap:=h' }:=I.turned (t':=s.toks) (fun b o hb e=>(sb.2 b hb).trans e) f0 f1 f3 f4 f5
  obtain ⟨o,e,c,d⟩:=id st'
  exact ⟨u,rfl,tf (s:={ s with heap:=h' }) e c d (by decide) ⟨x,H,I1,ru,⟨rfl,fun ys hy=>by rw [I.u7 hy hq];exact hx⟩,st',fun b hb=>(hf b hb).1⟩⟩
 done:=by
  intro X hP hw hK hc i pins s σ H E I hf st hg
  subst hP hw hK
  obtain ⟨xs,hq,hx⟩:=hg
  obtain ⟨its,rv,p,hz⟩:=I.tuple hq
  obtain ⟨f0,f1,f2,f3,f4,f5⟩:=hf it (by simp)
  have hl:=rv.length
  exact wpAny_pyNext_tuple_end (I.ok.hd hc) st (show s.heap.IsTuple a its.toArray from p) (by simp;omega) fun h' eb=>⟨rfl,I.turned (t':=s.toks) (fun b o hb e=>eb b o hb e) f0 f1 f3 f4 f5⟩
 self:=fun _ _ _ _ _ st h=>wpAny_pyIter_tupleiter st h
theorem sD {P:Program} {w:World} {K:PySem.W.Frag} {tg:Expr} (it:Addr) (lo:Int) (n:Nat):Turn P w K tg (Itr lo n) [it] it (fun i h=>IsRangeIter h it (lo+(i:Nat) * 1) ((n:Int) - (i:Nat)) 1) where
 mem:=by simp
 obj:=fun i h st b hb=>by
  have e:b=it:=by simpa using hb
  subst e
  exact ⟨_,st,fun v z=>by
   have z':Data.fields _=Data.cell v:=z
   cases z'⟩
 keep:=fun i h h' st k=>k it (by simp) _ st
 item:=by
  intro X hP hw hK hc i pins s σ H E I hf st hg
  subst hP hw hK
  obtain ⟨f0,f1,f2,f3,f4,f5⟩:=hf it (by simp)
  have W:=Walks.range (prog:=X.prog) (w:=X.w) (I.ok.hd hc) it lo 1 n
  refine W.item i s _ _ hg st fun v h' tk hv st' kk=>?_
  obtain ⟨t,rfl⟩:=hv
  have I1:Inv X pins σ H { s with heap:=h',toks:=tk }:=I.turned (fun b o hb e=>kk b o (by simpa using hb) e) f0 f1 f3 f4 f5
  refine ⟨_,rfl,tf (s:={ s with heap:=h',toks:=tk }) (n:="range_iterator") st' rfl rfl (by decide) ⟨.int (lo+i),H,I1,⟨t,?_⟩,⟨rfl,rfl⟩,st',fun b hb=>(hf b hb).1⟩⟩
  rw [Int.mul_one]
 done:=by
  intro X hP hw hK hc i pins s σ H E I hf st hg
  subst hP hw hK
  obtain ⟨f0,f1,f2,f3,f4,f5⟩:=hf it (by simp)
  exact wpAny_pyNext_range_end (I.ok.hd hc) st (by have:n≤i:=hg;omega) fun h' eb=>⟨rfl,I.turned (t':=s.toks) (fun b o hb e=>eb b o hb e) f0 f1 f3 f4 f5⟩
 self:=fun _ _ _ _ _ st h=>wpAny_pyIter_rangeiter st h
section
variable {X:Cx} {tg:Expr}
theorem oM {pins:List (Addr×Obj)} {σ:St} {H:Hp} {s:Shared} {R:It→Hp→Prop} {E:Value→Shared→Prop} {lo hi:Int} {t u v:Tok} {tk:Nat} (I:Inv X pins σ H s) (h1:-(2 ^ 62)≤lo) (h2:lo < 2 ^ 62) (h3:-(2 ^ 62)≤hi) (h4:hi < 2 ^ 62)
  (q:R (Itr lo (hi - lo).toNat) H):wpAny (model X.prog X.w) X.A (pyIter (.ref s.heap.objs.size)) (PIE X pins σ tg R) E { s with heap:=s.heap.push { cls:=.type "range",data:=.fields #[.int lo t,.int hi u,.int 1 v] },toks:=tk }:=by
 refine wpAny_pyIter_range (IsRange.new ..) (small_one h1 h2 h3 h4) ?_
 have I1:Inv X pins σ H { s with heap:=s.heap.push { cls:=.type "range",data:=.fields #[.int lo t,.int hi u,.int 1 v] },toks:=tk }:=I.kept fun b o e=>Heap.get?_push_of_some _ e
 refine ⟨(s.heap.push { cls:=.type "range",data:=.fields #[.int lo t,.int hi u,.int 1 v] }).objs.size,[(s.heap.push { cls:=.type "range",data:=.fields #[.int lo t,.int hi u,.int 1 v] }).objs.size],_,_,H,rfl,
  I1.kept (t':=tk) fun b o e=>Heap.get?_push_of_some _ e,sD _ lo (hi - lo).toNat,?_,fun b hb=>?_,q⟩
 ·have e1:lo+((0:Nat):Int) * 1=lo:=by simp
  have e2:(((hi - lo).toNat:Nat):Int) - ((0:Nat):Int)=Builtin.Range.rangeSize lo hi 1:=by rw [rangeSize_one];split<;>omega
  show IsRangeIter _ _ (lo+((0:Nat):Int) * 1) ((((hi - lo).toNat:Nat):Int) - ((0:Nat):Int)) 1
  rw [e1,e2]
  exact Heap.get?_push_size _ rfl
 ·have e:b=(s.heap.push { cls:=.type "range",data:=.fields #[.int lo t,.int hi u,.int 1 v] }).objs.size:=by simpa using hb
  subst e
  exact I1.lM (Nat.le_refl _) (I1.hok.fresh (Nat.le_refl _))
def Dp (ta:TA):TI:=fun σ H R=>ta σ H fun vs H1=>∃ j:Int,vs=[.int j]∧-(2 ^ 62)≤j∧j < 2 ^ 62∧R (Itr 0 j.toNat) H1
def CA (ta:TA):TI:=fun σ H R=>ta σ H fun vs H1=>∃ i j:Int,vs=[.int i,.int j]∧(-(2 ^ 62)≤i∧i < 2 ^ 62∧-(2 ^ 62)≤j∧j < 2 ^ 62)∧R (Itr i (j - i).toNat) H1
theorem vc {a:Expr} {ta:TA} {p pos:Pos} (hg:Gl X "range") (hm:X.mg "range"=none) (ha:PA X [a] ta) (hs:starEach [a] X.env=[(false,eval a X.env)]:=by rfl):PI X tg (.Call (.Name "range" p) [a] [] pos) (Dp ta):=by
 intro pins s σ H R I h
 refine Call_ (cH I hg hm boot_range (PyProof.Rows.callWith_type1 (thn (ha pos pins s σ H _ I h) fun us s1 ⟨vs,H1,I1,r1,q1⟩=>?_) hs rfl))
 obtain ⟨j,e,q1,q2,q⟩:=q1
 subst e
 cases r1 with
 | cons r rr=>
  cases rr
  obtain ⟨t,rfl⟩:=r
  exact call_range_1 (oM I1 (by omega) (by omega) q1 q2 (by simpa using q))
theorem uR {a b:Expr} {ta:TA} {p pos:Pos} (hg:Gl X "range") (hm:X.mg "range"=none) (ha:PA X [a,b] ta) (hs:starEach [a,b] X.env=[(false,eval a X.env),(false,eval b X.env)]:=by rfl) (hs2:starEach [b] X.env=[(false,eval b X.env)]:=by rfl) :
  PI X tg (.Call (.Name "range" p) [a,b] [] pos) (CA ta):=by
 intro pins s σ H R I h
 refine Call_ (cH I hg hm boot_range (PyProof.Rows.callWith_type1 (thn (ha pos pins s σ H _ I h) fun us s1 ⟨vs,H1,I1,r1,q1⟩=>?_) (by rw [hs,hs2]) (by rw [hs2];rfl)))
 obtain ⟨i,j,e,⟨q1,q2,q3,q4⟩,q⟩:=q1
 subst e
 cases r1 with
 | cons r rr=>
  cases rr with
  | cons r' rr=>
   cases rr
   obtain ⟨t,rfl⟩:=r
   obtain ⟨t',rfl⟩:=r'
   exact call_range_2 (oM I1 q1 q2 q3 q4 q)
def Ey (wi:TI) (g:TG) (tb:TS):TS:=fun D σ H=>wi σ H fun J H1=>∃ W:Nat→Nat→St→Hp→Prop,(∃ m,W 0 m σ H1)∧∀ i m σ H,W i m σ H →
 (J.stop i H∧D.nx σ H)∨(J.go i H∧∃ N:St→Hp→Prop,(∀ σ' H',N σ' H'→∃ m',m' < m∧W (i+1) m' σ' H')∧∀ x H',J.yld i H x H'→g x σ H' fun σ2 H2=>tb { D with nx:=N,ct:=N,bk:=D.nx } σ2 H2)
def km (fp:List Addr) (h:Heap):List (Addr×Obj):=fp.filterMap fun b=>(h.get? b).map fun o=>(b,o)
theorem fN {fp:List Addr} {h:Heap} {b:Addr} {o:Obj} (hb:b∈fp) (e:h.get? b=some o):(b,o)∈km fp h:=List.mem_filterMap.mpr ⟨b,hb,by rw [e];rfl⟩
theorem tX {fp:List Addr} {h:Heap} {p:Addr×Obj} (hp:p∈km fp h):p.1∈fp∧h.get? p.1=some p.2:=by
 obtain ⟨b,hb,e⟩:=List.mem_filterMap.mp hp
 cases q:h.get? b with
 | none=>rw [q] at e;cases e
 | some o=>
  rw [q] at e
  have e':(b,o)=p:=Option.some.inj e
  subst e'
  exact ⟨hb,q⟩
theorem Inv.pinned {pins:List (Addr×Obj)} {σ:St} {H:Hp} {s:Shared} {fp:List Addr} (I:Inv X pins σ H s) (hf:∀ b∈fp,ef X pins H b) (ho:∀ b∈fp,∃ o,s.heap.get? b=some o∧∀ v,o.data≠.cell v):Inv X (pins++km fp s.heap) σ H s:=
 I.m8 fun p hp=>(List.mem_append.mp hp).elim (fun z=>I.pin p (List.mem_append_right _ z)) fun z=>by
  obtain ⟨hb,e⟩:=tX z
  obtain ⟨f0,f1,f2,_⟩:=hf p.1 hb
  obtain ⟨o,e',d⟩:=ho p.1 hb
  rw [e] at e';cases e'
  exact ⟨e,f0,f1,f2,d⟩
theorem Inv.gi {pins pl:List (Addr×Obj)} {σ:St} {H:Hp} {s:Shared} (I:Inv X (pins++pl) σ H s):Inv X pins σ H s:=I.m8 fun p hp=>I.pin p (List.mem_append_right _ (List.mem_append_left _ hp))
theorem AK {iter:Expr} {body:List Stmt} {wi:TI} {g:TG} {tb:TS} {pos:Pos} (hp:PassesOwn (model X.prog X.w) X.A X.env X.xe) (hc:X.calm=true) (hi:PI X tg iter wi) (hg:PG X tg g) (hb:PSs X body tb)
  (hs:∀ x,foldedSetIterable iter X.env x=pure x:=by intro _;rfl):PS X (.For tg iter body [] pos) (Ey wi g tb):=by
 intro pins s σ H D I h
 refine wpAny_For (thn (hi pins s σ H _ I h) fun v s1 h1=>thn h1 fun itv s2 h2=>?_) hs
 obtain ⟨it,fp,tn,J,H2,e,I2,T,st2,f2,W,⟨m0,w0⟩,turn⟩:=h2
 subst e
 have stat:∀ {H':Hp},(∀ b∈fp,H' b=none)→∀ b∈fp,ef X pins H' b:=fun hn b hb=>⟨hn b hb,(f2 b hb).2⟩
 refine codeAny_forLoop_any (fun n s'=>∃ i σ' H',Inv X pins σ' H' s'∧tn i s'.heap∧(∀ b∈fp,H' b=none)∧W i n σ' H') ?_ m0 ⟨0,σ,H2,I2,st2,fun b hb=>(f2 b hb).1,w0⟩
 rintro n s3 ⟨i,σ3,H3,I3,st3,fr3,w3⟩
 rcases turn i n σ3 H3 w3 with ⟨stop,qn⟩ | ⟨go,N,hN,step⟩
 ·refine wpAny_passesOwn hp (thn (T.done X rfl rfl rfl hc i pins s3 σ3 H3 X.xe I3 (stat fr3) st3 stop) fun r s4 ⟨hr,I4⟩=>?_)
  subst hr
  exact wpAny_execs_nil ⟨σ3,H3,I4,qn⟩
 ·refine wpAny_passesOwn hp (thn (T.item X rfl rfl rfl hc i pins s3 σ3 H3 X.xe I3 (stat fr3) st3 go) fun r s4 ⟨u,hr,h4⟩=>?_)
  subst hr
  refine wpAny_passesOwn hp (thn h4 fun _ s5 ⟨x,H5,I5,r5,y5,st5,fr5⟩=>?_)
  have I5':=I5.pinned (stat fr5) (T.obj _ _ st5)
  refine wpAny_passesOwn hp (thn (hg _ s5 σ3 H5 x u _ I5' r5 (step x H5 y5)) fun _ s6 ⟨σ6,H6,I6,q6⟩=>?_)
  refine wpAny_passesOwn hp (thn (hb _ s6 σ6 H6 _ I6 q6) fun f s7 q7=>?_)
  have again:∀ {σ7:St} {H7:Hp},Inv X (pins++km fp s5.heap) σ7 H7 s7→N σ7 H7→∃ m,m < n∧∃ i σ' H',Inv X pins σ' H' s7∧tn i s7.heap∧(∀ b∈fp,H' b=none)∧W i m σ' H':=fun {σ7 H7} I7 n7=>by
   obtain ⟨m',hm,w7⟩:=hN σ7 H7 n7
   refine ⟨m',hm,i+1,σ7,H7,I7.gi,T.keep _ _ _ st5 fun b hb o e=>(I7.pin (b,o) (List.mem_append_right _ (List.mem_append_right _ (fN hb e)))).1,fun b hb=>?_,w7⟩
   obtain ⟨o,e,d⟩:=T.obj _ _ st5 b hb
   exact (I7.pin (b,o) (List.mem_append_right _ (List.mem_append_right _ (fN hb e)))).2.1
  cases f with
  | next=>obtain ⟨σ7,H7,I7,n7⟩:=q7;exact again I7 n7
  | cont=>obtain ⟨σ7,H7,I7,n7⟩:=q7;exact again I7 n7
  | brk=>obtain ⟨σ7,H7,I7,q7⟩:=q7;exact ⟨σ7,H7,I7.gi,q7⟩
  | ret v=>obtain ⟨x7,σ7,H7,I7,r7,q7⟩:=q7;exact ⟨x7,σ7,H7,I7.gi,r7,q7⟩
end
abbrev R2:=V→V→Hp→VK→Prop
def OpR (X:Cx) (f:Value→Value→Sem Value) (r:R2):Prop:=
 ∀ (pins:List (Addr×Obj)) (s:Shared) (σ:St) (H:Hp) (x y:V) (v u:Value) (Q:VK),Inv X pins σ H s→RelV x v→RelV y u→r x y H Q →
  wpAny (model X.prog X.w) X.A (f v u) (EP X pins σ Q) X.xe s
def UnR (X:Cx) (f:Value→Sem Value) (r:V→Hp→VK→Prop):Prop:=
 ∀ (pins:List (Addr×Obj)) (s:Shared) (σ:St) (H:Hp) (x:V) (v:Value) (Q:VK),Inv X pins σ H s→RelV x v→r x H Q →
  wpAny (model X.prog X.w) X.A (f v) (EP X pins σ Q) X.xe s
def bt (X:Cx) (f:Value) (r:List V→Hp→VK→Prop):Prop:=
 ∀ (pins:List (Addr×Obj)) (s:Shared) (σ:St) (H:Hp) (xs:List V) (us:List Value) (Q:VK),Inv X pins σ H s→Vals xs us→r xs H Q →
  wpAny (model X.prog X.w) X.A (call f us) (EP X pins σ Q) X.xe s
def Ej (X:Cx) (r:V→Hp→(Bool→Hp→Prop)→Prop):Prop:=
 ∀ (pins:List (Addr×Obj)) (s:Shared) (σ:St) (H:Hp) (x:V) (v:Value) (Q:Bool→Hp→Prop),Inv X pins σ H s→RelV x v→r x H Q →
  wpAny (model X.prog X.w) X.A (truthy v) (TP X pins σ Q) X.xe s
def tOp (r:R2) (ta tb:TE):TE:=fun σ H Q=>ta σ H fun x H1=>tb σ H1 fun y H2=>r x y H2 Q
def tUn (r:V→Hp→VK→Prop) (ta:TE):TE:=fun σ H Q=>ta σ H fun x H1=>r x H1 Q
def rI (C:Int→Int→Prop) (g:Int→Int→V):R2:=fun x y H Q=>∃ i j,x=.int i∧y=.int j∧C i j∧Q (g i j) H
def rI0 (g:Int→Int→V):R2:=fun x y H Q=>∃ i j,x=.int i∧y=.int j∧Q (g i j) H
def rU (g:Int→V):V→Hp→VK→Prop:=fun x H Q=>∃ i,x=.int i∧Q (g i) H
section
variable {X:Cx} {a b c:Expr} {ta tb tc:TE} {pos:Pos}
theorem vM (ha:PE X a ta) (hb:PE X b tb) {pins:List (Addr×Obj)} {s:Shared} {σ:St} {H:Hp} {R:V→V→Hp→Prop} (I:Inv X pins σ H s)
  (h:ta σ H fun x H1=>tb σ H1 fun y H2=>R x y H2) {Q:Value→Shared→Prop} {f:Value→Value→Sem Value}
  (hf:∀ v u s2 x y H2,Inv X pins σ H2 s2→RelV x v→RelV y u→R x y H2→wpAny (model X.prog X.w) X.A (f v u) Q X.xe s2) :
  wpAny (model X.prog X.w) X.A (eval a X.env) (fun v s₁=>wpAny (model X.prog X.w) X.A (eval b X.env) (fun u s₂=>wpAny (model X.prog X.w) X.A (f v u) Q X.xe s₂) X.xe s₁) X.xe s:=by
 refine thn (ha pins s σ H _ I h) fun v s1 ⟨x,H1,I1,r1,q1⟩=>?_
 refine thn (hb pins s1 σ H1 _ I1 q1) fun u s2 ⟨y,H2,I2,r2,q2⟩=>?_
 exact hf v u s2 x y H2 I2 r1 r2 q2
theorem C7 {op:Operator} {r:R2} (ho:OpR X (binaryOp op) r) (ha:PE X a ta) (hb:PE X b tb):PE X (.BinOp a op b pos) (tOp r ta tb):=by
 intro pins s σ H Q I h
 exact wpAny_BinOp (vM ha hb I h fun v u s2 x y H2 I2 rx ry q=>ho pins s2 σ H2 x y v u Q I2 rx ry q)
theorem CL {op:UnaryOp} {r:V→Hp→VK→Prop} (ho:UnR X (unaryOp op) r) (ha:PE X a ta):PE X (.UnaryOp op a pos) (tUn r ta):=by
 intro pins s σ H Q I h
 exact UnaryOp_ (thn (ha pins s σ H _ I h) fun v s1 ⟨x,H1,I1,r1,q1⟩=>ho pins s1 σ H1 x v Q I1 r1 q1)
theorem opI {f:Value→Value→Sem Value} {C:Int→Int→Prop} {g:Int→Int→Int}
  (rule:∀ (i j:Int) (t u:Tok) (s:Shared) (Q:Value→Shared→Prop) (E:Value→Shared→Prop),C i j→Q (.int (g i j) s.toks) { s with toks:=s.toks+1 }→wpAny (model X.prog X.w) X.A (f (.int i t) (.int j u)) Q E s) :
  OpR X f (rI C fun i j=>.int (g i j)):=by
 intro pins s σ H x y v u Q I rx ry h
 obtain ⟨i,j,rfl,rfl,hc,q⟩:=h
 obtain ⟨t,rfl⟩:=rx
 obtain ⟨t',rfl⟩:=ry
 exact rule i j t t' s _ _ hc ⟨.int (g i j),H,I.tok _,⟨_,rfl⟩,q⟩
theorem Ad {f:Value→Value→Sem Value} {g:Int→Int→Int}
  (rule:∀ (i j:Int) (t u:Tok) (s:Shared) (Q:Value→Shared→Prop) (E:Value→Shared→Prop),Q (.int (g i j) s.toks) { s with toks:=s.toks+1 }→wpAny (model X.prog X.w) X.A (f (.int i t) (.int j u)) Q E s) :
  OpR X f (rI0 fun i j=>.int (g i j)):=by
 intro pins s σ H x y v u Q I rx ry h
 obtain ⟨i,j,rfl,rfl,q⟩:=h
 obtain ⟨t,rfl⟩:=rx
 obtain ⟨t',rfl⟩:=ry
 exact rule i j t t' s _ _ ⟨.int (g i j),H,I.tok _,⟨_,rfl⟩,q⟩
theorem tB {f:Value→Value→Sem Value} {g:Int→Int→Bool}
  (rule:∀ (i j:Int) (t u:Tok) (s:Shared) (Q:Value→Shared→Prop) (E:Value→Shared→Prop),Q (.bool (g i j)) s→wpAny (model X.prog X.w) X.A (f (.int i t) (.int j u)) Q E s) :
  OpR X f (rI0 fun i j=>.bl (g i j)):=by
 intro pins s σ H x y v u Q I rx ry h
 obtain ⟨i,j,rfl,rfl,q⟩:=h
 obtain ⟨t,rfl⟩:=rx
 obtain ⟨t',rfl⟩:=ry
 exact rule i j t t' s _ _ ⟨.bl (g i j),H,I,rfl,q⟩
def mW (i j:Int):Prop:=0 < j∧j < 1073741824
def mT (i j:Int):Prop:=0≤j∧j≤1000000∧i.natAbs < 2 ^ 64
def jo (i j:Int):Prop:=(-(2 ^ 64) < i∧i < 2 ^ 64)∨(-(2 ^ 64) < j∧j < 2 ^ 64)
theorem jo.ok {i j:Int} (h:jo i j):IntMulOk i j:=by
 rcases h with ⟨h1,h2⟩ | ⟨h1,h2⟩
 ·exact .of_left (intBits_le_64 h1 h2)
 ·exact .of_right (intBits_le_64 h1 h2)
theorem Bb:OpR X (binaryOp .Add) (rI0 fun i j=>.int (i+j)):=Ad fun _ _ _ _ _ _ _ q=>add_int q
theorem iN:OpR X (binaryOp .Sub) (rI0 fun i j=>.int (i - j)):=Ad fun _ _ _ _ _ _ _ q=>sub_int q
theorem d_:OpR X (binaryOp .Mult) (rI jo fun i j=>.int (i * j)):=opI fun _ _ _ _ _ _ _ hc q=>mul_int q hc.ok
theorem yT:OpR X (binaryOp .FloorDiv) (rI mW fun i j=>.int (i / j)):=opI fun i j _ _ _ _ _ hc q=>by
 have h1:(0:Int) < j:=hc.1
 have h2:j < 1073741824:=hc.2
 exact floordiv_int (by omega) (by rw [Int.fdiv_eq_ediv_of_nonneg i (by omega)];exact q) (.inl (PyProof.noPylong_small (by omega)))
theorem dB:OpR X (binaryOp .Mod) (rI (fun _ j=>0 < j) fun i j=>.int (i % j)):=opI fun i j _ _ _ _ _ hc q=>by
 have h1:(0:Int) < j:=hc
 exact mod_int' (by omega) (by rw [Int.fmod_eq_emod_of_nonneg i (by omega)];exact q)
theorem pf:OpR X (binaryOp .Pow) (rI mT fun i j=>.int (i ^ j.toNat)):=opI fun _ _ _ _ _ _ _ hc q=>pow_int_small hc.1 hc.2.1 hc.2.2 q
theorem unI {f:Value→Sem Value} {g:Int→Int}
  (rule:∀ (i:Int) (t:Tok) (s:Shared) (Q:Value→Shared→Prop) (E:Value→Shared→Prop),Q (.int (g i) s.toks) { s with toks:=s.toks+1 }→wpAny (model X.prog X.w) X.A (f (.int i t)) Q E s) :
  UnR X f (rU fun i=>.int (g i)):=by
 intro pins s σ H x v Q I rx h
 obtain ⟨i,rfl,q⟩:=h
 obtain ⟨t,rfl⟩:=rx
 exact rule i t s _ _ ⟨.int (g i),H,I.tok _,⟨_,rfl⟩,q⟩
theorem g_:UnR X (unaryOp .USub) (rU fun i=>.int (-i)):=unI fun _ _ _ _ _ q=>neg_int q
end
def vB:V→V→Bool
 | .non,.non=>true | .non,.int _=>true | .int _,.non=>true | .non,.bl _=>true | .bl _,.non=>true | .non,.str _=>true | .str _,.non=>true
 | .int _,.int _=>true | .bl _,.bl _=>true | .str _,.str _=>true | .byt _,.byt _=>true
 | .int _,.str _=>true | .str _,.int _=>true | .bl _,.str _=>true | .str _,.bl _=>true
 | _,_=>false
def rEq:R2:=fun x y H Q=>vB x y=true∧Q (.bl (decide (x=y))) H
def rNe:R2:=fun x y H Q=>vB x y=true∧Q (.bl (!decide (x=y))) H
theorem q0 {i j:Int}:decide (V.int i=V.int j)=(i == j):=by
 rw [Bool.eq_iff_iff]
 simp
theorem uY {i j:Bool}:decide (V.bl i=V.bl j)=(i == j):=by
 rw [Bool.eq_iff_iff]
 simp
theorem rB {i j:Str}:decide (V.str i=V.str j)=(i == j):=by
 rw [Bool.eq_iff_iff]
 simp
theorem qX {i j:Array UInt8}:decide (V.byt i=V.byt j)=(i.toList == j.toList):=by
 rw [Bool.eq_iff_iff]
 cases i
 cases j
 simp
section
variable {X:Cx} {a b c:Expr} {ta tb tc:TE} {pos:Pos}
theorem a7 {pins:List (Addr×Obj)} {σ:St} {H:Hp} {s:Shared} {Q:VK} {k k':Bool} (I:Inv X pins σ H s) (q:Q (.bl k) H) (e:k=k'):EP X pins σ Q (.bool k') s:=by
 subst e
 exact ⟨.bl k,H,I,rfl,q⟩
theorem Ds:OpR X (compareOp .Eq) rEq:=by
 intro pins s σ H x y v u Q I rx ry h
 obtain ⟨hs,q⟩:=h
 cases x with
 | non=>
  cases rx
  cases y with
  | non=>cases ry;exact PySem.EqNone.eq_none_none (a7 I q (by simp))
  | bl j=>cases ry;exact PySem.EqNone.eq_none_bool (a7 I q (by simp))
  | int j=>obtain ⟨t',rfl⟩:=ry;exact PySem.EqNone.eq_none_int (a7 I q (by simp))
  | str j=>obtain ⟨t',rfl⟩:=ry;exact PySem.EqNone.eq_none_str (a7 I q (by simp))
  | _=>exact absurd (show false=true from hs) Bool.false_ne_true
 | bl i=>
  cases rx
  cases y with
  | non=>cases ry;exact PySem.EqNone.eq_bool_none (a7 I q (by simp))
  | bl j=>cases ry;exact eq_bool (a7 I q uY)
  | str j=>obtain ⟨t',rfl⟩:=ry;exact PySem.EqMixed.eq_bool_str (a7 I q (by simp))
  | _=>exact absurd (show false=true from hs) Bool.false_ne_true
 | int i=>
  obtain ⟨t,rfl⟩:=rx
  cases y with
  | non=>cases ry;exact PySem.EqNone.eq_int_none (a7 I q (by simp))
  | int j=>obtain ⟨t',rfl⟩:=ry;exact eq_int (a7 I q q0)
  | str j=>obtain ⟨t',rfl⟩:=ry;exact PySem.EqMixed.eq_int_str (a7 I q (by simp))
  | _=>exact absurd (show false=true from hs) Bool.false_ne_true
 | str i=>
  obtain ⟨t,rfl⟩:=rx
  cases y with
  | non=>cases ry;exact PySem.EqNone.eq_str_none (a7 I q (by simp))
  | bl j=>cases ry;exact PySem.EqMixed.eq_str_bool (a7 I q (by simp))
  | int j=>obtain ⟨t',rfl⟩:=ry;exact PySem.EqMixed.eq_str_int (a7 I q (by simp))
  | str j=>obtain ⟨t',rfl⟩:=ry;exact eq_str (a7 I q rB)
  | _=>exact absurd (show false=true from hs) Bool.false_ne_true
 | byt i=>
  obtain ⟨t,rfl⟩:=rx
  cases y with
  | byt j=>obtain ⟨t',rfl⟩:=ry;exact PySem.W.eq_bytes (a7 I q qX)
  | _=>exact absurd (show false=true from hs) Bool.false_ne_true
 | _=>cases y<;>exact absurd (show false=true from hs) Bool.false_ne_true
theorem DG:OpR X (compareOp .NotEq) rNe:=by
 intro pins s σ H x y v u Q I rx ry h
 obtain ⟨hs,q⟩:=h
 cases x with
 | non=>
  cases rx
  cases y with
  | non=>cases ry;exact PySem.EqNone.ne_none_none (a7 I q (by simp))
  | bl j=>cases ry;exact PySem.EqNone.ne_none_bool (a7 I q (by simp))
  | int j=>obtain ⟨t',rfl⟩:=ry;exact PySem.EqNone.ne_none_int (a7 I q (by simp))
  | str j=>obtain ⟨t',rfl⟩:=ry;exact PySem.EqNone.ne_none_str (a7 I q (by simp))
  | _=>exact absurd (show false=true from hs) Bool.false_ne_true
 | bl i=>
  cases rx
  cases y with
  | non=>cases ry;exact PySem.EqNone.ne_bool_none (a7 I q (by simp))
  | bl j=>cases ry;exact ne_bool (a7 I q (congrArg not uY))
  | str j=>obtain ⟨t',rfl⟩:=ry;exact PySem.EqMixed.ne_bool_str (a7 I q (by simp))
  | _=>exact absurd (show false=true from hs) Bool.false_ne_true
 | int i=>
  obtain ⟨t,rfl⟩:=rx
  cases y with
  | non=>cases ry;exact PySem.EqNone.ne_int_none (a7 I q (by simp))
  | int j=>obtain ⟨t',rfl⟩:=ry;exact ne_int (a7 I q (congrArg not q0))
  | str j=>obtain ⟨t',rfl⟩:=ry;exact PySem.EqMixed.ne_int_str (a7 I q (by simp))
  | _=>exact absurd (show false=true from hs) Bool.false_ne_true
 | str i=>
  obtain ⟨t,rfl⟩:=rx
  cases y with
  | non=>cases ry;exact PySem.EqNone.ne_str_none (a7 I q (by simp))
  | bl j=>cases ry;exact PySem.EqMixed.ne_str_bool (a7 I q (by simp))
  | int j=>obtain ⟨t',rfl⟩:=ry;exact PySem.EqMixed.ne_str_int (a7 I q (by simp))
  | str j=>obtain ⟨t',rfl⟩:=ry;exact ne_str (a7 I q (congrArg not rB))
  | _=>exact absurd (show false=true from hs) Bool.false_ne_true
 | byt i=>
  obtain ⟨t,rfl⟩:=rx
  cases y with
  | byt j=>obtain ⟨t',rfl⟩:=ry;exact PySem.W.ne_bytes (a7 I q (congrArg not qX))
  | _=>exact absurd (show false=true from hs) Bool.false_ne_true
 | _=>cases y<;>exact absurd (show false=true from hs) Bool.false_ne_true
theorem js:OpR X (compareOp .Lt) (rI0 fun i j=>.bl (decide (i < j))):=tB fun _ _ _ _ _ _ _ q=>lt_int q
theorem fI:OpR X (compareOp .LtE) (rI0 fun i j=>.bl (decide (i≤j))):=tB fun _ _ _ _ _ _ _ q=>le_int q
theorem mv:OpR X (compareOp .Gt) (rI0 fun i j=>.bl (decide (j < i))):=tB fun _ _ _ _ _ _ _ q=>gt_int q
theorem DR:OpR X (compareOp .GtE) (rI0 fun i j=>.bl (decide (j≤i))):=tB fun _ _ _ _ _ _ _ q=>ge_int q
theorem BF:OpR X (compareOp .Is) (fun x y H Q=>y=.non∧Q (.bl (decide (x=.non))) H):=by
  intro pins s σ H x y v u Q I rx ry h
  obtain ⟨rfl,q⟩:=h
  cases ry
  refine is_none_gen (a7 I q ?_)
  cases x<;>first
    | (cases rx;rfl)
    | (obtain ⟨t,rfl⟩:=rx;rfl)
theorem OpR.or {f:Value→Value→Sem Value} {r r':R2} (h:OpR X f r) (h':OpR X f r'):OpR X f (fun x y H Q=>r x y H Q∨r' x y H Q):=by
 intro pins s σ H x y v u Q I rx ry q
 rcases q with q | q
 ·exact h pins s σ H x y v u Q I rx ry q
 ·exact h' pins s σ H x y v u Q I rx ry q
theorem uu (b:Expr) {op:CmpOp} (h:op≠.In:=by decide) (h2:op≠.NotIn:=by decide):behindInMarks op b=false:=by
  have e1:(op == CmpOp.In)=false:=by cases op<;>first | rfl | exact absurd rfl h
  have e2:(op == CmpOp.NotIn)=false:=by cases op<;>first | rfl | exact absurd rfl h2
  cases b<;>simp [behindInMarks,e1,e2]
theorem yo {op:CmpOp} {r:R2} (ho:OpR X (compareOp op) r) (ha:PE X a ta) (hb:PE X b tb) (hm:behindInMarks op b=false):PE X (.Compare a [op] [b] pos) (tOp r ta tb):=by
 intro pins s σ H Q I h
 exact wpAny_Compare1 (vM ha hb I h fun v u s2 x y H2 I2 rx ry q=>ho pins s2 σ H2 x y v u Q I2 rx ry q) hm
def w_ (t:TE):TT:=fun σ H Q=>t σ H fun x H'=>∃ k,x=.bl k∧Q k H'
theorem zd {op:CmpOp} {r:R2} (ho:OpR X (compareOp op) r) (ha:PE X a ta) (hb:PE X b tb) (hm:behindInMarks op b=false):PT X (.Compare a [op] [b] pos) (w_ (tOp r ta tb)):=by
 intro pins s σ H Q I h
 refine wpAny_isTrue_Compare1 (thn (ha pins s σ H _ I h) fun v s1 ⟨x,H1,I1,r1,q1⟩=>thn (hb pins s1 σ H1 _ I1 q1) fun u s2 ⟨y,H2,I2,r2,q2⟩=>
  thn (ho pins s2 σ H2 x y v u _ I2 r1 r2 q2) fun c s3 ⟨z,H3,I3,r3,k,e,q3⟩=>?_) hm
 subst e
 cases r3
 exact wpAny_truthy_bool ⟨H3,I3,q3⟩
def pR (r r':R2) (ta tb tc:TE):TE:=fun σ H Q=>ta σ H fun x H1=>tb σ H1 fun y H2=>r x y H2 fun z H3=>∃ k,z=.bl k ∧
 (if k=true then tc σ H3 fun w' H4=>r' y w' H4 Q else Q (.bl false) H3)
theorem v9 {op op':CmpOp} {r r':R2} (ho:OpR X (compareOp op) r) (ho':OpR X (compareOp op') r') (ha:PE X a ta) (hb:PE X b tb) (hc:PE X c tc)
  (hm:lastMarks [op,op'] [b,c]=false:=by with_unfolding_all rfl):PE X (.Compare a [op,op'] [b,c] pos) (pR r r' ta tb tc):=by
 intro pins s σ H Q I h
 refine Compare_chain (thn (ha pins s σ H _ I h) fun v s1 ⟨x,H1,I1,r1,q1⟩=>chain_link (thn (hb pins s1 σ H1 _ I1 q1) fun u s2 ⟨y,H2,I2,r2,q2⟩=>
  thn (ho pins s2 σ H2 x y v u _ I2 r1 r2 q2) fun d s3 ⟨z,H3,I3,r3,k,e,q3⟩=>?_)) hm
 subst e
 cases r3
 refine wpAny_truthy_bool ?_
 cases k with
 | false=>exact ite_ff ⟨.bl false,H3,I3,rfl,q3⟩
 | true=>exact ite_tt (chain_last (thn (hc pins s3 σ H3 _ I3 q3) fun w' s4 ⟨z',H4,I4,r4,q4⟩=>ho' pins s4 σ H4 y z' u w' Q I4 r2 r4 q4))
theorem v7 {op op':CmpOp} {r r':R2} (ho:OpR X (compareOp op) r) (ho':OpR X (compareOp op') r') (ha:PE X a ta) (hb:PE X b tb) (hc:PE X c tc)
  (hm:lastMarks [op,op'] [b,c]=false:=by with_unfolding_all rfl):PT X (.Compare a [op,op'] [b,c] pos) (w_ (pR r r' ta tb tc)):=by
 intro pins s σ H Q I h
 refine isTrue_chain (thn (ha pins s σ H _ I h) fun v s1 ⟨x,H1,I1,r1,q1⟩=>test_link (thn (hb pins s1 σ H1 _ I1 q1) fun u s2 ⟨y,H2,I2,r2,q2⟩=>
  thn (ho pins s2 σ H2 x y v u _ I2 r1 r2 q2) fun d s3 ⟨z,H3,I3,r3,k,e,q3⟩=>?_)) hm
 subst e
 cases r3
 refine wpAny_truthy_bool ?_
 cases k with
 | false=>
  obtain ⟨k',e',q'⟩:=q3
  cases e'
  exact ite_ff ⟨H3,I3,q'⟩
 | true=>
  refine ite_tt (test_last (thn (hc pins s3 σ H3 _ I3 q3) fun w' s4 ⟨z',H4,I4,r4,q4⟩=>thn (ho' pins s4 σ H4 y z' u w' _ I4 r2 r4 q4) fun d' s5 ⟨z2,H5,I5,r5,k2,e2,q5⟩=>?_))
  subst e2
  cases r5
  exact wpAny_truthy_bool ⟨H5,I5,q5⟩
def wL (K:PySem.W.Frag) (x:V) (H:Hp) (k:Bool):Prop:=
 match x with
 | .non=>k=false
 | .bl b=>k=b
 | .int i=>k=(i != 0)
 | .str y=>y.length≤sizeLine∧k=((y.length:Int) != 0)
 | .byt y=>y.size≤sizeLine∧k=((y.size:Int) != 0)
 | .ref p=>(∃ xs,SqL K H p xs∧k=!xs.isEmpty)∨(∃ xs,SqT K H p xs∧k=!xs.isEmpty)∨∃ kvs,H p=some (.dK kvs)∧k=!kvs.isEmpty
 | _=>False
theorem sX {κ:Type} {kvs:List (κ×V)} {vs:List (κ×Value)} (r:KV kvs vs):(!vs.isEmpty)=!kvs.isEmpty:=by
 cases r<;>rfl
theorem mj {xs:List V} {its:List Value} (r:Vals xs its):(!its.toArray.isEmpty)=!xs.isEmpty:=by
 cases r<;>simp
theorem jS:(sizeLine:Nat) < 2 ^ 63:=by rw [sizeLine_eq];decide
theorem BG:Ej X (fun x H Q=>∃ k,wL X.K x H k∧Q k H):=by
 intro pins s σ H x v Q I rx h
 obtain ⟨k,e,q⟩:=h
 have hl:=jS
 have hs:sizeLine=16777216:=sizeLine_eq
 cases x with
 | non=>
  cases rx
  have e':k=false:=e
  subst e'
  exact truthy_none ⟨H,I,q⟩
 | bl b=>
  cases rx
  have e':k=b:=e
  subst e'
  exact wpAny_truthy_bool ⟨H,I,q⟩
 | int i=>
  obtain ⟨t,rfl⟩:=rx
  have e':k=(i != 0):=e
  subst e'
  exact PySem.P.truthy_int ⟨H,I,q⟩
 | str y=>
  obtain ⟨t,rfl⟩:=rx
  obtain ⟨hy,e'⟩:y.length≤sizeLine∧k=((y.length:Int) != 0):=e
  subst e'
  exact PySem.P.truthy_str (by omega) ⟨H,I.tok _,q⟩
 | byt y=>
  obtain ⟨t,rfl⟩:=rx
  obtain ⟨hy,e'⟩:y.size≤sizeLine∧k=((y.size:Int) != 0):=e
  subst e'
  exact PySem.W.truthy_bytes (by omega) ⟨H,I.tok _,q⟩
 | ref p=>
  cases rx
  have e':(∃ xs,SqL X.K H p xs∧k=!xs.isEmpty)∨(∃ xs,SqT X.K H p xs∧k=!xs.isEmpty)∨∃ kvs,H p=some (.dK kvs)∧k=!kvs.isEmpty:=e
  rcases e' with ⟨xs,hx,e'⟩ | ⟨xs,hx,e'⟩ | ⟨kvs,hx,e'⟩
  ·subst e'
   obtain ⟨its,r,pl,hz⟩:=I.list hx
   have hlen:=r.length
   exact wpAny_truthy_list pl.isList (by simp only [List.size_toArray];omega) ⟨H,I.tok _,by rw [mj r];exact q⟩
  ·subst e'
   obtain ⟨its,r,pl,hz⟩:=I.tuple hx
   have hlen:=r.length
   exact truthy_tuple pl (by simp only [List.size_toArray];omega) ⟨H,I.tok _,by rw [mj r];exact q⟩
  ·subst e'
   obtain ⟨hz,hS,vs,r,m⟩:kvs.length≤sizeLine∧(p == sysModules)=false∧∃ vs,KV kvs vs∧s.heap.DictOf (bc X.prog X.w) p vs:=I.hok p _ hx
   have hlen:kvs.length=vs.length:=Paired.length r
   exact wpAny_truthy_dict hS m (by omega) ⟨H,I.tok _,by rw [sX r];exact q⟩
 | _=>exact (show False from e).elim
theorem vq (ha:PE X a ta) (he:∀ whole,isTrue a X.env whole=(do let v ← whole;standAt a.pos;holding [v] (truthy v))) :
  PT X a (fun σ H Q=>ta σ H fun x H'=>∃ k,wL X.K x H' k∧Q k H'):=by
 intro pins s σ H Q I h
 exact isTrue_plain (thn (ha pins s σ H _ I h) fun v s1 ⟨x,H1,I1,r1,q1⟩=>BG pins s1 σ H1 x v Q I1 r1 q1) (he _)
theorem sZ:OpR X (binaryOp .Add) (fun x y H Q=>∃ i j,x=.str i∧y=.str j∧i.length+j.length≤sizeLine∧Q (.str (i++j)) H):=by
 intro pins s σ H x y v u Q I rx ry h
 obtain ⟨i,j,rfl,rfl,hz,q⟩:=h
 obtain ⟨t,rfl⟩:=rx
 obtain ⟨t',rfl⟩:=ry
 exact add_str (fun t' tk=>⟨.str (i++j),H,I.tok _,⟨_,rfl⟩,q⟩) hz
theorem vals1 {x:V} {us:List Value} (r:Vals [x] us):∃ u,us=[u]∧RelV x u:=by
 cases r with
 | cons r1 r2=>cases r2;exact ⟨_,rfl,r1⟩
theorem vals2 {x y:V} {us:List Value} (r:Vals [x,y] us):∃ u w',us=[u,w']∧RelV x u∧RelV y w':=by
 cases r with
 | cons r1 r2=>
  cases r2 with
  | cons r3 r4=>cases r4;exact ⟨_,_,rfl,r1,r3⟩
theorem tI (hc:X.calm=true):bt X (.builtin "max") (fun xs H Q=>∃ i j,xs=[.int i,.int j]∧Q (.int (if j > i then j else i)) H):=by
 intro pins s σ H xs us Q I r h
 obtain ⟨i,j,rfl,q⟩:=h
 obtain ⟨u,w',rfl,⟨t,rfl⟩,⟨t',rfl⟩⟩:=vals2 r
 refine max_two_ints (I.ok.hd hc) fun h' tk k=>⟨_,H,I.kept k,?_,q⟩
 by_cases hj:j > i
 ·rw [if_pos hj,if_pos hj];exact ⟨_,rfl⟩
 ·rw [if_neg hj,if_neg hj];exact ⟨_,rfl⟩
theorem u5 (hc:X.calm=true):bt X (.builtin "min") (fun xs H Q=>∃ i j,xs=[.int i,.int j]∧Q (.int (if j < i then j else i)) H):=by
 intro pins s σ H xs us Q I r h
 obtain ⟨i,j,rfl,q⟩:=h
 obtain ⟨u,w',rfl,⟨t,rfl⟩,⟨t',rfl⟩⟩:=vals2 r
 refine min_two_ints (I.ok.hd hc) fun h' tk k=>⟨_,H,I.kept k,?_,q⟩
 by_cases hj:j < i
 ·rw [if_pos hj,if_pos hj];exact ⟨_,rfl⟩
 ·rw [if_neg hj,if_neg hj];exact ⟨_,rfl⟩
theorem tN:bt X (.type "int") (fun xs H Q=>(∃ i,xs=[.int i]∧Q (.int i) H)∨∃ k,xs=[.bl k]∧Q (.int (if k then 1 else 0)) H):=by
 intro pins s σ H xs us Q I r h
 rcases h with ⟨i,rfl,q⟩ | ⟨k,rfl,q⟩
 ·obtain ⟨u,rfl,t,rfl⟩:=vals1 r
  exact call_int_int ⟨.int i,H,I,⟨_,rfl⟩,q⟩
 ·obtain ⟨u,rfl,r1⟩:=vals1 r
  cases r1
  exact call_int_bool ⟨.int (if k then 1 else 0),H,I.tok _,⟨_,rfl⟩,q⟩
def D_ (K:PySem.W.Frag) (x:V) (H:Hp) (n:Nat):Prop:=
 match x with
 | .str y=>y.length≤sizeLine∧n=y.length
 | .byt y=>y.size≤sizeLine∧n=y.size
 | .ref p=>(∃ xs,SqL K H p xs∧n=xs.length)∨∃ xs,SqT K H p xs∧n=xs.length
 | _=>False
theorem pB:bt X (.builtin "len") (fun xs H Q=>∃ x n,xs=[x]∧D_ X.K x H n∧Q (.int n) H):=by
 intro pins s σ H xs us Q I r h
 obtain ⟨x,n,rfl,e,q⟩:=h
 obtain ⟨u,rfl,rx⟩:=vals1 r
 have hl:=jS
 have hs:sizeLine=16777216:=sizeLine_eq
 cases x with
 | str y=>
  obtain ⟨t,rfl⟩:=rx
  obtain ⟨hy,e'⟩:y.length≤sizeLine∧n=y.length:=e
  subst e'
  exact len_str (by omega) ⟨.int _,H,I.tok _,⟨_,rfl⟩,q⟩
 | byt y=>
  obtain ⟨t,rfl⟩:=rx
  obtain ⟨hy,e'⟩:y.size≤sizeLine∧n=y.size:=e
  subst e'
  exact PySem.W.len_bytes (by omega) ⟨.int _,H,I.tok _,⟨_,rfl⟩,q⟩
 | ref p=>
  cases rx
  have e':(∃ xs,SqL X.K H p xs∧n=xs.length)∨∃ xs,SqT X.K H p xs∧n=xs.length:=e
  rcases e' with ⟨xs,hx,e'⟩ | ⟨xs,hx,e'⟩
  ·subst e'
   obtain ⟨its,r',pl,hz⟩:=I.list hx
   have hlen:=r'.length
   exact Calls.call_len_list pl.isList (by simp only [List.size_toArray];omega) ⟨.int xs.length,H,I.tok _,⟨_,by simp only [List.size_toArray];rw [hlen]⟩,q⟩
  ·subst e'
   obtain ⟨its,r',pl,hz⟩:=I.tuple hx
   have hlen:=r'.length
   exact len_tuple pl (by simp only [List.size_toArray];omega) ⟨.int xs.length,H,I.tok _,⟨_,by simp only [List.size_toArray];rw [hlen]⟩,q⟩
 | _=>exact (show False from e).elim
end
structure wO (h:Heap) (x dx C:Addr) (mA:Str→Option Value):Prop where
 obj:h.get? x=some (PySem.W.instObj C dx)
 ns:h.Ns1 dx mA
 ne:dx≠x
theorem uI {h:Heap} {dx:Addr} {mA:Str→Option Value} (n:h.Ns1 dx mA):∃ od,h.get? dx=some od∧∀ name,PySem.W.lookIn name od=some (mA name):=by
 obtain ⟨o,es,ep,ho,hd,hk,_,hm⟩:=n
 refine ⟨o,ho,fun name=>?_⟩
 have e:=hm name
 unfold nsFind findBy at e
 rw [← Array.find?_toList] at e
 unfold PySem.W.lookIn
 rw [hd]
 dsimp only
 split
 ·rename_i y q
  rw [q] at e
  exact congrArg some e
 ·rename_i q
  rw [q] at e
  have a:es.toList.any (·.refKey)=false:=by
   rw [List.any_eq_false]
   intro y hy
   obtain ⟨z,t,hkey⟩:=hk y (Array.mem_toList_iff.mp hy)
   simp [DictEntry.refKey,hkey]
  have a':¬es.toList.any (·.refKey)=true:=by rw [a];exact Bool.false_ne_true
  rw [if_neg a']
  exact congrArg some e
theorem wO.look {h:Heap} {x dx C:Addr} {mA:Str→Option Value} (I:wO h x dx C mA):∃ od,PySem.W.InstAt h x (PySem.W.instObj C dx) C (some od)∧∀ name,PySem.W.lookIn name od=some (mA name):=
 let ⟨od,ho,hl⟩:=uI I.ns
 ⟨od,⟨I.obj,rfl,rfl,ho⟩,hl⟩
section
variable {prog:Program} {w:World} {A:Around} {E:Value→Shared→Prop} {s:Shared} {K:PySem.W.Frag} {x dx C f:Addr} {mA:Str→Option Value} {name:Str} {v:Value}
end
theorem gj.some_of {v:V} {o:Option Value} (r:gj (some v) o):∃ u,o=some u∧RelV v u:=by
 cases o with
 | none=>exact (show False from r).elim
 | some u=>exact ⟨u,rfl,r⟩
section
variable {P:Program} {w:World} {H H':Hp} {h h':Heap} {a C dx:Addr} {fs fs':List (Str×V)}
theorem yf (hok:HOk P w H h) (e:H a=some (.ins C dx fs)):∃ mA,wO h a dx C mA∧(∀ f,gj (fs.lookup f) (mA f))∧PySem.Within mA (fs.map (·.1))∧fs.length≤1000∧H dx=some (.own a):=by
 obtain ⟨d,z,ne,ob,mA,n,r,q⟩:=(show bA P w H h a (.ins C dx fs) from hok a _ e)
 exact ⟨mA,⟨ob,n,ne⟩,r,q,z,d⟩
end
structure Cls (K:PySem.W.Frag) (C:Addr):Prop where
 pg:PySem.W.plainGet K C Str.empty=true
 hd:PySem.W.hasDictIn K C=true
 po:PySem.W.plainOver K C=true
 sa:PySem.W.findIn K (.ref C) "__setattr__"=some (some (.builtin "object.__setattr__"))
theorem Cls.get {K:PySem.W.Frag} {C:Addr} (c:Cls K C) (f:Str):PySem.W.plainGet K C f=true:=c.pg
structure Con (K:PySem.W.Frag) (C:Addr) (f:Str) (v:V) (u:Value):Prop where
 at_:PySem.W.findIn K (.ref C) f=some (some u)
 rel:RelV v u
 get:PySem.W.specialIn K u "__get__"=some none
 cp:PySem.W.copiedNames.contains f=false
structure Meth (K:PySem.W.Frag) (C:Addr) (m:Str) (f:Addr):Prop where
 at_:PySem.W.findIn K (.ref C) m=some (some (.ref f))
 fn:PySem.W.isFn K (.ref f)=true
 kp:PySem.W.keepIn K (.ref f)=true
section
variable {X:Cx} {pins:List (Addr×Obj)} {σ:St} {H:Hp} {s:Shared} {a C dx:Addr} {fs:List (Str×V)} {f:Str} {v:V} {A:Around} {E:Value→Shared→Prop}
end
section
variable {X:Cx} {o e value:Expr} {f:Str} {pos pos' tpos:Pos} {ta tv:TE}
end
section
variable {X:Cx} {pins:List (Addr×Obj)} {σ:St} {H:Hp} {s:Shared} {A:Around} {E:Value→Shared→Prop} {Q:Value→Shared→Prop} {c:Value} {b:Bool}
inductive eS (K:PySem.W.Frag) (H:Hp):V→Value→Prop where
 | non:eS K H .non (.type "NoneType")
 | bl (x:Bool):eS K H (.bl x) (.type "bool")
 | int (i:Int):eS K H (.int i) (.type "int")
 | str (x:Str):eS K H (.str x) (.type "str")
 | flt (x:UInt64):eS K H (.flt x) (.type "float")
 | lst {a:Addr} {xs:List V} (e:H a=some (.lst xs)):eS K H (.ref a) (.type "list")
 | frz {a:Addr} {o:Obj} {xs:List V} (e:H a=some (.frz o (.lst xs))):eS K H (.ref a) (.type "list")
 | tup {a:Addr} {xs:List V} (e:H a=some (.tup xs)):eS K H (.ref a) (.type "tuple")
 | dK {a:Addr} {kvs:List (Key×V)} (e:H a=some (.dK kvs)):eS K H (.ref a) (.type "dict")
 | dT {a:Addr} {kvs:List (List Key×V)} (e:H a=some (.dT kvs)):eS K H (.ref a) (.type "dict")
 | ins {a C dx:Addr} {fs:List (Str×V)} (e:H a=some (.ins C dx fs)) (cl:Cls K C) (ha:PySem.W.findIn K (.ref C) "__class__"=some (some (.builtin "object.__class__")))
   (hn:PySem.W.specialIn K (.builtin "object.__class__") "__get__"=some (some (.builtin "getset_descriptor.__get__"))) (htk:PySem.W.takesIn K (.builtin "object.__class__")=some true)
   (hm:PySem.W.mroIn K C (.type "object")=some true):eS K H (.ref a) (.ref C)
theorem u2 {x:V} {u t:Value} (I:Inv X pins σ H s) (rx:RelV x u) (ty:eS X.K H x t) (e:PySem.W.kitOne X.K t c=some b) (h:∀ tk,Q (.bool b) { s with toks:=tk }) :
  wpAny (model X.prog X.w) A (call (.builtin "isinstance") [u,c]) Q E s:=by
 cases ty with
 | non=>cases (show u=Value.none from rx);exact PySem.W.kia_one PySem.W.kitx_none I.kIn True.intro e (fun z=>nomatch z) h
 | bl y=>cases (show u=Value.bool y from rx);exact PySem.W.kia_one PySem.W.kitx_bool I.kIn True.intro e (fun z=>nomatch z) h
 | int i=>obtain ⟨t,q⟩:=(show ∃ t,u=Value.int i t from rx);cases q;exact PySem.W.kia_one PySem.W.kitx_int I.kIn True.intro e (fun z=>nomatch z) h
 | str y=>obtain ⟨t,q⟩:=(show ∃ t,u=Value.str y t from rx);cases q;exact PySem.W.kia_one PySem.W.kitx_str I.kIn True.intro e (fun z=>nomatch z) h
 | flt y=>obtain ⟨t,q⟩:=(show ∃ t,u=Value.float y t from rx);cases q;exact PySem.W.kia_one PySem.W.kitx_float I.kIn True.intro e (fun z=>nomatch z) h
 | @lst a xs ea=>
  cases (show u=Value.ref a from rx)
  obtain ⟨_,_,n,_,h1⟩:=(show bA X.prog X.w H s.heap a (.lst xs) from I.hok a _ ea)
  exact PySem.W.kia_one PySem.W.kitx_list I.kIn ⟨_,h1,rfl⟩ e (fun z=>nomatch z) h
 | @frz a ob xs ea=>
  cases (show u=Value.ref a from rx)
  obtain ⟨_,_,_,n,_,h1⟩:=(show bA X.prog X.w H s.heap a (.frz ob (.lst xs)) from I.hok a _ ea)
  exact PySem.W.kia_one PySem.W.kitx_list I.kIn ⟨_,h1,rfl⟩ e (fun z=>nomatch z) h
 | @tup a xs ea=>
  cases (show u=Value.ref a from rx)
  obtain ⟨_,_,_,p⟩:=(show bA X.prog X.w H s.heap a (.tup xs) from I.hok a _ ea)
  obtain ⟨o,h1,h2,_⟩:=p
  exact PySem.W.kia_one PySem.W.kitx_tuple I.kIn ⟨o,h1,h2⟩ e (fun z=>nomatch z) h
 | @dK a kvs ea=>
  cases (show u=Value.ref a from rx)
  obtain ⟨_,_,vs,_,p⟩:=(show bA X.prog X.w H s.heap a (.dK kvs) from I.hok a _ ea)
  obtain ⟨o,es,ep,h1,h2,_⟩:=p
  exact PySem.W.kia_one PySem.W.kitx_dict I.kIn ⟨o,h1,h2.1⟩ e (fun z=>nomatch z) h
 | @dT a kvs ea=>
  cases (show u=Value.ref a from rx)
  obtain ⟨_,_,xs,_,o,es,ep,h1,h2,_⟩:=(show bA X.prog X.w H s.heap a (.dT kvs) from I.hok a _ ea)
  exact PySem.W.kia_one PySem.W.kitx_dict I.kIn ⟨o,h1,h2.1⟩ e (fun z=>nomatch z) h
 | @ins a C dx fs ea cl ha hn htk hm=>
  cases (show u=Value.ref a from rx)
  obtain ⟨mA,O,_⟩:=yf I.hok ea
  obtain ⟨od,J,_⟩:=O.look
  exact PySem.W.kia_one (PySem.W.kitx_own (cl.get _) cl.hd ha hn htk hm) I.kIn J e (fun z=>nomatch z) h
end
structure cD (k:Nat) (A:Around):Prop where
 hd:A.handled=none
 dp:A.depth+3 * k+5 < recursionLimit
 un:A.units+16 * k+200 < cLine
theorem cD.mono {j k:Nat} {A:Around} (r:cD k A) (h:j≤k):cD j A:=⟨r.hd,by have:=r.dp;omega,by have:=r.un;omega⟩
theorem cD.deeper {k:Nat} {A:Around} (r:cD (k+1) A) (env:Env):cD k (A.deeper env):=
 ⟨r.hd,by have:=r.dp;show A.depth+1+3 * k+5 < _;omega,by have:=r.un;show A.units+3+16 * k+200 < _;omega⟩
theorem cD.depth {k:Nat} {A:Around} (r:cD k A):A.depth < recursionLimit:=by have:=r.dp;omega
theorem cD.units {k:Nat} {A:Around} (r:cD k A):A.units+64 < cLine:=by have:=r.un;omega
def Et:TA:=fun _ H Q=>Q [] H
def CP (ta:TE) (tr:TA):TA:=fun σ H Q=>ta σ H fun x H1=>tr σ H1 fun xs H2=>Q (x :: xs) H2
section
variable {X:Cx} {e:Expr} {es:List Expr} {te:TE} {t:TA} {pos:Pos}
theorem gS:PA X [] Et:=fun _ _ _ _ H Q I h=>Calls.spliced_nil ⟨[],H,I,.nil,h⟩
theorem d6 (ha:PE X e te) (hr:PA X es t) (hs:starEach (e :: es) X.env=(false,eval e X.env) :: starEach es X.env:=by rfl):PA X (e :: es) (CP te t):=by
 intro pos pins s σ H Q I h
 rw [hs]
 show wpAny _ _ (spliced ((false,eval e X.env) :: backTo pos (starEach es X.env))) _ _ s
 refine Calls.spliced_cons (thn (ha pins s σ H _ I h) fun u s1 ⟨x,H1,I1,r1,q1⟩=>?_)
 exact thn (hr pos pins s1 σ H1 _ I1 q1) fun us s2 ⟨xs,H2,I2,r2,q2⟩=>⟨x :: xs,H2,I2,.cons r1 r2,q2⟩
def EF (t:TA):TE:=fun σ H Q=>t σ H fun xs H1=>xs.length≤sizeLine∧∀ p,H1 p=none→Q (.ref p) (upd H1 p (.tup xs))
def ES (t:TA):TE:=fun σ H Q=>t σ H fun xs H1=>xs.length≤sizeLine∧∀ p,H1 p=none→Q (.ref p) (upd H1 p (.lst xs))
theorem AO {x1} (h:PA X es t):PE X (.Tuple es x1 pos) (EF t):=by
 intro pins s σ H Q I hq
 refine wpAny_Tuple_spliced (thn (h pos pins s σ H _ I hq) fun us s1 ⟨xs,H1,I1,r,z,q⟩=>⟨by rw [← r.length];exact z,?_⟩)
 have hf:H1 s1.heap.objs.size=none:=I1.hok.fresh (Nat.le_refl _)
 refine ⟨.ref s1.heap.objs.size,upd H1 s1.heap.objs.size (.tup xs),I1.laid (t':=s1.toks) (fun b u e=>Heap.get?_push_of_some _ e) (Nat.le_refl _) ?_,rfl,q _ hf⟩
 exact ⟨z,us,r,⟨_,Heap.get?_push_size _ rfl,rfl,_,rfl⟩⟩
theorem vb (h:PA X es t):PE X (.List es pos) (ES t):=by
 intro pins s σ H Q I hq
 refine wpAny_List_spliced (thn (h pos pins s σ H _ I hq) fun us s1 ⟨xs,H1,I1,r,z,q⟩=>⟨by rw [← r.length];exact z,?_⟩)
 have hf:H1 s1.heap.objs.size=none:=I1.hok.fresh (Nat.le_refl _)
 refine ⟨.ref s1.heap.objs.size,upd H1 s1.heap.objs.size (.lst xs),I1.laid (t':=s1.toks) (fun b u e=>Heap.get?_push_of_some _ e) (Nat.le_refl _) ?_,rfl,q _ hf⟩
 exact ⟨z,us,0,r,Heap.get?_push_size _ rfl⟩
end
abbrev Sp:=List V→Hp→VK→XK→Prop
abbrev CXT:=List Env→Hp→Shared→XK→Value→Shared→Prop
structure sJ (P:Program) (w:World) (K:PySem.W.Frag) (mg:Str→Option Value) (base:Heap) (A:Around) (outer:List Env) (s:Shared) (H:Hp):Prop where
 frames:A.frames=some outer
 mod:Mod K mg base
 bs:∀ b o,base.get? b=some o→s.heap.get? b=some o∧H b=none
 bsz:base.objs.size≤s.heap.objs.size
 gr:s.heap.FunFrames base outer
 frf:∀ b∈frs outer,H b=none
 hok:HOk P w H s.heap
 bare:AllBare s.gens
def CE (outer:List Env) (P:Program) (w:World) (H:Hp) (s:Shared) (Q:VK) (u:Value) (s':Shared):Prop:=
 ∃ v H',s'.os=s.os∧AllBare s'.gens∧Un (frs outer) [] H H' s.heap s'.heap∧HOk P w H' s'.heap∧RelV v u∧Q v H'
def CR (CX:CXT) (outer:List Env) (P:Program) (w:World) (H:Hp) (s:Shared) (Q:VK) (E:XK) (r:Result) (s':Shared):Prop:=
 match r with
 | .ok (.ret u)=>CE outer P w H s Q u s'
 | .ok _=>False
 | .error e=>CX outer H s E e s'
structure eK (P:Program) (w:World) (K:PySem.W.Frag) (mg:Str→Option Value) (base:Heap) (CX:CXT) (k:Nat) (f:Addr) (fd:FuncData) (ps:List Str) (sp:Sp):Prop where
 len:∀ vs H Q E,sp vs H Q E→vs.length=ps.length
 run:∀ (A:Around) (outer:List Env) (s:Shared) (H:Hp) (args:Args) (us:List Value) (vs:List V) (Q:VK) (E:XK),cD k A→sJ P w K mg base A outer s H→BindsTo s fd args (ps.zip us)→Vals vs us→sp vs H Q E →
  codeAny (model P w) A (.call (.ref f) args) (CR CX outer P w H s Q E) s
theorem eK.imp {P:Program} {w:World} {K:PySem.W.Frag} {mg:Str→Option Value} {base:Heap} {CX:CXT} {k:Nat} {f:Addr} {fd:FuncData} {ps:List Str} {sp sp':Sp} (F:eK P w K mg base CX k f fd ps sp)
  (h:∀ vs H Q E,sp' vs H Q E→sp vs H Q E):eK P w K mg base CX k f fd ps sp':=
 ⟨fun vs H Q E q=>F.len vs H Q E (h _ _ _ _ q),fun A outer s H args us vs Q E hr he hb hv hs=>F.run A outer s H args us vs Q E hr he hb hv (h _ _ _ _ hs)⟩
section
variable {X:Cx} {pins:List (Addr×Obj)} {σ:St} {H:Hp} {s s':Shared}
theorem Inv.Eg (I:Inv X pins σ H s):sJ X.prog X.w X.K X.mg X.base X.A X.stack s H:=
 ⟨I.ok.frames,I.ok.mod,I.bs,Nat.le_trans I.ok.bsz I.sz,I.stack,I.rA,I.hok,I.bare⟩
theorem Inv.after {Q:VK} {u:Value} (I:Inv X pins σ H s) (h:CE X.stack X.prog X.w H s Q u s'):EP X pins σ Q u s':=by
 obtain ⟨v,H',os,bare,un,hok,r,q⟩:=h
 obtain ⟨hh,g,d,t,os'⟩:=s'
 obtain rfl:os'=s.os:=os
 exact ⟨v,H',I.call (h':=hh) (g':=g) (d':=d) (t':=t) (ch:=[]) un hok bare (fun b z=>absurd z (by simp)),r,q⟩
end
def DO (sp:Sp) (dvs:List V) (E:XK) (t:TA):TE:=fun σ H Q=>t σ H fun vs H1=>sp (vs++dvs) H1 Q E
def Binds (K:PySem.W.Frag) (fd:FuncData) (ps:List Str) (ds:List Value):Prop:=
 ∀ (s:Shared) (us:List Value),K.In s.heap→(us++ds).length=ps.length→BindsTo s fd ⟨us,[]⟩ (ps.zip (us++ds))
theorem Binds.all {K:PySem.W.Frag} {fd:FuncData} {ps:List Str} (h:∀ us:List Value,us.length=ps.length→bindArgs fd ⟨us,[]⟩=pure (ps.zip us)):Binds K fd ps []:=fun s us _ hl=>by
 rw [List.append_nil] at hl ⊢
 exact .of_eq (h us hl)
def Passes (CX:CXT) (X:Cx) (E:XK):Prop:=∀ (pins:List (Addr×Obj)) (σ:St) (H:Hp) (s:Shared) (e:Value) (s':Shared),Inv X pins σ H s→CX X.stack H s E e s'→X.xe e s'
section
variable {X:Cx} {CX:CXT} {k:Nat} {f C:Addr} {fd:FuncData} {ps:List Str} {sp:Sp} {dvs:List V} {ds:List Value} {E:XK} {x m:Str} {p pos apos:Pos} {e o:Expr} {es:List Expr} {ta:TE} {t:TA}
theorem AF {pins:List (Addr×Obj)} {σ:St} {H:Hp} {s:Shared} {Q:VK} {us:List Value} {vs:List V} (F:eK X.prog X.w X.K X.mg X.base CX k f fd ps sp) (hr:cD k X.A) (hb:Binds X.K fd ps ds) (hd:Vals dvs ds) (hx:Passes CX X E)
  (I:Inv X pins σ H s) (r:Vals vs us) (h:sp (vs++dvs) H Q E):wpAny (model X.prog X.w) X.A (call (.ref f) us) (EP X pins σ Q) X.xe s:=by
 have r2:Vals (vs++dvs) (us++ds):=r.append hd
 have hl:(us++ds).length=ps.length:=by rw [← r2.length];exact F.len _ _ _ _ h
 refine wpAny_call (codeAny_mono (F.run X.A X.stack s H ⟨us,[]⟩ (us++ds) (vs++dvs) Q E hr I.Eg (hb s us I.kIn hl) r2 h) fun r s' hq=>?_)
 cases r with
 | error e=>exact hx pins σ H s e s' I hq
 | ok fl=>
  cases fl with
  | ret u=>exact I.after hq
  | next=>exact False.elim hq
  | brk=>exact False.elim hq
  | cont=>exact False.elim hq
theorem yK (F:eK X.prog X.w X.K X.mg X.base CX k f fd ps sp) (hr:cD k X.A) (hg:Gl X x) (hm:X.mg x=some (.ref f)) (hk:PySem.W.keepIn X.K (.ref f)=true) (hb:Binds X.K fd ps ds) (hd:Vals dvs ds) (hx:Passes CX X E)
  (ha:PA X (e :: es) t) (hdb:(x == ("__debug__":Str))=false:=by decide) (he:starEach (e :: es) X.env=(false,eval e X.env) :: starEach es X.env:=by rfl) (hpl:(backTo pos (starEach es X.env)).any (·.1)=false:=by rfl) :
  PE X (.Call (.Name x p) (e :: es) [] pos) (DO sp dvs E t):=by
 intro pins s σ H Q I h
 refine wpAny_Call_Name_kw (yk I hg hm ?_ hdb)
 refine PySem.W.callWith_K (h₀:=X.base) I.ok.mod.kin hk (thn (ha pos pins s σ H _ I h) fun us s1 ⟨vs,H1,I1,r,q⟩=>⟨I1.kIn,?_⟩) he hpl
 exact AF F hr hb hd hx I1 r q
structure Mk (K:PySem.W.Frag) (C f:Addr):Prop where
 makes:PySem.W.makesIn K C=true
 init:PySem.W.findIn K (.ref C) "__init__"=some (some (.ref f))
 fn:PySem.W.isFn K (.ref f)=true
 kp:PySem.W.keepIn K (.ref C)=true
end
section
variable {X:Cx} {CX:CXT} {k:Nat} {f C:Addr} {fd:FuncData} {ps ks:List Str} {sp:Sp} {E:XK} {x m:Str} {p pos apos kpos:Pos} {e o:Expr} {es:List Expr} {kws:List Keyword} {te ta:TE} {t tk:TA} {nm:Option Str}
structure EY (K:PySem.W.Frag) (fd:FuncData) (ps ks:List Str) (g:List Value→List Value→List Value) (gV:List V→List V→List V):Prop where
 to:∀ (s:Shared) (us ws:List Value),K.In s.heap→(g us ws).length=ps.length→BindsTo s fd ⟨us,ks.zip ws⟩ (ps.zip (g us ws))
 rel:∀ {vs:List V} {us:List Value} {zs:List V} {ws:List Value},Vals vs us→Vals zs ws→Vals (gV vs zs) (g us ws)
variable {g:List Value→List Value→List Value} {gV:List V→List V→List V}
end
structure iI (N P:List Str) (sc:Scope):Prop where
 kind:sc.kind=.function
 co:sc.isCoroutine=false
 gen:sc.isGenerator=false
 nd:N.Nodup
 pre:N.take P.length=P
 par:∀ x∈P,sc.names.lookup x=some .local∨sc.names.lookup x=some .cell
 nofree:∀ y∈sc.names,y.2≠.free
theorem nD {kindOf:Str→Option NameKind} {x:Str}:∀ {binds:List (Str×Value)} {m:Str→Option Value},(∀ v,(x,v)∉binds)→bindL kindOf binds m x=m x
 | [],_,_=>rfl
 | (n,v) :: r,m,h=>by
  unfold bindL
  rw [nD fun w hw=>h w (List.mem_cons_of_mem _ hw)]
  split
  ·have:x≠n:=by rintro rfl;exact h v List.mem_cons_self
   simp [this]
  ·rfl
theorem nz {kindOf:Str→Option NameKind} {x:Str}:∀ {binds:List (Str×Value)} {m:Str→Option Value},(∀ v,(x,v)∉binds)→bindC kindOf binds m x=m x
 | [],_,_=>rfl
 | (n,v) :: r,m,h=>by
  unfold bindC
  rw [nz fun w hw=>h w (List.mem_cons_of_mem _ hw)]
  split
  ·rfl
  ·have:x≠n:=by rintro rfl;exact h v List.mem_cons_self
   simp [this]
theorem nR {kindOf:Str→Option NameKind} {x:Str} {v:Value}:∀ {P:List Str} {vs:List Value} {i:Nat} {m:Str→Option Value},P.Nodup→P[i]?=some x→vs[i]?=some v→kindOf x=some .local →
  bindL kindOf (P.zip vs) m x=some v
 | [],_,_,_,_,h,_,_=>by simp at h
 | _ :: _,[],_,_,_,_,h,_=>by simp at h
 | p :: P,w :: vs,0,m,nd,h1,h2,hk=>by
  simp at h1 h2;subst h1;subst h2
  show bindL kindOf ((p,w) :: P.zip vs) m p=_
  unfold bindL
  rw [nD fun v hv=>(List.nodup_cons.mp nd).1 (List.of_mem_zip hv).1,if_pos hk]
  simp
 | p :: P,w :: vs,i+1,m,nd,h1,h2,hk=>by
  show bindL kindOf ((p,w) :: P.zip vs) m x=_
  unfold bindL
  exact nR (i:=i) (List.nodup_cons.mp nd).2 (by simpa using h1) (by simpa using h2) hk
theorem nB {kindOf:Str→Option NameKind} {x:Str} {v:Value}:∀ {P:List Str} {vs:List Value} {i:Nat} {m:Str→Option Value},P.Nodup→P[i]?=some x→vs[i]?=some v→kindOf x≠some .local →
  bindC kindOf (P.zip vs) m x=some v
 | [],_,_,_,_,h,_,_=>by simp at h
 | _ :: _,[],_,_,_,_,h,_=>by simp at h
 | p :: P,w :: vs,0,m,nd,h1,h2,hk=>by
  simp at h1 h2;subst h1;subst h2
  show bindC kindOf ((p,w) :: P.zip vs) m p=_
  unfold bindC
  rw [nz fun v hv=>(List.nodup_cons.mp nd).1 (List.of_mem_zip hv).1,if_neg hk]
  simp
 | p :: P,w :: vs,i+1,m,nd,h1,h2,hk=>by
  show bindC kindOf ((p,w) :: P.zip vs) m x=_
  unfold bindC
  exact nB (i:=i) (List.nodup_cons.mp nd).2 (by simpa using h1) (by simpa using h2) hk
def start (N:List Str) (vs:List V):St:=vs.map some++List.replicate (N.length - vs.length) none
def ku (CX:CXT) (P:Program) (w:World) (K:PySem.W.Frag) (mg:Str→Option Value) (base:Heap) (N:List Str) (qual:Str) (scope:Scope) (f:Addr) (cd:Value) (A:Around) (outer:List Env) (s:Shared) (H:Hp) (E:XK):Cx where
 prog:=P
 w:=w
 K:=K
 mg:=mg
 base:=base
 A:=A.deeper (envOfC qual scope s.heap.objs.size f cd)
 N:=N
 s₀:=s
 H₀:=H
 env:=envOfC qual scope s.heap.objs.size f cd
 outer:=outer
 stack:=envOfC qual scope s.heap.objs.size f cd :: outer
 ex:=[]
 calm:=true
 fn:=fun _=>true
 pn:=[]
 xe:=fun e s'=>wpAny (model P w) (A.deeper (envOfC qual scope s.heap.objs.size f cd)) (leaving (envOfC qual scope s.heap.objs.size f cd) e) (fun _ s''=>CX outer H s E e s'') (fun e' s''=>CX outer H s E e' s'') s'
theorem pO {sc:Scope} {n:Nat} {x:Str} (h:sc.names.lookup x=some .cell):∃ c,(cellsFrom n sc.names []).lookup x=some c:=by
 have q:=PySem.W.cellsFrom_some sc.names n [] (.inl h)
 exact Option.isSome_iff_exists.mp q
theorem tO {CX:CXT} {P:Program} {w:World} {K:PySem.W.Frag} {mg:Str→Option Value} {base:Heap} {N ps:List Str} {qual:Str} {scope:Scope} {f:Addr} {cd:Value} {A:Around} {outer:List Env} {s s1:Shared} {H:Hp} {E:XK} {us:List Value} {vs:List V}
  (S:iI N ps scope) (hd:A.handled=none) (e0:sJ P w K mg base A outer s H) (hl:vs.length=ps.length) (r:Vals vs us)
  (x:InCallC s s.heap.objs.size (bindL (envOfC qual scope s.heap.objs.size f cd).kindOf (ps.zip us) fun _=>none) (cellsFrom (s.heap.objs.size+1) scope.names []) (bindC (envOfC qual scope s.heap.objs.size f cd).kindOf (ps.zip us) fun _=>none) s1) :
  Inv (ku CX P w K mg base N qual scope f cd A outer s H E) [] (start N vs) H s1:=by
 have hpl:ps.length≤N.length:=by have:=congrArg List.length S.pre;rw [List.length_take] at this;omega
 obtain ⟨h1,tk,rfl,hk⟩:=x.done
 have noA:∀ b:Addr,b∉(ku CX P w K mg base N qual scope f cd A outer s H E).ex:=fun b z=>absurd (show b∈([]:List Addr) from z) (by simp)
 refine ⟨⟨e0.mod,S.kind,rfl,rfl,Nat.le_refl _,fun y z c h1 h2=>?_,fun y hy=>?_,fun y c _ h=>?_,fun _=>hd,Around.frames_deeper e0.frames,.inr ⟨rfl,rfl⟩,fun b z=>absurd z (noA b),e0.bs,e0.bsz,fun b _ _=>noA b,fun b z=>absurd z (noA b),e0.gr,e0.frf⟩,
  rfl,e0.bare,Un.kept hk,⟨_,x.toInCall.ns,fun i y v h1 h2 h3=>?_⟩,fun y c h=>⟨_,x.cell y c h⟩,e0.hok.fresh (Nat.le_refl _),fun y c h=>?_,fun p hp=>absurd (show p∈([]:List (Addr×Obj)) from hp) (by simp),e0.hok.kept hk,?_⟩
 ·exact name_of_addr x.apart (PySem.mem_of_lookup h1) (PySem.mem_of_lookup h2)
 ·have hy:scope.names.lookup y=some .cell∨scope.names.lookup y=some .free:=hy
  rcases hy with hy | hy
  ·exact pO hy
  ·exact absurd rfl (S.nofree _ (PySem.mem_of_lookup hy))
 ·exact Nat.le_of_lt (x.above y c (PySem.mem_of_lookup h))
 ·have hi:i < vs.length:=by
   unfold start at h2
   by_cases hi:i < vs.length
   ·exact hi
   ·rw [List.getElem?_append_right (by simpa using hi)] at h2
    rw [List.getElem?_replicate] at h2
    split at h2<;>cases h2
  have ha:vs[i]?=some v:=by
   unfold start at h2
   rw [List.getElem?_append_left (by simpa using hi),List.getElem?_map] at h2
   cases e:vs[i]? with
   | none=>rw [e] at h2;cases h2
   | some a=>rw [e] at h2;cases h2;rfl
  obtain ⟨u,hu,rv⟩:=r.get ha
  have hp:ps[i]?=some y:=by
   rw [← S.pre,List.getElem?_take_of_lt (by omega)];exact h1
  have ndP:ps.Nodup:=by rw [← S.pre];exact S.nd.sublist (List.take_sublist _ _)
  refine ⟨u,rv,?_⟩
  rcases S.par y (List.mem_of_getElem? hp) with k | k
  ·exact .inl ⟨k,nR ndP hp hu k⟩
  ·obtain ⟨c,e⟩:=pO (n:=s.heap.objs.size+1) k
   refine .inr ⟨.inl k,c,e,?_⟩
   have q:=x.cell y c e
   rw [nB ndP hp hu (by show scope.names.lookup y≠_;rw [k];decide)] at q
   exact q
 ·exact e0.hok.fresh (Nat.le_of_lt (x.above y c (PySem.mem_of_lookup h)))
 ·unfold start
  show _=N.length
  rw [List.length_append,List.length_map,List.length_replicate]
  omega
theorem Cz {CX:CXT} {P:Program} {w:World} {K:PySem.W.Frag} {mg:Str→Option Value} {base:Heap} {k:Nat} {f:Addr} {name qual:Str} {params:Arguments} {body:List Stmt} {scope:Scope} {dV kV doc pm cdv ct oc:Value} {an od:Option Addr}
  {osl:Array (Option Value)} {N ps:List Str} {sp:Sp} (lk:K.lookup f=some ⟨oc,od,.func (PySem.W.fnOf name qual params body scope dV kV doc pm an cdv ct),osl⟩) (hcd:PySem.W.codeIn K cdv qual=true) (S:iI N ps scope)
  (len:∀ vs H Q E,sp vs H Q E→vs.length=ps.length)
  (hbody:∀ (A:Around) (outer:List Env) (s:Shared) (H:Hp) (vs:List V) (Q:VK) (E:XK),cD k (A.deeper (envOfC qual scope s.heap.objs.size f cdv))→sp vs H Q E →
   ∃ t,PSs (ku CX P w K mg base N qual scope f cdv A outer s H E) body t∧t { nx:=fun _ H'=>Q .non H',rt:=Q } (start N vs) H) :
  eK P w K mg base CX (k+1) f (PySem.W.fnOf name qual params body scope dV kV doc pm an cdv ct) ps sp:=by
 refine ⟨len,fun A outer s H args us vs Q E hr e0 hb r hsp=>?_⟩
 have hl:=len _ _ _ _ hsp
 have KX:K.In s.heap:=e0.mod.kin.keeps fun b o e=>(e0.bs b o e).1
 have lim:s.heap.NoLimit:=e0.mod.nolimit.keeps fun b o e=>(e0.bs b o e).1
 have hkind:∀ y∈ps.zip us,scope.names.lookup y.1=some .local∨(scope.names.lookup y.1=some .cell∧((cellsFrom (s.heap.objs.size+1) scope.names []).lookup y.1).isSome=true):=fun ⟨n,v⟩ hy=>by
  rcases S.par n (List.of_mem_zip hy).1 with q | q
  ·exact .inl q
  ·exact .inr ⟨q,PySem.W.cellsFrom_some _ _ _ (.inl q)⟩
 refine codeAny_call_function hr.depth (KX _ _ lk) rfl S.co S.gen rfl (PySem.W.codeRec_of KX hcd) (hb _ _ _ _ ?_)
 refine wpAny_newFunctionEnv_cells S.kind hkind fun env he s1 x=>?_
 subst he
 refine ⟨lim.keeps x.toInCall.keep,codeAny_func ?_⟩
 obtain ⟨t,ht,hq⟩:=hbody A outer s H vs Q E (hr.deeper _) hsp
 have I:Inv (ku CX P w K mg base N qual scope f cdv A outer s H E) [] (start N vs) H s1:=tO S hr.hd e0 hl r x
 refine wpAny_mono (ht [] s1 (start N vs) H _ I hq) (fun fl s' hs=>?_) fun e s' hs=>hs
 have fin:∀ {σ':St} {H':Hp} {v:V} {u:Value},Inv (ku CX P w K mg base N qual scope f cdv A outer s H E) [] σ' H' s'→RelV v u→Q v H'→CE outer P w H s Q u s':=
  fun {σ' H' v u} J rv q=>⟨v,H',J.os,J.bare,J.base,J.hok,rv,q⟩
 cases fl with
 | ret u=>
  obtain ⟨v,σ',H',J,rv,q⟩:=hs
  exact fin J rv q
 | next=>
  obtain ⟨σ',H',J,q⟩:=hs
  exact fin (v:=V.non) (u:=Value.none) J rfl q
 | brk=>
  obtain ⟨_,_,_,q⟩:=hs
  exact False.elim q
 | cont=>
  obtain ⟨_,_,_,q⟩:=hs
  exact False.elim q
section
variable {X:Cx} {x:Str} {p pos:Pos} {e:Expr} {es:List Expr} {t:TA} {id T:String} {r:List V→Hp→VK→Prop}
def tCB (r:List V→Hp→VK→Prop) (t:TA):TE:=fun σ H Q=>t σ H fun vs H1=>r vs H1 Q
theorem vx (hc:bt X (.builtin id) r) (hg:Gl X x) (hm:X.mg x=none) (hv:bootBuiltins x=some (.builtin id)) (ha:PA X (e :: es) t) (hn:x≠"__name__":=by decide) (hdb:(x == ("__debug__":Str))=false:=by decide)
  (he:starEach (e :: es) X.env=(false,eval e X.env) :: starEach es X.env:=by rfl) (hpl:(backTo pos (starEach es X.env)).any (·.1)=false:=by rfl):PE X (.Call (.Name x p) (e :: es) [] pos) (tCB r t):=by
 intro pins s σ H Q I h
 refine wpAny_Call_Name_kw (cH I hg hm hv ?_ hn hdb)
 exact PyProof.Rows.callWith_builtin1 (thn (ha pos pins s σ H _ I h) fun us s1 ⟨vs,H1,I1,r1,q1⟩=>hc pins s1 σ H1 vs us Q I1 r1 q1) he hpl
theorem uQ (hc:bt X (.type T) r) (hg:Gl X x) (hm:X.mg x=none) (hv:bootBuiltins x=some (.type T)) (ha:PA X (e :: es) t) (hn:x≠"__name__":=by decide) (hdb:(x == ("__debug__":Str))=false:=by decide)
  (he:starEach (e :: es) X.env=(false,eval e X.env) :: starEach es X.env:=by rfl) (hpl:(backTo pos (starEach es X.env)).any (·.1)=false:=by rfl):PE X (.Call (.Name x p) (e :: es) [] pos) (tCB r t):=by
 intro pins s σ H Q I h
 refine wpAny_Call_Name_kw (cH I hg hm hv ?_ hn hdb)
 exact PyProof.Rows.callWith_type1 (thn (ha pos pins s σ H _ I h) fun us s1 ⟨vs,H1,I1,r1,q1⟩=>hc pins s1 σ H1 vs us Q I1 r1 q1) he hpl
end
end L2
namespace HT
open PySem PyProof.Rows
section
open PySem.SeqAt
open PySem.AutoSeq1 (wpAny_loadPart')
open PySem.MeetsSeq PySem.MeetsSeq2 PySem.MeetsSeq3
end
section
variable {prog:Program} {w:World} {A:Around} {E:Value→Shared→Prop} {s:Shared}
theorem x_ {t b:Addr} {vs ws:List Value} {Q:Value→Shared→Prop} (ht:IsTup s.heap t vs.toArray) (hb:IsTup s.heap b ws.toArray) (hv:vs≠[])
  (h1:ws=[]→Q (.ref t) s) (h2:ws≠[]→Q (.ref s.heap.objs.size) { s with heap:=s.heap.push { cls:=.type "tuple",data:=.seq (vs++ws).toArray } })
  (hsz:vs.length+ws.length≤sizeLine):wpAny (model prog w) A (binaryOp .Add (.ref t) (.ref b)) Q E s:=by
 obtain ⟨⟨cls,dd,data,sl⟩,ho,hc,n,hd⟩:=id ht
 obtain ⟨⟨cls2,dd2,data2,sl2⟩,ho2,hc2,n2,hd2⟩:=id hb
 simp only at hc hd hc2 hd2
 subst hc hd hc2 hd2
 have e:vs.toArray++ws.toArray=(vs++ws).toArray:=by simp
 by_cases hw:ws=[]
 ·exact concat_meets ⟨_,ho,rfl⟩ ⟨_,ho2,rfl⟩ noFill_tuple_add seq_tuple_add PySem.F.slot_tuple_add PySem.F.entry_tuple_add (PySem.F.args_tuple_add_2 _ _)
   (tuple_addW1 t b vs.toArray ws.toArray n n2 dd dd2 sl sl2 (by simpa using hv) (by simp [hw])) ⟨ho,ho2,h1 hw⟩
 ·refine concat_meets ⟨_,ho,rfl⟩ ⟨_,ho2,rfl⟩ noFill_tuple_add seq_tuple_add PySem.F.slot_tuple_add PySem.F.entry_tuple_add (PySem.F.args_tuple_add_2 _ _)
   (tuple_addW2 t b vs.toArray ws.toArray n n2 dd dd2 sl sl2 (by simpa using hv) (by simpa using hw) (by rw [List.size_toArray,List.size_toArray];exact hsz)) ⟨ho,ho2,?_⟩
  rw [e]
  exact h2 hw
def sIx (n d:Nat):Option Int→Nat
 | none=>d
 | some v=>if v < 0 then (v+(n:Int)).toNat else min v.toNat n
theorem jf (n d:Nat):sIx n d none=d:=rfl
theorem iS (n d k:Nat):sIx n d (some (k:Int))=min k n:=by
 show (if (k:Int) < 0 then ((k:Int)+(n:Int)).toNat else min (k:Int).toNat n)=min k n
 rw [if_neg (by omega),Int.toNat_natCast]
theorem zK (n d:Nat) (hd:d≤n) (o:Option Int):sIx n d o≤n:=by
 cases o with
 | none=>exact hd
 | some v=>
  show (if v < 0 then (v+(n:Int)).toNat else min v.toNat n)≤n
  by_cases hv:v < 0
  ·rw [if_pos hv];omega
  ·rw [if_neg hv];exact Nat.min_le_right _ _
theorem rQ (v:Int) (n d:Nat):(if v < 0 then max (v+(n:Int)) 0 else min v (n:Int))=((sIx n d (some v):Nat):Int):=by
 show (if v < 0 then max (v+(n:Int)) 0 else min v (n:Int))=(((if v < 0 then (v+(n:Int)).toNat else min v.toNat n):Nat):Int)
 by_cases hv:v < 0
 ·simp only [if_pos hv];omega
 ·simp only [if_neg hv];omega
theorem sH (lo hi:Option Int) (n:Nat):Builtin.Slice.sliceAdjust lo hi 1 (n:Int)=(((sIx n 0 lo:Nat):Int),((sIx n n hi:Nat):Int)):=by
 have h1:¬((1:Int) < 0):=by omega
 unfold Builtin.Slice.sliceAdjust
 simp only [h1,if_false]
 refine Prod.ext ?_ ?_
 ·cases lo with
  | none=>rfl
  | some v=>exact rQ v n 0
 ·cases hi with
  | none=>rfl
  | some v=>exact rQ v n n
theorem tF (i j:Nat):Builtin.Slice.slicePlaces (i:Int) (j:Int) 1=j - i:=by
 unfold Builtin.Slice.slicePlaces
 have h1:(1:Int) > 0:=by omega
 simp only [h1,if_true,Int.ediv_one]
 split<;>omega
theorem lW {v:Value} {o:Option Int} {Q:Option Int→Shared→Prop} (p:IsPart v o) (h:Q o s):wpAny (model prog w) A (Builtin.Slice.slicePartIndex v) Q E s:=by
 cases p with
 | none=>exact slicePart_none h
 | int i t=>exact slicePart_int h
theorem gJ {sl:Addr} {vl vu:Value} {lo hi:Option Int} {n:Nat} {Q:Int×Int×Nat→Shared→Prop} (hs:s.heap.IsSliceOf sl vl vu .none) (pl:IsPart vl lo) (pu:IsPart vu hi)
  (h:Q (((sIx n 0 lo:Nat):Int),1,sIx n n hi - sIx n 0 lo) s):wpAny (model prog w) A (Builtin.Slice.sliceApplied (.ref sl) (pure (n:Int))) Q E s:=by
 obtain ⟨os,hos,hcs,hds⟩:=id hs
 unfold Builtin.Slice.sliceApplied Builtin.Slice.sliceFields
 refine wpAny_bind (wpAny_bind (wpAny_field hos hds (x:=vl) rfl (wpAny_bind (wpAny_field hos hds (x:=vu) rfl (wpAny_bind (wpAny_field hos hds (x:=.none) rfl (wpAny_pure ?_)))))))
 refine wpAny_bind (slicePart_none ?_)
 show wpAny _ _ (if ((1:Int) == 0)=true then _ else _) _ _ s
 rw [if_neg (by decide)]
 refine wpAny_bind (lW pl (wpAny_bind (lW pu (wpAny_bind (wpAny_pure ?_)))))
 show wpAny _ _ (match Builtin.Slice.sliceAdjust lo hi 1 (n:Int) with | (lo,hi)=>pure (lo,(1:Int),Builtin.Slice.slicePlaces lo hi 1)) _ _ s
 rw [sH lo hi n]
 show wpAny _ _ (pure (((sIx n 0 lo:Nat):Int),(1:Int),Builtin.Slice.slicePlaces ((sIx n 0 lo:Nat):Int) ((sIx n n hi:Nat):Int) 1)) _ _ s
 rw [tF]
 exact wpAny_pure h
theorem vS (xs:Array Value) (i k:Nat):((List.range k).filterMap fun (m:Nat)=>xs[((i:Int)+(m:Int) * 1).toNat]?).toArray=((xs.toList.drop i).take k).toArray:=by
 have e:(fun (m:Nat)=>xs[((i:Int)+(m:Int) * 1).toNat]?)=fun m=>xs[i+m]?:=by
  funext m
  have:((i:Int)+(m:Int) * 1).toNat=i+m:=by omega
  rw [this]
 rw [e]
 have:=pick_run xs i k
 rw [List.filterMap_map] at this
 have e2:((fun x=>xs[x]?) ∘ fun x=>i+x)=fun m=>xs[i+m]?:=rfl
 rw [e2] at this
 rw [this]
theorem kN {t sl:Addr} {items:Array Value} {vl vu:Value} {lo hi:Option Int} {Q:Value→Shared→Prop} (ht:IsTup s.heap t items) (hs:s.heap.IsSliceOf sl vl vu .none) (pl:IsPart vl lo) (pu:IsPart vu hi)
    (hw:¬(sIx items.size 0 lo=0∧sIx items.size items.size hi=items.size))
    (h:Q (.ref s.heap.objs.size) { s with heap:=s.heap.push { cls:=.type "tuple",data:=.seq ((items.toList.drop (sIx items.size 0 lo)).take (sIx items.size items.size hi - sIx items.size 0 lo)).toArray } })
    (hsz:items.size≤sizeLine):wpAny (model prog w) A (getItem (.ref t) (.ref sl)) Q E s:=by
  have htake:sizeOk (.seq ((items.toList.drop (sIx items.size 0 lo)).take (sIx items.size items.size hi - sIx items.size 0 lo)).toArray):=by
    show ((items.toList.drop (sIx items.size 0 lo)).take (sIx items.size items.size hi - sIx items.size 0 lo)).toArray.size≤sizeLine
    rw [List.size_toArray,List.length_take,List.length_drop,Array.length_toList]
    omega
  have hj:sIx items.size items.size hi≤items.size:=zK _ _ (Nat.le_refl _) hi
  obtain ⟨os,hos,hcs,hds⟩:=id hs
  have hTs:s.TypeIs (.ref sl) "slice":=⟨os,hos,hcs⟩
  unfold getItem
  try with_reducible refine wpAny_holding ?_
  first | refine wpAny_bind (wpAny_pure ?_) | skip
  refine wpAny_bind (wpAny_sequenceKey ht.typeIs (by decide) ?_)
  refine wpAny_bind (wpAny_callSpecial?_slot (name:=Str.ofString "__getitem__") ht.typeIs PyProof.Rows.slot_tuple_getitem
    (wpAny_call_entry PyProof.Rows.slot_tuple_getitem ht.typeIs entry_tuple_getitem ?_ (args_tuple_getitem _ _)))
  show wpAny _ _ (Builtin.Tuple.tupleItemsOf (.ref t)>>=_) _ _ s
  refine wpAny_bind (tupleItemsOf_ ht ?_)
  refine wpAny_bind (wpAny_typeOf hTs ?_)
  rw [if_pos (by decide)]
  refine wpAny_bind (gJ hs pl pu ?_)
  have hno:¬((((sIx items.size 0 lo:Nat):Int) == 0 && (1:Int) == 1 && (sIx items.size items.size hi - sIx items.size 0 lo) == items.size)=true):=by
    intro q
    rw [Bool.and_eq_true,Bool.and_eq_true] at q
    have q1:((sIx items.size 0 lo:Nat):Int)=0:=eq_of_beq q.1.1
    have q2:sIx items.size items.size hi - sIx items.size 0 lo=items.size:=eq_of_beq q.2
    exact hw ⟨by omega,by omega⟩
  show wpAny _ _ (if (((sIx items.size 0 lo:Nat):Int) == 0 && (1:Int) == 1 && (sIx items.size items.size hi - sIx items.size 0 lo) == items.size)=true then _ else _) _ _ s
  rw [if_neg hno,vS]
  first
    | exact wpAny_bind (m:=Builtin.Tuple.tupleExact _) (wpAny_newObj_type (wpAny_pure ⟨_,rfl,wpAny_pure h⟩) htake)
    | exact wpAny_bind (m:=Builtin.Tuple.tupleExact _) (wpAny_newObj_type (wpAny_bind (wpAny_pure (wpAny_pure ⟨_,rfl,wpAny_pure h⟩))) htake)
    | exact wpAny_bind (wpAny_bind (m:=Builtin.Tuple.tupleExact _) (wpAny_newObj_type (wpAny_pure (wpAny_pure ⟨_,rfl,wpAny_pure h⟩)) htake))
    | exact wpAny_bind (wpAny_bind (m:=Builtin.Tuple.tupleExact _) (wpAny_newObj_type (wpAny_pure ⟨_,rfl,wpAny_pure h⟩) htake))
end
end HT
namespace L2
open PySem PySem.Spec PyProof.Rows
abbrev TO:=St→Hp→(Option Int→Hp→Prop)→Prop
def PO (X:Cx) (e:Option Expr) (t:TO):Prop:=
 ∀ (pins:List (Addr×Obj)) (s:Shared) (σ:St) (H:Hp) (Q:Option Int→Hp→Prop),Inv X pins σ H s→t σ H Q →
  wpAny (model X.prog X.w) X.A (evalPart e X.env) (fun u s'=>∃ o H',Inv X pins σ H' s'∧IsPart u o∧Q o H') X.xe s
def y3:TO:=fun _ H Q=>Q none H
def DU (t:TE):TO:=fun σ H Q=>t σ H fun x H1=>∃ i,x=.int i∧Q (some i) H1
theorem intsAre_of {ns:List Int}:∀ {us:List Value},Vals (ns.map V.int) us→IntsAre us ns:=by
 induction ns with
 | nil=>intro us r;rw [List.map_nil] at r;cases r;exact .nil
 | cons n ns ih=>
  intro us r
  rw [List.map_cons] at r
  cases r with
  | cons r1 r2=>
   obtain ⟨t,e⟩:=r1
   subst e
   exact .cons n t (ih r2)
section
variable {X:Cx} {e:Expr} {te:TE} {lo hi:Option Expr} {tl th:TO} {pos p2:Pos}
theorem yr:PO X none y3:=by
 intro pins s σ H Q I h
 rw [evalPart_none]
 exact wpAny_pure ⟨none,H,I,.none,h⟩
theorem yj (h:PE X e te):PO X (some e) (DU te):=by
 intro pins s σ H Q I hw
 rw [evalPart_some]
 refine thn (h pins s σ H _ I hw) fun u s1 ⟨x,H1,I1,r1,q1⟩=>?_
 obtain ⟨i,rfl,q⟩:=q1
 obtain ⟨t,rfl⟩:=r1
 exact ⟨some i,H1,I1,.int i t,q⟩
def SlR (X:Cx) (r:V→Option Int→Option Int→Hp→VK→Prop):Prop:=
 ∀ (pins:List (Addr×Obj)) (s:Shared) (σ:St) (H:Hp) (x:V) (v vl vu:Value) (lo hi:Option Int) (sl:Addr) (Q:VK),Inv X pins σ H s→RelV x v→s.heap.IsSliceOf sl vl vu .none→IsPart vl lo→IsPart vu hi→r x lo hi H Q →
  ∃ T id,typeLookup (.type T) "__getitem__"=pure (some (.builtin id))∧s.TypeIs v T∧wpAny (model X.prog X.w) X.A (getItem v (.ref sl)) (EP X pins σ Q) X.xe s
def tSl (r:V→Option Int→Option Int→Hp→VK→Prop) (te:TE) (tl th:TO):TE:=fun σ H Q=>te σ H fun x H1=>tl σ H1 fun l H2=>th σ H2 fun u H3=>r x l u H3 Q
theorem p7 {r:V→Option Int→Option Int→Hp→VK→Prop} (hr:SlR X r) (he:PE X e te) (hl:PO X lo tl) (hu:PO X hi th):PE X (.Subscript e (.Slice lo hi none p2) pos) (tSl r te tl th):=by
 intro pins s σ H Q I h
 refine Subscript_ (thn (he pins s σ H _ I h) fun v s1 ⟨x,H1,I1,r1,q1⟩=>?_)
 refine wpAny_Slice (thn (hl pins s1 σ H1 _ I1 q1) fun vl s2 ⟨l,H2,I2,pl,q2⟩=>thn (hu pins s2 σ H2 _ I2 q2) fun vu s3 ⟨u,H3,I3,pu,q3⟩=>?_)
 rw [evalPart_none]
 refine wpAny_pure ?_
 have I4:Inv X pins σ H3 { s3 with heap:=s3.heap.push { cls:=.type "slice",data:=.fields #[vl,vu,.none] } }:=I3.kept (t':=s3.toks) fun b ob q=>Heap.get?_push_of_some _ q
 obtain ⟨T,id,hT,ht,hg⟩:=hr pins { s3 with heap:=s3.heap.push { cls:=.type "slice",data:=.fields #[vl,vu,.none] } } σ H3 x v vl vu l u s3.heap.objs.size Q I4 r1 (Heap.IsSliceOf.new ..) pl pu q3
 show wpAny (model X.prog X.w) X.A (subscriptTail e (.Slice lo hi none p2) v (.ref s3.heap.objs.size)) (EP X pins σ Q) X.xe { s3 with heap:=s3.heap.push { cls:=.type "slice",data:=.fields #[vl,vu,.none] } }
 exact tail_any (ops:=[.ref s3.heap.objs.size,v]) ht hT hg (by with_unfolding_all rfl)
def gf (xs:List V) (lo hi:Option Int):List V:=(xs.drop (HT.sIx xs.length 0 lo)).take (HT.sIx xs.length xs.length hi - HT.sIx xs.length 0 lo)
theorem lb (xs:List V) (lo hi:Option Int):(gf xs lo hi).length≤xs.length:=by
 unfold gf
 rw [List.length_take,List.length_drop]
 omega
def Ez (K:PySem.W.Frag):V→Option Int→Option Int→Hp→VK→Prop:=fun x lo hi H Q=>∃ a xs,x=.ref a∧SqT K H a xs ∧
 ¬(HT.sIx xs.length 0 lo=0∧HT.sIx xs.length xs.length hi=xs.length)∧∀ p,H p=none→Q (.ref p) (upd H p (.tup (gf xs lo hi)))
theorem AM:SlR X (Ez X.K):=by
 intro pins s σ H x v vl vu lo hi sl Q I rx hs pl pu h
 obtain ⟨a,xs,rfl,hx,hw,q⟩:=h
 cases rx
 obtain ⟨its,r,ht,hz⟩:=I.tuple hx
 have hlen:its.toArray.size=xs.length:=by rw [List.size_toArray];exact r.length.symm
 refine ⟨"tuple",_,PyProof.Rows.slot_tuple_getitem.lookup,ht.typeIs,?_⟩
 refine HT.kN ht hs pl pu (by rw [hlen];exact hw) ?_ (by rw [hlen];exact hz)
 rw [hlen]
 refine ⟨.ref s.heap.objs.size,_,I.laid (t':=s.toks) (o:=.tup (gf xs lo hi)) (fun b ob q=>Heap.get?_push_of_some _ q) (Nat.le_refl _) ?_,rfl,q _ (I.hok.fresh (Nat.le_refl _))⟩
 exact ⟨Nat.le_trans (lb xs lo hi) hz,_,(r.drop (HT.sIx xs.length 0 lo)).take (HT.sIx xs.length xs.length hi - HT.sIx xs.length 0 lo),IsTup.new _ _⟩
def CY (K:PySem.W.Frag):R2:=fun x y H Q=>∃ a b xs ys,x=.ref a∧y=.ref b∧SqT K H a xs∧SqT K H b ys∧xs≠[]∧xs.length+ys.length≤sizeLine ∧
 (ys=[]→Q (.ref a) H)∧(ys≠[]→∀ p,H p=none→Q (.ref p) (upd H p (.tup (xs++ys))))
theorem Vals.kK {xs:List V} {us:List Value} (r:Vals xs us):us=[]↔xs=[]:=by
 cases r with
 | nil=>simp
 | cons _ _=>simp
theorem yD:OpR X (binaryOp .Add) (CY X.K):=by
 intro pins s σ H x y v u Q I rx ry h
 obtain ⟨a,b,xs,ys,rfl,rfl,ha,hb,hx,hz,q1,q2⟩:=h
 cases rx
 cases ry
 obtain ⟨its,r1,p1,_⟩:=I.tuple ha
 obtain ⟨its2,r2,p2,_⟩:=I.tuple hb
 refine HT.x_ p1 p2 (fun z=>hx (r1.kK.mp z)) (fun z=>⟨.ref a,H,I,rfl,q1 (r2.kK.mp z)⟩) (fun z=>?_) (by rw [← r1.length,← r2.length];exact hz)
 refine ⟨.ref s.heap.objs.size,_,I.laid (t':=s.toks) (o:=.tup (xs++ys)) (fun b ob q=>Heap.get?_push_of_some _ q) (Nat.le_refl _) ?_,rfl,q2 (fun w=>z (r2.kK.mpr w)) _ (I.hok.fresh (Nat.le_refl _))⟩
 exact ⟨by rw [List.length_append];exact hz,_,r1.append r2,IsTup.new _ _⟩
end
def ixN (n:Nat) (i:Int):Option Nat:=if 0≤i then (if i < n then some i.toNat else none) else if -(n:Int)≤i then some (i+n).toNat else none
def atI {α:Type} (xs:List α) (i:Int):Option α:=(ixN xs.length i).bind fun j=>xs[j]?
theorem rL {n:Nat} {i:Int} {j:Nat} (h:ixN n i=some j):seqIndex? i n=some j∧j < n∧-(n:Int)≤i∧i < n:=by
 unfold ixN at h
 by_cases h0:0≤i
 ·rw [if_pos h0] at h
  by_cases h1:i < n
  ·rw [if_pos h1] at h
   have e:i.toNat=j:=Option.some.inj h
   exact ⟨by rw [seqIndex_of h0 h1,e],by omega,by omega,h1⟩
  ·rw [if_neg h1] at h;cases h
 ·rw [if_neg h0] at h
  by_cases h1:-(n:Int)≤i
  ·rw [if_pos h1] at h
   have e:(i+n).toNat=j:=Option.some.inj h
   exact ⟨by rw [seqIndex_neg (by omega) h1,e],by omega,h1,by omega⟩
  ·rw [if_neg h1] at h;cases h
theorem rl {α:Type} {xs:List α} {i:Int} {v:α} (h:atI xs i=some v):∃ j,seqIndex? i xs.length=some j∧xs[j]?=some v∧j < xs.length∧-(xs.length:Int)≤i∧i < xs.length:=by
 unfold atI at h
 cases e:ixN xs.length i with
 | none=>rw [e] at h;cases h
 | some j=>
  rw [e] at h
  obtain ⟨h1,h2,h3,h4⟩:=rL e
  exact ⟨j,h1,h,h2,h3,h4⟩
def rM (b:Expr):Prop:=∀ o i,subscripted b false o i=operate [o,i] (getItem o i)
def IxR (X:Cx) (r:R2):Prop:=
 ∀ (value slice:Expr) (pins:List (Addr×Obj)) (s:Shared) (σ:St) (H:Hp) (x y:V) (v u:Value) (Q:VK),Inv X pins σ H s→RelV x v→RelV y u→r x y H Q →
  subscripted slice false v u=operate [v,u] (getItem v u)→wpAny (model X.prog X.w) X.A (subscriptTail value slice v u) (EP X pins σ Q) X.xe s
section
variable {X:Cx} {a b:Expr} {ta tb:TE} {pos:Pos}
theorem Dd {r:R2} (hr:IxR X r) (ha:PE X a ta) (hb:PE X b tb) (hs:rM b):PE X (.Subscript a b pos) (tOp r ta tb):=by
 intro pins s σ H Q I h
 exact Subscript_ (vM ha hb I h fun v u s2 x y H2 I2 rx ry q=>hr a b pins s2 σ H2 x y v u Q I2 rx ry q (hs _ _))
def Ef (K:PySem.W.Frag):R2:=fun x y H Q=>∃ p xs i v,x=.ref p∧y=.int i∧SqL K H p xs∧atI xs i=some v∧Q v H
def Eo (K:PySem.W.Frag):R2:=fun x y H Q=>∃ p xs i v,x=.ref p∧y=.int i∧SqT K H p xs∧atI xs i=some v∧Q v H
theorem zr:IxR X (Ef X.K):=by
 intro value slice pins s σ H x y v u Q I rx ry h hs
 obtain ⟨p,xs,i,z,rfl,rfl,hq,he,q⟩:=h
 cases rx
 obtain ⟨t,rfl⟩:=ry
 obtain ⟨its,r,pl,hz⟩:=I.list hq
 obtain ⟨j,h1,h2,h3,h4,h5⟩:=rl he
 obtain ⟨w,ew,rw'⟩:=r.get h2
 have hl:=r.length
 have hn:=jS
 have fin:EP X pins σ Q w s:=⟨z,H,I,rw',q⟩
 by_cases h0:0≤i
 ·have hj:i.toNat=j:=by
   rw [seqIndex_of h0 h5] at h1
   exact Option.some.inj h1
  exact item_listR pl.isList h0 (by omega) (by rw [hj];simpa using ew) fin hs
 ·have hj:(i+(its.toArray.size:Int)).toNat=j:=by
   rw [seqIndex_neg (by omega) h4] at h1
   rw [List.size_toArray,← hl]
   exact Option.some.inj h1
  exact subscriptTail_builtinR (x:=w) pl.isList.typeIs slot_list_getitem.lookup
   (wpAny_getItem_list_neg (Q:=fun r s'=>r=w∧EP X pins σ Q r s') pl.isList (by omega) (by rw [List.size_toArray]<;>omega) (by omega) (by rw [hj];simpa using ew) ⟨rfl,fin⟩) hs
theorem Bf:IxR X (Eo X.K):=by
 intro value slice pins s σ H x y v u Q I rx ry h hs
 obtain ⟨p,xs,i,z,rfl,rfl,hq,he,q⟩:=h
 cases rx
 obtain ⟨t,rfl⟩:=ry
 obtain ⟨its,r,pl,hz⟩:=I.tuple hq
 obtain ⟨j,h1,h2,h3,h4,h5⟩:=rl he
 obtain ⟨w,ew,rw'⟩:=r.get h2
 have hl:=r.length
 have hn:=jS
 have fin:EP X pins σ Q w s:=⟨z,H,I,rw',q⟩
 exact subscriptTail_builtinR (x:=w) pl.typeIs slot_tuple_getitem.lookup
  (getItem_tuple (j:=j) (Q:=fun r s'=>r=w∧EP X pins σ Q r s') pl (by omega) (by omega) (by rw [List.size_toArray,← hl];exact h1) (by simpa using ew) ⟨rfl,fin⟩) hs
theorem sS (its:List Value) (n j:Nat) (u:Value):Obj.mapSeq (·.setIfInBounds j u) { cls:=.type "list",data:=.seq its.toArray n }={ cls:=.type "list",data:=.seq (its.set j u).toArray n }:=by
 simp [Obj.mapSeq]
theorem Inv.lst {pins:List (Addr×Obj)} {σ:St} {H:Hp} {s:Shared} {p:Addr} {xs:List V} (I:Inv X pins σ H s) (h:H p=some (.lst xs)) :
  ∃ (its:List Value) (n:Nat),Vals xs its∧s.heap.get? p=some { cls:=.type "list",data:=.seq its.toArray n }∧xs.length≤sizeLine:=by
 obtain ⟨z,its,n,r,e⟩:=I.hok p _ h
 exact ⟨its,n,r,e,z⟩
theorem Inv.zQ {pins:List (Addr×Obj)} {σ:St} {H:Hp} {s:Shared} {p:Addr} {xs ys:List V} {its its':List Value} {n n':Nat} {f:Obj→Obj} (I:Inv X pins σ H s) (h:H p=some (.lst xs))
  (ho:s.heap.get? p=some { cls:=.type "list",data:=.seq its.toArray n }) (hf:f { cls:=.type "list",data:=.seq its.toArray n }={ cls:=.type "list",data:=.seq its'.toArray n' }) (r:Vals ys its') (hz:ys.length≤sizeLine) (t:Nat) :
  Inv X pins σ (upd H p (.lst ys)) { s with heap:=s.heap.update p f,toks:=t }:=by
 have e:(s.heap.update p f).get? p=some { cls:=.type "list",data:=.seq its'.toArray n' }:=by
  rw [Heap.get?_update_self f ho (by rw [hf]<;>rfl),hf]
 refine I.write (x:=p) (e:=p) (by rw [h];trivial) (.inl rfl) (fun b u hb q=>(Heap.get?_update_other _ _ (Ne.symm hb)).trans q) ⟨_,e⟩ ?_
 exact ⟨hz,its',n',r,e⟩
def su:V→V→V→Hp→(Hp→Prop)→Prop:=fun o i v H Q=>∃ p xs k j,o=.ref p∧i=.int k∧H p=some (.lst xs)∧ixN xs.length k=some j∧Q (upd H p (.lst (xs.set j v)))
theorem set_list:sf X su:=by
 intro pins s σ H o i v ov iv u Q I ro ri rv h
 obtain ⟨p,xs,k,j,rfl,rfl,hp,hj,q⟩:=h
 cases ro
 obtain ⟨t,rfl⟩:=ri
 obtain ⟨its,n,r,ho,hz⟩:=I.lst hp
 obtain ⟨h1,h2,h3,h4⟩:=rL hj
 have hl:=r.length
 have hn:=jS
 have I':Inv X pins σ (upd H p (.lst (xs.set j v))) { s with heap:=s.heap.update p (Obj.mapSeq (·.setIfInBounds j u)) }:=
  I.zQ hp ho (sS its n j u) (r.set rv j) (by rw [List.length_set];exact hz) s.toks
 by_cases h0:0≤k
 ·have hk:k.toNat=j:=by
   rw [seqIndex_of h0 h4] at h1
   exact Option.some.inj h1
  exact PySem.W.ki_setAt ho h0 (by omega) (by rw [List.size_toArray,← hl];exact h4) (by rw [hk];exact ⟨_,I',q⟩)
 ·have hk:(k+(its.toArray.size:Int)).toNat=j:=by
   rw [seqIndex_neg (by omega) h3] at h1
   rw [List.size_toArray,← hl]
   exact Option.some.inj h1
  exact PySem.W.ki_setBack ho (by omega) (by rw [List.size_toArray,← hl];exact h3) (by omega) (by rw [hk];exact ⟨_,I',q⟩)
theorem pY (lo hi:Option Int) (n:Nat):(sliceBounds lo hi none n).1=((HT.sIx n 0 lo:Nat):Int)∧(sliceBounds lo hi none n).2.1=((HT.sIx n n hi:Nat):Int)∧(sliceBounds lo hi none n).2.2=1:=by
 refine ⟨?_,?_,rfl⟩
 ·cases lo with
  | none=>simp [sliceBounds,HT.sIx]
  | some i=>
   simp only [sliceBounds,HT.sIx,Option.getD_none,show (1:Int) > 0 by decide,if_true]
   by_cases h:i < 0
   ·simp only [h,if_true]<;>omega
   ·simp only [h,if_false]<;>omega
 ·cases hi with
  | none=>simp [sliceBounds,HT.sIx]
  | some i=>
   simp only [sliceBounds,HT.sIx,Option.getD_none,show (1:Int) > 0 by decide,if_true]
   by_cases h:i < 0
   ·simp only [h,if_true]<;>omega
   ·simp only [h,if_false]<;>omega
theorem nW (its:List Value) (lo hi:Option Int):slicePick its.toArray lo hi none=((its.drop (HT.sIx its.length 0 lo)).take (HT.sIx its.length its.length hi - HT.sIx its.length 0 lo)).toArray:=by
 obtain ⟨h1,h2,h3⟩:=pY lo hi its.toArray.size
 unfold slicePick
 rw [h1,h2,h3]
 simp only [sliceRange_one,pick_run,List.size_toArray]<;>rfl
def EK (K:PySem.W.Frag):V→Option Int→Option Int→Hp→VK→Prop:=fun x lo hi H Q=>∃ a xs,x=.ref a∧SqL K H a xs∧∀ p,H p=none→Q (.ref p) (upd H p (.lst (gf xs lo hi)))
theorem rm:SlR X (EK X.K):=by
 intro pins s σ H x v vl vu lo hi sl Q I rx hs pl pu h
 obtain ⟨a,xs,rfl,hx,q⟩:=h
 cases rx
 obtain ⟨its,r,ht,hz⟩:=I.list hx
 have hlen:=r.length
 refine ⟨"list",_,slot_list_getitem.lookup,ht.isList.typeIs,?_⟩
 refine wpAny_getItem_list_slice ht.isList hs pl pu .none (by simp) ?_ (by rw [List.size_toArray]<;>omega)
 rw [nW,← hlen]
 refine ⟨.ref s.heap.objs.size,_,I.laid (t':=s.toks) (o:=.lst (gf xs lo hi)) (fun b ob q=>Heap.get?_push_of_some _ q) (Nat.le_refl _) ?_,rfl,q _ (I.hok.fresh (Nat.le_refl _))⟩
 exact ⟨Nat.le_trans (lb xs lo hi) hz,_,0,(r.drop (HT.sIx xs.length 0 lo)).take (HT.sIx xs.length xs.length hi - HT.sIx xs.length 0 lo),Heap.get?_push_size _ rfl⟩
def dM:V→Bool
 | .non=>true
 | .bl _=>true
 | .int _=>true
 | .str _=>true
 | _=>false
def eqV:V→V→Bool
 | .non,.non=>true
 | .bl a,.bl b=>a == b
 | .bl a,.int b=>(if a then 1 else 0) == b
 | .int a,.bl b=>a == (if b then 1 else 0)
 | .int a,.int b=>a == b
 | .str a,.str b=>a == b
 | _,_=>false
theorem j_ {A:Around} {s:Shared} {y x:V} {u v:Value} (ry:RelV y u) (rx:RelV x v) (fy:dM y=true) (fx:dM x=true):SeqAt.EqAt A s u v (eqV y x):=by
 cases y with
 | non=>
  cases ry
  cases x with
  | non=>cases rx;exact SeqAt.EqAt.same _
  | bl b=>cases rx;exact SeqAt.EqAt.none_bool b
  | int b=>obtain ⟨t,rfl⟩:=rx;exact SeqAt.EqAt.none_int b t
  | str b=>obtain ⟨t,rfl⟩:=rx;exact SeqAt.EqAt.none_str b t
  | _=>exact absurd (show false=true from fx) Bool.false_ne_true
 | bl a=>
  cases ry
  cases x with
  | non=>cases rx;exact SeqAt.EqAt.bool_none a
  | bl b=>cases rx;exact SeqAt.EqAt.bool_bool a b
  | int b=>obtain ⟨t,rfl⟩:=rx;exact SeqAt.EqAt.bool_int a b t
  | str b=>obtain ⟨t,rfl⟩:=rx;exact SeqAt.EqAt.bool_str a b t
  | _=>exact absurd (show false=true from fx) Bool.false_ne_true
 | int a=>
  obtain ⟨t',rfl⟩:=ry
  cases x with
  | non=>cases rx;exact SeqAt.EqAt.int_none a t'
  | bl b=>cases rx;exact SeqAt.EqAt.int_bool a t' b
  | int b=>obtain ⟨t,rfl⟩:=rx;exact SeqAt.EqAt.int_int a t' b t
  | str b=>obtain ⟨t,rfl⟩:=rx;exact SeqAt.EqAt.int_str a t' b t
  | _=>exact absurd (show false=true from fx) Bool.false_ne_true
 | str a=>
  obtain ⟨t',rfl⟩:=ry
  cases x with
  | non=>cases rx;exact SeqAt.EqAt.str_none a t'
  | bl b=>cases rx;exact SeqAt.EqAt.str_bool a t' b
  | int b=>obtain ⟨t,rfl⟩:=rx;exact SeqAt.EqAt.str_int a t' b t
  | str b=>obtain ⟨t,rfl⟩:=rx;exact SeqAt.EqAt.str_str a t' b t
  | _=>exact absurd (show false=true from fx) Bool.false_ne_true
 | _=>exact absurd (show false=true from fy) Bool.false_ne_true
def eqU (x:V) (u:Value):Bool:=match u with
 | .none=>eqV .non x
 | .bool b=>eqV (.bl b) x
 | .int i _=>eqV (.int i) x
 | .str z _=>eqV (.str z) x
 | _=>false
theorem vp {x y:V} {u:Value} (r:RelV y u) (f:dM y=true):eqU x u=eqV y x:=by
 cases y with
 | non=>cases r;rfl
 | bl b=>cases r;rfl
 | int i=>obtain ⟨t,rfl⟩:=r;rfl
 | str z=>obtain ⟨t,rfl⟩:=r;rfl
 | _=>exact absurd (show false=true from f) Bool.false_ne_true
theorem iR {x:V}:∀ {xs:List V} {us:List Value},Vals xs us→xs.all dM=true→us.any (eqU x)=xs.any fun y=>eqV y x
 | _,_,.nil,_=>rfl
 | y :: xs,u :: us,.cons r t,f=>by
  rw [List.all_cons,Bool.and_eq_true] at f
  rw [List.any_cons,List.any_cons,vp r f.1,iR t f.2]
theorem gy {A:Around} {s:Shared} {x:V} {v:Value} (rx:RelV x v) (fx:dM x=true):∀ {xs:List V} {us:List Value},Vals xs us→xs.all dM=true→∀ u∈us,SeqAt.EqAt A s u v (eqU x u)
 | _,_,.nil,_=>fun u hu=>by cases hu
 | y :: xs,u :: us,.cons r t,f=>fun u' hu=>by
  rw [List.all_cons,Bool.and_eq_true] at f
  rcases List.mem_cons.mp hu with rfl | hu
  ·rw [vp r f.1];exact j_ r rx f.1 fx
  ·exact gy rx fx t f.2 u' hu
def inV (x:V) (xs:List V):Bool:=xs.any fun y=>eqV y x
def rIn (K:PySem.W.Frag) (neg:Bool):R2:=fun x y H Q=>∃ p xs,y=.ref p∧(SqL K H p xs∨SqT K H p xs)∧dM x=true∧xs.all dM=true∧Q (.bl (if neg then !inV x xs else inV x xs)) H
theorem nt:OpR X (compareOp .In) (rIn X.K false):=by
 intro pins s σ H x y v u Q I rx ry h
 obtain ⟨p,xs,rfl,hq,fx,fs,q⟩:=h
 cases ry
 rcases hq with hq | hq
 ·obtain ⟨its,r,pl,hz⟩:=I.list hq
  refine SeqAt.in_listAt (eqU x) pl.isList (fun w hw=>gy rx fx r fs w (by simpa using hw)) ⟨.bl _,H,I,rfl,?_⟩
  rw [show its.toArray.any (eqU x)=its.any (eqU x) by simp,iR r fs]
  exact q
 ·obtain ⟨its,r,pl,hz⟩:=I.tuple hq
  refine SeqAt.in_tupleAt (eqU x) pl (fun w hw=>gy rx fx r fs w (by simpa using hw)) ⟨.bl _,H,I,rfl,?_⟩
  rw [show its.toArray.any (eqU x)=its.any (eqU x) by simp,iR r fs]
  exact q
theorem jW:OpR X (compareOp .NotIn) (rIn X.K true):=by
 intro pins s σ H x y v u Q I rx ry h
 obtain ⟨p,xs,rfl,hq,fx,fs,q⟩:=h
 cases ry
 rcases hq with hq | hq
 ·obtain ⟨its,r,pl,hz⟩:=I.list hq
  refine SeqAt.notIn_listAt (eqU x) pl.isList (fun w hw=>gy rx fx r fs w (by simpa using hw)) ⟨.bl _,H,I,rfl,?_⟩
  rw [show its.toArray.any (eqU x)=its.any (eqU x) by simp,iR r fs]
  exact q
 ·obtain ⟨its,r,pl,hz⟩:=I.tuple hq
  refine SeqAt.notIn_tupleAt (eqU x) pl (fun w hw=>gy rx fx r fs w (by simpa using hw)) ⟨.bl _,H,I,rfl,?_⟩
  rw [show its.toArray.any (eqU x)=its.any (eqU x) by simp,iR r fs]
  exact q
theorem bt.or {f:Value} {r r':List V→Hp→VK→Prop} (h:bt X f r) (h':bt X f r'):bt X f (fun xs H Q=>r xs H Q∨r' xs H Q):=by
 intro pins s σ H xs us Q I rs q
 rcases q with q | q
 ·exact h pins s σ H xs us Q I rs q
 ·exact h' pins s σ H xs us Q I rs q
theorem ke:bt X (.type "list") (fun xs H Q=>∃ p ys,xs=[.ref p]∧(SqL X.K H p ys∨SqT X.K H p ys)∧∀ l,H l=none→Q (.ref l) (upd H l (.lst ys))):=by
 intro pins s σ H xs us Q I r h
 obtain ⟨p,ys,rfl,hq,q⟩:=h
 obtain ⟨u,rfl,rx⟩:=vals1 r
 cases rx
 have fin:∀ (its:List Value),Vals ys its→ys.length≤sizeLine→∀ (h':Heap) (c':Nat),(∀ b o',s.heap.get? b=some o'→h'.get? b=some o') →
   h'.get? s.heap.objs.size=some { cls:=.type "list",dict:=none,data:=.seq its.toArray c',slots:=#[] }→EP X pins σ Q (.ref s.heap.objs.size) { s with heap:=h' }:=fun its r' hz h' c' kp e=>
  ⟨.ref s.heap.objs.size,_,I.laid (t':=s.toks) kp (Nat.le_refl _) (show bA X.prog X.w _ h' _ (.lst ys) from ⟨hz,its,c',r',e⟩),rfl,q _ (I.hok.fresh (Nat.le_refl _))⟩
 rcases hq with hq | hq
 ·obtain ⟨its,r',pl,hz⟩:=I.list hq
  have hlen:=r'.length
  obtain ⟨o,ho,hc,n,hd⟩:=pl.isList
  exact call_list_seq p (.inl rfl) ho hc hd (fun h' c' kp e=>fin its r' hz h' c' kp e) (by simp only [List.size_toArray]<;>omega)
 ·obtain ⟨its,r',pl,hz⟩:=I.tuple hq
  have hlen:=r'.length
  obtain ⟨o,ho,hc,n,hd⟩:=pl
  exact call_list_seq p (.inr rfl) ho hc hd (fun h' c' kp e=>fin its r' hz h' c' kp e) (by simp only [List.size_toArray]<;>omega)
theorem jJ:bt X (.type "tuple") (fun xs H Q=>∃ p ys,xs=[.ref p]∧((SqL X.K H p ys∧∀ l,H l=none→Q (.ref l) (upd H l (.tup ys)))∨(SqT X.K H p ys∧Q (.ref p) H))):=by
 intro pins s σ H xs us Q I r h
 obtain ⟨p,ys,rfl,h⟩:=h
 obtain ⟨u,rfl,rx⟩:=vals1 r
 cases rx
 rcases h with ⟨hq,q⟩ | ⟨hq,q⟩
 ·obtain ⟨its,r',pl,hz⟩:=I.list hq
  have hlen:=r'.length
  refine call_tuple_list pl.isList (fun h' kp=>?_) (by simp only [List.size_toArray]<;>omega)
  have I1:Inv X pins σ H { s with heap:=h' }:=I.kept (t':=s.toks) kp
  have I2:Inv X pins σ (upd H h'.objs.size (.tup ys)) { s with heap:=h'.push { cls:=.type "tuple",data:=.seq its.toArray } }:=
   I1.laid (t':=s.toks) (fun b o e=>Heap.get?_push_of_some _ e) (Nat.le_refl _) (show bA X.prog X.w _ _ _ (.tup ys) from ⟨hz,its,r',IsTup.new _ _⟩)
  exact ⟨.ref h'.objs.size,_,I2,rfl,q _ (I1.hok.fresh (Nat.le_refl _))⟩
 ·obtain ⟨its,r',pl,hz⟩:=I.tuple hq
  exact call_tuple_same pl ⟨.ref p,H,I,rfl,q⟩
def tyV (K:PySem.W.Frag) (T:String) (x:V) (H:Hp):Prop:=match x with
 | .str _=>T="str"
 | .int _=>T="int"
 | .ref p=>(T="list"∧∃ xs,SqL K H p xs)∨(T="tuple"∧∃ o,K.lookup p=some o∧o.cls=.type "tuple"∧o.dict=none) ∨
   (T="dict"∧((∃ kvs,H p=some (.dK kvs))∨∃ kvs,H p=some (.dT kvs)))∨(T="set"∧∃ S n,H p=some (.set S n))
 | _=>False
theorem vj {pins:List (Addr×Obj)} {σ:St} {H:Hp} {s:Shared} {T:String} {x:V} {v:Value} (I:Inv X pins σ H s) (r:RelV x v) (ty:tyV X.K T x H) :
  s.TypeIs v T∧∀ a,v=.ref a→∃ ob,s.heap.get? a=some ob∧ob.dict=none:=by
 cases x with
 | str z=>
  obtain ⟨t,rfl⟩:=r
  cases (show T="str" from ty)
  exact ⟨typeIs_str s z t,fun _ e=>nomatch e⟩
 | int i=>
  obtain ⟨t,rfl⟩:=r
  cases (show T="int" from ty)
  exact ⟨typeIs_int s i t,fun _ e=>nomatch e⟩
 | ref p=>
  cases r
  rcases ty with ⟨rfl,xs,hq⟩ | ⟨rfl,o,hk,hc,hd⟩ | ⟨rfl,hk⟩ | ⟨rfl,S,n,hk⟩
  ·obtain ⟨its,_,pl,_⟩:=I.list hq
   refine ⟨pl.isList.typeIs,fun a e=>?_⟩
   cases e
   obtain ⟨o,n,e,c,hd,_⟩:=pl
   exact ⟨o,e,hd⟩
  ·refine ⟨⟨o,I.kIn p o hk,hc⟩,fun a e=>?_⟩
   cases e
   exact ⟨o,I.kIn _ o hk,hd⟩
  ·have z:∃ o,s.heap.get? p=some o∧o.ExactDict:=by
    rcases hk with ⟨kvs,hk⟩ | ⟨kvs,hk⟩
    ·obtain ⟨_,_,_,_,o,_,_,e,ex,_⟩:=I.hok p _ hk
     exact ⟨o,e,ex⟩
    ·obtain ⟨_,_,_,_,o,_,_,e,ex,_⟩:=I.hok p _ hk
     exact ⟨o,e,ex⟩
   obtain ⟨o,e,ex⟩:=z
   refine ⟨⟨o,e,ex.1⟩,fun a e2=>?_⟩
   cases e2
   exact ⟨o,e,ex.2.1⟩
  ·obtain ⟨o,_,_,_,e,ex,_⟩:=I.hok p _ hk
   refine ⟨⟨o,e,ex.1⟩,fun a e2=>?_⟩
   cases e2
   exact ⟨o,e,ex.2.1⟩
 | _=>exact False.elim ty
variable {o e:Expr} {es:List Expr} {to:TE} {t:TA} {name:Str} {apos cpos:Pos} {T id:String} {r:V→List V→Hp→VK→Prop}
end
def MtM (X:Cx) (id:String) (r:V→List V→Hp→VK→Prop):Prop:=
 ∀ (pins:List (Addr×Obj)) (s:Shared) (σ:St) (H:Hp) (x:V) (xs:List V) (v:Value) (us:List Value) (Q:VK),Inv X pins σ H s→RelV x v→Vals xs us→r x xs H Q →
  wpAny (model X.prog X.w) X.A (call (.builtin id) (v :: us)) (EP X pins σ Q) X.xe s
theorem Vals.one:∀ {x:V} {us:List Value},Vals [x] us→∃ u,us=[u]∧RelV x u
 | _,_,.cons r .nil=>⟨_,rfl,r⟩
theorem Vals.two:∀ {x y:V} {us:List Value},Vals [x,y] us→∃ u v,us=[u,v]∧RelV x u∧RelV y v
 | _,_,_,.cons r (.cons q .nil)=>⟨_,_,rfl,r,q⟩
theorem Vals.eraseIdx:∀ {xs:List V} {us:List Value} (i:Nat),Vals xs us→Vals (xs.eraseIdx i) (us.eraseIdx i)
 | _,_,_,.nil=>.nil
 | _,_,0,.cons _ t=>t
 | _,_,i+1,.cons r t=>.cons r (Vals.eraseIdx i t)
theorem Vals.reverse {xs:List V} {us:List Value} (h:Vals xs us):Vals xs.reverse us.reverse:=by
 induction h with
 | nil=>exact .nil
 | cons r t ih=>rw [List.reverse_cons,List.reverse_cons];exact Vals.append ih (.cons r .nil)
theorem nO {α:Type}:∀ (l:List α) (i:Nat),(l.eraseIdx i).length≤l.length
 | [],_=>Nat.le_refl _
 | _ :: _,0=>Nat.le_succ _
 | _ :: r,i+1=>Nat.succ_le_succ (nO r i)
section
variable {X:Cx} {pins:List (Addr×Obj)} {σ:St} {H:Hp} {s:Shared} {l b:Addr} {xs ys zs:List V}
theorem Inv.tm {its its':List Value} {n:Nat} {f:Array Value→Array Value} {t':Nat} (I:Inv X pins σ H s) (hH:H l=some (.lst xs))
  (e:s.heap.get? l=some { cls:=.type "list",data:=.seq its.toArray n }) (hf:f its.toArray=its'.toArray) (hv:Vals ys its') (hz:ys.length≤sizeLine) :
  Inv X pins σ (upd H l (.lst ys)) { s with heap:=s.heap.update l (Obj.mapSeq f),toks:=t' }:=by
 have q:=PySem.IsL.update e f
 rw [hf] at q
 refine I.write (x:=l) (e:=l) (by rw [hH];exact trivial) (.inl rfl) (fun b' u hb hu=>(Heap.get?_update_other s.heap (Obj.mapSeq f) (Ne.symm hb)).trans hu) ⟨_,q⟩ ?_
 exact ⟨hz,its',_,hv,q⟩
theorem Inv.Ei {its:List Value} {t':Nat} (I:Inv X pins σ H s) (hv:Vals ys its) (hz:ys.length≤sizeLine) :
  Inv X pins σ (upd H s.heap.objs.size (.lst ys)) { s with heap:=s.heap.push { cls:=.type "list",data:=.seq its.toArray },toks:=t' }:=
 I.laid (fun _ _ q=>Heap.get?_push_of_some _ q) (Nat.le_refl _) ⟨hz,its,0,hv,Heap.get?_push_size _ rfl⟩
theorem Inv.fresh (I:Inv X pins σ H s):H s.heap.objs.size=none:=I.hok.fresh (Nat.le_refl _)
theorem Inv.lN (I:Inv X pins σ H s) (hH:H l=some (.lst xs)):xs.length≤sizeLine∧∃ (its:List Value) (n:Nat),Vals xs its∧xs.length=its.length∧s.heap.get? l=some { cls:=.type "list",data:=.seq its.toArray n }:=by
 obtain ⟨z,its,n,r,e⟩:=I.hok l _ hH
 exact ⟨z,its,n,r,r.length,e⟩
theorem ja {n:Nat} (h:n≤sizeLine):Builtin.List.listTooLong n=false:=by
 unfold Builtin.List.listTooLong
 exact decide_eq_false (by omega)
end
section
variable {X:Cx}
def yQ:V→List V→Hp→VK→Prop:=fun x vs H Q=>∃ l xs y,x=.ref l∧vs=[y]∧H l=some (.lst xs)∧xs.length < sizeLine∧Q .non (upd H l (.lst (xs++[y])))
theorem nP:MtM X "list.append" yQ:=by
 intro pins s σ H x vs v us Q I rx rv h
 obtain ⟨l,xs,y,rfl,rfl,hH,hz,q⟩:=h
 cases rx
 obtain ⟨u,rfl,ru⟩:=rv.one
 obtain ⟨z,its,n,r,hl,e⟩:=I.lN hH
 refine call_meets F.slot_list_append ⟨_,e,rfl⟩ F.entry_list_append (F.args_list_append_2 _ _) (PySem.list_append l its.toArray n u (by rw [List.size_toArray];omega)) ⟨e,?_⟩
 refine ⟨.non,_,I.tm (its':=its++[u]) hH e (by simp) (r.append (.cons ru .nil)) ?_,rfl,q⟩
 rw [List.length_append,List.length_singleton]
 omega
def rJ:V→List V→Hp→VK→Prop:=fun x vs H Q=>∃ l b xs zs,x=.ref l∧vs=[.ref b]∧H l=some (.lst xs)∧H b=some (.lst zs)∧xs.length+zs.length≤sizeLine∧Q .non (upd H l (.lst (xs++zs)))
theorem vi:MtM X "list.extend" rJ:=by
 intro pins s σ H x vs v us Q I rx rv h
 obtain ⟨l,b,xs,zs,rfl,rfl,hH,hB,hz,q⟩:=h
 cases rx
 obtain ⟨u,rfl,ru⟩:=rv.one
 cases ru
 obtain ⟨z,its,n,r,hl,e⟩:=I.lN hH
 obtain ⟨z2,its2,n2,r2,hl2,e2⟩:=I.lN hB
 have hsz:its.toArray.size+its2.toArray.size≤sizeLine:=by rw [List.size_toArray,List.size_toArray];omega
 have hlong:¬(!its.toArray.isEmpty && Builtin.List.listTooLong (its.toArray.size+its2.toArray.size))=true:=by
  rw [ja hsz,Bool.and_false]
  exact Bool.false_ne_true
 refine call_meets F.slot_list_extend ⟨_,e,rfl⟩ F.entry_list_extend (F.args_list_extend_2 _ _)
  (AutoSeq1.list_extend_list_list_0 l its.toArray n b its2.toArray n2 hlong (by rw [List.size_toArray];omega) (by omega)) ⟨e,e2,?_⟩
 refine ⟨.non,_,I.tm (its':=its++its2) hH e (by simp) (r.append r2) ?_,rfl,q⟩
 rw [List.length_append]
 omega
def vd:V→List V→Hp→VK→Prop:=fun x vs H Q=>∃ l xs i k y,x=.ref l∧vs=[.int i]∧H l=some (.lst xs)∧-(2 ^ 63)≤i∧i < 2 ^ 63∧seqIndex? i xs.length=some k∧xs[k]?=some y∧Q y (upd H l (.lst (xs.eraseIdx k)))
theorem vP:MtM X "list.pop" vd:=by
 intro pins s σ H x vs v us Q I rx rv h
 obtain ⟨l,xs,i,k,y,rfl,rfl,hH,h1,h2,hk,hy,q⟩:=h
 cases rx
 obtain ⟨u,rfl,ru⟩:=rv.one
 obtain ⟨t,rfl⟩:=ru
 obtain ⟨z,its,n,r,hl,e⟩:=I.lN hH
 obtain ⟨w,hw,rw'⟩:=r.get hy
 refine call_meets F.slot_list_pop ⟨_,e,rfl⟩ F.entry_list_pop (F.args_list_pop_2 _ _)
  (MeetsSeq.list_pop_at l its.toArray n i t k w (fitsIndex_both h1 h2) (by rw [List.size_toArray,← hl];exact hk) (by rw [← Array.getElem?_toList];exact hw) (by rw [List.size_toArray];omega)) ⟨e,?_⟩
 refine ⟨y,_,I.tm (its':=its.eraseIdx k) hH e ?_ (r.eraseIdx k) ?_,rw',q⟩
 ·show its.toArray.eraseIdxIfInBounds k=(its.eraseIdx k).toArray
  rw [List.eraseIdxIfInBounds_toArray]
 ·have:=nO xs k
  omega
def D5:R2:=fun x y H Q=>∃ l b xs zs,x=.ref l∧y=.ref b∧H l=some (.lst xs)∧H b=some (.lst zs)∧xs.length+zs.length≤sizeLine∧∀ p,H p=none→Q (.ref p) (upd H p (.lst (xs++zs)))
theorem zM:OpR X (binaryOp .Add) D5:=by
 intro pins s σ H x y v u Q I rx ry h
 obtain ⟨l,b,xs,zs,rfl,rfl,hH,hB,hz,q⟩:=h
 cases rx
 cases ry
 obtain ⟨z,its,n,r,hl,e⟩:=I.lN hH
 obtain ⟨z2,its2,n2,r2,hl2,e2⟩:=I.lN hB
 refine PySem.P.add_list e e2 ?_ (by rw [List.size_toArray,List.size_toArray];omega)
 have ea:its.toArray++its2.toArray=(its++its2).toArray:=by simp
 rw [ea]
 exact ⟨.ref _,_,I.Ei (t':=s.toks) (r.append r2) (by rw [List.length_append];omega),rfl,q _ I.fresh⟩
end
section
variable {prog:Program} {w:World} {A:Around} {E:Value→Shared→Prop} {s:Shared}
theorem tH {a c n:Nat} (hac:a≤c) (hc:c≤n):sliceBounds (some (a:Int)) (some (c:Int)) none n=((a:Int),(c:Int),1):=by
 simp only [sliceBounds,Option.getD_none]
 have h1:¬((a:Int) < 0):=by omega
 have h2:¬((c:Int) < 0):=by omega
 simp only [h1,h2,if_false,show (1:Int) > 0 by decide,if_true]
 congr 1
 ·omega
 ·congr 1;omega
set_option maxRecDepth 100000 in
theorem zA {l b sl : Addr} {items new : Array Value} {n n2 : Nat} {vl vu : Value} {a c : Nat} {Q : Unit → Shared → Prop}
    (e : s.heap.get? l = some { cls := .type "list", data := .seq items n }) (e2 : s.heap.get? b = some { cls := .type "list", data := .seq new n2 }) (hne : l ≠ b)
    (hs : s.heap.IsSliceOf sl vl vu .none) (pl : IsPart vl (some (a : Int))) (pu : IsPart vu (some (c : Int))) (hac : a ≤ c) (hc : c ≤ items.size)
    (hsz : items.size + new.size ≤ sizeLine) (h : Q () { s with heap := s.heap.update l (Obj.mapSeq fun xs => xs.extract 0 a ++ new ++ xs.extract c xs.size) }) :
    wpAny (model prog w) A (setItem (.ref l) (.ref sl) (.ref b)) Q E s := by
  have hl : s.heap.IsList l items := PySem.IsL.isList e
  have hb : s.heap.IsList b new := PySem.IsL.isList e2
  obtain ⟨os, hos, hcs, hds⟩ := id hs
  have hTs : s.TypeIs (.ref sl) "slice" := ⟨os, hos, hcs⟩
  have hstep : ¬ ((rawPart none == rawInt 0) = true) := Bool.false_ne_true
  have hsame : Builtin.List.listSameRef (.ref l) (.ref b) = false := by
    unfold Builtin.List.listSameRef
    exact beq_eq_false_iff_ne.mpr hne
  have hmax : (max (a : Int) (c : Int)).toNat = c := by omega
  have hz' : ((fun xs : Array Value => xs.extract 0 a ++ new ++ xs.extract c xs.size) items).size ≤ sizeLine + 1 := by
    simp only [Array.size_append, Array.size_extract]
    omega
  unfold setItem
  try with_reducible refine wpAny_holding ?_
  first | refine wpAny_bind (wpAny_pure ?_) | skip
  refine wpAny_bind (wpAny_sequenceKey hl.typeIs (by decide) ?_)
  refine wpAny_bind (wpAny_callSpecial?_slot (name := Str.ofString "__setitem__") hl.typeIs slot_list_setitem
    (wpAny_call_entry slot_list_setitem hl.typeIs entry_list_setitem ?_ (args_list_setitem _ _ _)))
  show wpAny _ _ (Builtin.List.listSubscript? (.ref sl) >>= _) _ _ s
  refine wpAny_bind ?_
  unfold Builtin.List.listSubscript?
  refine wpAny_bind (wpAny_specialOf hTs slice_no_index ?_)
  simp only [Option.isNone_none, if_true]
  refine wpAny_pure ?_
  show wpAny _ _ (typeOf (.ref sl) >>= _) _ _ s
  refine wpAny_bind (wpAny_typeOf hTs ?_)
  first
    | rw [if_neg (by decide)]
    | refine PySem.W.KFB.if_not (by decide) ?_
  rw [listSliceParts_eq]
  refine wpAny_bind (wpAny_bind (wpAny_field hos hds (x := .none) rfl (wpAny_bind (wpAny_listPart .none ?_))))
  rw [if_neg hstep]
  refine wpAny_bind (wpAny_field hos hds (x := vl) rfl (wpAny_bind (wpAny_listPart pl ?_)))
  refine wpAny_bind (wpAny_field hos hds (x := vu) rfl (wpAny_bind (wpAny_listPart pu (wpAny_pure ?_))))
  first
    | simp only [hsame, Bool.false_eq_true, if_false]
    | refine PySem.W.KFB.if_not hsame ?_
    | (dsimp only
       rw [if_neg (by rw [hsame]; exact Bool.false_ne_true)])
  refine wpAny_bind (m := Builtin.List.listAllItems (.ref b) "must assign iterable to extended slice") ?_
  unfold Builtin.List.listAllItems
  refine wpAny_bind (wpAny_typeOf hb.typeIs ?_)
  first
    | refine PySem.W.KFB.if_so (by decide) ?_
    | rw [if_pos (by decide)]
    | simp only [beq_self_eq_true, Bool.true_or, if_true]
  unfold Builtin.List.listItems
  refine wpAny_bind (wpAny_seqItems e2 rfl (wpAny_pure ?_))
  refine wpAny_bind (wpAny_bind (wpAny_seqItems e rfl (wpAny_pure ?_)))
  refine wpAny_bind (wpAny_of_eq ((sliceIndices_raw (some (a : Int)) (some (c : Int)) none items.size (by simp)).trans (congrArg (pure : Int × Int × Int → Sem (Int × Int × Int)) (tH hac hc))) ?_)
  show wpAny _ _ (if ((1 : Int) == 1) = true then _ else _) _ _ s
  rw [if_pos (by decide)]
  refine wpAny_bind (wpAny_rule ?_)
  first
    | simp only [ja hsz, Bool.false_eq_true, if_false]
    | refine PySem.W.KFB.if_not (ja hsz) ?_
  first | refine wpAny_bind (wpAny_pure ?_) | skip
  show wpAny _ _ (updateSeq l (fun xs => xs.extract 0 ((a : Int)).toNat ++ new ++ xs.extract (max (a : Int) (c : Int)).toNat xs.size) >>= _) _ _ s
  rw [hmax, Int.toNat_natCast]
  refine wpAny_bind (wpAny_updateSeq (hz := Nat.le_trans (Nat.le_add_right _ _) hsz) (_hz' := hz') e rfl ?_)
  refine wpAny_bind (wpAny_letGo ?_)
  first
    | exact wpAny_bind (wpAny_pure (wpAny_pure ⟨.none, rfl, wpAny_pure h⟩))
    | exact wpAny_pure ⟨.none, rfl, wpAny_pure h⟩
end
section
variable {X:Cx}
end
end L2
namespace Att
open PySem PySem.W PySem.Calls PyProof.Rows
theorem mN {P:Params} {h:Heap}:∀ (ns:List Int) (vs:List Value),WellAll P h vs (ns.map WData.int)→IntsAre vs ns:=by
 intro ns
 induction ns with
 | nil=>
  intro vs w
  rw [List.map_nil] at w
  cases w
  exact .nil
 | cons n ns ih=>
  intro vs w
  rw [List.map_cons] at w
  cases w with
  | cons a b=>
   cases a
   exact .cons _ _ (ih _ b)
theorem tU {l:OpenLaw} {n:Nat} (hn:l.most=some n) {P:Params} {h:Heap} {args:List WData} {vals:List Value}
    (hpre:l.row.toRowW.claim.pre args=true) (hwl:WellAll P h vals args) :
    ∃ a vs ns,vals=[Value.ref a]∧args=[WData.list (ns.map WData.int)]∧h.get? a=some { cls:=.type "list",data:=.seq vs.toArray }∧IntsAre vs ns∧ns.length≤n:=by
  have hsh:WShape.hasAll [] args [.list .int]=true:=(pre_splitW hpre).1
  have hc:l.pre.holds [] { args:=args }=true:=(pre_splitW hpre).2
  obtain ⟨d,r,rfl,h1,h2⟩:=hasAllW_cons hsh
  obtain rfl:=hasAllW_nil h2
  obtain ⟨xs,rfl,h3⟩:=hasW_list h1
  obtain ⟨ns,rfl⟩:=items_int h3
  have hlen:ns.length≤n:=by
    unfold OpenLaw.pre at hc
    have h4:(WTm.not (.lt (.lit (.int (n:Int))) (.len (.arg 0)))).holds [] { args:=[.list (ns.map .int)] }=true:=by
      have h4:=(holds_andW hc).1
      rw [hn] at h4
      exact h4
    have h5:=condW_of h4 (w_not (w_lt w_lit (w_len_list (w_arg rfl))))
    rw [List.length_map] at h5
    refine Nat.le_of_not_lt fun q=>?_
    have q':(n:Int) < ((ns.length:Nat):Int):=by omega
    first
      | (rw [decide_eq_true q'] at h5;exact absurd h5 (by decide))
      | (simp at h5;omega)
  cases hwl with
  | cons w1 w2=>
    cases w2
    cases w1 with
    | list ho hall=>exact ⟨_,_,ns,rfl,rfl,ho,mN ns _ hall,hlen⟩
theorem tK (l:OpenLaw) (args:List WData):l.row.toRowW.claim.post args (.bool true) args=true:=
 postW_of (r:=l.row.toRowW) (X:=(true == true))
  (show WShape.has [] (.bool true) .bool=true by first | rfl | decide | simp [WShape.has,WShape.arms,WShape.armsAll])
  (show (WTm.eq .res (.lit (.bool true))).value [] { args:=args,res:=some (.bool true),after:=args }=some (.bool (true == true)) from w_eq_bool (w_res rfl) w_lit) rfl
theorem qM {l:OpenLaw} {n:Nat} {q:Program} {loose:List Str} {XP:(Str→Option Value)→Heap→Prop} {YP:World→Heap→Prop} {d:DefRec}
  (hn:l.most=some n) (hdf:d.params.defaults=[])
  (call:∀ (w:World) (s₀ s₁:Shared) (mg mb:Str→Option Value) (fa:Addr) (o:Obj) (pm cd doc:Value) (a:Addr) (vs:List Value) (ns:List Int),
   Ground q loose [] XP w s₀ mg mb s₁.heap→YP w s₁.heap →
   s₁.heap.get? fa=some o→o.data=.func (docDef d.name d.params d.body d.scope pm cd doc)→s₁.heap.CodeRec cd d.name→mg d.name=some (.ref fa) →
   s₁.heap.get? a=some { cls:=.type "list",data:=.seq vs.toArray }→IntsAre vs ns→ns.length≤n→s₁.gens=#[] →
   codeAny (model l.prog w) callerA (.call (.ref fa) ⟨[.ref a],[]⟩) (fun r s'=>r=.ok (.ret (.bool true))∧OldK s₁.heap s'.heap∧s'.os=s₁.os∧AllBare s'.gens) s₁) :
  WalkO q loose XP YP l.row.toRowW d [] (fun f vs=>PySem.call f vs):=by
 intro w s₀ s₁ mg mb G Y fa o pm cd doc dV kV ho hd hcd hD hmg hg args vals as hpre hlay hrd hwl hlo
 obtain rfl:dV=.none:=Dflts.none hD hdf
 obtain rfl:kV=.none:=Dflts.noKw hD
 obtain ⟨a,vs,ns,rfl,rfl,hobj,hints,hlen⟩:=tU hn hpre hwl
 refine enter_call (codeAny_mono (call w s₀ s₁ mg mb fa o pm cd doc a vs ns G Y ho (fd_plain hd) hcd hmg hobj hints hlen hg) fun r s' hq=>?_)
 obtain ⟨rfl,h2,h3,h4⟩:=hq
 exact ⟨.inl ⟨.bool true,.bool true,[],rfl,fun _=>rfl,.bool true,tK l _,fun _=>⟨List.Pairwise.nil,fun _ hm=>(nomatch hm)⟩⟩,h2,h3,h4⟩
section
variable {prog:Program} {w:World} {A:Around} {E:Value→Shared→Prop} {s:Shared} {K:Frag}
end
end Att
namespace L2
open PySem PySem.Spec PyProof.Rows
theorem fA:∀ {vs:List Value} {ns:List Int},IntsAre vs ns→Vals (ns.map V.int) vs
 | _,_,.nil=>.nil
 | _,_,.cons n t h=>.cons ⟨t,rfl⟩ (fA h)
def vE (H:Hp):Prop:=∀ b,H b=none∨∃ o xs,H b=some (.frz o (.lst xs))
theorem wu {P:Program} {w:World} {K:PySem.W.Frag} {mg mb:Str→Option Value} {CX:CXT} {k:Nat} {fa a:Addr} {fd:FuncData} {x:Str} {sp:Sp} {s₁:Shared} {vs:List Value} {ns:List Int}
  (KX:K.In s₁.heap) (hns:s₁.heap.Ns mainGlobals mg) (hb:s₁.heap.Ns builtinsNs mb) (hbb:∀ x:Str,x≠"__name__"→mb x=bootBuiltins x) (hlim:s₁.heap.NoLimit) (hg:s₁.gens=#[])
  (ha:s₁.heap.get? a=some { cls:=.type "list",data:=.seq vs.toArray }) (hi:IntsAre vs ns) (hl:ns.length≤sizeLine) (hr:cD k callerA)
  (F:∀ base:Heap,K.In base→base.Ns mainGlobals mg→eK P w K mg base CX k fa fd [x] sp) (hbind:∀ (s:Shared) (u:Value),BindsTo s fd ⟨[u],[]⟩ [(x,u)])
  (hsp:∀ H:Hp,vE H→SqL K H a (ns.map V.int)→sp [.ref a] H (fun v _=>v=.bl true) fun _ _ _=>False)
  (hCX:∀ H e s',CX [] H s₁ (fun _ _ _=>False) e s'→False) :
  codeAny (model P w) callerA (.call (.ref fa) ⟨[.ref a],[]⟩) (fun r s'=>r=.ok (.ret (.bool true))∧OldK s₁.heap s'.heap∧s'.os=s₁.os∧AllBare s'.gens) s₁:=by
 have rv:=fA hi
 have lenV:=hi.length
 have core:∀ H:Hp,vE H→SqL K H a (ns.map V.int)→HOk P w H s₁.heap→(∀ b,H b≠none→b=a)→(H a≠none→K.lookup a=none) →
   codeAny (model P w) callerA (.call (.ref fa) ⟨[.ref a],[]⟩) (fun r s'=>r=.ok (.ret (.bool true))∧OldK s₁.heap s'.heap∧s'.os=s₁.os∧AllBare s'.gens) s₁:=by
  intro H hO hS hok hA hK
  have base_of:∀ {b:Addr} {o:Obj},s₁.heap.get? b=some o→H b=none→(iU s₁.heap H).get? b=some o:=fun e n=>vv e n
  have noA:∀ {b:Addr} {o:Obj} {es:Array DictEntry} {ep:Nat},s₁.heap.get? b=some o→o.data=.dict es ep→H b=none:=fun {b o es ep} e d=>by
   cases q:H b with
   | none=>rfl
   | some u=>
    have e':b=a:=hA b (by rw [q];simp)
    subst e'
    rw [ha] at e;cases e
    have d':Data.seq vs.toArray _=Data.dict es ep:=d
    cases d'
  have nsK:∀ {b:Addr} {m:Str→Option Value},s₁.heap.Ns b m→(iU s₁.heap H).Ns b m:=fun {b m} ⟨o,es,ep,e,d,r⟩=>⟨o,es,ep,base_of e (noA e d),d,r⟩
  have hKb:K.In (iU s₁.heap H):=fun b o e=>base_of (KX b o e) (by
   cases q:H b with
   | none=>rfl
   | some u=>
    have e':b=a:=hA b (by rw [q];simp)
    subst e'
    rw [hK (by rw [q];simp)] at e;cases e)
  have hM:Mod K mg (iU s₁.heap H):=⟨hKb,nsK hns,⟨mb,nsK hb,hbb⟩,let ⟨mc,h1,h2⟩:=hlim;⟨mc,nsK h1,h2⟩⟩
  have e0:sJ P w K mg (iU s₁.heap H) callerA [] s₁ H:=⟨rfl,hM,fun b o e=>yU e,Nat.le_of_eq (vg _ _),trivial,fun b hb=>absurd (show b∈([]:List Addr) from hb) (by simp),hok,.of_eq hg⟩
  refine codeAny_mono ((F _ hKb (nsK hns)).run callerA [] s₁ H ⟨[.ref a],[]⟩ [.ref a] [.ref a] _ _ hr e0 (hbind s₁ (.ref a)) (.cons rfl .nil) (hsp H hO hS)) fun r s' h=>?_
  cases r with
  | error e=>exact (hCX H e s' h).elim
  | ok fl=>
   cases fl with
   | next=>exact False.elim h
   | brk=>exact False.elim h
   | cont=>exact False.elim h
   | ret u=>
    obtain ⟨v,H',os,bare,un,hok',r',q⟩:=h
    have q':v=.bl true:=q
    subst q'
    obtain rfl:u=Value.bool true:=r'
    refine ⟨rfl,OldK.of_keep fun b o e=>?_,os,bare⟩
    cases q:H b with
    | none=>exact un.keep b o e q (by intro z;exact absurd (show b∈([]:List Addr) from z) (by simp)) (by simp)
    | some u=>
     rcases hO b with z | ⟨ob,xs,z⟩
     ·rw [q] at z;cases z
     ·have z2:=un.frzs b ob _ z
      obtain ⟨e1,_⟩:=hok b _ z
      obtain ⟨e2,_⟩:=hok' b _ z2
      rw [e] at e1;cases e1
      exact e2
 cases hk:K.lookup a with
 | some o=>
  have e:=KX a o hk
  rw [ha] at e
  cases e
  refine core (fun _=>none) (fun _=>.inl rfl) (.inr ⟨_,vs.toArray,_,hk,rfl,rfl,rfl,by rw [List.size_toArray,lenV];exact hl,by simpa using rv⟩) (fun b u z=>by have z':(none:Option HO)=some u:=z;cases z') (fun b z=>absurd rfl z) fun z=>absurd rfl z
 | none=>
  refine core (fun b=>if b=a then some (.frz { cls:=.type "list",data:=.seq vs.toArray } (.lst (ns.map V.int))) else none) (fun b=>?_) (.inl (.inr ⟨{ cls:=.type "list",data:=.seq vs.toArray },if_pos rfl⟩)) (fun b u z=>?_) (fun b z=>?_) fun _=>hk
  ·by_cases hb:b=a
   ·exact .inr ⟨_,_,if_pos hb⟩
   ·exact .inl (if_neg hb)
  ·by_cases hb:b=a
   ·have z':=(if_pos hb).symm.trans z
    cases z'
    subst hb
    exact ⟨ha,by rw [List.length_map];exact hl,vs,_,rv,ha⟩
   ·have z':=(if_neg hb).symm.trans z
    cases z'
  ·by_cases hb:b=a
   ·exact hb
   ·exact absurd (if_neg hb) z
theorem yv {l:PySem.W.OpenLaw} {n k:Nat} {q:Program} {loose:List Str} {XP:(Str→Option Value)→Heap→Prop} {YP:World→Heap→Prop} {d:DefRec} {K:Params→PySem.W.Frag} {CX:World→CXT} {sp:World→Sp} {x:Str}
  (hn:l.most=some n) (hn2:n≤sizeLine) (hdf:d.params.defaults=[]) (hr:cD k callerA)
  (hY:∀ (w:World) (h:Heap),YP w h→(K w.params).In h)
  (F:∀ (w:World) (mg:Str→Option Value) (fa:Addr) (h:Heap),(K w.params).In h→h.Ns mainGlobals mg→mg d.name=some (.ref fa) →
   ∃ fd:FuncData,(∀ (s:Shared) (u:Value),BindsTo s fd ⟨[u],[]⟩ [(x,u)]) ∧
    ∀ base:Heap,(K w.params).In base→base.Ns mainGlobals mg→eK l.prog w (K w.params) mg base (CX w) k fa fd [x] (sp w))
  (hsp:∀ (w:World) (H:Hp) (a:Addr) (ns:List Int),ns.length≤n→vE H→SqL (K w.params) H a (ns.map V.int)→sp w [.ref a] H (fun v _=>v=.bl true) fun _ _ _=>False)
  (hCX:∀ (w:World) (H:Hp) (s:Shared) (e:Value) (s':Shared),CX w [] H s (fun _ _ _=>False) e s'→False) :
  PySem.W.WalkO q loose XP YP l.row.toRowW d [] (fun f vs=>PySem.call f vs):=by
 refine Att.qM hn hdf fun w s₀ s₁ mg mb fa o pm cd doc a vs ns G Y ho hd hcd hmg hobj hints hlen hg=>?_
 have KX:=hY w _ Y
 obtain ⟨fd,hb,hF⟩:=F w mg fa _ KX G.T.g hmg
 exact wu KX G.T.g G.T.b G.T.builtins G.T.nolimit hg hobj hints (Nat.le_trans hlen hn2) hr hF hb (fun H hO hS=>hsp w H a ns hlen hO hS) fun H e s'=>hCX w H s₁ e s'
def iP (s:Stmt):Arguments:=match s with
 | .FunctionDef _ a _ _ _ _ _ _ _ _=>a
 | _=>{ posonlyargs:=[],args:=[],vararg:=none,kwonlyargs:=[],kw_defaults:=[],kwarg:=none,defaults:=[] }
def d5 (s:Stmt):List Stmt:=match s with
 | .FunctionDef _ _ b _ _ _ _ _ _ _=>b
 | _=>[]
def bI (s:Stmt):Scope:=match s with
 | .FunctionDef _ _ _ _ _ _ sc _ _ _=>sc
 | _=>{ kind:=.function,names:=[],isGenerator:=false,isCoroutine:=false }
abbrev CX0:CXT:=fun _ _ _ _ _ _=>False
abbrev E0:XK:=fun _ _ _=>False
theorem Dw {X:Cx}:Passes CX0 X E0:=fun _ _ _ _ _ _ _ h=>h.elim
structure Fun (K:PySem.W.Frag) (x qual:Str) (st:Stmt) (f:Addr) (fd:FuncData):Prop where
 ex:∃ (oc:Value) (od:Option Addr) (kV doc pm:Value) (an:Option Addr) (cdv ct:Value) (osl:Array (Option Value)),
  fd=PySem.W.fnOf x qual (iP st) (d5 st) (bI st) .none kV doc pm an cdv ct∧K.lookup f=some ⟨oc,od,.func fd,osl⟩∧PySem.W.codeIn K cdv qual=true
 kp:PySem.W.keepIn K (.ref f)=true
section
variable {P:Program} {w:World} {K:PySem.W.Frag} {mg:Str→Option Value} {base:Heap}
theorem Fun.ok {x qual:Str} {st:Stmt} {f:Addr} {fd:FuncData} {N ps:List Str} {k:Nat} {sp:Sp} (F:Fun K x qual st f fd) (S:iI N ps (bI st)) (len:∀ vs H Q E,sp vs H Q E→vs.length=ps.length)
  (hbody:∀ (cdv:Value) (A:Around) (outer:List Env) (s:Shared) (H:Hp) (vs:List V) (Q:VK) (E:XK),cD k (A.deeper (envOfC qual (bI st) s.heap.objs.size f cdv))→sp vs H Q E →
   ∃ t,PSs (ku CX0 P w K mg base N qual (bI st) f cdv A outer s H E).nox (d5 st) t∧t { nx:=fun _ H'=>Q .non H',rt:=Q } (start N vs) H):eK P w K mg base CX0 (k+1) f fd ps sp:=by
 obtain ⟨oc,od,kV,doc,pm,an,cdv,ct,osl,rfl,lk,hcd⟩:=F.ex
 refine Cz lk hcd S len fun A outer s H vs Q E hr hsp=>?_
 obtain ⟨t,h,q⟩:=hbody cdv A outer s H vs Q E hr hsp
 exact ⟨t,h.nox,q⟩
theorem z_ {x qual:Str} {st:Stmt} {f:Addr} {oc:Value} {od an:Option Addr} {osl:Array (Option Value)} {kV doc pm cdv ct:Value} (l:K.lookup f=some ⟨oc,od,.func (PySem.W.fnOf x qual (iP st) (d5 st) (bI st) .none kV doc pm an cdv ct),osl⟩)
  (c:PySem.W.codeIn K cdv qual=true) (k:PySem.W.keepIn K (.ref f)=true):Fun K x qual st f (PySem.W.fnOf x qual (iP st) (d5 st) (bI st) .none kV doc pm an cdv ct):=⟨⟨oc,od,kV,doc,pm,an,cdv,ct,osl,rfl,l,c⟩,k⟩
end
theorem d4 {n:Nat} (h:n≤1000):n < sizeLine:=Nat.lt_of_le_of_lt h (by decide)
section
variable {X:Cx}
end
def di (H H':Hp):Prop:=∀ b o,H b=some o→H' b=some o
def gX (env:Env):List (Str×NameKind)→List (Str×Addr)→List (Str×Addr)
 | [],acc=>acc
 | (n,k) :: r,acc=>gX env r (if k == .free then (n,(env.cells.lookup n).getD 0) :: acc else acc)
theorem hZ {scope:Scope} {env:Env} (h:∀ y∈scope.names,y.2=.free→∃ c,env.cells.lookup y.1=some c):closureFor scope env=pure (gX env scope.names []):=by
 have all:∀ (l:List (Str×NameKind)) (acc:List (Str×Addr)),(∀ y∈l,y.2=.free→∃ c,env.cells.lookup y.1=some c) →
   (forIn l acc fun (x:Str×NameKind) (r:List (Str×Addr))=>match x with
    | (name,kind)=>if (kind == NameKind.free)=true then (do let a ← cellOf env name;pure (ForInStep.yield ((name,a) :: r))) else pure (ForInStep.yield r):Sem (List (Str×Addr)))=pure (gX env l acc):=by
  intro l
  induction l with
  | nil=>intro acc _;rfl
  | cons y r ih=>
   intro acc hl
   obtain ⟨n,k⟩:=y
   have hr:∀ y∈r,y.2=.free→∃ c,env.cells.lookup y.1=some c:=fun y hy=>hl y (List.mem_cons_of_mem _ hy)
   rw [List.forIn_cons]
   by_cases hk:k=.free
   ·subst hk
    obtain ⟨c,hc⟩:=hl _ List.mem_cons_self rfl
    have e:cellOf env n=pure c:=by unfold cellOf;rw [show env.cells.lookup n=some c from hc]
    simp only [beq_self_eq_true,if_true,e,pure_bind]
    rw [ih _ hr]
    simp only [gX,beq_self_eq_true,if_true,show env.cells.lookup n=some c from hc,Option.getD_some]
   ·have hb:(k == NameKind.free)=false:=by simpa using hk
    simp only [hb,Bool.false_eq_true,if_false,pure_bind]
    rw [ih _ hr]
    simp only [gX,hb,Bool.false_eq_true,if_false]
 have q:=all scope.names [] h
 unfold closureFor
 simp only [bind_pure] at q ⊢
 exact q
theorem pT {env:Env}:∀ {l:List (Str×NameKind)} {acc:List (Str×Addr)} {x:Str} {c:Addr},(∀ y∈l,y.2=.free→∃ c,env.cells.lookup y.1=some c) →
  (∀ x c,(x,c)∈acc→env.cells.lookup x=some c)→(x,c)∈gX env l acc→env.cells.lookup x=some c
 | [],_,_,_,_,ha,h=>ha _ _ h
 | (n,k) :: r,acc,x,c,hl,ha,h=>by
  refine pT (l:=r) (fun y hy=>hl y (List.mem_cons_of_mem _ hy)) (fun x c hm=>?_) h
  by_cases hk:(k == NameKind.free)=true
  ·rw [if_pos hk] at hm
   rcases List.mem_cons.mp hm with e | e
   ·cases e
    obtain ⟨c',hc⟩:=hl _ List.mem_cons_self (by simpa using hk)
    have hc':env.cells.lookup n=some c':=hc
    rw [hc'];rfl
   ·exact ha _ _ e
  ·rw [if_neg hk] at hm;exact ha _ _ hm
theorem dc {env:Env} {l:List (Str×NameKind)} {x:Str} {c:Addr} (hl:∀ y∈l,y.2=.free→∃ c,env.cells.lookup y.1=some c) (h:(gX env l []).lookup x=some c):env.cells.lookup x=some c:=
 pT hl (fun _ _ z=>absurd z (by simp)) (PySem.mem_of_lookup h)
theorem lF {env:Env}:∀ {l:List (Str×NameKind)} {acc:List (Str×Addr)} {x:Str},((x,NameKind.free)∈l∨∃ c,(x,c)∈acc)→∃ c,(x,c)∈gX env l acc
 | [],_,_,h=>h.elim (fun z=>absurd z (by simp)) fun z=>z
 | (n,k) :: r,acc,x,h=>by
  refine lF (l:=r) ?_
  rcases h with h | ⟨c,h⟩
  ·rcases List.mem_cons.mp h with e | e
   ·cases e
    exact .inr ⟨_,by rw [if_pos (by simp)];exact List.mem_cons_self⟩
   ·exact .inl e
  ·by_cases hk:(k == NameKind.free)=true
   ·exact .inr ⟨c,by rw [if_pos hk];exact List.mem_cons_of_mem _ h⟩
   ·exact .inr ⟨c,by rw [if_neg hk];exact h⟩
theorem dA {β:Type}:∀ {l:List (Str×β)} {x:Str} {c:β},(x,c)∈l→∃ c',l.lookup x=some c'
 | [],_,_,h=>nomatch h
 | (n,d) :: r,x,c,h=>by
  rw [List.lookup_cons]
  cases e:x == n with
  | true=>exact ⟨d,rfl⟩
  | false=>
   rcases List.mem_cons.mp h with q | q
   ·cases q;simp at e
   ·exact dA q
def bW (X:Cx) (scope:Scope) (N:List Str) (C:Addr) (s:Shared) (H:Hp) (fp:List Addr):Cx:=
 { X with N:=N,s₀:=s,H₀:=H,env:=compEnvC scope (gX X.env scope.names []) C X.env,outer:=X.stack,ex:=fp,fn:=fun _=>false,pn:=[],xe:=fun _ _=>False }
structure dZ (esc scope:Scope) (EN N:List Str) (k:Nat):Prop where
 kind:scope.kind=.function
 nocell:∀ y∈scope.names,y.2≠.cell
 names:∀ y∈scope.names,y.2=.local→scope.names.lookup y.1=some .local
 frees:∀ y∈scope.names,y.2=.free→esc.names.lookup y.1=some .cell∨esc.names.lookup y.1=some .free
 len:N.length=k+EN.length
 nm:(((N.drop k).zip EN).all fun p=>(decide (p.1=p.2) && decide (scope.names.lookup p.1=some .free)) || decide (scope.names.lookup p.1=none))=true
theorem cc {scope:Scope} {env:Env} {x:Str} {k:NameKind}:∀ {l:List (Str×NameKind)},
  (l.map fun (n,k)=>if (k == NameKind.free && env.scope.kind == .function && env.kindOf n == some .cell) then (n,NameKind.cell) else (n,k)).lookup x=some k →
  l.lookup x=some k∨(l.lookup x=some .free∧k=.cell∧env.kindOf x=some .cell)
 | [],h=>by simp at h
 | (n,k') :: r,h=>by
  have ih:=@cc scope env x k r
  cases hx:x == n with
  | true=>
   have e:x=n:=by simpa using hx
   subst e
   by_cases hc:(k' == NameKind.free && env.scope.kind == .function && env.kindOf x == some .cell)=true
   ·simp only [List.map_cons,if_pos hc,List.lookup_cons,hx] at h
    cases h
    have hc2:(k'=.free∧env.scope.kind=.function)∧env.kindOf x=some .cell:=by simpa using hc
    exact .inr ⟨by simp [List.lookup_cons,hc2.1.1],rfl,hc2.2⟩
   ·simp only [List.map_cons,if_neg hc,List.lookup_cons,hx] at h
    exact .inl (by simpa [List.lookup_cons] using h)
  | false=>
   have h':(r.map fun (n,k)=>if (k == NameKind.free && env.scope.kind == .function && env.kindOf n == some .cell) then (n,NameKind.cell) else (n,k)).lookup x=some k:=by
    by_cases hc:(k' == NameKind.free && env.scope.kind == .function && env.kindOf n == some .cell)=true
    ·simpa only [List.map_cons,if_pos hc,List.lookup_cons,hx] using h
    ·simpa only [List.map_cons,if_neg hc,List.lookup_cons,hx] using h
   rw [List.lookup_cons,hx]
   exact ih h'
theorem j7 {scope:Scope} {env:Env} {x:Str}:∀ {l:List (Str×NameKind)},l.lookup x=some .free →
  (l.map fun (n,k)=>if (k == NameKind.free && env.scope.kind == .function && env.kindOf n == some .cell) then (n,NameKind.cell) else (n,k)).lookup x=some .cell ∨
  (l.map fun (n,k)=>if (k == NameKind.free && env.scope.kind == .function && env.kindOf n == some .cell) then (n,NameKind.cell) else (n,k)).lookup x=some .free
 | [],h=>by simp at h
 | (n,k') :: r,h=>by
  have ih:=@j7 scope env x r
  cases hx:x == n with
  | true=>
   by_cases hc:(k' == NameKind.free && env.scope.kind == .function && env.kindOf n == some .cell)=true
   ·exact .inl (by simp only [List.map_cons,if_pos hc,List.lookup_cons,hx])
   ·refine .inr ?_
    simp only [List.map_cons,if_neg hc,List.lookup_cons,hx]
    simpa only [List.lookup_cons,hx] using h
  | false=>
   have h':r.lookup x=some .free:=by simpa only [List.lookup_cons,hx] using h
   by_cases hc:(k' == NameKind.free && env.scope.kind == .function && env.kindOf n == some .cell)=true
   ·simpa only [List.map_cons,if_pos hc,List.lookup_cons,hx] using ih h'
   ·simpa only [List.map_cons,if_neg hc,List.lookup_cons,hx] using ih h'
section
variable {X:Cx} {pins:List (Addr×Obj)} {σ:St} {H:Hp} {s:Shared} {scope:Scope} {N:List Str} {k:Nat} {fp:List Addr}
theorem dZ.cells (S:dZ X.env.scope scope X.N N k) (ok:X.Ok):∀ y∈scope.names,y.2=.free→∃ c,X.env.cells.lookup y.1=some c:=fun y hy hf=>ok.has y.1 (S.frees y hy hf)
theorem Inv.yB {h4:Heap} {tk:Nat} (I:Inv X pins σ H s) (S:dZ X.env.scope scope X.N N k) (hf:∀ b∈fp,ef X pins H b) (hlt:∀ b∈fp,b < s.heap.objs.size) (hn:h4.Ns s.heap.objs.size fun _=>none) (hk:∀ b o,s.heap.get? b=some o→h4.get? b=some o) :
  Inv (bW X scope N s.heap.objs.size s H fp) [] (List.replicate k none++σ) H { s with heap:=h4,toks:=tk }:=by
 have hcells:=S.cells I.ok
 have noA:∀ p:Addr×Obj,p∈(bW X scope N s.heap.objs.size s H fp).pn++[]→False:=fun p hp=>absurd (show p∈([]:List (Addr×Obj)) from hp) (by simp)
 refine ⟨⟨I.ok.mod,S.kind,I.ok.glob,I.ok.blt,Nat.le_refl _,fun y z c h1 h2=>?_,fun y hy=>?_,fun y c h=>?_,I.ok.hd,I.ok.frames,.inl rfl,fun b hb=>?_,I.bs,Nat.le_trans I.ok.bsz I.sz,fun b o e hb=>?_,fun b hb hz=>?_,I.stack,I.rA⟩,
  rfl,I.bare,Un.kept hk,⟨_,hn,fun i y v h1 h2 h3=>?_⟩,fun y c h=>?_,I.hok.fresh (Nat.le_refl _),fun y c h=>?_,fun p hp=>(noA p hp).elim,I.hok.kept hk,?_⟩
 ·exact I.ok.inj y z c (dc hcells h1) (dc hcells h2)
 ·have hy:(relabel scope X.env).names.lookup y=some .cell∨(relabel scope X.env).names.lookup y=some .free:=hy
  have hfree:scope.names.lookup y=some .free:=by
   rcases hy with q | q
   ·rcases cc (scope:=scope) q with q | ⟨q,_⟩
    ·exact absurd rfl (S.nocell _ (PySem.mem_of_lookup q))
    ·exact q
   ·rcases cc (scope:=scope) q with q | ⟨q,z,_⟩
    ·exact q
    ·cases z
  obtain ⟨c,hc⟩:=lF (env:=X.env) (l:=scope.names) (acc:=[]) (.inl (PySem.mem_of_lookup hfree))
  exact dA hc
 ·exact absurd h (by show ¬(false=true);decide)
 ·obtain ⟨f0,f1,f2,f3,f4,f5⟩:=hf b hb
  exact ⟨Nat.ne_of_lt (hlt b hb),fun x c h=>f4 x c (dc hcells h)⟩
 ·obtain ⟨f0,f1,f2,f3,f4,f5⟩:=hf b hb
  rcases f3 with q | q
  ·exact I.ok.noex b o e q
  ·exact absurd (Nat.lt_of_lt_of_le (Heap.lt_size (I.ok.bs b o e).1) q) (Nat.lt_irrefl _)
 ·obtain ⟨f0,f1,f2,f3,f4,f5⟩:=hf b hb
  rcases List.mem_cons.mp (I.mL b hz) with z | z
  ·exact f1 z
  ·exact f2 z
 ·
  have hi:k≤i:=by
   refine Nat.le_of_not_lt fun q=>?_
   rw [List.getElem?_append_left (by simpa using q),List.getElem?_replicate] at h2
   split at h2<;>cases h2
  obtain ⟨j,rfl⟩:=Nat.exists_eq_add_of_le hi
  have h2':σ[j]?=some (some v):=by
   rw [List.getElem?_append_right (by simp)] at h2
   simpa using h2
  have hy:(relabel scope X.env).names.lookup y=some .local∨(relabel scope X.env).names.lookup y=some .cell∨(relabel scope X.env).names.lookup y=some .free:=h3
  have hjn:j < X.N.length:=by
   have:=(List.getElem?_eq_some_iff.mp h2').1
   rw [I.len] at this
   exact this
  have hyn:N[k+j]?=some y:=h1
  have hnm:=List.all_eq_true.mp S.nm (y,X.N[j]) (by
   refine List.mem_iff_getElem?.mpr ⟨j,?_⟩
   rw [List.getElem?_zip_eq_some]
   exact ⟨by rw [List.getElem?_drop];exact hyn,by simp [hjn]⟩)
  have hvis:scope.names.lookup y≠none:=by
   rcases hy with q | q | q
   ·rcases cc (scope:=scope) q with q | ⟨q,_⟩<;>rw [q]<;>simp
   ·rcases cc (scope:=scope) q with q | ⟨q,_⟩<;>rw [q]<;>simp
   ·rcases cc (scope:=scope) q with q | ⟨q,_⟩<;>rw [q]<;>simp
  have hnm2:y=X.N[j]∧scope.names.lookup y=some .free:=by
   rcases (Bool.or_eq_true _ _).mp hnm with q | q
   ·exact ⟨of_decide_eq_true ((Bool.and_eq_true _ _).mp q).1,of_decide_eq_true ((Bool.and_eq_true _ _).mp q).2⟩
   ·exact absurd (of_decide_eq_true q) hvis
  obtain ⟨hyj,hfree⟩:=hnm2
  have hk2:=S.frees _ (PySem.mem_of_lookup hfree) rfl
  have hvis2:Vis X.env.scope y:=.inr hk2
  obtain ⟨m,hm,hl⟩:=I.loc
  obtain ⟨u,ru,lk⟩:=hl j y v (by rw [hyj];simp [hjn]) h2' hvis2
  refine ⟨u,ru,?_⟩
  rcases lk with ⟨q,_⟩ | ⟨_,c,hc,hcell⟩
  ·rcases hk2 with z | z
   ·exact absurd (q.symm.trans (show X.env.kindOf y=some .cell from z)) (by simp)
   ·exact absurd (q.symm.trans (show X.env.kindOf y=some .free from z)) (by simp)
  ·refine .inr ⟨j7 (scope:=scope) hfree,c,?_,hcell.keeps hk⟩
   obtain ⟨c',hc'⟩:=lF (env:=X.env) (l:=scope.names) (acc:=[]) (.inl (PySem.mem_of_lookup hfree))
   obtain ⟨c2,hc2⟩:=dA hc'
   have q:=dc hcells hc2
   rw [hc] at q;cases q
   exact hc2
 ·obtain ⟨v,q⟩:=I.cell y c (dc hcells h)
  exact ⟨v,q.keeps hk⟩
 ·exact I.freeC y c (dc hcells h)
 ·show (List.replicate k none++σ).length=N.length
  rw [List.length_append,List.length_replicate,S.len,I.len]
end
section
variable {prog:Program} {w:World} {A:Around} {R:Result→Shared→Prop} {s:Shared}
theorem f6 {env:Env} {R:Value→Shared→Prop}:∀ (x:Value) (s':Shared),False→notedBy (model prog w) A env R x s':=fun _ _ h=>h.elim
theorem pb {elt target iter:Expr} {ifs:List Expr} {scope:Scope} {pos:Pos} {it acc:Value} {env:Env} (I:Nat→Shared→Prop)
  (turn:∀ n s,I n s→wpAny (model prog w) A (pyNext it) (fun r s₁=>match r with
   | none=>R (.ok .next) s₁
   | some v=>wpAny (model prog w) A (letOwnedTupleGo target it v) (fun _ s₁'=>wpAny (model prog w) A (assign target env v) (fun _ s₂=>
     wpAny (model prog w) A (forIn ifs true fun c r=>if r=true then do let ok ← isTrue c env (eval c env);pure (ForInStep.yield ok) else pure (ForInStep.yield r)) (fun ok s₃=>
      if ok=true then wpAny (model prog w) A (eval elt env) (fun x s₄=>
       wpAny (model prog w) A (call (.builtin "list.append") [acc,x]) (fun _ s₅=>∃ m,m < n∧I m s₅) (fun _ _=>False) s₄) (fun _ _=>False) s₃
      else ∃ m,m < n∧I m s₃) (fun _ _=>False) s₂) (fun _ _=>False) s₁') (fun _ _=>False) s₁) (fun _ _=>False) s)
  (n:Nat) (h:I n s) :
  codeAny (model prog w) A (.compLoop (.ListComp elt [⟨target,iter,ifs,0⟩] scope pos) 0 it acc env) R s:=by
 refine codeAny_loop rfl I (fun n s hI=>?_) n h
 show wpAny _ A ((compTurn (.ListComp elt [⟨target,iter,ifs,0⟩] scope pos) 0 it acc env).onRaise (fun x=>do noteFrame x env;theTreesLotGoes x)) _ _ s
 refine wpAny_noted ?_
 rw [compTurn_list]
 refine wpAny_bind (wpAny_standAt (wpAny_bind (wpAny_mono (turn n s hI) (fun r s₁ h₁=>?_) f6)))
 cases r with
 | none=>exact wpAny_pure h₁
 | some v=>
  refine wpAny_bind (wpAny_mono h₁ (fun _ s₁' h₁'=>?_) f6)
  refine wpAny_bind (wpAny_mono h₁' (fun _ s₂ h₂=>wpAny_bind (wpAny_mono h₂ (fun ok s₃ h₃=>?_) f6)) f6)
  cases ok with
  | false=>exact wpAny_pure ⟨rfl,h₃⟩
  | true=>
   exact wpAny_bind (wpAny_bind (wpAny_mono h₃ (fun x s₄ h₄=>wpAny_bind (wpAny_mono h₄ (fun _ s₅ h₅=>wpAny_pure (wpAny_pure ⟨rfl,h₅⟩)) f6)) f6))
end
def PTs (X:Cx) (ifs:List Expr) (t:TT):Prop:=
 ∀ (pins:List (Addr×Obj)) (s:Shared) (σ:St) (H:Hp) (Q:Bool→Hp→Prop),Inv X pins σ H s→t σ H Q →
  wpAny (model X.prog X.w) X.A (forIn ifs true fun c r=>if r=true then do let ok ← isTrue c X.env (eval c X.env);pure (ForInStep.yield ok) else pure (ForInStep.yield r)) (TP X pins σ Q) X.xe s
def EB:TT:=fun _ H Q=>Q true H
theorem zj {X:Cx}:PTs X [] EB:=fun _ _ _ H _ I h=>wpAny_tests_nil ⟨H,I,h⟩
theorem zp {X:Cx} {c:Expr} {t:TT} (h:PT X c t):PTs X [c] t:=fun pins s σ H Q I q=>wpAny_tests_one (h pins s σ H Q I q)
def LCW (J:It) (g:TG) (tt:TT) (te:TE) (k:Nat) (D:Addr) (σ:St) (H1:Hp) (Q:Hp→Prop):Prop:=
 ∃ W:Nat→Nat→St→Hp→Prop,(∃ m,W 0 m (List.replicate k none++σ) (upd H1 D (.lst [])))∧∀ i m σ' H',W i m σ' H' →
  (J.stop i H'∧Q H')∨(J.go i H'∧∃ N:St→Hp→Prop,(∀ σ2 H2,N σ2 H2→∃ m',m' < m∧W (i+1) m' σ2 H2) ∧
   ∀ x H2,J.yld i H' x H2→g x σ' H2 fun σ3 H3=>tt σ3 H3 fun b H4=>if b=true then te σ3 H4 fun v H5=>∃ xs,H5 D=some (.lst xs)∧xs.length < sizeLine∧N σ3 (upd H5 D (.lst (xs++[v]))) else N σ3 H4)
def tLC (wi:TI) (g:TG) (tt:TT) (te:TE) (k:Nat):TE:=fun σ H Q=>wi σ H fun J H1=>∀ D,H1 D=none→LCW J g tt te k D σ H1 fun H2=>Q (.ref D) H2
section
variable {X:Cx} {tg elt iter:Expr} {ifs:List Expr} {scope:Scope} {pos:Pos} {wi:TI} {g:TG} {tt:TT} {te:TE} {N:List Str} {k:Nat}
theorem p8 {pins:List (Addr×Obj)} {σ:St} {H2:Hp} {s2:Shared} {it:Addr} {fp:List Addr} {tn:Nat→Heap→Prop} {J:It} {E:Value→Shared→Prop} {QD:Addr→Hp→Prop} {RR:Value→Addr→Result→Shared→Prop}
  (hc:X.calm=true) (S:dZ X.env.scope scope X.N N k) (hg:∀ C s H fp,PG (bW X scope N C s H fp) tg g) (ht:∀ C s H fp,PTs (bW X scope N C s H fp) ifs tt) (he:∀ C s H fp,PE (bW X scope N C s H fp) elt te)
  (I2:Inv X pins σ H2 s2) (T:Turn X.prog X.w X.K tg J fp it tn) (st2:tn 0 s2.heap) (f2:∀ b∈fp,ef X pins H2 b) (q:∀ D,H2 D=none→LCW J g tt te k D σ H2 (QD D))
  (hRR:∀ (D C:Addr) (s':Shared) (H':Hp) (m:Str→Option Value),s2.heap.objs.size < C→Inv X pins σ H' s'→s'.heap.Ns C m→H' C=none→C≠X.env.locals→C∉X.fs→X.s₀.heap.objs.size≤C→(∀ x c,X.env.cells.lookup x=some c→c≠C)→(∀ p∈X.pn++pins,p.1≠C)→QD D H'→RR (.ref D) C (.ok .next) s') :
  wpAny (model X.prog X.w) X.A (newList []) (fun acc s₃=>wpAny (model X.prog X.w) X.A (newFunctionEnv scope X.env.globals (gX X.env scope.names []) [] X.env.qual none .none (some X.env)) (fun cenv s₄=>
   codeAny (model X.prog X.w) X.A (.compStart (.ListComp elt [⟨tg,iter,ifs,0⟩] scope pos) 0 (.ref it) acc { cenv with scope:=relabel scope X.env }) (RR acc cenv.locals) s₄) E s₃) E s2:=by
 have hD:H2 s2.heap.objs.size=none:=I2.hok.fresh (Nat.le_refl _)
 obtain ⟨W,⟨m0,w0⟩,turn⟩:=q _ hD
 refine wpAny_newObj_type ?_
 have I3:Inv X pins σ (upd H2 s2.heap.objs.size (.lst [])) { s2 with heap:=s2.heap.push { cls:=.type "list",dict:=none,data:=.seq ([]:List Value).toArray } }:=by
  refine I2.laid (t':=s2.toks) (fun b u e=>Heap.get?_push_of_some _ e) (Nat.le_refl _) ?_
  exact ⟨Nat.zero_le _,[],0,.nil,Heap.get?_push_size _ rfl⟩
 have k3:∀ b o,s2.heap.get? b=some o→(s2.heap.push { cls:=.type "list",dict:=none,data:=.seq ([]:List Value).toArray }).get? b=some o:=fun b o e=>Heap.get?_push_of_some _ e
 generalize hs3:({ s2 with heap:=s2.heap.push { cls:=.type "list",dict:=none,data:=.seq ([]:List Value).toArray } }:Shared)=s3 at I3 ⊢
 have hsz:s3.heap.objs.size=s2.heap.objs.size+1:=by rw [← hs3];exact Heap.size_push ..
 have k3':∀ b o,s2.heap.get? b=some o→s3.heap.get? b=some o:=by rw [← hs3];exact k3
 generalize hDe:s2.heap.objs.size=D at *
 have fpD:∀ b∈fp,b < D:=fun b hb=>by
  obtain ⟨o,e,_⟩:=T.obj _ _ st2 b hb
  rw [← hDe];exact Heap.lt_size e
 have f3:∀ b∈fp,ef X pins (upd H2 D (.lst [])) b:=fun b hb=>by
  refine ⟨?_,(f2 b hb).2⟩
  rw [aN (Nat.ne_of_lt (fpD b hb))]
  exact (f2 b hb).1
 refine wpAny_newFunctionEnv S.nocell (by intro y hy;simp at hy) (fun h4 hn4 hs4=>?_) S.kind
 try dsimp only at hn4 hs4 ⊢
 have k4:∀ b o,s3.heap.get? b=some o→h4.get? b=some o:=fun b o e=>hs4.extBut b o (Nat.ne_of_lt (Heap.lt_size e)) (Heap.get?_push_of_some _ e)
 have I4:=I3.yB (h4:=h4) (tk:=s3.toks+0) S f3 (fun b hb=>by rw [hsz];exact Nat.lt_succ_of_lt (fpD b hb)) hn4 k4
 have st4:tn 0 h4:=T.keep _ _ _ st2 fun b hb o e=>k4 b o (k3' b o e)
 have fr4:∀ b∈fp,(upd H2 D (.lst [])) b=none:=fun b hb=>(f3 b hb).1
 generalize hC:s3.heap.objs.size=C at *
 have hX:∀ (H':Hp),(∀ b∈fp,H' b=none)→∀ b∈fp,ef (bW X scope N C s3 (upd H2 D (.lst [])) fp) [] H' b:=fun H' hn b hb=>by
  obtain ⟨g0,g1,g2,g3,g4,g5⟩:=f3 b hb
  refine ⟨hn b hb,?_,?_,.inl hb,?_,fun p hp=>absurd (show p∈([]:List (Addr×Obj)) from hp) (by simp)⟩
  ·exact Nat.ne_of_lt (Nat.lt_of_lt_of_eq (Nat.lt_succ_of_lt (fpD b hb)) hsz.symm)
  ·intro z
   rcases List.mem_cons.mp (I3.mL b z) with z | z
   ·exact g1 z
   ·exact g2 z
  ·intro x c h
   exact g4 x c (dc (S.cells I3.ok) h)
 have fin:∀ (s':Shared) (σ':St) (H':Hp),Inv (bW X scope N C s3 (upd H2 D (.lst [])) fp) [] σ' H' s'→QD D H'→RR (.ref D) C (.ok .next) s':=by
  intro s' σ' H' I' qd
  obtain ⟨m,hm,_⟩:=id I'.loc
  have IX:Inv X pins σ H' s':=by
   refine I3.CH (s':=s') (ch:=fp) I'.os I'.base I'.hok I'.bare fun b hb=>?_
   obtain ⟨g0,g1,g2,g3,g4,g5⟩:=f3 b hb
   exact ⟨g3,g1,g4,g5⟩
  have hlt:=I3.lt
  rw [hC] at hlt
  refine hRR D C s' H' m (Nat.lt_of_lt_of_eq (Nat.lt_succ_self D) hsz.symm) IX hm I'.free (Nat.ne_of_gt hlt) (I3.AJ (Nat.le_of_eq hC)) (Nat.le_trans I3.sz (Nat.le_of_eq hC)) (fun x c e z=>?_) (fun p hp z=>?_) qd
  ·obtain ⟨v,hv⟩:=I3.cell x c e
   have q:=hv.lt
   rw [hC,z] at q
   exact Nat.lt_irrefl _ q
  ·have q:=Heap.lt_size (I3.pin p hp).1
   rw [hC,z] at q
   exact Nat.lt_irrefl _ q
 have loop:∀ s₀:Shared,s₀={ s3 with heap:=h4,toks:=s3.toks+([]:List (Str×Value)).length } →
   codeAny (model X.prog X.w) X.A (.compLoop (.ListComp elt [⟨tg,iter,ifs,0⟩] scope pos) 0 (.ref it) (.ref D) (compEnvC scope (gX X.env scope.names []) C X.env)) (RR (.ref D) C) s₀:=by
  rintro s₀ rfl
  refine pb (fun n s'=>∃ i σ' H',Inv (bW X scope N C s3 (upd H2 D (.lst [])) fp) [] σ' H' s'∧tn i s'.heap∧(∀ b∈fp,H' b=none)∧W i n σ' H') ?_ m0 ⟨0,_,_,I4,st4,fr4,w0⟩
  rintro n s5 ⟨i,σ5,H5,I5,st5,fr5,w5⟩
  rcases turn i n σ5 H5 w5 with ⟨stop,qn⟩ | ⟨go,NN,hN,step⟩
  ·refine thn (T.done (bW X scope N C s3 (upd H2 D (.lst [])) fp) rfl rfl rfl hc i [] s5 σ5 H5 _ I5 (hX _ fr5) st5 stop) fun r s6 ⟨hr,I6⟩=>?_
   subst hr
   exact fin s6 σ5 H5 I6 qn
  ·refine thn (T.item (bW X scope N C s3 (upd H2 D (.lst [])) fp) rfl rfl rfl hc i [] s5 σ5 H5 _ I5 (hX _ fr5) st5 go) fun r s6 ⟨u,hr,h6⟩=>?_
   subst hr
   refine thn h6 fun _ s7 ⟨x,H7,I7,r7,y7,st7,fr7⟩=>?_
   have I7':=I7.pinned (hX _ fr7) (T.obj _ _ st7)
   have back:∀ {s9:Shared} {σ9:St} {H9:Hp},Inv (bW X scope N C s3 (upd H2 D (.lst [])) fp) ([]++km fp s7.heap) σ9 H9 s9→NN σ9 H9→∃ m,m < n∧∃ i σ' H',Inv (bW X scope N C s3 (upd H2 D (.lst [])) fp) [] σ' H' s9∧tn i s9.heap∧(∀ b∈fp,H' b=none)∧W i m σ' H':=fun {s9 σ9 H9} I9 n9=>by
    obtain ⟨m',hm,w9⟩:=hN σ9 H9 n9
    refine ⟨m',hm,i+1,σ9,H9,I9.gi,T.keep _ _ _ st7 fun b hb o e=>(I9.pin (b,o) (List.mem_append_right _ (List.mem_append_right _ (fN hb e)))).1,fun b hb=>?_,w9⟩
    obtain ⟨o,e,d⟩:=T.obj _ _ st7 b hb
    exact (I9.pin (b,o) (List.mem_append_right _ (List.mem_append_right _ (fN hb e)))).2.1
   refine thn (hg C s3 _ fp _ s7 σ5 H7 x u _ I7' r7 (step x H7 y7)) fun _ s8 ⟨σ8,H8,I8,q8⟩=>?_
   refine thn (ht C s3 _ fp _ s8 σ8 H8 _ I8 q8) fun ok s9 ⟨H9,I9,q9⟩=>?_
   cases ok with
   | false=>
    rw [if_neg Bool.false_ne_true] at q9
    rw [if_neg Bool.false_ne_true]
    exact back I9 q9
   | true=>
    rw [if_pos rfl] at q9
    rw [if_pos rfl]
    refine thn (he C s3 _ fp _ s9 σ8 H9 _ I9 q9) fun y s10 ⟨v,H10,I10,r10,q10⟩=>?_
    obtain ⟨xs,hD10,hz,qN⟩:=q10
    refine thn (nP (X:=bW X scope N C s3 (upd H2 D (.lst [])) fp) _ s10 σ8 H10 (.ref D) [v] (.ref D) [y] (fun _ H'=>NN σ8 H') I10 rfl (.cons r10 .nil) ⟨D,xs,v,rfl,rfl,hD10,hz,qN⟩) fun _ s11 ⟨_,H11,I11,_,q11⟩=>?_
    exact back I11 q11
 exact codeAny_compStart_list (loop _ rfl) (T.self _ 0 _ _ _ st4 (loop _ rfl))
theorem DP {esc:Scope} {EN:List Str} (hc:X.calm=true) (S:dZ esc scope EN N k) (h1:X.env.scope=esc) (h2:X.N=EN) (hi:PI X tg iter wi) (hg:∀ C s H fp,PG (bW X scope N C s H fp) tg g) (ht:∀ C s H fp,PTs (bW X scope N C s H fp) ifs tt) (he:∀ C s H fp,PE (bW X scope N C s H fp) elt te)
  (hs:∀ x,foldedSetIterable iter X.env x=pure x:=by intro _;rfl):PE X (.ListComp elt [⟨tg,iter,ifs,0⟩] scope pos) (tLC wi g tt te k):=by
 subst h1 h2
 intro pins s σ H Q I h
 rw [eval_ListComp]
 refine wpAny_comprehension_free (use:=none) rfl hs (hZ (S.cells I.ok)) S.kind S.names (thn (hi pins s σ H _ I h) fun v s1 h1=>thn h1 fun itv s2 h2=>?_)
 obtain ⟨it,fp,tn,J,H2,e,I2,T,st2,f2,q⟩:=h2
 subst e
 refine p8 (RR:=fun acc C=>compPost (model X.prog X.w) X.A X.xe none (EP X pins σ Q) acc C) hc S hg ht he I2 T st2 f2 q ?_
 intro D C s' H' m hC IX hm hn hL hF hS hcell hp qd
 refine ⟨m,hm,fun h' sb=>?_⟩
 exact ⟨.ref D,H',IX.turned (t':=s'.toks) (fun b o hb e=>sb.extBut b o hb e) hn hL (.inr hS) hcell hp,rfl,qd⟩
def sLC (wi:TI) (g:TG) (tt:TT) (te:TE) (k i:Nat):TS:=fun D σ H=>tLC wi g tt te k σ H fun v H1=>D.nx (σ.set i (some v)) H1
theorem Di {esc:Scope} {EN:List Str} {i:Nat} {y:Str} {py spos:Pos} (hN:X.N.Nodup) (hi':X.N[i]?=some y) (hy:Loc X.env.scope y) (hc:X.calm=true) (S:dZ esc scope EN N k) (h1:X.env.scope=esc) (h2:X.N=EN) (hi:PI X tg iter wi) (hg:∀ C s H fp,PG (bW X scope N C s H fp) tg g) (ht:∀ C s H fp,PTs (bW X scope N C s H fp) ifs tt) (he:∀ C s H fp,PE (bW X scope N C s H fp) elt te)
  (hsw:swapsWith (.ListComp elt [⟨tg,iter,ifs,0⟩] scope pos) (some (.Name y py)) spos.line X.env=pure true:=by rfl)
  (hs:∀ x,foldedSetIterable iter X.env x=pure x:=by intro _;rfl) (hf:X.fn y=true∨X.env.scope.names.lookup y=some .local:=by first | exact .inl rfl | exact .inr rfl | assumption) :
  PS X (.Assign [.Name y py] (.ListComp elt [⟨tg,iter,ifs,0⟩] scope pos) spos) (sLC wi g tt te k i):=by
 subst h1 h2
 intro pins s σ H D0 I h
 rw [exec_Assign_Name_used _ _ _ _ hsw]
 refine wpAny_bind (wpAny_standAt (wpAny_bind ?_))
 show wpAny _ X.A (do let _ ← comprehension (.ListComp elt [⟨tg,iter,ifs,0⟩] scope pos) scope X.env _ (newList []) false (eval iter X.env) (some (assign (.Name y py) X.env))) _ _ s
 refine wpAny_bind (wpAny_mono (wpAny_comprehension_free (use:=some (assign (.Name y py) X.env)) (Q:=fun _ s'=>SP X pins D0 .next s') rfl hs (hZ (S.cells I.ok)) S.kind S.names
  (thn (hi pins s σ H _ I h) fun v s1 h1=>thn h1 fun itv s2 h2=>?_)) (fun _ s' hq=>wpAny_pure (wpAny_pure hq)) fun _ _ e=>e)
 obtain ⟨it,fp,tn,J,H2,e,I2,T,st2,f2,q⟩:=h2
 subst e
 refine p8 (RR:=fun acc C=>compPost (model X.prog X.w) X.A X.xe (some (assign (.Name y py) X.env)) (fun _ s'=>SP X pins D0 .next s') acc C) hc S hg ht he I2 T st2 f2 q ?_
 intro D C s' H' m hC IX hm hn hL hF hS hcell hp qd
 show wpAny _ X.A (assign (.Name y py) X.env (.ref D)) _ _ _
 obtain ⟨o,es,ep,ho,hd,hr⟩:=id hm
 have IP:Inv X (pins++[(C,o)]) σ H' s':=IX.m8 fun p hp=>by
  rcases List.mem_append.mp hp with z | z
  ·exact IX.pin p (List.mem_append_right _ z)
  ·obtain rfl:p=(C,o):=List.mem_singleton.mp z
   exact ⟨ho,hn,hL,hF,fun v z=>by rw [hd] at z;cases z⟩
 refine wpAny_assign_Name (lj IP hN hi' hy (v:=.ref D) (u:=.ref D) rfl (fun s'' I''=>?_) hf)
 have hC2:=(I''.pin (C,o) (List.mem_append_right _ (List.mem_append_right _ (List.mem_singleton.mpr rfl)))).1
 refine ⟨m,⟨o,es,ep,hC2,hd,hr⟩,fun h' sb=>?_⟩
 exact ⟨_,H',(I''.gi).turned (t':=s''.toks) (fun b o hb e=>sb.extBut b o hb e) hn hL (.inr hS) hcell hp,qd⟩
end
inductive D where
 | non | bl (b:Bool) | int (i:Int) | str (x:Str) | tup (xs:List D) | lst (xs:List D)
mutual
def D.eqv:D→D→Bool
 | .non,.non=>true
 | .bl a,.bl b=>a == b
 | .bl a,.int b=>(if a then 1 else 0) == b
 | .int a,.bl b=>a == (if b then 1 else 0)
 | .int a,.int b=>a == b
 | .str a,.str b=>a == b
 | .tup xs,.tup ys=>D.bC xs ys
 | .lst xs,.lst ys=>D.bC xs ys
 | _,_=>false
def D.bC:List D→List D→Bool
 | [],[]=>true
 | x :: xs,y :: ys=>D.eqv x y && D.bC xs ys
 | _,_=>false
end
mutual
theorem D.eqv_refl:∀ d:D,D.eqv d d=true
 | .non=>rfl
 | .bl a=>by simp [D.eqv]
 | .int a=>by simp [D.eqv]
 | .str a=>by simp [D.eqv]
 | .tup xs=>by simp only [D.eqv];exact D.kg xs
 | .lst xs=>by simp only [D.eqv];exact D.kg xs
theorem D.kg:∀ ds:List D,D.bC ds ds=true
 | []=>rfl
 | d :: ds=>by simp only [D.bC,D.eqv_refl d,D.kg ds,Bool.and_self]
end
mutual
def D.depth:D→Nat
 | .tup xs=>D.b9 xs+1
 | .lst xs=>D.b9 xs+1
 | _=>0
def D.b9:List D→Nat
 | []=>0
 | x :: xs=>max (D.depth x) (D.b9 xs)
end
mutual
inductive Rep (H:Hp):V→D→Prop
 | non:Rep H .non .non
 | bl (b:Bool):Rep H (.bl b) (.bl b)
 | int (i:Int):Rep H (.int i) (.int i)
 | str (x:Str):Rep H (.str x) (.str x)
 | tup {a:Addr} {vs:List V} {ds:List D}:H a=some (.tup vs)→av H vs ds→Rep H (.ref a) (.tup ds)
 | lst {a:Addr} {vs:List V} {ds:List D}:H a=some (.lst vs)→av H vs ds→Rep H (.ref a) (.lst ds)
inductive av (H:Hp):List V→List D→Prop
 | nil:av H [] []
 | cons {v:V} {d:D} {vs:List V} {ds:List D}:Rep H v d→av H vs ds→av H (v :: vs) (d :: ds)
end
theorem av.length {H:Hp}:∀ {vs:List V} {ds:List D},av H vs ds→vs.length=ds.length
 | _,_,.nil=>rfl
 | _,_,.cons _ t=>by simp [av.length t]
theorem av.get {H:Hp}:∀ {vs:List V} {ds:List D} {i:Nat} {v:V},av H vs ds→vs[i]?=some v→∃ d,ds[i]?=some d∧Rep H v d
 | _,_,_,_,.nil,e=>by simp at e
 | _,_,0,_,.cons r _,e=>by simp at e;subst e;exact ⟨_,rfl,r⟩
 | _,_,i+1,v,.cons _ t,e=>by
  obtain ⟨d,h1,h2⟩:=av.get (i:=i) (v:=v) t (by simpa using e)
  exact ⟨d,by simpa using h1,h2⟩
theorem av.get' {H:Hp}:∀ {vs:List V} {ds:List D} {i:Nat} {d:D},av H vs ds→ds[i]?=some d→∃ v,vs[i]?=some v∧Rep H v d
 | _,_,_,_,.nil,e=>by simp at e
 | _,_,0,_,.cons r _,e=>by simp at e;subst e;exact ⟨_,rfl,r⟩
 | _,_,i+1,v,.cons _ t,e=>by
  obtain ⟨d,h1,h2⟩:=av.get' (i:=i) (d:=v) t (by simpa using e)
  exact ⟨d,by simpa using h1,h2⟩
theorem av.append {H:Hp}:∀ {vs us:List V} {ds es:List D},av H vs ds→av H us es→av H (vs++us) (ds++es)
 | _,_,_,_,.nil,s=>s
 | _,_,_,_,.cons r t,s=>.cons r (av.append t s)
theorem av.take {H:Hp}:∀ {vs:List V} {ds:List D} (n:Nat),av H vs ds→av H (vs.take n) (ds.take n)
 | _,_,0,_=>.nil
 | _,_,_+1,.nil=>.nil
 | _,_,n+1,.cons r t=>.cons r (av.take n t)
theorem av.drop {H:Hp}:∀ {vs:List V} {ds:List D} (n:Nat),av H vs ds→av H (vs.drop n) (ds.drop n)
 | _,_,0,r=>r
 | _,_,_+1,.nil=>.nil
 | _,_,n+1,.cons _ t=>av.drop n t
theorem av.reverse {H:Hp}:∀ {vs:List V} {ds:List D},av H vs ds→av H vs.reverse ds.reverse
 | _,_,.nil=>.nil
 | _,_,.cons r t=>by rw [List.reverse_cons,List.reverse_cons];exact (av.reverse t).append (.cons r .nil)
mutual
theorem Rep.mono {H H':Hp} (e:di H H'):∀ {v:V} {d:D},Rep H v d→Rep H' v d
 | _,_,.non=>.non
 | _,_,.bl b=>.bl b
 | _,_,.int i=>.int i
 | _,_,.str x=>.str x
 | _,_,.tup h r=>.tup (e _ _ h) (av.mono e r)
 | _,_,.lst h r=>.lst (e _ _ h) (av.mono e r)
theorem av.mono {H H':Hp} (e:di H H'):∀ {vs:List V} {ds:List D},av H vs ds→av H' vs ds
 | _,_,.nil=>.nil
 | _,_,.cons r t=>.cons (Rep.mono e r) (av.mono e t)
end
mutual
theorem Rep.inj {H:Hp}:∀ {v:V} {d e:D},Rep H v d→Rep H v e→d=e
 | _,_,_,.non,.non=>rfl
 | _,_,_,.bl _,.bl _=>rfl
 | _,_,_,.int _,.int _=>rfl
 | _,_,_,.str _,.str _=>rfl
 | _,_,_,.tup h r,.tup h' r'=>by rw [h] at h';cases h';rw [av.inj r r']
 | _,_,_,.tup h r,.lst h' r'=>by rw [h] at h';cases h'
 | _,_,_,.lst h r,.tup h' r'=>by rw [h] at h';cases h'
 | _,_,_,.lst h r,.lst h' r'=>by rw [h] at h';cases h';rw [av.inj r r']
theorem av.inj {H:Hp}:∀ {vs:List V} {ds es:List D},av H vs ds→av H vs es→ds=es
 | _,_,_,.nil,.nil=>rfl
 | _,_,_,.cons r t,.cons r' t'=>by rw [Rep.inj r r',av.inj t t']
end
theorem av.ints {H:Hp}:∀ (ns:List Int),av H (ns.map V.int) (ns.map D.int)
 | []=>.nil
 | n :: ns=>.cons (.int n) (av.ints ns)
theorem av.kI {H:Hp}:∀ {vs:List V} {ns:List Int},av H vs (ns.map D.int)→vs=ns.map V.int
 | [],[],.nil=>rfl
 | v :: vs,n :: ns,.cons r t=>by
  cases r
  rw [List.map_cons,av.kI t]
theorem D.bV:∀ (ds es:List D),D.bC ds es=((List.range (min ds.length es.length)).all (fun j=>D.eqv (ds.getD j .non) (es.getD j .non)) && ds.length == es.length)
 | [],[]=>rfl
 | [],e :: es=>by simp [D.bC]
 | d :: ds,[]=>by simp [D.bC]
 | d :: ds,e :: es=>by
  have ih:=D.bV ds es
  have q:min (d :: ds).length (e :: es).length=min ds.length es.length+1:=by simp only [List.length_cons];omega
  rw [q,List.range_succ_eq_map,List.all_cons,List.all_map]
  have z:((d :: ds).length == (e :: es).length)=(ds.length == es.length):=by
   rw [Bool.eq_iff_iff];simp
  rw [z,D.bC,ih,Bool.and_assoc]
  rfl
theorem D.fW:∀ {ds:List D} {i:Nat} {d:D},ds[i]?=some d→D.depth d≤D.b9 ds
 | [],_,_,e=>by simp at e
 | x :: xs,0,d,e=>by
  simp at e;subst e
  exact Nat.le_max_left _ _
 | x :: xs,i+1,d,e=>Nat.le_trans (D.fW (ds:=xs) (i:=i) (by simpa using e)) (Nat.le_max_right _ _)
section
variable {X:Cx}
theorem uh {pins:List (Addr×Obj)} {σ:St} {H:Hp} {s:Shared} (I:Inv X pins σ H s):∀ (n:Nat) (A:Around) (x y:V) (u v:Value) (d e:D),A.units+n < cLine→D.depth d≤n→RelV x u→RelV y v→Rep H x d→Rep H y e →
  SeqAt.EqAt A s u v (D.eqv d e):=by
 intro n
 induction n with
 | zero=>
  intro A x y u v d e hu hd ru rv rx ry
  have hu':A.units < cLine:=by omega
  cases rx with
  | tup h r=>simp [D.depth] at hd
  | lst h r=>simp [D.depth] at hd
  | non=>
   cases ry with
   | tup h r=>
    cases ru;cases rv
    obtain ⟨its,rv,p,hz⟩:=I.tuple (SqT.of h)
    exact SeqAt.EqAt.none_tuple p hu'
   | lst h r=>
    cases ru;cases rv
    obtain ⟨its,rv,p,hz⟩:=I.list (SqL.of h)
    exact SeqAt.EqAt.none_list p.isList hu'
   | _=>simp only [D.eqv];exact j_ ru rv rfl rfl
  | bl a=>
   cases ry with
   | tup h r=>
    cases ru;cases rv
    obtain ⟨its,rv,p,hz⟩:=I.tuple (SqT.of h)
    exact SeqAt.EqAt.bool_tuple a p hu'
   | lst h r=>
    cases ru;cases rv
    obtain ⟨its,rv,p,hz⟩:=I.list (SqL.of h)
    exact SeqAt.EqAt.bool_list a p.isList hu'
   | _=>simp only [D.eqv];exact j_ ru rv rfl rfl
  | int a=>
   cases ry with
   | tup h r=>
    obtain ⟨t,rfl⟩:=ru;cases rv
    obtain ⟨its,rv,p,hz⟩:=I.tuple (SqT.of h)
    exact SeqAt.EqAt.int_tuple a t p hu'
   | lst h r=>
    obtain ⟨t,rfl⟩:=ru;cases rv
    obtain ⟨its,rv,p,hz⟩:=I.list (SqL.of h)
    exact SeqAt.EqAt.int_list a t p.isList hu'
   | _=>simp only [D.eqv];exact j_ ru rv rfl rfl
  | str a=>
   cases ry with
   | tup h r=>
    obtain ⟨t,rfl⟩:=ru;cases rv
    obtain ⟨its,rv,p,hz⟩:=I.tuple (SqT.of h)
    exact SeqAt.EqAt.str_tuple a t p hu'
   | lst h r=>
    obtain ⟨t,rfl⟩:=ru;cases rv
    obtain ⟨its,rv,p,hz⟩:=I.list (SqL.of h)
    exact SeqAt.EqAt.str_list a t p.isList hu'
   | _=>simp only [D.eqv];exact j_ ru rv rfl rfl
 | succ n ih=>
  intro A x y u v d e hu hd ru rv rx ry
  have hu':A.units < cLine:=by omega
  have items:∀ {vs us:List V} {ds es:List D} {its its2:List Value},D.b9 ds≤n→Vals vs its→Vals us its2→av H vs ds→av H us es →
    ∀ j (h1:j < its.toArray.size) (h2:j < its2.toArray.size),SeqAt.EqAt A.in1 s its.toArray[j] its2.toArray[j] (D.eqv (ds.getD j .non) (es.getD j .non)):=by
   intro vs us ds es its its2 hdd r1 r2 q1 q2 j h1 h2
   have h1':j < its.length:=by simpa using h1
   have h2':j < its2.length:=by simpa using h2
   have l1:=r1.length
   have l2:=r2.length
   have m1:=q1.length
   have m2:=q2.length
   have e1:vs[j]?=some (vs[j]'(by omega)):=List.getElem?_eq_getElem _
   have e2:us[j]?=some (us[j]'(by omega)):=List.getElem?_eq_getElem _
   obtain ⟨a1,b1,c1⟩:=r1.get e1
   obtain ⟨a2,b2,c2⟩:=r2.get e2
   obtain ⟨f1,g1,k1⟩:=q1.get e1
   obtain ⟨f2,g2,k2⟩:=q2.get e2
   have z1:its.toArray[j]=a1:=by
    have:its[j]?=some its[j]:=List.getElem?_eq_getElem h1'
    rw [b1] at this
    simpa using (Option.some.inj this).symm
   have z2:its2.toArray[j]=a2:=by
    have:its2[j]?=some its2[j]:=List.getElem?_eq_getElem h2'
    rw [b2] at this
    simpa using (Option.some.inj this).symm
   rw [z1,z2,List.getD_eq_getElem?_getD,List.getD_eq_getElem?_getD,g1,g2]
   refine ih A.in1 _ _ _ _ _ _ ?_ (Nat.le_trans (D.fW g1) hdd) c1 c2 k1 k2
   show A.units+1+n < cLine
   omega
  cases rx with
  | @tup a vs ds h r=>
   obtain ⟨its,rv1,p,hz⟩:=I.tuple (SqT.of h)
   cases ry with
   | @tup b us es h' r'=>
    cases ru;cases rv
    obtain ⟨its2,rv2,p2,hz2⟩:=I.tuple (SqT.of h')
    by_cases hab:a=b
    ·subst hab
     rw [h] at h';cases h'
     rw [av.inj r' r,D.eqv_refl]
     exact SeqAt.EqAt.same _
    ·have hdd:D.b9 ds≤n:=by simp only [D.depth] at hd;omega
     have q:=SeqAt.EqAt.of_refs hab (SeqAt.RcAt.tuples (e:=fun j=>D.eqv (ds.getD j .non) (es.getD j .non)) p p2 hu' (items hdd rv1 rv2 r r'))
     rw [List.size_toArray,List.size_toArray,← rv1.length,← rv2.length,r.length,r'.length,← D.bV] at q
     simp only [D.eqv]
     exact q
   | @lst b us es h' r'=>
    cases ru;cases rv
    obtain ⟨its2,rv2,p2,hz2⟩:=I.list (SqL.of h')
    simp only [D.eqv]
    exact SeqAt.EqAt.tuple_list p p2.isList hu'
   | non=>cases ru;cases rv;simp only [D.eqv];exact SeqAt.EqAt.tuple_none p hu'
   | bl c=>cases ru;cases rv;simp only [D.eqv];exact SeqAt.EqAt.tuple_bool c p hu'
   | int c=>cases ru;obtain ⟨t,rfl⟩:=rv;simp only [D.eqv];exact SeqAt.EqAt.tuple_int c t p hu'
   | str c=>cases ru;obtain ⟨t,rfl⟩:=rv;simp only [D.eqv];exact SeqAt.EqAt.tuple_str c t p hu'
  | @lst a vs ds h r=>
   obtain ⟨its,rv1,p,hz⟩:=I.list (SqL.of h)
   cases ry with
   | @lst b us es h' r'=>
    cases ru;cases rv
    obtain ⟨its2,rv2,p2,hz2⟩:=I.list (SqL.of h')
    by_cases hab:a=b
    ·subst hab
     rw [h] at h';cases h'
     rw [av.inj r' r,D.eqv_refl]
     exact SeqAt.EqAt.same _
    ·have hdd:D.b9 ds≤n:=by simp only [D.depth] at hd;omega
     have l1:=rv1.length
     have l2:=rv2.length
     have m1:=r.length
     have m2:=r'.length
     by_cases hl:ds.length=es.length
     ·have q:=SeqAt.EqAt.of_refs hab (SeqAt.RcAt.lists (e:=fun j=>D.eqv (ds.getD j .non) (es.getD j .non)) p.isList p2.isList (by simp;omega) hu' (items hdd rv1 rv2 r r'))
      have z:D.bC ds es=(List.range its.toArray.size).all fun j=>D.eqv (ds.getD j .non) (es.getD j .non):=by
       rw [D.bV,← hl,Nat.min_self,List.size_toArray,← l1,m1]
       simp
      simp only [D.eqv]
      rw [z]
      exact q
     ·have q:=SeqAt.EqAt.of_refs hab (SeqAt.RcAt.lists_lengths p.isList p2.isList (by simp;omega) hu')
      have z:D.bC ds es=false:=by
       rw [D.bV]
       simp [hl]
      simp only [D.eqv]
      rw [z]
      exact q
   | @tup b us es h' r'=>
    cases ru;cases rv
    obtain ⟨its2,rv2,p2,hz2⟩:=I.tuple (SqT.of h')
    simp only [D.eqv]
    exact SeqAt.EqAt.list_tuple p.isList p2 hu'
   | non=>cases ru;cases rv;simp only [D.eqv];exact SeqAt.EqAt.list_none p.isList hu'
   | bl c=>cases ru;cases rv;simp only [D.eqv];exact SeqAt.EqAt.list_bool c p.isList hu'
   | int c=>cases ru;obtain ⟨t,rfl⟩:=rv;simp only [D.eqv];exact SeqAt.EqAt.list_int c t p.isList hu'
   | str c=>cases ru;obtain ⟨t,rfl⟩:=rv;simp only [D.eqv];exact SeqAt.EqAt.list_str c t p.isList hu'
  | non=>exact SeqAt.EqAt.of_in1 (ih A.in1 _ y u v _ e (by show A.units+1+n < cLine;omega) (by simp [D.depth]) ru rv .non ry)
  | bl c=>exact SeqAt.EqAt.of_in1 (ih A.in1 _ y u v _ e (by show A.units+1+n < cLine;omega) (by simp [D.depth]) ru rv (.bl c) ry)
  | int c=>exact SeqAt.EqAt.of_in1 (ih A.in1 _ y u v _ e (by show A.units+1+n < cLine;omega) (by simp [D.depth]) ru rv (.int c) ry)
  | str c=>exact SeqAt.EqAt.of_in1 (ih A.in1 _ y u v _ e (by show A.units+1+n < cLine;omega) (by simp [D.depth]) ru rv (.str c) ry)
end
section
variable {X:Cx}
def wk:R2:=fun x y H Q=>∃ a b,x=.bl a∧y=.bl b∧Q (.bl (a == b)) H
theorem wH:OpR X (compareOp .Is) wk:=by
 intro pins s σ H x y v u Q I rx ry h
 obtain ⟨a,b,rfl,rfl,q⟩:=h
 cases rx;cases ry
 exact is_bool ⟨.bl _,H,I,rfl,q⟩
def isT (T:String):D→Bool
 | .non=>false
 | .bl _=>T == "bool" || T == "int"
 | .int _=>T == "int"
 | .str _=>T == "str"
 | .tup _=>T == "tuple"
 | .lst _=>T == "list"
def okT (T:String):Bool:=T == "bool" || T == "int" || T == "str" || T == "tuple" || T == "list"
theorem CV {K:PySem.W.Frag} {H:Hp} {x:V} {d:D} {T:String} (r:Rep H x d) (h:okT T=true):∃ t,eS K H x t∧PySem.W.kitOne K t (.type T)=some (isT T d):=by
  have h5:T="bool"∨T="int"∨T="str"∨T="tuple"∨T="list":=by simpa [okT,or_assoc] using h
  cases r with
  | non=>exact ⟨_,.non,by rcases h5 with e | e | e | e | e<;>subst e<;>first | rfl | kernel_rfl⟩
  | bl b=>exact ⟨_,.bl b,by rcases h5 with e | e | e | e | e<;>subst e<;>first | rfl | kernel_rfl⟩
  | int i=>exact ⟨_,.int i,by rcases h5 with e | e | e | e | e<;>subst e<;>first | rfl | kernel_rfl⟩
  | str x=>exact ⟨_,.str x,by rcases h5 with e | e | e | e | e<;>subst e<;>first | rfl | kernel_rfl⟩
  | tup h r=>exact ⟨_,.tup h,by rcases h5 with e | e | e | e | e<;>subst e<;>first | rfl | kernel_rfl⟩
  | lst h r=>exact ⟨_,.lst h,by rcases h5 with e | e | e | e | e<;>subst e<;>first | rfl | kernel_rfl⟩
def Ex (T:String) (te:TE):TE:=fun σ H Q=>te σ H fun x H1=>∃ d,Rep H1 x d∧Q (.bl (isT T d)) H1
theorem vm {e:Expr} {te:TE} {nm:Str} {T:String} {p p2 pos:Pos} (hg:Gl X "isinstance") (hm:X.mg "isinstance"=none) (hg2:Gl X nm) (hm2:X.mg nm=none) (hv:bootBuiltins nm=some (.type T)) (ho:okT T=true) (ha:PE X e te)
  (hn:nm≠"__name__":=by decide) (hd:(nm == ("__debug__":Str))=false:=by decide) (hb:bootBuiltins "isinstance"=some (.builtin "isinstance"):=by decide +kernel)
  (he:starEach [e,.Name nm p2] X.env=(false,eval e X.env) :: starEach [.Name nm p2] X.env:=by rfl) (hs2:starEach [.Name nm p2] X.env=(false,eval (.Name nm p2) X.env) :: starEach [] X.env:=by rfl) (hpl:(backTo pos (starEach [.Name nm p2] X.env)).any (·.1)=false:=by rfl) :
  PE X (.Call (.Name "isinstance" p) [e,.Name nm p2] [] pos) (Ex T te):=by
 intro pins s σ H Q I h
 have hT:PE X (.Name nm p2) (tC (.ty T)):=yA hg2 hm2 hv rfl hn hd
 refine wpAny_Call_Name_kw (cH I hg hm hb ?_ (by decide) (by decide))
 refine PyProof.Rows.callWith_builtin1 (thn ((d6 ha (d6 hT gS hs2) he) pos pins s σ H (fun vs H1=>∃ x d,vs=[x,.ty T]∧Rep H1 x d∧Q (.bl (isT T d)) H1) I ?_) fun us s1 ⟨vs,H1,I1,r1,q1⟩=>?_) he hpl
 ·refine (show te σ H fun x H1=>_ from ?_)
  refine cast (congrArg (te σ H) ?_) h
  funext x H1
  refine propext ⟨fun ⟨d,r,q⟩=>⟨x,d,rfl,r,q⟩,fun ⟨x',d,e,r,q⟩=>?_⟩
  cases e
  exact ⟨d,r,q⟩
 ·obtain ⟨x,d,e,r,q⟩:=q1
  subst e
  obtain ⟨u,w',rfl,ru,rw'⟩:=r1.two
  obtain ⟨t,ty,k⟩:=CV (K:=X.K) r ho
  cases (show w'=Value.type T from rw')
  exact u2 I1 ru ty k fun tk=>⟨.bl _,H1,I1.tok tk,rfl,q⟩
end
section
variable {X:Cx} {pins:List (Addr×Obj)} {σ:St} {H:Hp} {s:Shared} {h':Heap} {fp:List Addr}
theorem Inv.wY {a:Addr} {o:HO} {t':Nat} (I:Inv X pins σ H s) (ha:s.heap.objs.size≤a) (hk:∀ b u,b∉fp→s.heap.get? b=some u→h'.get? b=some u) (hf:∀ b∈fp,ef X pins H b) (new:bA X.prog X.w (upd H a o) h' a o) :
  Inv X pins σ (upd H a o) { s with heap:=h',toks:=t' }:=by
 have hn:H a=none:=I.hok.fresh ha
 have nfp:∀ b u,H b=some u→b∉fp:=fun b u e z=>by
  have q:=(hf b z).1
  rw [e] at q
  cases q
 have hne:∀ b (u:Obj),s.heap.get? b=some u→b≠a:=fun b u e=>Nat.ne_of_lt (Nat.lt_of_lt_of_le (Heap.lt_size e) ha)
 refine I.step (g':=s.gens) (d':=s.drawn) (ch:=fp) (fun b hb=>?_) (fun b u _ _ hc e _=>hk b u hc e) (fun b u _ _ hc e _=>⟨u.slots,hk b u hc e⟩) (fun b u _ e n=>?_)
  (fun b u hc e=>⟨u,hk b u hc e⟩) (fun b xs e=>?_) (fun b u xs e=>?_) (fun b ps e=>⟨#[],?_⟩) (fun m hm=>?_) (fun b u e=>?_) I.bare
 ·obtain ⟨f0,f1,f2,f3,f4,f5⟩:=hf b hb
  exact ⟨f3,f1,f4,f5⟩
 ·rw [aN (hne b u e)];exact n
 ·rw [aN (a9 e hn)];exact e
 ·rw [aN (a9 e hn)];exact e
 ·rw [aN (a9 e hn),e];simp
 ·obtain ⟨u,es,ep,ho,r⟩:=hm
  exact ⟨u,es,ep,hk _ u (fun z=>(hf _ z).2.1 rfl) ho,r⟩
 ·by_cases hb:b=a
  ·subst hb;rw [cj] at e;cases e;exact new
  ·rw [aN hb] at e
   refine (I.hok b u e).mV (fun c v hc q=>hk c v ?_ q) (fun c q=>by rw [aN (a9 q hn)];exact q) fun c xs q=>by rw [aN (a9 q hn)];exact q
   rcases hc with z | z
   ·rw [z];exact nfp b u e
   ·exact nfp c _ z
end
def Ite (K:PySem.W.Frag) (l:Addr):It:=
 ⟨fun i H=>∃ xs x,SqL K H l xs∧xs[i]?=some x,fun i H x H'=>∃ p y,H p=none∧x=.ref p∧H'=upd H p (.tup [.int i,y])∧∀ xs,SqL K H l xs→xs[i]?=some y,fun i H=>∃ xs,SqL K H l xs∧xs.length≤i⟩
theorem uK {P:Program} {w:World} {K:PySem.W.Frag} {es:List Expr} {kk:Nat} {tp:Pos} (l e it:Addr) (hne:e≠it) :
  Turn P w K (.Tuple es kk tp) (Ite K l) [e,it] e (fun i h=>(∃ old,IsEnum h e it ((i:Nat):Int) old)∧h.IsListIter it l i) where
 mem:=by simp
 obj:=fun i h st b hb=>by
  obtain ⟨⟨old,he⟩,hit⟩:=st
  rcases List.mem_cons.mp hb with z | z
  ·subst z;exact ⟨_,he,fun v z=>by
    have z':Data.fields _=Data.cell v:=z
    cases z'⟩
  ·have z:b=it:=List.mem_singleton.mp z
   subst z
   obtain ⟨o,q,_,d⟩:=hit
   exact ⟨o,q,fun v z=>by rw [d] at z;cases z⟩
 keep:=fun i h h' st k=>by
  obtain ⟨⟨old,he⟩,hit⟩:=st
  exact ⟨⟨old,k e (by simp) _ he⟩,hit.at fun o q=>k it (by simp) o q⟩
 item:=by
  intro X hP hw hK hc i pins s σ H E I hf st hg
  subst hP hw hK
  obtain ⟨⟨old,he⟩,hit⟩:=st
  obtain ⟨xs,x,hq,hx⟩:=hg
  obtain ⟨its,rv,p,hz⟩:=I.list hq
  obtain ⟨u,hu,ru⟩:=rv.get hx
  refine wpAny_pyNext_enum_item he hit p.isList (x:=u) (by simpa using hu) hne fun h1 ho1 hit1 ht1 hz1 hk1=>?_
  refine ⟨_,rfl,wpAny_letOwnedTupleGo_enum (s:={ s with heap:=h1,toks:=s.toks+1 }) ho1 fun h2 he2 hs2=>?_⟩
  have helt:e < s.heap.objs.size:=Heap.lt_size he
  have ht2:h2.get? s.heap.objs.size=some { cls:=.type "tuple",data:=.seq #[.int i s.toks,u] }:=hs2.extBut _ _ (Nat.ne_of_gt helt) ht1
  have k2:∀ b o,b∉[e,it]→s.heap.get? b=some o→h2.get? b=some o:=fun b o hb q=>by
   have hb1:b≠e:=fun z=>hb (by simp [z])
   have hb2:b≠it:=fun z=>hb (by simp [z])
   exact hs2.extBut b o hb1 (hk1 b o hb1 hb2 q)
  have I2:Inv X pins σ (upd H s.heap.objs.size (.tup [.int i,x])) { s with heap:=h2,toks:=s.toks+1 }:=by
   refine I.wY (fp:=[e,it]) (Nat.le_refl _) k2 hf ?_
   exact ⟨by show 2≤sizeLine;decide,[.int i s.toks,u],.cons ⟨_,rfl⟩ (.cons ru .nil),⟨_,ht2,rfl,_,rfl⟩⟩
  refine ⟨.ref s.heap.objs.size,_,I2,rfl,⟨s.heap.objs.size,x,I.hok.fresh (Nat.le_refl _),rfl,rfl,fun ys hy=>by rw [I.pQ hy hq];exact hx⟩,⟨⟨_,by simpa using he2⟩,?_⟩,fun b hb=>?_⟩
  ·exact hit1.extBut hs2.extBut (Ne.symm hne)
  ·have hlt:b < s.heap.objs.size:=by
    rcases List.mem_cons.mp hb with z | z
    ·rw [z];exact helt
    ·have z:b=it:=List.mem_singleton.mp z
     subst z
     obtain ⟨o,q,_⟩:=hit
     exact Heap.lt_size q
   rw [aN (Nat.ne_of_lt hlt)]
   exact (hf b hb).1
 done:=by
  intro X hP hw hK hc i pins s σ H E I hf st hg
  subst hP hw hK
  obtain ⟨⟨old,he⟩,hit⟩:=st
  obtain ⟨xs,hq,hx⟩:=hg
  obtain ⟨its,rv,p,hz⟩:=I.list hq
  have hl:=rv.length
  obtain ⟨f0,f1,f2,f3,f4,f5⟩:=hf it (by simp)
  exact wpAny_pyNext_enum_end (I.ok.hd hc) he hit p.isList (by simp;omega) fun h' eb=>⟨rfl,I.turned (t':=s.toks) (fun b o hb e=>eb b o hb e) f0 f1 f3 f4 f5⟩
 self:=fun _ _ _ _ _ st h=>by
  obtain ⟨⟨old,he⟩,_⟩:=st
  exact wpAny_pyIter_enum he h
section
variable {X:Cx}
end
section
variable {prog:Program} {w:World} {A:Around} {E:Value→Shared→Prop} {s:Shared}
end
structure EX (z TI TO i1 i2:Addr) (fp1 fp2:List Addr):Prop where
 TIz:TI≠z
 TOz:TO≠z
 TITO:TI≠TO
 z1:z∉fp1
 z2:z∉fp2
 TO1:TO∉fp1
 TO2:TO∉fp2
 i12:i1∉fp2
 i21:i2∉fp1
 m1:i1∈fp1
 m2:i2∈fp2
 TI1:TI≠i1
 TI2:TI≠i2
section
variable {prog:Program} {w:World} {A:Around} {E:Value→Shared→Prop} {s:Shared} {z TI TO i1 i2:Addr} {fp1 fp2:List Addr} {n1 n2 k:Nat} {P1 P2:Nat→Value→Prop} {S1 S2:Nat→Heap→Prop} {a b:Value}
end
section
variable {prog:Program} {w:World} {A:Around} {E:Value→Shared→Prop} {s:Shared} {z TI TO i1 i2:Addr} {fp1 fp2:List Addr} {n1 n2 k:Nat} {P1 P2:Nat→Value→Prop} {S1 S2:Nat→Heap→Prop} {a b:Value}
end
section
variable {X:Cx}
end
section
variable {prog:Program} {w:World} {A:Around} {E:Value→Shared→Prop} {s:Shared}
theorem w6 {t sl:Addr} {items:Array Value} {vl vu:Value} {lo hi:Option Int} {Q:Value→Shared→Prop} (ht:IsTup s.heap t items) (hs:s.heap.IsSliceOf sl vl vu .none) (pl:IsPart vl lo) (pu:IsPart vu hi)
    (hw:HT.sIx items.size 0 lo=0∧HT.sIx items.size items.size hi=items.size) (h:Q (.ref t) s):wpAny (model prog w) A (getItem (.ref t) (.ref sl)) Q E s:=by
  obtain ⟨os,hos,hcs,hds⟩:=id hs
  have hTs:s.TypeIs (.ref sl) "slice":=⟨os,hos,hcs⟩
  unfold getItem
  try with_reducible refine wpAny_holding ?_
  first | refine wpAny_bind (wpAny_pure ?_) | skip
  refine wpAny_bind (wpAny_sequenceKey ht.typeIs (by decide) ?_)
  refine wpAny_bind (wpAny_callSpecial?_slot (name:=Str.ofString "__getitem__") ht.typeIs PyProof.Rows.slot_tuple_getitem (wpAny_call_entry PyProof.Rows.slot_tuple_getitem ht.typeIs entry_tuple_getitem ?_ (args_tuple_getitem _ _)))
  refine (show wpAny _ _ (Builtin.Tuple.tupleItemsOf (.ref t)>>=_) _ _ s from wpAny_bind (tupleItemsOf_ ht (wpAny_bind (wpAny_typeOf hTs ?_))))
  rw [if_pos (by decide)]
  refine wpAny_bind (HT.gJ hs pl pu ?_)
  have yes:(((HT.sIx items.size 0 lo:Nat):Int) == 0 && (1:Int) == 1 && (HT.sIx items.size items.size hi - HT.sIx items.size 0 lo) == items.size)=true:=by
    rw [hw.1,hw.2];simp
  show wpAny _ _ (if (((HT.sIx items.size 0 lo:Nat):Int) == 0 && (1:Int) == 1 && (HT.sIx items.size items.size hi - HT.sIx items.size 0 lo) == items.size)=true then _ else _) _ _ s
  rw [if_pos yes]
  obtain ⟨o,ho,hcl,n,hd⟩:=id ht
  have hT:s.TypeIs (.ref t) "tuple":=⟨o,ho,hcl⟩
  have hx:wpAny (model prog w) A.in1 (Builtin.Tuple.tupleIsExact (.ref t)) (fun b s'=>b=true∧s'=s) E s:=by
    unfold Builtin.Tuple.tupleIsExact
    first
      | exact wpAny_bind (wpAny_typeOf hT (wpAny_pure ⟨by decide,rfl⟩))
      | (refine wpAny_bind (wpAny_typeOf hT ?_);exact wpAny_pure ⟨by simp,rfl⟩)
  refine wpAny_bind (wpAny_mono hx (fun b s' hb=>?_) fun _ _ x=>x)
  obtain ⟨rfl,rfl⟩:=hb
  rw [if_pos rfl]
  exact wpAny_bind (wpAny_rule (wpAny_pure ⟨_,rfl,wpAny_pure h⟩))
theorem sL {sl:Addr} {tk:Tok} {n:Nat} {Q:Int×Int×Nat→Shared→Prop} (hs:s.heap.IsSliceOf sl .none .none (.int (-1) tk)) (h:Q ((n:Int) - 1,-1,n) s):wpAny (model prog w) A (Builtin.Slice.sliceApplied (.ref sl) (pure (n:Int))) Q E s:=by
 obtain ⟨os,hos,hcs,hds⟩:=id hs
 unfold Builtin.Slice.sliceApplied Builtin.Slice.sliceFields
 refine wpAny_bind (wpAny_bind (wpAny_field hos hds (x:=.none) rfl (wpAny_bind (wpAny_field hos hds (x:=.none) rfl (wpAny_bind (wpAny_field hos hds (x:=.int (-1) tk) rfl (wpAny_pure ?_)))))))
 refine wpAny_bind (slicePart_int ?_)
 show wpAny _ _ (if ((-1:Int) == 0)=true then _ else _) _ _ s
 rw [if_neg (by decide)]
 refine wpAny_bind (slicePart_none (wpAny_bind (slicePart_none (wpAny_bind (wpAny_pure ?_)))))
 show wpAny _ _ (pure ((n:Int) - 1,(-1:Int),Builtin.Slice.slicePlaces ((n:Int) - 1) (-1) (-1))) _ _ s
 have e:Builtin.Slice.slicePlaces ((n:Int) - 1) (-1) (-1)=n:=by
  unfold Builtin.Slice.slicePlaces
  have h1:¬((-1:Int) > 0):=by decide
  simp only [h1,if_false]
  have h2:(-(-1:Int))=1:=by decide
  rw [h2,Int.ediv_one]
  split<;>omega
 rw [e]
 exact wpAny_pure h
theorem yt (xs:List Value):((List.range xs.length).filterMap fun (m:Nat)=>xs.toArray[(((xs.length:Nat):Int) - 1+(m:Int) * (-1)).toNat]?)=xs.reverse:=by
 apply List.ext_getElem?
 intro i
 have key:∀ (k:Nat),k≤xs.length→((List.range k).filterMap fun (m:Nat)=>xs.toArray[(((xs.length:Nat):Int) - 1+(m:Int) * (-1)).toNat]?)=xs.reverse.take k:=by
  intro k
  induction k with
  | zero=>intro _;simp
  | succ k ih=>
   intro hk
   have e:(((xs.length:Nat):Int) - 1+(k:Int) * (-1)).toNat=xs.length - 1 - k:=by omega
   rw [List.range_succ,List.filterMap_append,ih (by omega),List.take_add_one]
   congr 1
   simp only [List.filterMap_cons,List.filterMap_nil,e]
   rw [List.getElem?_reverse (by omega)]
   have h2:xs.length - 1 - k < xs.length:=by omega
   simp [h2]
 rw [key xs.length (Nat.le_refl _),List.take_of_length_le (by simp)]
theorem vZ {t sl:Addr} {its:List Value} {tk:Tok} {Q:Value→Shared→Prop} (ht:IsTup s.heap t its.toArray) (hs:s.heap.IsSliceOf sl .none .none (.int (-1) tk)) (hsz:its.length≤sizeLine)
    (h:Q (.ref s.heap.objs.size) { s with heap:=s.heap.push { cls:=.type "tuple",data:=.seq its.reverse.toArray } }):wpAny (model prog w) A (getItem (.ref t) (.ref sl)) Q E s:=by
  obtain ⟨os,hos,hcs,hds⟩:=id hs
  have hTs:s.TypeIs (.ref sl) "slice":=⟨os,hos,hcs⟩
  unfold getItem
  try with_reducible refine wpAny_holding ?_
  first | refine wpAny_bind (wpAny_pure ?_) | skip
  refine wpAny_bind (wpAny_sequenceKey ht.typeIs (by decide) ?_)
  refine wpAny_bind (wpAny_callSpecial?_slot (name:=Str.ofString "__getitem__") ht.typeIs PyProof.Rows.slot_tuple_getitem (wpAny_call_entry PyProof.Rows.slot_tuple_getitem ht.typeIs entry_tuple_getitem ?_ (args_tuple_getitem _ _)))
  refine (show wpAny _ _ (Builtin.Tuple.tupleItemsOf (.ref t)>>=_) _ _ s from wpAny_bind (tupleItemsOf_ ht (wpAny_bind (wpAny_typeOf hTs ?_))))
  rw [if_pos (by decide)]
  refine wpAny_bind (sL hs ?_)
  have no:¬(((((its.toArray.size:Nat):Int) - 1 == 0) && ((-1:Int) == 1) && (its.toArray.size == its.toArray.size))=true):=by
    intro q
    rw [Bool.and_eq_true,Bool.and_eq_true] at q
    exact absurd q.1.2 (by decide)
  show wpAny _ _ (if ((((its.toArray.size:Nat):Int) - 1 == 0) && ((-1:Int) == 1) && (its.toArray.size == its.toArray.size))=true then _ else _) _ _ s
  rw [if_neg no]
  have z:its.toArray.size=its.length:=List.size_toArray ..
  rw [z]
  rw [yt]
  have htake:sizeOk (.seq its.reverse.toArray):=by
    show its.reverse.toArray.size≤sizeLine
    rw [List.size_toArray,List.length_reverse];exact hsz
  first
    | exact wpAny_bind (m:=Builtin.Tuple.tupleExact _) (wpAny_newObj_type (wpAny_pure ⟨_,rfl,wpAny_pure h⟩) htake)
    | exact wpAny_bind (m:=Builtin.Tuple.tupleExact _) (wpAny_newObj_type (wpAny_bind (wpAny_pure (wpAny_pure ⟨_,rfl,wpAny_pure h⟩))) htake)
    | exact wpAny_bind (wpAny_bind (m:=Builtin.Tuple.tupleExact _) (wpAny_newObj_type (wpAny_pure (wpAny_pure ⟨_,rfl,wpAny_pure h⟩)) htake))
    | exact wpAny_bind (wpAny_bind (m:=Builtin.Tuple.tupleExact _) (wpAny_newObj_type (wpAny_pure ⟨_,rfl,wpAny_pure h⟩) htake))
theorem zC {t b:Addr} {ws:List Value} {Q:Value→Shared→Prop} (ht:IsTup s.heap t ([]:List Value).toArray) (hb:IsTup s.heap b ws.toArray) (h:Q (.ref b) s):wpAny (model prog w) A (binaryOp .Add (.ref t) (.ref b)) Q E s:=by
 obtain ⟨⟨cls,dd,data,sl⟩,ho,hc,n,hd⟩:=id ht
 obtain ⟨⟨cls2,dd2,data2,sl2⟩,ho2,hc2,n2,hd2⟩:=id hb
 simp only at hc hd hc2 hd2
 subst hc hd hc2 hd2
 exact concat_meets ⟨_,ho,rfl⟩ ⟨_,ho2,rfl⟩ noFill_tuple_add seq_tuple_add PySem.F.slot_tuple_add PySem.F.entry_tuple_add (PySem.F.args_tuple_add_2 _ _) (tuple_addW0 t b _ _ n n2 dd dd2 sl sl2 (by simp)) ⟨ho,ho2,h⟩
end
section
variable {X:Cx}
def gQ (n:Nat) (lo hi:Option Int):Prop:=HT.sIx n 0 lo=0∧HT.sIx n n hi=n
instance (n:Nat) (lo hi:Option Int):Decidable (gQ n lo hi):=inferInstanceAs (Decidable (_∧_))
def C_ (K:PySem.W.Frag):V→Option Int→Option Int→Hp→VK→Prop:=fun x lo hi H Q=>∃ a xs,x=.ref a∧SqT K H a xs∧(gQ xs.length lo hi→Q (.ref a) H)∧(¬gQ xs.length lo hi→∀ p,H p=none→Q (.ref p) (upd H p (.tup (gf xs lo hi))))
theorem zt:SlR X (C_ X.K):=by
 intro pins s σ H x v vl vu lo hi sl Q I rx hs pl pu h
 obtain ⟨a,xs,rfl,hx,q1,q2⟩:=h
 by_cases hw:gQ xs.length lo hi
 ·cases rx
  obtain ⟨its,r,ht,hz⟩:=I.tuple hx
  have hlen:its.toArray.size=xs.length:=by rw [List.size_toArray];exact r.length.symm
  refine ⟨"tuple",_,PyProof.Rows.slot_tuple_getitem.lookup,ht.typeIs,?_⟩
  exact w6 ht hs pl pu (by rw [hlen];exact hw) ⟨.ref a,H,I,rfl,q1 hw⟩
 ·exact AM pins s σ H (.ref a) v vl vu lo hi sl Q I rx hs pl pu ⟨a,xs,rfl,hx,hw,q2 hw⟩
def Bl (K:PySem.W.Frag):R2:=fun x y H Q=>∃ a b xs ys,x=.ref a∧y=.ref b∧SqT K H a xs∧SqT K H b ys∧xs.length+ys.length≤sizeLine ∧
 (xs=[]→Q (.ref b) H)∧(xs≠[]→ys=[]→Q (.ref a) H)∧(xs≠[]→ys≠[]→∀ p,H p=none→Q (.ref p) (upd H p (.tup (xs++ys))))
theorem vU:OpR X (binaryOp .Add) (Bl X.K):=by
 intro pins s σ H x y v u Q I rx ry h
 obtain ⟨a,b,xs,ys,rfl,rfl,ha,hb,hz,q1,q2,q3⟩:=h
 by_cases hx:xs=[]
 ·cases rx
  cases ry
  obtain ⟨its,r1,p1,_⟩:=I.tuple ha
  obtain ⟨its2,r2,p2,_⟩:=I.tuple hb
  obtain rfl:its=[]:=r1.kK.mpr hx
  exact zC p1 p2 ⟨.ref b,H,I,rfl,q1 hx⟩
 ·exact yD pins s σ H (.ref a) (.ref b) v u Q I rx ry ⟨a,b,xs,ys,rfl,rfl,ha,hb,hx,hz,q2 hx,q3 hx⟩
def wN:R2:=fun x y H Q=>∃ d e,Rep H x d∧Rep H y e∧D.depth d≤50∧((∃ ds es,d=.tup ds∧e=.tup es)∨∃ ds es,d=.lst ds∧e=.lst es)∧Q (.bl (D.eqv d e)) H
def vz:R2:=fun x y H Q=>∃ d e,Rep H x d∧Rep H y e∧D.depth d≤50∧((∃ ds es,d=.tup ds∧e=.tup es)∨∃ ds es,d=.lst ds∧e=.lst es)∧Q (.bl (!D.eqv d e)) H
theorem i_ {pins:List (Addr×Obj)} {σ:St} {H:Hp} {s:Shared} {A:Around} {vs us:List V} {ds es:List D} {its its2:List Value} (I:Inv X pins σ H s) (hu:A.units+64 < cLine) (hd:D.b9 ds≤50) (r1:Vals vs its) (r2:Vals us its2) (q1:av H vs ds) (q2:av H us es) :
  ∀ j (h1:j < its.toArray.size) (h2:j < its2.toArray.size),SeqAt.EqAt A.in1 s its.toArray[j] its2.toArray[j] (D.eqv (ds.getD j .non) (es.getD j .non)):=by
 intro j h1 h2
 have h1':j < its.length:=by simpa using h1
 have h2':j < its2.length:=by simpa using h2
 have l1:=r1.length
 have l2:=r2.length
 have e1:vs[j]?=some (vs[j]'(by omega)):=List.getElem?_eq_getElem _
 have e2:us[j]?=some (us[j]'(by omega)):=List.getElem?_eq_getElem _
 obtain ⟨a1,b1,c1⟩:=r1.get e1
 obtain ⟨a2,b2,c2⟩:=r2.get e2
 obtain ⟨f1,g1,k1⟩:=q1.get e1
 obtain ⟨f2,g2,k2⟩:=q2.get e2
 have z1:its.toArray[j]=a1:=by
  have:its[j]?=some its[j]:=List.getElem?_eq_getElem h1'
  rw [b1] at this
  simpa using (Option.some.inj this).symm
 have z2:its2.toArray[j]=a2:=by
  have:its2[j]?=some its2[j]:=List.getElem?_eq_getElem h2'
  rw [b2] at this
  simpa using (Option.some.inj this).symm
 rw [z1,z2,List.getD_eq_getElem?_getD,List.getD_eq_getElem?_getD,g1,g2]
 exact uh I 60 A.in1 _ _ _ _ _ _ (by show A.units+1+60 < cLine;omega) (Nat.le_trans (D.fW g1) (by omega)) c1 c2 k1 k2
theorem BL (hu:X.A.units+64 < cLine):OpR X (compareOp .Eq) wN:=by
 intro pins s σ H x y v u Q I rx ry h
 obtain ⟨d,e,r1,r2,hd,hk,q⟩:=h
 rcases hk with ⟨ds,es,rfl,rfl⟩ | ⟨ds,es,rfl,rfl⟩
 ·cases r1 with
  | tup h1 q1=>
   cases r2 with
   | tup h2 q2=>
    cases rx;cases ry
    obtain ⟨its,rv1,p1,_⟩:=I.tuple (SqT.of h1)
    obtain ⟨its2,rv2,p2,_⟩:=I.tuple (SqT.of h2)
    refine SeqAt.eq_tupleAt (e:=fun j=>D.eqv (ds.getD j .non) (es.getD j .non)) p1 p2 (by omega) (i_ I hu (by simp only [D.depth] at hd;omega) rv1 rv2 q1 q2) ⟨.bl _,H,I,rfl,?_⟩
    rw [List.size_toArray,List.size_toArray,← rv1.length,← rv2.length,q1.length,q2.length,← D.bV]
    simpa only [D.eqv] using q
 ·cases r1 with
  | lst h1 q1=>
   cases r2 with
   | lst h2 q2=>
    cases rx;cases ry
    obtain ⟨its,rv1,p1,_⟩:=I.list (SqL.of h1)
    obtain ⟨its2,rv2,p2,_⟩:=I.list (SqL.of h2)
    have l1:=rv1.length
    have l2:=rv2.length
    have m1:=q1.length
    have m2:=q2.length
    by_cases hl:ds.length=es.length
    ·refine SeqAt.eq_listAt (e:=fun j=>D.eqv (ds.getD j .non) (es.getD j .non)) p1.isList p2.isList (by simp;omega) (by omega) (i_ I hu (by simp only [D.depth] at hd;omega) rv1 rv2 q1 q2) ⟨.bl _,H,I,rfl,?_⟩
     have z:D.bC ds es=(List.range its.toArray.size).all fun j=>D.eqv (ds.getD j .non) (es.getD j .non):=by
      rw [D.bV,← hl,Nat.min_self,List.size_toArray,← l1,m1];simp
     rw [← z]
     simpa only [D.eqv] using q
    ·refine SeqAt.eq_list_lengthsAt p1.isList p2.isList (by simp;omega) (by omega) ⟨.bl _,H,I,rfl,?_⟩
     have z:D.bC ds es=false:=by rw [D.bV];simp [hl]
     simpa only [D.eqv,z] using q
theorem AS (hu:X.A.units+64 < cLine):OpR X (compareOp .NotEq) vz:=by
 intro pins s σ H x y v u Q I rx ry h
 obtain ⟨d,e,r1,r2,hd,hk,q⟩:=h
 rcases hk with ⟨ds,es,rfl,rfl⟩ | ⟨ds,es,rfl,rfl⟩
 ·cases r1 with
  | tup h1 q1=>
   cases r2 with
   | tup h2 q2=>
    cases rx;cases ry
    obtain ⟨its,rv1,p1,_⟩:=I.tuple (SqT.of h1)
    obtain ⟨its2,rv2,p2,_⟩:=I.tuple (SqT.of h2)
    refine SeqAt.RcNeAt.tuples (e:=fun j=>D.eqv (ds.getD j .non) (es.getD j .non)) p1 p2 (by omega) (i_ I hu (by simp only [D.depth] at hd;omega) rv1 rv2 q1 q2) _ _ _ _ ⟨.bl _,H,I,rfl,?_⟩
    rw [List.size_toArray,List.size_toArray,← rv1.length,← rv2.length,q1.length,q2.length,← D.bV]
    simpa only [D.eqv] using q
 ·cases r1 with
  | lst h1 q1=>
   cases r2 with
   | lst h2 q2=>
    cases rx;cases ry
    obtain ⟨its,rv1,p1,_⟩:=I.list (SqL.of h1)
    obtain ⟨its2,rv2,p2,_⟩:=I.list (SqL.of h2)
    have l1:=rv1.length
    have l2:=rv2.length
    have m1:=q1.length
    have m2:=q2.length
    by_cases hl:ds.length=es.length
    ·refine SeqAt.RcNeAt.lists (e:=fun j=>D.eqv (ds.getD j .non) (es.getD j .non)) p1.isList p2.isList (by simp;omega) (by omega) (i_ I hu (by simp only [D.depth] at hd;omega) rv1 rv2 q1 q2) _ _ _ _ ⟨.bl _,H,I,rfl,?_⟩
     have z:D.bC ds es=(List.range its.toArray.size).all fun j=>D.eqv (ds.getD j .non) (es.getD j .non):=by
      rw [D.bV,← hl,Nat.min_self,List.size_toArray,← l1,m1];simp
     rw [← z]
     simpa only [D.eqv] using q
    ·refine SeqAt.RcNeAt.lists_lengths p1.isList p2.isList (by simp;omega) (by omega) _ _ _ _ ⟨.bl _,H,I,rfl,?_⟩
     have z:D.bC ds es=false:=by rw [D.bV];simp [hl]
     simpa only [D.eqv,z,Bool.not_false] using q
theorem BM (hu:X.A.units+64 < cLine):OpR X (compareOp .Eq) (fun x y H Q=>rEq x y H Q∨wN x y H Q):=Ds.or (BL hu)
theorem Bj (hu:X.A.units+64 < cLine):OpR X (compareOp .NotEq) (fun x y H Q=>rNe x y H Q∨vz x y H Q):=DG.or (AS hu)
theorem B9:OpR X (compareOp .Is) (fun x y H Q=>wk x y H Q∨(y=.non∧Q (.bl (decide (x=.non))) H)):=wH.or BF
theorem mQ:∀ {bs:List Bool} {us:List Value},Vals (bs.map V.bl) us→us=bs.map Value.bool
 | [],_,h=>by cases h;rfl
 | b :: bs,_,h=>by
  cases h with
  | cons r t=>cases r;rw [mQ t];rfl
theorem tS (hc:X.calm=true):bt X (.builtin "all") (fun xs H Q=>∃ (p:Addr) (bs:List Bool),xs=[.ref p]∧SqL X.K H p (bs.map V.bl)∧Q (.bl (bs.all id)) H):=by
 intro pins s σ H xs us Q I r h
 obtain ⟨p,bs,rfl,hq,q⟩:=h
 obtain ⟨u,rfl,rx⟩:=vals1 r
 cases rx
 obtain ⟨its,rv,pl,hz⟩:=I.list hq
 have hits:=mQ rv
 subst hits
 have hA:X.A.in1.handled=none:=I.ok.hd hc
 obtain ⟨o,ho,hcl,n,hd⟩:=pl.isList
 have hne:p≠s.heap.objs.size:=Nat.ne_of_lt (Heap.lt_size ho)
 refine call_all_walk (wpAny_pyIter_list pl.isList ?_)
 refine ⟨s.heap.objs.size,_,_,_,_,_,fun i=>bs.getD i true,rfl,Walks.list (prog:=X.prog) (w:=X.w) hA s.heap.objs.size p hne (bs.map Value.bool).toArray,⟨⟨_,Heap.get?_push_size _ rfl,rfl,rfl⟩,⟨o,Heap.get?_push_of_some _ ho,hcl,n,hd⟩⟩,?_,fun h' tk hk=>?_⟩
 ·intro i v s' Q' E' hP hQ
  have hP':(bs.map Value.bool).toArray[i]?=some v:=hP
  rw [List.getElem?_toArray,List.getElem?_map] at hP'
  cases e:bs[i]? with
  | none=>rw [e] at hP';cases hP'
  | some b=>
   rw [e] at hP'
   cases hP'
   have hQ:Q' (bs.getD i true) s':=hQ
   rw [List.getD_eq_getElem?_getD,e] at hQ
   exact wpAny_truthy_bool hQ
 ·have z:(List.range (bs.map Value.bool).toArray.size).all (fun i=>bs.getD i true)=bs.all id:=by
   rw [List.size_toArray,List.length_map,Bool.eq_iff_iff,List.all_eq_true,List.all_eq_true]
   constructor
   ·intro h b hb
    obtain ⟨i,hi,e⟩:=List.mem_iff_getElem.mp hb
    have:=h i (List.mem_range.mpr hi)
    rw [List.getD_eq_getElem?_getD,List.getElem?_eq_getElem hi] at this
    simpa [e] using this
   ·intro h i hi
    have hi':=List.mem_range.mp hi
    rw [List.getD_eq_getElem?_getD,List.getElem?_eq_getElem hi']
    exact h _ (List.getElem_mem hi')
  rw [z]
  have I1:Inv X pins σ H { s with heap:=s.heap.push { cls:=.type "list_iterator",data:=.fields #[.ref p,.int 0 0] } }:=I.kept (t':=s.toks) fun b o e=>Heap.get?_push_of_some _ e
  have fk:ef X pins H s.heap.objs.size:=I.lM (Nat.le_refl _) (I.hok.fresh (Nat.le_refl _))
  obtain ⟨f0,f1,f2,f3,f4,f5⟩:=fk
  exact ⟨.bl _,H,I1.turned (t':=tk) (it:=s.heap.objs.size) (fun b o hb e=>hk b o (fun z=>hb (List.mem_singleton.mp z)) e) f0 f1 f3 f4 f5,rfl,q⟩
theorem pZ:bt X (.builtin "sorted") (fun xs H Q=>∃ (p:Addr) (ns:List Int),xs=[.ref p]∧SqL X.K H p (ns.map V.int)∧ns.length < 64∧∀ (l:Addr) (ms:List Int),H l=none→List.Perm ms ns→ms.Pairwise (·≤·)→Q (.ref l) (upd H l (.lst (ms.map V.int)))):=by
 intro pins s σ H xs us Q I r h
 obtain ⟨p,ns,rfl,hq,hl,q⟩:=h
 obtain ⟨u,rfl,rx⟩:=vals1 r
 cases rx
 obtain ⟨its,rv,pl,hz⟩:=I.list hq
 have hI:IntsAre its ns:=intsAre_of rv
 have h64:its.length < 64:=by rw [← rv.length,List.length_map];exact hl
 refine sorted_ints pl.isList hI h64 fun out ms hout hperm hpair=>?_
 obtain ⟨e,he⟩:=sortedAll_at s.heap its out
 refine ⟨.ref (s.heap.objs.size+1),_,I.laid (t':=s.toks) (o:=.lst (ms.map V.int)) (fun b ob q=>sortedAll_old q) (Nat.le_succ _) ?_,rfl,q _ ms (I.hok.fresh (Nat.le_succ _)) hperm hpair⟩
 have hlm:ms.length=ns.length:=hperm.length_eq
 exact ⟨by rw [List.length_map];have:(64:Nat)≤sizeLine:=(by decide);omega,out.toList,e,fA hout,by simpa using he⟩
end
section
variable {σ:St} {H:Hp} {Q:VK} {QT:Bool→Hp→Prop} {QA:List V→Hp→Prop} {QO:Option Int→Hp→Prop} {D0:Ends} {R:It→Hp→Prop} {ta tb tc te:TE} {tA tB':TT} {t u:TS} {ar:TA} {g:TG} {gs:TGs} {r r':R2} {K:PySem.W.Frag}
end
def gu (H:Hp) (p:Addr):Option (List V):=match H p with
 | some (.lst xs)=>some xs
 | some (.tup xs)=>some xs
 | _=>none
theorem Br {H:Hp} {p:Addr} {xs:List V} (h:H p=some (.tup xs)):gu H p=some xs:=by unfold gu;rw [h]
theorem Bt {H:Hp} {p:Addr} {xs:List V} (h:H p=some (.lst xs)):gu H p=some xs:=by unfold gu;rw [h]
theorem iJ {H:Hp} {p:Addr} {xs:List V} (h:gu H p=some xs):H p=some (.lst xs)∨H p=some (.tup xs):=by
 unfold gu at h
 split at h
 ·cases h;exact .inl ‹_›
 ·cases h;exact .inr ‹_›
 ·cases h
section
variable {X:Cx}
def zW:R2:=fun x y H Q=>∃ p i xs v,x=.ref p∧y=.int i∧gu H p=some xs∧atI xs i=some v∧Q v H
theorem Em:IxR X zW:=by
 intro value slice pins s σ H x y v u Q I rx ry q hs
 obtain ⟨p,i,xs,w',rfl,rfl,h,e,q⟩:=q
 rcases iJ h with h | h
 ·exact zr value slice pins s σ H _ _ v u Q I rx ry ⟨p,xs,i,w',rfl,rfl,SqL.of h,e,q⟩ hs
 ·exact Bf value slice pins s σ H _ _ v u Q I rx ry ⟨p,xs,i,w',rfl,rfl,SqT.of h,e,q⟩ hs
def xt:List V→Hp→VK→Prop:=fun vs H Q=>∃ p xs,vs=[.ref p]∧gu H p=some xs∧Q (.int xs.length) H
theorem aM:bt X (.builtin "len") xt:=by
 intro pins s σ H vs us Q I r h
 obtain ⟨p,xs,rfl,h,q⟩:=h
 rcases iJ h with h | h
 ·exact pB pins s σ H _ us Q I r ⟨_,_,rfl,.inl ⟨xs,SqL.of h,rfl⟩,q⟩
 ·exact pB pins s σ H _ us Q I r ⟨_,_,rfl,.inr ⟨xs,SqT.of h,rfl⟩,q⟩
def pA:List V→Hp→VK→Prop:=fun vs H Q=>∃ p xs,vs=[.ref p]∧gu H p=some xs∧∀ l,H l=none→Q (.ref l) (upd H l (.lst xs))
theorem l5:bt X (.type "list") pA:=by
 intro pins s σ H vs us Q I r h
 obtain ⟨p,xs,rfl,h,q⟩:=h
 rcases iJ h with h | h
 ·exact ke pins s σ H _ us Q I r ⟨p,xs,rfl,.inl (SqL.of h),q⟩
 ·exact ke pins s σ H _ us Q I r ⟨p,xs,rfl,.inr (SqT.of h),q⟩
def rH:List V→Hp→VK→Prop:=fun vs H Q=>∃ p,vs=[.ref p]∧((∃ xs,H p=some (.lst xs)∧∀ l,H l=none→Q (.ref l) (upd H l (.tup xs)))∨∃ xs,H p=some (.tup xs)∧Q (.ref p) H)
theorem dF:bt X (.type "tuple") rH:=by
 intro pins s σ H vs us Q I r h
 obtain ⟨p,rfl,⟨xs,h,q⟩ | ⟨xs,h,q⟩⟩:=h
 ·exact jJ pins s σ H _ us Q I r ⟨p,xs,rfl,.inl ⟨SqL.of h,q⟩⟩
 ·exact jJ pins s σ H _ us Q I r ⟨p,xs,rfl,.inr ⟨SqT.of h,q⟩⟩
def EM:V→Option Int→Option Int→Hp→VK→Prop:=fun x lo hi H Q=>∃ p,x=.ref p∧((∃ xs,H p=some (.tup xs)∧(gQ xs.length lo hi→Q (.ref p) H)∧(¬gQ xs.length lo hi→∀ l,H l=none→Q (.ref l) (upd H l (.tup (gf xs lo hi))))) ∨
 ∃ xs,H p=some (.lst xs)∧∀ l,H l=none→Q (.ref l) (upd H l (.lst (gf xs lo hi))))
theorem ER:SlR X EM:=by
 intro pins s σ H x v vl vu lo hi sl Q I rx hs pl pu h
 obtain ⟨p,rfl,⟨xs,h,q1,q2⟩ | ⟨xs,h,q⟩⟩:=h
 ·exact zt pins s σ H _ v vl vu lo hi sl Q I rx hs pl pu ⟨p,xs,rfl,SqT.of h,q1,q2⟩
 ·exact rm pins s σ H _ v vl vu lo hi sl Q I rx hs pl pu ⟨p,xs,rfl,SqL.of h,q⟩
def v5 (neg:Bool):R2:=fun x y H Q=>∃ p xs,y=.ref p∧gu H p=some xs∧dM x=true∧xs.all dM=true∧Q (.bl (if neg then !inV x xs else inV x xs)) H
theorem AY:OpR X (compareOp .In) (v5 false):=by
 intro pins s σ H x y v u Q I rx ry h
 obtain ⟨p,xs,rfl,h,f1,f2,q⟩:=h
 rcases iJ h with h | h
 ·exact nt pins s σ H _ _ v u Q I rx ry ⟨p,xs,rfl,.inl (SqL.of h),f1,f2,q⟩
 ·exact nt pins s σ H _ _ v u Q I rx ry ⟨p,xs,rfl,.inr (SqT.of h),f1,f2,q⟩
theorem u_:OpR X (compareOp .NotIn) (v5 true):=by
 intro pins s σ H x y v u Q I rx ry h
 obtain ⟨p,xs,rfl,h,f1,f2,q⟩:=h
 rcases iJ h with h | h
 ·exact jW pins s σ H _ _ v u Q I rx ry ⟨p,xs,rfl,.inl (SqL.of h),f1,f2,q⟩
 ·exact jW pins s σ H _ _ v u Q I rx ry ⟨p,xs,rfl,.inr (SqT.of h),f1,f2,q⟩
def xA:R2:=fun x y H Q=>(∃ i j,x=.int i∧y=.int j∧Q (.int (i+j)) H)∨∃ a b,x=.ref a∧y=.ref b ∧
  ((∃ xs ys,H a=some (.tup xs)∧H b=some (.tup ys)∧xs.length+ys.length≤sizeLine∧(xs=[]→Q (.ref b) H)∧(xs≠[]→ys=[]→Q (.ref a) H)∧(xs≠[]→ys≠[]→∀ p,H p=none→Q (.ref p) (upd H p (.tup (xs++ys))))) ∨
   ∃ xs ys,H a=some (.lst xs)∧H b=some (.lst ys)∧xs.length+ys.length≤sizeLine∧∀ p,H p=none→Q (.ref p) (upd H p (.lst (xs++ys))))
theorem zv:OpR X (binaryOp .Add) xA:=by
 intro pins s σ H x y v u Q I rx ry h
 rcases h with ⟨i,j,rfl,rfl,q⟩ | ⟨a,b,rfl,rfl,⟨xs,ys,h1,h2,hz,q1,q2,q3⟩ | ⟨xs,ys,h1,h2,hz,q⟩⟩
 ·exact Bb pins s σ H _ _ v u Q I rx ry ⟨i,j,rfl,rfl,q⟩
 ·exact vU pins s σ H _ _ v u Q I rx ry ⟨a,b,xs,ys,rfl,rfl,SqT.of h1,SqT.of h2,hz,q1,q2,q3⟩
 ·exact zM pins s σ H _ _ v u Q I rx ry ⟨a,b,xs,ys,rfl,rfl,h1,h2,hz,q⟩
def zS:R2:=fun x y H Q=>rEq x y H Q∨wN x y H Q
def Bv:R2:=fun x y H Q=>rNe x y H Q∨vz x y H Q
theorem bS (hu:X.A.units+64 < cLine):OpR X (compareOp .Eq) zS:=BM hu
theorem fz (hu:X.A.units+64 < cLine):OpR X (compareOp .NotEq) Bv:=Bj hu
def Aw:R2:=fun x y H Q=>wk x y H Q∨(y=.non∧Q (.bl (decide (x=.non))) H)
theorem uH:OpR X (compareOp .Is) Aw:=B9
def xS:List V→Hp→VK→Prop:=fun vs H Q=>∃ (p:Addr) (bs:List Bool),vs=[.ref p]∧H p=some (.lst (bs.map V.bl))∧Q (.bl (bs.all id)) H
theorem dk (hc:X.calm=true):bt X (.builtin "all") xS:=by
 intro pins s σ H vs us Q I r h
 obtain ⟨p,bs,rfl,h,q⟩:=h
 exact tS hc pins s σ H _ us Q I r ⟨p,bs,rfl,SqL.of h,q⟩
def oX:List V→Hp→VK→Prop:=fun vs H Q=>∃ (p:Addr) (ns:List Int),vs=[.ref p]∧H p=some (.lst (ns.map V.int))∧ns.length < 64∧∀ (l:Addr) (ms:List Int),H l=none→List.Perm ms ns→ms.Pairwise (·≤·)→Q (.ref l) (upd H l (.lst (ms.map V.int)))
theorem qp:bt X (.builtin "sorted") oX:=by
 intro pins s σ H vs us Q I r h
 obtain ⟨p,ns,rfl,h,hl,q⟩:=h
 exact pZ pins s σ H _ us Q I r ⟨p,ns,rfl,SqL.of h,hl,q⟩
def B3:List V→Hp→VK→Prop:=fun vs H Q=>∃ i j,vs=[.int i,.int j]∧Q (.int (if j > i then j else i)) H
def Bk:List V→Hp→VK→Prop:=fun vs H Q=>∃ i j,vs=[.int i,.int j]∧Q (.int (if j < i then j else i)) H
theorem tM (hc:X.calm=true):bt X (.builtin "max") B3:=tI hc
theorem nQ (hc:X.calm=true):bt X (.builtin "min") Bk:=u5 hc
def Eu (to te:TE):TE:=fun σ H Q=>to σ H fun x H1=>∃ l xs0,x=.ref l∧H1 l=some (.lst xs0)∧te σ H1 fun y H2=>∃ xs,H2 l=some (.lst xs)∧xs.length < sizeLine∧Q .non (upd H2 l (.lst (xs++[y])))
theorem Bn {o e:Expr} {to te:TE} {apos cpos:Pos} (ho:PE X o to) (he:PE X e te)
  (hbase:attributeBase o "append" X.env (eval o X.env)=eval o X.env:=by rfl)
  (hfew:((backTo cpos (starEach [e] X.env)).all (fun x=>!x.1) && (backToKw cpos (keywordEach [] X.env)).all (fun x=>x.1.isSome) && decide ([e].length+([]:List Keyword).length+(if ([]:List Keyword).isEmpty then 0 else 1) < 30))=true:=by rfl)
  (hline:(apos.endLine == cpos.line)=true:=by rfl) (hs:starEach [e] X.env=(false,eval e X.env) :: starEach [] X.env:=by rfl):PE X (.Call (.Attribute o "append" apos) [e] [] cpos) (Eu to te):=by
 intro pins s σ H Q I h
 refine wpAny_Call_method_late hbase hfew hline rfl (thn (ho pins s σ H _ I h) fun v s1 ⟨x,H1,I1,r1,l,xs0,e0,hl,q1⟩=>?_)
 subst e0
 have ty:tyV X.K "list" (.ref l) H1:=.inl ⟨rfl,_,SqL.of hl⟩
 obtain ⟨h1,h2⟩:=vj I1 r1 ty
 refine ⟨"list",_,PySem.F.plainAttrs_list,PySem.F.slot_list_append,PySem.F.type_list_append,h1,h2,?_⟩
 have hA:=(d6 he gS hs) cpos pins s1 σ H1 (fun vs H2=>∃ y,vs=[y]∧∃ xs,H2 l=some (.lst xs)∧xs.length < sizeLine∧Q .non (upd H2 l (.lst (xs++[y])))) I1 (by
  refine cast (congrArg (te σ H1) ?_) q1
  funext y H2
  refine propext ⟨fun q=>⟨y,rfl,q⟩,fun ⟨y',e',q⟩=>?_⟩
  cases e'
  exact q)
 rw [hs] at hA ⊢
 refine Calls.callWith_builtin (by show (false || (backTo cpos (starEach ([]:List Expr) X.env)).any (·.1))=false;rfl) (Calls.evalArgs_plain ?_)
 exact thn hA fun us s2 ⟨vs,H2,I2,r2,y,e2,xs,h3,hz,q2⟩=>nP pins s2 σ H2 (.ref l) vs v us Q I2 r1 r2 ⟨l,xs,y,rfl,e2,h3,hz,q2⟩
def CJ (te ts:TE):TE:=fun σ H Q=>te σ H fun x H1=>ts σ H1 fun y H2=>∃ a xs,x=.ref a∧y=.int (-1)∧H2 a=some (.tup xs)∧∀ p,H2 p=none→Q (.ref p) (upd H2 p (.tup xs.reverse))
end
theorem ye {X:Cx} {e st:Expr} {te ts:TE} {p2 pos:Pos} (he:PE X e te) (hs:PE X st ts):PE X (.Subscript e (.Slice none none (some st) p2) pos) (CJ te ts):=by
 intro pins s σ H Q I h
 refine Subscript_ (thn (he pins s σ H _ I h) fun v s1 ⟨x,H1,I1,r1,q1⟩=>?_)
 refine wpAny_Slice ?_
 rw [evalPart_none]
 refine wpAny_pure (wpAny_pure ?_)
 rw [evalPart_some]
 refine thn (hs pins s1 σ H1 _ I1 q1) fun u s2 ⟨y,H2,I2,r2,q2⟩=>?_
 obtain ⟨a,xs,rfl,rfl,hx,q⟩:=q2
 cases r1
 obtain ⟨tk,rfl⟩:=r2
 have I3:Inv X pins σ H2 { s2 with heap:=s2.heap.push { cls:=.type "slice",data:=.fields #[.none,.none,.int (-1) tk] } }:=I2.kept (t':=s2.toks) fun b ob q=>Heap.get?_push_of_some _ q
 obtain ⟨its,r,ht,hz⟩:=I3.tuple (SqT.of hx)
 show wpAny (model X.prog X.w) X.A (subscriptTail e (.Slice none none (some st) p2) (.ref a) (.ref s2.heap.objs.size)) (EP X pins σ Q) X.xe { s2 with heap:=s2.heap.push { cls:=.type "slice",data:=.fields #[.none,.none,.int (-1) tk] } }
 refine tail_any (ops:=[.ref a,.ref s2.heap.objs.size]) ht.typeIs PyProof.Rows.slot_tuple_getitem.lookup (vZ ht (Heap.IsSliceOf.new ..) (by rw [← r.length];exact hz) ?_) (by with_unfolding_all rfl)
 refine ⟨.ref _,_,I3.laid (t':=s2.toks) (o:=.tup xs.reverse) (fun b ob q=>Heap.get?_push_of_some _ q) (Nat.le_refl _) ?_,rfl,q _ (I3.hok.fresh (Nat.le_refl _))⟩
 exact ⟨by rw [List.length_reverse];exact hz,_,r.reverse,IsTup.new _ _⟩
theorem sg {n:Nat} {k:Int} (h0:0≤k) (h:k < (n:Int)):ixN n k=some k.toNat:=by
 unfold ixN
 rw [if_pos h0,if_pos h]
section
variable {g:TG} {tb:TS} {D0:Ends} {σ:St} {H:Hp} {K:PySem.W.Frag} {a:Addr} {xs ys:List V}
end
section
variable {tt:TT} {te:TE} {D:Addr} {σ:St} {H1:Hp} {Q:Hp→Prop} {K:PySem.W.Frag} {a b:Addr} {xs ys:List V}
end
class NS (e:Expr):Prop where
 eq:∀ (es:List Expr) (env:Env),starEach (e :: es) env=(false,eval e env) :: starEach es env
instance {c:Const} {k:Nat} {p:Pos}:NS (.Constant c k p):=⟨fun _ _=>rfl⟩
instance {x:Str} {p:Pos}:NS (.Name x p):=⟨fun _ _=>rfl⟩
instance {es:List Expr} {k:Nat} {p:Pos}:NS (.Tuple es k p):=⟨fun _ _=>rfl⟩
instance {es:List Expr} {p:Pos}:NS (.List es p):=⟨fun _ _=>rfl⟩
instance {a:Expr} {o:Operator} {b:Expr} {p:Pos}:NS (.BinOp a o b p):=⟨fun _ _=>rfl⟩
instance {o:UnaryOp} {a:Expr} {p:Pos}:NS (.UnaryOp o a p):=⟨fun _ _=>rfl⟩
instance {f:Expr} {es:List Expr} {ks:List Keyword} {p:Pos}:NS (.Call f es ks p):=⟨fun _ _=>rfl⟩
instance {a b:Expr} {p:Pos}:NS (.Subscript a b p):=⟨fun _ _=>rfl⟩
instance {a:Expr} {os:List CmpOp} {bs:List Expr} {p:Pos}:NS (.Compare a os bs p):=⟨fun _ _=>rfl⟩
instance {o:BoolOp} {es:List Expr} {p:Pos}:NS (.BoolOp o es p):=⟨fun _ _=>rfl⟩
instance {a b c:Expr} {p:Pos}:NS (.IfExp a b c p):=⟨fun _ _=>rfl⟩
instance {e:Expr} {gs:List Comprehension} {sc:Scope} {p:Pos}:NS (.ListComp e gs sc p):=⟨fun _ _=>rfl⟩
structure PL (X:Cx) (es:List Expr) (t:TA):Prop where
 h:PA X es t
section
variable {l:List Addr} {H:Hp} {Q:VK}
end
section
variable {X:Cx}
def tLm (r:V→List V→Hp→VK→Prop) (to te:TE):TE:=fun σ H Q=>to σ H fun x H1=>∃ l xs0,x=.ref l∧H1 l=some (.lst xs0)∧te σ H1 fun y H2=>r (.ref l) [y] H2 Q
theorem D3 {r:V→List V→Hp→VK→Prop} {name:Str} {id:String} {o e:Expr} {to te:TE} {apos cpos:Pos} (slot:Slot "list" name id) (hty:typeOf (.builtin id)=pure (.type "method_descriptor")) (hm:MtM X id r) (ho:PE X o to) (he:PE X e te)
  (hbase:attributeBase o name X.env (eval o X.env)=eval o X.env:=by rfl)
  (hfew:((backTo cpos (starEach [e] X.env)).all (fun x=>!x.1) && (backToKw cpos (keywordEach [] X.env)).all (fun x=>x.1.isSome) && decide ([e].length+([]:List Keyword).length+(if ([]:List Keyword).isEmpty then 0 else 1) < 30))=true:=by rfl)
  (hline:(apos.endLine == cpos.line)=true:=by rfl) (hs:starEach [e] X.env=(false,eval e X.env) :: starEach [] X.env:=by rfl):PE X (.Call (.Attribute o name apos) [e] [] cpos) (tLm r to te):=by
 intro pins s σ H Q I h
 refine wpAny_Call_method_late hbase hfew hline rfl (thn (ho pins s σ H _ I h) fun v s1 ⟨x,H1,I1,r1,l,xs0,e0,hl,q1⟩=>?_)
 subst e0
 have ty:tyV X.K "list" (.ref l) H1:=.inl ⟨rfl,_,SqL.of hl⟩
 obtain ⟨h1,h2⟩:=vj I1 r1 ty
 refine ⟨"list",_,PySem.F.plainAttrs_list,slot,hty,h1,h2,?_⟩
 have hA:=(d6 he gS hs) cpos pins s1 σ H1 (fun vs H2=>∃ y,vs=[y]∧r (.ref l) [y] H2 Q) I1 (by
  refine cast (congrArg (te σ H1) ?_) q1
  funext y H2
  refine propext ⟨fun q=>⟨y,rfl,q⟩,fun ⟨y',e',q⟩=>?_⟩
  cases e'
  exact q)
 rw [hs] at hA ⊢
 refine Calls.callWith_builtin (by show (false || (backTo cpos (starEach ([]:List Expr) X.env)).any (·.1))=false;rfl) (Calls.evalArgs_plain ?_)
 exact thn hA fun us s2 ⟨vs,H2,I2,r2,y,e2,q2⟩=>hm pins s2 σ H2 (.ref l) vs v us Q I2 r1 r2 (by rw [e2];exact q2)
def xk:List V→Hp→VK→Prop:=fun vs H Q=>∃ (p:Addr) (bs:List Bool),vs=[.ref p]∧H p=some (.lst (bs.map V.bl))∧Q (.bl (bs.any id)) H
theorem uG (hc:X.calm=true):bt X (.builtin "any") xk:=by
 intro pins s σ H xs us Q I r h
 obtain ⟨p,bs,rfl,hq,q⟩:=h
 obtain ⟨u,rfl,rx⟩:=vals1 r
 cases rx
 obtain ⟨its,rv,pl,hz⟩:=I.list (SqL.of hq)
 have hits:=mQ rv
 subst hits
 have hA:X.A.in1.handled=none:=I.ok.hd hc
 obtain ⟨o,ho,hcl,n,hd⟩:=pl.isList
 have hne:p≠s.heap.objs.size:=Nat.ne_of_lt (Heap.lt_size ho)
 refine call_any_walk (wpAny_pyIter_list pl.isList ?_)
 refine ⟨s.heap.objs.size,_,_,_,_,_,fun i=>bs.getD i false,rfl,Walks.list (prog:=X.prog) (w:=X.w) hA s.heap.objs.size p hne (bs.map Value.bool).toArray,⟨⟨_,Heap.get?_push_size _ rfl,rfl,rfl⟩,⟨o,Heap.get?_push_of_some _ ho,hcl,n,hd⟩⟩,?_,fun h' tk hk=>?_⟩
 ·intro i v s' Q' E' hP hQ
  have hP':(bs.map Value.bool).toArray[i]?=some v:=hP
  rw [List.getElem?_toArray,List.getElem?_map] at hP'
  cases e:bs[i]? with
  | none=>rw [e] at hP';cases hP'
  | some b=>
   rw [e] at hP'
   cases hP'
   have hQ:Q' (bs.getD i false) s':=hQ
   rw [List.getD_eq_getElem?_getD,e] at hQ
   exact wpAny_truthy_bool hQ
 ·have z:(List.range (bs.map Value.bool).toArray.size).any (fun i=>bs.getD i false)=bs.any id:=by
   rw [List.size_toArray,List.length_map,Bool.eq_iff_iff,List.any_eq_true,List.any_eq_true]
   constructor
   ·rintro ⟨i,hi,hb⟩
    have hi':=List.mem_range.mp hi
    rw [List.getD_eq_getElem?_getD,List.getElem?_eq_getElem hi'] at hb
    exact ⟨_,List.getElem_mem hi',hb⟩
   ·rintro ⟨b,hb,e⟩
    obtain ⟨i,hi,e'⟩:=List.mem_iff_getElem.mp hb
    refine ⟨i,List.mem_range.mpr hi,?_⟩
    rw [List.getD_eq_getElem?_getD,List.getElem?_eq_getElem hi]
    simpa [e'] using e
  rw [z]
  have I1:Inv X pins σ H { s with heap:=s.heap.push { cls:=.type "list_iterator",data:=.fields #[.ref p,.int 0 0] } }:=I.kept (t':=s.toks) fun b o e=>Heap.get?_push_of_some _ e
  have fk:ef X pins H s.heap.objs.size:=I.lM (Nat.le_refl _) (I.hok.fresh (Nat.le_refl _))
  obtain ⟨f0,f1,f2,f3,f4,f5⟩:=fk
  exact ⟨.bl _,H,I1.turned (t':=tk) (it:=s.heap.objs.size) (fun b o hb e=>hk b o (fun z=>hb (List.mem_singleton.mp z)) e) f0 f1 f3 f4 f5,rfl,q⟩
theorem iw (ns:List Int):∀ k,k≤ns.length→preSum (fun i=>ns.getD i 0) k=(ns.take k).sum
 | 0,_=>by rw [List.take_zero];rfl
 | k+1,h=>by
  rw [preSum.eq_2,iw ns k (by omega),List.take_add_one,List.sum_append,List.getD_eq_getElem?_getD,List.getElem?_eq_getElem (show k < ns.length by omega)]
  simp
theorem sum_bound:∀ (ns:List Int),(∀ n∈ns,-1000000≤n∧n≤1000000)→-(1000000 * (ns.length:Int))≤ns.sum∧ns.sum≤1000000 * (ns.length:Int)
 | [],_=>by simp
 | n :: ns,h=>by
  have h1:=sum_bound ns fun m hm=>h m (List.mem_cons_of_mem _ hm)
  have h2:=h n (by simp)
  rw [List.sum_cons,List.length_cons]
  push_cast
  omega
def xO:List V→Hp→VK→Prop:=fun vs H Q=>∃ (p:Addr) (ns:List Int),vs=[.ref p]∧H p=some (.lst (ns.map V.int))∧ns.length≤1000∧(∀ n∈ns,-1000000≤n∧n≤1000000)∧Q (.int ns.sum) H
theorem ip (hc:X.calm=true):bt X (.builtin "sum") xO:=by
 intro pins s σ H xs us Q I r h
 obtain ⟨p,ns,rfl,hq,hl,hb,q⟩:=h
 obtain ⟨u,rfl,rx⟩:=vals1 r
 cases rx
 obtain ⟨its,rv,pl,hz⟩:=I.list (SqL.of hq)
 have hI:=intsAre_of rv
 have hlen:its.length=ns.length:=by rw [← rv.length,List.length_map]
 have hA:X.A.in1.handled=none:=I.ok.hd hc
 obtain ⟨o,ho,hcl,n,hd⟩:=pl.isList
 have hne:p≠s.heap.objs.size:=Nat.ne_of_lt (Heap.lt_size ho)
 refine call_sum_walk (wpAny_pyIter_list pl.isList ?_)
 refine ⟨s.heap.objs.size,_,_,_,_,_,fun i=>ns.getD i 0,rfl,Walks.list (prog:=X.prog) (w:=X.w) hA s.heap.objs.size p hne its.toArray,⟨⟨_,Heap.get?_push_size _ rfl,rfl,rfl⟩,⟨o,Heap.get?_push_of_some _ ho,hcl,n,hd⟩⟩,?_,?_,?_,fun h' tk t' hk=>?_⟩
 ·intro b hb'
  show b < (s.heap.push _).objs.size
  rw [Heap.size_push]
  simp only [List.mem_cons,List.not_mem_nil,or_false] at hb'
  rcases hb' with e | e
  ·rw [e];exact Nat.lt_succ_self _
  ·rw [e];exact Nat.lt_succ_of_lt (Heap.lt_size ho)
 ·intro i v hv
  have hv':its.toArray[i]?=some v:=hv
  rw [List.getElem?_toArray] at hv'
  have hi:i < its.length:=(List.getElem?_eq_some_iff.mp hv').1
  have e1:(ns.map V.int)[i]?=some (.int (ns[i]'(by omega))):=by rw [List.getElem?_map,List.getElem?_eq_getElem (by omega)];rfl
  obtain ⟨a1,b1,c1⟩:=rv.get e1
  rw [hv'] at b1
  cases b1
  obtain ⟨t,rfl⟩:=c1
  refine ⟨t,?_⟩
  show Value.int _ t=Value.int (ns.getD i 0) t
  rw [List.getD_eq_getElem?_getD,List.getElem?_eq_getElem (show i < ns.length by omega)]
  rfl
 ·intro j hj
  have hj':j < ns.length:=by have:its.toArray.size=its.length:=List.size_toArray ..;omega
  have h1:ns.getD j 0∈ns:=by rw [List.getD_eq_getElem?_getD,List.getElem?_eq_getElem hj'];exact List.getElem_mem hj'
  have h2:=hb _ h1
  have h3:=sum_bound (ns.take (j+1)) fun m hm=>hb m (List.mem_of_mem_take hm)
  have h4:(ns.take (j+1)).length≤1000:=by rw [List.length_take];omega
  refine ⟨⟨?_,?_⟩,?_⟩
  ·show -2 ^ 63≤ns.getD j 0
   omega
  ·show ns.getD j 0 < 2 ^ 63
   omega
  ·rw [iw ns _ (by omega)]
   exact ⟨by omega,by omega⟩
 ·have I1:Inv X pins σ H { s with heap:=s.heap.push { cls:=.type "list_iterator",data:=.fields #[.ref p,.int 0 0] } }:=I.kept (t':=s.toks) fun b o e=>Heap.get?_push_of_some _ e
  have fk:ef X pins H s.heap.objs.size:=I.lM (Nat.le_refl _) (I.hok.fresh (Nat.le_refl _))
  obtain ⟨f0,f1,f2,f3,f4,f5⟩:=fk
  have z:preSum (fun i=>ns.getD i 0) its.toArray.size=ns.sum:=by
   rw [List.size_toArray,hlen,iw ns _ (Nat.le_refl _),List.take_length]
  rw [z]
  exact ⟨.int _,H,I1.turned (t':=tk) (it:=s.heap.objs.size) (fun b o hb e=>hk b o (fun z=>hb (List.mem_singleton.mp z)) e) f0 f1 f3 f4 f5,⟨_,rfl⟩,q⟩
theorem rg {f:Nat→V}:∀ (us:List Value) (k:Nat),(∀ j v,us[j]?=some v→RelV (f (k+j)) v)→Vals ((List.range' k us.length).map f) us
 | [],_,_=>.nil
 | u :: us,k,h=>by
  rw [List.length_cons,List.range'_succ,List.map_cons]
  refine .cons (h 0 u rfl) (rg us (k+1) fun j v e=>?_)
  have:=h (j+1) v (by simpa using e)
  rw [show k+1+j=k+(j+1) by omega]
  exact this
def tLR (ta:TA):TE:=fun σ H Q=>ta σ H fun vs H1=>∃ j:Int,vs=[.int j]∧0≤j∧j≤1000∧∀ l,H1 l=none→Q (.ref l) (upd H1 l (.lst ((List.range j.toNat).map fun i=>V.int (i:Nat))))
theorem oN {a:Expr} {ta:TA} {p1 p2 pos1 pos2:Pos} (hc:X.calm=true) (hgl:Gl X "list") (hml:X.mg "list"=none) (hgr:Gl X "range") (hmr:X.mg "range"=none) (hbl:bootBuiltins "list"=some (.type "list")) (ha:PA X [a] ta)
  (hs:starEach [a] X.env=[(false,eval a X.env)]:=by rfl)
  (hs2:starEach [Expr.Call (.Name "range" p2) [a] [] pos2] X.env=(false,eval (Expr.Call (.Name "range" p2) [a] [] pos2) X.env) :: starEach [] X.env:=by rfl) :
  PE X (.Call (.Name "list" p1) [.Call (.Name "range" p2) [a] [] pos2] [] pos1) (tLR ta):=by
 intro pins s σ H Q I h
 refine wpAny_Call_Name_kw (cH I hgl hml hbl ?_)
 refine PyProof.Rows.callWith_type1 ?_ hs2 rfl
 rw [hs2]
 show wpAny _ _ (spliced ((false,eval (Expr.Call (.Name "range" p2) [a] [] pos2) X.env) :: backTo pos1 (starEach [] X.env))) _ _ s
 refine Calls.spliced_cons ?_
 refine Call_ (cH I hgr hmr boot_range (PyProof.Rows.callWith_type1 (thn (ha pos2 pins s σ H _ I h) fun us s1 ⟨vs,H1,I1,r1,q1⟩=>?_) hs rfl))
 obtain ⟨j,e,j0,j1,q⟩:=q1
 subst e
 cases r1 with
 | cons r rr=>
  cases rr
  obtain ⟨t,rfl⟩:=r
  refine call_range_1 ?_
  have hA:X.A.handled=none:=I.ok.hd hc
  have I2:Inv X pins σ H1 { s1 with heap:=s1.heap.push { cls:=.type "range",data:=.fields #[.int 0 s1.toks,.int j t,.int 1 (s1.toks+1)] },toks:=s1.toks+1+1 }:=I1.kept fun b o e=>Heap.get?_push_of_some _ e
  refine wpAny_pure ?_
  have hsz:Builtin.Range.rangeSize 0 j 1=((j.toNat:Nat):Int):=by rw [rangeSize_one];split<;>omega
  refine call_list_range hA (IsRange.new ..) (small_one (by omega) (by omega) (by omega) (by omega)) hsz (by omega) fun h' tk acc c' hk hnew hit=>?_
  have hvals:Vals ((List.range j.toNat).map fun i=>V.int (i:Nat)) acc.toList:=by
   have hl:acc.toList.length=j.toNat:=by rw [Array.length_toList];exact hit.1
   rw [← hl,List.range_eq_range']
   refine rg acc.toList 0 fun i v e=>?_
   obtain ⟨t2,rfl⟩:=hit.2 i v (by simpa using e)
   exact ⟨t2,by congr 1;omega⟩
  refine ⟨.ref _,_,I2.laid (t':=tk) (o:=.lst ((List.range j.toNat).map fun i=>V.int (i:Nat))) hk (Nat.le_refl _) ⟨?_,acc.toList,c',hvals,?_⟩,rfl,q _ (I2.hok.fresh (Nat.le_refl _))⟩
  ·rw [List.length_map,List.length_range]
   exact Nat.le_of_lt (d4 (by omega))
  ·simpa using hnew
end
section
variable {X:Cx}
theorem wx:∀ {x y:V} {u:Value},RelV x u→RelV y u→x=y:=by
  intro x y u h1 h2
  cases x<;>cases y<;>simp only [RelV] at h1 h2<;>first
    | rfl
    | (subst h1;cases h2;done)
    | (subst h1;cases h2;rfl)
    | (obtain ⟨t,rfl⟩:=h1;cases h2;done)
    | (obtain ⟨t,rfl⟩:=h1;obtain ⟨t2,e⟩:=h2;cases e;rfl)
    | (obtain ⟨t,rfl⟩:=h1;obtain ⟨t2,e⟩:=h2;cases e;done)
    | (obtain ⟨t,rfl⟩:=h2;cases h1;done)
def vN (neg:Bool):R2:=fun x y H Q=>∃ (p:Addr) (vs:List V) (d:D) (ds:List D),y=.ref p∧H p=some (.lst vs)∧av H vs ds∧Rep H x d∧D.b9 ds≤50∧Q (.bl (if neg then !ds.any (fun e=>D.eqv e d) else ds.any fun e=>D.eqv e d)) H
theorem rP {pins:List (Addr×Obj)} {σ:St} {H:Hp} {s:Shared} {p:Addr} {vs:List V} {d:D} {ds:List D} {x:V} {v:Value} (hu:X.A.units+64 < cLine) (I:Inv X pins σ H s) (rx:RelV x v) (hq:H p=some (.lst vs)) (rs:av H vs ds) (rd:Rep H x d) (hd:D.b9 ds≤50) :
  ∃ (its:List Value) (e:Value→Bool),s.heap.IsList p its.toArray∧(∀ y∈its.toArray,SeqAt.EqAt X.A.in1 s y v (e y))∧its.toArray.any e=ds.any fun e=>D.eqv e d:=by
 classical
 obtain ⟨its,r,pl,hz⟩:=I.list (SqL.of hq)
 have l1:=r.length
 have l2:=rs.length
 have key:∀ (j:Nat) (u:Value),its[j]?=some u→∃ (y:V) (e:D),vs[j]?=some y∧ds[j]?=some e∧RelV y u∧Rep H y e:=by
  intro j u hj
  have hlt:=(List.getElem?_eq_some_iff.mp hj).1
  have e1:vs[j]?=some (vs[j]'(by omega)):=List.getElem?_eq_getElem _
  obtain ⟨a1,b1,c1⟩:=r.get e1
  obtain ⟨f1,g1,k1⟩:=rs.get e1
  rw [hj] at b1
  cases b1
  exact ⟨_,f1,e1,g1,c1,k1⟩
 refine ⟨its,fun u=>decide (∃ (j:Nat) (y:V) (e:D),its[j]?=some u∧vs[j]?=some y∧ds[j]?=some e∧D.eqv e d=true),pl.isList,?_,?_⟩
 ·intro u hm
  have hm':u∈its:=by simpa using hm
  obtain ⟨j,hj⟩:=List.mem_iff_getElem?.mp hm'
  obtain ⟨y,e,h1,h2,h3,h4⟩:=key j u hj
  have q:=uh I 60 X.A.in1 y x u v e d (by show X.A.units+1+60 < cLine;omega) (Nat.le_trans (D.fW h2) (by omega)) h3 rx h4 rd
  have z:decide (∃ (j:Nat) (y:V) (e:D),its[j]?=some u∧vs[j]?=some y∧ds[j]?=some e∧D.eqv e d=true)=D.eqv e d:=by
   rw [Bool.eq_iff_iff,decide_eq_true_eq]
   refine ⟨fun ⟨j',y',e',g1,g2,g3,g4⟩=>?_,fun h=>⟨j,y,e,hj,h1,h2,h⟩⟩
   obtain ⟨y2,e2,k1,k2,k3,k4⟩:=key j' u g1
   rw [g2] at k1;cases k1
   rw [g3] at k2;cases k2
   have:=wx h3 k3
   subst this
   rw [Rep.inj h4 k4]
   exact g4
  show SeqAt.EqAt X.A.in1 s u v (decide _)
  rw [z]
  exact q
 ·rw [List.any_toArray,Bool.eq_iff_iff,List.any_eq_true,List.any_eq_true]
  constructor
  ·rintro ⟨u,hu',h⟩
   obtain ⟨j,y,e,g1,g2,g3,g4⟩:=of_decide_eq_true h
   exact ⟨e,List.mem_of_getElem? g3,g4⟩
  ·rintro ⟨e,he,h⟩
   obtain ⟨j,hj⟩:=List.mem_iff_getElem?.mp he
   have hlt:=(List.getElem?_eq_some_iff.mp hj).1
   have e1:its[j]?=some (its[j]'(by omega)):=List.getElem?_eq_getElem _
   obtain ⟨y,e',h1,h2,h3,h4⟩:=key j _ e1
   exact ⟨_,List.mem_of_getElem? e1,decide_eq_true ⟨j,y,e,e1,h1,hj,h⟩⟩
theorem Av (hu:X.A.units+64 < cLine):OpR X (compareOp .In) (vN false):=by
 intro pins s σ H x y v u Q I rx ry h
 obtain ⟨p,vs,d,ds,rfl,hq,rs,rd,hd,q⟩:=h
 cases ry
 obtain ⟨its,e,h1,h2,h3⟩:=rP hu I rx hq rs rd hd
 refine SeqAt.in_listAt e h1 h2 ⟨.bl _,H,I,rfl,?_⟩
 rw [h3]
 exact q
theorem tT (hu:X.A.units+64 < cLine):OpR X (compareOp .NotIn) (vN true):=by
 intro pins s σ H x y v u Q I rx ry h
 obtain ⟨p,vs,d,ds,rfl,hq,rs,rd,hd,q⟩:=h
 cases ry
 obtain ⟨its,e,h1,h2,h3⟩:=rP hu I rx hq rs rd hd
 refine SeqAt.notIn_listAt e h1 h2 ⟨.bl _,H,I,rfl,?_⟩
 rw [h3]
 exact q
end
section
variable {prog:Program} {w:World} {A:Around} {E:Value→Shared→Prop} {s:Shared}
end
section
variable {X:Cx}
end
section
variable {g:TG} {tb:TS} {D0:Ends} {σ:St} {H:Hp} {K:PySem.W.Frag} {a b:Addr} {xs ys:List V}
end
section
variable {tt:TT} {te:TE} {D:Addr} {σ:St} {H1:Hp} {Q:Hp→Prop} {K:PySem.W.Frag} {a b:Addr} {xs ys:List V}
end
section
variable {prog:Program} {w:World} {A:Around} {E:Value→Shared→Prop} {s:Shared}
section
end
end
section
variable {X:Cx}
end
end L2
namespace ZS
open PySem
def Ri (l:List Nat):Prop:=l.Pairwise (· < ·)
theorem sA (xs:Array Nat) (j p:Nat) (h1:∀ i,i < p→xs.getD i j < j) (h2:∀ i,p≤i→i < xs.size→¬xs.getD i j < j):∀ (fuel lo hi:Nat),lo≤p→p≤hi→hi≤xs.size→hi - lo≤fuel→SetTable.below.go xs j fuel lo hi=p
 | 0,lo,hi,a,b,c,d=>by rw [SetTable.below.go];omega
 | fuel+1,lo,hi,a,b,c,d=>by
  rw [SetTable.below.go]
  by_cases hl:lo < hi
  ·rw [if_pos hl]
   dsimp only
   have m1:lo≤(lo+hi) / 2:=by omega
   have m2:(lo+hi) / 2 < hi:=by omega
   by_cases hm:xs.getD ((lo+hi) / 2) j < j
   ·rw [if_pos hm]
    have:(lo+hi) / 2 < p:=by
     refine Nat.lt_of_not_le fun z=>?_
     exact h2 _ z (by omega) hm
    exact sA xs j p h1 h2 fuel _ _ (by omega) b c (by omega)
   ·rw [if_neg hm]
    have:p≤(lo+hi) / 2:=by
     refine Nat.le_of_not_lt fun z=>?_
     exact hm (h1 _ z)
    exact sA xs j p h1 h2 fuel _ _ a this (by omega) (by omega)
  ·rw [if_neg hl];omega
theorem getD_list {l:List Nat} {i j:Nat} (h:i < l.length):l.toArray.getD i j=l[i]:=by simp [Array.getD,h]
theorem below_at {l:List Nat} {j p:Nat} (hp:p≤l.length) (h1:∀ i (h:i < l.length),i < p→l[i] < j) (h2:∀ i (h:i < l.length),p≤i→j≤l[i]):SetTable.below l.toArray j=p:=by
 unfold SetTable.below
 refine sA l.toArray j p (fun i hi=>?_) (fun i hi hs=>?_) _ _ _ (Nat.zero_le _) (by simpa using hp) (Nat.le_refl _) (by omega)
 ·rw [getD_list (by omega)];exact h1 i (by omega) hi
 ·rw [getD_list (by simpa using hs)]
  have:=h2 i (by simpa using hs) hi
  omega
theorem oj {l:List Nat} (h:Ri l) {i k:Nat} (hk:k < l.length) (hi:i < k):l[i] < l[k]:=List.pairwise_iff_getElem.mp h i k (by omega) hk hi
theorem uj {l:List Nat} (h:Ri l) (j:Nat):∃ p,p≤l.length∧SetTable.below l.toArray j=p∧(∀ x∈l.take p,x < j)∧(∀ x∈l.drop p,j≤x):=by
 induction l with
 | nil=>exact ⟨0,Nat.le_refl _,below_at (Nat.le_refl _) (fun i h=>by simp at h) (fun i h=>by simp at h),by simp,by simp⟩
 | cons a l ih=>
  obtain ⟨h1,h2⟩:=List.pairwise_cons.mp h
  obtain ⟨p,hp,_,ha,hb⟩:=ih h2
  by_cases hj:a < j
  ·have q1:∀ x∈(a :: l).take (p+1),x < j:=by
    intro x hx
    rw [List.take_succ_cons] at hx
    rcases List.mem_cons.mp hx with e | e
    ·omega
    ·exact ha x e
   have q2:∀ x∈(a :: l).drop (p+1),j≤x:=by
    intro x hx
    rw [List.drop_succ_cons] at hx
    exact hb x hx
   refine ⟨p+1,by simp;omega,below_at (by simp;omega) (fun i hi hip=>?_) (fun i hi hip=>?_),q1,q2⟩
   ·refine q1 _ ?_
    rw [List.mem_iff_getElem]
    exact ⟨i,by rw [List.length_take];simp at hi ⊢;omega,by rw [List.getElem_take]⟩
   ·refine q2 _ ?_
    rw [List.mem_iff_getElem]
    exact ⟨i - (p+1),by simp at hi ⊢;omega,by rw [List.getElem_drop];congr 1;omega⟩
  ·have q2:∀ x∈a :: l,j≤x:=by
    intro x hx
    rcases List.mem_cons.mp hx with e | e
    ·omega
    ·have:=h1 x e;omega
   refine ⟨0,Nat.zero_le _,below_at (Nat.zero_le _) (fun i hi hip=>by omega) (fun i hi _=>q2 _ (List.getElem_mem hi)),by simp,by simpa using q2⟩
theorem nJ {l:List Nat} (h:Ri l) {i:Nat} (hi:i < l.length):SetTable.below l.toArray (l[i]+1)=i+1∧SetTable.below l.toArray l[i]=i:=by
 constructor
 ·refine below_at (by omega) (fun k hk hki=>?_) (fun k hk hki=>?_)
  ·by_cases e:k=i
   ·subst e;omega
   ·have:=oj h hi (show k < i by omega);omega
  ·have:=oj h hk (show i < k by omega);omega
 ·refine below_at (by omega) (fun k hk hki=>oj h hi hki) (fun k hk hki=>?_)
  by_cases e:k=i
  ·subst e;omega
  ·have:=oj h hk (show i < k by omega);omega
theorem sM {l:List Nat}:SetTable.below l.toArray 0=0:=below_at (Nat.zero_le _) (fun i hi h=>by omega) (fun i hi _=>Nat.zero_le _)
theorem uf {l:List Nat} (h:Ri l) {j p:Nat} (hj:j∉l) (ha:∀ x∈l.take p,x < j) (hb:∀ x∈l.drop p,j≤x):Ri (l.take p++j :: l.drop p):=by
 have hs:Ri (l.take p++l.drop p):=by rw [List.take_append_drop];exact h
 obtain ⟨s1,s2,s3⟩:=List.pairwise_append.mp hs
 refine List.pairwise_append.mpr ⟨s1,List.pairwise_cons.mpr ⟨fun x hx=>?_,s2⟩,fun x hx y hy=>?_⟩
 ·have:=hb x hx
  have:x≠j:=fun e=>hj (by rw [← e];exact List.mem_of_mem_drop hx)
  omega
 ·rcases List.mem_cons.mp hy with e | e
  ·rw [e];exact ha x hx
  ·exact s3 x hx y e
theorem slot_of {t:SetTable} {l:List Nat} (hp:t.place=l.toArray) (hr:Ri l) (hd:t.dummies=#[]) (j:Nat):(j∉l→t.slot j=.empty)∧(j∈l→∃ i,t.slot j=.live i):=by
 have hh:SetTable.has #[] j=false:=by simp [SetTable.has]
 constructor
 ·intro hj
  unfold SetTable.slot
  dsimp only
  rw [hp,hd,hh]
  have:(l.toArray[SetTable.below l.toArray j]? == some j)=false:=by
   rw [beq_eq_false_iff_ne]
   intro e
   rw [List.getElem?_toArray] at e
   exact hj (List.mem_of_getElem? e)
  rw [this]
  rfl
 ·intro hj
  obtain ⟨i,hi,rfl⟩:=List.mem_iff_getElem.mp hj
  refine ⟨i,?_⟩
  unfold SetTable.slot
  dsimp only
  rw [hp,(nJ hr hi).2,List.getElem?_toArray,List.getElem?_eq_getElem hi]
  simp
def nxt (m i:Nat):Nat:=(i * 5+1) % (m+1)
def orb (m:Nat):Nat→Nat→Nat
 | 0,i=>i
 | n+1,i=>orb m n (nxt m i)
def marks (m:Nat):Nat→Nat→Nat→Nat
 | 0,_,acc=>acc
 | n+1,i,acc=>marks m n (nxt m i) (acc ||| (1 <<< i))
def full (m:Nat):Bool:=marks m (m+1) 0 0 == 2 ^ (m+1) - 1 && orb m (m+1) 0 == 0
theorem DN:full 7=true:=by decide +kernel
theorem z7:full 31=true:=by decide +kernel
theorem yi:full 127=true:=by decide +kernel
theorem zf:full 511=true:=by decide +kernel
theorem nv {m:Nat}:∀ (n i acc e:Nat),(marks m n i acc).testBit e=true→acc.testBit e=true∨∃ k,k < n∧orb m k i=e
 | 0,i,acc,e,h=>.inl h
 | n+1,i,acc,e,h=>by
  rw [marks] at h
  rcases nv n _ _ e h with q | ⟨k,hk,q⟩
  ·rw [Nat.testBit_or,Bool.or_eq_true] at q
   rcases q with q | q
   ·exact .inl q
   ·refine .inr ⟨0,by omega,?_⟩
    rw [Nat.one_shiftLeft,Nat.testBit_two_pow] at q
    simpa [orb] using q
  ·exact .inr ⟨k+1,by omega,q⟩
theorem kH {m:Nat}:∀ (a b i:Nat),orb m (a+b) i=orb m b (orb m a i)
 | 0,b,i=>by simp [orb]
 | a+1,b,i=>by
  rw [show a+1+b=(a+b)+1 by omega,orb,kH a b,orb]
theorem xx {m e:Nat} (hf:full m=true) (he:e≤m):∃ k,k≤m∧orb m k 0=e:=by
 unfold full at hf
 rw [Bool.and_eq_true,beq_iff_eq,beq_iff_eq] at hf
 have q:(marks m (m+1) 0 0).testBit e=true:=by
  rw [hf.1,Nat.testBit_two_pow_sub_one]
  simp;omega
 rcases nv _ _ _ _ q with z | ⟨k,hk,z⟩
 ·simp at z
 ·exact ⟨k,by omega,z⟩
theorem reach {m e i:Nat} (hf:full m=true) (he:e≤m) (hi:i≤m):∃ k,k≤m∧orb m k i=e:=by
 obtain ⟨a,ha,ea⟩:=xx hf hi
 obtain ⟨b,hb,eb⟩:=xx hf he
 have h0:orb m (m+1) 0=0:=by
  unfold full at hf
  rw [Bool.and_eq_true,beq_iff_eq,beq_iff_eq] at hf
  exact hf.2
 by_cases hab:a≤b
 ·refine ⟨b - a,by omega,?_⟩
  rw [← ea,← kH,show a+(b - a)=b by omega,eb]
 ·refine ⟨m+1 - a+b,by omega,?_⟩
  rw [← ea,← kH,show a+(m+1 - a+b)=(m+1)+b by omega,kH,h0,eb]
def lp (m:Nat):Nat→Nat×Nat→Nat×Nat
 | 0,x=>x
 | n+1,x=>lp m n (SetTable.leap m x.1 x.2)
theorem uv {m:Nat}:∀ (a b:Nat) (x:Nat×Nat),lp m (a+b) x=lp m b (lp m a x)
 | 0,b,x=>by simp [lp]
 | a+1,b,x=>by
  rw [show a+1+b=(a+b)+1 by omega,lp,uv a b,lp]
theorem rN {m:Nat}:∀ (n:Nat) (x:Nat×Nat),(lp m n x).2=x.2 / 32 ^ n
 | 0,x=>by simp [lp]
 | n+1,x=>by
  rw [lp,rN n]
  show x.2 / 32 / 32 ^ n=_
  rw [Nat.div_div_eq_div_mul,Nat.pow_succ,Nat.mul_comm]
theorem vf {m:Nat}:∀ (n i:Nat),lp m n (i,0)=(orb m n i,0)
 | 0,i=>rfl
 | n+1,i=>by
  rw [lp,orb]
  have:SetTable.leap m i 0=(nxt m i,0):=by simp [SetTable.leap,nxt]
  rw [this,vf n]
theorem DY {m:Nat} (x:Nat×Nat) (h:x.1≤m):∀ n,(lp m n x).1≤m:=by
 intro n
 induction n generalizing x with
 | zero=>exact h
 | succ n ih=>
  rw [lp]
  exact ih _ (by show _ % (m+1)≤m;have:=Nat.mod_lt (x.1 * 5+1+x.2 / 32) (show m+1 > 0 by omega);omega)
theorem rD {m e i p:Nat} (hf:full m=true) (he:e≤m) (hi:i≤m) (hp:p < 2 ^ 64):∃ k,k < SetTable.turns m∧(lp m k (i,p)).1=e:=by
 have h13:(lp m 13 (i,p)).2=0:=by
  rw [rN]
  exact Nat.div_eq_of_lt (Nat.lt_of_lt_of_le hp (by decide))
 obtain ⟨k,hk,ek⟩:=reach hf he (DY (i,p) hi 13)
 refine ⟨13+k,by unfold SetTable.turns;omega,?_⟩
 rw [uv]
 have z:lp m 13 (i,p)=((lp m 13 (i,p)).1,0):=by rw [← h13]
 rw [z,vf]
 exact ek
theorem rK (h:Int):SetTable.bits h < 2 ^ 64:=by
 unfold SetTable.bits
 have:=Int.emod_lt_of_pos h (show (0:Int) < 2 ^ 64 by decide)
 omega
theorem room {l:List Nat} {m:Nat} (hn:l.length≤m):∃ e,e≤m∧e∉l:=by
 refine Classical.byContradiction fun h=>?_
 have hall:∀ e∈List.range (m+1),e∈l:=fun e he=>Classical.byContradiction fun z=>h ⟨e,by have:=List.mem_range.mp he;omega,z⟩
 have:=List.Nodup.length_le_of_subset (List.nodup_range (n:=m+1)) hall
 rw [List.length_range] at this
 omega
theorem wD {t:SetTable} {l:List Nat} (hp:t.place=l.toArray) (hr:Ri l) (hd:t.dummies=#[]) (h:Int) :
  ∀ (k:Nat) (fuel:Nat) (q:SetTable.Probe),q.dummy=none→q.more≤9→10 * k+q.more+1≤fuel→(lp t.mask k (q.i,q.perturb)).1∉l→(k=0→q.j=q.i∨q.j∉l)→(q.more≤9) →
   (k=0→q.j∉l)→∃ j,SetTable.probe.go t (fun _=>h+1) h fuel q=some (.empty j none)∧j∉l:=by
 intro k
 induction k with
 | zero=>
  intro fuel q h1 h2 h3 h4 h5 h6 h7
  obtain ⟨f,rfl⟩:∃ f,fuel=f+1:=⟨fuel - 1,by omega⟩
  refine ⟨q.j,?_,h7 rfl⟩
  rw [SetTable.probe.go,(slot_of hp hr hd q.j).1 (h7 rfl)]
  dsimp only
  rw [h1]
 | succ k ih=>
  intro fuel q h1 h2 h3 h4 h5 h6 h7
  have run:∀ (r fuel:Nat) (q:SetTable.Probe),q.more=r→q.dummy=none→10 * (k+1)+r+1≤fuel→(lp t.mask (k+1) (q.i,q.perturb)).1∉l→∃ j,SetTable.probe.go t (fun _=>h+1) h fuel q=some (.empty j none)∧j∉l:=by
   intro r
   induction r with
   | zero=>
    intro fuel q hm hdm hfu hl
    obtain ⟨f,rfl⟩:∃ f,fuel=f+1:=⟨fuel - 1,by omega⟩
    by_cases hj:q.j∈l
    ·obtain ⟨i,ei⟩:=(slot_of hp hr hd q.j).2 hj
     rw [SetTable.probe.go,ei]
     dsimp only
     have hne:(h+1 == h)=false:=by rw [beq_eq_false_iff_ne];omega
     rw [hne]
     have ha:t.advance q={ q with j:=(SetTable.leap t.mask q.i q.perturb).1,more:=SetTable.runEnd t.mask (SetTable.leap t.mask q.i q.perturb).1 - (SetTable.leap t.mask q.i q.perturb).1,i:=(SetTable.leap t.mask q.i q.perturb).1,perturb:=(SetTable.leap t.mask q.i q.perturb).2 }:=by
      unfold SetTable.advance
      rw [if_neg (by omega)]
     have hmore:(t.advance q).more≤9:=by
      rw [ha]
      dsimp only
      unfold SetTable.runEnd
      split<;>omega
     have hl':(lp t.mask k ((t.advance q).i,(t.advance q).perturb)).1∉l:=by rw [ha];exact hl
     refine ih f (t.advance q) (by rw [ha];exact hdm) hmore (by omega) hl' (fun _=>.inl (by rw [ha])) hmore fun hk=>?_
     rw [ha]
     dsimp only
     subst hk
     exact hl
    ·refine ⟨q.j,?_,hj⟩
     rw [SetTable.probe.go,(slot_of hp hr hd q.j).1 hj]
     dsimp only
     rw [hdm]
   | succ r ihr=>
    intro fuel q hm hdm hfu hl
    obtain ⟨f,rfl⟩:∃ f,fuel=f+1:=⟨fuel - 1,by omega⟩
    by_cases hj:q.j∈l
    ·obtain ⟨i,ei⟩:=(slot_of hp hr hd q.j).2 hj
     rw [SetTable.probe.go,ei]
     dsimp only
     have hne:(h+1 == h)=false:=by rw [beq_eq_false_iff_ne];omega
     rw [hne]
     have ha:t.advance q={ q with j:=q.j+1,more:=q.more - 1 }:=by
      unfold SetTable.advance
      rw [if_pos (by omega)]
     refine ihr f (t.advance q) (by rw [ha];dsimp only;omega) (by rw [ha];exact hdm) (by omega) (by rw [ha];exact hl)
    ·refine ⟨q.j,?_,hj⟩
     rw [SetTable.probe.go,(slot_of hp hr hd q.j).1 hj]
     dsimp only
     rw [hdm]
  exact run q.more fuel q rfl h1 h3 h4
theorem tV {t:SetTable} {l:List Nat} (hp:t.place=l.toArray) (hr:Ri l) (hd:t.dummies=#[]) (hf:full t.mask=true) (hn:l.length≤t.mask) (h:Int):∃ j,t.freeSlot h=some (j,false)∧j∉l:=by
 obtain ⟨e,he,hel⟩:=room hn
 have hi:SetTable.bits h % (t.mask+1)≤t.mask:=by have:=Nat.mod_lt (SetTable.bits h) (show t.mask+1 > 0 by omega);omega
 obtain ⟨k,hk,ek⟩:=rD hf he hi (rK h)
 have hmore:(t.probeStart h).more≤9:=by
  unfold SetTable.probeStart SetTable.runEnd
  dsimp only
  split<;>omega
 have q:=wD hp hr hd h k (10 * SetTable.turns t.mask) (t.probeStart h) rfl hmore (by omega) (by
  show (lp t.mask k (SetTable.bits h % (t.mask+1),SetTable.bits h)).1∉l
  rw [ek];exact hel) (fun _=>.inl rfl) hmore (fun hk0=>by
   subst hk0
   show SetTable.bits h % (t.mask+1)∉l
   rw [show SetTable.bits h % (t.mask+1)=e from ek];exact hel)
 obtain ⟨j,ej,hj⟩:=q
 refine ⟨j,?_,hj⟩
 unfold SetTable.freeSlot SetTable.probe
 rw [ej]
 rfl
end ZS
namespace ZS
open PySem
theorem rq {m e:Nat} {owner:Array (Option Nat)} (he:owner.getD e (some 0)=none):∀ (k fuel i p:Nat),(lp m k (i,p)).1=e→k < fuel→∃ j,SetTable.layClean.free m owner fuel i p=some j∧owner.getD j (some 0)=none
 | k,0,i,p,_,h=>by omega
 | k,fuel+1,i,p,hk,h=>by
  rw [SetTable.layClean.free]
  cases hf:(List.range (SetTable.runEnd m i+1 - i)).find? fun k=>(owner.getD (i+k) (some 0)).isNone with
  | some x=>
   refine ⟨i+x,rfl,?_⟩
   have:=List.find?_some hf
   simpa using this
  | none=>
   have hno:=List.find?_eq_none.mp hf
   cases k with
   | zero=>
    have hi:i=e:=hk
    have:=hno 0 (List.mem_range.mpr (by unfold SetTable.runEnd;split<;>omega))
    rw [Nat.add_zero,hi,he] at this
    simp at this
   | succ k=>
    dsimp only
    exact rq he k fuel _ _ hk (by omega)
theorem pz {α β:Type} {f g:α→Option β}:∀ {l:List α},(∀ x∈l,f x=g x)→l.filterMap f=l.filterMap g
 | [],_=>rfl
 | a :: l,h=>by
  rw [List.filterMap_cons,List.filterMap_cons,h a (List.mem_cons_self ..),pz fun x hx=>h x (List.mem_cons_of_mem _ hx)]
def vals (m:Nat) (owner:Array (Option Nat)):List Nat:=(List.range (m+1)).filterMap fun j=>owner.getD j none
theorem wC (m:Nat):vals m (Array.replicate (m+1) none)=[]:=by
 unfold vals
 rw [List.filterMap_eq_nil_iff]
 intro j hj
 simp [Array.getD]
theorem wt {m j k:Nat} {owner:Array (Option Nat)} (hs:owner.size=m+1) (hj:owner.getD j (some 0)=none):(vals m (owner.setIfInBounds j (some k))).Perm (k :: vals m owner):=by
 have hjs:j < owner.size:=by
  refine Nat.lt_of_not_le fun z=>?_
  simp [Array.getD,Nat.not_lt.mpr z] at hj
 have hjv:owner.getD j none=none:=by
  simp [Array.getD,hjs] at hj ⊢
  exact hj
 have hmem:j∈List.range (m+1):=List.mem_range.mpr (by omega)
 have pe:=List.perm_cons_erase hmem
 have nd:(List.range (m+1)).Nodup:=List.nodup_range
 unfold vals
 refine (pe.filterMap _).trans ?_
 refine List.Perm.trans ?_ ((pe.filterMap (fun j=>owner.getD j none)).cons k).symm
 rw [List.filterMap_cons,List.filterMap_cons]
 have e1:(owner.setIfInBounds j (some k)).getD j none=some k:=by simp [Array.getD,hjs]
 rw [e1,hjv]
 dsimp only
 refine List.Perm.cons k (List.Perm.of_eq ?_)
 refine pz fun x hx=>?_
 have hne:x≠j:=fun e=>by
  rw [e] at hx
  exact (List.Nodup.mem_erase_iff nd).mp hx |>.1 rfl
 simp only [Array.getD,Array.size_setIfInBounds]
 split
 ·rw [Array.getInternal_eq_getElem,Array.getInternal_eq_getElem,Array.getElem_setIfInBounds_ne (by assumption) (fun e=>hne e.symm)]
 ·rfl
theorem v8 {m:Nat} {owner:Array (Option Nat)} (hs:owner.size=m+1) (h:(vals m owner).length≤m):∃ e,e≤m∧owner.getD e (some 0)=none:=by
 refine Classical.byContradiction fun hno=>?_
 have all:∀ j∈List.range (m+1),(owner.getD j none).isSome=true:=fun j hj=>by
  have hj':=List.mem_range.mp hj
  cases e:owner.getD j none with
  | some x=>rfl
  | none=>
   refine absurd ⟨j,by omega,?_⟩ hno
   simp [Array.getD,show j < owner.size by omega] at e ⊢
   exact e
 have len:∀ l:List Nat,(∀ j∈l,(owner.getD j none).isSome=true)→(l.filterMap fun j=>owner.getD j none).length=l.length:=by
  intro l
  induction l with
  | nil=>intro _;rfl
  | cons a l ih=>
   intro hl
   obtain ⟨x,hx⟩:=Option.isSome_iff_exists.mp (hl a (List.mem_cons_self ..))
   rw [List.filterMap_cons,hx]
   dsimp only
   rw [List.length_cons,List.length_cons,ih fun j hj=>hl j (List.mem_cons_of_mem _ hj)]
 have:=len _ all
 rw [List.length_range] at this
 unfold vals at h
 omega
def kM (m:Nat) (acc:Option (Array (Option Nat)×Nat)) (h:Int):Option (Array (Option Nat)×Nat):=do
  let (owner,k) ← acc
  let j ← SetTable.layClean.free m owner (SetTable.turns m) (SetTable.bits h % (m+1)) (SetTable.bits h)
  pure (owner.setIfInBounds j (some k),k+1)
theorem oS {m:Nat} (hf:full m=true):∀ (hs:List Int) (owner:Array (Option Nat)) (k:Nat),owner.size=m+1→(vals m owner).Perm (List.range k)→k+hs.length≤m →
  ∃ owner',hs.foldl (kM m) (some (owner,k))=some (owner',k+hs.length)∧owner'.size=m+1∧(vals m owner').Perm (List.range (k+hs.length))
 | [],owner,k,h1,h2,h3=>⟨owner,rfl,h1,by simpa using h2⟩
 | h :: hs,owner,k,h1,h2,h3=>by
  have hlen:(vals m owner).length=k:=by rw [h2.length_eq,List.length_range]
  obtain ⟨e,he,hen⟩:=v8 h1 (by simp at h3;omega)
  have hi:SetTable.bits h % (m+1)≤m:=by have:=Nat.mod_lt (SetTable.bits h) (show m+1 > 0 by omega);omega
  obtain ⟨q,hq,eq⟩:=rD hf he hi (rK h)
  obtain ⟨j,ej,hj⟩:=rq (m:=m) hen q (SetTable.turns m) _ _ eq hq
  have st:kM m (some (owner,k)) h=some (owner.setIfInBounds j (some k),k+1):=by
   unfold kM
   show (SetTable.layClean.free m owner (SetTable.turns m) (SetTable.bits h % (m+1)) (SetTable.bits h)).bind _=_
   rw [ej]
   rfl
  have p2:(vals m (owner.setIfInBounds j (some k))).Perm (List.range (k+1)):=by
   refine (wt h1 hj).trans ((h2.cons k).trans ?_)
   rw [List.range_succ]
   exact (List.perm_append_singleton k _).symm
  obtain ⟨o',a1,a2,a3⟩:=oS hf hs _ (k+1) (by rw [Array.size_setIfInBounds];exact h1) p2 (by simp at h3;omega)
  refine ⟨o',?_,a2,by simp only [List.length_cons];rw [show k+(hs.length+1)=k+1+hs.length by omega];exact a3⟩
  rw [List.foldl_cons,st,a1]
  simp only [List.length_cons]
  rw [show k+(hs.length+1)=k+1+hs.length by omega]
theorem qI {m:Nat} (hf:full m=true) (hs:Array Int) (hn:hs.size≤m):∃ owner,SetTable.layClean m hs=some owner∧owner.size=m+1∧(vals m owner).Perm (List.range hs.size):=by
 obtain ⟨o,a1,a2,a3⟩:=oS hf hs.toList (Array.replicate (m+1) none) 0 (by simp) (by rw [wC];simp) (by simpa using hn)
 refine ⟨o,?_,a2,by simpa using a3⟩
 unfold SetTable.layClean
 rw [← Array.foldl_toList]
 have:(fun (acc:Option (Array (Option Nat)×Nat)) (h:Int)=>(do
  let (owner,k) ← acc
  let j ← SetTable.layClean.free m owner (SetTable.turns m) (SetTable.bits h % (m+1)) (SetTable.bits h)
  pure (owner.setIfInBounds j (some k),k+1):Option (Array (Option Nat)×Nat)))=kM m:=rfl
 rw [this,a1]
 rfl
theorem jl (f:Nat→Option Nat):∀ l:List Nat,((l.filterMap fun j=>(f j).map (j,·)).map (·.1))=l.filter fun j=>(f j).isSome
 | []=>rfl
 | a :: l=>by
  rw [List.filterMap_cons,List.filter_cons]
  cases f a with
  | none=>simpa using jl f l
  | some x=>simp [jl f l]
theorem i0 (f:Nat→Option Nat):∀ l:List Nat,((l.filterMap fun j=>(f j).map (j,·)).map (·.2))=l.filterMap f
 | []=>rfl
 | a :: l=>by
  rw [List.filterMap_cons,List.filterMap_cons]
  cases f a with
  | none=>simpa using i0 f l
  | some x=>simp [i0 f l]
theorem q_ {α:Type}:∀ (xs:List α),(List.range xs.length).filterMap (fun i=>xs[i]?)=xs
 | []=>rfl
 | x :: xs=>by
  rw [List.length_cons,List.range_succ_eq_map,List.filterMap_cons]
  simp only [List.getElem?_cons_zero]
  rw [List.filterMap_map]
  have:((fun i=>(x :: xs)[i]?) ∘ Nat.succ)=fun i=>xs[i]?:=by funext i;simp
  rw [this,q_ xs]
theorem wq {t:SetTable} {es:Array (Int×Value)} {wanted:Nat} (hf:full (SetTable.sizeAbove wanted - 1)=true) (hn:es.size≤SetTable.sizeAbove wanted - 1) :
  ∃ es' t' l,relayAll t es wanted=(es',t',false)∧es'.toList.Perm es.toList∧t'.place=l.toArray∧Ri l∧l.length=es.size∧t'.dummies=#[]∧t'.mask=SetTable.sizeAbove wanted - 1∧t'.plain=t.plain∧t'.led=t.led:=by
 obtain ⟨owner,e1,e2,e3⟩:=qI hf (es.map (·.1)) (by simpa using hn)
 rw [Array.size_map] at e3
 generalize hm:SetTable.sizeAbove wanted - 1=m at *
 let f:Nat→Option Nat:=fun j=>owner.getD j none
 have r1:t.relaid (es.map (·.1)) wanted=some ({ mask:=m,place:=((List.range (m+1)).filter fun j=>(f j).isSome).toArray,dummies:=#[],finger:=t.finger,led:=t.led,moves:=t.movedTo m,plain:=t.plain },(vals m owner).toArray):=by
  unfold SetTable.relaid SetTable.laid
  rw [hm,e1]
  show some _=some _
  rw [← jl f,show vals m owner=(List.range (m+1)).filterMap f from rfl,← i0 f]
 have po:((vals m owner).toArray.filterMap (fun (i:Nat)=>es[i]?)).toList.Perm es.toList:=by
  rw [Array.toList_filterMap]
  refine (e3.filterMap _).trans (List.Perm.of_eq ?_)
  have:(fun (i:Nat)=>es[i]?)=fun (i:Nat)=>es.toList[i]?:=by funext i;rw [Array.getElem?_toList]
  rw [this,← Array.length_toList,q_]
 have lpl:((List.range (m+1)).filter fun j=>(f j).isSome).length=es.size:=by
  rw [← jl f,List.length_map,← List.length_map (f:=(·.2)),i0 f]
  show (vals m owner).length=es.size
  rw [e3.length_eq,List.length_range]
 have so:((vals m owner).toArray.filterMap (fun (i:Nat)=>es[i]?)).size=es.size:=by
  rw [← Array.length_toList,po.length_eq,Array.length_toList]
 refine ⟨_,{ mask:=m,place:=((List.range (m+1)).filter fun j=>(f j).isSome).toArray,dummies:=#[],finger:=t.finger,led:=t.led,moves:=t.movedTo m,plain:=t.plain },(List.range (m+1)).filter fun j=>(f j).isSome,?_,po,rfl,?_,lpl,rfl,rfl,rfl,rfl⟩
 ·unfold relayAll
  rw [r1]
  dsimp only
  have c1:coversAll (vals m owner).toArray es.size=true:=by
   unfold coversAll
   rw [List.isPerm_iff]
   exact e3
  have c2:SetTable.fits { mask:=m,place:=((List.range (m+1)).filter fun j=>(f j).isSome).toArray,dummies:=#[],finger:=t.finger,led:=t.led,moves:=t.movedTo m,plain:=t.plain } ((vals m owner).toArray.filterMap (fun (i:Nat)=>es[i]?)).size=true:=by
   unfold SetTable.fits SetTable.fill
   rw [so]
   simp only [List.size_toArray,lpl]
   simpa using hn
  rw [c1,c2]
  rfl
 ·exact List.Pairwise.filter _ List.pairwise_lt_range
end ZS
namespace ZS
open PySem
end ZS
namespace ZS
open PySem
end ZS
namespace L2
open PySem PySem.Spec PyProof.Rows ZS
def eA (m:Nat):Bool:=m == 7 || m == 31 || m == 127 || m == 511
theorem rh {m:Nat} (h:eA m=true):full m=true:=by
 simp only [eA,Bool.or_eq_true,beq_iff_eq] at h
 rcases h with ((h | h) | h) | h<;>subst h
 ·exact DN
 ·exact z7
 ·exact yi
 ·exact zf
def iA (w:World) (h:Heap) (a:Addr) (ks:List Int):Prop:=
 ∃ (o:Obj) (es:Array (Int×Value)) (ep:Nat) (t:SetTable) (pl:List Nat),h.get? a=some o∧o.ExactSet∧o.data=.set es ep t∧eA t.mask=true∧t.dummies=#[]∧t.plain=true∧t.led=!(w.params.followText "set-order") ∧
  t.place=pl.toArray∧(Ri pl∧pl.length=ks.length∧ks.length * 5 < t.mask * 3)∧IntsAre (es.toList.map Prod.snd) ks∧(∀ e∈es.toList,∃ k,Value.isInt k e.2=true∧e.1=hashInt k)∧ks.Nodup∧ks.length≤300
theorem cA:∀ {vs:List Value} {ns:List Int},IntsAre vs ns→vs.length=ns.length
 | _,_,.nil=>rfl
 | _,_,.cons n t r=>by simp [cA r]
theorem fits_of {t:SetTable} {n:Nat} (h2:t.dummies=#[]) (h3:t.place.size=n) (hn:n≤t.mask):t.fits n=true:=by
 unfold SetTable.fits SetTable.fill
 rw [h2,h3]
 simp
 omega
theorem ic {k:Int} {t:Tok}:Value.isInt k (.int k t)=true:=by simp [Value.isInt]
theorem isInt_iff {k j:Int} {t:Tok}:Value.isInt k (.int j t)=true↔k=j:=by
 constructor
 ·intro h
  obtain ⟨t',e⟩:=Value.isInt_shape h
  cases e;rfl
 ·rintro rfl;exact ic
theorem jR:∀ {es:List (Int×Value)} {ks:List Int} {k:Int},IntsAre (es.map Prod.snd) ks→(k∈ks↔(es.findIdx? fun e=>Value.isInt k e.2).isSome=true)
 | [],_,k,r=>by cases r;simp
 | e :: es,_,k,r=>by
  obtain ⟨h,v⟩:=e
  cases r with
  | cons n t r=>
   have ih:=jR (k:=k) r
   rw [List.findIdx?_cons]
   by_cases hk:k=n
   ·subst hk
    simp [ic]
   ·have:Value.isInt k (.int n t)=false:=by rw [← Bool.not_eq_true,isInt_iff];exact hk
    simp only [this,List.mem_cons,hk,false_or]
    rw [ih]
    simp
theorem jD {α:Type} (xs:Array α) (p:Nat) (x:α) (hp:p≤xs.size):(SetTable.insertAt xs p x).toList=xs.toList.take p++x :: xs.toList.drop p:=by
 unfold SetTable.insertAt
 simp
 rw [List.take_of_length_le (by simp)]
section
variable {prog:Program} {w:World} {A:Around} {E:Value→Shared→Prop} {s:Shared}
theorem IntsAre.app:∀ {vs us:List Value} {ns ms:List Int},IntsAre vs ns→IntsAre us ms→IntsAre (vs++us) (ns++ms)
 | _,_,_,_,.nil,r=>r
 | _,_,_,_,.cons n t q,r=>.cons n t (IntsAre.app q r)
theorem IntsAre.xI:∀ {vs:List Value} {ns:List Int} (p:Nat),IntsAre vs ns→IntsAre (vs.take p) (ns.take p)
 | _,_,0,_=>.nil
 | _,_,_+1,.nil=>.nil
 | _,_,p+1,.cons n t q=>.cons n t (IntsAre.xI p q)
theorem IntsAre.xJ:∀ {vs:List Value} {ns:List Int} (p:Nat),IntsAre vs ns→IntsAre (vs.drop p) (ns.drop p)
 | _,_,0,r=>r
 | _,_,_+1,.nil=>.nil
 | _,_,p+1,.cons _ _ q=>IntsAre.xJ p q
theorem nS:∀ {vs us:List Value},List.Perm vs us→∀ {ns:List Int},IntsAre us ns→∃ ms,IntsAre vs ms∧List.Perm ms ns:=by
 intro vs us hp
 induction hp with
 | nil=>intro ns r;exact ⟨ns,r,.refl _⟩
 | cons x _ ih=>
  intro ns r
  cases r with
  | cons n t r=>
   obtain ⟨ms,a,b⟩:=ih r
   exact ⟨n :: ms,.cons n t a,b.cons n⟩
 | swap x y l=>
  intro ns r
  cases r with
  | cons n t r=>cases r with
   | cons n' t' r=>exact ⟨n' :: n :: _,.cons n' t' (.cons n t r),.swap ..⟩
 | trans _ _ ih1 ih2=>
  intro ns r
  obtain ⟨ms,a,b⟩:=ih2 r
  obtain ⟨ms',a',b'⟩:=ih1 a
  exact ⟨ms',a',b'.trans b⟩
theorem wj {t':SetTable} {es':Array (Int×Value)} {n:Nat} (hm:eA t'.mask=true) (hn:es'.size=n) (h1:¬n * 5 < t'.mask * 3) (h2:n * 5 < t'.mask * 3+5) (h3:n≤300) :
  eA (SetTable.sizeAbove (SetTable.grown n) - 1)=true∧n * 5 < (SetTable.sizeAbove (SetTable.grown n) - 1) * 3:=by
 simp only [eA,Bool.or_eq_true,beq_iff_eq] at hm
 rcases hm with ((hm | hm) | hm) | hm<;>rw [hm] at h1 h2
 ·have:n=5:=by omega
  subst this;decide +kernel
 ·have:n=19:=by omega
  subst this;decide +kernel
 ·have:n=77:=by omega
  subst this;decide +kernel
 ·omega
theorem vR {a:Addr} {ks:List Int} {k:Int} {tk:Tok} {Q:Bool→Shared→Prop} (hS:iA w s.heap a ks) (hl:k∉ks→ks.length < 300)
  (h:∀ (h':Heap) (ks':List Int) (b:Bool),Heap.SameBut a s.heap h'→iA w h' a ks'→(∀ x,x∈ks'↔x∈ks∨x=k)→(k∈ks→ks'.length=ks.length)→(k∉ks→ks'.length=ks.length+1)→Q b { s with heap:=h',toks:=s.toks+1 }) :
  wpAny (model prog w) A (setAdd a (.int k tk)) Q E s:=by
 obtain ⟨o,es,ep,t,pl,g1,g2,g3,g4,g5,g6,g7,g8,g9,g10,g11,g12,g13⟩:=hS
 obtain ⟨g9,lpl,g14⟩:=g9
 have hmask:=rh g4
 have lks:es.size=ks.length:=by
  have:=cA g10
  rw [List.length_map,Array.length_toList] at this
  exact this
 have hmk:7≤t.mask:=by
  have q:=g4
  simp only [eA,Bool.or_eq_true,beq_iff_eq] at q
  omega
 have hfit:t.fits es.size=true:=fits_of g5 (by rw [g8,lks];simpa using lpl) (by omega)
 have hel:ElemsOf (intKind prog w) es.toList:=fun e he=>by
  obtain ⟨k',e1,e2⟩:=g11 e he
  refine ⟨⟨k',e1,e2⟩,?_⟩
  obtain ⟨t',e'⟩:=Value.isInt_shape e1
  rw [e'];rfl
 have hint:(intKind prog w).is k (.int k tk)=true:=ic (k:=k) (t:=tk)
 unfold setAdd
 refine wpAny_holding (wpAny_bind ((intKind prog w).pyHash (k:=k) (v:=.int k tk) hint ?_))
 unfold setAddHashed
 refine wpAny_holding ?_
 show wpAny _ _ (setAddHashedIn a (.int k tk) _ (99999+1)) _ _ _
 rw [setAddHashedIn.eq_2]
 refine wpAny_bind (wpAny_setState_of g1 g3 hfit ?_)
 show wpAny _ _ (if byScan (.int k tk) es=true then _ else _) _ _ _
 rw [if_pos (byScan_of (knd:=intKind prog w) rfl (by unfold scanBound;omega) hel)]
 refine wpAny_bind ?_
 unfold setAddByScan
 refine wpAny_bind (wpAny_rule (wpAny_bind (wpAny_setScan_of (knd:=intKind prog w) (k:=k) hint g1 g3 hfit hel ?_)))
 have hfi:=jR (k:=k) g10
 by_cases hm:k∈ks
 ·have hs:=hfi.mp hm
  cases hf:List.findIdx? (fun e=>(intKind prog w).is k e.snd) es.toList with
  | none=>
   have hf':List.findIdx? (fun e:Int×Value=>Value.isInt k e.2) es.toList=none:=hf
   rw [hf'] at hs;cases hs
  | some j=>
   refine wpAny_pure (wpAny_pure ?_)
   exact h s.heap ks false (Heap.SameBut.refl ..) ⟨o,es,ep,t,pl,g1,g2,g3,g4,g5,g6,g7,g8,⟨g9,lpl,g14⟩,g10,g11,g12,g13⟩ (fun x=>⟨.inl,fun z=>z.elim id fun e=>e ▸ hm⟩) (fun _=>rfl) (fun z=>absurd hm z)
 ·have hl3:=hl hm
  have hnone:List.findIdx? (fun e=>(intKind prog w).is k e.snd) es.toList=none:=by
   have hf':List.findIdx? (fun e:Int×Value=>Value.isInt k e.2) es.toList=none:=by
    cases hf:List.findIdx? (fun e:Int×Value=>Value.isInt k e.2) es.toList with
    | none=>rfl
    | some j=>exact absurd (hfi.mpr (by rw [hf];rfl)) hm
   exact hf'
  rw [hnone]
  obtain ⟨j,hfree,hjl⟩:=tV g8 g9 g5 hmask (show pl.length≤t.mask by omega) (hashInt k)
  obtain ⟨p,hple,hpb,hpa,hpc⟩:=uj g9 j
  have hp:SetTable.below pl.toArray j=p:=hpb
  have les0:es.size=pl.length:=by omega
  have riN:Ri (pl.take p++j :: pl.drop p):=uf g9 hjl hpa hpc
  have liN:(SetTable.insertAt pl.toArray p j).toList=pl.take p++j :: pl.drop p:=by
   have:=jD pl.toArray p j (by simpa using hple)
   simpa using this
  refine show _ from ?_
  ·have hput:t.put j=({ mask:=t.mask,place:=SetTable.insertAt t.place p j,dummies:=#[],finger:=t.finger,led:=t.led,moves:=t.moves,plain:=t.plain },p):=by
    unfold SetTable.put
    rw [g8,hp,g5]
    rfl
   generalize ht':({ mask:=t.mask,place:=SetTable.insertAt t.place p j,dummies:=#[],finger:=t.finger,led:=t.led,moves:=t.moves,plain:=t.plain }:SetTable)=t' at hput
   have m1:t'.mask=t.mask:=by rw [← ht']
   have m2:t'.dummies=#[]:=by rw [← ht']
   have m3:t'.plain=true:=by rw [← ht'];exact g6
   have m4:t'.led=!(w.params.followText "set-order"):=by rw [← ht'];exact g7
   have m5:t'.place=(pl.take p++j :: pl.drop p).toArray:=by rw [← ht',g8,← liN]
   have lpl':(pl.take p++j :: pl.drop p).length=ks.length+1:=by simp;omega
   have les:(SetTable.insertAt es p (hashInt k,Value.int k tk)).toList=es.toList.take p++(hashInt k,Value.int k tk) :: es.toList.drop p:=jD _ _ _ (by omega)
   generalize hes:SetTable.insertAt es p (hashInt k,Value.int k tk)=es' at les
   have lsz:es'.size=ks.length+1:=by
    rw [← Array.length_toList,les]
    simp
    omega
   have hfit':t'.fits es'.size=true:=fits_of m2 (by rw [m5,lsz];simpa using lpl') (by omega)
   have hlay:layNew t es (hashInt k) (.int k tk)=(es',t',false,false):=by
    unfold layNew
    rw [hfree]
    simp only [hput,hes]
    unfold SetTable.orStandIn
    rw [if_pos hfit',hfit']
    rfl
   have hlay2:layNew t es ((intKind prog w).hash k) (.int k tk)=(es',t',false,false):=hlay
   rw [hlay2]
   dsimp only
   refine wpAny_bind (wpAny_pure ?_)
   rw [if_pos m3,hashByValue_scannable 8 (x:=.int k tk) rfl]
   refine wpAny_bind (wpAny_pure ?_)
   have hpk:plainKind (Value.int k tk)=true:=rfl
   rw [if_pos hpk]
   have h1000:(1000:Nat)≤sizeLine:=Nat.le_of_lt (d4 (Nat.le_refl 1000))
   have hsz:¬es'.size > sizeLine:=by rw [lsz];omega
   have i1:IntsAre (es'.toList.map Prod.snd) (ks.take p++k :: ks.drop p):=by
    rw [les,List.map_append,List.map_cons,List.map_take,List.map_drop]
    exact IntsAre.app (IntsAre.xI p g10) (.cons k tk (IntsAre.xJ p g10))
   have i2:∀ e∈es'.toList,∃ k,Value.isInt k e.2=true∧e.1=hashInt k:=by
    intro e he
    rw [les] at he
    rcases List.mem_append.mp he with z | z
    ·exact g11 e (List.mem_of_mem_take z)
    ·rcases List.mem_cons.mp z with z | z
     ·rw [z];exact ⟨k,ic,rfl⟩
     ·exact g11 e (List.mem_of_mem_drop z)
   have hperm:List.Perm (ks.take p++k :: ks.drop p) (k :: ks):=by
    have:=List.perm_middle (a:=k) (l₁:=ks.take p) (l₂:=ks.drop p)
    rw [List.take_append_drop] at this
    exact this
   have kl:(ks.take p++k :: ks.drop p).length=ks.length+1:=by rw [hperm.length_eq];rfl
   have i3:(ks.take p++k :: ks.drop p).Nodup:=by
    rw [hperm.nodup_iff,List.nodup_cons]
    exact ⟨hm,g12⟩
   have i4:∀ x,x∈ks.take p++k :: ks.drop p↔x∈ks∨x=k:=by
    intro x
    rw [hperm.mem_iff,List.mem_cons]
    exact or_comm
   generalize hks:ks.take p++k :: ks.drop p=ks' at i1 kl i3 i4
   have hfill:t'.fill=ks.length+1:=by
    unfold SetTable.fill
    rw [m2,m5]
    simp only [List.size_toArray,lpl']
    rfl
   have putS:∀ (e2:Array (Int×Value)) (t2:SetTable) (o2:Obj) (e1:Array (Int×Value)) (n1:Nat) (t1:SetTable),o2.data=.set e1 n1 t1→Obj.putSet e2 t2 o2={ o2 with data:=.set e2 (n1+1) t2 }:=by
    intro e2 t2 o2 e1 n1 t1 hd
    obtain ⟨oc,od,oda,osl⟩:=o2
    have hd':oda=.set e1 n1 t1:=hd
    subst hd'
    rfl
   refine wpAny_bind ?_
   unfold storeSet
   refine wpAny_bind (wpAny_load' g1 ?_)
   rw [g3]
   dsimp only
   rw [if_neg hsz]
   refine wpAny_update' g1 ?_
   have hupd:=putS es' t' o es ep t g3
   have gN:(s.heap.update a (Obj.putSet es' t')).get? a=some { o with data:=.set es' (ep+1) t' }:=by
    rw [← hupd]
    exact Heap.get?_update_self _ g1 (by rw [hupd];rfl)
   have sbN:Heap.SameBut a s.heap (s.heap.update a (Obj.putSet es' t')):=Heap.SameBut.update ..
   by_cases hfull:(ks.length+1) * 5 < t.mask * 3
   ·have hf0:(!false && t'.tooFull)=false:=by
     unfold SetTable.tooFull
     rw [hfill,m1]
     simp
     omega
    rw [hf0]
    rw [if_neg (by simp)]
    refine wpAny_pure (wpAny_pure ?_)
    exact h _ ks' true sbN ⟨_,es',ep+1,t',_,gN,g2,rfl,by rw [m1];exact g4,m2,m3,m4,m5,⟨riN,by rw [lpl',kl],by rw [kl,m1];exact hfull⟩,i1,i2,i3,by omega⟩ i4 (fun z=>absurd z hm) (fun _=>kl)
   ·have hf1:(!false && t'.tooFull)=true:=by
     unfold SetTable.tooFull
     rw [hfill,m1]
     simp
     omega
    rw [hf1]
    rw [if_pos rfl]
    obtain ⟨w1,w2⟩:=wj (t':=t') (es':=es') (n:=ks.length+1) (by rw [m1];exact g4) lsz (by rw [m1];exact hfull) (by rw [m1];omega) (by omega)
    rw [lsz]
    obtain ⟨e2,t2,l2,r1,r2,r3,r4,r5,r6,r7,r8,r9⟩:=wq (t:=t') (es:=es') (wanted:=SetTable.grown (ks.length+1)) (rh w1) (by rw [lsz];omega)
    rw [r1]
    dsimp only
    have lsz2:e2.size=ks.length+1:=by rw [← Array.length_toList,r2.length_eq,Array.length_toList,lsz]
    obtain ⟨ks2,j1,j2⟩:=nS (r2.map Prod.snd) i1
    refine wpAny_bind (wpAny_pure ?_)
    refine wpAny_bind ?_
    refine wpAny_bind (wpAny_load' gN ?_)
    dsimp only
    rw [if_neg (by rw [lsz2];omega)]
    refine wpAny_update' gN ?_
    refine wpAny_pure (wpAny_pure ?_)
    have gM:((s.heap.update a (Obj.putSet es' t')).update a (Obj.putSet e2 t2)).get? a=some { o with data:=.set e2 (ep+1+1) t2 }:=by
     have hq:=putS e2 t2 { o with data:=.set es' (ep+1) t' } es' (ep+1) t' rfl
     rw [← hq]
     exact Heap.get?_update_self _ gN (by rw [hq];rfl)
    refine h _ ks2 true (sbN.trans (Heap.SameBut.update ..)) ⟨_,e2,ep+1+1,t2,l2,gM,g2,rfl,by rw [r7];exact w1,r6,by rw [r8];exact m3,by rw [r9];exact m4,r3,⟨r4,by rw [r5,lsz,j2.length_eq,kl],by rw [r7,j2.length_eq,kl];exact w2⟩,j1,fun e he=>i2 e (r2.mem_iff.mp he),j2.nodup_iff.mpr i3,by rw [j2.length_eq,kl];omega⟩ (fun x=>by rw [j2.mem_iff];exact i4 x) (fun z=>absurd z hm) (fun _=>by rw [j2.length_eq,kl])
end
section
variable {prog:Program} {w:World} {A:Around} {E:Value→Shared→Prop} {s:Shared}
theorem iA.at {h h':Heap} {S:Addr} {ks:List Int} (H:iA w h S ks) (k:∀ o,h.get? S=some o→h'.get? S=some o):iA w h' S ks:=by
 obtain ⟨o,es,ep,t,pl,g1,r⟩:=H
 exact ⟨o,es,ep,t,pl,k o g1,r⟩
theorem nA {R:Result→Shared→Prop} {I:Addr} {fp wr:List Addr} {n:Nat} {P:Nat→Value→Prop} {St:Nat→Heap→Prop} (W:Walks prog w A.in1 I fp wr n P St) (S:Addr) (hSf:S∉fp) (val:Nat→Int) (hval:∀ i v,P i v→∃ t,v=Value.int (val i) t) (hn:n≤300) :
  ∀ (k i:Nat) (s:Shared) (ks:List Int),n - i=k→i≤n→St i s.heap→iA w s.heap S ks→(∀ x,x∈ks↔∃ j,j < i∧val j=x)→ks.length≤i →
   (∀ (h':Heap) (tk:Nat) (ks':List Int),(∀ b o,b≠S→b∉wr→s.heap.get? b=some o→h'.get? b=some o)→iA w h' S ks'→(∀ x,x∈ks'↔∃ j,j < n∧val j=x)→R (.ok (.ret .none)) { s with heap:=h',toks:=tk }) →
   codeAny (model prog w) A (Code.builtin "set.update.loop" ⟨[.ref S,.ref I],[]⟩) R s:=by
 have hSw:S∉wr:=fun h=>hSf (W.sub S h)
 intro k
 induction k with
 | zero=>
  intro i s ks hk hi hst hS hks hlen hR
  have hin:i=n:=by omega
  subst hin
  refine codeAny_builtin F.entry_set_update_loop ?_
  rw [Around.under_plainId F.plain_set_update_loop]
  refine (show wpAny _ _ (pyNext (.ref I)>>=_) _ _ _ from wpAny_bind (W.done s _ _ hst fun h' tk hk'=>?_))
  exact wpAny_pure (hR h' tk ks (fun b o _ hw e=>hk' b o hw e) (hS.at fun o e=>hk' S o hSw e) hks)
 | succ k ih=>
  intro i s ks hk hi hst hS hks hlen hR
  refine codeAny_builtin F.entry_set_update_loop ?_
  rw [Around.under_plainId F.plain_set_update_loop]
  refine (show wpAny _ _ (pyNext (.ref I)>>=_) _ _ _ from wpAny_bind (W.item i s _ _ (by omega) hst fun v h' tk hP hst' hk'=>?_))
  obtain ⟨t,rfl⟩:=hval i v hP
  refine (show wpAny _ _ (holding [Value.int (val i) t] (setAdd S (.int (val i) t))>>=_) _ _ _ from wpAny_bind (wpAny_holding ?_))
  refine vR (s:={ s with heap:=h',toks:=tk }) (hS.at fun o e=>hk' S o hSw e) (fun _=>by omega) fun h2 ks2 b sb hS2 hm l1 l2=>?_
  refine wpAny_pure ⟨plainId_quiet F.plain_set_update_loop _,ih (i+1) _ ks2 (by omega) (by omega) ?_ hS2 ?_ ?_ fun h3 tk3 ks3 q1 q2 q3=>?_⟩
  ·exact W.frame _ _ _ hst' fun b hb' o e=>sb.extBut b o (fun z=>hSf (z ▸ hb')) e
  ·intro x
   rw [hm,hks]
   constructor
   ·rintro (⟨j,h1,h2⟩ | rfl)
    ·exact ⟨j,by omega,h2⟩
    ·exact ⟨i,by omega,rfl⟩
   ·rintro ⟨j,h1,h2⟩
    by_cases e:j=i
    ·subst e;exact .inr h2.symm
    ·exact .inl ⟨j,by omega,h2⟩
  ·by_cases hin:val i∈ks
   ·have:=l1 hin;omega
   ·have:=l2 hin;omega
  ·exact hR h3 tk3 ks3 (fun b o hb1 hb2 e=>q1 b o hb1 hb2 (sb.extBut b o hb1 (hk' b o hb2 e))) q2 q3
theorem n3 (a:Value) {Q₁:Value→Shared→Prop}
  (h:Q₁ (.ref s.heap.objs.size) { s with heap:=s.heap.push { cls:=.type "set",data:=.set #[] 0 (SetTable.fresh 0 0 (!(w.params.followText "set-order"))) } }) :
  codeAny (model prog w) A (Code.call (.builtin "set.__new__") ⟨[.type "set",a],[]⟩) (wants Q₁ E) s:=by
 refine codeAny_of_tree ?_
 refine (show wpAny _ _ (checkBuiltinCall "set.__new__" ⟨[.type "set",a],[]⟩>>=_) _ _ _ from wpAny_bind (wpAny_of_eq (F.newCall_set_1 a) (wpAny_pure ⟨plainId_quiet F.plain_set_new _,codeAny_builtin F.entry_set_new ?_⟩)))
 rw [Around.under_plainId F.plain_set_new]
 have hsub:=sub_set_self
 refine (show wpAny _ _ (Builtin.Frozenset.newClass "set" _>>=_) _ _ _ from wpAny_bind ?_)
 unfold Builtin.Frozenset.newClass
 refine wpAny_bind (wpAny_pure ?_)
 refine wpAny_ite_false rfl (wpAny_bind (wpAny_of_eq hsub (wpAny_ite_false rfl (wpAny_pure ?_))))
 refine (show wpAny _ _ (newSet (.type "set")>>=_) _ _ _ from wpAny_bind ?_)
 unfold newSet
 refine wpAny_bind ?_
 unfold setsByText
 refine wpAny_bind (wpAny_askSetting (wpAny_pure ?_))
 exact (show wpAny _ _ (newObj (.type "set") (Data.set #[] 0 (SetTable.fresh 0 0 (!(w.params.followText "set-order"))))) _ _ _ from wpAny_newObj_type (wpAny_pure h) (by first | size_fits | (intro _;decide)))
theorem iz:∀ {vs:List Value} {ns:List Int} {i:Nat} {v:Value},IntsAre vs ns→vs[i]?=some v→∃ t,v=Value.int (ns.getD i 0) t
 | _,_,_,_,.nil,e=>by simp at e
 | _,_,0,_,.cons n t _,e=>⟨t,by simpa using e.symm⟩
 | _,_,i+1,v,.cons n t r,e=>by
  obtain ⟨t',e'⟩:=iz (i:=i) (v:=v) r (by simpa using e)
  exact ⟨t',by simpa using e'⟩
def qc (h:Heap) (l:Addr) (items:Array Value) (k:Bool):Prop:=if k=true then h.IsList l items else h.IsTuple l items
theorem uT {S l:Addr} {items:Array Value} {ns:List Int} {F:PySem.Fin→Shared→Prop} {hp:Heap} {g:Array GenState} {d:Drawn} {tk:Nat} {os:OsState} (hh:A.handled=none) (hS:hp.get? S=some { cls:=.type "set",data:=.set #[] 0 (SetTable.fresh 0 0 (!(w.params.followText "set-order"))) }) (k:Bool) (hl:qc hp l items k) (hi:IntsAre items.toList ns) (hn:ns.length≤300)
    (h:∀ (h':Heap) (tk':Nat) (ks:List Int),iA w h' S ks→(∀ x,x∈ks↔x∈ns)→(∀ b o,b≠S→hp.get? b=some o→h'.get? b=some o)→F (.done (.ret .none)) ⟨h',g,d,tk',os⟩) :
    wpAny (model prog w) A (Builtin.«set.__init__» ⟨[.ref S,.ref l],[]⟩) F E ⟨hp,g,d,tk,os⟩:=by
  cases k with
  | false=>
    replace hl:hp.IsTuple l items:=hl
    have hT:Shared.TypeIs ⟨hp,g,d,tk,os⟩ (.ref S) "set":=⟨_,hS,rfl⟩
    have hTt:Shared.TypeIs ⟨hp,g,d,tk,os⟩ (.ref l) "tuple":=hl.typeIs
    unfold Builtin.«set.__init__»
    refine wpAny_bind ?_
    unfold noKeywords
    refine wpAny_ite_true rfl (wpAny_pure ?_)
    dsimp only
    refine wpAny_bind ?_
    unfold typeNameOfCut
    refine wpAny_bind ?_
    unfold shownTypeOf
    refine wpAny_bind (wpAny_typeOf hT ?_)
    first
    | refine wpAny_ite_false rfl (wpAny_pure ?_)
    | refine wpAny_pure ?_
    refine (show wpAny _ _ (pure _) _ _ _ from wpAny_pure ?_)
    refine wpAny_bind ?_
    unfold checkCount
    refine wpAny_ite_false rfl (wpAny_ite_false rfl (wpAny_ite_false rfl (wpAny_pure ?_)))
    refine wpAny_bind (wpAny_pure ?_)
    refine wpAny_bind ?_
    unfold setUsed
    refine wpAny_bind (wpAny_setState_of hS rfl (by rfl) (wpAny_pure ?_))
    refine wpAny_ite_false rfl ?_
    refine wpAny_bind ?_
    unfold Builtin.Frozenset.updateFrom
    refine wpAny_bind ?_
    unfold Builtin.Frozenset.isAnySet
    refine (show wpAny _ _ (isInstance (.ref l) (.type "set")>>=_) _ _ _ from wpAny_bind (wpAny_isInstance hTt PySem.F.sub_tuple_set ?_))
    refine (show wpAny _ _ (isInstance (.ref l) (.type "frozenset")) _ _ _ from wpAny_isInstance hTt PySem.F.sub_tuple_frozenset ?_)
    refine wpAny_ite_false rfl (wpAny_bind (wpAny_typeOf hTt (wpAny_ite_false rfl (wpAny_bind (wpAny_pyIter_tuple hl ?_)))))
    refine wpAny_bind (wpAny_runValue ?_)
    have hlt:S < hp.objs.size:=Heap.lt_size hS
    obtain ⟨o,ho,hor⟩:=hl
    have hlt2:l < hp.objs.size:=Heap.lt_size ho
    have hne:l≠hp.objs.size:=Nat.ne_of_lt hlt2
    have W:=Walks.tuple (prog:=prog) (w:=w) (A:=A.in1) hh hp.objs.size l hne items
    have lit:items.size=ns.length:=by rw [← Array.length_toList];exact cA hi
    have hSl:S≠l:=fun e=>by
      rw [e,ho] at hS
      cases hS
      exact absurd (Value.type.inj hor.1) (by decide)
    refine nA W S (by simp only [List.mem_cons,List.not_mem_nil,or_false,not_or];exact ⟨Nat.ne_of_lt hlt,hSl⟩) (fun i=>ns.getD i 0) ?_ (by omega) items.size 0 _ [] (by omega) (Nat.zero_le _) ?_ ?_ ?_ (Nat.le_refl 0) ?_
    · intro i v hv
      exact iz hi (by simpa using hv)
    · exact ⟨⟨_,Heap.get?_push_size _ rfl,rfl,rfl⟩,⟨o,Heap.get?_push_of_some _ ho,hor⟩⟩
    · refine ⟨_,#[],0,_,[],Heap.get?_push_of_some _ hS,⟨rfl,rfl,rfl⟩,rfl,(show eA 7=true by decide),rfl,rfl,rfl,rfl,⟨List.Pairwise.nil,rfl,(show 0 * 5 < 7 * 3 by decide)⟩,.nil,by simp,List.nodup_nil,by simp⟩
    · intro x
      simp
    · intro h' tk' ks' q1 q2 q3
      refine wpAny_pure (wpAny_pure (h h' tk' ks' q2 ?_ ?_))
      · intro x
        rw [q3]
        constructor
        · rintro ⟨j,hj,rfl⟩
          show ns.getD j 0∈ns
          rw [List.getD_eq_getElem?_getD,List.getElem?_eq_getElem (show j < ns.length by omega)]
          exact List.getElem_mem _
        · intro hx
          obtain ⟨j,hj,e⟩:=List.mem_iff_getElem.mp hx
          refine ⟨j,by omega,?_⟩
          show ns.getD j 0=x
          rw [List.getD_eq_getElem?_getD,List.getElem?_eq_getElem hj]
          exact e
      · intro b o' hbS e
        refine q1 b o' hbS ?_ (Heap.get?_push_of_some _ e)
        simp only [List.mem_singleton]
        exact Nat.ne_of_lt (Heap.lt_size e)
  | true=>
    replace hl:hp.IsList l items:=hl
    have hT:Shared.TypeIs ⟨hp,g,d,tk,os⟩ (.ref S) "set":=⟨_,hS,rfl⟩
    have hTt:Shared.TypeIs ⟨hp,g,d,tk,os⟩ (.ref l) "list":=hl.typeIs
    unfold Builtin.«set.__init__»
    refine wpAny_bind ?_
    unfold noKeywords
    refine wpAny_ite_true rfl (wpAny_pure ?_)
    dsimp only
    refine wpAny_bind ?_
    unfold typeNameOfCut
    refine wpAny_bind ?_
    unfold shownTypeOf
    refine wpAny_bind (wpAny_typeOf hT ?_)
    first
    | refine wpAny_ite_false rfl (wpAny_pure ?_)
    | refine wpAny_pure ?_
    refine (show wpAny _ _ (pure _) _ _ _ from wpAny_pure ?_)
    refine wpAny_bind ?_
    unfold checkCount
    refine wpAny_ite_false rfl (wpAny_ite_false rfl (wpAny_ite_false rfl (wpAny_pure ?_)))
    refine wpAny_bind (wpAny_pure ?_)
    refine wpAny_bind ?_
    unfold setUsed
    refine wpAny_bind (wpAny_setState_of hS rfl (by rfl) (wpAny_pure ?_))
    refine wpAny_ite_false rfl ?_
    refine wpAny_bind ?_
    unfold Builtin.Frozenset.updateFrom
    refine wpAny_bind ?_
    unfold Builtin.Frozenset.isAnySet
    refine (show wpAny _ _ (isInstance (.ref l) (.type "set")>>=_) _ _ _ from wpAny_bind (wpAny_isInstance hTt PySem.F.sub_list_set ?_))
    refine (show wpAny _ _ (isInstance (.ref l) (.type "frozenset")) _ _ _ from wpAny_isInstance hTt PySem.F.sub_list_frozenset ?_)
    refine wpAny_ite_false rfl (wpAny_bind (wpAny_typeOf hTt (wpAny_ite_false rfl (wpAny_bind (wpAny_pyIter_list hl ?_)))))
    refine wpAny_bind (wpAny_runValue ?_)
    have hlt:S < hp.objs.size:=Heap.lt_size hS
    obtain ⟨o,ho,hor⟩:=hl
    have hlt2:l < hp.objs.size:=Heap.lt_size ho
    have hne:l≠hp.objs.size:=Nat.ne_of_lt hlt2
    have W:=Walks.list (prog:=prog) (w:=w) (A:=A.in1) hh hp.objs.size l hne items
    have lit:items.size=ns.length:=by rw [← Array.length_toList];exact cA hi
    have hSl:S≠l:=fun e=>by
      rw [e,ho] at hS
      cases hS
      exact absurd (Value.type.inj hor.1) (by decide)
    refine nA W S (by simp only [List.mem_cons,List.not_mem_nil,or_false,not_or];exact ⟨Nat.ne_of_lt hlt,hSl⟩) (fun i=>ns.getD i 0) ?_ (by omega) items.size 0 _ [] (by omega) (Nat.zero_le _) ?_ ?_ ?_ (Nat.le_refl 0) ?_
    · intro i v hv
      exact iz hi (by simpa using hv)
    · exact ⟨⟨_,Heap.get?_push_size _ rfl,rfl,rfl⟩,⟨o,Heap.get?_push_of_some _ ho,hor⟩⟩
    · refine ⟨_,#[],0,_,[],Heap.get?_push_of_some _ hS,⟨rfl,rfl,rfl⟩,rfl,(show eA 7=true by decide),rfl,rfl,rfl,rfl,⟨List.Pairwise.nil,rfl,(show 0 * 5 < 7 * 3 by decide)⟩,.nil,by simp,List.nodup_nil,by simp⟩
    · intro x
      simp
    · intro h' tk' ks' q1 q2 q3
      refine wpAny_pure (wpAny_pure (h h' tk' ks' q2 ?_ ?_))
      · intro x
        rw [q3]
        constructor
        · rintro ⟨j,hj,rfl⟩
          show ns.getD j 0∈ns
          rw [List.getD_eq_getElem?_getD,List.getElem?_eq_getElem (show j < ns.length by omega)]
          exact List.getElem_mem _
        · intro hx
          obtain ⟨j,hj,e⟩:=List.mem_iff_getElem.mp hx
          refine ⟨j,by omega,?_⟩
          show ns.getD j 0=x
          rw [List.getD_eq_getElem?_getD,List.getElem?_eq_getElem hj]
          exact e
      · intro b o' hbS e
        refine q1 b o' hbS ?_ (Heap.get?_push_of_some _ e)
        simp only [List.mem_singleton]
        exact Nat.ne_of_lt (Heap.lt_size e)
theorem ny {l:Addr} {items:Array Value} {ns:List Int} {Q:Value→Shared→Prop} (hh:A.handled=none) (k:Bool) (hl:qc s.heap l items k) (hi:IntsAre items.toList ns) (hn:ns.length≤300)
  (h:∀ (h':Heap) (tk:Nat) (ks:List Int),iA w h' s.heap.objs.size ks→(∀ x,x∈ks↔x∈ns)→(∀ b o,s.heap.get? b=some o→h'.get? b=some o)→Q (.ref s.heap.objs.size) { s with heap:=h',toks:=tk }):wpAny (model prog w) A (call (.type "set") [.ref l]) Q E s:=by
 obtain ⟨c,tl,hmro⟩:=F.called_set.mro
 have hmade:=F.called_set.made
 have hsub:=F.called_set.sub
 have h1:=F.called_set.notType
 have h2:=F.called_set.canCreate
 have hct:=F.typeCall_set_1 (Value.ref l)
 refine wpAny_call (codeAny_of_tree ?_)
 refine (show wpAny _ _ (pure (Fin.again (Code.builtin "type.__call__" ⟨[.type "set",.ref l],[]⟩))) _ _ _ from wpAny_pure ⟨Code.quiet_builtin _ (by decide +kernel),codeAny_builtin F.entry_type_call ?_⟩)
 rw [Around.under_plain (weight_type_call_type "set" [Value.ref l] []) rfl]
 unfold Builtin.«type.__call__»
 dsimp only
 refine wpAny_ite_false rfl (wpAny_ite_false (by rw [h2];rfl) (wpAny_bind (wpAny_of_eq hct (wpAny_bind (wpAny_of_eq hmro (wpAny_ite_false rfl (wpAny_bind (wpAny_of_eq hmade ?_))))))))
 dsimp only
 refine wpAny_bind (wpAny_pure (wpAny_bind (wpAny_holding (wpAny_call (codeAny_mono (n3 (E:=fun _ _=>False) (Q₁:=fun obj s₁=>obj=.ref s.heap.objs.size∧s₁={ s with heap:=s.heap.push { cls:=.type "set",data:=.set #[] 0 (SetTable.fresh 0 0 (!(w.params.followText "set-order"))) } }) (.ref l) ⟨rfl,rfl⟩) fun r s₁ hr=>?_)))))
 generalize hs1:({ s with heap:=s.heap.push { cls:=.type "set",data:=.set #[] 0 (SetTable.fresh 0 0 (!(w.params.followText "set-order"))) } }:Shared)=sN at hr
 cases r with
 | error e=>exact False.elim hr
 | ok f=>
  cases f with
  | ret v=>
   obtain ⟨e1,e2⟩:=hr
   subst e1 e2
   have hT:Shared.TypeIs s₁ (.ref s.heap.objs.size) "set":=by
    rw [← hs1]
    exact ⟨_,Heap.get?_push_size _ rfl,rfl⟩
   show wpAny _ _ _ _ _ _
   refine wpAny_bind (wpAny_isInstance (T:="set") (b:=true) hT hsub ?_)
   refine wpAny_ite_false rfl (wpAny_bind (wpAny_holding ?_))
   refine wpAny_callSpecial?_slot (name:=Str.ofString "__init__") hT F.called_set.init (wpAny_call (codeAny_call_builtin F.called_set.init.plain F.entry_set_init (check_set_init_1 hT ?_)))
   subst hs1
   obtain ⟨hp,g,d,tk,os⟩:=s
   refine uT (hp:=hp.push _) hh (Heap.get?_push_size _ rfl) k (by
    cases k with
    | false=>
     obtain ⟨o,e,r⟩:=(show Heap.IsTuple _ l items from hl)
     exact (show Heap.IsTuple _ l items from ⟨o,Heap.get?_push_of_some _ e,r⟩)
    | true=>
     obtain ⟨o,e,r⟩:=(show Heap.IsList _ l items from hl)
     exact (show Heap.IsList _ l items from ⟨o,Heap.get?_push_of_some _ e,r⟩)) hi hn fun h' tk' ks q1 q2 q3=>?_
   refine wpAny_ite_false rfl (wpAny_pure (h h' tk' ks q1 q2 fun b o e=>q3 b o (Nat.ne_of_lt (Heap.lt_size e)) (Heap.get?_push_of_some _ e)))
  | _=>exact False.elim hr
end
theorem bu:Slot "set_iterator" (Str.ofString "__next__") "set_iterator.__next__":=
 Slot.of (owner:="set_iterator") (n:="__next__") (by rw [typeLookup_type,builtinLookup_eq_fast];rfl) (by decide +kernel) (by decide +kernel) (by decide +kernel) (Or.inl (by decide +kernel)) (by rw [isSubtype_type];rfl) (by decide +kernel)
theorem dw:entryFor table "set_iterator.__next__"=some Builtin.«set_iterator.__next__»:=entryFor_of_tree (by rfl)
theorem mZ:entryFor table "set.__iter__"=some Builtin.«frozenset.__iter__»:=entryFor_alias (id':="frozenset.__iter__") (by rfl) (by decide +kernel) (by decide +kernel) (by rfl)
theorem ft:List.lookup (String.ofList "set_iterator".toList) Manifest.owners=some Manifest.sig_set_iterator:=by rfl
theorem dG (a:Value):argsOk "set_iterator.__next__" ⟨[a],[]⟩:=by
 have h:Manifest.signature? "set_iterator.__next__"=List.lookup (String.ofList (['_','_','t','x','e','n','_','_']:List Char).reverse) Manifest.sig_set_iterator:=signature?_of (o:=['r','o','t','a','r','e','t','i','_','t','e','s']) (by decide +kernel) ft
 unfold argsOk
 rw [h]
 rfl
theorem vL {prog:Program} {w:World} {A:Around} {E:Value→Shared→Prop} {s:Shared} {r:Addr} {Q:Bool→Shared→Prop} (hT:s.TypeIs (.ref r) "set") (h:Q false s):wpAny (model prog w) A (Builtin.List.listLengthHint (.ref r)) Q E s:=by
 unfold Builtin.List.listLengthHint
 refine wpAny_bind (wpAny_specialOf hT F.slot_set_len.lookup ?_)
 dsimp only
 rw [show splitId "set.__len__"=some ("set","__len__") by decide +kernel]
 dsimp only
 refine wpAny_bind (wpAny_isInstance hT F.called_set.sub (wpAny_ite_false rfl ?_))
 refine wpAny_ite_true rfl (wpAny_bind (wpAny_typeOf hT ?_))
 exact wpAny_pure h
theorem jm {α:Type}:∀ (l:List α) (k:Nat) (h:k < l.length),List.Perm (l[k] :: l.eraseIdx k) l
 | x :: l,0,_=>by simp
 | x :: l,k+1,h=>by
  have hk:k < l.length:=by simpa using h
  have ih:=jm l k hk
  simp only [List.getElem_cons_succ,List.eraseIdx_cons_succ]
  exact (List.Perm.swap ..).trans (List.Perm.cons x ih)
theorem rp {α:Type} (next:Nat→Nat):∀ (fuel a:Nat) (l:List α) (acc:Array α),fuel=l.length→List.Perm (pickOrder.go next fuel a l acc).toList (acc.toList++l)
 | 0,a,l,acc,h=>by
  have:l=[]:=List.eq_nil_of_length_eq_zero h.symm
  subst this
  rw [pickOrder.go.eq_1,List.append_nil]
 | fuel+1,a,l,acc,h=>by
  rw [pickOrder.go.eq_2]
  have hlt:next a % l.length < l.length:=Nat.mod_lt _ (by omega)
  rw [List.getElem?_eq_getElem hlt]
  refine (rp next fuel (a+1) (l.eraseIdx (next a % l.length)) (acc.push l[next a % l.length]) (by rw [List.length_eraseIdx_of_lt hlt];omega)).trans ?_
  rw [Array.toList_push,List.append_assoc]
  refine List.Perm.append_left _ ?_
  rw [List.singleton_append]
  exact jm l _ hlt
theorem t7 {α:Type} (next:Nat→Nat) (xs:Array α):List.Perm (pickOrder next xs).toList xs.toList:=by
 unfold pickOrder
 have:=rp next xs.size 0 xs.toList #[] (by simp)
 simpa using this
section
variable {prog:Program} {w:World} {A:Around} {E:Value→Shared→Prop} {s:Shared}
abbrev dD (w:World):Bool:=w.params.followText "set-order"
def orderOf (w:World) (S:Addr) (ep:Nat) (es:Array (Int×Value)):Array (Int×Value):=if dD w=true then pickOrder (w.params.setOrder S ep) es else es
theorem lR (w:World) (S:Addr) (ep:Nat) (es:Array (Int×Value)):List.Perm (orderOf w S ep es).toList es.toList:=by
 unfold orderOf
 split
 ·exact t7 _ _
 ·exact List.Perm.refl _
def slotAt (w:World) (pl:List Nat):Nat→Nat
 | 0=>0
 | i+1=>if dD w=true then 0 else pl.getD i 0+1
structure gW (w:World) (o:Obj) (es:Array (Int×Value)) (ep:Nat) (t:SetTable) (pl:List Nat):Prop where
 dat:o.data=.set es ep t
 cls:o.cls=.type "set"
 dum:t.dummies=#[]
 plain:t.plain=true
 led:t.led=!dD w
 place:t.place=pl.toArray
 ri:ZS.Ri pl
 lpl:pl.length=es.size
 room:es.size≤t.mask
 few:es.size≤300
def i7 (w:World) (S:Addr) (es:Array (Int×Value)) (ep:Nat) (pl:List Nat) (i:Nat):Obj:={ cls:=.type "set_iterator",data:=.fields #[rawInt (slotAt w pl i:Nat),rawInt (i:Nat),.ref S,rawInt (es.size:Nat),rawInt (ep:Nat)] }
theorem gW.fits {o:Obj} {es:Array (Int×Value)} {ep:Nat} {t:SetTable} {pl:List Nat} (H:gW w o es ep t pl):t.fits es.size=true:=
 fits_of H.dum (by rw [H.place];simpa using H.lpl) H.room
theorem r_ {pl:List Nat} {i:Nat} (h:ZS.Ri pl) (hi:i≤pl.length) (hw:dD w=false):SetTable.below pl.toArray (slotAt w pl i)=i:=by
 cases i with
 | zero=>exact ZS.sM
 | succ i=>
  show SetTable.below pl.toArray (if dD w=true then 0 else pl.getD i 0+1)=i+1
  rw [hw,if_neg (by simp),List.getD_eq_getElem?_getD,List.getElem?_eq_getElem (show i < pl.length by omega)]
  exact (ZS.nJ h (by omega)).1
theorem qv {S:Addr} {o:Obj} {es:Array (Int×Value)} {ep:Nat} {t:SetTable} {pl:List Nat} {i:Nat} {Q:Option (Value×Nat)→Shared→Prop} (H:gW w o es ep t pl) (hS:s.heap.get? S=some o) (hi:i≤es.size)
  (h:Q (((orderOf w S ep es)[i]?).map fun e=>(e.2,slotAt w pl (i+1))) s):wpAny (model prog w) A (setNext S (slotAt w pl i) i ep) Q E s:=by
 unfold setNext
 refine wpAny_bind (wpAny_setState_of hS H.dat H.fits ?_)
 dsimp only
 unfold setsByText
 refine wpAny_bind (wpAny_bind (wpAny_askSetting (wpAny_pure ?_)))
 show wpAny _ _ (if dD w=true then _ else _) _ _ _
 by_cases hb:dD w=true
 ·rw [if_pos hb]
  refine wpAny_ite_false (by simp) ?_
  refine wpAny_bind ?_
  unfold setWalk
  refine wpAny_bind (wpAny_setState_of hS H.dat H.fits ?_)
  dsimp only
  unfold setsByText
  refine wpAny_bind (wpAny_bind (wpAny_askSetting (wpAny_pure ?_)))
  show wpAny _ _ (if dD w=true then _ else _) _ _ _
  rw [if_pos hb]
  refine wpAny_bind (wpAny_askSetting (wpAny_pure (wpAny_pure ?_)))
  have e1:orderOf w S ep es=pickOrder (w.params.setOrder S ep) es:=by unfold orderOf;rw [if_pos hb]
  rw [e1] at h
  have e2:slotAt w pl (i+1)=slotAt w pl i:=by
   cases i with
   | zero=>simp [slotAt,hb]
   | succ j=>simp [slotAt,hb]
  rw [e2] at h
  exact h
 ·rw [if_neg hb]
  have hbf:dD w=false:=by simpa using hb
  refine wpAny_ite_false (by
   show decide ((!t.plain && decide (es.size > 1))=true)=false
   rw [H.plain]
   rfl) ?_
  refine wpAny_bind ?_
  refine wpAny_ite_false (by
   rw [H.led,hbf]
   rfl) (wpAny_pure (wpAny_pure ?_))
  have e1:orderOf w S ep es=es:=by unfold orderOf;rw [if_neg hb]
  rw [e1] at h
  have lpl:=H.lpl
  rw [H.place,r_ H.ri (by omega) hbf]
  by_cases hlt:i < es.size
  ·have a1:es[i]?=some es[i]:=by simp [hlt]
   have a2:pl.toArray[i]?=some (pl.getD i 0):=by
    rw [List.getElem?_toArray,List.getD_eq_getElem?_getD,List.getElem?_eq_getElem (show i < pl.length by omega)]
    rfl
   rw [a1] at h
   rw [a1,a2]
   have e3:slotAt w pl (i+1)=pl.getD i 0+1:=by simp [slotAt,hb]
   rw [e3] at h
   exact h
  ·have a1:es[i]?=none:=by simp;omega
   rw [a1] at h
   rw [a1]
   exact h
theorem gW.typeIs {o:Obj} {es:Array (Int×Value)} {ep:Nat} {t:SetTable} {pl:List Nat} {S:Addr} (H:gW w o es ep t pl) (hS:s.heap.get? S=some o):s.TypeIs (.ref S) "set":=⟨o,hS,H.cls⟩
theorem tj {S:Addr} {o:Obj} {es:Array (Int×Value)} {ep:Nat} {t:SetTable} {pl:List Nat} {Q:Value→Shared→Prop} (H:gW w o es ep t pl) (hS:s.heap.get? S=some o)
  (h:Q (.ref s.heap.objs.size) { s with heap:=s.heap.push (i7 w S es ep pl 0) }):wpAny (model prog w) A (pyIter (.ref S)) Q E s:=by
 refine wpAny_pyIter_slot (H.typeIs hS) F.slot_set_iter (wpAny_call_entry F.slot_set_iter (H.typeIs hS) mZ ?_ (F.args_set_iter_1 _))
 unfold Builtin.«frozenset.__iter__»
 refine wpAny_bind ?_
 unfold Builtin.Frozenset.slot0 slotArgs
 refine wpAny_bind (wpAny_ite_false rfl (wpAny_ite_false rfl (wpAny_pure ?_)))
 refine wpAny_pure ?_
 refine wpAny_bind ?_
 unfold Builtin.Frozenset.sizeOf setEntries
 refine wpAny_bind (wpAny_bind (wpAny_setState_of hS H.dat H.fits (wpAny_pure (wpAny_pure ?_))))
 refine wpAny_bind ?_
 unfold setDrawn
 refine wpAny_bind (wpAny_setState_of hS H.dat H.fits ?_)
 dsimp only
 unfold setsByText
 refine wpAny_bind (wpAny_bind (wpAny_askSetting (wpAny_pure (wpAny_pure ?_))))
 refine wpAny_ite_false (by
  show decide ((!dD w && (!t.plain && decide (es.size > 1)))=true)=false
  rw [H.plain]
  simp) ?_
 refine wpAny_bind (wpAny_pure ?_)
 refine wpAny_bind ?_
 unfold setEpoch
 refine wpAny_bind (wpAny_setState_of hS H.dat H.fits (wpAny_pure ?_))
 refine wpAny_bind ?_
 unfold newFields
 exact wpAny_newObj_type (wpAny_pure ⟨_,rfl,"set_iterator",_,⟨_,Heap.get?_push_size _ rfl,rfl⟩,bu.lookup,h⟩) (by first | size_fits | (intro _;decide) | decide)
end
section
variable {prog:Program} {w:World} {A:Around} {E:Value→Shared→Prop} {s:Shared}
theorem um {S I:Addr} {o:Obj} {es:Array (Int×Value)} {ep:Nat} {t:SetTable} {pl:List Nat} {i:Nat} {x:Int×Value} {Q:Value→Shared→Prop} (H:gW w o es ep t pl) (hI:s.heap.get? I=some (i7 w S es ep pl i)) (hS:s.heap.get? S=some o) (hx:(orderOf w S ep es)[i]?=some x) (hi:i≤es.size)
  (hQ:∀ h',h'.get? I=some (i7 w S es ep pl (i+1))→Heap.SameBut I s.heap h'→Q x.2 { s with heap:=h' }) :
  wpAny (model prog w) A (Builtin.«set_iterator.__next__» ⟨[.ref I],[]⟩) (fun fin s'=>∃ v,fin=.done (.ret v)∧Q v s') E s:=by
 unfold Builtin.«set_iterator.__next__»
 refine wpAny_bind ?_
 unfold slotArgs
 refine wpAny_ite_false rfl (wpAny_ite_false rfl (wpAny_pure ?_))
 dsimp only
 refine wpAny_bind (wpAny_fieldsOf hI rfl ?_)
 refine (show wpAny _ _ (setEntries S>>=_) _ _ _ from wpAny_bind ?_)
 unfold setEntries
 refine wpAny_bind (wpAny_setState_of hS H.dat H.fits (wpAny_pure ?_))
 refine wpAny_ite_false (by simp) ?_
 refine (show wpAny _ _ (setNext S ((slotAt w pl i:Nat):Int).toNat ((i:Nat):Int).toNat ((ep:Nat):Int).toNat>>=_) _ _ _ from wpAny_bind ?_)
 rw [Int.toNat_natCast,Int.toNat_natCast,Int.toNat_natCast]
 refine qv H hS hi ?_
 rw [hx]
 dsimp only [Option.map]
 refine wpAny_bind (wpAny_setField_rec hI (by simp) fun h1 g1 e1=>?_)
 refine wpAny_bind (wpAny_setField_rec g1 (by simp) fun h2 g2 e2=>?_)
 refine wpAny_pure ⟨_,rfl,hQ h2 ?_ (e1.trans e2)⟩
 rw [g2]
 rfl
theorem vO {S I:Addr} {o:Obj} {es:Array (Int×Value)} {ep:Nat} {t:SetTable} {pl:List Nat} {i:Nat} {Q:PySem.Fin→Shared→Prop} (hh:A.handled=none) (H:gW w o es ep t pl) (hI:s.heap.get? I=some (i7 w S es ep pl i)) (hS:s.heap.get? S=some o) (hx:(orderOf w S ep es)[i]?=none) (hi:i≤es.size)
  (hE:∀ h' e,Heap.ExtBut I s.heap h'→(∃ o,h'.get? e=some o∧o.cls=.type "StopIteration")→E (.ref e) { s with heap:=h' }) :
  wpAny (model prog w) A (Builtin.«set_iterator.__next__» ⟨[.ref I],[]⟩) Q E s:=by
 unfold Builtin.«set_iterator.__next__»
 refine wpAny_bind ?_
 unfold slotArgs
 refine wpAny_ite_false rfl (wpAny_ite_false rfl (wpAny_pure ?_))
 dsimp only
 refine wpAny_bind (wpAny_fieldsOf hI rfl ?_)
 refine (show wpAny _ _ (setEntries S>>=_) _ _ _ from wpAny_bind ?_)
 unfold setEntries
 refine wpAny_bind (wpAny_setState_of hS H.dat H.fits (wpAny_pure ?_))
 refine wpAny_ite_false (by simp) ?_
 refine (show wpAny _ _ (setNext S ((slotAt w pl i:Nat):Int).toNat ((i:Nat):Int).toNat ((ep:Nat):Int).toNat>>=_) _ _ _ from wpAny_bind ?_)
 rw [Int.toNat_natCast,Int.toNat_natCast,Int.toNat_natCast]
 refine qv H hS hi ?_
 rw [hx]
 dsimp only [Option.map]
 refine wpAny_bind (wpAny_setField hI rfl (by simp) ?_)
 refine (show wpAny _ _ (newExc (.type "StopIteration") []>>=_) _ _ _ from wpAny_bind ?_)
 simp only [newExc,newTuple]
 refine wpAny_bind (wpAny_newObj_type (wpAny_bind (m:=firstArgMember _ _) (wpAny_of_eq (a:=Value.none) (by first | rfl | (simp only [firstArgMember];rfl)) (wpAny_newObj_type ?_ (by size_fits)))) (by size_fits))
 simp only [raiseNew]
 refine wpAny_bind (wpAny_handled ?_)
 first | rw [show A.in1.handled=none from hh] | rw [hh]
 exact wpAny_bind (wpAny_pure (wpAny_throw (hE _ _ (((Heap.SameBut.update ..).extBut.push _).push _) ⟨_,Heap.get?_push_size _ rfl,rfl⟩)))
theorem dy:Slot "set_iterator" (Str.ofString "__iter__") "set_iterator.__iter__":=Slot.of (owner:="set_iterator") (n:="__iter__") (by rw [typeLookup_type,builtinLookup_eq_fast];rfl) (by decide +kernel) (by decide +kernel) (by decide +kernel) (Or.inl (by decide +kernel)) (by rw [isSubtype_type];rfl) (by decide +kernel)
theorem hG:entryFor table "set_iterator.__iter__"=some Builtin.«dict_keyiterator.__iter__»:=entryFor_alias (id':="dict_keyiterator.__iter__") (by rfl) (by decide +kernel) (by decide +kernel) (by rfl)
theorem ix (a:Value):argsOk "set_iterator.__iter__" ⟨[a],[]⟩:=by
 have h:Manifest.signature? "set_iterator.__iter__"=List.lookup (String.ofList (['_','_','r','e','t','i','_','_']:List Char).reverse) Manifest.sig_set_iterator:=signature?_of (o:=['r','o','t','a','r','e','t','i','_','t','e','s']) (by decide +kernel) ft
 unfold argsOk
 rw [h]
 rfl
theorem i9 (w:World) (S:Addr) (ep:Nat) (es:Array (Int×Value)):(orderOf w S ep es).size=es.size:=by
 have:=(lR w S ep es).length_eq
 simpa using this
theorem uE (hh:A.handled=none) {S I:Addr} (hne:S≠I) {o:Obj} {es:Array (Int×Value)} {ep:Nat} {t:SetTable} {pl:List Nat} (H:gW w o es ep t pl) :
  Walks prog w A I [I,S] [I] es.size (fun i v=>∃ x,(orderOf w S ep es)[i]?=some x∧v=x.2) (fun i h=>h.get? I=some (i7 w S es ep pl i)∧h.get? S=some o) where
 sub:=fun b hb=>by rw [List.mem_singleton.mp hb];simp
 frame:=fun i h h' st hk=>⟨hk I (by simp) _ st.1,hk S (by simp) _ st.2⟩
 item:=fun i s Q E hi st hQ=>by
  have hx:(orderOf w S ep es)[i]?=some ((orderOf w S ep es)[i]'(by rw [i9];exact hi)):=by rw [Array.getElem?_eq_getElem]
  have hT:s.TypeIs (.ref I) "set_iterator":=⟨_,st.1,rfl⟩
  unfold pyNext
  refine wpAny_bind (wpAny_attempt (wpAny_callSpecial?_slot (name:=Str.ofString "__next__") hT bu (wpAny_call_entry bu hT dw ?_ (dG _))))
  refine um H st.1 st.2 hx (by omega) fun h' g1 e1=>wpAny_pure ?_
  exact hQ _ h' s.toks ⟨_,hx,rfl⟩ ⟨g1,e1.extBut _ _ hne st.2⟩ fun b o hb q=>e1.extBut b o (fun z=>hb (by simp [z])) q
 done:=fun s Q E st hQ=>by
  have hx:(orderOf w S ep es)[es.size]?=none:=by rw [Array.getElem?_eq_none_iff,i9];exact Nat.le_refl _
  have hT:s.TypeIs (.ref I) "set_iterator":=⟨_,st.1,rfl⟩
  unfold pyNext
  refine wpAny_bind (wpAny_attempt (wpAny_callSpecial?_slot (name:=Str.ofString "__next__") hT bu (wpAny_call_entry bu hT dw ?_ (dG _))))
  refine vO hh H st.1 st.2 hx (Nat.le_refl _) fun h' e ext he=>?_
  obtain ⟨o',ho',hc'⟩:=he
  exact wpAny_bind (wpAny_isInstance (T:="StopIteration") (b:=true) ⟨o',ho',hc'⟩ isSubtype_stop (wpAny_pure (hQ _ s.toks fun b o hb q=>ext b o (fun z=>hb (by simp [z])) q)))
 self:=fun i s Q E st h=>by
  have hT:s.TypeIs (.ref I) "set_iterator":=⟨_,st.1,rfl⟩
  exact wpAny_pyIter_slot hT dy (wpAny_call_entry dy hT hG (wpAny_pure ⟨_,rfl,"set_iterator",_,hT,bu.lookup,h⟩) (ix _))
theorem y_ {S:Addr} {o:Obj} {es:Array (Int×Value)} {ep:Nat} {t:SetTable} {pl:List Nat} (H:gW w o es ep t pl) :
  PySem.W.KdlSrc prog w "set" S S es.size (fun i v=>∃ x,(orderOf w S ep es)[i]?=some x∧v=x.2) (fun h=>h.get? S=some o) where
 type:=fun s hs=>H.typeIs hs
 there:=fun h hs=>⟨Heap.lt_size hs,Heap.lt_size hs⟩
 keep:=fun h h' hs hk=>hk S (.inl rfl) o hs
 notList:=by decide
 notTuple:=by decide
 hint:=fun A E s Q hs h=>vL (H.typeIs hs) h
 iter:=fun A s hh hs=>⟨i7 w S es ep pl 0,fun i h=>h.get? s.heap.objs.size=some (i7 w S es ep pl i)∧h.get? S=some o,fun E Q hq=>tj H hs hq,
  uE hh (Nat.ne_of_lt (Heap.lt_size hs)) H,Heap.get?_push_size _ rfl,Heap.get?_push_of_some _ hs⟩
end
def sY:Value→Int
 | .int k _=>k
 | _=>0
theorem intsAre_map:∀ {vs:List Value} {ns:List Int},IntsAre vs ns→(∀ v∈vs,∃ k t,v=Value.int k t)∧ns=vs.map sY
 | _,_,.nil=>⟨by simp,rfl⟩
 | _,_,.cons n t r=>by
  obtain ⟨h1,h2⟩:=intsAre_map r
  refine ⟨fun v hv=>?_,by rw [List.map_cons,← h2];rfl⟩
  rcases List.mem_cons.mp hv with z | z
  ·exact ⟨n,t,z⟩
  ·exact h1 v z
theorem mD:∀ (vs:List Value),(∀ v∈vs,∃ k t,v=Value.int k t)→IntsAre vs (vs.map sY)
 | [],_=>.nil
 | v :: vs,h=>by
  obtain ⟨k,t,rfl⟩:=h v (by simp)
  exact .cons k t (mD vs fun u hu=>h u (by simp [hu]))
theorem oH {vs us:List Value} {ns:List Int} (hp:List.Perm vs us) (r:IntsAre us ns):∃ ms,IntsAre vs ms∧List.Perm ms ns:=by
 obtain ⟨h1,h2⟩:=intsAre_map r
 refine ⟨vs.map sY,mD vs fun v hv=>h1 v (hp.mem_iff.mp hv),?_⟩
 rw [h2]
 exact hp.map sY
section
variable {prog:Program} {w:World} {A:Around} {E:Value→Shared→Prop} {s:Shared}
theorem s_ {S:Addr} {ks:List Int} {Q:Value→Shared→Prop} (hh:A.handled=none) (hS:iA w s.heap S ks) (h64:ks.length < 64)
  (h:∀ (h':Heap) (tk:Nat) (out:Array Value) (ms:List Int) (l:Addr) (c:Nat),(∀ b o,s.heap.get? b=some o→h'.get? b=some o)→S < l→h'.get? l=some (seqObj "list" out c)→IntsAre out.toList ms→ms.Pairwise (· < ·)→(∀ x,x∈ms↔x∈ks)→ms.length≤300→Q (.ref l) { s with heap:=h',toks:=tk }) :
  wpAny (model prog w) A (call (.builtin "sorted") [.ref S]) Q E s:=by
 obtain ⟨o,es,ep,t,pl,g1,g2,g3,g4,g5,g6,g7,g8,g9,g10,g11,g12,g13⟩:=hS
 obtain ⟨g9,lpl,g14⟩:=g9
 have lks:es.size=ks.length:=by
  have:=cA g10
  rw [List.length_map,Array.length_toList] at this
  exact this
 have H:gW w o es ep t pl:=⟨g3,g2.1,g5,g6,g7,g8,g9,by omega,by omega,by omega⟩
 refine Calls.call_function_entry kind_sorted plain_sorted entry_sorted (args_sorted1 _) ?_
 unfold Builtin.sorted
 refine wpAny_bind ?_
 unfold checkCount
 refine wpAny_ite_false rfl (wpAny_ite_false rfl (wpAny_ite_false rfl (wpAny_pure ?_)))
 refine wpAny_bind (PySem.W.kdu_collect (y_ H) hh g1 (Nat.le_trans H.few (Nat.le_of_lt (d4 (by decide)))) fun h1 tk acc hk hacc=>?_)
 have hacc1:acc.toList=(orderOf w S ep es).toList.map Prod.snd:=by
  refine List.ext_getElem? fun i=>?_
  by_cases hi:i < acc.size
  ·have e1:acc.toList[i]?=some acc[i]:=by simp [hi]
   obtain ⟨x,hx,hv⟩:=hacc.2 i acc[i] (by simp [hi])
   rw [e1,List.getElem?_map]
   rw [show (orderOf w S ep es).toList[i]?=some x by simpa using hx]
   rw [hv]
   rfl
  ·rw [List.getElem?_eq_none (by simp;omega),List.getElem?_eq_none]
   rw [List.length_map,Array.length_toList,i9]
   have:=hacc.1
   omega
 obtain ⟨ns0,i1,i2⟩:=oH (vs:=acc.toList) (by rw [hacc1];exact (lR w S ep es).map Prod.snd) g10
 have l0:acc.toList.length=ks.length:=by rw [cA i1];exact i2.length_eq
 refine wpAny_bind (wpAny_newList ?_ (by rw [l0];exact Nat.le_of_lt (d4 (by omega))))
 refine wpAny_bind (wpAny_holding ?_)
 have hat:(h1.push (seqObj "list" acc.toList.toArray 0)).get? h1.objs.size=some (seqObj "list" acc.toList.toArray 0):=Heap.get?_push_size _ rfl
 refine wpAny_call_entry slot_list_sort ⟨_,hat,rfl⟩ entry_list_sort ?_ (args_list_sort _)
 refine list_sort_tree hat i1 (by omega) fun out ms r1 r2 r3=>⟨_,rfl,wpAny_pure ⟨_,rfl,?_⟩⟩
 obtain ⟨c,hc⟩:=sortedHeap_at (out:=out) hat
 have hnd:ms.Nodup:=r2.nodup_iff.mpr (i2.nodup_iff.mpr g12)
 refine h _ tk out ms h1.objs.size c ?_ ?_ hc r1 ?_ ?_ ?_
 ·intro b o' e
  have e1:=hk b o' e
  have hb:b < h1.objs.size:=Heap.lt_size e1
  rw [sortedHeap_old (Nat.ne_of_lt hb) (by rw [Heap.size_push];exact Nat.lt_succ_of_lt hb)]
  exact Heap.get?_push_of_some _ e1
 ·exact Heap.lt_size (hk S o g1)
 ·exact (List.Pairwise.and r3 hnd).imp fun z=>by have:=z.1;have:=z.2;omega
 ·intro x
  rw [r2.mem_iff,i2.mem_iff]
 ·have:=r2.length_eq
  have:=i2.length_eq
  omega
end
end L2
namespace L2
open PySem PySem.Spec PyProof.Rows ZS
def hT (ks:List Int):Int:=reduceHash (Builtin.Tuple.tupleHashOf (ks.map hashInt))
section
variable {prog:Program} {w:World} {A:Around} {E:Value→Shared→Prop} {s:Shared}
end
section
variable {κ:Type} [DecidableEq κ]
def gH (kvs:List (κ×V)) (k:κ):Option V:=(kvs.find? fun kv=>decide (kv.1=k)).map (·.2)
def putK (kvs:List (κ×V)) (k:κ) (v:V):List (κ×V):=
 if (kvs.any fun kv=>decide (kv.1=k))=true then kvs.map (fun kv=>if kv.1=k then (kv.1,v) else kv) else kvs++[(k,v)]
theorem lP {p:κ×V} {r:List (κ×V)} {k:κ} (e:p.1=k):gH (p :: r) k=some p.2:=by simp [gH,List.find?_cons,e]
theorem i5 {p:κ×V} {r:List (κ×V)} {k:κ} (e:¬p.1=k):gH (p :: r) k=gH r k:=by simp [gH,List.find?_cons,e]
theorem qG (kvs:List (κ×V)) (k:κ) (v:V):(putK kvs k v).length≤kvs.length+1:=by
 unfold putK
 split
 ·rw [List.length_map];omega
 ·rw [List.length_append,List.length_cons,List.length_nil];omega
theorem gj.hU {o:Option V} {u:Option Value} (r:gj o u):o.isSome=u.isSome:=by
 cases o with
 | none=>cases u with
  | none=>rfl
  | some _=>exact (show False from r).elim
 | some _=>cases u with
  | none=>exact (show False from r).elim
  | some _=>rfl
theorem KV.val {kvs:List (κ×V)} {vs:List (κ×Value)} (r:KV kvs vs) (k:κ):gj (gH kvs k) (valueAt vs k):=by
 unfold KV at r
 induction r with
 | nil=>exact True.intro
 | @cons p q ps qs h t ih=>
  obtain ⟨h1,h2⟩:=h
  by_cases e:p.1=k
  ·have e':q.1=k:=h1.symm.trans e
   have b:valueAt (q :: qs) k=some q.2:=by simp [valueAt,List.find?_cons,e']
   rw [lP e,b];exact h2
  ·have e':¬q.1=k:=fun z=>e (h1.trans z)
   have b:valueAt (q :: qs) k=valueAt qs k:=by simp [valueAt,List.find?_cons,e']
   rw [i5 e,b];exact ih
theorem KV.any {kvs:List (κ×V)} {vs:List (κ×Value)} (r:KV kvs vs) (k:κ):(kvs.any fun kv=>decide (kv.1=k))=vs.any fun kv=>decide (kv.1=k):=by
 unfold KV at r
 induction r with
 | nil=>rfl
 | cons h t ih=>rw [List.any_cons,List.any_cons,ih,h.1]
theorem KV.EV {kvs:List (κ×V)} {vs:List (κ×Value)} (r:KV kvs vs) (k:κ) {y:V} {u:Value} (ry:RelV y u) :
  KV (kvs.map fun kv=>if kv.1=k then (kv.1,y) else kv) (vs.map fun kv=>if kv.1=k then (kv.1,u) else kv):=by
 unfold KV at r ⊢
 induction r with
 | nil=>exact .nil
 | @cons p q ps qs h t ih=>
  rw [List.map_cons,List.map_cons]
  refine .cons ?_ ih
  obtain ⟨h1,h2⟩:=h
  by_cases e:p.1=k
  ·rw [if_pos e,if_pos (h1.symm.trans e)];exact ⟨h1,ry⟩
  ·rw [if_neg e,if_neg (fun z=>e (h1.trans z))];exact ⟨h1,h2⟩
theorem KV.put {kvs:List (κ×V)} {vs:List (κ×Value)} (r:KV kvs vs) (k:κ) {y:V} {u:Value} (ry:RelV y u):KV (putK kvs k y) (stored vs k u):=by
 unfold putK stored
 rw [r.any k]
 by_cases e:(vs.any fun kv=>decide (kv.1=k))=true
 ·rw [if_pos e,if_pos e];exact r.EV k ry
 ·rw [if_neg e,if_neg e];exact Paired.snoc r ⟨rfl,ry⟩
theorem KV.length {kvs:List (κ×V)} {vs:List (κ×Value)} (r:KV kvs vs):kvs.length=vs.length:=Paired.length r
end
theorem mG {P:Program} {w:World} {k:Key} {u:Value} (r:RelV (kV k) u):(bc P w).is k u=true:=by
 cases k with
 | inl i=>obtain ⟨t,e⟩:=(show ∃ t,u=Value.int i t from r);subst e;exact qD P w i t
 | inr x=>obtain ⟨t,e⟩:=(show ∃ t,u=Value.str x t from r);subst e;exact qE P w x t
theorem nE {P:Program} {w:World}:∀ {ks:List Key} {us:List Value},Vals (ks.map kV) us→ItemsAre (bc P w) ks us
 | [],_,r=>by rw [List.map_nil] at r;cases r;exact .nil
 | k :: ks,_,r=>by
  rw [List.map_cons] at r
  cases r with
  | cons h t=>exact .cons (mG h) (nE t)
abbrev KT (H:Hp):List (List Key×V)→List (List Key×Addr×Value)→Prop:=Paired fun p q=>p.1=q.1∧H q.2.1=some (.tup (p.1.map kV))∧RelV p.2 q.2.2
theorem KT.val {H:Hp} {kvs:List (List Key×V)} {xs:List (List Key×Addr×Value)} (r:KT H kvs xs) (k:List Key):gj (gH kvs k) ((atKey xs k).map (·.2)):=by
 induction r with
 | nil=>exact True.intro
 | @cons p q ps qs h t ih=>
  obtain ⟨h1,_,h2⟩:=h
  by_cases e:p.1=k
  ·have e':q.1=k:=h1.symm.trans e
   have b:atKey (q :: qs) k=some q.2:=by simp [atKey,List.find?_cons,e']
   rw [lP e,b];exact h2
  ·have e':¬q.1=k:=fun z=>e (h1.trans z)
   have b:atKey (q :: qs) k=atKey qs k:=by simp [atKey,List.find?_cons,e']
   rw [i5 e,b];exact ih
section
variable {P:Program} {w:World} {H:Hp} {h:Heap} {a:Addr}
theorem xU {u:HO} (ok:HOk P w H h) (e:Rd H a u):bA P w H h a u:=e.ok ok
theorem oA {kvs:List (Key×V)} (ok:HOk P w H h) (e:Rd H a (.dK kvs)):kvs.length≤sizeLine∧(a == sysModules)=false∧∃ vs,KV kvs vs∧h.DictOf (bc P w) a vs:=
 show bA P w H h a (.dK kvs) from xU ok e
theorem mz {ks:List Key} (ok:HOk P w H h) (e:H a=some (.tup (ks.map kV))):(tupleKind (bc P w)).is h ks a:=by
 obtain ⟨_,its,r,o,h1,h2,n,h3⟩:=(show bA P w H h a (.tup (ks.map kV)) from ok a _ e)
 exact ⟨o,its.toArray,n,h1,h2,h3,by simpa using nE r⟩
theorem ot {kvs:List (List Key×V)} (ok:HOk P w H h) (e:Rd H a (.dT kvs)):kvs.length≤sizeLine∧(a == sysModules)=false ∧
  ∃ xs,KT H kvs xs∧h.DictOfH (tupleKind (bc P w)) a xs:=by
 obtain ⟨z,y,xs,r,o,es,ep,h1,h2,h3,h4,h5⟩:=(show bA P w H h a (.dT kvs) from xU ok e)
 refine ⟨z,y,xs,r,o,es,ep,h1,h2,h3,h4,fun x hx=>?_,h5⟩
 have all:∀ {l:List (List Key×V)} {m:List (List Key×Addr×Value)},KT H l m→∀ x∈m,(tupleKind (bc P w)).is h x.1 x.2.1:=by
  intro l m q
  induction q with
  | nil=>intro x hx;exact nomatch hx
  | @cons p q ps qs hq t ih=>
   intro x hx
   rcases List.mem_cons.mp hx with e | hx
   ·subst e
    exact mz ok (by rw [← hq.1];exact hq.2.1)
   ·exact ih x hx
 exact all r x hx
end
def lh (H:Hp) (a:Addr) (y:V) (r:Option V):Prop:=
 (∃ kvs k,Rd H a (.dK kvs)∧y=kV k∧r=gH kvs k)∨∃ kvs k b,Rd H a (.dT kvs)∧y=.ref b∧H b=some (.tup (k.map kV))∧r=gH kvs k
section
variable {X:Cx} {pins:List (Addr×Obj)} {σ:St} {H:Hp} {s:Shared} {a:Addr} {y v:V} {u r:Value} {o:Option V} {A:Around} {E:Value→Shared→Prop}
theorem Inv.big (I:Inv X pins σ H s):sysModules < s.heap.objs.size:=by
 have h:mainGlobals < s.heap.objs.size:=(I.mod.glob.keeps I.bk).lt
 exact Nat.lt_trans (by decide) h
theorem tY {Q:Value→Shared→Prop} (hu:A.units+1 < cLine) (I:Inv X pins σ H s) (g:lh H a y (some v)) (ry:RelV y u) (h:∀ w' s',Inv X pins σ H s'→RelV v w'→Q w' s') :
  wpAny (model X.prog X.w) A (getItem (.ref a) u) Q E s:=by
 rcases g with ⟨kvs,k,e,ey,l⟩ | ⟨kvs,k,b,e,ey,eb,l⟩
 ·subst ey
  obtain ⟨z,hd,vs,rel,dd⟩:=oA I.hok e
  obtain ⟨w',hw,rw'⟩:=gj.some_of (v:=v) (o:=valueAt vs k) (by rw [l];exact rel.val k)
  exact wpAny_getItem_of (mG ry) dd.mapOf hw (h w' _ (I.tok _) rw')
 ·subst ey
  cases (show u=Value.ref b from ry)
  obtain ⟨z,hd,xs,rel,dd⟩:=ot I.hok e
  obtain ⟨w',hw,rw'⟩:=gj.some_of (v:=v) (o:=(atKey xs k).map (·.2)) (by rw [l];exact rel.val k)
  obtain ⟨p,hp,hp2⟩:=Option.map_eq_some_iff.mp hw
  refine wpAny_getItem_heap (tupleKind_room_in1 hu) (mz I.hok eb) dd hp ?_
  rw [hp2]
  exact h w' _ (I.tok _) rw'
theorem Ed {Q:Value→Shared→Prop} (hu:A.units+1 < cLine) (I:Inv X pins σ H s) (g:lh H a y o) (ry:RelV y u) (h:∀ s',Inv X pins σ H s'→Q (.bool o.isSome) s') :
  wpAny (model X.prog X.w) A (compareOp .In u (.ref a)) Q E s:=by
 rcases g with ⟨kvs,k,e,ey,l⟩ | ⟨kvs,k,b,e,ey,eb,l⟩
 ·subst ey
  obtain ⟨z,hd,vs,rel,dd⟩:=oA I.hok e
  refine wpAny_in_of (mG ry) hd dd.mapOf ?_
  rw [← (rel.val k).hU,← l]
  exact h _ (I.tok _)
 ·subst ey
  cases (show u=Value.ref b from ry)
  obtain ⟨z,hd,xs,rel,dd⟩:=ot I.hok e
  refine wpAny_in_heap (tupleKind_room_in1 hu) (mz I.hok eb) hd dd ?_
  have q:=(rel.val k).hU
  rw [Option.isSome_map] at q
  rw [← q,← l]
  exact h _ (I.tok _)
theorem yw {Q:Value→Shared→Prop} (hu:A.units+1 < cLine) (I:Inv X pins σ H s) (g:lh H a y o) (ry:RelV y u) (h:∀ s',Inv X pins σ H s'→Q (.bool (!o.isSome)) s') :
  wpAny (model X.prog X.w) A (compareOp .NotIn u (.ref a)) Q E s:=by
 rcases g with ⟨kvs,k,e,ey,l⟩ | ⟨kvs,k,b,e,ey,eb,l⟩
 ·subst ey
  obtain ⟨z,hd,vs,rel,dd⟩:=oA I.hok e
  refine wpAny_notIn_of (mG ry) hd dd.mapOf ?_
  rw [← (rel.val k).hU,← l]
  exact h _ (I.tok _)
 ·subst ey
  cases (show u=Value.ref b from ry)
  obtain ⟨z,hd,xs,rel,dd⟩:=ot I.hok e
  refine wpAny_notIn_heap (tupleKind_room_in1 hu) (mz I.hok eb) hd dd ?_
  have q:=(rel.val k).hU
  rw [Option.isSome_map] at q
  rw [← q,← l]
  exact h _ (I.tok _)
theorem BI {P:Program} {w:World} {H':Hp} {h':Heap} {kvs:List (Key×V)} {vs:List (Key×Value)} (z:kvs.length≤sizeLine) (hd:(a == sysModules)=false) (rel:KV kvs vs) (dd:h'.DictOf (bc P w) a vs) :
  bA P w H' h' a (.dK kvs):=⟨z,hd,vs,rel,dd⟩
end
section
variable {X:Cx} {pins:List (Addr×Obj)} {σ:St} {H:Hp} {s:Shared} {a:Addr} {kvs:List (Key×V)} {k:Key} {u:Value} {A:Around} {E:Value→Shared→Prop}
end
def wZ (i:Expr):Prop:=∀ ov iv,subscripted i false ov iv=operate [ov,iv] (getItem ov iv)
theorem yY {prog:Program} {w:World} {A:Around} {E:Value→Shared→Prop} {s:Shared} {env:Env} {value slice:Expr} {pos:Pos} {T id:String} {Q:Value→Shared→Prop}
    (hl:typeLookup (.type T) "__getitem__"=pure (some (.builtin id))) (hs:wZ slice)
    (h:wpAny (model prog w) A (eval value env) (fun o s₁=>wpAny (model prog w) A (eval slice env) (fun i s₂=>s₂.TypeIs o T∧wpAny (model prog w) A (getItem o i) Q E s₂) E s₁) E s) :
    wpAny (model prog w) A (eval (.Subscript value slice pos) env) Q E s:=by
  refine Subscript_ (wpAny_mono h (fun o s₁ h₁=>wpAny_mono h₁ (fun i s₂ h₂=>?_) fun _ _ x=>x) fun _ _ x=>x)
  obtain ⟨hT,h₂⟩:=h₂
  unfold subscriptTail
  refine wpAny_bind ?_
  rw [getitemInPython_of_ne hT.not_modules]
  refine wpAny_bind (wpAny_specialOf hT hl ?_)
  have fin:wpAny (model prog w) A (subscripted slice false o i) (fun r s₃=>wpAny (model prog w) A (letTemporaryGo value o r>>=fun _=>pure r) Q E s₃) E s₂:=by
    rw [hs o i]
    exact wpAny_operating (wpAny_mono h₂ (fun r s₃ h₃=>wpAny_bind (wpAny_letTemporaryGo (wpAny_pure h₃))) fun _ _ x=>x)
  first
    | exact wpAny_pure (wpAny_bind fin)
    | exact wpAny_bind (wpAny_pure (wpAny_bind fin))
    | exact wpAny_bind fin
theorem qz {X:Cx} {pins:List (Addr×Obj)} {σ:St} {H:Hp} {s:Shared} {a:Addr} {y:V} {o:Option V} (I:Inv X pins σ H s) (g:lh H a y o):s.TypeIs (.ref a) "dict":=by
 rcases g with ⟨kvs,k,e,_,_⟩ | ⟨kvs,k,b,e,_,_,_⟩
 ·obtain ⟨_,_,vs,_,dd⟩:=oA I.hok e
  exact dd.typeIs
 ·obtain ⟨_,_,xs,_,dd⟩:=ot I.hok e
  exact dd.typeIs
def Dq (td ty:TE):TE:=fun σ H Q=>td σ H fun x H1=>ty σ H1 fun y H2=>∃ a v,x=.ref a∧lh H2 a y (some v)∧Q v H2
section
variable {X:Cx} {o i e value:Expr} {pos pos' tpos:Pos} {td ty tv:TE}
theorem zq (hu:X.A.units+1 < cLine) (ho:PE X o td) (hi:PE X i ty) (hs:wZ i):PE X (.Subscript o i pos) (Dq td ty):=by
 intro pins s σ H Q I h
 refine yY PySem.F.slot_dict_getitem.lookup hs (thn (ho pins s σ H _ I h) fun u s1 ⟨x,H1,I1,rx,q1⟩=>thn (hi pins s1 σ H1 _ I1 q1) fun iv s2 ⟨y,H2,I2,ry,a,v,ex,g,q2⟩=>?_)
 subst ex
 obtain rfl:u=Value.ref a:=rx
 exact ⟨qz I2 g,tY hu I2 g ry fun w' s3 I3 rw'=>⟨v,H2,I3,rw',q2⟩⟩
end
section
variable {X:Cx} {pos:Pos}
end
def uA:List (TE×TE)→St→Hp→(List (V×V)→Hp→Prop)→Prop
 | [],_,H,Q=>Q [] H
 | (tk,tv) :: r,σ,H,Q=>tk σ H fun x H1=>tv σ H1 fun y H2=>uA r σ H2 fun ps H3=>Q ((x,y) :: ps) H3
abbrev VV:List (V×V)→List (Value×Value)→Prop:=Paired fun p q=>RelV p.1 q.1∧RelV p.2 q.2
def PPs (X:Cx) (pos:Pos) (keys:List (Option Expr)) (values:List Expr) (trs:List (TE×TE)):Prop:=
 ∀ (pins:List (Addr×Obj)) (s:Shared) (σ:St) (H:Hp) (Q:List (V×V)→Hp→Prop),Inv X pins σ H s→uA trs σ H Q →
  wpAny (model X.prog X.w) X.A (evalPairs (pairTrees keys values X.env pos)) (fun vs s'=>∃ ps H',Inv X pins σ H' s'∧VV ps vs∧Q ps H') X.xe s
def cv (kvs more:List (Key×V)):List (Key×V):=more.foldl (fun acc kv=>putK acc kv.1 kv.2) kvs
theorem fC:∀ (more kvs:List (Key×V)),(cv kvs more).length≤kvs.length+more.length
 | [],kvs=>by show kvs.length≤kvs.length+0;omega
 | p :: r,kvs=>by
  have h1:=fC r (putK kvs p.1 p.2)
  have h2:=qG kvs p.1 p.2
  show (cv (putK kvs p.1 p.2) r).length≤_
  rw [List.length_cons];omega
structure M1 (X:Cx) (o:Expr) (m:Str) (apos:Pos) (e:Expr) (cpos:Pos):Prop where
 base:attributeBase o m X.env (eval o X.env)=eval o X.env
 few:((backTo cpos (starEach [e] X.env)).all (fun x=>!x.1) && (backToKw cpos (keywordEach [] X.env)).all (fun x=>x.1.isSome)
  && decide (([e]:List Expr).length+([]:List Keyword).length+(if ([]:List Keyword).isEmpty then 0 else 1) < 30))=true
 line:(apos.endLine == cpos.line)=true
 trees:backTo cpos (starEach [e] X.env)=[(false,eval e X.env)]
structure M2 (X:Cx) (o:Expr) (m:Str) (apos:Pos) (e f:Expr) (cpos:Pos):Prop where
 base:attributeBase o m X.env (eval o X.env)=eval o X.env
 few:((backTo cpos (starEach [e,f] X.env)).all (fun x=>!x.1) && (backToKw cpos (keywordEach [] X.env)).all (fun x=>x.1.isSome)
  && decide (([e,f]:List Expr).length+([]:List Keyword).length+(if ([]:List Keyword).isEmpty then 0 else 1) < 30))=true
 line:(apos.endLine == cpos.line)=true
 trees:backTo cpos (starEach [e,f] X.env)=[(false,eval e X.env),(false,eval f X.env)]
section
variable {X:Cx} {pins:List (Addr×Obj)} {σ:St} {H:Hp} {s:Shared} {a:Addr} {y d:V} {u r:Value} {o:Option V} {A:Around} {E:Value→Shared→Prop}
end
section
variable {X:Cx} {o e f:Expr} {apos cpos:Pos} {td ty tx:TE}
end
section
variable {X:Cx} {pins:List (Addr×Obj)} {σ:St} {H:Hp} {s:Shared} {a:Addr} {kvs:List (Key×V)} {A:Around} {E:Value→Shared→Prop}
end
section
variable {X:Cx} {pins:List (Addr×Obj)} {σ:St} {H:Hp} {s:Shared} {a:Addr} {y:V} {u:Value} {A:Around} {E:Value→Shared→Prop}
end
inductive Vl where
 | d (x:D) | r (n:Nat) | fd (kvs:List (Key×D)) | fn (x:Str) | sc (ns:List Int) | pr (x:D) (n:Nat)
inductive Ob where
 | lst (xs:List D) | dct (kvs:List (Key×D)) | dead
abbrev Sto:=List Ob
inductive R (α:Type) where
 | ok (a:α) (S:Sto) | ex (c:Str) (xs:List (Str×D)) (S:Sto) | bad
def R.bind {α β:Type} (x:R α) (f:α→Sto→R β):R β:=match x with
 | .ok a S=>f a S
 | .ex c xs S=>.ex c xs S
 | .bad=>.bad
abbrev Nv:=List (Option Vl)
abbrev XE:=Nv→Sto→R Vl
abbrev XT:=Nv→Sto→R Bool
abbrev XA:=Nv→Sto→R (List Vl)
abbrev XO:=Nv→Sto→R (Option Int)
inductive Fl where
 | nx | bk | ct | rt (v:Vl)
abbrev XS:=Nv→Sto→R (Fl×Nv)
abbrev XG:=Vl→Nv→Sto→R Nv
abbrev XGs:=List Vl→Nv→Sto→R Nv
abbrev XF:=List Vl→Sto→R Vl
structure Its where
 items:List Vl
 gd:Option (Nat×Ob)
def Its.ok (I:Its) (S:Sto):Prop:=match I.gd with
 | none=>True
 | some (n,o)=>S[n]?=some o
abbrev XI:=Nv→Sto→R Its
def Al (μ:Nat→Addr) (S:Sto) (b:Addr):Prop:=∃ n o,S[n]?=some o∧o≠.dead∧μ n=b
open Classical in
noncomputable def vh (μ:Nat→Addr) (S:Sto) (H:Hp):Hp:=fun b=>if Al μ S b then none else H b
section
variable {μ μ' μ1 μ2:Nat→Addr} {S S' S1 S2:Sto} {H H' H1 H2:Hp} {b:Addr} {o:HO}
theorem bR (h:H b=some o) (n:¬Al μ S b):vh μ S H b=some o:=by unfold vh;rw [if_neg n];exact h
theorem bf (h:vh μ S H b=some o):¬Al μ S b∧H b=some o:=by
 unfold vh at h
 split at h
 ·cases h
 ·exact ⟨‹_›,h⟩
theorem ff:di (vh μ S H) H:=fun _ _ h=>(bf h).2
def ObR (μ:Nat→Addr) (S:Sto) (H:Hp) (a:Addr):Ob→Prop
 | .lst ds=>∃ vs,H a=some (.lst vs)∧av (vh μ S H) vs ds
 | .dct kvs=>∃ vs:List V,vs.length=kvs.length∧H a=some (.dK ((kvs.map (·.1)).zip vs))∧av (vh μ S H) vs (kvs.map (·.2))
 | .dead=>True
structure HR (μ:Nat→Addr) (S:Sto) (H:Hp):Prop where
 ob:∀ n o,S[n]?=some o→ObR μ S H (μ n) o
 inj:∀ n m o o',S[n]?=some o→S[m]?=some o'→o≠.dead→o'≠.dead→μ n=μ m→n=m
theorem ObR.some {a:Addr} {ob:Ob} (h:ObR μ S H a ob) (n:ob≠.dead):∃ o,H a=Option.some o:=by
 cases ob with
 | lst ds=>obtain ⟨vs,e,_⟩:=h;exact ⟨_,e⟩
 | dct kvs=>obtain ⟨vs,_,e,_⟩:=h;exact ⟨_,e⟩
 | dead=>exact absurd rfl n
theorem HR.al (h:HR μ S H) (a:Al μ S b):∃ o,H b=some o:=by
 obtain ⟨n,ob,e,nd,rfl⟩:=a
 exact (h.ob n ob e).some nd
theorem HR.nal (h:HR μ S H) (e:H b=none):¬Al μ S b:=fun a=>by
 obtain ⟨o,q⟩:=h.al a
 rw [e] at q;cases q
theorem ObR.mono {a:Addr} {ob:Ob} (h:ObR μ S H a ob) (e:ob≠.dead→H' a=H a) (k:di (vh μ S H) (vh μ' S' H')):ObR μ' S' H' a ob:=by
 cases ob with
 | lst ds=>obtain ⟨vs,q,r⟩:=h;exact ⟨vs,by rw [e (by simp)];exact q,r.mono k⟩
 | dct kvs=>obtain ⟨vs,l,q,r⟩:=h;exact ⟨vs,l,by rw [e (by simp)];exact q,r.mono k⟩
 | dead=>exact True.intro
structure Step (μ:Nat→Addr) (S:Sto) (H:Hp) (μ':Nat→Addr) (S':Sto) (H':Hp):Prop where
 ag:∀ n,n < S.length→μ' n=μ n
 le:S.length≤S'.length
 hr:HR μ' S' H'
 dd:∀ n:Nat,S[n]?=some Ob.dead→S'[n]?=some Ob.dead
 nw:∀ n o,S.length≤n→S'[n]?=some o→o≠.dead→H (μ' n)=none
 ko:∀ b o,H b=some o→¬Al μ S b→H' b=some o
 dm:∀ b o,H b=some o→∃ o',H' b=some o'
theorem Step.refl (h:HR μ S H):Step μ S H μ S H:=
 ⟨fun _ _=>rfl,Nat.le_refl _,h,fun _ e=>e,fun n o l e _=>(by rw [List.getElem?_eq_none l] at e;cases e),fun _ _ e _=>e,fun _ o e=>⟨o,e⟩⟩
theorem Step.nal (a:Step μ S H μ' S' H') (h:H b=some o) (n:¬Al μ S b):¬Al μ' S' b:=by
 rintro ⟨k,ob,e,nd,rfl⟩
 by_cases hk:k < S.length
 ·have e0:S[k]?=some S[k]:=List.getElem?_eq_getElem hk
  by_cases hd:S[k]=.dead
  ·rw [hd] at e0
   rw [a.dd k e0] at e
   cases e
   exact nd rfl
  ·exact n ⟨k,_,e0,hd,(a.ag k hk).symm⟩
 ·rw [a.nw k ob (by omega) e nd] at h
  cases h
theorem Step.vis (a:Step μ S H μ' S' H'):di (vh μ S H) (vh μ' S' H'):=fun b o h=>by
 obtain ⟨n,h⟩:=bf h
 exact bR (a.ko b o h n) (a.nal h n)
theorem Step.trans (a:Step μ S H μ1 S1 H1) (b:Step μ1 S1 H1 μ2 S2 H2):Step μ S H μ2 S2 H2 where
 ag:=fun n h=>(b.ag n (Nat.lt_of_lt_of_le h a.le)).trans (a.ag n h)
 le:=Nat.le_trans a.le b.le
 hr:=b.hr
 dd:=fun n e=>b.dd n (a.dd n e)
 nw:=fun n o l e nd=>by
  by_cases hn:n < S1.length
  ·rw [b.ag n hn]
   refine a.nw n S1[n] l (List.getElem?_eq_getElem hn) fun z=>?_
   have e0:S1[n]?=some S1[n]:=List.getElem?_eq_getElem hn
   rw [z] at e0
   rw [b.dd n e0] at e
   cases e
   exact nd rfl
  ·have q:=b.nw n o (by omega) e nd
   cases e2:H (μ2 n) with
   | none=>rfl
   | some u=>
    obtain ⟨u',e3⟩:=a.dm _ _ e2
    rw [q] at e3;cases e3
 ko:=fun c o h n=>b.ko c o (a.ko c o h n) (a.nal h n)
 dm:=fun c o h=>by
  obtain ⟨o1,e1⟩:=a.dm c o h
  exact b.dm c o1 e1
theorem Step.new (h:HR μ S H) {p:Addr} (hp:H p=none) (o:HO):Step μ S H μ S (upd H p o):=by
 have k:di (vh μ S H) (vh μ S (upd H p o)):=fun b u q=>by
  obtain ⟨n,q⟩:=bf q
  exact bR (by rw [aN (a9 q hp)];exact q) n
 refine ⟨fun _ _=>rfl,Nat.le_refl _,⟨fun n ob e=>?_,h.inj⟩,fun _ e=>e,fun n ob l e _=>(by rw [List.getElem?_eq_none l] at e;cases e),fun b u q _=>by rw [aN (a9 q hp)];exact q,fun b u q=>⟨u,by rw [aN (a9 q hp)];exact q⟩⟩
 refine (h.ob n ob e).mono (fun nd=>?_) k
 obtain ⟨u,q⟩:=(h.ob n ob e).some nd
 exact aN (a9 q hp)
def ext (μ:Nat→Addr) (k:Nat) (p:Addr):Nat→Addr:=fun n=>if n=k then p else μ n
theorem cG {k:Nat} {p:Addr}:ext μ k p k=p:=by unfold ext;rw [if_pos rfl]
theorem kh {k n:Nat} {p:Addr} (h:n≠k):ext μ k p n=μ n:=by unfold ext;rw [if_neg h]
def ObL (G:Hp):Ob→HO→Prop
 | .lst ds,o=>∃ vs,o=.lst vs∧av G vs ds
 | .dct kvs,o=>∃ vs:List V,vs.length=kvs.length∧o=.dK ((kvs.map (·.1)).zip vs)∧av G vs (kvs.map (·.2))
 | .dead,_=>False
theorem ObL.ne {G:Hp} {ob:Ob} {o:HO} (h:ObL G ob o):ob≠.dead:=by
 rintro rfl
 exact h
theorem ObL.at {ob:Ob} {o:HO} {a:Addr} {G:Hp} (h:ObL G ob o) (e:H a=some o) (k:di G (vh μ S H)):ObR μ S H a ob:=by
 cases ob with
 | lst ds=>obtain ⟨vs,rfl,r⟩:=h;exact ⟨vs,e,r.mono k⟩
 | dct kvs=>obtain ⟨vs,l,rfl,r⟩:=h;exact ⟨vs,l,e,r.mono k⟩
 | dead=>exact h.elim
theorem Step.alloc (h:HR μ S H) {p:Addr} (hp:H p=none) {ob:Ob} {o:HO} (hl:ObL (vh μ S H) ob o):Step μ S H (ext μ S.length p) (S++[ob]) (upd H p o):=by
 have nd:=hl.ne
 have old:∀ n u,n < S.length→(S++[ob])[n]?=some u→S[n]?=some u∧ext μ S.length p n=μ n:=fun n u hn e=>by
  rw [List.getElem?_append_left hn] at e
  exact ⟨e,kh (Nat.ne_of_lt hn)⟩
 have new:∀ n u,S.length≤n→(S++[ob])[n]?=some u→n=S.length∧u=ob:=fun n u hn e=>by
  rw [List.getElem?_append_right hn] at e
  have hz:n - S.length=0:=by
   refine Nat.eq_zero_of_not_pos fun z=>?_
   rw [List.getElem?_eq_none (by simp;omega)] at e;cases e
  rw [hz] at e
  exact ⟨by omega,by simpa using e.symm⟩
 have nal:∀ {b u},H b=some u→¬Al μ S b→¬Al (ext μ S.length p) (S++[ob]) b:=by
  rintro b u q n ⟨k,v,e,d,rfl⟩
  by_cases hk:k < S.length
  ·obtain ⟨e1,e2⟩:=old k v hk e
   exact n ⟨k,v,e1,d,e2.symm⟩
  ·obtain ⟨rfl,rfl⟩:=new k v (by omega) e
   rw [cG,hp] at q;cases q
 have k:di (vh μ S H) (vh (ext μ S.length p) (S++[ob]) (upd H p o)):=fun b u q=>by
  obtain ⟨n,q⟩:=bf q
  exact bR (by rw [aN (a9 q hp)];exact q) (nal q n)
 refine ⟨fun n hn=>kh (Nat.ne_of_lt hn),by simp,⟨fun n u e=>?_,fun n m u v e1 e2 d1 d2 q=>?_⟩,fun n e=>?_,fun n u l e _=>?_,fun b u q _=>by rw [aN (a9 q hp)];exact q,fun b u q=>⟨u,by rw [aN (a9 q hp)];exact q⟩⟩
 ·by_cases hn:n < S.length
  ·obtain ⟨e1,e2⟩:=old n u hn e
   rw [e2]
   refine (h.ob n u e1).mono (fun nd=>?_) k
   obtain ⟨x,q⟩:=(h.ob n u e1).some nd
   exact aN (a9 q hp)
  ·obtain ⟨rfl,rfl⟩:=new n u (by omega) e
   rw [cG]
   exact hl.at cj k
 ·by_cases hn:n < S.length
  ·obtain ⟨a1,a2⟩:=old n u hn e1
   obtain ⟨x,qx⟩:=(h.ob n u a1).some d1
   by_cases hm:m < S.length
   ·obtain ⟨b1,b2⟩:=old m v hm e2
    rw [a2,b2] at q
    exact h.inj n m u v a1 b1 d1 d2 q
   ·obtain ⟨rfl,rfl⟩:=new m v (by omega) e2
    rw [a2,cG] at q
    rw [q,hp] at qx;cases qx
  ·obtain ⟨rfl,rfl⟩:=new n u (by omega) e1
   by_cases hm:m < S.length
   ·obtain ⟨b1,b2⟩:=old m v hm e2
    obtain ⟨x,qx⟩:=(h.ob m v b1).some d2
    rw [b2,cG] at q
    rw [← q,hp] at qx;cases qx
   ·exact (new m v (by omega) e2).1.symm
 ·have hn:n < S.length:=by
   refine Nat.lt_of_not_le fun z=>?_
   rw [List.getElem?_eq_none z] at e;cases e
  rw [List.getElem?_append_left hn];exact e
 ·obtain ⟨rfl,rfl⟩:=new n u l e
  rw [cG];exact hp
theorem eQ {n m:Nat} {ob u:Ob} (hn:n < S.length) (e:(S.set n ob)[m]?=some u):(m=n∧u=ob)∨(m≠n∧S[m]?=some u):=by
 rw [List.getElem?_set] at e
 by_cases q:n=m
 ·subst q
  rw [if_pos rfl,if_pos hn] at e
  exact .inl ⟨rfl,(Option.some.inj e).symm⟩
 ·rw [if_neg q] at e
  exact .inr ⟨fun z=>q z.symm,e⟩
theorem Step.put (h:HR μ S H) {n:Nat} {ob ob0:Ob} {o:HO} (e0:S[n]?=some ob0) (d0:ob0≠.dead) (hl:ObL (vh μ S H) ob o):Step μ S H μ (S.set n ob) (upd H (μ n) o):=by
 have nd:=hl.ne
 have hn:n < S.length:=(List.getElem?_eq_some_iff.mp e0).1
 have al0:Al μ S (μ n):=⟨n,ob0,e0,d0,rfl⟩
 have al:∀ {b},Al μ (S.set n ob) b→Al μ S b:=by
  rintro b ⟨m,u,e,d,rfl⟩
  rcases eQ hn e with ⟨rfl,rfl⟩ | ⟨z,q⟩
  ·exact al0
  ·exact ⟨m,u,q,d,rfl⟩
 have k:di (vh μ S H) (vh μ (S.set n ob) (upd H (μ n) o)):=fun b u q=>by
  obtain ⟨z,q⟩:=bf q
  exact bR (by rw [aN (fun c=>z (by rw [c];exact al0))];exact q) fun c=>z (al c)
 refine ⟨fun _ _=>rfl,by rw [List.length_set];exact Nat.le_refl _,⟨fun m u e=>?_,fun m m' u v e1 e2 d1 d2 q=>?_⟩,fun m e=>?_,fun m u l e _=>?_,fun b u q z=>by rw [aN (fun c=>z (by rw [c];exact al0))];exact q,fun b u q=>?_⟩
 ·rcases eQ hn e with ⟨rfl,rfl⟩ | ⟨z,q⟩
  ·exact hl.at cj k
  ·refine (h.ob m u q).mono (fun d=>aN fun c=>z (h.inj m n u ob0 q e0 d d0 c)) k
 ·have a1:∃ w,S[m]?=some w∧w≠.dead:=by
   rcases eQ hn e1 with ⟨rfl,rfl⟩ | ⟨z,q⟩
   ·exact ⟨ob0,e0,d0⟩
   ·exact ⟨u,q,d1⟩
  have a2:∃ w,S[m']?=some w∧w≠.dead:=by
   rcases eQ hn e2 with ⟨rfl,rfl⟩ | ⟨z,q⟩
   ·exact ⟨ob0,e0,d0⟩
   ·exact ⟨v,q,d2⟩
  obtain ⟨w1,x1,y1⟩:=a1
  obtain ⟨w2,x2,y2⟩:=a2
  exact h.inj m m' w1 w2 x1 x2 y1 y2 q
 ·rw [List.getElem?_set_ne]
  ·exact e
  ·rintro rfl
   rw [e0] at e;cases e;exact d0 rfl
 ·rw [List.getElem?_eq_none (by rw [List.length_set];exact l)] at e;cases e
 ·by_cases z:b=μ n
  ·subst z;exact ⟨o,cj⟩
  ·exact ⟨u,by rw [aN z];exact q⟩
theorem Step.freeze (h:HR μ S H) {n:Nat} {ob:Ob} (e0:S[n]?=some ob) (d0:ob≠.dead):Step μ S H μ (S.set n .dead) H∧¬Al μ (S.set n .dead) (μ n):=by
 have hn:n < S.length:=(List.getElem?_eq_some_iff.mp e0).1
 have al:∀ {b},Al μ (S.set n .dead) b→Al μ S b:=by
  rintro b ⟨m,u,e,d,rfl⟩
  rcases eQ hn e with ⟨rfl,rfl⟩ | ⟨z,q⟩
  ·exact absurd rfl d
  ·exact ⟨m,u,q,d,rfl⟩
 have k:di (vh μ S H) (vh μ (S.set n .dead) H):=fun b u q=>by
  obtain ⟨z,q⟩:=bf q
  exact bR q fun c=>z (al c)
 have inn:∀ m u,(S.set n .dead)[m]?=some u→u≠.dead→S[m]?=some u∧m≠n:=fun m u e d=>by
  rcases eQ hn e with ⟨rfl,rfl⟩ | ⟨z,q⟩
  ·exact absurd rfl d
  ·exact ⟨q,z⟩
 refine ⟨⟨fun _ _=>rfl,by rw [List.length_set];exact Nat.le_refl _,⟨fun m u e=>?_,fun m m' u v e1 e2 d1 d2 q=>h.inj m m' u v (inn m u e1 d1).1 (inn m' v e2 d2).1 d1 d2 q⟩,fun m e=>?_,fun m u l e _=>?_,fun b u q z=>q,fun b u q=>⟨u,q⟩⟩,?_⟩
 ·by_cases d:u=.dead
  ·subst d;exact True.intro
  ·exact (h.ob m u (inn m u e d).1).mono (fun _=>rfl) k
 ·by_cases z:m=n
  ·subst z;rw [List.getElem?_set,if_pos rfl,if_pos hn]
  ·rw [List.getElem?_set_ne (fun c=>z c.symm)];exact e
 ·rw [List.getElem?_eq_none (by rw [List.length_set];exact l)] at e;cases e
 ·rintro ⟨m,u,e,d,q⟩
  obtain ⟨e1,z⟩:=inn m u e d
  exact z (h.inj m n u ob e1 e0 d d0 q)
theorem Step.v_ (h:HR μ S H) {n:Nat} {ob:Ob} (o':HO) (e0:S[n]?=some ob) (d0:ob≠.dead):Step μ S H μ (S.set n .dead) (upd H (μ n) o')∧¬Al μ (S.set n .dead) (μ n):=by
 have hn:n < S.length:=(List.getElem?_eq_some_iff.mp e0).1
 have al0:Al μ S (μ n):=⟨n,ob,e0,d0,rfl⟩
 obtain ⟨st,na⟩:=Step.freeze h e0 d0
 have k:di (vh μ S H) (vh μ (S.set n .dead) (upd H (μ n) o')):=fun b u q=>by
  obtain ⟨z,q'⟩:=bf q
  exact bR (by rw [aN (fun c=>z (by rw [c];exact al0))];exact q') (bf (st.vis b u q)).1
 refine ⟨⟨st.ag,st.le,⟨fun m u e=>?_,st.hr.inj⟩,st.dd,fun m u l e d=>st.nw m u l e d,fun b u q z=>by rw [aN (fun c=>z (by rw [c];exact al0))];exact q,fun b u q=>?_⟩,na⟩
 ·rcases eQ hn e with ⟨rfl,rfl⟩ | ⟨z,q⟩
  ·exact True.intro
  ·by_cases d:u=.dead
   ·subst d;exact True.intro
   ·exact (h.ob m u q).mono (fun _=>aN fun c=>z (h.inj m n u ob q e0 d d0 c)) k
 ·by_cases z:b=μ n
  ·subst z;exact ⟨o',cj⟩
  ·exact ⟨u,by rw [aN z];exact q⟩
theorem cK {k n:Nat} {u:Ob} (e:(S.take k)[n]?=some u):n < k∧S[n]?=some u:=by
 rw [List.getElem?_take] at e
 split at e
 ·exact ⟨‹_›,e⟩
 ·cases e
theorem Step.take (a:Step μ S H μ' S' H'):Step μ S H μ' (S'.take S.length) H':=by
 have al:∀ {b},Al μ' (S'.take S.length) b→Al μ' S' b:=by
  rintro b ⟨m,u,e,d,rfl⟩
  exact ⟨m,u,(cK e).2,d,rfl⟩
 have k:di (vh μ' S' H') (vh μ' (S'.take S.length) H'):=fun b u q=>by
  obtain ⟨z,q⟩:=bf q
  exact bR q fun c=>z (al c)
 refine ⟨a.ag,by rw [List.length_take];have:=a.le;omega,⟨fun m u e=>(a.hr.ob m u (cK e).2).mono (fun _=>rfl) k,fun m m' u v e1 e2=>a.hr.inj m m' u v (cK e1).2 (cK e2).2⟩,fun n e=>?_,fun n u l e _=>?_,a.ko,a.dm⟩
 ·have hn:n < S.length:=(List.getElem?_eq_some_iff.mp e).1
  rw [List.getElem?_take,if_pos hn]
  exact a.dd n e
 ·have:=(cK e).1
  omega
theorem Step.move (a:Step μ S H μ' S' H') {n:Nat} {ob:Ob} (hn:S.length≤n) (e0:S'[n]?=some ob) (d0:ob≠.dead):Step μ S H (ext μ' S.length (μ' n)) (S'.take S.length++[ob]) H':=by
 have lt:(S'.take S.length).length=S.length:=by rw [List.length_take];have:=a.le;omega
 have get:∀ m u,(S'.take S.length++[ob])[m]?=some u→∃ j,S'[j]?=some u∧ext μ' S.length (μ' n) m=μ' j∧((m < S.length∧j=m)∨(m=S.length∧j=n)):=fun m u e=>by
  by_cases hm:m < S.length
  ·rw [List.getElem?_append_left (by omega)] at e
   exact ⟨m,(cK e).2,kh (Nat.ne_of_lt hm),.inl ⟨hm,rfl⟩⟩
  ·rw [List.getElem?_append_right (by omega)] at e
   have hz:m - (S'.take S.length).length=0:=by
    refine Nat.eq_zero_of_not_pos fun z=>?_
    rw [List.getElem?_eq_none (by simp;omega)] at e;cases e
   rw [hz] at e
   have hm':m=S.length:=by omega
   subst hm'
   obtain rfl:ob=u:=by simpa using e
   exact ⟨n,e0,cG,.inr ⟨rfl,rfl⟩⟩
 have al:∀ {b},Al (ext μ' S.length (μ' n)) (S'.take S.length++[ob]) b→Al μ' S' b:=by
  rintro b ⟨m,u,e,d,rfl⟩
  obtain ⟨j,q,z,_⟩:=get m u e
  exact ⟨j,u,q,d,z.symm⟩
 have k:di (vh μ' S' H') (vh (ext μ' S.length (μ' n)) (S'.take S.length++[ob]) H'):=fun b u q=>by
  obtain ⟨z,q⟩:=bf q
  exact bR q fun c=>z (al c)
 refine ⟨fun m hm=>(kh (Nat.ne_of_lt hm)).trans (a.ag m hm),by rw [List.length_append,lt];simp,⟨fun m u e=>?_,fun m m' u v e1 e2 d1 d2 q=>?_⟩,fun m e=>?_,fun m u l e d=>?_,a.ko,a.dm⟩
 ·obtain ⟨j,q,z,_⟩:=get m u e
  rw [z]
  exact (a.hr.ob j u q).mono (fun _=>rfl) k
 ·obtain ⟨j,q1,z1,w1⟩:=get m u e1
  obtain ⟨j',q2,z2,w2⟩:=get m' v e2
  rw [z1,z2] at q
  have:=a.hr.inj j j' u v q1 q2 d1 d2 q
  omega
 ·have hm:m < S.length:=(List.getElem?_eq_some_iff.mp e).1
  rw [List.getElem?_append_left (by omega),List.getElem?_take,if_pos hm]
  exact a.dd m e
 ·obtain ⟨j,q,z,w⟩:=get m u e
  rw [z]
  have hj:S.length≤j:=by omega
  exact a.nw j u hj q d
end
section
variable (K:PySem.W.Frag) (mg:Str→Option Value)
def aO (μ:Nat→Addr) (S:Sto) (H:Hp) (v:V):Vl→Prop
 | .d x=>Rep (vh μ S H) v x
 | .r n=>v=.ref (μ n)∧n < S.length
 | .fd kvs=>∃ (a:Addr) (vs:List V) (o:Obj),v=.ref a∧vs.length=kvs.length∧vh μ S H a=some (.frz o (.dK ((kvs.map (·.1)).zip vs)))∧av (vh μ S H) vs (kvs.map (·.2))
 | .fn x=>∃ f:Addr,mg x=some (.ref f)∧v=.ref f
 | .sc ns=>∃ l:Addr,v=.ref l∧SqL K (vh μ S H) l (ns.map V.int)
 | .pr x n=>∃ (a:Addr) (u:V),v=.ref a∧vh μ S H a=some (.tup [u,.ref (μ n)])∧Rep (vh μ S H) u x∧n < S.length
inductive bz (μ:Nat→Addr) (S:Sto) (H:Hp):List V→List Vl→Prop
 | nil:bz μ S H [] []
 | cons {v:V} {x:Vl} {vs:List V} {xs:List Vl}:aO K mg μ S H v x→bz μ S H vs xs→bz μ S H (v :: vs) (x :: xs)
structure bU (μ:Nat→Addr) (S:Sto) (H:Hp) (σ:St) (τ:Nv):Prop where
 len:σ.length=τ.length
 get:∀ (i:Nat) (x:Vl),τ[i]?=some (some x)→∃ v,σ[i]?=some (some v)∧aO K mg μ S H v x
end
section
variable {K:PySem.W.Frag} {mg:Str→Option Value} {μ μ':Nat→Addr} {S S':Sto} {H H':Hp}
theorem SqL.mono {l:Addr} {xs:List V} {H H':Hp} (k:di H H') (h:SqL K H l xs):SqL K H' l xs:=by
 rcases h with (h | ⟨o,h⟩) | h
 ·exact .inl (.inl (k _ _ h))
 ·exact .inl (.inr ⟨o,k _ _ h⟩)
 ·exact .inr h
theorem aO.step {v:V} {x:Vl} (a:Step μ S H μ' S' H') (h:aO K mg μ S H v x):aO K mg μ' S' H' v x:=by
 cases x with
 | d x=>exact Rep.mono a.vis h
 | r n=>obtain ⟨rfl,hn⟩:=h;exact ⟨by rw [a.ag n hn],Nat.lt_of_lt_of_le hn a.le⟩
 | fd kvs=>obtain ⟨p,vs,o,e,l,q,r⟩:=h;exact ⟨p,vs,o,e,l,a.vis _ _ q,r.mono a.vis⟩
 | pr x n=>obtain ⟨p,u,e,q,r,hn⟩:=h;exact ⟨p,u,e,by rw [a.ag n hn];exact a.vis _ _ q,Rep.mono a.vis r,Nat.lt_of_lt_of_le hn a.le⟩
 | fn x=>exact h
 | sc ns=>obtain ⟨l,e,q⟩:=h;exact ⟨l,e,q.mono a.vis⟩
theorem bz.step (a:Step μ S H μ' S' H'):∀ {vs:List V} {xs:List Vl},bz K mg μ S H vs xs→bz K mg μ' S' H' vs xs
 | _,_,.nil=>.nil
 | _,_,.cons r t=>.cons (r.step a) (bz.step a t)
theorem bz.length:∀ {vs:List V} {xs:List Vl},bz K mg μ S H vs xs→vs.length=xs.length
 | _,_,.nil=>rfl
 | _,_,.cons _ t=>by simp [bz.length t]
theorem bz.get:∀ {vs:List V} {xs:List Vl} {i:Nat} {x:Vl},bz K mg μ S H vs xs→xs[i]?=some x→∃ v,vs[i]?=some v∧aO K mg μ S H v x
 | _,_,_,_,.nil,e=>by simp at e
 | _,_,0,_,.cons r _,e=>by simp at e;subst e;exact ⟨_,rfl,r⟩
 | _,_,i+1,x,.cons _ t,e=>by
  obtain ⟨d,h1,h2⟩:=bz.get (i:=i) (x:=x) t (by simpa using e)
  exact ⟨d,by simpa using h1,h2⟩
theorem bz.rf:∀ {vs:List V} {ds:List D},av (vh μ S H) vs ds→bz K mg μ S H vs (ds.map Vl.d)
 | _,_,.nil=>.nil
 | _,_,.cons r t=>.cons (show aO K mg μ S H _ (.d _) from r) (bz.rf t)
theorem bU.step {σ:St} {τ:Nv} (a:Step μ S H μ' S' H') (h:bU K mg μ S H σ τ):bU K mg μ' S' H' σ τ:=
 ⟨h.len,fun i x e=>by obtain ⟨v,e1,r⟩:=h.get i x e;exact ⟨v,e1,r.step a⟩⟩
theorem bU.set {σ:St} {τ:Nv} {v:V} {x:Vl} (i:Nat) (h:bU K mg μ S H σ τ) (r:aO K mg μ S H v x):bU K mg μ S H (σ.set i (some v)) (τ.set i (some x)):=by
 refine ⟨by rw [List.length_set,List.length_set];exact h.len,fun j y e=>?_⟩
 rw [List.getElem?_set] at e ⊢
 by_cases q:i=j
 ·subst q
  rw [if_pos rfl] at e ⊢
  by_cases hl:i < τ.length
  ·rw [if_pos hl] at e
   cases e
   exact ⟨v,by rw [if_pos (by rw [h.len];exact hl)],r⟩
  ·rw [if_neg hl] at e;cases e
 ·rw [if_neg q] at e ⊢
  exact h.get j y e
theorem bU.pre {σ:St} {τ:Nv} (k:Nat) (h:bU K mg μ S H σ τ):bU K mg μ S H (List.replicate k none++σ) (List.replicate k none++τ):=by
 refine ⟨by simp [h.len],fun i x e=>?_⟩
 by_cases hi:i < k
 ·rw [List.getElem?_append_left (by simpa using hi),List.getElem?_replicate,if_pos hi] at e
  cases e
 ·rw [List.getElem?_append_right (by simpa using hi)] at e ⊢
  simpa using h.get (i - k) x (by simpa using e)
theorem bU.beg {N:List Str} {vs:List V} {us:List Vl} (h:bz K mg μ S H vs us):bU K mg μ S H (L2.start N vs) (us.map some++List.replicate (N.length - us.length) none):=by
 have l:=h.length
 refine ⟨by simp [L2.start,l],fun i x e=>?_⟩
 unfold L2.start
 by_cases hi:i < us.length
 ·rw [List.getElem?_append_left (by simpa using hi),List.getElem?_map] at e
  cases q:us[i]? with
  | none=>rw [q] at e;cases e
  | some y=>
   rw [q] at e
   cases e
   obtain ⟨v,e1,r⟩:=h.get q
   exact ⟨v,by rw [List.getElem?_append_left (by simp;omega),List.getElem?_map,e1];rfl,r⟩
 ·rw [List.getElem?_append_right (by simpa using hi),List.getElem?_replicate] at e
  split at e<;>cases e
end
abbrev WX:=Str→List (Str×D)→Sto→(Nat→Addr)→Hp→Prop
abbrev W0:WX:=fun _ _ _ _ _=>False
def aQ {α β:Type} (Rl:(Nat→Addr)→Sto→Hp→β→α→Prop) (WE:WX) (μ:Nat→Addr) (S:Sto) (H:Hp) (res:R α) (Q:β→Hp→Prop):Prop:=match res with
 | .ok a S'=>∀ b μ' H',Step μ S H μ' S' H'→Rl μ' S' H' b a→Q b H'
 | .ex c xs S'=>∀ μ' H',Step μ S H μ' S' H'→WE c xs S' μ' H'
 | .bad=>False
section
variable {α β γ δ:Type} {Rl:(Nat→Addr)→Sto→Hp→β→α→Prop} {Rl2:(Nat→Addr)→Sto→Hp→δ→γ→Prop} {WE:WX} {μ μ1:Nat→Addr} {S S1:Sto} {H H1:Hp} {res:R α} {Q:β→Hp→Prop} {Q2:δ→Hp→Prop}
theorem aQ.shift (h:aQ Rl WE μ S H res Q) (a:Step μ S H μ1 S1 H1):aQ Rl WE μ1 S1 H1 res Q:=by
 cases res with
 | ok x S'=>exact fun b μ' H' st r=>h b μ' H' (a.trans st) r
 | ex c xs S'=>exact fun μ' H' st=>h μ' H' (a.trans st)
 | bad=>exact h
theorem aQ.bind {f:α→Sto→R γ} (h:aQ Rl2 WE μ S H (res.bind f) Q2) (k:∀ b a S1 μ1 H1,Step μ S H μ1 S1 H1→Rl μ1 S1 H1 b a→aQ Rl2 WE μ1 S1 H1 (f a S1) Q2→Q b H1):aQ Rl WE μ S H res Q:=by
 cases res with
 | ok x S'=>exact fun b μ' H' st r=>k b x S' μ' H' st r (aQ.shift (show aQ Rl2 WE μ S H (f x S') Q2 from h) st)
 | ex c xs S'=>exact h
 | bad=>exact h
theorem aQ.here {a:α} {b:β} (hr:HR μ S H) (h:aQ Rl WE μ S H (.ok a S) Q) (r:Rl μ S H b a):Q b H:=h b μ H (Step.refl hr) r
end
inductive FlV where
 | nx | bk | ct | rt (v:V)
def Ends.at (D:Ends) (p:FlV×St) (H:Hp):Prop:=match p.1 with
 | .nx=>D.nx p.2 H
 | .bk=>D.bk p.2 H
 | .ct=>D.ct p.2 H
 | .rt v=>D.rt v H
section
variable (K:PySem.W.Frag) (mg:Str→Option Value)
def FlR (μ:Nat→Addr) (S:Sto) (H:Hp):FlV→Fl→Prop
 | .nx,.nx=>True
 | .bk,.bk=>True
 | .ct,.ct=>True
 | .rt v,.rt z=>aO K mg μ S H v z
 | _,_=>False
def RlS (μ:Nat→Addr) (S:Sto) (H:Hp) (p:FlV×St) (q:Fl×Nv):Prop:=bU K mg μ S H p.2 q.2∧FlR K mg μ S H p.1 q.1
abbrev RlQ {α:Type} (_:Nat→Addr) (_:Sto) (_:Hp) (b a:α):Prop:=b=a
structure kc (μ:Nat→Addr) (S:Sto) (H:Hp) (J:It) (I:Its):Prop where
 ok:I.ok S
 len:I.items.length≤sizeLine
 go:∀ i z μ' S' H',Step μ S H μ' S' H'→I.ok S'→I.items[i]?=some z→J.go i H'
 yld:∀ i z μ' S' H' x H2,Step μ S H μ' S' H'→I.ok S'→I.items[i]?=some z→J.yld i H' x H2→Step μ' S' H' μ' S' H2∧aO K mg μ' S' H2 x z
 stop:∀ i μ' S' H',Step μ S H μ' S' H'→I.ok S'→I.items.length=i→J.stop i H'
def trE (WE:WX) (m:XE):TE:=fun σ H Q=>∃ μ S τ,HR μ S H∧bU K mg μ S H σ τ∧aQ (aO K mg) WE μ S H (m τ S) Q
def trT (WE:WX) (m:XT):TT:=fun σ H Q=>∃ μ S τ,HR μ S H∧bU K mg μ S H σ τ∧aQ RlQ WE μ S H (m τ S) Q
def trA (WE:WX) (m:XA):TA:=fun σ H Q=>∃ μ S τ,HR μ S H∧bU K mg μ S H σ τ∧aQ (bz K mg) WE μ S H (m τ S) Q
def trO (WE:WX) (m:XO):TO:=fun σ H Q=>∃ μ S τ,HR μ S H∧bU K mg μ S H σ τ∧aQ RlQ WE μ S H (m τ S) Q
def trS (WE:WX) (m:XS):TS:=fun D σ H=>∃ μ S τ,HR μ S H∧bU K mg μ S H σ τ∧aQ (RlS K mg) WE μ S H (m τ S) D.at
def trG (WE:WX) (g:XG):TG:=fun v σ H Q=>∃ μ S τ z,HR μ S H∧bU K mg μ S H σ τ∧aO K mg μ S H v z∧aQ (bU K mg) WE μ S H (g z τ S) Q
def D6 (WE:WX) (g:XGs):TGs:=fun vs σ H Q=>∃ μ S τ zs,HR μ S H∧bU K mg μ S H σ τ∧bz K mg μ S H vs zs∧aQ (bU K mg) WE μ S H (g zs τ S) Q
def trI (WE:WX) (it:XI):TI:=fun σ H Rr=>∃ μ S τ,HR μ S H∧bU K mg μ S H σ τ∧aQ (kc K mg) WE μ S H (it τ S) Rr
end
structure RE (X:Cx) (WE:WX) (e:Expr) (m:XE):Prop where
 h:PE X e (trE X.K X.mg WE m)
structure RT (X:Cx) (WE:WX) (e:Expr) (m:XT):Prop where
 h:PT X e (trT X.K X.mg WE m)
structure RW (X:Cx) (WE:WX) (e:Expr) (m:XT):Prop where
 h:PW X e (trT X.K X.mg WE m)
structure RA (X:Cx) (WE:WX) (es:List Expr) (m:XA):Prop where
 h:PA X es (trA X.K X.mg WE m)
structure RO (X:Cx) (WE:WX) (e:Option Expr) (m:XO):Prop where
 h:PO X e (trO X.K X.mg WE m)
structure RS (X:Cx) (WE:WX) (s:Stmt) (m:XS):Prop where
 h:PS X s (trS X.K X.mg WE m)
structure RB (X:Cx) (WE:WX) (s:List Stmt) (m:XS):Prop where
 h:PSs X s (trS X.K X.mg WE m)
structure RG (X:Cx) (WE:WX) (t:Expr) (g:XG):Prop where
 h:PG X t (trG X.K X.mg WE g)
structure RGs (X:Cx) (WE:WX) (ts:List Expr) (g:XGs):Prop where
 h:PGs X ts (D6 X.K X.mg WE g)
structure RI (X:Cx) (WE:WX) (tg iter:Expr) (it:XI):Prop where
 h:PI X tg iter (trI X.K X.mg WE it)
structure RTs (X:Cx) (WE:WX) (ifs:List Expr) (m:XT):Prop where
 h:PTs X ifs (trT X.K X.mg WE m)
section
variable {X:Cx}
theorem PE.weak {e:Expr} {t t':TE} (h:PE X e t) (k:∀ σ H Q,t' σ H Q→t σ H Q):PE X e t':=fun pins s σ H Q I q=>h pins s σ H Q I (k σ H Q q)
theorem PT.weak {e:Expr} {t t':TT} (h:PT X e t) (k:∀ σ H Q,t' σ H Q→t σ H Q):PT X e t':=fun pins s σ H Q I q=>h pins s σ H Q I (k σ H Q q)
theorem PW.weak {e:Expr} {t t':TT} (h:PW X e t) (k:∀ σ H Q,t' σ H Q→t σ H Q):PW X e t':=fun wh pins s σ H Q I q=>h wh pins s σ H Q I (k σ H Q q)
theorem PA.weak {e:List Expr} {t t':TA} (h:PA X e t) (k:∀ σ H Q,t' σ H Q→t σ H Q):PA X e t':=fun po pins s σ H Q I q=>h po pins s σ H Q I (k σ H Q q)
theorem PS.weak {e:Stmt} {t t':TS} (h:PS X e t) (k:∀ D σ H,t' D σ H→t D σ H):PS X e t':=fun pins s σ H D I q=>h pins s σ H D I (k D σ H q)
theorem PSs.weak {e:List Stmt} {t t':TS} (h:PSs X e t) (k:∀ D σ H,t' D σ H→t D σ H):PSs X e t':=fun pins s σ H D I q=>h pins s σ H D I (k D σ H q)
theorem PG.weak {e:Expr} {t t':TG} (h:PG X e t) (k:∀ v σ H Q,t' v σ H Q→t v σ H Q):PG X e t':=fun pins s σ H v u Q I r q=>h pins s σ H v u Q I r (k v σ H Q q)
theorem PGs.weak {e:List Expr} {t t':TGs} (h:PGs X e t) (k:∀ v σ H Q,t' v σ H Q→t v σ H Q):PGs X e t':=fun pins s σ H v u Q I r q=>h pins s σ H v u Q I r (k v σ H Q q)
theorem PI.weak {tg e:Expr} {t t':TI} (h:PI X tg e t) (k:∀ σ H Q,t' σ H Q→t σ H Q):PI X tg e t':=fun pins s σ H Q I q=>h pins s σ H Q I (k σ H Q q)
end
def cm (K:PySem.W.Frag) (mg:Str→Option Value) (r:R2) (f:Vl→Vl→Sto→R Vl):Prop:=∀ (WE:WX) (μ:Nat→Addr) (S:Sto) (H:Hp) (v w:V) (x y:Vl) (Q:VK),HR μ S H→aO K mg μ S H v x→aO K mg μ S H w y→aQ (aO K mg) WE μ S H (f x y S) Q→r v w H Q
def B6 (K:PySem.W.Frag) (mg:Str→Option Value) (r:V→Hp→VK→Prop) (f:Vl→Sto→R Vl):Prop:=∀ (WE:WX) (μ:Nat→Addr) (S:Sto) (H:Hp) (v:V) (x:Vl) (Q:VK),HR μ S H→aO K mg μ S H v x→aQ (aO K mg) WE μ S H (f x S) Q→r v H Q
def dR (K:PySem.W.Frag) (mg:Str→Option Value) (r:List V→Hp→VK→Prop) (f:List Vl→Sto→R Vl):Prop:=∀ (WE:WX) (μ:Nat→Addr) (S:Sto) (H:Hp) (vs:List V) (xs:List Vl) (Q:VK),HR μ S H→bz K mg μ S H vs xs→aQ (aO K mg) WE μ S H (f xs S) Q→r vs H Q
def aa (i:Nat):XE:=fun τ S=>match τ[i]? with
 | some (some v)=>.ok v S
 | _=>.bad
def xC (d:D):XE:=fun _ S=>.ok (.d d) S
def xFn (x:Str):XE:=fun _ S=>.ok (.fn x) S
def xOp (f:Vl→Vl→Sto→R Vl) (a b:XE):XE:=fun τ S=>(a τ S).bind fun x S1=>(b τ S1).bind fun y S2=>f x y S2
def xUn (f:Vl→Sto→R Vl) (a:XE):XE:=fun τ S=>(a τ S).bind fun x S1=>f x S1
def fq (f f':Vl→Vl→Sto→R Vl) (a b c:XE):XE:=fun τ S=>(a τ S).bind fun x S1=>(b τ S1).bind fun y S2=>(f x y S2).bind fun z S3=>match z with
 | .d (.bl k)=>if k=true then (c τ S3).bind fun w S4=>f' y w S4 else .ok (.d (.bl false)) S3
 | _=>.bad
def asB (z:Vl) (S:Sto):R Bool:=match z with
 | .d (.bl b)=>.ok b S
 | _=>.bad
def aV (a:XE):XT:=fun τ S=>(a τ S).bind asB
def tru (z:Vl) (S:Sto):R Bool:=match z with
 | .d .non=>.ok false S
 | .d (.bl b)=>.ok b S
 | .d (.int i)=>.ok (i != 0) S
 | .d (.tup xs)=>.ok (!xs.isEmpty) S
 | .d (.lst xs)=>.ok (!xs.isEmpty) S
 | .r n=>match S[n]? with
  | some (.lst xs)=>.ok (!xs.isEmpty) S
  | some (.dct kvs)=>.ok (!kvs.isEmpty) S
  | _=>.bad
 | _=>.bad
def cU (a:XE):XT:=fun τ S=>(a τ S).bind tru
def ET (a b:XT):XT:=fun τ S=>(a τ S).bind fun c S1=>if c=true then b τ S1 else .ok false S1
def xOr (a b:XT):XT:=fun τ S=>(a τ S).bind fun c S1=>if c=true then .ok true S1 else b τ S1
def dg (a:XT):XT:=fun τ S=>(a τ S).bind fun c S1=>.ok (!c) S1
def bO (a b:XE):XE:=fun τ S=>(a τ S).bind fun x S1=>(asB x S1).bind fun c S2=>if c=true then b τ S2 else .ok (.d (.bl false)) S2
def En (a b:XE):XE:=fun τ S=>(a τ S).bind fun x S1=>(asB x S1).bind fun c S2=>if c=true then .ok (.d (.bl true)) S2 else b τ S2
def ow (a:XE):XE:=fun τ S=>(a τ S).bind fun x S1=>(asB x S1).bind fun c S2=>.ok (.d (.bl (!c))) S2
def Ea (c:XT) (a b:XE):XE:=fun τ S=>(c τ S).bind fun k S1=>if k=true then a τ S1 else b τ S1
def aj:XA:=fun _ S=>.ok [] S
def ab (a:XE) (r:XA):XA:=fun τ S=>(a τ S).bind fun x S1=>(r τ S1).bind fun xs S2=>.ok (x :: xs) S2
def ij:List Vl→Option (List D)
 | []=>some []
 | .d x :: r=>(ij r).map (x :: ·)
 | _=>none
def mkT (xs:List Vl) (S:Sto):R Vl:=match ij xs with
 | some ds=>if ds.length≤100000 then .ok (.d (.tup ds)) S else .bad
 | none=>.bad
def mkL (xs:List Vl) (S:Sto):R Vl:=match ij xs with
 | some ds=>if ds.length≤100000 then .ok (.d (.lst ds)) S else .bad
 | none=>.bad
def mkM (xs:List Vl) (S:Sto):R Vl:=match ij xs with
 | some ds=>if ds.length≤100000 then .ok (.r S.length) (S++[.lst ds]) else .bad
 | none=>.bad
def xN (f:List Vl→Sto→R Vl) (as:XA):XE:=fun τ S=>(as τ S).bind f
def frz (z:Vl) (S:Sto):R Vl:=match z with
 | .r n=>match S[n]? with
  | some (.lst xs)=>.ok (.d (.lst xs)) (S.set n .dead)
  | some (.dct kvs)=>.ok (.fd kvs) (S.set n .dead)
  | _=>.bad
 | z=>.ok z S
def xFz (a:XE):XE:=fun τ S=>(a τ S).bind frz
def cf:XO:=fun _ S=>.ok none S
def cR (a:XE):XO:=fun τ S=>(a τ S).bind fun x S1=>match x with
 | .d (.int i)=>.ok (some i) S1
 | _=>.bad
def xSl (f:Vl→Option Int→Option Int→Sto→R Vl) (a:XE) (l h:XO):XE:=fun τ S=>(a τ S).bind fun x S1=>(l τ S1).bind fun i S2=>(h τ S2).bind fun j S3=>f x i j S3
section
variable {X:Cx} {WE:WX} {a b c e:Expr} {xa xb xc xe:XE} {pos:Pos} {es:List Expr} {t u:XT}
theorem rv (i:Nat) {x:Str} (hN:X.N[i]?=some x:=by rfl) (hv:Vis X.env.scope x:=by first | exact Or.inl rfl | exact Or.inr (Or.inl rfl) | exact Or.inr (Or.inr rfl)) (hd:(x == ("__debug__":Str))=false:=by decide)
  (hcd:(x == ("__classdict__":Str))=false:=by decide):RE X WE (.Name x pos) (aa i):=⟨(As hN hv hd hcd).weak fun σ H Q ⟨μ,S,τ,hr,sr,p⟩=>by
 unfold aa at p
 split at p
 ·obtain ⟨v,e1,r⟩:=sr.get _ _ ‹_›
  exact ⟨v,e1,p.here hr r⟩
 ·exact p.elim⟩
theorem ah {i j}:RE X WE (.Constant (.int i) j pos) (xC (.int i)):=⟨zE.weak fun _ _ _ ⟨_,_,_,hr,_,p⟩=>p.here hr (Rep.int i)⟩
theorem cP {i j}:RE X WE (.Constant (.bool i) j pos) (xC (.bl i)):=⟨Dz.weak fun _ _ _ ⟨_,_,_,hr,_,p⟩=>p.here hr (Rep.bl i)⟩
theorem u1 {j}:RE X WE (.Constant .none j pos) (xC .non):=⟨BH.weak fun _ _ _ ⟨_,_,_,hr,_,p⟩=>p.here hr Rep.non⟩
theorem dj {x j}:RE X WE (.Constant (.str x) j pos) (xC (.str x)):=⟨zJ.weak fun _ _ _ ⟨_,_,_,hr,_,p⟩=>p.here hr (Rep.str x)⟩
theorem two {r:R2} {f:Vl→Vl→Sto→R Vl} (hf:cm X.K X.mg r f) {σ:St} {H:Hp} {Q:VK} (h:trE X.K X.mg WE (xOp f xa xb) σ H Q):tOp r (trE X.K X.mg WE xa) (trE X.K X.mg WE xb) σ H Q:=by
 obtain ⟨μ,S,τ,hr,sr,p⟩:=h
 refine ⟨μ,S,τ,hr,sr,p.bind fun v x S1 μ1 H1 st1 r1 p1=>?_⟩
 refine ⟨μ1,S1,τ,st1.hr,sr.step st1,p1.bind fun w y S2 μ2 H2 st2 r2 p2=>?_⟩
 exact hf WE μ2 S2 H2 v w x y Q st2.hr (r1.step st2) r2 p2
theorem aE {op:Operator} {r:R2} {f:Vl→Vl→Sto→R Vl} (ho:OpR X (binaryOp op) r) (hf:cm X.K X.mg r f) (ha:RE X WE a xa) (hb:RE X WE b xb):RE X WE (.BinOp a op b pos) (xOp f xa xb):=
 ⟨(C7 ho ha.h hb.h).weak fun _ _ _ h=>two hf h⟩
theorem jj {op:UnaryOp} {r:V→Hp→VK→Prop} {f:Vl→Sto→R Vl} (ho:UnR X (unaryOp op) r) (hf:B6 X.K X.mg r f) (ha:RE X WE a xa):RE X WE (.UnaryOp op a pos) (xUn f xa):=
 ⟨(CL ho ha.h).weak fun σ H Q ⟨μ,S,τ,hr,sr,p⟩=>⟨μ,S,τ,hr,sr,p.bind fun v x S1 μ1 H1 st1 r1 p1=>hf WE μ1 S1 H1 v x Q st1.hr r1 p1⟩⟩
theorem bX {op:CmpOp} {r:R2} {f:Vl→Vl→Sto→R Vl} (ho:OpR X (compareOp op) r) (hf:cm X.K X.mg r f) (ha:RE X WE a xa) (hb:RE X WE b xb) (hm:behindInMarks op b=false:=by first | exact uu _ | with_unfolding_all rfl):RE X WE (.Compare a [op] [b] pos) (xOp f xa xb):=
 ⟨(yo ho ha.h hb.h hm).weak fun _ _ _ h=>two hf h⟩
theorem rS {σ:St} {H:Hp} {Q:Bool→Hp→Prop} (h:trT X.K X.mg WE (aV xa) σ H Q):trE X.K X.mg WE xa σ H fun v H'=>∃ k,v=.bl k∧Q k H':=by
 obtain ⟨μ,S,τ,hr,sr,p⟩:=h
 refine ⟨μ,S,τ,hr,sr,p.bind fun v x S1 μ1 H1 st1 r1 p1=>?_⟩
 unfold asB at p1
 split at p1
 ·cases (show Rep (vh μ1 S1 H1) v (.bl _) from r1)
  exact ⟨_,rfl,p1.here st1.hr rfl⟩
 ·exact p1.elim
theorem aU {op:CmpOp} {r:R2} {f:Vl→Vl→Sto→R Vl} (ho:OpR X (compareOp op) r) (hf:cm X.K X.mg r f) (ha:RE X WE a xa) (hb:RE X WE b xb) (hm:behindInMarks op b=false:=by first | exact uu _ | with_unfolding_all rfl):RT X WE (.Compare a [op] [b] pos) (aV (xOp f xa xb)):=
 ⟨(zd ho ha.h hb.h hm).weak fun _ _ _ h=>two hf (rS h)⟩
theorem qk {r r':R2} {f f':Vl→Vl→Sto→R Vl} (hf:cm X.K X.mg r f) (hf':cm X.K X.mg r' f') {σ:St} {H:Hp} {Q:VK} (h:trE X.K X.mg WE (fq f f' xa xb xc) σ H Q):pR r r' (trE X.K X.mg WE xa) (trE X.K X.mg WE xb) (trE X.K X.mg WE xc) σ H Q:=by
 obtain ⟨μ,S,τ,hr,sr,p⟩:=h
 refine ⟨μ,S,τ,hr,sr,p.bind fun v x S1 μ1 H1 st1 r1 p1=>?_⟩
 refine ⟨μ1,S1,τ,st1.hr,sr.step st1,p1.bind fun w y S2 μ2 H2 st2 r2 p2=>?_⟩
 refine hf WE μ2 S2 H2 v w x y _ st2.hr (r1.step st2) r2 (p2.bind fun z zz S3 μ3 H3 st3 r3 p3=>?_)
 try dsimp only at p3
 split at p3
 ·cases (show Rep (vh μ3 S3 H3) z (.bl _) from r3)
  refine ⟨_,rfl,?_⟩
  split at p3
  ·rename_i k hk
   rw [if_pos hk]
   refine ⟨μ3,S3,τ,st3.hr,sr.step (st1.trans (st2.trans st3)),p3.bind fun q qq S4 μ4 H4 st4 r4 p4=>?_⟩
   exact hf' WE μ4 S4 H4 w q y qq Q st4.hr (r2.step (st3.trans st4)) r4 p4
  ·rename_i k hk
   rw [if_neg hk]
   exact p3.here st3.hr (Rep.bl false)
 ·exact p3.elim
theorem lx {op op':CmpOp} {r r':R2} {f f':Vl→Vl→Sto→R Vl} (ho:OpR X (compareOp op) r) (hf:cm X.K X.mg r f) (ho':OpR X (compareOp op') r') (hf':cm X.K X.mg r' f') (ha:RE X WE a xa) (hb:RE X WE b xb) (hc:RE X WE c xc)
  (hm:lastMarks [op,op'] [b,c]=false:=by with_unfolding_all rfl):RE X WE (.Compare a [op,op'] [b,c] pos) (fq f f' xa xb xc):=⟨(v9 ho ho' ha.h hb.h hc.h hm).weak fun _ _ _ h=>qk hf hf' h⟩
theorem vI {op op':CmpOp} {r r':R2} {f f':Vl→Vl→Sto→R Vl} (ho:OpR X (compareOp op) r) (hf:cm X.K X.mg r f) (ho':OpR X (compareOp op') r') (hf':cm X.K X.mg r' f') (ha:RE X WE a xa) (hb:RE X WE b xb) (hc:RE X WE c xc)
  (hm:lastMarks [op,op'] [b,c]=false:=by with_unfolding_all rfl):RT X WE (.Compare a [op,op'] [b,c] pos) (aV (fq f f' xa xb xc)):=⟨(v7 ho ho' ha.h hb.h hc.h hm).weak fun _ _ _ h=>qk hf hf' (rS h)⟩
theorem isE {α β:Type} {xs:List α} {ys:List β} (h:xs.length=ys.length):(!xs.isEmpty)=!ys.isEmpty:=by
  cases xs<;>cases ys<;>first | rfl | simp at h
theorem A3 {K:PySem.W.Frag} {mg:Str→Option Value} {WE:WX} {μ:Nat→Addr} {S:Sto} {H:Hp} {v:V} {x:Vl} {Q:Bool→Hp→Prop} (hr:HR μ S H) (r:aO K mg μ S H v x) (p:aQ RlQ WE μ S H (tru x S) Q):∃ k,wL K v H k∧Q k H:=by
 unfold tru at p
 split at p
 ·cases (show Rep (vh μ S H) v .non from r);exact ⟨false,rfl,p.here hr rfl⟩
 ·cases (show Rep (vh μ S H) v (.bl _) from r);exact ⟨_,rfl,p.here hr rfl⟩
 ·cases (show Rep (vh μ S H) v (.int _) from r);exact ⟨_,rfl,p.here hr rfl⟩
 ·cases (show Rep (vh μ S H) v (.tup _) from r) with
  | tup h rs=>exact ⟨_,.inr (.inl ⟨_,SqT.of (bf h).2,rfl⟩),by rw [isE rs.length];exact p.here hr rfl⟩
 ·cases (show Rep (vh μ S H) v (.lst _) from r) with
  | lst h rs=>exact ⟨_,.inl ⟨_,SqL.of (bf h).2,rfl⟩,by rw [isE rs.length];exact p.here hr rfl⟩
 ·obtain ⟨rfl,hn⟩:=r
  split at p
  ·rename_i xs e
   obtain ⟨vs,h,rs⟩:=hr.ob _ _ e
   exact ⟨_,.inl ⟨_,SqL.of h,rfl⟩,by rw [isE rs.length];exact p.here hr rfl⟩
  ·rename_i kvs e
   obtain ⟨vs,l,h,rs⟩:=hr.ob _ _ e
   exact ⟨_,.inr (.inr ⟨_,h,rfl⟩),by rw [isE (ys:=kvs) (by simp [l])];exact p.here hr rfl⟩
  ·exact p.elim
 ·exact p.elim
theorem bZ (ha:RE X WE a xa) (he:∀ whole,isTrue a X.env whole=(do let v ← whole;standAt a.pos;holding [v] (truthy v)):=by intro _;rfl):RT X WE a (cU xa):=
 ⟨(vq ha.h he).weak fun σ H Q ⟨μ,S,τ,hr,sr,p⟩=>⟨μ,S,τ,hr,sr,p.bind fun v x S1 μ1 H1 st1 r1 p1=>A3 st1.hr r1 p1⟩⟩
theorem fw (ha:RT X WE a t):RW X WE (.BoolOp .Or [a] pos) t:=⟨Bm ha.h⟩
theorem fJ (ha:RT X WE a t) (hb:RW X WE (.BoolOp .Or (b :: es) pos) u):RW X WE (.BoolOp .Or (a :: b :: es) pos) (xOr t u):=
 ⟨(C6 ha.h hb.h).weak fun σ H Q ⟨μ,S,τ,hr,sr,p⟩=>⟨μ,S,τ,hr,sr,p.bind fun k k' S1 μ1 H1 st1 r1 p1=>by
  cases (show k=k' from r1)
  try dsimp only at p1
  split at p1
  ·rename_i hk;rw [if_pos hk];exact p1.here st1.hr rfl
  ·rename_i hk;rw [if_neg hk];exact ⟨μ1,S1,τ,st1.hr,sr.step st1,p1⟩⟩⟩
theorem RW.rt (h:RW X WE a t):RT X WE a t:=⟨h.h.pt⟩
theorem ck (ha:RT X WE a t):RT X WE (.UnaryOp .Not a pos) (dg t):=
 ⟨(z3 ha.h).weak fun σ H Q ⟨μ,S,τ,hr,sr,p⟩=>⟨μ,S,τ,hr,sr,p.bind fun k k' S1 μ1 H1 st1 r1 p1=>by
  cases (show k=k' from r1)
  exact p1.here st1.hr rfl⟩⟩
theorem u0 {K:PySem.W.Frag} {mg:Str→Option Value} {α β:Type} {Rl:(Nat→Addr)→Sto→Hp→β→α→Prop} {μ:Nat→Addr} {S:Sto} {H:Hp} {v:V} {x:Vl} {Q:β→Hp→Prop} {f:Bool→Sto→R α} (r:aO K mg μ S H v x) (p:aQ Rl WE μ S H ((asB x S).bind f) Q):∃ k,v=.bl k∧aQ Rl WE μ S H (f k S) Q:=by
 unfold asB at p
 split at p
 ·cases (show Rep (vh μ S H) v (.bl _) from r)
  exact ⟨_,rfl,p⟩
 ·exact p.elim
theorem b_ {op} (ha:RE X WE a xa):RE X WE (.BoolOp op [a] pos) xa:=⟨Be ha.h⟩
theorem bF (ha:RE X WE a xa) (hb:RE X WE (.BoolOp .And (b :: es) pos) xb):RE X WE (.BoolOp .And (a :: b :: es) pos) (bO xa xb):=
 ⟨(A5 ha.h hb.h).weak fun σ H Q ⟨μ,S,τ,hr,sr,p⟩=>⟨μ,S,τ,hr,sr,p.bind fun v x S1 μ1 H1 st1 r1 p1=>by
  obtain ⟨k,rfl,p1⟩:=u0 r1 p1
  refine ⟨k,rfl,?_⟩
  split at p1
  ·rename_i hk;rw [if_pos hk];exact ⟨μ1,S1,τ,st1.hr,sr.step st1,p1⟩
  ·rename_i hk;rw [if_neg hk];exact p1.here st1.hr (Rep.bl false)⟩⟩
theorem tL (ha:RE X WE a xa):RE X WE (.UnaryOp .Not a pos) (ow xa):=
 ⟨(Bz ha.h).weak fun σ H Q ⟨μ,S,τ,hr,sr,p⟩=>⟨μ,S,τ,hr,sr,p.bind fun v x S1 μ1 H1 st1 r1 p1=>by
  obtain ⟨k,rfl,p1⟩:=u0 r1 p1
  exact ⟨k,rfl,p1.here st1.hr (Rep.bl _)⟩⟩⟩
theorem af:RA X WE [] aj:=⟨gS.weak fun σ H Q ⟨μ,S,τ,hr,sr,p⟩=>p.here hr .nil⟩
theorem ae {ts:XA} [n:NS e] (ha:RE X WE e xe) (hr:RA X WE es ts):RA X WE (e :: es) (ab xe ts):=
 ⟨(d6 ha.h hr.h (n.eq es X.env)).weak fun σ H Q ⟨μ,S,τ,hr,sr,p⟩=>⟨μ,S,τ,hr,sr,p.bind fun v x S1 μ1 H1 st1 r1 p1=>⟨μ1,S1,τ,st1.hr,sr.step st1,p1.bind fun vs xs S2 μ2 H2 st2 r2 p2=>
  p2.here st2.hr (.cons (r1.step st2) r2)⟩⟩⟩
theorem fP {K:PySem.W.Frag} {mg:Str→Option Value} {μ:Nat→Addr} {S:Sto} {H:Hp}:∀ {vs:List V} {xs:List Vl} {ds:List D},bz K mg μ S H vs xs→ij xs=some ds→av (vh μ S H) vs ds
 | _,_,_,.nil,e=>by simp [ij] at e;subst e;exact .nil
 | _,_,ds,@bz.cons _ _ _ _ _ v x vs xs r t,e=>by
  cases x with
  | d x=>
   simp only [ij,Option.map_eq_some_iff] at e
   obtain ⟨es,e1,rfl⟩:=e
   exact .cons r (fP t e1)
  | _=>simp [ij] at e
theorem jd {n:Nat} (h:n≤100000):n≤sizeLine:=by rw [sizeLine_eq];omega
theorem aQ.qg {K:PySem.W.Frag} {mg:Str→Option Value} {μ:Nat→Addr} {S:Sto} {H:Hp} {Q:VK} {vs:List V} {ds:List D} (hr:HR μ S H) (rs:av (vh μ S H) vs ds) (p:aQ (aO K mg) WE μ S H (.ok (.d (.tup ds)) S) Q) (q:Addr) (hq:H q=none):Q (.ref q) (upd H q (.tup vs)):=by
 have st:=Step.new hr hq (.tup vs)
 exact p _ μ _ st (Rep.tup (bR cj (hr.nal hq)) (rs.mono st.vis))
theorem br {ts:XA} {k:Nat} (h:RA X WE es ts):RE X WE (.Tuple es k pos) (xN mkT ts):=
 ⟨(AO h.h).weak fun σ H Q ⟨μ,S,τ,hr,sr,p⟩=>⟨μ,S,τ,hr,sr,p.bind fun vs xs S1 μ1 H1 st1 r1 p1=>by
  unfold mkT at p1
  split at p1
  ·rename_i ds e
   split at p1
   ·have rs:=fP r1 e
    refine ⟨jd (by rw [rs.length];assumption),fun q hq=>p1.qg st1.hr rs q hq⟩
   ·exact p1.elim
  ·exact p1.elim⟩⟩
end
section
variable {X:Cx} {WE:WX} {a b c e:Expr} {xa xb xc xe:XE} {pos:Pos} {es:List Expr} {t u:XT} {K:PySem.W.Frag} {mg:Str→Option Value} {μ:Nat→Addr} {S:Sto} {H:Hp} {Q:VK} {vs:List V} {ds:List D}
theorem aQ.jr (hr:HR μ S H) (rs:av (vh μ S H) vs ds) (p:aQ (aO K mg) WE μ S H (.ok (.d (.lst ds)) S) Q) (q:Addr) (hq:H q=none):Q (.ref q) (upd H q (.lst vs)):=by
 have st:=Step.new hr hq (.lst vs)
 exact p _ μ _ st (Rep.lst (bR cj (hr.nal hq)) (rs.mono st.vis))
theorem aQ.we (hr:HR μ S H) (rs:av (vh μ S H) vs ds) (p:aQ (aO K mg) WE μ S H (.ok (.r S.length) (S++[.lst ds])) Q) (q:Addr) (hq:H q=none):Q (.ref q) (upd H q (.lst vs)):=
 p _ _ _ (Step.alloc hr hq (ob:=.lst ds) ⟨vs,rfl,rs⟩) ⟨by rw [cG],by simp⟩
theorem cz {ts:XA} (h:RA X WE es ts):RE X WE (.List es pos) (xN mkL ts):=
 ⟨(vb h.h).weak fun σ H Q ⟨μ,S,τ,hr,sr,p⟩=>⟨μ,S,τ,hr,sr,p.bind fun vs xs S1 μ1 H1 st1 r1 p1=>by
  unfold mkL at p1
  split at p1
  ·rename_i ds e
   split at p1
   ·have rs:=fP r1 e
    refine ⟨jd (by rw [rs.length];assumption),fun q hq=>p1.jr st1.hr rs q hq⟩
   ·exact p1.elim
  ·exact p1.elim⟩⟩
theorem fZ {ts:XA} (h:RA X WE es ts):RE X WE (.List es pos) (xN mkM ts):=
 ⟨(vb h.h).weak fun σ H Q ⟨μ,S,τ,hr,sr,p⟩=>⟨μ,S,τ,hr,sr,p.bind fun vs xs S1 μ1 H1 st1 r1 p1=>by
  unfold mkM at p1
  split at p1
  ·rename_i ds e
   split at p1
   ·have rs:=fP r1 e
    refine ⟨jd (by rw [rs.length];assumption),fun q hq=>p1.we st1.hr rs q hq⟩
   ·exact p1.elim
  ·exact p1.elim⟩⟩
theorem oD (ha:RE X WE a xa):RE X WE a (xFz xa):=
 ⟨fun pins s σ H Q I ⟨μ,S,τ,hr,sr,p⟩=>by
  refine thn (ha.h pins s σ H (fun v H1=>∃ μ1 S1 x,HR μ1 S1 H1∧aO X.K X.mg μ1 S1 H1 v x∧aQ (aO X.K X.mg) WE μ1 S1 H1 (frz x S1) Q) I ⟨μ,S,τ,hr,sr,p.bind fun v x S1 μ1 H1 st1 r1 p1=>⟨μ1,S1,x,st1.hr,r1,p1⟩⟩) fun u s1 ⟨v,H1,I1,ru,μ1,S1,x,hr1,r1,p1⟩=>?_
  unfold frz at p1
  split at p1
  ·obtain ⟨rfl,hn⟩:=r1
   split at p1
   ·rename_i n xs e
    obtain ⟨vs,h,rs⟩:=hr1.ob _ _ e
    obtain ⟨st2,na⟩:=Step.freeze hr1 e (by simp)
    exact ⟨_,H1,I1,ru,p1 _ _ _ st2 (Rep.lst (bR h na) (rs.mono st2.vis))⟩
   ·rename_i n _ kvs e
    obtain ⟨vs,l,h,rs⟩:=hr1.ob _ _ e
    have ok:bA X.prog X.w H1 s1.heap (μ1 n) (.dK ((kvs.map (·.1)).zip vs)):=I1.hok _ _ h
    obtain ⟨z1,z2,ws,rel,o,es,ep,ho,r⟩:=ok
    obtain ⟨st2,na⟩:=Step.v_ hr1 (.frz o (.dK ((kvs.map (·.1)).zip vs))) e (by simp)
    exact ⟨_,_,I1.write (o:=.frz o (.dK ((kvs.map (·.1)).zip vs))) (h':=s1.heap) (x:=μ1 n) (e:=μ1 n) (t':=s1.toks) (by rw [h];exact True.intro) (.inl rfl) (fun b q _ hq=>hq) ⟨o,ho⟩ (show _∧_ from ⟨ho,z1,z2,ws,rel,o,es,ep,ho,r⟩),ru,p1 _ _ _ st2 ⟨_,vs,o,rfl,l,bR cj na,rs.mono st2.vis⟩⟩
   ·exact p1.elim
  ·exact ⟨_,H1,I1,ru,p1.here hr1 r1⟩⟩
theorem aB {x:Str} {p:Pos} {id:String} {r:List V→Hp→VK→Prop} {f:List Vl→Sto→R Vl} {ts:XA} [n:NS e] (hc:bt X (.builtin id) r) (hf:dR X.K X.mg r f) (hm:X.mg x=none) (hv:bootBuiltins x=some (.builtin id)) (ha:RA X WE (e :: es) ts) (hg:Gl X x:=by exact rfl) (hn:x≠"__name__":=by decide) (hdb:(x == ("__debug__":Str))=false:=by decide)
  (hpl:(backTo pos (starEach es X.env)).any (·.1)=false:=by rfl):RE X WE (.Call (.Name x p) (e :: es) [] pos) (xN f ts):=
 ⟨(vx hc hg hm hv ha.h hn hdb (n.eq es X.env) hpl).weak fun σ H Q ⟨μ,S,τ,hr,sr,p⟩=>⟨μ,S,τ,hr,sr,p.bind fun vs xs S1 μ1 H1 st1 r1 p1=>hf WE μ1 S1 H1 vs xs Q st1.hr r1 p1⟩⟩
theorem bP {x:Str} {p:Pos} {T:String} {r:List V→Hp→VK→Prop} {f:List Vl→Sto→R Vl} {ts:XA} [n:NS e] (hc:bt X (.type T) r) (hf:dR X.K X.mg r f) (hm:X.mg x=none) (hv:bootBuiltins x=some (.type T)) (ha:RA X WE (e :: es) ts) (hg:Gl X x:=by exact rfl) (hn:x≠"__name__":=by decide) (hdb:(x == ("__debug__":Str))=false:=by decide)
  (hpl:(backTo pos (starEach es X.env)).any (·.1)=false:=by rfl):RE X WE (.Call (.Name x p) (e :: es) [] pos) (xN f ts):=
 ⟨(uQ hc hg hm hv ha.h hn hdb (n.eq es X.env) hpl).weak fun σ H Q ⟨μ,S,τ,hr,sr,p⟩=>⟨μ,S,τ,hr,sr,p.bind fun vs xs S1 μ1 H1 st1 r1 p1=>hf WE μ1 S1 H1 vs xs Q st1.hr r1 p1⟩⟩
def spM (K:PySem.W.Frag) (mg:Str→Option Value) (F:XF):Sp:=fun vs H Q _=>∃ μ S us,HR μ S H∧bz K mg μ S H vs us∧aQ (aO K mg) W0 μ S H (F us S) Q
def noX {α:Type} (r:R α):R α:=match r with
 | .ex _ _ _=>.bad
 | r=>r
def ax (F:XF) (as:XA):XE:=fun τ S=>(as τ S).bind fun us S1=>noX (F us S1)
theorem aQ.noX {α β:Type} {Rl:(Nat→Addr)→Sto→Hp→β→α→Prop} {res:R α} {Q:β→Hp→Prop} (h:aQ Rl WE μ S H (noX res) Q):aQ Rl W0 μ S H res Q:=by
 cases res with
 | ok a S'=>exact h
 | ex c xs S'=>exact h.elim
 | bad=>exact h.elim
end
section
variable {X:Cx} {WE:WX} {e:Expr} {es:List Expr} {pos p:Pos} {lev j:Nat} {ps:List Str} {F:XF} {x:Str} {ts:XA}
def OkE (P:Program) (w:World) (K:PySem.W.Frag) (mg:Str→Option Value) (lev:Nat) (x:Str) (ps:List Str) (M:XF):Prop:=∃ (f:Addr) (fd:FuncData),mg x=some (.ref f)∧PySem.W.keepIn K (.ref f)=true∧(∀ us:List Value,us.length=ps.length→bindArgs fd ⟨us,[]⟩=pure (ps.zip us))∧∀ base,eK P w K mg base CX0 lev f fd ps (spM K mg M)
theorem aq [n:NS e] (G:OkE X.prog X.w X.K X.mg lev x ps F) (hr:cD j X.A) (ha:RA X WE (e :: es) ts) (hj:lev≤j:=by decide) (hg:Gl X x:=by exact rfl)
  (hdb:(x == ("__debug__":Str))=false:=by decide) (hpl:(backTo pos (starEach es X.env)).any (·.1)=false:=by rfl):RE X WE (.Call (.Name x p) (e :: es) [] pos) (ax F ts):=by
 obtain ⟨f,fd,hm,hk,hb,G⟩:=G
 exact ⟨(yK (G X.base) (hr.mono hj) hg hm hk (.all hb) .nil Dw ha.h hdb (n.eq es X.env) hpl).weak fun σ H Q ⟨μ,S,τ,hr,sr,p⟩=>⟨μ,S,τ,hr,sr,p.bind fun vs xs S1 μ1 H1 st1 r1 p1=>by
  rw [List.append_nil]
  exact ⟨μ1,S1,xs,st1.hr,r1,p1.noX⟩⟩⟩
end
def out (S:Sto) (z:Vl) (S':Sto):R Vl:=match z with
 | .r n=>if n < S.length then .ok (.r n) (S'.take S.length) else match S'[n]? with
  | some (.lst xs)=>.ok (.r S.length) (S'.take S.length++[.lst xs])
  | some (.dct kvs)=>.ok (.r S.length) (S'.take S.length++[.dct kvs])
  | _=>.bad
 | .pr x n=>if n < S.length then .ok (.pr x n) (S'.take S.length) else match S'[n]? with
  | some (.lst xs)=>.ok (.pr x S.length) (S'.take S.length++[.lst xs])
  | _=>.bad
 | z=>.ok z (S'.take S.length)
def leave (S:Sto) (r:R (Fl×Nv)):R Vl:=match r with
 | .ok q S'=>(match q.1 with
  | .nx=>out S (.d .non) S'
  | .rt z=>out S z S'
  | _=>.bad)
 | .ex c xs S'=>.ex c xs (S'.take S.length)
 | .bad=>.bad
def aP (k n:Nat) (b:XS):XF:=fun us S=>if us.length=k then leave S (b (us.map some++List.replicate (n - k) none) S) else .bad
section
variable {K:PySem.W.Frag} {mg:Str→Option Value} {μ μ':Nat→Addr} {S S':Sto} {H H':Hp} {Q:VK}
theorem eU {k:Nat}:di (vh μ S H) (vh μ (S.take k) H):=fun b u q=>by
 obtain ⟨z,q⟩:=bf q
 refine bR q ?_
 rintro ⟨m,u,e,d,rfl⟩
 exact z ⟨m,u,(cK e).2,d,rfl⟩
theorem yl {k n:Nat} {ob:Ob} (hk:k≤S.length) (e0:S[n]?=some ob) (d0:ob≠.dead):di (vh μ S H) (vh (ext μ k (μ n)) (S.take k++[ob]) H):=fun b u q=>by
 obtain ⟨z,q⟩:=bf q
 refine bR q ?_
 rintro ⟨m,u,e,d,rfl⟩
 have lt:(S.take k).length=k:=by rw [List.length_take];omega
 by_cases hm:m < k
 ·rw [List.getElem?_append_left (by omega)] at e
  exact z ⟨m,u,(cK e).2,d,by rw [kh (Nat.ne_of_lt hm)]⟩
 ·have hm':m=k:=by
   have:=(List.getElem?_eq_some_iff.mp e).1
   simp only [List.length_append,lt,List.length_singleton] at this
   omega
  subst hm'
  exact z ⟨n,ob,e0,d0,by rw [cG]⟩
theorem uw {WE:WX} {v:V} {z:Vl} (st:Step μ S H μ' S' H') (r:aO K mg μ' S' H' v z) (p:aQ (aO K mg) WE μ S H (out S z S') Q):Q v H':=by
 have st':=st.take
 cases z with
 | d x=>exact p v μ' H' st' (Rep.mono eU r)
 | fd kvs=>obtain ⟨a,vs,o,e,l,h,rs⟩:=r;exact p v μ' H' st' ⟨a,vs,o,e,l,eU _ _ h,rs.mono eU⟩
 | fn x=>exact p v μ' H' st' r
 | sc ns=>obtain ⟨l,e,h⟩:=r;exact p v μ' H' st' ⟨l,e,h.mono eU⟩
 | pr x n=>
  obtain ⟨a,u,rfl,h,ru,hn⟩:=r
  unfold out at p
  try dsimp only at p
  split at p
  ·exact p _ μ' H' st' ⟨a,u,rfl,eU _ _ h,Rep.mono eU ru,by rw [List.length_take];omega⟩
  ·have lt:(S'.take S.length).length=S.length:=by rw [List.length_take];have:=st.le;omega
   split at p
   ·rename_i xs e
    have k:=yl (μ:=μ') (H:=H') (k:=S.length) st.le e (by simp)
    exact p _ _ H' (st.move (by omega) e (by simp)) ⟨a,u,rfl,by rw [cG];exact k _ _ h,Rep.mono k ru,by simp [lt]⟩
   ·exact p.elim
 | r n=>
  obtain ⟨rfl,hn⟩:=r
  unfold out at p
  try dsimp only at p
  split at p
  ·exact p _ μ' H' st' ⟨rfl,by rw [List.length_take];omega⟩
  ·have lt:(S'.take S.length).length=S.length:=by rw [List.length_take];have:=st.le;omega
   split at p
   ·rename_i xs e
    exact p _ _ H' (st.move (by omega) e (by simp)) ⟨by rw [cG],by simp [lt]⟩
   ·rename_i xs e
    exact p _ _ H' (st.move (by omega) e (by simp)) ⟨by rw [cG],by simp [lt]⟩
   ·exact p.elim
theorem EA {P:Program} {w:World} {base:Heap} {x qual:Str} {st:Stmt} {f:Addr} {fd:FuncData} {N ps:List Str} {lev:Nat} {m:XS} (F:Fun K x qual st f fd) (Sc:iI N ps (bI st))
  (hb:∀ (cdv:Value) (A:Around) (outer:List Env) (s:Shared) (H:Hp) (E:XK),cD lev (A.deeper (envOfC qual (bI st) s.heap.objs.size f cdv))→RB (ku CX0 P w K mg base N qual (bI st) f cdv A outer s H E).nox W0 (d5 st) m) :
  eK P w K mg base CX0 (lev+1) f fd ps (spM K mg (aP ps.length N.length m)):=by
 refine F.ok Sc (fun vs H Q E h=>?_) (fun cdv A outer s H vs Q E hr h=>?_)
 ·obtain ⟨μ,S,us,hr,rs,p⟩:=h
  unfold aP at p
  split at p
  ·rw [rs.length];assumption
  ·exact p.elim
 ·refine ⟨_,(hb cdv A outer s H E hr).h,?_⟩
  obtain ⟨μ,S,us,hr,rs,p⟩:=h
  unfold aP at p
  split at p
  ·rename_i hl
   have sr:bU K mg μ S H (start N vs) (us.map some++List.replicate (N.length - ps.length) none):=by
    rw [← hl];exact bU.beg rs
   refine ⟨μ,S,_,hr,sr,?_⟩
   generalize m (us.map some++List.replicate (N.length - ps.length) none) S=res at p
   cases res with
   | bad=>exact p.elim
   | ex c xs S'=>exact fun μ' H' st=>p μ' H' st.take
   | ok q S'=>
    obtain ⟨fl,τ'⟩:=q
    rintro ⟨fv,σ'⟩ μ' H' st ⟨sr',fr⟩
    cases fl with
    | nx=>
     cases fv with
     | nx=>exact uw (K:=K) (mg:=mg) (v:=.non) (z:=.d .non) st Rep.non p
     | _=>exact (show False from fr).elim
    | rt z=>
     cases fv with
     | rt v=>exact uw st fr p
     | _=>exact (show False from fr).elim
    | bk=>exact (show False from p).elim
    | ct=>exact (show False from p).elim
  ·exact p.elim
end
def aZ:XS:=fun τ S=>.ok (.nx,τ) S
def ay (a b:XS):XS:=fun τ S=>(a τ S).bind fun q S1=>match q.1 with
 | .nx=>b q.2 S1
 | _=>.ok q S1
def cT (e:XE):XS:=fun τ S=>(e τ S).bind fun _ S1=>.ok (.nx,τ) S1
def aG (e:XE):XS:=fun τ S=>(e τ S).bind fun z S1=>.ok (.rt z,τ) S1
def DS:XS:=fun τ S=>.ok (.rt (.d .non),τ) S
def AB:XS:=fun τ S=>.ok (.bk,τ) S
def CB:XS:=fun τ S=>.ok (.ct,τ) S
def xIf (c:XT) (a b:XS):XS:=fun τ S=>(c τ S).bind fun k S1=>if k=true then a τ S1 else b τ S1
def cY:XS:=fun _ _=>.bad
def aH (e:XE) (g:XG):XS:=fun τ S=>(e τ S).bind fun z S1=>(g z τ S1).bind fun τ1 S2=>.ok (.nx,τ1) S2
def gNm (i:Nat):XG:=fun z τ S=>.ok (τ.set i (some z)) S
def gTu (n:Nat) (g:XGs):XG:=fun z τ S=>match z with
 | .d (.tup xs)=>if xs.length=n then g (xs.map Vl.d) τ S else .bad
 | _=>.bad
def gN0:XGs:=fun zs τ S=>match zs with
 | []=>.ok τ S
 | _=>.bad
def gCo (g:XG) (gs:XGs):XGs:=fun zs τ S=>match zs with
 | z :: r=>(g z τ S).bind fun τ1 S1=>gs r τ1 S1
 | []=>.bad
def gSb (o i:XE) (f:Vl→Vl→Vl→Sto→R Unit):XG:=fun z τ S=>(o τ S).bind fun x S1=>(i τ S1).bind fun y S2=>(f x y z S2).bind fun _ S3=>.ok τ S3
def gok (gd:Option (Nat×Ob)) (S:Sto):Prop:=match gd with
 | none=>True
 | some (n,o)=>S[n]?=some o
open Classical in
noncomputable def eH (g:XG) (b:XS) (gd:Option (Nat×Ob)):List Vl→Nv→Sto→R (Fl×Nv)
 | [],τ,S=>.ok (.nx,τ) S
 | z :: zs,τ,S=>(g z τ S).bind fun τ1 S1=>(b τ1 S1).bind fun q S2=>match q.1 with
  | .bk=>.ok (.nx,q.2) S2
  | .rt v=>.ok (.rt v,q.2) S2
  | _=>if gok gd S2 then eH g b gd zs q.2 S2 else .bad
noncomputable def dh (it:XI) (g:XG) (b:XS):XS:=fun τ S=>(it τ S).bind fun I S1=>eH g b I.gd I.items τ S1
section
variable {X:Cx} {WE:WX} {e c tg iter:Expr} {xe:XE} {t:XT} {pos:Pos} {st:Stmt} {sts sts':List Stmt} {m m':XS} {g:XG} {gs:XGs} {it:XI}
theorem aS:RB X WE [] aZ:=⟨yR.weak fun D σ H ⟨μ,S,τ,hr,sr,p⟩=>p.here (b:=(FlV.nx,σ)) hr ⟨sr,True.intro⟩⟩
theorem au (h:RS X WE st m):RB X WE [st] m:=⟨zm h.h⟩
theorem ao (h:RS X WE st m) (h':RB X WE sts m'):RB X WE (st :: sts) (ay m m'):=
 ⟨(wb h.h h'.h).weak fun D σ H ⟨μ,S,τ,hr,sr,p⟩=>⟨μ,S,τ,hr,sr,p.bind fun b q S1 μ1 H1 st1 r1 p1=>by
  obtain ⟨fv,σ1⟩:=b
  obtain ⟨fl,τ1⟩:=q
  obtain ⟨sr1,fr⟩:=r1
  cases fl with
  | nx=>cases fv with
   | nx=>exact ⟨μ1,S1,τ1,st1.hr,sr1,p1⟩
   | _=>exact (show False from fr).elim
  | bk=>cases fv with
   | bk=>exact (show D.at (FlV.bk,σ1) H1 from aQ.here (b:=(FlV.bk,σ1)) st1.hr p1 ⟨sr1,True.intro⟩)
   | _=>exact (show False from fr).elim
  | ct=>cases fv with
   | ct=>exact (show D.at (FlV.ct,σ1) H1 from aQ.here (b:=(FlV.ct,σ1)) st1.hr p1 ⟨sr1,True.intro⟩)
   | _=>exact (show False from fr).elim
  | rt z=>cases fv with
   | rt v=>exact (show D.at (FlV.rt v,σ1) H1 from aQ.here (b:=(FlV.rt v,σ1)) st1.hr p1 ⟨sr1,fr⟩)
   | _=>exact (show False from fr).elim⟩⟩
theorem cn (he:RE X WE e xe) (hs:swapsWith e none pos.line X.env=pure false:=by rfl):RS X WE (.Expr e pos) (cT xe):=
 ⟨(yH he.h hs).weak fun D σ H ⟨μ,S,τ,hr,sr,p⟩=>⟨μ,S,τ,hr,sr,p.bind fun v x S1 μ1 H1 st1 r1 p1=>p1.here (b:=(FlV.nx,σ)) st1.hr ⟨sr.step st1,True.intro⟩⟩⟩
theorem aA (he:RE X WE e xe):RS X WE (.Return (some e) pos) (aG xe):=
 ⟨(zP he.h).weak fun D σ H ⟨μ,S,τ,hr,sr,p⟩=>⟨μ,S,τ,hr,sr,p.bind fun v x S1 μ1 H1 st1 r1 p1=>p1.here (b:=(FlV.rt v,σ)) st1.hr ⟨sr.step st1,r1⟩⟩⟩
theorem ll:RS X WE st cY:=⟨fun _ _ _ _ _ _ ⟨_,_,_,_,_,p⟩=>p.elim⟩
theorem a_ (hc:RT X WE c t) (ha:RB X WE sts m) (hb:RB X WE sts' m'):RS X WE (.If c sts sts' pos) (xIf t m m'):=
 ⟨(Co hc.h ha.h hb.h).weak fun D σ H ⟨μ,S,τ,hr,sr,p⟩=>⟨μ,S,τ,hr,sr,p.bind fun k k' S1 μ1 H1 st1 r1 p1=>by
  cases (show k=k' from r1)
  try dsimp only at p1
  split at p1
  ·rename_i hk;rw [if_pos hk];exact ⟨μ1,S1,τ,st1.hr,sr.step st1,p1⟩
  ·rename_i hk;rw [if_neg hk];exact ⟨μ1,S1,τ,st1.hr,sr.step st1,p1⟩⟩⟩
structure LQ (sc:Scope) (N:List Str):Prop where
 nd:N.Nodup
theorem az {i:Nat} {x:Str} {sc:Scope} (q:LQ sc X.N) (hi:X.N[i]?=some x:=by exact rfl) (hx:Loc X.env.scope x:=by first | exact .inl rfl | exact .inr rfl) (hf:X.fn x=true∨X.env.scope.names.lookup x=some .local:=by first | exact .inl rfl | exact .inr rfl | assumption):RG X WE (.Name x pos) (gNm i):=
 ⟨(zo q.nd hi hx hf).weak fun v σ H Q ⟨μ,S,τ,z,hr,sr,r,p⟩=>p.here hr (sr.set i r)⟩
theorem f7:RGs X WE [] gN0:=⟨ya.weak fun vs σ H Q ⟨μ,S,τ,zs,hr,sr,r,p⟩=>by
 unfold gN0 at p
 split at p
 ·cases r;exact ⟨rfl,p.here hr sr⟩
 ·exact p.elim⟩
theorem bH {es:List Expr} (h:RG X WE e g) (h':RGs X WE es gs) (hs:(assignEach (e :: es) X.env).map (·.2)=assign e X.env :: (assignEach es X.env).map (·.2):=by rfl):RGs X WE (e :: es) (gCo g gs):=
 ⟨(vD h.h h'.h hs).weak fun vs σ H Q ⟨μ,S,τ,zs,hr,sr,r,p⟩=>by
  unfold gCo at p
  split at p
  ·cases r with
   | cons r1 rr=>exact ⟨_,_,rfl,μ,S,τ,_,hr,sr,r1,p.bind fun σ1 τ1 S1 μ1 H1 st1 sr1 p1=>⟨μ1,S1,τ1,_,st1.hr,sr1,rr.step st1,p1⟩⟩
  ·exact p.elim⟩
theorem iO {n:Nat} {es:List Expr} {k:Nat} (h:RGs X WE es gs) (hc:X.calm=true:=by exact rfl) (hn:(assignEach es X.env).length=n:=by rfl) (hst:(assignEach es X.env).findIdx? (·.1)=none:=by rfl):RG X WE (.Tuple es k pos) (gTu n gs):=
 ⟨(A7 hc h.h hn hst).weak fun v σ H Q ⟨μ,S,τ,z,hr,sr,r,p⟩=>by
  unfold gTu at p
  split at p
  ·split at p
   ·rename_i xs hl
    cases (show Rep (vh μ S H) v (.tup xs) from r) with
    | tup h rs=>exact ⟨_,_,rfl,SqT.of (bf h).2,by rw [rs.length];exact hl,μ,S,τ,_,hr,sr,bz.rf rs,p⟩
   ·exact p.elim
  ·exact p.elim⟩
def vo (K:PySem.W.Frag) (mg:Str→Option Value) (ts:oK) (f:Vl→Vl→Vl→Sto→R Unit):Prop:=∀ (WE:WX) (μ:Nat→Addr) (S:Sto) (H:Hp) (o i v:V) (x y z:Vl) (Q:Unit→Hp→Prop),HR μ S H→aO K mg μ S H o x→aO K mg μ S H i y→aO K mg μ S H v z→aQ (fun _ _ _ (_ _:Unit)=>True) WE μ S H (f x y z S) Q→ts o i v H (Q ())
theorem ki {o i:Expr} {xo xi:XE} {ts:oK} {f:Vl→Vl→Vl→Sto→R Unit} (ho:RE X WE o xo) (hi:RE X WE i xi) (hs:sf X ts) (hf:vo X.K X.mg ts f)
  (ha:∀ v,assign (.Subscript o i pos) X.env v=(do
   let ov ← holding [v] (eval o X.env)
   let iv ← holding [v,ov] (eval i X.env)
   standAt pos
   holding [v,ov,iv] (setItem ov iv v)
   release [v,ov,iv] []):=by intro _;rfl):RG X WE (.Subscript o i pos) (gSb xo xi f):=
 ⟨(AA ho.h hi.h hs ha).weak fun v σ H Q ⟨μ,S,τ,z,hr,sr,r,p⟩=>⟨μ,S,τ,hr,sr,p.bind fun ov x S1 μ1 H1 st1 r1 p1=>⟨μ1,S1,τ,st1.hr,sr.step st1,p1.bind fun iv y S2 μ2 H2 st2 r2 p2=>
  hf WE μ2 S2 H2 ov iv v x y z (fun _ H3=>Q σ H3) st2.hr (r1.step st2) r2 (r.step (st1.trans st2)) (p2.bind fun _ _ S3 μ3 H3 st3 _ p3=>p3.here st3.hr (sr.step (st1.trans (st2.trans st3))))⟩⟩⟩
theorem gC (he:RE X WE e xe) (hg:RG X WE tg g) (hs:swapsWithSole [tg] e pos.line X.env=pure false:=by rfl) (hw:swappedStores [tg] e X.env=pure none:=by rfl)
  (h1:(assignEach [tg] X.env).map (·.2)=[assign tg X.env]:=by rfl):RS X WE (.Assign [tg] e pos) (aH xe g):=
 ⟨(Bg he.h hg.h hs hw h1).weak fun D σ H ⟨μ,S,τ,hr,sr,p⟩=>⟨μ,S,τ,hr,sr,p.bind fun v x S1 μ1 H1 st1 r1 p1=>⟨μ1,S1,τ,x,st1.hr,sr.step st1,r1,p1.bind fun σ2 τ2 S2 μ2 H2 st2 sr2 p2=>p2.here (b:=(FlV.nx,σ2)) st2.hr ⟨sr2,True.intro⟩⟩⟩⟩
theorem aF {i:Nat} {x:Str} {pos':Pos} {sc:Scope} (q:LQ sc X.N) (he:RE X WE e xe) (hi:X.N[i]?=some x:=by exact rfl) (hx:Loc X.env.scope x:=by first | exact .inl rfl | exact .inr rfl) (hs:swapsWith e (some (.Name x pos')) pos.line X.env=pure false:=by rfl) (hf:X.fn x=true∨X.env.scope.names.lookup x=some .local:=by first | exact .inl rfl | exact .inr rfl | assumption) :
  RS X WE (.Assign [.Name x pos'] e pos) (aH xe (gNm i)):=
 ⟨(AI q.nd hi hx he.h hs hf).weak fun D σ H ⟨μ,S,τ,hr,sr,p⟩=>⟨μ,S,τ,hr,sr,p.bind fun v x S1 μ1 H1 st1 r1 p1=>p1.here (b:=(FlV.nx,σ.set i (some v))) st1.hr ⟨(sr.step st1).set i r1,True.intro⟩⟩⟩
theorem Bh {I:Its} {S:Sto} (h:gok I.gd S):I.ok S:=h
open Classical in
theorem cx (hi:RI X WE tg iter it) (hg:RG X WE tg g) (hb:RB X WE sts m) (hp:PassesOwn (model X.prog X.w) X.A X.env X.xe:=by exact PassesOwn.never) (hc:X.calm=true:=by exact rfl) (hs:∀ x,foldedSetIterable iter X.env x=pure x:=by intro _;rfl):RS X WE (.For tg iter sts [] pos) (dh it g m):=
 ⟨(AK hp hc hi.h hg.h hb.h hs).weak fun D σ H ⟨μ,S,τ,hr,sr,p⟩=>⟨μ,S,τ,hr,sr,p.bind fun J I S1 μ1 H1 st1 io p1=>by
  refine ⟨fun i k σ' H'=>∃ μ' S' τ',Step μ1 S1 H1 μ' S' H'∧bU X.K X.mg μ' S' H' σ' τ'∧I.ok S'∧k+i=I.items.length∧aQ (RlS X.K X.mg) WE μ' S' H' (eH g m I.gd (I.items.drop i) τ' S') D.at,
   ⟨I.items.length,μ1,S1,τ,Step.refl st1.hr,sr.step st1,io.ok,by simp,p1⟩,?_⟩
  rintro i k σ' H' ⟨μ',S',τ',st',sr',ok',hk,p'⟩
  by_cases hlt:i < I.items.length
  ·have hz:I.items[i]?=some I.items[i]:=List.getElem?_eq_getElem hlt
   rw [List.drop_eq_getElem_cons hlt,eH] at p'
   refine .inr ⟨io.go i _ μ' S' H' st' ok' hz,_,fun σ2 H2 n=>⟨I.items.length - (i+1),by omega,n⟩,fun x H2 y=>?_⟩
   obtain ⟨st2,rx⟩:=io.yld i _ μ' S' H' x H2 st' ok' hz y
   refine ⟨μ',S',τ',_,st2.hr,sr'.step st2,rx,(p'.shift st2).bind fun σ3 τ3 S3 μ3 H3 st3 sr3 p3=>⟨μ3,S3,τ3,st3.hr,sr3,p3.bind fun q qq S4 μ4 H4 st4 r4 p4=>?_⟩⟩
   obtain ⟨fv,σ4⟩:=q
   obtain ⟨fl,τ4⟩:=qq
   obtain ⟨sr4,fr⟩:=r4
   have go:∀ {b},aQ (RlS X.K X.mg) WE μ4 S4 H4 (if gok I.gd S4 then eH g m I.gd (I.items.drop (i+1)) τ4 S4 else .bad) D.at→b=σ4→∃ μ' S' τ',Step μ1 S1 H1 μ' S' H4∧bU X.K X.mg μ' S' H4 b τ'∧I.ok S'∧I.items.length - (i+1)+(i+1)=I.items.length∧aQ (RlS X.K X.mg) WE μ' S' H4 (eH g m I.gd (I.items.drop (i+1)) τ' S') D.at:=by
    rintro b p5 rfl
    split at p5
    ·exact ⟨μ4,S4,τ4,st'.trans (st2.trans (st3.trans st4)),sr4,Bh ‹_›,by omega,p5⟩
    ·exact p5.elim
   cases fl with
   | nx=>cases fv with
    | nx=>exact go p4 rfl
    | _=>exact (show False from fr).elim
   | ct=>cases fv with
    | ct=>exact go p4 rfl
    | _=>exact (show False from fr).elim
   | bk=>cases fv with
    | bk=>exact (show D.at (FlV.nx,σ4) H4 from aQ.here (b:=(FlV.nx,σ4)) st4.hr p4 ⟨sr4,True.intro⟩)
    | _=>exact (show False from fr).elim
   | rt z=>cases fv with
    | rt v=>exact (show D.at (FlV.rt v,σ4) H4 from aQ.here (b:=(FlV.rt v,σ4)) st4.hr p4 ⟨sr4,fr⟩)
    | _=>exact (show False from fr).elim
  ·rw [List.drop_eq_nil_of_le (by omega),eH] at p'
   exact .inl ⟨io.stop i μ' S' H' st' ok' (by omega),p'.here (b:=(FlV.nx,σ')) st'.hr ⟨sr',True.intro⟩⟩⟩⟩
end
open Classical in
noncomputable def c6 (g:XG) (t:XT) (e:XE) (n:Nat) (gd:Option (Nat×Ob)):List Vl→List D→Nv→Sto→R (List D)
 | [],acc,_,S=>if S[n]?=some (.lst acc) then .ok acc S else .bad
 | z :: zs,acc,τ,S=>(g z τ S).bind fun τ1 S1=>(t τ1 S1).bind fun b S2=>if b=true then (e τ1 S2).bind fun v S3=>(match v with
   | .d x=>if S3[n]?=some (.lst acc)∧gok gd (S3.set n (.lst (acc++[x]))) then c6 g t e n gd zs (acc++[x]) τ1 (S3.set n (.lst (acc++[x]))) else .bad
   | _=>.bad)
  else if gok gd S2 then c6 g t e n gd zs acc τ1 S2 else .bad
def kJ (n:Nat) (acc:List D) (S:Sto):R Vl:=.ok (.d (.lst acc)) (if S.length=n+1 then S.take n else S.set n .dead)
def pJ (n:Nat) (_:List D) (S:Sto):R Vl:=.ok (.r n) S
noncomputable def ly (fin:Nat→List D→Sto→R Vl) (it:XI) (k:Nat) (g:XG) (t:XT) (e:XE):XE:=fun τ S=>(it τ S).bind fun I S1=>(c6 g t e S1.length I.gd I.items [] (List.replicate k none++τ) (S1++[.lst []])).bind fun acc S2=>fin S1.length acc S2
noncomputable abbrev xLC:XI→Nat→XG→XT→XE→XE:=ly kJ
noncomputable abbrev vC:XI→Nat→XG→XT→XE→XE:=ly pJ
def mB (fin:Nat→List D→Sto→R Vl):Prop:=∀ (K:PySem.W.Frag) (mg:Str→Option Value) (WE:WX) (μ μ':Nat→Addr) (S S':Sto) (H H':Hp) (acc:List D) (D:Addr) (Q:VK),Step μ S H μ' S' H'→S'[S.length]?=some (.lst acc)→μ' S.length=D→aQ (aO K mg) WE μ S H (fin S.length acc S') Q→Q (.ref D) H'
theorem bg:mB kJ:=by
 intro K mg WE μ μ' S S' H H' acc D Q st e hD p
 obtain ⟨vs,h,rs⟩:=st.hr.ob _ _ e
 have hn:S.length < S'.length:=(List.getElem?_eq_some_iff.mp e).1
 unfold kJ at p
 by_cases hl:S'.length=S.length+1
 ·rw [if_pos hl] at p
  refine p _ _ _ st.take (Rep.lst (vs:=vs) (bR (by rw [← hD];exact h) ?_) (rs.mono eU))
  rintro ⟨m,u,e2,d2,q⟩
  obtain ⟨hm,e3⟩:=cK e2
  have:=st.hr.inj m S.length u _ e3 e d2 (by simp) (by rw [q,hD])
  omega
 ·rw [if_neg hl] at p
  obtain ⟨st2,na⟩:=Step.freeze st.hr e (by simp)
  refine p _ _ _ (st.trans st2) (Rep.lst (vs:=vs) (bR (by rw [← hD];exact h) (by rw [← hD];exact na)) (rs.mono st2.vis))
theorem zw:mB pJ:=by
 intro K mg WE μ μ' S S' H H' acc D Q st e hD p
 exact p _ _ _ st ⟨by rw [hD],(List.getElem?_eq_some_iff.mp e).1⟩
section
variable {X:Cx} {WE:WX} {tg elt iter:Expr} {ifs:List Expr} {scope:Scope} {pos:Pos} {it:XI} {g:XG} {t:XT} {e:XE} {N:List Str} {k:Nat} {fin:Nat→List D→Sto→R Vl}
theorem y0:RTs X WE [] (fun _ S=>.ok true S):=⟨fun pins s σ H Q I ⟨μ,S,τ,hr,sr,p⟩=>zj pins s σ H Q I (p.here hr rfl)⟩
theorem eN {c:Expr} (h:RT X WE c t):RTs X WE [c] t:=⟨zp h.h⟩
theorem aQ.sO {α β γ δ:Type} {Rl:(Nat→Addr)→Sto→Hp→β→α→Prop} {Rl2:(Nat→Addr)→Sto→Hp→δ→γ→Prop} {μ μ1:Nat→Addr} {S S1:Sto} {H H1:Hp} {res:R α} {Q:β→Hp→Prop} {Q2:δ→Hp→Prop} {f:α→Sto→R γ}
  (h:aQ Rl2 WE μ S H (res.bind f) Q2) (a:Step μ S H μ1 S1 H1) (kk:∀ b x S2 μ2 H2,Step μ1 S1 H1 μ2 S2 H2→Rl μ2 S2 H2 b x→aQ Rl2 WE μ S H (f x S2) Q2→Q b H2):aQ Rl WE μ1 S1 H1 res Q:=by
 cases res with
 | ok x S'=>exact fun b μ' H' st r=>kk b x S' μ' H' st r h
 | ex c xs S'=>exact fun μ' H' st=>h μ' H' (a.trans st)
 | bad=>exact h
open Classical in
theorem xM (hfin:mB fin) {σ:St} {H:Hp} {Q:VK} (h:trE X.K X.mg WE (ly fin it k g t e) σ H Q):tLC (trI X.K X.mg WE it) (trG X.K X.mg WE g) (trT X.K X.mg WE t) (trE X.K X.mg WE e) k σ H Q:=by
 obtain ⟨μ,S,τ,hr,sr,p⟩:=h
 refine ⟨μ,S,τ,hr,sr,p.bind fun J I S1 μ1 H1 st1 io p1=>fun D hD=>?_⟩
 have st0:Step μ1 S1 H1 (ext μ1 S1.length D) (S1++[.lst []]) (upd H1 D (.lst [])):=Step.alloc st1.hr hD (ob:=.lst []) ⟨[],rfl,.nil⟩
 have hlen:(S1++[Ob.lst []]).length=S1.length+1:=by simp
 refine ⟨fun i j σ' H'=>∃ μ' S' τ' acc,Step (ext μ1 S1.length D) (S1++[.lst []]) (upd H1 D (.lst [])) μ' S' H'∧bU X.K X.mg μ' S' H' σ' τ'∧I.ok S'∧j+i=I.items.length∧acc.length≤i ∧
   aQ (aO X.K X.mg) WE μ1 S1 H1 ((c6 g t e S1.length I.gd (I.items.drop i) acc τ' S').bind fun acc S2=>fin S1.length acc S2) Q,
  ⟨I.items.length,_,_,_,[],Step.refl st0.hr,((sr.step st1).step st0).pre k,?_,by simp,Nat.le_refl _,p1⟩,?_⟩
 ·have ok:=io.ok
  unfold Its.ok at ok ⊢
  split
  ·trivial
  ·rename_i n o hg
   rw [hg] at ok
   have hn:n < S1.length:=(List.getElem?_eq_some_iff.mp ok).1
   rw [List.getElem?_append_left hn];exact ok
 rintro i j σ' H' ⟨μ',S',τ',acc,st',sr',ok',hj,hacc,p'⟩
 have stA:=st0.trans st'
 have hn:S1.length < S'.length:=by have:=st'.le;omega
 have hμ:μ' S1.length=D:=by rw [st'.ag S1.length (by omega),cG]
 by_cases hlt:i < I.items.length
 ·have hz:I.items[i]?=some I.items[i]:=List.getElem?_eq_getElem hlt
  rw [List.drop_eq_getElem_cons hlt,c6] at p'
  refine .inr ⟨io.go i _ μ' S' H' stA ok' hz,_,fun σ2 H2 n=>⟨I.items.length - (i+1),by omega,n⟩,fun x H2 y=>?_⟩
  obtain ⟨st2,rx⟩:=io.yld i _ μ' S' H' x H2 stA ok' hz y
  have bb:∀ {α β γ:Type} (r:R α) (f:α→Sto→R β) (f':β→Sto→R γ),(r.bind f).bind f'=r.bind fun a S=>(f a S).bind f':=fun r f f'=>by cases r<;>rfl
  simp only [bb] at p'
  refine ⟨μ',S',τ',_,st2.hr,sr'.step st2,rx,p'.sO (stA.trans st2) fun σ3 τ3 S3 μ3 H3 st3 sr3 p3=>?_⟩
  refine ⟨μ3,S3,τ3,st3.hr,sr3,p3.sO (stA.trans (st2.trans st3)) fun b b' S4 μ4 H4 st4 r4 p4=>?_⟩
  cases (show b=b' from r4)
  have st24:=st2.trans (st3.trans st4)
  by_cases hb:b=true
  ·rw [if_pos hb] at p4 ⊢
   rw [bb] at p4
   refine ⟨μ4,S4,τ3,st4.hr,sr3.step st4,p4.sO (stA.trans st24) fun v z S5 μ5 H5 st5 r5 p5=>?_⟩
   have st25:=st24.trans st5
   cases z with
   | d x=>
    try dsimp only at p5
    by_cases hif:S5[S1.length]?=some (.lst acc)∧gok I.gd (S5.set S1.length (.lst (acc++[x])))
    ·rw [if_pos hif] at p5
     obtain ⟨vs,h5,rs⟩:=st5.hr.ob _ _ hif.1
     have hμ5:μ5 S1.length=D:=by rw [st25.ag S1.length (by omega)];exact hμ
     rw [hμ5] at h5
     have sp:Step μ5 S5 H5 μ5 (S5.set S1.length (.lst (acc++[x]))) (upd H5 (μ5 S1.length) (.lst (vs++[v]))):=Step.put st5.hr hif.1 (by simp) (ob:=.lst (acc++[x])) ⟨_,rfl,rs.append (.cons r5 .nil)⟩
     rw [hμ5] at sp
     have lz:=io.len
     have lv:=rs.length
     refine ⟨vs,h5,by omega,μ5,_,τ3,acc++[x],st'.trans (st25.trans sp),(sr3.step (st4.trans st5)).step sp,hif.2,by omega,by simp;omega,p5⟩
    ·rw [if_neg hif] at p5
     exact p5.elim
   | _=>exact p5.elim
  ·rw [if_neg hb] at p4 ⊢
   by_cases hif:gok I.gd S4
   ·rw [if_pos hif] at p4
    exact ⟨μ4,S4,τ3,acc,st'.trans st24,sr3.step st4,hif,by omega,by omega,p4⟩
   ·rw [if_neg hif] at p4
    exact p4.elim
 ·rw [List.drop_eq_nil_of_le (by omega),c6] at p'
  refine .inl ⟨io.stop i μ' S' H' stA ok' (by omega),?_⟩
  by_cases hif:S'[S1.length]?=some (.lst acc)
  ·rw [if_pos hif] at p'
   exact hfin X.K X.mg WE μ1 μ' S1 S' H1 H' acc D Q stA hif hμ p'
  ·rw [if_neg hif] at p'
   exact p'.elim
theorem rt0:∀ C s H fp,RTs (bW X scope N C s H fp) WE [] (fun _ S=>.ok true S):=fun _ _ _ _=>y0
theorem bB {esc:Scope} {EN:List Str} (hfin:mB fin) (N:List Str) (q:LQ esc EN) (hi:RI X WE tg iter it) (hg:∀ C s H fp,LQ scope N→RG (bW X scope N C s H fp) WE tg g) (ht:∀ C s H fp,RTs (bW X scope N C s H fp) WE ifs t) (he:∀ C s H fp,RE (bW X scope N C s H fp) WE elt e) (hd:N.Nodup:=by decide +kernel)
  (Sc:dZ esc scope EN N k:=by exact ⟨rfl,by decide +kernel,by decide +kernel,by decide +kernel,by decide +kernel,by decide +kernel⟩) (h1:X.env.scope=esc:=by exact rfl) (h2:X.N=EN:=by exact rfl) (hc:X.calm=true:=by exact rfl) (hs:∀ x,foldedSetIterable iter X.env x=pure x:=by intro _;rfl):RE X WE (.ListComp elt [⟨tg,iter,ifs,0⟩] scope pos) (ly fin it k g t e):=
 ⟨(DP hc Sc h1 h2 hi.h (fun C s H fp=>(hg C s H fp ⟨hd⟩).h) (fun C s H fp=>(ht C s H fp).h) (fun C s H fp=>(he C s H fp).h) hs).weak fun σ H Q h=>xM (X:=X) hfin h⟩
theorem xR {esc:Scope} {EN:List Str} {i:Nat} {y:Str} {py spos:Pos} (hfin:mB fin) (N:List Str) (q:LQ esc EN) (hi:RI X WE tg iter it) (hg:∀ C s H fp,LQ scope N→RG (bW X scope N C s H fp) WE tg g) (ht:∀ C s H fp,RTs (bW X scope N C s H fp) WE ifs t) (he:∀ C s H fp,RE (bW X scope N C s H fp) WE elt e)
  (hi':X.N[i]?=some y:=by exact rfl) (hy:Loc X.env.scope y:=by first | exact .inl rfl | exact .inr rfl) (hd:N.Nodup:=by decide +kernel)
  (Sc:dZ esc scope EN N k:=by exact ⟨rfl,by decide +kernel,by decide +kernel,by decide +kernel,by decide +kernel,by decide +kernel⟩) (h1:X.env.scope=esc:=by exact rfl) (h2:X.N=EN:=by exact rfl) (hc:X.calm=true:=by exact rfl)
  (hsw:swapsWith (.ListComp elt [⟨tg,iter,ifs,0⟩] scope pos) (some (.Name y py)) spos.line X.env=pure true:=by rfl)
  (hs:∀ x,foldedSetIterable iter X.env x=pure x:=by intro _;rfl) (hf:X.fn y=true∨X.env.scope.names.lookup y=some .local:=by first | exact .inl rfl | exact .inr rfl | assumption) :
  RS X WE (.Assign [.Name y py] (.ListComp elt [⟨tg,iter,ifs,0⟩] scope pos) spos) (aH (ly fin it k g t e) (gNm i)):=
 ⟨(Di (h2 ▸ q.nd) hi' hy hc Sc h1 h2 hi.h (fun C s H fp=>(hg C s H fp ⟨hd⟩).h) (fun C s H fp=>(ht C s H fp).h) (fun C s H fp=>(he C s H fp).h) hsw hs hf).weak fun D0 σ H ⟨μ,S,τ,hr,sr,p⟩=>by
  refine xM (X:=X) (WE:=WE) (g:=g) (t:=t) (e:=e) hfin ⟨μ,S,τ,hr,sr,?_⟩
  exact p.bind fun v x S1 μ1 H1 st1 r1 p1=>p1.here (b:=(FlV.nx,σ.set i (some v))) st1.hr ⟨(sr.step st1).set i r1,True.intro⟩⟩
end
def b7 (x:Vl) (S:Sto):Option (List D):=match x with
 | .d (.lst xs)=>some xs
 | .r n=>(match S[n]? with
  | some (.lst xs)=>some xs
  | _=>none)
 | _=>none
def bM (x:Vl) (S:Sto):Option (List D):=match x with
 | .d (.tup xs)=>some xs
 | x=>b7 x S
section
variable {K:PySem.W.Frag} {mg:Str→Option Value} {μ:Nat→Addr} {S:Sto} {H:Hp} {v:V} {x:Vl} {ds:List D} {WE:WX} {Q:VK}
theorem cV (hr:HR μ S H) (r:aO K mg μ S H v x) (e:b7 x S=some ds):∃ a vs,v=.ref a∧H a=some (.lst vs)∧av (vh μ S H) vs ds:=by
 unfold b7 at e
 split at e
 ·cases e
  cases (show Rep (vh μ S H) v (.lst _) from r) with
  | lst h rs=>exact ⟨_,_,rfl,(bf h).2,rs⟩
 ·split at e
  ·rename_i q
   cases e
   obtain ⟨rfl,hn⟩:=r
   obtain ⟨vs,h,rs⟩:=hr.ob _ _ q
   exact ⟨_,vs,rfl,h,rs⟩
  ·cases e
 ·cases e
theorem gz (hr:HR μ S H) (r:aO K mg μ S H v x) (e:bM x S=some ds):∃ a vs,v=.ref a∧(H a=some (.lst vs)∨H a=some (.tup vs))∧av (vh μ S H) vs ds:=by
 unfold bM at e
 split at e
 ·cases e
  cases (show Rep (vh μ S H) v (.tup _) from r) with
  | tup h rs=>exact ⟨_,_,rfl,.inr (bf h).2,rs⟩
 ·obtain ⟨a,vs,e1,e2,e3⟩:=cV hr r e
  exact ⟨a,vs,e1,.inl e2,e3⟩
theorem iH {a:Addr} {vs:List V} (h:H a=some (.lst vs)∨H a=some (.tup vs)):gu H a=some vs:=h.elim Bt Br
theorem aX {i:Int} (r:aO K mg μ S H v (.d (.int i))):v=.int i:=by cases (show Rep (vh μ S H) v (.int i) from r);rfl
theorem l_ {i:Bool} (r:aO K mg μ S H v (.d (.bl i))):v=.bl i:=by cases (show Rep (vh μ S H) v (.bl i) from r);rfl
theorem fo {i:Str} (r:aO K mg μ S H v (.d (.str i))):v=.str i:=by cases (show Rep (vh μ S H) v (.str i) from r);rfl
theorem dv (r:aO K mg μ S H v (.d .non)):v=.non:=by cases (show Rep (vh μ S H) v .non from r);rfl
theorem iF (r:aO K mg μ S H v (.d (.tup ds))):∃ a vs,v=.ref a∧H a=some (.tup vs)∧vh μ S H a=some (.tup vs)∧av (vh μ S H) vs ds:=by
 cases (show Rep (vh μ S H) v (.tup _) from r) with
 | tup h rs=>exact ⟨_,_,rfl,(bf h).2,h,rs⟩
end
def oI (C:Int→Int→Prop) [∀ i j,Decidable (C i j)] (f:Int→Int→D) (x y:Vl) (S:Sto):R Vl:=match x,y with
 | .d (.int i),.d (.int j)=>if C i j then .ok (.d (f i j)) S else .bad
 | _,_=>.bad
def oI0 (f:Int→Int→D) (x y:Vl) (S:Sto):R Vl:=match x,y with
 | .d (.int i),.d (.int j)=>.ok (.d (f i j)) S
 | _,_=>.bad
section
variable {K:PySem.W.Frag} {mg:Str→Option Value}
theorem bN {C:Int→Int→Prop} [∀ i j,Decidable (C i j)] (f:Int→Int→Int):cm K mg (rI C fun i j=>V.int (f i j)) (oI C fun i j=>D.int (f i j)):=by
 intro WE μ S H v w x y Q hr rx ry p
 unfold oI at p
 split at p
 ·split at p
  ·exact ⟨_,_,aX rx,aX ry,‹_›,p.here hr (Rep.int _)⟩
  ·exact p.elim
 ·exact p.elim
theorem iL (f:Int→Int→Int):cm K mg (rI0 fun i j=>V.int (f i j)) (oI0 fun i j=>D.int (f i j)):=by
 intro WE μ S H v w x y Q hr rx ry p
 unfold oI0 at p
 split at p
 ·exact ⟨_,_,aX rx,aX ry,p.here hr (Rep.int _)⟩
 ·exact p.elim
theorem bE (f:Int→Int→Bool):cm K mg (rI0 fun i j=>V.bl (f i j)) (oI0 fun i j=>D.bl (f i j)):=by
 intro WE μ S H v w x y Q hr rx ry p
 unfold oI0 at p
 split at p
 ·exact ⟨_,_,aX rx,aX ry,p.here hr (Rep.bl _)⟩
 ·exact p.elim
end
instance (i j:Int):Decidable (jo i j):=by unfold jo;infer_instance
instance (i j:Int):Decidable (mW i j):=by unfold mW;infer_instance
instance (i j:Int):Decidable (mT i j):=by unfold mT;infer_instance
abbrev lO:=oI0 fun i j=>D.int (i - j)
abbrev gq:=oI jo fun i j=>D.int (i * j)
abbrev oMod:=oI (fun _ j=>0 < j) fun i j=>D.int (i % j)
abbrev oDiv:=oI mW fun i j=>D.int (i / j)
abbrev oJ:=oI mT fun i j=>D.int (i ^ j.toNat)
abbrev oLt:=oI0 fun i j=>D.bl (decide (i < j))
abbrev oLe:=oI0 fun i j=>D.bl (decide (i≤j))
abbrev oGt:=oI0 fun i j=>D.bl (decide (j < i))
abbrev oGe:=oI0 fun i j=>D.bl (decide (j≤i))
def iy (x:Vl) (S:Sto):R Vl:=match x with
 | .d (.int i)=>.ok (.d (.int (-i))) S
 | _=>.bad
def a8 (x y:Vl) (S:Sto):R Vl:=match x,y with
 | .d (.int i),.d (.int j)=>.ok (.d (.int (i+j))) S
 | .d (.tup a),.d (.tup b)=>if a.length+b.length≤100000 then .ok (.d (.tup (a++b))) S else .bad
 | .d (.str a),.d (.str b)=>if a.length+b.length≤100000 then .ok (.d (.str (a++b))) S else .bad
 | x,y=>(match b7 x S,b7 y S with
  | some a,some b=>if a.length+b.length≤100000 then .ok (.d (.lst (a++b))) S else .bad
  | _,_=>.bad)
def eqD (x y:Vl) (S:Sto):Option Bool:=match x,y with
 | .d .non,.d .non=>some true
 | .d .non,.d (.int _)=>some false
 | .d .non,.d (.str _)=>some false
 | .d (.int _),.d .non=>some false
 | .d (.str _),.d .non=>some false
 | .d (.int i),.d (.int j)=>some (decide (i=j))
 | .d (.bl i),.d (.bl j)=>some (decide (i=j))
 | .d (.str i),.d (.str j)=>some (decide (i=j))
 | .d (.int _),.d (.str _)=>some false
 | .d (.str _),.d (.int _)=>some false
 | .d (.tup a),.d (.tup b)=>if D.depth (.tup a)≤50 then some (D.bC a b) else none
 | x,y=>(match b7 x S,b7 y S with
  | some a,some b=>if D.depth (.lst a)≤50 then some (D.bC a b) else none
  | _,_=>none)
def oEq (x y:Vl) (S:Sto):R Vl:=match eqD x y S with
 | some b=>.ok (.d (.bl b)) S
 | none=>.bad
def oNe (x y:Vl) (S:Sto):R Vl:=match eqD x y S with
 | some b=>.ok (.d (.bl (!b))) S
 | none=>.bad
def oIs (x y:Vl) (S:Sto):R Vl:=match x,y with
 | .d (.bl a),.d (.bl b)=>.ok (.d (.bl (a == b))) S
 | .d .non,.d .non=>.ok (.d (.bl true)) S
 | .fn _,_=>.bad
 | .sc _,_=>.bad
 | _,.d .non=>.ok (.d (.bl false)) S
 | _,_=>.bad
def oz (x y:Vl) (S:Sto):R Vl:=match x,y with
 | .d (.bl a),.d (.bl b)=>.ok (.d (.bl (a != b))) S
 | .d .non,.d .non=>.ok (.d (.bl false)) S
 | .fn _,_=>.bad
 | .sc _,_=>.bad
 | _,.d .non=>.ok (.d (.bl true)) S
 | _,_=>.bad
section
variable {K:PySem.W.Frag} {mg:Str→Option Value}
theorem eO:B6 K mg (rU fun i=>.int (-i)) iy:=by
 intro WE μ S H v x Q hr rx p
 unfold iy at p
 split at p
 ·exact ⟨_,aX rx,p.here hr (Rep.int _)⟩
 ·exact p.elim
def xV:R2:=fun x y H Q=>xA x y H Q∨∃ i j,x=.str i∧y=.str j∧i.length+j.length≤sizeLine∧Q (.str (i++j)) H
theorem aL {X:Cx}:OpR X (binaryOp .Add) xV:=zv.or sZ
theorem aK:cm K mg xV a8:=by
 intro WE μ S H v w x y Q hr rx ry p
 unfold a8 at p
 split at p
 ·exact .inl (.inl ⟨_,_,aX rx,aX ry,p.here hr (Rep.int _)⟩)
 ·split at p
  ·rename_i a b hl
   obtain ⟨p1,us,rfl,h1,g1,r1⟩:=iF rx
   obtain ⟨p2,ws,rfl,h2,g2,r2⟩:=iF ry
   have l1:=r1.length
   have l2:=r2.length
   refine .inl (.inr ⟨p1,p2,rfl,rfl,.inl ⟨us,ws,h1,h2,jd (by omega),fun e=>?_,fun _ e=>?_,fun _ _ q hq=>p.qg hr (r1.append r2) q hq⟩⟩)
   ·subst e
    have:a=[]:=List.eq_nil_of_length_eq_zero l1.symm
    subst this
    exact p.here hr (Rep.tup g2 r2)
   ·subst e
    have:b=[]:=List.eq_nil_of_length_eq_zero l2.symm
    subst this
    rw [List.append_nil] at p
    exact p.here hr (Rep.tup g1 r1)
  ·exact p.elim
 ·split at p
  ·exact .inr ⟨_,_,fo rx,fo ry,jd ‹_›,p.here hr (Rep.str _)⟩
  ·exact p.elim
 ·split at p
  ·rename_i a b e1 e2
   split at p
   ·obtain ⟨p1,us,rfl,h1,r1⟩:=cV hr rx e1
    obtain ⟨p2,ws,rfl,h2,r2⟩:=cV hr ry e2
    have l1:=r1.length
    have l2:=r2.length
    exact .inl (.inr ⟨p1,p2,rfl,rfl,.inr ⟨us,ws,h1,h2,jd (by omega),fun q hq=>p.jr hr (r1.append r2) q hq⟩⟩)
   ·exact p.elim
  ·exact p.elim
theorem xp {μ:Nat→Addr} {S:Sto} {H:Hp} {v w:V} {x y:Vl} {b:Bool} (hr:HR μ S H) (rx:aO K mg μ S H v x) (ry:aO K mg μ S H w y) (e:eqD x y S=some b) :
  (vB v w=true∧decide (v=w)=b)∨∃ d e,Rep H v d∧Rep H w e∧D.depth d≤50∧((∃ ds es,d=.tup ds∧e=.tup es)∨∃ ds es,d=.lst ds∧e=.lst es)∧D.eqv d e=b:=by
 unfold eqD at e
 split at e
 ·cases e;rw [dv rx,dv ry];exact .inl ⟨rfl,by decide⟩
 ·cases e;rw [dv rx,aX ry];exact .inl ⟨rfl,by simp⟩
 ·cases e;rw [dv rx,fo ry];exact .inl ⟨rfl,by simp⟩
 ·cases e;rw [aX rx,dv ry];exact .inl ⟨rfl,by simp⟩
 ·cases e;rw [fo rx,dv ry];exact .inl ⟨rfl,by simp⟩
 ·cases e;rw [aX rx,aX ry];exact .inl ⟨rfl,by simp only [V.int.injEq]⟩
 ·cases e;rw [l_ rx,l_ ry];exact .inl ⟨rfl,by simp only [V.bl.injEq]⟩
 ·cases e;rw [fo rx,fo ry];exact .inl ⟨rfl,by simp only [V.str.injEq]⟩
 ·cases e;rw [aX rx,fo ry];exact .inl ⟨rfl,by simp⟩
 ·cases e;rw [fo rx,aX ry];exact .inl ⟨rfl,by simp⟩
 ·split at e
  ·cases e
   refine .inr ⟨_,_,Rep.mono ff rx,Rep.mono ff ry,‹_›,.inl ⟨_,_,rfl,rfl⟩,?_⟩
   simp only [D.eqv]
  ·cases e
 ·split at e
  ·rename_i a b e1 e2
   split at e
   ·cases e
    obtain ⟨p1,us,rfl,h1,r1⟩:=cV hr rx e1
    obtain ⟨p2,ws,rfl,h2,r2⟩:=cV hr ry e2
    refine .inr ⟨.lst a,.lst b,.lst h1 (r1.mono ff),.lst h2 (r2.mono ff),‹_›,.inr ⟨_,_,rfl,rfl⟩,?_⟩
    simp only [D.eqv]
   ·cases e
  ·cases e
theorem bQ:cm K mg zS oEq:=by
 intro WE μ S H v w x y Q hr rx ry p
 unfold oEq at p
 split at p
 ·rename_i b e
  have q:=p.here hr (Rep.bl b)
  rcases xp hr rx ry e with ⟨h1,h2⟩ | ⟨d,d',h1,h2,h3,h4,h5⟩
  ·exact .inl ⟨h1,by rw [h2];exact q⟩
  ·exact .inr ⟨d,d',h1,h2,h3,h4,by rw [h5];exact q⟩
 ·exact p.elim
theorem fh:cm K mg Bv oNe:=by
 intro WE μ S H v w x y Q hr rx ry p
 unfold oNe at p
 split at p
 ·rename_i b e
  have q:=p.here hr (Rep.bl (!b))
  rcases xp hr rx ry e with ⟨h1,h2⟩ | ⟨d,d',h1,h2,h3,h4,h5⟩
  ·exact .inl ⟨h1,by rw [h2];exact q⟩
  ·exact .inr ⟨d,d',h1,h2,h3,h4,by rw [h5];exact q⟩
 ·exact p.elim
theorem yC {μ:Nat→Addr} {S:Sto} {H:Hp} {v:V} {x:Vl} (r:aO K mg μ S H v x) (h1:x≠.d .non):v≠.non:=by
 rintro rfl
 cases x with
 | d x=>cases (show Rep (vh μ S H) .non x from r);exact h1 rfl
 | r n=>obtain ⟨e,_⟩:=r;cases e
 | fd kvs=>obtain ⟨_,_,_,e,_⟩:=r;cases e
 | pr x n=>obtain ⟨_,_,e,_⟩:=r;cases e
 | fn x=>obtain ⟨_,_,e⟩:=r;cases e
 | sc ns=>obtain ⟨_,e,_⟩:=r;cases e
theorem uz:cm K mg Aw oIs:=by
 intro WE μ S H v w x y Q hr rx ry p
 unfold oIs at p
 split at p
 ·rw [l_ rx,l_ ry];exact .inl ⟨_,_,rfl,rfl,p.here hr (Rep.bl _)⟩
 ·rw [dv rx,dv ry];exact .inr ⟨rfl,by rw [decide_eq_true rfl];exact p.here hr (Rep.bl _)⟩
 ·exact p.elim
 ·exact p.elim
 ·rename_i h _ _
  rw [dv ry]
  exact .inr ⟨rfl,by rw [decide_eq_false (yC rx h)];exact p.here hr (Rep.bl _)⟩
 ·exact p.elim
end
def D.flat:D→Bool
 | .tup _=>false
 | .lst _=>false
 | _=>true
def inD (x:D) (ds:List D):Bool:=ds.any fun e=>D.eqv e x
def inX (x y:Vl) (S:Sto):Option Bool:=match x with
 | .d x=>(match bM y S with
  | some ds=>if (D.flat x && ds.all D.flat)=true then some (inD x ds) else (match b7 y S with
   | some ds=>if D.b9 ds≤50 then some (inD x ds) else none
   | none=>none)
  | none=>none)
 | _=>none
def oIn (x y:Vl) (S:Sto):R Vl:=match inX x y S with
 | some b=>.ok (.d (.bl b)) S
 | none=>.bad
def d8 (x y:Vl) (S:Sto):R Vl:=match inX x y S with
 | some b=>.ok (.d (.bl (!b))) S
 | none=>.bad
def oIx (x y:Vl) (S:Sto):R Vl:=match y with
 | .d (.int i)=>(match bM x S with
  | some ds=>(match atI ds i with
   | some z=>.ok (.d z) S
   | none=>.bad)
  | none=>.bad)
 | _=>.bad
def cZ (xs:List D) (lo hi:Option Int):List D:=(xs.drop (HT.sIx xs.length 0 lo)).take (HT.sIx xs.length xs.length hi - HT.sIx xs.length 0 lo)
def oSl (x:Vl) (lo hi:Option Int) (S:Sto):R Vl:=match x with
 | .d (.tup xs)=>.ok (.d (.tup (cZ xs lo hi))) S
 | x=>(match b7 x S with
  | some xs=>.ok (.d (.lst (cZ xs lo hi))) S
  | none=>.bad)
def pk (x y:Vl) (S:Sto):R Vl:=match x,y with
 | .d (.tup xs),.d (.int i)=>if i=-1 then .ok (.d (.tup xs.reverse)) S else .bad
 | _,_=>.bad
section
variable {K:PySem.W.Frag} {mg:Str→Option Value}
theorem pH {H:Hp} {v:V} {d:D} (r:Rep H v d) (h:D.flat d=true):dM v=true:=by cases r<;>first | rfl | cases h
theorem B_ {H:Hp} {v w:V} {d e:D} (r:Rep H v d) (q:Rep H w e) (h:D.flat d=true) (h':D.flat e=true):eqV v w=D.eqv d e:=by
  cases r<;>cases q<;>first | rfl | cases h | cases h' | simp [eqV,D.eqv]
theorem nu {H:Hp}:∀ {vs:List V} {ds:List D},av H vs ds→ds.all D.flat=true→vs.all dM=true
 | _,_,.nil,_=>rfl
 | _,_,.cons r t,h=>by
  rw [List.all_cons,Bool.and_eq_true] at h ⊢
  exact ⟨pH r h.1,nu t h.2⟩
theorem u4 {H:Hp} {v:V} {d:D} (r:Rep H v d) (h:D.flat d=true):∀ {vs:List V} {ds:List D},av H vs ds→ds.all D.flat=true→inV v vs=inD d ds
 | _,_,.nil,_=>rfl
 | _,_,.cons q t,h'=>by
  rw [List.all_cons,Bool.and_eq_true] at h'
  have ih:=u4 r h t h'.2
  unfold inV inD at ih ⊢
  rw [List.any_cons,List.any_cons,B_ q r h'.1 h,ih]
def o7 (neg:Bool):R2:=fun x y H Q=>v5 neg x y H Q∨vN neg x y H Q
theorem in_of {μ:Nat→Addr} {S:Sto} {H:Hp} {v w:V} {x y:Vl} {b neg:Bool} {Q:VK} (hr:HR μ S H) (rx:aO K mg μ S H v x) (ry:aO K mg μ S H w y) (e:inX x y S=some b) (q:Q (.bl (if neg then !b else b)) H):o7 neg v w H Q:=by
 unfold inX at e
 split at e
 ·rename_i x
  split at e
  ·rename_i ds e1
   obtain ⟨a,vs,rfl,ha,rs⟩:=gz hr ry e1
   split at e
   ·rename_i hf
    rw [Bool.and_eq_true] at hf
    cases e
    refine .inl ⟨a,vs,rfl,iH ha,pH rx hf.1,nu rs hf.2,?_⟩
    rw [u4 rx hf.1 rs hf.2]
    exact q
   ·split at e
    ·rename_i ds e2
     split at e
     ·cases e
      obtain ⟨a',vs',e3,ha',rs'⟩:=cV hr ry e2
      cases e3
      exact .inr ⟨_,vs',x,_,rfl,ha',rs'.mono ff,Rep.mono ff rx,‹_›,q⟩
     ·cases e
    ·cases e
  ·cases e
 ·cases e
theorem qt {X:Cx} (hu:X.A.units+64 < cLine):OpR X (compareOp .In) (o7 false):=AY.or (Av hu)
theorem kE {X:Cx} (hu:X.A.units+64 < cLine):OpR X (compareOp .NotIn) (o7 true):=u_.or (tT hu)
theorem pj:cm K mg (o7 false) oIn:=by
 intro WE μ S H v w x y Q hr rx ry p
 unfold oIn at p
 split at p
 ·rename_i b e
  exact in_of hr rx ry e (p.here hr (Rep.bl b))
 ·exact p.elim
theorem kz:cm K mg (o7 true) d8:=by
 intro WE μ S H v w x y Q hr rx ry p
 unfold d8 at p
 split at p
 ·rename_i b e
  exact in_of hr rx ry e (p.here hr (Rep.bl (!b)))
 ·exact p.elim
theorem vw {H:Hp} {vs:List V} {ds:List D} {i:Int} {z:D} (rs:av H vs ds) (e:atI ds i=some z):∃ v,atI vs i=some v∧Rep H v z:=by
 unfold atI at e ⊢
 rw [rs.length]
 cases q:ixN ds.length i with
 | none=>rw [q] at e;cases e
 | some j=>
  rw [q] at e
  obtain ⟨v,e1,r⟩:=rs.get' (show ds[j]?=some z from e)
  exact ⟨v,e1,r⟩
theorem Bd:cm K mg zW oIx:=by
 intro WE μ S H v w x y Q hr rx ry p
 unfold oIx at p
 split at p
 ·split at p
  ·rename_i ds e1
   obtain ⟨a,vs,rfl,ha,rs⟩:=gz hr rx e1
   split at p
   ·rename_i z e2
    obtain ⟨u,e3,ru⟩:=vw rs e2
    rw [aX ry]
    exact ⟨a,_,vs,u,rfl,rfl,iH ha,e3,p.here hr ru⟩
   ·exact p.elim
  ·exact p.elim
 ·exact p.elim
theorem lr {H:Hp} {vs:List V} {ds:List D} (rs:av H vs ds) (lo hi:Option Int):av H (gf vs lo hi) (cZ ds lo hi):=by
 unfold gf cZ
 rw [rs.length]
 exact (rs.drop _).take _
theorem ve {α:Type} {xs:List D} {lo hi:Option Int} (h:gQ xs.length lo hi):cZ xs lo hi=xs:=by
 unfold cZ
 rw [h.1,h.2]
 simp
theorem dJ {X:Cx} {WE:WX} {e:Expr} {lo hi:Option Expr} {xa:XE} {xl xh:XO} {p2 pos:Pos} (he:RE X WE e xa) (hl:RO X WE lo xl) (hh:RO X WE hi xh):RE X WE (.Subscript e (.Slice lo hi none p2) pos) (xSl oSl xa xl xh):=
 ⟨(p7 ER he.h hl.h hh.h).weak fun σ H Q ⟨μ,S,τ,hr,sr,p⟩=>⟨μ,S,τ,hr,sr,p.bind fun v x S1 μ1 H1 st1 r1 p1=>⟨μ1,S1,τ,st1.hr,sr.step st1,p1.bind fun i i' S2 μ2 H2 st2 r2 p2=>⟨μ2,S2,τ,st2.hr,sr.step (st1.trans st2),p2.bind fun j j' S3 μ3 H3 st3 r3 p3=>by
  cases (show i=i' from r2)
  cases (show j=j' from r3)
  have rv:=r1.step (st2.trans st3)
  unfold oSl at p3
  split at p3
  ·rename_i xs
   obtain ⟨a,vs,rfl,h,g,rs⟩:=iF rv
   refine ⟨a,rfl,.inl ⟨vs,h,fun hw=>?_,fun hw q hq=>p3.qg st3.hr (lr rs i j) q hq⟩⟩
   rw [rs.length] at hw
   rw [ve (α:=Unit) hw] at p3
   exact p3.here st3.hr (Rep.tup g rs)
  ·split at p3
   ·rename_i xs e1
    obtain ⟨a,vs,rfl,h,rs⟩:=cV st3.hr rv e1
    exact ⟨a,rfl,.inr ⟨vs,h,fun q hq=>p3.jr st3.hr (lr rs i j) q hq⟩⟩
   ·exact p3.elim⟩⟩⟩⟩
theorem cE {X:Cx} {WE:WX}:RO X WE none cf:=⟨fun pins s σ H Q I ⟨μ,S,τ,hr,sr,p⟩=>yr pins s σ H Q I (p.here hr rfl)⟩
theorem cg {X:Cx} {WE:WX} {e:Expr} {xa:XE} (he:RE X WE e xa):RO X WE (some e) (cR xa):=⟨fun pins s σ H Q I ⟨μ,S,τ,hr,sr,p⟩=>yj he.h pins s σ H Q I ⟨μ,S,τ,hr,sr,p.bind fun v x S1 μ1 H1 st1 r1 p1=>by
 try dsimp only at p1
 split at p1
 ·exact ⟨_,aX r1,p1.here st1.hr rfl⟩
 ·exact p1.elim⟩⟩
theorem aC {X:Cx} {WE:WX} {a b:Expr} {xa xb:XE} {pos:Pos} (ha:RE X WE a xa) (hb:RE X WE b xb) (hs:rM b:=by exact fun _ _=>rfl):RE X WE (.Subscript a b pos) (xOp oIx xa xb):=⟨(Dd Em ha.h hb.h hs).weak fun _ _ _ h=>two (X:=X) Bd h⟩
theorem A8 {X:Cx} {WE:WX} {e st:Expr} {xa xb:XE} {p2 pos:Pos} (he:RE X WE e xa) (hs:RE X WE st xb):RE X WE (.Subscript e (.Slice none none (some st) p2) pos) (xOp pk xa xb):=
 ⟨(ye he.h hs.h).weak fun σ H Q ⟨μ,S,τ,hr,sr,p⟩=>⟨μ,S,τ,hr,sr,p.bind fun v x S1 μ1 H1 st1 r1 p1=>⟨μ1,S1,τ,st1.hr,sr.step st1,p1.bind fun w y S2 μ2 H2 st2 r2 p2=>by
  have rv:=r1.step st2
  unfold pk at p2
  split at p2
  ·split at p2
   ·rename_i hi
    obtain ⟨a,vs,rfl,h,g,rs⟩:=iF rv
    exact ⟨a,vs,rfl,by rw [aX r2,hi],h,fun q hq=>p2.qg st2.hr rs.reverse q hq⟩
   ·exact p2.elim
  ·exact p2.elim⟩⟩⟩
end
def eG:List D→Option (List Bool)
 | []=>some []
 | .bl b :: r=>(eG r).map (b :: ·)
 | _=>none
def intsOf:List D→Option (List Int)
 | []=>some []
 | .int b :: r=>(intsOf r).map (b :: ·)
 | _=>none
theorem lG:∀ {ds:List D} {bs:List Bool},eG ds=some bs→ds=bs.map D.bl
 | [],_,e=>by simp [eG] at e;subst e;rfl
 | d :: ds,bs,e=>by
  cases d with
  | bl b=>
   simp only [eG,Option.map_eq_some_iff] at e
   obtain ⟨cs,e1,rfl⟩:=e
   rw [lG e1];rfl
  | _=>simp [eG] at e
theorem hW:∀ {ds:List D} {bs:List Int},intsOf ds=some bs→ds=bs.map D.int
 | [],_,e=>by simp [intsOf] at e;subst e;rfl
 | d :: ds,bs,e=>by
  cases d with
  | int b=>
   simp only [intsOf,Option.map_eq_some_iff] at e
   obtain ⟨cs,e1,rfl⟩:=e
   rw [hW e1];rfl
  | _=>simp [intsOf] at e
theorem fL:∀ bs:List Int,intsOf (bs.map D.int)=some bs
 | []=>rfl
 | b :: bs=>by simp [intsOf,fL bs]
theorem av.pG {H:Hp}:∀ {vs:List V} {ns:List Bool},av H vs (ns.map D.bl)→vs=ns.map V.bl
 | [],[],.nil=>rfl
 | v :: vs,n :: ns,.cons r t=>by
  cases r
  rw [List.map_cons,av.pG t]
def insI (x:Int):List Int→List Int
 | []=>[x]
 | y :: ys=>if x≤y then x :: y :: ys else y :: insI x ys
def sortI:List Int→List Int
 | []=>[]
 | x :: xs=>insI x (sortI xs)
theorem insI_perm (x:Int):∀ ys,(insI x ys).Perm (x :: ys)
 | []=>.refl _
 | y :: ys=>by
  unfold insI
  split
  ·exact .refl _
  ·exact ((insI_perm x ys).cons y).trans (.swap x y ys)
theorem sortI_perm:∀ xs,(sortI xs).Perm xs
 | []=>.refl _
 | x :: xs=>(insI_perm x _).trans ((sortI_perm xs).cons x)
theorem nG (x:Int):∀ ys:List Int,ys.Pairwise (·≤·)→(insI x ys).Pairwise (·≤·)
 | [],_=>by simp [insI]
 | y :: ys,h=>by
  unfold insI
  split
  ·rename_i hxy
   refine List.pairwise_cons.mpr ⟨fun z hz=>?_,h⟩
   rcases List.mem_cons.mp hz with e | e
   ·omega
   ·have:=(List.pairwise_cons.mp h).1 z e;omega
  ·rename_i hxy
   obtain ⟨h1,h2⟩:=List.pairwise_cons.mp h
   refine List.pairwise_cons.mpr ⟨fun z hz=>?_,nG x ys h2⟩
   rcases List.mem_cons.mp ((insI_perm x ys).mem_iff.mp hz) with e | e
   ·omega
   ·exact h1 z e
theorem iZ:∀ xs,(sortI xs).Pairwise (·≤·)
 | []=>.nil
 | x :: xs=>nG x _ (iZ xs)
theorem mS:∀ {xs ys:List Int},xs.Perm ys→xs.Pairwise (·≤·)→ys.Pairwise (·≤·)→xs=ys
 | [],ys,h,_,_=>by rw [List.nil_perm.mp h]
 | x :: xs,[],h,_,_=>by simpa using h.length_eq
 | x :: xs,y :: ys,h,h1,h2=>by
  obtain ⟨a1,a2⟩:=List.pairwise_cons.mp h1
  obtain ⟨b1,b2⟩:=List.pairwise_cons.mp h2
  have hx:x∈y :: ys:=h.mem_iff.mp (List.mem_cons_self ..)
  have hy:y∈x :: xs:=h.mem_iff.mpr (List.mem_cons_self ..)
  have e:x=y:=by
   rcases List.mem_cons.mp hx with e | e
   ·exact e
   ·rcases List.mem_cons.mp hy with e' | e'
    ·exact e'.symm
    ·have:=a1 y e';have:=b1 x e;omega
  subst e
  rw [mS (List.Perm.cons_inv h) a2 b2]
theorem pN {xs ys:List Int} (h:ys.Perm xs) (h1:ys.Pairwise (·≤·)):ys=sortI xs:=mS (h.trans (sortI_perm xs).symm) h1 (iZ xs)
def bx (xs:List Vl) (S:Sto):R Vl:=match xs with
 | [x]=>(match bM x S with
  | some ds=>.ok (.d (.int ds.length)) S
  | none=>.bad)
 | _=>.bad
def cW (xs:List Vl) (S:Sto):R Vl:=match xs with
 | [x]=>(match bM x S with
  | some ds=>.ok (.d (.tup ds)) S
  | none=>.bad)
 | _=>.bad
def kL (xs:List Vl) (S:Sto):R Vl:=match xs with
 | [x]=>(match bM x S with
  | some ds=>.ok (.d (.lst ds)) S
  | none=>.bad)
 | _=>.bad
def jV (xs:List Vl) (S:Sto):R Vl:=match xs with
 | [x]=>(match bM x S with
  | some ds=>.ok (.r S.length) (S++[.lst ds])
  | none=>.bad)
 | _=>.bad
def eY (xs:List Vl) (S:Sto):R Vl:=match xs with
 | [x]=>(match (b7 x S).bind eG with
  | some bs=>.ok (.d (.bl (bs.all id))) S
  | none=>.bad)
 | _=>.bad
def j4 (xs:List Vl) (S:Sto):R Vl:=match xs with
 | [x]=>(match (b7 x S).bind eG with
  | some bs=>.ok (.d (.bl (bs.any id))) S
  | none=>.bad)
 | _=>.bad
def kq (xs:List Vl) (S:Sto):R Vl:=match xs with
 | [x]=>(match (b7 x S).bind intsOf with
  | some ns=>if ns.length≤1000∧∀ n∈ns,-1000000≤n∧n≤1000000 then .ok (.d (.int ns.sum)) S else .bad
  | none=>.bad)
 | _=>.bad
def sU (xs:List Vl) (S:Sto):R Vl:=match xs with
 | [.d (.int i),.d (.int j)]=>.ok (.d (.int (if j > i then j else i))) S
 | _=>.bad
def qr (xs:List Vl) (S:Sto):R Vl:=match xs with
 | [.d (.int i),.d (.int j)]=>.ok (.d (.int (if j < i then j else i))) S
 | _=>.bad
section
variable {K:PySem.W.Frag} {mg:Str→Option Value}
theorem bz.one {μ:Nat→Addr} {S:Sto} {H:Hp} {vs:List V} {x:Vl} (r:bz K mg μ S H vs [x]):∃ v,vs=[v]∧aO K mg μ S H v x:=by
 cases r with | cons r t=>cases t;exact ⟨_,rfl,r⟩
theorem bz.two {μ:Nat→Addr} {S:Sto} {H:Hp} {vs:List V} {x y:Vl} (r:bz K mg μ S H vs [x,y]):∃ v w,vs=[v,w]∧aO K mg μ S H v x∧aO K mg μ S H w y:=by
 cases r with | cons r t=>cases t with | cons r' t'=>cases t';exact ⟨_,_,rfl,r,r'⟩
theorem aR:dR K mg xt bx:=by
 intro WE μ S H vs xs Q hr rs p
 unfold bx at p
 split at p
 ·obtain ⟨v,rfl,r⟩:=rs.one
  split at p
  ·obtain ⟨a,us,rfl,ha,rr⟩:=gz hr r ‹_›
   exact ⟨a,us,rfl,iH ha,by rw [rr.length];exact p.here hr (Rep.int _)⟩
  ·exact p.elim
 ·exact p.elim
theorem eg:dR K mg rH cW:=by
 intro WE μ S H vs xs Q hr rs p
 unfold cW at p
 split at p
 ·rename_i x
  obtain ⟨v,rfl,r⟩:=rs.one
  split at p
  ·rename_i ds e
   unfold bM at e
   split at e
   ·cases e
    obtain ⟨a,us,rfl,h,g,rr⟩:=iF r
    exact ⟨a,rfl,.inr ⟨us,h,p.here hr (Rep.tup g rr)⟩⟩
   ·obtain ⟨a,us,rfl,h,rr⟩:=cV hr r e
    exact ⟨a,rfl,.inl ⟨us,h,fun q hq=>p.qg hr rr q hq⟩⟩
  ·exact p.elim
 ·exact p.elim
theorem uS:dR K mg pA kL:=by
 intro WE μ S H vs xs Q hr rs p
 unfold kL at p
 split at p
 ·obtain ⟨v,rfl,r⟩:=rs.one
  split at p
  ·obtain ⟨a,us,rfl,ha,rr⟩:=gz hr r ‹_›
   exact ⟨a,us,rfl,iH ha,fun q hq=>p.jr hr rr q hq⟩
  ·exact p.elim
 ·exact p.elim
theorem sW:dR K mg pA jV:=by
 intro WE μ S H vs xs Q hr rs p
 unfold jV at p
 split at p
 ·obtain ⟨v,rfl,r⟩:=rs.one
  split at p
  ·obtain ⟨a,us,rfl,ha,rr⟩:=gz hr r ‹_›
   exact ⟨a,us,rfl,iH ha,fun q hq=>p.we hr rr q hq⟩
  ·exact p.elim
 ·exact p.elim
theorem dU:dR K mg xS eY:=by
 intro WE μ S H vs xs Q hr rs p
 unfold eY at p
 split at p
 ·obtain ⟨v,rfl,r⟩:=rs.one
  split at p
  ·rename_i bs e
   obtain ⟨ds,e1,e2⟩:=Option.bind_eq_some_iff.mp e
   obtain ⟨a,us,rfl,ha,rr⟩:=cV hr r e1
   rw [lG e2] at rr
   rw [av.pG rr] at ha
   exact ⟨a,bs,rfl,ha,p.here hr (Rep.bl _)⟩
  ·exact p.elim
 ·exact p.elim
theorem v3:dR K mg xk j4:=by
 intro WE μ S H vs xs Q hr rs p
 unfold j4 at p
 split at p
 ·obtain ⟨v,rfl,r⟩:=rs.one
  split at p
  ·rename_i bs e
   obtain ⟨ds,e1,e2⟩:=Option.bind_eq_some_iff.mp e
   obtain ⟨a,us,rfl,ha,rr⟩:=cV hr r e1
   rw [lG e2] at rr
   rw [av.pG rr] at ha
   exact ⟨a,bs,rfl,ha,p.here hr (Rep.bl _)⟩
  ·exact p.elim
 ·exact p.elim
theorem jn:dR K mg xO kq:=by
 intro WE μ S H vs xs Q hr rs p
 unfold kq at p
 split at p
 ·obtain ⟨v,rfl,r⟩:=rs.one
  split at p
  ·rename_i bs e
   split at p
   ·rename_i hb
    obtain ⟨ds,e1,e2⟩:=Option.bind_eq_some_iff.mp e
    obtain ⟨a,us,rfl,ha,rr⟩:=cV hr r e1
    rw [hW e2] at rr
    rw [av.kI rr] at ha
    exact ⟨a,bs,rfl,ha,hb.1,hb.2,p.here hr (Rep.int _)⟩
   ·exact p.elim
  ·exact p.elim
 ·exact p.elim
theorem vJ:dR K mg B3 sU:=by
 intro WE μ S H vs xs Q hr rs p
 unfold sU at p
 split at p
 ·obtain ⟨v,w,rfl,r1,r2⟩:=rs.two
  exact ⟨_,_,by rw [aX r1,aX r2],p.here hr (Rep.int _)⟩
 ·exact p.elim
theorem qh:dR K mg Bk qr:=by
 intro WE μ S H vs xs Q hr rs p
 unfold qr at p
 split at p
 ·obtain ⟨v,w,rfl,r1,r2⟩:=rs.two
  exact ⟨_,_,by rw [aX r1,aX r2],p.here hr (Rep.int _)⟩
 ·exact p.elim
end
def cS (T:String) (x:Vl) (S:Sto):R Vl:=match x with
 | .d d=>.ok (.d (.bl (isT T d))) S
 | .r n=>(match S[n]? with
  | some (.lst xs)=>.ok (.d (.bl (isT T (.lst xs)))) S
  | _=>.bad)
 | _=>.bad
section
variable {X:Cx} {WE:WX}
theorem bw {e:Expr} {xa:XE} {nm:Str} {T:String} {p p2 pos:Pos} [n:NS e] (hm:X.mg "isinstance"=none) (hm2:X.mg nm=none) (hv:bootBuiltins nm=some (.type T)) (ha:RE X WE e xa) (hg:Gl X "isinstance":=by exact rfl) (hg2:Gl X nm:=by exact rfl) (ho:okT T=true:=by exact rfl)
  (hn:nm≠"__name__":=by decide) (hd:(nm == ("__debug__":Str))=false:=by decide) (hb:bootBuiltins "isinstance"=some (.builtin "isinstance"):=by decide +kernel)
  (hs2:starEach [.Name nm p2] X.env=(false,eval (.Name nm p2) X.env) :: starEach [] X.env:=by rfl) (hpl:(backTo pos (starEach [.Name nm p2] X.env)).any (·.1)=false:=by rfl) :
  RE X WE (.Call (.Name "isinstance" p) [e,.Name nm p2] [] pos) (xUn (cS T) xa):=
 ⟨(vm hg hm hg2 hm2 hv ho ha.h hn hd hb (n.eq _ X.env) hs2 hpl).weak fun σ H Q ⟨μ,S,τ,hr,sr,p⟩=>⟨μ,S,τ,hr,sr,p.bind fun v x S1 μ1 H1 st1 r1 p1=>by
  unfold cS at p1
  split at p1
  ·exact ⟨_,Rep.mono ff r1,p1.here st1.hr (Rep.bl _)⟩
  ·split at p1
   ·rename_i e
    obtain ⟨rfl,hn⟩:=r1
    obtain ⟨vs,h,rs⟩:=st1.hr.ob _ _ e
    exact ⟨_,Rep.lst h (rs.mono ff),p1.here st1.hr (Rep.bl _)⟩
   ·exact p1.elim
  ·exact p1.elim⟩⟩
def xLm (f:Nat→List D→D→Sto→R Vl) (o e:XE):XE:=fun τ S=>(o τ S).bind fun x S1=>match x with
 | .r n=>(match S1[n]? with
  | some (.lst _)=>(e τ S1).bind fun y S2=>(match y with
   | .d z=>(match S2[n]? with
    | some (.lst xs)=>f n xs z S2
    | _=>.bad)
   | _=>.bad)
  | _=>.bad)
 | _=>.bad
def i6 (n:Nat) (xs:List D) (z:D) (S:Sto):R Vl:=if xs.length < 100000 then .ok (.d .non) (S.set n (.lst (xs++[z]))) else .bad
theorem lV {o e:Expr} {xo xe:XE} {apos cpos:Pos} (ho:RE X WE o xo) (he:RE X WE e xe)
  (hbase:attributeBase o "append" X.env (eval o X.env)=eval o X.env:=by rfl)
  (hfew:((backTo cpos (starEach [e] X.env)).all (fun x=>!x.1) && (backToKw cpos (keywordEach [] X.env)).all (fun x=>x.1.isSome) && decide ([e].length+([]:List Keyword).length+(if ([]:List Keyword).isEmpty then 0 else 1) < 30))=true:=by rfl)
  (hline:(apos.endLine == cpos.line)=true:=by rfl) (hs:starEach [e] X.env=(false,eval e X.env) :: starEach [] X.env:=by rfl):RE X WE (.Call (.Attribute o "append" apos) [e] [] cpos) (xLm i6 xo xe):=
 ⟨(Bn ho.h he.h hbase hfew hline hs).weak fun σ H Q ⟨μ,S,τ,hr,sr,p⟩=>⟨μ,S,τ,hr,sr,p.bind fun v x S1 μ1 H1 st1 r1 p1=>by
  try dsimp only at p1
  split at p1
  ·rename_i n
   obtain ⟨rfl,hn⟩:=r1
   split at p1
   ·rename_i xs0 e0
    obtain ⟨vs0,h0,_⟩:=st1.hr.ob _ _ e0
    refine ⟨_,vs0,rfl,h0,μ1,S1,τ,st1.hr,sr.step st1,p1.bind fun w y S2 μ2 H2 st2 r2 p2=>?_⟩
    try dsimp only at p2
    split at p2
    ·split at p2
     ·rename_i z _ xs e2
      obtain ⟨vs,h2,rs⟩:=st2.hr.ob _ _ e2
      rw [st2.ag n hn] at h2
      unfold i6 at p2
      split at p2
      ·have lv:=rs.length
       have sp:=Step.put st2.hr e2 (by simp) (ob:=.lst (xs++[z])) ⟨_,rfl,rs.append (.cons r2 .nil)⟩
       rw [st2.ag n hn] at sp
       refine ⟨vs,h2,by rw [sizeLine_eq];omega,p2 _ _ _ sp Rep.non⟩
      ·exact p2.elim
     ·exact p2.elim
    ·exact p2.elim
   ·exact p1.elim
  ·exact p1.elim⟩⟩
def vH (r:V→List V→Hp→VK→Prop) (f:Nat→List D→D→Sto→R Vl):Prop:=∀ (K:PySem.W.Frag) (mg:Str→Option Value) (WE:WX) (μ:Nat→Addr) (S:Sto) (H:Hp) (n:Nat) (xs:List D) (vs:List V) (w:V) (z:D) (Q:VK),HR μ S H→S[n]?=some (.lst xs)→H (μ n)=some (.lst vs)→av (vh μ S H) vs xs→Rep (vh μ S H) w z→aQ (aO K mg) WE μ S H (f n xs z S) Q→r (.ref (μ n)) [w] H Q
theorem oy {r:V→List V→Hp→VK→Prop} {f:Nat→List D→D→Sto→R Vl} {name:Str} {id:String} {o e:Expr} {xo xe:XE} {apos cpos:Pos} (slot:Slot "list" name id) (hty:typeOf (.builtin id)=pure (.type "method_descriptor")) (hm:MtM X id r) (hf:vH r f) (ho:RE X WE o xo) (he:RE X WE e xe)
  (hbase:attributeBase o name X.env (eval o X.env)=eval o X.env:=by rfl)
  (hfew:((backTo cpos (starEach [e] X.env)).all (fun x=>!x.1) && (backToKw cpos (keywordEach [] X.env)).all (fun x=>x.1.isSome) && decide ([e].length+([]:List Keyword).length+(if ([]:List Keyword).isEmpty then 0 else 1) < 30))=true:=by rfl)
  (hline:(apos.endLine == cpos.line)=true:=by rfl) (hs:starEach [e] X.env=(false,eval e X.env) :: starEach [] X.env:=by rfl):RE X WE (.Call (.Attribute o name apos) [e] [] cpos) (xLm f xo xe):=
 ⟨(D3 slot hty hm ho.h he.h hbase hfew hline hs).weak fun σ H Q ⟨μ,S,τ,hr,sr,p⟩=>⟨μ,S,τ,hr,sr,p.bind fun v x S1 μ1 H1 st1 r1 p1=>by
  try dsimp only at p1
  split at p1
  ·rename_i n
   obtain ⟨rfl,hn⟩:=r1
   split at p1
   ·rename_i xs0 e0
    obtain ⟨vs0,h0,_⟩:=st1.hr.ob _ _ e0
    refine ⟨_,vs0,rfl,h0,μ1,S1,τ,st1.hr,sr.step st1,p1.bind fun w y S2 μ2 H2 st2 r2 p2=>?_⟩
    try dsimp only at p2
    split at p2
    ·split at p2
     ·rename_i z _ xs e2
      obtain ⟨vs,h2,rs⟩:=st2.hr.ob _ _ e2
      rw [← st2.ag n hn]
      exact hf X.K X.mg WE μ2 S2 H2 n xs vs w z Q st2.hr e2 h2 rs r2 p2
     ·exact p2.elim
    ·exact p2.elim
   ·exact p1.elim
  ·exact p1.elim⟩⟩
def pV (n:Nat) (xs:List D) (z:D) (S:Sto):R Vl:=match z with
 | .int i=>if 0≤i∧i < 2 ^ 63 then (match xs[i.toNat]? with
  | some y=>.ok (.d y) (S.set n (.lst (xs.eraseIdx i.toNat)))
  | none=>.bad) else .bad
 | _=>.bad
theorem av.erase {H:Hp}:∀ {vs:List V} {ds:List D} (i:Nat),av H vs ds→av H (vs.eraseIdx i) (ds.eraseIdx i)
 | _,_,_,.nil=>.nil
 | _,_,0,.cons _ t=>t
 | _,_,i+1,.cons r t=>.cons r (av.erase i t)
theorem vG:vH vd pV:=by
 intro K mg WE μ S H n xs vs w z Q hr e h rs rw' p
 unfold pV at p
 split at p
 ·rename_i i
  split at p
  ·rename_i hi
   split at p
   ·rename_i y ey
    obtain ⟨u,eu,ru⟩:=rs.get' ey
    have hl:i.toNat < vs.length:=(List.getElem?_eq_some_iff.mp eu).1
    cases rw'
    refine ⟨_,vs,i,i.toNat,u,rfl,rfl,h,by omega,hi.2,PySem.StrLaws.seqIndex_nonneg hi.1 (by omega),eu,?_⟩
    have sp:=Step.put hr e (by simp) (ob:=.lst (xs.eraseIdx i.toNat)) ⟨_,rfl,rs.erase i.toNat⟩
    exact p _ _ _ sp (Rep.mono sp.vis ru)
   ·exact p.elim
  ·exact p.elim
 ·exact p.elim
end
def bp (e:XE):XI:=fun τ S=>(e τ S).bind fun z S1=>match z with
 | .d (.tup xs)=>.ok ⟨xs.map Vl.d,none⟩ S1
 | .d (.lst xs)=>.ok ⟨xs.map Vl.d,none⟩ S1
 | .r n=>(match S1[n]? with
  | some (.lst xs)=>.ok ⟨xs.map Vl.d,some (n,.lst xs)⟩ S1
  | _=>.bad)
 | _=>.bad
def iC (as:XA):XI:=fun τ S=>(as τ S).bind fun zs S1=>match zs with
 | [.d (.int j)]=>if -100000≤j∧j≤100000 then .ok ⟨(List.range j.toNat).map fun i=>Vl.d (.int (i:Nat)),none⟩ S1 else .bad
 | _=>.bad
def wF (as:XA):XI:=fun τ S=>(as τ S).bind fun zs S1=>match zs with
 | [.d (.int i),.d (.int j)]=>if (-100000≤i∧i≤100000)∧-100000≤j∧j≤100000 then .ok ⟨(List.range (j - i).toNat).map fun k=>Vl.d (.int (i+(k:Nat))),none⟩ S1 else .bad
 | _=>.bad
section
variable {X:Cx} {WE:WX} {K:PySem.W.Frag} {mg:Str→Option Value} {μ:Nat→Addr} {S:Sto} {H:Hp}
theorem fY {xs:List D} {i:Nat} {z:Vl} (e:(xs.map Vl.d)[i]?=some z):∃ x,xs[i]?=some x∧z=.d x:=by
 rw [List.getElem?_map] at e
 cases q:xs[i]? with
 | none=>rw [q] at e;cases e
 | some x=>rw [q] at e;cases e;exact ⟨x,rfl,rfl⟩
theorem Aa {a:Addr} {vs:List V} {xs:List D} (g:vh μ S H a=some (.tup vs)) (rs:av (vh μ S H) vs xs) (hz:vs.length≤sizeLine):kc K mg μ S H (Itt K a) ⟨xs.map Vl.d,none⟩ where
 ok:=True.intro
 len:=by simp only [List.length_map];rw [← rs.length];exact hz
 go:=fun i z μ' S' H' st _ e=>by
  obtain ⟨x,e1,rfl⟩:=fY e
  obtain ⟨u,e2,_⟩:=rs.get' e1
  exact ⟨vs,u,SqT.of (bf (st.vis _ _ g)).2,e2⟩
 yld:=fun i z μ' S' H' u H2 st _ e y=>by
  obtain ⟨rfl,y⟩:=y
  obtain ⟨x,e1,rfl⟩:=fY e
  have e2:=y vs (SqT.of (bf (st.vis _ _ g)).2)
  obtain ⟨x',e3,r⟩:=rs.get e2
  rw [e1] at e3;cases e3
  exact ⟨Step.refl st.hr,Rep.mono st.vis r⟩
 stop:=fun i μ' S' H' st _ hi=>⟨vs,SqT.of (bf (st.vis _ _ g)).2,by rw [rs.length];simpa using Nat.le_of_eq hi⟩
theorem A6 {a:Addr} {vs:List V} {xs:List D} (g:vh μ S H a=some (.lst vs)) (rs:av (vh μ S H) vs xs) (hz:vs.length≤sizeLine):kc K mg μ S H (Itl K a) ⟨xs.map Vl.d,none⟩ where
 ok:=True.intro
 len:=by simp only [List.length_map];rw [← rs.length];exact hz
 go:=fun i z μ' S' H' st _ e=>by
  obtain ⟨x,e1,rfl⟩:=fY e
  obtain ⟨u,e2,_⟩:=rs.get' e1
  exact ⟨vs,u,SqL.of (bf (st.vis _ _ g)).2,e2⟩
 yld:=fun i z μ' S' H' u H2 st _ e y=>by
  obtain ⟨rfl,y⟩:=y
  obtain ⟨x,e1,rfl⟩:=fY e
  have e2:=y vs (SqL.of (bf (st.vis _ _ g)).2)
  obtain ⟨x',e3,r⟩:=rs.get e2
  rw [e1] at e3;cases e3
  exact ⟨Step.refl st.hr,Rep.mono st.vis r⟩
 stop:=fun i μ' S' H' st _ hi=>⟨vs,SqL.of (bf (st.vis _ _ g)).2,by rw [rs.length];simpa using Nat.le_of_eq hi⟩
theorem zL {n:Nat} {vs:List V} {xs:List D} (hn:n < S.length) (e0:S[n]?=some (.lst xs)) (rs:av (vh μ S H) vs xs) (hz:vs.length≤sizeLine):kc K mg μ S H (Itl K (μ n)) ⟨xs.map Vl.d,some (n,.lst xs)⟩ where
 ok:=e0
 len:=by simp only [List.length_map];rw [← rs.length];exact hz
 go:=fun i z μ' S' H' st ok e=>by
  obtain ⟨us,h,rs'⟩:=st.hr.ob n _ ok
  rw [st.ag n hn] at h
  obtain ⟨x,e1,rfl⟩:=fY e
  obtain ⟨u,e2,_⟩:=rs'.get' e1
  exact ⟨us,u,SqL.of h,e2⟩
 yld:=fun i z μ' S' H' u H2 st ok e y=>by
  obtain ⟨rfl,y⟩:=y
  obtain ⟨us,h,rs'⟩:=st.hr.ob n _ ok
  rw [st.ag n hn] at h
  obtain ⟨x,e1,rfl⟩:=fY e
  have e2:=y us (SqL.of h)
  obtain ⟨x',e3,r⟩:=rs'.get e2
  rw [e1] at e3;cases e3
  exact ⟨Step.refl st.hr,r⟩
 stop:=fun i μ' S' H' st ok hi=>by
  replace hi:=Nat.le_of_eq hi
  obtain ⟨us,h,rs'⟩:=st.hr.ob n _ ok
  rw [st.ag n hn] at h
  exact ⟨us,SqL.of h,by rw [rs'.length];simpa using hi⟩
theorem ub {lo:Int} {m:Nat} (hr:HR μ S H) (hm:m≤sizeLine):kc K mg μ S H (Itr lo m) ⟨(List.range m).map fun k=>Vl.d (.int (lo+(k:Nat))),none⟩ where
 ok:=True.intro
 len:=by simpa using hm
 go:=fun i z μ' S' H' st _ e=>by
  have:=(List.getElem?_eq_some_iff.mp e).1
  exact (show i < m by simpa using this)
 yld:=fun i z μ' S' H' u H2 st _ e y=>by
  obtain ⟨rfl,rfl⟩:=y
  have hi:i < m:=by simpa using (List.getElem?_eq_some_iff.mp e).1
  rw [List.getElem?_map,List.getElem?_range hi] at e
  cases e
  exact ⟨Step.refl st.hr,Rep.int _⟩
 stop:=fun i μ' S' H' st _ hi=>(show m≤i by simpa using Nat.le_of_eq hi)
theorem aW {tg l:Expr} {xl:XE} (hl:RE X WE l xl):RI X WE tg l (bp xl):=⟨by
 intro pins s σ H Rr I h
 obtain ⟨μ,S,τ,hr,sr,p⟩:=h
 refine thn (hl.h pins s σ H _ I ⟨μ,S,τ,hr,sr,p.bind (Q:=fun v H1=>∃ μ1 S1 z,HR μ1 S1 H1∧aO X.K X.mg μ1 S1 H1 v z∧aQ (kc X.K X.mg) WE μ1 S1 H1 (match z with
   | .d (.tup xs)=>.ok ⟨xs.map Vl.d,none⟩ S1
   | .d (.lst xs)=>.ok ⟨xs.map Vl.d,none⟩ S1
   | .r n=>(match S1[n]? with
    | some (.lst xs)=>.ok ⟨xs.map Vl.d,some (n,.lst xs)⟩ S1
    | _=>.bad)
   | _=>.bad) Rr) fun v x S1 μ1 H1 st1 r1 p1=>⟨μ1,S1,x,st1.hr,r1,p1⟩⟩) fun v s1 ⟨u,H1,I1,ru,μ1,S1,z,hr1,r1,p1⟩=>?_
 have goT:∀ a vs xs,u=.ref a→vh μ1 S1 H1 a=some (.tup vs)→av (vh μ1 S1 H1) vs xs→Rr (Itt X.K a) H1→wpAny (model X.prog X.w) X.A (pyIter v) (PIE X pins σ tg Rr) X.xe s1:=by
  rintro a vs xs rfl g rs q
  cases ru
  obtain ⟨its,rv,pp,hz⟩:=I1.tuple (SqT.of (bf g).2)
  refine wpAny_pyIter_tuple (show s1.heap.IsTuple a its.toArray from pp) ?_
  refine ⟨s1.heap.objs.size,[s1.heap.objs.size],_,_,H1,rfl,I1.kept (t':=s1.toks) fun b o e=>Heap.get?_push_of_some _ e,rZ a _,⟨_,Heap.get?_push_size _ rfl,rfl,rfl⟩,fun b hb=>?_,q⟩
  rw [List.mem_singleton.mp hb]
  exact I1.lM (Nat.le_refl _) (I1.hok.fresh (Nat.le_refl _))
 have goL:∀ a vs,u=.ref a→H1 a=some (.lst vs)→Rr (Itl X.K a) H1→wpAny (model X.prog X.w) X.A (pyIter v) (PIE X pins σ tg Rr) X.xe s1:=by
  rintro a vs rfl g q
  cases ru
  obtain ⟨its,rv,pp,hz⟩:=I1.list (SqL.of g)
  refine wpAny_pyIter_list pp.isList ?_
  refine ⟨s1.heap.objs.size,[s1.heap.objs.size],_,_,H1,rfl,I1.kept (t':=s1.toks) fun b o e=>Heap.get?_push_of_some _ e,ue a _,⟨_,Heap.get?_push_size _ rfl,rfl,rfl⟩,fun b hb=>?_,q⟩
  rw [List.mem_singleton.mp hb]
  exact I1.lM (Nat.le_refl _) (I1.hok.fresh (Nat.le_refl _))
 split at p1
 ·obtain ⟨a,vs,rfl,h,g,rs⟩:=iF r1
  obtain ⟨its,rv,pp,hz⟩:=I1.tuple (SqT.of h)
  exact goT a vs _ rfl g rs (p1.here hr1 (Aa g rs hz))
 ·cases (show Rep (vh μ1 S1 H1) u (.lst _) from r1) with
  | lst g rs=>
   obtain ⟨its,rv,pp,hz⟩:=I1.list (SqL.of (bf g).2)
   exact goL _ _ rfl (bf g).2 (p1.here hr1 (A6 g rs hz))
 ·split at p1
  ·rename_i e
   obtain ⟨rfl,hn⟩:=r1
   obtain ⟨vs,h,rs⟩:=hr1.ob _ _ e
   obtain ⟨its,rv,pp,hz⟩:=I1.list (SqL.of h)
   exact goL _ _ rfl h (p1.here hr1 (zL hn e rs hz))
  ·exact p1.elim
 ·exact p1.elim⟩
theorem cJ {tg a:Expr} {as:XA} {p pos:Pos} (hg:Gl X "range") (hm:X.mg "range"=none) (ha:RA X WE [a] as) (hs:starEach [a] X.env=[(false,eval a X.env)]:=by rfl):RI X WE tg (.Call (.Name "range" p) [a] [] pos) (iC as):=
 ⟨(vc hg hm ha.h hs).weak fun σ H Rr ⟨μ,S,τ,hr,sr,p⟩=>⟨μ,S,τ,hr,sr,p.bind fun vs xs S1 μ1 H1 st1 r1 p1=>by
  try dsimp only at p1
  split at p1
  ·split at p1
   ·obtain ⟨v,rfl,r⟩:=r1.one
    rename_i j hj
    refine ⟨j,by rw [aX r],by omega,by omega,p1.here st1.hr ?_⟩
    have q:=ub (K:=X.K) (mg:=X.mg) (lo:=0) (m:=j.toNat) st1.hr (jd (by omega))
    have z:∀ k:Nat,(0:Int)+k=k:=fun k=>by omega
    simp only [z] at q
    exact q
   ·exact p1.elim
  ·exact p1.elim⟩⟩
theorem ud {tg a b:Expr} {as:XA} {p pos:Pos} (hg:Gl X "range") (hm:X.mg "range"=none) (ha:RA X WE [a,b] as) (hs:starEach [a,b] X.env=[(false,eval a X.env),(false,eval b X.env)]:=by rfl) (hs2:starEach [b] X.env=[(false,eval b X.env)]:=by rfl):RI X WE tg (.Call (.Name "range" p) [a,b] [] pos) (wF as):=
 ⟨(uR hg hm ha.h hs hs2).weak fun σ H Rr ⟨μ,S,τ,hr,sr,p⟩=>⟨μ,S,τ,hr,sr,p.bind fun vs xs S1 μ1 H1 st1 r1 p1=>by
  try dsimp only at p1
  split at p1
  ·split at p1
   ·obtain ⟨v,w,rfl,r,r'⟩:=r1.two
    rename_i i j hj
    exact ⟨i,j,by rw [aX r,aX r'],⟨by omega,by omega,by omega,by omega⟩,p1.here st1.hr (ub st1.hr (by rw [sizeLine_eq];omega))⟩
   ·exact p1.elim
  ·exact p1.elim⟩⟩
end
section
variable {prog:Program} {w:World} {A:Around} {E:Value→Shared→Prop} {s:Shared}
theorem qB {l:Addr} {vs:List Value} {Q:List Value→Shared→Prop} (hl:IsTup s.heap l vs.toArray)
  (h:Q vs { s with heap:=(s.heap.push (seqObj "list" #[] 0)).update s.heap.objs.size (Obj.mapSeq (·++vs.toArray)) }) (hsz:vs.length≤sizeLine:=by size_fits) :
  wpAny (model prog w) A (collect (.ref l)) Q E s:=by
 obtain ⟨o,ho,hc,n,hd⟩:=id hl
 unfold collect
 refine wpAny_bind (wpAny_runValue (codeAny_builtin entry_proto_collect' ?_))
 show wpAny _ _ (do again (.builtin "list.__iadd__" ⟨[← newList [],.ref l],[]⟩)) _ _ s
 refine wpAny_bind (wpAny_newList (wpAny_pure ⟨Code.quiet_builtin _ (by decide +kernel),codeAny_builtin entry_list_iadd' ?_⟩))
 show wpAny _ _ (Builtin.List.listExtendWith (.ref s.heap.objs.size) (.ref l) (.ref s.heap.objs.size)) _ _ { s with heap:=s.heap.push (seqObj "list" #[] 0) }
 unfold Builtin.List.listExtendWith
 have ho':(s.heap.push (seqObj "list" #[] 0)).get? l=some o:=Heap.get?_push_of_some _ ho
 refine wpAny_bind (wpAny_typeOf (T:="tuple") ⟨o,ho',hc⟩ ?_)
 have ht:(Value.type "tuple" == Value.type "tuple")=true:=by rfl
 rw [if_pos (by rw [ht];simp)]
 refine wpAny_bind (listItems_at ho' hd ?_)
 refine wpAny_bind (listItems_at (xs:=#[]) (n:=0) (Heap.get?_push_size _ rfl) rfl ?_)
 rw [if_neg (by simp)]
 refine wpAny_bind (listUpdate_at (xs:=#[]) (n:=0) (Heap.get?_push_size _ rfl) rfl ?_ (Nat.zero_le _) (by show (#[]++vs.toArray).size≤sizeLine+1;simp only [Array.size_append,List.size_toArray,List.length_nil];omega))
 refine wpAny_pure ?_
 show wpAny (model prog w) A (do
   let o ← load s.heap.objs.size
   match o.data with
   | .seq xs _=>pure xs.toList
   | _=>unsupported "internal:collect") Q E { s with heap:=(s.heap.push (seqObj "list" #[] 0)).update s.heap.objs.size (Obj.mapSeq (·++vs.toArray)) }
 refine wpAny_bind (wpAny_load (get?_update_seq (Heap.get?_push_size _ rfl) _) ?_)
 show wpAny _ _ (pure ((#[]:Array Value)++vs.toArray).toList) Q E _
 rw [show ((#[]:Array Value)++vs.toArray).toList=vs by simp]
 exact wpAny_pure h
theorem rW {l:Addr} {vs:List Value} {ns:List Int} {Q:Value→Shared→Prop} (hl:IsTup s.heap l vs.toArray) (hI:IntsAre vs ns) (h64:vs.length < 64)
  (h:∀ (out:Array Value) (ns':List Int),IntsAre out.toList ns'→ns'.Perm ns→ns'.Pairwise (·≤·)→Q (.ref (s.heap.objs.size+1)) { s with heap:=sortedAll s.heap vs out }) :
  wpAny (model prog w) A (call (.builtin "sorted") [.ref l]) Q E s:=by
 refine Calls.call_function_entry kind_sorted plain_sorted entry_sorted (args_sorted1 _) ?_
 unfold Builtin.«sorted»
 refine wpAny_bind (m:=checkCount "sorted" 1 1 _) (wpAny_pure ?_)
 refine wpAny_bind (qB hl ?_ (Nat.le_of_lt (d4 (by omega))))
 refine wpAny_bind (wpAny_newList ?_)
 have hsz:((s.heap.push (seqObj "list" #[] 0)).update s.heap.objs.size (Obj.mapSeq (·++vs.toArray))).objs.size=s.heap.objs.size+1:=by
  rw [Heap.size_update,size_push']
 have hoL:(((s.heap.push (seqObj "list" #[] 0)).update s.heap.objs.size (Obj.mapSeq (·++vs.toArray))).push (seqObj "list" vs.toArray 0)).get? (s.heap.objs.size+1)=some (seqObj "list" vs.toArray 0):=by
  rw [← hsz];exact Heap.get?_push_size _ rfl
 show wpAny _ _ _ _ _ { s with heap:=((s.heap.push (seqObj "list" #[] 0)).update s.heap.objs.size (Obj.mapSeq (·++vs.toArray))).push (seqObj "list" vs.toArray 0) }
 rw [hsz]
 refine wpAny_bind (wpAny_holding (wpAny_call_entry slot_list_sort ⟨_,hoL,rfl⟩ entry_list_sort (list_sort_tree hoL hI h64 fun out ns' a1 a2 a3=>⟨_,rfl,?_⟩) (args_list_sort _)))
 exact wpAny_pure ⟨_,rfl,h out ns' a1 a2 a3⟩
end
section
variable {X:Cx}
def uo:List V→Hp→VK→Prop:=fun vs H Q=>∃ (p:Addr) (ns:List Int),vs=[.ref p]∧H p=some (.tup (ns.map V.int))∧ns.length < 64∧∀ (l:Addr) (ms:List Int),H l=none→List.Perm ms ns→ms.Pairwise (·≤·)→Q (.ref l) (upd H l (.lst (ms.map V.int)))
theorem sV:bt X (.builtin "sorted") uo:=by
 intro pins s σ H xs us Q I r h
 obtain ⟨p,ns,rfl,hq,hl,q⟩:=h
 obtain ⟨u,rfl,rx⟩:=vals1 r
 cases rx
 obtain ⟨its,rv,pl,hz⟩:=I.tuple (SqT.of hq)
 have hI:IntsAre its ns:=intsAre_of rv
 have h64:its.length < 64:=by rw [← rv.length,List.length_map];exact hl
 refine rW pl hI h64 fun out ms hout hperm hpair=>?_
 obtain ⟨e,he⟩:=sortedAll_at s.heap its out
 refine ⟨.ref (s.heap.objs.size+1),_,I.laid (t':=s.toks) (o:=.lst (ms.map V.int)) (fun b ob q=>sortedAll_old q) (Nat.le_succ _) ?_,rfl,q _ ms (I.hok.fresh (Nat.le_succ _)) hperm hpair⟩
 have hlm:ms.length=ns.length:=hperm.length_eq
 exact ⟨by rw [List.length_map];have:(64:Nat)≤sizeLine:=(by decide);omega,out.toList,e,fA hout,by simpa using he⟩
def ug:List V→Hp→VK→Prop:=fun vs H Q=>oX vs H Q∨uo vs H Q
theorem je:bt X (.builtin "sorted") ug:=qp.or sV
def fO (xs:List Vl) (S:Sto):R Vl:=match xs with
 | [x]=>(match (bM x S).bind intsOf with
  | some ns=>if ns.length < 64 then .ok (.d (.lst ((sortI ns).map D.int))) S else .bad
  | none=>.bad)
 | _=>.bad
theorem j6 {K:PySem.W.Frag} {mg:Str→Option Value}:dR K mg ug fO:=by
 intro WE μ S H vs xs Q hr rs p
 unfold fO at p
 split at p
 ·obtain ⟨v,rfl,r⟩:=rs.one
  split at p
  ·rename_i ns e
   split at p
   ·rename_i hb
    obtain ⟨ds,e1,e2⟩:=Option.bind_eq_some_iff.mp e
    obtain ⟨a,us,rfl,ha,rr⟩:=gz hr r e1
    rw [hW e2] at rr
    rw [av.kI rr] at ha
    rcases ha with ha | ha
    ·refine .inl ⟨a,ns,rfl,ha,hb,fun l ms hl h1 h2=>?_⟩
     rw [pN h1 h2]
     exact p.jr hr (av.ints _) l hl
    ·refine .inr ⟨a,ns,rfl,ha,hb,fun l ms hl h1 h2=>?_⟩
     rw [pN h1 h2]
     exact p.jr hr (av.ints _) l hl
   ·exact p.elim
  ·exact p.elim
 ·exact p.elim
def xq:V→List V→Hp→VK→Prop:=fun x vs H Q=>∃ l b xs zs,x=.ref l∧vs=[.ref b]∧H l=some (.lst xs)∧H b=some (.tup zs)∧xs.length+zs.length≤sizeLine∧Q .non (upd H l (.lst (xs++zs)))
theorem yZ:MtM X "list.extend" xq:=by
 intro pins s σ H x vs v us Q I rx rv h
 obtain ⟨l,b,xs,zs,rfl,rfl,hH,hB,hz,q⟩:=h
 cases rx
 obtain ⟨u,rfl,ru⟩:=rv.one
 cases ru
 obtain ⟨z,its,n,r,hl,e⟩:=I.lN hH
 obtain ⟨its2,r2,p2,hz2⟩:=I.tuple (SqT.of hB)
 obtain ⟨o2,g2,c2,n2,d2⟩:=id p2
 have l2:=r2.length
 have hsz:its.toArray.size+its2.toArray.size≤sizeLine:=by rw [List.size_toArray,List.size_toArray];omega
 have hlong:¬(!its.toArray.isEmpty && Builtin.List.listTooLong (its.toArray.size+its2.toArray.size))=true:=by
  rw [ja hsz,Bool.and_false]
  exact Bool.false_ne_true
 refine wpAny_call_entry F.slot_list_extend ⟨_,e,rfl⟩ F.entry_list_extend ?_ (F.args_list_extend_2 _ _)
 unfold Builtin.«list.extend»
 refine wpAny_bind (m:=selfAndOne "list.extend" _) ?_
 refine wpAny_of_eq (a:=(Value.ref l,Value.ref b)) (by first | rfl | (unfold selfAndOne;rfl)) ?_
 dsimp only
 unfold Builtin.List.listExtendWith
 refine wpAny_bind (wpAny_typeOf (T:="tuple") ⟨o2,g2,c2⟩ ?_)
 have ht:(Value.type "tuple" == Value.type "tuple")=true:=by rfl
 rw [if_pos (by rw [ht];simp)]
 refine wpAny_bind (listItems_at g2 d2 ?_)
 refine wpAny_bind (listItems_at (n:=n) e rfl ?_)
 rw [if_neg hlong]
 refine wpAny_bind (listUpdate_at (n:=n) e rfl ?_ (by rw [List.size_toArray];omega) (by rw [Array.size_append];omega))
 refine wpAny_pure ?_
 refine ⟨_,rfl,.non,_,I.tm (its':=its++its2) hH e (by simp) (r.append r2) ?_,rfl,q⟩
 rw [List.length_append]
 omega
end
section
variable {X:Cx} {WE:WX}
def xZ:V→List V→Hp→VK→Prop:=fun x vs H Q=>rJ x vs H Q∨xq x vs H Q
theorem m9:MtM X "list.extend" xZ:=by
 intro pins s σ H x vs v us Q I rx rv h
 rcases h with h | h
 ·exact vi pins s σ H x vs v us Q I rx rv h
 ·exact yZ pins s σ H x vs v us Q I rx rv h
def fV (n:Nat) (xs:List D) (z:D) (S:Sto):R Vl:=match z with
 | .lst ys=>if xs.length+ys.length≤100000 then .ok (.d .non) (S.set n (.lst (xs++ys))) else .bad
 | .tup ys=>if xs.length+ys.length≤100000 then .ok (.d .non) (S.set n (.lst (xs++ys))) else .bad
 | _=>.bad
theorem j9:vH xZ fV:=by
 intro K mg WE μ S H n xs vs w z Q hr e h rs rw' p
 unfold fV at p
 split at p
 ·rename_i ys
  split at p
  ·cases rw' with
   | @lst a us _ h' rs'=>
    have l1:=rs.length
    have l2:=rs'.length
    exact .inl ⟨_,a,vs,us,rfl,rfl,h,(bf h').2,jd (by omega),p _ _ _ (Step.put hr e (by simp) (ob:=.lst (xs++ys)) ⟨_,rfl,rs.append rs'⟩) Rep.non⟩
  ·exact p.elim
 ·rename_i ys
  split at p
  ·cases rw' with
   | @tup a us _ h' rs'=>
    have l1:=rs.length
    have l2:=rs'.length
    exact .inr ⟨_,a,vs,us,rfl,rfl,h,(bf h').2,jd (by omega),p _ _ _ (Step.put hr e (by simp) (ob:=.lst (xs++ys)) ⟨_,rfl,rs.append rs'⟩) Rep.non⟩
  ·exact p.elim
 ·exact p.elim
def dP (x y z:Vl) (S:Sto):R Unit:=match x,y,z with
 | .r n,.d (.int k),.d w=>(match S[n]? with
  | some (.lst xs)=>(match ixN xs.length k with
   | some j=>.ok () (S.set n (.lst (xs.set j w)))
   | none=>.bad)
  | _=>.bad)
 | _,_,_=>.bad
theorem av.set {H:Hp} {v:V} {d:D} (r:Rep H v d):∀ {vs:List V} {ds:List D} (i:Nat),av H vs ds→av H (vs.set i v) (ds.set i d)
 | _,_,_,.nil=>.nil
 | _,_,0,.cons _ t=>.cons r t
 | _,_,i+1,.cons q t=>.cons q (av.set r i t)
theorem iT {K:PySem.W.Frag} {mg:Str→Option Value}:vo K mg su dP:=by
 intro WE μ S H o i v x y z Q hr ro ri rv p
 unfold dP at p
 split at p
 ·split at p
  ·rename_i n k w _ xs e
   obtain ⟨rfl,hn⟩:=ro
   obtain ⟨vs,h,rs⟩:=hr.ob _ _ e
   split at p
   ·rename_i j ej
    refine ⟨_,vs,k,j,rfl,aX ri,h,by rw [rs.length];exact ej,?_⟩
    exact p () _ _ (Step.put hr e (by simp) (ob:=.lst (xs.set j w)) ⟨_,rfl,rs.set rv j⟩) True.intro
   ·exact p.elim
  ·exact p.elim
 ·exact p.elim
theorem l8:sf X su:=set_list
def lrg (fin:List D→Sto→R Vl) (zs:List Vl) (S:Sto):R Vl:=match zs with
 | [.d (.int j)]=>if 0≤j∧j≤1000 then fin ((List.range j.toNat).map fun i=>D.int (i:Nat)) S else .bad
 | _=>.bad
def wV (ds:List D) (S:Sto):R Vl:=.ok (.r S.length) (S++[.lst ds])
theorem l6 {H:Hp}:∀ l:List Nat,av H (l.map fun i=>V.int (i:Nat)) (l.map fun i=>D.int (i:Nat))
 | []=>.nil
 | n :: l=>.cons (.int _) (l6 l)
theorem n5 {a:Expr} {as:XA} {p1 p2 pos1 pos2:Pos} (hc:X.calm=true) (hgl:Gl X "list") (hml:X.mg "list"=none) (hgr:Gl X "range") (hmr:X.mg "range"=none) (hbl:bootBuiltins "list"=some (.type "list")) (ha:RA X WE [a] as)
  (hs:starEach [a] X.env=[(false,eval a X.env)]:=by rfl)
  (hs2:starEach [Expr.Call (.Name "range" p2) [a] [] pos2] X.env=(false,eval (Expr.Call (.Name "range" p2) [a] [] pos2) X.env) :: starEach [] X.env:=by rfl) :
  RE X WE (.Call (.Name "list" p1) [.Call (.Name "range" p2) [a] [] pos2] [] pos1) (xN (lrg wV) as):=
 ⟨(oN hc hgl hml hgr hmr hbl ha.h hs hs2).weak fun σ H Q ⟨μ,S,τ,hr,sr,p⟩=>⟨μ,S,τ,hr,sr,p.bind fun vs xs S1 μ1 H1 st1 r1 p1=>by
  unfold lrg at p1
  split at p1
  ·split at p1
   ·rename_i j hj
    obtain ⟨v,rfl,r⟩:=r1.one
    exact ⟨j,by rw [aX r],hj.1,hj.2,fun l hl=>p1.we st1.hr (l6 _) l hl⟩
   ·exact p1.elim
  ·exact p1.elim⟩⟩
end
def gF (x:Int):List Int→List Int
 | []=>[x]
 | y :: ys=>if x < y then x :: y :: ys else if x=y then y :: ys else y :: gF x ys
def a4:List Int→List Int
 | []=>[]
 | x :: xs=>gF x (a4 xs)
theorem lq (x z:Int):∀ ys,z∈gF x ys↔z=x∨z∈ys
 | []=>by simp [gF]
 | y :: ys=>by
  unfold gF
  split
  ·simp
  ·split
   ·rename_i h;subst h;simp
   ·simp only [List.mem_cons,lq x z ys]
    constructor
    ·rintro (h | h | h)
     ·exact .inr (.inl h)
     ·exact .inl h
     ·exact .inr (.inr h)
    ·rintro (h | h | h)
     ·exact .inr (.inl h)
     ·exact .inl h
     ·exact .inr (.inr h)
theorem dY (z:Int):∀ xs,z∈a4 xs↔z∈xs
 | []=>by simp [a4]
 | x :: xs=>by rw [a4,lq,dY z xs,List.mem_cons]
theorem nI (x:Int):∀ ys:List Int,ys.Pairwise (· < ·)→(gF x ys).Pairwise (· < ·)
 | [],_=>by simp [gF]
 | y :: ys,h=>by
  obtain ⟨h1,h2⟩:=List.pairwise_cons.mp h
  unfold gF
  split
  ·rename_i hxy
   refine List.pairwise_cons.mpr ⟨fun z hz=>?_,h⟩
   rcases List.mem_cons.mp hz with e | e
   ·omega
   ·have:=h1 z e;omega
  ·split
   ·exact h
   ·refine List.pairwise_cons.mpr ⟨fun z hz=>?_,nI x ys h2⟩
    rcases (lq x z ys).mp hz with e | e
    ·omega
    ·exact h1 z e
theorem cM:∀ xs,(a4 xs).Pairwise (· < ·)
 | []=>.nil
 | x :: xs=>nI x _ (cM xs)
theorem ng {xs:List Int} (h:xs.Pairwise (· < ·)):xs.Nodup:=h.imp fun z=>by omega
theorem wQ {xs ys:List Int} (h:∀ z,z∈xs↔z∈ys) (h1:xs.Pairwise (· < ·)) (h2:ys.Pairwise (· < ·)):xs=ys:=
 mS ((List.perm_ext_iff_of_nodup (ng h1) (ng h2)).mpr h) (h1.imp fun z=>by omega) (h2.imp fun z=>by omega)
theorem lC {xs ys:List Int} (h:∀ z,z∈ys↔z∈xs) (h1:ys.Pairwise (· < ·)):ys=a4 xs:=wQ (fun z=>by rw [h,dY]) h1 (cM xs)
theorem mC {ks ns:List Int} (h1:ks.Nodup) (h2:∀ x,x∈ks↔x∈ns):ks.length=(a4 ns).length:=
 ((List.perm_ext_iff_of_nodup h1 (ng (cM ns))).mpr fun z=>by rw [h2,dY]).length_eq
section
variable {X:Cx} {WE:WX}
def SqI (H:Hp) (a:Addr) (ns:List Int):Prop:=H a=some (.lst (ns.map V.int))∨H a=some (.tup (ns.map V.int))
def Es (te:TE):TE:=fun σ H Q=>te σ H fun x H1=>∃ (a:Addr) (ns:List Int),x=.ref a∧SqI H1 a ns∧ns.length≤300∧(a4 ns).length < 64∧∀ l:Addr,H1 l=none→Q (.ref l) (upd H1 l (.lst ((a4 ns).map V.int)))
def EL (te:TE):TE:=fun σ H Q=>te σ H fun x H1=>∃ (a:Addr) (ns:List Int),x=.ref a∧SqI H1 a ns∧ns.length≤300∧Q (.int (a4 ns).length) H1
theorem SqI.at {pins:List (Addr×Obj)} {σ:St} {H:Hp} {s:Shared} {a:Addr} {ns:List Int} (I:Inv X pins σ H s) (h:SqI H a ns):∃ (its:List Value) (k:Bool),IntsAre its ns∧qc s.heap a its.toArray k:=by
 rcases h with h | h
 ·obtain ⟨its,rv,pl,hz⟩:=I.list (SqL.of h)
  exact ⟨its,true,intsAre_of rv,pl.isList⟩
 ·obtain ⟨its,rv,pl,hz⟩:=I.tuple (SqT.of h)
  exact ⟨its,false,intsAre_of rv,pl⟩
theorem BV {e:Expr} {te:TE} {p1 p2 pos1 pos2:Pos} (hc:X.calm=true) (hgs:Gl X "sorted") (hms:X.mg "sorted"=none) (hgt:Gl X "set") (hmt:X.mg "set"=none) (hbs:bootBuiltins "sorted"=some (.builtin "sorted")) (hbt:bootBuiltins "set"=some (.type "set")) (he:PE X e te)
  (hs:starEach [e] X.env=(false,eval e X.env) :: starEach [] X.env:=by rfl)
  (hs2:starEach [Expr.Call (.Name "set" p2) [e] [] pos2] X.env=(false,eval (Expr.Call (.Name "set" p2) [e] [] pos2) X.env) :: starEach [] X.env:=by rfl) :
  PE X (.Call (.Name "sorted" p1) [.Call (.Name "set" p2) [e] [] pos2] [] pos1) (Es te):=by
 intro pins s σ H Q I h
 refine wpAny_Call_Name_kw (cH I hgs hms hbs ?_)
 rw [hs2]
 refine Calls.callWith_builtin (by show (false || (backTo pos1 (starEach ([]:List Expr) X.env)).any (·.1))=false;rfl) (Calls.evalArgs_plain ?_)
 show wpAny _ _ (spliced ((false,eval (Expr.Call (.Name "set" p2) [e] [] pos2) X.env) :: backTo pos1 (starEach [] X.env))) _ _ s
 refine Calls.spliced_cons ?_
 have hA:=(d6 he gS hs) pos2 pins s σ H (fun vs H1=>∃ x,vs=[x]∧∃ (a:Addr) (ns:List Int),x=.ref a∧SqI H1 a ns∧ns.length≤300∧(a4 ns).length < 64∧∀ l:Addr,H1 l=none→Q (.ref l) (upd H1 l (.lst ((a4 ns).map V.int)))) I (by
  refine cast (congrArg (te σ H) ?_) h
  funext y H2
  refine propext ⟨fun q=>⟨y,rfl,q⟩,fun ⟨y',e',q⟩=>?_⟩
  cases e'
  exact q)
 refine Call_ (cH I hgt hmt hbt (PyProof.Rows.callWith_type1 (thn hA fun us s1 ⟨vs,H1,I1,r1,x,e1,a,ns,e2,hx,hn,hb,q⟩=>?_) hs rfl))
 subst e1 e2
 obtain ⟨u,rfl,rx⟩:=vals1 r1
 cases rx
 obtain ⟨its,k,hI,pl⟩:=hx.at I1
 have hA0:X.A.handled=none:=I.ok.hd hc
 refine ny hA0 k pl (by simpa using hI) hn fun h' tk ks S1 S2 S3=>?_
 refine wpAny_pure ?_
 have hnd:ks.Nodup:=by obtain ⟨_,_,_,_,_,_,_,_,_,_,_,_,_,_,_,_,g,_⟩:=S1;exact g
 have lk:=mC hnd S2
 refine s_ hA0 S1 (by omega) fun h2 tk2 out ms l c k1 k2 k3 k4 k5 k6 k7=>?_
 have em:ms=a4 ns:=lC (fun x=>by rw [k6,S2]) k5
 subst em
 refine ⟨.ref l,_,I1.laid (t':=tk2) (o:=.lst ((a4 ns).map V.int)) (fun b o e=>k1 b o (S3 b o e)) (Nat.le_of_lt k2) ⟨?_,out.toList,c,fA k4,?_⟩,rfl,q l (I1.hok.fresh (Nat.le_of_lt k2))⟩
 ·rw [List.length_map]
  exact Nat.le_of_lt (d4 (by omega))
 ·simpa [seqObj] using k3
theorem A_ {e:Expr} {te:TE} {p1 p2 pos1 pos2:Pos} (hc:X.calm=true) (hgs:Gl X "len") (hms:X.mg "len"=none) (hgt:Gl X "set") (hmt:X.mg "set"=none) (hbs:bootBuiltins "len"=some (.builtin "len")) (hbt:bootBuiltins "set"=some (.type "set")) (he:PE X e te)
  (hs:starEach [e] X.env=(false,eval e X.env) :: starEach [] X.env:=by rfl)
  (hs2:starEach [Expr.Call (.Name "set" p2) [e] [] pos2] X.env=(false,eval (Expr.Call (.Name "set" p2) [e] [] pos2) X.env) :: starEach [] X.env:=by rfl) :
  PE X (.Call (.Name "len" p1) [.Call (.Name "set" p2) [e] [] pos2] [] pos1) (EL te):=by
 intro pins s σ H Q I h
 refine wpAny_Call_Name_kw (cH I hgs hms hbs ?_)
 rw [hs2]
 refine Calls.callWith_builtin (by show (false || (backTo pos1 (starEach ([]:List Expr) X.env)).any (·.1))=false;rfl) (Calls.evalArgs_plain ?_)
 show wpAny _ _ (spliced ((false,eval (Expr.Call (.Name "set" p2) [e] [] pos2) X.env) :: backTo pos1 (starEach [] X.env))) _ _ s
 refine Calls.spliced_cons ?_
 have hA:=(d6 he gS hs) pos2 pins s σ H (fun vs H1=>∃ x,vs=[x]∧∃ (a:Addr) (ns:List Int),x=.ref a∧SqI H1 a ns∧ns.length≤300∧Q (.int (a4 ns).length) H1) I (by
  refine cast (congrArg (te σ H) ?_) h
  funext y H2
  refine propext ⟨fun q=>⟨y,rfl,q⟩,fun ⟨y',e',q⟩=>?_⟩
  cases e'
  exact q)
 refine Call_ (cH I hgt hmt hbt (PyProof.Rows.callWith_type1 (thn hA fun us s1 ⟨vs,H1,I1,r1,x,e1,a,ns,e2,hx,hn,q⟩=>?_) hs rfl))
 subst e1 e2
 obtain ⟨u,rfl,rx⟩:=vals1 r1
 cases rx
 obtain ⟨its,k,hI,pl⟩:=hx.at I1
 have hA0:X.A.handled=none:=I.ok.hd hc
 refine ny hA0 k pl (by simpa using hI) hn fun h' tk ks S1 S2 S3=>?_
 refine wpAny_pure ?_
 obtain ⟨o,es,ep,t,pl',g1,g2,g3,g4,g5,g6,g7,g8,⟨g9,g10,g11⟩,g12,g13,g14,g15⟩:=S1
 have lks:es.size=ks.length:=by
  have:=cA g12
  rw [List.length_map,Array.length_toList] at this
  exact this
 refine call_len_set (s:=⟨h',s1.gens,s1.drawn,tk,s1.os⟩) g1 g2 g3 (fits_of g5 (by rw [g8,lks];simpa using g10) (by omega)) (by omega) ?_
 rw [lks,mC g14 S2]
 exact ⟨.int _,H1,I1.kept (t':=tk+1+1) S3,⟨_,rfl⟩,q⟩
def oSS (x:Vl) (S:Sto):R Vl:=match (bM x S).bind intsOf with
 | some ns=>if ns.length≤300∧(a4 ns).length < 64 then .ok (.d (.lst ((a4 ns).map D.int))) S else .bad
 | none=>.bad
def oLS (x:Vl) (S:Sto):R Vl:=match (bM x S).bind intsOf with
 | some ns=>if ns.length≤300 then .ok (.d (.int (a4 ns).length)) S else .bad
 | none=>.bad
theorem uN {K:PySem.W.Frag} {mg:Str→Option Value} {μ:Nat→Addr} {S:Sto} {H:Hp} {v:V} {x:Vl} {ns:List Int} (hr:HR μ S H) (r:aO K mg μ S H v x) (e:(bM x S).bind intsOf=some ns):∃ a,v=.ref a∧SqI H a ns:=by
 obtain ⟨ds,e1,e2⟩:=Option.bind_eq_some_iff.mp e
 obtain ⟨a,us,rfl,ha,rr⟩:=gz hr r e1
 rw [hW e2] at rr
 rw [av.kI rr] at ha
 exact ⟨a,rfl,ha⟩
theorem xm {e:Expr} {xa:XE} {p1 p2 pos1 pos2:Pos} [n:NS e] (hc:X.calm=true) (hgs:Gl X "sorted") (hms:X.mg "sorted"=none) (hgt:Gl X "set") (hmt:X.mg "set"=none) (hbs:bootBuiltins "sorted"=some (.builtin "sorted")) (hbt:bootBuiltins "set"=some (.type "set")) (he:RE X WE e xa)
  (hs2:starEach [Expr.Call (.Name "set" p2) [e] [] pos2] X.env=(false,eval (Expr.Call (.Name "set" p2) [e] [] pos2) X.env) :: starEach [] X.env:=by rfl) :
  RE X WE (.Call (.Name "sorted" p1) [.Call (.Name "set" p2) [e] [] pos2] [] pos1) (xUn oSS xa):=
 ⟨(BV hc hgs hms hgt hmt hbs hbt he.h (n.eq _ X.env) hs2).weak fun σ H Q ⟨μ,S,τ,hr,sr,p⟩=>⟨μ,S,τ,hr,sr,p.bind fun v x S1 μ1 H1 st1 r1 p1=>by
  unfold oSS at p1
  split at p1
  ·rename_i ns e1
   split at p1
   ·rename_i hb
    obtain ⟨a,rfl,sq⟩:=uN st1.hr r1 e1
    exact ⟨a,ns,rfl,sq,hb.1,hb.2,fun l hl=>p1.jr st1.hr (av.ints _) l hl⟩
   ·exact p1.elim
  ·exact p1.elim⟩⟩
theorem Cp {e:Expr} {xa:XE} {p1 p2 pos1 pos2:Pos} [n:NS e] (hc:X.calm=true) (hgs:Gl X "len") (hms:X.mg "len"=none) (hgt:Gl X "set") (hmt:X.mg "set"=none) (hbs:bootBuiltins "len"=some (.builtin "len")) (hbt:bootBuiltins "set"=some (.type "set")) (he:RE X WE e xa)
  (hs2:starEach [Expr.Call (.Name "set" p2) [e] [] pos2] X.env=(false,eval (Expr.Call (.Name "set" p2) [e] [] pos2) X.env) :: starEach [] X.env:=by rfl) :
  RE X WE (.Call (.Name "len" p1) [.Call (.Name "set" p2) [e] [] pos2] [] pos1) (xUn oLS xa):=
 ⟨(A_ hc hgs hms hgt hmt hbs hbt he.h (n.eq _ X.env) hs2).weak fun σ H Q ⟨μ,S,τ,hr,sr,p⟩=>⟨μ,S,τ,hr,sr,p.bind fun v x S1 μ1 H1 st1 r1 p1=>by
  unfold oLS at p1
  split at p1
  ·rename_i ns e1
   split at p1
   ·obtain ⟨a,rfl,sq⟩:=uN st1.hr r1 e1
    exact ⟨a,ns,rfl,sq,‹_›,p1.here st1.hr (Rep.int _)⟩
   ·exact p1.elim
  ·exact p1.elim⟩⟩
end
def c8 (k:Nat):List D→List Vl
 | []=>[]
 | x :: xs=>.d (.tup [.int k,x]) :: c8 (k+1) xs
theorem j3:∀ (k:Nat) (xs:List D),(c8 k xs).length=xs.length
 | _,[]=>rfl
 | k,x :: xs=>by simp [c8,j3 (k+1) xs]
theorem h_:∀ (k:Nat) (xs:List D) (i:Nat),(c8 k xs)[i]?=(xs[i]?).map fun x=>Vl.d (.tup [.int ((k+i:Nat):Int),x])
 | _,[],_=>by simp [c8]
 | k,x :: xs,0=>by simp [c8]
 | k,x :: xs,i+1=>by
  simp only [c8,List.getElem?_cons_succ,h_ (k+1) xs i]
  congr 1
  funext z
  rw [show k+1+i=k+(i+1) by omega]
def wR (e:XE):XI:=fun τ S=>(e τ S).bind fun z S1=>match z with
 | .d (.lst xs)=>.ok ⟨c8 0 xs,none⟩ S1
 | _=>.bad
section
variable {X:Cx} {WE:WX} {K:PySem.W.Frag} {mg:Str→Option Value} {μ:Nat→Addr} {S:Sto} {H:Hp}
theorem wy {a:Addr} {vs:List V} {xs:List D} (g:vh μ S H a=some (.lst vs)) (rs:av (vh μ S H) vs xs) (hz:vs.length≤sizeLine):kc K mg μ S H (Ite K a) ⟨c8 0 xs,none⟩ where
 ok:=True.intro
 len:=by simp only [j3];rw [← rs.length];exact hz
 go:=fun i z μ' S' H' st _ e=>by
  rw [h_] at e
  cases q:xs[i]? with
  | none=>rw [q] at e;cases e
  | some x=>
   obtain ⟨u,e2,_⟩:=rs.get' q
   exact ⟨vs,u,SqL.of (bf (st.vis _ _ g)).2,e2⟩
 yld:=fun i z μ' S' H' u H2 st _ e y=>by
  obtain ⟨p,w,hp,rfl,rfl,y⟩:=y
  rw [h_] at e
  cases q:xs[i]? with
  | none=>rw [q] at e;cases e
  | some x=>
   rw [q] at e
   cases e
   have e2:=y vs (SqL.of (bf (st.vis _ _ g)).2)
   obtain ⟨x',e3,r⟩:=rs.get e2
   rw [q] at e3;cases e3
   have st2:=Step.new st.hr hp (.tup [.int i,w])
   refine ⟨st2,Rep.tup (bR cj (st.hr.nal hp)) (.cons ?_ (.cons (Rep.mono (st.trans st2).vis r) .nil))⟩
   rw [Nat.zero_add]
   exact .int _
 stop:=fun i μ' S' H' st _ hi=>⟨vs,SqL.of (bf (st.vis _ _ g)).2,by rw [rs.length];rw [j3] at hi;exact Nat.le_of_eq hi⟩
end
section
variable {X:Cx} {WE:WX}
theorem vQ {es:List Expr} {kk:Nat} {tp:Pos} {l:Expr} {xl:XE} {p pos:Pos} (hg:Gl X "enumerate") (hm:X.mg "enumerate"=none) (hl:RE X WE l xl) (hb:bootBuiltins "enumerate"=some (.type "enumerate"):=by decide +kernel)
  (hs:starEach [l] X.env=[(false,eval l X.env)]:=by rfl):RI X WE (.Tuple es kk tp) (.Call (.Name "enumerate" p) [l] [] pos) (wR xl):=⟨by
 intro pins s σ H R I h
 obtain ⟨μ,S,τ,hr,sr,pp⟩:=h
 refine Call_ (cH I hg hm hb (PyProof.Rows.callWith_type1 (thn ((d6 hl.h gS hs) pos pins s σ H (fun vs H1=>∃ x,vs=[x]∧∃ μ1 S1 z,HR μ1 S1 H1∧aO X.K X.mg μ1 S1 H1 x z∧aQ (kc X.K X.mg) WE μ1 S1 H1 (match z with
   | .d (.lst xs)=>.ok ⟨c8 0 xs,none⟩ S1
   | _=>.bad) R) I ?_) fun us s1 ⟨vs,H1,I1,r1,q1⟩=>?_) hs rfl))
 ·exact ⟨μ,S,τ,hr,sr,pp.bind fun v x S1 μ1 H1 st1 r1 p1=>⟨v,rfl,μ1,S1,x,st1.hr,r1,p1⟩⟩
 ·obtain ⟨x,e,μ1,S1,z,hr1,rz,p1⟩:=q1
  subst e
  obtain ⟨u,rfl,ru⟩:=vals1 r1
  split at p1
  ·cases (show Rep (vh μ1 S1 H1) x (.lst _) from rz) with
   | @lst a us _ g rs=>
    cases ru
    have hq:SqL X.K H1 a us:=SqL.of (bf g).2
    obtain ⟨its,rv,pl,hz⟩:=I1.list hq
    have q:=p1.here hr1 (wy g rs hz)
    refine call_enumerate_list pl.isList fun h' he hit hsz hk=>?_
    refine wpAny_pyIter_enum (s:={ s1 with heap:=h' }) he ?_
    have I2:Inv X pins σ H1 { s1 with heap:=h' }:=I1.kept (t':=s1.toks) hk
    refine ⟨s1.heap.objs.size+1,[s1.heap.objs.size+1,s1.heap.objs.size],_,_,H1,rfl,I2,uK a _ _ (Nat.succ_ne_self _),⟨⟨_,he⟩,hit⟩,fun b hb=>?_,q⟩
    have hle:s1.heap.objs.size≤b:=by
     rcases List.mem_cons.mp hb with z | z
     ·rw [z];exact Nat.le_succ _
     ·rw [List.mem_singleton.mp z];exact Nat.le_refl _
    exact I1.lM hle (I1.hok.fresh hle)
  ·exact p1.elim⟩
def oO (x:Vl) (lo hi:Option Int) (S:Sto):R Vl:=match x with
 | .sc ns=>.ok (.d (.lst (cZ (ns.map D.int) lo hi))) S
 | _=>.bad
theorem ui {e:Expr} {lo hi:Option Expr} {xa:XE} {xl xh:XO} {p2 pos:Pos} (he:RE X WE e xa) (hl:RO X WE lo xl) (hh:RO X WE hi xh):RE X WE (.Subscript e (.Slice lo hi none p2) pos) (xSl oO xa xl xh):=
 ⟨(p7 rm he.h hl.h hh.h).weak fun σ H Q ⟨μ,S,τ,hr,sr,p⟩=>⟨μ,S,τ,hr,sr,p.bind fun v x S1 μ1 H1 st1 r1 p1=>⟨μ1,S1,τ,st1.hr,sr.step st1,p1.bind fun i i' S2 μ2 H2 st2 r2 p2=>⟨μ2,S2,τ,st2.hr,sr.step (st1.trans st2),p2.bind fun j j' S3 μ3 H3 st3 r3 p3=>by
  cases (show i=i' from r2)
  cases (show j=j' from r3)
  have rv:=r1.step (st2.trans st3)
  unfold oO at p3
  split at p3
  ·rename_i ns
   obtain ⟨l,rfl,hq⟩:=rv
   exact ⟨l,_,rfl,hq.mono ff,fun q hq=>p3.jr st3.hr (lr (av.ints ns) i j) q hq⟩
  ·exact p3.elim⟩⟩⟩⟩
theorem dQ {sts:List Stmt}:RB X WE sts cY:=⟨fun _ _ _ _ _ _ ⟨_,_,_,_,_,p⟩=>p.elim⟩
end
def Df (K:PySem.W.Frag) (mg:Str→Option Value) (x:Str) (st:Stmt):Prop:=∃ (f:Addr) (fd:FuncData),Fun K x x st f fd∧mg x=some (.ref f)
theorem CT {K:PySem.W.Frag} {h:Heap} {mg:Str→Option Value} {x:Str} {st:Stmt} {f:Addr} {oc:Value} {od an:Option Addr} {osl:Array (Option Value)} {kV doc pm cdv ct:Value} (X:K.In h) (G:h.Ns mainGlobals mg) (a:PySem.W.nsIn K mainGlobals x=some (some (.ref f)))
  (l:K.lookup f=some ⟨oc,od,.func (PySem.W.fnOf x x (iP st) (d5 st) (bI st) .none kV doc pm an cdv ct),osl⟩) (c:PySem.W.codeIn K cdv x=true) (k:PySem.W.keepIn K (.ref f)=true):Df K mg x st:=⟨f,_,z_ l c k,PySem.W.mg_of X G a⟩
theorem a6 {K:PySem.W.Frag} {mg:Str→Option Value} {P:Program} {w:World} {x:Str} {st:Stmt} {ps:List Str} {lev:Nat} {k n:Nat} {m:XS} {M:XF} (N:List Str) (F:Df K mg x st)
    (hb:∀ (base:Heap) (f:Addr) (cdv:Value) (A:Around) (outer:List Env) (s:Shared) (H:Hp) (E:XK),cD lev (A.deeper (envOfC x (bI st) s.heap.objs.size f cdv))→LQ (bI st) N→RB (ku CX0 P w K mg base N x (bI st) f cdv A outer s H E).nox W0 (d5 st) m)
    (hM:M=aP k n m:=by rfl) (hk:ps.length=k:=by rfl) (hn:N.length=n:=by rfl) (Sc:iI N ps (bI st):=by exact ⟨rfl,rfl,rfl,by decide +kernel,rfl,by decide +kernel,by decide +kernel⟩)
    (hbd:∀ (kV doc pm:Value) (an:Option Addr) (cdv ct:Value) (us:List Value),us.length=ps.length→bindArgs (PySem.W.fnOf x x (iP st) (d5 st) (bI st) .none kV doc pm an cdv ct) ⟨us,[]⟩=pure (ps.zip us):=by
      intro _ _ _ _ _ _ us hl
      rcases us with _ | ⟨a,_ | ⟨b,_ | ⟨c,_ | ⟨d,_ | ⟨e,_ | ⟨f,us⟩⟩⟩⟩⟩⟩<;>first | (simp at hl;done) | rfl):OkE P w K mg (lev+1) x ps M:=by
  subst hM hk hn
  obtain ⟨f,fd,F,hm⟩:=F
  refine ⟨f,fd,hm,F.kp,?_,fun base=>EA F Sc fun cdv A outer s H E hr=>hb base f cdv A outer s H E hr ⟨Sc.nd⟩⟩
  obtain ⟨oc,od,kV,doc,pm,an,cdv,ct,osl,rfl,lk,hcd⟩:=F.ex
  exact hbd kV doc pm an cdv ct
theorem bo {α β:Type} {a:α} {S:Sto} {f:α→Sto→R β}:(R.ok a S).bind f=f a S:=rfl
theorem DJ {i:Nat} {z:Vl} {τ:Nv} {S:Sto}:gNm i z τ S=.ok (τ.set i (some z)) S:=rfl
theorem iX {S S':Sto} {z:Vl} {τ:Nv}:leave S (.ok (.rt z,τ) S')=out S z S':=rfl
theorem iY {S S':Sto} {τ:Nv}:leave S (.ok (.nx,τ) S')=out S (.d .non) S':=rfl
theorem gp {S S':Sto} {x:D}:out S (.d x) S'=.ok (.d x) (S'.take S.length):=rfl
theorem ou {k n:Nat} {b:XS} {us:List Vl} {S:Sto} (h:us.length=k):aP k n b us S=leave S (b (us.map some++List.replicate (n - k) none) S):=by unfold aP;rw [if_pos h]
open Classical in
theorem pK {g:XG} {b:XS} {gd:Option (Nat×Ob)}:∀ {items:List Vl} {τ:Nv} {S:Sto} (I:Nat→Nv→Sto→Prop),I 0 τ S →
  (∀ i z τ S,items[i]?=some z→I i τ S→∃ τ1 S1 fl τ2 S2,g z τ S=.ok τ1 S1∧b τ1 S1=.ok (fl,τ2) S2∧(fl=.nx∨fl=.ct)∧gok gd S2∧I (i+1) τ2 S2) →
  ∃ τ' S',eH g b gd items τ S=.ok (.nx,τ') S'∧I items.length τ' S'
 | [],τ,S,I,h0,_=>⟨τ,S,rfl,h0⟩
 | z :: zs,τ,S,I,h0,hs=>by
  obtain ⟨τ1,S1,fl,τ2,S2,e1,e2,hf,hg,hI⟩:=hs 0 z τ S rfl h0
  obtain ⟨τ',S',e3,h3⟩:=pK (items:=zs) (τ:=τ2) (S:=S2) (fun i=>I (i+1)) hI fun i z' τ S hz hi=>hs (i+1) z' τ S (by simpa using hz) hi
  refine ⟨τ',S',?_,h3⟩
  rw [eH,e1,bo,e2,bo]
  rcases hf with rfl | rfl
  ·dsimp only
   rw [if_pos hg];exact e3
  ·dsimp only
   rw [if_pos hg];exact e3
theorem uM {it:XI} {t:XT} {e:XE} {τ:Nv} {S S1:Sto} {items:List Vl} (hit:it τ S=.ok ⟨items,none⟩ S1) (J:Nat→List D→Sto→Prop) (h0:J 0 [] S1)
  (hs:∀ i z acc Q,items[i]?=some z→J i acc Q→Q.length=S1.length→∃ b Q1,t (some z :: τ) (Q++[.lst acc])=.ok b (Q1++[.lst acc])∧Q1.length=S1.length ∧
   (b=true→∃ x Q2,e (some z :: τ) (Q1++[.lst acc])=.ok (.d x) (Q2++[.lst acc])∧Q2.length=S1.length∧J (i+1) (acc++[x]) Q2)∧(b=false→J (i+1) acc Q1)) :
  ∃ acc Q,xLC it 1 (gNm 0) t e τ S=.ok (.d (.lst acc)) Q∧Q.length=S1.length∧J items.length acc Q:=by
 have key:∀ (zs:List Vl) (i:Nat) (acc:List D) (o:Option Vl) (Q:Sto),(∀ j,zs[j]?=items[i+j]?)→J i acc Q→Q.length=S1.length→∃ acc' Q',c6 (gNm 0) t e S1.length none zs acc (o :: τ) (Q++[.lst acc])=.ok acc' (Q'++[.lst acc'])∧Q'.length=S1.length∧J (i+zs.length) acc' Q':=by
  intro zs
  induction zs with
  | nil=>
   intro i acc o Q _ hJ hl
   refine ⟨acc,Q,?_,hl,hJ⟩
   rw [c6,if_pos]
   rw [← hl,List.getElem?_append_right (Nat.le_refl _)]
   simp
  | cons z zs ih=>
   intro i acc o Q hz hJ hl
   have hz0:items[i]?=some z:=by
    have:=hz 0
    simpa using this.symm
   have hz1:∀ j,zs[j]?=items[i+1+j]?:=fun j=>by
    have:=hz (j+1)
    rw [show i+1+j=i+(j+1) by omega]
    simpa using this
   obtain ⟨b,Q1,e1,l1,ht,hf⟩:=hs i z acc Q hz0 hJ hl
   rw [c6,DJ,bo,show (o :: τ).set 0 (some z)=some z :: τ from rfl,e1,bo]
   cases b with
   | true=>
    obtain ⟨x,Q2,e2,l2,hJ2⟩:=ht rfl
    rw [if_pos rfl,e2,bo]
    dsimp only
    have hn:(Q2++[Ob.lst acc])[S1.length]?=some (.lst acc):=by
     rw [← l2,List.getElem?_append_right (Nat.le_refl _)];simp
    rw [if_pos ⟨hn,True.intro⟩]
    have hset:(Q2++[Ob.lst acc]).set S1.length (.lst (acc++[x]))=Q2++[.lst (acc++[x])]:=by
     rw [← l2,List.set_append_right _ _ (Nat.le_refl _)];simp
    rw [hset]
    obtain ⟨acc',Q',e3,l3,h3⟩:=ih (i+1) (acc++[x]) (some z) Q2 hz1 hJ2 l2
    exact ⟨acc',Q',e3,l3,by rw [show i+(z :: zs).length=i+1+zs.length by simp;omega];exact h3⟩
   | false=>
    rw [if_neg Bool.false_ne_true,if_pos (show gok none (Q1++[Ob.lst acc]) from True.intro)]
    obtain ⟨acc',Q',e3,l3,h3⟩:=ih (i+1) acc (some z) Q1 hz1 (hf rfl) l1
    exact ⟨acc',Q',e3,l3,by rw [show i+(z :: zs).length=i+1+zs.length by simp;omega];exact h3⟩
 obtain ⟨acc,Q,e1,l1,h1⟩:=key items 0 [] none S1 (fun j=>by rw [Nat.zero_add]) h0 rfl
 refine ⟨acc,Q,?_,l1,by rw [Nat.zero_add] at h1;exact h1⟩
 show (it τ S).bind _=_
 rw [hit,bo]
 dsimp only
 rw [show List.replicate 1 (none:Option Vl)++τ=none :: τ from rfl,e1,bo]
 unfold kJ
 rw [if_pos (by simp [l1]),← l1,List.take_left]
theorem yp {it:XI} {t:XT} {e:XE} {τ:Nv} {S S1:Sto} {items:List Vl} (hit:it τ S=.ok ⟨items,none⟩ S1) (f:Vl→Option D)
  (hs:∀ z∈items,∀ S:Sto,(∀ x,f z=some x→t (some z :: τ) S=.ok true S∧e (some z :: τ) S=.ok (.d x) S)∧(f z=none→t (some z :: τ) S=.ok false S)) :
  xLC it 1 (gNm 0) t e τ S=.ok (.d (.lst (items.filterMap f))) S1:=by
 obtain ⟨acc,Q,e1,l1,h1⟩:=uM (t:=t) (e:=e) hit (fun i acc Q=>acc=(items.take i).filterMap f∧Q=S1) ⟨rfl,rfl⟩ (by
  rintro i z acc Q hz ⟨rfl,rfl⟩ _
  have hm:=List.mem_of_getElem? hz
  have ht:items.take (i+1)=items.take i++[z]:=by rw [List.take_add_one,hz];rfl
  obtain ⟨h1,h2⟩:=hs z hm (Q++[.lst ((items.take i).filterMap f)])
  cases q:f z with
  | some x=>
   obtain ⟨h3,h4⟩:=h1 x q
   refine ⟨true,Q,h3,rfl,fun _=>⟨x,Q,h4,rfl,?_,rfl⟩,fun z=>(by cases z)⟩
   rw [ht,List.filterMap_append]
   simp [q]
  | none=>
   refine ⟨false,Q,h2 q,rfl,fun z=>(by cases z),fun _=>⟨?_,rfl⟩⟩
   rw [ht,List.filterMap_append]
   simp [q])
 obtain ⟨rfl,rfl⟩:=h1
 rw [List.take_length] at e1
 exact e1
theorem lS {it:XI} {e:XE} {τ:Nv} {S S1:Sto} {items:List Vl} (hit:it τ S=.ok ⟨items,none⟩ S1) (f:Vl→D) (hs:∀ z∈items,∀ S:Sto,e (some z :: τ) S=.ok (.d (f z)) S) :
  xLC it 1 (gNm 0) (fun _ S=>.ok true S) e τ S=.ok (.d (.lst (items.map f))) S1:=by
 have:=yp (t:=fun _ S=>.ok true S) (e:=e) hit (fun z=>some (f z)) fun z hz S=>⟨fun x hx=>⟨rfl,by cases hx;exact hs z hz S⟩,fun h=>by cases h⟩
 rw [this]
 congr 4
 rw [List.filterMap_eq_map']
end L2
namespace L2
section
variable {n:Nat} {b:XS} {x y z u v:Vl} {S:Sto}
theorem bG:aP 1 n b [x] S=leave S (b ([some x]++List.replicate (n - 1) none) S):=ou rfl
theorem cy:aP 2 n b [x,y] S=leave S (b ([some x,some y]++List.replicate (n - 2) none) S):=ou rfl
theorem cF:aP 3 n b [x,y,z] S=leave S (b ([some x,some y,some z]++List.replicate (n - 3) none) S):=ou rfl
theorem uO:aP 4 n b [x,y,z,u] S=leave S (b ([some x,some y,some z,some u]++List.replicate (n - 4) none) S):=ou rfl
end
end L2
theorem L2.ai {α:Sort _} {a b:α} (h:a=b):a=b:=h
namespace L2
open PySem PySem.Spec PyProof.Rows
def B4 (f:Vl→Vl→Sto→R Vl) (r:R Vl) (b:XE) (τ:Nv):R Vl:=r.bind fun x S1=>(b τ S1).bind fun y S2=>f x y S2
def vA (f:Vl→Vl→Sto→R Vl) (x:Vl) (r:R Vl):R Vl:=r.bind fun y S2=>f x y S2
def un1 (f:Vl→Sto→R Vl) (r:R Vl):R Vl:=r.bind fun x S1=>f x S1
def ch3 (r:R Vl) (f:Vl→Vl→Sto→R Vl) (y:Vl) (c:XE) (τ:Nv):R Vl:=r.bind fun z S3=>match z with
 | .d (.bl k)=>if k=true then (c τ S3).bind fun w S4=>f y w S4 else .ok (.d (.bl false)) S3
 | _=>.bad
def ch2 (f f2:Vl→Vl→Sto→R Vl) (x:Vl) (r:R Vl) (c:XE) (τ:Nv):R Vl:=r.bind fun y S2=>ch3 (f x y S2) f2 y c τ
def ch1 (f f2:Vl→Vl→Sto→R Vl) (r:R Vl) (b c:XE) (τ:Nv):R Vl:=r.bind fun x S1=>ch2 f f2 x (b τ S1) c τ
def t1 (r:R Vl):R Bool:=r.bind asB
def tr1 (r:R Vl):R Bool:=r.bind tru
def vF (r:R Bool) (b:XT) (τ:Nv):R Bool:=r.bind fun c S1=>if c=true then b τ S1 else .ok false S1
def or1 (r:R Bool) (b:XT) (τ:Nv):R Bool:=r.bind fun c S1=>if c=true then .ok true S1 else b τ S1
def zH (r:R Bool):R Bool:=r.bind fun c S1=>.ok (!c) S1
def rV (r:R Vl) (b:XE) (τ:Nv):R Vl:=r.bind fun x S1=>(asB x S1).bind fun c S2=>if c=true then b τ S2 else .ok (.d (.bl false)) S2
def w4 (r:R Vl) (b:XE) (τ:Nv):R Vl:=r.bind fun x S1=>(asB x S1).bind fun c S2=>if c=true then .ok (.d (.bl true)) S2 else b τ S2
def xv (r:R Vl):R Vl:=r.bind fun x S1=>(asB x S1).bind fun c S2=>.ok (.d (.bl (!c))) S2
def vX (r:R Bool) (a b:XE) (τ:Nv):R Vl:=r.bind fun k S1=>if k=true then a τ S1 else b τ S1
def co2 (x:Vl) (r:R (List Vl)):R (List Vl):=r.bind fun xs S2=>.ok (x :: xs) S2
def co1 (r:R Vl) (t:XA) (τ:Nv):R (List Vl):=r.bind fun x S1=>co2 x (t τ S1)
def n1 (f:List Vl→Sto→R Vl) (r:R (List Vl)):R Vl:=r.bind f
def c1 (F:XF) (r:R (List Vl)):R Vl:=r.bind fun us S1=>noX (F us S1)
def fz1 (r:R Vl):R Vl:=r.bind frz
def p1 (r:R Vl):R (Option Int):=r.bind fun x S1=>match x with
 | .d (.int i)=>.ok (some i) S1
 | _=>.bad
def sl3 (f:Vl→Option Int→Option Int→Sto→R Vl) (x:Vl) (i:Option Int) (r:R (Option Int)):R Vl:=r.bind fun j S3=>f x i j S3
def sl2 (f:Vl→Option Int→Option Int→Sto→R Vl) (x:Vl) (r:R (Option Int)) (h:XO) (τ:Nv):R Vl:=r.bind fun i S2=>sl3 f x i (h τ S2)
def sl1 (f:Vl→Option Int→Option Int→Sto→R Vl) (r:R Vl) (l h:XO) (τ:Nv):R Vl:=r.bind fun x S1=>sl2 f x (l τ S1) h τ
def lm4 (f:Nat→List D→D→Sto→R Vl) (n:Nat) (o:Option Ob) (z:D) (S:Sto):R Vl:=match o with
 | some (.lst xs)=>f n xs z S
 | _=>.bad
def lm3 (f:Nat→List D→D→Sto→R Vl) (n:Nat) (r:R Vl):R Vl:=r.bind fun y S2=>match y with
 | .d z=>lm4 f n S2[n]? z S2
 | _=>.bad
def lm2 (f:Nat→List D→D→Sto→R Vl) (n:Nat) (o:Option Ob) (e:XE) (τ:Nv) (S:Sto):R Vl:=match o with
 | some (.lst _)=>lm3 f n (e τ S)
 | _=>.bad
def lm1 (f:Nat→List D→D→Sto→R Vl) (r:R Vl) (e:XE) (τ:Nv):R Vl:=r.bind fun x S1=>match x with
 | .r n=>lm2 f n S1[n]? e τ S1
 | _=>.bad
def sq1 (r:R (Fl×Nv)) (b:XS):R (Fl×Nv):=r.bind fun q S1=>match q.1 with
 | .nx=>b q.2 S1
 | _=>.ok q S1
def ex1 (r:R Vl) (τ:Nv):R (Fl×Nv):=r.bind fun _ S1=>.ok (.nx,τ) S1
def rt1 (r:R Vl) (τ:Nv):R (Fl×Nv):=r.bind fun z S1=>.ok (.rt z,τ) S1
def if1 (r:R Bool) (a b:XS) (τ:Nv):R (Fl×Nv):=r.bind fun k S1=>if k=true then a τ S1 else b τ S1
def as2 (r:R Nv):R (Fl×Nv):=r.bind fun τ1 S2=>.ok (.nx,τ1) S2
def as1 (r:R Vl) (g:XG) (τ:Nv):R (Fl×Nv):=r.bind fun z S1=>as2 (g z τ S1)
def gc1 (r:R Nv) (gs:XGs) (zs:List Vl):R Nv:=r.bind fun τ1 S1=>gs zs τ1 S1
def gs3 (r:R Unit) (τ:Nv):R Nv:=r.bind fun _ S3=>.ok τ S3
def gs2 (x:Vl) (r:R Vl) (f:Vl→Vl→Vl→Sto→R Unit) (z:Vl) (τ:Nv):R Nv:=r.bind fun y S2=>gs3 (f x y z S2) τ
def gs1 (r:R Vl) (i:XE) (f:Vl→Vl→Vl→Sto→R Unit) (z:Vl) (τ:Nv):R Nv:=r.bind fun x S1=>gs2 x (i τ S1) f z τ
noncomputable def fo1 (r:R Its) (g:XG) (b:XS) (τ:Nv):R (Fl×Nv):=r.bind fun I S1=>eH g b I.gd I.items τ S1
def is2 (n:Nat) (o:Option Ob) (S:Sto):R Its:=match o with
 | some (.lst xs)=>.ok ⟨xs.map Vl.d,some (n,.lst xs)⟩ S
 | _=>.bad
def is1 (r:R Vl):R Its:=r.bind fun z S1=>match z with
 | .d (.tup xs)=>.ok ⟨xs.map Vl.d,none⟩ S1
 | .d (.lst xs)=>.ok ⟨xs.map Vl.d,none⟩ S1
 | .r n=>is2 n S1[n]? S1
 | _=>.bad
def ir1 (r:R (List Vl)):R Its:=r.bind fun zs S1=>match zs with
 | [.d (.int j)]=>if -100000≤j∧j≤100000 then .ok ⟨(List.range j.toNat).map fun i=>Vl.d (.int (i:Nat)),none⟩ S1 else .bad
 | _=>.bad
def ir2 (r:R (List Vl)):R Its:=r.bind fun zs S1=>match zs with
 | [.d (.int i),.d (.int j)]=>if (-100000≤i∧i≤100000)∧-100000≤j∧j≤100000 then .ok ⟨(List.range (j - i).toNat).map fun k=>Vl.d (.int (i+(k:Nat))),none⟩ S1 else .bad
 | _=>.bad
def ie1 (r:R Vl):R Its:=r.bind fun z S1=>match z with
 | .d (.lst xs)=>.ok ⟨c8 0 xs,none⟩ S1
 | _=>.bad
theorem xF {v:Vl} {τ:Nv} {S:Sto}:aa 0 (some v :: τ) S=.ok v S:=ai rfl
theorem xY {n:Nat} {o:Option Vl} {τ:Nv} {S:Sto}:aa (n+1) (o :: τ) S=aa n τ S:=ai rfl
theorem AW {x:D} {τ:Nv} {S:Sto}:xC x τ S=.ok (.d x) S:=ai rfl
theorem Cv {x:Str} {τ:Nv} {S:Sto}:xFn x τ S=.ok (.fn x) S:=ai rfl
theorem DK {f:Vl→Vl→Sto→R Vl} {a b:XE} {τ:Nv} {S:Sto}:xOp f a b τ S=B4 f (a τ S) b τ:=ai rfl
theorem zG {f:Vl→Vl→Sto→R Vl} {b:XE} {τ:Nv} {S1:Sto} {x:Vl}:B4 f (.ok x S1) b τ=vA f x (b τ S1):=ai rfl
theorem B8 {f:Vl→Vl→Sto→R Vl} {S1:Sto} {x y:Vl}:vA f x (.ok y S1)=f x y S1:=ai rfl
theorem CG {u:Vl→Sto→R Vl} {a:XE} {τ:Nv} {S:Sto}:xUn u a τ S=un1 u (a τ S):=ai rfl
theorem Cs {u:Vl→Sto→R Vl} {S1:Sto} {x:Vl}:un1 u (.ok x S1)=u x S1:=ai rfl
theorem wA {f f2:Vl→Vl→Sto→R Vl} {a b c:XE} {τ:Nv} {S:Sto}:fq f f2 a b c τ S=ch1 f f2 (a τ S) b c τ:=ai rfl
theorem DX {f f2:Vl→Vl→Sto→R Vl} {b c:XE} {τ:Nv} {S1:Sto} {x:Vl}:ch1 f f2 (.ok x S1) b c τ=ch2 f f2 x (b τ S1) c τ:=ai rfl
theorem Cq {f f2:Vl→Vl→Sto→R Vl} {c:XE} {τ:Nv} {S1:Sto} {x y:Vl}:ch2 f f2 x (.ok y S1) c τ=ch3 (f x y S1) f2 y c τ:=ai rfl
theorem AX {f:Vl→Vl→Sto→R Vl} {c:XE} {τ:Nv} {S1:Sto} {y:Vl}:ch3 (.ok (.d (.bl true)) S1) f y c τ=vA f y (c τ S1):=ai rfl
theorem Bw {f:Vl→Vl→Sto→R Vl} {c:XE} {τ:Nv} {S1:Sto} {y:Vl}:ch3 (.ok (.d (.bl false)) S1) f y c τ=.ok (.d (.bl false)) S1:=ai rfl
theorem yE {a:XE} {τ:Nv} {S:Sto}:aV a τ S=t1 (a τ S):=ai rfl
theorem Eb {k:Bool} {S:Sto}:t1 (.ok (.d (.bl k)) S)=.ok k S:=ai rfl
theorem BP {a:XE} {τ:Nv} {S:Sto}:cU a τ S=tr1 (a τ S):=ai rfl
theorem DC {z:Vl} {S:Sto}:tr1 (.ok z S)=tru z S:=ai rfl
theorem DE {k:Bool} {S:Sto}:tru (.d (.bl k)) S=.ok k S:=ai rfl
theorem CD {xs:List D} {S:Sto}:tru (.d (.tup xs)) S=.ok (!xs.isEmpty) S:=ai rfl
theorem D4 {xs:List D} {S:Sto}:tru (.d (.lst xs)) S=.ok (!xs.isEmpty) S:=ai rfl
theorem Cy {S:Sto}:tru (.d .non) S=.ok false S:=ai rfl
theorem Ao {a b:XT} {τ:Nv} {S:Sto}:ET a b τ S=vF (a τ S) b τ:=ai rfl
theorem BQ {b:XT} {τ:Nv} {S:Sto}:vF (.ok true S) b τ=b τ S:=ai rfl
theorem AZ {b:XT} {τ:Nv} {S:Sto}:vF (.ok false S) b τ=.ok false S:=ai rfl
theorem Dl {a b:XT} {τ:Nv} {S:Sto}:xOr a b τ S=or1 (a τ S) b τ:=ai rfl
theorem CC {b:XT} {τ:Nv} {S:Sto}:or1 (.ok true S) b τ=.ok true S:=ai rfl
theorem Cm {b:XT} {τ:Nv} {S:Sto}:or1 (.ok false S) b τ=b τ S:=ai rfl
theorem BE {a:XT} {τ:Nv} {S:Sto}:dg a τ S=zH (a τ S):=ai rfl
theorem AQ {S:Sto} {k:Bool}:zH (.ok k S)=.ok (!k) S:=ai rfl
theorem yJ {a b:XE} {τ:Nv} {S:Sto}:bO a b τ S=rV (a τ S) b τ:=ai rfl
theorem yW {b:XE} {τ:Nv} {S:Sto}:rV (.ok (.d (.bl true)) S) b τ=b τ S:=ai rfl
theorem yF {b:XE} {τ:Nv} {S:Sto}:rV (.ok (.d (.bl false)) S) b τ=.ok (.d (.bl false)) S:=ai rfl
theorem Aj {a b:XE} {τ:Nv} {S:Sto}:En a b τ S=w4 (a τ S) b τ:=ai rfl
theorem Az {b:XE} {τ:Nv} {S:Sto}:w4 (.ok (.d (.bl true)) S) b τ=.ok (.d (.bl true)) S:=ai rfl
theorem zI {b:XE} {τ:Nv} {S:Sto}:w4 (.ok (.d (.bl false)) S) b τ=b τ S:=ai rfl
theorem ym {a:XE} {τ:Nv} {S:Sto}:ow a τ S=xv (a τ S):=ai rfl
theorem yz {k:Bool} {S:Sto}:xv (.ok (.d (.bl k)) S)=.ok (.d (.bl (!k))) S:=ai rfl
theorem zF {c:XT} {a b:XE} {τ:Nv} {S:Sto}:Ea c a b τ S=vX (c τ S) a b τ:=ai rfl
theorem A9 {a b:XE} {τ:Nv} {S:Sto}:vX (.ok true S) a b τ=a τ S:=ai rfl
theorem BD {a b:XE} {τ:Nv} {S:Sto}:vX (.ok false S) a b τ=b τ S:=ai rfl
theorem ux {τ:Nv} {S:Sto}:aj τ S=.ok [] S:=ai rfl
theorem rR {a:XE} {r:XA} {τ:Nv} {S:Sto}:ab a r τ S=co1 (a τ S) r τ:=ai rfl
theorem xu {r:XA} {τ:Nv} {S:Sto} {x:Vl}:co1 (.ok x S) r τ=co2 x (r τ S):=ai rfl
theorem xK {S:Sto} {x:Vl} {xs:List Vl}:co2 x (.ok xs S)=.ok (x :: xs) S:=ai rfl
theorem D8 {r:XA} {τ:Nv} {S:Sto} {f:List Vl→Sto→R Vl}:xN f r τ S=n1 f (r τ S):=ai rfl
theorem EH {S:Sto} {xs:List Vl} {f:List Vl→Sto→R Vl}:n1 f (.ok xs S)=f xs S:=ai rfl
theorem rj {r:XA} {τ:Nv} {S:Sto} {F:XF}:ax F r τ S=c1 F (r τ S):=ai rfl
theorem Bp {S:Sto} {xs:List Vl} {F:XF}:c1 F (.ok xs S)=noX (F xs S):=ai rfl
theorem xQ {x:Vl} {S:Sto}:noX (R.ok x S)=.ok x S:=ai rfl
theorem CS {a:XE} {τ:Nv} {S:Sto}:xFz a τ S=fz1 (a τ S):=ai rfl
theorem Cu {z:Vl} {S:Sto}:fz1 (.ok z S)=frz z S:=ai rfl
theorem z0 {x:D} {S:Sto}:frz (.d x) S=.ok (.d x) S:=ai rfl
theorem u9 {τ:Nv} {S:Sto}:cf τ S=.ok none S:=ai rfl
theorem yx {a:XE} {τ:Nv} {S:Sto}:cR a τ S=p1 (a τ S):=ai rfl
theorem D9 {i:Int} {S:Sto}:p1 (.ok (.d (.int i)) S)=.ok (some i) S:=ai rfl
theorem DI {f:Vl→Option Int→Option Int→Sto→R Vl} {a:XE} {l h:XO} {τ:Nv} {S:Sto}:xSl f a l h τ S=sl1 f (a τ S) l h τ:=ai rfl
theorem DZ {f:Vl→Option Int→Option Int→Sto→R Vl} {l h:XO} {τ:Nv} {S:Sto} {x:Vl}:sl1 f (.ok x S) l h τ=sl2 f x (l τ S) h τ:=ai rfl
theorem DT {f:Vl→Option Int→Option Int→Sto→R Vl} {h:XO} {τ:Nv} {S:Sto} {x:Vl} {i:Option Int}:sl2 f x (.ok i S) h τ=sl3 f x i (h τ S):=ai rfl
theorem C1 {f:Vl→Option Int→Option Int→Sto→R Vl} {S:Sto} {x:Vl} {i j:Option Int}:sl3 f x i (.ok j S)=f x i j S:=ai rfl
theorem C5 {f:Nat→List D→D→Sto→R Vl} {o e:XE} {τ:Nv} {S:Sto}:xLm f o e τ S=lm1 f (o τ S) e τ:=ai rfl
theorem Du {f:Nat→List D→D→Sto→R Vl} {e:XE} {τ:Nv} {S:Sto} {n:Nat}:lm1 f (.ok (.r n) S) e τ=lm2 f n S[n]? e τ S:=ai rfl
theorem DF {f:Nat→List D→D→Sto→R Vl} {e:XE} {τ:Nv} {S:Sto} {n:Nat} {xs:List D}:lm2 f n (some (.lst xs)) e τ S=lm3 f n (e τ S):=ai rfl
theorem CQ {f:Nat→List D→D→Sto→R Vl} {S:Sto} {n:Nat} {z:D}:lm3 f n (.ok (.d z) S)=lm4 f n S[n]? z S:=ai rfl
theorem Dk {f:Nat→List D→D→Sto→R Vl} {S:Sto} {n:Nat} {xs:List D} {z:D}:lm4 f n (some (.lst xs)) z S=f n xs z S:=ai rfl
theorem mY {τ:Nv} {S:Sto}:aZ τ S=.ok (.nx,τ) S:=ai rfl
theorem o8 {a b:XS} {τ:Nv} {S:Sto}:ay a b τ S=sq1 (a τ S) b:=ai rfl
theorem jt {b:XS} {τ:Nv} {S:Sto}:sq1 (.ok (.nx,τ) S) b=b τ S:=ai rfl
theorem CI {b:XS} {τ:Nv} {S:Sto} {v:Vl}:sq1 (.ok (.rt v,τ) S) b=.ok (.rt v,τ) S:=ai rfl
theorem Cw {b:XS} {τ:Nv} {S:Sto}:sq1 (.ok (.bk,τ) S) b=.ok (.bk,τ) S:=ai rfl
theorem Ck {b:XS} {τ:Nv} {S:Sto}:sq1 (.ok (.ct,τ) S) b=.ok (.ct,τ) S:=ai rfl
theorem yu {τ:Nv} {S:Sto} {e:XE}:cT e τ S=ex1 (e τ S) τ:=ai rfl
theorem DW {τ:Nv} {S:Sto} {z:Vl}:ex1 (.ok z S) τ=.ok (.nx,τ) S:=ai rfl
theorem An {τ:Nv} {S:Sto} {e:XE}:aG e τ S=rt1 (e τ S) τ:=ai rfl
theorem Ci {τ:Nv} {S:Sto} {z:Vl}:rt1 (.ok z S) τ=.ok (.rt z,τ) S:=ai rfl
theorem yy {τ:Nv} {S:Sto}:DS τ S=.ok (.rt (.d .non),τ) S:=ai rfl
theorem yh {τ:Nv} {S:Sto}:CB τ S=.ok (.ct,τ) S:=ai rfl
theorem wM {τ:Nv} {S:Sto}:AB τ S=.ok (.bk,τ) S:=ai rfl
theorem xG {a b:XS} {τ:Nv} {S:Sto} {t:XT}:xIf t a b τ S=if1 (t τ S) a b τ:=ai rfl
theorem B0 {a b:XS} {τ:Nv} {S:Sto}:if1 (.ok true S) a b τ=a τ S:=ai rfl
theorem qu {a b:XS} {τ:Nv} {S:Sto}:if1 (.ok false S) a b τ=b τ S:=ai rfl
theorem p9 {τ:Nv} {S:Sto} {e:XE} {g:XG}:aH e g τ S=as1 (e τ S) g τ:=ai rfl
theorem oC {τ:Nv} {S:Sto} {z:Vl} {g:XG}:as1 (.ok z S) g τ=as2 (g z τ S):=ai rfl
theorem my {τ1:Nv} {S:Sto}:as2 (.ok τ1 S)=.ok (.nx,τ1) S:=ai rfl
theorem lT {τ:Nv} {S:Sto} {z:Vl} {i:Nat}:gNm i z τ S=.ok (τ.set i (some z)) S:=ai rfl
theorem Dr {gs:XGs} {τ:Nv} {S:Sto} {xs:List D} {n:Nat}:gTu n gs (.d (.tup xs)) τ S=if xs.length=n then gs (xs.map Vl.d) τ S else .bad:=ai rfl
theorem Dh {τ:Nv} {S:Sto}:gN0 [] τ S=.ok τ S:=ai rfl
theorem Dy {g:XG} {gs:XGs} {τ:Nv} {S:Sto} {z:Vl} {zs:List Vl}:gCo g gs (z :: zs) τ S=gc1 (g z τ S) gs zs:=ai rfl
theorem CK {gs:XGs} {τ1:Nv} {S:Sto} {zs:List Vl}:gc1 (.ok τ1 S) gs zs=gs zs τ1 S:=ai rfl
theorem xB {τ:Nv} {S:Sto} {z:Vl} {o e:XE} {f:Vl→Vl→Vl→Sto→R Unit}:gSb o e f z τ S=gs1 (o τ S) e f z τ:=ai rfl
theorem xj {τ:Nv} {S:Sto} {z x:Vl} {e:XE} {f:Vl→Vl→Vl→Sto→R Unit}:gs1 (.ok x S) e f z τ=gs2 x (e τ S) f z τ:=ai rfl
theorem xT {τ:Nv} {S:Sto} {z x y:Vl} {f:Vl→Vl→Vl→Sto→R Unit}:gs2 x (.ok y S) f z τ=gs3 (f x y z S) τ:=ai rfl
theorem tq {τ:Nv} {S:Sto}:gs3 (.ok () S) τ=.ok τ S:=ai rfl
theorem uW {it:XI} {g:XG} {b:XS} {τ:Nv} {S:Sto}:dh it g b τ S=fo1 (it τ S) g b τ:=ai rfl
theorem xg {g:XG} {b:XS} {τ:Nv} {S:Sto} {I:Its}:fo1 (.ok I S) g b τ=eH g b I.gd I.items τ S:=ai rfl
theorem lX {τ:Nv} {S:Sto} {e:XE}:bp e τ S=is1 (e τ S):=ai rfl
theorem uq {S:Sto} {xs:List D}:is1 (.ok (.d (.tup xs)) S)=.ok ⟨xs.map Vl.d,none⟩ S:=ai rfl
theorem uF {S:Sto} {xs:List D}:is1 (.ok (.d (.lst xs)) S)=.ok ⟨xs.map Vl.d,none⟩ S:=ai rfl
theorem BN {S:Sto} {n:Nat}:is1 (.ok (.r n) S)=is2 n S[n]? S:=ai rfl
theorem DB {S:Sto} {xs:List D} {n:Nat}:is2 n (some (.lst xs)) S=.ok ⟨xs.map Vl.d,some (n,.lst xs)⟩ S:=ai rfl
theorem A4 {τ:Nv} {S:Sto} {as:XA}:iC as τ S=ir1 (as τ S):=ai rfl
theorem Ba {τ:Nv} {S:Sto} {as:XA}:wF as τ S=ir2 (as τ S):=ai rfl
theorem AN {τ:Nv} {S:Sto} {e:XE}:wR e τ S=ie1 (e τ S):=ai rfl
theorem Dn {S:Sto} {xs:List D}:ie1 (.ok (.d (.lst xs)) S)=.ok ⟨c8 0 xs,none⟩ S:=ai rfl
theorem xD {j:Int} {S:Sto} (h:-100000≤j∧j≤100000):ir1 (.ok [.d (.int j)] S)=.ok ⟨(List.range j.toNat).map fun i=>Vl.d (.int (i:Nat)),none⟩ S:=by rw [show ir1 (.ok [.d (.int j)] S)=if -100000≤j∧j≤100000 then .ok ⟨(List.range j.toNat).map fun i=>Vl.d (.int (i:Nat)),none⟩ S else .bad from rfl,if_pos h]
theorem sG {i j:Int} {S:Sto} (h:(-100000≤i∧i≤100000)∧-100000≤j∧j≤100000):ir2 (.ok [.d (.int i),.d (.int j)] S)=.ok ⟨(List.range (j - i).toNat).map fun k=>Vl.d (.int (i+(k:Nat))),none⟩ S:=by rw [show ir2 (.ok [.d (.int i),.d (.int j)] S)=if (-100000≤i∧i≤100000)∧-100000≤j∧j≤100000 then .ok ⟨(List.range (j - i).toNat).map fun k=>Vl.d (.int (i+(k:Nat))),none⟩ S else .bad from rfl,if_pos h]
theorem Ew {i j:Int} {S:Sto} {g:Int→Int→D}:oI0 g (.d (.int i)) (.d (.int j)) S=.ok (.d (g i j)) S:=ai rfl
theorem Cf {i j:Int} {S:Sto}:a8 (.d (.int i)) (.d (.int j)) S=.ok (.d (.int (i+j))) S:=ai rfl
theorem DA {i:Int} {S:Sto}:iy (.d (.int i)) S=.ok (.d (.int (-i))) S:=ai rfl
theorem j8 {S:Sto} {xs ys:List D} (h:xs.length+ys.length≤100000):a8 (.d (.tup xs)) (.d (.tup ys)) S=.ok (.d (.tup (xs++ys))) S:=by rw [show a8 (.d (.tup xs)) (.d (.tup ys)) S=if xs.length+ys.length≤100000 then .ok (.d (.tup (xs++ys))) S else .bad from rfl,if_pos h]
theorem pq {S:Sto} {xs ys:List D} (h:xs.length+ys.length≤100000):a8 (.d (.lst xs)) (.d (.lst ys)) S=.ok (.d (.lst (xs++ys))) S:=by rw [show a8 (.d (.lst xs)) (.d (.lst ys)) S=if xs.length+ys.length≤100000 then .ok (.d (.lst (xs++ys))) S else .bad from rfl,if_pos h]
theorem CO {i j:Int} {S:Sto}:oEq (.d (.int i)) (.d (.int j)) S=.ok (.d (.bl (decide (i=j)))) S:=ai rfl
theorem Dv {i j:Int} {S:Sto}:oNe (.d (.int i)) (.d (.int j)) S=.ok (.d (.bl (!decide (i=j)))) S:=ai rfl
theorem Cn {S:Sto} {s t:Str}:oEq (.d (.str s)) (.d (.str t)) S=.ok (.d (.bl (decide (s=t)))) S:=ai rfl
theorem C9 {S:Sto} {s t:Str}:oNe (.d (.str s)) (.d (.str t)) S=.ok (.d (.bl (!decide (s=t)))) S:=ai rfl
theorem C2 {S:Sto} {p q:Bool}:oEq (.d (.bl p)) (.d (.bl q)) S=.ok (.d (.bl (decide (p=q)))) S:=ai rfl
theorem DV {S:Sto} {p q:Bool}:oNe (.d (.bl p)) (.d (.bl q)) S=.ok (.d (.bl (!decide (p=q)))) S:=ai rfl
theorem xy {S:Sto} {xs ys:List D} (h:D.depth (.tup xs)≤50):oEq (.d (.tup xs)) (.d (.tup ys)) S=.ok (.d (.bl (D.bC xs ys))) S:=by
 have:eqD (.d (.tup xs)) (.d (.tup ys)) S=some (D.bC xs ys):=by rw [show eqD (.d (.tup xs)) (.d (.tup ys)) S=if D.depth (.tup xs)≤50 then some (D.bC xs ys) else none from rfl,if_pos h]
 unfold oEq;rw [this]
theorem BW {S:Sto} {xs ys:List D} (h:D.depth (.lst xs)≤50):oEq (.d (.lst xs)) (.d (.lst ys)) S=.ok (.d (.bl (D.bC xs ys))) S:=by
 have:eqD (.d (.lst xs)) (.d (.lst ys)) S=some (D.bC xs ys):=by rw [show eqD (.d (.lst xs)) (.d (.lst ys)) S=if D.depth (.lst xs)≤50 then some (D.bC xs ys) else none from rfl,if_pos h]
 unfold oEq;rw [this]
theorem jQ {S:Sto} {xs ys:List D} (h:D.depth (.lst xs)≤50):oNe (.d (.lst xs)) (.d (.lst ys)) S=.ok (.d (.bl (!D.bC xs ys))) S:=by
 have:eqD (.d (.lst xs)) (.d (.lst ys)) S=some (D.bC xs ys):=by rw [show eqD (.d (.lst xs)) (.d (.lst ys)) S=if D.depth (.lst xs)≤50 then some (D.bC xs ys) else none from rfl,if_pos h]
 unfold oNe;rw [this]
theorem CW {S:Sto} {p q:Bool}:oIs (.d (.bl p)) (.d (.bl q)) S=.ok (.d (.bl (p == q))) S:=ai rfl
theorem z6 {S:Sto}:oIs (.d .non) (.d .non) S=.ok (.d (.bl true)) S:=ai rfl
theorem B2 {S:Sto} {xs:List D}:oIs (.d (.tup xs)) (.d .non) S=.ok (.d (.bl false)) S:=ai rfl
theorem Ab {S:Sto} {xs:List D}:oIs (.d (.lst xs)) (.d .non) S=.ok (.d (.bl false)) S:=ai rfl
theorem Ag {i:Int} {S:Sto}:oIs (.d (.int i)) (.d .non) S=.ok (.d (.bl false)) S:=ai rfl
theorem vV {S:Sto}:oz (.d .non) (.d .non) S=.ok (.d (.bl false)) S:=ai rfl
theorem wa {S:Sto} {xs:List D}:oz (.d (.tup xs)) (.d .non) S=.ok (.d (.bl true)) S:=ai rfl
theorem wz {S:Sto} {xs:List D}:oz (.d (.lst xs)) (.d .non) S=.ok (.d (.bl true)) S:=ai rfl
theorem wd {i:Int} {S:Sto}:oz (.d (.int i)) (.d .non) S=.ok (.d (.bl true)) S:=ai rfl
theorem Cg {T:String} {x:D} {S:Sto}:cS T (.d x) S=.ok (.d (.bl (isT T x))) S:=ai rfl
theorem kj {S:Sto} {xs:List D}:bx [.d (.tup xs)] S=.ok (.d (.int xs.length)) S:=ai rfl
theorem B5 {S:Sto} {xs:List D}:bx [.d (.lst xs)] S=.ok (.d (.int xs.length)) S:=ai rfl
theorem Bc {S:Sto} {xs:List D}:cW [.d (.tup xs)] S=.ok (.d (.tup xs)) S:=ai rfl
theorem Au {S:Sto} {xs:List D}:cW [.d (.lst xs)] S=.ok (.d (.tup xs)) S:=ai rfl
theorem Bo {S:Sto} {xs:List D}:kL [.d (.tup xs)] S=.ok (.d (.lst xs)) S:=ai rfl
theorem BO {S:Sto} {xs:List D}:kL [.d (.lst xs)] S=.ok (.d (.lst xs)) S:=ai rfl
theorem yn {S:Sto} {xs:List D}:jV [.d (.tup xs)] S=.ok (.r S.length) (S++[.lst xs]):=ai rfl
theorem yV {S:Sto} {xs:List D}:jV [.d (.lst xs)] S=.ok (.r S.length) (S++[.lst xs]):=ai rfl
theorem Dt {i j:Int} {S:Sto}:sU [.d (.int i),.d (.int j)] S=.ok (.d (.int (if j > i then j else i))) S:=ai rfl
theorem C4 {i j:Int} {S:Sto}:qr [.d (.int i),.d (.int j)] S=.ok (.d (.int (if j < i then j else i))) S:=ai rfl
theorem cw {i:Int} {S:Sto} {xs:List D} {z:D} (h:atI xs i=some z):oIx (.d (.tup xs)) (.d (.int i)) S=.ok (.d z) S:=by rw [show oIx (.d (.tup xs)) (.d (.int i)) S=(match atI xs i with | some z=>.ok (.d z) S | none=>.bad) from rfl,h]
theorem eZ {i:Int} {S:Sto} {xs:List D} {z:D} (h:atI xs i=some z):oIx (.d (.lst xs)) (.d (.int i)) S=.ok (.d z) S:=by rw [show oIx (.d (.lst xs)) (.d (.int i)) S=(match atI xs i with | some z=>.ok (.d z) S | none=>.bad) from rfl,h]
theorem mK {i:Int} {S:Sto} {xs:List D} {z:D} {n:Nat} (e:S[n]?=some (.lst xs)) (h:atI xs i=some z):oIx (.r n) (.d (.int i)) S=.ok (.d z) S:=by
 have:bM (.r n) S=some xs:=by unfold bM b7;dsimp only;rw [e]
 unfold oIx;dsimp only;rw [this];dsimp only;rw [h]
theorem l7 {S:Sto} {xs:List D} {n:Nat} (e:S[n]?=some (.lst xs)):bx [.r n] S=.ok (.d (.int xs.length)) S:=by
 have:bM (.r n) S=some xs:=by unfold bM b7;dsimp only;rw [e]
 unfold bx;dsimp only;rw [this]
theorem kF {xs:List D} {i j:Option Int} {S:Sto}:oSl (.d (.tup xs)) i j S=.ok (.d (.tup (cZ xs i j))) S:=ai rfl
theorem Ct {xs:List D} {i j:Option Int} {S:Sto}:oSl (.d (.lst xs)) i j S=.ok (.d (.lst (cZ xs i j))) S:=ai rfl
theorem Cr {ns:List Int} {i j:Option Int} {S:Sto}:oO (.sc ns) i j S=.ok (.d (.lst (cZ (ns.map D.int) i j))) S:=ai rfl
theorem xw {S:Sto} {xs:List D}:pk (.d (.tup xs)) (.d (.int (-1))) S=.ok (.d (.tup xs.reverse)) S:=ai rfl
theorem C3 {i j:Int} {S:Sto}:lO (.d (.int i)) (.d (.int j)) S=.ok (.d (.int (i - j))) S:=ai rfl
theorem Eh {i j:Int} {S:Sto}:oLt (.d (.int i)) (.d (.int j)) S=.ok (.d (.bl (decide (i < j)))) S:=ai rfl
theorem EU {i j:Int} {S:Sto}:oLe (.d (.int i)) (.d (.int j)) S=.ok (.d (.bl (decide (i≤j)))) S:=ai rfl
theorem Ec {i j:Int} {S:Sto}:oGt (.d (.int i)) (.d (.int j)) S=.ok (.d (.bl (decide (j < i)))) S:=ai rfl
theorem EC {i j:Int} {S:Sto}:oGe (.d (.int i)) (.d (.int j)) S=.ok (.d (.bl (decide (j≤i)))) S:=ai rfl
theorem DH {i j:Int} {S:Sto} (h:jo i j):gq (.d (.int i)) (.d (.int j)) S=.ok (.d (.int (i * j))) S:=by rw [show gq (.d (.int i)) (.d (.int j)) S=if jo i j then .ok (.d (.int (i * j))) S else .bad from rfl,if_pos h]
theorem xn {i j:Int} {S:Sto} (h:0 < j):oMod (.d (.int i)) (.d (.int j)) S=.ok (.d (.int (i % j))) S:=by rw [show oMod (.d (.int i)) (.d (.int j)) S=if 0 < j then .ok (.d (.int (i % j))) S else .bad from rfl,if_pos h]
theorem Cj {i j:Int} {S:Sto} (h:mW i j):oDiv (.d (.int i)) (.d (.int j)) S=.ok (.d (.int (i / j))) S:=by rw [show oDiv (.d (.int i)) (.d (.int j)) S=if mW i j then .ok (.d (.int (i / j))) S else .bad from rfl,if_pos h]
theorem sC {i j:Int} {S:Sto} (h:mT i j):oJ (.d (.int i)) (.d (.int j)) S=.ok (.d (.int (i ^ j.toNat))) S:=by rw [show oJ (.d (.int i)) (.d (.int j)) S=if mT i j then .ok (.d (.int (i ^ j.toNat))) S else .bad from rfl,if_pos h]
theorem DM {i j:Int} (h1:-(2 ^ 64) < j) (h2:j < 2 ^ 64):jo i j:=.inr ⟨h1,h2⟩
theorem zB {S:Sto}:mkT [] S=.ok (.d (.tup [])) S:=ai rfl
theorem Bu {S:Sto}:mkL [] S=.ok (.d (.lst [])) S:=ai rfl
theorem BY {S:Sto}:mkM [] S=.ok (.r S.length) (S++[.lst []]):=ai rfl
theorem Aq {a:D} {S:Sto}:mkT [.d a] S=.ok (.d (.tup [a])) S:=ai rfl
theorem AL {a:D} {S:Sto}:mkL [.d a] S=.ok (.d (.lst [a])) S:=ai rfl
theorem Cc {a:D} {S:Sto}:mkM [.d a] S=.ok (.r S.length) (S++[.lst [a]]):=ai rfl
theorem Ai {a b:D} {S:Sto}:mkT [.d a,.d b] S=.ok (.d (.tup [a,b])) S:=ai rfl
theorem BZ {a b:D} {S:Sto}:mkL [.d a,.d b] S=.ok (.d (.lst [a,b])) S:=ai rfl
theorem BA {a b:D} {S:Sto}:mkM [.d a,.d b] S=.ok (.r S.length) (S++[.lst [a,b]]):=ai rfl
theorem zT {a b c:D} {S:Sto}:mkT [.d a,.d b,.d c] S=.ok (.d (.tup [a,b,c])) S:=ai rfl
theorem Bi {a b c:D} {S:Sto}:mkL [.d a,.d b,.d c] S=.ok (.d (.lst [a,b,c])) S:=ai rfl
theorem B1 {a b c:D} {S:Sto}:mkM [.d a,.d b,.d c] S=.ok (.r S.length) (S++[.lst [a,b,c]]):=ai rfl
theorem z8 {a b c d:D} {S:Sto}:mkT [.d a,.d b,.d c,.d d] S=.ok (.d (.tup [a,b,c,d])) S:=ai rfl
theorem Ax {a b c d:D} {S:Sto}:mkL [.d a,.d b,.d c,.d d] S=.ok (.d (.lst [a,b,c,d])) S:=ai rfl
theorem BJ {a b c d e:D} {S:Sto}:mkT [.d a,.d b,.d c,.d d,.d e] S=.ok (.d (.tup [a,b,c,d,e])) S:=ai rfl
theorem zX {a b c d e:D} {S:Sto}:mkL [.d a,.d b,.d c,.d d,.d e] S=.ok (.d (.lst [a,b,c,d,e])) S:=ai rfl
theorem AG {a b c d e f:D} {S:Sto}:mkT [.d a,.d b,.d c,.d d,.d e,.d f] S=.ok (.d (.tup [a,b,c,d,e,f])) S:=ai rfl
theorem Ar {a b c d e f:D} {S:Sto}:mkL [.d a,.d b,.d c,.d d,.d e,.d f] S=.ok (.d (.lst [a,b,c,d,e,f])) S:=ai rfl
theorem Ac {a b c d e f g:D} {S:Sto}:mkT [.d a,.d b,.d c,.d d,.d e,.d f,.d g] S=.ok (.d (.tup [a,b,c,d,e,f,g])) S:=ai rfl
theorem BC {a b c d e f g:D} {S:Sto}:mkL [.d a,.d b,.d c,.d d,.d e,.d f,.d g] S=.ok (.d (.lst [a,b,c,d,e,f,g])) S:=ai rfl
theorem AV {a b c d e f g h:D} {S:Sto}:mkT [.d a,.d b,.d c,.d d,.d e,.d f,.d g,.d h] S=.ok (.d (.tup [a,b,c,d,e,f,g,h])) S:=ai rfl
theorem Bx {a b c d e f g h:D} {S:Sto}:mkL [.d a,.d b,.d c,.d d,.d e,.d f,.d g,.d h] S=.ok (.d (.lst [a,b,c,d,e,f,g,h])) S:=ai rfl
theorem zZ {a b c d e f g h i:D} {S:Sto}:mkT [.d a,.d b,.d c,.d d,.d e,.d f,.d g,.d h,.d i] S=.ok (.d (.tup [a,b,c,d,e,f,g,h,i])) S:=ai rfl
theorem z5 {a b c d e f g h i:D} {S:Sto}:mkL [.d a,.d b,.d c,.d d,.d e,.d f,.d g,.d h,.d i] S=.ok (.d (.lst [a,b,c,d,e,f,g,h,i])) S:=ai rfl
theorem za {a b c d e f g h i j:D} {S:Sto}:mkT [.d a,.d b,.d c,.d d,.d e,.d f,.d g,.d h,.d i,.d j] S=.ok (.d (.tup [a,b,c,d,e,f,g,h,i,j])) S:=ai rfl
theorem yI {a b c d e f g h i j:D} {S:Sto}:mkL [.d a,.d b,.d c,.d d,.d e,.d f,.d g,.d h,.d i,.d j] S=.ok (.d (.lst [a,b,c,d,e,f,g,h,i,j])) S:=ai rfl
theorem yG {a b c d e f g h i j k:D} {S:Sto}:mkT [.d a,.d b,.d c,.d d,.d e,.d f,.d g,.d h,.d i,.d j,.d k] S=.ok (.d (.tup [a,b,c,d,e,f,g,h,i,j,k])) S:=ai rfl
theorem yq {a b c d e f g h i j k:D} {S:Sto}:mkL [.d a,.d b,.d c,.d d,.d e,.d f,.d g,.d h,.d i,.d j,.d k] S=.ok (.d (.lst [a,b,c,d,e,f,g,h,i,j,k])) S:=ai rfl
theorem yg {a b c d e f g h i j k l:D} {S:Sto}:mkT [.d a,.d b,.d c,.d d,.d e,.d f,.d g,.d h,.d i,.d j,.d k,.d l] S=.ok (.d (.tup [a,b,c,d,e,f,g,h,i,j,k,l])) S:=ai rfl
theorem zk {a b c d e f g h i j k l:D} {S:Sto}:mkL [.d a,.d b,.d c,.d d,.d e,.d f,.d g,.d h,.d i,.d j,.d k,.d l] S=.ok (.d (.lst [a,b,c,d,e,f,g,h,i,j,k,l])) S:=ai rfl
theorem f_ {o x:Ob} {R:Sto}:(o :: (R++[x]))[R.length+1]?=some x:=by simp
theorem pv {x:Ob} {R:Sto}:(R++[x])[R.length]?=some x:=by simp
theorem vK {x y:Ob} {R:Sto}:(R++[x]).set R.length y=R++[y]:=by simp
theorem wW {x y:Ob} {R:Sto}:(R++[x,y])[R.length]?=some x:=by simp
theorem vt {x y z:Ob} {R:Sto}:(R++[x,y]).set R.length z=R++[z,y]:=by simp
theorem vW {x y:Ob} {R:Sto}:(R++[x,y])[R.length+1]?=some y:=by simp
theorem wm {x y z:Ob} {R:Sto}:(R++[x,y]).set (R.length+1) z=R++[x,z]:=by simp
theorem tP (ns:List Int):(ns.map D.int).all D.flat=true:=by rw [List.all_map];exact List.all_eq_true.mpr fun _ _=>rfl
theorem zg (w:Int) (ns:List Int):inD (.int w) (ns.map D.int)=decide (w∈ns):=by
 unfold inD
 rw [List.any_map,Bool.eq_iff_iff,List.any_eq_true,decide_eq_true_eq]
 constructor
 ·rintro ⟨x,hx,e⟩
  have e':(x == w)=true:=e
  rw [← (beq_iff_eq.mp e')];exact hx
 ·intro h
  exact ⟨w,h,by show (w == w)=true;simp⟩
theorem om {n:Nat} {S:Sto} {xs:List D} (e:S[n]?=some (.lst xs)):bM (.r n) S=some xs:=by unfold bM b7;dsimp only;rw [e]
theorem gO {w:Int} {y:Vl} {S:Sto} {ns:List Int} (h:bM y S=some (ns.map D.int)):inX (.d (.int w)) y S=some (decide (w∈ns)):=by
 unfold inX
 dsimp only
 rw [h]
 dsimp only
 rw [show D.flat (.int w)=true from rfl,tP,if_pos (by rfl),zg]
theorem xX {w:Int} {ns:List Int} {S:Sto}:oIn (.d (.int w)) (.d (.tup (ns.map D.int))) S=.ok (.d (.bl (decide (w∈ns)))) S:=by unfold oIn;rw [gO (ns:=ns) rfl]
theorem ur {w:Int} {ns:List Int} {S:Sto}:d8 (.d (.int w)) (.d (.tup (ns.map D.int))) S=.ok (.d (.bl (!decide (w∈ns)))) S:=by unfold d8;rw [gO (ns:=ns) rfl]
theorem C8 {w:Int} {ns:List Int} {S:Sto}:oIn (.d (.int w)) (.d (.lst (ns.map D.int))) S=.ok (.d (.bl (decide (w∈ns)))) S:=by unfold oIn;rw [gO (ns:=ns) rfl]
theorem AR {w:Int} {ns:List Int} {S:Sto}:d8 (.d (.int w)) (.d (.lst (ns.map D.int))) S=.ok (.d (.bl (!decide (w∈ns)))) S:=by unfold d8;rw [gO (ns:=ns) rfl]
theorem mh {w:Int} {ns:List Int} {n:Nat} {S:Sto} (e:S[n]?=some (.lst (ns.map D.int))):d8 (.d (.int w)) (.r n) S=.ok (.d (.bl (!decide (w∈ns)))) S:=by unfold d8;rw [gO (om e)]
theorem oB {n:Nat} {xs:List D} {z:D} {S:Sto} (h:xs.length < 100000):i6 n xs z S=.ok (.d .non) (S.set n (.lst (xs++[z]))):=by unfold i6;rw [if_pos h]
theorem Ah {n:Nat} {xs ys:List D} {S:Sto} (h:xs.length+ys.length≤100000):fV n xs (.tup ys) S=.ok (.d .non) (S.set n (.lst (xs++ys))):=by unfold fV;dsimp only;rw [if_pos h]
theorem u6 {n:Nat} {xs ys:List D} {S:Sto} (h:xs.length+ys.length≤100000):fV n xs (.lst ys) S=.ok (.d .non) (S.set n (.lst (xs++ys))):=by unfold fV;dsimp only;rw [if_pos h]
theorem rn {x:Vl} {S:Sto} {ns:List Int} (e:bM x S=some (ns.map D.int)) (h:ns.length < 64):fO [x] S=.ok (.d (.lst ((sortI ns).map D.int))) S:=by
 unfold fO
 dsimp only
 rw [e,Option.bind_some,fL]
 dsimp only
 rw [if_pos h]
theorem rO {n:Nat} {S:Sto} {ns:List Int} (e:S[n]?=some (.lst (ns.map D.int))) (h:ns.length < 64):fO [.r n] S=.ok (.d (.lst ((sortI ns).map D.int))) S:=rn (om e) h
theorem zu {S:Sto} {ns:List Int} (h:ns.length < 64):fO [.d (.tup (ns.map D.int))] S=.ok (.d (.lst ((sortI ns).map D.int))) S:=rn rfl h
theorem xH {x:Vl} {S:Sto} {ns:List Int} (e:bM x S=some (ns.map D.int)) (h:ns.length≤300) (h2:(a4 ns).length < 64):oSS x S=.ok (.d (.lst ((a4 ns).map D.int))) S:=by
 unfold oSS
 rw [e,Option.bind_some,fL]
 dsimp only
 rw [if_pos ⟨h,h2⟩]
theorem Dg {x:Vl} {S:Sto} {ns:List Int} (e:bM x S=some (ns.map D.int)) (h:ns.length≤300):oLS x S=.ok (.d (.int (a4 ns).length)) S:=by
 unfold oLS
 rw [e,Option.bind_some,fL]
 dsimp only
 rw [if_pos h]
theorem pC (x:Int):∀ ys,(gF x ys).length≤ys.length+1
 | []=>by simp [gF]
 | y :: ys=>by
  unfold gF
  split
  ·simp
  ·split
   ·simp
   ·have:=pC x ys
    simp
    omega
theorem nN:∀ xs,(a4 xs).length≤xs.length
 | []=>by simp [a4]
 | x :: xs=>by
  have:=pC x (a4 xs)
  have:=nN xs
  rw [a4,List.length_cons]
  omega
theorem df (ns:List Int):(sortI ns).length=ns.length:=(sortI_perm ns).length_eq
theorem j5 (ns:List Int) (z:Int):z∈sortI ns↔z∈ns:=(sortI_perm ns).mem_iff
theorem lB {ns:List Int} (h:ns.Nodup):(sortI ns).Pairwise (· < ·):=((iZ ns).and ((sortI_perm ns).nodup_iff.mpr h)).imp fun z=>by have:=z.1;have:=z.2;omega
theorem BS {ds:List D} {bs:List Bool} {S:Sto} (h:eG ds=some bs):eY [.d (.lst ds)] S=.ok (.d (.bl (bs.all id))) S:=by
 unfold eY
 dsimp only
 rw [show b7 (.d (.lst ds)) S=some ds from rfl,Option.bind_some,h]
theorem BR {ds:List D} {bs:List Bool} {S:Sto} (h:eG ds=some bs):j4 [.d (.lst ds)] S=.ok (.d (.bl (bs.any id))) S:=by
 unfold j4
 dsimp only
 rw [show b7 (.d (.lst ds)) S=some ds from rfl,Option.bind_some,h]
theorem mR {α:Type} (f:α→Bool):∀ l:List α,eG (l.map fun x=>D.bl (f x))=some (l.map f)
 | []=>rfl
 | x :: l=>by simp [eG,mR f l]
theorem lH {α:Type} (f:α→Int):∀ l:List α,intsOf (l.map fun x=>D.int (f x))=some (l.map f)
 | []=>rfl
 | x :: l=>by simp [intsOf,lH f l]
theorem iK {α:Type} {f:α→Bool} {l:List α} {S:Sto}:eY [.d (.lst (l.map fun x=>D.bl (f x)))] S=.ok (.d (.bl (l.all f))) S:=by rw [BS (mR f l),List.all_map];rfl
theorem AH {α:Type} {f:α→Bool} {l:List α} {S:Sto}:j4 [.d (.lst (l.map fun x=>D.bl (f x)))] S=.ok (.d (.bl (l.any f))) S:=by rw [BR (mR f l),List.any_map];rfl
theorem Ce {j:Int} {S:Sto} (h:0≤j∧j≤1000):lrg wV [.d (.int j)] S=.ok (.r S.length) (S++[.lst ((List.range j.toNat).map fun i=>D.int (i:Nat))]):=by
 unfold lrg
 dsimp only
 rw [if_pos h]
 rfl
theorem CM {n:Nat} {xs:List D} {i:Int} {y:D} {S:Sto} (h:0≤i∧i < 2 ^ 63) (e:xs[i.toNat]?=some y):pV n xs (.int i) S=.ok (.d y) (S.set n (.lst (xs.eraseIdx i.toNat))):=by
 unfold pV
 dsimp only
 rw [if_pos h,e]
theorem sT {it:XI} {t:XT} {e:XE} {τ:Nv} {S:Sto} {r:R Vl} (hC:xLC it 1 (gNm 0) t e τ S=r) {S1:Sto} {items:List Vl} (hit:it τ S=.ok ⟨items,none⟩ S1) (J:Nat→List D→Sto→Prop) (h0:J 0 [] S1)
  (hs:∀ i z acc Q,items[i]?=some z→J i acc Q→Q.length=S1.length→∃ b Q1,t (some z :: τ) (Q++[.lst acc])=.ok b (Q1++[.lst acc])∧Q1.length=S1.length ∧
   (b=true→∃ x Q2,e (some z :: τ) (Q1++[.lst acc])=.ok (.d x) (Q2++[.lst acc])∧Q2.length=S1.length∧J (i+1) (acc++[x]) Q2)∧(b=false→J (i+1) acc Q1)) :
  ∃ acc Q,r=.ok (.d (.lst acc)) Q∧Q.length=S1.length∧J items.length acc Q:=by
 obtain ⟨acc,Q,e1,h⟩:=uM (t:=t) (e:=e) hit J h0 hs
 exact ⟨acc,Q,hC.symm.trans e1,h⟩
theorem oP {it:XI} {e:XE} {τ:Nv} {S:Sto} {r:R Vl} (hC:xLC it 1 (gNm 0) (fun _ S=>.ok true S) e τ S=r) {S1:Sto} {items:List Vl} (hit:it τ S=.ok ⟨items,none⟩ S1) (J:Nat→List D→Sto→Prop) (h0:J 0 [] S1)
  (hs:∀ i z acc Q,items[i]?=some z→J i acc Q→Q.length=S1.length→∃ x Q2,e (some z :: τ) (Q++[.lst acc])=.ok (.d x) (Q2++[.lst acc])∧Q2.length=S1.length∧J (i+1) (acc++[x]) Q2) :
  ∃ acc Q,r=.ok (.d (.lst acc)) Q∧Q.length=S1.length∧J items.length acc Q:=
 sT hC hit J h0 fun i z acc Q hz hJ hl=>⟨true,Q,rfl,hl,fun _=>hs i z acc Q hz hJ hl,fun z=>(by cases z)⟩
theorem cq {e:XE} {a:XE} {τ:Nv} {S S1:Sto} {r:R Vl} (hC:xLC (bp a) 1 (gNm 0) (fun _ S=>.ok true S) e τ S=r) {xs:List D} (ha:a τ S=.ok (.d (.tup xs)) S1) (f:D→D) (hs:∀ x∈xs,∀ S:Sto,e (some (.d x) :: τ) S=.ok (.d (f x)) S):r=.ok (.d (.lst (xs.map f))) S1:=by
 rw [← hC,lS (items:=xs.map Vl.d) (S1:=S1) (by rw [lX,ha,uq]) (fun z=>match z with | .d x=>f x | _=>.non) (by
  intro z hz S
  obtain ⟨x,hx,rfl⟩:=List.mem_map.mp hz
  exact hs x hx S)]
 rw [List.map_map]
 rfl
theorem m6 {e:XE} {a:XE} {τ:Nv} {S S1:Sto} {r:R Vl} (hC:xLC (bp a) 1 (gNm 0) (fun _ S=>.ok true S) e τ S=r) {xs:List D} (ha:a τ S=.ok (.d (.lst xs)) S1) (f:D→D) (hs:∀ x∈xs,∀ S:Sto,e (some (.d x) :: τ) S=.ok (.d (f x)) S):r=.ok (.d (.lst (xs.map f))) S1:=by
 rw [← hC,lS (items:=xs.map Vl.d) (S1:=S1) (by rw [lX,ha,uF]) (fun z=>match z with | .d x=>f x | _=>.non) (by
  intro z hz S
  obtain ⟨x,hx,rfl⟩:=List.mem_map.mp hz
  exact hs x hx S)]
 rw [List.map_map]
 rfl
theorem cu {it:XI} {g:XG} {b:XS} {τ:Nv} {S:Sto} {r:R (Fl×Nv)} (hL:dh it g b τ S=r) {S1:Sto} {items:List Vl} {gd:Option (Nat×Ob)} (hit:it τ S=.ok ⟨items,gd⟩ S1) (I:Nat→Nv→Sto→Prop) (h0:I 0 τ S1)
  (hs:∀ i z τ S,items[i]?=some z→I i τ S→∃ τ1 S1 fl τ2 S2,g z τ S=.ok τ1 S1∧b τ1 S1=.ok (fl,τ2) S2∧(fl=.nx∨fl=.ct)∧gok gd S2∧I (i+1) τ2 S2):∃ τ' S',r=.ok (.nx,τ') S'∧I items.length τ' S':=by
 obtain ⟨τ',S',e,h⟩:=pK (g:=g) (b:=b) (gd:=gd) I h0 hs
 refine ⟨τ',S',?_,h⟩
 rw [← hL,uW,hit,xg]
 exact e
theorem eP {n:Nat} {i:Nat} {z:Vl} (h:((List.range n).map fun i=>Vl.d (.int (i:Nat)))[i]?=some z):i < n∧z=.d (.int i):=by
 have hi:i < n:=by simpa using (List.getElem?_eq_some_iff.mp h).1
 rw [List.getElem?_map,List.getElem?_range hi] at h
 exact ⟨hi,(Option.some.inj h).symm⟩
theorem iQ {n:Nat}:((List.range n).map fun i=>Vl.d (.int (i:Nat))).length=n:=by simp
theorem eX {α β:Type} {f:α→β} {l:List α} {x:α}:(l++[x]).map f=l.map f++[f x]:=by rw [List.map_append];rfl
end L2
namespace L2
open PySem PySem.Spec PyProof.Rows ZS
section
variable {X:Cx} {WE:WX}
end
def sR (xs ys:List D):List Vl:=List.zipWith (fun x y=>Vl.d (.tup [x,y])) xs ys
def By (zs:List Vl) (S:Sto):R Its:=match zs with
 | [.d (.tup xs),.d (.tup ys)]=>.ok ⟨sR xs ys,none⟩ S
 | [.d (.lst xs),.d (.tup ys)]=>.ok ⟨sR xs ys,none⟩ S
 | _=>.bad
def iZp (as:XA):XI:=fun τ S=>(as τ S).bind By
section
variable {X:Cx} {WE:WX} {K:PySem.W.Frag} {mg:Str→Option Value} {μ:Nat→Addr} {S:Sto} {H:Hp}
end
def xLf (f:List D→D→Sto→R Vl) (o e:XE):XE:=fun τ S=>(o τ S).bind fun x S1=>match x with
 | .d (.lst xs)=>(e τ S1).bind fun y S2=>(match y with
  | .d z=>f xs z S2
  | _=>.bad)
 | _=>.bad
def Ae (xs:List D) (z:D) (S:Sto):R Vl:=match z,intsOf xs with
 | .int k,some ns=>.ok (.d (.int (ns.count k:Nat))) S
 | _,_=>.bad
section
variable {X:Cx} {WE:WX}
end
section
variable {X:Cx}
end
section
variable {K:PySem.W.Frag} {mg:Str→Option Value}
end
section
variable {X:Cx} {WE:WX} {i k lev j:Nat} {x:Str} {p pos:Pos} {e:Expr} {es:List Expr} {t:TA} {E:XK}
end
def tE (xs:List Vl) (S:Sto):R Vl:=match xs with
 | [.d (.int i)]=>.ok (.d (.int i)) S
 | [.d (.bl k)]=>.ok (.d (.int (if k then 1 else 0))) S
 | _=>.bad
def A0:List V→Hp→VK→Prop:=fun xs H Q=>(∃ i,xs=[.int i]∧Q (.int i) H)∨∃ k,xs=[.bl k]∧Q (.int (if k then 1 else 0)) H
theorem uL {X:Cx}:bt X (.type "int") A0:=tN
section
variable {K:PySem.W.Frag} {mg:Str→Option Value}
theorem vy:dR K mg A0 tE:=by
 intro WE μ S H vs xs Q hr rs p
 unfold tE at p
 split at p
 ·obtain ⟨v,rfl,r1⟩:=rs.one
  exact .inl ⟨_,by rw [aX r1],p.here hr (Rep.int _)⟩
 ·obtain ⟨v,rfl,r1⟩:=rs.one
  cases r1
  exact .inr ⟨_,rfl,p.here hr (Rep.int _)⟩
 ·exact p.elim
end
theorem B7 {k:Bool} {S:Sto}:tE [.d (.bl k)] S=.ok (.d (.int (if k then 1 else 0))) S:=ai rfl
def i8:D→Option Key
 | .int i=>some (.inl i)
 | .str x=>some (.inr x)
 | _=>none
def kD:Key→D
 | .inl i=>.int i
 | .inr x=>.str x
def jc (x:Vl) (S:Sto):Option (List (Key×D)):=match x with
 | .fd kvs=>some kvs
 | .r n=>(match S[n]? with
  | some (.dct kvs)=>some kvs
  | _=>none)
 | _=>none
def gh (kvs:List (Key×D)) (k:Key):Option D:=(kvs.find? fun kv=>decide (kv.1=k)).map (·.2)
def putD (kvs:List (Key×D)) (k:Key) (v:D):List (Key×D):=
 if (kvs.any fun kv=>decide (kv.1=k))=true then kvs.map (fun kv=>if kv.1=k then (kv.1,v) else kv) else kvs++[(k,v)]
section
variable {G:Hp}
theorem qe {p:Key×D} {r:List (Key×D)} {k:Key} (e:p.1=k):gh (p :: r) k=some p.2:=by simp [gh,List.find?_cons,e]
theorem lA {p:Key×D} {r:List (Key×D)} {k:Key} (e:¬p.1=k):gh (p :: r) k=gh r k:=by simp [gh,List.find?_cons,e]
theorem pF (k:Key):∀ {kvs:List (Key×D)} {vs:List V},av G vs (kvs.map (·.2))→(gh kvs k=none∧gH ((kvs.map (·.1)).zip vs) k=none)∨∃ d v,gh kvs k=some d∧gH ((kvs.map (·.1)).zip vs) k=some v∧Rep G v d
 | [],_,.nil=>.inl ⟨rfl,rfl⟩
 | p :: r,_,.cons (v:=v) (vs:=vs) h t=>by
  by_cases e:p.1=k
  ·exact .inr ⟨p.2,v,qe e,lP (p:=(p.1,v)) e,h⟩
  ·rcases pF k (kvs:=r) t with ⟨h1,h2⟩ | ⟨d,u,h1,h2,h3⟩
   ·exact .inl ⟨by rw [lA e];exact h1,(i5 (p:=(p.1,v)) e).trans h2⟩
   ·exact .inr ⟨d,u,by rw [lA e];exact h1,(i5 (p:=(p.1,v)) e).trans h2,h3⟩
theorem uZ (k:Key):∀ {kvs:List (Key×D)} {vs:List V},av G vs (kvs.map (·.2))→(((kvs.map (·.1)).zip vs).any fun kv=>decide (kv.1=k))=kvs.any fun kv=>decide (kv.1=k)
 | [],_,.nil=>rfl
 | p :: r,_,.cons h t=>by
  rw [List.map_cons,List.zip_cons_cons,List.any_cons,List.any_cons,uZ k (kvs:=r) t]
theorem t8 (k:Key) {v:V} {d:D} (rv:Rep G v d):∀ {kvs:List (Key×D)} {vs:List V},av G vs (kvs.map (·.2))→∃ ws,ws.length=kvs.length ∧
  ((kvs.map (·.1)).zip vs).map (fun kv=>if kv.1=k then (kv.1,v) else kv)=((kvs.map fun kv=>if kv.1=k then (kv.1,d) else kv).map (·.1)).zip ws∧av G ws ((kvs.map fun kv=>if kv.1=k then (kv.1,d) else kv).map (·.2))
 | [],_,.nil=>⟨[],rfl,rfl,.nil⟩
 | p :: r,_,.cons (v:=u) (vs:=us) h t=>by
  obtain ⟨ws,l,e,rs⟩:=t8 k rv (kvs:=r) t
  by_cases q:p.1=k
  ·refine ⟨v :: ws,by simp [l],?_,?_⟩
   ·rw [List.map_cons,List.zip_cons_cons,List.map_cons,e,List.map_cons,List.map_cons,List.zip_cons_cons,if_pos q,if_pos q]
   ·rw [List.map_cons,List.map_cons,if_pos q];exact .cons rv rs
  ·refine ⟨u :: ws,by simp [l],?_,?_⟩
   ·rw [List.map_cons,List.zip_cons_cons,List.map_cons,e,List.map_cons,List.map_cons,List.zip_cons_cons,if_neg q,if_neg q]
   ·rw [List.map_cons,List.map_cons,if_neg q];exact .cons h rs
theorem Cb (k:Key) {v:V} {d:D} (rv:Rep G v d) {kvs:List (Key×D)} {vs:List V} (rs:av G vs (kvs.map (·.2))):∃ ws,ws.length=(putD kvs k d).length ∧
  putK ((kvs.map (·.1)).zip vs) k v=((putD kvs k d).map (·.1)).zip ws∧av G ws ((putD kvs k d).map (·.2)):=by
 unfold putK putD
 rw [uZ k rs]
 by_cases a:(kvs.any fun kv=>decide (kv.1=k))=true
 ·rw [if_pos a,if_pos a]
  obtain ⟨ws,l,e,r⟩:=t8 k rv rs
  exact ⟨ws,by simp [l],e,r⟩
 ·rw [if_neg a,if_neg a]
  have lv:vs.length=kvs.length:=by have:=rs.length;simpa using this
  refine ⟨vs++[v],by simp [lv],?_,?_⟩
  ·rw [List.map_append,List.zip_append (by simp [lv])]
   rfl
  ·rw [List.map_append];exact rs.append (.cons rv .nil)
theorem m_ {G:Hp} {v:V} {x:D} {k:Key} (r:Rep G v x) (e:i8 x=some k):v=kV k:=by
 unfold i8 at e
 split at e
 ·cases e;cases r;rfl
 ·cases e;cases r;rfl
 ·cases e
theorem Cd {G:Hp} (k:Key):Rep G (kV k) (kD k):=by
 cases k with
 | inl i=>exact Rep.int i
 | inr x=>exact Rep.str x
end
section
variable {K:PySem.W.Frag} {mg:Str→Option Value} {μ:Nat→Addr} {S:Sto} {H:Hp} {v:V} {x:Vl} {kvs:List (Key×D)} {WE:WX} {Q:VK}
theorem vn (hr:HR μ S H) (r:aO K mg μ S H v x) (e:jc x S=some kvs):∃ a vs,v=.ref a∧Rd H a (.dK ((kvs.map (·.1)).zip vs))∧av (vh μ S H) vs (kvs.map (·.2)):=by
 unfold jc at e
 split at e
 ·cases e
  obtain ⟨a,vs,o,rfl,l,h,rs⟩:=r
  exact ⟨a,vs,rfl,.inr ⟨o,(bf h).2⟩,rs⟩
 ·split at e
  ·rename_i q
   cases e
   obtain ⟨rfl,hn⟩:=r
   obtain ⟨vs,l,h,rs⟩:=hr.ob _ _ q
   exact ⟨_,vs,rfl,.inl h,rs⟩
  ·cases e
 ·cases e
end
def oDx (x y:Vl) (S:Sto):R Vl:=match y with
 | .d yd=>(match i8 yd,jc x S with
  | some k,some kvs=>(match gh kvs k with
   | some z=>.ok (.d z) S
   | none=>.bad)
  | _,_=>.bad)
 | _=>.bad
def ky (x y:Vl) (S:Sto):Option Bool:=match x with
 | .d xd=>(match i8 xd,jc y S with
  | some k,some kvs=>some (gh kvs k).isSome
  | _,_=>none)
 | _=>none
def qw (x y:Vl) (S:Sto):R Vl:=match ky x y S with
 | some b=>.ok (.d (.bl b)) S
 | none=>.bad
def kC (x y:Vl) (S:Sto):R Vl:=match ky x y S with
 | some b=>.ok (.d (.bl (!b))) S
 | none=>.bad
section
variable {X:Cx} {WE:WX} {a b c e:Expr} {xa xb xc xe:XE} {pos:Pos}
theorem oq (hu:X.A.units+64 < cLine) (ha:RE X WE a xa) (hb:RE X WE b xb) (hs:wZ b:=by exact fun _ _=>rfl):RE X WE (.Subscript a b pos) (xOp oDx xa xb):=
 ⟨(zq (by omega) ha.h hb.h hs).weak fun σ H Q h=>by
  refine (two (X:=X) (r:=fun x y H2 Q=>∃ a v,x=.ref a∧lh H2 a y (some v)∧Q v H2) ?_ h:_)
  intro WE μ S H v w x y Q hr rx ry p
  unfold oDx at p
  split at p
  ·split at p
   ·rename_i k kvs hk hd
    obtain ⟨a,vs,rfl,rd,rs⟩:=vn hr rx hd
    split at p
    ·rename_i z hz
     rcases pF k rs with ⟨h1,_⟩ | ⟨d,u,h1,h2,h3⟩
     ·rw [h1] at hz;cases hz
     ·rw [h1] at hz;cases hz
      rw [m_ ry hk]
      exact ⟨a,u,rfl,.inl ⟨_,k,rd,rfl,h2.symm⟩,p.here hr h3⟩
    ·exact p.elim
   ·exact p.elim
  ·exact p.elim⟩
def pW (neg:Bool):R2:=fun y x H Q=>∃ a o,x=.ref a∧lh H a y o∧Q (.bl (if neg then !o.isSome else o.isSome)) H
theorem zV (hu:X.A.units+64 < cLine):OpR X (compareOp .In) (pW false):=by
 intro pins s σ H x y u v Q I rx ry ⟨a,o,e,g,q⟩
 subst e
 obtain rfl:v=Value.ref a:=ry
 exact Ed (by omega) I g rx fun s' I'=>⟨_,H,I',(show RelV (.bl _) _ from rfl),q⟩
theorem rE (hu:X.A.units+64 < cLine):OpR X (compareOp .NotIn) (pW true):=by
 intro pins s σ H x y u v Q I rx ry ⟨a,o,e,g,q⟩
 subst e
 obtain rfl:v=Value.ref a:=ry
 exact yw (by omega) I g rx fun s' I'=>⟨_,H,I',(show RelV (.bl _) _ from rfl),q⟩
theorem va {K:PySem.W.Frag} {mg:Str→Option Value} {μ:Nat→Addr} {S:Sto} {H:Hp} {v w:V} {x y:Vl} {k neg:Bool} {Q:VK} (hr:HR μ S H) (rx:aO K mg μ S H v x) (ry:aO K mg μ S H w y) (e:ky x y S=some k) (q:Q (.bl (if neg then !k else k)) H):pW neg v w H Q:=by
 unfold ky at e
 split at e
 ·split at e
  ·rename_i key kvs hk hd
   cases e
   obtain ⟨a,vs,rfl,rd,rs⟩:=vn hr ry hd
   rw [m_ rx hk]
   refine ⟨a,_,rfl,.inl ⟨_,key,rd,rfl,rfl⟩,?_⟩
   rcases pF key rs with ⟨h1,h2⟩ | ⟨d,u,h1,h2,_⟩
   ·rw [h2];rw [h1] at q;exact q
   ·rw [h2];rw [h1] at q;exact q
  ·cases e
 ·cases e
theorem zl {K:PySem.W.Frag} {mg:Str→Option Value}:cm K mg (pW false) qw:=by
 intro WE μ S H v w x y Q hr rx ry p
 unfold qw at p
 split at p
 ·exact va hr rx ry ‹_› (p.here hr (Rep.bl _))
 ·exact p.elim
theorem o_ {K:PySem.W.Frag} {mg:Str→Option Value}:cm K mg (pW true) kC:=by
 intro WE μ S H v w x y Q hr rx ry p
 unfold kC at p
 split at p
 ·exact va hr rx ry ‹_› (p.here hr (Rep.bl _))
 ·exact p.elim
end
theorem z4 {P:Program} {w:World} {k:Key} {u:Value} (h:(bc P w).is k u=true):RelV (kV k) u:=by
 rcases bK h with ⟨i,t,rfl,rfl⟩ | ⟨x,t,rfl,rfl⟩
 ·exact ⟨t,rfl⟩
 ·exact ⟨t,rfl⟩
theorem KV.get {kvs:List (Key×V)} {vs:List (Key×Value)} (r:KV kvs vs) {i:Nat} {k:Key} {x:Value} (e:vs[i]?=some (k,x)):∃ v,kvs[i]?=some (k,v):=by
 unfold KV at r
 induction r generalizing i with
 | nil=>simp at e
 | @cons p q ps qs h t ih=>
  cases i with
  | zero=>simp at e;subst e;exact ⟨p.2,by rw [show p=(k,p.2) from Prod.ext h.1 rfl];rfl⟩
  | succ i=>simpa using ih (by simpa using e)
theorem zU {P:Program} {w:World} {H:Hp} {h:Heap} {d:Addr} {o:Obj} {es:Array DictEntry} {ep:Nat} {kvs:List (Key×V)} (ok:HOk P w H h) (hd:o.data=.dict es ep) (e:H d=some (.frz o (.dK kvs))) :
  (d == sysModules)=false∧kvs.length≤sizeLine∧kvs.length=es.size∧∃ vs,KV kvs vs∧h.DictAt (bc P w) d vs ep:=by
 obtain ⟨e1,z1,z2,vs,rel,o',es',ep',e2,c,hd',ks,ps,nd⟩:=ok d _ e
 rw [e1] at e2
 cases e2
 rw [hd] at hd'
 cases hd'
 exact ⟨z2,z1,by rw [rel.length,← ps.length];simp,vs,rel,o,es,e1,c,hd,ks,ps,nd⟩
section
variable {X:Cx} {WE:WX} {tg l:Expr} {xl:XE}
end
section
variable {X:Cx}
end
def dC (kvs more:List (Key×D)):List (Key×D):=more.foldl (fun acc kv=>putD acc kv.1 kv.2) kvs
def trP (K:PySem.W.Frag) (mg:Str→Option Value) (WE:WX) (ms:List (XE×XE)):List (TE×TE):=ms.map fun m=>(trE K mg WE m.1,trE K mg WE m.2)
structure RP (X:Cx) (WE:WX) (pos:Pos) (ks:List (Option Expr)) (vs:List Expr) (ms:List (XE×XE)):Prop where
 h:PPs X pos ks vs (trP X.K X.mg WE ms)
section
variable {X:Cx} {WE:WX} {pos:Pos}
inductive sE (K:PySem.W.Frag) (mg:Str→Option Value) (μ:Nat→Addr) (S:Sto) (H:Hp):List (V×V)→List (Vl×Vl)→Prop
 | nil:sE K mg μ S H [] []
 | cons {v w:V} {x y:Vl} {vs:List (V×V)} {xs:List (Vl×Vl)}:aO K mg μ S H v x→aO K mg μ S H w y→sE K mg μ S H vs xs→sE K mg μ S H ((v,w) :: vs) ((x,y) :: xs)
theorem qf {G:Hp}:∀ {l kvs:List (Key×D)} {vs ws:List V},av G vs (l.map (·.2))→av G ws (kvs.map (·.2))→∃ us,us.length=(dC kvs l).length∧cv ((kvs.map (·.1)).zip ws) ((l.map (·.1)).zip vs)=((dC kvs l).map (·.1)).zip us∧av G us ((dC kvs l).map (·.2))
 | [],kvs,_,ws,.nil,r=>⟨ws,by have:=r.length;simpa [dC] using this,rfl,r⟩
 | p :: l,kvs,_,ws,.cons (v:=v) (vs:=vs) h t,r=>by
  obtain ⟨us,lu,eu,ru⟩:=Cb p.1 h r
  obtain ⟨us2,l2,e2,r2⟩:=qf (l:=l) (kvs:=putD kvs p.1 p.2) t ru
  refine ⟨us2,l2,?_,r2⟩
  rw [← eu] at e2
  exact e2
end
section
variable {X:Cx} {WE:WX} {e:Expr} {es:List Expr} {pos:Pos} {K:PySem.W.Frag} {mg:Str→Option Value}
end
set_option maxRecDepth 100000
section
variable {prog:Program} {w:World} {A:Around} {E:Value→Shared→Prop} {s:Shared}
end
section
variable {X:Cx} {WE:WX} {K:PySem.W.Frag} {mg:Str→Option Value} {μ:Nat→Addr} {S:Sto} {H:Hp}
end
section
variable {X:Cx} {WE:WX}
end
section
variable {prog:Program} {w:World} {A:Around} {E:Value→Shared→Prop} {s:Shared} {z TI TO i1 i2:Addr} {fp1 fp2:List Addr} {n1 n2 k:Nat} {P1 P2:Nat→Value→Prop} {S1 S2:Nat→Heap→Prop}
set_option hygiene false in
local macro_rules | `(tactic| walk_at "zi") => `(tactic| (
  have q1:S1 k g0:=D1.frame _ _ _ h1 fun c hc o q=>e0.extBut c o (fun y=>D.z1 (y ▸ hc)) q
  have q2:S2 k g0:=D2.frame _ _ _ h2 fun c hc o q=>e0.extBut c o (fun y=>D.z2 (y ▸ hc)) q
  refine wpAny_bind (wpAny_bind (wpAny_bind (wpAny_holding ?_)))
  refine (show wpAny _ _ (Builtin.SmallTypes.nextOf (.ref i1)>>=_) _ _ _ from wpAny_bind (D1.item k _ _ _ l1 q1 fun x g2 t2 p1 q1' e2=>wpAny_pure (wpAny_pure ?_)))
  replace e2:Heap.SameBut i1 g0 g2:=e2
  refine wpAny_bind (wpAny_bind (wpAny_holding ?_))
  have r2:S2 k g2:=D2.frame _ _ _ q2 fun c hc o q=>e2.extBut c o (fun y=>D.i12 (y ▸ hc)) q
  refine (show wpAny _ _ (Builtin.SmallTypes.nextOf (.ref i2)>>=_) _ _ _ from wpAny_bind (D2.item k _ _ _ l2 r2 fun y g4 t4 p2 r2' e4=>wpAny_pure (wpAny_pure (wpAny_pure ?_))))
  replace e4:Heap.SameBut i2 g2 g4:=e4
  refine wpAny_bind (wpAny_newTuple ?_ (by show 2≤sizeLine;decide))
  have hsz:g4.objs.size=s.heap.objs.size:=by rw [e4.1,e2.1,e0.1]
  refine wpAny_pure ⟨_,rfl,?_⟩
  show Q (.ref g4.objs.size) _
  rw [hsz]
  have up:∀ c o,g4.get? c=some o→(g4.push { cls:=.type "tuple",data:=.seq #[x,y] }).get? c=some o:=fun c o q=>Heap.get?_push_of_some _ q
  refine hQ x y _ _ p1 p2 (up _ _ (e4.extBut _ _ D.i2z.symm (e2.extBut _ _ D.i1z.symm hz0))) (up _ _ (e4.extBut _ _ D.TI2 (e2.extBut _ _ D.TI1 (e0.extBut _ _ D.TIz hTI)))) ?_ ?_ ?_ fun c o c1 _ c3 c4 q=>up _ _ (e4.extBut _ _ c4 (e2.extBut _ _ c3 (e0.extBut _ _ c1 q)))
  ·exact D1.frame _ _ _ q1' fun c hc o q=>up _ _ (e4.extBut c o (fun y=>D.i21 (y ▸ hc)) q)
  ·exact D2.frame _ _ _ r2' fun c hc o q=>up _ _ q
  ·rw [← hsz];exact Heap.get?_push_size _ rfl
 ))
set_option hygiene false in
local macro_rules | `(tactic| walk_at "ze") => `(tactic| (
  have q1:S1 k g0:=D1.frame _ _ _ h1 fun c hc o q=>e0.extBut c o (fun y=>D.z1 (y ▸ hc)) q
  have q2:S2 k g0:=D2.frame _ _ _ h2 fun c hc o q=>e0.extBut c o (fun y=>D.z2 (y ▸ hc)) q
  refine wpAny_bind (wpAny_bind (wpAny_bind (wpAny_holding ?_)))
  rcases hend with hk | ⟨hk,hk2⟩
  ·subst hk
   refine (show wpAny _ _ (Builtin.SmallTypes.nextOf (.ref i1)>>=_) _ _ _ from wpAny_bind (D1.done _ _ _ q1 fun g2 e e2 he=>?_))
   replace e2:Heap.ExtBut i1 g0 g2:=e2
   exact hE g2 e _ (fun c o c1 _ c3 _ q=>e2 _ _ c3 (e0.extBut _ _ c1 q)) he
  ·subst hk2
   refine (show wpAny _ _ (Builtin.SmallTypes.nextOf (.ref i1)>>=_) _ _ _ from wpAny_bind (D1.item k _ _ _ hk q1 fun x g2 t2 p1 q1' e2=>wpAny_pure (wpAny_pure ?_)))
   replace e2:Heap.SameBut i1 g0 g2:=e2
   refine wpAny_bind (wpAny_bind (wpAny_holding ?_))
   have r2:S2 k g2:=D2.frame _ _ _ q2 fun c hc o q=>e2.extBut c o (fun y=>D.i12 (y ▸ hc)) q
   refine (show wpAny _ _ (Builtin.SmallTypes.nextOf (.ref i2)>>=_) _ _ _ from wpAny_bind (D2.done _ _ _ r2 fun g4 e e4 he=>?_))
   replace e4:Heap.ExtBut i2 g2 g4:=e4
   exact hE g4 e _ (fun c o c1 _ c3 c4 q=>e4 _ _ c4 (e2.extBut _ _ c3 (e0.extBut _ _ c1 q))) he
 ))
end
set_option maxRecDepth 100000
theorem fH:entryFor table "dict.update.loop"=some Builtin.«dict.update.loop»:=entryFor_of_tree (by rfl)
theorem cC:plainId "dict.update.loop"=true:=by decide +kernel
structure vY (prog:Program) (w:World) (A:Around) (I d:Addr) (wr:List Addr) (ps:List (Key×V)) (St:Nat→Heap→Prop):Prop where
 nd:d∉wr
 frame:∀ i h h',St i h→(∀ b o,b≠d→h.get? b=some o→h'.get? b=some o)→St i h'
 item:∀ i (s:Shared) (Q:Option Value→Shared→Prop) (E:Value→Shared→Prop),i < ps.length→St i s.heap→d < s.heap.objs.size →
  (∀ T k v x y h' tk,ps[i]?=some (k,v)→(bc prog w).is k x=true→RelV v y→h'.IsTuple T #[x,y]→St (i+1) h'→(∀ b o,b∉wr→s.heap.get? b=some o→h'.get? b=some o)→Q (some (.ref T)) { s with heap:=h',toks:=tk }) →
  wpAny (model prog w) A (pyNext (.ref I)) Q E s
 done:∀ (s:Shared) (Q:Option Value→Shared→Prop) (E:Value→Shared→Prop),St ps.length s.heap→(∀ h' tk,(∀ b o,b∉wr→s.heap.get? b=some o→h'.get? b=some o)→Q none { s with heap:=h',toks:=tk })→wpAny (model prog w) A (pyNext (.ref I)) Q E s
theorem qO (kvs:List (Key×V)) (ps:List (Key×V)) (k:Key) (v:V):cv kvs (ps++[(k,v)])=putK (cv kvs ps) k v:=by simp [cv,List.foldl_append]
theorem qK {prog:Program} {w:World} {A:Around} {I d:Addr} {wr:List Addr} {ps:List (Key×V)} {St:Nat→Heap→Prop} {R:Result→Shared→Prop} (W:vY prog w A.in1 I d wr ps St) (hn:ps.length≤100000) (res:Value) :
  ∀ (k i:Nat) (t:Tok) (s:Shared) (kvs:List (Key×Value)),ps.length - i=k→i≤ps.length→St i s.heap→s.heap.DictOf (bc prog w) d kvs→KV (cv [] (ps.take i)) kvs →
  (∀ h' tk kvs',h'.DictOf (bc prog w) d kvs'→KV (cv [] ps) kvs'→(∀ b o,b≠d→b∉wr→s.heap.get? b=some o→h'.get? b=some o)→R (.ok (.ret res)) { s with heap:=h',toks:=tk }) →
  codeAny (model prog w) A (.builtin "dict.update.loop" ⟨[.ref d,.ref I,.int i t,res],[]⟩) R s:=by
 intro k
 induction k with
 | zero=>
  intro i t s kvs hk hi hst hd hkv hR
  have hin:i=ps.length:=by omega
  subst hin
  rw [List.take_length] at hkv
  refine codeAny_builtin fH ?_
  rw [Around.under_plainId cC _]
  show wpAny _ A.in1 (pyNext (.ref I)>>=_) _ _ s
  refine wpAny_bind (W.done s _ _ hst fun h' tk hkp=>?_)
  refine wpAny_bind (wpAny_pure (wpAny_pure ?_))
  obtain ⟨o,es,ep,ho,r⟩:=hd
  exact hR h' tk kvs ⟨o,es,ep,hkp d o W.nd ho,r⟩ hkv fun b o _ hb e=>hkp b o hb e
 | succ k ih=>
  intro i t s kvs hk hi hst hd hkv hR
  have hlt:i < ps.length:=by omega
  refine codeAny_builtin fH ?_
  rw [Around.under_plainId cC _]
  show wpAny _ A.in1 (pyNext (.ref I)>>=_) _ _ s
  have hdl:d < s.heap.objs.size:=by obtain ⟨o,es,ep,ho,r⟩:=hd;exact Heap.lt_size ho
  refine wpAny_bind (W.item i s _ _ hlt hst hdl fun T key v x y h' tk hps hkey hv hT hst' hkp=>?_)
  have hd':h'.DictOf (bc prog w) d kvs:=by obtain ⟨o,es,ep,ho,r⟩:=hd;exact ⟨o,es,ep,hkp d o W.nd ho,r⟩
  have htk:ps.take (i+1)=ps.take i++[(key,v)]:=by rw [List.take_add_one,hps];rfl
  have hkv':KV (cv [] (ps.take (i+1))) (stored kvs key y):=by
   rw [htk,qO]
   exact hkv.put key hv
  obtain ⟨oT,hoT,hcT,nT,hdT⟩:=hT
  refine wpAny_bind (wpAny_holding (wpAny_bind (wpAny_tryCatch ?_)))
  unfold Builtin.Dict.pairItems
  refine wpAny_bind (wpAny_typeOf (T:="tuple") ⟨oT,hoT,hcT⟩ ?_)
  refine wpAny_ite_true (by rfl) ?_
  refine wpAny_bind (wpAny_seqItems hoT hdT (wpAny_pure ?_))
  have lk:kvs.length≤sizeLine:=by
   have l1:=hkv.length
   have l2:=fC (ps.take i) []
   rw [List.length_take,List.length_nil] at l2
   rw [sizeLine_eq]
   omega
  refine wpAny_holding (wpAny_dictSet_pairs (knd:=bc prog w) (hsz:=lk) hkey hd' fun h2 hd2 hs2=>?_)
  refine wpAny_pure ⟨plainId_quiet cC _,?_⟩
  refine ih (i+1) _ _ _ (by omega) hlt (W.frame _ _ _ hst' fun b o hb e=>(hs2.2 b hb).trans e) hd2 hkv' fun h3 tk3 kvs3 a b c=>hR h3 tk3 kvs3 a b fun b' o hb hw e=>c b' o hb hw ((hs2.2 b' hb).trans (hkp b' o hw e))
theorem oW:typeLookup (.type "list") "keys"=pure none:=by rw [typeLookup_type,builtinLookup_eq_fast];rfl
theorem uc {prog:Program} {w:World} {A:Around} {E:Value→Shared→Prop} {s:Shared} {a:Addr} {xs:Array Value} {k:Nat} {Q:Option Value→Shared→Prop} (hx:s.heap.get? a=some { cls:=.type "list",dict:=none,data:=.seq xs k,slots:=#[] }) (hA:A.handled=none)
  (h:∀ h' tk,(∀ b o,s.heap.get? b=some o→h'.get? b=some o)→Q none { s with heap:=h',toks:=tk }):wpAny (model prog w) A (getAttr? (.ref a) "keys") Q E s:=by
 obtain ⟨hp,g,d,tk,os⟩:=s
 have hT:∀ tk',(⟨hp,g,d,tk',os⟩:Shared).TypeIs (.ref a) "list":=fun _=>⟨_,hx,rfl⟩
 have f1:=sub_AttributeError
 have f3:=F.slot_list_getattribute.lookup
 have f4:=F.slot_list_getattribute.bind (.ref a)
 have f5:=am_list_getattr_none
 unfold getAttr? getAttrBy? getAttrBy
 repeat (any_goals (first | assumption | exact hT _ | ((with_reducible show wpAny _ _ (call (Value.builtin "list.__getattribute__") _ _) _ _ _);refine call_meets F.slot_list_getattribute (hT _) am_entry_list_getattribute (F.args_list_getattribute_2 _ _) (meets_getattribute_miss_list a xs k #[] "keys" _ oW (by decide +kernel) (by decide +kernel)) ⟨hx,hA,fun h' tk' e hx'=>?_⟩) | wp_step))
 obtain ⟨t',u',he⟩:=hx'.there
 show wpAny _ _ (getattributeRaised _ _ _ _ _ _ _) _ _ _
 unfold getattributeRaised
 repeat (any_goals (first | assumption | wp_step))
 exact h _ _ hx'.keeps
set_option maxRecDepth 100000
section
variable {prog:Program} {w:World} {A:Around} {E:Value→Shared→Prop} {s:Shared}
theorem qL {src:Addr} {ps:List (Key×V)} {T:String} {wr0:List Addr} {Q:Value→Shared→Prop} (hh:A.handled=none) (hn:ps.length≤100000) (hT:∀ s':Shared,(∀ b o,s.heap.get? b=some o→s'.heap.get? b=some o)→s'.TypeIs (.ref src) T) (hne:(Value.type T == Value.type "dict")=false)
  (hkeys:∀ (s':Shared) (A':Around) (E':Value→Shared→Prop) (Q':Option Value→Shared→Prop),(∀ b o,s.heap.get? b=some o→s'.heap.get? b=some o)→A'.handled=none→(∀ h' tk,(∀ b o,s'.heap.get? b=some o→h'.get? b=some o)→Q' none { s' with heap:=h',toks:=tk })→wpAny (model prog w) A' (getAttr? (.ref src) "keys") Q' E' s')
  (hit:∀ (s':Shared) (A':Around) (E':Value→Shared→Prop) (Q':Value→Shared→Prop),(∀ b o,s.heap.get? b=some o→s'.heap.get? b=some o)→s.heap.objs.size < s'.heap.objs.size→(∀ (I:Addr) (wr:List Addr) (St:Nat→Heap→Prop) h' tk,(∀ b o,s'.heap.get? b=some o→h'.get? b=some o)→St 0 h'→(∀ b o,b∉wr0→s.heap.get? b=some o→b∉wr)→(∀ A'':Around,A''.handled=none→vY prog w A'' I s.heap.objs.size wr ps St)→Q' (.ref I) { s' with heap:=h',toks:=tk })→wpAny (model prog w) A' (pyIter (.ref src)) Q' E' s')
  (h:∀ h' tk kvs',h'.DictOf (bc prog w) s.heap.objs.size kvs'→KV (cv [] ps) kvs'→(∀ b o,b∉wr0→s.heap.get? b=some o→h'.get? b=some o)→Q (.ref s.heap.objs.size) { s with heap:=h',toks:=tk }) :
  wpAny (model prog w) A (call (.type "dict") [.ref src]) Q E s:=by
 refine callType_codes (Q₁:=fun obj s₁=>obj=.ref s.heap.objs.size∧s₁={ s with heap:=s.heap.push { cls:=.type "dict",data:=.dict #[] } }) F.kt_called_dict (F.kt_typeCall_dict_1 _) F.entry_dict_init (kt_code_dict_new _ ⟨rfl,rfl⟩) ?_
 rintro obj s₁ ⟨rfl,rfl⟩
 have hnew:(s.heap.push { cls:=.type "dict",data:=.dict #[] }).DictOf (bc prog w) s.heap.objs.size []:=Heap.DictOf.new s.heap
 have up:∀ b o,s.heap.get? b=some o→(s.heap.push { cls:=.type "dict",data:=.dict #[] }).get? b=some o:=fun b o e=>Heap.get?_push_of_some _ e
 refine ⟨hnew.typeIs,F.args_dict_init_2 _ _,?_⟩
 unfold Builtin.«dict.__init__»
 refine wpAny_bind ?_
 unfold Builtin.Dict.selfAndRest
 refine wpAny_bind (wpAny_notOrdered_dict hnew.typeIs ?_)
 show wpAny _ _ (pure (s.heap.objs.size,[Value.ref src])) _ _ _
 refine wpAny_pure ?_
 show wpAny _ _ (Builtin.Dict.updateFrom "dict.__init__" s.heap.objs.size (.ref src) [] .none) _ _ _
 unfold Builtin.Dict.updateFrom
 refine wpAny_bind (wpAny_typeOf (hT _ up) ?_)
 refine wpAny_ite_true (by show decide ((Value.type T != Value.type "dict")=true)=true;simp [bne,hne]) ?_
 refine wpAny_bind (hkeys _ _ _ _ up hh fun h1 t1 k1=>?_)
 refine wpAny_ite_true rfl (wpAny_bind (wpAny_rule (wpAny_bind ?_)))
 refine hit _ _ _ _ (fun b o e=>k1 b o (up b o e)) ?_ fun I wr St h2 t2 k2 st2 hw W=>wpAny_pure ⟨plainId_quiet cC _,?_⟩
 ·have e0:(s.heap.push { cls:=.type "dict",data:=.dict #[] }).get? s.heap.objs.size=some _:=Heap.get?_push_size _ rfl
  exact Heap.lt_size (k1 _ _ e0)
 ·have hd2:h2.DictOf (bc prog w) s.heap.objs.size []:=by
   obtain ⟨o,es,ep,ho,r⟩:=hnew
   exact ⟨o,es,ep,k2 _ _ (k1 _ _ ho),r⟩
  refine qK (W A.in1.in1 hh) hn .none ps.length 0 _ _ [] rfl (Nat.zero_le _) st2 hd2 .nil fun h3 t3 kvs3 d3 r3 k3=>⟨rfl,h h3 t3 kvs3 d3 r3 fun b o hb e=>k3 b o (Nat.ne_of_lt (Heap.lt_size e)) (hw b o hb e) (k2 b o (k1 b o (up b o e)))⟩
end
section
variable {X:Cx}
end
section
variable {X:Cx} {WE:WX}
end
set_option maxRecDepth 100000
inductive b6 (H:Hp):List V→List (Key×V)→Prop
 | nil:b6 H [] []
 | cons {T:Addr} {k:Key} {v:V} {vs:List V} {ps:List (Key×V)}:H T=some (.tup [kV k,v])→b6 H vs ps→b6 H (.ref T :: vs) ((k,v) :: ps)
theorem b6.length {H:Hp}:∀ {vs:List V} {ps:List (Key×V)},b6 H vs ps→vs.length=ps.length
 | _,_,.nil=>rfl
 | _,_,.cons _ t=>by simp [b6.length t]
def rDL:List V→Hp→VK→Prop:=fun vs H Q=>∃ (a:Addr) (us:List V) (ps:List (Key×V)),vs=[.ref a]∧H a=some (.lst us)∧b6 H us ps∧ps.length≤100000∧∀ p,H p=none→Q (.ref p) (upd H p (.dK (cv [] ps)))
def StL (l I:Addr) (its:Array Value) (tl:List (Addr×Array Value)) (i:Nat) (h:Heap):Prop:=h.IsListIter I l i∧h.IsList l its∧∀ p∈tl,h.IsTuple p.1 p.2
theorem src_list {prog:Program} {w:World} {A:Around} {d l I:Addr} {its:Array Value} {tl:List (Addr×Array Value)} {ps:List (Key×V)} (hh:A.handled=none) (hI:I≠l) (dI:d≠I) (dl:d≠l) (hd:∀ p∈tl,p.1≠d∧p.1≠I) (hl:its.size=ps.length)
  (hp:∀ i,i < ps.length→∃ T k v x y,its[i]?=some (.ref T)∧ps[i]?=some (k,v)∧(T,#[x,y])∈tl∧(bc prog w).is k x=true∧RelV v y):vY prog w A I d [I] ps (StL l I its tl) where
 nd:=by simpa using dI
 frame:=fun i h h' st k=>⟨st.1.at fun o e=>k _ o (Ne.symm dI) e,st.2.1.at fun o e=>k _ o (Ne.symm dl) e,fun p hpp=>(st.2.2 p hpp).at fun o e=>k _ o (hd p hpp).1 e⟩
 item:=fun i s Q E hi st hlt hQ=>by
  obtain ⟨T,k,v,x,y,h1,h2,h3,h4,h5⟩:=hp i hi
  obtain ⟨a,b,c⟩:=st
  refine wpAny_pyNext_list_item a b h1 fun h' a' sb=>?_
  have kp:∀ b o,b≠I→s.heap.get? b=some o→h'.get? b=some o:=fun b o hb e=>(sb.2 b hb).trans e
  refine hQ T k v x y h' s.toks h2 h4 h5 ((c _ h3).at fun o e=>kp _ o (hd _ h3).2 e) ⟨a',b.at fun o e=>kp _ o (Ne.symm hI) e,fun p hpp=>(c p hpp).at fun o e=>kp _ o (hd p hpp).2 e⟩ fun b' o hb e=>kp b' o (fun z=>hb (by simp [z])) e
 done:=fun s Q E st hQ=>by
  obtain ⟨a,b,c⟩:=st
  exact wpAny_pyNext_list_end hh a b (by simp [hl]) fun h' eb=>hQ h' s.toks fun b' o hb e=>eb b' o (fun z=>hb (by simp [z])) e
theorem nM {X:Cx} {pins:List (Addr×Obj)} {σ:St} {H:Hp} {s:Shared} (I:Inv X pins σ H s):∀ {us:List V} {ps:List (Key×V)} {its:List Value},b6 H us ps→Vals us its →
  ∃ tl:List (Addr×Array Value),(∀ p∈tl,s.heap.IsTuple p.1 p.2)∧∀ i,i < ps.length→∃ T k v x y,its[i]?=some (.ref T)∧ps[i]?=some (k,v)∧(T,#[x,y])∈tl∧(bc X.prog X.w).is k x=true∧RelV v y
 | _,_,_,.nil,_=>⟨[],by simp,fun i hi=>by simp at hi⟩
 | _,_,_,@b6.cons _ T k v vs ps hT t,.cons r rs=>by
  cases r
  obtain ⟨tl,h1,h2⟩:=nM I t rs
  obtain ⟨xs,rx,px,hz⟩:=I.tuple (SqT.of (K:=X.K) hT)
  cases rx with
  | cons r1 rx=>cases rx with
   | cons r2 rx=>
    cases rx
    rename_i x y
    refine ⟨(T,#[x,y]) :: tl,fun p hp=>?_,fun i hi=>?_⟩
    ·rcases List.mem_cons.mp hp with z | z
     ·rw [z];exact px
     ·exact h1 p z
    ·cases i with
     | zero=>exact ⟨T,k,v,x,y,rfl,rfl,by simp,mG r1,r2⟩
     | succ i=>
      obtain ⟨T',k',v',x',y',a,b,c,d,e⟩:=h2 i (by simpa using hi)
      exact ⟨T',k',v',x',y',by simpa using a,by simpa using b,by simp [c],d,e⟩
theorem jh {X:Cx} (hc:X.calm=true):bt X (.type "dict") rDL:=by
 intro pins s σ H xs us Q I r h
 obtain ⟨a,vs,ps,rfl,hH,hp,hl,q⟩:=h
 obtain ⟨u,rfl,rx⟩:=vals1 r
 cases rx
 have hh:X.A.handled=none:=I.ok.hd hc
 obtain ⟨its,rv,pl,hz⟩:=I.list (SqL.of (K:=X.K) hH)
 obtain ⟨zz,its',n,rv',g1⟩:=(show bA X.prog X.w H s.heap a (.lst vs) from I.hok a _ hH)
 obtain ⟨tl,t1,t2⟩:=nM I hp rv'
 have lp:=hp.length
 have lv:=rv'.length
 have hil:s.heap.IsList a its'.toArray:=⟨_,g1,rfl,n,rfl⟩
 have lta:a < s.heap.objs.size:=Heap.lt_size g1
 refine qL (T:="list") (wr0:=[]) hh hl (fun s' k=>⟨_,k _ _ g1,rfl⟩) (by decide) (fun s' A' E' Q' k hA hQ'=>uc (k _ _ g1) hA hQ') (fun s' A' E' Q' k hlt hQ'=>?_) fun h3 t3 kvs3 d3 r3 k3=>?_
 ·refine wpAny_pyIter_list (hil.at fun o e=>k _ o e) ?_
  have up:∀ b o,s'.heap.get? b=some o→(s'.heap.push { cls:=.type "list_iterator",data:=.fields #[.ref a,.int 0 0] }).get? b=some o:=fun b o e=>Heap.get?_push_of_some _ e
  refine hQ' s'.heap.objs.size [s'.heap.objs.size] (StL a s'.heap.objs.size its'.toArray tl) _ s'.toks up ⟨⟨_,Heap.get?_push_size _ rfl,rfl,rfl⟩,hil.at fun o e=>up _ _ (k _ o e),fun p hpp=>(t1 p hpp).at fun o e=>up _ _ (k _ o e)⟩ (fun b o _ e=>?_) fun A'' hA=>?_
  ·have:=Heap.lt_size (k b o e)
   simpa using Nat.ne_of_lt this
  ·refine src_list hA (Nat.ne_of_gt (Nat.lt_trans lta hlt)) (Nat.ne_of_lt hlt) (Nat.ne_of_gt lta) (fun p hpp=>?_) (by simp;omega) (fun i hi=>?_)
   ·obtain ⟨o,e,_⟩:=t1 p hpp
    have:=Heap.lt_size e
    exact ⟨Nat.ne_of_lt this,Nat.ne_of_lt (Nat.lt_trans this hlt)⟩
   ·obtain ⟨T,k',v,x,y,b1,b2,b3,b4,b5⟩:=t2 i hi
    exact ⟨T,k',v,x,y,by simpa using b1,b2,b3,b4,b5⟩
 ·have sz:(cv [] ps).length≤sizeLine:=by
   have:=fC ps []
   rw [List.length_nil] at this
   rw [sizeLine_eq]
   omega
  exact ⟨.ref s.heap.objs.size,_,I.laid (t':=t3) (a:=s.heap.objs.size) (o:=.dK (cv [] ps)) (fun b o e=>k3 b o (by simp) e) (Nat.le_refl _) (BI sz (beq_eq_false_iff_ne.mpr (Ne.symm (Nat.ne_of_lt I.big))) r3 d3),rfl,q _ (I.hok.fresh (Nat.le_refl _))⟩
def dS:List D→Option (List (Key×D))
 | []=>some []
 | .tup [x,y] :: r=>(match i8 x,dS r with
  | some k,some l=>some ((k,y) :: l)
  | _,_=>none)
 | _=>none
theorem kU {G:Hp}:∀ {vs:List V} {ds:List D} {l:List (Key×D)},av G vs ds→dS ds=some l→∃ us:List V,us.length=l.length∧b6 G vs ((l.map (·.1)).zip us)∧av G us (l.map (·.2))
 | _,_,_,.nil,e=>by cases e;exact ⟨[],rfl,.nil,.nil⟩
 | _,_,l,@av.cons _ v d vs ds r t,e=>by
  unfold dS at e
  split at e
  ·cases ‹_=[]›
  ·rename_i x y r' heq
   cases heq
   split at e
   ·rename_i k l' hk hl'
    cases e
    obtain ⟨us,h1,h2,h3⟩:=kU t hl'
    cases r with
    | tup h rs=>cases rs with
     | cons ra rs=>cases rs with
      | cons rb rs=>
       cases rs
       rw [m_ ra hk] at h
       exact ⟨_ :: us,by simp [h1],.cons h h2,.cons rb h3⟩
   ·cases e
  ·cases e
theorem b6.mono {H H':Hp} (k:di H H'):∀ {vs:List V} {ps:List (Key×V)},b6 H vs ps→b6 H' vs ps
 | _,_,.nil=>.nil
 | _,_,.cons h t=>.cons (k _ _ h) (b6.mono k t)
def fDL (xs:List Vl) (S:Sto):R Vl:=match xs with
 | [x]=>(match (b7 x S).bind dS with
  | some l=>if l.length≤100000 then .ok (.r S.length) (S++[.dct (dC [] l)]) else .bad
  | none=>.bad)
 | _=>.bad
theorem ju {K:PySem.W.Frag} {mg:Str→Option Value}:dR K mg rDL fDL:=by
 intro WE μ S H vs xs Q hr rs p
 unfold fDL at p
 split at p
 ·obtain ⟨v,rfl,r⟩:=rs.one
  split at p
  ·rename_i l e
   split at p
   ·rename_i hl
    obtain ⟨ds,e1,e2⟩:=Option.bind_eq_some_iff.mp e
    obtain ⟨a,us,rfl,ha,rr⟩:=cV hr r e1
    obtain ⟨ws,lw,pa,rw'⟩:=kU rr e2
    obtain ⟨us3,l3,e3,r3⟩:=qf (kvs:=[]) (ws:=[]) rw' av.nil
    refine ⟨a,us,_,rfl,ha,pa.mono ff,by rw [List.length_zip,List.length_map,lw,Nat.min_self];exact hl,fun q hq=>?_⟩
    have e4:cv [] ((l.map (·.1)).zip ws)=((dC [] l).map (·.1)).zip us3:=e3
    rw [e4]
    exact p _ _ _ (Step.alloc hr hq (ob:=.dct (dC [] l)) ⟨us3,l3,rfl,r3⟩) ⟨by rw [cG],by simp⟩
   ·exact p.elim
  ·exact p.elim
 ·exact p.elim
def uV:List V→Hp→VK→Prop:=fun vs H Q=>∃ (p:Addr) (o:Obj) (kvs:List (Key×V)),vs=[.ref p]∧H p=some (.frz o (.dK kvs))∧∀ l:Addr,H l=none→Q (.ref l) (upd H l (.lst (kvs.map fun kv=>kV kv.1)))
theorem sF {X:Cx} (hc:X.calm=true):bt X (.type "list") uV:=by
 intro pins s σ H xs us Q I r h
 obtain ⟨p,o,kvs,rfl,hH,q⟩:=h
 obtain ⟨u,rfl,rx⟩:=vals1 r
 cases rx
 have hh:=I.ok.hd hc
 obtain ⟨e1,_,_,_,_,o',es,ep,e2,_,hd,_⟩:=I.hok p _ hH
 rw [e1] at e2
 cases e2
 obtain ⟨z2,z1,lk,vs,rel,da⟩:=zU I.hok hd hH
 have lv:=rel.length
 refine PySem.W.kdl_call (PySem.W.kdl_dict (knd:=bc X.prog X.w) (kvs:=vs) (ep:=ep) z2) hh da (by omega) fun h' tk acc c hkp hS hacc=>?_
 refine ⟨.ref s.heap.objs.size,_,I.laid (t':=tk) (a:=s.heap.objs.size) (o:=.lst (kvs.map fun kv=>kV kv.1)) hkp (Nat.le_refl _) ⟨by rw [List.length_map];exact z1,acc.toList,c,?_,by simpa using hS⟩,rfl,q _ (I.hok.fresh (Nat.le_refl _))⟩
 have all:∀ (n:Nat) (ys:List Value) (ks:List (Key×V)),ys.length=ks.length→(∀ (j:Nat) (v:Value),ys[j]?=some v→∃ k x,ks[j]?=some (k,x)∧RelV (kV k) v)→Vals (ks.map fun kv=>kV kv.1) ys:=by
  intro n ys
  induction ys with
  | nil=>intro ks hl _;cases ks with
   | nil=>exact .nil
   | cons _ _=>simp at hl
  | cons y ys ih=>
   intro ks hl hj
   cases ks with
   | nil=>simp at hl
   | cons k ks=>
    obtain ⟨k',x',e,r⟩:=hj 0 y rfl
    simp at e
    subst e
    exact .cons r (ih ks (by simpa using hl) fun j v hv=>by simpa using hj (j+1) v (by simpa using hv))
 refine all 0 _ _ (by rw [Array.length_toList,hacc.1];omega) fun j v hv=>?_
 obtain ⟨k,x,hx,hi⟩:=hacc.2 j v (by simpa using hv)
 obtain ⟨w,hw⟩:=rel.get hx
 exact ⟨k,w,hw,z4 (P:=X.prog) (w:=X.w) hi⟩
def kx (xs:List Vl) (S:Sto):R Vl:=match xs with
 | [.fd kvs]=>.ok (.d (.lst (kvs.map fun kv=>kD kv.1))) S
 | _=>.bad
theorem tu {K:PySem.W.Frag} {mg:Str→Option Value}:dR K mg uV kx:=by
 intro WE μ S H vs xs Q hr rs p
 unfold kx at p
 split at p
 ·obtain ⟨v,rfl,r⟩:=rs.one
  rename_i kvs
  obtain ⟨a,us,o,rfl,l,h,rr⟩:=r
  refine ⟨a,o,_,rfl,(bf h).2,fun l' hl=>?_⟩
  have e:(((kvs.map (·.1)).zip us).map fun kv=>kV kv.1)=kvs.map fun kv=>kV kv.1:=by
   have h1:((kvs.map (·.1)).zip us).map Prod.fst=kvs.map (·.1):=List.map_fst_zip (by simp [l])
   have h2:=congrArg (List.map kV) h1
   rw [List.map_map,List.map_map] at h2
   exact h2
  rw [e]
  have rk:∀ ks:List (Key×D),av (vh μ S H) (ks.map fun kv=>kV kv.1) (ks.map fun kv=>kD kv.1):=fun ks=>by
   induction ks with
   | nil=>exact .nil
   | cons k ks ih=>exact .cons (Cd k.1) ih
  exact p.jr hr (rk kvs) l' hl
 ·exact p.elim
theorem iS {n d k:Nat}:HT.sIx n d (some (k:Int))=min k n:=by
 unfold HT.sIx
 first | (dsimp only;split<;>omega) | (simp;omega) | omega
theorem jf {n d:Nat}:HT.sIx n d none=d:=rfl
theorem mM {xs:List D} {k:Nat}:cZ xs none (some (k:Int))=xs.take k:=by
 unfold cZ
 rw [jf,iS,List.drop_zero,Nat.sub_zero]
 by_cases h:k≤xs.length
 ·rw [Nat.min_eq_left h]
 ·rw [Nat.min_eq_right (by omega),List.take_of_length_le (Nat.le_refl _),List.take_of_length_le (by omega)]
theorem lD {xs:List D} {k:Nat}:cZ xs (some (k:Int)) none=xs.drop k:=by
 unfold cZ
 rw [jf,iS]
 by_cases h:k≤xs.length
 ·rw [Nat.min_eq_left h,List.take_of_length_le (by simp)]
 ·rw [Nat.min_eq_right (by omega),List.drop_of_length_le (Nat.le_refl _),List.drop_of_length_le (by omega)]
  simp
theorem zN {xs:List D} {a b:Nat}:cZ xs (some (a:Int)) (some (b:Int))=(xs.drop a).take (b - a):=by
 unfold cZ
 rw [iS,iS]
 by_cases h:a≤xs.length
 ·rw [Nat.min_eq_left h]
  by_cases hb:b≤xs.length
  ·rw [Nat.min_eq_left hb]
  ·rw [Nat.min_eq_right (by omega),List.take_of_length_le (by simp),List.take_of_length_le (by simp;omega)]
 ·rw [Nat.min_eq_right (show xs.length≤a by omega),List.drop_of_length_le (Nat.le_refl _),List.drop_of_length_le (by omega)]
  simp
theorem fX (ns:List Int):D.b9 (ns.map D.int)=0:=by
 induction ns with
 | nil=>rfl
 | cons n ns ih=>simp [D.b9,D.depth,ih]
theorem jX:∀ (xs ys:List Int),D.bC (xs.map D.int) (ys.map D.int)=decide (xs=ys)
 | [],[]=>by simp [D.bC]
 | [],y :: ys=>by simp [D.bC]
 | x :: xs,[]=>by simp [D.bC]
 | x :: xs,y :: ys=>by
  simp only [List.map_cons,D.bC,D.eqv,jX xs ys]
  by_cases h:x=y
  ·by_cases h2:xs=ys<;>simp [h,h2]
  ·simp [h]
theorem eV {xs:List D} {i:Nat} {z:D} (h:xs[i]?=some z):atI xs (i:Int)=some z:=by
 have hi:=(List.getElem?_eq_some_iff.mp h).1
 unfold atI
 rw [sg (by omega) (by omega)]
 show xs[((i:Nat):Int).toNat]?=_
 rw [Int.toNat_natCast];exact h
def lf2 (f:List D→D→Sto→R Vl) (xs:List D) (r:R Vl):R Vl:=r.bind fun y S2=>match y with
 | .d z=>f xs z S2
 | _=>.bad
def lf1 (f:List D→D→Sto→R Vl) (r:R Vl) (e:XE) (τ:Nv):R Vl:=r.bind fun x S1=>match x with
 | .d (.lst xs)=>lf2 f xs (e τ S1)
 | _=>.bad
theorem DQ {f:List D→D→Sto→R Vl} {o e:XE} {τ:Nv} {S:Sto}:xLf f o e τ S=lf1 f (o τ S) e τ:=ai rfl
theorem Dx {f:List D→D→Sto→R Vl} {xs:List D} {e:XE} {τ:Nv} {S:Sto}:lf1 f (.ok (.d (.lst xs)) S) e τ=lf2 f xs (e τ S):=ai rfl
theorem De {f:List D→D→Sto→R Vl} {xs:List D} {z:D} {S:Sto}:lf2 f xs (.ok (.d z) S)=f xs z S:=ai rfl
theorem DL {ns:List Int} {k:Int} {S:Sto}:Ae (ns.map D.int) (.int k) S=.ok (.d (.int (ns.count k:Nat))) S:=by
 unfold Ae
 rw [show intsOf (ns.map D.int)=some ns by rw [lH (fun x=>x) ns];simp]
def zp1 (r:R (List Vl)):R Its:=r.bind By
theorem C0 {as:XA} {τ:Nv} {S:Sto}:iZp as τ S=zp1 (as τ S):=ai rfl
theorem CF {xs ys:List D} {S:Sto}:zp1 (.ok [.d (.tup xs),.d (.tup ys)] S)=.ok ⟨sR xs ys,none⟩ S:=ai rfl
theorem Dm {xs ys:List D} {S:Sto}:zp1 (.ok [.d (.lst xs),.d (.tup ys)] S)=.ok ⟨sR xs ys,none⟩ S:=ai rfl
end L2
set_option maxHeartbeats 4000000
namespace My
open PySem L2
noncomputable def nh:XS:=(dh (wR (xSl oO (aa 0) (cR (xC (.int 12))) (cR (xC (.int 63))))) (gTu 2 (gCo (gNm 2) (gCo (gNm 3) gN0))) (aH (xOp a8 (xOp oIx (aa 1) (xOp oMod (aa 2) (xC (.int 12)))) (aa 3)) (gSb (aa 1) (xOp oMod (aa 2) (xC (.int 12))) dP)))
noncomputable def ni:XS:=(ay (aH (xN jV (ab (xSl oO (aa 0) cf (cR (xC (.int 12)))) aj)) (gNm 1))
 (ay nh
 (aG (xN mkM (ab (xFz (aa 1)) (ab (xC (.int 0)) (ab (xC (.int 0)) aj)))))))
noncomputable def jg:XF:=aP 1 4 ni
noncomputable def la:XS:=(ay (xIf (aV (xOp oGe (aa 0) (xOp oJ (xC (.int 10)) (xC (.int 18))))) (aG (aa 0)) aZ)
 (ay (aH (xOp oMod (xOp a8 (xOp a8 (xOp gq (xOp oMod (aa 0) (xC (.int 1000000007))) (xC (.int 69069))) (xOp gq (aa 1) (xC (.int 40503)))) (xC (.int 977))) (xC (.int 2147483629))) (gNm 2))
 (ay (aH (xOp oMod (xOp a8 (xOp a8 (xOp gq (aa 2) (aa 2)) (xOp gq (aa 1) (xC (.int 7919)))) (xOp oMod (aa 0) (xC (.int 65537)))) (xC (.int 2147483587))) (gNm 3))
 (ay (aH (xOp oMod (xOp a8 (xOp a8 (xOp gq (aa 3) (aa 3)) (xOp gq (aa 2) (xC (.int 31)))) (xC (.int 5))) (xC (.int 2147483563))) (gNm 4))
 (aG (xOp a8 (xOp gq (xOp a8 (xOp gq (aa 2) (xC (.int 2147483659))) (aa 3)) (xC (.int 2147483693))) (aa 4)))))))
noncomputable def eJ:XF:=aP 2 5 la
noncomputable def nC:XS:=(ay (xIf (aV (xOp oLt (xOp oIx (aa 0) (xC (.int 2))) (aa 1))) (ay (aH (xOp oIx (aa 0) (xC (.int 1))) (gNm 2))
 (ay (aH (xC (.int 0)) (gNm 3))
 (ay (xIf (aV (xOp oLt (aa 2) (xN bx (ab (xOp oIx (aa 0) (xC (.int 0))) aj)))) (aH (xOp oIx (xOp oIx (aa 0) (xC (.int 0))) (aa 2)) (gNm 3)) (xIf (aV (xOp oGt (xN bx (ab (xOp oIx (aa 0) (xC (.int 0))) aj)) (xC (.int 0)))) (aH (xOp oMod (xOp oIx (xOp oIx (aa 0) (xC (.int 0))) (xOp oMod (xOp a8 (xOp gq (aa 2) (xC (.int 5))) (xC (.int 3))) (xN bx (ab (xOp oIx (aa 0) (xC (.int 0))) aj)))) (xOp a8 (xOp oJ (xC (.int 10)) (xC (.int 17))) (aa 2))) (gNm 3)) aZ))
 (ay (aH (xOp a8 (aa 2) (xC (.int 1))) (gSb (aa 0) (xC (.int 1)) dP))
 (aH (ax eJ (ab (aa 3) (ab (aa 2) aj))) (gSb (aa 0) (xC (.int 2)) dP)))))) aZ)
 (ay (aH (xOp oMod (xOp oIx (aa 0) (xC (.int 2))) (aa 1)) (gNm 4))
 (ay (aH (xOp oDiv (xOp oIx (aa 0) (xC (.int 2))) (aa 1)) (gSb (aa 0) (xC (.int 2)) dP))
 (aG (aa 4)))))
noncomputable def aJ:XF:=aP 2 5 nC
noncomputable def kZ:XS:=(dh (iC (ab (xOp a8 (xC (.int 1)) (ax aJ (ab (aa 0) (ab (aa 1) aj)))) aj)) (gNm 4) (ay (aH (xOp a8 (aa 2) (ax aJ (ab (aa 0) (ab (xC (.int 5)) aj)))) (gNm 5))
 (ay (xIf (aV (xOp oEq (ax aJ (ab (aa 0) (ab (xC (.int 6)) aj))) (xC (.int 0)))) (aH (xOp lO (ax aJ (ab (aa 0) (ab (xC (.int 19)) aj))) (xC (.int 9))) (gNm 5)) aZ)
 (xIf (aV (xOp d8 (aa 5) (aa 3))) (cT (xLm i6 (aa 3) (aa 5))) aZ))))
noncomputable def k_:XS:=(ay (aH (xN mkM aj) (gNm 3))
 (ay kZ
 (aG (xN cW (ab (xN fO (ab (aa 3) aj)) aj)))))
noncomputable def ee:XF:=aP 3 6 k_
noncomputable def lY:XE:=(xLC (iC (ab (xOp a8 (xC (.int 1)) (ax aJ (ab (aa 0) (ab (aa 1) aj)))) aj)) 1 (gNm 0) (fun _ S=>.ok true S) (ax ee (ab (aa 1) (ab (aa 3) (ab (aa 4) aj)))))
noncomputable def mm:XS:=(ay (aH (xOp lO (ax aJ (ab (aa 0) (ab (xC (.int 15)) aj))) (xC (.int 9))) (gNm 3))
 (aG (xN cW (ab lY aj))))
noncomputable def h9:XF:=aP 3 4 mm
noncomputable def nK:XS:=(ay (aH (xC (.int 0)) (gSb (aa 0) (xC (.int 2)) dP))
 (aG (aa 0)))
noncomputable def iW:XF:=aP 1 1 nK
noncomputable def et:XE:=(xLC (iC (ab (aa 3) aj)) 1 (gNm 0) (fun _ S=>.ok true S) (xLm pV (aa 3) (ax aJ (ab (aa 1) (ab (xN bx (ab (aa 3) aj)) aj)))))
noncomputable def ir:XS:=(ay (aH (xN (lrg wV) (ab (xN bx (ab (aa 1) aj)) aj)) (gNm 2))
 (ay (aH (xOp a8 (xC (.int 1)) (ax aJ (ab (aa 0) (ab (xN bx (ab (aa 2) aj)) aj)))) (gNm 3))
 (ay (xIf (aV (xOp oGt (ax aJ (ab (aa 0) (ab (xC (.int 3)) aj))) (xC (.int 0)))) (aH (xN bx (ab (aa 2) aj)) (gNm 3)) aZ)
 (aG (xN cW (ab et aj))))))
noncomputable def dt:XF:=aP 2 4 ir
noncomputable def h8:XS:=(ay (xIf (aV (xOp oEq (ax aJ (ab (aa 0) (ab (xC (.int 8)) aj))) (xC (.int 0)))) (aG (xOp lO (ax aJ (ab (aa 0) (ab (xC (.int 19)) aj))) (xC (.int 9)))) aZ)
 (ay (aH (xOp oIx (aa 1) (ax aJ (ab (aa 0) (ab (xN bx (ab (aa 1) aj)) aj)))) (gNm 2))
 (ay (aH (xOp a8 (xOp oIx (aa 2) (ax aJ (ab (aa 0) (ab (xN bx (ab (aa 2) aj)) aj)))) (xOp oIx (xN mkL (ab (xC (.int 0)) (ab (xC (.int 0)) (ab (xC (.int 0)) (ab (xC (.int 1)) (ab (xUn iy (xC (.int 1))) aj)))))) (ax aJ (ab (aa 0) (ab (xC (.int 5)) aj))))) (gNm 3))
 (aG (xN sU (ab (xUn iy (xC (.int 9))) (ab (xN qr (ab (xC (.int 9)) (ab (aa 3) aj))) aj)))))))
noncomputable def dn:XF:=aP 2 4 h8
noncomputable def kP:XS:=(dh (iC (ab (ax aJ (ab (aa 0) (ab (xC (.int 5)) aj))) aj)) (gNm 3) (ay (aH (ax dn (ab (aa 0) (ab (aa 1) aj))) (gNm 4))
 (xIf (aV (xOp d8 (aa 4) (aa 2))) (cT (xLm i6 (aa 2) (aa 4))) aZ)))
noncomputable def k8:XS:=(dh (bp (xN fO (ab (aa 2) aj))) (gNm 4) (ay (aH (xOp oIx (xN mkL (ab (xC (.int 0)) (ab (xC (.int 0)) (ab (xC (.int 1)) (ab (xC (.int 1)) (ab (xC (.int 2)) (ab (ax aJ (ab (aa 0) (ab (xC (.int 5)) aj))) aj))))))) (ax aJ (ab (aa 0) (ab (xC (.int 6)) aj)))) (gNm 6))
 (cT (xLm i6 (aa 5) (xN mkT (ab (aa 4) (ab (aa 6) (ab (xN qr (ab (xC (.int 4)) (ab (xOp a8 (aa 6) (xOp oIx (xN mkL (ab (xC (.int 0)) (ab (xC (.int 0)) (ab (xC (.int 1)) (ab (xC (.int 4)) (ab (ax aJ (ab (aa 0) (ab (xC (.int 5)) aj))) aj)))))) (ax aJ (ab (aa 0) (ab (xC (.int 5)) aj))))) aj))) aj))))))))
noncomputable def kQ:XS:=(ay (aH (xN mkM aj) (gNm 2))
 (ay kP
 (ay (aH (xN mkM aj) (gNm 5))
 (ay k8
 (aG (xN cW (ab (aa 5) aj)))))))
noncomputable def fK:XF:=aP 2 7 kQ
noncomputable def jT:XS:=(ay (aH (ax dt (ab (aa 0) (ab (aa 1) aj))) (gNm 3))
 (ay (xIf (aV (xOp oEq (aa 2) (xC (.int 0)))) cY aZ)
 (ay (xIf (aV (xOp oEq (aa 2) (xC (.int 1)))) (aG (xN mkT (ab (xC (.str "many")) (ab (aa 3) (ab (ax fK (ab (aa 0) (ab (aa 1) aj))) aj))))) aZ)
 cY)))
noncomputable def e_:XF:=aP 3 11 jT
noncomputable def lQ:XS:=(ay (xIf (aV (xOp oEq (xOp oIx (aa 1) (xC (.int 2))) (xN mkT aj))) (aG (aa 1)) aZ)
 (ay (aH (ax aJ (ab (aa 0) (ab (xN bx (ab (xOp oIx (aa 1) (xC (.int 2))) aj)) aj))) (gNm 2))
 (ay (aH (xOp oIx (xOp oIx (aa 1) (xC (.int 2))) (aa 2)) (gTu 3 (gCo (gNm 3) (gCo (gNm 4) (gCo (gNm 5) gN0)))))
 (ay (aH (xOp oIx (xN mkL (ab (xN mkT (ab (aa 3) (ab (xC (.int 0)) (ab (xC (.int 0)) aj)))) (ab (xN mkT (ab (aa 3) (ab (aa 5) (ab (aa 5) aj)))) (ab (xN mkT (ab (aa 3) (ab (xC (.int 4)) (ab (xC (.int 4)) aj)))) (ab (xN mkT (ab (aa 3) (ab (aa 4) (ab (aa 4) aj)))) aj))))) (ax aJ (ab (aa 0) (ab (xC (.int 4)) aj)))) (gNm 6))
 (aG (xOp a8 (xSl oSl (aa 1) cf (cR (xC (.int 2)))) (xN mkT (ab (xOp a8 (xOp a8 (xSl oSl (xOp oIx (aa 1) (xC (.int 2))) cf (cR (aa 2))) (xN mkT (ab (aa 6) aj))) (xSl oSl (xOp oIx (aa 1) (xC (.int 2))) (cR (xOp a8 (aa 2) (xC (.int 1)))) cf)) aj))))))))
noncomputable def fj:XF:=aP 2 7 lQ
noncomputable def mO:XE:=(xLC (bp (aa 1)) 1 (gNm 0) (fun _ S=>.ok true S) (xOp a8 (aa 0) (xN mkT (ab (aa 3) aj))))
noncomputable def mq:XS:=(dh (bp (aa 0)) (gNm 2) (aH (xOp a8 (aa 1) mO) (gNm 1)))
noncomputable def mx:XS:=(ay (aH (xN mkL (ab (xN mkT aj) aj)) (gNm 1))
 (ay mq
 (aG (aa 1))))
noncomputable def fu:XF:=aP 1 3 mx
noncomputable def lg:XS:=(ay (aH (ax aJ (ab (aa 0) (ab (xOp a8 (xN bx (ab (aa 1) aj)) (xC (.int 1))) aj))) (gNm 2))
 (ay (aH (xOp oIx (xN mkL (ab (xOp lO (ax aJ (ab (aa 0) (ab (xC (.int 23)) aj))) (xC (.int 11))) (ab (xUn iy (xC (.int 1))) (ab (xC (.int 4)) (ab (xOp oJ (xC (.int 10)) (xC (.int 20))) aj))))) (ax aJ (ab (aa 0) (ab (xC (.int 4)) aj)))) (gNm 3))
 (ay (aH (xN mkL (ab (xOp a8 (xOp a8 (xSl oSl (aa 1) cf (cR (aa 2))) (xN mkT (ab (aa 3) aj))) (xSl oSl (aa 1) (cR (aa 2)) cf)) (ab (xOp a8 (xSl oSl (aa 1) cf (cR (aa 2))) (xSl oSl (aa 1) (cR (xOp a8 (aa 2) (xC (.int 1)))) cf)) (ab (xOp a8 (xOp a8 (xSl oSl (aa 1) cf (cR (aa 2))) (xN mkT (ab (aa 3) aj))) (xSl oSl (aa 1) (cR (xOp a8 (aa 2) (xC (.int 1)))) cf)) aj)))) (gNm 4))
 (aG (xOp oIx (xOp a8 (aa 4) (xN mkL (ab (xOp pk (aa 1) (xUn iy (xC (.int 1)))) (ab (xOp a8 (aa 1) (xSl oSl (aa 1) (cR (xUn iy (xC (.int 1)))) cf)) (ab (xN mkT (ab (aa 3) aj)) aj))))) (ax aJ (ab (aa 0) (ab (xC (.int 6)) aj))))))))
noncomputable def fM:XF:=aP 2 5 lg
noncomputable def gD:XE:=(xLC (bp (aa 1)) 1 (gNm 0) (fun _ S=>.ok true S) (ax ee (ab (aa 1) (ab (xC (.int 4)) (ab (aa 3) aj)))))
noncomputable def gm:XS:=(ay (aH (xOp lO (ax aJ (ab (aa 0) (ab (xC (.int 15)) aj))) (xC (.int 9))) (gNm 2))
 (aG (xN cW (ab gD aj))))
noncomputable def c7:XF:=aP 2 3 gm
noncomputable def jA:XS:=(aG (bO (xUn (cS "int") (aa 0)) (ow (xUn (cS "bool") (aa 0)))))
noncomputable def d9:XF:=aP 1 1 jA
noncomputable def hV:XE:=(xLC (bp (aa 0)) 1 (gNm 0) (dg (cU (ax d9 (ab (aa 0) aj)))) (xC (.int 1)))
noncomputable def iq:XS:=(ay (xIf (xOr (dg (cU (xUn (cS "tuple") (aa 0)))) (xOr (aV (xOp oEq (aa 0) (xN mkT aj))) (aV (xOp oNe hV (xN mkL aj))))) (aG (xC (.bl false))) aZ)
 (aG (xOp oEq (xN kL (ab (aa 0) aj)) (xUn oSS (aa 0)))))
noncomputable def dq:XF:=aP 1 1 iq
noncomputable def dO:XE:=(xLC (bp (xOp oIx (aa 1) (xC (.int 2)))) 1 (gNm 0) (fun _ S=>.ok true S) (xN mkT (ab (xOp oIx (aa 0) (xC (.int 0))) (ab (aa 0) aj))))
noncomputable def gT:XE:=(xLC (bp (xOp oIx (aa 2) (xC (.int 1)))) 1 (gNm 0) (aV (xOp d8 (aa 0) (xOp oIx (aa 2) (xC (.int 1))))) (xC (.int 1)))
noncomputable def gB:XE:=(xLC (bp (xOp oIx (aa 0) (aa 5))) 1 (gNm 0) (aV (xOp d8 (aa 0) (aa 5))) (aa 0))
noncomputable def dW:XS:=(dh (bp (xOp oIx (aa 2) (xC (.int 1)))) (gNm 5) (cT (xLm fV (aa 4) gB)))
noncomputable def gG:XE:=(xLC (bp (aa 4)) 1 (gNm 0) (aV (xOp kC (aa 0) (aa 4))) (xC (.int 1)))
noncomputable def gR:XE:=(xLC (bp (aa 4)) 1 (gNm 0) (fun _ S=>.ok true S) (xOp oIx (xOp oDx (aa 4) (aa 0)) (xC (.int 2))))
noncomputable def gZ:XE:=(xLC (bp (xOp oIx (aa 2) (xC (.int 1)))) 1 (gNm 0) (aV (xOp kC (aa 0) (aa 4))) (xC (.int 1)))
noncomputable def gK:XE:=(xLC (bp (xOp oIx (aa 0) (aa 5))) 1 (gNm 0) (aV (xOp oIn (aa 0) (xOp oIx (aa 3) (xC (.int 1))))) (aa 0))
noncomputable def gE:XS:=(dh (bp (xOp oIx (aa 1) (xC (.int 1)))) (gNm 5) (aH (xOp a8 (aa 6) (xN tE (ab (xOp oNe gK (xN mkL aj)) aj))) (gNm 6)))
noncomputable def fG:XE:=(xLC (bp (xOp oIx (aa 2) (xC (.int 1)))) 1 (gNm 0) (fun _ S=>.ok true S) (xOp oIx (xOp oDx (aa 4) (aa 0)) (xC (.int 1))))
noncomputable def dX:XS:=(ay (xIf (dg (cU (ax dq (ab (xOp oIx (aa 2) (xC (.int 1))) aj)))) (aG (xC (.bl false))) aZ)
 (ay (aH (xFz (xN fDL (ab dO aj))) (gNm 3))
 (ay (xIf (aV (xOp oEq (xOp oIx (aa 2) (xC (.int 0))) (xC (.str "names")))) (ay (xIf (aV (xOp oNe gT (xN mkL aj))) (aG (xC (.bl false))) aZ)
 (ay (aH (xN mkM aj) (gNm 4))
 (ay dW
 (ay (xIf (aV (xOp oNe gG (xN mkL aj))) (aG (xC (.bl false))) aZ)
 (aG (xOp oLt (xN kq (ab gR aj)) (xN bx (ab (xOp oIx (aa 2) (xC (.int 1))) aj)))))))) aZ)
 (ay (xIf (aV (xOp oNe gZ (xN mkL aj))) (aG (xC (.bl false))) aZ)
 (ay (aH (xC (.int 0)) (gNm 6))
 (ay gE
 (aG (xOp oGt (xN kq (ab fG aj)) (aa 6)))))))))
noncomputable def bL:XF:=aP 3 7 dX
noncomputable def nF:XS:=(ay (xIf (aV (xOp oIs (aa 1) (xC .non))) (aG (xOp oIs (aa 0) (xC .non))) aZ)
 (ay (xIf (xOr (cU (xUn (cS "bool") (aa 1))) (cU (xUn (cS "bool") (aa 0)))) (aG (bO (xUn (cS "bool") (aa 1)) (bO (xUn (cS "bool") (aa 0)) (xOp oEq (aa 0) (aa 1))))) aZ)
 cY))
noncomputable def gx:XF:=aP 2 2 nF
noncomputable def kS:XS:=(aG (bO (xUn (cS "int") (aa 0)) (ow (xUn (cS "bool") (aa 0)))))
noncomputable def fS:XF:=aP 1 1 kS
noncomputable def jU:XS:=(aG (bO (ax fS (ab (aa 0) aj)) (fq oLe oLe (aa 1) (aa 0) (aa 2))))
noncomputable def cB:XF:=aP 3 3 jU
noncomputable def jH:XE:=(xLC (bp (aa 0)) 1 (gNm 0) (fun _ S=>.ok true S) (ax cB (ab (aa 0) (ab (aa 2) (ab (aa 3) aj)))))
noncomputable def jE:XS:=(aG (bO (xUn (cS "tuple") (aa 0)) (xN eY (ab jH aj))))
noncomputable def c_:XF:=aP 3 3 jE
noncomputable def cX:XE:=(xLC (wF (ab (xC (.int 1)) (ab (xN bx (ab (aa 0) aj)) aj))) 1 (gNm 0) (fun _ S=>.ok true S) (xOp oLt (xOp oIx (aa 1) (xOp lO (aa 0) (xC (.int 1)))) (xOp oIx (aa 1) (aa 0))))
noncomputable def fB:XS:=(aG (xN eY (ab cX aj)))
noncomputable def bY:XF:=aP 1 1 fB
noncomputable def jy:XS:=(aG (bO (ax c_ (ab (aa 0) (ab (xUn iy (xC (.int 9))) (ab (xC (.int 9)) aj)))) (bO (fq oLe oLe (xC (.int 1)) (xN bx (ab (aa 0) aj)) (xC (.int 4))) (ax bY (ab (aa 0) aj)))))
noncomputable def eh:XF:=aP 1 1 jy
noncomputable def kW:XE:=(xLC (bp (aa 0)) 1 (gNm 0) (fun _ S=>.ok true S) (ax eh (ab (aa 0) aj)))
noncomputable def kT:XS:=(ay (xIf (xOr (dg (cU (xUn (cS "tuple") (aa 0)))) (dg (aV (fq oLe oLe (xC (.int 1)) (xN bx (ab (aa 0) aj)) (xC (.int 4)))))) (aG (xC (.bl false))) aZ)
 (aG (xN eY (ab kW aj))))
noncomputable def fQ:XF:=aP 1 1 kT
noncomputable def jL:XS:=(xIf (dg (cU (ax fQ (ab (aa 0) aj)))) cY aZ)
noncomputable def eD:XF:=aP 1 1 jL
noncomputable def jN:XS:=(aG (xOp oEq (xUn oLS (aa 0)) (xN bx (ab (aa 0) aj))))
noncomputable def eF:XF:=aP 1 1 jN
noncomputable def kn:XS:=(aG (bO (ax c_ (ab (aa 0) (ab (xC (.int 0)) (ab (xC (.int 3)) aj)))) (bO (fq oLe oLe (xC (.int 1)) (xN bx (ab (aa 0) aj)) (xC (.int 4))) (ax eF (ab (aa 0) aj)))))
noncomputable def fe:XF:=aP 1 1 kn
noncomputable def mi:XS:=(aG (bO (ax cB (ab (aa 0) (ab (aa 2) (ab (aa 3) aj)))) (bO (ax cB (ab (aa 1) (ab (aa 2) (ab (aa 3) aj)))) (xOp oLe (aa 0) (aa 1)))))
noncomputable def ig:XF:=aP 4 4 mi
noncomputable def kR:XS:=(ay (xIf (xOr (dg (cU (xUn (cS "tuple") (aa 0)))) (aV (xOp oNe (xN bx (ab (aa 0) aj)) (xC (.int 3))))) (aG (xC (.bl false))) aZ)
 (aG (bO (ax cB (ab (xOp oIx (aa 0) (xC (.int 0))) (ab (xUn iy (xC (.int 9))) (ab (xC (.int 9)) aj)))) (ax ig (ab (xOp oIx (aa 0) (xC (.int 1))) (ab (xOp oIx (aa 0) (xC (.int 2))) (ab (xC (.int 0)) (ab (xC (.int 4)) aj))))))))
noncomputable def fR:XF:=aP 1 1 kR
noncomputable def jG:XE:=(xLC (bp (aa 0)) 1 (gNm 0) (fun _ S=>.ok true S) (ax fR (ab (aa 0) aj)))
noncomputable def jw:XE:=(xLC (bp (aa 0)) 1 (gNm 0) (fun _ S=>.ok true S) (xOp oIx (aa 0) (xC (.int 0))))
noncomputable def jF:XS:=(ay (xIf (xOr (dg (cU (xUn (cS "tuple") (aa 0)))) (aV (xOp oGt (xN bx (ab (aa 0) aj)) (xC (.int 4))))) (aG (xC (.bl false))) aZ)
 (aG (bO (xN eY (ab jG aj)) (ax bY (ab jw aj)))))
noncomputable def ez:XF:=aP 1 1 jF
noncomputable def mI:XS:=(aG (bO (xOp oEq (xN bx (ab (aa 0) aj)) (xC (.int 3))) (ax ez (ab (xOp oIx (aa 0) (xC (.int 2))) aj))))
noncomputable def ik:XF:=aP 1 1 mI
noncomputable def fF:XS:=(ay (aH (xOp oIx (aa 0) (xC (.int 0))) (gNm 1))
 (ay (xIf (aV (xOp oEq (aa 1) (xC (.str "unlike")))) cY aZ)
 (ay (xIf (aV (xOp oEq (aa 1) (xC (.str "many")))) (aG (ax ik (ab (aa 0) aj))) aZ)
 cY)))
noncomputable def cN:XF:=aP 1 2 fF
noncomputable def l4:XS:=(ay (xIf (xOr (dg (cU (xUn (cS "tuple") (aa 0)))) (aV (xOp oLt (xN bx (ab (aa 0) aj)) (xC (.int 2))))) (aG (xC (.bl false))) aZ)
 (aG (bO (ax fe (ab (xOp oIx (aa 0) (xC (.int 1))) aj)) (ax cN (ab (aa 0) aj)))))
noncomputable def ia:XF:=aP 1 1 l4
noncomputable def jx:XE:=(xLC (bp (xOp oIx (aa 1) (xC (.int 1)))) 1 (gNm 0) (fun _ S=>.ok true S) (xOp oLt (aa 0) (xN bx (ab (aa 1) aj))))
noncomputable def jv:XS:=(aG (bO (ax ia (ab (aa 1) aj)) (xN eY (ab jx aj))))
noncomputable def ed:XF:=aP 2 2 jv
noncomputable def kr:XS:=(xIf (dg (cU (ax ed (ab (aa 0) (ab (aa 1) aj))))) cY aZ)
noncomputable def fc:XF:=aP 3 3 kr
noncomputable def qY:XS:=(ay (cT (ax eD (ab (aa 0) aj)))
 (cT (ax fc (ab (aa 0) (ab (aa 1) (ab (xC (.int 0)) aj))))))
noncomputable def kf:XF:=aP 2 2 qY
noncomputable def jY:XS:=(ay (cT (ax kf (ab (aa 0) (ab (aa 1) aj))))
 (xIf (aV (xOp oNe (xOp oIx (aa 1) (xC (.int 0))) (aa 2))) cY aZ))
noncomputable def fg:XF:=aP 3 3 jY
noncomputable def eT:XE:=(xLC (bp (aa 0)) 1 (gNm 0) (fun _ S=>.ok true S) (xOp oIn (aa 0) (aa 2)))
noncomputable def eR:XS:=(ay (xIf (xOr (dg (cU (xUn (cS "tuple") (aa 0)))) (aV (xOp oEq (xN bx (ab (aa 0) aj)) (xC (.int 0))))) (aG (xC (.bl false))) aZ)
 (aG (bO (xN eY (ab eT aj)) (ax bY (ab (aa 0) aj)))))
noncomputable def b8:XF:=aP 2 2 eR
noncomputable def ka:XS:=(dh (bp (aa 1)) (gNm 3) (cT (xLm fV (aa 2) (xOp oIx (aa 0) (aa 3)))))
noncomputable def jZ:XS:=(ay (aH (xN mkM aj) (gNm 2))
 (ay ka
 (aG (xUn oSS (aa 2)))))
noncomputable def fb:XF:=aP 2 4 jZ
noncomputable def il:XE:=(xLC (bp (aa 3)) 1 (gNm 0) (fun _ S=>.ok true S) (xOp qw (aa 0) (aa 3)))
noncomputable def ib:XE:=(xLC (bp (aa 3)) 1 (gNm 0) (fun _ S=>.ok true S) (xOp oDx (aa 3) (aa 0)))
noncomputable def ie:XS:=(ay (aH (ax fb (ab (aa 0) (ab (aa 1) aj))) (gNm 3))
 (ay (xIf (dg (cU (xN eY (ab il aj)))) (aG (xC (.bl false))) aZ)
 (aG (xOp oLt (xN kq (ab ib aj)) (xN bx (ab (aa 1) aj))))))
noncomputable def dr:XF:=aP 3 4 ie
noncomputable def iD:XE:=(xLC (bp (aa 0)) 3 (gTu 3 (gCo (gNm 0) (gCo (gNm 1) (gCo (gNm 2) gN0)))) (fun _ S=>.ok true S) (xN mkT (ab (aa 0) (ab (aa 2) aj))))
noncomputable def k9:XS:=(aG (xFz (xN fDL (ab iD aj))))
noncomputable def fU:XF:=aP 1 1 k9
noncomputable def jb:XE:=(xLC (bp (aa 0)) 3 (gTu 3 (gCo (gNm 0) (gCo (gNm 1) (gCo (gNm 2) gN0)))) (fun _ S=>.ok true S) (xN mkT (ab (aa 0) (ab (aa 1) aj))))
noncomputable def mJ:XS:=(aG (xFz (xN fDL (ab jb aj))))
noncomputable def iu:XF:=aP 1 1 mJ
noncomputable def dN:XE:=(xLC (bp (xOp oIx (aa 0) (aa 1))) 1 (gNm 0) (fun _ S=>.ok true S) (xOp oIn (aa 0) (aa 3)))
noncomputable def jB:XS:=(aG (xN j4 (ab dN aj)))
noncomputable def eB:XF:=aP 3 3 jB
noncomputable def gA:XE:=(xLC (bp (aa 1)) 1 (gNm 0) (cU (ax eB (ab (aa 1) (ab (aa 0) (ab (aa 3) aj))))) (aa 0))
noncomputable def gP:XE:=(xLC (bp (aa 2)) 1 (gNm 0) (fun _ S=>.ok true S) (xOp oDx (aa 4) (aa 0)))
noncomputable def gL:XS:=(ay (aH gA (gNm 4))
 (aG (xOp oGt (xN kq (ab gP aj)) (xN bx (ab (aa 4) aj)))))
noncomputable def c9:XF:=aP 4 5 gL
noncomputable def jM:XS:=(ay (cT (ax fg (ab (aa 0) (ab (aa 1) (ab (xC (.str "many")) aj)))))
 (ay (xIf (xOr (dg (cU (xUn (cS "tuple") (aa 2)))) (aV (xOp oNe (xN bx (ab (aa 2) aj)) (xC (.int 2))))) (aG (xC (.bl false))) aZ)
 (ay (aH (xOp oIx (aa 2) (xC (.int 1))) (gNm 3))
 (ay (xIf (aV (xOp oEq (xOp oIx (aa 2) (xC (.int 0))) (xC (.str "names")))) (aG (bO (ax b8 (ab (aa 3) (ab (xOp oIx (aa 1) (xC (.int 1))) aj))) (ax dr (ab (aa 0) (ab (aa 3) (ab (ax fU (ab (xOp oIx (aa 1) (xC (.int 2))) aj)) aj)))))) aZ)
 (ay (aH (ax iu (ab (xOp oIx (aa 1) (xC (.int 2))) aj)) (gNm 4))
 (aG (bO (xOp oEq (xOp oIx (aa 2) (xC (.int 0))) (xC (.str "worths"))) (bO (ax b8 (ab (aa 3) (ab (xN kx (ab (aa 4) aj)) aj))) (ax c9 (ab (aa 0) (ab (xOp oIx (aa 1) (xC (.int 1))) (ab (aa 3) (ab (aa 4) aj)))))))))))))
noncomputable def de:XF:=aP 3 5 jM
noncomputable def kX:XS:=(ay (cT (ax kf (ab (aa 0) (ab (aa 1) aj))))
 (ay (aH (xOp oIx (aa 1) (xC (.int 0))) (gNm 3))
 (ay (xIf (aV (xOp oEq (aa 3) (xC (.str "unlike")))) cY aZ)
 (ay (xIf (aV (xOp oEq (aa 3) (xC (.str "many")))) (aG (ax de (ab (aa 0) (ab (aa 1) (ab (aa 2) aj))))) aZ)
 cY))))
noncomputable def fT:XF:=aP 3 4 kX
noncomputable def pU:XS:=(dh (iC (ab (ax aJ (ab (aa 1) (ab (xC (.int 4)) aj))) aj)) (gNm 6) (aH (ax fj (ab (aa 1) (ab (aa 5) aj))) (gNm 5)))
noncomputable def pX:XE:=(vC (bp (ax fu (ab (xN fO (ab (xOp oIx (aa 5) (xC (.int 1))) aj)) aj))) 1 (gNm 0) (fun _ S=>.ok true S) (xN mkT (ab (xC (.str "names")) (ab (aa 0) aj))))
noncomputable def uJ:XE:=(xLC (bp (xOp oIx (aa 5) (xC (.int 2)))) 1 (gNm 0) (fun _ S=>.ok true S) (xOp oIx (aa 0) (xC (.int 0))))
noncomputable def oQ:XE:=(xLC (bp (ax fu (ab uJ aj))) 1 (gNm 0) (fun _ S=>.ok true S) (xN mkT (ab (xC (.str "worths")) (ab (aa 0) aj))))
noncomputable def o9:XS:=(dh (iC (ab (xC (.int 8)) aj)) (gNm 6) (ay (aH (xOp oIx (aa 7) (ax aJ (ab (aa 1) (ab (xN bx (ab (aa 7) aj)) aj)))) (gTu 2 (gCo (gNm 8) (gCo (gNm 9) gN0))))
 (cT (xLm i6 (aa 7) (xN mkT (ab (aa 8) (ab (ax fM (ab (aa 1) (ab (aa 9) aj))) aj)))))))
noncomputable def qo:XS:=(dh (bp (aa 10)) (gTu 2 (gCo (gNm 12) (gCo (gNm 9) gN0))) (ay (aH (ax bL (ab (aa 12) (ab (aa 9) (ab (aa 11) aj)))) (gNm 13))
 (ay (xIf (dg (cU (ax gx (ab (ax de (ab (aa 12) (ab (aa 9) (ab (aa 11) aj)))) (ab (aa 13) aj))))) (aG (xC (.bl false))) aZ)
 (xIf (dg (cU (ax gx (ab (ax fT (ab (aa 12) (ab (aa 9) (ab (aa 11) aj)))) (ab (aa 13) aj))))) (aG (xC (.bl false))) aZ))))
noncomputable def pL:XS:=(dh (bp (aa 7)) (gNm 11) qo)
noncomputable def qi:XS:=(dh (iC (ab (xC (.int 2)) aj)) (gNm 4) (ay (aH (ax e_ (ab (aa 1) (ab (aa 3) (ab (xC (.int 1)) aj)))) (gNm 5))
 (ay pU
 (ay (aH pX (gNm 7))
 (ay (cT (xLm fV (aa 7) oQ))
 (ay o9
 (ay (aH (xN mkL (ab (xN mkT (ab (aa 3) (ab (aa 5) aj))) (ab (xN mkT (ab (ax c7 (ab (aa 1) (ab (aa 3) aj))) (ab (aa 5) aj))) (ab (xN mkT (ab (aa 3) (ab (ax fj (ab (aa 1) (ab (aa 5) aj))) aj))) (ab (xN mkT (ab (aa 3) (ab (aa 5) aj))) aj))))) (gNm 10))
 pL)))))))
noncomputable def t9:XS:=(dh (iC (ab (xC (.int 2)) aj)) (gNm 2) (ay (aH (ax h9 (ab (ax iW (ab (aa 1) aj)) (ab (xC (.int 4)) (ab (xC (.int 4)) aj)))) (gNm 3))
 qi))
noncomputable def vk:XS:=(ay (aH (ax jg (ab (aa 0) aj)) (gNm 1))
 (ay t9
 (aG (xC (.bl true)))))
noncomputable def se:XF:=aP 1 14 vk
local macro_rules | `(tactic| walk_at "mx") => `(tactic| simp only [DQ, Dx, De, DL, B7, C0, CF, Dm, xF, xY, AW, Cv, DK, zG, B8, CG, Cs, wA, DX, Cq, AX, Bw, yE, Eb, BP, DC, DE, CD, D4, Cy, Ao, BQ, AZ, Dl, CC, Cm, BE, AQ, yJ, yW, yF, Aj, Az, zI, ym, yz, zF, A9, BD, ux, rR, xu, xK, D8, EH, rj, Bp, xQ, CS, Cu, z0, u9, yx, D9, DI, DZ, DT, C1, C5, Du, DF, CQ, Dk, mY, o8, jt, CI, Cw, Ck, yu, DW, An, Ci, yy, yh, wM, xG, B0, qu, p9, oC, my, lT, Dr, Dh, Dy, CK, xB, xj, xT, tq, uW, xg, lX, uq, uF, BN, DB, A4, Ba, AN, Dn, Ew, Cf, DA, CO, Dv, Cn, C9, C2, DV, CW, z6, B2, Ab, Ag, vV, wa, wz, wd, Cg, kj, B5, Bc, Au, Bo, BO, yn, yV, Dt, C4, kF, Ct, Cr, xw, C3, Eh, EU, Ec, EC, zB, Aq, Ai, zT, z8, BJ, AG, Ac, AV, zZ, za, yG, yg, Bu, AL, BZ, Bi, Ax, zX, Ar, BC, Bx, z5, yI, yq, zk, BY, Cc, BA, B1, pv, vK, wW, vt, vW, wm, xX, ur, C8, AR,
 List.getElem?_cons_zero,List.getElem?_cons_succ,List.set_cons_zero,List.set_cons_succ,List.map_cons,List.map_nil,List.length_cons,List.length_nil,List.cons_append,List.nil_append,List.replicate_succ,List.replicate_zero,List.append_nil,Nat.reduceSub,Nat.reduceAdd,Nat.zero_add,Bool.not_true,Bool.not_false,decide_true,decide_false,beq_self_eq_true,if_true,if_false,↓reduceIte,Int.reduceNeg])
local macro_rules | `(tactic| walk_at "mo") => `(tactic| first
  | rw [xn (by first | decide | omega)]
  | rw [DH (by first | exact DM (by decide) (by decide) | exact Or.inl ⟨by omega,by omega⟩ | exact Or.inr ⟨by omega,by omega⟩)]
  | rw [Cj ⟨by first | decide | omega,by first | decide | omega⟩]
  | rw [sC ⟨by decide,by decide,by decide⟩]
  | rw [j8 (by first | (simp only [List.length_cons,List.length_nil,List.length_map];omega) | (simp;omega))]
  | rw [pq (by first | (simp only [List.length_cons,List.length_nil,List.length_map];omega) | (simp;omega))]
  | rw [xD (by omega)]
  | rw [sG (by omega)])
local macro_rules | `(tactic| walk_at "mm") => `(tactic| repeat (first | walk_at "mx" | walk_at "mo"))
def c5 (cells:List Int) (at' pool:Int):Ob:=.lst [.lst (cells.map D.int),.int at',.int pool]
def Pen (o:Ob):Prop:=∃ cells at' pool,o=c5 cells at' pool∧cells.length≤63∧0≤at'∧0≤pool
theorem aD {S:Sto} {x:D} {τ:Nv}:leave S (.ok (.rt (.d x),τ) S)=.ok (.d x) S:=by rw [iX,gp,List.take_length]
theorem eW {S R:Sto} {x:D} {τ:Nv}:leave S (.ok (.rt (.d x),τ) (S++R))=.ok (.d x) S:=by rw [iX,gp,List.take_left]
theorem cI {S S':Sto} {x:D} {τ:Nv}:leave S (.ok (.rt (.d x),τ) S')=.ok (.d x) (S'.take S.length):=by rw [iX,gp]
theorem uC (cell at':Int) (h:0≤at') (S:Sto):∃ r:Int,0≤r∧eJ [.d (.int cell),.d (.int at')] S=.ok (.d (.int r)) S:=by
 unfold eJ
 rw [cy]
 unfold la
 walk_at "mx"
 rw [sC ⟨by decide,by decide,by decide⟩]
 walk_at "mx"
 by_cases hc:(10:Int) ^ (18:Int).toNat≤cell
 ·rw [decide_eq_true hc]
  refine ⟨cell,Int.le_trans (by decide) hc,?_⟩
  walk_at "mx"
  exact aD
 ·rw [decide_eq_false hc]
  walk_at "mm"
  generalize hone:(cell % 1000000007 * 69069+at' * 40503+977) % 2147483629=one
  have o1:0≤one:=by rw [← hone];exact Int.emod_nonneg _ (by decide)
  have o2:one < 2147483629:=by rw [← hone];exact Int.emod_lt_of_pos _ (by decide)
  walk_at "mm"
  generalize htwo:(one * one+at' * 7919+cell % 65537) % 2147483587=two
  have o3:0≤two:=by rw [← htwo];exact Int.emod_nonneg _ (by decide)
  have o4:two < 2147483587:=by rw [← htwo];exact Int.emod_lt_of_pos _ (by decide)
  walk_at "mm"
  generalize hthree:(two * two+one * 31+5) % 2147483563=three
  have o5:0≤three:=by rw [← hthree];exact Int.emod_nonneg _ (by decide)
  walk_at "mm"
  exact ⟨(one * 2147483659+two) * 2147483693+three,by omega,aD⟩
theorem mr {cells:List Int} {at' pool:Int} {R:Sto}:oIx (.r 0) (.d (.int 0)) (c5 cells at' pool :: R)=.ok (.d (.lst (cells.map D.int))) (c5 cells at' pool :: R):=mK rfl rfl
theorem Dj {cells:List Int} {at' pool:Int} {R:Sto}:oIx (.r 0) (.d (.int 1)) (c5 cells at' pool :: R)=.ok (.d (.int at')) (c5 cells at' pool :: R):=mK rfl rfl
theorem sP {cells:List Int} {at' pool:Int} {R:Sto}:oIx (.r 0) (.d (.int 2)) (c5 cells at' pool :: R)=.ok (.d (.int pool)) (c5 cells at' pool :: R):=mK rfl rfl
theorem AU {cells:List Int} {at' pool v:Int} {R:Sto}:dP (.r 0) (.d (.int 1)) (.d (.int v)) (c5 cells at' pool :: R)=.ok () (c5 cells v pool :: R):=ai rfl
theorem qa {cells:List Int} {at' pool v:Int} {R:Sto}:dP (.r 0) (.d (.int 2)) (.d (.int v)) (c5 cells at' pool :: R)=.ok () (c5 cells at' v :: R):=ai rfl
theorem d7 {ns:List Int} {i:Int} (h0:0≤i) (h1:i < ns.length):∃ n,atI (ns.map D.int) i=some (.int n)∧n∈ns:=by
 have hk:i.toNat < ns.length:=by omega
 refine ⟨ns[i.toNat],?_,List.getElem_mem hk⟩
 unfold atI
 rw [sg h0 (by simpa using h1)]
 show (ns.map D.int)[i.toNat]?=_
 rw [List.getElem?_map,List.getElem?_eq_getElem hk]
 rfl
theorem cL {o o':Ob} {R:Sto}:(o' :: R).take (o :: R).length=o' :: R:=by rw [show (o :: R).length=(o' :: R).length from rfl,List.take_length]
theorem aY {o:Ob} {R:Sto} {m:Int} (hp:Pen o) (h0:0 < m) (h1:m < 1073741824):∃ (k:Int) (o':Ob),0≤k∧k < m∧Pen o'∧aJ [.r 0,.d (.int m)] (o :: R)=.ok (.d (.int k)) (o' :: R):=by
 obtain ⟨cells,at',pool,rfl,hl,ha,hq⟩:=hp
 unfold aJ
 rw [cy]
 unfold nC
 have tail:∀ (at2 pool2:Int) (o2 o3:Option Vl),0≤at2→0≤pool2→∃ (k:Int) (o':Ob),0≤k∧k < m∧Pen o' ∧
   leave (c5 cells at' pool :: R) ((ay (aH (xOp oMod (xOp oIx (aa 0) (xC (.int 2))) (aa 1)) (gNm 4)) (ay (aH (xOp oDiv (xOp oIx (aa 0) (xC (.int 2))) (aa 1)) (gSb (aa 0) (xC (.int 2)) dP)) (aG (aa 4)))) [some (.r 0),some (.d (.int m)),o2,o3,none] (c5 cells at2 pool2 :: R))=.ok (.d (.int k)) (o' :: R):=by
  intro at2 pool2 o2 o3 g1 g2
  walk_at "mx"
  rw [sP]
  walk_at "mm"
  rw [sP]
  walk_at "mm"
  rw [qa]
  walk_at "mm"
  exact ⟨pool2 % m,_,Int.emod_nonneg _ (by omega),Int.emod_lt_of_pos _ h0,⟨cells,at2,pool2 / m,rfl,hl,g1,Int.ediv_nonneg g2 (by omega)⟩,by rw [cI,cL]⟩
 rw [o8,xG]
 walk_at "mx"
 rw [sP]
 walk_at "mm"
 by_cases hc:pool < m
 ·rw [decide_eq_true hc]
  walk_at "mx"
  rw [Dj]
  walk_at "mm"
  rw [mr]
  walk_at "mm"
  have fin:∀ cell:Int,∃ (k:Int) (o':Ob),0≤k∧k < m∧Pen o'∧leave (c5 cells at' pool :: R) (sq1 ((ay (aH (xOp a8 (aa 2) (xC (.int 1))) (gSb (aa 0) (xC (.int 1)) dP)) (aH (ax eJ (ab (aa 3) (ab (aa 2) aj))) (gSb (aa 0) (xC (.int 2)) dP))) [some (.r 0),some (.d (.int m)),some (.d (.int at')),some (.d (.int cell)),none] (c5 cells at' pool :: R))
    (ay (aH (xOp oMod (xOp oIx (aa 0) (xC (.int 2))) (aa 1)) (gNm 4)) (ay (aH (xOp oDiv (xOp oIx (aa 0) (xC (.int 2))) (aa 1)) (gSb (aa 0) (xC (.int 2)) dP)) (aG (aa 4)))))=.ok (.d (.int k)) (o' :: R):=by
   intro cell
   rw [o8,p9]
   walk_at "mx"
   rw [AU]
   rw [tq,my,jt,p9,rj]
   obtain ⟨r,hr,er⟩:=uC cell at' ha (c5 cells (at'+1) pool :: R)
   simp only [rR,ux,xY,xF,xu,xK,Bp,er,xQ,oC,xB,xj,xT,AW,qa,tq,my,jt]
   exact tail (at'+1) r _ _ (by omega) hr
  by_cases hin:at' < ((cells.map D.int).length:Int)
  ·rw [decide_eq_true hin]
   walk_at "mx"
   rw [mr]
   obtain ⟨n,en,_⟩:=d7 (ns:=cells) ha (by simpa using hin)
   walk_at "mx"
   rw [eZ en]
   rw [oC,lT,my,jt]
   exact fin n
  ·rw [decide_eq_false hin]
   walk_at "mx"
   rw [mr]
   walk_at "mm"
   by_cases hpos:(0:Int) < ((cells.map D.int).length:Int)
   ·rw [decide_eq_true hpos]
    walk_at "mx"
    rw [mr]
    walk_at "mm"
    rw [mr]
    walk_at "mm"
    obtain ⟨n,en,_⟩:=d7 (ns:=cells) (i:=(at' * 5+3) % ((cells.map D.int).length:Int)) (Int.emod_nonneg _ (by omega)) (by have:=Int.emod_lt_of_pos (at' * 5+3) hpos;simpa using this)
    rw [eZ en]
    walk_at "mx"
    rw [sC ⟨by decide,by decide,by decide⟩]
    walk_at "mx"
    rw [xn (by have:(0:Int) < 10 ^ (17:Int).toNat:=(by decide);omega)]
    rw [oC,lT,my,jt]
    exact fin _
   ·rw [decide_eq_false hpos]
    rw [qu,mY,jt]
    exact fin 0
 ·rw [decide_eq_false hc]
  rw [qu,mY,jt]
  exact tail at' pool _ _ ha hq
structure GoodW (m:Int) (ws:List Int):Prop where
 rise:ws.Pairwise (· < ·)
 lim:∀ w∈ws,-9≤w∧w≤9
 pos:1≤ws.length
 le:(ws.length:Int)≤m
def ak (ns:List Int):D:=.tup (ns.map D.int)
theorem nj {o:Ob} {R:Sto} {most near:Int} (hp:Pen o) (h0:0 < most) (h1:most≤50) (n0:-9≤near) (n1:near≤5):∃ (ws:List Int) (o':Ob),GoodW most ws∧Pen o'∧ee [.r 0,.d (.int most),.d (.int near)] (o :: R)=.ok (.d (ak ws)) (o' :: R):=by
 unfold ee
 rw [cF]
 unfold k_
 walk_at "mx"
 obtain ⟨k,o1,k0,k1,hp1,e1⟩:=aY (R:=R++[.lst []]) hp h0 (by omega)
 obtain ⟨τ',S',e2,o2,ws,x4,x5,hp2,rfl,rfl,nd,lim,le,pos⟩:=cu (show _=kZ [some (.r 0),some (.d (.int most)),some (.d (.int near)),some (.r (R.length+1)),none,none] (o :: (R++[.lst []])) from rfl)
  (S1:=o1 :: (R++[.lst []])) (gd:=none) (items:=(List.range (1+k).toNat).map fun i=>Vl.d (.int (i:Nat))) (by walk_at "mx";rw [e1];walk_at "mm")
  (fun i τ S=>∃ (o':Ob) (ws:List Int) (x4 x5:Option Vl),Pen o'∧τ=[some (.r 0),some (.d (.int most)),some (.d (.int near)),some (.r (R.length+1)),x4,x5]∧S=o' :: (R++[.lst (ws.map D.int)])∧ws.Nodup∧(∀ w∈ws,-9≤w∧w≤9)∧ws.length≤i∧(0 < i→0 < ws.length))
  ⟨o1,[],none,none,hp1,rfl,rfl,List.nodup_nil,by simp,Nat.le_refl _,by omega⟩ (by
   rintro i z τ S hz ⟨o',ws,x4,x5,hp',rfl,rfl,nd,lim,le,pos⟩
   have hi:i < (1+k).toNat:=by simpa using (List.getElem?_eq_some_iff.mp hz).1
   obtain ⟨a,oa,a0,a1,hpa,ea⟩:=aY (R:=R++[.lst (ws.map D.int)]) (m:=5) hp' (by decide) (by decide)
   obtain ⟨b,ob,b0,b1,hpb,eb⟩:=aY (R:=R++[.lst (ws.map D.int)]) (m:=6) hpa (by decide) (by decide)
   obtain ⟨c,oc,c0,c1,hpc,ec⟩:=aY (R:=R++[.lst (ws.map D.int)]) (m:=19) hpb (by decide) (by decide)
   have fin:∀ (v:Int) (q:Ob) (x5':Option Vl),-9≤v→v≤9→Pen q→x5'=some (.d (.int v))→∃ fl τ2 S2,(xIf (aV (xOp d8 (aa 5) (aa 3))) (cT (xLm i6 (aa 3) (aa 5))) aZ) [some (.r 0),some (.d (.int most)),some (.d (.int near)),some (.r (R.length+1)),some z,x5'] (q :: (R++[.lst (ws.map D.int)]))=.ok (fl,τ2) S2∧(fl=.nx∨fl=.ct) ∧
     ∃ (o':Ob) (ws:List Int) (x4 x5:Option Vl),Pen o'∧τ2=[some (.r 0),some (.d (.int most)),some (.d (.int near)),some (.r (R.length+1)),x4,x5]∧S2=o' :: (R++[.lst (ws.map D.int)])∧ws.Nodup∧(∀ w∈ws,-9≤w∧w≤9)∧ws.length≤i+1∧(0 < i+1→0 < ws.length):=by
    rintro v q _ v0 v1 hq rfl
    walk_at "mx"
    rw [mh (ns:=ws) f_]
    by_cases hm:v∈ws
    ·rw [decide_eq_true hm]
     walk_at "mx"
     exact ⟨_,_,_,rfl,.inl rfl,q,ws,_,_,hq,rfl,rfl,nd,lim,by omega,fun _=>List.length_pos_of_mem hm⟩
    ·rw [decide_eq_false hm]
     walk_at "mx"
     rw [oB (by rw [List.length_map];omega)]
     walk_at "mx"
     refine ⟨_,_,_,rfl,.inl rfl,q,ws++[v],_,_,hq,rfl,by rw [List.map_append];rfl,?_,?_,by simp;omega,fun _=>by simp⟩
     ·rw [List.nodup_append]
      refine ⟨nd,by simp,fun x hx y hy=>?_⟩
      rw [List.mem_singleton.mp hy]
      rintro rfl
      exact hm hx
     ·intro w hw
      rcases List.mem_append.mp hw with e | e
      ·exact lim w e
      ·rw [List.mem_singleton.mp e];omega
   by_cases hb:b=0
   ·subst hb
    obtain ⟨fl,τ2,S2,f1,f2,f3⟩:=fin (c - 9) oc _ (by omega) (by omega) hpc rfl
    refine ⟨_,_,fl,τ2,S2,lT,?_,f2,True.intro,f3⟩
    walk_at "mx"
    rw [ea]
    walk_at "mx"
    rw [eb]
    walk_at "mx"
    rw [ec]
    walk_at "mx"
    rw [← f1]
    walk_at "mx"
   ·obtain ⟨fl,τ2,S2,f1,f2,f3⟩:=fin (near+a) ob _ (by omega) (by omega) hpb rfl
    refine ⟨_,_,fl,τ2,S2,lT,?_,f2,True.intro,f3⟩
    walk_at "mx"
    rw [ea]
    walk_at "mx"
    rw [eb]
    walk_at "mx"
    rw [decide_eq_false hb]
    walk_at "mx"
    rw [← f1]
    walk_at "mx")
 rw [e2]
 walk_at "mx"
 rw [iQ] at le pos
 rw [rO f_ (by omega)]
 walk_at "mx"
 refine ⟨sortI ws,o2,⟨lB nd,fun w hw=>lim w ((j5 ws w).mp hw),by rw [df];exact pos (by omega),by rw [df];omega⟩,hp2,?_⟩
 rw [cI]
 simp [ak]
structure cb (n m:Int) (wss:List (List Int)):Prop where
 pos:1≤wss.length
 le:(wss.length:Int)≤n
 all:∀ ws∈wss,GoodW m ws
def aw (wss:List (List Int)):D:=.tup (wss.map ak)
theorem wB {o:Ob} {R:Sto} {names most:Int} (hp:Pen o) (h0:0 < names) (h1:names≤50) (m0:0 < most) (m1:most≤50):∃ (wss:List (List Int)) (o':Ob),cb names most wss∧Pen o'∧h9 [.r 0,.d (.int names),.d (.int most)] (o :: R)=.ok (.d (aw wss)) (o' :: R):=by
 unfold h9
 rw [cF]
 unfold mm
 walk_at "mx"
 obtain ⟨k,o1,k0,k1,hp1,e1⟩:=aY (R:=R) (m:=15) hp (by decide) (by decide)
 rw [e1]
 walk_at "mx"
 obtain ⟨j,o2,j0,j1,hp2,e2⟩:=aY (R:=R) hp1 h0 (by omega)
 obtain ⟨acc,Q,e4,hl,o3,wss,hp3,rfl,rfl,hw,hg⟩:=oP (show _=lY [some (.r 0),some (.d (.int names)),some (.d (.int most)),some (.d (.int (k - 9)))] (o1 :: R) from rfl) (S1:=o2 :: R) (items:=(List.range (1+j).toNat).map fun i=>Vl.d (.int (i:Nat))) (by walk_at "mx";rw [e2];walk_at "mm")
  (fun i acc Q=>∃ (o':Ob) (wss:List (List Int)),Pen o'∧acc=wss.map ak∧Q=o' :: R∧wss.length=i∧∀ ws∈wss,GoodW most ws) ⟨o2,[],hp2,rfl,rfl,rfl,by simp⟩ (by
   rintro i z acc Q hz ⟨o',wss,hp',rfl,rfl,hw,hg⟩ _
   obtain ⟨hi,rfl⟩:=eP hz
   obtain ⟨ws,o3,gw,hp3,e3⟩:=nj (R:=R++[.lst (wss.map ak)]) (near:=k - 9) hp' m0 m1 (by omega) (by omega)
   refine ⟨ak ws,o3 :: R,?_,rfl,o3,wss++[ws],hp3,eX.symm,rfl,by simp [hw],fun x hx=>?_⟩
   ·walk_at "mx"
    rw [e3]
    walk_at "mx"
   ·rcases List.mem_append.mp hx with e | e
    ·exact hg x e
    ·rw [List.mem_singleton.mp e];exact gw)
 rw [e4]
 walk_at "mx"
 rw [iQ] at hw
 exact ⟨wss,o3,⟨by omega,by omega,hg⟩,hp3,by rw [cI,cL];rfl⟩
theorem zh {o:Ob} {R:Sto} (hp:Pen o):∃ o',Pen o'∧iW [.r 0] (o :: R)=.ok (.r 0) (o' :: R):=by
 obtain ⟨cells,at',pool,rfl,hl,ha,hq⟩:=hp
 unfold iW
 rw [bG]
 unfold nK
 walk_at "mx"
 rw [qa]
 walk_at "mx"
 refine ⟨c5 cells at' 0,⟨cells,at',0,rfl,hl,ha,Int.le_refl 0⟩,?_⟩
 rw [iX]
 unfold out
 dsimp only
 rw [if_pos (by simp),cL]
theorem wX {xs:List D} {i:Nat} {z:Vl} (h:(c8 0 xs)[i]?=some z):∃ x,xs[i]?=some x∧z=.d (.tup [.int i,x]):=by
 rw [h_] at h
 cases q:xs[i]? with
 | none=>rw [q] at h;cases h
 | some x=>rw [q] at h;cases h;exact ⟨x,rfl,by rw [Nat.zero_add]⟩
theorem ze (ns:List Int):∃ o,Pen o∧jg [.sc ns] []=.ok (.r 0) [o]:=by
 unfold jg
 rw [bG]
 unfold ni
 walk_at "mx"
 rw [show (12:Int)=((12:Nat):Int) from rfl,mM,← List.map_take]
 obtain ⟨τ',S',e2,cs,x2,x3,rfl,rfl,hl⟩:=cu (show _=nh [some (.sc ns),some (.r 0),none,none] [.lst ((ns.take 12).map D.int)] from rfl)
  (S1:=[.lst ((ns.take 12).map D.int)]) (gd:=none) (items:=c8 0 (((ns.map D.int).drop 12).take (63 - 12))) (by
   walk_at "mx"
   rw [show (12:Int)=((12:Nat):Int) from rfl,show (63:Int)=((63:Nat):Int) from rfl,zN])
  (fun i τ S=>∃ (cs:List Int) (x2 x3:Option Vl),τ=[some (.sc ns),some (.r 0),x2,x3]∧S=[.lst (cs.map D.int)]∧cs.length=(ns.take 12).length) ⟨_,none,none,rfl,rfl,rfl⟩ (by
   rintro i z τ S hz ⟨cs,x2,x3,rfl,rfl,hl⟩
   obtain ⟨x,ex,rfl⟩:=wX hz
   have hx:x∈ns.map D.int:=List.mem_of_mem_drop (List.mem_of_mem_take (List.mem_of_getElem? ex))
   obtain ⟨v,_,rfl⟩:=List.mem_map.mp hx
   have hlen:12 < ns.length:=by
    have:=(List.getElem?_eq_some_iff.mp ex).1
    simp at this
    omega
   have hcs:cs.length=12:=by rw [hl];simp;omega
   have h0:0≤((i:Nat):Int) % 12:=Int.emod_nonneg _ (by decide)
   have h1:((i:Nat):Int) % 12 < 12:=Int.emod_lt_of_pos _ (by decide)
   obtain ⟨c,ec,_⟩:=d7 (ns:=cs) (i:=((i:Nat):Int) % 12) h0 (by omega)
   have hix:ixN (cs.map D.int).length (((i:Nat):Int) % 12)=some (((i:Nat):Int) % 12).toNat:=sg h0 (by rw [List.length_map];omega)
   refine ⟨_,_,.nx,_,_,by walk_at "mm";rfl,by
    walk_at "mm"
    rw [mK (xs:=cs.map D.int) rfl ec]
    walk_at "mm"
    rw [show dP (.r 0) (.d (.int (((i:Nat):Int) % 12))) (.d (.int (c+v))) [Ob.lst (cs.map D.int)]=.ok () [.lst ((cs.map D.int).set (((i:Nat):Int) % 12).toNat (.int (c+v)))] by
     unfold dP
     simp only [List.getElem?_cons_zero,hix]
     rfl]
    walk_at "mx"
    rfl,.inl rfl,True.intro,cs.set (((i:Nat):Int) % 12).toNat (c+v),_,_,rfl,by rw [List.map_set],by rw [List.length_set];exact hl⟩)
 rw [e2]
 walk_at "mx"
 refine ⟨c5 cs 0 0,⟨cs,0,0,rfl,by rw [hl];simp;omega,Int.le_refl 0,Int.le_refl 0⟩,?_⟩
 rfl
theorem nk {α β:Type} (f:α→β):∀ (l:List α) (k:Nat),(l.eraseIdx k).map f=(l.map f).eraseIdx k
 | [],_=>rfl
 | _ :: _,0=>rfl
 | x :: l,k+1=>by
  rw [List.eraseIdx_cons_succ,List.map_cons,List.map_cons,List.eraseIdx_cons_succ,nk f l k]
structure cQ (k:Nat) (ns:List Int):Prop where
 dom:∀ n∈ns,0≤n∧n < (k:Int)
 pos:1≤ns.length
 le:ns.length≤k
 nd:ns.Nodup
theorem oi {o:Ob} {R:Sto} {wss:List (List Int)} (hp:Pen o) (h0:1≤wss.length) (h1:wss.length≤50):∃ (ns:List Int) (o':Ob),cQ wss.length ns∧Pen o'∧dt [.r 0,.d (aw wss)] (o :: R)=.ok (.d (ak ns)) (o' :: R):=by
 unfold dt
 rw [cy]
 unfold ir aw
 walk_at "mx"
 rw [List.length_map,Ce (by omega)]
 walk_at "mx"
 have hr:(List.range ((wss.length:Nat):Int).toNat).map (fun i=>D.int ((i:Nat):Int))=((List.range wss.length).map fun i=>((i:Nat):Int)).map D.int:=by rw [Int.toNat_natCast,List.map_map];rfl
 rw [hr]
 generalize hL:((List.range wss.length).map fun i=>((i:Nat):Int))=L0
 have lL:L0.length=wss.length:=by rw [← hL];simp
 have dL:∀ n∈L0,0≤n∧n < (wss.length:Int):=by
  intro n hn
  rw [← hL] at hn
  obtain ⟨i,hi,rfl⟩:=List.mem_map.mp hn
  have:=List.mem_range.mp hi
  omega
 have nL:L0.Nodup:=by
  rw [← hL]
  exact List.Pairwise.map _ (fun a b (h:a≠b)=>by omega) List.nodup_range
 rw [l7 (xs:=L0.map D.int) (by walk_at "mx"),List.length_map,lL]
 obtain ⟨a,o1,a0,a1,hp1,e1⟩:=aY (R:=R++[.lst (L0.map D.int)]) (m:=(wss.length:Int)) hp (by omega) (by omega)
 walk_at "mx"
 rw [e1]
 walk_at "mx"
 obtain ⟨b,o2,b0,b1,hp2,e2⟩:=aY (R:=R++[.lst (L0.map D.int)]) (m:=3) hp1 (by decide) (by decide)
 rw [e2]
 walk_at "mx"
 have fin:∀ (many:Int),1≤many→many≤wss.length→∃ (ns left:List Int) (o':Ob),cQ wss.length ns∧Pen o' ∧
   et [some (.r 0),some (.d (.tup (wss.map ak))),some (.r (R.length+1)),some (.d (.int many))] (o2 :: (R++[.lst (L0.map D.int)]))=.ok (.d (.lst (ns.map D.int))) (o' :: (R++[.lst (left.map D.int)])):=by
  intro many m0 m1
  obtain ⟨acc,Q,e4,hl,o3,ns,left,hp3,rfl,rfl,hw,hlen,hmem,hnd⟩:=oP (show _=et [some (.r 0),some (.d (.tup (wss.map ak))),some (.r (R.length+1)),some (.d (.int many))] (o2 :: (R++[.lst (L0.map D.int)])) from rfl) (S1:=o2 :: (R++[.lst (L0.map D.int)])) (items:=(List.range many.toNat).map fun i=>Vl.d (.int (i:Nat))) (by walk_at "mm")
   (fun i acc Q=>∃ (o':Ob) (ns left:List Int),Pen o'∧acc=ns.map D.int∧Q=o' :: (R++[.lst (left.map D.int)])∧ns.length=i∧left.length+i=wss.length∧(∀ n,n∈ns++left→0≤n∧n < (wss.length:Int))∧(ns++left).Nodup) ⟨o2,[],L0,hp2,rfl,rfl,rfl,by omega,by simpa using dL,by simpa using nL⟩ (by
    rintro i z acc Q hz ⟨o',ns,left,hp',rfl,rfl,hw,hlen,hmem,hnd⟩ _
    obtain ⟨hi,rfl⟩:=eP hz
    obtain ⟨c,o3,c0,c1,hp3,e3⟩:=aY (R:=R++[.lst (left.map D.int),.lst (ns.map D.int)]) (m:=(left.length:Int)) hp' (by omega) (by omega)
    have hc:c.toNat < left.length:=by omega
    have hge:(left.map D.int)[c.toNat]?=some (.int left[c.toNat]):=by rw [List.getElem?_map,List.getElem?_eq_getElem hc];rfl
    have pe:(left[c.toNat] :: left.eraseIdx c.toNat).Perm left:=jm left c.toNat hc
    have pa:((ns++[left[c.toNat]])++left.eraseIdx c.toNat).Perm (ns++left):=by
     rw [List.append_assoc]
     exact List.Perm.append_left ns pe
    refine ⟨.int left[c.toNat],o3 :: (R++[.lst ((left.eraseIdx c.toNat).map D.int)]),?_,by simp,o3,ns++[left[c.toNat]],left.eraseIdx c.toNat,hp3,eX.symm,rfl,by simp [hw],?_,fun n hn=>hmem n (pa.mem_iff.mp hn),pa.nodup_iff.mpr hnd⟩
    ·walk_at "mx"
     rw [show (R++[Ob.lst (left.map D.int)]++[Ob.lst (ns.map D.int)])=R++[.lst (left.map D.int),.lst (ns.map D.int)] by simp]
     walk_at "mx"
     rw [l7 (xs:=left.map D.int) (by walk_at "mx"),List.length_map]
     walk_at "mx"
     rw [e3]
     walk_at "mx"
     rw [CM (by omega) hge]
     walk_at "mx"
     rw [nk]
     simp
    ·rw [List.length_eraseIdx_of_lt hc];omega)
  rw [iQ] at hw hlen
  exact ⟨ns,left,o3,⟨fun n hn=>hmem n (List.mem_append_left _ hn),by omega,by omega,(List.nodup_append.mp hnd).1⟩,hp3,e4⟩
 by_cases hb:0 < b
 ·rw [decide_eq_true hb]
  walk_at "mx"
  rw [l7 (xs:=L0.map D.int) (by walk_at "mx"),List.length_map,lL]
  walk_at "mx"
  obtain ⟨ns,left,o3,gn,hp3,e4⟩:=fin (wss.length:Int) (by omega) (by omega)
  rw [e4]
  walk_at "mx"
  refine ⟨ns,o3,gn,hp3,?_⟩
  rw [cI]
  simp [ak]
 ·rw [decide_eq_false hb]
  walk_at "mx"
  obtain ⟨ns,left,o3,gn,hp3,e4⟩:=fin (1+a) (by omega) (by omega)
  rw [e4]
  walk_at "mx"
  refine ⟨ns,o3,gn,hp3,?_⟩
  rw [cI]
  simp [ak]
theorem ints_get {ps:List Int} {i:Nat} {z:Vl} (h:((ps.map D.int).map Vl.d)[i]?=some z):∃ p,ps[i]?=some p∧z=.d (.int p):=by
 rw [List.getElem?_map,List.getElem?_map] at h
 cases q:ps[i]? with
 | none=>rw [q] at h;cases h
 | some p=>rw [q] at h;cases h;exact ⟨p,rfl,rfl⟩
theorem take_snoc {α:Type} {ps:List α} {i:Nat} {p:α} (h:ps[i]?=some p):ps.take (i+1)=ps.take i++[p]:=by
 rw [List.take_add_one,h];rfl
theorem A2 {n:Nat} {S:Sto} {xs:List D} (e:S[n]?=some (.lst xs)):cW [.r n] S=.ok (.d (.tup xs)) S:=by
 unfold cW
 dsimp only
 rw [om e]
theorem yX {o:Ob} {R:Sto} {wss:List (List Int)} {n m:Int} (hp:Pen o) (g:cb n m wss) (hn:n≤50) (hm:m≤50):∃ (w:Int) (o':Ob),(-9≤w∧w≤9)∧Pen o'∧dn [.r 0,.d (aw wss)] (o :: R)=.ok (.d (.int w)) (o' :: R):=by
 have g0:=g.pos
 have g1:=g.le
 unfold dn
 rw [cy]
 unfold h8
 obtain ⟨a,o1,a0,a1,hp1,e1⟩:=aY (R:=R) (m:=8) hp (by decide) (by decide)
 walk_at "mx"
 rw [e1]
 walk_at "mx"
 by_cases ha:a=0
 ·rw [decide_eq_true ha]
  obtain ⟨b,o2,b0,b1,hp2,e2⟩:=aY (R:=R) (m:=19) hp1 (by decide) (by decide)
  walk_at "mx"
  rw [e2]
  walk_at "mx"
  exact ⟨b - 9,o2,by omega,hp2,by rw [cI,cL]⟩
 ·rw [decide_eq_false ha]
  obtain ⟨b,o2,b0,b1,hp2,e2⟩:=aY (R:=R) (m:=(wss.length:Int)) hp1 (by omega) (by omega)
  unfold aw
  walk_at "mx"
  rw [List.length_map,e2]
  walk_at "mx"
  have hb:b.toNat < wss.length:=by omega
  have hat:atI (wss.map ak) b=some (ak wss[b.toNat]):=by
   obtain ⟨k,rfl⟩:=Int.eq_ofNat_of_zero_le b0
   exact eV (by rw [List.getElem?_map,List.getElem?_eq_getElem (by simpa using hb)];rfl)
  have gw:=g.all _ (List.getElem_mem hb)
  generalize wss[b.toNat]=ws at hat gw
  have w0:=gw.pos
  have w1:=gw.le
  rw [cw hat]
  walk_at "mx"
  obtain ⟨c,o3,c0,c1,hp3,e3⟩:=aY (R:=R) (m:=(ws.length:Int)) hp2 (by omega) (by omega)
  rw [show ak ws=.tup (ws.map D.int) from rfl]
  walk_at "mx"
  rw [List.length_map,e3]
  walk_at "mx"
  obtain ⟨v,ev,_⟩:=d7 (ns:=ws) (i:=c) c0 c1
  rw [cw ev]
  obtain ⟨d,o4,d0,d1,hp4,e4⟩:=aY (R:=R) (m:=5) hp3 (by decide) (by decide)
  walk_at "mx"
  rw [e4]
  walk_at "mx"
  obtain ⟨u,eu,_⟩:=d7 (ns:=[0,0,0,1,-1]) (i:=d) d0 (by simpa using d1)
  rw [eZ (show atI [D.int 0,D.int 0,D.int 0,D.int 1,D.int (-1)] d=some (.int u) from eu)]
  walk_at "mx"
  refine ⟨_,o4,?_,hp4,by rw [cI,cL]⟩
  split<;>split at *<;>omega
abbrev Tri:=Int×Int×Int
def a5 (t:Tri):D:=.tup [.int t.1,.int t.2.1,.int t.2.2]
structure bD (bs:List Tri):Prop where
 le:bs.length≤4
 rise:(bs.map (·.1)).Pairwise (· < ·)
 lim:∀ b∈bs,(-9≤b.1∧b.1≤9)∧0≤b.2.1∧b.2.1≤b.2.2∧b.2.2≤4
theorem uk {o:Ob} {R:Sto} {wss:List (List Int)} {n m:Int} (hp:Pen o) (g:cb n m wss) (hn:n≤50) (hm:m≤50):∃ (bs:List Tri) (o':Ob),bD bs∧Pen o'∧fK [.r 0,.d (aw wss)] (o :: R)=.ok (.d (.tup (bs.map a5))) (o' :: R):=by
 unfold fK
 rw [cy]
 unfold kQ
 walk_at "mx"
 obtain ⟨a,o1,a0,a1,hp1,e1⟩:=aY (R:=R++[.lst []]) (m:=5) hp (by decide) (by decide)
 obtain ⟨τ',S',e2,o2,ws,x3,x4,hp2,rfl,rfl,nd,lim,le⟩:=cu (show _=kP [some (.r 0),some (.d (aw wss)),some (.r (R.length+1)),none,none,none,none] (o :: (R++[.lst []])) from rfl)
  (S1:=o1 :: (R++[.lst []])) (gd:=none) (items:=(List.range a.toNat).map fun i=>Vl.d (.int (i:Nat))) (by
   walk_at "mx"
   rw [e1]
   walk_at "mm")
  (fun i τ S=>∃ (o':Ob) (ws:List Int) (x3 x4:Option Vl),Pen o'∧τ=[some (.r 0),some (.d (aw wss)),some (.r (R.length+1)),x3,x4,none,none]∧S=o' :: (R++[.lst (ws.map D.int)])∧ws.Nodup∧(∀ w∈ws,-9≤w∧w≤9)∧ws.length≤i) ⟨o1,[],none,none,hp1,rfl,rfl,List.nodup_nil,fun _ h=>(by cases h),Nat.le_refl 0⟩ (by
   rintro i z τ S hz ⟨o',ws,x3,x4,hp',rfl,rfl,nd,lim,le⟩
   obtain ⟨hi,rfl⟩:=eP hz
   obtain ⟨w,o3,hw,hp3,e3⟩:=yX (R:=R++[.lst (ws.map D.int)]) hp' g hn hm
   by_cases hin:w∈ws
   ·refine ⟨_,_,.nx,_,_,by walk_at "mx";rfl,by
     walk_at "mx"
     rw [e3]
     walk_at "mx"
     rw [mh (ns:=ws) f_,decide_eq_true hin]
     walk_at "mx"
     rfl,.inl rfl,True.intro,o3,ws,_,_,hp3,rfl,rfl,nd,lim,by omega⟩
   ·refine ⟨_,_,.nx,_,_,by walk_at "mx";rfl,by
     walk_at "mx"
     rw [e3]
     walk_at "mx"
     rw [mh (ns:=ws) f_,decide_eq_false hin]
     walk_at "mx"
     rw [oB (by rw [List.length_map];omega)]
     walk_at "mx"
     rfl,.inl rfl,True.intro,o3,ws++[w],_,_,hp3,rfl,by rw [eX],?_,?_,by simp;omega⟩
    ·exact List.nodup_append.mpr ⟨nd,by simp,fun x hx y hy=>by rw [List.mem_singleton.mp hy];exact fun e=>hin (e ▸ hx)⟩
    ·intro x hx
     rcases List.mem_append.mp hx with q | q
     ·exact lim x q
     ·rw [List.mem_singleton.mp q];exact hw)
 rw [iQ] at le
 rw [e2]
 walk_at "mx"
 obtain ⟨τ',S',e3,o3,bs,x4',x6,hp3,rfl,rfl,hb1,hb2⟩:=cu (show _=k8 [some (.r 0),some (.d (aw wss)),some (.r (R.length+1)),x3,x4,some (.r ((R++[Ob.lst (ws.map D.int)]).length+1)),none] (o2 :: (R++[Ob.lst (ws.map D.int)]++[Ob.lst []])) from rfl)
  (S1:=o2 :: (R++[Ob.lst (ws.map D.int)]++[Ob.lst []])) (gd:=none) (items:=((sortI ws).map D.int).map Vl.d) (by
   walk_at "mx"
   rw [rO (ns:=ws) (by simp) (by omega)]
   walk_at "mx")
  (fun i τ S=>∃ (o':Ob) (bs:List Tri) (x4 x6:Option Vl),Pen o'∧τ=[some (.r 0),some (.d (aw wss)),some (.r (R.length+1)),x3,x4,some (.r ((R++[Ob.lst (ws.map D.int)]).length+1)),x6]∧S=o' :: (R++[Ob.lst (ws.map D.int)]++[Ob.lst (bs.map a5)])∧bs.map (·.1)=(sortI ws).take i∧∀ b∈bs,0≤b.2.1∧b.2.1≤b.2.2∧b.2.2≤4) ⟨o2,[],x4,none,hp2,rfl,rfl,rfl,fun _ h=>(by cases h)⟩ (by
   rintro i z τ S hz ⟨o',bs,x4,x6,hp',rfl,rfl,hb1,hb2⟩
   obtain ⟨w,ew,rfl⟩:=ints_get hz
   have hi:=(List.getElem?_eq_some_iff.mp ew).1
   rw [df] at hi
   have hlb:bs.length≤4:=by
    have:=congrArg List.length hb1
    simp only [List.length_map,List.length_take,df] at this
    omega
   generalize hR:R++[Ob.lst (ws.map D.int)]=R'
   obtain ⟨b,o3,b0,b1,hp3,e3⟩:=aY (R:=R'++[.lst (bs.map a5)]) (m:=5) hp' (by decide) (by decide)
   obtain ⟨c,o4,c0,c1,hp4,e4⟩:=aY (R:=R'++[.lst (bs.map a5)]) (m:=6) hp3 (by decide) (by decide)
   obtain ⟨d,o5,d0,d1,hp5,e5⟩:=aY (R:=R'++[.lst (bs.map a5)]) (m:=5) hp4 (by decide) (by decide)
   obtain ⟨e,o6,f0,f1,hp6,e6⟩:=aY (R:=R'++[.lst (bs.map a5)]) (m:=5) hp5 (by decide) (by decide)
   obtain ⟨low,el,ml⟩:=d7 (ns:=[0,0,1,1,2,b]) (i:=c) c0 (by simpa using c1)
   obtain ⟨up,eu,mu⟩:=d7 (ns:=[0,0,1,4,d]) (i:=e) f0 (by simpa using f1)
   have hlow:0≤low∧low≤4:=by
    simp only [List.mem_cons,List.not_mem_nil,or_false] at ml
    omega
   have hup:0≤up:=by
    simp only [List.mem_cons,List.not_mem_nil,or_false] at mu
    omega
   refine ⟨_,_,.nx,_,_,by walk_at "mx";rfl,by
    walk_at "mx"
    rw [e3]
    walk_at "mx"
    rw [e4]
    walk_at "mx"
    rw [eZ (show atI [D.int 0,D.int 0,D.int 1,D.int 1,D.int 2,D.int b] c=some (.int low) from el)]
    walk_at "mx"
    rw [e5]
    walk_at "mx"
    rw [e6]
    walk_at "mx"
    rw [eZ (show atI [D.int 0,D.int 0,D.int 1,D.int 4,D.int d] e=some (.int up) from eu)]
    walk_at "mx"
    rw [oB (by rw [List.length_map];omega)]
    walk_at "mx"
    rfl,.inl rfl,True.intro,o6,bs++[(w,low,if low+up < 4 then low+up else 4)],some (.d (.int w)),some (.d (.int low)),hp6,rfl,by rw [eX];rfl,?_,?_⟩
   ·rw [eX,hb1,take_snoc ew]
   ·intro x hx
    rcases List.mem_append.mp hx with q | q
    ·exact hb2 x q
    ·rw [List.mem_singleton.mp q]
     refine ⟨hlow.1,?_,?_⟩<;>dsimp only<;>split<;>omega)
 rw [e3]
 walk_at "mx"
 rw [show ((List.map D.int (sortI ws)).map Vl.d).length=(sortI ws).length by simp,List.take_length] at hb1
 rw [show cW [.r ((R++[Ob.lst (ws.map D.int)]).length+1)] (o3 :: (R++[Ob.lst (ws.map D.int)]++[Ob.lst (bs.map a5)]))=.ok (.d (.tup (bs.map a5))) (o3 :: (R++[Ob.lst (ws.map D.int)]++[Ob.lst (bs.map a5)])) from A2 (by simp)]
 walk_at "mx"
 refine ⟨bs,o3,⟨?_,?_,?_⟩,hp3,?_⟩
 ·have:=congrArg List.length hb1
  simp only [List.length_map,df] at this
  omega
 ·rw [hb1];exact lB nd
 ·intro b hb
  refine ⟨lim b.1 ?_,hb2 b hb⟩
  rw [← j5,← hb1]
  exact List.mem_map.mpr ⟨b,hb,rfl⟩
 ·rw [cI]
  simp
structure EZ (ds:List Tri):Prop where
 le:ds.length≤12
 nd:ds.Nodup
 lim:∀ d∈ds,(0≤d.1∧d.1≤3)∧(-9≤d.2.1∧d.2.1≤9)∧0≤d.2.2∧d.2.2≤3
theorem mH:∀ ds:List Tri,D.b9 (ds.map a5)≤1
 | []=>by simp [D.b9]
 | d :: ds=>by
  have:=mH ds
  rw [List.map_cons,D.b9,show D.depth (a5 d)=1 from rfl]
  omega
def ba (wss:List (List Int)) (ps:List Int):List Int:=ps.flatMap fun p=>wss.getD p.toNat []
theorem wK {ps:List Int}:ps=a4 ps↔ps.Pairwise (· < ·):=⟨fun h=>by rw [h];exact cM ps,fun h=>lC (fun _=>Iff.rfl) h⟩
theorem eo {wss:List (List Int)} {m:Nat} (hw:∀ ws∈wss,ws.length≤m):∀ ps:List Int,(ba wss ps).length≤m * ps.length
 | []=>by simp [ba]
 | p :: ps=>by
  have:=eo hw ps
  have h:(wss.getD p.toNat []).length≤m:=by
   rw [List.getD_eq_getElem?_getD]
   cases q:wss[p.toNat]? with
   | none=>simp
   | some ws=>simpa using hw ws (List.mem_of_getElem? q)
  rw [show ba wss (p :: ps)=wss.getD p.toNat []++ba wss ps from rfl,List.length_append,List.length_cons,Nat.mul_succ]
  omega
theorem jK {wss:List (List Int)} {ps:List Int} {p:Int}:ba wss (ps++[p])=ba wss ps++wss.getD p.toNat []:=by simp [ba]
theorem ji {wss:List (List Int)} {p:Int} (h0:0≤p) (h1:p < wss.length):atI (wss.map ak) p=some (ak (wss.getD p.toNat [])):=by
 obtain ⟨k,rfl⟩:=Int.eq_ofNat_of_zero_le h0
 have hk:k < wss.length:=by omega
 exact eV (by rw [List.getElem?_map,List.getElem?_eq_getElem hk,Int.toNat_natCast,List.getD_eq_getElem?_getD,List.getElem?_eq_getElem hk];rfl)
theorem kb {wss:List (List Int)} {p:Int} (h0:0≤p) (h1:p < wss.length):wss.getD p.toNat []∈wss:=by
 have hk:p.toNat < wss.length:=by omega
 rw [List.getD_eq_getElem?_getD,List.getElem?_eq_getElem hk]
 exact List.getElem_mem hk
theorem qA {v:Int} {S:Sto}:fS [.d (.int v)] S=.ok (.d (.bl true)) S:=by
 unfold fS
 rw [bG]
 unfold kS
 walk_at "mx"
 rw [show isT "int" (.int v)=true from rfl]
 walk_at "mx"
 rw [show isT "bool" (.int v)=false from rfl]
 walk_at "mx"
 rw [aD]
theorem eI {v lo hi:Int} {S:Sto} (h:lo≤v∧v≤hi):cB [.d (.int v),.d (.int lo),.d (.int hi)] S=.ok (.d (.bl true)) S:=by
 unfold cB
 rw [cF]
 unfold jU
 walk_at "mx"
 rw [qA]
 walk_at "mx"
 rw [decide_eq_true h.1]
 walk_at "mx"
 rw [decide_eq_true h.2]
 rw [aD]
theorem all_true {α:Type} {l:List α} {S:Sto}:eY [.d (.lst (l.map fun _=>D.bl true))] S=.ok (.d (.bl true)) S:=by
 rw [iK (f:=fun _=>true)]
 simp
theorem iG {xs:List D}:isT "tuple" (.tup xs)=true:=rfl
theorem jO {ns:List Int} {lo hi:Int} {S:Sto} (h:∀ v∈ns,lo≤v∧v≤hi):c_ [.d (ak ns),.d (.int lo),.d (.int hi)] S=.ok (.d (.bl true)) S:=by
 unfold c_
 rw [cF]
 unfold jE ak
 walk_at "mx"
 rw [iG]
 walk_at "mx"
 rw [cq (show _=jH [some (.d (.tup (ns.map D.int))),some (.d (.int lo)),some (.d (.int hi))] S from rfl) (xs:=ns.map D.int) (S1:=S) (by walk_at "mx") (fun _=>.bl true) (by
  intro x hx S
  obtain ⟨v,hv,rfl⟩:=List.mem_map.mp hx
  walk_at "mx"
  rw [eI (h v hv)]
  walk_at "mx")]
 walk_at "mx"
 rw [all_true]
 walk_at "mx"
 rw [aD]
theorem yc {ns:List Int} (h:∀ k,k+1 < ns.length→ns.getD k 0 < ns.getD (k+1) 0):ns.Pairwise (· < ·):=by
 rw [List.pairwise_iff_getElem]
 have key:∀ d i,(hd:i+d+1 < ns.length)→ns.getD i 0 < ns.getD (i+d+1) 0:=by
  intro d
  induction d with
  | zero=>intro i hd;exact h i hd
  | succ d ih=>
   intro i hd
   have a:=ih i (by omega)
   have b:=h (i+d+1) (by omega)
   rw [show i+(d+1)+1=i+d+1+1 by omega]
   omega
 intro i j hi hj hij
 have:=key (j - i - 1) i (by omega)
 rw [show i+(j - i - 1)+1=j by omega,List.getD_eq_getElem?_getD,List.getD_eq_getElem?_getD,List.getElem?_eq_getElem hi,List.getElem?_eq_getElem hj] at this
 simpa using this
theorem zy {ns:List Int} (h:ns.Pairwise (· < ·)) {k:Nat} (hk:k+1 < ns.length):ns.getD k 0 < ns.getD (k+1) 0:=by
 rw [List.pairwise_iff_getElem] at h
 have:=h k (k+1) (by omega) hk (by omega)
 rw [List.getD_eq_getElem?_getD,List.getD_eq_getElem?_getD,List.getElem?_eq_getElem hk,List.getElem?_eq_getElem (by omega)]
 simpa using this
theorem pw {ns:List Int}:((List.range (ns.length - 1)).all fun k=>decide (ns.getD k 0 < ns.getD (k+1) 0))=decide (ns.Pairwise (· < ·)):=by
 rw [Bool.eq_iff_iff,List.all_eq_true,decide_eq_true_iff]
 constructor
 ·intro h
  exact yc fun k hk=>by simpa using h k (List.mem_range.mpr (by omega))
 ·intro h k hk
  have:=List.mem_range.mp hk
  exact decide_eq_true (zy h (by omega))
def nbL (ns:List Int):Vl→D
 | .d (.int j)=>.bl (decide (ns.getD (j.toNat - 1) 0 < ns.getD j.toNat 0))
 | _=>.non
theorem sx {ns:List Int} {i:Nat} (h:i < ns.length):atI (ns.map D.int) (i:Int)=some (.int (ns.getD i 0)):=eV (by rw [List.getElem?_map,List.getElem?_eq_getElem h,List.getD_eq_getElem?_getD,List.getElem?_eq_getElem h];rfl)
theorem fD {ns:List Int} {S:Sto} (h:ns.length≤1000):bY [.d (ak ns)] S=.ok (.d (.bl (decide (ns.Pairwise (· < ·))))) S:=by
 unfold bY
 rw [bG]
 unfold fB ak
 walk_at "mx"
 have key:cX [some (.d (.tup (ns.map D.int)))] S=.ok (.d (.lst ((List.range (ns.length - 1)).map fun k=>.bl (decide (ns.getD k 0 < ns.getD (k+1) 0))))) S:=by
  unfold cX
  rw [lS (items:=(List.range ((ns.length:Int) - 1).toNat).map fun k=>Vl.d (.int (1+(k:Nat)))) (S1:=S) (by walk_at "mx";rw [List.length_map,sG (by omega)]) (nbL ns) (by
   intro z hz S
   obtain ⟨k,hk,rfl⟩:=List.mem_map.mp hz
   have hk:=List.mem_range.mp hk
   walk_at "mx"
   rw [show (1:Int)+(k:Nat) - 1=(k:Nat) by omega,show (1:Int)+(k:Nat)=((k+1:Nat):Int) by omega,cw (sx (by omega))]
   walk_at "mx"
   rw [cw (sx (by omega))]
   walk_at "mx"
   rfl)]
  rw [List.map_map,show ((ns.length:Int) - 1).toNat=ns.length - 1 by omega]
  congr 3
  refine List.map_congr_left fun k hk=>?_
  show nbL ns (.d (.int (1+(k:Nat))))=_
  rw [show (1:Int)+(k:Nat)=((k+1:Nat):Int) by omega]
  rfl
 rw [key]
 walk_at "mx"
 rw [iK,pw]
 walk_at "mx"
 rw [aD]
theorem nU {ws:List Int} {m:Int} {S:Sto} (g:GoodW m ws) (hm:m≤4):eh [.d (ak ws)] S=.ok (.d (.bl true)) S:=by
 have h1:=g.pos
 have h2:=g.le
 unfold eh
 rw [bG]
 unfold jy
 walk_at "mx"
 rw [jO g.lim]
 walk_at "mx"
 rw [show ak ws=.tup (ws.map D.int) from rfl]
 try walk_at "mx"
 rw [List.length_map,decide_eq_true (show (1:Int)≤(ws.length:Int) by omega)]
 walk_at "mx"
 rw [decide_eq_true (show (ws.length:Int)≤4 by omega)]
 walk_at "mx"
 rw [show D.tup (ws.map D.int)=ak ws from rfl,fD (by omega),decide_eq_true g.rise]
 walk_at "mx"
 rw [aD]
theorem qS {wss:List (List Int)} {n m:Int} {S:Sto} (g:cb n m wss) (hn:n≤4) (hm:m≤4):fQ [.d (aw wss)] S=.ok (.d (.bl true)) S:=by
 have h1:=g.pos
 have h2:=g.le
 unfold fQ
 rw [bG]
 unfold kT aw
 walk_at "mx"
 rw [iG]
 walk_at "mx"
 rw [List.length_map,decide_eq_true (show (1:Int)≤(wss.length:Int) by omega)]
 walk_at "mx"
 rw [decide_eq_true (show (wss.length:Int)≤4 by omega)]
 walk_at "mx"
 rw [cq (show _=kW [some (.d (.tup (wss.map ak)))] S from rfl) (xs:=wss.map ak) (S1:=S) (by walk_at "mx") (fun _=>.bl true) (by
  intro x hx S
  obtain ⟨ws,hv,rfl⟩:=List.mem_map.mp hx
  walk_at "mx"
  rw [nU (g.all ws hv) hm]
  walk_at "mx")]
 walk_at "mx"
 rw [all_true]
 walk_at "mx"
 rw [aD]
theorem nZ {wss:List (List Int)} {n m:Int} {S:Sto} (g:cb n m wss) (hn:n≤4) (hm:m≤4):eD [.d (aw wss)] S=.ok (.d .non) S:=by
 unfold eD
 rw [bG]
 unfold jL
 walk_at "mx"
 rw [qS g hn hm]
 walk_at "mx"
 rw [iY,gp,List.take_length]
theorem pP {ns:List Int} (h:ns.Nodup):(a4 ns).length=ns.length:=by
 rw [← lC (xs:=ns) (fun z=>j5 ns z) (lB h),df]
theorem nV {ns:List Int} {S:Sto} (h:ns.Nodup) (hl:ns.length≤60):eF [.d (ak ns)] S=.ok (.d (.bl true)) S:=by
 unfold eF
 rw [bG]
 unfold jN ak
 walk_at "mx"
 rw [Dg (ns:=ns) rfl (by omega)]
 walk_at "mx"
 rw [List.length_map,pP h]
 walk_at "mx"
 rw [aD]
theorem p6 {ns:List Int} {k:Nat} {S:Sto} (g:cQ k ns) (hk:k≤4):fe [.d (ak ns)] S=.ok (.d (.bl true)) S:=by
 have h1:=g.pos
 have h2:=g.le
 unfold fe
 rw [bG]
 unfold kn
 walk_at "mx"
 rw [jO (fun v hv=>by have:=g.dom v hv;omega)]
 walk_at "mx"
 rw [show ak ns=.tup (ns.map D.int) from rfl]
 try walk_at "mx"
 rw [List.length_map,decide_eq_true (show (1:Int)≤(ns.length:Int) by omega)]
 walk_at "mx"
 rw [decide_eq_true (show (ns.length:Int)≤4 by omega)]
 walk_at "mx"
 rw [show D.tup (ns.map D.int)=ak ns from rfl,nV g.nd (by omega)]
 walk_at "mx"
 rw [aD]
theorem mU {ps ns:List Int} {S:Sto} (hl:ps.length≤1000):b8 [.d (ak ps),.d (ak ns)] S=.ok (.d (.bl (!decide (ps=[]) && (ps.all (fun p=>decide (p∈ns)) && decide (ps.Pairwise (· < ·)))))) S:=by
 unfold b8
 rw [cy]
 unfold eR
 walk_at "mx"
 rw [show ak ps=.tup (ps.map D.int) from rfl,iG]
 walk_at "mx"
 rw [List.length_map]
 by_cases h0:ps=[]
 ·rw [decide_eq_true (show (ps.length:Int)=0 by rw [h0];rfl),decide_eq_true h0]
  walk_at "mx"
  rw [aD]
  rfl
 ·rw [decide_eq_false (show ¬(ps.length:Int)=0 by have:ps.length≠0:=fun h=>h0 (List.length_eq_zero_iff.mp h);omega),decide_eq_false h0]
  walk_at "mx"
  rw [cq (show _=eT [some (.d (.tup (ps.map D.int))),some (.d (ak ns))] S from rfl) (xs:=ps.map D.int) (S1:=S) (by walk_at "mx") (fun x=>match x with | .int p=>.bl (decide (p∈ns)) | _=>.non) (by
   intro x hx S
   obtain ⟨v,hv,rfl⟩:=List.mem_map.mp hx
   unfold ak
   walk_at "mx")]
  walk_at "mx"
  rw [List.map_map,show ((fun x:D=>(match x with | .int p=>D.bl (decide (p∈ns)) | _=>.non)) ∘ D.int)=fun p:Int=>D.bl (decide (p∈ns)) from rfl,iK]
  by_cases ha:ps.all (fun p=>decide (p∈ns))=true
  ·rw [ha]
   walk_at "mx"
   rw [show D.tup (ps.map D.int)=ak ps from rfl,fD hl]
   walk_at "mx"
   rw [aD]
   simp
  ·rw [Bool.not_eq_true _ |>.mp ha]
   walk_at "mx"
   rw [aD]
   simp
theorem oE {S:Sto} {wss:List (List Int)} {ps:List Int} {m:Nat} (hw:∀ ws∈wss,ws.length≤m) (hm:m≤4) (hn:∀ n∈ps,0≤n∧n < (wss.length:Int)) (hl:ps.length≤60) (hs:(a4 (ba wss ps)).length < 64) :
  fb [.d (aw wss),.d (ak ps)] S=.ok (.d (.lst ((a4 (ba wss ps)).map D.int))) S:=by
 unfold fb
 rw [cy]
 unfold jZ
 walk_at "mx"
 obtain ⟨τ',S',e,x3,rfl,rfl⟩:=cu (show _=ka [some (.d (aw wss)),some (.d (ak ps)),some (.r S.length),none] (S++[.lst []]) from rfl)
   (S1:=S++[.lst []]) (items:=(ps.map D.int).map Vl.d) (gd:=none) (by unfold ak;walk_at "mx")
   (fun i τ S'=>∃ x3,τ=[some (.d (aw wss)),some (.d (ak ps)),some (.r S.length),x3]∧S'=S++[.lst ((ba wss (ps.take i)).map D.int)]) ⟨none,rfl,rfl⟩ (by
    rintro i z τ S' hz ⟨x3,rfl,rfl⟩
    obtain ⟨p,ep,rfl⟩:=ints_get hz
    have hi:=(List.getElem?_eq_some_iff.mp ep).1
    obtain ⟨p0,p1⟩:=hn p (List.mem_of_getElem? ep)
    have hb:=eo hw (ps.take i)
    have hb2:m * (ps.take i).length≤4 * 60:=Nat.mul_le_mul hm (by simp;omega)
    have hb3:(wss.getD p.toNat []).length≤4:=by
     have:=eo hw [p]
     simp only [ba,List.flatMap_cons,List.flatMap_nil,List.append_nil,List.length_cons,List.length_nil] at this
     omega
    refine ⟨_,_,.nx,_,_,by walk_at "mx";rfl,by
     walk_at "mx"
     unfold aw
     rw [cw (ji p0 p1)]
     walk_at "mx"
     unfold ak
     rw [Ah (by simp only [List.length_map];omega)]
     walk_at "mx"
     rfl,.inl rfl,True.intro,some (.d (.int p)),rfl,?_⟩
    rw [take_snoc ep,jK,List.map_append])
 rw [e]
 rw [show ((ps.map D.int).map Vl.d).length=ps.length by simp,List.take_length]
 walk_at "mx"
 have hb:=eo hw ps
 have hb2:m * ps.length≤4 * 60:=Nat.mul_le_mul hm hl
 rw [xH (om pv) (by omega) hs]
 walk_at "mx"
 rw [eW]
theorem lJ:∀ (l:List Int) (a b:Int),a≤b→l.Pairwise (· < ·)→(∀ x∈l,a≤x∧x < b)→(l.length:Int)≤b - a
 | [],a,b,h,_,_=>by simp;omega
 | x :: l,a,b,h,hp,hx=>by
  have h1:=hx x (List.mem_cons_self ..)
  have:=lJ l (x+1) b (by omega) (List.pairwise_cons.mp hp).2 fun y hy=>by
   have:=(List.pairwise_cons.mp hp).1 y hy
   have:=hx y (List.mem_cons_of_mem _ hy)
   omega
  rw [List.length_cons]
  omega
theorem nc {ns:List Int} {S:Sto} (h:ns.length≤1000):bY [.d (.lst (ns.map D.int))] S=.ok (.d (.bl (decide (ns.Pairwise (· < ·))))) S:=by
 unfold bY
 rw [bG]
 unfold fB
 walk_at "mx"
 have key:cX [some (.d (.lst (ns.map D.int)))] S=.ok (.d (.lst ((List.range (ns.length - 1)).map fun k=>.bl (decide (ns.getD k 0 < ns.getD (k+1) 0))))) S:=by
  unfold cX
  rw [lS (items:=(List.range ((ns.length:Int) - 1).toNat).map fun k=>Vl.d (.int (1+(k:Nat)))) (S1:=S) (by walk_at "mx";rw [List.length_map,sG (by omega)]) (nbL ns) (by
   intro z hz S
   obtain ⟨k,hk,rfl⟩:=List.mem_map.mp hz
   have hk:=List.mem_range.mp hk
   walk_at "mx"
   rw [show (1:Int)+(k:Nat) - 1=(k:Nat) by omega,show (1:Int)+(k:Nat)=((k+1:Nat):Int) by omega,eZ (sx (by omega))]
   walk_at "mx"
   rw [eZ (sx (by omega))]
   walk_at "mx"
   rfl)]
  rw [List.map_map,show ((ns.length:Int) - 1).toNat=ns.length - 1 by omega]
  congr 3
  refine List.map_congr_left fun k hk=>?_
  show nbL ns (.d (.int (1+(k:Nat))))=_
  rw [show (1:Int)+(k:Nat)=((k+1:Nat):Int) by omega]
  rfl
 rw [key]
 walk_at "mx"
 rw [iK,pw]
 walk_at "mx"
 rw [aD]
theorem oo {t:Tri} {S:Sto}:oIx (.d (a5 t)) (.d (.int 0)) S=.ok (.d (.int t.1)) S:=cw rfl
theorem xE {t:Tri} {S:Sto}:oIx (.d (a5 t)) (.d (.int 1)) S=.ok (.d (.int t.2.1)) S:=cw rfl
theorem xf {t:Tri} {S:Sto}:oIx (.d (a5 t)) (.d (.int 2)) S=.ok (.d (.int t.2.2)) S:=cw rfl
theorem zx {t:Tri} {S:Sto}:bx [.d (a5 t)] S=.ok (.d (.int 3)) S:=kj
theorem yN {t:Tri}:isT "tuple" (a5 t)=true:=rfl
theorem rX {a b lo hi:Int} {S:Sto} (h:lo≤a∧a≤b∧b≤hi):ig [.d (.int a),.d (.int b),.d (.int lo),.d (.int hi)] S=.ok (.d (.bl true)) S:=by
 unfold ig
 rw [uO]
 unfold mi
 walk_at "mx"
 rw [eI (by omega)]
 walk_at "mx"
 rw [eI (by omega)]
 walk_at "mx"
 rw [decide_eq_true h.2.1,aD]
theorem qR {t:Tri} {S:Sto} (h:(-9≤t.1∧t.1≤9)∧0≤t.2.1∧t.2.1≤t.2.2∧t.2.2≤4):fR [.d (a5 t)] S=.ok (.d (.bl true)) S:=by
 unfold fR
 rw [bG]
 unfold kR
 walk_at "mx"
 rw [yN]
 walk_at "mx"
 rw [zx]
 walk_at "mx"
 rw [oo]
 walk_at "mx"
 rw [eI h.1]
 walk_at "mx"
 rw [xE]
 walk_at "mx"
 rw [xf]
 walk_at "mx"
 rw [rX (by omega)]
 walk_at "mx"
 rw [aD]
theorem nX {bs:List Tri} {S:Sto} (g:bD bs):ez [.d (.tup (bs.map a5))] S=.ok (.d (.bl true)) S:=by
 have hl:=g.le
 unfold ez
 rw [bG]
 unfold jF
 walk_at "mx"
 rw [iG]
 walk_at "mx"
 rw [List.length_map,decide_eq_false (by omega)]
 walk_at "mx"
 rw [cq (show _=jG [some (.d (.tup (bs.map a5)))] S from rfl) (xs:=bs.map a5) (S1:=S) (by walk_at "mx") (fun _=>.bl true) (by
  intro x hx S
  obtain ⟨b,hb,rfl⟩:=List.mem_map.mp hx
  walk_at "mx"
  rw [qR (g.lim b hb)]
  walk_at "mx")]
 walk_at "mx"
 rw [all_true]
 walk_at "mx"
 rw [cq (show _=jw [some (.d (.tup (bs.map a5)))] S from rfl) (xs:=bs.map a5) (S1:=S) (by walk_at "mx") (fun x=>match x with | .tup (y :: _)=>y | z=>z) (by
  intro x hx S
  obtain ⟨b,hb,rfl⟩:=List.mem_map.mp hx
  walk_at "mx"
  rw [oo]
  rfl)]
 walk_at "mx"
 rw [List.map_map,show ((fun x:D=>(match x with | .tup (y :: _)=>y | z=>z)) ∘ a5)=fun b:Tri=>D.int b.1 from rfl,show (bs.map fun b:Tri=>D.int b.1)=(bs.map (·.1)).map D.int by rw [List.map_map];rfl,nc (by rw [List.length_map];omega),decide_eq_true g.rise]
 walk_at "mx"
 rw [aD]
theorem f9 {it:XI} {t:XT} {e:XE} {τ:Nv} {S S1:Sto} {r:R Vl} (hC:xLC it 1 (gNm 0) t e τ S=r) {α:Type} {d g:α→D} {xs:List α} (hit:it τ S=.ok ⟨xs.map fun x=>Vl.d (d x),none⟩ S1) (p:α→Bool) (ht:∀ x∈xs,∀ S:Sto,t (some (.d (d x)) :: τ) S=.ok (p x) S) (he:∀ x∈xs,p x=true→∀ S:Sto,e (some (.d (d x)) :: τ) S=.ok (.d (g x)) S):r=.ok (.d (.lst ((xs.filter p).map g))) S1:=by
 obtain ⟨acc,Q,e1,hl,rfl,rfl⟩:=sT hC hit (fun i acc Q=>acc=((xs.take i).filter p).map g∧Q=S1) ⟨by simp,rfl⟩ (by
  rintro i z acc Q hz ⟨rfl,rfl⟩ _
  rw [List.getElem?_map] at hz
  cases q:xs[i]? with
  | none=>rw [q] at hz;cases hz
  | some x=>
   rw [q] at hz
   cases hz
   have hx:=List.mem_of_getElem? q
   refine ⟨p x,Q,ht x hx _,rfl,fun hb=>⟨g x,Q,he x hx hb _,rfl,?_,rfl⟩,fun hb=>⟨?_,rfl⟩⟩
   ·rw [take_snoc q,List.filter_append,List.map_append]
    simp [hb]
   ·rw [take_snoc q,List.filter_append]
    simp [hb])
 rw [e1,List.length_map,List.take_length]
theorem cO {ws:List Int}:(ws.map D.int).map Vl.d=ws.map fun x=>Vl.d (.int x):=by rw [List.map_map];rfl
theorem nr {bs:List Tri}:(bs.map a5).map Vl.d=bs.map fun b=>Vl.d (a5 b):=by rw [List.map_map];rfl
theorem lcG {it:XI} {k:Nat} {g:XG} {t:XT} {e:XE} {τ:Nv} {S S1:Sto} {items:List Vl} (hit:it τ S=.ok ⟨items,none⟩ S1) (own:Vl→Nv) (f:Vl→D) (p:Vl→Bool) (hown:∀ z∈items,(own z).length=k) (hg:∀ z∈items,∀ ρ:Nv,ρ.length=k→∀ S:Sto,g z (ρ++τ) S=.ok (own z++τ) S)
  (ht:∀ z∈items,∀ S:Sto,t (own z++τ) S=.ok (p z) S) (he:∀ z∈items,p z=true→∀ S:Sto,e (own z++τ) S=.ok (.d (f z)) S):xLC it k g t e τ S=.ok (.d (.lst ((items.filter p).map f))) S1:=by
 have key:∀ (zs:List Vl) (acc:List D) (ρ:Nv),(∀ z∈zs,z∈items)→ρ.length=k→c6 g t e S1.length none zs acc (ρ++τ) (S1++[.lst acc])=.ok (acc++(zs.filter p).map f) (S1++[.lst (acc++(zs.filter p).map f)]):=by
  intro zs
  induction zs with
  | nil=>
   intro acc ρ _ _
   rw [c6,if_pos (by simp)]
   simp
  | cons z zs ih=>
   intro acc ρ hz hl
   have hm:=hz z (List.mem_cons_self ..)
   rw [c6,hg z hm ρ hl,bo,ht z hm,bo]
   by_cases hp:p z=true
   ·rw [if_pos hp,he z hm hp,bo]
    dsimp only
    rw [if_pos ⟨by simp,True.intro⟩]
    rw [show (S1++[Ob.lst acc]).set S1.length (.lst (acc++[f z]))=S1++[.lst (acc++[f z])] by simp]
    rw [ih (acc++[f z]) (own z) (fun y hy=>hz y (List.mem_cons_of_mem _ hy)) (hown z hm),List.filter_cons_of_pos hp,List.map_cons,List.append_assoc]
    rfl
   ·rw [if_neg hp,if_pos (show gok none (S1++[Ob.lst acc]) from True.intro),ih acc (own z) (fun y hy=>hz y (List.mem_cons_of_mem _ hy)) (hown z hm),List.filter_cons_of_neg hp]
 show (it τ S).bind _=_
 rw [hit,bo]
 dsimp only
 rw [key items [] (List.replicate k none) (fun _ h=>h) (by simp),bo]
 unfold kJ
 rw [if_pos (by simp),List.take_left]
 simp
theorem gY {xs:List D}:D.bC xs []=xs.isEmpty:=by cases xs<;>simp [D.bC]
theorem gU {ns:List Int} {S:Sto}:bx [.d (ak ns)] S=.ok (.d (.int ns.length)) S:=by unfold ak;rw [kj,List.length_map]
theorem iE {ns:List Int} {v:Int} {S:Sto}:oIn (.d (.int v)) (.d (ak ns)) S=.ok (.d (.bl (decide (v∈ns)))) S:=xX
theorem gI {ns:List Int} {v:Int} {S:Sto}:d8 (.d (.int v)) (.d (ak ns)) S=.ok (.d (.bl (!decide (v∈ns)))) S:=ur
theorem du {α:Type} {l:List α} {q:α→Bool}:(l.filter q).isEmpty=l.all fun x=>!q x:=by
 induction l with
 | nil=>rfl
 | cons x l ih=>cases h:q x<;>simp [List.filter_cons,h,ih]
theorem dE {α β:Type} {f:α→β} {l:List α}:(l.map f).isEmpty=l.isEmpty:=by cases l<;>rfl
theorem iV {α:Type} (l:List α):D.depth (.lst (l.map fun _=>D.int 1))≤50:=by
 rw [show (l.map fun _=>D.int 1)=(l.map fun _=>(1:Int)).map D.int by rw [List.map_map];rfl,D.depth,fX]
 decide
theorem ints_list {s:List Int} {S:Sto}:kL [.d (ak s)] S=.ok (.d (.lst (s.map D.int))) S:=by
 unfold ak
 walk_at "mx"
theorem xP {α β:Type} {f:α→β}:∀ {l:List α},l.Nodup→(∀ x∈l,∀ y∈l,f x=f y→x=y)→(l.map f).Nodup
 | [],_,_=>List.nodup_nil
 | a :: l,h,k=>by
  rw [List.nodup_cons] at h
  rw [List.map_cons,List.nodup_cons]
  refine ⟨fun hm=>?_,xP h.2 fun x hx y hy=>k x (List.mem_cons_of_mem _ hx) y (List.mem_cons_of_mem _ hy)⟩
  obtain ⟨y,hy,e⟩:=List.mem_map.mp hm
  have:=k a (List.mem_cons_self ..) y (List.mem_cons_of_mem _ hy) e.symm
  exact h.1 (this ▸ hy)
theorem rG {b:Bool} {S:Sto}:gx [.d (.bl b),.d (.bl b)] S=.ok (.d (.bl true)) S:=by
 unfold gx
 rw [cy]
 unfold nF
 walk_at "mx"
 rw [show oIs (.d (.bl b)) (.d .non) S=.ok (.d (.bl false)) S from rfl]
 walk_at "mx"
 rw [show isT "bool" (.bl b)=true from rfl]
 walk_at "mx"
 rw [show isT "bool" (.bl b)=true from rfl]
 walk_at "mx"
 rw [show isT "bool" (.bl b)=true from rfl]
 walk_at "mx"
 rw [aD]
theorem wU {o:Ob} {R:Sto} {wss:List (List Int)} {n:Int} (hp:Pen o) (g:cb n 4 wss):∃ (vss:List (List Int)) (o':Ob),cb n 4 vss∧vss.length=wss.length∧Pen o'∧c7 [.r 0,.d (aw wss)] (o :: R)=.ok (.d (aw vss)) (o' :: R):=by
 unfold c7
 rw [cy]
 unfold gm
 walk_at "mx"
 obtain ⟨k,o1,k0,k1,hp1,e1⟩:=aY (R:=R) (m:=15) hp (by decide) (by decide)
 rw [e1]
 walk_at "mx"
 obtain ⟨acc,Q,e4,hl,o3,vss,hp3,rfl,rfl,hw,hg⟩:=oP (show _=gD [some (.r 0),some (.d (aw wss)),some (.d (.int (k - 9)))] (o1 :: R) from rfl) (S1:=o1 :: R) (items:=wss.map fun ws=>Vl.d (ak ws)) (by unfold aw;walk_at "mx";rw [List.map_map];rfl)
  (fun i acc Q=>∃ (o':Ob) (vss:List (List Int)),Pen o'∧acc=vss.map ak∧Q=o' :: R∧vss.length=i∧∀ ws∈vss,GoodW 4 ws) ⟨o1,[],hp1,rfl,rfl,rfl,by simp⟩ (by
   rintro i z acc Q hz ⟨o',vss,hp',rfl,rfl,hw,hg⟩ _
   obtain ⟨ws,o3,gw,hp3,e3⟩:=nj (R:=R++[.lst (vss.map ak)]) (most:=4) (near:=k - 9) hp' (by decide) (by decide) (by omega) (by omega)
   refine ⟨ak ws,o3 :: R,?_,rfl,o3,vss++[ws],hp3,eX.symm,rfl,by simp [hw],fun x hx=>?_⟩
   ·walk_at "mx"
    rw [e3]
    walk_at "mx"
   ·rcases List.mem_append.mp hx with e | e
    ·exact hg x e
    ·rw [List.mem_singleton.mp e];exact gw)
 rw [e4]
 walk_at "mx"
 rw [List.length_map] at hw
 exact ⟨vss,o3,⟨by rw [hw];exact g.pos,by rw [hw];exact g.le,hg⟩,hw,hp3,by rw [cI,cL];rfl⟩
theorem vT {xs:List D}:cZ xs (some (-1)) none=xs.drop (xs.length - 1):=by
 unfold cZ
 rw [jf]
 have e:HT.sIx xs.length 0 (some (-1))=xs.length - 1:=by
  unfold HT.sIx
  first | (dsimp only;split<;>omega) | (simp;omega) | omega
 rw [e,List.take_of_length_le (by simp)]
theorem jP {s t:List Int} {S:Sto} (h:s.length+t.length≤100000):a8 (.d (ak s)) (.d (ak t)) S=.ok (.d (ak (s++t))) S:=by
 unfold ak
 rw [j8 (by simpa using h),List.map_append]
theorem ph {s:List Int} {c:Int} {S:Sto} (h:s.length≤1000):a8 (.d (ak s)) (.d (.tup [.int c])) S=.ok (.d (ak (s++[c]))) S:=jP (t:=[c]) (by rw [List.length_singleton];omega)
theorem yP {s:List Int} {S:Sto}:oSl (.d (ak s)) (some (-1)) none S=.ok (.d (ak (s.drop (s.length - 1)))) S:=by
 unfold ak
 rw [kF,vT,List.length_map,List.map_drop]
theorem wg {s:List Int} {S:Sto}:pk (.d (ak s)) (.d (.int (-1))) S=.ok (.d (ak s.reverse)) S:=by
 unfold ak
 rw [xw,List.map_reverse]
theorem yO {s:List Int} {S:Sto} (h:s.length≤60):oSS (.d (ak s)) S=.ok (.d (.lst ((a4 s).map D.int))) S:=xH (ns:=s) rfl (by omega) (by have:=nN s;omega)
theorem sj {s:List Int} {k:Nat} {S:Sto}:oSl (.d (ak s)) none (some (k:Int)) S=.ok (.d (ak (s.take k))) S:=by
 unfold ak
 rw [kF,mM,List.map_take]
theorem pD {s:List Int} {k:Nat} {S:Sto}:oSl (.d (ak s)) (some ((k:Int)+1)) none S=.ok (.d (ak (s.drop (k+1)))) S:=by
 unfold ak
 rw [kF,show ((k:Int)+1)=((k+1:Nat):Int) by omega,lD,List.map_drop]
theorem sh {v:Int} {S:Sto}:d9 [.d (.int v)] S=.ok (.d (.bl true)) S:=by
 unfold d9
 rw [bG]
 unfold jA
 walk_at "mx"
 rw [show isT "int" (.int v)=true from rfl]
 walk_at "mx"
 rw [show isT "bool" (.int v)=false from rfl]
 walk_at "mx"
 rw [aD]
theorem Ek {kvs:List (Key×D)} {yd z:D} {k:Key} {S:Sto} (hk:i8 yd=some k) (hv:gh kvs k=some z):oDx (.fd kvs) (.d yd) S=.ok (.d z) S:=by
 unfold oDx
 dsimp only
 rw [hk]
 simp only [jc,hv]
theorem ox {S R:Sto} {kvs:List (Key×D)}:frz (.r S.length) (S++[.dct kvs])=.ok (.fd kvs) (S++[.dead]):=by
 unfold frz
 simp
theorem tR {S R:Sto} {kvs:List (Key×D)} {τ:Nv}:leave S (.ok (.rt (.fd kvs),τ) (S++R))=.ok (.fd kvs) S:=by
 unfold leave out
 simp
theorem wc {kvs:List (Key×D)} {k:Key} {v:D} (h:k∉kvs.map (·.1)):putD kvs k v=kvs++[(k,v)]:=by
 unfold putD
 rw [if_neg]
 intro z
 obtain ⟨x,hx,hk⟩:=List.any_eq_true.mp z
 exact h (List.mem_map.mpr ⟨x,hx,by simpa using hk⟩)
theorem nH:∀ {l kvs:List (Key×D)},(l.map (·.1)).Nodup→(∀ k∈l.map (·.1),k∉kvs.map (·.1))→dC kvs l=kvs++l
 | [],kvs,_,_=>by simp [dC]
 | p :: l,kvs,hn,hd=>by
  rw [List.map_cons] at hn hd
  obtain ⟨h1,h2⟩:=List.nodup_cons.mp hn
  show dC (putD kvs p.1 p.2) l=_
  rw [wc (hd p.1 (by simp)),nH h2,List.append_assoc]
  ·rfl
  ·intro k hk z
   rw [List.map_append] at z
   rcases List.mem_append.mp z with z | z
   ·exact hd k (by simp [hk]) z
   ·rw [List.map_cons,List.map_nil,List.mem_singleton] at z
    exact h1 (z ▸ hk)
theorem ql {t:XT} {e:XE} {τ:Nv} {S1:Sto} {n:Nat} {ob:Ob} {α:Type} {d g:α→D} (hn:S1[n]?=some ob) (p:α→Bool):∀ (xs:List α) (acc:List D) (ρ:Nv),ρ.length=1→(∀ x∈xs,∀ S:Sto,t (some (.d (d x)) :: τ) S=.ok (p x) S)→(∀ x∈xs,p x=true→∀ S:Sto,e (some (.d (d x)) :: τ) S=.ok (.d (g x)) S) →
  c6 (gNm 0) t e S1.length (some (n,ob)) (xs.map fun x=>Vl.d (d x)) acc (ρ++τ) (S1++[.lst acc])=.ok (acc++(xs.filter p).map g) (S1++[.lst (acc++(xs.filter p).map g)])
 | [],acc,ρ,_,_,_=>by
  rw [List.map_nil,c6,if_pos (by simp)]
  simp
 | x :: xs,acc,[r],hρ,ht,he=>by
  have hlt:n < S1.length:=(List.getElem?_eq_some_iff.mp hn).1
  have gk:∀ l,gok (some (n,ob)) (S1++[Ob.lst l]):=fun l=>by
   show (S1++[Ob.lst l])[n]?=some ob
   rw [List.getElem?_append_left hlt];exact hn
  have set_top:∀ l l',(S1++[Ob.lst l]).set S1.length (.lst l')=S1++[.lst l']:=fun l l'=>by simp
  rw [List.map_cons,c6]
  rw [show gNm 0 (Vl.d (d x)) ([r]++τ) (S1++[.lst acc])=.ok (some (.d (d x)) :: τ) (S1++[.lst acc]) from rfl,bo,ht x (by simp),bo]
  cases hp:p x with
  | true=>
   rw [if_pos rfl,he x (by simp) hp,bo]
   dsimp only
   rw [if_pos ⟨by simp,by rw [set_top];exact gk _⟩,set_top]
   have:=ql hn p (d:=d) (g:=g) xs (acc++[g x]) [some (.d (d x))] rfl (fun y hy=>ht y (by simp [hy])) (fun y hy=>he y (by simp [hy]))
   rw [List.filter_cons,if_pos hp,List.map_cons]
   simpa using this
  | false=>
   rw [if_neg (by decide),if_pos (gk _)]
   have:=ql hn p (d:=d) (g:=g) xs acc [some (.d (d x))] rfl (fun y hy=>ht y (by simp [hy])) (fun y hy=>he y (by simp [hy]))
   rw [List.filter_cons,if_neg (by simp [hp])]
   exact this
theorem oV {it:XI} {t:XT} {e:XE} {τ:Nv} {S S1:Sto} {r:R Vl} (hC:xLC it 1 (gNm 0) t e τ S=r) {α:Type} {d g:α→D} {xs:List α} {n:Nat} {ob:Ob} (hit:it τ S=.ok ⟨xs.map fun x=>Vl.d (d x),some (n,ob)⟩ S1) (hn:S1[n]?=some ob) (p:α→Bool) (ht:∀ x∈xs,∀ S:Sto,t (some (.d (d x)) :: τ) S=.ok (p x) S) (he:∀ x∈xs,p x=true→∀ S:Sto,e (some (.d (d x)) :: τ) S=.ok (.d (g x)) S):r=.ok (.d (.lst ((xs.filter p).map g))) S1:=by
 rw [← hC]
 unfold xLC ly
 rw [hit,bo]
 dsimp only
 rw [show (List.replicate 1 (none:Option Vl)++τ)=[none]++τ from rfl,ql hn p xs [] [none] rfl ht he,bo]
 unfold kJ
 simp
theorem Ap {a:XE} {τ:Nv} {xs:List D} {n:Nat} {S S1:Sto} (ha:a τ S=.ok (.r n) S1) (hn:S1[n]?=some (.lst xs)):bp a τ S=.ok ⟨xs.map Vl.d,some (n,.lst xs)⟩ S1:=by unfold bp;rw [ha,bo];simp [hn]
local macro_rules | `(tactic| walk_at "my") => `(tactic| repeat (first | walk_at "mx" | simp only [gU, iE, gI, List.length_map]))
def aT (ns:List Int) (bs:List Tri):D:=.tup [.str "many",ak ns,.tup (bs.map a5)]
theorem sd {ns:List Int} {bs:List Tri} {S:Sto}:oIx (.d (aT ns bs)) (.d (.int 0)) S=.ok (.d (.str "many")) S:=cw rfl
theorem jq {ns:List Int} {bs:List Tri} {S:Sto}:oIx (.d (aT ns bs)) (.d (.int 1)) S=.ok (.d (ak ns)) S:=cw rfl
theorem e9 {ns:List Int} {bs:List Tri} {S:Sto}:oIx (.d (aT ns bs)) (.d (.int 2)) S=.ok (.d (.tup (bs.map a5))) S:=cw rfl
theorem rC {ns:List Int} {bs:List Tri} {S:Sto}:bx [.d (aT ns bs)] S=.ok (.d (.int 3)) S:=kj
theorem tZ:decide ((Str.ofString "many":Str)=Str.ofString "unlike")=false:=by decide +kernel
theorem tD {ns:List Int} {bs:List Tri} {S:Sto} (g:bD bs):ik [.d (aT ns bs)] S=.ok (.d (.bl true)) S:=by
 unfold ik
 rw [bG]
 unfold mI
 walk_at "mx"
 rw [rC]
 walk_at "mx"
 rw [e9]
 walk_at "mx"
 rw [nX g]
 walk_at "mx"
 rw [aD]
theorem zb {ns:List Int} {bs:List Tri} {S:Sto} (g:bD bs):cN [.d (aT ns bs)] S=.ok (.d (.bl true)) S:=by
 unfold cN
 rw [bG]
 unfold fF
 walk_at "mx"
 rw [sd]
 walk_at "mx"
 rw [tZ]
 walk_at "mx"
 rw [tD g]
 walk_at "mx"
 rw [aD]
theorem sm {ns:List Int} {bs:List Tri} {k:Nat} {S:Sto} (g:cQ k ns) (gb:bD bs) (hk:k≤4):ia [.d (aT ns bs)] S=.ok (.d (.bl true)) S:=by
 unfold ia
 rw [bG]
 unfold l4
 walk_at "mx"
 rw [show isT "tuple" (aT ns bs)=true from rfl]
 walk_at "mx"
 rw [rC]
 walk_at "mx"
 rw [show decide ((3:Int) < 2)=false from rfl]
 walk_at "mx"
 rw [jq]
 walk_at "mx"
 rw [p6 g hk]
 walk_at "mx"
 rw [zb gb]
 walk_at "mx"
 rw [aD]
theorem og {wss:List (List Int)} {ns:List Int} {bs:List Tri} {S:Sto} (g:cQ wss.length ns) (gb:bD bs) (hk:wss.length≤4):ed [.d (aw wss),.d (aT ns bs)] S=.ok (.d (.bl true)) S:=by
 unfold ed
 rw [cy]
 unfold jv
 walk_at "mx"
 rw [sm g gb hk]
 walk_at "mx"
 rw [cq (show _=jx [some (.d (aw wss)),some (.d (aT ns bs))] S from rfl) (xs:=ns.map D.int) (S1:=S) (by walk_at "mx";rw [jq];rfl) (fun _=>.bl true) (by
  intro x hx S
  obtain ⟨v,hv,rfl⟩:=List.mem_map.mp hx
  have:=g.dom v hv
  unfold aw
  walk_at "mx"
  rw [List.length_map,decide_eq_true this.2])]
 walk_at "mx"
 rw [all_true]
 walk_at "mx"
 rw [aD]
theorem oG {wss:List (List Int)} {ns:List Int} {bs:List Tri} {x:Vl} {S:Sto} (g:cQ wss.length ns) (gb:bD bs) (hk:wss.length≤4):fc [.d (aw wss),.d (aT ns bs),x] S=.ok (.d .non) S:=by
 unfold fc
 rw [cF]
 unfold kr
 walk_at "mx"
 rw [og g gb hk]
 walk_at "mx"
 rw [iY,gp,List.take_length]
theorem rF {wss:List (List Int)} {n m:Int} {ns:List Int} {bs:List Tri} {S:Sto} (gs:cb n m wss) (hn:n≤4) (hm:m≤4) (g:cQ wss.length ns) (gb:bD bs):kf [.d (aw wss),.d (aT ns bs)] S=.ok (.d .non) S:=by
 have:=gs.le
 unfold kf
 rw [cy]
 unfold qY
 walk_at "mx"
 rw [nZ gs hn hm]
 walk_at "mx"
 rw [oG g gb (by omega)]
 walk_at "mx"
 rw [iY,gp,List.take_length]
theorem pE {wss:List (List Int)} {n m:Int} {ns:List Int} {bs:List Tri} {S:Sto} (gs:cb n m wss) (hn:n≤4) (hm:m≤4) (g:cQ wss.length ns) (gb:bD bs):fg [.d (aw wss),.d (aT ns bs),.d (.str "many")] S=.ok (.d .non) S:=by
 unfold fg
 rw [cF]
 unfold jY
 walk_at "mx"
 rw [rF gs hn hm g gb]
 walk_at "mx"
 rw [sd]
 walk_at "mx"
 rw [iY,gp,List.take_length]
theorem si {o:Ob} {R:Sto} {wss:List (List Int)} {n m:Int} (hp:Pen o) (gs:cb n m wss) (hn:n≤50) (hm:m≤50):∃ (ns:List Int) (bs:List Tri) (o':Ob),cQ wss.length ns∧bD bs∧Pen o'∧e_ [.r 0,.d (aw wss),.d (.int 1)] (o :: R)=.ok (.d (aT ns bs)) (o' :: R):=by
 have:=gs.le
 obtain ⟨ns,o1,gn,hp1,e1⟩:=oi (R:=R) hp gs.pos (by omega)
 obtain ⟨bs,o2,gb,hp2,e2⟩:=uk (R:=R) hp1 gs hn hm
 refine ⟨ns,bs,o2,gn,gb,hp2,?_⟩
 unfold e_
 rw [cF]
 unfold jT
 walk_at "mx"
 rw [e1]
 walk_at "mx"
 rw [show decide ((1:Int)=0)=false from rfl]
 walk_at "mx"
 rw [e2]
 walk_at "mx"
 rw [cI,cL]
 rfl
def m7 (b:Tri):Key×D:=(.inl b.1,.int b.2.1)
def mF (b:Tri):Key×D:=(.inl b.1,.int b.2.2)
def dz (b:Tri):Key×D:=(.inl b.1,a5 b)
def bj (bs:List Tri):List Int:=bs.map (·.1)
theorem jk {bs:List Tri} {g:Tri→Key×D} {S:Sto} (h:∀ b,(g b).1=.inl b.1) (gb:bD bs):fDL [.d (.lst (bs.map fun b=>D.tup [.int b.1,(g b).2]))] S=.ok (.r S.length) (S++[.dct (bs.map g)]):=by
 have e:dS (bs.map fun b=>D.tup [.int b.1,(g b).2])=some (bs.map g):=by
  have:∀ l:List Tri,dS (l.map fun b=>D.tup [.int b.1,(g b).2])=some (l.map g):=fun l=>by
   induction l with
   | nil=>rfl
   | cons b l ih=>
    rw [List.map_cons,List.map_cons,dS,ih]
    simp only [i8]
    rw [← h b]
  exact this bs
 have hl:=gb.le
 unfold fDL
 dsimp only
 rw [show b7 (.d (.lst (bs.map fun b=>D.tup [.int b.1,(g b).2]))) S=some (bs.map fun b=>D.tup [.int b.1,(g b).2]) from rfl,Option.bind_some,e]
 dsimp only
 rw [if_pos (by rw [List.length_map];omega),nH]
 ·rfl
 ·rw [List.map_map]
  have e2:(bs.map ((fun x=>x.1) ∘ g))=(bs.map (·.1)).map Sum.inl:=by
   rw [List.map_map]
   exact List.map_congr_left fun b _=>h b
  rw [e2]
  exact xP (gb.rise.imp fun z=>by omega) fun x _ y _ z=>Sum.inl.inj z
 ·simp
theorem sv {bs:List Tri} {S:Sto} (gb:bD bs):iu [.d (.tup (bs.map a5))] S=.ok (.fd (bs.map m7)) S:=by
 unfold iu
 rw [bG]
 unfold mJ
 have e:jb [some (.d (.tup (bs.map a5)))] S=.ok (.d (.lst (bs.map fun b=>D.tup [.int b.1,(m7 b).2]))) S:=by
  unfold jb
  rw [lcG (items:=bs.map fun b=>Vl.d (a5 b)) (S1:=S) (by walk_at "mx";rw [nr]) (fun z=>match z with | .d (.tup [a,b,c])=>[some (.d a),some (.d b),some (.d c)] | _=>[none,none,none]) (fun z=>match z with | .d (.tup [a,b,c])=>.tup [a,b] | _=>.non) (fun _=>true) ?_ ?_ ?_ ?_]
  ·rw [List.filter_eq_self.mpr (fun _ _=>rfl),List.map_map]
   rfl
  ·intro z hz
   obtain ⟨b,_,rfl⟩:=List.mem_map.mp hz
   rfl
  ·intro z hz ρ hρ S
   obtain ⟨b,_,rfl⟩:=List.mem_map.mp hz
   match ρ,hρ with
   | [_,_,_],_=>unfold a5;walk_at "mx"
  ·intro z hz S
   rfl
  ·intro z hz _ S
   obtain ⟨b,_,rfl⟩:=List.mem_map.mp hz
   unfold a5
   dsimp only
   walk_at "mx"
 walk_at "mx"
 rw [e]
 walk_at "mx"
 rw [jk (fun _=>rfl) gb]
 walk_at "mx"
 rw [ox (R:=[])]
 walk_at "mx"
 rw [tR]
theorem qU {bs:List Tri} {S:Sto} (gb:bD bs):fU [.d (.tup (bs.map a5))] S=.ok (.fd (bs.map mF)) S:=by
 unfold fU
 rw [bG]
 unfold k9
 have e:iD [some (.d (.tup (bs.map a5)))] S=.ok (.d (.lst (bs.map fun b=>D.tup [.int b.1,(mF b).2]))) S:=by
  unfold iD
  rw [lcG (items:=bs.map fun b=>Vl.d (a5 b)) (S1:=S) (by walk_at "mx";rw [nr]) (fun z=>match z with | .d (.tup [a,b,c])=>[some (.d a),some (.d b),some (.d c)] | _=>[none,none,none]) (fun z=>match z with | .d (.tup [a,b,c])=>.tup [a,c] | _=>.non) (fun _=>true) ?_ ?_ ?_ ?_]
  ·rw [List.filter_eq_self.mpr (fun _ _=>rfl),List.map_map]
   rfl
  ·intro z hz
   obtain ⟨b,_,rfl⟩:=List.mem_map.mp hz
   rfl
  ·intro z hz ρ hρ S
   obtain ⟨b,_,rfl⟩:=List.mem_map.mp hz
   match ρ,hρ with
   | [_,_,_],_=>unfold a5;walk_at "mx"
  ·intro z hz S
   rfl
  ·intro z hz _ S
   obtain ⟨b,_,rfl⟩:=List.mem_map.mp hz
   unfold a5
   dsimp only
   walk_at "mx"
 walk_at "mx"
 rw [e]
 walk_at "mx"
 rw [jk (fun _=>rfl) gb]
 walk_at "mx"
 rw [ox (R:=[])]
 walk_at "mx"
 rw [tR]
def bJ (bs:List Tri) (w:Int):Tri:=(bs.find? fun b=>decide (b.1=w)).getD (0,0,0)
theorem yL {bs:List Tri} {w:Int} (h:w∈bj bs):bJ bs w∈bs∧(bJ bs w).1=w:=by
 obtain ⟨b,hb,rfl⟩:=List.mem_map.mp h
 have:(bs.find? fun x=>decide (x.1=b.1)).isSome:=List.find?_isSome.mpr ⟨b,hb,by simp⟩
 obtain ⟨c,hc⟩:=Option.isSome_iff_exists.mp this
 unfold bJ
 rw [hc]
 exact ⟨List.mem_of_find?_eq_some hc,by simpa using List.find?_some hc⟩
theorem wJ {bs:List Tri} {g:Tri→Key×D} {w:Int} (hg:∀ b,(g b).1=.inl b.1):gh (bs.map g) (.inl w)=if w∈bj bs then some (g (bJ bs w)).2 else none:=by
 induction bs with
 | nil=>rfl
 | cons b bs ih=>
  rw [List.map_cons]
  by_cases h:b.1=w
  ·rw [qe (by rw [hg,h]),if_pos (by simp [bj,h])]
   simp [bJ,List.find?_cons,h]
  ·rw [lA (fun z=>h (by rw [hg] at z;exact Sum.inl.inj z)),ih]
   have e1:w∈bj (b :: bs)↔w∈bj bs:=by
    simp only [bj,List.map_cons,List.mem_cons]
    exact ⟨fun z=>z.resolve_left fun q=>h q.symm,.inr⟩
   have e2:bJ (b :: bs) w=bJ bs w:=by simp [bJ,List.find?_cons,h]
   rw [e2]
   by_cases q:w∈bj bs
   ·rw [if_pos q,if_pos (e1.mpr q)]
   ·rw [if_neg q,if_neg (fun z=>q (e1.mp z))]
theorem Er {bs:List Tri} {g:Tri→Key×D} {w:Int} {S:Sto} (hg:∀ b,(g b).1=.inl b.1):qw (.d (.int w)) (.fd (bs.map g)) S=.ok (.d (.bl (decide (w∈bj bs)))) S:=by
 unfold qw ky
 dsimp only [i8,jc]
 rw [wJ hg]
 by_cases h:w∈bj bs
 ·rw [if_pos h,decide_eq_true h];rfl
 ·rw [if_neg h,decide_eq_false h];rfl
theorem xW {bs:List Tri} {g:Tri→Key×D} {w:Int} {S:Sto} (hg:∀ b,(g b).1=.inl b.1):kC (.d (.int w)) (.fd (bs.map g)) S=.ok (.d (.bl (!decide (w∈bj bs)))) S:=by
 unfold kC ky
 dsimp only [i8,jc]
 rw [wJ hg]
 by_cases h:w∈bj bs
 ·rw [if_pos h,decide_eq_true h];rfl
 ·rw [if_neg h,decide_eq_false h];rfl
theorem dxB {bs:List Tri} {g:Tri→Key×D} {w:Int} {S:Sto} (hg:∀ b,(g b).1=.inl b.1) (h:w∈bj bs):oDx (.fd (bs.map g)) (.d (.int w)) S=.ok (.d (g (bJ bs w)).2) S:=Ek (k:=.inl w) rfl (by rw [wJ hg,if_pos h])
theorem l9 {α:Type} {f:α→Int} {l:List α} {S:Sto} (hl:l.length≤1000) (h:∀ x∈l,-1000000≤f x∧f x≤1000000):kq [.d (.lst (l.map fun x=>D.int (f x)))] S=.ok (.d (.int (l.map f).sum)) S:=by
 unfold kq
 dsimp only
 rw [show (b7 (.d (.lst (l.map fun x=>D.int (f x)))) S).bind intsOf=some (l.map f) from by
  show intsOf _=_
  rw [lH f l]]
 dsimp only
 rw [if_pos ⟨by rw [List.length_map];exact hl,fun n hn=>by obtain ⟨x,hx,rfl⟩:=List.mem_map.mp hn;exact h x hx⟩]
def tooMany (wss:List (List Int)) (bs:List Tri) (ps:List Int):Bool:=((a4 (ba wss ps)).all fun w=>decide (w∈bj bs)) && decide (((a4 (ba wss ps)).map fun w=>(bJ bs w).2.2).sum < (ps.length:Int))
def mf (wss:List (List Int)) (ns ps:List Int):List Int:=ns.filter fun n=>(wss.getD n.toNat []).any fun w=>decide (w∈ps)
def pI (wss:List (List Int)) (ns:List Int) (bs:List Tri) (ps:List Int):Bool:=decide (((mf wss ns ps).length:Int) < (ps.map fun w=>(bJ bs w).2.1).sum)
def dH (wss:List (List Int)) (ns:List Int) (bs:List Tri) (nm:Bool) (ps:List Int):Bool:=!decide (ps=[]) && (decide (ps.Pairwise (· < ·)) && (if nm then ps.all (fun p=>decide (p∈ns)) && tooMany wss bs ps else ps.all (fun p=>decide (p∈bj bs)) && pI wss ns bs ps))
def bq (nm:Bool) (ps:List Int):D:=.tup [.str (if nm then "names" else "worths"),ak ps]
theorem kG {bs:List Tri} {w:Int} (gb:bD bs):(0≤(bJ bs w).2.1∧(bJ bs w).2.1≤4)∧0≤(bJ bs w).2.2∧(bJ bs w).2.2≤4:=by
 by_cases h:w∈bj bs
 ·have:=gb.lim _ (yL h).1
  omega
 ·have:bs.find? (fun b=>decide (b.1=w))=none:=List.find?_eq_none.mpr fun b hb z=>h (List.mem_map.mpr ⟨b,hb,by simpa using z⟩)
  unfold bJ
  rw [this]
  decide
theorem ma {wss:List (List Int)} {n m:Int} {ps:List Int} (gs:cb n m wss) (hn:∀ p∈ps,0≤p∧p < (wss.length:Int)):(a4 (ba wss ps)).length < 64:=by
 have h1:∀ x∈a4 (ba wss ps),-9≤x∧x < 10:=fun x hx=>by
  rw [dY] at hx
  obtain ⟨p,hp,hx⟩:=List.mem_flatMap.mp hx
  have:=hn p hp
  have:=(gs.all _ (kb this.1 this.2)).lim x hx
  omega
 have:=lJ _ (-9) 10 (by decide) (cM (ba wss ps)) h1
 omega
theorem qT {wss:List (List Int)} {n m:Int} {bs:List Tri} {ps:List Int} {S:Sto} (gs:cb n m wss) (hm:m≤4) (gb:bD bs) (hn:∀ p∈ps,0≤p∧p < (wss.length:Int)) (hl:ps.length≤60):dr [.d (aw wss),.d (ak ps),.fd (bs.map mF)] S=.ok (.d (.bl (tooMany wss bs ps))) S:=by
 have hw:∀ ws∈wss,ws.length≤4:=fun ws h=>by have:=(gs.all ws h).le;omega
 have hf:=ma gs hn
 unfold dr
 rw [cF]
 unfold ie
 walk_at "mx"
 rw [oE hw (Nat.le_refl 4) hn hl hf]
 walk_at "mx"
 unfold tooMany
 generalize a4 (ba wss ps)=U at hf
 rw [m6 (show _=il [some (.d (aw wss)),some (.d (ak ps)),some (.fd (bs.map mF)),some (.d (.lst (U.map D.int)))] S from rfl) (xs:=U.map D.int) (S1:=S) (by walk_at "mx") (fun x=>match x with | .int w=>.bl (decide (w∈bj bs)) | _=>.non) (by
  intro x hx S
  obtain ⟨w,_,rfl⟩:=List.mem_map.mp hx
  walk_at "mx"
  rw [Er (fun _=>rfl)])]
 walk_at "mx"
 rw [List.map_map,show ((fun x:D=>(match x with | .int w=>D.bl (decide (w∈bj bs)) | _=>.non)) ∘ D.int)=fun w:Int=>D.bl (decide (w∈bj bs)) from rfl,iK]
 walk_at "mx"
 cases q:(U.all fun w=>decide (w∈bj bs)) with
 | false=>
  walk_at "mx"
  rw [aD]
  rfl
 | true=>
  walk_at "mx"
  have hq:=List.all_eq_true.mp q
  rw [m6 (show _=ib [some (.d (aw wss)),some (.d (ak ps)),some (.fd (bs.map mF)),some (.d (.lst (U.map D.int)))] S from rfl) (xs:=U.map D.int) (S1:=S) (by walk_at "mx") (fun x=>match x with | .int w=>.int (bJ bs w).2.2 | _=>.non) (by
   intro x hx S
   obtain ⟨w,hw,rfl⟩:=List.mem_map.mp hx
   walk_at "mx"
   rw [dxB (fun _=>rfl) (by simpa using hq w hw)]
   rfl)]
  walk_at "mx"
  rw [List.map_map,show ((fun x:D=>(match x with | .int w=>D.int (bJ bs w).2.2 | _=>.non)) ∘ D.int)=fun w:Int=>D.int (bJ bs w).2.2 from rfl,l9 (by omega) (fun w _=>by have:=kG (w:=w) gb;omega)]
  walk_at "my"
  rw [aD]
  rfl
theorem sk {wss:List (List Int)} {p:Int} {ps:List Int} {S:Sto} (h0:0≤p) (h1:p < (wss.length:Int)):eB [.d (aw wss),.d (.int p),.d (ak ps)] S=.ok (.d (.bl ((wss.getD p.toNat []).any fun w=>decide (w∈ps)))) S:=by
 unfold eB
 rw [cF]
 unfold jB
 rw [show (aG (xN j4 (ab dN aj)))=(aG (xN j4 (ab dN aj))) from rfl]
 walk_at "mx"
 rw [cq (show _=dN [some (.d (aw wss)),some (.d (.int p)),some (.d (ak ps))] S from rfl) (xs:=(wss.getD p.toNat []).map D.int) (S1:=S) (by
  unfold aw
  walk_at "mx"
  rw [cw (ji h0 h1)]
  rfl) (fun x=>match x with | .int w=>.bl (decide (w∈ps)) | _=>.non) (by
  intro x hx S
  obtain ⟨w,_,rfl⟩:=List.mem_map.mp hx
  walk_at "my")]
 walk_at "mx"
 rw [List.map_map,show ((fun x:D=>(match x with | .int w=>D.bl (decide (w∈ps)) | _=>.non)) ∘ D.int)=fun w:Int=>D.bl (decide (w∈ps)) from rfl,AH]
 walk_at "mx"
 rw [aD]
theorem pS {wss:List (List Int)} {ns:List Int} {bs:List Tri} {ps:List Int} {S:Sto} (gb:bD bs) (hd:∀ p∈ns,0≤p∧p < (wss.length:Int)) (hk:∀ p∈ps,p∈bj bs) (hl:ps.length≤60):c9 [.d (aw wss),.d (ak ns),.d (ak ps),.fd (bs.map m7)] S=.ok (.d (.bl (pI wss ns bs ps))) S:=by
 unfold c9
 rw [uO]
 unfold gL
 walk_at "mx"
 rw [f9 (show _=gA [some (.d (aw wss)),some (.d (ak ns)),some (.d (ak ps)),some (.fd (bs.map m7)),none] S from rfl) (d:=D.int) (g:=D.int) (xs:=ns) (S1:=S) (by
  unfold ak
  walk_at "mx"
  rw [cO]) (fun n=>(wss.getD n.toNat []).any fun w=>decide (w∈ps)) (fun n hn S=>by
  walk_at "mx"
  rw [sk (hd n hn).1 (hd n hn).2]
  walk_at "mx") (fun n _ _ S=>by walk_at "mx")]
 walk_at "mx"
 rw [cq (show _=gP [some (.d (aw wss)),some (.d (ak ns)),some (.d (ak ps)),some (.fd (bs.map m7)),some (.d (.lst ((ns.filter fun n=>(wss.getD n.toNat []).any fun w=>decide (w∈ps)).map D.int)))] S from rfl) (xs:=ps.map D.int) (S1:=S) (by unfold ak;walk_at "mx") (fun x=>match x with | .int w=>.int (bJ bs w).2.1 | _=>.non) (by
  intro x hx S
  obtain ⟨w,hw,rfl⟩:=List.mem_map.mp hx
  walk_at "mx"
  rw [dxB (fun _=>rfl) (hk w hw)]
  rfl)]
 walk_at "mx"
 rw [List.map_map,show ((fun x:D=>(match x with | .int w=>D.int (bJ bs w).2.1 | _=>.non)) ∘ D.int)=fun w:Int=>D.int (bJ bs w).2.1 from rfl,l9 (by omega) (fun w _=>by have:=kG (w:=w) gb;omega)]
 walk_at "my"
 rw [aD]
 rfl
theorem tQ {ps ks:List Int} {S:Sto} (hl:ps.length≤1000):b8 [.d (ak ps),.d (.lst (ks.map D.int))] S=.ok (.d (.bl (!decide (ps=[]) && (ps.all (fun p=>decide (p∈ks)) && decide (ps.Pairwise (· < ·)))))) S:=by
 unfold b8
 rw [cy]
 unfold eR
 walk_at "mx"
 rw [show ak ps=.tup (ps.map D.int) from rfl,iG]
 walk_at "mx"
 rw [List.length_map]
 by_cases h0:ps=[]
 ·rw [decide_eq_true (show (ps.length:Int)=0 by rw [h0];rfl),decide_eq_true h0]
  walk_at "mx"
  rw [aD]
  rfl
 ·rw [decide_eq_false (show ¬(ps.length:Int)=0 by have:ps.length≠0:=fun h=>h0 (List.length_eq_zero_iff.mp h);omega),decide_eq_false h0]
  walk_at "mx"
  rw [cq (show _=eT [some (.d (.tup (ps.map D.int))),some (.d (.lst (ks.map D.int)))] S from rfl) (xs:=ps.map D.int) (S1:=S) (by walk_at "mx") (fun x=>match x with | .int p=>.bl (decide (p∈ks)) | _=>.non) (by
   intro x hx S
   obtain ⟨v,hv,rfl⟩:=List.mem_map.mp hx
   walk_at "mx")]
  walk_at "mx"
  rw [List.map_map,show ((fun x:D=>(match x with | .int p=>D.bl (decide (p∈ks)) | _=>.non)) ∘ D.int)=fun p:Int=>D.bl (decide (p∈ks)) from rfl,iK]
  by_cases ha:ps.all (fun p=>decide (p∈ks))=true
  ·rw [ha]
   walk_at "mx"
   rw [show D.tup (ps.map D.int)=ak ps from rfl,fD hl]
   walk_at "mx"
   rw [aD]
   simp
  ·rw [Bool.not_eq_true _ |>.mp ha]
   walk_at "mx"
   rw [aD]
   simp
theorem u3 {bs:List Tri} {S:Sto}:kx [.fd (bs.map m7)] S=.ok (.d (.lst ((bj bs).map D.int))) S:=by
 unfold kx bj
 dsimp only
 rw [List.map_map,List.map_map]
 rfl
theorem me {nm:Bool} {ps:List Int} {S:Sto}:oIx (.d (bq nm ps)) (.d (.int 0)) S=.ok (.d (.str (if nm then "names" else "worths"))) S:=cw rfl
theorem eC {nm:Bool} {ps:List Int} {S:Sto}:oIx (.d (bq nm ps)) (.d (.int 1)) S=.ok (.d (ak ps)) S:=cw rfl
theorem tW:decide ((Str.ofString "worths":Str)=Str.ofString "names")=false:=by decide +kernel
theorem jz {wss:List (List Int)} {n m:Int} {ns:List Int} {bs:List Tri} {nm:Bool} {ps:List Int} {S:Sto} (gs:cb n m wss) (hn:n≤4) (hm:m≤4) (g:cQ wss.length ns) (gb:bD bs) (hl:ps.length≤60):de [.d (aw wss),.d (aT ns bs),.d (bq nm ps)] S=.ok (.d (.bl (dH wss ns bs nm ps))) S:=by
 unfold de
 rw [cF]
 unfold jM
 walk_at "mx"
 rw [pE gs hn hm g gb]
 walk_at "mx"
 rw [show isT "tuple" (bq nm ps)=true from rfl]
 walk_at "mx"
 rw [show bx [.d (bq nm ps)] S=.ok (.d (.int 2)) S from kj]
 walk_at "mx"
 rw [eC]
 walk_at "mx"
 rw [me]
 cases nm with
 | true=>
  rw [if_pos rfl]
  walk_at "mx"
  rw [jq]
  walk_at "mx"
  rw [mU (by omega)]
  unfold dH
  rw [if_pos rfl]
  by_cases h1:ps=[]
  ·rw [decide_eq_true h1]
   simp only [Bool.not_true,Bool.not_false,Bool.false_and,Bool.true_and,Bool.and_false,Bool.and_true]
   walk_at "mx"
   rw [aD]
  ·rw [decide_eq_false h1]
   by_cases h2:ps.all (fun p=>decide (p∈ns))=true
   ·by_cases h3:ps.Pairwise (· < ·)
    ·rw [h2,decide_eq_true h3]
     simp only [Bool.not_true,Bool.not_false,Bool.false_and,Bool.true_and,Bool.and_false,Bool.and_true]
     walk_at "mx"
     rw [e9]
     walk_at "mx"
     rw [qU gb]
     walk_at "mx"
     rw [qT gs hm gb (fun p hp=>g.dom p (by simpa using List.all_eq_true.mp h2 p hp)) hl]
     walk_at "mx"
     rw [aD]
    ·rw [decide_eq_false h3]
     simp only [Bool.not_true,Bool.not_false,Bool.false_and,Bool.true_and,Bool.and_false,Bool.and_true]
     walk_at "mx"
     rw [aD]
   ·rw [Bool.not_eq_true _ |>.mp h2]
    simp only [Bool.not_true,Bool.not_false,Bool.false_and,Bool.true_and,Bool.and_false,Bool.and_true]
    walk_at "mx"
    rw [aD]
 | false=>
  rw [if_neg (by decide)]
  walk_at "mx"
  rw [tW]
  walk_at "mx"
  rw [e9]
  walk_at "mx"
  rw [sv gb]
  walk_at "mx"
  rw [me,if_neg (by decide)]
  walk_at "mx"
  rw [u3]
  walk_at "mx"
  rw [tQ (by omega)]
  unfold dH
  rw [if_neg (by decide)]
  by_cases h1:ps=[]
  ·rw [decide_eq_true h1]
   simp only [Bool.not_true,Bool.not_false,Bool.false_and,Bool.true_and,Bool.and_false,Bool.and_true]
   walk_at "mx"
   rw [aD]
  ·rw [decide_eq_false h1]
   by_cases h2:ps.all (fun p=>decide (p∈bj bs))=true
   ·by_cases h3:ps.Pairwise (· < ·)
    ·rw [h2,decide_eq_true h3]
     simp only [Bool.not_true,Bool.not_false,Bool.false_and,Bool.true_and,Bool.and_false,Bool.and_true]
     walk_at "mx"
     rw [jq]
     walk_at "mx"
     rw [pS gb g.dom (fun p hp=>by simpa using List.all_eq_true.mp h2 p hp) hl]
     walk_at "mx"
     rw [aD]
    ·rw [decide_eq_false h3]
     simp only [Bool.not_true,Bool.not_false,Bool.false_and,Bool.true_and,Bool.and_false,Bool.and_true]
     walk_at "mx"
     rw [aD]
   ·rw [Bool.not_eq_true _ |>.mp h2]
    simp only [Bool.not_true,Bool.not_false,Bool.false_and,Bool.true_and,Bool.and_false,Bool.and_true]
    walk_at "mx"
    rw [aD]
theorem qF {wss:List (List Int)} {n m:Int} {ns:List Int} {bs:List Tri} {nm:Bool} {ps:List Int} {S:Sto} (gs:cb n m wss) (hn:n≤4) (hm:m≤4) (g:cQ wss.length ns) (gb:bD bs) (hl:ps.length≤60):fT [.d (aw wss),.d (aT ns bs),.d (bq nm ps)] S=.ok (.d (.bl (dH wss ns bs nm ps))) S:=by
 unfold fT
 rw [cF]
 unfold kX
 walk_at "mx"
 rw [rF gs hn hm g gb]
 walk_at "mx"
 rw [sd]
 walk_at "mx"
 rw [tZ]
 walk_at "mx"
 rw [jz gs hn hm g gb hl]
 walk_at "mx"
 rw [aD]
theorem rT {ps:List Int} {S:Sto} (hl:ps.length≤60):dq [.d (ak ps)] S=.ok (.d (.bl (!decide (ps=[]) && decide (ps.Pairwise (· < ·))))) S:=by
 unfold dq
 rw [bG]
 unfold iq
 walk_at "mx"
 rw [show isT "tuple" (ak ps)=true from rfl]
 walk_at "mx"
 rw [show oEq (.d (ak ps)) (.d (.tup [])) S=.ok (.d (.bl (decide (ps=[])))) S from by
  unfold ak
  rw [xy (by rw [D.depth,fX];decide),show ([]:List D)=([]:List Int).map D.int from rfl,jX]]
 walk_at "mx"
 by_cases h1:ps=[]
 ·rw [decide_eq_true h1]
  walk_at "mx"
  rw [aD]
  rfl
 ·rw [decide_eq_false h1]
  walk_at "mx"
  rw [f9 (show _=hV [some (.d (ak ps))] S from rfl) (d:=D.int) (g:=fun _=>D.int 1) (xs:=ps) (S1:=S) (by
   unfold ak
   walk_at "mx"
   rw [cO]) (fun _=>false) (fun n _ S=>by
   walk_at "mx"
   rw [sh]
   walk_at "mx") (fun n _ h S=>by cases h)]
  rw [show ps.filter (fun _=>false)=[] by simp]
  walk_at "mx"
  rw [jQ (by decide),show D.bC [] []=true from rfl]
  walk_at "mx"
  rw [ints_list]
  walk_at "mx"
  rw [yO hl]
  walk_at "mx"
  rw [BW (by rw [D.depth,fX];decide),jX,show decide (ps=a4 ps)=decide (ps.Pairwise (· < ·)) from decide_eq_decide.mpr wK]
  walk_at "mx"
  rw [aD]
  simp
theorem wo {a b:List Int} (h:a.Perm b):a.sum=b.sum:=by
 induction h with
 | nil=>rfl
 | cons x _ ih=>rw [List.sum_cons,List.sum_cons,ih]
 | swap x y l=>simp only [List.sum_cons];omega
 | trans _ _ i j=>rw [i,j]
theorem oF {wss:List (List Int)} {ns:List Int} {bs:List Tri} {nm:Bool} {ps:List Int} {S:Sto} {x3 x4 x5 x6:Option Vl}:dO [some (.d (aw wss)),some (.d (aT ns bs)),some (.d (bq nm ps)),x3,x4,x5,x6] S=.ok (.d (.lst (bs.map fun b=>D.tup [.int b.1,(dz b).2]))) S:=by
 rw [cq (show _=dO [some (.d (aw wss)),some (.d (aT ns bs)),some (.d (bq nm ps)),x3,x4,x5,x6] S from rfl) (xs:=bs.map a5) (S1:=S) (by walk_at "mx";rw [e9]) (fun x=>match x with | .tup (y :: z)=>.tup [y,.tup (y :: z)] | z=>z) (by
  intro x hx S
  obtain ⟨b,hb,rfl⟩:=List.mem_map.mp hx
  walk_at "mx"
  rw [oo]
  walk_at "mx"
  rfl)]
 rw [List.map_map]
 rfl
theorem BB {wss:List (List Int)} {n m:Int} {ns:List Int} {bs:List Tri} {ps:List Int} {S:Sto} {x6:Option Vl} (gs:cb n m wss) (hm:m≤4) (hn:∀ p∈ps,0≤p∧p < (wss.length:Int)) (hl:ps.length≤60) :
  ∃ (ws:List Int) (y5:Option Vl),ws.Nodup∧(∀ x,x∈ws↔x∈ba wss ps)∧dW [some (.d (aw wss)),some (.d (aT ns bs)),some (.d (bq true ps)),some (.fd (bs.map dz)),some (.r S.length),none,x6] (S++[.lst []])=.ok (.nx,[some (.d (aw wss)),some (.d (aT ns bs)),some (.d (bq true ps)),some (.fd (bs.map dz)),some (.r S.length),y5,x6]) (S++[.lst (ws.map D.int)]):=by
 obtain ⟨τ',S',e,ws,y5,h1,h2,rfl,rfl⟩:=cu (show _=dW [some (.d (aw wss)),some (.d (aT ns bs)),some (.d (bq true ps)),some (.fd (bs.map dz)),some (.r S.length),none,x6] (S++[.lst []]) from rfl)
   (S1:=S++[.lst []]) (items:=(ps.map D.int).map Vl.d) (gd:=none) (by walk_at "mx";rw [eC];unfold ak;walk_at "mx")
   (fun i τ S'=>∃ (ws:List Int) (y5:Option Vl),ws.Nodup∧(∀ x,x∈ws↔x∈ba wss (ps.take i))∧τ=[some (.d (aw wss)),some (.d (aT ns bs)),some (.d (bq true ps)),some (.fd (bs.map dz)),some (.r S.length),y5,x6]∧S'=S++[.lst (ws.map D.int)]) ⟨[],none,.nil,fun x=>by simp [ba],rfl,rfl⟩ (by
    rintro i z τ S' hz ⟨ws,y5,h1,h2,rfl,rfl⟩
    obtain ⟨p,ep,rfl⟩:=ints_get hz
    obtain ⟨p0,p1⟩:=hn p (List.mem_of_getElem? ep)
    have gw:=gs.all _ (kb p0 p1)
    have hwl:=gw.le
    have hfew:ws.length≤200:=by
     have e1:=pP h1
     have h3:∀ x∈a4 ws,-9≤x∧x < 10:=fun x hx=>by
      rw [dY,h2] at hx
      obtain ⟨q,hq,hx⟩:=List.mem_flatMap.mp hx
      have hq:=hn q (List.mem_of_mem_take hq)
      have:=(gs.all _ (kb hq.1 hq.2)).lim x hx
      omega
     have:=lJ _ (-9) 10 (by decide) (cM ws) h3
     omega
    refine ⟨_,_,.nx,_,_,by walk_at "mx";rfl,by
     walk_at "mx"
     obtain ⟨acc,Q,e1,_,rfl,rfl⟩:=sT (show _=gB [some (.d (aw wss)),some (.d (aT ns bs)),some (.d (bq true ps)),some (.fd (bs.map dz)),some (.r S.length),some (.d (.int p)),x6] (S++[.lst (ws.map D.int)]) from rfl) (S1:=S++[.lst (ws.map D.int)]) (items:=((wss.getD p.toNat []).map D.int).map Vl.d) (by
      walk_at "mx"
      unfold aw
      rw [cw (ji p0 p1)]
      unfold ak
      walk_at "mx") (fun i acc Q=>acc=(((wss.getD p.toNat []).take i).filter fun w=>!decide (w∈ws)).map D.int∧Q=S++[.lst (ws.map D.int)]) ⟨by simp,rfl⟩ (by
      rintro i z acc Q hz ⟨rfl,rfl⟩ _
      obtain ⟨w,ew,rfl⟩:=ints_get hz
      refine ⟨!decide (w∈ws),S++[.lst (ws.map D.int)],?_,rfl,fun hb=>⟨.int w,_,by walk_at "mx",rfl,?_,rfl⟩,fun hb=>⟨?_,rfl⟩⟩
      ·walk_at "mx"
       rw [mh (ns:=ws) (by simp)]
       walk_at "mx"
      ·rw [take_snoc ew,List.filter_append,List.map_append]
       simp at hb
       simp [hb]
      ·rw [take_snoc ew,List.filter_append]
       simp at hb
       simp [hb])
     rw [e1,show (((wss.getD p.toNat []).map D.int).map Vl.d).length=(wss.getD p.toNat []).length by simp,List.take_length]
     walk_at "mx"
     rw [u6 (by
      have:=List.length_filter_le (fun w=>!decide (w∈ws)) (wss.getD p.toNat [])
      simp only [List.length_map]
      omega)]
     walk_at "mx"
     rw [← List.map_append],.inl rfl,True.intro,ws++(wss.getD p.toNat []).filter (fun w=>!decide (w∈ws)),some (.d (.int p)),?_,?_,rfl,rfl⟩
    ·refine List.nodup_append.mpr ⟨h1,(gw.rise.imp fun z=>by omega).sublist List.filter_sublist,fun a ha b hb=>?_⟩
     rintro rfl
     have:=(List.mem_filter.mp hb).2
     simp [ha] at this
    ·intro x
     rw [take_snoc ep,jK,List.mem_append,List.mem_append,← h2,List.mem_filter]
     by_cases hx:x∈ws<;>simp [hx])
 rw [show ((ps.map D.int).map Vl.d).length=ps.length by simp,List.take_length] at h2
 exact ⟨ws,y5,h1,h2,e⟩
theorem w8 {wss:List (List Int)} {n m:Int} {ns:List Int} {bs:List Tri} {ps:List Int} {S:Sto} (gs:cb n m wss) (hm:m≤4) (gn:cQ wss.length ns) (gb:bD bs) (hl:ps.length≤60):bL [.d (aw wss),.d (aT ns bs),.d (bq true ps)] S=.ok (.d (.bl (dH wss ns bs true ps))) S:=by
 unfold bL
 rw [cF]
 unfold dX dH
 rw [if_pos rfl]
 walk_at "mx"
 rw [eC]
 walk_at "mx"
 rw [rT hl]
 by_cases h1:ps=[]
 ·rw [decide_eq_true h1]
  simp only [Bool.not_true,Bool.not_false,Bool.false_and,Bool.true_and,Bool.and_false,Bool.and_true]
  walk_at "mx"
  rw [aD]
 by_cases h2:¬ps.Pairwise (· < ·)
 ·rw [decide_eq_false h2]
  simp only [Bool.not_true,Bool.not_false,Bool.false_and,Bool.true_and,Bool.and_false,Bool.and_true]
  walk_at "mx"
  rw [aD]
 rw [decide_eq_false h1,decide_eq_true (Decidable.of_not_not h2)]
 simp only [Bool.not_true,Bool.not_false,Bool.false_and,Bool.true_and,Bool.and_false,Bool.and_true]
 walk_at "mx"
 rw [oF]
 walk_at "mx"
 rw [jk (fun _=>rfl) gb]
 walk_at "mx"
 rw [ox (R:=[])]
 walk_at "mx"
 rw [me,if_pos rfl]
 walk_at "mx"
 rw [f9 (show _=gT [some (.d (aw wss)),some (.d (aT ns bs)),some (.d (bq true ps)),some (.fd (bs.map dz)),none,none,none] (S++[.dead]) from rfl) (d:=D.int) (g:=fun _=>D.int 1) (xs:=ps) (S1:=S++[.dead]) (by
  walk_at "mx"
  rw [eC]
  unfold ak
  walk_at "mx"
  rw [cO]) (fun p=>!decide (p∈ns)) (fun p _ S=>by
  walk_at "mx"
  rw [jq]
  walk_at "my") (fun p _ _ S=>by walk_at "mx")]
 walk_at "mx"
 rw [jQ (iV _),gY,dE,du]
 simp only [Bool.not_not]
 cases h3:ps.all fun p=>decide (p∈ns) with
 | false=>
  walk_at "mx"
  rw [eW]
  rfl
 | true=>
  walk_at "mx"
  have h3:=List.all_eq_true.mp h3
  have hd:∀ p∈ps,0≤p∧p < (wss.length:Int):=fun p hp=>gn.dom p (by simpa using h3 p hp)
  obtain ⟨ws,y5,k1,k2,e⟩:=BB (n:=n) (m:=m) (ns:=ns) (bs:=bs) (S:=S++[.dead]) (x6:=none) gs hm hd hl
  rw [e]
  have hpm:ws.Perm (a4 (ba wss ps)):=(List.perm_ext_iff_of_nodup k1 ((cM _).imp fun z=>by omega)).mpr fun x=>by rw [dY,k2]
  have hfew:=ma gs hd
  have hlen:=hpm.length_eq
  have hg:∀ l,(S++[Ob.dead]++[Ob.lst (ws.map D.int)]++l)[(S++[Ob.dead]).length]?=some (.lst (ws.map D.int)):=fun l=>by simp
  have hg0:=hg []
  rw [List.append_nil] at hg0
  walk_at "mx"
  rw [oV (show _=gG [some (.d (aw wss)),some (.d (aT ns bs)),some (.d (bq true ps)),some (.fd (bs.map dz)),some (.r (S++[Ob.dead]).length),y5,none] (S++[Ob.dead]++[.lst (ws.map D.int)]) from rfl) (d:=D.int) (g:=fun _=>D.int 1) (xs:=ws) (S1:=S++[Ob.dead]++[.lst (ws.map D.int)]) (by
   rw [Ap (by walk_at "mx") hg0,cO]) hg0 (fun p=>!decide (p∈bj bs)) (fun p _ S=>by
   walk_at "mx"
   rw [xW (fun _=>rfl)]
   walk_at "mx") (fun p _ _ S=>by walk_at "mx")]
  walk_at "mx"
  rw [jQ (iV _),gY,dE,du]
  simp only [Bool.not_not]
  unfold tooMany
  rw [show ((a4 (ba wss ps)).all fun w=>decide (w∈bj bs))=ws.all fun w=>decide (w∈bj bs) from by
   rw [Bool.eq_iff_iff,List.all_eq_true,List.all_eq_true]
   exact ⟨fun h x hx=>h x (hpm.mem_iff.mp hx),fun h x hx=>h x (hpm.mem_iff.mpr hx)⟩]
  cases h4:ws.all fun w=>decide (w∈bj bs) with
  | false=>
   walk_at "mx"
   rw [List.append_assoc,eW]
   rfl
  | true=>
   have h4:=List.all_eq_true.mp h4
   walk_at "mx"
   rw [oV (show _=gR [some (.d (aw wss)),some (.d (aT ns bs)),some (.d (bq true ps)),some (.fd (bs.map dz)),some (.r (S++[Ob.dead]).length),y5,none] (S++[Ob.dead]++[.lst (ws.map D.int)]) from rfl) (d:=D.int) (g:=fun w=>D.int (bJ bs w).2.2) (xs:=ws) (S1:=S++[Ob.dead]++[.lst (ws.map D.int)]) (by
    rw [Ap (by walk_at "mx") hg0,cO]) hg0 (fun _=>true) (fun p _ S=>rfl) (fun w hw _ S=>by
    walk_at "mx"
    rw [dxB (fun _=>rfl) (by simpa using h4 w hw)]
    walk_at "mx"
    rw [show (dz (bJ bs w)).2=a5 (bJ bs w) from rfl,xf])]
   rw [List.filter_eq_self.mpr (fun _ _=>rfl)]
   walk_at "mx"
   rw [l9 (by omega) (fun w _=>by have:=kG (w:=w) gb;omega)]
   walk_at "mx"
   rw [eC]
   walk_at "my"
   rw [List.append_assoc,eW,wo (hpm.map fun w=>(bJ bs w).2.2)]
   simp
theorem t_ {wss:List (List Int)} {ns:List Int} {bs:List Tri} {ps:List Int} {S:Sto} (gn:cQ wss.length ns) (gb:bD bs) (hl:ps.length≤60):bL [.d (aw wss),.d (aT ns bs),.d (bq false ps)] S=.ok (.d (.bl (dH wss ns bs false ps))) S:=by
 unfold bL
 rw [cF]
 unfold dX dH
 rw [if_neg (by decide)]
 walk_at "mx"
 rw [eC]
 walk_at "mx"
 rw [rT hl]
 by_cases h1:ps=[]
 ·rw [decide_eq_true h1]
  simp only [Bool.not_true,Bool.not_false,Bool.false_and,Bool.true_and,Bool.and_false,Bool.and_true]
  walk_at "mx"
  rw [aD]
 by_cases h2:¬ps.Pairwise (· < ·)
 ·rw [decide_eq_false h2]
  simp only [Bool.not_true,Bool.not_false,Bool.false_and,Bool.true_and,Bool.and_false,Bool.and_true]
  walk_at "mx"
  rw [aD]
 rw [decide_eq_false h1,decide_eq_true (Decidable.of_not_not h2)]
 simp only [Bool.not_true,Bool.not_false,Bool.false_and,Bool.true_and,Bool.and_false,Bool.and_true]
 walk_at "mx"
 rw [oF]
 walk_at "mx"
 rw [jk (fun _=>rfl) gb]
 walk_at "mx"
 rw [ox (R:=[])]
 walk_at "mx"
 rw [me,if_neg (by decide)]
 walk_at "mx"
 rw [tW]
 walk_at "mx"
 rw [f9 (show _=gZ [some (.d (aw wss)),some (.d (aT ns bs)),some (.d (bq false ps)),some (.fd (bs.map dz)),none,none,none] (S++[.dead]) from rfl) (d:=D.int) (g:=fun _=>D.int 1) (xs:=ps) (S1:=S++[.dead]) (by
  walk_at "mx"
  rw [eC]
  unfold ak
  walk_at "mx"
  rw [cO]) (fun p=>!decide (p∈bj bs)) (fun p _ S=>by
  walk_at "mx"
  rw [xW (fun _=>rfl)]
  walk_at "mx") (fun p _ _ S=>by walk_at "mx")]
 walk_at "mx"
 rw [jQ (iV _),gY,dE,du]
 simp only [Bool.not_not]
 cases h3:ps.all fun p=>decide (p∈bj bs) with
 | false=>
  walk_at "mx"
  rw [eW]
  rfl
 | true=>
  walk_at "mx"
  have h3:=List.all_eq_true.mp h3
  obtain ⟨τ',S',e,y5,rfl,rfl⟩:=cu (show _=gE [some (.d (aw wss)),some (.d (aT ns bs)),some (.d (bq false ps)),some (.fd (bs.map dz)),none,none,some (.d (.int 0))] (S++[.dead]) from rfl)
   (S1:=S++[.dead]) (items:=(ns.map D.int).map Vl.d) (gd:=none) (by walk_at "mx";rw [jq];unfold ak;walk_at "mx")
   (fun i τ S'=>∃ (y5:Option Vl),τ=[some (.d (aw wss)),some (.d (aT ns bs)),some (.d (bq false ps)),some (.fd (bs.map dz)),none,y5,some (.d (.int (mf wss (ns.take i) ps).length))]∧S'=S++[.dead]) ⟨none,rfl,rfl⟩ (by
    rintro i z τ S' hz ⟨y5,rfl,rfl⟩
    obtain ⟨p,ep,rfl⟩:=ints_get hz
    obtain ⟨p0,p1⟩:=gn.dom p (List.mem_of_getElem? ep)
    refine ⟨_,_,.nx,_,_,by walk_at "mx";rfl,by
     walk_at "mx"
     rw [f9 (show _=gK [some (.d (aw wss)),some (.d (aT ns bs)),some (.d (bq false ps)),some (.fd (bs.map dz)),none,some (.d (.int p)),some (.d (.int (mf wss (ns.take i) ps).length))] (S++[.dead]) from rfl) (d:=D.int) (g:=D.int) (xs:=wss.getD p.toNat []) (S1:=S++[.dead]) (by
      walk_at "mx"
      unfold aw
      rw [cw (ji p0 p1)]
      unfold ak
      walk_at "mx"
      rw [cO]) (fun w=>decide (w∈ps)) (fun w _ S=>by
      walk_at "mx"
      rw [eC]
      walk_at "my") (fun w _ _ S=>by walk_at "mx")]
     walk_at "mx"
     rw [jQ (by rw [D.depth,fX];decide),gY,dE,du]
     walk_at "mx"
     rfl,.inl rfl,True.intro,some (.d (.int p)),?_,rfl⟩
    have ea:(!(wss.getD p.toNat []).all fun w=>!decide (w∈ps))=(wss.getD p.toNat []).any fun w=>decide (w∈ps):=by
     rw [List.not_all_eq_any_not]
     simp
    unfold mf
    rw [ea,take_snoc ep,List.filter_append,List.length_append]
    by_cases hq:((wss.getD p.toNat []).any fun w=>decide (w∈ps))=true
    ·rw [hq,List.filter_cons,if_pos hq]
     simp
    ·rw [Bool.not_eq_true] at hq
     rw [hq,List.filter_cons_of_neg (by rw [hq];decide)]
     simp)
  rw [e]
  rw [show ((ns.map D.int).map Vl.d).length=ns.length by simp,List.take_length]
  walk_at "mx"
  rw [cq (show _=fG [some (.d (aw wss)),some (.d (aT ns bs)),some (.d (bq false ps)),some (.fd (bs.map dz)),none,y5,some (.d (.int (mf wss ns ps).length))] (S++[.dead]) from rfl) (xs:=ps.map D.int) (S1:=S++[.dead]) (by walk_at "mx";rw [eC];rfl) (fun x=>match x with | .int w=>.int (bJ bs w).2.1 | _=>.non) (by
   intro x hx S
   obtain ⟨w,hw,rfl⟩:=List.mem_map.mp hx
   walk_at "mx"
   rw [dxB (fun _=>rfl) (by simpa using h3 w hw)]
   walk_at "mx"
   rw [show (dz (bJ bs w)).2=a5 (bJ bs w) from rfl,xE])]
  walk_at "mx"
  rw [List.map_map,show ((fun x:D=>(match x with | .int w=>D.int (bJ bs w).2.1 | _=>.non)) ∘ D.int)=fun w:Int=>D.int (bJ bs w).2.1 from rfl,l9 (by omega) (fun w _=>by have:=kG (w:=w) gb;omega)]
  walk_at "mx"
  rw [eW]
  rfl
theorem wG {wss:List (List Int)} {n m:Int} {ns:List Int} {bs:List Tri} {nm:Bool} {ps:List Int} {S:Sto} (gs:cb n m wss) (hm:m≤4) (gn:cQ wss.length ns) (gb:bD bs) (hl:ps.length≤60):bL [.d (aw wss),.d (aT ns bs),.d (bq nm ps)] S=.ok (.d (.bl (dH wss ns bs nm ps))) S:=by
 cases nm with
 | true=>exact w8 gs hm gn gb hl
 | false=>exact t_ gn gb hl
theorem pd {xs:List Int} {S:Sto} (hx:xs.length≤4):∃ L:List (List Int),0 < L.length∧L.length≤16∧(∀ s∈L,s.length≤4)∧fu [.d (.lst (xs.map D.int))] S=.ok (.d (.lst (L.map ak))) S:=by
 unfold fu
 rw [bG]
 unfold mx
 walk_at "mx"
 obtain ⟨τ',S',e,L,y2,h0,h1,h2,rfl,rfl⟩:=cu (show _=mq [some (.d (.lst (xs.map D.int))),some (.d (.lst [.tup []])),none] S from rfl)
   (S1:=S) (items:=(xs.map D.int).map Vl.d) (gd:=none) (by walk_at "mx")
   (fun i τ S'=>∃ (L:List (List Int)) (y2:Option Vl),0 < L.length∧L.length≤2 ^ i∧(∀ s∈L,s.length≤i)∧τ=[some (.d (.lst (xs.map D.int))),some (.d (.lst (L.map ak))),y2]∧S'=S) ⟨[[]],none,by decide,by decide,by simp,rfl,rfl⟩ (by
    rintro i z τ S' hz ⟨L,y2,h0,h1,h2,rfl,rfl⟩
    obtain ⟨p,ep,rfl⟩:=ints_get hz
    have hi:=(List.getElem?_eq_some_iff.mp ep).1
    have hb:2 ^ i≤2 ^ 4:=Nat.pow_le_pow_right (by decide) (by omega)
    refine ⟨_,_,.nx,_,_,by walk_at "mx";rfl,by
     walk_at "mx"
     rw [m6 (show _=mO [some (.d (.lst (xs.map D.int))),some (.d (.lst (L.map ak))),some (.d (.int p))] S' from rfl) (xs:=L.map ak) (S1:=S') (by walk_at "mx") (fun x=>match x with | .tup ys=>.tup (ys++[.int p]) | _=>.non) (by
      intro x hx S
      obtain ⟨s,hs,rfl⟩:=List.mem_map.mp hx
      have:=h2 s hs
      walk_at "mx"
      rw [ph (by omega)]
      unfold ak
      rw [List.map_append]
      rfl)]
     walk_at "mx"
     rw [List.map_map,show ((fun x:D=>(match x with | .tup ys=>D.tup (ys++[.int p]) | _=>.non)) ∘ ak)=fun s:List Int=>ak (s++[p]) from by
      funext s
      show D.tup (s.map D.int++[.int p])=_
      unfold ak
      rw [List.map_append]
      rfl,pq (by simp only [List.length_map];omega)]
     walk_at "mx"
     rw [show (L.map fun s=>ak (s++[p]))=(L.map fun s=>s++[p]).map ak by rw [List.map_map];rfl,← List.map_append],.inl rfl,True.intro,L++L.map (fun s=>s++[p]),_,?_,?_,?_,rfl,rfl⟩
    ·rw [List.length_append];omega
    ·rw [List.length_append,List.length_map,Nat.pow_succ];omega
    ·intro s hs
     rcases List.mem_append.mp hs with h | h
     ·have:=h2 s h;omega
     ·obtain ⟨t,ht,rfl⟩:=List.mem_map.mp h
      have:=h2 t ht
      rw [List.length_append,List.length_singleton]
      omega)
 rw [e]
 walk_at "mx"
 have hlx:((xs.map D.int).map Vl.d).length=xs.length:=by simp
 rw [hlx] at h1 h2
 have hb:2 ^ xs.length≤2 ^ 4:=Nat.pow_le_pow_right (by decide) hx
 exact ⟨L,h0,by omega,fun s hs=>by have:=h2 s hs;omega,by rw [aD]⟩
theorem zc {s:List Int} {k:Nat} {S:Sto}:oSl (.d (ak s)) (some (k:Int)) none S=.ok (.d (ak (s.drop k))) S:=by
 unfold ak
 rw [kF,lD,List.map_drop]
theorem Bs {a b:List (List Int)} {S:Sto} (h:a.length+b.length≤100000):a8 (.d (.lst (a.map ak))) (.d (.lst (b.map ak))) S=.ok (.d (.lst ((a++b).map ak))) S:=by
 rw [pq (by simpa using h),List.map_append]
theorem BX {L:List (List Int)} {i:Int} {S:Sto} (h0:0≤i) (h1:i < L.length):∃ v,v∈L∧oIx (.d (.lst (L.map ak))) (.d (.int i)) S=.ok (.d (ak v)) S:=by
 obtain ⟨k,rfl⟩:=Int.eq_ofNat_of_zero_le h0
 have hk:k < L.length:=by omega
 exact ⟨L[k],List.getElem_mem hk,eZ (eV (by rw [List.getElem?_map,List.getElem?_eq_getElem hk];rfl))⟩
theorem uD {o:Ob} {R:Sto} {s:List Int} {b:Nat} (hp:Pen o) (hs:s.length≤b) (h4:b≤50) :
  ∃ (q:List Int) (o':Ob),q.length≤b+1∧Pen o'∧fM [.r 0,.d (ak s)] (o :: R)=.ok (.d (ak q)) (o' :: R):=by
 unfold fM
 rw [cy]
 unfold lg
 walk_at "my"
 obtain ⟨a,o1,a0,a1,hp1,e1⟩:=aY (R:=R) (m:=(s.length:Int)+1) hp (by omega) (by omega)
 rw [e1]
 obtain ⟨k,rfl⟩:=Int.eq_ofNat_of_zero_le a0
 walk_at "mx"
 obtain ⟨t1,o2,t10,t11,hp2,e2⟩:=aY (R:=R) (m:=23) hp1 (by decide) (by decide)
 rw [e2]
 walk_at "mm"
 obtain ⟨j,o4,j0,j1,hp4,e4⟩:=aY (R:=R) (m:=4) hp2 (by decide) (by decide)
 rw [e4]
 walk_at "mx"
 obtain ⟨c,ec,_⟩:=d7 (ns:=[t1 - 11,-1,4,10 ^ Int.toNat 20]) j0 (by simpa using j1)
 rw [show (List.map D.int [t1 - 11,-1,4,10 ^ Int.toNat 20])=[D.int (t1 - 11),D.int (-1),D.int 4,D.int (10 ^ Int.toNat 20)] from rfl] at ec
 rw [eZ ec]
 walk_at "mx"
 rw [sj]
 walk_at "mx"
 rw [ph (by simp;omega)]
 walk_at "mx"
 rw [zc]
 walk_at "mx"
 rw [jP (by simp;omega)]
 walk_at "mx"
 rw [sj]
 walk_at "mx"
 rw [pD]
 walk_at "mx"
 rw [jP (by simp;omega)]
 walk_at "mx"
 rw [sj]
 walk_at "mx"
 rw [ph (by simp;omega)]
 walk_at "mx"
 rw [pD]
 walk_at "mx"
 rw [jP (by simp;omega)]
 walk_at "mx"
 rw [wg]
 walk_at "mx"
 rw [yP]
 walk_at "mx"
 rw [jP (by simp;omega)]
 walk_at "mx"
 have eL:a8 (.d (.lst [ak (s.take k++[c]++s.drop k),ak (s.take k++s.drop (k+1)),ak (s.take k++[c]++s.drop (k+1))])) (.d (.lst [ak s.reverse,ak (s++s.drop (s.length - 1)),.tup [.int c]])) (o4 :: R)=.ok (.d (.lst ([s.take k++[c]++s.drop k,s.take k++s.drop (k+1),s.take k++[c]++s.drop (k+1),s.reverse,s++s.drop (s.length - 1),[c]].map ak))) (o4 :: R):=Bs (a:=[s.take k++[c]++s.drop k,s.take k++s.drop (k+1),s.take k++[c]++s.drop (k+1)]) (b:=[s.reverse,s++s.drop (s.length - 1),[c]]) (by simp)
 rw [eL]
 walk_at "mx"
 obtain ⟨kd,o5,kd0,kd1,hp5,e5⟩:=aY (R:=R) (m:=6) hp4 (by decide) (by decide)
 rw [e5]
 obtain ⟨v,hv,ev⟩:=BX (L:=[s.take k++[c]++s.drop k,s.take k++s.drop (k+1),s.take k++[c]++s.drop (k+1),s.reverse,s++s.drop (s.length - 1),[c]]) (i:=kd) (S:=o5 :: R) kd0 (by simpa using kd1)
 simp only [List.map_cons,List.map_nil] at ev
 walk_at "mx"
 rw [ev]
 walk_at "mx"
 refine ⟨v,o5,?_,hp5,by rw [cI,cL]⟩
 simp only [List.mem_cons,List.not_mem_nil,or_false] at hv
 rcases hv with rfl | rfl | rfl | rfl | rfl | rfl<;>simp<;>omega
theorem yS {bs:List Tri} {S:Sto}:oEq (.d (.tup (bs.map a5))) (.d (.tup [])) S=.ok (.d (.bl bs.isEmpty)) S:=by
 rw [xy (by rw [D.depth];have:=mH bs;omega),gY,dE]
theorem zi {ns:List Int} {bs:List Tri} {S:Sto}:oSl (.d (aT ns bs)) none (some 2) S=.ok (.d (.tup [.str "many",ak ns])) S:=by
 unfold aT
 rw [kF,show (some (2:Int))=some ((2:Nat):Int) from rfl,mM]
 rfl
theorem oZ {o:Ob} {R:Sto} {ns:List Int} {bs:List Tri} (hp:Pen o) (gb:bD bs):∃ (bs':List Tri) (o':Ob),bD bs'∧Pen o'∧fj [.r 0,.d (aT ns bs)] (o :: R)=.ok (.d (aT ns bs')) (o' :: R):=by
 have hl:=gb.le
 unfold fj
 rw [cy]
 unfold lQ
 walk_at "mx"
 rw [e9]
 walk_at "mx"
 rw [yS]
 cases hb:bs with
 | nil=>
  rw [show ([]:List Tri).isEmpty=true from rfl]
  walk_at "mx"
  exact ⟨[],o,hb ▸ gb,hp,by rw [aD]⟩
 | cons b0 bs0=>
  rw [← hb,show bs.isEmpty=false by rw [hb];rfl]
  have h0:0 < bs.length:=by rw [hb,List.length_cons];omega
  clear hb
  walk_at "mx"
  rw [e9]
  walk_at "my"
  obtain ⟨a,o1,a0,a1,hp1,e1⟩:=aY (R:=R) (m:=(bs.length:Int)) hp (by omega) (by omega)
  rw [e1]
  obtain ⟨k,rfl⟩:=Int.eq_ofNat_of_zero_le a0
  have hk:k < bs.length:=by omega
  walk_at "mx"
  rw [e9]
  walk_at "mx"
  rcases hbk:bs[k] with ⟨w,lo,hi⟩
  have hlim:=gb.lim _ (List.getElem_mem hk)
  rw [hbk] at hlim
  dsimp only at hlim
  rw [cw (z:=a5 (w,lo,hi)) (eV (by rw [List.getElem?_map,List.getElem?_eq_getElem hk,hbk];rfl))]
  unfold a5
  walk_at "mx"
  obtain ⟨j,o2,j0,j1,hp2,e2⟩:=aY (R:=R) (m:=4) hp1 (by decide) (by decide)
  rw [e2]
  obtain ⟨lo',hi',hq,ej⟩:∃ lo' hi':Int,(0≤lo'∧lo'≤hi'∧hi'≤4)∧atI [D.tup [.int w,.int 0,.int 0],D.tup [.int w,.int hi,.int hi],D.tup [.int w,.int 4,.int 4],D.tup [.int w,.int lo,.int lo]] j=some (a5 (w,lo',hi')):=by
   have:j=0∨j=1∨j=2∨j=3:=by omega
   rcases this with rfl | rfl | rfl | rfl
   ·exact ⟨0,0,by omega,rfl⟩
   ·exact ⟨hi,hi,by omega,rfl⟩
   ·exact ⟨4,4,by omega,rfl⟩
   ·exact ⟨lo,lo,by omega,rfl⟩
  walk_at "mx"
  rw [eZ ej]
  walk_at "mx"
  rw [zi]
  walk_at "mx"
  rw [e9]
  walk_at "mx"
  rw [mM,← List.map_take,j8 (by simp;omega)]
  walk_at "mx"
  rw [e9]
  walk_at "mx"
  rw [show ((k:Int)+1)=((k+1:Nat):Int) by omega,lD,← List.map_drop,j8 (by simp;omega)]
  walk_at "mx"
  rw [j8 (by simp)]
  walk_at "mx"
  have hms:(bs.take k++[((w,lo',hi'):Tri)]++bs.drop (k+1)).map (·.1)=bs.map (·.1):=by
   conv=>rhs;rw [← List.take_append_drop k bs]
   rw [List.drop_eq_getElem_cons hk,hbk]
   simp
  refine ⟨bs.take k++[(w,lo',hi')]++bs.drop (k+1),o2,⟨?_,by rw [hms];exact gb.rise,?_⟩,hp2,?_⟩
  ·have:=congrArg List.length hms
   rw [List.length_map,List.length_map] at this
   omega
  ·intro x hx
   rcases List.mem_append.mp hx with h | h
   ·rcases List.mem_append.mp h with h | h
    ·exact gb.lim x (List.mem_of_mem_take h)
    ·rw [List.mem_singleton.mp h]
     exact ⟨hlim.1,hq⟩
   ·exact gb.lim x (List.mem_of_mem_drop h)
  ·rw [cI,cL]
   unfold aT
   rw [List.map_append,List.map_append]
   rfl
theorem yb {it:XI} {e:XE} {τ:Nv} {S S1:Sto} {r:R Vl} (hC:vC it 1 (gNm 0) (fun _ S=>.ok true S) e τ S=r) {α:Type} {d g:α→D} {xs:List α} (hit:it τ S=.ok ⟨xs.map fun x=>Vl.d (d x),none⟩ S1) (he:∀ x∈xs,∀ S:Sto,e (some (.d (d x)) :: τ) S=.ok (.d (g x)) S):r=.ok (.r S1.length) (S1++[.lst (xs.map g)]):=by
 have key:∀ (zs:List α) (acc:List D) (ρ:Nv),(∀ z∈zs,z∈xs)→ρ.length=1→c6 (gNm 0) (fun _ S=>.ok true S) e S1.length none (zs.map fun x=>Vl.d (d x)) acc (ρ++τ) (S1++[.lst acc])=.ok (acc++zs.map g) (S1++[.lst (acc++zs.map g)]):=by
  intro zs
  induction zs with
  | nil=>
   intro acc ρ _ _
   rw [List.map_nil,c6,if_pos (by simp)]
   simp
  | cons z zs ih=>
   intro acc ρ hz hl
   match ρ,hl with
   | [r0],_=>
    rw [List.map_cons,c6]
    rw [show gNm 0 (Vl.d (d z)) ([r0]++τ) (S1++[.lst acc])=.ok (some (.d (d z)) :: τ) (S1++[.lst acc]) from rfl,bo,bo,if_pos rfl,he z (hz z (by simp)),bo]
    dsimp only
    rw [if_pos ⟨by simp,True.intro⟩]
    rw [show (S1++[Ob.lst acc]).set S1.length (.lst (acc++[g z]))=S1++[.lst (acc++[g z])] by simp]
    have:=ih (acc++[g z]) [some (.d (d z))] (fun y hy=>hz y (by simp [hy])) rfl
    rw [show (some (Vl.d (d z)) :: τ)=[some (Vl.d (d z))]++τ from rfl,this,List.map_cons]
    simp
 rw [← hC]
 unfold vC ly
 rw [hit,bo]
 dsimp only
 rw [key xs [] (List.replicate 1 none) (fun _ h=>h) (by simp),bo]
 unfold pJ
 simp
abbrev Pp:=Bool×List Int
def ppD (p:Pp):D:=bq p.1 p.2
abbrev Ca:=List (List Int)×List Int×List Tri
def caD (c:Ca):D:=.tup [aw c.1,aT c.2.1 c.2.2]
def uP (c:Ca):Prop:=cb 4 4 c.1∧cQ c.1.length c.2.1∧bD c.2.2
theorem AD {o:Ob} {R:Sto} {ns:List Int} {bs:List Tri} {x0 x2 x3 x4 x6 x7 x8 x9 x10 x11 x12 x13:Option Vl} (hp:Pen o) (gb:bD bs) :
  ∃ (bs':List Tri) (o':Ob) (y6:Option Vl),bD bs'∧Pen o'∧pU [x0,some (.r 0),x2,x3,x4,some (.d (aT ns bs)),x6,x7,x8,x9,x10,x11,x12,x13] (o :: R)=.ok (.nx,[x0,some (.r 0),x2,x3,x4,some (.d (aT ns bs')),y6,x7,x8,x9,x10,x11,x12,x13]) (o' :: R):=by
 obtain ⟨t,o1,t0,t1,hp1,e1⟩:=aY (R:=R) (m:=4) hp (by decide) (by decide)
 obtain ⟨τ',S',e,bs',o',y6,g',hp',rfl,rfl⟩:=cu (show _=pU [x0,some (.r 0),x2,x3,x4,some (.d (aT ns bs)),x6,x7,x8,x9,x10,x11,x12,x13] (o :: R) from rfl) (S1:=o1 :: R) (items:=(List.range t.toNat).map fun i=>Vl.d (.int (i:Nat))) (gd:=none) (by
   walk_at "mx"
   rw [e1]
   walk_at "mx"
   rw [xD (by omega)])
  (fun i τ S'=>∃ (bs':List Tri) (o':Ob) (y6:Option Vl),bD bs'∧Pen o'∧τ=[x0,some (.r 0),x2,x3,x4,some (.d (aT ns bs')),y6,x7,x8,x9,x10,x11,x12,x13]∧S'=o' :: R) ⟨bs,o1,x6,gb,hp1,rfl,rfl⟩ (by
   rintro i z τ S' hz ⟨bs',o',y6,g',hp',rfl,rfl⟩
   obtain ⟨hi,rfl⟩:=eP hz
   obtain ⟨b2,o2,g2,hp2,e2⟩:=oZ (R:=R) (ns:=ns) hp' g'
   exact ⟨_,_,.nx,_,_,by walk_at "mx";rfl,by
    walk_at "mx"
    rw [e2]
    walk_at "mx"
    rfl,.inl rfl,True.intro,b2,o2,_,g2,hp2,rfl,rfl⟩)
 exact ⟨bs',o',y6,g',hp',e⟩
theorem Ay {o:Ob} {R:Sto} {ps:List Pp} {x0 x2 x3 x4 x5 x6 x8 x9 x10 x11 x12 x13:Option Vl} (hp:Pen o) (h0:0 < ps.length) (h1:ps.length≤40) (h2:∀ p∈ps,p.2.length≤4) :
  ∃ (ps':List Pp) (o':Ob) (y6 y8 y9:Option Vl),(∀ p∈ps',p.2.length≤60)∧Pen o'∧o9 [x0,some (.r 0),x2,x3,x4,x5,x6,some (.r (R.length+1)),x8,x9,x10,x11,x12,x13] (o :: (R++[.lst (ps.map ppD)]))=.ok (.nx,[x0,some (.r 0),x2,x3,x4,x5,y6,some (.r (R.length+1)),y8,y9,x10,x11,x12,x13]) (o' :: (R++[.lst (ps'.map ppD)])):=by
 obtain ⟨τ',S',e,ps',o',y6,y8,y9,k0,k1,k2,hp',rfl,rfl⟩:=cu (show _=o9 [x0,some (.r 0),x2,x3,x4,x5,x6,some (.r (R.length+1)),x8,x9,x10,x11,x12,x13] (o :: (R++[.lst (ps.map ppD)])) from rfl) (S1:=o :: (R++[.lst (ps.map ppD)])) (items:=(List.range 8).map fun i=>Vl.d (.int (i:Nat))) (gd:=none) (by walk_at "mm";rfl)
  (fun i τ S'=>∃ (ps':List Pp) (o':Ob) (y6 y8 y9:Option Vl),0 < ps'.length∧ps'.length≤40+i∧(∀ p∈ps',p.2.length≤4+i)∧Pen o'∧τ=[x0,some (.r 0),x2,x3,x4,x5,y6,some (.r (R.length+1)),y8,y9,x10,x11,x12,x13]∧S'=o' :: (R++[.lst (ps'.map ppD)])) ⟨ps,o,x6,x8,x9,h0,h1,h2,hp,rfl,rfl⟩ (by
   rintro i z τ S' hz ⟨ps',o',y6,y8,y9,k0,k1,k2,hp',rfl,rfl⟩
   obtain ⟨hi,rfl⟩:=eP hz
   obtain ⟨t,o1,t0,t1,hp1,e1⟩:=aY (R:=R++[.lst (ps'.map ppD)]) (m:=(ps'.length:Int)) hp' (by omega) (by omega)
   obtain ⟨k,rfl⟩:=Int.eq_ofNat_of_zero_le t0
   have hk:k < ps'.length:=by omega
   have hb:=k2 _ (List.getElem_mem hk)
   rcases hpk:ps'[k] with ⟨nm,s⟩
   rw [hpk] at hb
   obtain ⟨q,o2,q1,hp2,e2⟩:=uD (R:=R++[.lst (ps'.map ppD)]) (s:=s) (b:=4+i) hp1 hb (by omega)
   refine ⟨_,_,.nx,_,_,by walk_at "mx";rfl,by
    walk_at "mx"
    rw [l7 (xs:=ps'.map ppD) (by simp)]
    walk_at "my"
    rw [e1]
    walk_at "mx"
    rw [mK (xs:=ps'.map ppD) (z:=ppD (nm,s)) f_ (eV (by rw [List.getElem?_map,List.getElem?_eq_getElem hk,hpk];rfl))]
    unfold ppD bq
    walk_at "mx"
    rw [show (fun p:Pp=>D.tup [.str (if p.1=true then "names" else "worths"),ak p.2])=ppD from rfl,e2]
    walk_at "mx"
    rw [oB (by rw [List.length_map];omega)]
    walk_at "mx"
    rfl,.inl rfl,True.intro,ps'++[(nm,q)],o2,_,_,_,?_,?_,?_,hp2,rfl,?_⟩
   ·rw [List.length_append];omega
   ·rw [List.length_append,List.length_singleton];omega
   ·intro p hpm
    rcases List.mem_append.mp hpm with h | h
    ·have:=k2 p h;omega
    ·rw [List.mem_singleton.mp h];exact q1
   ·rw [List.map_append];rfl)
 exact ⟨ps',o',y6,y8,y9,fun p hpm=>by have:=k2 p hpm;rw [iQ] at this;omega,hp',e⟩
theorem Af {S:Sto} {p:Pp} {cs:List Ca} {x0 x1 x2 x3 x4 x5 x6 x7 x8 x9 x12 x13:Option Vl} (hs:p.2.length≤60) (hc:∀ c∈cs,uP c) :
  ∃ y9 y12 y13,qo [x0,x1,x2,x3,x4,x5,x6,x7,x8,x9,some (.d (.lst (cs.map caD))),some (.d (ppD p)),x12,x13] S=.ok (.nx,[x0,x1,x2,x3,x4,x5,x6,x7,x8,y9,some (.d (.lst (cs.map caD))),some (.d (ppD p)),y12,y13]) S:=by
 obtain ⟨τ',S',e,y9,y12,y13,rfl,rfl⟩:=cu (show _=qo [x0,x1,x2,x3,x4,x5,x6,x7,x8,x9,some (.d (.lst (cs.map caD))),some (.d (ppD p)),x12,x13] S from rfl) (S1:=S) (items:=cs.map fun c=>Vl.d (caD c)) (gd:=none) (by walk_at "mx";rw [List.map_map];rfl)
  (fun i τ S'=>∃ y9 y12 y13,τ=[x0,x1,x2,x3,x4,x5,x6,x7,x8,y9,some (.d (.lst (cs.map caD))),some (.d (ppD p)),y12,y13]∧S'=S) ⟨_,_,_,rfl,rfl⟩ (by
   rintro i z τ S' hz ⟨y9,y12,y13,rfl,rfl⟩
   rw [List.getElem?_map] at hz
   cases q:cs[i]? with
   | none=>rw [q] at hz;cases hz
   | some c=>
    rw [q] at hz
    cases hz
    obtain ⟨gs,gn,gb⟩:=hc c (List.mem_of_getElem? q)
    refine ⟨[x0,x1,x2,x3,x4,x5,x6,x7,x8,some (.d (aT c.2.1 c.2.2)),some (.d (.lst (cs.map caD))),some (.d (ppD p)),some (.d (aw c.1)),y13],S',.nx,[x0,x1,x2,x3,x4,x5,x6,x7,x8,some (.d (aT c.2.1 c.2.2)),some (.d (.lst (cs.map caD))),some (.d (ppD p)),some (.d (aw c.1)),some (.d (.bl (dH c.1 c.2.1 c.2.2 p.1 p.2)))],S',by unfold caD;walk_at "mx",?_,.inl rfl,True.intro,_,_,_,rfl,rfl⟩
    walk_at "mx"
    unfold ppD
    rw [wG gs (by decide) gn gb hs]
    walk_at "mx"
    rw [jz gs (by decide) (by decide) gn gb hs]
    walk_at "mx"
    rw [rG]
    walk_at "mx"
    rw [qF gs (by decide) (by decide) gn gb hs]
    walk_at "mx"
    rw [rG]
    walk_at "mx")
 exact ⟨_,_,_,e⟩
theorem A1 {S:Sto} {n:Nat} {ps:List Pp} {cs:List Ca} {x0 x1 x2 x3 x4 x5 x6 x8 x9 x11 x12 x13:Option Vl} (hn:S[n]?=some (.lst (ps.map ppD))) (hs:∀ p∈ps,p.2.length≤60) (hc:∀ c∈cs,uP c) :
  ∃ y9 y11 y12 y13,pL [x0,x1,x2,x3,x4,x5,x6,some (.r n),x8,x9,some (.d (.lst (cs.map caD))),x11,x12,x13] S=.ok (.nx,[x0,x1,x2,x3,x4,x5,x6,some (.r n),x8,y9,some (.d (.lst (cs.map caD))),y11,y12,y13]) S:=by
 obtain ⟨τ',S',e,y9,y11,y12,y13,rfl,rfl⟩:=cu (show _=pL [x0,x1,x2,x3,x4,x5,x6,some (.r n),x8,x9,some (.d (.lst (cs.map caD))),x11,x12,x13] S from rfl) (S1:=S) (items:=ps.map fun p=>Vl.d (ppD p)) (gd:=some (n,.lst (ps.map ppD))) (by
   rw [lX]
   walk_at "mx"
   rw [hn]
   walk_at "mx"
   rw [List.map_map]
   rfl)
  (fun i τ S'=>∃ y9 y11 y12 y13,τ=[x0,x1,x2,x3,x4,x5,x6,some (.r n),x8,y9,some (.d (.lst (cs.map caD))),y11,y12,y13]∧S'=S) ⟨_,_,_,_,rfl,rfl⟩ (by
   rintro i z τ S' hz ⟨y9,y11,y12,y13,rfl,rfl⟩
   rw [List.getElem?_map] at hz
   cases q:ps[i]? with
   | none=>rw [q] at hz;cases hz
   | some p=>
    rw [q] at hz
    cases hz
    obtain ⟨z9,z12,z13,e⟩:=Af (S:=S') (p:=p) (cs:=cs) (x0:=x0) (x1:=x1) (x2:=x2) (x3:=x3) (x4:=x4) (x5:=x5) (x6:=x6) (x7:=some (.r n)) (x8:=x8) (x9:=y9) (x12:=y12) (x13:=y13) (hs p (List.mem_of_getElem? q)) hc
    exact ⟨_,_,.nx,_,_,by walk_at "mx",e,.inl rfl,hn,_,_,_,_,rfl,rfl⟩)
 exact ⟨_,_,_,_,e⟩
theorem BU {o:Ob} {R:Sto} {wss:List (List Int)} {x0 x2 x4 x5 x6 x7 x8 x9 x10 x11 x12 x13:Option Vl} (hp:Pen o) (gs:cb 4 4 wss) :
  ∃ (o':Ob) (R':Sto) (y4 y5 y6 y7 y8 y9 y10 y11 y12 y13:Option Vl),Pen o'∧qi [x0,some (.r 0),x2,some (.d (aw wss)),x4,x5,x6,x7,x8,x9,x10,x11,x12,x13] (o :: R)=.ok (.nx,[x0,some (.r 0),x2,some (.d (aw wss)),y4,y5,y6,y7,y8,y9,y10,y11,y12,y13]) (o' :: R'):=by
 have h4:=gs.le
 obtain ⟨τ',S',e,o',R',y4,y5,y6,y7,y8,y9,y10,y11,y12,y13,hp',rfl,rfl⟩:=cu (show _=qi [x0,some (.r 0),x2,some (.d (aw wss)),x4,x5,x6,x7,x8,x9,x10,x11,x12,x13] (o :: R) from rfl) (S1:=o :: R) (items:=(List.range 2).map fun i=>Vl.d (.int (i:Nat))) (gd:=none) (by walk_at "mm";rfl)
  (fun i τ S'=>∃ (o':Ob) (R':Sto) (y4 y5 y6 y7 y8 y9 y10 y11 y12 y13:Option Vl),Pen o'∧τ=[x0,some (.r 0),x2,some (.d (aw wss)),y4,y5,y6,y7,y8,y9,y10,y11,y12,y13]∧S'=o' :: R') ⟨o,R,x4,x5,x6,x7,x8,x9,x10,x11,x12,x13,hp,rfl,rfl⟩ (by
   rintro i z τ S' hz ⟨o',R,x4,x5,x6,x7,x8,x9,x10,x11,x12,x13,hp',rfl,rfl⟩
   obtain ⟨hi,rfl⟩:=eP hz
   obtain ⟨ns,bs0,o1,gn,gb0,hp1,e1⟩:=si (R:=R) hp' gs (by decide) (by decide)
   obtain ⟨bs,o2,y6,gb,hp2,e2⟩:=AD (R:=R) (ns:=ns) (x0:=x0) (x2:=x2) (x3:=some (.d (aw wss))) (x4:=some (.d (.int (i:Nat)))) (x6:=x6) (x7:=x7) (x8:=x8) (x9:=x9) (x10:=x10) (x11:=x11) (x12:=x12) (x13:=x13) hp1 gb0
   have gl:=gn.le
   have gbl:=gb.le
   obtain ⟨L1,l10,l11,l12,e3⟩:=pd (xs:=sortI ns) (S:=o2 :: R) (by rw [df];omega)
   obtain ⟨L2,l20,l21,l22,e4⟩:=pd (xs:=bj bs) (S:=o2 :: (R++[.lst (L1.map (bq true))])) (by unfold bj;rw [List.length_map];omega)
   have eC2:pX [x0,some (.r 0),x2,some (.d (aw wss)),some (.d (.int (i:Nat))),some (.d (aT ns bs)),y6,x7,x8,x9,x10,x11,x12,x13] (o2 :: R)=.ok (.r (R.length+1)) (o2 :: (R++[.lst (L1.map (bq true))])):=by
    rw [yb (show _=pX [x0,some (.r 0),x2,some (.d (aw wss)),some (.d (.int (i:Nat))),some (.d (aT ns bs)),y6,x7,x8,x9,x10,x11,x12,x13] (o2 :: R) from rfl) (d:=ak) (g:=bq true) (xs:=L1) (S1:=o2 :: R) (by
     walk_at "mx"
     rw [jq]
     walk_at "mx"
     unfold ak
     rw [zu (by omega)]
     walk_at "mx"
     rw [e3]
     walk_at "mx"
     rw [List.map_map]
     rfl) (fun s _ S=>by walk_at "mx";rfl)]
    rfl
   have eC4:oQ [x0,some (.r 0),x2,some (.d (aw wss)),some (.d (.int (i:Nat))),some (.d (aT ns bs)),y6,some (.r (R.length+1)),x8,x9,x10,x11,x12,x13] (o2 :: (R++[.lst (L1.map (bq true))]))=.ok (.d (.lst (L2.map (bq false)))) (o2 :: (R++[.lst (L1.map (bq true))])):=by
    rw [f9 (show _=oQ [x0,some (.r 0),x2,some (.d (aw wss)),some (.d (.int (i:Nat))),some (.d (aT ns bs)),y6,some (.r (R.length+1)),x8,x9,x10,x11,x12,x13] (o2 :: (R++[.lst (L1.map (bq true))])) from rfl) (d:=ak) (g:=bq false) (xs:=L2) (S1:=o2 :: (R++[.lst (L1.map (bq true))])) (by
     walk_at "mx"
     rw [cq (show _=uJ [x0,some (.r 0),x2,some (.d (aw wss)),some (.d (.int (i:Nat))),some (.d (aT ns bs)),y6,some (.r (R.length+1)),x8,x9,x10,x11,x12,x13] (o2 :: (R++[.lst (L1.map (bq true))])) from rfl) (xs:=bs.map a5) (S1:=o2 :: (R++[.lst (L1.map (bq true))])) (by walk_at "mx";rw [e9]) (fun x=>match x with | .tup (y :: _)=>y | z=>z) (by
      intro x hx S
      obtain ⟨b,hb,rfl⟩:=List.mem_map.mp hx
      walk_at "mx"
      rw [oo]
      rfl)]
     walk_at "mx"
     rw [show (bs.map a5).map (fun x:D=>(match x with | .tup (y :: _)=>y | z=>z))=(bj bs).map D.int by unfold bj;rw [List.map_map,List.map_map];rfl,e4]
     walk_at "mx"
     rw [List.map_map]
     rfl) (fun _=>true) (fun _ _ _=>rfl) (fun s _ _ S=>by walk_at "mx";rfl)]
    rw [List.filter_eq_self.mpr (fun _ _=>rfl)]
   have eM:L1.map (bq true)++L2.map (bq false)=(L1.map (fun s=>((true,s):Pp))++L2.map (fun s=>((false,s):Pp))).map ppD:=by
    rw [List.map_append,List.map_map,List.map_map]
    rfl
   obtain ⟨ps',o3,y6',y8,y9,hps,hp3,e5⟩:=Ay (R:=R) (ps:=L1.map (fun s=>((true,s):Pp))++L2.map (fun s=>((false,s):Pp))) (x0:=x0) (x2:=x2) (x3:=some (.d (aw wss))) (x4:=some (.d (.int (i:Nat)))) (x5:=some (.d (aT ns bs))) (x6:=y6) (x8:=x8) (x9:=x9) (x10:=x10) (x11:=x11) (x12:=x12) (x13:=x13) hp2 (by simp;omega) (by simp;omega) (by
    intro p hpm
    rcases List.mem_append.mp hpm with h | h
    ·obtain ⟨s,hs,rfl⟩:=List.mem_map.mp h;exact l12 s hs
    ·obtain ⟨s,hs,rfl⟩:=List.mem_map.mp h;exact l22 s hs)
   generalize hR2:R++[Ob.lst (ps'.map ppD)]=R2 at e5
   have hg2:∀ o:Ob,(o :: R2)[R.length+1]?=some (.lst (ps'.map ppD)):=fun o=>by rw [← hR2];exact f_
   obtain ⟨vss,o4,gv,hvl,hp4,e6⟩:=wU (R:=R2) hp3 gs
   obtain ⟨bs2,o5,gb2,hp5,e7⟩:=oZ (R:=R2) (ns:=ns) hp4 gb
   obtain ⟨z9,y11,y12,y13,e8⟩:=A1 (S:=o5 :: R2) (n:=R.length+1) (ps:=ps') (cs:=[(wss,ns,bs),(vss,ns,bs),(wss,ns,bs2),(wss,ns,bs)]) (x0:=x0) (x1:=some (.r 0)) (x2:=x2) (x3:=some (.d (aw wss))) (x4:=some (.d (.int (i:Nat)))) (x5:=some (.d (aT ns bs))) (x6:=y6') (x8:=y8) (x9:=y9) (x11:=x11) (x12:=x12) (x13:=x13) (hg2 o5) hps (by
    intro c hc
    simp only [List.mem_cons,List.not_mem_nil,or_false] at hc
    rcases hc with rfl | rfl | rfl | rfl
    ·exact ⟨gs,gn,gb⟩
    ·exact ⟨gv,by rw [show ((vss,ns,bs):Ca).1.length=wss.length from hvl];exact gn,gb⟩
    ·exact ⟨gs,gn,gb2⟩
    ·exact ⟨gs,gn,gb⟩)
   simp only [List.map_cons,List.map_nil,caD] at e8
   refine ⟨_,_,.nx,_,o5 :: R2,by walk_at "mx";rfl,by
    walk_at "mx"
    rw [e1]
    walk_at "mx"
    rw [e2]
    walk_at "mx"
    rw [eC2]
    walk_at "mx"
    rw [eC4]
    walk_at "mx"
    rw [u6 (by simp only [List.length_map];omega),eM]
    walk_at "mx"
    rw [e5]
    walk_at "mx"
    rw [e6]
    walk_at "mx"
    rw [e7]
    walk_at "mx"
    rw [e8],.inl rfl,True.intro,o5,R2,_,_,_,_,_,_,_,_,_,_,hp5,rfl,rfl⟩)
 exact ⟨o',R',y4,y5,y6,y7,y8,y9,y10,y11,y12,y13,hp',e⟩
theorem wI (ns:List Int):se [.sc ns] []=.ok (.d (.bl true)) []:=by
 unfold se
 rw [bG]
 unfold vk
 obtain ⟨o,hp,e0⟩:=ze ns
 walk_at "mx"
 rw [e0]
 walk_at "mx"
 obtain ⟨τ',S',e,o',R',x2,x3,x4,x5,x6,x7,x8,x9,x10,x11,x12,x13,hp',rfl,rfl⟩:=cu (show _=t9 [some (.sc ns),some (.r 0),none,none,none,none,none,none,none,none,none,none,none,none] [o] from rfl) (S1:=[o]) (items:=(List.range 2).map fun i=>Vl.d (.int (i:Nat))) (gd:=none) (by walk_at "mm";rfl)
  (fun i τ S'=>∃ (o':Ob) (R':Sto) (x2 x3 x4 x5 x6 x7 x8 x9 x10 x11 x12 x13:Option Vl),Pen o'∧τ=[some (.sc ns),some (.r 0),x2,x3,x4,x5,x6,x7,x8,x9,x10,x11,x12,x13]∧S'=o' :: R') ⟨o,[],none,none,none,none,none,none,none,none,none,none,none,none,hp,rfl,rfl⟩ (by
   rintro i z τ S' hz ⟨o',R,x2,x3,x4,x5,x6,x7,x8,x9,x10,x11,x12,x13,hp',rfl,rfl⟩
   obtain ⟨hi,rfl⟩:=eP hz
   obtain ⟨o1,hp1,e1⟩:=zh (R:=R) hp'
   obtain ⟨wss,o2,gs,hp2,e2⟩:=wB (R:=R) (names:=4) (most:=4) hp1 (by decide) (by decide) (by decide) (by decide)
   obtain ⟨o3,R3,y4,y5,y6,y7,y8,y9,y10,y11,y12,y13,hp3,e3⟩:=BU (R:=R) (x0:=some (.sc ns)) (x2:=some (.d (.int (i:Nat)))) (x4:=x4) (x5:=x5) (x6:=x6) (x7:=x7) (x8:=x8) (x9:=x9) (x10:=x10) (x11:=x11) (x12:=x12) (x13:=x13) hp2 gs
   exact ⟨_,_,.nx,_,_,by walk_at "mx";rfl,by
    walk_at "mx"
    rw [e1]
    walk_at "mx"
    rw [e2]
    walk_at "mx"
    rw [e3],.inl rfl,True.intro,o3,R3,_,_,y4,y5,y6,y7,y8,y9,y10,y11,y12,y13,hp3,rfl,rfl⟩)
 rw [e]
 walk_at "mx"
 rw [cI]
 rfl
def top (i:Nat):Stmt:=PySem.Challenge.pw_wishstrike_k16_papers_of_many_judged.main.body.getD i (.Pass ⟨0,0,0,0⟩)
structure Txt (K:PySem.W.Frag) (mg:Str→Option Value):Prop where
 is_whole:Df K mg "is_whole" (top 1)
 is_within:Df K mg "is_within" (top 2)
 are_within:Df K mg "are_within" (top 3)
 are_rising:Df K mg "are_rising" (top 4)
 are_unlike:Df K mg "are_unlike" (top 5)
 are_some_of:Df K mg "are_some_of" (top 6)
 is_span:Df K mg "is_span" (top 7)
 are_names:Df K mg "are_names" (top 8)
 is_bound:Df K mg "is_bound" (top 9)
 are_bounds:Df K mg "are_bounds" (top 10)
 is_many:Df K mg "is_many" (top 13)
 is_of_its_kind:Df K mg "is_of_its_kind" (top 17)
 worths_of:Df K mg "worths_of" (top 19)
 are_worths:Df K mg "are_worths" (top 25)
 is_stand:Df K mg "is_stand" (top 26)
 is_wish:Df K mg "is_wish" (top 27)
 is_wish_of:Df K mg "is_wish_of" (top 28)
 need_stand:Df K mg "need_stand" (top 29)
 need_wish:Df K mg "need_wish" (top 30)
 need:Df K mg "need" (top 31)
 need_kind:Df K mg "need_kind" (top 32)
 lows_of:Df K mg "lows_of" (top 34)
 highs_of:Df K mg "highs_of" (top 35)
 are_too_many:Df K mg "are_too_many" (top 36)
 has_one_of:Df K mg "has_one_of" (top 37)
 are_too_short:Df K mg "are_too_short" (top 38)
 many_paper:Df K mg "many_paper" (top 39)
 is_paper:Df K mg "is_paper" (top 61)
 l_spread:Df K mg "_law_spread" (top 63)
 l_open:Df K mg "_law_open" (top 64)
 l_anew:Df K mg "_law_anew" (top 65)
 l_take:Df K mg "_law_take" (top 66)
 l_is_whole:Df K mg "_law_is_whole" (top 67)
 l_same:Df K mg "_law_same" (top 68)
 l_worths:Df K mg "_law_worths" (top 69)
 l_stand:Df K mg "_law_stand" (top 70)
 l_some_names:Df K mg "_law_some_names" (top 71)
 l_near_worth:Df K mg "_law_near_worth" (top 72)
 l_bounds:Df K mg "_law_bounds" (top 73)
 l_wish_of:Df K mg "_law_wish_of" (top 75)
 l_other_stand:Df K mg "_law_other_stand" (top 76)
 l_numbers_of:Df K mg "_law_numbers_of" (top 77)
 l_paper_right:Df K mg "_law_paper_right" (top 78)
 l_parts:Df K mg "_law_parts" (top 79)
 l_spoilt:Df K mg "_law_spoilt" (top 80)
 l_tight:Df K mg "_law_tight" (top 81)
 law:Df K mg "law" (top 82)
 z_all:mg "all"=none
 z_any:mg "any"=none
 z_bool:mg "bool"=none
 z_dict:mg "dict"=none
 z_enumerate:mg "enumerate"=none
 z_int:mg "int"=none
 z_isinstance:mg "isinstance"=none
 z_len:mg "len"=none
 z_list:mg "list"=none
 z_max:mg "max"=none
 z_min:mg "min"=none
 z_range:mg "range"=none
 z_set:mg "set"=none
 z_sorted:mg "sorted"=none
 z_str:mg "str"=none
 z_sum:mg "sum"=none
 z_tuple:mg "tuple"=none
 z_zip:mg "zip"=none
theorem gg:bootBuiltins "all"=some (.builtin "all"):=by decide +kernel
theorem AE:bootBuiltins "any"=some (.builtin "any"):=by decide +kernel
theorem gc:bootBuiltins "bool"=some (.type "bool"):=by decide +kernel
theorem mX:bootBuiltins "dict"=some (.type "dict"):=by decide +kernel
theorem qb:bootBuiltins "int"=some (.type "int"):=by decide +kernel
theorem bh:bootBuiltins "len"=some (.builtin "len"):=by decide +kernel
theorem kA:bootBuiltins "list"=some (.type "list"):=by decide +kernel
theorem Ak:bootBuiltins "max"=some (.builtin "max"):=by decide +kernel
theorem uB:bootBuiltins "min"=some (.builtin "min"):=by decide +kernel
theorem p_:bootBuiltins "set"=some (.type "set"):=by decide +kernel
theorem fi:bootBuiltins "sorted"=some (.builtin "sorted"):=by decide +kernel
theorem mP:bootBuiltins "sum"=some (.builtin "sum"):=by decide +kernel
theorem bT:bootBuiltins "tuple"=some (.type "tuple"):=by decide +kernel
section
variable {P:Program} {w:World} {K:PySem.W.Frag} {mg:Str→Option Value}
theorem ua (T:Txt K mg):OkE P w K mg 1 "_law_open" ["script"] jg:=by
 refine a6 ["script","cells","k","cell"] T.l_open fun _ _ _ _ _ _ _ _ hr q=>?_
 exact (ao (aF q (bP l5 sW T.z_list kA (ae (ui (rv 0) cE (cg ah)) af)))
 (ao (cx (vQ rfl T.z_enumerate (ui (rv 0) (cg ah) (cg ah))) (iO (bH (az q) (bH (az q) f7))) (au (gC (aE aL aK (aC (rv 1) (aE dB (bN _) (rv 2) ah)) (rv 3)) (ki (rv 1) (aE dB (bN _) (rv 2) ah) l8 iT))))
 (au (aA (fZ (ae (oD (rv 1)) (ae ah (ae ah af))))))))
theorem qQ (T:Txt K mg):OkE P w K mg 1 "_law_spread" ["cell","at"] eJ:=by
 refine a6 ["cell","at","one","two","three"] T.l_spread fun _ _ _ _ _ _ _ _ hr q=>?_
 exact (ao (a_ (aU DR (bE _) (rv 0) (aE pf (bN _) ah ah)) (au (aA (rv 0))) aS)
 (ao (aF q (aE dB (bN _) (aE aL aK (aE aL aK (aE d_ (bN _) (aE dB (bN _) (rv 0) ah) ah) (aE d_ (bN _) (rv 1) ah)) ah) ah))
 (ao (aF q (aE dB (bN _) (aE aL aK (aE aL aK (aE d_ (bN _) (rv 2) (rv 2)) (aE d_ (bN _) (rv 1) ah)) (aE dB (bN _) (rv 0) ah)) ah))
 (ao (aF q (aE dB (bN _) (aE aL aK (aE aL aK (aE d_ (bN _) (rv 3) (rv 3)) (aE d_ (bN _) (rv 2) ah)) ah) ah))
 (au (aA (aE aL aK (aE d_ (bN _) (aE aL aK (aE d_ (bN _) (rv 2) ah) (rv 3)) ah) (rv 4))))))))
theorem aI (T:Txt K mg):OkE P w K mg 2 "_law_take" ["pen","many"] aJ:=by
 refine a6 ["pen","many","at","cell","found"] T.l_take fun _ _ _ _ _ _ _ _ hr q=>?_
 exact (ao (a_ (aU js (bE _) (aC (rv 0) ah) (rv 1)) (ao (aF q (aC (rv 0) ah))
 (ao (aF q ah)
 (ao (a_ (aU js (bE _) (rv 2) (aB aM aR T.z_len bh (ae (aC (rv 0) ah) af))) (au (aF q (aC (aC (rv 0) ah) (rv 2)))) (au (a_ (aU mv (bE _) (aB aM aR T.z_len bh (ae (aC (rv 0) ah) af)) ah) (au (aF q (aE dB (bN _) (aC (aC (rv 0) ah) (aE dB (bN _) (aE aL aK (aE d_ (bN _) (rv 2) ah) ah) (aB aM aR T.z_len bh (ae (aC (rv 0) ah) af)))) (aE aL aK (aE pf (bN _) ah ah) (rv 2))))) aS)))
 (ao (gC (aE aL aK (rv 2) ah) (ki (rv 0) ah l8 iT))
 (au (gC (aq (qQ T) hr (ae (rv 3) (ae (rv 2) af))) (ki (rv 0) ah l8 iT))))))) aS)
 (ao (aF q (aE dB (bN _) (aC (rv 0) ah) (rv 1)))
 (ao (gC (aE yT (bN _) (aC (rv 0) ah) (rv 1)) (ki (rv 0) ah l8 iT))
 (au (aA (rv 4))))))
theorem kY (T:Txt K mg):OkE P w K mg 3 "_law_worths" ["pen","most","near"] ee:=by
 refine a6 ["pen","most","near","found","k","worth"] T.l_worths fun _ _ _ _ _ _ _ _ hr q=>?_
 have hu:=hr.units
 exact (ao (aF q (fZ af))
 (ao (cx (cJ rfl T.z_range (ae (aE aL aK ah (aq (aI T) hr (ae (rv 0) (ae (rv 1) af)))) af)) (az q) (ao (aF q (aE aL aK (rv 2) (aq (aI T) hr (ae (rv 0) (ae ah af)))))
 (ao (a_ (aU (bS hu) bQ (aq (aI T) hr (ae (rv 0) (ae ah af))) ah) (au (aF q (aE iN (iL _) (aq (aI T) hr (ae (rv 0) (ae ah af))) ah))) aS)
 (au (a_ (aU (kE hu) kz (rv 5) (rv 3)) (au (cn (lV (rv 3) (rv 5)))) aS)))))
 (au (aA (bP dF eg T.z_tuple bT (ae (aB je j6 T.z_sorted fi (ae (rv 3) af)) af))))))
theorem tG (T:Txt K mg):OkE P w K mg 4 "_law_stand" ["pen","names","most"] h9:=by
 refine a6 ["pen","names","most","near"] T.l_stand fun _ _ _ _ _ _ _ _ hr q=>?_
 refine' (ao (aF q (aE iN (iL _) (aq (aI T) hr (ae (rv 0) (ae ah af))) ah))
 (au (aA (bP dF eg T.z_tuple bT (ae (bB bg ["name","pen","names","most","near"] q (cJ rfl T.z_range (ae (aE aL aK ah (aq (aI T) hr (ae (rv 0) (ae (rv 1) af)))) af)) ?g0 rt0 ?e0) af)))))
 (case g0=>intro _ _ _ _ q;exact (az q))
 (case e0=>intro _ _ _ _;exact (aq (kY T) hr (ae (rv 1) (ae (rv 3) (ae (rv 4) af)))))
theorem uy (T:Txt K mg):OkE P w K mg 1 "_law_anew" ["pen"] iW:=by
 refine a6 ["pen"] T.l_anew fun _ _ _ _ _ _ _ _ hr q=>?_
 exact (ao (gC ah (ki (rv 0) ah l8 iT))
 (au (aA (rv 0))))
theorem md (T:Txt K mg):OkE P w K mg 3 "_law_some_names" ["pen","stand"] dt:=by
 refine a6 ["pen","stand","left","many"] T.l_some_names fun _ _ _ _ _ _ _ _ hr q=>?_
 refine' (ao (aF q (n5 rfl rfl T.z_list rfl T.z_range kA (ae (aB aM aR T.z_len bh (ae (rv 1) af)) af)))
 (ao (aF q (aE aL aK ah (aq (aI T) hr (ae (rv 0) (ae (aB aM aR T.z_len bh (ae (rv 2) af)) af)))))
 (ao (a_ (aU mv (bE _) (aq (aI T) hr (ae (rv 0) (ae ah af))) ah) (au (aF q (aB aM aR T.z_len bh (ae (rv 2) af)))) aS)
 (au (aA (bP dF eg T.z_tuple bT (ae (bB bg ["k","pen","stand","left","many"] q (cJ rfl T.z_range (ae (rv 3) af)) ?g0 rt0 ?e0) af)))))))
 (case g0=>intro _ _ _ _ q;exact (az q))
 (case e0=>intro _ _ _ _;exact (oy PySem.F.slot_list_pop PySem.F.type_list_pop vP vG (rv 3) (aq (aI T) hr (ae (rv 1) (ae (aB aM aR T.z_len bh (ae (rv 3) af)) af)))))
theorem mw (T:Txt K mg):OkE P w K mg 3 "_law_near_worth" ["pen","stand"] dn:=by
 refine a6 ["pen","stand","worths","worth"] T.l_near_worth fun _ _ _ _ _ _ _ _ hr q=>?_
 have hu:=hr.units
 exact (ao (a_ (aU (bS hu) bQ (aq (aI T) hr (ae (rv 0) (ae ah af))) ah) (au (aA (aE iN (iL _) (aq (aI T) hr (ae (rv 0) (ae ah af))) ah))) aS)
 (ao (aF q (aC (rv 1) (aq (aI T) hr (ae (rv 0) (ae (aB aM aR T.z_len bh (ae (rv 1) af)) af)))))
 (ao (aF q (aE aL aK (aC (rv 2) (aq (aI T) hr (ae (rv 0) (ae (aB aM aR T.z_len bh (ae (rv 2) af)) af)))) (aC (cz (ae ah (ae ah (ae ah (ae ah (ae (jj g_ eO ah) af)))))) (aq (aI T) hr (ae (rv 0) (ae ah af))))))
 (au (aA (aB (tM rfl) vJ T.z_max Ak (ae (jj g_ eO ah) (ae (aB (nQ rfl) qh T.z_min uB (ae ah (ae (rv 3) af))) af))))))))
theorem qV (T:Txt K mg):OkE P w K mg 4 "_law_bounds" ["pen","stand"] fK:=by
 refine a6 ["pen","stand","worths","k","worth","found","low"] T.l_bounds fun _ _ _ _ _ _ _ _ hr q=>?_
 have hu:=hr.units
 exact (ao (aF q (fZ af))
 (ao (cx (cJ rfl T.z_range (ae (aq (aI T) hr (ae (rv 0) (ae ah af))) af)) (az q) (ao (aF q (aq (mw T) hr (ae (rv 0) (ae (rv 1) af))))
 (au (a_ (aU (kE hu) kz (rv 4) (rv 2)) (au (cn (lV (rv 2) (rv 4)))) aS))))
 (ao (aF q (fZ af))
 (ao (cx (aW (aB je j6 T.z_sorted fi (ae (rv 2) af))) (az q) (ao (aF q (aC (cz (ae ah (ae ah (ae ah (ae ah (ae ah (ae (aq (aI T) hr (ae (rv 0) (ae ah af))) af))))))) (aq (aI T) hr (ae (rv 0) (ae ah af)))))
 (au (cn (lV (rv 5) (br (ae (rv 4) (ae (rv 6) (ae (aB (nQ rfl) qh T.z_min uB (ae ah (ae (aE aL aK (rv 6) (aC (cz (ae ah (ae ah (ae ah (ae ah (ae (aq (aI T) hr (ae (rv 0) (ae ah af))) af)))))) (aq (aI T) hr (ae (rv 0) (ae ah af))))) af))) af)))))))))
 (au (aA (bP dF eg T.z_tuple bT (ae (rv 5) af))))))))
theorem qj (T:Txt K mg):OkE P w K mg 5 "_law_wish_of" ["pen","stand","kind"] e_:=by
 refine a6 ["pen","stand","kind","names","weights","total","name","weight","low","high","ends"] T.l_wish_of fun _ _ _ _ _ _ _ _ hr q=>?_
 have hu:=hr.units
 exact (ao (aF q (aq (md T) hr (ae (rv 0) (ae (rv 1) af))))
 (ao (a_ (aU (bS hu) bQ (rv 2) ah) dQ aS)
 (ao (a_ (aU (bS hu) bQ (rv 2) ah) (au (aA (br (ae dj (ae (rv 3) (ae (aq (qV T) hr (ae (rv 0) (ae (rv 1) af))) af)))))) aS)
 dQ)))
theorem mn (T:Txt K mg):OkE P w K mg 3 "_law_tight" ["pen","wish"] fj:=by
 refine a6 ["pen","wish","at","worth","low","high","one"] T.l_tight fun _ _ _ _ _ _ _ _ hr q=>?_
 have hu:=hr.units
 exact (ao (a_ (aU (bS hu) bQ (aC (rv 1) ah) (br af)) (au (aA (rv 1))) aS)
 (ao (aF q (aq (aI T) hr (ae (rv 0) (ae (aB aM aR T.z_len bh (ae (aC (rv 1) ah) af)) af))))
 (ao (gC (aC (aC (rv 1) ah) (rv 2)) (iO (bH (az q) (bH (az q) (bH (az q) f7)))))
 (ao (aF q (aC (cz (ae (br (ae (rv 3) (ae ah (ae ah af)))) (ae (br (ae (rv 3) (ae (rv 5) (ae (rv 5) af)))) (ae (br (ae (rv 3) (ae ah (ae ah af)))) (ae (br (ae (rv 3) (ae (rv 4) (ae (rv 4) af)))) af))))) (aq (aI T) hr (ae (rv 0) (ae ah af)))))
 (au (aA (aE aL aK (dJ (rv 1) cE (cg ah)) (br (ae (aE aL aK (aE aL aK (dJ (aC (rv 1) ah) cE (cg (rv 2))) (br (ae (rv 6) af))) (dJ (aC (rv 1) ah) (cg (aE aL aK (rv 2) ah)) cE)) af)))))))))
theorem mE (T:Txt K mg):OkE P w K mg 1 "_law_parts" ["numbers"] fu:=by
 refine a6 ["numbers","found","number"] T.l_parts fun _ _ _ _ _ _ _ _ hr q=>?_
 refine' (ao (aF q (cz (ae (br af) af)))
 (ao (cx (aW (rv 0)) (az q) (au (aF q (aE aL aK (rv 1) (bB bg ["part","numbers","found","number"] q (aW (rv 1)) ?g0 rt0 ?e0)))))
 (au (aA (rv 1)))))
 (case g0=>intro _ _ _ _ q;exact (az q))
 (case e0=>intro _ _ _ _;exact (aE aL aK (rv 0) (br (ae (rv 3) af))))
theorem qC (T:Txt K mg):OkE P w K mg 3 "_law_spoilt" ["pen","some"] fM:=by
 refine a6 ["pen","some","at","number","ways"] T.l_spoilt fun _ _ _ _ _ _ _ _ hr q=>?_
 exact (ao (aF q (aq (aI T) hr (ae (rv 0) (ae (aE aL aK (aB aM aR T.z_len bh (ae (rv 1) af)) ah) af))))
 (ao (aF q (aC (cz (ae (aE iN (iL _) (aq (aI T) hr (ae (rv 0) (ae ah af))) ah) (ae (jj g_ eO ah) (ae ah (ae (aE pf (bN _) ah ah) af))))) (aq (aI T) hr (ae (rv 0) (ae ah af)))))
 (ao (aF q (cz (ae (aE aL aK (aE aL aK (dJ (rv 1) cE (cg (rv 2))) (br (ae (rv 3) af))) (dJ (rv 1) (cg (rv 2)) cE)) (ae (aE aL aK (dJ (rv 1) cE (cg (rv 2))) (dJ (rv 1) (cg (aE aL aK (rv 2) ah)) cE)) (ae (aE aL aK (aE aL aK (dJ (rv 1) cE (cg (rv 2))) (br (ae (rv 3) af))) (dJ (rv 1) (cg (aE aL aK (rv 2) ah)) cE)) af)))))
 (au (aA (aC (aE aL aK (rv 4) (cz (ae (A8 (rv 1) (jj g_ eO ah)) (ae (aE aL aK (rv 1) (dJ (rv 1) (cg (jj g_ eO ah)) cE)) (ae (br (ae (rv 3) af)) af))))) (aq (aI T) hr (ae (rv 0) (ae ah af)))))))))
theorem lI (T:Txt K mg):OkE P w K mg 4 "_law_other_stand" ["pen","stand"] c7:=by
 refine a6 ["pen","stand","near"] T.l_other_stand fun _ _ _ _ _ _ _ _ hr q=>?_
 refine' (ao (aF q (aE iN (iL _) (aq (aI T) hr (ae (rv 0) (ae ah af))) ah))
 (au (aA (bP dF eg T.z_tuple bT (ae (bB bg ["worths","pen","stand","near"] q (aW (rv 1)) ?g0 rt0 ?e0) af)))))
 (case g0=>intro _ _ _ _ q;exact (az q))
 (case e0=>intro _ _ _ _;exact (aq (kY T) hr (ae (rv 1) (ae ah (ae (rv 3) af)))))
theorem oe (T:Txt K mg):OkE P w K mg 1 "_law_is_whole" ["thing"] d9:=by
 refine a6 ["thing"] T.l_is_whole fun _ _ _ _ _ _ _ _ hr q=>?_
 exact (au (aA (bF (bw T.z_isinstance T.z_int qb (rv 0)) (b_ (tL (bw T.z_isinstance T.z_bool gc (rv 0)))))))
theorem lU (T:Txt K mg):OkE P w K mg 2 "_law_numbers_of" ["thing"] dq:=by
 refine a6 ["thing"] T.l_numbers_of fun _ _ _ _ _ _ _ _ hr q=>?_
 have hu:=hr.units
 refine' (ao (a_ (RW.rt (fJ (ck (bZ (bw T.z_isinstance T.z_tuple bT (rv 0)))) (fJ (aU (bS hu) bQ (rv 0) (br af)) (fw (aU (fz hu) fh (bB bg ["one","thing"] q (aW (rv 0)) ?g0 ?t0 ?e0) (cz af)))))) (au (aA cP)) aS)
 (au (aA (bX (bS hu) bQ (bP l5 uS T.z_list kA (ae (rv 0) af)) (xm rfl rfl T.z_sorted rfl T.z_set fi p_ (rv 0))))))
 (case g0=>intro _ _ _ _ q;exact (az q))
 (case t0=>intro _ _ _ _;exact (eN (ck (bZ (aq (oe T) hr (ae (rv 0) af))))))
 (case e0=>intro _ _ _ _;exact ah)
theorem lE (T:Txt K mg):OkE P w K mg 3 "_law_paper_right" ["stand","wish","paper"] bL:=by
 refine a6 ["stand","wish","paper","bounds","worths","name","many"] T.l_paper_right fun _ _ _ _ _ _ _ _ hr q=>?_
 have hu:=hr.units
 refine' (ao (a_ (ck (bZ (aq (lU T) hr (ae (aC (rv 2) ah) af)))) (au (aA cP)) aS)
 (ao (aF q (oD (bP (jh rfl) ju T.z_dict mX (ae (bB bg ["one","stand","wish","paper","bounds","worths","name","many"] q (aW (aC (rv 1) ah)) ?g0 rt0 ?e0) af))))
 (ao (a_ (aU (bS hu) bQ (aC (rv 2) ah) dj) (ao (a_ (aU (fz hu) fh (bB bg ["name","stand","wish","paper","bounds","worths","~5","many"] q (aW (aC (rv 2) ah)) ?g1 ?t1 ?e1) (cz af)) (au (aA cP)) aS)
 (ao (aF q (fZ af))
 (ao (cx (aW (aC (rv 2) ah)) (az q) (au (cn (oy PySem.F.slot_list_extend PySem.F.type_list_extend m9 j9 (rv 4) (bB bg ["worth","stand","wish","paper","bounds","worths","name","many"] q (aW (aC (rv 0) (rv 5))) ?g2 ?t2 ?e2)))))
 (ao (a_ (aU (fz hu) fh (bB bg ["worth","stand","wish","paper","bounds","worths","name","many"] q (aW (rv 4)) ?g3 ?t3 ?e3) (cz af)) (au (aA cP)) aS)
 (au (aA (bX js (bE _) (aB (ip rfl) jn T.z_sum mP (ae (bB bg ["worth","stand","wish","paper","bounds","worths","name","many"] q (aW (rv 4)) ?g4 rt0 ?e4) af)) (aB aM aR T.z_len bh (ae (aC (rv 2) ah) af))))))))) aS)
 (ao (a_ (aU (fz hu) fh (bB bg ["worth","stand","wish","paper","bounds","worths","name","many"] q (aW (aC (rv 2) ah)) ?g5 ?t5 ?e5) (cz af)) (au (aA cP)) aS)
 (ao (aF q ah)
 (ao (cx (aW (aC (rv 1) ah)) (az q) (au (aF q (aE aL aK (rv 6) (bP uL vy T.z_int qb (ae (bX (fz hu) fh (bB bg ["worth","stand","wish","paper","bounds","worths","name","many"] q (aW (aC (rv 0) (rv 5))) ?g6 ?t6 ?e6) (cz af)) af))))))
 (au (aA (bX mv (bE _) (aB (ip rfl) jn T.z_sum mP (ae (bB bg ["worth","stand","wish","paper","bounds","worths","name","many"] q (aW (aC (rv 2) ah)) ?g7 rt0 ?e7) af)) (rv 6))))))))))
 (case g0=>intro _ _ _ _ q;exact (az q))
 (case e0=>intro _ _ _ _;exact (br (ae (aC (rv 0) ah) (ae (rv 0) af))))
 (case g1=>intro _ _ _ _ q;exact (az q))
 (case t1=>intro _ _ _ _;exact (eN (aU (kE hu) kz (rv 0) (aC (rv 2) ah))))
 (case e1=>intro _ _ _ _;exact ah)
 (case g2=>intro _ _ _ _ q;exact (az q))
 (case t2=>intro _ _ _ _;exact (eN (aU (kE hu) kz (rv 0) (rv 5))))
 (case e2=>intro _ _ _ _;exact (rv 0))
 (case g3=>intro _ _ _ _ q;exact (az q))
 (case t3=>intro _ _ _ _;exact (eN (aU (rE hu) o_ (rv 0) (rv 4))))
 (case e3=>intro _ _ _ _;exact ah)
 (case g4=>intro _ _ _ _ q;exact (az q))
 (case e4=>intro _ _ _ _;exact (aC (oq hu (rv 4) (rv 0)) ah))
 (case g5=>intro _ _ _ _ q;exact (az q))
 (case t5=>intro _ _ _ _;exact (eN (aU (rE hu) o_ (rv 0) (rv 4))))
 (case e5=>intro _ _ _ _;exact ah)
 (case g6=>intro _ _ _ _ q;exact (az q))
 (case t6=>intro _ _ _ _;exact (eN (aU (qt hu) pj (rv 0) (aC (rv 3) ah))))
 (case e6=>intro _ _ _ _;exact (rv 0))
 (case g7=>intro _ _ _ _ q;exact (az q))
 (case e7=>intro _ _ _ _;exact (aC (oq hu (rv 4) (rv 0)) ah))
theorem nq (T:Txt K mg):OkE P w K mg 1 "_law_same" ["found","due"] gx:=by
 refine a6 ["found","due"] T.l_same fun _ _ _ _ _ _ _ _ hr q=>?_
 have hu:=hr.units
 exact (ao (a_ (aU uH uz (rv 1) u1) (au (aA (bX uH uz (rv 0) u1))) aS)
 (ao (a_ (RW.rt (fJ (bZ (bw T.z_isinstance T.z_bool gc (rv 1))) (fw (bZ (bw T.z_isinstance T.z_bool gc (rv 0)))))) (au (aA (bF (bw T.z_isinstance T.z_bool gc (rv 1)) (bF (bw T.z_isinstance T.z_bool gc (rv 0)) (b_ (bX (bS hu) bQ (rv 0) (rv 1))))))) aS)
 dQ))
theorem qy (T:Txt K mg):OkE P w K mg 1 "is_whole" ["thing"] fS:=by
 refine a6 ["thing"] T.is_whole fun _ _ _ _ _ _ _ _ hr q=>?_
 exact (au (aA (bF (bw T.z_isinstance T.z_int qb (rv 0)) (b_ (tL (bw T.z_isinstance T.z_bool gc (rv 0)))))))
theorem eE (T:Txt K mg):OkE P w K mg 2 "is_within" ["thing","low","high"] cB:=by
 refine a6 ["thing","low","high"] T.is_within fun _ _ _ _ _ _ _ _ hr q=>?_
 exact (au (aA (bF (aq (qy T) hr (ae (rv 0) af)) (b_ (lx fI (bE _) fI (bE _) (rv 1) (rv 0) (rv 2))))))
theorem jC (T:Txt K mg):OkE P w K mg 3 "are_within" ["thing","low","high"] c_:=by
 refine a6 ["thing","low","high"] T.are_within fun _ _ _ _ _ _ _ _ hr q=>?_
 refine' (au (aA (bF (bw T.z_isinstance T.z_tuple bT (rv 0)) (b_ (aB (dk rfl) dU T.z_all gg (ae (bB bg ["part","thing","low","high"] q (aW (rv 0)) ?g0 rt0 ?e0) af))))))
 (case g0=>intro _ _ _ _ q;exact (az q))
 (case e0=>intro _ _ _ _;exact (aq (eE T) hr (ae (rv 0) (ae (rv 2) (ae (rv 3) af)))))
theorem fE (T:Txt K mg):OkE P w K mg 1 "are_rising" ["things"] bY:=by
 refine a6 ["things"] T.are_rising fun _ _ _ _ _ _ _ _ hr q=>?_
 refine' (au (aA (aB (dk rfl) dU T.z_all gg (ae (bB bg ["at","things"] q (ud rfl T.z_range (ae ah (ae (aB aM aR T.z_len bh (ae (rv 0) af)) af))) ?g0 rt0 ?e0) af))))
 (case g0=>intro _ _ _ _ q;exact (az q))
 (case e0=>intro _ _ _ _;exact (bX js (bE _) (aC (rv 1) (aE iN (iL _) (rv 0) ah)) (aC (rv 1) (rv 0))))
theorem n6 (T:Txt K mg):OkE P w K mg 4 "are_worths" ["thing"] eh:=by
 refine a6 ["thing"] T.are_worths fun _ _ _ _ _ _ _ _ hr q=>?_
 exact (au (aA (bF (aq (jC T) hr (ae (rv 0) (ae (jj g_ eO ah) (ae ah af)))) (bF (lx fI (bE _) fI (bE _) ah (aB aM aR T.z_len bh (ae (rv 0) af)) ah) (b_ (aq (fE T) hr (ae (rv 0) af)))))))
theorem qH (T:Txt K mg):OkE P w K mg 5 "is_stand" ["thing"] fQ:=by
 refine a6 ["thing"] T.is_stand fun _ _ _ _ _ _ _ _ hr q=>?_
 refine' (ao (a_ (RW.rt (fJ (ck (bZ (bw T.z_isinstance T.z_tuple bT (rv 0)))) (fw (ck (vI fI (bE _) fI (bE _) ah (aB aM aR T.z_len bh (ae (rv 0) af)) ah))))) (au (aA cP)) aS)
 (au (aA (aB (dk rfl) dU T.z_all gg (ae (bB bg ["part","thing"] q (aW (rv 0)) ?g0 rt0 ?e0) af)))))
 (case g0=>intro _ _ _ _ q;exact (az q))
 (case e0=>intro _ _ _ _;exact (aq (n6 T) hr (ae (rv 0) af)))
theorem n8 (T:Txt K mg):OkE P w K mg 6 "need_stand" ["stand"] eD:=by
 refine a6 ["stand"] T.need_stand fun _ _ _ _ _ _ _ _ hr q=>?_
 exact (au (a_ (ck (bZ (aq (qH T) hr (ae (rv 0) af)))) (au ll) aS))
theorem n4 (T:Txt K mg):OkE P w K mg 1 "are_unlike" ["things"] eF:=by
 refine a6 ["things"] T.are_unlike fun _ _ _ _ _ _ _ _ hr q=>?_
 have hu:=hr.units
 exact (au (aA (bX (bS hu) bQ (Cp rfl rfl T.z_len rfl T.z_set bh p_ (rv 0)) (aB aM aR T.z_len bh (ae (rv 0) af)))))
theorem oU (T:Txt K mg):OkE P w K mg 4 "are_names" ["thing"] fe:=by
 refine a6 ["thing"] T.are_names fun _ _ _ _ _ _ _ _ hr q=>?_
 exact (au (aA (bF (aq (jC T) hr (ae (rv 0) (ae ah (ae ah af)))) (bF (lx fI (bE _) fI (bE _) ah (aB aM aR T.z_len bh (ae (rv 0) af)) ah) (b_ (aq (n4 T) hr (ae (rv 0) af)))))))
theorem tw (T:Txt K mg):OkE P w K mg 3 "is_span" ["low","high","least","most"] ig:=by
 refine a6 ["low","high","least","most"] T.is_span fun _ _ _ _ _ _ _ _ hr q=>?_
 exact (au (aA (bF (aq (eE T) hr (ae (rv 0) (ae (rv 2) (ae (rv 3) af)))) (bF (aq (eE T) hr (ae (rv 1) (ae (rv 2) (ae (rv 3) af)))) (b_ (bX fI (bE _) (rv 0) (rv 1)))))))
theorem qP (T:Txt K mg):OkE P w K mg 4 "is_bound" ["thing"] fR:=by
 refine a6 ["thing"] T.is_bound fun _ _ _ _ _ _ _ _ hr q=>?_
 have hu:=hr.units
 exact (ao (a_ (RW.rt (fJ (ck (bZ (bw T.z_isinstance T.z_tuple bT (rv 0)))) (fw (aU (fz hu) fh (aB aM aR T.z_len bh (ae (rv 0) af)) ah)))) (au (aA cP)) aS)
 (au (aA (bF (aq (eE T) hr (ae (aC (rv 0) ah) (ae (jj g_ eO ah) (ae ah af)))) (b_ (aq (tw T) hr (ae (aC (rv 0) ah) (ae (aC (rv 0) ah) (ae ah (ae ah af))))))))))
theorem n_ (T:Txt K mg):OkE P w K mg 5 "are_bounds" ["thing"] ez:=by
 refine a6 ["thing"] T.are_bounds fun _ _ _ _ _ _ _ _ hr q=>?_
 refine' (ao (a_ (RW.rt (fJ (ck (bZ (bw T.z_isinstance T.z_tuple bT (rv 0)))) (fw (aU mv (bE _) (aB aM aR T.z_len bh (ae (rv 0) af)) ah)))) (au (aA cP)) aS)
 (au (aA (bF (aB (dk rfl) dU T.z_all gg (ae (bB bg ["part","thing"] q (aW (rv 0)) ?g0 rt0 ?e0) af)) (b_ (aq (fE T) hr (ae (bB bg ["part","thing"] q (aW (rv 0)) ?g1 rt0 ?e1) af)))))))
 (case g0=>intro _ _ _ _ q;exact (az q))
 (case e0=>intro _ _ _ _;exact (aq (qP T) hr (ae (rv 0) af)))
 (case g1=>intro _ _ _ _ q;exact (az q))
 (case e1=>intro _ _ _ _;exact (aC (rv 0) ah))
theorem sQ (T:Txt K mg):OkE P w K mg 6 "is_many" ["wish"] ik:=by
 refine a6 ["wish"] T.is_many fun _ _ _ _ _ _ _ _ hr q=>?_
 have hu:=hr.units
 exact (au (aA (bF (bX (bS hu) bQ (aB aM aR T.z_len bh (ae (rv 0) af)) ah) (b_ (aq (n_ T) hr (ae (aC (rv 0) ah) af))))))
theorem kO (T:Txt K mg):OkE P w K mg 7 "is_of_its_kind" ["wish"] cN:=by
 refine a6 ["wish","word"] T.is_of_its_kind fun _ _ _ _ _ _ _ _ hr q=>?_
 have hu:=hr.units
 exact (ao (aF q (aC (rv 0) ah))
 (ao (a_ (aU (bS hu) bQ (rv 1) dj) dQ aS)
 (ao (a_ (aU (bS hu) bQ (rv 1) dj) (au (aA (aq (sQ T) hr (ae (rv 0) af)))) aS)
 dQ)))
theorem sy (T:Txt K mg):OkE P w K mg 8 "is_wish" ["thing"] ia:=by
 refine a6 ["thing"] T.is_wish fun _ _ _ _ _ _ _ _ hr q=>?_
 exact (ao (a_ (RW.rt (fJ (ck (bZ (bw T.z_isinstance T.z_tuple bT (rv 0)))) (fw (aU js (bE _) (aB aM aR T.z_len bh (ae (rv 0) af)) ah)))) (au (aA cP)) aS)
 (au (aA (bF (aq (oU T) hr (ae (aC (rv 0) ah) af)) (b_ (aq (kO T) hr (ae (rv 0) af)))))))
theorem oh (T:Txt K mg):OkE P w K mg 9 "is_wish_of" ["stand","thing"] ed:=by
 refine a6 ["stand","thing"] T.is_wish_of fun _ _ _ _ _ _ _ _ hr q=>?_
 refine' (au (aA (bF (aq (sy T) hr (ae (rv 1) af)) (b_ (aB (dk rfl) dU T.z_all gg (ae (bB bg ["name","stand","thing"] q (aW (aC (rv 1) ah)) ?g0 rt0 ?e0) af))))))
 (case g0=>intro _ _ _ _ q;exact (az q))
 (case e0=>intro _ _ _ _;exact (bX js (bE _) (rv 0) (aB aM aR T.z_len bh (ae (rv 1) af))))
theorem oY (T:Txt K mg):OkE P w K mg 10 "need_wish" ["stand","wish","number"] fc:=by
 refine a6 ["stand","wish","number"] T.need_wish fun _ _ _ _ _ _ _ _ hr q=>?_
 exact (au (a_ (ck (bZ (aq (oh T) hr (ae (rv 0) (ae (rv 1) af))))) (au ll) aS))
theorem qZ (T:Txt K mg):OkE P w K mg 11 "need" ["stand","wish"] kf:=by
 refine a6 ["stand","wish"] T.need fun _ _ _ _ _ _ _ _ hr q=>?_
 exact (ao (cn (aq (n8 T) hr (ae (rv 0) af)))
 (au (cn (aq (oY T) hr (ae (rv 0) (ae (rv 1) (ae ah af)))))))
theorem oR (T:Txt K mg):OkE P w K mg 12 "need_kind" ["stand","wish","word"] fg:=by
 refine a6 ["stand","wish","word"] T.need_kind fun _ _ _ _ _ _ _ _ hr q=>?_
 have hu:=hr.units
 exact (ao (cn (aq (qZ T) hr (ae (rv 0) (ae (rv 1) af))))
 (au (a_ (aU (fz hu) fh (aC (rv 1) ah) (rv 2)) (au ll) aS)))
theorem iM (T:Txt K mg):OkE P w K mg 2 "are_some_of" ["thing","things"] b8:=by
 refine a6 ["thing","things"] T.are_some_of fun _ _ _ _ _ _ _ _ hr q=>?_
 have hu:=hr.units
 refine' (ao (a_ (RW.rt (fJ (ck (bZ (bw T.z_isinstance T.z_tuple bT (rv 0)))) (fw (aU (bS hu) bQ (aB aM aR T.z_len bh (ae (rv 0) af)) ah)))) (au (aA cP)) aS)
 (au (aA (bF (aB (dk rfl) dU T.z_all gg (ae (bB bg ["part","thing","things"] q (aW (rv 0)) ?g0 rt0 ?e0) af)) (b_ (aq (fE T) hr (ae (rv 0) af)))))))
 (case g0=>intro _ _ _ _ q;exact (az q))
 (case e0=>intro _ _ _ _;exact (bX (qt hu) pj (rv 0) (rv 2)))
theorem pM (T:Txt K mg):OkE P w K mg 1 "worths_of" ["stand","names"] fb:=by
 refine a6 ["stand","names","found","name"] T.worths_of fun _ _ _ _ _ _ _ _ hr q=>?_
 exact (ao (aF q (fZ af))
 (ao (cx (aW (rv 1)) (az q) (au (cn (oy PySem.F.slot_list_extend PySem.F.type_list_extend m9 j9 (rv 2) (aC (rv 0) (rv 3))))))
 (au (aA (xm rfl rfl T.z_sorted rfl T.z_set fi p_ (rv 2))))))
theorem lZ (T:Txt K mg):OkE P w K mg 2 "are_too_many" ["stand","names","highs"] dr:=by
 refine a6 ["stand","names","highs","worths"] T.are_too_many fun _ _ _ _ _ _ _ _ hr q=>?_
 have hu:=hr.units
 refine' (ao (aF q (aq (pM T) hr (ae (rv 0) (ae (rv 1) af))))
 (ao (a_ (ck (bZ (aB (dk rfl) dU T.z_all gg (ae (bB bg ["worth","stand","names","highs","worths"] q (aW (rv 3)) ?g0 rt0 ?e0) af)))) (au (aA cP)) aS)
 (au (aA (bX js (bE _) (aB (ip rfl) jn T.z_sum mP (ae (bB bg ["worth","stand","names","highs","worths"] q (aW (rv 3)) ?g1 rt0 ?e1) af)) (aB aM aR T.z_len bh (ae (rv 1) af)))))))
 (case g0=>intro _ _ _ _ q;exact (az q))
 (case e0=>intro _ _ _ _;exact (bX (zV hu) zl (rv 0) (rv 3)))
 (case g1=>intro _ _ _ _ q;exact (az q))
 (case e1=>intro _ _ _ _;exact (oq hu (rv 3) (rv 0)))
theorem qJ (T:Txt K mg):OkE P w K mg 1 "highs_of" ["bounds"] fU:=by
 refine a6 ["bounds"] T.highs_of fun _ _ _ _ _ _ _ _ hr q=>?_
 refine' (au (aA (oD (bP (jh rfl) ju T.z_dict mX (ae (bB bg ["worth","low","high","bounds"] q (aW (rv 0)) ?g0 rt0 ?e0) af)))))
 (case g0=>intro _ _ _ _ q;exact (iO (bH (az q) (bH (az q) (bH (az q) f7)))))
 (case e0=>intro _ _ _ _;exact (br (ae (rv 0) (ae (rv 2) af))))
theorem sI (T:Txt K mg):OkE P w K mg 1 "lows_of" ["bounds"] iu:=by
 refine a6 ["bounds"] T.lows_of fun _ _ _ _ _ _ _ _ hr q=>?_
 refine' (au (aA (oD (bP (jh rfl) ju T.z_dict mX (ae (bB bg ["worth","low","high","bounds"] q (aW (rv 0)) ?g0 rt0 ?e0) af)))))
 (case g0=>intro _ _ _ _ q;exact (iO (bH (az q) (bH (az q) (bH (az q) f7)))))
 (case e0=>intro _ _ _ _;exact (br (ae (rv 0) (ae (rv 1) af))))
theorem nY (T:Txt K mg):OkE P w K mg 1 "has_one_of" ["stand","name","worths"] eB:=by
 refine a6 ["stand","name","worths"] T.has_one_of fun _ _ _ _ _ _ _ _ hr q=>?_
 have hu:=hr.units
 refine' (au (aA (aB (uG rfl) v3 T.z_any AE (ae (bB bg ["worth","stand","name","worths"] q (aW (aC (rv 0) (rv 1))) ?g0 rt0 ?e0) af))))
 (case g0=>intro _ _ _ _ q;exact (az q))
 (case e0=>intro _ _ _ _;exact (bX (qt hu) pj (rv 0) (rv 3)))
theorem lK (T:Txt K mg):OkE P w K mg 2 "are_too_short" ["stand","names","worths","lows"] c9:=by
 refine a6 ["stand","names","worths","lows","havers"] T.are_too_short fun _ _ _ _ _ _ _ _ hr q=>?_
 have hu:=hr.units
 refine' (ao (xR bg ["name","stand","names","worths","lows","havers"] q (aW (rv 1)) ?g0 ?t0 ?e0)
 (au (aA (bX mv (bE _) (aB (ip rfl) jn T.z_sum mP (ae (bB bg ["worth","stand","names","worths","lows","havers"] q (aW (rv 2)) ?g1 rt0 ?e1) af)) (aB aM aR T.z_len bh (ae (rv 4) af))))))
 (case g0=>intro _ _ _ _ q;exact (az q))
 (case t0=>intro _ _ _ _;exact (eN (bZ (aq (nY T) hr (ae (rv 1) (ae (rv 0) (ae (rv 3) af)))))))
 (case e0=>intro _ _ _ _;exact (rv 0))
 (case g1=>intro _ _ _ _ q;exact (az q))
 (case e1=>intro _ _ _ _;exact (oq hu (rv 4) (rv 0)))
theorem jI (T:Txt K mg):OkE P w K mg 13 "many_paper" ["stand","wish","paper"] de:=by
 refine a6 ["stand","wish","paper","some","lows"] T.many_paper fun _ _ _ _ _ _ _ _ hr q=>?_
 have hu:=hr.units
 exact (ao (cn (aq (oR T) hr (ae (rv 0) (ae (rv 1) (ae dj af)))))
 (ao (a_ (RW.rt (fJ (ck (bZ (bw T.z_isinstance T.z_tuple bT (rv 2)))) (fw (aU (fz hu) fh (aB aM aR T.z_len bh (ae (rv 2) af)) ah)))) (au (aA cP)) aS)
 (ao (aF q (aC (rv 2) ah))
 (ao (a_ (aU (bS hu) bQ (aC (rv 2) ah) dj) (au (aA (bF (aq (iM T) hr (ae (rv 3) (ae (aC (rv 1) ah) af))) (b_ (aq (lZ T) hr (ae (rv 0) (ae (rv 3) (ae (aq (qJ T) hr (ae (aC (rv 1) ah) af)) af)))))))) aS)
 (ao (aF q (aq (sI T) hr (ae (aC (rv 1) ah) af)))
 (au (aA (bF (bX (bS hu) bQ (aC (rv 2) ah) dj) (bF (aq (iM T) hr (ae (rv 3) (ae (bP (sF rfl) tu T.z_list kA (ae (rv 4) af)) af))) (b_ (aq (lK T) hr (ae (rv 0) (ae (aC (rv 1) ah) (ae (rv 3) (ae (rv 4) af)))))))))))))))
theorem qW (T:Txt K mg):OkE P w K mg 14 "is_paper" ["stand","wish","paper"] fT:=by
 refine a6 ["stand","wish","paper","word"] T.is_paper fun _ _ _ _ _ _ _ _ hr q=>?_
 have hu:=hr.units
 exact (ao (cn (aq (qZ T) hr (ae (rv 0) (ae (rv 1) af))))
 (ao (aF q (aC (rv 1) ah))
 (ao (a_ (aU (bS hu) bQ (rv 3) dj) dQ aS)
 (ao (a_ (aU (bS hu) bQ (rv 3) dj) (au (aA (aq (jI T) hr (ae (rv 0) (ae (rv 1) (ae (rv 2) af)))))) aS)
 dQ))))
theorem zO (T:Txt K mg):OkE P w K mg 15 "law" ["script"] se:=by
 refine a6 ["script","pen","turn","stand","k","wish","again","some","word","one","cases","paper","here","due"] T.law fun _ _ _ _ _ _ _ _ hr q=>?_
 refine' (ao (aF q (aq (ua T) hr (ae (rv 0) af)))
 (ao (cx (cJ rfl T.z_range (ae ah af)) (az q) (ao (aF q (aq (tG T) hr (ae (aq (uy T) hr (ae (rv 1) af)) (ae ah (ae ah af)))))
 (au (cx (cJ rfl T.z_range (ae ah af)) (az q) (ao (aF q (aq (qj T) hr (ae (rv 1) (ae (rv 3) (ae ah af)))))
 (ao (cx (cJ rfl T.z_range (ae (aq (aI T) hr (ae (rv 1) (ae ah af))) af)) (az q) (au (aF q (aq (mn T) hr (ae (rv 1) (ae (rv 5) af))))))
 (ao (xR zw ["one","script","pen","turn","stand","k","wish","again","some","word","~9","cases","paper","here","due"] q (aW (aq (mE T) hr (ae (aB je j6 T.z_sorted fi (ae (aC (rv 5) ah) af)) af))) ?g0 rt0 ?e0)
 (ao (cn (oy PySem.F.slot_list_extend PySem.F.type_list_extend m9 j9 (rv 7) (bB bg ["one","script","pen","turn","stand","k","wish","again","some","word","~9","cases","paper","here","due"] q (aW (aq (mE T) hr (ae (bB bg ["one","script","pen","turn","stand","k","wish","again","some","word","~9","cases","paper","here","due"] q (aW (aC (rv 5) ah)) ?g1 rt0 ?e1) af))) ?g2 rt0 ?e2)))
 (ao (cx (cJ rfl T.z_range (ae ah af)) (az q) (ao (gC (aC (rv 7) (aq (aI T) hr (ae (rv 1) (ae (aB aM aR T.z_len bh (ae (rv 7) af)) af)))) (iO (bH (az q) (bH (az q) f7))))
 (au (cn (lV (rv 7) (br (ae (rv 8) (ae (aq (qC T) hr (ae (rv 1) (ae (rv 9) af))) af))))))))
 (ao (aF q (cz (ae (br (ae (rv 3) (ae (rv 5) af))) (ae (br (ae (aq (lI T) hr (ae (rv 1) (ae (rv 3) af))) (ae (rv 5) af))) (ae (br (ae (rv 3) (ae (aq (mn T) hr (ae (rv 1) (ae (rv 5) af))) af))) (ae (br (ae (rv 3) (ae (rv 5) af))) af))))))
 (au (cx (aW (rv 7)) (az q) (au (cx (aW (rv 10)) (iO (bH (az q) (bH (az q) f7))) (ao (aF q (aq (lE T) hr (ae (rv 12) (ae (rv 9) (ae (rv 11) af)))))
 (ao (a_ (ck (bZ (aq (nq T) hr (ae (aq (jI T) hr (ae (rv 12) (ae (rv 9) (ae (rv 11) af)))) (ae (rv 13) af))))) (au (aA cP)) aS)
 (au (a_ (ck (bZ (aq (nq T) hr (ae (aq (qW T) hr (ae (rv 12) (ae (rv 9) (ae (rv 11) af)))) (ae (rv 13) af))))) (au (aA cP)) aS))))))))))))))))))
 (au (aA cP))))
 (case g0=>intro _ _ _ _ q;exact (az q))
 (case e0=>intro _ _ _ _;exact (br (ae dj (ae (rv 0) af))))
 (case g1=>intro _ _ _ _ q;exact (az q))
 (case e1=>intro _ _ _ _;exact (aC (rv 0) ah))
 (case g2=>intro _ _ _ _ q;exact (az q))
 (case e2=>intro _ _ _ _;exact (br (ae dj (ae (rv 0) af))))
end
end My
def PySem.W.Fast.tw10957439542584794310:Unit:=()
def PySem.W.Fast.tw857900770226802701:Unit:=()
def PySem.W.Fast.tw7705940835284993260:Unit:=()
def PySem.W.Fast.tw2447963377035310792:Unit:=()
def PySem.W.Fast.tw11723856614506851946:Unit:=()
def PySem.W.Fast.tw9245221623702622613:Unit:=()
def PySem.W.Fast.tw10196610555732852012:Unit:=()
def PySem.W.Fast.tw12802703504528696563:Unit:=()
def PySem.W.Fast.tw10583631298294934580:Unit:=()
def PySem.W.Fast.tw9733225153291080631:Unit:=()
def PySem.W.Fast.tw10324409768133197171:Unit:=()
def PySem.W.Fast.tw16296466595895265629:Unit:=()
def PySem.W.Fast.tw8239662831055966876:Unit:=()
def PySem.W.Fast.tw1841589922631662909:Unit:=()
def PySem.W.Fast.tw17611778385120444950:Unit:=()
def PySem.W.Fast.tw12367423180739875384:Unit:=()
def PySem.W.Fast.tw8142219837216122487:Unit:=()
def PySem.W.Fast.tw4945585168000656844:Unit:=()
def PySem.W.Fast.tw2357884294732347482:Unit:=()
def PySem.W.Fast.tw15287887392283035061:Unit:=()
def PySem.W.Fast.tw6108630562092018182:Unit:=()
def PySem.W.Fast.tw12659979229887670765:Unit:=()
def PySem.W.Fast.tw18269128504047599213:Unit:=()
def PySem.W.Fast.tw16965462548599749228:Unit:=()
def PySem.W.Fast.tw16626550578982109698:Unit:=()
def PySem.W.Fast.tw9844078722113936268:Unit:=()
def PySem.W.Fast.tw2895660719093277139:Unit:=()
def PySem.W.Fast.tw8714790216608378882:Unit:=()
def PySem.W.Fast.tw18034179909548858609:Unit:=()
def PySem.W.Fast.tw10234277493892289786:Unit:=()
def PySem.W.Fast.tw11735095152317867514:Unit:=()
def PySem.W.Fast.tw17281171088412783336:Unit:=()
def PySem.W.Fast.tw5456286671265944835:Unit:=()
def PySem.W.Fast.tw11454252507965215599:Unit:=()
def PySem.W.Fast.tw6971166840584046851:Unit:=()
def PySem.W.Fast.tw2171697998460777757:Unit:=()
def PySem.W.Fast.tw18369319037695992959:Unit:=()
def PySem.W.Fast.tw8999092884380393582:Unit:=()
def PySem.W.Fast.tw16981581945283654625:Unit:=()
def PySem.W.Fast.tw5155955537878510013:Unit:=()
def PySem.W.Fast.tw11549048569769561097:Unit:=()
def PySem.W.Fast.tw11411317625086519643:Unit:=()
def PySem.W.Fast.tw15015101032716781934:Unit:=()
def PySem.W.Fast.tw6763425811770699049:Unit:=()
def PySem.W.Fast.tw5151786992064521152:Unit:=()
def PySem.W.Fast.tw8227477483820605783:Unit:=()
def PySem.W.Fast.tw1216449999779248351:Unit:=()
def PySem.W.Fast.tw14272484212038178134:Unit:=()
def PySem.W.Fast.tw2154595522927124652:Unit:=()
def PySem.W.Fast.tw10492366628252275374:Unit:=()
def PySem.W.Fast.tw15370313520372867025:Unit:=()
def PySem.W.Fast.tw8611526261126713444:Unit:=()
def PySem.W.Fast.tw15882478781090694033:Unit:=()
def PySem.W.Fast.tw8631261316919842572:Unit:=()
def PySem.W.Fast.tw16677459895024940783:Unit:=()
def PySem.W.Fast.tw6366279812889206160:Unit:=()
def PySem.W.Fast.tw434813377191174796:Unit:=()
def PySem.W.Fast.tw7905228850110342190:Unit:=()
def PySem.W.Fast.tw283983727376002740:Unit:=()
def PySem.W.Fast.tw11161070438499604639:Unit:=()
def PySem.W.Fast.tw16013173521327763861:Unit:=()
def PySem.W.Fast.tw10266582285559438017:Unit:=()
def PySem.W.Fast.tw14439859105326262392:Unit:=()
def PySem.W.Fast.tw15457502604713485600:Unit:=()
def PySem.W.Fast.tw4180829240624421320:Unit:=()
def PySem.W.Fast.tw13649635459800559052:Unit:=()
def PySem.W.Fast.tw14700788561174527353:Unit:=()
def PySem.W.Fast.tw15018636728413402892:Unit:=()
def PySem.W.Fast.tw6595015893943708760:Unit:=()
def PySem.W.Fast.tw3039055362253990946:Unit:=()
namespace My
open PySem L2
def rY (K:PySem.W.Frag):Sp:=fun vs H Q _=>∃ (l:Addr) (ns:List Int),vs=[.ref l]∧SqL K H l (ns.map V.int)∧ns.length≤63∧∀ H',Q (.bl true) H'
theorem all_mk {l:PySem.W.OpenLaw} {w:World} {K:PySem.W.Frag} {mg:Str→Option Value} {fa:Addr} (hfa:mg "law"=some (.ref fa)) (T:Txt K mg) :
  ∃ fd:FuncData,(∀ (s:Shared) (v:Value),BindsTo s fd ⟨[v],[]⟩ [("script",v)])∧∀ base:Heap,K.In base→base.Ns mainGlobals mg→eK l.prog w K mg base CX0 15 fa fd ["script"] (rY K):=by
 obtain ⟨f,fd,m,kp,b,F⟩:=zO (P:=l.prog) (w:=w) T
 have e2:f=fa:=(Value.ref.inj (Option.some.inj (hfa.symm.trans m))).symm
 subst e2
 refine ⟨fd,fun s v=>.of_eq (b [v] rfl),fun base _ _=>(F base).imp fun vs H Q E h=>?_⟩
 obtain ⟨l,ns,rfl,hS,hl,hQ⟩:=h
 refine ⟨fun _=>l,[],[.sc ns],⟨fun n o h=>(by cases h),fun n m o o' h=>(by cases h)⟩,.cons ⟨l,rfl,SqL.mono (fun b o h=>bR h (by rintro ⟨n,o',e,_⟩;cases e)) hS⟩ .nil,?_⟩
 rw [wI ns]
 intro b μ' H' st r
 cases r
 exact hQ H'
theorem walk {l:PySem.W.OpenLaw} {q:Program} {loose:List Str} {XP:(Str→Option Value)→Heap→Prop} {YP:World→Heap→Prop} {d:DefRec} {K:Params→PySem.W.Frag} (hn:l.most=some 63) (hdf:d.params.defaults=[])
  (hY:∀ (w:World) (h:Heap),YP w h→(K w.params).In h)
  (F:∀ (w:World) (mg:Str→Option Value) (fa:Addr) (h:Heap),(K w.params).In h→h.Ns mainGlobals mg→mg d.name=some (.ref fa) →
   ∃ fd:FuncData,(∀ (s:Shared) (u:Value),BindsTo s fd ⟨[u],[]⟩ [("script",u)])∧∀ base:Heap,(K w.params).In base→base.Ns mainGlobals mg→eK l.prog w (K w.params) mg base CX0 15 fa fd ["script"] (rY (K w.params))) :
  PySem.W.WalkO q loose XP YP l.row.toRowW d [] (fun f vs=>PySem.call f vs):=
 L2.yv (n:=63) (k:=15) (x:="script") (CX:=fun _=>CX0) (sp:=fun w=>rY (K w.params)) hn (by decide) hdf ⟨rfl,by decide,by decide⟩ hY F (fun _ _ a ns hl _ hS=>⟨a,ns,rfl,hS,hl,fun _=>rfl⟩) fun _ _ _ _ _ z=>z
end My
open PySem PySem.W PyProof.Rows
set_option maxRecDepth 100000 in
set_option maxHeartbeats 0 in
theorem PySem.Challenge.cw_wishstrike_k16_papers_of_many_judged_holds : PySem.Challenge.rw_wishstrike_k16_papers_of_many_judged.Holds := by
  w_on;o_law;k_head;(case hw=>w_witness2)
  k_fill
  refine My.walk (l:=PySem.Challenge.rw_wishstrike_k16_papers_of_many_judged) rfl rfl (fun w h Y=>PySem.W.kIn_of Y) ?F
  case F=>
    intro w mg fa h KX G hmg
    refine' My.all_mk hmg ?T
    (case T=>constructor<;>first | (refine' PySem.W.mg_none_of KX G ?z;(case z=>k_is)) | (refine' L2.CT KX G ?a ?l ?c ?k;(case a=>k_is);(case l=>k_is);(case c=>k_is);(case k=>k_is)))
#print axioms PySem.Challenge.cw_wishstrike_k16_papers_of_many_judged_holds
