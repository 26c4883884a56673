import PyProof.Rows.All
import Wide.All
import OpenK.AllK
import Wide.FinOn
import Lean
import PyProof.EqAt
import PyProof.EqKinds
import PyProof.TupleCall
import PySem.Challenge.RW_wishstrike_k31_which_trees_of_orders
set_option Elab.async false
set_option linter.all false
set_option maxRecDepth 100000
namespace L2
open PySem PySem.Spec PyProof.Rows
abbrev Key:=Sum Int Str
def kG:Key→Value→Bool
 | .inl k,v=>Value.isInt k v
 | .inr x,v=>Value.isStrOf x v
def FO (w:World):Key→Int
 | .inl k=>hashInt k
 | .inr x=>hashStr w x
theorem cj:∀ {k:Key} {v:Value},kG k v=true→(∃ i t,k=Sum.inl i∧v=Value.int i t)∨(∃ x t,k=Sum.inr x∧v=Value.str x t)
 | .inl i,v,h=>by
  obtain ⟨t,e⟩:=Value.isInt_shape (k:=i) (v:=v) h
  exact .inl ⟨i,t,rfl,e⟩
 | .inr x,v,h=>by
  obtain ⟨t,e⟩:=Value.isStrOf_shape (x:=x) (v:=v) h
  exact .inr ⟨x,t,rfl,e⟩
theorem ur (i:Int) (t:Tok):kG (.inl i) (.int i t)=true:=by simp [kG,Value.isInt]
theorem vk (x:Str) (t:Tok):kG (.inr x) (.str x t)=true:=by simp [kG,Value.isStrOf]
theorem BK (a b:Int):decide ((Sum.inl a:Key)=Sum.inl b)=(a == b):=by
 by_cases e:a=b
 ·subst e;simp
 ·have h:¬(Sum.inl a:Key)=Sum.inl b:=fun q=>e (Sum.inl.inj q)
  rw [decide_eq_false h]
  exact (beq_eq_false_iff_ne.mpr e).symm
theorem A8 (a b:Str):decide ((Sum.inr a:Key)=Sum.inr b)=decide (a=b):=by
 by_cases e:a=b
 ·subst e;simp
 ·have h:¬(Sum.inr a:Key)=Sum.inr b:=fun q=>e (Sum.inr.inj q)
  rw [decide_eq_false h,decide_eq_false e]
theorem Bw (a:Int) (b:Str):decide ((Sum.inl a:Key)=Sum.inr b)=false:=decide_eq_false (fun q=>nomatch q)
theorem BU (a:Str) (b:Int):decide ((Sum.inr a:Key)=Sum.inl b)=false:=decide_eq_false (fun q=>nomatch q)
def bz (prog:Program) (w:World):PySem.KeyKind prog w Key where
 is:=kG
 hash:=FO w
 inj:=fun v a b ha hb=>by
  rcases cj ha with ⟨i,t,rfl,rfl⟩ | ⟨x,t,rfl,rfl⟩
  ·rcases cj hb with ⟨j,u,rfl,e⟩ | ⟨y,u,rfl,e⟩
   ·injection e with e1 _;rw [e1]
   ·exact nomatch e
  ·rcases cj hb with ⟨j,u,rfl,e⟩ | ⟨y,u,rfl,e⟩
   ·exact nomatch e
   ·injection e with e1 _;rw [e1]
 byValue:=fun k v h=>by
  rcases cj h with ⟨i,t,rfl,rfl⟩ | ⟨x,t,rfl,rfl⟩<;>rfl
 pyHash:=fun hv h=>by
  rcases cj hv with ⟨i,t,rfl,rfl⟩ | ⟨x,t,rfl,rfl⟩
  ·exact wpAny_pyHash_int h
  ·exact wpAny_pyHash_str h
 eqBool:=fun hu hv h=>by
  rcases cj hu with ⟨i,t,rfl,rfl⟩ | ⟨x,t,rfl,rfl⟩
  ·rcases cj hv with ⟨j,u,rfl,rfl⟩ | ⟨y,u,rfl,rfl⟩
   ·rw [BK] at h;exact wpAny_eqBool_int h
   ·rw [Bw] at h;exact SeqAt.EqAt.int_str i t y u _ _ _ _ h
  ·rcases cj hv with ⟨j,u,rfl,rfl⟩ | ⟨y,u,rfl,rfl⟩
   ·rw [BU] at h;exact SeqAt.EqAt.str_int x t j u _ _ _ _ h
   ·rw [A8] at h;exact wpAny_eqBool_str h
 «strs»:=fun k x t v h=>by
  rcases cj h with ⟨i,u,rfl,e⟩ | ⟨y,u,rfl,e⟩
  ·exact nomatch e
  ·injection e with e1 _
   subst e1
   cases v<;>rfl
theorem rl (prog:Program) (w:World) (i:Int) (t:Tok):(bz prog w).is (.inl i) (.int i t)=true:=ur i t
theorem qS (prog:Program) (w:World) (x:Str) (t:Tok):(bz prog w).is (.inr x) (.str x t)=true:=vk x t
inductive V where
 | non | bl (b:Bool) | int (i:Int) | str (x:Str) | byt (b:Array UInt8) | flt (b:UInt64) | ref (a:Addr) | ty (n:String)
 deriving DecidableEq
def RelV:V→Value→Prop
 | .non,u=>u=Value.none
 | .bl b,u=>u=Value.bool b
 | .int i,u=>∃ t,u=Value.int i t
 | .str x,u=>∃ t,u=Value.str x t
 | .byt b,u=>∃ t,u=Value.bytes b t
 | .flt b,u=>∃ t,u=Value.float b t
 | .ref a,u=>u=Value.ref a
 | .ty n,u=>u=Value.type n
abbrev Vals:List V→List Value→Prop:=Paired RelV
theorem Vals.length {xs:List V} {us:List Value} (r:Vals xs us):xs.length=us.length:=Paired.length r
theorem Vals.get:∀ {xs:List V} {us:List Value} {i:Nat} {x:V},Vals xs us→xs[i]?=some x→∃ u,us[i]?=some u∧RelV x u
 | _,_,_,_,.nil,e=>by simp at e
 | _,_,0,_,.cons r _,e=>by simp at e;subst e;exact ⟨_,rfl,r⟩
 | _,_,i+1,x,.cons _ t,e=>by
  obtain ⟨u,h1,h2⟩:=Vals.get (i:=i) (x:=x) t (by simpa using e)
  exact ⟨u,by simpa using h1,h2⟩
theorem Vals.set {x:V} {u:Value} (r:RelV x u):∀ {xs:List V} {us:List Value} (i:Nat),Vals xs us→Vals (xs.set i x) (us.set i u)
 | _,_,_,.nil=>.nil
 | _,_,0,.cons _ t=>.cons r t
 | _,_,i+1,.cons q t=>.cons q (Vals.set r i t)
theorem Vals.append:∀ {xs ys:List V} {us ws:List Value},Vals xs us→Vals ys ws→Vals (xs++ys) (us++ws)
 | _,_,_,_,.nil,s=>s
 | _,_,_,_,.cons r t,s=>.cons r (Vals.append t s)
theorem Vals.take:∀ {xs:List V} {us:List Value} (n:Nat),Vals xs us→Vals (xs.take n) (us.take n)
 | _,_,0,_=>.nil
 | _,_,_+1,.nil=>.nil
 | _,_,n+1,.cons r t=>.cons r (Vals.take n t)
theorem Vals.drop:∀ {xs:List V} {us:List Value} (n:Nat),Vals xs us→Vals (xs.drop n) (us.drop n)
 | _,_,0,r=>r
 | _,_,_+1,.nil=>.nil
 | _,_,n+1,.cons _ t=>Vals.drop n t
def fC:Option V→Option Value→Prop
 | some v,some u=>RelV v u
 | none,none=>True
 | _,_=>False
def KV {κ:Type}:List (κ×V)→List (κ×Value)→Prop:=Paired fun (p:κ×V) (q:κ×Value)=>p.1=q.1∧RelV p.2 q.2
def kV:Key→V
 | .inl i=>.int i
 | .inr x=>.str x
inductive HO where
 | lst (xs:List V)
 | tup (xs:List V)
 | dK (kvs:List (Key×V)) | dT (kvs:List (List Key×V))
 | set (S:Int→Bool) (n:Nat)
 | ins (C dx:Addr) (fs:List (Str×V))
 | own (x:Addr)
 | xd (fs:List (Str×V))
 | met (f x:Addr)
 | rng (lo hi:Int)
 | frz (o:Obj) (u:HO)
 | tbl (ps:Array Value)
 | ext (φ:Heap→Prop)
abbrev Hp:=Addr→Option HO
def upd (H:Hp) (a:Addr) (o:HO):Hp:=fun b=>if b=a then some o else H b
theorem bJ {H:Hp} {a:Addr} {o:HO}:upd H a o a=some o:=by unfold upd;rw [if_pos rfl]
theorem aS {H:Hp} {a b:Addr} {o:HO} (h:b≠a):upd H a o b=H b:=by unfold upd;rw [if_neg h]
theorem Et {H:Hp} {a b:Addr} {o u:HO} (h:H a=some o) (h':H b=some u) (d:o≠u):a≠b:=by
 intro e;subst e;rw [h] at h';exact d (Option.some.inj h')
theorem bo {H:Hp} {a b:Addr} {o:HO} (h:H a=some o) (h':H b=none):a≠b:=by
 intro e;subst e;rw [h] at h';cases h'
section
variable (P:Program) (w:World)
def bH (H:Hp) (h:Heap) (a:Addr):HO→Prop
 | .lst xs=>xs.length≤sizeLine∧∃ (its:List Value) (n:Nat),Vals xs its∧h.get? a=some { cls:=.type "list",data:=.seq its.toArray n }
 | .tup xs=>xs.length≤sizeLine∧∃ its:List Value,Vals xs its∧IsTup h a its.toArray
 | .dK kvs=>kvs.length≤sizeLine∧(a == sysModules)=false∧∃ vs,KV kvs vs∧h.DictOf (bz P w) a vs
 | .dT kvs=>kvs.length≤sizeLine∧(a == sysModules)=false∧∃ xs:List (List Key×Addr×Value),
   Paired (fun (p:List Key×V) (q:List Key×Addr×Value)=>p.1=q.1∧H q.2.1=some (.tup (p.1.map kV))∧RelV p.2 q.2.2) kvs xs ∧
   ∃ o es ep,h.get? a=some o∧o.ExactDict∧o.data=.dict es ep∧es.toList=xs.map (entryOfKey (tupleKind (bz P w)))∧(xs.map (·.1)).Nodup
 | .set S n=>h.SetOf (intKind P w) a S n
 | .ins C dx fs=>H dx=some (.own a)∧fs.length≤1000∧dx≠a∧h.get? a=some (PySem.W.instObj C dx) ∧
   ∃ mA,h.Ns1 dx mA∧(∀ f,fC (fs.lookup f) (mA f))∧PySem.Within mA (fs.map (·.1))
 | .own _=>∃ o,h.get? a=some o
 | .xd fs=>∃ mA,h.Ns1 a mA∧∀ f,fC (fs.lookup f) (mA f)
 | .rng lo hi=>∃ t u v,h.get? a=some { cls:=.type "range",data:=.fields #[.int lo t,.int hi u,.int 1 v] }
 | .frz o u=>h.get? a=some o∧bH H h a u
 | .tbl ps=>h.get? a=some { cls:=.none,data:=.fields ps }
 | .met f x=>h.get? a=some (PySem.W.methodObj (.ref f) (.ref x))
 | .ext φ=>φ h∧(∃ o,h.get? a=some o)∧∀ h1 h2:Heap,φ h1→(∀ o,h1.get? a=some o→h2.get? a=some o)→φ h2
def HOk (H:Hp) (h:Heap):Prop:=∀ a o,H a=some o→bH P w H h a o
end
section
variable {P:Program} {w:World} {H H':Hp} {h h':Heap} {a:Addr} {o:HO}
theorem bH.lt (x:bH P w H h a o):a < h.objs.size:=by
 cases o with
 | lst xs=>obtain ⟨_,_,_,_,e⟩:=x;exact Heap.lt_size e
 | tup xs=>obtain ⟨_,_,_,p⟩:=x;exact p.lt
 | dK kvs=>obtain ⟨_,_,_,_,o,_,_,e,_⟩:=x;exact Heap.lt_size e
 | dT kvs=>obtain ⟨_,_,_,_,o,_,_,e,_⟩:=x;exact Heap.lt_size e
 | set S n=>obtain ⟨o,_,_,_,e,_⟩:=x;exact Heap.lt_size e
 | ins C dx fs=>obtain ⟨_,_,_,e,_⟩:=x;exact Heap.lt_size e
 | own y=>obtain ⟨_,e⟩:=x;exact Heap.lt_size e
 | xd fs=>obtain ⟨_,⟨_,_,_,e,_⟩,_⟩:=x;exact Heap.lt_size e
 | rng lo hi=>obtain ⟨_,_,_,e⟩:=x;exact Heap.lt_size e
 | frz ob u=>obtain ⟨e,_⟩:=x;exact Heap.lt_size e
 | tbl ps=>exact Heap.lt_size (show h.get? a=some _ from x)
 | met f y=>exact Heap.lt_size (show h.get? a=some _ from x)
 | ext φ=>obtain ⟨_,⟨_,e⟩,_⟩:=x;exact Heap.lt_size e
theorem Paired.wI {α β:Type} {F G:α→β→Prop}:∀ {l₁:List α} {l₂:List β},Paired F l₁ l₂→(∀ a b,F a b→G a b)→Paired G l₁ l₂
 | _,_,.nil,_=>.nil
 | _,_,.cons r t,f=>.cons (f _ _ r) (Paired.wI t f)
theorem bH.jZ (x:bH P w H h a o) (k:∀ b u,(b=a∨H b=some (.own a))→h.get? b=some u→h'.get? b=some u)
  (ho:∀ b,H b=some (.own a)→H' b=some (.own a)) (ht:∀ b xs,H b=some (.tup xs)→H' b=some (.tup xs)):bH P w H' h' a o:=by
 induction o with
 | lst xs=>obtain ⟨z,its,n,r,e⟩:=x;exact ⟨z,its,n,r,k _ _ (.inl rfl) e⟩
 | tup xs=>obtain ⟨z,its,r,ob,e,c⟩:=x;exact ⟨z,its,r,ob,k _ _ (.inl rfl) e,c⟩
 | dK kvs=>obtain ⟨z,y,vs,r,ob,es,ep,e,c⟩:=x;exact ⟨z,y,vs,r,ob,es,ep,k _ _ (.inl rfl) e,c⟩
 | dT kvs=>
  obtain ⟨z,y,xs,r,ob,es,ep,e,c⟩:=x
  exact ⟨z,y,xs,Paired.wI r fun p q z=>⟨z.1,ht _ _ z.2.1,z.2.2⟩,ob,es,ep,k _ _ (.inl rfl) e,c⟩
 | set S n=>obtain ⟨ob,es,ep,t,e,c⟩:=x;exact ⟨ob,es,ep,t,k _ _ (.inl rfl) e,c⟩
 | ins C dx fs=>
  obtain ⟨d,z,ne,e,mA,⟨od,es,ep,e2,c⟩,r⟩:=x
  exact ⟨ho _ d,z,ne,k _ _ (.inl rfl) e,mA,⟨od,es,ep,k _ _ (.inr d) e2,c⟩,r⟩
 | own y=>obtain ⟨ob,e⟩:=x;exact ⟨ob,k _ _ (.inl rfl) e⟩
 | xd fs=>obtain ⟨mA,⟨od,es,ep,e,c⟩,r⟩:=x;exact ⟨mA,⟨od,es,ep,k _ _ (.inl rfl) e,c⟩,r⟩
 | rng lo hi=>obtain ⟨t,u,v,e⟩:=x;exact ⟨t,u,v,k _ _ (.inl rfl) e⟩
 | frz ob u ih=>obtain ⟨e,q⟩:=x;exact ⟨k _ _ (.inl rfl) e,ih q⟩
 | tbl ps=>
  have e:h.get? a=some { cls:=.none,data:=.fields ps }:=x
  show h'.get? a=some { cls:=.none,data:=.fields ps }
  exact k a _ (.inl rfl) e
 | met f y=>
  have e:h.get? a=some (PySem.W.methodObj (.ref f) (.ref y)):=x
  show h'.get? a=some (PySem.W.methodObj (.ref f) (.ref y))
  exact k a _ (.inl rfl) e
 | ext φ=>obtain ⟨p,⟨o,e⟩,st⟩:=x;exact ⟨st _ _ p fun o q=>k _ _ (.inl rfl) q,⟨o,k _ _ (.inl rfl) e⟩,st⟩
theorem HOk.lt (x:HOk P w H h) (e:H a=some o):a < h.objs.size:=(x a o e).lt
theorem HOk.fresh (x:HOk P w H h) (e:h.objs.size≤a):H a=none:=by
 cases q:H a with
 | none=>rfl
 | some u=>exact absurd (Nat.lt_of_lt_of_le (x.lt q) e) (Nat.lt_irrefl _)
theorem HOk.kept (x:HOk P w H h) (k:∀ b u,h.get? b=some u→h'.get? b=some u):HOk P w H h':=fun a o e=>
 (x a o e).jZ (fun b u _ q=>k b u q) (fun _ q=>q) fun _ _ q=>q
theorem HOk.laid (x:HOk P w H h) (k:∀ b u,h.get? b=some u→h'.get? b=some u) (hp:h.objs.size≤a) (new:bH P w (upd H a o) h' a o):HOk P w (upd H a o) h':=fun b u e=>by
 have hn:=x.fresh hp
 by_cases hb:b=a
 ·subst hb;rw [bJ] at e;cases e;exact new
 ·rw [aS hb] at e
  exact (x b u e).jZ (fun c v _ q=>k c v q) (fun c q=>by rw [aS (bo q hn)];exact q) fun c xs q=>by rw [aS (bo q hn)];exact q
end
def Rd (H:Hp) (a:Addr) (u:HO):Prop:=H a=some u∨∃ o,H a=some (.frz o u)
theorem Rd.ok {P:Program} {w:World} {H:Hp} {h:Heap} {a:Addr} {u:HO} (r:Rd H a u) (x:HOk P w H h):bH P w H h a u:=by
 rcases r with r | ⟨o,r⟩
 ·exact x a u r
 ·obtain ⟨_,q⟩:=x a _ r
  exact q
def Mut:Option HO→Prop
 | some (.lst _)=>True
 | some (.dK _)=>True
 | some (.dT _)=>True
 | some (.set _ _)=>True
 | some (.ins _ _ _)=>True
 | some (.ext _)=>True
 | _=>False
section
variable {P:Program} {w:World} {H:Hp} {h h':Heap} {x e:Addr} {o':HO}
theorem HOk.write (ok:HOk P w H h) (mu:Mut (H x)) (he:e=x∨H e=some (.own x)) (k:∀ b u,b≠e→h.get? b=some u→h'.get? b=some u) (heo:∃ u,h'.get? e=some u)
  (new:bH P w (upd H x o') h' x o'):HOk P w (upd H x o') h':=fun b u q=>by
 have nown:∀ c y,H c=some (.own y)→c≠x:=fun c y r z=>by subst z;rw [r] at mu;exact mu
 have ntup:∀ c xs,H c=some (.tup xs)→c≠x:=fun c xs r z=>by subst z;rw [r] at mu;exact mu
 by_cases hb:b=x
 ·subst hb;rw [bJ] at q;cases q;exact new
 ·rw [aS hb] at q
  by_cases hbe:b=e
  ·have q':H b=some (.own x):=by
    rcases he with z | z
    ·exact absurd (hbe.trans z) hb
    ·rw [hbe];exact z
   rw [q] at q';cases q'
   obtain ⟨v,hv⟩:=heo
   exact ⟨v,by rw [hbe];exact hv⟩
  ·refine (ok b u q).jZ (fun c v hc r=>k c v ?_ r) (fun c r=>by rw [aS (nown c b r)];exact r) fun c xs r=>by rw [aS (ntup c xs r)];exact r
   rcases hc with rfl | hc
   ·exact hbe
   ·rintro rfl
    rcases he with z | z
    ·exact nown c b hc z
    ·rw [hc] at z;cases z;exact hb rfl
end
structure Un (fs ex:List Addr) (H H':Hp) (h h':Heap):Prop where
 keep:∀ b o,h.get? b=some o→H b=none→b∉fs→b∉ex→h'.get? b=some o
 slot:∀ b o,h.get? b=some o→H b=none→b∈fs→b∉ex→∃ sl,h'.get? b=some { o with slots:=sl }
 free:∀ b o,h.get? b=some o→H b=none→b∉ex→H' b=none
 there:∀ b o,h.get? b=some o→b∉ex→∃ o',h'.get? b=some o'
 tups:∀ b xs,H b=some (.tup xs)→H' b=some (.tup xs)
 frzs:∀ b o u,H b=some (.frz o u)→H' b=some (.frz o u)
 tbls:∀ b ps,H b=some (.tbl ps)→∃ more,H' b=some (.tbl (ps++more))
section
variable {fs fs' ex ex':List Addr} {H H1 H2:Hp} {h h1 h2 h':Heap} {a x e:Addr} {o:HO}
theorem Un.any (u:Un fs ex H H1 h h1) {b:Addr} {ob:Obj} (q:h.get? b=some ob) (n:H b=none) (hx:b∉ex):∃ sl,h1.get? b=some { ob with slots:=sl }:=by
 by_cases hb:b∈fs
 ·exact u.slot b ob q n hb hx
 ·exact ⟨ob.slots,u.keep b ob q n hb hx⟩
theorem Un.kept (k:∀ b u,h.get? b=some u→h'.get? b=some u):Un fs ex H H h h':=
 ⟨fun b ob q _ _ _=>k b ob q,fun b ob q _ _ _=>⟨ob.slots,k b ob q⟩,fun _ _ _ n _=>n,fun b ob q _=>⟨ob,k b ob q⟩,fun _ _ q=>q,fun _ _ _ q=>q,fun _ ps q=>⟨#[],by rw [q];simp⟩⟩
theorem Un.refl:Un fs ex H H h h:=Un.kept fun _ _ q=>q
theorem Un.laid (k:∀ b u,h.get? b=some u→h'.get? b=some u) (hp:h.objs.size≤a) (hn:H a=none):Un fs ex H (upd H a o) h h' where
 keep:=fun b u q _ _ _=>k b u q
 slot:=fun b u q _ _ _=>⟨u.slots,k b u q⟩
 free:=fun b u q n _=>by rw [aS (Nat.ne_of_lt (Nat.lt_of_lt_of_le (Heap.lt_size q) hp))];exact n
 there:=fun b u q _=>⟨u,k b u q⟩
 tups:=fun b xs q=>by rw [aS (bo q hn)];exact q
 frzs:=fun b u xs q=>by rw [aS (bo q hn)];exact q
 tbls:=fun b ps q=>⟨#[],by rw [aS (bo q hn),q];simp⟩
theorem Un.write (mu:Mut (H x)) (he:e=x∨H e=some (.own x)) (k:∀ b u,b≠e→h.get? b=some u→h'.get? b=some u) (heo:∃ u,h'.get? e=some u):Un fs ex H (upd H x o) h h':=by
 have hx:∀ b,H b=none→b≠x:=fun b n z=>by subst z;rw [n] at mu;exact mu
 have hb:∀ b,H b=none→b≠e:=fun b n z=>by
  subst z
  rcases he with r | r
  ·exact hx b n r
  ·rw [n] at r;cases r
 have hm:∀ b u,H b=some u→¬Mut (some u)→b≠x:=fun b u q nm z=>by subst z;rw [q] at mu;exact nm mu
 refine ⟨fun b u q n _ _=>k b u (hb b n) q,fun b u q n _ _=>⟨u.slots,k b u (hb b n) q⟩,fun b u q n _=>by rw [aS (hx b n)];exact n,fun b u q _=>?_,
  fun b xs q=>by rw [aS (hm b _ q fun z=>z)];exact q,fun b u xs q=>by rw [aS (hm b _ q fun z=>z)];exact q,fun b ps q=>⟨#[],by rw [aS (hm b _ q fun z=>z),q];simp⟩⟩
 by_cases hbe:b=e
 ·subst hbe;exact heo
 ·exact ⟨u,k b u hbe q⟩
end
def trk (h:Heap) (H:Hp):List Addr:=(List.range h.objs.size).filter fun a=>(H a).isSome
def i8 (h:Heap) (H:Hp):Heap:=PySem.W.hideAll h (trk h H)
theorem vE (h:Heap) (H:Hp):(i8 h H).objs.size=h.objs.size:=PySem.W.hideAll_size _ _
theorem wO {h:Heap} {H:Hp} {b:Addr} {o:Obj} (e:h.get? b=some o) (n:H b=none):(i8 h H).get? b=some o:=
 PySem.W.hideAll_get _ e fun hm=>by
  have q:(H b).isSome=true:=(List.mem_filter.mp hm).2
  rw [n] at q;simp at q
theorem zH {h:Heap} {H:Hp} {b:Addr} {o:Obj} (e:(i8 h H).get? b=some o):h.get? b=some o∧H b=none:=by
 have e':h.get? b=some o:=PySem.W.of_hideAll (trk h H) e
 refine ⟨e',?_⟩
 cases q:H b with
 | none=>rfl
 | some x=>
  have hm:b∈trk h H:=List.mem_filter.mpr ⟨List.mem_range.mpr (Heap.lt_size e'),by simp [q]⟩
  have z:(i8 h H).get? b=none:=PySem.W.hideAll_none (trk h H) hm
  rw [z] at e;cases e
def Ah (g h:Heap) (L:Addr):List (Addr×Obj):=(List.range h.objs.size).filterMap fun a=>if a=L∨(g.get? a).isSome=true then none else (h.get? a).map fun o=>(a,o)
def rest (g h:Heap) (L d:Addr):List (Addr×Obj):=(Ah g h L).filter fun p=>decide (p.1≠d)
structure Mod (K:PySem.W.Frag) (mg:Str→Option Value) (base:Heap):Prop where
 kin:K.In base
 glob:base.Ns mainGlobals mg
 blt:∃ mb,base.Ns builtinsNs mb∧∀ x:Str,x≠"__name__"→mb x=bootBuiltins x
 nolimit:base.NoLimit
structure Cx where
 prog:Program
 w:World
 K:PySem.W.Frag
 mg:Str→Option Value
 base:Heap
 A:Around
 N:List Str
 s₀:Shared
 H₀:Hp
 env:Env
 outer:List Env
 stack:List Env
 ex:List Addr
 fn:Str→Bool
 calm:Bool
 pn:List (Addr×Obj)
 xe:Value→Shared→Prop
def frs (l:List Env):List Addr:=l.filterMap (·.frame)
abbrev Cx.fs (X:Cx):List Addr:=frs X.outer
def Vis (sc:Scope) (x:Str):Prop:=sc.names.lookup x=some .local∨sc.names.lookup x=some .cell∨sc.names.lookup x=some .free
def Loc (sc:Scope) (x:Str):Prop:=sc.names.lookup x=some .local∨sc.names.lookup x=some .cell
def Look (env:Env) (h:Heap) (m:Str→Option Value) (x:Str) (u:Value):Prop:=
 (env.kindOf x=some .local∧m x=some u)∨((env.kindOf x=some .cell∨env.kindOf x=some .free)∧∃ c,env.cells.lookup x=some c∧h.IsCell c (some u))
structure Cx.Ok (X:Cx):Prop where
 mod:Mod X.K X.mg X.base
 kind:X.env.scope.kind=.function
 glob:X.env.globals=mainGlobals
 blt:X.env.builtins=builtinsNs
 above:X.s₀.heap.objs.size≤X.env.locals
 inj:∀ x y c,X.env.cells.lookup x=some c→X.env.cells.lookup y=some c→x=y
 has:∀ x,(X.env.kindOf x=some .cell∨X.env.kindOf x=some .free)→∃ c,X.env.cells.lookup x=some c
 cab:∀ x c,X.fn x=true→X.env.cells.lookup x=some c→X.s₀.heap.objs.size≤c
 hd:X.calm=true→X.A.handled=none
 frames:X.A.frames=some X.stack
 stk:X.stack=X.outer∨(X.stack=X.env :: X.outer∧X.env.frame=some X.env.locals)
 exf:∀ b∈X.ex,b≠X.env.locals∧∀ x c,X.env.cells.lookup x=some c→c≠b
 bs:∀ b o,X.base.get? b=some o→X.s₀.heap.get? b=some o∧X.H₀ b=none
 bsz:X.base.objs.size≤X.s₀.heap.objs.size
 noex:∀ b o,X.base.get? b=some o→b∉X.ex
 exfs:∀ b∈X.ex,b∉X.fs
 h_:X.s₀.heap.FunFrames X.base X.outer
 frf:∀ b∈X.fs,X.H₀ b=none
structure Inv (X:Cx) (pins:List (Addr×Obj)) (σ:List (Option V)) (H:Hp) (s:Shared):Prop where
 ok:X.Ok
 os:s.os=X.s₀.os
 bare:AllBare s.gens
 base:Un X.fs X.ex X.H₀ H X.s₀.heap s.heap
 loc:∃ m,s.heap.Ns X.env.locals m∧∀ (i:Nat) (x:Str) (v:V),X.N[i]?=some x→σ[i]?=some (some v)→Vis X.env.scope x→∃ u,RelV v u∧Look X.env s.heap m x u
 cell:∀ x c,X.env.cells.lookup x=some c→∃ v,s.heap.IsCell c v
 free:H X.env.locals=none
 freeC:∀ x c,X.env.cells.lookup x=some c→H c=none
 pin:∀ p∈X.pn++pins,s.heap.get? p.1=some p.2∧H p.1=none∧p.1≠X.env.locals∧p.1∉X.fs∧∀ v,p.2.data≠.cell v
 hok:HOk X.prog X.w H s.heap
 len:σ.length=X.N.length
section
variable {X:Cx} {pins:List (Addr×Obj)} {σ:List (Option V)} {H H':Hp} {s:Shared} {h':Heap}
theorem Cx.Ok.FA (ok:X.Ok) {b:Addr} {o:Obj} (e:X.base.get? b=some o):b∉X.fs:=fun hb=>by
 have:=(ok.h_.mem hb).1
 rw [e] at this;cases this
theorem Inv.bs (I:Inv X pins σ H s):∀ b o,X.base.get? b=some o→s.heap.get? b=some o∧H b=none:=fun b o e=>
 ⟨I.base.keep b o (I.ok.bs b o e).1 (I.ok.bs b o e).2 (I.ok.FA e) (I.ok.noex b o e),I.base.free b o (I.ok.bs b o e).1 (I.ok.bs b o e).2 (I.ok.noex b o e)⟩
theorem Inv.bk (I:Inv X pins σ H s):∀ b o,X.base.get? b=some o→s.heap.get? b=some o:=fun b o e=>(I.bs b o e).1
theorem Inv.mod (I:Inv X pins σ H s):Mod X.K X.mg X.base:=I.ok.mod
theorem Inv.kIn (I:Inv X pins σ H s):X.K.In s.heap:=I.ok.mod.kin.keeps I.bk
theorem Inv.lt (I:Inv X pins σ H s):X.env.locals < s.heap.objs.size:=let ⟨_,hn,_⟩:=I.loc;hn.lt
theorem Inv.sz (I:Inv X pins σ H s):X.s₀.heap.objs.size≤s.heap.objs.size:=Nat.le_trans I.ok.above (Nat.le_of_lt I.lt)
theorem Inv.AQ (I:Inv X pins σ H s) {a:Addr} (h:s.heap.objs.size≤a):a∉X.fs:=fun hb=>by
 obtain ⟨_,o,ho,_⟩:=I.ok.h_.mem hb
 exact absurd (Nat.lt_of_lt_of_le (Heap.lt_size ho) (Nat.le_trans I.sz h)) (Nat.lt_irrefl _)
theorem Inv.cne (I:Inv X pins σ H s):∀ x c,X.env.cells.lookup x=some c→c≠X.env.locals:=fun x c e z=>by
 obtain ⟨v,o,ho,hd⟩:=I.cell x c e
 obtain ⟨m,⟨o',es,ep,ho',hd',_⟩,_⟩:=I.loc
 rw [z,ho'] at ho;cases ho;rw [hd'] at hd;cases hd
theorem Inv.h_ (I:Inv X pins σ H s):s.heap.FunFrames X.base X.outer:=by
 have all:∀ (l:List Env),(∀ b∈frs l,b∈X.fs)→X.s₀.heap.FunFrames X.base l→s.heap.FunFrames X.base l:=by
  intro l
  induction l with
  | nil=>intro _ _;trivial
  | cons env r ih=>
   intro hs hl
   obtain ⟨hk,⟨L,o,hf,hn,ho,hd⟩,hr⟩:=hl
   have hL:L∈X.fs:=hs L (by unfold frs;rw [List.filterMap_cons,hf];exact List.mem_cons_self)
   obtain ⟨sl,e⟩:=I.base.slot L o ho (I.ok.frf L hL) hL fun z=>I.ok.exfs L z hL
   exact ⟨hk,⟨L,_,hf,hn,e,hd⟩,ih (fun b hb=>hs b (by unfold frs;rw [List.filterMap_cons,hf];exact List.mem_cons_of_mem _ hb)) hr⟩
 exact all X.outer (fun _ hb=>hb) I.ok.h_
theorem Inv.stack (I:Inv X pins σ H s):s.heap.FunFrames X.base X.stack:=by
 rcases I.ok.stk with e | ⟨e,hf⟩
 ·rw [e];exact I.h_
 ·rw [e]
  obtain ⟨m,hn,_⟩:=I.loc
  refine .cons (by rw [I.ok.kind];decide) hf hn ?_ I.h_
  exact Heap.get?_none_of_le (Nat.le_trans I.ok.bsz I.ok.above)
theorem Inv.my (I:Inv X pins σ H s):∀ b∈frs X.stack,b∈X.env.locals :: X.fs:=fun b hb=>by
 rcases I.ok.stk with e | ⟨e,hf⟩
 ·rw [e] at hb;exact List.mem_cons_of_mem _ hb
 ·rw [e] at hb
  unfold frs at hb
  rw [List.filterMap_cons,hf] at hb
  exact hb
theorem Inv.sh (I:Inv X pins σ H s):∀ b∈frs X.stack,H b=none:=fun b hb=>by
 rcases List.mem_cons.mp (I.my b hb) with e | hb
 ·rw [e];exact I.free
 ·obtain ⟨_,o,ho,_⟩:=I.ok.h_.mem hb
  exact I.base.free b o ho (I.ok.frf b hb) fun z=>I.ok.exfs b z hb
theorem Inv.step {g':Array GenState} {t':Nat} {d':Drawn} {ch:List Addr} (I:Inv X pins σ H s)
  (hch:∀ b∈ch,(b∈X.ex∨X.s₀.heap.objs.size≤b)∧b≠X.env.locals∧(∀ x c,X.env.cells.lookup x=some c→c≠b)∧∀ p∈X.pn++pins,p.1≠b)
  (keep:∀ b o,b≠X.env.locals→b∉X.fs→b∉ch→s.heap.get? b=some o→H b=none→h'.get? b=some o)
  (slot:∀ b o,b≠X.env.locals→b∈X.fs→b∉ch→s.heap.get? b=some o→H b=none→∃ sl,h'.get? b=some { o with slots:=sl }) (free:∀ b o,b∉ch→s.heap.get? b=some o→H b=none→H' b=none)
  (there:∀ b o,b∉ch→s.heap.get? b=some o→∃ o',h'.get? b=some o')
  (tups:∀ b xs,H b=some (.tup xs)→H' b=some (.tup xs)) (frzs:∀ b o u,H b=some (.frz o u)→H' b=some (.frz o u)) (tbls:∀ b ps,H b=some (.tbl ps)→∃ more,H' b=some (.tbl (ps++more)))
  (ns:∀ m,s.heap.Ns X.env.locals m→h'.Ns X.env.locals m) (hok:HOk X.prog X.w H' h') (hg:AllBare g') :
  Inv X pins σ H' { s with heap:=h',gens:=g',drawn:=d',toks:=t' }:=by
 have neL:∀ b o,X.s₀.heap.get? b=some o→b≠X.env.locals:=fun b o e=>Nat.ne_of_lt (Nat.lt_of_lt_of_le (Heap.lt_size e) I.ok.above)
 have neC:∀ b o,X.s₀.heap.get? b=some o→b∉X.ex→b∉ch:=fun b o e hx hb=>by
  rcases (hch b hb).1 with z | z
  ·exact hx z
  ·exact absurd (Nat.lt_of_lt_of_le (Heap.lt_size e) z) (Nat.lt_irrefl _)
 have cellK:∀ x c,X.env.cells.lookup x=some c→∀ v,s.heap.IsCell c v→h'.IsCell c v:=fun x c e v ⟨o,ho,hd⟩=>by
  have nch:c∉ch:=fun z=>(hch c z).2.2.1 x c e rfl
  by_cases hc:c∈X.fs
  ·obtain ⟨sl,q⟩:=slot c o (I.cne x c e) hc nch ho (I.freeC x c e)
   exact ⟨_,q,hd⟩
  ·exact ⟨o,keep c o (I.cne x c e) hc nch ho (I.freeC x c e),hd⟩
 refine ⟨I.ok,I.os,hg,⟨fun b o e n hb hx=>?_,fun b o e n hb hx=>?_,fun b o e n hx=>?_,fun b o e hx=>?_,fun b xs e=>tups b xs (I.base.tups b xs e),fun b o xs e=>frzs b o xs (I.base.frzs b o xs e),fun b ps e=>?_⟩,?_,fun x c e=>?_,?_,fun x c e=>?_,fun p hp=>?_,hok,I.len⟩
 ·exact keep b o (neL b o e) hb (neC b o e hx) (I.base.keep b o e n hb hx) (I.base.free b o e n hx)
 ·obtain ⟨sl,e1⟩:=I.base.slot b o e n hb hx
  obtain ⟨sl',e2⟩:=slot b _ (neL b o e) hb (neC b o e hx) e1 (I.base.free b o e n hx)
  exact ⟨sl',e2⟩
 ·obtain ⟨o',e1⟩:=I.base.there b o e hx
  exact free b o' (neC b o e hx) e1 (I.base.free b o e n hx)
 ·obtain ⟨o',e1⟩:=I.base.there b o e hx
  exact there b o' (neC b o e hx) e1
 ·obtain ⟨m1,e1⟩:=I.base.tbls b ps e
  obtain ⟨m2,e2⟩:=tbls b _ e1
  exact ⟨m1++m2,by rw [e2,Array.append_assoc]⟩
 ·obtain ⟨m,hn,hl⟩:=I.loc
  refine ⟨m,ns m hn,fun i x v e1 e2 e3=>?_⟩
  obtain ⟨u,r,l⟩:=hl i x v e1 e2 e3
  refine ⟨u,r,?_⟩
  rcases l with l | ⟨k,c,e,z⟩
  ·exact .inl l
  ·exact .inr ⟨k,c,e,cellK x c e _ z⟩
 ·obtain ⟨v,z⟩:=I.cell x c e
  exact ⟨v,cellK x c e v z⟩
 ·obtain ⟨m,⟨o,_,_,ho,_⟩,_⟩:=I.loc
  exact free _ o (fun z=>(hch _ z).2.1 rfl) ho I.free
 ·obtain ⟨v,o,ho,hd⟩:=I.cell x c e
  exact free c o (fun z=>(hch c z).2.2.1 x c e rfl) ho (I.freeC x c e)
 ·obtain ⟨e,n,ne,nf,d⟩:=I.pin p hp
  have nch:p.1∉ch:=fun z=>(hch p.1 z).2.2.2 p hp rfl
  exact ⟨keep p.1 p.2 ne nf nch e n,free p.1 p.2 nch e n,ne,nf,d⟩
theorem Inv.un {t':Nat} (I:Inv X pins σ H s) (u:Un X.fs [] H H' s.heap h') (hok:HOk X.prog X.w H' h'):Inv X pins σ H' { s with heap:=h',toks:=t' }:=by
 obtain ⟨m,⟨o,es,ep,ho,r⟩,_⟩:=id I.loc
 obtain ⟨sl,hL⟩:=u.any ho I.free (by simp)
 exact I.step (g':=s.gens) (d':=s.drawn) (ch:=[]) (fun _ z=>nomatch z) (fun b o _ hb _ e n=>u.keep b o e n hb (by simp)) (fun b o _ hb _ e n=>u.slot b o e n hb (by simp)) (fun b o _ e n=>u.free b o e n (by simp)) (fun b o _ e=>u.there b o e (by simp)) u.tups u.frzs u.tbls (fun m' hm=>by
  obtain ⟨o',es',ep',ho',r'⟩:=hm
  rw [ho] at ho';cases ho'
  exact ⟨_,es',ep',hL,r'⟩) hok I.bare
theorem Inv.call {g':Array GenState} {t':Nat} {d':Drawn} {ch:List Addr} (I:Inv X pins σ H s) (u:Un (frs X.stack) ch H H' s.heap h') (hok:HOk X.prog X.w H' h') (hg:AllBare g')
  (hch:∀ b∈ch,(b∈X.ex∨X.s₀.heap.objs.size≤b)∧b≠X.env.locals∧(∀ x c,X.env.cells.lookup x=some c→c≠b)∧∀ p∈X.pn++pins,p.1≠b) :
  Inv X pins σ H' { s with heap:=h',gens:=g',drawn:=d',toks:=t' }:=by
 obtain ⟨m,⟨o,es,ep,ho,r⟩,_⟩:=id I.loc
 obtain ⟨sl,hL⟩:=u.any ho I.free fun z=>(hch _ z).2.1 rfl
 exact I.step (ch:=ch) hch (fun b o hL hb hc e n=>u.keep b o e n (fun z=>(List.mem_cons.mp (I.my b z)).elim hL hb) hc) (fun b o _ _ hc e n=>u.any e n hc) (fun b o hc e n=>u.free b o e n hc) (fun b o hc e=>u.there b o e hc) u.tups u.frzs u.tbls (fun m' hm=>by
  obtain ⟨o',es',ep',ho',r'⟩:=hm
  rw [ho] at ho';cases ho'
  exact ⟨_,es',ep',hL,r'⟩) hok hg
theorem Inv.turned {t':Nat} {it:Addr} (I:Inv X pins σ H s) (k:∀ b o,b≠it→s.heap.get? b=some o→h'.get? b=some o) (hn:H it=none) (hL:it≠X.env.locals)
  (h1:it∈X.ex∨X.s₀.heap.objs.size≤it) (h2:∀ x c,X.env.cells.lookup x=some c→c≠it) (h3:∀ p∈X.pn++pins,p.1≠it):Inv X pins σ H { s with heap:=h',toks:=t' }:=by
 have nit:∀ b u,H b=some u→b≠it:=fun b u e z=>by rw [z,hn] at e;cases e
 refine I.step (g':=s.gens) (d':=s.drawn) (ch:=[it]) (fun b hb=>?_) (fun b o _ _ hc e _=>k b o (fun z=>hc (by simp [z])) e) (fun b o _ _ hc e _=>⟨o.slots,k b o (fun z=>hc (by simp [z])) e⟩) (fun _ _ _ _ n=>n)
  (fun b o hc e=>⟨o,k b o (fun z=>hc (by simp [z])) e⟩) (fun _ _ e=>e) (fun _ _ _ e=>e) (fun b ps e=>⟨#[],by rw [e];simp⟩) (fun m hm=>?_) (fun b u e=>?_) I.bare
 ·have e:b=it:=by simpa using hb
  subst e
  exact ⟨h1,hL,h2,h3⟩
 ·obtain ⟨o,es,ep,ho,r⟩:=hm
  exact ⟨o,es,ep,k _ o (Ne.symm hL) ho,r⟩
 ·refine (I.hok b u e).jZ (fun c v hc q=>k c v ?_ q) (fun _ q=>q) fun _ _ q=>q
  rcases hc with z | z
  ·rw [z];exact nit b u e
  ·exact nit c _ z
theorem Inv.tok (I:Inv X pins σ H s) (t:Nat):Inv X pins σ H { s with toks:=t }:=I.un (h':=s.heap) (t':=t) Un.refl I.hok
theorem Inv.kept {t':Nat} (I:Inv X pins σ H s) (k:∀ b u,s.heap.get? b=some u→h'.get? b=some u):Inv X pins σ H { s with heap:=h',toks:=t' }:=I.un (Un.kept k) (I.hok.kept k)
theorem Inv.laid {a:Addr} {o:HO} {t':Nat} (I:Inv X pins σ H s) (k:∀ b u,s.heap.get? b=some u→h'.get? b=some u) (hp:s.heap.objs.size≤a) (new:bH X.prog X.w (upd H a o) h' a o) :
  Inv X pins σ (upd H a o) { s with heap:=h',toks:=t' }:=I.un (Un.laid k hp (I.hok.fresh hp)) (I.hok.laid k hp new)
theorem Inv.write {x e:Addr} {o:HO} {t':Nat} (I:Inv X pins σ H s) (mu:Mut (H x)) (he:e=x∨H e=some (.own x)) (k:∀ b u,b≠e→s.heap.get? b=some u→h'.get? b=some u) (heo:∃ u,h'.get? e=some u)
  (new:bH X.prog X.w (upd H x o) h' x o):Inv X pins σ (upd H x o) { s with heap:=h',toks:=t' }:=I.un (Un.write mu he k heo) (I.hok.write mu he k heo new)
theorem Inv.ng {pins':List (Addr×Obj)} (I:Inv X pins σ H s) (h:∀ p∈pins',s.heap.get? p.1=some p.2∧H p.1=none∧p.1≠X.env.locals∧p.1∉X.fs∧∀ v,p.2.data≠.cell v):Inv X pins' σ H s:=
 ⟨I.ok,I.os,I.bare,I.base,I.loc,I.cell,I.free,I.freeC,fun p hp=>(List.mem_append.mp hp).elim (fun z=>I.pin p (List.mem_append_left _ z)) (h p),I.hok,I.len⟩
theorem qA {N:List Str} (hN:N.Nodup) {i j:Nat} {x:Str} (a:N[i]?=some x) (b:N[j]?=some x):i=j:=by
 obtain ⟨h1,e1⟩:=List.getElem?_eq_some_iff.mp a
 obtain ⟨h2,e2⟩:=List.getElem?_eq_some_iff.mp b
 exact (List.getElem_inj hN).mp (e1.trans e2.symm)
theorem uW {M:Model} {A:Around} {E:Value→Shared→Prop} {i:Nat} {x:Str} {v:V} {u:Value} {Q:Unit→Shared→Prop} (I:Inv X pins σ H s) (hN:X.N.Nodup) (hi:X.N[i]?=some x) (hx:Loc X.env.scope x) (r:RelV v u)
  (h:∀ s',Inv X pins (σ.set i (some v)) H s'→(∃ a,Heap.SameBut a s.heap s'.heap∧(a=X.env.locals∨X.env.cells.lookup x=some a))→Q () s') (hf:X.fn x=true∨X.env.scope.names.lookup x=some .local:=by first | exact .inl rfl | exact .inr rfl | assumption):wpAny M A (storeName X.env x u) Q E s:=by
 obtain ⟨m,hn,hl⟩:=id I.loc
 have hcls:(X.env.scope.kind == .class || (X.env.scope.kind == .module && X.env.locals != X.env.globals))=false:=by rw [I.ok.kind];rfl
 have hiσ:i < σ.length:=by rw [I.len];exact (List.getElem?_eq_some_iff.mp hi).1
 have cne:=I.cne
 have tracked:∀ {a:Addr} {h':Heap},(∃ o,s.heap.get? a=some o∧H a=none)→Heap.SameBut a s.heap h'→HOk X.prog X.w H h':=fun {a h'} ha hs b ob e=>by
  obtain ⟨_,_,hfree⟩:=ha
  refine (I.hok b ob e).jZ (fun c w' hc q=>(hs.2 c ?_).trans q) (fun _ q=>q) fun _ _ q=>q
  rintro rfl
  rcases hc with rfl | hc
  ·rw [hfree] at e;cases e
  ·rw [hfree] at hc;cases hc
 rcases hx with hk | hk
 ·refine wpAny_storeName_local hk hn (fun h' hn' hs=>?_) hcls
  obtain ⟨oL,_,_,hoL,_⟩:=id hn
  refine h _ ⟨I.ok,I.os,I.bare,⟨fun b o e n hb hx=>?_,fun b o e n hb hx=>?_,I.base.free,fun b o e hx=>?_,I.base.tups,I.base.frzs,I.base.tbls⟩,⟨_,hn',fun j y v' e1 e2 e3=>?_⟩,fun y c e=>?_,I.free,I.freeC,fun p hp=>?_,tracked ⟨oL,hoL,I.free⟩ hs,by simpa using I.len⟩ ⟨_,hs,.inl rfl⟩
  ·exact (hs.2 b (Nat.ne_of_lt (Nat.lt_of_lt_of_le (Heap.lt_size e) I.ok.above))).trans (I.base.keep b o e n hb hx)
  ·obtain ⟨sl,e1⟩:=I.base.slot b o e n hb hx
   exact ⟨sl,(hs.2 b (Nat.ne_of_lt (Nat.lt_of_lt_of_le (Heap.lt_size e) I.ok.above))).trans e1⟩
  ·obtain ⟨o',e1⟩:=I.base.there b o e hx
   exact ⟨o',(hs.2 b (Nat.ne_of_lt (Nat.lt_of_lt_of_le (Heap.lt_size e) I.ok.above))).trans e1⟩
  ·by_cases hj:j=i
   ·subst hj
    rw [hi] at e1;cases e1
    rw [List.getElem?_set_self hiσ] at e2
    cases e2
    exact ⟨u,r,.inl ⟨hk,by simp⟩⟩
   ·rw [List.getElem?_set_ne (Ne.symm hj)] at e2
    obtain ⟨u',r',q⟩:=hl j y v' e1 e2 e3
    refine ⟨u',r',?_⟩
    rcases q with ⟨k,e⟩ | ⟨k,c,e,z⟩
    ·refine .inl ⟨k,?_⟩
     have:y≠x:=fun e=>hj (qA hN e1 (e ▸ hi))
     simp [this,e]
    ·exact .inr ⟨k,c,e,z.sameBut hs (cne y c e)⟩
  ·obtain ⟨w',z⟩:=I.cell y c e
   exact ⟨w',z.sameBut hs (cne y c e)⟩
  ·obtain ⟨e,n,ne,nf,d⟩:=I.pin p hp
   exact ⟨(hs.2 p.1 ne).trans e,n,ne,nf,d⟩
 ·have hfn:X.fn x=true:=by
   rcases hf with z | z
   ·exact z
   ·rw [z] at hk;cases hk
  obtain ⟨c,hc⟩:=I.ok.has x (.inl hk)
  obtain ⟨w',z⟩:=I.cell x c hc
  refine wpAny_storeName_cell I.ok.kind hk hc z (fun h' hc' hs=>?_)
  obtain ⟨oc,hoc,hocd⟩:=id z
  refine h { s with heap:=h' } ⟨I.ok,I.os,I.bare,⟨fun b o e n hb hx=>?_,fun b o e n hb hx=>?_,I.base.free,fun b o e hx=>?_,I.base.tups,I.base.frzs,I.base.tbls⟩,⟨m,hn.sameBut hs (Ne.symm (cne x c hc)),fun j y v' e1 e2 e3=>?_⟩,fun y c' e=>?_,I.free,I.freeC,fun p hp=>?_,tracked ⟨oc,hoc,I.freeC x c hc⟩ hs,by simpa using I.len⟩ ⟨c,hs,.inr hc⟩
  ·exact (hs.2 b (Nat.ne_of_lt (Nat.lt_of_lt_of_le (Heap.lt_size e) (I.ok.cab x c hfn hc)))).trans (I.base.keep b o e n hb hx)
  ·obtain ⟨sl,e1⟩:=I.base.slot b o e n hb hx
   exact ⟨sl,(hs.2 b (Nat.ne_of_lt (Nat.lt_of_lt_of_le (Heap.lt_size e) (I.ok.cab x c hfn hc)))).trans e1⟩
  ·obtain ⟨o',e1⟩:=I.base.there b o e hx
   exact ⟨o',(hs.2 b (Nat.ne_of_lt (Nat.lt_of_lt_of_le (Heap.lt_size e) (I.ok.cab x c hfn hc)))).trans e1⟩
  ·by_cases hj:j=i
   ·subst hj
    rw [hi] at e1;cases e1
    rw [List.getElem?_set_self hiσ] at e2
    cases e2
    exact ⟨u,r,.inr ⟨.inl hk,c,hc,hc'⟩⟩
   ·rw [List.getElem?_set_ne (Ne.symm hj)] at e2
    obtain ⟨u',r',q⟩:=hl j y v' e1 e2 e3
    refine ⟨u',r',?_⟩
    rcases q with q | ⟨k,c',e,z'⟩
    ·exact .inl q
    ·refine .inr ⟨k,c',e,z'.sameBut hs ?_⟩
     rintro rfl
     exact hj (qA hN e1 (I.ok.inj _ _ _ e hc ▸ hi))
  ·by_cases hcc:c'=c
   ·subst hcc;exact ⟨_,hc'⟩
   ·obtain ⟨w2,z2⟩:=I.cell y c' e
    exact ⟨w2,z2.sameBut hs hcc⟩
  ·obtain ⟨e,n,ne,nf,d⟩:=I.pin p hp
   refine ⟨(hs.2 p.1 ?_).trans e,n,ne,nf,d⟩
   intro q
   rw [q,hoc] at e
   have q':oc=p.2:=Option.some.inj e
   exact d w' (by rw [← q'];exact hocd)
theorem lO {M:Model} {A:Around} {E:Value→Shared→Prop} {i:Nat} {x:Str} {v:V} {u:Value} {Q:Unit→Shared→Prop} (I:Inv X pins σ H s) (hN:X.N.Nodup) (hi:X.N[i]?=some x) (hx:Loc X.env.scope x) (r:RelV v u)
  (h:∀ s',Inv X pins (σ.set i (some v)) H s'→Q () s') (hf:X.fn x=true∨X.env.scope.names.lookup x=some .local:=by first | exact .inl rfl | exact .inr rfl | assumption):wpAny M A (storeName X.env x u) Q E s:=
 uW I hN hi hx r (fun s' I' _=>h s' I') hf
theorem Inv.D3 {s':Shared} {ch:List Addr} (I:Inv X pins σ H s) (ho:s'.os=s.os) (u:Un (frs X.stack) ch H H' s.heap s'.heap) (hok:HOk X.prog X.w H' s'.heap) (hg:AllBare s'.gens)
  (hch:∀ b∈ch,(b∈X.ex∨X.s₀.heap.objs.size≤b)∧b≠X.env.locals∧(∀ x c,X.env.cells.lookup x=some c→c≠b)∧∀ p∈X.pn++pins,p.1≠b):Inv X pins σ H' s':=by
 obtain ⟨h',g',d',t',o'⟩:=s'
 have e:o'=s.os:=ho
 subst e
 exact I.call (g':=g') (t':=t') (d':=d') u hok hg hch
end
abbrev XK:=Value→Option Addr→Hp→Prop
abbrev St:=List (Option V)
abbrev VK:=V→Hp→Prop
abbrev TE:=St→Hp→VK→Prop
abbrev TT:=St→Hp→(Bool→Hp→Prop)→Prop
abbrev TA:=St→Hp→(List V→Hp→Prop)→Prop
structure Ends where
 nx:St→Hp→Prop
 rt:VK
 bk:St→Hp→Prop:=fun _ _=>False
 ct:St→Hp→Prop:=fun _ _=>False
abbrev TS:=Ends→St→Hp→Prop
def EP (X:Cx) (pins:List (Addr×Obj)) (σ:St) (Q:VK) (u:Value) (s':Shared):Prop:=∃ v H',Inv X pins σ H' s'∧RelV v u∧Q v H'
def TP (X:Cx) (pins:List (Addr×Obj)) (σ:St) (Q:Bool→Hp→Prop) (b:Bool) (s':Shared):Prop:=∃ H',Inv X pins σ H' s'∧Q b H'
def AP (X:Cx) (pins:List (Addr×Obj)) (σ:St) (Q:List V→Hp→Prop) (us:List Value) (s':Shared):Prop:=∃ vs H',Inv X pins σ H' s'∧Vals vs us∧Q vs H'
def SP (X:Cx) (pins:List (Addr×Obj)) (D:Ends) (f:Flow) (s':Shared):Prop:=
 match f with
 | .next=>∃ σ' H',Inv X pins σ' H' s'∧D.nx σ' H'
 | .brk=>∃ σ' H',Inv X pins σ' H' s'∧D.bk σ' H'
 | .cont=>∃ σ' H',Inv X pins σ' H' s'∧D.ct σ' H'
 | .ret u=>∃ v σ' H',Inv X pins σ' H' s'∧RelV v u∧D.rt v H'
def PE (X:Cx) (e:Expr) (t:TE):Prop:=
 ∀ (pins:List (Addr×Obj)) (s:Shared) (σ:St) (H:Hp) (Q:VK),Inv X pins σ H s→t σ H Q→wpAny (model X.prog X.w) X.A (eval e X.env) (EP X pins σ Q) X.xe s
def PT (X:Cx) (e:Expr) (t:TT):Prop:=
 ∀ (pins:List (Addr×Obj)) (s:Shared) (σ:St) (H:Hp) (Q:Bool→Hp→Prop),Inv X pins σ H s→t σ H Q→wpAny (model X.prog X.w) X.A (isTrue e X.env (eval e X.env)) (TP X pins σ Q) X.xe s
def PW (X:Cx) (e:Expr) (t:TT):Prop:=
 ∀ (whole:Sem Value) (pins:List (Addr×Obj)) (s:Shared) (σ:St) (H:Hp) (Q:Bool→Hp→Prop),Inv X pins σ H s→t σ H Q→wpAny (model X.prog X.w) X.A (isTrue e X.env whole) (TP X pins σ Q) X.xe s
theorem PW.pt {X:Cx} {e:Expr} {t:TT} (h:PW X e t):PT X e t:=h _
def PA (X:Cx) (es:List Expr) (t:TA):Prop:=
 ∀ (pos:Pos) (pins:List (Addr×Obj)) (s:Shared) (σ:St) (H:Hp) (Q:List V→Hp→Prop),Inv X pins σ H s→t σ H Q→wpAny (model X.prog X.w) X.A (spliced (backTo pos (starEach es X.env))) (AP X pins σ Q) X.xe s
def PS (X:Cx) (st:Stmt) (t:TS):Prop:=
 ∀ (pins:List (Addr×Obj)) (s:Shared) (σ:St) (H:Hp) (D:Ends),Inv X pins σ H s→t D σ H→wpAny (model X.prog X.w) X.A (exec st X.env) (SP X pins D) X.xe s
def PSs (X:Cx) (st:List Stmt) (t:TS):Prop:=
 ∀ (pins:List (Addr×Obj)) (s:Shared) (σ:St) (H:Hp) (D:Ends),Inv X pins σ H s→t D σ H→wpAny (model X.prog X.w) X.A (execs st X.env) (SP X pins D) X.xe s
theorem thn {α:Type} {t:Sem α} {Q Q':α→Shared→Prop} {M:Model} {A:Around} {E:Value→Shared→Prop} {s:Shared} (h:wpAny M A t Q E s) (hQ:∀ a s,Q a s→Q' a s):wpAny M A t Q' E s:=wpAny_mono h hQ fun _ _ x=>x
section
variable {X:Cx}
def F_ (i:Nat):TE:=fun σ H Q=>∃ v,σ[i]?=some (some v)∧Q v H
def tC (v:V):TE:=fun _ H Q=>Q v H
theorem Cy {i:Nat} {x:Str} {pos:Pos} (hN:X.N[i]?=some x) (hv:Vis X.env.scope x) (hd:(x == ("__debug__":Str))=false:=by decide) (hcd:(x == ("__classdict__":Str))=false:=by decide):PE X (.Name x pos) (F_ i):=by
 intro pins s σ H Q I h
 obtain ⟨v,e,h⟩:=h
 obtain ⟨m,hn,hl⟩:=I.loc
 obtain ⟨u,r,l⟩:=hl i x v hN e hv
 have fin:EP X pins σ Q u s:=⟨v,H,I,r,h⟩
 rcases l with ⟨hk,hm⟩ | ⟨hk,c,hc,hcell⟩
 ·exact wpAny_Name (wpAny_loadName_local I.ok.kind hk hn hm fin) hd
 ·rcases hk with hk | hk
  ·exact wpAny_Name (wpAny_loadName_cell I.ok.kind hk hc hcell fin) hd
  ·exact wpAny_Name (wpAny_loadName_free I.ok.kind hk hc hcell fin hcd) hd
theorem Cg {i j pos}:PE X (.Constant (.int i) j pos) (tC (.int i)):=fun _ _ _ H _ I h=>wpAny_Constant_int ⟨.int i,H,I.tok _,⟨_,rfl⟩,h⟩
theorem DJ {b j pos}:PE X (.Constant (.bool b) j pos) (tC (.bl b)):=fun _ _ _ H _ I h=>Constant_bool ⟨.bl b,H,I,rfl,h⟩
theorem Bp {j pos}:PE X (.Constant .none j pos) (tC .non):=fun _ _ _ H _ I h=>Constant_none ⟨.non,H,I,rfl,h⟩
theorem BI {x j pos}:PE X (.Constant (.str x) j pos) (tC (.str x)):=fun _ _ _ H _ I h=>Calls.Constant_str ⟨.str x,H,I.tok _,⟨_,rfl⟩,h⟩
def Gl (X:Cx) (x:Str):Prop:=X.env.kindOf x=some .globalImplicit
theorem Ag {E:Value→Shared→Prop} {pins:List (Addr×Obj)} {s:Shared} {σ:St} {H:Hp} {x:Str} {u:Value} {pos:Pos} {Q:Value→Shared→Prop} (I:Inv X pins σ H s) (hg:Gl X x) (hm:X.mg x=some u) (h:Q u s)
  (hd:(x == ("__debug__":Str))=false:=by decide):wpAny (model X.prog X.w) X.A (eval (.Name x pos) X.env) Q E s:=
 Calls.Name_function_global I.ok.kind hg (Calls.loadGlobal_global (by rw [I.ok.glob];exact I.mod.glob.keeps I.bk) hm h) hd
theorem cq {E:Value→Shared→Prop} {pins:List (Addr×Obj)} {s:Shared} {σ:St} {H:Hp} {x:Str} {u:Value} {pos:Pos} {Q:Value→Shared→Prop} (I:Inv X pins σ H s) (hg:Gl X x) (hm:X.mg x=none) (hv:bootBuiltins x=some u) (h:Q u s)
  (hn:x≠"__name__":=by decide) (hd:(x == ("__debug__":Str))=false:=by decide):wpAny (model X.prog X.w) X.A (eval (.Name x pos) X.env) Q E s:=by
 obtain ⟨mb,h1,h2⟩:=I.mod.blt
 exact Calls.Name_function_global I.ok.kind hg (Calls.loadGlobal_builtin (by rw [I.ok.glob];exact I.mod.glob.keeps I.bk) hm (by rw [I.ok.blt];exact h1.keeps I.bk) ((h2 x hn).trans hv) h) hd
theorem zK {x:Str} {v:V} {u:Value} {pos:Pos} (hg:Gl X x) (hm:X.mg x=none) (hv:bootBuiltins x=some u) (r:RelV v u) (hn:x≠"__name__":=by decide) (hd:(x == ("__debug__":Str))=false:=by decide):PE X (.Name x pos) (tC v):=
 fun _ _ _ H _ I h=>cq I hg hm hv ⟨v,H,I,r,h⟩ hn hd
variable {a b:Expr} {ta tb:TE} {pos:Pos}
variable {tA tB':TT} {rest:List Expr}
def F4 (t u:TT):TT:=fun σ H Q=>t σ H fun c H1=>if c=true then u σ H1 Q else Q false H1
def tOr (t u:TT):TT:=fun σ H Q=>t σ H fun c H1=>if c=true then Q true H1 else u σ H1 Q
def F5 (t:TT):TT:=fun σ H Q=>t σ H fun c H1=>Q (!c) H1
theorem za (ha:PT X a tA):PW X (.BoolOp .And [a] pos) tA:=by
 intro wh pins s σ H Q I h
 refine isTrue_and (thn (ha pins s σ H Q I h) fun c s1 e=>?_)
 cases c with
 | true=>exact isTrue_and_nil e
 | false=>exact e
theorem BE (ha:PT X a tA):PW X (.BoolOp .Or [a] pos) tA:=by
 intro wh pins s σ H Q I h
 refine isTrue_or (thn (ha pins s σ H Q I h) fun c s1 e=>?_)
 cases c with
 | false=>exact isTrue_or_nil e
 | true=>exact e
theorem BQ (ha:PT X a tA) (hb:PW X (.BoolOp .And (b :: rest) pos) tB'):PW X (.BoolOp .And (a :: b :: rest) pos) (F4 tA tB'):=by
 intro wh pins s σ H Q I h
 refine isTrue_and (thn (ha pins s σ H _ I h) fun c s1 ⟨H1,I1,q1⟩=>?_)
 cases c with
 | true=>exact hb wh pins s1 σ H1 Q I1 q1
 | false=>exact ⟨H1,I1,q1⟩
theorem DA (ha:PT X a tA) (hb:PW X (.BoolOp .Or (b :: rest) pos) tB'):PW X (.BoolOp .Or (a :: b :: rest) pos) (tOr tA tB'):=by
 intro wh pins s σ H Q I h
 refine isTrue_or (thn (ha pins s σ H _ I h) fun c s1 ⟨H1,I1,q1⟩=>?_)
 cases c with
 | true=>exact ⟨H1,I1,q1⟩
 | false=>exact hb wh pins s1 σ H1 Q I1 q1
theorem BS (ha:PT X a tA):PT X (.UnaryOp .Not a pos) (F5 tA):=by
 intro pins s σ H Q I h
 exact isTrue_not (ha pins s σ H (fun c H1=>Q (!c) H1) I h)
def DN (ta tb:TE):TE:=fun σ H Q=>ta σ H fun x H1=>∃ c,x=.bl c∧if c=true then tb σ H1 Q else Q (.bl false) H1
def E1 (ta:TE):TE:=fun σ H Q=>ta σ H fun x H1=>∃ c,x=.bl c∧Q (.bl (!c)) H1
theorem Dk {op} {t:TE} (h:PE X a t):PE X (.BoolOp op [a] pos) t:=fun pins s σ H Q I hw=>BoolOp_one (h pins s σ H Q I hw)
theorem A0 (ha:PE X a ta) (hb:PE X (.BoolOp .And (b :: rest) pos) tb):PE X (.BoolOp .And (a :: b :: rest) pos) (DN ta tb):=by
 intro pins s σ H Q I h
 refine BoolOp_and (thn (ha pins s σ H _ I h) fun v s1 ⟨x,H1,I1,r1,q1⟩=>?_)
 obtain ⟨c,rfl,q1⟩:=q1
 cases r1
 refine wpAny_truthy_bool ?_
 cases c with
 | true=>exact hb pins s1 σ H1 Q I1 q1
 | false=>exact ⟨.bl false,H1,I1,rfl,q1⟩
theorem Cj (ha:PE X a ta):PE X (.UnaryOp .Not a pos) (E1 ta):=by
 intro pins s σ H Q I h
 refine UnaryOp_ (thn (ha pins s σ H _ I h) fun v s1 ⟨x,H1,I1,r1,q1⟩=>?_)
 obtain ⟨c,rfl,q1⟩:=q1
 cases r1
 exact not_of (wpAny_truthy_bool ⟨.bl (!c),H1,I1,rfl,q1⟩)
def tIf (t:TT) (ta tb:TE):TE:=fun σ H Q=>t σ H fun c H1=>if c=true then ta σ H1 Q else tb σ H1 Q
theorem wK {c:Expr} (hc:PT X c tA) (ha:PE X a ta) (hb:PE X b tb):PE X (.IfExp c a b pos) (tIf tA ta tb):=by
 intro pins s σ H Q I h
 refine wpAny_IfExp (thn (hc pins s σ H _ I h) fun d s1 ⟨H1,I1,q1⟩=>?_)
 cases d with
 | true=>exact ha pins s1 σ H1 Q I1 q1
 | false=>exact hb pins s1 σ H1 Q I1 q1
end
def SqL (K:PySem.W.Frag) (H:Hp) (a:Addr) (xs:List V):Prop:=
 Rd H a (.lst xs) ∨
  ∃ (o:Obj) (its:Array Value) (n:Nat),K.lookup a=some o∧o.cls=.type "list"∧o.dict=none∧o.data=.seq its n∧its.size≤sizeLine∧Vals xs its.toList
def SqT (K:PySem.W.Frag) (H:Hp) (a:Addr) (xs:List V):Prop:=
 Rd H a (.tup xs) ∨
  ∃ (o:Obj) (its:Array Value) (n:Nat),K.lookup a=some o∧o.cls=.type "tuple"∧o.data=.seq its n∧its.size≤sizeLine∧Vals xs its.toList
def FJ:Value→Option V
 | .none=>some .non
 | .bool b=>some (.bl b)
 | .int i _=>some (.int i)
 | .str x _=>some (.str x)
 | .bytes b _=>some (.byt b)
 | .float b _=>some (.flt b)
 | .ref a=>some (.ref a)
 | .type n=>some (.ty n)
 | _=>none
theorem RelV.abs {x:V} {u:Value} (r:RelV x u):FJ u=some x:=by
 cases x with
 | non=>cases r;rfl
 | bl _=>cases r;rfl
 | int _=>obtain ⟨t,rfl⟩:=r;rfl
 | str _=>obtain ⟨t,rfl⟩:=r;rfl
 | byt _=>obtain ⟨t,rfl⟩:=r;rfl
 | flt _=>obtain ⟨t,rfl⟩:=r;rfl
 | ref _=>cases r;rfl
 | ty _=>cases r;rfl
theorem RelV.inj {x y:V} {u:Value} (r:RelV x u) (q:RelV y u):x=y:=Option.some.inj (r.abs.symm.trans q.abs)
theorem Vals.inj:∀ {xs ys:List V} {us:List Value},Vals xs us→Vals ys us→xs=ys
 | _,_,_,.nil,.nil=>rfl
 | _,_,_,.cons r t,.cons r' t'=>by rw [r.inj r',Vals.inj t t']
section
variable {X:Cx} {pins:List (Addr×Obj)} {σ:St} {H:Hp} {s:Shared} {a:Addr} {xs ys:List V}
theorem SqL.of {K:PySem.W.Frag} (h:H a=some (.lst xs)):SqL K H a xs:=.inl (.inl h)
theorem SqT.of {K:PySem.W.Frag} (h:H a=some (.tup xs)):SqT K H a xs:=.inl (.inl h)
theorem Inv.list (I:Inv X pins σ H s) (h:SqL X.K H a xs):∃ its:List Value,Vals xs its∧PlainL s.heap a its.toArray∧xs.length≤sizeLine:=by
 rcases h with h | ⟨o,its,n,hk,hc,hd,hs,hz,r⟩
 ·obtain ⟨z,its,n,r,e⟩:=h.ok I.hok
  exact ⟨its,r,⟨_,n,e,rfl,rfl,rfl⟩,z⟩
 ·refine ⟨its.toList,r,⟨o,n,I.kIn a o hk,hc,hd,by simpa using hs⟩,?_⟩
  have e:=r.length
  simp only [Array.length_toList] at e
  omega
theorem Inv.tuple (I:Inv X pins σ H s) (h:SqT X.K H a xs):∃ its:List Value,Vals xs its∧IsTup s.heap a its.toArray∧xs.length≤sizeLine:=by
 rcases h with h | ⟨o,its,n,hk,hc,hs,hz,r⟩
 ·obtain ⟨z,its,r,p⟩:=h.ok I.hok
  exact ⟨its,r,p,z⟩
 ·refine ⟨its.toList,r,⟨o,I.kIn a o hk,hc,n,by simpa using hs⟩,?_⟩
  have e:=r.length
  simp only [Array.length_toList] at e
  omega
theorem Inv.qK (I:Inv X pins σ H s) (h:SqL X.K H a xs) (h':SqL X.K H a ys):xs=ys:=by
 obtain ⟨its,r,⟨o,n,e,_,_,d⟩,_⟩:=I.list h
 obtain ⟨its',r',⟨o',n',e',_,_,d'⟩,_⟩:=I.list h'
 rw [e] at e';cases e'
 rw [d] at d'
 injection d' with d1 _
 have:its=its':=by simpa using congrArg Array.toList d1
 subst this
 exact r.inj r'
theorem Inv.uz (I:Inv X pins σ H s) (h:SqT X.K H a xs) (h':SqT X.K H a ys):xs=ys:=by
 obtain ⟨its,r,⟨o,e,_,n,d⟩,_⟩:=I.tuple h
 obtain ⟨its',r',⟨o',e',_,n',d'⟩,_⟩:=I.tuple h'
 rw [e] at e';cases e'
 rw [d] at d'
 injection d' with d1 _
 have:its=its':=by simpa using congrArg Array.toList d1
 subst this
 exact r.inj r'
end
abbrev Cx.iD (X:Cx) (E:Value→Shared→Prop):Cx:={ X with xe:=E }
abbrev Cx.nox (X:Cx):Cx:=X.iD fun _ _=>False
theorem Cx.Ok.iD {X:Cx} (ok:X.Ok) (E:Value→Shared→Prop):(X.iD E).Ok:=
 ⟨ok.mod,ok.kind,ok.glob,ok.blt,ok.above,ok.inj,ok.has,ok.cab,ok.hd,ok.frames,ok.stk,ok.exf,ok.bs,ok.bsz,ok.noex,ok.exfs,ok.h_,ok.frf⟩
theorem Cx.Ok.fP {X:Cx} {E:Value→Shared→Prop} (ok:(X.iD E).Ok):X.Ok:=
 ⟨ok.mod,ok.kind,ok.glob,ok.blt,ok.above,ok.inj,ok.has,ok.cab,ok.hd,ok.frames,ok.stk,ok.exf,ok.bs,ok.bsz,ok.noex,ok.exfs,ok.h_,ok.frf⟩
section
variable {X:Cx} {pins:List (Addr×Obj)} {σ:St} {H:Hp} {s:Shared} {E:Value→Shared→Prop}
theorem Inv.iD (I:Inv X pins σ H s) (E:Value→Shared→Prop):Inv (X.iD E) pins σ H s:=⟨I.ok.iD E,I.os,I.bare,I.base,I.loc,I.cell,I.free,I.freeC,I.pin,I.hok,I.len⟩
theorem Inv.fP (I:Inv (X.iD E) pins σ H s):Inv X pins σ H s:=⟨I.ok.fP,I.os,I.bare,I.base,I.loc,I.cell,I.free,I.freeC,I.pin,I.hok,I.len⟩
theorem SP.fP {D:Ends} {f:Flow} {s':Shared} (h:SP (X.iD E) pins D f s'):SP X pins D f s':=by
 cases f with
 | next=>obtain ⟨σ',H',I,q⟩:=h;exact ⟨σ',H',I.fP,q⟩
 | brk=>obtain ⟨σ',H',I,q⟩:=h;exact ⟨σ',H',I.fP,q⟩
 | cont=>obtain ⟨σ',H',I,q⟩:=h;exact ⟨σ',H',I.fP,q⟩
 | ret u=>obtain ⟨v,σ',H',I,r,q⟩:=h;exact ⟨v,σ',H',I.fP,r,q⟩
theorem PSs.nox {st:List Stmt} {t:TS} (h:PSs X.nox st t):PSs X st t:=fun pins s σ H D I hw=>
 wpAny_mono (h pins s σ H D (I.iD _) hw) (fun _ _ q=>q.fP) fun _ _ z=>False.elim z
end
section
variable {X:Cx} {st:Stmt} {rest:List Stmt} {t u:TS} {e:Expr} {te:TE} {pos:Pos}
def EK:TS:=fun D σ H=>D.nx σ H
def F7 (t u:TS):TS:=fun D σ H=>t { D with nx:=u D } σ H
theorem zI:PSs X [] EK:=fun _ _ σ H _ I h=>wpAny_execs_nil ⟨σ,H,I,h⟩
theorem wt (h1:PS X st t) (h2:PSs X rest u):PSs X (st :: rest) (F7 t u):=by
 intro pins s σ H D I h
 refine wpAny_execs_cons (thn (h1 pins s σ H { D with nx:=u D } I h) fun f s1 q=>?_)
 cases f with
 | next=>
  obtain ⟨σ',H',I',q⟩:=q
  exact h2 pins s1 σ' H' D I' q
 | ret v=>exact q
 | brk=>exact q
 | cont=>exact q
theorem Ap (h1:PS X st t):PSs X [st] t:=by
 intro pins s σ H D I h
 refine wpAny_execs_cons (thn (h1 pins s σ H D I h) fun f s1 q=>?_)
 cases f with
 | next=>exact wpAny_execs_nil q
 | ret v=>exact q
 | brk=>exact q
 | cont=>exact q
theorem Inv.quiet {pins:List (Addr×Obj)} {σ:St} {H:Hp} {s:Shared} (I:Inv X pins σ H s):interactive X.env=false:=by simp [interactive,I.ok.kind]
def EB (te:TE):TS:=fun D σ H=>te σ H fun _ H1=>D.nx σ H1
theorem zu (he:PE X e te) (hs:swapsWith e none pos.line X.env=pure false:=by rfl):PS X (.Expr e pos) (EB te):=by
 intro pins s σ H D I h
 exact wpAny_Expr_any (thn (he pins s σ H _ I h) fun v s1 ⟨x,H1,I1,r1,q1⟩=>⟨σ,H1,I1,q1⟩) I.quiet hs
def Fq (te:TE):TS:=fun D σ H=>te σ H D.rt
theorem CV (he:PE X e te):PS X (.Return (some e) pos) (Fq te):=by
 intro pins s σ H D I h
 exact wpAny_Return_some (thn (he pins s σ H _ I h) fun v s1 ⟨x,H1,I1,r1,q1⟩=>⟨x,σ,H1,I1,r1,q1⟩)
def Fn (c:TT) (t u:TS):TS:=fun D σ H=>c σ H fun b H1=>if b=true then t D σ H1 else u D σ H1
theorem D_ {c:Expr} {a b:List Stmt} {tc:TT} (hc:PT X c tc) (ha:PSs X a t) (hb:PSs X b u):PS X (.If c a b pos) (Fn tc t u):=by
 intro pins s σ H D I h
 refine wpAny_If (thn (hc pins s σ H _ I h) fun d s1 ⟨H1,I1,q1⟩=>?_)
 cases d with
 | true=>exact ha pins s1 σ H1 D I1 q1
 | false=>exact hb pins s1 σ H1 D I1 q1
end
abbrev TG:=V→St→Hp→(St→Hp→Prop)→Prop
abbrev TGs:=List V→St→Hp→(St→Hp→Prop)→Prop
def PG (X:Cx) (target:Expr) (t:TG):Prop:=
 ∀ (pins:List (Addr×Obj)) (s:Shared) (σ:St) (H:Hp) (v:V) (u:Value) (Q:St→Hp→Prop),Inv X pins σ H s→RelV v u→t v σ H Q →
  wpAny (model X.prog X.w) X.A (assign target X.env u) (fun _ s'=>∃ σ' H',Inv X pins σ' H' s'∧Q σ' H') X.xe s
def PGs (X:Cx) (ts:List Expr) (t:TGs):Prop:=
 ∀ (pins:List (Addr×Obj)) (s:Shared) (σ:St) (H:Hp) (vs:List V) (us:List Value) (Q:St→Hp→Prop),Inv X pins σ H s→Vals vs us→t vs σ H Q →
  wpAny (model X.prog X.w) X.A (assignInOrder ((assignEach ts X.env).map (·.2)) us) (fun _ s'=>∃ σ' H',Inv X pins σ' H' s'∧Q σ' H') X.xe s
abbrev qk:=V→V→V→Hp→(Hp→Prop)→Prop
def tS (X:Cx) (t:qk):Prop:=
 ∀ (pins:List (Addr×Obj)) (s:Shared) (σ:St) (H:Hp) (o i v:V) (ov iv u:Value) (Q:Hp→Prop),Inv X pins σ H s→RelV o ov→RelV i iv→RelV v u→t o i v H Q →
  wpAny (model X.prog X.w) X.A (setItem ov iv u) (fun _ s'=>∃ H',Inv X pins σ H' s'∧Q H') X.xe s
section
variable {X:Cx} {pos:Pos}
def yA (i:Nat):TG:=fun v σ H Q=>Q (σ.set i (some v)) H
theorem An {i:Nat} {x:Str} (hN:X.N.Nodup) (hi:X.N[i]?=some x) (hx:Loc X.env.scope x) (hf:X.fn x=true∨X.env.scope.names.lookup x=some .local:=by first | exact .inl rfl | exact .inr rfl | assumption):PG X (.Name x pos) (yA i):=by
 intro pins s σ H v u Q I r h
 exact wpAny_assign_Name (lO I hN hi hx r (fun s' I'=>⟨_,H,I',h⟩) hf)
def Fy:TGs:=fun vs σ H Q=>vs=[]∧Q σ H
def DH (t:TG) (u:TGs):TGs:=fun vs σ H Q=>∃ v r,vs=v :: r∧t v σ H fun σ' H'=>u r σ' H' Q
theorem zr:PGs X [] Fy:=by
 intro pins s σ H vs us Q I r h
 obtain ⟨e,h⟩:=h
 subst e
 cases r
 exact assignInOrder_nil ⟨σ,H,I,h⟩
theorem xE {e:Expr} {es:List Expr} {t:TG} {u:TGs} (h1:PG X e t) (h2:PGs X es u)
  (hs:(assignEach (e :: es) X.env).map (·.2)=assign e X.env :: (assignEach es X.env).map (·.2):=by rfl):PGs X (e :: es) (DH t u):=by
 intro pins s σ H vs us Q I r h
 obtain ⟨v,vr,e1,h⟩:=h
 subst e1
 cases r with
 | cons r rr=>
  rw [hs]
  refine assignInOrder_cons (thn (h1 pins s σ H _ _ _ I r h) fun _ s1 ⟨σ1,H1,I1,q1⟩=>?_)
  exact h2 pins s1 σ1 H1 _ _ Q I1 rr q1
def FN (K:PySem.W.Frag) (n:Nat) (t:TGs):TG:=fun v σ H Q=>∃ a xs,v=.ref a∧SqT K H a xs∧xs.length=n∧t xs σ H Q
theorem A_ {es:List Expr} {k:Nat} {t:TGs} {n:Nat} (hc:X.calm=true) (h:PGs X es t)
  (hn:(assignEach es X.env).length=n:=by rfl) (hst:(assignEach es X.env).findIdx? (·.1)=none:=by rfl):PG X (.Tuple es k pos) (FN X.K n t):=by
 intro pins s σ H v u Q I r hw
 obtain ⟨a,xs,e1,hq,hl,hw⟩:=hw
 subst e1
 cases r
 obtain ⟨its,rv,ht,hz⟩:=I.tuple hq
 refine assign_Tuple_tuple (I.ok.hd hc) ht (by simp [hn,← hl,rv.length]) hst fun h' hx=>?_
 have I1:Inv X pins σ H { s with heap:=h' }:=I.kept (t':=s.toks) fun b o e=>hx b o (Nat.ne_of_lt (Heap.lt_size e)) e
 exact h pins _ σ H xs _ Q I1 (by simpa using rv) hw
def Ft (to ti:TE) (t:qk):TG:=fun v σ H Q=>to σ H fun o H1=>ti σ H1 fun i H2=>t o i v H2 fun H3=>Q σ H3
theorem Bl {o i:Expr} {to ti:TE} {t:qk} (ho:PE X o to) (hi:PE X i ti) (hs:tS X t)
  (ha:∀ v,assign (.Subscript o i pos) X.env v=(do
   let ov ← holding [v] (eval o X.env)
   let iv ← holding [v,ov] (eval i X.env)
   standAt pos
   holding [v,ov,iv] (setItem ov iv v)
   release [v,ov,iv] []):=by intro _;rfl):PG X (.Subscript o i pos) (Ft to ti t):=by
 intro pins s σ H v u Q I r h
 rw [ha]
 refine wpAny_bind (wpAny_holding (thn (ho pins s σ H _ I h) fun ov s1 ⟨x,H1,I1,r1,q1⟩=>?_))
 refine wpAny_bind (wpAny_holding (thn (hi pins s1 σ H1 _ I1 q1) fun iv s2 ⟨y,H2,I2,r2,q2⟩=>?_))
 refine wpAny_bind (wpAny_standAt (wpAny_bind (wpAny_holding (thn (hs pins s2 σ H2 x y v ov iv u _ I2 r1 r2 r q2) fun _ s3 ⟨H3,I3,q3⟩=>?_))))
 exact wpAny_release ⟨σ,H3,I3,q3⟩
def B4 (te:TE) (g:TG):TS:=fun D σ H=>te σ H fun x H1=>g x σ H1 D.nx
theorem AI {tg e:Expr} {te:TE} {g:TG} (he:PE X e te) (hg:PG X tg g) (hs:swapsWithSole [tg] e pos.line X.env=pure false:=by rfl) (hw:swappedStores [tg] e X.env=pure none:=by rfl)
  (h1:(assignEach [tg] X.env).map (·.2)=[assign tg X.env]:=by rfl):PS X (.Assign [tg] e pos) (B4 te g):=by
 intro pins s σ H D I h
 refine wpAny_Assign_stores (thn (he pins s σ H _ I h) fun v s1 ⟨x,H1,I1,r1,q1⟩=>?_) hs hw
 rw [h1]
 exact thn (hg pins s1 σ H1 x v _ I1 r1 q1) fun _ s2 q=>q
theorem AJ {i:Nat} {x:Str} {e:Expr} {te:TE} {pos':Pos} (hN:X.N.Nodup) (hi:X.N[i]?=some x) (hx:Loc X.env.scope x) (he:PE X e te) (hs:swapsWith e (some (.Name x pos')) pos.line X.env=pure false:=by rfl) (hf:X.fn x=true∨X.env.scope.names.lookup x=some .local:=by first | exact .inl rfl | exact .inr rfl | assumption) :
  PS X (.Assign [.Name x pos'] e pos) (B4 te (yA i)):=by
 intro pins s σ H D I h
 refine wpAny_Assign_Name (thn (he pins s σ H _ I h) fun v s1 ⟨y,H1,I1,r1,q1⟩=>?_) hs
 exact lO I1 hN hi hx r1 (fun s2 I2=>⟨_,H1,I2,q1⟩) hf
end
structure It where
 go:Nat→Hp→Prop
 yld:Nat→Hp→V→Hp→Prop
 stop:Nat→Hp→Prop
def fE (X:Cx) (pins:List (Addr×Obj)) (H:Hp) (b:Addr):Prop:=
 H b=none∧b≠X.env.locals∧b∉X.fs∧(b∈X.ex∨X.s₀.heap.objs.size≤b)∧(∀ x c,X.env.cells.lookup x=some c→c≠b)∧∀ p∈X.pn++pins,p.1≠b
theorem Inv.jS {X:Cx} {pins:List (Addr×Obj)} {σ:St} {H H':Hp} {s:Shared} {b:Addr} (I:Inv X pins σ H s) (hb:s.heap.objs.size≤b) (hn:H' b=none):fE X pins H' b:=by
 refine ⟨hn,Nat.ne_of_gt (Nat.lt_of_lt_of_le I.lt hb),I.AQ hb,.inr (Nat.le_trans I.sz hb),fun x c e z=>?_,fun p hp z=>?_⟩
 ·obtain ⟨v,q⟩:=I.cell x c e
  exact absurd (Nat.lt_of_lt_of_le q.lt (by rw [z];exact hb)) (Nat.lt_irrefl _)
 ·exact absurd (Nat.lt_of_lt_of_le (Heap.lt_size (I.pin p hp).1) (by rw [z];exact hb)) (Nat.lt_irrefl _)
structure Turn (P:Program) (w:World) (K:PySem.W.Frag) (tg:Expr) (J:It) (fp:List Addr) (it:Addr) (tn:Nat→Heap→Prop):Prop where
 mem:it∈fp
 obj:∀ i h,tn i h→∀ b∈fp,∃ o,h.get? b=some o∧∀ v,o.data≠.cell v
 keep:∀ i h h',tn i h→(∀ b∈fp,∀ o,h.get? b=some o→h'.get? b=some o)→tn i h'
 item:∀ (X:Cx),X.prog=P→X.w=w→X.K=K→X.calm=true→∀ (i:Nat) (pins:List (Addr×Obj)) (s:Shared) (σ:St) (H:Hp) (E:Value→Shared→Prop),Inv X pins σ H s→(∀ b∈fp,fE X pins H b)→tn i s.heap→J.go i H →
  wpAny (model P w) X.A (pyNext (.ref it)) (fun r s1=>∃ u,r=some u ∧
   wpAny (model P w) X.A (letOwnedTupleGo tg (.ref it) u) (fun _ s2=>∃ x H',Inv X pins σ H' s2∧RelV x u∧J.yld i H x H'∧tn (i+1) s2.heap∧∀ b∈fp,H' b=none) E s1) E s
 done:∀ (X:Cx),X.prog=P→X.w=w→X.K=K→X.calm=true→∀ (i:Nat) (pins:List (Addr×Obj)) (s:Shared) (σ:St) (H:Hp) (E:Value→Shared→Prop),Inv X pins σ H s→(∀ b∈fp,fE X pins H b)→tn i s.heap→J.stop i H →
  wpAny (model P w) X.A (pyNext (.ref it)) (fun r s1=>r=none∧Inv X pins σ H s1) E s
 self:∀ (A:Around) (i:Nat) (s:Shared) (Q:Value→Shared→Prop) (E:Value→Shared→Prop),tn i s.heap→Q (.ref it) s→wpAny (model P w) A (pyIter (.ref it)) Q E s
abbrev TI:=St→Hp→(It→Hp→Prop)→Prop
def PIE (X:Cx) (pins:List (Addr×Obj)) (σ:St) (tg:Expr) (R:It→Hp→Prop) (itv:Value) (s2:Shared):Prop:=
 ∃ (it:Addr) (fp:List Addr) (tn:Nat→Heap→Prop) (J:It) (H':Hp),itv=.ref it∧Inv X pins σ H' s2∧Turn X.prog X.w X.K tg J fp it tn∧tn 0 s2.heap∧(∀ b∈fp,fE X pins H' b)∧R J H'
def PI (X:Cx) (tg iter:Expr) (wi:TI):Prop:=
 ∀ (pins:List (Addr×Obj)) (s:Shared) (σ:St) (H:Hp) (R:It→Hp→Prop),Inv X pins σ H s→wi σ H R →
  wpAny (model X.prog X.w) X.A (eval iter X.env) (fun v s1=>wpAny (model X.prog X.w) X.A (pyIter v) (PIE X pins σ tg R) X.xe s1) X.xe s
theorem sR {M : Model} {A : Around} {E : Value → Shared → Prop} {s : Shared} {tg : Expr} {it : Addr} {u : Value} {o : Obj} {n : String} {vs : Array Value} {Q : Unit → Shared → Prop} (ho : s.heap.get? it = some o) (hc : o.cls = .type n) (hd : o.data = .fields vs)
    (hn : ["enumerate", "zip", "dict_itemiterator", "dict_reverseitemiterator", "odict_iterator", "itertools.zip_longest", "itertools.pairwise"].contains n = false) (hQ : Q () s) : wpAny M A (letOwnedTupleGo tg (.ref it) u) Q E s := by
  unfold letOwnedTupleGo
  cases tg <;> first
    | exact wpAny_pure hQ
    | (cases u <;> first
        | exact wpAny_pure hQ
        | (refine wpAny_bind (wpAny_load ho ?_)
           rw [hc, hd]
           show wpAny M A (if (["enumerate", "zip", "dict_itemiterator", "dict_reverseitemiterator", "odict_iterator", "itertools.zip_longest", "itertools.pairwise"].contains n && vs[0]? == some (rawInt _)) = true then _ else _) Q E s
           rw [if_neg (by intro h; rw [hn, Bool.false_and] at h; cases h)]
           exact wpAny_pure hQ))
def Itl (K:PySem.W.Frag) (a:Addr):It:=
 ⟨fun i H=>∃ xs x,SqL K H a xs∧xs[i]?=some x,fun i H x H'=>H'=H∧∀ xs,SqL K H a xs→xs[i]?=some x,fun i H=>∃ xs,SqL K H a xs∧xs.length≤i⟩
def Itt (K:PySem.W.Frag) (a:Addr):It:=
 ⟨fun i H=>∃ xs x,SqT K H a xs∧xs[i]?=some x,fun i H x H'=>H'=H∧∀ xs,SqT K H a xs→xs[i]?=some x,fun i H=>∃ xs,SqT K H a xs∧xs.length≤i⟩
def Itr (lo:Int) (n:Nat):It:=⟨fun i _=>i < n,fun i H x H'=>H'=H∧x=.int (lo+i),fun i _=>n≤i⟩
theorem uF {P:Program} {w:World} {K:PySem.W.Frag} {tg:Expr} (a it:Addr):Turn P w K tg (Itl K a) [it] it (fun i h=>h.IsListIter it a i) where
 mem:=by simp
 obj:=fun i h st b hb=>by
  have e:b=it:=by simpa using hb
  subst e
  obtain ⟨o,e,c,d⟩:=st
  exact ⟨o,e,fun v z=>by rw [d] at z;cases z⟩
 keep:=fun i h h' st k=>st.at fun o e=>k it (by simp) o e
 item:=by
  intro X hP hw hK hc i pins s σ H E I hf st hg
  subst hP hw hK
  obtain ⟨xs,x,hq,hx⟩:=hg
  obtain ⟨its,rv,p,hz⟩:=I.list hq
  obtain ⟨u,hu,ru⟩:=rv.get hx
  obtain ⟨f0,f1,f2,f3,f4,f5⟩:=hf it (by simp)
  refine wpAny_pyNext_list_item st p.isList (x:=u) (by simpa using hu) fun h' st' sb=>?_
  have I1:Inv X pins σ H { s with heap:=h' }:=I.turned (t':=s.toks) (fun b o hb e=>(sb.2 b hb).trans e) f0 f1 f3 f4 f5
  obtain ⟨o,e,c,d⟩:=id st'
  exact ⟨u,rfl,sR (s:={ s with heap:=h' }) e c d (by decide) ⟨x,H,I1,ru,⟨rfl,fun ys hy=>by rw [I.qK hy hq];exact hx⟩,st',fun b hb=>(hf b hb).1⟩⟩
 done:=by
  intro X hP hw hK hc i pins s σ H E I hf st hg
  subst hP hw hK
  obtain ⟨xs,hq,hx⟩:=hg
  obtain ⟨its,rv,p,hz⟩:=I.list hq
  obtain ⟨f0,f1,f2,f3,f4,f5⟩:=hf it (by simp)
  have hl:=rv.length
  exact wpAny_pyNext_list_end (I.ok.hd hc) st p.isList (by simp;omega) fun h' eb=>⟨rfl,I.turned (t':=s.toks) (fun b o hb e=>eb b o hb e) f0 f1 f3 f4 f5⟩
 self:=fun _ _ _ _ _ st h=>wpAny_pyIter_listiter st h
theorem tD {P:Program} {w:World} {K:PySem.W.Frag} {tg:Expr} (a it:Addr):Turn P w K tg (Itt K a) [it] it (fun i h=>h.IsTupleIter it a i) where
 mem:=by simp
 obj:=fun i h st b hb=>by
  have e:b=it:=by simpa using hb
  subst e
  obtain ⟨o,e,c,d⟩:=st
  exact ⟨o,e,fun v z=>by rw [d] at z;cases z⟩
 keep:=fun i h h' st k=>st.at fun o e=>k it (by simp) o e
 item:=by
  intro X hP hw hK hc i pins s σ H E I hf st hg
  subst hP hw hK
  obtain ⟨xs,x,hq,hx⟩:=hg
  obtain ⟨its,rv,p,hz⟩:=I.tuple hq
  obtain ⟨u,hu,ru⟩:=rv.get hx
  obtain ⟨f0,f1,f2,f3,f4,f5⟩:=hf it (by simp)
  refine wpAny_pyNext_tuple_item st (show s.heap.IsTuple a its.toArray from p) (x:=u) (by simpa using hu) fun h' st' sb=>?_
  have I1:Inv X pins σ H { s with heap:=h' }:=I.turned (t':=s.toks) (fun b o hb e=>(sb.2 b hb).trans e) f0 f1 f3 f4 f5
  obtain ⟨o,e,c,d⟩:=id st'
  exact ⟨u,rfl,sR (s:={ s with heap:=h' }) e c d (by decide) ⟨x,H,I1,ru,⟨rfl,fun ys hy=>by rw [I.uz hy hq];exact hx⟩,st',fun b hb=>(hf b hb).1⟩⟩
 done:=by
  intro X hP hw hK hc i pins s σ H E I hf st hg
  subst hP hw hK
  obtain ⟨xs,hq,hx⟩:=hg
  obtain ⟨its,rv,p,hz⟩:=I.tuple hq
  obtain ⟨f0,f1,f2,f3,f4,f5⟩:=hf it (by simp)
  have hl:=rv.length
  exact wpAny_pyNext_tuple_end (I.ok.hd hc) st (show s.heap.IsTuple a its.toArray from p) (by simp;omega) fun h' eb=>⟨rfl,I.turned (t':=s.toks) (fun b o hb e=>eb b o hb e) f0 f1 f3 f4 f5⟩
 self:=fun _ _ _ _ _ st h=>wpAny_pyIter_tupleiter st h
theorem sI {P:Program} {w:World} {K:PySem.W.Frag} {tg:Expr} (it:Addr) (lo:Int) (n:Nat):Turn P w K tg (Itr lo n) [it] it (fun i h=>IsRangeIter h it (lo+(i:Nat) * 1) ((n:Int) - (i:Nat)) 1) where
 mem:=by simp
 obj:=fun i h st b hb=>by
  have e:b=it:=by simpa using hb
  subst e
  exact ⟨_,st,fun v z=>by
   have z':Data.fields _=Data.cell v:=z
   cases z'⟩
 keep:=fun i h h' st k=>k it (by simp) _ st
 item:=by
  intro X hP hw hK hc i pins s σ H E I hf st hg
  subst hP hw hK
  obtain ⟨f0,f1,f2,f3,f4,f5⟩:=hf it (by simp)
  have W:=Walks.range (prog:=X.prog) (w:=X.w) (I.ok.hd hc) it lo 1 n
  refine W.item i s _ _ hg st fun v h' tk hv st' kk=>?_
  obtain ⟨t,rfl⟩:=hv
  have I1:Inv X pins σ H { s with heap:=h',toks:=tk }:=I.turned (fun b o hb e=>kk b o (by simpa using hb) e) f0 f1 f3 f4 f5
  refine ⟨_,rfl,sR (s:={ s with heap:=h',toks:=tk }) (n:="range_iterator") st' rfl rfl (by decide) ⟨.int (lo+i),H,I1,⟨t,?_⟩,⟨rfl,rfl⟩,st',fun b hb=>(hf b hb).1⟩⟩
  rw [Int.mul_one]
 done:=by
  intro X hP hw hK hc i pins s σ H E I hf st hg
  subst hP hw hK
  obtain ⟨f0,f1,f2,f3,f4,f5⟩:=hf it (by simp)
  exact wpAny_pyNext_range_end (I.ok.hd hc) st (by have:n≤i:=hg;omega) fun h' eb=>⟨rfl,I.turned (t':=s.toks) (fun b o hb e=>eb b o hb e) f0 f1 f3 f4 f5⟩
 self:=fun _ _ _ _ _ st h=>wpAny_pyIter_rangeiter st h
section
variable {X:Cx} {tg:Expr}
theorem qb {pins:List (Addr×Obj)} {σ:St} {H:Hp} {s:Shared} {R:It→Hp→Prop} {E:Value→Shared→Prop} {lo hi:Int} {t u v:Tok} {tk:Nat} (I:Inv X pins σ H s) (h1:-(2 ^ 62)≤lo) (h2:lo < 2 ^ 62) (h3:-(2 ^ 62)≤hi) (h4:hi < 2 ^ 62)
  (q:R (Itr lo (hi - lo).toNat) H):wpAny (model X.prog X.w) X.A (pyIter (.ref s.heap.objs.size)) (PIE X pins σ tg R) E { s with heap:=s.heap.push { cls:=.type "range",data:=.fields #[.int lo t,.int hi u,.int 1 v] },toks:=tk }:=by
 refine wpAny_pyIter_range (IsRange.new ..) (small_one h1 h2 h3 h4) ?_
 have I1:Inv X pins σ H { s with heap:=s.heap.push { cls:=.type "range",data:=.fields #[.int lo t,.int hi u,.int 1 v] },toks:=tk }:=I.kept fun b o e=>Heap.get?_push_of_some _ e
 refine ⟨(s.heap.push { cls:=.type "range",data:=.fields #[.int lo t,.int hi u,.int 1 v] }).objs.size,[(s.heap.push { cls:=.type "range",data:=.fields #[.int lo t,.int hi u,.int 1 v] }).objs.size],_,_,H,rfl,
  I1.kept (t':=tk) fun b o e=>Heap.get?_push_of_some _ e,sI _ lo (hi - lo).toNat,?_,fun b hb=>?_,q⟩
 ·have e1:lo+((0:Nat):Int) * 1=lo:=by simp
  have e2:(((hi - lo).toNat:Nat):Int) - ((0:Nat):Int)=Builtin.Range.rangeSize lo hi 1:=by rw [rangeSize_one];split<;>omega
  show IsRangeIter _ _ (lo+((0:Nat):Int) * 1) ((((hi - lo).toNat:Nat):Int) - ((0:Nat):Int)) 1
  rw [e1,e2]
  exact Heap.get?_push_size _ rfl
 ·have e:b=(s.heap.push { cls:=.type "range",data:=.fields #[.int lo t,.int hi u,.int 1 v] }).objs.size:=by simpa using hb
  subst e
  exact I1.jS (Nat.le_refl _) (I1.hok.fresh (Nat.le_refl _))
def Fi (ta:TA):TI:=fun σ H R=>ta σ H fun vs H1=>∃ j:Int,vs=[.int j]∧-(2 ^ 62)≤j∧j < 2 ^ 62∧R (Itr 0 j.toNat) H1
def DU (ta:TA):TI:=fun σ H R=>ta σ H fun vs H1=>∃ i j:Int,vs=[.int i,.int j]∧(-(2 ^ 62)≤i∧i < 2 ^ 62∧-(2 ^ 62)≤j∧j < 2 ^ 62)∧R (Itr i (j - i).toNat) H1
theorem vd {a:Expr} {ta:TA} {p pos:Pos} (hg:Gl X "range") (hm:X.mg "range"=none) (ha:PA X [a] ta) (hs:starEach [a] X.env=[(false,eval a X.env)]:=by rfl):PI X tg (.Call (.Name "range" p) [a] [] pos) (Fi ta):=by
 intro pins s σ H R I h
 refine Call_ (cq I hg hm boot_range (PyProof.Rows.callWith_type1 (thn (ha pos pins s σ H _ I h) fun us s1 ⟨vs,H1,I1,r1,q1⟩=>?_) hs rfl))
 obtain ⟨j,e,q1,q2,q⟩:=q1
 subst e
 cases r1 with
 | cons r rr=>
  cases rr
  obtain ⟨t,rfl⟩:=r
  exact call_range_1 (qb I1 (by omega) (by omega) q1 q2 (by simpa using q))
theorem vt {a b:Expr} {ta:TA} {p pos:Pos} (hg:Gl X "range") (hm:X.mg "range"=none) (ha:PA X [a,b] ta) (hs:starEach [a,b] X.env=[(false,eval a X.env),(false,eval b X.env)]:=by rfl) (hs2:starEach [b] X.env=[(false,eval b X.env)]:=by rfl) :
  PI X tg (.Call (.Name "range" p) [a,b] [] pos) (DU ta):=by
 intro pins s σ H R I h
 refine Call_ (cq I hg hm boot_range (PyProof.Rows.callWith_type1 (thn (ha pos pins s σ H _ I h) fun us s1 ⟨vs,H1,I1,r1,q1⟩=>?_) (by rw [hs,hs2]) (by rw [hs2];rfl)))
 obtain ⟨i,j,e,⟨q1,q2,q3,q4⟩,q⟩:=q1
 subst e
 cases r1 with
 | cons r rr=>
  cases rr with
  | cons r' rr=>
   cases rr
   obtain ⟨t,rfl⟩:=r
   obtain ⟨t',rfl⟩:=r'
   exact call_range_2 (qb I1 q1 q2 q3 q4 q)
def FU (wi:TI) (g:TG) (tb:TS):TS:=fun D σ H=>wi σ H fun J H1=>∃ W:Nat→Nat→St→Hp→Prop,(∃ m,W 0 m σ H1)∧∀ i m σ H,W i m σ H →
 (J.stop i H∧D.nx σ H)∨(J.go i H∧∃ N:St→Hp→Prop,(∀ σ' H',N σ' H'→∃ m',m' < m∧W (i+1) m' σ' H')∧∀ x H',J.yld i H x H'→g x σ H' fun σ2 H2=>tb { D with nx:=N,ct:=N,bk:=D.nx } σ2 H2)
def ka (fp:List Addr) (h:Heap):List (Addr×Obj):=fp.filterMap fun b=>(h.get? b).map fun o=>(b,o)
theorem gj {fp:List Addr} {h:Heap} {b:Addr} {o:Obj} (hb:b∈fp) (e:h.get? b=some o):(b,o)∈ka fp h:=List.mem_filterMap.mpr ⟨b,hb,by rw [e];rfl⟩
theorem vJ {fp:List Addr} {h:Heap} {p:Addr×Obj} (hp:p∈ka fp h):p.1∈fp∧h.get? p.1=some p.2:=by
 obtain ⟨b,hb,e⟩:=List.mem_filterMap.mp hp
 cases q:h.get? b with
 | none=>rw [q] at e;cases e
 | some o=>
  rw [q] at e
  have e':(b,o)=p:=Option.some.inj e
  subst e'
  exact ⟨hb,q⟩
theorem Inv.pinned {pins:List (Addr×Obj)} {σ:St} {H:Hp} {s:Shared} {fp:List Addr} (I:Inv X pins σ H s) (hf:∀ b∈fp,fE X pins H b) (ho:∀ b∈fp,∃ o,s.heap.get? b=some o∧∀ v,o.data≠.cell v):Inv X (pins++ka fp s.heap) σ H s:=
 I.ng fun p hp=>(List.mem_append.mp hp).elim (fun z=>I.pin p (List.mem_append_right _ z)) fun z=>by
  obtain ⟨hb,e⟩:=vJ z
  obtain ⟨f0,f1,f2,_⟩:=hf p.1 hb
  obtain ⟨o,e',d⟩:=ho p.1 hb
  rw [e] at e';cases e'
  exact ⟨e,f0,f1,f2,d⟩
theorem Inv.gP {pins pl:List (Addr×Obj)} {σ:St} {H:Hp} {s:Shared} (I:Inv X (pins++pl) σ H s):Inv X pins σ H s:=I.ng fun p hp=>I.pin p (List.mem_append_right _ (List.mem_append_left _ hp))
theorem AW {iter:Expr} {body:List Stmt} {wi:TI} {g:TG} {tb:TS} {pos:Pos} (hp:PassesOwn (model X.prog X.w) X.A X.env X.xe) (hc:X.calm=true) (hi:PI X tg iter wi) (hg:PG X tg g) (hb:PSs X body tb)
  (hs:∀ x,foldedSetIterable iter X.env x=pure x:=by intro _;rfl):PS X (.For tg iter body [] pos) (FU wi g tb):=by
 intro pins s σ H D I h
 refine wpAny_For (thn (hi pins s σ H _ I h) fun v s1 h1=>thn h1 fun itv s2 h2=>?_) hs
 obtain ⟨it,fp,tn,J,H2,e,I2,T,st2,f2,W,⟨m0,w0⟩,turn⟩:=h2
 subst e
 have stat:∀ {H':Hp},(∀ b∈fp,H' b=none)→∀ b∈fp,fE X pins H' b:=fun hn b hb=>⟨hn b hb,(f2 b hb).2⟩
 refine codeAny_forLoop_any (fun n s'=>∃ i σ' H',Inv X pins σ' H' s'∧tn i s'.heap∧(∀ b∈fp,H' b=none)∧W i n σ' H') ?_ m0 ⟨0,σ,H2,I2,st2,fun b hb=>(f2 b hb).1,w0⟩
 rintro n s3 ⟨i,σ3,H3,I3,st3,fr3,w3⟩
 rcases turn i n σ3 H3 w3 with ⟨stop,qn⟩ | ⟨go,N,hN,step⟩
 ·refine wpAny_passesOwn hp (thn (T.done X rfl rfl rfl hc i pins s3 σ3 H3 X.xe I3 (stat fr3) st3 stop) fun r s4 ⟨hr,I4⟩=>?_)
  subst hr
  exact wpAny_execs_nil ⟨σ3,H3,I4,qn⟩
 ·refine wpAny_passesOwn hp (thn (T.item X rfl rfl rfl hc i pins s3 σ3 H3 X.xe I3 (stat fr3) st3 go) fun r s4 ⟨u,hr,h4⟩=>?_)
  subst hr
  refine wpAny_passesOwn hp (thn h4 fun _ s5 ⟨x,H5,I5,r5,y5,st5,fr5⟩=>?_)
  have I5':=I5.pinned (stat fr5) (T.obj _ _ st5)
  refine wpAny_passesOwn hp (thn (hg _ s5 σ3 H5 x u _ I5' r5 (step x H5 y5)) fun _ s6 ⟨σ6,H6,I6,q6⟩=>?_)
  refine wpAny_passesOwn hp (thn (hb _ s6 σ6 H6 _ I6 q6) fun f s7 q7=>?_)
  have again:∀ {σ7:St} {H7:Hp},Inv X (pins++ka fp s5.heap) σ7 H7 s7→N σ7 H7→∃ m,m < n∧∃ i σ' H',Inv X pins σ' H' s7∧tn i s7.heap∧(∀ b∈fp,H' b=none)∧W i m σ' H':=fun {σ7 H7} I7 n7=>by
   obtain ⟨m',hm,w7⟩:=hN σ7 H7 n7
   refine ⟨m',hm,i+1,σ7,H7,I7.gP,T.keep _ _ _ st5 fun b hb o e=>(I7.pin (b,o) (List.mem_append_right _ (List.mem_append_right _ (gj hb e)))).1,fun b hb=>?_,w7⟩
   obtain ⟨o,e,d⟩:=T.obj _ _ st5 b hb
   exact (I7.pin (b,o) (List.mem_append_right _ (List.mem_append_right _ (gj hb e)))).2.1
  cases f with
  | next=>obtain ⟨σ7,H7,I7,n7⟩:=q7;exact again I7 n7
  | cont=>obtain ⟨σ7,H7,I7,n7⟩:=q7;exact again I7 n7
  | brk=>obtain ⟨σ7,H7,I7,q7⟩:=q7;exact ⟨σ7,H7,I7.gP,q7⟩
  | ret v=>obtain ⟨x7,σ7,H7,I7,r7,q7⟩:=q7;exact ⟨x7,σ7,H7,I7.gP,r7,q7⟩
end
abbrev R2:=V→V→Hp→VK→Prop
def OpR (X:Cx) (f:Value→Value→Sem Value) (r:R2):Prop:=
 ∀ (pins:List (Addr×Obj)) (s:Shared) (σ:St) (H:Hp) (x y:V) (v u:Value) (Q:VK),Inv X pins σ H s→RelV x v→RelV y u→r x y H Q →
  wpAny (model X.prog X.w) X.A (f v u) (EP X pins σ Q) X.xe s
def UnR (X:Cx) (f:Value→Sem Value) (r:V→Hp→VK→Prop):Prop:=
 ∀ (pins:List (Addr×Obj)) (s:Shared) (σ:St) (H:Hp) (x:V) (v:Value) (Q:VK),Inv X pins σ H s→RelV x v→r x H Q →
  wpAny (model X.prog X.w) X.A (f v) (EP X pins σ Q) X.xe s
def cx (X:Cx) (f:Value) (r:List V→Hp→VK→Prop):Prop:=
 ∀ (pins:List (Addr×Obj)) (s:Shared) (σ:St) (H:Hp) (xs:List V) (us:List Value) (Q:VK),Inv X pins σ H s→Vals xs us→r xs H Q →
  wpAny (model X.prog X.w) X.A (call f us) (EP X pins σ Q) X.xe s
def FF (X:Cx) (r:V→Hp→(Bool→Hp→Prop)→Prop):Prop:=
 ∀ (pins:List (Addr×Obj)) (s:Shared) (σ:St) (H:Hp) (x:V) (v:Value) (Q:Bool→Hp→Prop),Inv X pins σ H s→RelV x v→r x H Q →
  wpAny (model X.prog X.w) X.A (truthy v) (TP X pins σ Q) X.xe s
def tOp (r:R2) (ta tb:TE):TE:=fun σ H Q=>ta σ H fun x H1=>tb σ H1 fun y H2=>r x y H2 Q
def tUn (r:V→Hp→VK→Prop) (ta:TE):TE:=fun σ H Q=>ta σ H fun x H1=>r x H1 Q
def rI (C:Int→Int→Prop) (g:Int→Int→V):R2:=fun x y H Q=>∃ i j,x=.int i∧y=.int j∧C i j∧Q (g i j) H
def rI0 (g:Int→Int→V):R2:=fun x y H Q=>∃ i j,x=.int i∧y=.int j∧Q (g i j) H
def rU (g:Int→V):V→Hp→VK→Prop:=fun x H Q=>∃ i,x=.int i∧Q (g i) H
section
variable {X:Cx} {a b c:Expr} {ta tb tc:TE} {pos:Pos}
theorem xM (ha:PE X a ta) (hb:PE X b tb) {pins:List (Addr×Obj)} {s:Shared} {σ:St} {H:Hp} {R:V→V→Hp→Prop} (I:Inv X pins σ H s)
  (h:ta σ H fun x H1=>tb σ H1 fun y H2=>R x y H2) {Q:Value→Shared→Prop} {f:Value→Value→Sem Value}
  (hf:∀ v u s2 x y H2,Inv X pins σ H2 s2→RelV x v→RelV y u→R x y H2→wpAny (model X.prog X.w) X.A (f v u) Q X.xe s2) :
  wpAny (model X.prog X.w) X.A (eval a X.env) (fun v s₁=>wpAny (model X.prog X.w) X.A (eval b X.env) (fun u s₂=>wpAny (model X.prog X.w) X.A (f v u) Q X.xe s₂) X.xe s₁) X.xe s:=by
 refine thn (ha pins s σ H _ I h) fun v s1 ⟨x,H1,I1,r1,q1⟩=>?_
 refine thn (hb pins s1 σ H1 _ I1 q1) fun u s2 ⟨y,H2,I2,r2,q2⟩=>?_
 exact hf v u s2 x y H2 I2 r1 r2 q2
theorem EU {op:Operator} {r:R2} (ho:OpR X (binaryOp op) r) (ha:PE X a ta) (hb:PE X b tb):PE X (.BinOp a op b pos) (tOp r ta tb):=by
 intro pins s σ H Q I h
 exact wpAny_BinOp (xM ha hb I h fun v u s2 x y H2 I2 rx ry q=>ho pins s2 σ H2 x y v u Q I2 rx ry q)
theorem E4 {op:UnaryOp} {r:V→Hp→VK→Prop} (ho:UnR X (unaryOp op) r) (ha:PE X a ta):PE X (.UnaryOp op a pos) (tUn r ta):=by
 intro pins s σ H Q I h
 exact UnaryOp_ (thn (ha pins s σ H _ I h) fun v s1 ⟨x,H1,I1,r1,q1⟩=>ho pins s1 σ H1 x v Q I1 r1 q1)
theorem opI {f:Value→Value→Sem Value} {C:Int→Int→Prop} {g:Int→Int→Int}
  (rule:∀ (i j:Int) (t u:Tok) (s:Shared) (Q:Value→Shared→Prop) (E:Value→Shared→Prop),C i j→Q (.int (g i j) s.toks) { s with toks:=s.toks+1 }→wpAny (model X.prog X.w) X.A (f (.int i t) (.int j u)) Q E s) :
  OpR X f (rI C fun i j=>.int (g i j)):=by
 intro pins s σ H x y v u Q I rx ry h
 obtain ⟨i,j,rfl,rfl,hc,q⟩:=h
 obtain ⟨t,rfl⟩:=rx
 obtain ⟨t',rfl⟩:=ry
 exact rule i j t t' s _ _ hc ⟨.int (g i j),H,I.tok _,⟨_,rfl⟩,q⟩
theorem A7 {f:Value→Value→Sem Value} {g:Int→Int→Int}
  (rule:∀ (i j:Int) (t u:Tok) (s:Shared) (Q:Value→Shared→Prop) (E:Value→Shared→Prop),Q (.int (g i j) s.toks) { s with toks:=s.toks+1 }→wpAny (model X.prog X.w) X.A (f (.int i t) (.int j u)) Q E s) :
  OpR X f (rI0 fun i j=>.int (g i j)):=by
 intro pins s σ H x y v u Q I rx ry h
 obtain ⟨i,j,rfl,rfl,q⟩:=h
 obtain ⟨t,rfl⟩:=rx
 obtain ⟨t',rfl⟩:=ry
 exact rule i j t t' s _ _ ⟨.int (g i j),H,I.tok _,⟨_,rfl⟩,q⟩
theorem s_ {f:Value→Value→Sem Value} {g:Int→Int→Bool}
  (rule:∀ (i j:Int) (t u:Tok) (s:Shared) (Q:Value→Shared→Prop) (E:Value→Shared→Prop),Q (.bool (g i j)) s→wpAny (model X.prog X.w) X.A (f (.int i t) (.int j u)) Q E s) :
  OpR X f (rI0 fun i j=>.bl (g i j)):=by
 intro pins s σ H x y v u Q I rx ry h
 obtain ⟨i,j,rfl,rfl,q⟩:=h
 obtain ⟨t,rfl⟩:=rx
 obtain ⟨t',rfl⟩:=ry
 exact rule i j t t' s _ _ ⟨.bl (g i j),H,I,rfl,q⟩
def mZ (i j:Int):Prop:=0 < j∧j < 1073741824
def m9 (i j:Int):Prop:=0≤j∧j≤1000000∧i.natAbs < 2 ^ 64
def jf (i j:Int):Prop:=(-(2 ^ 64) < i∧i < 2 ^ 64)∨(-(2 ^ 64) < j∧j < 2 ^ 64)
theorem jf.ok {i j:Int} (h:jf i j):IntMulOk i j:=by
 rcases h with ⟨h1,h2⟩ | ⟨h1,h2⟩
 ·exact .of_left (intBits_le_64 h1 h2)
 ·exact .of_right (intBits_le_64 h1 h2)
theorem CT:OpR X (binaryOp .Add) (rI0 fun i j=>.int (i+j)):=A7 fun _ _ _ _ _ _ _ q=>add_int q
theorem ib:OpR X (binaryOp .Sub) (rI0 fun i j=>.int (i - j)):=A7 fun _ _ _ _ _ _ _ q=>sub_int q
theorem fg:OpR X (binaryOp .Mult) (rI jf fun i j=>.int (i * j)):=opI fun _ _ _ _ _ _ _ hc q=>mul_int q hc.ok
theorem Ar:OpR X (binaryOp .FloorDiv) (rI mZ fun i j=>.int (i / j)):=opI fun i j _ _ _ _ _ hc q=>by
 have h1:(0:Int) < j:=hc.1
 have h2:j < 1073741824:=hc.2
 exact floordiv_int (by omega) (by rw [Int.fdiv_eq_ediv_of_nonneg i (by omega)];exact q) (.inl (PyProof.noPylong_small (by omega)))
theorem cV:OpR X (binaryOp .Mod) (rI (fun _ j=>0 < j) fun i j=>.int (i % j)):=opI fun i j _ _ _ _ _ hc q=>by
 have h1:(0:Int) < j:=hc
 exact mod_int' (by omega) (by rw [Int.fmod_eq_emod_of_nonneg i (by omega)];exact q)
theorem pf:OpR X (binaryOp .Pow) (rI m9 fun i j=>.int (i ^ j.toNat)):=opI fun _ _ _ _ _ _ _ hc q=>pow_int_small hc.1 hc.2.1 hc.2.2 q
theorem unI {f:Value→Sem Value} {g:Int→Int}
  (rule:∀ (i:Int) (t:Tok) (s:Shared) (Q:Value→Shared→Prop) (E:Value→Shared→Prop),Q (.int (g i) s.toks) { s with toks:=s.toks+1 }→wpAny (model X.prog X.w) X.A (f (.int i t)) Q E s) :
  UnR X f (rU fun i=>.int (g i)):=by
 intro pins s σ H x v Q I rx h
 obtain ⟨i,rfl,q⟩:=h
 obtain ⟨t,rfl⟩:=rx
 exact rule i t s _ _ ⟨.int (g i),H,I.tok _,⟨_,rfl⟩,q⟩
theorem me:UnR X (unaryOp .USub) (rU fun i=>.int (-i)):=unI fun _ _ _ _ _ q=>neg_int q
end
def wH:V→V→Bool
 | .non,.non=>true | .non,.int _=>true | .int _,.non=>true | .non,.bl _=>true | .bl _,.non=>true | .non,.str _=>true | .str _,.non=>true
 | .int _,.int _=>true | .bl _,.bl _=>true | .str _,.str _=>true | .byt _,.byt _=>true
 | .int _,.str _=>true | .str _,.int _=>true | .bl _,.str _=>true | .str _,.bl _=>true
 | _,_=>false
def rEq:R2:=fun x y H Q=>wH x y=true∧Q (.bl (decide (x=y))) H
def rNe:R2:=fun x y H Q=>wH x y=true∧Q (.bl (!decide (x=y))) H
theorem sg {i j:Int}:decide (V.int i=V.int j)=(i == j):=by
 rw [Bool.eq_iff_iff]
 simp
theorem vV {i j:Bool}:decide (V.bl i=V.bl j)=(i == j):=by
 rw [Bool.eq_iff_iff]
 simp
theorem rK {i j:Str}:decide (V.str i=V.str j)=(i == j):=by
 rw [Bool.eq_iff_iff]
 simp
theorem rD {i j:Array UInt8}:decide (V.byt i=V.byt j)=(i.toList == j.toList):=by
 rw [Bool.eq_iff_iff]
 cases i
 cases j
 simp
section
variable {X:Cx} {a b c:Expr} {ta tb tc:TE} {pos:Pos}
theorem bw {pins:List (Addr×Obj)} {σ:St} {H:Hp} {s:Shared} {Q:VK} {k k':Bool} (I:Inv X pins σ H s) (q:Q (.bl k) H) (e:k=k'):EP X pins σ Q (.bool k') s:=by
 subst e
 exact ⟨.bl k,H,I,rfl,q⟩
theorem ET:OpR X (compareOp .Eq) rEq:=by
 intro pins s σ H x y v u Q I rx ry h
 obtain ⟨hs,q⟩:=h
 cases x with
 | non=>
  cases rx
  cases y with
  | non=>cases ry;exact PySem.EqNone.eq_none_none (bw I q (by simp))
  | bl j=>cases ry;exact PySem.EqNone.eq_none_bool (bw I q (by simp))
  | int j=>obtain ⟨t',rfl⟩:=ry;exact PySem.EqNone.eq_none_int (bw I q (by simp))
  | str j=>obtain ⟨t',rfl⟩:=ry;exact PySem.EqNone.eq_none_str (bw I q (by simp))
  | _=>exact absurd (show false=true from hs) Bool.false_ne_true
 | bl i=>
  cases rx
  cases y with
  | non=>cases ry;exact PySem.EqNone.eq_bool_none (bw I q (by simp))
  | bl j=>cases ry;exact eq_bool (bw I q vV)
  | str j=>obtain ⟨t',rfl⟩:=ry;exact PySem.EqMixed.eq_bool_str (bw I q (by simp))
  | _=>exact absurd (show false=true from hs) Bool.false_ne_true
 | int i=>
  obtain ⟨t,rfl⟩:=rx
  cases y with
  | non=>cases ry;exact PySem.EqNone.eq_int_none (bw I q (by simp))
  | int j=>obtain ⟨t',rfl⟩:=ry;exact eq_int (bw I q sg)
  | str j=>obtain ⟨t',rfl⟩:=ry;exact PySem.EqMixed.eq_int_str (bw I q (by simp))
  | _=>exact absurd (show false=true from hs) Bool.false_ne_true
 | str i=>
  obtain ⟨t,rfl⟩:=rx
  cases y with
  | non=>cases ry;exact PySem.EqNone.eq_str_none (bw I q (by simp))
  | bl j=>cases ry;exact PySem.EqMixed.eq_str_bool (bw I q (by simp))
  | int j=>obtain ⟨t',rfl⟩:=ry;exact PySem.EqMixed.eq_str_int (bw I q (by simp))
  | str j=>obtain ⟨t',rfl⟩:=ry;exact eq_str (bw I q rK)
  | _=>exact absurd (show false=true from hs) Bool.false_ne_true
 | byt i=>
  obtain ⟨t,rfl⟩:=rx
  cases y with
  | byt j=>obtain ⟨t',rfl⟩:=ry;exact PySem.W.eq_bytes (bw I q rD)
  | _=>exact absurd (show false=true from hs) Bool.false_ne_true
 | _=>cases y<;>exact absurd (show false=true from hs) Bool.false_ne_true
theorem Ei:OpR X (compareOp .NotEq) rNe:=by
 intro pins s σ H x y v u Q I rx ry h
 obtain ⟨hs,q⟩:=h
 cases x with
 | non=>
  cases rx
  cases y with
  | non=>cases ry;exact PySem.EqNone.ne_none_none (bw I q (by simp))
  | bl j=>cases ry;exact PySem.EqNone.ne_none_bool (bw I q (by simp))
  | int j=>obtain ⟨t',rfl⟩:=ry;exact PySem.EqNone.ne_none_int (bw I q (by simp))
  | str j=>obtain ⟨t',rfl⟩:=ry;exact PySem.EqNone.ne_none_str (bw I q (by simp))
  | _=>exact absurd (show false=true from hs) Bool.false_ne_true
 | bl i=>
  cases rx
  cases y with
  | non=>cases ry;exact PySem.EqNone.ne_bool_none (bw I q (by simp))
  | bl j=>cases ry;exact ne_bool (bw I q (congrArg not vV))
  | str j=>obtain ⟨t',rfl⟩:=ry;exact PySem.EqMixed.ne_bool_str (bw I q (by simp))
  | _=>exact absurd (show false=true from hs) Bool.false_ne_true
 | int i=>
  obtain ⟨t,rfl⟩:=rx
  cases y with
  | non=>cases ry;exact PySem.EqNone.ne_int_none (bw I q (by simp))
  | int j=>obtain ⟨t',rfl⟩:=ry;exact ne_int (bw I q (congrArg not sg))
  | str j=>obtain ⟨t',rfl⟩:=ry;exact PySem.EqMixed.ne_int_str (bw I q (by simp))
  | _=>exact absurd (show false=true from hs) Bool.false_ne_true
 | str i=>
  obtain ⟨t,rfl⟩:=rx
  cases y with
  | non=>cases ry;exact PySem.EqNone.ne_str_none (bw I q (by simp))
  | bl j=>cases ry;exact PySem.EqMixed.ne_str_bool (bw I q (by simp))
  | int j=>obtain ⟨t',rfl⟩:=ry;exact PySem.EqMixed.ne_str_int (bw I q (by simp))
  | str j=>obtain ⟨t',rfl⟩:=ry;exact ne_str (bw I q (congrArg not rK))
  | _=>exact absurd (show false=true from hs) Bool.false_ne_true
 | byt i=>
  obtain ⟨t,rfl⟩:=rx
  cases y with
  | byt j=>obtain ⟨t',rfl⟩:=ry;exact PySem.W.ne_bytes (bw I q (congrArg not rD))
  | _=>exact absurd (show false=true from hs) Bool.false_ne_true
 | _=>cases y<;>exact absurd (show false=true from hs) Bool.false_ne_true
theorem il:OpR X (compareOp .Lt) (rI0 fun i j=>.bl (decide (i < j))):=s_ fun _ _ _ _ _ _ _ q=>lt_int q
theorem ic:OpR X (compareOp .LtE) (rI0 fun i j=>.bl (decide (i≤j))):=s_ fun _ _ _ _ _ _ _ q=>le_int q
theorem sY:OpR X (compareOp .Gt) (rI0 fun i j=>.bl (decide (j < i))):=s_ fun _ _ _ _ _ _ _ q=>gt_int q
theorem sW:OpR X (compareOp .GtE) (rI0 fun i j=>.bl (decide (j≤i))):=s_ fun _ _ _ _ _ _ _ q=>ge_int q
theorem Dr:OpR X (compareOp .Is) (fun x y H Q=>y=.non∧Q (.bl (decide (x=.non))) H):=by
  intro pins s σ H x y v u Q I rx ry h
  obtain ⟨rfl,q⟩:=h
  cases ry
  refine is_none_gen (bw I q ?_)
  cases x<;>first
    | (cases rx;rfl)
    | (obtain ⟨t,rfl⟩:=rx;rfl)
theorem yX:OpR X (compareOp .IsNot) (fun x y H Q=>y=.non∧Q (.bl (!decide (x=.non))) H):=by
  intro pins s σ H x y v u Q I rx ry h
  obtain ⟨rfl,q⟩:=h
  cases ry
  refine isnot_none_gen (bw I q ?_)
  cases x<;>first
    | (cases rx;rfl)
    | (obtain ⟨t,rfl⟩:=rx;rfl)
theorem OpR.or {f:Value→Value→Sem Value} {r r':R2} (h:OpR X f r) (h':OpR X f r'):OpR X f (fun x y H Q=>r x y H Q∨r' x y H Q):=by
 intro pins s σ H x y v u Q I rx ry q
 rcases q with q | q
 ·exact h pins s σ H x y v u Q I rx ry q
 ·exact h' pins s σ H x y v u Q I rx ry q
theorem uQ (b:Expr) {op:CmpOp} (h:op≠.In:=by decide) (h2:op≠.NotIn:=by decide):behindInMarks op b=false:=by
  have e1:(op == CmpOp.In)=false:=by cases op<;>first | rfl | exact absurd rfl h
  have e2:(op == CmpOp.NotIn)=false:=by cases op<;>first | rfl | exact absurd rfl h2
  cases b<;>simp [behindInMarks,e1,e2]
theorem Aa {op:CmpOp} {r:R2} (ho:OpR X (compareOp op) r) (ha:PE X a ta) (hb:PE X b tb) (hm:behindInMarks op b=false):PE X (.Compare a [op] [b] pos) (tOp r ta tb):=by
 intro pins s σ H Q I h
 exact wpAny_Compare1 (xM ha hb I h fun v u s2 x y H2 I2 rx ry q=>ho pins s2 σ H2 x y v u Q I2 rx ry q) hm
def yf (t:TE):TT:=fun σ H Q=>t σ H fun x H'=>∃ k,x=.bl k∧Q k H'
theorem Aq {op:CmpOp} {r:R2} (ho:OpR X (compareOp op) r) (ha:PE X a ta) (hb:PE X b tb) (hm:behindInMarks op b=false):PT X (.Compare a [op] [b] pos) (yf (tOp r ta tb)):=by
 intro pins s σ H Q I h
 refine wpAny_isTrue_Compare1 (thn (ha pins s σ H _ I h) fun v s1 ⟨x,H1,I1,r1,q1⟩=>thn (hb pins s1 σ H1 _ I1 q1) fun u s2 ⟨y,H2,I2,r2,q2⟩=>
  thn (ho pins s2 σ H2 x y v u _ I2 r1 r2 q2) fun c s3 ⟨z,H3,I3,r3,k,e,q3⟩=>?_) hm
 subst e
 cases r3
 exact wpAny_truthy_bool ⟨H3,I3,q3⟩
def pU (r r':R2) (ta tb tc:TE):TE:=fun σ H Q=>ta σ H fun x H1=>tb σ H1 fun y H2=>r x y H2 fun z H3=>∃ k,z=.bl k ∧
 (if k=true then tc σ H3 fun w' H4=>r' y w' H4 Q else Q (.bl false) H3)
theorem xF {op op':CmpOp} {r r':R2} (ho:OpR X (compareOp op) r) (ho':OpR X (compareOp op') r') (ha:PE X a ta) (hb:PE X b tb) (hc:PE X c tc)
  (hm:lastMarks [op,op'] [b,c]=false:=by with_unfolding_all rfl):PE X (.Compare a [op,op'] [b,c] pos) (pU r r' ta tb tc):=by
 intro pins s σ H Q I h
 refine Compare_chain (thn (ha pins s σ H _ I h) fun v s1 ⟨x,H1,I1,r1,q1⟩=>chain_link (thn (hb pins s1 σ H1 _ I1 q1) fun u s2 ⟨y,H2,I2,r2,q2⟩=>
  thn (ho pins s2 σ H2 x y v u _ I2 r1 r2 q2) fun d s3 ⟨z,H3,I3,r3,k,e,q3⟩=>?_)) hm
 subst e
 cases r3
 refine wpAny_truthy_bool ?_
 cases k with
 | false=>exact ite_ff ⟨.bl false,H3,I3,rfl,q3⟩
 | true=>exact ite_tt (chain_last (thn (hc pins s3 σ H3 _ I3 q3) fun w' s4 ⟨z',H4,I4,r4,q4⟩=>ho' pins s4 σ H4 y z' u w' Q I4 r2 r4 q4))
theorem xT {op op':CmpOp} {r r':R2} (ho:OpR X (compareOp op) r) (ho':OpR X (compareOp op') r') (ha:PE X a ta) (hb:PE X b tb) (hc:PE X c tc)
  (hm:lastMarks [op,op'] [b,c]=false:=by with_unfolding_all rfl):PT X (.Compare a [op,op'] [b,c] pos) (yf (pU r r' ta tb tc)):=by
 intro pins s σ H Q I h
 refine isTrue_chain (thn (ha pins s σ H _ I h) fun v s1 ⟨x,H1,I1,r1,q1⟩=>test_link (thn (hb pins s1 σ H1 _ I1 q1) fun u s2 ⟨y,H2,I2,r2,q2⟩=>
  thn (ho pins s2 σ H2 x y v u _ I2 r1 r2 q2) fun d s3 ⟨z,H3,I3,r3,k,e,q3⟩=>?_)) hm
 subst e
 cases r3
 refine wpAny_truthy_bool ?_
 cases k with
 | false=>
  obtain ⟨k',e',q'⟩:=q3
  cases e'
  exact ite_ff ⟨H3,I3,q'⟩
 | true=>
  refine ite_tt (test_last (thn (hc pins s3 σ H3 _ I3 q3) fun w' s4 ⟨z',H4,I4,r4,q4⟩=>thn (ho' pins s4 σ H4 y z' u w' _ I4 r2 r4 q4) fun d' s5 ⟨z2,H5,I5,r5,k2,e2,q5⟩=>?_))
  subst e2
  cases r5
  exact wpAny_truthy_bool ⟨H5,I5,q5⟩
def wm (K:PySem.W.Frag) (x:V) (H:Hp) (k:Bool):Prop:=
 match x with
 | .non=>k=false
 | .bl b=>k=b
 | .int i=>k=(i != 0)
 | .str y=>y.length≤sizeLine∧k=((y.length:Int) != 0)
 | .byt y=>y.size≤sizeLine∧k=((y.size:Int) != 0)
 | .ref p=>(∃ xs,SqL K H p xs∧k=!xs.isEmpty)∨(∃ xs,SqT K H p xs∧k=!xs.isEmpty)∨∃ kvs,H p=some (.dK kvs)∧k=!kvs.isEmpty
 | _=>False
theorem tP {κ:Type} {kvs:List (κ×V)} {vs:List (κ×Value)} (r:KV kvs vs):(!vs.isEmpty)=!kvs.isEmpty:=by
 cases r<;>rfl
theorem mF {xs:List V} {its:List Value} (r:Vals xs its):(!its.toArray.isEmpty)=!xs.isEmpty:=by
 cases r<;>simp
theorem j6:(sizeLine:Nat) < 2 ^ 63:=by rw [sizeLine_eq];decide
theorem AZ:FF X (fun x H Q=>∃ k,wm X.K x H k∧Q k H):=by
 intro pins s σ H x v Q I rx h
 obtain ⟨k,e,q⟩:=h
 have hl:=j6
 have hs:sizeLine=16777216:=sizeLine_eq
 cases x with
 | non=>
  cases rx
  have e':k=false:=e
  subst e'
  exact truthy_none ⟨H,I,q⟩
 | bl b=>
  cases rx
  have e':k=b:=e
  subst e'
  exact wpAny_truthy_bool ⟨H,I,q⟩
 | int i=>
  obtain ⟨t,rfl⟩:=rx
  have e':k=(i != 0):=e
  subst e'
  exact PySem.P.truthy_int ⟨H,I,q⟩
 | str y=>
  obtain ⟨t,rfl⟩:=rx
  obtain ⟨hy,e'⟩:y.length≤sizeLine∧k=((y.length:Int) != 0):=e
  subst e'
  exact PySem.P.truthy_str (by omega) ⟨H,I.tok _,q⟩
 | byt y=>
  obtain ⟨t,rfl⟩:=rx
  obtain ⟨hy,e'⟩:y.size≤sizeLine∧k=((y.size:Int) != 0):=e
  subst e'
  exact PySem.W.truthy_bytes (by omega) ⟨H,I.tok _,q⟩
 | ref p=>
  cases rx
  have e':(∃ xs,SqL X.K H p xs∧k=!xs.isEmpty)∨(∃ xs,SqT X.K H p xs∧k=!xs.isEmpty)∨∃ kvs,H p=some (.dK kvs)∧k=!kvs.isEmpty:=e
  rcases e' with ⟨xs,hx,e'⟩ | ⟨xs,hx,e'⟩ | ⟨kvs,hx,e'⟩
  ·subst e'
   obtain ⟨its,r,pl,hz⟩:=I.list hx
   have hlen:=r.length
   exact wpAny_truthy_list pl.isList (by simp only [List.size_toArray];omega) ⟨H,I.tok _,by rw [mF r];exact q⟩
  ·subst e'
   obtain ⟨its,r,pl,hz⟩:=I.tuple hx
   have hlen:=r.length
   exact truthy_tuple pl (by simp only [List.size_toArray];omega) ⟨H,I.tok _,by rw [mF r];exact q⟩
  ·subst e'
   obtain ⟨hz,hS,vs,r,m⟩:kvs.length≤sizeLine∧(p == sysModules)=false∧∃ vs,KV kvs vs∧s.heap.DictOf (bz X.prog X.w) p vs:=I.hok p _ hx
   have hlen:kvs.length=vs.length:=Paired.length r
   exact wpAny_truthy_dict hS m (by omega) ⟨H,I.tok _,by rw [tP r];exact q⟩
 | _=>exact (show False from e).elim
theorem xW (ha:PE X a ta) (he:∀ whole,isTrue a X.env whole=(do let v ← whole;standAt a.pos;holding [v] (truthy v))) :
  PT X a (fun σ H Q=>ta σ H fun x H'=>∃ k,wm X.K x H' k∧Q k H'):=by
 intro pins s σ H Q I h
 exact isTrue_plain (thn (ha pins s σ H _ I h) fun v s1 ⟨x,H1,I1,r1,q1⟩=>AZ pins s1 σ H1 x v Q I1 r1 q1) (he _)
theorem sM:OpR X (binaryOp .Add) (fun x y H Q=>∃ i j,x=.str i∧y=.str j∧i.length+j.length≤sizeLine∧Q (.str (i++j)) H):=by
 intro pins s σ H x y v u Q I rx ry h
 obtain ⟨i,j,rfl,rfl,hz,q⟩:=h
 obtain ⟨t,rfl⟩:=rx
 obtain ⟨t',rfl⟩:=ry
 exact add_str (fun t' tk=>⟨.str (i++j),H,I.tok _,⟨_,rfl⟩,q⟩) hz
theorem vals1 {x:V} {us:List Value} (r:Vals [x] us):∃ u,us=[u]∧RelV x u:=by
 cases r with
 | cons r1 r2=>cases r2;exact ⟨_,rfl,r1⟩
def Gb (K:PySem.W.Frag) (x:V) (H:Hp) (n:Nat):Prop:=
 match x with
 | .str y=>y.length≤sizeLine∧n=y.length
 | .byt y=>y.size≤sizeLine∧n=y.size
 | .ref p=>(∃ xs,SqL K H p xs∧n=xs.length)∨∃ xs,SqT K H p xs∧n=xs.length
 | _=>False
theorem ph:cx X (.builtin "len") (fun xs H Q=>∃ x n,xs=[x]∧Gb X.K x H n∧Q (.int n) H):=by
 intro pins s σ H xs us Q I r h
 obtain ⟨x,n,rfl,e,q⟩:=h
 obtain ⟨u,rfl,rx⟩:=vals1 r
 have hl:=j6
 have hs:sizeLine=16777216:=sizeLine_eq
 cases x with
 | str y=>
  obtain ⟨t,rfl⟩:=rx
  obtain ⟨hy,e'⟩:y.length≤sizeLine∧n=y.length:=e
  subst e'
  exact len_str (by omega) ⟨.int _,H,I.tok _,⟨_,rfl⟩,q⟩
 | byt y=>
  obtain ⟨t,rfl⟩:=rx
  obtain ⟨hy,e'⟩:y.size≤sizeLine∧n=y.size:=e
  subst e'
  exact PySem.W.len_bytes (by omega) ⟨.int _,H,I.tok _,⟨_,rfl⟩,q⟩
 | ref p=>
  cases rx
  have e':(∃ xs,SqL X.K H p xs∧n=xs.length)∨∃ xs,SqT X.K H p xs∧n=xs.length:=e
  rcases e' with ⟨xs,hx,e'⟩ | ⟨xs,hx,e'⟩
  ·subst e'
   obtain ⟨its,r',pl,hz⟩:=I.list hx
   have hlen:=r'.length
   exact Calls.call_len_list pl.isList (by simp only [List.size_toArray];omega) ⟨.int xs.length,H,I.tok _,⟨_,by simp only [List.size_toArray];rw [hlen]⟩,q⟩
  ·subst e'
   obtain ⟨its,r',pl,hz⟩:=I.tuple hx
   have hlen:=r'.length
   exact len_tuple pl (by simp only [List.size_toArray];omega) ⟨.int xs.length,H,I.tok _,⟨_,by simp only [List.size_toArray];rw [hlen]⟩,q⟩
 | _=>exact (show False from e).elim
end
structure wR (h:Heap) (x dx C:Addr) (mA:Str→Option Value):Prop where
 obj:h.get? x=some (PySem.W.instObj C dx)
 ns:h.Ns1 dx mA
 ne:dx≠x
theorem vA {h:Heap} {dx:Addr} {mA:Str→Option Value} (n:h.Ns1 dx mA):∃ od,h.get? dx=some od∧∀ name,PySem.W.lookIn name od=some (mA name):=by
 obtain ⟨o,es,ep,ho,hd,hk,_,hm⟩:=n
 refine ⟨o,ho,fun name=>?_⟩
 have e:=hm name
 unfold nsFind findBy at e
 rw [← Array.find?_toList] at e
 unfold PySem.W.lookIn
 rw [hd]
 dsimp only
 split
 ·rename_i y q
  rw [q] at e
  exact congrArg some e
 ·rename_i q
  rw [q] at e
  have a:es.toList.any (·.refKey)=false:=by
   rw [List.any_eq_false]
   intro y hy
   obtain ⟨z,t,hkey⟩:=hk y (Array.mem_toList_iff.mp hy)
   simp [DictEntry.refKey,hkey]
  have a':¬es.toList.any (·.refKey)=true:=by rw [a];exact Bool.false_ne_true
  rw [if_neg a']
  exact congrArg some e
theorem wR.look {h:Heap} {x dx C:Addr} {mA:Str→Option Value} (I:wR h x dx C mA):∃ od,PySem.W.InstAt h x (PySem.W.instObj C dx) C (some od)∧∀ name,PySem.W.lookIn name od=some (mA name):=
 let ⟨od,ho,hl⟩:=vA I.ns
 ⟨od,⟨I.obj,rfl,rfl,ho⟩,hl⟩
theorem fC.some_of {v:V} {o:Option Value} (r:fC (some v) o):∃ u,o=some u∧RelV v u:=by
 cases o with
 | none=>exact (show False from r).elim
 | some u=>exact ⟨u,rfl,r⟩
section
variable {P:Program} {w:World} {H H':Hp} {h h':Heap} {a C dx:Addr} {fs fs':List (Str×V)}
theorem zx (hok:HOk P w H h) (e:H a=some (.ins C dx fs)):∃ mA,wR h a dx C mA∧(∀ f,fC (fs.lookup f) (mA f))∧PySem.Within mA (fs.map (·.1))∧fs.length≤1000∧H dx=some (.own a):=by
 obtain ⟨d,z,ne,ob,mA,n,r,q⟩:=(show bH P w H h a (.ins C dx fs) from hok a _ e)
 exact ⟨mA,⟨ob,n,ne⟩,r,q,z,d⟩
end
structure Cls (K:PySem.W.Frag) (C:Addr):Prop where
 pg:PySem.W.plainGet K C Str.empty=true
 hd:PySem.W.hasDictIn K C=true
 po:PySem.W.plainOver K C=true
 sa:PySem.W.findIn K (.ref C) "__setattr__"=some (some (.builtin "object.__setattr__"))
theorem Cls.get {K:PySem.W.Frag} {C:Addr} (c:Cls K C) (f:Str):PySem.W.plainGet K C f=true:=c.pg
structure Con (K:PySem.W.Frag) (C:Addr) (f:Str) (v:V) (u:Value):Prop where
 at_:PySem.W.findIn K (.ref C) f=some (some u)
 rel:RelV v u
 get:PySem.W.specialIn K u "__get__"=some none
 cp:PySem.W.copiedNames.contains f=false
structure Meth (K:PySem.W.Frag) (C:Addr) (m:Str) (f:Addr):Prop where
 at_:PySem.W.findIn K (.ref C) m=some (some (.ref f))
 fn:PySem.W.isFn K (.ref f)=true
 kp:PySem.W.keepIn K (.ref f)=true
section
variable {X:Cx} {pins:List (Addr×Obj)} {σ:St} {H:Hp} {s:Shared} {A:Around} {E:Value→Shared→Prop} {Q:Value→Shared→Prop} {c:Value} {b:Bool}
inductive fA (K:PySem.W.Frag) (H:Hp):V→Value→Prop where
 | non:fA K H .non (.type "NoneType")
 | bl (x:Bool):fA K H (.bl x) (.type "bool")
 | int (i:Int):fA K H (.int i) (.type "int")
 | str (x:Str):fA K H (.str x) (.type "str")
 | flt (x:UInt64):fA K H (.flt x) (.type "float")
 | lst {a:Addr} {xs:List V} (e:H a=some (.lst xs)):fA K H (.ref a) (.type "list")
 | frz {a:Addr} {o:Obj} {xs:List V} (e:H a=some (.frz o (.lst xs))):fA K H (.ref a) (.type "list")
 | tup {a:Addr} {xs:List V} (e:H a=some (.tup xs)):fA K H (.ref a) (.type "tuple")
 | dK {a:Addr} {kvs:List (Key×V)} (e:H a=some (.dK kvs)):fA K H (.ref a) (.type "dict")
 | dT {a:Addr} {kvs:List (List Key×V)} (e:H a=some (.dT kvs)):fA K H (.ref a) (.type "dict")
 | ins {a C dx:Addr} {fs:List (Str×V)} (e:H a=some (.ins C dx fs)) (cl:Cls K C) (ha:PySem.W.findIn K (.ref C) "__class__"=some (some (.builtin "object.__class__")))
   (hn:PySem.W.specialIn K (.builtin "object.__class__") "__get__"=some (some (.builtin "getset_descriptor.__get__"))) (htk:PySem.W.takesIn K (.builtin "object.__class__")=some true)
   (hm:PySem.W.mroIn K C (.type "object")=some true):fA K H (.ref a) (.ref C)
theorem uw {x:V} {u t:Value} (I:Inv X pins σ H s) (rx:RelV x u) (ty:fA X.K H x t) (e:PySem.W.kitOne X.K t c=some b) (h:∀ tk,Q (.bool b) { s with toks:=tk }) :
  wpAny (model X.prog X.w) A (call (.builtin "isinstance") [u,c]) Q E s:=by
 cases ty with
 | non=>cases (show u=Value.none from rx);exact PySem.W.kia_one PySem.W.kitx_none I.kIn True.intro e (fun z=>nomatch z) h
 | bl y=>cases (show u=Value.bool y from rx);exact PySem.W.kia_one PySem.W.kitx_bool I.kIn True.intro e (fun z=>nomatch z) h
 | int i=>obtain ⟨t,q⟩:=(show ∃ t,u=Value.int i t from rx);cases q;exact PySem.W.kia_one PySem.W.kitx_int I.kIn True.intro e (fun z=>nomatch z) h
 | str y=>obtain ⟨t,q⟩:=(show ∃ t,u=Value.str y t from rx);cases q;exact PySem.W.kia_one PySem.W.kitx_str I.kIn True.intro e (fun z=>nomatch z) h
 | flt y=>obtain ⟨t,q⟩:=(show ∃ t,u=Value.float y t from rx);cases q;exact PySem.W.kia_one PySem.W.kitx_float I.kIn True.intro e (fun z=>nomatch z) h
 | @lst a xs ea=>
  cases (show u=Value.ref a from rx)
  obtain ⟨_,_,n,_,h1⟩:=(show bH X.prog X.w H s.heap a (.lst xs) from I.hok a _ ea)
  exact PySem.W.kia_one PySem.W.kitx_list I.kIn ⟨_,h1,rfl⟩ e (fun z=>nomatch z) h
 | @frz a ob xs ea=>
  cases (show u=Value.ref a from rx)
  obtain ⟨_,_,_,n,_,h1⟩:=(show bH X.prog X.w H s.heap a (.frz ob (.lst xs)) from I.hok a _ ea)
  exact PySem.W.kia_one PySem.W.kitx_list I.kIn ⟨_,h1,rfl⟩ e (fun z=>nomatch z) h
 | @tup a xs ea=>
  cases (show u=Value.ref a from rx)
  obtain ⟨_,_,_,p⟩:=(show bH X.prog X.w H s.heap a (.tup xs) from I.hok a _ ea)
  obtain ⟨o,h1,h2,_⟩:=p
  exact PySem.W.kia_one PySem.W.kitx_tuple I.kIn ⟨o,h1,h2⟩ e (fun z=>nomatch z) h
 | @dK a kvs ea=>
  cases (show u=Value.ref a from rx)
  obtain ⟨_,_,vs,_,p⟩:=(show bH X.prog X.w H s.heap a (.dK kvs) from I.hok a _ ea)
  obtain ⟨o,es,ep,h1,h2,_⟩:=p
  exact PySem.W.kia_one PySem.W.kitx_dict I.kIn ⟨o,h1,h2.1⟩ e (fun z=>nomatch z) h
 | @dT a kvs ea=>
  cases (show u=Value.ref a from rx)
  obtain ⟨_,_,xs,_,o,es,ep,h1,h2,_⟩:=(show bH X.prog X.w H s.heap a (.dT kvs) from I.hok a _ ea)
  exact PySem.W.kia_one PySem.W.kitx_dict I.kIn ⟨o,h1,h2.1⟩ e (fun z=>nomatch z) h
 | @ins a C dx fs ea cl ha hn htk hm=>
  cases (show u=Value.ref a from rx)
  obtain ⟨mA,O,_⟩:=zx I.hok ea
  obtain ⟨od,J,_⟩:=O.look
  exact PySem.W.kia_one (PySem.W.kitx_own (cl.get _) cl.hd ha hn htk hm) I.kIn J e (fun z=>nomatch z) h
end
structure cW (k:Nat) (A:Around):Prop where
 hd:A.handled=none
 dp:A.depth+3 * k+5 < recursionLimit
 un:A.units+16 * k+200 < cLine
theorem cW.mono {j k:Nat} {A:Around} (r:cW k A) (h:j≤k):cW j A:=⟨r.hd,by have:=r.dp;omega,by have:=r.un;omega⟩
theorem cW.deeper {k:Nat} {A:Around} (r:cW (k+1) A) (env:Env):cW k (A.deeper env):=
 ⟨r.hd,by have:=r.dp;show A.depth+1+3 * k+5 < _;omega,by have:=r.un;show A.units+3+16 * k+200 < _;omega⟩
theorem cW.depth {k:Nat} {A:Around} (r:cW k A):A.depth < recursionLimit:=by have:=r.dp;omega
theorem cW.units {k:Nat} {A:Around} (r:cW k A):A.units+64 < cLine:=by have:=r.un;omega
def Fs:TA:=fun _ H Q=>Q [] H
def Eh (ta:TE) (tr:TA):TA:=fun σ H Q=>ta σ H fun x H1=>tr σ H1 fun xs H2=>Q (x :: xs) H2
section
variable {X:Cx} {e:Expr} {es:List Expr} {te:TE} {t:TA} {pos:Pos}
theorem gR:PA X [] Fs:=fun _ _ _ _ H Q I h=>Calls.spliced_nil ⟨[],H,I,.nil,h⟩
theorem eJ (ha:PE X e te) (hr:PA X es t) (hs:starEach (e :: es) X.env=(false,eval e X.env) :: starEach es X.env:=by rfl):PA X (e :: es) (Eh te t):=by
 intro pos pins s σ H Q I h
 rw [hs]
 show wpAny _ _ (spliced ((false,eval e X.env) :: backTo pos (starEach es X.env))) _ _ s
 refine Calls.spliced_cons (thn (ha pins s σ H _ I h) fun u s1 ⟨x,H1,I1,r1,q1⟩=>?_)
 exact thn (hr pos pins s1 σ H1 _ I1 q1) fun us s2 ⟨xs,H2,I2,r2,q2⟩=>⟨x :: xs,H2,I2,.cons r1 r2,q2⟩
def F2 (t:TA):TE:=fun σ H Q=>t σ H fun xs H1=>xs.length≤sizeLine∧∀ p,H1 p=none→Q (.ref p) (upd H1 p (.tup xs))
def Fx (t:TA):TE:=fun σ H Q=>t σ H fun xs H1=>xs.length≤sizeLine∧∀ p,H1 p=none→Q (.ref p) (upd H1 p (.lst xs))
theorem CW {x1} (h:PA X es t):PE X (.Tuple es x1 pos) (F2 t):=by
 intro pins s σ H Q I hq
 refine wpAny_Tuple_spliced (thn (h pos pins s σ H _ I hq) fun us s1 ⟨xs,H1,I1,r,z,q⟩=>⟨by rw [← r.length];exact z,?_⟩)
 have hf:H1 s1.heap.objs.size=none:=I1.hok.fresh (Nat.le_refl _)
 refine ⟨.ref s1.heap.objs.size,upd H1 s1.heap.objs.size (.tup xs),I1.laid (t':=s1.toks) (fun b u e=>Heap.get?_push_of_some _ e) (Nat.le_refl _) ?_,rfl,q _ hf⟩
 exact ⟨z,us,r,⟨_,Heap.get?_push_size _ rfl,rfl,_,rfl⟩⟩
theorem vL (h:PA X es t):PE X (.List es pos) (Fx t):=by
 intro pins s σ H Q I hq
 refine wpAny_List_spliced (thn (h pos pins s σ H _ I hq) fun us s1 ⟨xs,H1,I1,r,z,q⟩=>⟨by rw [← r.length];exact z,?_⟩)
 have hf:H1 s1.heap.objs.size=none:=I1.hok.fresh (Nat.le_refl _)
 refine ⟨.ref s1.heap.objs.size,upd H1 s1.heap.objs.size (.lst xs),I1.laid (t':=s1.toks) (fun b u e=>Heap.get?_push_of_some _ e) (Nat.le_refl _) ?_,rfl,q _ hf⟩
 exact ⟨z,us,0,r,Heap.get?_push_size _ rfl⟩
end
abbrev Sp:=List V→Hp→VK→XK→Prop
abbrev CXT:=List Env→Hp→Shared→XK→Value→Shared→Prop
structure tH (P:Program) (w:World) (K:PySem.W.Frag) (mg:Str→Option Value) (base:Heap) (A:Around) (outer:List Env) (s:Shared) (H:Hp):Prop where
 frames:A.frames=some outer
 mod:Mod K mg base
 bs:∀ b o,base.get? b=some o→s.heap.get? b=some o∧H b=none
 bsz:base.objs.size≤s.heap.objs.size
 h_:s.heap.FunFrames base outer
 frf:∀ b∈frs outer,H b=none
 hok:HOk P w H s.heap
 bare:AllBare s.gens
def CE (outer:List Env) (P:Program) (w:World) (H:Hp) (s:Shared) (Q:VK) (u:Value) (s':Shared):Prop:=
 ∃ v H',s'.os=s.os∧AllBare s'.gens∧Un (frs outer) [] H H' s.heap s'.heap∧HOk P w H' s'.heap∧RelV v u∧Q v H'
def CR (CX:CXT) (outer:List Env) (P:Program) (w:World) (H:Hp) (s:Shared) (Q:VK) (E:XK) (r:Result) (s':Shared):Prop:=
 match r with
 | .ok (.ret u)=>CE outer P w H s Q u s'
 | .ok _=>False
 | .error e=>CX outer H s E e s'
structure fw (P:Program) (w:World) (K:PySem.W.Frag) (mg:Str→Option Value) (base:Heap) (CX:CXT) (k:Nat) (f:Addr) (fd:FuncData) (ps:List Str) (sp:Sp):Prop where
 len:∀ vs H Q E,sp vs H Q E→vs.length=ps.length
 run:∀ (A:Around) (outer:List Env) (s:Shared) (H:Hp) (args:Args) (us:List Value) (vs:List V) (Q:VK) (E:XK),cW k A→tH P w K mg base A outer s H→BindsTo s fd args (ps.zip us)→Vals vs us→sp vs H Q E →
  codeAny (model P w) A (.call (.ref f) args) (CR CX outer P w H s Q E) s
theorem fw.imp {P:Program} {w:World} {K:PySem.W.Frag} {mg:Str→Option Value} {base:Heap} {CX:CXT} {k:Nat} {f:Addr} {fd:FuncData} {ps:List Str} {sp sp':Sp} (F:fw P w K mg base CX k f fd ps sp)
  (h:∀ vs H Q E,sp' vs H Q E→sp vs H Q E):fw P w K mg base CX k f fd ps sp':=
 ⟨fun vs H Q E q=>F.len vs H Q E (h _ _ _ _ q),fun A outer s H args us vs Q E hr he hb hv hs=>F.run A outer s H args us vs Q E hr he hb hv (h _ _ _ _ hs)⟩
section
variable {X:Cx} {pins:List (Addr×Obj)} {σ:St} {H:Hp} {s s':Shared}
theorem Inv.F1 (I:Inv X pins σ H s):tH X.prog X.w X.K X.mg X.base X.A X.stack s H:=
 ⟨I.ok.frames,I.ok.mod,I.bs,Nat.le_trans I.ok.bsz I.sz,I.stack,I.sh,I.hok,I.bare⟩
theorem Inv.after {Q:VK} {u:Value} (I:Inv X pins σ H s) (h:CE X.stack X.prog X.w H s Q u s'):EP X pins σ Q u s':=by
 obtain ⟨v,H',os,bare,un,hok,r,q⟩:=h
 obtain ⟨hh,g,d,t,os'⟩:=s'
 obtain rfl:os'=s.os:=os
 exact ⟨v,H',I.call (h':=hh) (g':=g) (d':=d) (t':=t) (ch:=[]) un hok bare (fun b z=>absurd z (by simp)),r,q⟩
end
def EI (sp:Sp) (dvs:List V) (E:XK) (t:TA):TE:=fun σ H Q=>t σ H fun vs H1=>sp (vs++dvs) H1 Q E
def Binds (K:PySem.W.Frag) (fd:FuncData) (ps:List Str) (ds:List Value):Prop:=
 ∀ (s:Shared) (us:List Value),K.In s.heap→(us++ds).length=ps.length→BindsTo s fd ⟨us,[]⟩ (ps.zip (us++ds))
theorem Binds.all {K:PySem.W.Frag} {fd:FuncData} {ps:List Str} (h:∀ us:List Value,us.length=ps.length→bindArgs fd ⟨us,[]⟩=pure (ps.zip us)):Binds K fd ps []:=fun s us _ hl=>by
 rw [List.append_nil] at hl ⊢
 exact .of_eq (h us hl)
def Passes (CX:CXT) (X:Cx) (E:XK):Prop:=∀ (pins:List (Addr×Obj)) (σ:St) (H:Hp) (s:Shared) (e:Value) (s':Shared),Inv X pins σ H s→CX X.stack H s E e s'→X.xe e s'
section
variable {X:Cx} {CX:CXT} {k:Nat} {f C:Addr} {fd:FuncData} {ps:List Str} {sp:Sp} {dvs:List V} {ds:List Value} {E:XK} {x m:Str} {p pos apos:Pos} {e o:Expr} {es:List Expr} {ta:TE} {t:TA}
theorem Cn {pins:List (Addr×Obj)} {σ:St} {H:Hp} {s:Shared} {Q:VK} {us:List Value} {vs:List V} (F:fw X.prog X.w X.K X.mg X.base CX k f fd ps sp) (hr:cW k X.A) (hb:Binds X.K fd ps ds) (hd:Vals dvs ds) (hx:Passes CX X E)
  (I:Inv X pins σ H s) (r:Vals vs us) (h:sp (vs++dvs) H Q E):wpAny (model X.prog X.w) X.A (call (.ref f) us) (EP X pins σ Q) X.xe s:=by
 have r2:Vals (vs++dvs) (us++ds):=r.append hd
 have hl:(us++ds).length=ps.length:=by rw [← r2.length];exact F.len _ _ _ _ h
 refine wpAny_call (codeAny_mono (F.run X.A X.stack s H ⟨us,[]⟩ (us++ds) (vs++dvs) Q E hr I.F1 (hb s us I.kIn hl) r2 h) fun r s' hq=>?_)
 cases r with
 | error e=>exact hx pins σ H s e s' I hq
 | ok fl=>
  cases fl with
  | ret u=>exact I.after hq
  | next=>exact False.elim hq
  | brk=>exact False.elim hq
  | cont=>exact False.elim hq
theorem Ad (F:fw X.prog X.w X.K X.mg X.base CX k f fd ps sp) (hr:cW k X.A) (hg:Gl X x) (hm:X.mg x=some (.ref f)) (hk:PySem.W.keepIn X.K (.ref f)=true) (hb:Binds X.K fd ps ds) (hd:Vals dvs ds) (hx:Passes CX X E)
  (ha:PA X (e :: es) t) (hdb:(x == ("__debug__":Str))=false:=by decide) (he:starEach (e :: es) X.env=(false,eval e X.env) :: starEach es X.env:=by rfl) (hpl:(backTo pos (starEach es X.env)).any (·.1)=false:=by rfl) :
  PE X (.Call (.Name x p) (e :: es) [] pos) (EI sp dvs E t):=by
 intro pins s σ H Q I h
 refine wpAny_Call_Name_kw (Ag I hg hm ?_ hdb)
 refine PySem.W.callWith_K (h₀:=X.base) I.ok.mod.kin hk (thn (ha pos pins s σ H _ I h) fun us s1 ⟨vs,H1,I1,r,q⟩=>⟨I1.kIn,?_⟩) he hpl
 exact Cn F hr hb hd hx I1 r q
structure Mk (K:PySem.W.Frag) (C f:Addr):Prop where
 makes:PySem.W.makesIn K C=true
 init:PySem.W.findIn K (.ref C) "__init__"=some (some (.ref f))
 fn:PySem.W.isFn K (.ref f)=true
 kp:PySem.W.keepIn K (.ref C)=true
end
section
variable {X:Cx} {CX:CXT} {k:Nat} {f C:Addr} {fd:FuncData} {ps ks:List Str} {sp:Sp} {E:XK} {x m:Str} {p pos apos kpos:Pos} {e o:Expr} {es:List Expr} {kws:List Keyword} {te ta:TE} {t tk:TA} {nm:Option Str}
structure Ge (K:PySem.W.Frag) (fd:FuncData) (ps ks:List Str) (g:List Value→List Value→List Value) (gV:List V→List V→List V):Prop where
 to:∀ (s:Shared) (us ws:List Value),K.In s.heap→(g us ws).length=ps.length→BindsTo s fd ⟨us,ks.zip ws⟩ (ps.zip (g us ws))
 rel:∀ {vs:List V} {us:List Value} {zs:List V} {ws:List Value},Vals vs us→Vals zs ws→Vals (gV vs zs) (g us ws)
variable {g:List Value→List Value→List Value} {gV:List V→List V→List V}
end
structure iM (N P:List Str) (sc:Scope):Prop where
 kind:sc.kind=.function
 co:sc.isCoroutine=false
 gen:sc.isGenerator=false
 nd:N.Nodup
 pre:N.take P.length=P
 par:∀ x∈P,sc.names.lookup x=some .local∨sc.names.lookup x=some .cell
 nofree:∀ y∈sc.names,y.2≠.free
theorem nz {kindOf:Str→Option NameKind} {x:Str}:∀ {binds:List (Str×Value)} {m:Str→Option Value},(∀ v,(x,v)∉binds)→bindL kindOf binds m x=m x
 | [],_,_=>rfl
 | (n,v) :: r,m,h=>by
  unfold bindL
  rw [nz fun w hw=>h w (List.mem_cons_of_mem _ hw)]
  split
  ·have:x≠n:=by rintro rfl;exact h v List.mem_cons_self
   simp [this]
  ·rfl
theorem nv {kindOf:Str→Option NameKind} {x:Str}:∀ {binds:List (Str×Value)} {m:Str→Option Value},(∀ v,(x,v)∉binds)→bindC kindOf binds m x=m x
 | [],_,_=>rfl
 | (n,v) :: r,m,h=>by
  unfold bindC
  rw [nv fun w hw=>h w (List.mem_cons_of_mem _ hw)]
  split
  ·rfl
  ·have:x≠n:=by rintro rfl;exact h v List.mem_cons_self
   simp [this]
theorem nU {kindOf:Str→Option NameKind} {x:Str} {v:Value}:∀ {P:List Str} {vs:List Value} {i:Nat} {m:Str→Option Value},P.Nodup→P[i]?=some x→vs[i]?=some v→kindOf x=some .local →
  bindL kindOf (P.zip vs) m x=some v
 | [],_,_,_,_,h,_,_=>by simp at h
 | _ :: _,[],_,_,_,_,h,_=>by simp at h
 | p :: P,w :: vs,0,m,nd,h1,h2,hk=>by
  simp at h1 h2;subst h1;subst h2
  show bindL kindOf ((p,w) :: P.zip vs) m p=_
  unfold bindL
  rw [nz fun v hv=>(List.nodup_cons.mp nd).1 (List.of_mem_zip hv).1,if_pos hk]
  simp
 | p :: P,w :: vs,i+1,m,nd,h1,h2,hk=>by
  show bindL kindOf ((p,w) :: P.zip vs) m x=_
  unfold bindL
  exact nU (i:=i) (List.nodup_cons.mp nd).2 (by simpa using h1) (by simpa using h2) hk
theorem og {kindOf:Str→Option NameKind} {x:Str} {v:Value}:∀ {P:List Str} {vs:List Value} {i:Nat} {m:Str→Option Value},P.Nodup→P[i]?=some x→vs[i]?=some v→kindOf x≠some .local →
  bindC kindOf (P.zip vs) m x=some v
 | [],_,_,_,_,h,_,_=>by simp at h
 | _ :: _,[],_,_,_,_,h,_=>by simp at h
 | p :: P,w :: vs,0,m,nd,h1,h2,hk=>by
  simp at h1 h2;subst h1;subst h2
  show bindC kindOf ((p,w) :: P.zip vs) m p=_
  unfold bindC
  rw [nv fun v hv=>(List.nodup_cons.mp nd).1 (List.of_mem_zip hv).1,if_neg hk]
  simp
 | p :: P,w :: vs,i+1,m,nd,h1,h2,hk=>by
  show bindC kindOf ((p,w) :: P.zip vs) m x=_
  unfold bindC
  exact og (i:=i) (List.nodup_cons.mp nd).2 (by simpa using h1) (by simpa using h2) hk
def start (N:List Str) (vs:List V):St:=vs.map some++List.replicate (N.length - vs.length) none
def kh (CX:CXT) (P:Program) (w:World) (K:PySem.W.Frag) (mg:Str→Option Value) (base:Heap) (N:List Str) (qual:Str) (scope:Scope) (f:Addr) (cd:Value) (A:Around) (outer:List Env) (s:Shared) (H:Hp) (E:XK):Cx where
 prog:=P
 w:=w
 K:=K
 mg:=mg
 base:=base
 A:=A.deeper (envOfC qual scope s.heap.objs.size f cd)
 N:=N
 s₀:=s
 H₀:=H
 env:=envOfC qual scope s.heap.objs.size f cd
 outer:=outer
 stack:=envOfC qual scope s.heap.objs.size f cd :: outer
 ex:=[]
 calm:=true
 fn:=fun _=>true
 pn:=[]
 xe:=fun e s'=>wpAny (model P w) (A.deeper (envOfC qual scope s.heap.objs.size f cd)) (leaving (envOfC qual scope s.heap.objs.size f cd) e) (fun _ s''=>CX outer H s E e s'') (fun e' s''=>CX outer H s E e' s'') s'
theorem oX {sc:Scope} {n:Nat} {x:Str} (h:sc.names.lookup x=some .cell):∃ c,(cellsFrom n sc.names []).lookup x=some c:=by
 have q:=PySem.W.cellsFrom_some sc.names n [] (.inl h)
 exact Option.isSome_iff_exists.mp q
theorem ue {CX:CXT} {P:Program} {w:World} {K:PySem.W.Frag} {mg:Str→Option Value} {base:Heap} {N ps:List Str} {qual:Str} {scope:Scope} {f:Addr} {cd:Value} {A:Around} {outer:List Env} {s s1:Shared} {H:Hp} {E:XK} {us:List Value} {vs:List V}
  (S:iM N ps scope) (hd:A.handled=none) (e0:tH P w K mg base A outer s H) (hl:vs.length=ps.length) (r:Vals vs us)
  (x:InCallC s s.heap.objs.size (bindL (envOfC qual scope s.heap.objs.size f cd).kindOf (ps.zip us) fun _=>none) (cellsFrom (s.heap.objs.size+1) scope.names []) (bindC (envOfC qual scope s.heap.objs.size f cd).kindOf (ps.zip us) fun _=>none) s1) :
  Inv (kh CX P w K mg base N qual scope f cd A outer s H E) [] (start N vs) H s1:=by
 have hpl:ps.length≤N.length:=by have:=congrArg List.length S.pre;rw [List.length_take] at this;omega
 obtain ⟨h1,tk,rfl,hk⟩:=x.done
 have noA:∀ b:Addr,b∉(kh CX P w K mg base N qual scope f cd A outer s H E).ex:=fun b z=>absurd (show b∈([]:List Addr) from z) (by simp)
 refine ⟨⟨e0.mod,S.kind,rfl,rfl,Nat.le_refl _,fun y z c h1 h2=>?_,fun y hy=>?_,fun y c _ h=>?_,fun _=>hd,Around.frames_deeper e0.frames,.inr ⟨rfl,rfl⟩,fun b z=>absurd z (noA b),e0.bs,e0.bsz,fun b _ _=>noA b,fun b z=>absurd z (noA b),e0.h_,e0.frf⟩,
  rfl,e0.bare,Un.kept hk,⟨_,x.toInCall.ns,fun i y v h1 h2 h3=>?_⟩,fun y c h=>⟨_,x.cell y c h⟩,e0.hok.fresh (Nat.le_refl _),fun y c h=>?_,fun p hp=>absurd (show p∈([]:List (Addr×Obj)) from hp) (by simp),e0.hok.kept hk,?_⟩
 ·exact name_of_addr x.apart (PySem.mem_of_lookup h1) (PySem.mem_of_lookup h2)
 ·have hy:scope.names.lookup y=some .cell∨scope.names.lookup y=some .free:=hy
  rcases hy with hy | hy
  ·exact oX hy
  ·exact absurd rfl (S.nofree _ (PySem.mem_of_lookup hy))
 ·exact Nat.le_of_lt (x.above y c (PySem.mem_of_lookup h))
 ·have hi:i < vs.length:=by
   unfold start at h2
   by_cases hi:i < vs.length
   ·exact hi
   ·rw [List.getElem?_append_right (by simpa using hi)] at h2
    rw [List.getElem?_replicate] at h2
    split at h2<;>cases h2
  have ha:vs[i]?=some v:=by
   unfold start at h2
   rw [List.getElem?_append_left (by simpa using hi),List.getElem?_map] at h2
   cases e:vs[i]? with
   | none=>rw [e] at h2;cases h2
   | some a=>rw [e] at h2;cases h2;rfl
  obtain ⟨u,hu,rv⟩:=r.get ha
  have hp:ps[i]?=some y:=by
   rw [← S.pre,List.getElem?_take_of_lt (by omega)];exact h1
  have ndP:ps.Nodup:=by rw [← S.pre];exact S.nd.sublist (List.take_sublist _ _)
  refine ⟨u,rv,?_⟩
  rcases S.par y (List.mem_of_getElem? hp) with k | k
  ·exact .inl ⟨k,nU ndP hp hu k⟩
  ·obtain ⟨c,e⟩:=oX (n:=s.heap.objs.size+1) k
   refine .inr ⟨.inl k,c,e,?_⟩
   have q:=x.cell y c e
   rw [og ndP hp hu (by show scope.names.lookup y≠_;rw [k];decide)] at q
   exact q
 ·exact e0.hok.fresh (Nat.le_of_lt (x.above y c (PySem.mem_of_lookup h)))
 ·unfold start
  show _=N.length
  rw [List.length_append,List.length_map,List.length_replicate]
  omega
theorem Ef {CX:CXT} {P:Program} {w:World} {K:PySem.W.Frag} {mg:Str→Option Value} {base:Heap} {k:Nat} {f:Addr} {name qual:Str} {params:Arguments} {body:List Stmt} {scope:Scope} {dV kV doc pm cdv ct oc:Value} {an od:Option Addr}
  {osl:Array (Option Value)} {N ps:List Str} {sp:Sp} (lk:K.lookup f=some ⟨oc,od,.func (PySem.W.fnOf name qual params body scope dV kV doc pm an cdv ct),osl⟩) (hcd:PySem.W.codeIn K cdv qual=true) (S:iM N ps scope)
  (len:∀ vs H Q E,sp vs H Q E→vs.length=ps.length)
  (hbody:∀ (A:Around) (outer:List Env) (s:Shared) (H:Hp) (vs:List V) (Q:VK) (E:XK),cW k (A.deeper (envOfC qual scope s.heap.objs.size f cdv))→sp vs H Q E →
   ∃ t,PSs (kh CX P w K mg base N qual scope f cdv A outer s H E) body t∧t { nx:=fun _ H'=>Q .non H',rt:=Q } (start N vs) H) :
  fw P w K mg base CX (k+1) f (PySem.W.fnOf name qual params body scope dV kV doc pm an cdv ct) ps sp:=by
 refine ⟨len,fun A outer s H args us vs Q E hr e0 hb r hsp=>?_⟩
 have hl:=len _ _ _ _ hsp
 have KX:K.In s.heap:=e0.mod.kin.keeps fun b o e=>(e0.bs b o e).1
 have lim:s.heap.NoLimit:=e0.mod.nolimit.keeps fun b o e=>(e0.bs b o e).1
 have hkind:∀ y∈ps.zip us,scope.names.lookup y.1=some .local∨(scope.names.lookup y.1=some .cell∧((cellsFrom (s.heap.objs.size+1) scope.names []).lookup y.1).isSome=true):=fun ⟨n,v⟩ hy=>by
  rcases S.par n (List.of_mem_zip hy).1 with q | q
  ·exact .inl q
  ·exact .inr ⟨q,PySem.W.cellsFrom_some _ _ _ (.inl q)⟩
 refine codeAny_call_function hr.depth (KX _ _ lk) rfl S.co S.gen rfl (PySem.W.codeRec_of KX hcd) (hb _ _ _ _ ?_)
 refine wpAny_newFunctionEnv_cells S.kind hkind fun env he s1 x=>?_
 subst he
 refine ⟨lim.keeps x.toInCall.keep,codeAny_func ?_⟩
 obtain ⟨t,ht,hq⟩:=hbody A outer s H vs Q E (hr.deeper _) hsp
 have I:Inv (kh CX P w K mg base N qual scope f cdv A outer s H E) [] (start N vs) H s1:=ue S hr.hd e0 hl r x
 refine wpAny_mono (ht [] s1 (start N vs) H _ I hq) (fun fl s' hs=>?_) fun e s' hs=>hs
 have fin:∀ {σ':St} {H':Hp} {v:V} {u:Value},Inv (kh CX P w K mg base N qual scope f cdv A outer s H E) [] σ' H' s'→RelV v u→Q v H'→CE outer P w H s Q u s':=
  fun {σ' H' v u} J rv q=>⟨v,H',J.os,J.bare,J.base,J.hok,rv,q⟩
 cases fl with
 | ret u=>
  obtain ⟨v,σ',H',J,rv,q⟩:=hs
  exact fin J rv q
 | next=>
  obtain ⟨σ',H',J,q⟩:=hs
  exact fin (v:=V.non) (u:=Value.none) J rfl q
 | brk=>
  obtain ⟨_,_,_,q⟩:=hs
  exact False.elim q
 | cont=>
  obtain ⟨_,_,_,q⟩:=hs
  exact False.elim q
section
variable {X:Cx} {x:Str} {p pos:Pos} {e:Expr} {es:List Expr} {t:TA} {id T:String} {r:List V→Hp→VK→Prop}
def tCB (r:List V→Hp→VK→Prop) (t:TA):TE:=fun σ H Q=>t σ H fun vs H1=>r vs H1 Q
theorem xX (hc:cx X (.builtin id) r) (hg:Gl X x) (hm:X.mg x=none) (hv:bootBuiltins x=some (.builtin id)) (ha:PA X (e :: es) t) (hn:x≠"__name__":=by decide) (hdb:(x == ("__debug__":Str))=false:=by decide)
  (he:starEach (e :: es) X.env=(false,eval e X.env) :: starEach es X.env:=by rfl) (hpl:(backTo pos (starEach es X.env)).any (·.1)=false:=by rfl):PE X (.Call (.Name x p) (e :: es) [] pos) (tCB r t):=by
 intro pins s σ H Q I h
 refine wpAny_Call_Name_kw (cq I hg hm hv ?_ hn hdb)
 exact PyProof.Rows.callWith_builtin1 (thn (ha pos pins s σ H _ I h) fun us s1 ⟨vs,H1,I1,r1,q1⟩=>hc pins s1 σ H1 vs us Q I1 r1 q1) he hpl
theorem uv (hc:cx X (.type T) r) (hg:Gl X x) (hm:X.mg x=none) (hv:bootBuiltins x=some (.type T)) (ha:PA X (e :: es) t) (hn:x≠"__name__":=by decide) (hdb:(x == ("__debug__":Str))=false:=by decide)
  (he:starEach (e :: es) X.env=(false,eval e X.env) :: starEach es X.env:=by rfl) (hpl:(backTo pos (starEach es X.env)).any (·.1)=false:=by rfl):PE X (.Call (.Name x p) (e :: es) [] pos) (tCB r t):=by
 intro pins s σ H Q I h
 refine wpAny_Call_Name_kw (cq I hg hm hv ?_ hn hdb)
 exact PyProof.Rows.callWith_type1 (thn (ha pos pins s σ H _ I h) fun us s1 ⟨vs,H1,I1,r1,q1⟩=>hc pins s1 σ H1 vs us Q I1 r1 q1) he hpl
end
end L2
namespace HT
open PySem PyProof.Rows
section
variable {prog:Program} {w:World} {A:Around} {E:Value→Shared→Prop} {s:Shared}
theorem zG {t b:Addr} {vs ws:List Value} {Q:Value→Shared→Prop} (ht:IsTup s.heap t vs.toArray) (hb:IsTup s.heap b ws.toArray) (hv:vs≠[])
  (h1:ws=[]→Q (.ref t) s) (h2:ws≠[]→Q (.ref s.heap.objs.size) { s with heap:=s.heap.push { cls:=.type "tuple",data:=.seq (vs++ws).toArray } })
  (hsz:vs.length+ws.length≤sizeLine):wpAny (model prog w) A (binaryOp .Add (.ref t) (.ref b)) Q E s:=by
 obtain ⟨⟨cls,dd,data,sl⟩,ho,hc,n,hd⟩:=id ht
 obtain ⟨⟨cls2,dd2,data2,sl2⟩,ho2,hc2,n2,hd2⟩:=id hb
 simp only at hc hd hc2 hd2
 subst hc hd hc2 hd2
 have e:vs.toArray++ws.toArray=(vs++ws).toArray:=by simp
 by_cases hw:ws=[]
 ·exact concat_meets ⟨_,ho,rfl⟩ ⟨_,ho2,rfl⟩ noFill_tuple_add seq_tuple_add PySem.F.slot_tuple_add PySem.F.entry_tuple_add (PySem.F.args_tuple_add_2 _ _)
   (tuple_addW1 t b vs.toArray ws.toArray n n2 dd dd2 sl sl2 (by simpa using hv) (by simp [hw])) ⟨ho,ho2,h1 hw⟩
 ·refine concat_meets ⟨_,ho,rfl⟩ ⟨_,ho2,rfl⟩ noFill_tuple_add seq_tuple_add PySem.F.slot_tuple_add PySem.F.entry_tuple_add (PySem.F.args_tuple_add_2 _ _)
   (tuple_addW2 t b vs.toArray ws.toArray n n2 dd dd2 sl sl2 (by simpa using hv) (by simpa using hw) (by rw [List.size_toArray,List.size_toArray];exact hsz)) ⟨ho,ho2,?_⟩
  rw [e]
  exact h2 hw
def sIx (n d:Nat):Option Int→Nat
 | none=>d
 | some v=>if v < 0 then (v+(n:Int)).toNat else min v.toNat n
theorem lJ (n d:Nat):sIx n d none=d:=rfl
theorem iT (n d k:Nat):sIx n d (some (k:Int))=min k n:=by
 show (if (k:Int) < 0 then ((k:Int)+(n:Int)).toNat else min (k:Int).toNat n)=min k n
 rw [if_neg (by omega),Int.toNat_natCast]
theorem Cb (n d:Nat) (hd:d≤n) (o:Option Int):sIx n d o≤n:=by
 cases o with
 | none=>exact hd
 | some v=>
  show (if v < 0 then (v+(n:Int)).toNat else min v.toNat n)≤n
  by_cases hv:v < 0
  ·rw [if_pos hv];omega
  ·rw [if_neg hv];exact Nat.min_le_right _ _
theorem rq (v:Int) (n d:Nat):(if v < 0 then max (v+(n:Int)) 0 else min v (n:Int))=((sIx n d (some v):Nat):Int):=by
 show (if v < 0 then max (v+(n:Int)) 0 else min v (n:Int))=(((if v < 0 then (v+(n:Int)).toNat else min v.toNat n):Nat):Int)
 by_cases hv:v < 0
 ·simp only [if_pos hv];omega
 ·simp only [if_neg hv];omega
theorem sH (lo hi:Option Int) (n:Nat):Builtin.Slice.sliceAdjust lo hi 1 (n:Int)=(((sIx n 0 lo:Nat):Int),((sIx n n hi:Nat):Int)):=by
 have h1:¬((1:Int) < 0):=by omega
 unfold Builtin.Slice.sliceAdjust
 simp only [h1,if_false]
 refine Prod.ext ?_ ?_
 ·cases lo with
  | none=>rfl
  | some v=>exact rq v n 0
 ·cases hi with
  | none=>rfl
  | some v=>exact rq v n n
theorem tO (i j:Nat):Builtin.Slice.slicePlaces (i:Int) (j:Int) 1=j - i:=by
 unfold Builtin.Slice.slicePlaces
 have h1:(1:Int) > 0:=by omega
 simp only [h1,if_true,Int.ediv_one]
 split<;>omega
theorem mE {v:Value} {o:Option Int} {Q:Option Int→Shared→Prop} (p:IsPart v o) (h:Q o s):wpAny (model prog w) A (Builtin.Slice.slicePartIndex v) Q E s:=by
 cases p with
 | none=>exact slicePart_none h
 | int i t=>exact slicePart_int h
theorem gI {sl:Addr} {vl vu:Value} {lo hi:Option Int} {n:Nat} {Q:Int×Int×Nat→Shared→Prop} (hs:s.heap.IsSliceOf sl vl vu .none) (pl:IsPart vl lo) (pu:IsPart vu hi)
  (h:Q (((sIx n 0 lo:Nat):Int),1,sIx n n hi - sIx n 0 lo) s):wpAny (model prog w) A (Builtin.Slice.sliceApplied (.ref sl) (pure (n:Int))) Q E s:=by
 obtain ⟨os,hos,hcs,hds⟩:=id hs
 unfold Builtin.Slice.sliceApplied Builtin.Slice.sliceFields
 refine wpAny_bind (wpAny_bind (wpAny_field hos hds (x:=vl) rfl (wpAny_bind (wpAny_field hos hds (x:=vu) rfl (wpAny_bind (wpAny_field hos hds (x:=.none) rfl (wpAny_pure ?_)))))))
 refine wpAny_bind (slicePart_none ?_)
 show wpAny _ _ (if ((1:Int) == 0)=true then _ else _) _ _ s
 rw [if_neg (by decide)]
 refine wpAny_bind (mE pl (wpAny_bind (mE pu (wpAny_bind (wpAny_pure ?_)))))
 show wpAny _ _ (match Builtin.Slice.sliceAdjust lo hi 1 (n:Int) with | (lo,hi)=>pure (lo,(1:Int),Builtin.Slice.slicePlaces lo hi 1)) _ _ s
 rw [sH lo hi n]
 show wpAny _ _ (pure (((sIx n 0 lo:Nat):Int),(1:Int),Builtin.Slice.slicePlaces ((sIx n 0 lo:Nat):Int) ((sIx n n hi:Nat):Int) 1)) _ _ s
 rw [tO]
 exact wpAny_pure h
theorem xZ (xs:Array Value) (i k:Nat):((List.range k).filterMap fun (m:Nat)=>xs[((i:Int)+(m:Int) * 1).toNat]?).toArray=((xs.toList.drop i).take k).toArray:=by
 have e:(fun (m:Nat)=>xs[((i:Int)+(m:Int) * 1).toNat]?)=fun m=>xs[i+m]?:=by
  funext m
  have:((i:Int)+(m:Int) * 1).toNat=i+m:=by omega
  rw [this]
 rw [e]
 have:=pick_run xs i k
 rw [List.filterMap_map] at this
 have e2:((fun x=>xs[x]?) ∘ fun x=>i+x)=fun m=>xs[i+m]?:=rfl
 rw [e2] at this
 rw [this]
theorem k7 {t sl:Addr} {items:Array Value} {vl vu:Value} {lo hi:Option Int} {Q:Value→Shared→Prop} (ht:IsTup s.heap t items) (hs:s.heap.IsSliceOf sl vl vu .none) (pl:IsPart vl lo) (pu:IsPart vu hi)
    (hw:¬(sIx items.size 0 lo=0∧sIx items.size items.size hi=items.size))
    (h:Q (.ref s.heap.objs.size) { s with heap:=s.heap.push { cls:=.type "tuple",data:=.seq ((items.toList.drop (sIx items.size 0 lo)).take (sIx items.size items.size hi - sIx items.size 0 lo)).toArray } })
    (hsz:items.size≤sizeLine):wpAny (model prog w) A (getItem (.ref t) (.ref sl)) Q E s:=by
  have htake:sizeOk (.seq ((items.toList.drop (sIx items.size 0 lo)).take (sIx items.size items.size hi - sIx items.size 0 lo)).toArray):=by
    show ((items.toList.drop (sIx items.size 0 lo)).take (sIx items.size items.size hi - sIx items.size 0 lo)).toArray.size≤sizeLine
    rw [List.size_toArray,List.length_take,List.length_drop,Array.length_toList]
    omega
  have hj:sIx items.size items.size hi≤items.size:=Cb _ _ (Nat.le_refl _) hi
  obtain ⟨os,hos,hcs,hds⟩:=id hs
  have hTs:s.TypeIs (.ref sl) "slice":=⟨os,hos,hcs⟩
  unfold getItem
  try with_reducible refine wpAny_holding ?_
  first | refine wpAny_bind (wpAny_pure ?_) | skip
  refine wpAny_bind (wpAny_sequenceKey ht.typeIs (by decide) ?_)
  refine wpAny_bind (wpAny_callSpecial?_slot (name:=Str.ofString "__getitem__") ht.typeIs PyProof.Rows.slot_tuple_getitem
    (wpAny_call_entry PyProof.Rows.slot_tuple_getitem ht.typeIs entry_tuple_getitem ?_ (args_tuple_getitem _ _)))
  show wpAny _ _ (Builtin.Tuple.tupleItemsOf (.ref t)>>=_) _ _ s
  refine wpAny_bind (tupleItemsOf_ ht ?_)
  refine wpAny_bind (wpAny_typeOf hTs ?_)
  rw [if_pos (by decide)]
  refine wpAny_bind (gI hs pl pu ?_)
  have hno:¬((((sIx items.size 0 lo:Nat):Int) == 0 && (1:Int) == 1 && (sIx items.size items.size hi - sIx items.size 0 lo) == items.size)=true):=by
    intro q
    rw [Bool.and_eq_true,Bool.and_eq_true] at q
    have q1:((sIx items.size 0 lo:Nat):Int)=0:=eq_of_beq q.1.1
    have q2:sIx items.size items.size hi - sIx items.size 0 lo=items.size:=eq_of_beq q.2
    exact hw ⟨by omega,by omega⟩
  show wpAny _ _ (if (((sIx items.size 0 lo:Nat):Int) == 0 && (1:Int) == 1 && (sIx items.size items.size hi - sIx items.size 0 lo) == items.size)=true then _ else _) _ _ s
  rw [if_neg hno,xZ]
  first
    | exact wpAny_bind (m:=Builtin.Tuple.tupleExact _) (wpAny_newObj_type (wpAny_pure ⟨_,rfl,wpAny_pure h⟩) htake)
    | exact wpAny_bind (m:=Builtin.Tuple.tupleExact _) (wpAny_newObj_type (wpAny_bind (wpAny_pure (wpAny_pure ⟨_,rfl,wpAny_pure h⟩))) htake)
    | exact wpAny_bind (wpAny_bind (m:=Builtin.Tuple.tupleExact _) (wpAny_newObj_type (wpAny_pure (wpAny_pure ⟨_,rfl,wpAny_pure h⟩)) htake))
    | exact wpAny_bind (wpAny_bind (m:=Builtin.Tuple.tupleExact _) (wpAny_newObj_type (wpAny_pure ⟨_,rfl,wpAny_pure h⟩) htake))
end
end HT
namespace L2
open PySem PySem.Spec PyProof.Rows
abbrev TO:=St→Hp→(Option Int→Hp→Prop)→Prop
def PO (X:Cx) (e:Option Expr) (t:TO):Prop:=
 ∀ (pins:List (Addr×Obj)) (s:Shared) (σ:St) (H:Hp) (Q:Option Int→Hp→Prop),Inv X pins σ H s→t σ H Q →
  wpAny (model X.prog X.w) X.A (evalPart e X.env) (fun u s'=>∃ o H',Inv X pins σ H' s'∧IsPart u o∧Q o H') X.xe s
def z_:TO:=fun _ H Q=>Q none H
def DC (t:TE):TO:=fun σ H Q=>t σ H fun x H1=>∃ i,x=.int i∧Q (some i) H1
theorem intsAre_of {ns:List Int}:∀ {us:List Value},Vals (ns.map V.int) us→IntsAre us ns:=by
 induction ns with
 | nil=>intro us r;rw [List.map_nil] at r;cases r;exact .nil
 | cons n ns ih=>
  intro us r
  rw [List.map_cons] at r
  cases r with
  | cons r1 r2=>
   obtain ⟨t,e⟩:=r1
   subst e
   exact .cons n t (ih r2)
section
variable {X:Cx} {e:Expr} {te:TE} {lo hi:Option Expr} {tl th:TO} {pos p2:Pos}
theorem Ab:PO X none z_:=by
 intro pins s σ H Q I h
 rw [evalPart_none]
 exact wpAny_pure ⟨none,H,I,.none,h⟩
theorem zE (h:PE X e te):PO X (some e) (DC te):=by
 intro pins s σ H Q I hw
 rw [evalPart_some]
 refine thn (h pins s σ H _ I hw) fun u s1 ⟨x,H1,I1,r1,q1⟩=>?_
 obtain ⟨i,rfl,q⟩:=q1
 obtain ⟨t,rfl⟩:=r1
 exact ⟨some i,H1,I1,.int i t,q⟩
def SlR (X:Cx) (r:V→Option Int→Option Int→Hp→VK→Prop):Prop:=
 ∀ (pins:List (Addr×Obj)) (s:Shared) (σ:St) (H:Hp) (x:V) (v vl vu:Value) (lo hi:Option Int) (sl:Addr) (Q:VK),Inv X pins σ H s→RelV x v→s.heap.IsSliceOf sl vl vu .none→IsPart vl lo→IsPart vu hi→r x lo hi H Q →
  ∃ T id,typeLookup (.type T) "__getitem__"=pure (some (.builtin id))∧s.TypeIs v T∧wpAny (model X.prog X.w) X.A (getItem v (.ref sl)) (EP X pins σ Q) X.xe s
def tSl (r:V→Option Int→Option Int→Hp→VK→Prop) (te:TE) (tl th:TO):TE:=fun σ H Q=>te σ H fun x H1=>tl σ H1 fun l H2=>th σ H2 fun u H3=>r x l u H3 Q
theorem pk {r:V→Option Int→Option Int→Hp→VK→Prop} (hr:SlR X r) (he:PE X e te) (hl:PO X lo tl) (hu:PO X hi th):PE X (.Subscript e (.Slice lo hi none p2) pos) (tSl r te tl th):=by
 intro pins s σ H Q I h
 refine Subscript_ (thn (he pins s σ H _ I h) fun v s1 ⟨x,H1,I1,r1,q1⟩=>?_)
 refine wpAny_Slice (thn (hl pins s1 σ H1 _ I1 q1) fun vl s2 ⟨l,H2,I2,pl,q2⟩=>thn (hu pins s2 σ H2 _ I2 q2) fun vu s3 ⟨u,H3,I3,pu,q3⟩=>?_)
 rw [evalPart_none]
 refine wpAny_pure ?_
 have I4:Inv X pins σ H3 { s3 with heap:=s3.heap.push { cls:=.type "slice",data:=.fields #[vl,vu,.none] } }:=I3.kept (t':=s3.toks) fun b ob q=>Heap.get?_push_of_some _ q
 obtain ⟨T,id,hT,ht,hg⟩:=hr pins { s3 with heap:=s3.heap.push { cls:=.type "slice",data:=.fields #[vl,vu,.none] } } σ H3 x v vl vu l u s3.heap.objs.size Q I4 r1 (Heap.IsSliceOf.new ..) pl pu q3
 show wpAny (model X.prog X.w) X.A (subscriptTail e (.Slice lo hi none p2) v (.ref s3.heap.objs.size)) (EP X pins σ Q) X.xe { s3 with heap:=s3.heap.push { cls:=.type "slice",data:=.fields #[vl,vu,.none] } }
 exact tail_any (ops:=[.ref s3.heap.objs.size,v]) ht hT hg (by with_unfolding_all rfl)
def gU (xs:List V) (lo hi:Option Int):List V:=(xs.drop (HT.sIx xs.length 0 lo)).take (HT.sIx xs.length xs.length hi - HT.sIx xs.length 0 lo)
theorem lq (xs:List V) (lo hi:Option Int):(gU xs lo hi).length≤xs.length:=by
 unfold gU
 rw [List.length_take,List.length_drop]
 omega
def FH (K:PySem.W.Frag):V→Option Int→Option Int→Hp→VK→Prop:=fun x lo hi H Q=>∃ a xs,x=.ref a∧SqT K H a xs ∧
 ¬(HT.sIx xs.length 0 lo=0∧HT.sIx xs.length xs.length hi=xs.length)∧∀ p,H p=none→Q (.ref p) (upd H p (.tup (gU xs lo hi)))
theorem C8:SlR X (FH X.K):=by
 intro pins s σ H x v vl vu lo hi sl Q I rx hs pl pu h
 obtain ⟨a,xs,rfl,hx,hw,q⟩:=h
 cases rx
 obtain ⟨its,r,ht,hz⟩:=I.tuple hx
 have hlen:its.toArray.size=xs.length:=by rw [List.size_toArray];exact r.length.symm
 refine ⟨"tuple",_,PyProof.Rows.slot_tuple_getitem.lookup,ht.typeIs,?_⟩
 refine HT.k7 ht hs pl pu (by rw [hlen];exact hw) ?_ (by rw [hlen];exact hz)
 rw [hlen]
 refine ⟨.ref s.heap.objs.size,_,I.laid (t':=s.toks) (o:=.tup (gU xs lo hi)) (fun b ob q=>Heap.get?_push_of_some _ q) (Nat.le_refl _) ?_,rfl,q _ (I.hok.fresh (Nat.le_refl _))⟩
 exact ⟨Nat.le_trans (lq xs lo hi) hz,_,(r.drop (HT.sIx xs.length 0 lo)).take (HT.sIx xs.length xs.length hi - HT.sIx xs.length 0 lo),IsTup.new _ _⟩
def DV (K:PySem.W.Frag):R2:=fun x y H Q=>∃ a b xs ys,x=.ref a∧y=.ref b∧SqT K H a xs∧SqT K H b ys∧xs≠[]∧xs.length+ys.length≤sizeLine ∧
 (ys=[]→Q (.ref a) H)∧(ys≠[]→∀ p,H p=none→Q (.ref p) (upd H p (.tup (xs++ys))))
theorem Vals.kR {xs:List V} {us:List Value} (r:Vals xs us):us=[]↔xs=[]:=by
 cases r with
 | nil=>simp
 | cons _ _=>simp
theorem Ao:OpR X (binaryOp .Add) (DV X.K):=by
 intro pins s σ H x y v u Q I rx ry h
 obtain ⟨a,b,xs,ys,rfl,rfl,ha,hb,hx,hz,q1,q2⟩:=h
 cases rx
 cases ry
 obtain ⟨its,r1,p1,_⟩:=I.tuple ha
 obtain ⟨its2,r2,p2,_⟩:=I.tuple hb
 refine HT.zG p1 p2 (fun z=>hx (r1.kR.mp z)) (fun z=>⟨.ref a,H,I,rfl,q1 (r2.kR.mp z)⟩) (fun z=>?_) (by rw [← r1.length,← r2.length];exact hz)
 refine ⟨.ref s.heap.objs.size,_,I.laid (t':=s.toks) (o:=.tup (xs++ys)) (fun b ob q=>Heap.get?_push_of_some _ q) (Nat.le_refl _) ?_,rfl,q2 (fun w=>z (r2.kR.mpr w)) _ (I.hok.fresh (Nat.le_refl _))⟩
 exact ⟨by rw [List.length_append];exact hz,_,r1.append r2,IsTup.new _ _⟩
end
def ixN (n:Nat) (i:Int):Option Nat:=if 0≤i then (if i < n then some i.toNat else none) else if -(n:Int)≤i then some (i+n).toNat else none
def atI {α:Type} (xs:List α) (i:Int):Option α:=(ixN xs.length i).bind fun j=>xs[j]?
theorem rA {n:Nat} {i:Int} {j:Nat} (h:ixN n i=some j):seqIndex? i n=some j∧j < n∧-(n:Int)≤i∧i < n:=by
 unfold ixN at h
 by_cases h0:0≤i
 ·rw [if_pos h0] at h
  by_cases h1:i < n
  ·rw [if_pos h1] at h
   have e:i.toNat=j:=Option.some.inj h
   exact ⟨by rw [seqIndex_of h0 h1,e],by omega,by omega,h1⟩
  ·rw [if_neg h1] at h;cases h
 ·rw [if_neg h0] at h
  by_cases h1:-(n:Int)≤i
  ·rw [if_pos h1] at h
   have e:(i+n).toNat=j:=Option.some.inj h
   exact ⟨by rw [seqIndex_neg (by omega) h1,e],by omega,h1,by omega⟩
  ·rw [if_neg h1] at h;cases h
theorem rV {α:Type} {xs:List α} {i:Int} {v:α} (h:atI xs i=some v):∃ j,seqIndex? i xs.length=some j∧xs[j]?=some v∧j < xs.length∧-(xs.length:Int)≤i∧i < xs.length:=by
 unfold atI at h
 cases e:ixN xs.length i with
 | none=>rw [e] at h;cases h
 | some j=>
  rw [e] at h
  obtain ⟨h1,h2,h3,h4⟩:=rA e
  exact ⟨j,h1,h,h2,h3,h4⟩
def rW (b:Expr):Prop:=∀ o i,subscripted b false o i=operate [o,i] (getItem o i)
def IxR (X:Cx) (r:R2):Prop:=
 ∀ (value slice:Expr) (pins:List (Addr×Obj)) (s:Shared) (σ:St) (H:Hp) (x y:V) (v u:Value) (Q:VK),Inv X pins σ H s→RelV x v→RelV y u→r x y H Q →
  subscripted slice false v u=operate [v,u] (getItem v u)→wpAny (model X.prog X.w) X.A (subscriptTail value slice v u) (EP X pins σ Q) X.xe s
section
variable {X:Cx} {a b:Expr} {ta tb:TE} {pos:Pos}
theorem EV {r:R2} (hr:IxR X r) (ha:PE X a ta) (hb:PE X b tb) (hs:rW b):PE X (.Subscript a b pos) (tOp r ta tb):=by
 intro pins s σ H Q I h
 exact Subscript_ (xM ha hb I h fun v u s2 x y H2 I2 rx ry q=>hr a b pins s2 σ H2 x y v u Q I2 rx ry q (hs _ _))
def FP (K:PySem.W.Frag):R2:=fun x y H Q=>∃ p xs i v,x=.ref p∧y=.int i∧SqL K H p xs∧atI xs i=some v∧Q v H
def F6 (K:PySem.W.Frag):R2:=fun x y H Q=>∃ p xs i v,x=.ref p∧y=.int i∧SqT K H p xs∧atI xs i=some v∧Q v H
theorem zf:IxR X (FP X.K):=by
 intro value slice pins s σ H x y v u Q I rx ry h hs
 obtain ⟨p,xs,i,z,rfl,rfl,hq,he,q⟩:=h
 cases rx
 obtain ⟨t,rfl⟩:=ry
 obtain ⟨its,r,pl,hz⟩:=I.list hq
 obtain ⟨j,h1,h2,h3,h4,h5⟩:=rV he
 obtain ⟨w,ew,rw'⟩:=r.get h2
 have hl:=r.length
 have hn:=j6
 have fin:EP X pins σ Q w s:=⟨z,H,I,rw',q⟩
 by_cases h0:0≤i
 ·have hj:i.toNat=j:=by
   rw [seqIndex_of h0 h5] at h1
   exact Option.some.inj h1
  exact item_listR pl.isList h0 (by omega) (by rw [hj];simpa using ew) fin hs
 ·have hj:(i+(its.toArray.size:Int)).toNat=j:=by
   rw [seqIndex_neg (by omega) h4] at h1
   rw [List.size_toArray,← hl]
   exact Option.some.inj h1
  exact subscriptTail_builtinR (x:=w) pl.isList.typeIs slot_list_getitem.lookup
   (wpAny_getItem_list_neg (Q:=fun r s'=>r=w∧EP X pins σ Q r s') pl.isList (by omega) (by rw [List.size_toArray]<;>omega) (by omega) (by rw [hj];simpa using ew) ⟨rfl,fin⟩) hs
theorem Bq:IxR X (F6 X.K):=by
 intro value slice pins s σ H x y v u Q I rx ry h hs
 obtain ⟨p,xs,i,z,rfl,rfl,hq,he,q⟩:=h
 cases rx
 obtain ⟨t,rfl⟩:=ry
 obtain ⟨its,r,pl,hz⟩:=I.tuple hq
 obtain ⟨j,h1,h2,h3,h4,h5⟩:=rV he
 obtain ⟨w,ew,rw'⟩:=r.get h2
 have hl:=r.length
 have hn:=j6
 have fin:EP X pins σ Q w s:=⟨z,H,I,rw',q⟩
 exact subscriptTail_builtinR (x:=w) pl.typeIs slot_tuple_getitem.lookup
  (getItem_tuple (j:=j) (Q:=fun r s'=>r=w∧EP X pins σ Q r s') pl (by omega) (by omega) (by rw [List.size_toArray,← hl];exact h1) (by simpa using ew) ⟨rfl,fin⟩) hs
theorem t6 (its:List Value) (n j:Nat) (u:Value):Obj.mapSeq (·.setIfInBounds j u) { cls:=.type "list",data:=.seq its.toArray n }={ cls:=.type "list",data:=.seq (its.set j u).toArray n }:=by
 simp [Obj.mapSeq]
theorem Inv.lst {pins:List (Addr×Obj)} {σ:St} {H:Hp} {s:Shared} {p:Addr} {xs:List V} (I:Inv X pins σ H s) (h:H p=some (.lst xs)) :
  ∃ (its:List Value) (n:Nat),Vals xs its∧s.heap.get? p=some { cls:=.type "list",data:=.seq its.toArray n }∧xs.length≤sizeLine:=by
 obtain ⟨z,its,n,r,e⟩:=I.hok p _ h
 exact ⟨its,n,r,e,z⟩
theorem Inv.Ck {pins:List (Addr×Obj)} {σ:St} {H:Hp} {s:Shared} {p:Addr} {xs ys:List V} {its its':List Value} {n n':Nat} {f:Obj→Obj} (I:Inv X pins σ H s) (h:H p=some (.lst xs))
  (ho:s.heap.get? p=some { cls:=.type "list",data:=.seq its.toArray n }) (hf:f { cls:=.type "list",data:=.seq its.toArray n }={ cls:=.type "list",data:=.seq its'.toArray n' }) (r:Vals ys its') (hz:ys.length≤sizeLine) (t:Nat) :
  Inv X pins σ (upd H p (.lst ys)) { s with heap:=s.heap.update p f,toks:=t }:=by
 have e:(s.heap.update p f).get? p=some { cls:=.type "list",data:=.seq its'.toArray n' }:=by
  rw [Heap.get?_update_self f ho (by rw [hf]<;>rfl),hf]
 refine I.write (x:=p) (e:=p) (by rw [h];trivial) (.inl rfl) (fun b u hb q=>(Heap.get?_update_other _ _ (Ne.symm hb)).trans q) ⟨_,e⟩ ?_
 exact ⟨hz,its',n',r,e⟩
def tL:V→V→V→Hp→(Hp→Prop)→Prop:=fun o i v H Q=>∃ p xs k j,o=.ref p∧i=.int k∧H p=some (.lst xs)∧ixN xs.length k=some j∧Q (upd H p (.lst (xs.set j v)))
theorem set_list:tS X tL:=by
 intro pins s σ H o i v ov iv u Q I ro ri rv h
 obtain ⟨p,xs,k,j,rfl,rfl,hp,hj,q⟩:=h
 cases ro
 obtain ⟨t,rfl⟩:=ri
 obtain ⟨its,n,r,ho,hz⟩:=I.lst hp
 obtain ⟨h1,h2,h3,h4⟩:=rA hj
 have hl:=r.length
 have hn:=j6
 have I':Inv X pins σ (upd H p (.lst (xs.set j v))) { s with heap:=s.heap.update p (Obj.mapSeq (·.setIfInBounds j u)) }:=
  I.Ck hp ho (t6 its n j u) (r.set rv j) (by rw [List.length_set];exact hz) s.toks
 by_cases h0:0≤k
 ·have hk:k.toNat=j:=by
   rw [seqIndex_of h0 h4] at h1
   exact Option.some.inj h1
  exact PySem.W.ki_setAt ho h0 (by omega) (by rw [List.size_toArray,← hl];exact h4) (by rw [hk];exact ⟨_,I',q⟩)
 ·have hk:(k+(its.toArray.size:Int)).toNat=j:=by
   rw [seqIndex_neg (by omega) h3] at h1
   rw [List.size_toArray,← hl]
   exact Option.some.inj h1
  exact PySem.W.ki_setBack ho (by omega) (by rw [List.size_toArray,← hl];exact h3) (by omega) (by rw [hk];exact ⟨_,I',q⟩)
theorem qI (lo hi:Option Int) (n:Nat):(sliceBounds lo hi none n).1=((HT.sIx n 0 lo:Nat):Int)∧(sliceBounds lo hi none n).2.1=((HT.sIx n n hi:Nat):Int)∧(sliceBounds lo hi none n).2.2=1:=by
 refine ⟨?_,?_,rfl⟩
 ·cases lo with
  | none=>simp [sliceBounds,HT.sIx]
  | some i=>
   simp only [sliceBounds,HT.sIx,Option.getD_none,show (1:Int) > 0 by decide,if_true]
   by_cases h:i < 0
   ·simp only [h,if_true]<;>omega
   ·simp only [h,if_false]<;>omega
 ·cases hi with
  | none=>simp [sliceBounds,HT.sIx]
  | some i=>
   simp only [sliceBounds,HT.sIx,Option.getD_none,show (1:Int) > 0 by decide,if_true]
   by_cases h:i < 0
   ·simp only [h,if_true]<;>omega
   ·simp only [h,if_false]<;>omega
theorem ou (its:List Value) (lo hi:Option Int):slicePick its.toArray lo hi none=((its.drop (HT.sIx its.length 0 lo)).take (HT.sIx its.length its.length hi - HT.sIx its.length 0 lo)).toArray:=by
 obtain ⟨h1,h2,h3⟩:=qI lo hi its.toArray.size
 unfold slicePick
 rw [h1,h2,h3]
 simp only [sliceRange_one,pick_run,List.size_toArray]<;>rfl
def F9 (K:PySem.W.Frag):V→Option Int→Option Int→Hp→VK→Prop:=fun x lo hi H Q=>∃ a xs,x=.ref a∧SqL K H a xs∧∀ p,H p=none→Q (.ref p) (upd H p (.lst (gU xs lo hi)))
theorem r_:SlR X (F9 X.K):=by
 intro pins s σ H x v vl vu lo hi sl Q I rx hs pl pu h
 obtain ⟨a,xs,rfl,hx,q⟩:=h
 cases rx
 obtain ⟨its,r,ht,hz⟩:=I.list hx
 have hlen:=r.length
 refine ⟨"list",_,slot_list_getitem.lookup,ht.isList.typeIs,?_⟩
 refine wpAny_getItem_list_slice ht.isList hs pl pu .none (by simp) ?_ (by rw [List.size_toArray]<;>omega)
 rw [ou,← hlen]
 refine ⟨.ref s.heap.objs.size,_,I.laid (t':=s.toks) (o:=.lst (gU xs lo hi)) (fun b ob q=>Heap.get?_push_of_some _ q) (Nat.le_refl _) ?_,rfl,q _ (I.hok.fresh (Nat.le_refl _))⟩
 exact ⟨Nat.le_trans (lq xs lo hi) hz,_,0,(r.drop (HT.sIx xs.length 0 lo)).take (HT.sIx xs.length xs.length hi - HT.sIx xs.length 0 lo),Heap.get?_push_size _ rfl⟩
def ee:V→Bool
 | .non=>true
 | .bl _=>true
 | .int _=>true
 | .str _=>true
 | _=>false
def eqV:V→V→Bool
 | .non,.non=>true
 | .bl a,.bl b=>a == b
 | .bl a,.int b=>(if a then 1 else 0) == b
 | .int a,.bl b=>a == (if b then 1 else 0)
 | .int a,.int b=>a == b
 | .str a,.str b=>a == b
 | _,_=>false
theorem jP {A:Around} {s:Shared} {y x:V} {u v:Value} (ry:RelV y u) (rx:RelV x v) (fy:ee y=true) (fx:ee x=true):SeqAt.EqAt A s u v (eqV y x):=by
 cases y with
 | non=>
  cases ry
  cases x with
  | non=>cases rx;exact SeqAt.EqAt.same _
  | bl b=>cases rx;exact SeqAt.EqAt.none_bool b
  | int b=>obtain ⟨t,rfl⟩:=rx;exact SeqAt.EqAt.none_int b t
  | str b=>obtain ⟨t,rfl⟩:=rx;exact SeqAt.EqAt.none_str b t
  | _=>exact absurd (show false=true from fx) Bool.false_ne_true
 | bl a=>
  cases ry
  cases x with
  | non=>cases rx;exact SeqAt.EqAt.bool_none a
  | bl b=>cases rx;exact SeqAt.EqAt.bool_bool a b
  | int b=>obtain ⟨t,rfl⟩:=rx;exact SeqAt.EqAt.bool_int a b t
  | str b=>obtain ⟨t,rfl⟩:=rx;exact SeqAt.EqAt.bool_str a b t
  | _=>exact absurd (show false=true from fx) Bool.false_ne_true
 | int a=>
  obtain ⟨t',rfl⟩:=ry
  cases x with
  | non=>cases rx;exact SeqAt.EqAt.int_none a t'
  | bl b=>cases rx;exact SeqAt.EqAt.int_bool a t' b
  | int b=>obtain ⟨t,rfl⟩:=rx;exact SeqAt.EqAt.int_int a t' b t
  | str b=>obtain ⟨t,rfl⟩:=rx;exact SeqAt.EqAt.int_str a t' b t
  | _=>exact absurd (show false=true from fx) Bool.false_ne_true
 | str a=>
  obtain ⟨t',rfl⟩:=ry
  cases x with
  | non=>cases rx;exact SeqAt.EqAt.str_none a t'
  | bl b=>cases rx;exact SeqAt.EqAt.str_bool a t' b
  | int b=>obtain ⟨t,rfl⟩:=rx;exact SeqAt.EqAt.str_int a t' b t
  | str b=>obtain ⟨t,rfl⟩:=rx;exact SeqAt.EqAt.str_str a t' b t
  | _=>exact absurd (show false=true from fx) Bool.false_ne_true
 | _=>exact absurd (show false=true from fy) Bool.false_ne_true
def eqU (x:V) (u:Value):Bool:=match u with
 | .none=>eqV .non x
 | .bool b=>eqV (.bl b) x
 | .int i _=>eqV (.int i) x
 | .str z _=>eqV (.str z) x
 | _=>false
theorem vn {x y:V} {u:Value} (r:RelV y u) (f:ee y=true):eqU x u=eqV y x:=by
 cases y with
 | non=>cases r;rfl
 | bl b=>cases r;rfl
 | int i=>obtain ⟨t,rfl⟩:=r;rfl
 | str z=>obtain ⟨t,rfl⟩:=r;rfl
 | _=>exact absurd (show false=true from f) Bool.false_ne_true
theorem iL {x:V}:∀ {xs:List V} {us:List Value},Vals xs us→xs.all ee=true→us.any (eqU x)=xs.any fun y=>eqV y x
 | _,_,.nil,_=>rfl
 | y :: xs,u :: us,.cons r t,f=>by
  rw [List.all_cons,Bool.and_eq_true] at f
  rw [List.any_cons,List.any_cons,vn r f.1,iL t f.2]
theorem gG {A:Around} {s:Shared} {x:V} {v:Value} (rx:RelV x v) (fx:ee x=true):∀ {xs:List V} {us:List Value},Vals xs us→xs.all ee=true→∀ u∈us,SeqAt.EqAt A s u v (eqU x u)
 | _,_,.nil,_=>fun u hu=>by cases hu
 | y :: xs,u :: us,.cons r t,f=>fun u' hu=>by
  rw [List.all_cons,Bool.and_eq_true] at f
  rcases List.mem_cons.mp hu with rfl | hu
  ·rw [vn r f.1];exact jP r rx f.1 fx
  ·exact gG rx fx t f.2 u' hu
def inV (x:V) (xs:List V):Bool:=xs.any fun y=>eqV y x
def rIn (K:PySem.W.Frag) (neg:Bool):R2:=fun x y H Q=>∃ p xs,y=.ref p∧(SqL K H p xs∨SqT K H p xs)∧ee x=true∧xs.all ee=true∧Q (.bl (if neg then !inV x xs else inV x xs)) H
theorem n5:OpR X (compareOp .In) (rIn X.K false):=by
 intro pins s σ H x y v u Q I rx ry h
 obtain ⟨p,xs,rfl,hq,fx,fs,q⟩:=h
 cases ry
 rcases hq with hq | hq
 ·obtain ⟨its,r,pl,hz⟩:=I.list hq
  refine SeqAt.in_listAt (eqU x) pl.isList (fun w hw=>gG rx fx r fs w (by simpa using hw)) ⟨.bl _,H,I,rfl,?_⟩
  rw [show its.toArray.any (eqU x)=its.any (eqU x) by simp,iL r fs]
  exact q
 ·obtain ⟨its,r,pl,hz⟩:=I.tuple hq
  refine SeqAt.in_tupleAt (eqU x) pl (fun w hw=>gG rx fx r fs w (by simpa using hw)) ⟨.bl _,H,I,rfl,?_⟩
  rw [show its.toArray.any (eqU x)=its.any (eqU x) by simp,iL r fs]
  exact q
theorem j_:OpR X (compareOp .NotIn) (rIn X.K true):=by
 intro pins s σ H x y v u Q I rx ry h
 obtain ⟨p,xs,rfl,hq,fx,fs,q⟩:=h
 cases ry
 rcases hq with hq | hq
 ·obtain ⟨its,r,pl,hz⟩:=I.list hq
  refine SeqAt.notIn_listAt (eqU x) pl.isList (fun w hw=>gG rx fx r fs w (by simpa using hw)) ⟨.bl _,H,I,rfl,?_⟩
  rw [show its.toArray.any (eqU x)=its.any (eqU x) by simp,iL r fs]
  exact q
 ·obtain ⟨its,r,pl,hz⟩:=I.tuple hq
  refine SeqAt.notIn_tupleAt (eqU x) pl (fun w hw=>gG rx fx r fs w (by simpa using hw)) ⟨.bl _,H,I,rfl,?_⟩
  rw [show its.toArray.any (eqU x)=its.any (eqU x) by simp,iL r fs]
  exact q
theorem cx.or {f:Value} {r r':List V→Hp→VK→Prop} (h:cx X f r) (h':cx X f r'):cx X f (fun xs H Q=>r xs H Q∨r' xs H Q):=by
 intro pins s σ H xs us Q I rs q
 rcases q with q | q
 ·exact h pins s σ H xs us Q I rs q
 ·exact h' pins s σ H xs us Q I rs q
theorem km:cx X (.type "list") (fun xs H Q=>∃ p ys,xs=[.ref p]∧(SqL X.K H p ys∨SqT X.K H p ys)∧∀ l,H l=none→Q (.ref l) (upd H l (.lst ys))):=by
 intro pins s σ H xs us Q I r h
 obtain ⟨p,ys,rfl,hq,q⟩:=h
 obtain ⟨u,rfl,rx⟩:=vals1 r
 cases rx
 have fin:∀ (its:List Value),Vals ys its→ys.length≤sizeLine→∀ (h':Heap) (c':Nat),(∀ b o',s.heap.get? b=some o'→h'.get? b=some o') →
   h'.get? s.heap.objs.size=some { cls:=.type "list",dict:=none,data:=.seq its.toArray c',slots:=#[] }→EP X pins σ Q (.ref s.heap.objs.size) { s with heap:=h' }:=fun its r' hz h' c' kp e=>
  ⟨.ref s.heap.objs.size,_,I.laid (t':=s.toks) kp (Nat.le_refl _) (show bH X.prog X.w _ h' _ (.lst ys) from ⟨hz,its,c',r',e⟩),rfl,q _ (I.hok.fresh (Nat.le_refl _))⟩
 rcases hq with hq | hq
 ·obtain ⟨its,r',pl,hz⟩:=I.list hq
  have hlen:=r'.length
  obtain ⟨o,ho,hc,n,hd⟩:=pl.isList
  exact call_list_seq p (.inl rfl) ho hc hd (fun h' c' kp e=>fin its r' hz h' c' kp e) (by simp only [List.size_toArray]<;>omega)
 ·obtain ⟨its,r',pl,hz⟩:=I.tuple hq
  have hlen:=r'.length
  obtain ⟨o,ho,hc,n,hd⟩:=pl
  exact call_list_seq p (.inr rfl) ho hc hd (fun h' c' kp e=>fin its r' hz h' c' kp e) (by simp only [List.size_toArray]<;>omega)
theorem jx:cx X (.type "tuple") (fun xs H Q=>∃ p ys,xs=[.ref p]∧((SqL X.K H p ys∧∀ l,H l=none→Q (.ref l) (upd H l (.tup ys)))∨(SqT X.K H p ys∧Q (.ref p) H))):=by
 intro pins s σ H xs us Q I r h
 obtain ⟨p,ys,rfl,h⟩:=h
 obtain ⟨u,rfl,rx⟩:=vals1 r
 cases rx
 rcases h with ⟨hq,q⟩ | ⟨hq,q⟩
 ·obtain ⟨its,r',pl,hz⟩:=I.list hq
  have hlen:=r'.length
  refine call_tuple_list pl.isList (fun h' kp=>?_) (by simp only [List.size_toArray]<;>omega)
  have I1:Inv X pins σ H { s with heap:=h' }:=I.kept (t':=s.toks) kp
  have I2:Inv X pins σ (upd H h'.objs.size (.tup ys)) { s with heap:=h'.push { cls:=.type "tuple",data:=.seq its.toArray } }:=
   I1.laid (t':=s.toks) (fun b o e=>Heap.get?_push_of_some _ e) (Nat.le_refl _) (show bH X.prog X.w _ _ _ (.tup ys) from ⟨hz,its,r',IsTup.new _ _⟩)
  exact ⟨.ref h'.objs.size,_,I2,rfl,q _ (I1.hok.fresh (Nat.le_refl _))⟩
 ·obtain ⟨its,r',pl,hz⟩:=I.tuple hq
  exact call_tuple_same pl ⟨.ref p,H,I,rfl,q⟩
def tyV (K:PySem.W.Frag) (T:String) (x:V) (H:Hp):Prop:=match x with
 | .str _=>T="str"
 | .int _=>T="int"
 | .ref p=>(T="list"∧∃ xs,SqL K H p xs)∨(T="tuple"∧∃ o,K.lookup p=some o∧o.cls=.type "tuple"∧o.dict=none) ∨
   (T="dict"∧((∃ kvs,H p=some (.dK kvs))∨∃ kvs,H p=some (.dT kvs)))∨(T="set"∧∃ S n,H p=some (.set S n))
 | _=>False
theorem u7 {pins:List (Addr×Obj)} {σ:St} {H:Hp} {s:Shared} {T:String} {x:V} {v:Value} (I:Inv X pins σ H s) (r:RelV x v) (ty:tyV X.K T x H) :
  s.TypeIs v T∧∀ a,v=.ref a→∃ ob,s.heap.get? a=some ob∧ob.dict=none:=by
 cases x with
 | str z=>
  obtain ⟨t,rfl⟩:=r
  cases (show T="str" from ty)
  exact ⟨typeIs_str s z t,fun _ e=>nomatch e⟩
 | int i=>
  obtain ⟨t,rfl⟩:=r
  cases (show T="int" from ty)
  exact ⟨typeIs_int s i t,fun _ e=>nomatch e⟩
 | ref p=>
  cases r
  rcases ty with ⟨rfl,xs,hq⟩ | ⟨rfl,o,hk,hc,hd⟩ | ⟨rfl,hk⟩ | ⟨rfl,S,n,hk⟩
  ·obtain ⟨its,_,pl,_⟩:=I.list hq
   refine ⟨pl.isList.typeIs,fun a e=>?_⟩
   cases e
   obtain ⟨o,n,e,c,hd,_⟩:=pl
   exact ⟨o,e,hd⟩
  ·refine ⟨⟨o,I.kIn p o hk,hc⟩,fun a e=>?_⟩
   cases e
   exact ⟨o,I.kIn _ o hk,hd⟩
  ·have z:∃ o,s.heap.get? p=some o∧o.ExactDict:=by
    rcases hk with ⟨kvs,hk⟩ | ⟨kvs,hk⟩
    ·obtain ⟨_,_,_,_,o,_,_,e,ex,_⟩:=I.hok p _ hk
     exact ⟨o,e,ex⟩
    ·obtain ⟨_,_,_,_,o,_,_,e,ex,_⟩:=I.hok p _ hk
     exact ⟨o,e,ex⟩
   obtain ⟨o,e,ex⟩:=z
   refine ⟨⟨o,e,ex.1⟩,fun a e2=>?_⟩
   cases e2
   exact ⟨o,e,ex.2.1⟩
  ·obtain ⟨o,_,_,_,e,ex,_⟩:=I.hok p _ hk
   refine ⟨⟨o,e,ex.1⟩,fun a e2=>?_⟩
   cases e2
   exact ⟨o,e,ex.2.1⟩
 | _=>exact False.elim ty
variable {o e:Expr} {es:List Expr} {to:TE} {t:TA} {name:Str} {apos cpos:Pos} {T id:String} {r:V→List V→Hp→VK→Prop}
end
def MtM (X:Cx) (id:String) (r:V→List V→Hp→VK→Prop):Prop:=
 ∀ (pins:List (Addr×Obj)) (s:Shared) (σ:St) (H:Hp) (x:V) (xs:List V) (v:Value) (us:List Value) (Q:VK),Inv X pins σ H s→RelV x v→Vals xs us→r x xs H Q →
  wpAny (model X.prog X.w) X.A (call (.builtin id) (v :: us)) (EP X pins σ Q) X.xe s
theorem Vals.one:∀ {x:V} {us:List Value},Vals [x] us→∃ u,us=[u]∧RelV x u
 | _,_,.cons r .nil=>⟨_,rfl,r⟩
theorem Vals.two:∀ {x y:V} {us:List Value},Vals [x,y] us→∃ u v,us=[u,v]∧RelV x u∧RelV y v
 | _,_,_,.cons r (.cons q .nil)=>⟨_,_,rfl,r,q⟩
theorem Vals.eraseIdx:∀ {xs:List V} {us:List Value} (i:Nat),Vals xs us→Vals (xs.eraseIdx i) (us.eraseIdx i)
 | _,_,_,.nil=>.nil
 | _,_,0,.cons _ t=>t
 | _,_,i+1,.cons r t=>.cons r (Vals.eraseIdx i t)
theorem Vals.reverse {xs:List V} {us:List Value} (h:Vals xs us):Vals xs.reverse us.reverse:=by
 induction h with
 | nil=>exact .nil
 | cons r t ih=>rw [List.reverse_cons,List.reverse_cons];exact Vals.append ih (.cons r .nil)
theorem nN {α:Type}:∀ (l:List α) (i:Nat),(l.eraseIdx i).length≤l.length
 | [],_=>Nat.le_refl _
 | _ :: _,0=>Nat.le_succ _
 | _ :: r,i+1=>Nat.succ_le_succ (nN r i)
section
variable {X:Cx} {pins:List (Addr×Obj)} {σ:St} {H:Hp} {s:Shared} {l b:Addr} {xs ys zs:List V}
theorem Inv.t5 {its its':List Value} {n:Nat} {f:Array Value→Array Value} {t':Nat} (I:Inv X pins σ H s) (hH:H l=some (.lst xs))
  (e:s.heap.get? l=some { cls:=.type "list",data:=.seq its.toArray n }) (hf:f its.toArray=its'.toArray) (hv:Vals ys its') (hz:ys.length≤sizeLine) :
  Inv X pins σ (upd H l (.lst ys)) { s with heap:=s.heap.update l (Obj.mapSeq f),toks:=t' }:=by
 have q:=PySem.IsL.update e f
 rw [hf] at q
 refine I.write (x:=l) (e:=l) (by rw [hH];exact trivial) (.inl rfl) (fun b' u hb hu=>(Heap.get?_update_other s.heap (Obj.mapSeq f) (Ne.symm hb)).trans hu) ⟨_,q⟩ ?_
 exact ⟨hz,its',_,hv,q⟩
theorem Inv.FR {its:List Value} {t':Nat} (I:Inv X pins σ H s) (hv:Vals ys its) (hz:ys.length≤sizeLine) :
  Inv X pins σ (upd H s.heap.objs.size (.lst ys)) { s with heap:=s.heap.push { cls:=.type "list",data:=.seq its.toArray },toks:=t' }:=
 I.laid (fun _ _ q=>Heap.get?_push_of_some _ q) (Nat.le_refl _) ⟨hz,its,0,hv,Heap.get?_push_size _ rfl⟩
theorem Inv.fresh (I:Inv X pins σ H s):H s.heap.objs.size=none:=I.hok.fresh (Nat.le_refl _)
theorem Inv.l0 (I:Inv X pins σ H s) (hH:H l=some (.lst xs)):xs.length≤sizeLine∧∃ (its:List Value) (n:Nat),Vals xs its∧xs.length=its.length∧s.heap.get? l=some { cls:=.type "list",data:=.seq its.toArray n }:=by
 obtain ⟨z,its,n,r,e⟩:=I.hok l _ hH
 exact ⟨z,its,n,r,r.length,e⟩
theorem jg {n:Nat} (h:n≤sizeLine):Builtin.List.listTooLong n=false:=by
 unfold Builtin.List.listTooLong
 exact decide_eq_false (by omega)
end
section
variable {X:Cx}
def Aw:V→List V→Hp→VK→Prop:=fun x vs H Q=>∃ l xs y,x=.ref l∧vs=[y]∧H l=some (.lst xs)∧xs.length < sizeLine∧Q .non (upd H l (.lst (xs++[y])))
theorem nC:MtM X "list.append" Aw:=by
 intro pins s σ H x vs v us Q I rx rv h
 obtain ⟨l,xs,y,rfl,rfl,hH,hz,q⟩:=h
 cases rx
 obtain ⟨u,rfl,ru⟩:=rv.one
 obtain ⟨z,its,n,r,hl,e⟩:=I.l0 hH
 refine call_meets F.slot_list_append ⟨_,e,rfl⟩ F.entry_list_append (F.args_list_append_2 _ _) (PySem.list_append l its.toArray n u (by rw [List.size_toArray];omega)) ⟨e,?_⟩
 refine ⟨.non,_,I.t5 (its':=its++[u]) hH e (by simp) (r.append (.cons ru .nil)) ?_,rfl,q⟩
 rw [List.length_append,List.length_singleton]
 omega
def sA:V→List V→Hp→VK→Prop:=fun x vs H Q=>∃ l b xs zs,x=.ref l∧vs=[.ref b]∧H l=some (.lst xs)∧H b=some (.lst zs)∧xs.length+zs.length≤sizeLine∧Q .non (upd H l (.lst (xs++zs)))
theorem u9:MtM X "list.extend" sA:=by
 intro pins s σ H x vs v us Q I rx rv h
 obtain ⟨l,b,xs,zs,rfl,rfl,hH,hB,hz,q⟩:=h
 cases rx
 obtain ⟨u,rfl,ru⟩:=rv.one
 cases ru
 obtain ⟨z,its,n,r,hl,e⟩:=I.l0 hH
 obtain ⟨z2,its2,n2,r2,hl2,e2⟩:=I.l0 hB
 have hsz:its.toArray.size+its2.toArray.size≤sizeLine:=by rw [List.size_toArray,List.size_toArray];omega
 have hlong:¬(!its.toArray.isEmpty && Builtin.List.listTooLong (its.toArray.size+its2.toArray.size))=true:=by
  rw [jg hsz,Bool.and_false]
  exact Bool.false_ne_true
 refine call_meets F.slot_list_extend ⟨_,e,rfl⟩ F.entry_list_extend (F.args_list_extend_2 _ _)
  (AutoSeq1.list_extend_list_list_0 l its.toArray n b its2.toArray n2 hlong (by rw [List.size_toArray];omega) (by omega)) ⟨e,e2,?_⟩
 refine ⟨.non,_,I.t5 (its':=its++its2) hH e (by simp) (r.append r2) ?_,rfl,q⟩
 rw [List.length_append]
 omega
def u6:V→List V→Hp→VK→Prop:=fun x vs H Q=>∃ l xs i k y,x=.ref l∧vs=[.int i]∧H l=some (.lst xs)∧-(2 ^ 63)≤i∧i < 2 ^ 63∧seqIndex? i xs.length=some k∧xs[k]?=some y∧Q y (upd H l (.lst (xs.eraseIdx k)))
theorem qz:MtM X "list.pop" u6:=by
 intro pins s σ H x vs v us Q I rx rv h
 obtain ⟨l,xs,i,k,y,rfl,rfl,hH,h1,h2,hk,hy,q⟩:=h
 cases rx
 obtain ⟨u,rfl,ru⟩:=rv.one
 obtain ⟨t,rfl⟩:=ru
 obtain ⟨z,its,n,r,hl,e⟩:=I.l0 hH
 obtain ⟨w,hw,rw'⟩:=r.get hy
 refine call_meets F.slot_list_pop ⟨_,e,rfl⟩ F.entry_list_pop (F.args_list_pop_2 _ _)
  (MeetsSeq.list_pop_at l its.toArray n i t k w (fitsIndex_both h1 h2) (by rw [List.size_toArray,← hl];exact hk) (by rw [← Array.getElem?_toList];exact hw) (by rw [List.size_toArray];omega)) ⟨e,?_⟩
 refine ⟨y,_,I.t5 (its':=its.eraseIdx k) hH e ?_ (r.eraseIdx k) ?_,rw',q⟩
 ·show its.toArray.eraseIdxIfInBounds k=(its.eraseIdx k).toArray
  rw [List.eraseIdxIfInBounds_toArray]
 ·have:=nN xs k
  omega
def Fj:R2:=fun x y H Q=>∃ l b xs zs,x=.ref l∧y=.ref b∧H l=some (.lst xs)∧H b=some (.lst zs)∧xs.length+zs.length≤sizeLine∧∀ p,H p=none→Q (.ref p) (upd H p (.lst (xs++zs)))
theorem B_:OpR X (binaryOp .Add) Fj:=by
 intro pins s σ H x y v u Q I rx ry h
 obtain ⟨l,b,xs,zs,rfl,rfl,hH,hB,hz,q⟩:=h
 cases rx
 cases ry
 obtain ⟨z,its,n,r,hl,e⟩:=I.l0 hH
 obtain ⟨z2,its2,n2,r2,hl2,e2⟩:=I.l0 hB
 refine PySem.P.add_list e e2 ?_ (by rw [List.size_toArray,List.size_toArray];omega)
 have ea:its.toArray++its2.toArray=(its++its2).toArray:=by simp
 rw [ea]
 exact ⟨.ref _,_,I.FR (t':=s.toks) (r.append r2) (by rw [List.length_append];omega),rfl,q _ I.fresh⟩
end
section
variable {prog:Program} {w:World} {A:Around} {E:Value→Shared→Prop} {s:Shared}
theorem tq {a c n:Nat} (hac:a≤c) (hc:c≤n):sliceBounds (some (a:Int)) (some (c:Int)) none n=((a:Int),(c:Int),1):=by
 simp only [sliceBounds,Option.getD_none]
 have h1:¬((a:Int) < 0):=by omega
 have h2:¬((c:Int) < 0):=by omega
 simp only [h1,h2,if_false,show (1:Int) > 0 by decide,if_true]
 congr 1
 ·omega
 ·congr 1;omega
set_option maxRecDepth 100000 in
theorem AE {l b sl : Addr} {items new : Array Value} {n n2 : Nat} {vl vu : Value} {a c : Nat} {Q : Unit → Shared → Prop}
    (e : s.heap.get? l = some { cls := .type "list", data := .seq items n }) (e2 : s.heap.get? b = some { cls := .type "list", data := .seq new n2 }) (hne : l ≠ b)
    (hs : s.heap.IsSliceOf sl vl vu .none) (pl : IsPart vl (some (a : Int))) (pu : IsPart vu (some (c : Int))) (hac : a ≤ c) (hc : c ≤ items.size)
    (hsz : items.size + new.size ≤ sizeLine) (h : Q () { s with heap := s.heap.update l (Obj.mapSeq fun xs => xs.extract 0 a ++ new ++ xs.extract c xs.size) }) :
    wpAny (model prog w) A (setItem (.ref l) (.ref sl) (.ref b)) Q E s := by
  have hl : s.heap.IsList l items := PySem.IsL.isList e
  have hb : s.heap.IsList b new := PySem.IsL.isList e2
  obtain ⟨os, hos, hcs, hds⟩ := id hs
  have hTs : s.TypeIs (.ref sl) "slice" := ⟨os, hos, hcs⟩
  have hstep : ¬ ((rawPart none == rawInt 0) = true) := Bool.false_ne_true
  have hsame : Builtin.List.listSameRef (.ref l) (.ref b) = false := by
    unfold Builtin.List.listSameRef
    exact beq_eq_false_iff_ne.mpr hne
  have hmax : (max (a : Int) (c : Int)).toNat = c := by omega
  have hz' : ((fun xs : Array Value => xs.extract 0 a ++ new ++ xs.extract c xs.size) items).size ≤ sizeLine + 1 := by
    simp only [Array.size_append, Array.size_extract]
    omega
  unfold setItem
  try with_reducible refine wpAny_holding ?_
  first | refine wpAny_bind (wpAny_pure ?_) | skip
  refine wpAny_bind (wpAny_sequenceKey hl.typeIs (by decide) ?_)
  refine wpAny_bind (wpAny_callSpecial?_slot (name := Str.ofString "__setitem__") hl.typeIs slot_list_setitem
    (wpAny_call_entry slot_list_setitem hl.typeIs entry_list_setitem ?_ (args_list_setitem _ _ _)))
  show wpAny _ _ (Builtin.List.listSubscript? (.ref sl) >>= _) _ _ s
  refine wpAny_bind ?_
  unfold Builtin.List.listSubscript?
  refine wpAny_bind (wpAny_specialOf hTs slice_no_index ?_)
  simp only [Option.isNone_none, if_true]
  refine wpAny_pure ?_
  show wpAny _ _ (typeOf (.ref sl) >>= _) _ _ s
  refine wpAny_bind (wpAny_typeOf hTs ?_)
  first
    | rw [if_neg (by decide)]
    | refine PySem.W.KFB.if_not (by decide) ?_
  rw [listSliceParts_eq]
  refine wpAny_bind (wpAny_bind (wpAny_field hos hds (x := .none) rfl (wpAny_bind (wpAny_listPart .none ?_))))
  rw [if_neg hstep]
  refine wpAny_bind (wpAny_field hos hds (x := vl) rfl (wpAny_bind (wpAny_listPart pl ?_)))
  refine wpAny_bind (wpAny_field hos hds (x := vu) rfl (wpAny_bind (wpAny_listPart pu (wpAny_pure ?_))))
  first
    | simp only [hsame, Bool.false_eq_true, if_false]
    | refine PySem.W.KFB.if_not hsame ?_
    | (dsimp only
       rw [if_neg (by rw [hsame]; exact Bool.false_ne_true)])
  refine wpAny_bind (m := Builtin.List.listAllItems (.ref b) "must assign iterable to extended slice") ?_
  unfold Builtin.List.listAllItems
  refine wpAny_bind (wpAny_typeOf hb.typeIs ?_)
  first
    | refine PySem.W.KFB.if_so (by decide) ?_
    | rw [if_pos (by decide)]
    | simp only [beq_self_eq_true, Bool.true_or, if_true]
  unfold Builtin.List.listItems
  refine wpAny_bind (wpAny_seqItems e2 rfl (wpAny_pure ?_))
  refine wpAny_bind (wpAny_bind (wpAny_seqItems e rfl (wpAny_pure ?_)))
  refine wpAny_bind (wpAny_of_eq ((sliceIndices_raw (some (a : Int)) (some (c : Int)) none items.size (by simp)).trans (congrArg (pure : Int × Int × Int → Sem (Int × Int × Int)) (tq hac hc))) ?_)
  show wpAny _ _ (if ((1 : Int) == 1) = true then _ else _) _ _ s
  rw [if_pos (by decide)]
  refine wpAny_bind (wpAny_rule ?_)
  first
    | simp only [jg hsz, Bool.false_eq_true, if_false]
    | refine PySem.W.KFB.if_not (jg hsz) ?_
  first | refine wpAny_bind (wpAny_pure ?_) | skip
  show wpAny _ _ (updateSeq l (fun xs => xs.extract 0 ((a : Int)).toNat ++ new ++ xs.extract (max (a : Int) (c : Int)).toNat xs.size) >>= _) _ _ s
  rw [hmax, Int.toNat_natCast]
  refine wpAny_bind (wpAny_updateSeq (hz := Nat.le_trans (Nat.le_add_right _ _) hsz) (_hz' := hz') e rfl ?_)
  refine wpAny_bind (wpAny_letGo ?_)
  first
    | exact wpAny_bind (wpAny_pure (wpAny_pure ⟨.none, rfl, wpAny_pure h⟩))
    | exact wpAny_pure ⟨.none, rfl, wpAny_pure h⟩
end
end L2
namespace Att
open PySem PySem.W PySem.Calls PyProof.Rows
theorem l5 {P:Params} {h:Heap}:∀ (ns:List Int) (vs:List Value),WellAll P h vs (ns.map WData.int)→IntsAre vs ns:=by
 intro ns
 induction ns with
 | nil=>
  intro vs w
  rw [List.map_nil] at w
  cases w
  exact .nil
 | cons n ns ih=>
  intro vs w
  rw [List.map_cons] at w
  cases w with
  | cons a b=>
   cases a
   exact .cons _ _ (ih _ b)
theorem uO {l:OpenLaw} {n:Nat} (hn:l.most=some n) {P:Params} {h:Heap} {args:List WData} {vals:List Value}
    (hpre:l.row.toRowW.claim.pre args=true) (hwl:WellAll P h vals args) :
    ∃ a vs ns,vals=[Value.ref a]∧args=[WData.list (ns.map WData.int)]∧h.get? a=some { cls:=.type "list",data:=.seq vs.toArray }∧IntsAre vs ns∧ns.length≤n:=by
  have hsh:WShape.hasAll [] args [.list .int]=true:=(pre_splitW hpre).1
  have hc:l.pre.holds [] { args:=args }=true:=(pre_splitW hpre).2
  obtain ⟨d,r,rfl,h1,h2⟩:=hasAllW_cons hsh
  obtain rfl:=hasAllW_nil h2
  obtain ⟨xs,rfl,h3⟩:=hasW_list h1
  obtain ⟨ns,rfl⟩:=items_int h3
  have hlen:ns.length≤n:=by
    unfold OpenLaw.pre at hc
    have h4:(WTm.not (.lt (.lit (.int (n:Int))) (.len (.arg 0)))).holds [] { args:=[.list (ns.map .int)] }=true:=by
      have h4:=(holds_andW hc).1
      rw [hn] at h4
      exact h4
    have h5:=condW_of h4 (w_not (w_lt w_lit (w_len_list (w_arg rfl))))
    rw [List.length_map] at h5
    refine Nat.le_of_not_lt fun q=>?_
    have q':(n:Int) < ((ns.length:Nat):Int):=by omega
    first
      | (rw [decide_eq_true q'] at h5;exact absurd h5 (by decide))
      | (simp at h5;omega)
  cases hwl with
  | cons w1 w2=>
    cases w2
    cases w1 with
    | list ho hall=>exact ⟨_,_,ns,rfl,rfl,ho,l5 ns _ hall,hlen⟩
theorem vW (l:OpenLaw) (args:List WData):l.row.toRowW.claim.post args (.bool true) args=true:=
 postW_of (r:=l.row.toRowW) (X:=(true == true))
  (show WShape.has [] (.bool true) .bool=true by first | rfl | decide | simp [WShape.has,WShape.arms,WShape.armsAll])
  (show (WTm.eq .res (.lit (.bool true))).value [] { args:=args,res:=some (.bool true),after:=args }=some (.bool (true == true)) from w_eq_bool (w_res rfl) w_lit) rfl
theorem rp {l:OpenLaw} {n:Nat} {q:Program} {loose:List Str} {XP:(Str→Option Value)→Heap→Prop} {YP:World→Heap→Prop} {d:DefRec}
  (hn:l.most=some n) (hdf:d.params.defaults=[])
  (call:∀ (w:World) (s₀ s₁:Shared) (mg mb:Str→Option Value) (fa:Addr) (o:Obj) (pm cd doc:Value) (a:Addr) (vs:List Value) (ns:List Int),
   Ground q loose [] XP w s₀ mg mb s₁.heap→YP w s₁.heap →
   s₁.heap.get? fa=some o→o.data=.func (docDef d.name d.params d.body d.scope pm cd doc)→s₁.heap.CodeRec cd d.name→mg d.name=some (.ref fa) →
   s₁.heap.get? a=some { cls:=.type "list",data:=.seq vs.toArray }→IntsAre vs ns→ns.length≤n→s₁.gens=#[] →
   codeAny (model l.prog w) callerA (.call (.ref fa) ⟨[.ref a],[]⟩) (fun r s'=>r=.ok (.ret (.bool true))∧OldK s₁.heap s'.heap∧s'.os=s₁.os∧AllBare s'.gens) s₁) :
  WalkO q loose XP YP l.row.toRowW d [] (fun f vs=>PySem.call f vs):=by
 intro w s₀ s₁ mg mb G Y fa o pm cd doc dV kV ho hd hcd hD hmg hg args vals as hpre hlay hrd hwl hlo
 obtain rfl:dV=.none:=Dflts.none hD hdf
 obtain rfl:kV=.none:=Dflts.noKw hD
 obtain ⟨a,vs,ns,rfl,rfl,hobj,hints,hlen⟩:=uO hn hpre hwl
 refine enter_call (codeAny_mono (call w s₀ s₁ mg mb fa o pm cd doc a vs ns G Y ho (fd_plain hd) hcd hmg hobj hints hlen hg) fun r s' hq=>?_)
 obtain ⟨rfl,h2,h3,h4⟩:=hq
 exact ⟨.inl ⟨.bool true,.bool true,[],rfl,fun _=>rfl,.bool true,vW l _,fun _=>⟨List.Pairwise.nil,fun _ hm=>(nomatch hm)⟩⟩,h2,h3,h4⟩
end Att
namespace L2
open PySem PySem.Spec PyProof.Rows
theorem ij:∀ {vs:List Value} {ns:List Int},IntsAre vs ns→Vals (ns.map V.int) vs
 | _,_,.nil=>.nil
 | _,_,.cons n t h=>.cons ⟨t,rfl⟩ (ij h)
def wb (H:Hp):Prop:=∀ b,H b=none∨∃ o xs,H b=some (.frz o (.lst xs))
theorem wo {P:Program} {w:World} {K:PySem.W.Frag} {mg mb:Str→Option Value} {CX:CXT} {k:Nat} {fa a:Addr} {fd:FuncData} {x:Str} {sp:Sp} {s₁:Shared} {vs:List Value} {ns:List Int}
  (KX:K.In s₁.heap) (hns:s₁.heap.Ns mainGlobals mg) (hb:s₁.heap.Ns builtinsNs mb) (hbb:∀ x:Str,x≠"__name__"→mb x=bootBuiltins x) (hlim:s₁.heap.NoLimit) (hg:s₁.gens=#[])
  (ha:s₁.heap.get? a=some { cls:=.type "list",data:=.seq vs.toArray }) (hi:IntsAre vs ns) (hl:ns.length≤sizeLine) (hr:cW k callerA)
  (F:∀ base:Heap,K.In base→base.Ns mainGlobals mg→fw P w K mg base CX k fa fd [x] sp) (hbind:∀ (s:Shared) (u:Value),BindsTo s fd ⟨[u],[]⟩ [(x,u)])
  (hsp:∀ H:Hp,wb H→SqL K H a (ns.map V.int)→sp [.ref a] H (fun v _=>v=.bl true) fun _ _ _=>False)
  (hCX:∀ H e s',CX [] H s₁ (fun _ _ _=>False) e s'→False) :
  codeAny (model P w) callerA (.call (.ref fa) ⟨[.ref a],[]⟩) (fun r s'=>r=.ok (.ret (.bool true))∧OldK s₁.heap s'.heap∧s'.os=s₁.os∧AllBare s'.gens) s₁:=by
 have rv:=ij hi
 have lenV:=hi.length
 have core:∀ H:Hp,wb H→SqL K H a (ns.map V.int)→HOk P w H s₁.heap→(∀ b,H b≠none→b=a)→(H a≠none→K.lookup a=none) →
   codeAny (model P w) callerA (.call (.ref fa) ⟨[.ref a],[]⟩) (fun r s'=>r=.ok (.ret (.bool true))∧OldK s₁.heap s'.heap∧s'.os=s₁.os∧AllBare s'.gens) s₁:=by
  intro H hO hS hok hA hK
  have base_of:∀ {b:Addr} {o:Obj},s₁.heap.get? b=some o→H b=none→(i8 s₁.heap H).get? b=some o:=fun e n=>wO e n
  have noA:∀ {b:Addr} {o:Obj} {es:Array DictEntry} {ep:Nat},s₁.heap.get? b=some o→o.data=.dict es ep→H b=none:=fun {b o es ep} e d=>by
   cases q:H b with
   | none=>rfl
   | some u=>
    have e':b=a:=hA b (by rw [q];simp)
    subst e'
    rw [ha] at e;cases e
    have d':Data.seq vs.toArray _=Data.dict es ep:=d
    cases d'
  have nsK:∀ {b:Addr} {m:Str→Option Value},s₁.heap.Ns b m→(i8 s₁.heap H).Ns b m:=fun {b m} ⟨o,es,ep,e,d,r⟩=>⟨o,es,ep,base_of e (noA e d),d,r⟩
  have hKb:K.In (i8 s₁.heap H):=fun b o e=>base_of (KX b o e) (by
   cases q:H b with
   | none=>rfl
   | some u=>
    have e':b=a:=hA b (by rw [q];simp)
    subst e'
    rw [hK (by rw [q];simp)] at e;cases e)
  have hM:Mod K mg (i8 s₁.heap H):=⟨hKb,nsK hns,⟨mb,nsK hb,hbb⟩,let ⟨mc,h1,h2⟩:=hlim;⟨mc,nsK h1,h2⟩⟩
  have e0:tH P w K mg (i8 s₁.heap H) callerA [] s₁ H:=⟨rfl,hM,fun b o e=>zH e,Nat.le_of_eq (vE _ _),trivial,fun b hb=>absurd (show b∈([]:List Addr) from hb) (by simp),hok,.of_eq hg⟩
  refine codeAny_mono ((F _ hKb (nsK hns)).run callerA [] s₁ H ⟨[.ref a],[]⟩ [.ref a] [.ref a] _ _ hr e0 (hbind s₁ (.ref a)) (.cons rfl .nil) (hsp H hO hS)) fun r s' h=>?_
  cases r with
  | error e=>exact (hCX H e s' h).elim
  | ok fl=>
   cases fl with
   | next=>exact False.elim h
   | brk=>exact False.elim h
   | cont=>exact False.elim h
   | ret u=>
    obtain ⟨v,H',os,bare,un,hok',r',q⟩:=h
    have q':v=.bl true:=q
    subst q'
    obtain rfl:u=Value.bool true:=r'
    refine ⟨rfl,OldK.of_keep fun b o e=>?_,os,bare⟩
    cases q:H b with
    | none=>exact un.keep b o e q (by intro z;exact absurd (show b∈([]:List Addr) from z) (by simp)) (by simp)
    | some u=>
     rcases hO b with z | ⟨ob,xs,z⟩
     ·rw [q] at z;cases z
     ·have z2:=un.frzs b ob _ z
      obtain ⟨e1,_⟩:=hok b _ z
      obtain ⟨e2,_⟩:=hok' b _ z2
      rw [e] at e1;cases e1
      exact e2
 cases hk:K.lookup a with
 | some o=>
  have e:=KX a o hk
  rw [ha] at e
  cases e
  refine core (fun _=>none) (fun _=>.inl rfl) (.inr ⟨_,vs.toArray,_,hk,rfl,rfl,rfl,by rw [List.size_toArray,lenV];exact hl,by simpa using rv⟩) (fun b u z=>by have z':(none:Option HO)=some u:=z;cases z') (fun b z=>absurd rfl z) fun z=>absurd rfl z
 | none=>
  refine core (fun b=>if b=a then some (.frz { cls:=.type "list",data:=.seq vs.toArray } (.lst (ns.map V.int))) else none) (fun b=>?_) (.inl (.inr ⟨{ cls:=.type "list",data:=.seq vs.toArray },if_pos rfl⟩)) (fun b u z=>?_) (fun b z=>?_) fun _=>hk
  ·by_cases hb:b=a
   ·exact .inr ⟨_,_,if_pos hb⟩
   ·exact .inl (if_neg hb)
  ·by_cases hb:b=a
   ·have z':=(if_pos hb).symm.trans z
    cases z'
    subst hb
    exact ⟨ha,by rw [List.length_map];exact hl,vs,_,rv,ha⟩
   ·have z':=(if_neg hb).symm.trans z
    cases z'
  ·by_cases hb:b=a
   ·exact hb
   ·exact absurd (if_neg hb) z
theorem ze {l:PySem.W.OpenLaw} {n k:Nat} {q:Program} {loose:List Str} {XP:(Str→Option Value)→Heap→Prop} {YP:World→Heap→Prop} {d:DefRec} {K:Params→PySem.W.Frag} {CX:World→CXT} {sp:World→Sp} {x:Str}
  (hn:l.most=some n) (hn2:n≤sizeLine) (hdf:d.params.defaults=[]) (hr:cW k callerA)
  (hY:∀ (w:World) (h:Heap),YP w h→(K w.params).In h)
  (F:∀ (w:World) (mg:Str→Option Value) (fa:Addr) (h:Heap),(K w.params).In h→h.Ns mainGlobals mg→mg d.name=some (.ref fa) →
   ∃ fd:FuncData,(∀ (s:Shared) (u:Value),BindsTo s fd ⟨[u],[]⟩ [(x,u)]) ∧
    ∀ base:Heap,(K w.params).In base→base.Ns mainGlobals mg→fw l.prog w (K w.params) mg base (CX w) k fa fd [x] (sp w))
  (hsp:∀ (w:World) (H:Hp) (a:Addr) (ns:List Int),ns.length≤n→wb H→SqL (K w.params) H a (ns.map V.int)→sp w [.ref a] H (fun v _=>v=.bl true) fun _ _ _=>False)
  (hCX:∀ (w:World) (H:Hp) (s:Shared) (e:Value) (s':Shared),CX w [] H s (fun _ _ _=>False) e s'→False) :
  PySem.W.WalkO q loose XP YP l.row.toRowW d [] (fun f vs=>PySem.call f vs):=by
 refine Att.rp hn hdf fun w s₀ s₁ mg mb fa o pm cd doc a vs ns G Y ho hd hcd hmg hobj hints hlen hg=>?_
 have KX:=hY w _ Y
 obtain ⟨fd,hb,hF⟩:=F w mg fa _ KX G.T.g hmg
 exact wo KX G.T.g G.T.b G.T.builtins G.T.nolimit hg hobj hints (Nat.le_trans hlen hn2) hr hF hb (fun H hO hS=>hsp w H a ns hlen hO hS) fun H e s'=>hCX w H s₁ e s'
def iN (s:Stmt):Arguments:=match s with
 | .FunctionDef _ a _ _ _ _ _ _ _ _=>a
 | _=>{ posonlyargs:=[],args:=[],vararg:=none,kwonlyargs:=[],kw_defaults:=[],kwarg:=none,defaults:=[] }
def eO (s:Stmt):List Stmt:=match s with
 | .FunctionDef _ _ b _ _ _ _ _ _ _=>b
 | _=>[]
def bY (s:Stmt):Scope:=match s with
 | .FunctionDef _ _ _ _ _ _ sc _ _ _=>sc
 | _=>{ kind:=.function,names:=[],isGenerator:=false,isCoroutine:=false }
abbrev CX0:CXT:=fun _ _ _ _ _ _=>False
abbrev E0:XK:=fun _ _ _=>False
theorem Ec {X:Cx}:Passes CX0 X E0:=fun _ _ _ _ _ _ _ h=>h.elim
structure Fun (K:PySem.W.Frag) (x qual:Str) (st:Stmt) (f:Addr) (fd:FuncData):Prop where
 ex:∃ (oc:Value) (od:Option Addr) (kV doc pm:Value) (an:Option Addr) (cdv ct:Value) (osl:Array (Option Value)),
  fd=PySem.W.fnOf x qual (iN st) (eO st) (bY st) .none kV doc pm an cdv ct∧K.lookup f=some ⟨oc,od,.func fd,osl⟩∧PySem.W.codeIn K cdv qual=true
 kp:PySem.W.keepIn K (.ref f)=true
section
variable {P:Program} {w:World} {K:PySem.W.Frag} {mg:Str→Option Value} {base:Heap}
theorem Fun.ok {x qual:Str} {st:Stmt} {f:Addr} {fd:FuncData} {N ps:List Str} {k:Nat} {sp:Sp} (F:Fun K x qual st f fd) (S:iM N ps (bY st)) (len:∀ vs H Q E,sp vs H Q E→vs.length=ps.length)
  (hbody:∀ (cdv:Value) (A:Around) (outer:List Env) (s:Shared) (H:Hp) (vs:List V) (Q:VK) (E:XK),cW k (A.deeper (envOfC qual (bY st) s.heap.objs.size f cdv))→sp vs H Q E →
   ∃ t,PSs (kh CX0 P w K mg base N qual (bY st) f cdv A outer s H E).nox (eO st) t∧t { nx:=fun _ H'=>Q .non H',rt:=Q } (start N vs) H):fw P w K mg base CX0 (k+1) f fd ps sp:=by
 obtain ⟨oc,od,kV,doc,pm,an,cdv,ct,osl,rfl,lk,hcd⟩:=F.ex
 refine Ef lk hcd S len fun A outer s H vs Q E hr hsp=>?_
 obtain ⟨t,h,q⟩:=hbody cdv A outer s H vs Q E hr hsp
 exact ⟨t,h.nox,q⟩
theorem B0 {x qual:Str} {st:Stmt} {f:Addr} {oc:Value} {od an:Option Addr} {osl:Array (Option Value)} {kV doc pm cdv ct:Value} (l:K.lookup f=some ⟨oc,od,.func (PySem.W.fnOf x qual (iN st) (eO st) (bY st) .none kV doc pm an cdv ct),osl⟩)
  (c:PySem.W.codeIn K cdv qual=true) (k:PySem.W.keepIn K (.ref f)=true):Fun K x qual st f (PySem.W.fnOf x qual (iN st) (eO st) (bY st) .none kV doc pm an cdv ct):=⟨⟨oc,od,kV,doc,pm,an,cdv,ct,osl,rfl,l,c⟩,k⟩
end
theorem jN {n:Nat} (h:n≤1000):n < sizeLine:=Nat.lt_of_le_of_lt h (by decide)
def dn (H H':Hp):Prop:=∀ b o,H b=some o→H' b=some o
def gZ (env:Env):List (Str×NameKind)→List (Str×Addr)→List (Str×Addr)
 | [],acc=>acc
 | (n,k) :: r,acc=>gZ env r (if k == .free then (n,(env.cells.lookup n).getD 0) :: acc else acc)
theorem ik {scope:Scope} {env:Env} (h:∀ y∈scope.names,y.2=.free→∃ c,env.cells.lookup y.1=some c):closureFor scope env=pure (gZ env scope.names []):=by
 have all:∀ (l:List (Str×NameKind)) (acc:List (Str×Addr)),(∀ y∈l,y.2=.free→∃ c,env.cells.lookup y.1=some c) →
   (forIn l acc fun (x:Str×NameKind) (r:List (Str×Addr))=>match x with
    | (name,kind)=>if (kind == NameKind.free)=true then (do let a ← cellOf env name;pure (ForInStep.yield ((name,a) :: r))) else pure (ForInStep.yield r):Sem (List (Str×Addr)))=pure (gZ env l acc):=by
  intro l
  induction l with
  | nil=>intro acc _;rfl
  | cons y r ih=>
   intro acc hl
   obtain ⟨n,k⟩:=y
   have hr:∀ y∈r,y.2=.free→∃ c,env.cells.lookup y.1=some c:=fun y hy=>hl y (List.mem_cons_of_mem _ hy)
   rw [List.forIn_cons]
   by_cases hk:k=.free
   ·subst hk
    obtain ⟨c,hc⟩:=hl _ List.mem_cons_self rfl
    have e:cellOf env n=pure c:=by unfold cellOf;rw [show env.cells.lookup n=some c from hc]
    simp only [beq_self_eq_true,if_true,e,pure_bind]
    rw [ih _ hr]
    simp only [gZ,beq_self_eq_true,if_true,show env.cells.lookup n=some c from hc,Option.getD_some]
   ·have hb:(k == NameKind.free)=false:=by simpa using hk
    simp only [hb,Bool.false_eq_true,if_false,pure_bind]
    rw [ih _ hr]
    simp only [gZ,hb,Bool.false_eq_true,if_false]
 have q:=all scope.names [] h
 unfold closureFor
 simp only [bind_pure] at q ⊢
 exact q
theorem p0 {env:Env}:∀ {l:List (Str×NameKind)} {acc:List (Str×Addr)} {x:Str} {c:Addr},(∀ y∈l,y.2=.free→∃ c,env.cells.lookup y.1=some c) →
  (∀ x c,(x,c)∈acc→env.cells.lookup x=some c)→(x,c)∈gZ env l acc→env.cells.lookup x=some c
 | [],_,_,_,_,ha,h=>ha _ _ h
 | (n,k) :: r,acc,x,c,hl,ha,h=>by
  refine p0 (l:=r) (fun y hy=>hl y (List.mem_cons_of_mem _ hy)) (fun x c hm=>?_) h
  by_cases hk:(k == NameKind.free)=true
  ·rw [if_pos hk] at hm
   rcases List.mem_cons.mp hm with e | e
   ·cases e
    obtain ⟨c',hc⟩:=hl _ List.mem_cons_self (by simpa using hk)
    have hc':env.cells.lookup n=some c':=hc
    rw [hc'];rfl
   ·exact ha _ _ e
  ·rw [if_neg hk] at hm;exact ha _ _ hm
theorem dC {env:Env} {l:List (Str×NameKind)} {x:Str} {c:Addr} (hl:∀ y∈l,y.2=.free→∃ c,env.cells.lookup y.1=some c) (h:(gZ env l []).lookup x=some c):env.cells.lookup x=some c:=
 p0 hl (fun _ _ z=>absurd z (by simp)) (PySem.mem_of_lookup h)
theorem lQ {env:Env}:∀ {l:List (Str×NameKind)} {acc:List (Str×Addr)} {x:Str},((x,NameKind.free)∈l∨∃ c,(x,c)∈acc)→∃ c,(x,c)∈gZ env l acc
 | [],_,_,h=>h.elim (fun z=>absurd z (by simp)) fun z=>z
 | (n,k) :: r,acc,x,h=>by
  refine lQ (l:=r) ?_
  rcases h with h | ⟨c,h⟩
  ·rcases List.mem_cons.mp h with e | e
   ·cases e
    exact .inr ⟨_,by rw [if_pos (by simp)];exact List.mem_cons_self⟩
   ·exact .inl e
  ·by_cases hk:(k == NameKind.free)=true
   ·exact .inr ⟨c,by rw [if_pos hk];exact List.mem_cons_of_mem _ h⟩
   ·exact .inr ⟨c,by rw [if_neg hk];exact h⟩
theorem dP {β:Type}:∀ {l:List (Str×β)} {x:Str} {c:β},(x,c)∈l→∃ c',l.lookup x=some c'
 | [],_,_,h=>nomatch h
 | (n,d) :: r,x,c,h=>by
  rw [List.lookup_cons]
  cases e:x == n with
  | true=>exact ⟨d,rfl⟩
  | false=>
   rcases List.mem_cons.mp h with q | q
   ·cases q;simp at e
   ·exact dP q
def cm (X:Cx) (scope:Scope) (N:List Str) (C:Addr) (s:Shared) (H:Hp) (fp:List Addr):Cx:=
 { X with N:=N,s₀:=s,H₀:=H,env:=compEnvC scope (gZ X.env scope.names []) C X.env,outer:=X.stack,ex:=fp,fn:=fun _=>false,pn:=[],xe:=fun _ _=>False }
structure eN (esc scope:Scope) (EN N:List Str) (k:Nat):Prop where
 kind:scope.kind=.function
 nocell:∀ y∈scope.names,y.2≠.cell
 names:∀ y∈scope.names,y.2=.local→scope.names.lookup y.1=some .local
 frees:∀ y∈scope.names,y.2=.free→esc.names.lookup y.1=some .cell∨esc.names.lookup y.1=some .free
 len:N.length=k+EN.length
 nm:(((N.drop k).zip EN).all fun p=>(decide (p.1=p.2) && decide (scope.names.lookup p.1=some .free)) || decide (scope.names.lookup p.1=none))=true
theorem cB {scope:Scope} {env:Env} {x:Str} {k:NameKind}:∀ {l:List (Str×NameKind)},
  (l.map fun (n,k)=>if (k == NameKind.free && env.scope.kind == .function && env.kindOf n == some .cell) then (n,NameKind.cell) else (n,k)).lookup x=some k →
  l.lookup x=some k∨(l.lookup x=some .free∧k=.cell∧env.kindOf x=some .cell)
 | [],h=>by simp at h
 | (n,k') :: r,h=>by
  have ih:=@cB scope env x k r
  cases hx:x == n with
  | true=>
   have e:x=n:=by simpa using hx
   subst e
   by_cases hc:(k' == NameKind.free && env.scope.kind == .function && env.kindOf x == some .cell)=true
   ·simp only [List.map_cons,if_pos hc,List.lookup_cons,hx] at h
    cases h
    have hc2:(k'=.free∧env.scope.kind=.function)∧env.kindOf x=some .cell:=by simpa using hc
    exact .inr ⟨by simp [List.lookup_cons,hc2.1.1],rfl,hc2.2⟩
   ·simp only [List.map_cons,if_neg hc,List.lookup_cons,hx] at h
    exact .inl (by simpa [List.lookup_cons] using h)
  | false=>
   have h':(r.map fun (n,k)=>if (k == NameKind.free && env.scope.kind == .function && env.kindOf n == some .cell) then (n,NameKind.cell) else (n,k)).lookup x=some k:=by
    by_cases hc:(k' == NameKind.free && env.scope.kind == .function && env.kindOf n == some .cell)=true
    ·simpa only [List.map_cons,if_pos hc,List.lookup_cons,hx] using h
    ·simpa only [List.map_cons,if_neg hc,List.lookup_cons,hx] using h
   rw [List.lookup_cons,hx]
   exact ih h'
theorem ki {scope:Scope} {env:Env} {x:Str}:∀ {l:List (Str×NameKind)},l.lookup x=some .free →
  (l.map fun (n,k)=>if (k == NameKind.free && env.scope.kind == .function && env.kindOf n == some .cell) then (n,NameKind.cell) else (n,k)).lookup x=some .cell ∨
  (l.map fun (n,k)=>if (k == NameKind.free && env.scope.kind == .function && env.kindOf n == some .cell) then (n,NameKind.cell) else (n,k)).lookup x=some .free
 | [],h=>by simp at h
 | (n,k') :: r,h=>by
  have ih:=@ki scope env x r
  cases hx:x == n with
  | true=>
   by_cases hc:(k' == NameKind.free && env.scope.kind == .function && env.kindOf n == some .cell)=true
   ·exact .inl (by simp only [List.map_cons,if_pos hc,List.lookup_cons,hx])
   ·refine .inr ?_
    simp only [List.map_cons,if_neg hc,List.lookup_cons,hx]
    simpa only [List.lookup_cons,hx] using h
  | false=>
   have h':r.lookup x=some .free:=by simpa only [List.lookup_cons,hx] using h
   by_cases hc:(k' == NameKind.free && env.scope.kind == .function && env.kindOf n == some .cell)=true
   ·simpa only [List.map_cons,if_pos hc,List.lookup_cons,hx] using ih h'
   ·simpa only [List.map_cons,if_neg hc,List.lookup_cons,hx] using ih h'
section
variable {X:Cx} {pins:List (Addr×Obj)} {σ:St} {H:Hp} {s:Shared} {scope:Scope} {N:List Str} {k:Nat} {fp:List Addr}
theorem eN.cells (S:eN X.env.scope scope X.N N k) (ok:X.Ok):∀ y∈scope.names,y.2=.free→∃ c,X.env.cells.lookup y.1=some c:=fun y hy hf=>ok.has y.1 (S.frees y hy hf)
theorem Inv.z9 {h4:Heap} {tk:Nat} (I:Inv X pins σ H s) (S:eN X.env.scope scope X.N N k) (hf:∀ b∈fp,fE X pins H b) (hlt:∀ b∈fp,b < s.heap.objs.size) (hn:h4.Ns s.heap.objs.size fun _=>none) (hk:∀ b o,s.heap.get? b=some o→h4.get? b=some o) :
  Inv (cm X scope N s.heap.objs.size s H fp) [] (List.replicate k none++σ) H { s with heap:=h4,toks:=tk }:=by
 have hcells:=S.cells I.ok
 have noA:∀ p:Addr×Obj,p∈(cm X scope N s.heap.objs.size s H fp).pn++[]→False:=fun p hp=>absurd (show p∈([]:List (Addr×Obj)) from hp) (by simp)
 refine ⟨⟨I.ok.mod,S.kind,I.ok.glob,I.ok.blt,Nat.le_refl _,fun y z c h1 h2=>?_,fun y hy=>?_,fun y c h=>?_,I.ok.hd,I.ok.frames,.inl rfl,fun b hb=>?_,I.bs,Nat.le_trans I.ok.bsz I.sz,fun b o e hb=>?_,fun b hb hz=>?_,I.stack,I.sh⟩,
  rfl,I.bare,Un.kept hk,⟨_,hn,fun i y v h1 h2 h3=>?_⟩,fun y c h=>?_,I.hok.fresh (Nat.le_refl _),fun y c h=>?_,fun p hp=>(noA p hp).elim,I.hok.kept hk,?_⟩
 ·exact I.ok.inj y z c (dC hcells h1) (dC hcells h2)
 ·have hy:(relabel scope X.env).names.lookup y=some .cell∨(relabel scope X.env).names.lookup y=some .free:=hy
  have hfree:scope.names.lookup y=some .free:=by
   rcases hy with q | q
   ·rcases cB (scope:=scope) q with q | ⟨q,_⟩
    ·exact absurd rfl (S.nocell _ (PySem.mem_of_lookup q))
    ·exact q
   ·rcases cB (scope:=scope) q with q | ⟨q,z,_⟩
    ·exact q
    ·cases z
  obtain ⟨c,hc⟩:=lQ (env:=X.env) (l:=scope.names) (acc:=[]) (.inl (PySem.mem_of_lookup hfree))
  exact dP hc
 ·exact absurd h (by show ¬(false=true);decide)
 ·obtain ⟨f0,f1,f2,f3,f4,f5⟩:=hf b hb
  exact ⟨Nat.ne_of_lt (hlt b hb),fun x c h=>f4 x c (dC hcells h)⟩
 ·obtain ⟨f0,f1,f2,f3,f4,f5⟩:=hf b hb
  rcases f3 with q | q
  ·exact I.ok.noex b o e q
  ·exact absurd (Nat.lt_of_lt_of_le (Heap.lt_size (I.ok.bs b o e).1) q) (Nat.lt_irrefl _)
 ·obtain ⟨f0,f1,f2,f3,f4,f5⟩:=hf b hb
  rcases List.mem_cons.mp (I.my b hz) with z | z
  ·exact f1 z
  ·exact f2 z
 ·
  have hi:k≤i:=by
   refine Nat.le_of_not_lt fun q=>?_
   rw [List.getElem?_append_left (by simpa using q),List.getElem?_replicate] at h2
   split at h2<;>cases h2
  obtain ⟨j,rfl⟩:=Nat.exists_eq_add_of_le hi
  have h2':σ[j]?=some (some v):=by
   rw [List.getElem?_append_right (by simp)] at h2
   simpa using h2
  have hy:(relabel scope X.env).names.lookup y=some .local∨(relabel scope X.env).names.lookup y=some .cell∨(relabel scope X.env).names.lookup y=some .free:=h3
  have hjn:j < X.N.length:=by
   have:=(List.getElem?_eq_some_iff.mp h2').1
   rw [I.len] at this
   exact this
  have hyn:N[k+j]?=some y:=h1
  have hnm:=List.all_eq_true.mp S.nm (y,X.N[j]) (by
   refine List.mem_iff_getElem?.mpr ⟨j,?_⟩
   rw [List.getElem?_zip_eq_some]
   exact ⟨by rw [List.getElem?_drop];exact hyn,by simp [hjn]⟩)
  have hvis:scope.names.lookup y≠none:=by
   rcases hy with q | q | q
   ·rcases cB (scope:=scope) q with q | ⟨q,_⟩<;>rw [q]<;>simp
   ·rcases cB (scope:=scope) q with q | ⟨q,_⟩<;>rw [q]<;>simp
   ·rcases cB (scope:=scope) q with q | ⟨q,_⟩<;>rw [q]<;>simp
  have hnm2:y=X.N[j]∧scope.names.lookup y=some .free:=by
   rcases (Bool.or_eq_true _ _).mp hnm with q | q
   ·exact ⟨of_decide_eq_true ((Bool.and_eq_true _ _).mp q).1,of_decide_eq_true ((Bool.and_eq_true _ _).mp q).2⟩
   ·exact absurd (of_decide_eq_true q) hvis
  obtain ⟨hyj,hfree⟩:=hnm2
  have hk2:=S.frees _ (PySem.mem_of_lookup hfree) rfl
  have hvis2:Vis X.env.scope y:=.inr hk2
  obtain ⟨m,hm,hl⟩:=I.loc
  obtain ⟨u,ru,lk⟩:=hl j y v (by rw [hyj];simp [hjn]) h2' hvis2
  refine ⟨u,ru,?_⟩
  rcases lk with ⟨q,_⟩ | ⟨_,c,hc,hcell⟩
  ·rcases hk2 with z | z
   ·exact absurd (q.symm.trans (show X.env.kindOf y=some .cell from z)) (by simp)
   ·exact absurd (q.symm.trans (show X.env.kindOf y=some .free from z)) (by simp)
  ·refine .inr ⟨ki (scope:=scope) hfree,c,?_,hcell.keeps hk⟩
   obtain ⟨c',hc'⟩:=lQ (env:=X.env) (l:=scope.names) (acc:=[]) (.inl (PySem.mem_of_lookup hfree))
   obtain ⟨c2,hc2⟩:=dP hc'
   have q:=dC hcells hc2
   rw [hc] at q;cases q
   exact hc2
 ·obtain ⟨v,q⟩:=I.cell y c (dC hcells h)
  exact ⟨v,q.keeps hk⟩
 ·exact I.freeC y c (dC hcells h)
 ·show (List.replicate k none++σ).length=N.length
  rw [List.length_append,List.length_replicate,S.len,I.len]
end
section
variable {prog:Program} {w:World} {A:Around} {R:Result→Shared→Prop} {s:Shared}
theorem gD {env:Env} {R:Value→Shared→Prop}:∀ (x:Value) (s':Shared),False→notedBy (model prog w) A env R x s':=fun _ _ h=>h.elim
theorem qe {elt target iter:Expr} {ifs:List Expr} {scope:Scope} {pos:Pos} {it acc:Value} {env:Env} (I:Nat→Shared→Prop)
  (turn:∀ n s,I n s→wpAny (model prog w) A (pyNext it) (fun r s₁=>match r with
   | none=>R (.ok .next) s₁
   | some v=>wpAny (model prog w) A (letOwnedTupleGo target it v) (fun _ s₁'=>wpAny (model prog w) A (assign target env v) (fun _ s₂=>
     wpAny (model prog w) A (forIn ifs true fun c r=>if r=true then do let ok ← isTrue c env (eval c env);pure (ForInStep.yield ok) else pure (ForInStep.yield r)) (fun ok s₃=>
      if ok=true then wpAny (model prog w) A (eval elt env) (fun x s₄=>
       wpAny (model prog w) A (call (.builtin "list.append") [acc,x]) (fun _ s₅=>∃ m,m < n∧I m s₅) (fun _ _=>False) s₄) (fun _ _=>False) s₃
      else ∃ m,m < n∧I m s₃) (fun _ _=>False) s₂) (fun _ _=>False) s₁') (fun _ _=>False) s₁) (fun _ _=>False) s)
  (n:Nat) (h:I n s) :
  codeAny (model prog w) A (.compLoop (.ListComp elt [⟨target,iter,ifs,0⟩] scope pos) 0 it acc env) R s:=by
 refine codeAny_loop rfl I (fun n s hI=>?_) n h
 show wpAny _ A ((compTurn (.ListComp elt [⟨target,iter,ifs,0⟩] scope pos) 0 it acc env).onRaise (fun x=>do noteFrame x env;theTreesLotGoes x)) _ _ s
 refine wpAny_noted ?_
 rw [compTurn_list]
 refine wpAny_bind (wpAny_standAt (wpAny_bind (wpAny_mono (turn n s hI) (fun r s₁ h₁=>?_) gD)))
 cases r with
 | none=>exact wpAny_pure h₁
 | some v=>
  refine wpAny_bind (wpAny_mono h₁ (fun _ s₁' h₁'=>?_) gD)
  refine wpAny_bind (wpAny_mono h₁' (fun _ s₂ h₂=>wpAny_bind (wpAny_mono h₂ (fun ok s₃ h₃=>?_) gD)) gD)
  cases ok with
  | false=>exact wpAny_pure ⟨rfl,h₃⟩
  | true=>
   exact wpAny_bind (wpAny_bind (wpAny_mono h₃ (fun x s₄ h₄=>wpAny_bind (wpAny_mono h₄ (fun _ s₅ h₅=>wpAny_pure (wpAny_pure ⟨rfl,h₅⟩)) gD)) gD))
end
def PTs (X:Cx) (ifs:List Expr) (t:TT):Prop:=
 ∀ (pins:List (Addr×Obj)) (s:Shared) (σ:St) (H:Hp) (Q:Bool→Hp→Prop),Inv X pins σ H s→t σ H Q →
  wpAny (model X.prog X.w) X.A (forIn ifs true fun c r=>if r=true then do let ok ← isTrue c X.env (eval c X.env);pure (ForInStep.yield ok) else pure (ForInStep.yield r)) (TP X pins σ Q) X.xe s
def FY:TT:=fun _ H Q=>Q true H
theorem yY {X:Cx}:PTs X [] FY:=fun _ _ _ H _ I h=>wpAny_tests_nil ⟨H,I,h⟩
theorem Ai {X:Cx} {c:Expr} {t:TT} (h:PT X c t):PTs X [c] t:=fun pins s σ H Q I q=>wpAny_tests_one (h pins s σ H Q I q)
def LCW (J:It) (g:TG) (tt:TT) (te:TE) (k:Nat) (D:Addr) (σ:St) (H1:Hp) (Q:Hp→Prop):Prop:=
 ∃ W:Nat→Nat→St→Hp→Prop,(∃ m,W 0 m (List.replicate k none++σ) (upd H1 D (.lst [])))∧∀ i m σ' H',W i m σ' H' →
  (J.stop i H'∧Q H')∨(J.go i H'∧∃ N:St→Hp→Prop,(∀ σ2 H2,N σ2 H2→∃ m',m' < m∧W (i+1) m' σ2 H2) ∧
   ∀ x H2,J.yld i H' x H2→g x σ' H2 fun σ3 H3=>tt σ3 H3 fun b H4=>if b=true then te σ3 H4 fun v H5=>∃ xs,H5 D=some (.lst xs)∧xs.length < sizeLine∧N σ3 (upd H5 D (.lst (xs++[v]))) else N σ3 H4)
def tLC (wi:TI) (g:TG) (tt:TT) (te:TE) (k:Nat):TE:=fun σ H Q=>wi σ H fun J H1=>∀ D,H1 D=none→LCW J g tt te k D σ H1 fun H2=>Q (.ref D) H2
section
variable {X:Cx} {tg elt iter:Expr} {ifs:List Expr} {scope:Scope} {pos:Pos} {wi:TI} {g:TG} {tt:TT} {te:TE} {N:List Str} {k:Nat}
theorem qB {pins:List (Addr×Obj)} {σ:St} {H2:Hp} {s2:Shared} {it:Addr} {fp:List Addr} {tn:Nat→Heap→Prop} {J:It} {E:Value→Shared→Prop} {QD:Addr→Hp→Prop} {RR:Value→Addr→Result→Shared→Prop}
  (hc:X.calm=true) (S:eN X.env.scope scope X.N N k) (hg:∀ C s H fp,PG (cm X scope N C s H fp) tg g) (ht:∀ C s H fp,PTs (cm X scope N C s H fp) ifs tt) (he:∀ C s H fp,PE (cm X scope N C s H fp) elt te)
  (I2:Inv X pins σ H2 s2) (T:Turn X.prog X.w X.K tg J fp it tn) (st2:tn 0 s2.heap) (f2:∀ b∈fp,fE X pins H2 b) (q:∀ D,H2 D=none→LCW J g tt te k D σ H2 (QD D))
  (hRR:∀ (D C:Addr) (s':Shared) (H':Hp) (m:Str→Option Value),s2.heap.objs.size < C→Inv X pins σ H' s'→s'.heap.Ns C m→H' C=none→C≠X.env.locals→C∉X.fs→X.s₀.heap.objs.size≤C→(∀ x c,X.env.cells.lookup x=some c→c≠C)→(∀ p∈X.pn++pins,p.1≠C)→QD D H'→RR (.ref D) C (.ok .next) s') :
  wpAny (model X.prog X.w) X.A (newList []) (fun acc s₃=>wpAny (model X.prog X.w) X.A (newFunctionEnv scope X.env.globals (gZ X.env scope.names []) [] X.env.qual none .none (some X.env)) (fun cenv s₄=>
   codeAny (model X.prog X.w) X.A (.compStart (.ListComp elt [⟨tg,iter,ifs,0⟩] scope pos) 0 (.ref it) acc { cenv with scope:=relabel scope X.env }) (RR acc cenv.locals) s₄) E s₃) E s2:=by
 have hD:H2 s2.heap.objs.size=none:=I2.hok.fresh (Nat.le_refl _)
 obtain ⟨W,⟨m0,w0⟩,turn⟩:=q _ hD
 refine wpAny_newObj_type ?_
 have I3:Inv X pins σ (upd H2 s2.heap.objs.size (.lst [])) { s2 with heap:=s2.heap.push { cls:=.type "list",dict:=none,data:=.seq ([]:List Value).toArray } }:=by
  refine I2.laid (t':=s2.toks) (fun b u e=>Heap.get?_push_of_some _ e) (Nat.le_refl _) ?_
  exact ⟨Nat.zero_le _,[],0,.nil,Heap.get?_push_size _ rfl⟩
 have k3:∀ b o,s2.heap.get? b=some o→(s2.heap.push { cls:=.type "list",dict:=none,data:=.seq ([]:List Value).toArray }).get? b=some o:=fun b o e=>Heap.get?_push_of_some _ e
 generalize hs3:({ s2 with heap:=s2.heap.push { cls:=.type "list",dict:=none,data:=.seq ([]:List Value).toArray } }:Shared)=s3 at I3 ⊢
 have hsz:s3.heap.objs.size=s2.heap.objs.size+1:=by rw [← hs3];exact Heap.size_push ..
 have k3':∀ b o,s2.heap.get? b=some o→s3.heap.get? b=some o:=by rw [← hs3];exact k3
 generalize hDe:s2.heap.objs.size=D at *
 have fpD:∀ b∈fp,b < D:=fun b hb=>by
  obtain ⟨o,e,_⟩:=T.obj _ _ st2 b hb
  rw [← hDe];exact Heap.lt_size e
 have f3:∀ b∈fp,fE X pins (upd H2 D (.lst [])) b:=fun b hb=>by
  refine ⟨?_,(f2 b hb).2⟩
  rw [aS (Nat.ne_of_lt (fpD b hb))]
  exact (f2 b hb).1
 refine wpAny_newFunctionEnv S.nocell (by intro y hy;simp at hy) (fun h4 hn4 hs4=>?_) S.kind
 try dsimp only at hn4 hs4 ⊢
 have k4:∀ b o,s3.heap.get? b=some o→h4.get? b=some o:=fun b o e=>hs4.extBut b o (Nat.ne_of_lt (Heap.lt_size e)) (Heap.get?_push_of_some _ e)
 have I4:=I3.z9 (h4:=h4) (tk:=s3.toks+0) S f3 (fun b hb=>by rw [hsz];exact Nat.lt_succ_of_lt (fpD b hb)) hn4 k4
 have st4:tn 0 h4:=T.keep _ _ _ st2 fun b hb o e=>k4 b o (k3' b o e)
 have fr4:∀ b∈fp,(upd H2 D (.lst [])) b=none:=fun b hb=>(f3 b hb).1
 generalize hC:s3.heap.objs.size=C at *
 have hX:∀ (H':Hp),(∀ b∈fp,H' b=none)→∀ b∈fp,fE (cm X scope N C s3 (upd H2 D (.lst [])) fp) [] H' b:=fun H' hn b hb=>by
  obtain ⟨g0,g1,g2,g3,g4,g5⟩:=f3 b hb
  refine ⟨hn b hb,?_,?_,.inl hb,?_,fun p hp=>absurd (show p∈([]:List (Addr×Obj)) from hp) (by simp)⟩
  ·exact Nat.ne_of_lt (Nat.lt_of_lt_of_eq (Nat.lt_succ_of_lt (fpD b hb)) hsz.symm)
  ·intro z
   rcases List.mem_cons.mp (I3.my b z) with z | z
   ·exact g1 z
   ·exact g2 z
  ·intro x c h
   exact g4 x c (dC (S.cells I3.ok) h)
 have fin:∀ (s':Shared) (σ':St) (H':Hp),Inv (cm X scope N C s3 (upd H2 D (.lst [])) fp) [] σ' H' s'→QD D H'→RR (.ref D) C (.ok .next) s':=by
  intro s' σ' H' I' qd
  obtain ⟨m,hm,_⟩:=id I'.loc
  have IX:Inv X pins σ H' s':=by
   refine I3.D3 (s':=s') (ch:=fp) I'.os I'.base I'.hok I'.bare fun b hb=>?_
   obtain ⟨g0,g1,g2,g3,g4,g5⟩:=f3 b hb
   exact ⟨g3,g1,g4,g5⟩
  have hlt:=I3.lt
  rw [hC] at hlt
  refine hRR D C s' H' m (Nat.lt_of_lt_of_eq (Nat.lt_succ_self D) hsz.symm) IX hm I'.free (Nat.ne_of_gt hlt) (I3.AQ (Nat.le_of_eq hC)) (Nat.le_trans I3.sz (Nat.le_of_eq hC)) (fun x c e z=>?_) (fun p hp z=>?_) qd
  ·obtain ⟨v,hv⟩:=I3.cell x c e
   have q:=hv.lt
   rw [hC,z] at q
   exact Nat.lt_irrefl _ q
  ·have q:=Heap.lt_size (I3.pin p hp).1
   rw [hC,z] at q
   exact Nat.lt_irrefl _ q
 have loop:∀ s₀:Shared,s₀={ s3 with heap:=h4,toks:=s3.toks+([]:List (Str×Value)).length } →
   codeAny (model X.prog X.w) X.A (.compLoop (.ListComp elt [⟨tg,iter,ifs,0⟩] scope pos) 0 (.ref it) (.ref D) (compEnvC scope (gZ X.env scope.names []) C X.env)) (RR (.ref D) C) s₀:=by
  rintro s₀ rfl
  refine qe (fun n s'=>∃ i σ' H',Inv (cm X scope N C s3 (upd H2 D (.lst [])) fp) [] σ' H' s'∧tn i s'.heap∧(∀ b∈fp,H' b=none)∧W i n σ' H') ?_ m0 ⟨0,_,_,I4,st4,fr4,w0⟩
  rintro n s5 ⟨i,σ5,H5,I5,st5,fr5,w5⟩
  rcases turn i n σ5 H5 w5 with ⟨stop,qn⟩ | ⟨go,NN,hN,step⟩
  ·refine thn (T.done (cm X scope N C s3 (upd H2 D (.lst [])) fp) rfl rfl rfl hc i [] s5 σ5 H5 _ I5 (hX _ fr5) st5 stop) fun r s6 ⟨hr,I6⟩=>?_
   subst hr
   exact fin s6 σ5 H5 I6 qn
  ·refine thn (T.item (cm X scope N C s3 (upd H2 D (.lst [])) fp) rfl rfl rfl hc i [] s5 σ5 H5 _ I5 (hX _ fr5) st5 go) fun r s6 ⟨u,hr,h6⟩=>?_
   subst hr
   refine thn h6 fun _ s7 ⟨x,H7,I7,r7,y7,st7,fr7⟩=>?_
   have I7':=I7.pinned (hX _ fr7) (T.obj _ _ st7)
   have back:∀ {s9:Shared} {σ9:St} {H9:Hp},Inv (cm X scope N C s3 (upd H2 D (.lst [])) fp) ([]++ka fp s7.heap) σ9 H9 s9→NN σ9 H9→∃ m,m < n∧∃ i σ' H',Inv (cm X scope N C s3 (upd H2 D (.lst [])) fp) [] σ' H' s9∧tn i s9.heap∧(∀ b∈fp,H' b=none)∧W i m σ' H':=fun {s9 σ9 H9} I9 n9=>by
    obtain ⟨m',hm,w9⟩:=hN σ9 H9 n9
    refine ⟨m',hm,i+1,σ9,H9,I9.gP,T.keep _ _ _ st7 fun b hb o e=>(I9.pin (b,o) (List.mem_append_right _ (List.mem_append_right _ (gj hb e)))).1,fun b hb=>?_,w9⟩
    obtain ⟨o,e,d⟩:=T.obj _ _ st7 b hb
    exact (I9.pin (b,o) (List.mem_append_right _ (List.mem_append_right _ (gj hb e)))).2.1
   refine thn (hg C s3 _ fp _ s7 σ5 H7 x u _ I7' r7 (step x H7 y7)) fun _ s8 ⟨σ8,H8,I8,q8⟩=>?_
   refine thn (ht C s3 _ fp _ s8 σ8 H8 _ I8 q8) fun ok s9 ⟨H9,I9,q9⟩=>?_
   cases ok with
   | false=>
    rw [if_neg Bool.false_ne_true] at q9
    rw [if_neg Bool.false_ne_true]
    exact back I9 q9
   | true=>
    rw [if_pos rfl] at q9
    rw [if_pos rfl]
    refine thn (he C s3 _ fp _ s9 σ8 H9 _ I9 q9) fun y s10 ⟨v,H10,I10,r10,q10⟩=>?_
    obtain ⟨xs,hD10,hz,qN⟩:=q10
    refine thn (nC (X:=cm X scope N C s3 (upd H2 D (.lst [])) fp) _ s10 σ8 H10 (.ref D) [v] (.ref D) [y] (fun _ H'=>NN σ8 H') I10 rfl (.cons r10 .nil) ⟨D,xs,v,rfl,rfl,hD10,hz,qN⟩) fun _ s11 ⟨_,H11,I11,_,q11⟩=>?_
    exact back I11 q11
 exact codeAny_compStart_list (loop _ rfl) (T.self _ 0 _ _ _ st4 (loop _ rfl))
theorem DE {esc:Scope} {EN:List Str} (hc:X.calm=true) (S:eN esc scope EN N k) (h1:X.env.scope=esc) (h2:X.N=EN) (hi:PI X tg iter wi) (hg:∀ C s H fp,PG (cm X scope N C s H fp) tg g) (ht:∀ C s H fp,PTs (cm X scope N C s H fp) ifs tt) (he:∀ C s H fp,PE (cm X scope N C s H fp) elt te)
  (hs:∀ x,foldedSetIterable iter X.env x=pure x:=by intro _;rfl):PE X (.ListComp elt [⟨tg,iter,ifs,0⟩] scope pos) (tLC wi g tt te k):=by
 subst h1 h2
 intro pins s σ H Q I h
 rw [eval_ListComp]
 refine wpAny_comprehension_free (use:=none) rfl hs (ik (S.cells I.ok)) S.kind S.names (thn (hi pins s σ H _ I h) fun v s1 h1=>thn h1 fun itv s2 h2=>?_)
 obtain ⟨it,fp,tn,J,H2,e,I2,T,st2,f2,q⟩:=h2
 subst e
 refine qB (RR:=fun acc C=>compPost (model X.prog X.w) X.A X.xe none (EP X pins σ Q) acc C) hc S hg ht he I2 T st2 f2 q ?_
 intro D C s' H' m hC IX hm hn hL hF hS hcell hp qd
 refine ⟨m,hm,fun h' sb=>?_⟩
 exact ⟨.ref D,H',IX.turned (t':=s'.toks) (fun b o hb e=>sb.extBut b o hb e) hn hL (.inr hS) hcell hp,rfl,qd⟩
def sLC (wi:TI) (g:TG) (tt:TT) (te:TE) (k i:Nat):TS:=fun D σ H=>tLC wi g tt te k σ H fun v H1=>D.nx (σ.set i (some v)) H1
theorem Fd {esc:Scope} {EN:List Str} {i:Nat} {y:Str} {py spos:Pos} (hN:X.N.Nodup) (hi':X.N[i]?=some y) (hy:Loc X.env.scope y) (hc:X.calm=true) (S:eN esc scope EN N k) (h1:X.env.scope=esc) (h2:X.N=EN) (hi:PI X tg iter wi) (hg:∀ C s H fp,PG (cm X scope N C s H fp) tg g) (ht:∀ C s H fp,PTs (cm X scope N C s H fp) ifs tt) (he:∀ C s H fp,PE (cm X scope N C s H fp) elt te)
  (hsw:swapsWith (.ListComp elt [⟨tg,iter,ifs,0⟩] scope pos) (some (.Name y py)) spos.line X.env=pure true:=by rfl)
  (hs:∀ x,foldedSetIterable iter X.env x=pure x:=by intro _;rfl) (hf:X.fn y=true∨X.env.scope.names.lookup y=some .local:=by first | exact .inl rfl | exact .inr rfl | assumption) :
  PS X (.Assign [.Name y py] (.ListComp elt [⟨tg,iter,ifs,0⟩] scope pos) spos) (sLC wi g tt te k i):=by
 subst h1 h2
 intro pins s σ H D0 I h
 rw [exec_Assign_Name_used _ _ _ _ hsw]
 refine wpAny_bind (wpAny_standAt (wpAny_bind ?_))
 show wpAny _ X.A (do let _ ← comprehension (.ListComp elt [⟨tg,iter,ifs,0⟩] scope pos) scope X.env _ (newList []) false (eval iter X.env) (some (assign (.Name y py) X.env))) _ _ s
 refine wpAny_bind (wpAny_mono (wpAny_comprehension_free (use:=some (assign (.Name y py) X.env)) (Q:=fun _ s'=>SP X pins D0 .next s') rfl hs (ik (S.cells I.ok)) S.kind S.names
  (thn (hi pins s σ H _ I h) fun v s1 h1=>thn h1 fun itv s2 h2=>?_)) (fun _ s' hq=>wpAny_pure (wpAny_pure hq)) fun _ _ e=>e)
 obtain ⟨it,fp,tn,J,H2,e,I2,T,st2,f2,q⟩:=h2
 subst e
 refine qB (RR:=fun acc C=>compPost (model X.prog X.w) X.A X.xe (some (assign (.Name y py) X.env)) (fun _ s'=>SP X pins D0 .next s') acc C) hc S hg ht he I2 T st2 f2 q ?_
 intro D C s' H' m hC IX hm hn hL hF hS hcell hp qd
 show wpAny _ X.A (assign (.Name y py) X.env (.ref D)) _ _ _
 obtain ⟨o,es,ep,ho,hd,hr⟩:=id hm
 have IP:Inv X (pins++[(C,o)]) σ H' s':=IX.ng fun p hp=>by
  rcases List.mem_append.mp hp with z | z
  ·exact IX.pin p (List.mem_append_right _ z)
  ·obtain rfl:p=(C,o):=List.mem_singleton.mp z
   exact ⟨ho,hn,hL,hF,fun v z=>by rw [hd] at z;cases z⟩
 refine wpAny_assign_Name (lO IP hN hi' hy (v:=.ref D) (u:=.ref D) rfl (fun s'' I''=>?_) hf)
 have hC2:=(I''.pin (C,o) (List.mem_append_right _ (List.mem_append_right _ (List.mem_singleton.mpr rfl)))).1
 refine ⟨m,⟨o,es,ep,hC2,hd,hr⟩,fun h' sb=>?_⟩
 exact ⟨_,H',(I''.gP).turned (t':=s''.toks) (fun b o hb e=>sb.extBut b o hb e) hn hL (.inr hS) hcell hp,qd⟩
end
inductive D where
 | non | bl (b:Bool) | int (i:Int) | str (x:Str) | tup (xs:List D) | lst (xs:List D)
mutual
def D.eqv:D→D→Bool
 | .non,.non=>true
 | .bl a,.bl b=>a == b
 | .bl a,.int b=>(if a then 1 else 0) == b
 | .int a,.bl b=>a == (if b then 1 else 0)
 | .int a,.int b=>a == b
 | .str a,.str b=>a == b
 | .tup xs,.tup ys=>D.bR xs ys
 | .lst xs,.lst ys=>D.bR xs ys
 | _,_=>false
def D.bR:List D→List D→Bool
 | [],[]=>true
 | x :: xs,y :: ys=>D.eqv x y && D.bR xs ys
 | _,_=>false
end
mutual
theorem D.eqv_refl:∀ d:D,D.eqv d d=true
 | .non=>rfl
 | .bl a=>by simp [D.eqv]
 | .int a=>by simp [D.eqv]
 | .str a=>by simp [D.eqv]
 | .tup xs=>by simp only [D.eqv];exact D.kg xs
 | .lst xs=>by simp only [D.eqv];exact D.kg xs
theorem D.kg:∀ ds:List D,D.bR ds ds=true
 | []=>rfl
 | d :: ds=>by simp only [D.bR,D.eqv_refl d,D.kg ds,Bool.and_self]
end
mutual
def D.depth:D→Nat
 | .tup xs=>D.cC xs+1
 | .lst xs=>D.cC xs+1
 | _=>0
def D.cC:List D→Nat
 | []=>0
 | x :: xs=>max (D.depth x) (D.cC xs)
end
mutual
inductive Rep (H:Hp):V→D→Prop
 | non:Rep H .non .non
 | bl (b:Bool):Rep H (.bl b) (.bl b)
 | int (i:Int):Rep H (.int i) (.int i)
 | str (x:Str):Rep H (.str x) (.str x)
 | tup {a:Addr} {vs:List V} {ds:List D}:H a=some (.tup vs)→ax H vs ds→Rep H (.ref a) (.tup ds)
 | lst {a:Addr} {vs:List V} {ds:List D}:H a=some (.lst vs)→ax H vs ds→Rep H (.ref a) (.lst ds)
inductive ax (H:Hp):List V→List D→Prop
 | nil:ax H [] []
 | cons {v:V} {d:D} {vs:List V} {ds:List D}:Rep H v d→ax H vs ds→ax H (v :: vs) (d :: ds)
end
theorem ax.length {H:Hp}:∀ {vs:List V} {ds:List D},ax H vs ds→vs.length=ds.length
 | _,_,.nil=>rfl
 | _,_,.cons _ t=>by simp [ax.length t]
theorem ax.get {H:Hp}:∀ {vs:List V} {ds:List D} {i:Nat} {v:V},ax H vs ds→vs[i]?=some v→∃ d,ds[i]?=some d∧Rep H v d
 | _,_,_,_,.nil,e=>by simp at e
 | _,_,0,_,.cons r _,e=>by simp at e;subst e;exact ⟨_,rfl,r⟩
 | _,_,i+1,v,.cons _ t,e=>by
  obtain ⟨d,h1,h2⟩:=ax.get (i:=i) (v:=v) t (by simpa using e)
  exact ⟨d,by simpa using h1,h2⟩
theorem ax.get' {H:Hp}:∀ {vs:List V} {ds:List D} {i:Nat} {d:D},ax H vs ds→ds[i]?=some d→∃ v,vs[i]?=some v∧Rep H v d
 | _,_,_,_,.nil,e=>by simp at e
 | _,_,0,_,.cons r _,e=>by simp at e;subst e;exact ⟨_,rfl,r⟩
 | _,_,i+1,v,.cons _ t,e=>by
  obtain ⟨d,h1,h2⟩:=ax.get' (i:=i) (d:=v) t (by simpa using e)
  exact ⟨d,by simpa using h1,h2⟩
theorem ax.append {H:Hp}:∀ {vs us:List V} {ds es:List D},ax H vs ds→ax H us es→ax H (vs++us) (ds++es)
 | _,_,_,_,.nil,s=>s
 | _,_,_,_,.cons r t,s=>.cons r (ax.append t s)
theorem ax.take {H:Hp}:∀ {vs:List V} {ds:List D} (n:Nat),ax H vs ds→ax H (vs.take n) (ds.take n)
 | _,_,0,_=>.nil
 | _,_,_+1,.nil=>.nil
 | _,_,n+1,.cons r t=>.cons r (ax.take n t)
theorem ax.drop {H:Hp}:∀ {vs:List V} {ds:List D} (n:Nat),ax H vs ds→ax H (vs.drop n) (ds.drop n)
 | _,_,0,r=>r
 | _,_,_+1,.nil=>.nil
 | _,_,n+1,.cons _ t=>ax.drop n t
theorem ax.reverse {H:Hp}:∀ {vs:List V} {ds:List D},ax H vs ds→ax H vs.reverse ds.reverse
 | _,_,.nil=>.nil
 | _,_,.cons r t=>by rw [List.reverse_cons,List.reverse_cons];exact (ax.reverse t).append (.cons r .nil)
mutual
theorem Rep.mono {H H':Hp} (e:dn H H'):∀ {v:V} {d:D},Rep H v d→Rep H' v d
 | _,_,.non=>.non
 | _,_,.bl b=>.bl b
 | _,_,.int i=>.int i
 | _,_,.str x=>.str x
 | _,_,.tup h r=>.tup (e _ _ h) (ax.mono e r)
 | _,_,.lst h r=>.lst (e _ _ h) (ax.mono e r)
theorem ax.mono {H H':Hp} (e:dn H H'):∀ {vs:List V} {ds:List D},ax H vs ds→ax H' vs ds
 | _,_,.nil=>.nil
 | _,_,.cons r t=>.cons (Rep.mono e r) (ax.mono e t)
end
mutual
theorem Rep.inj {H:Hp}:∀ {v:V} {d e:D},Rep H v d→Rep H v e→d=e
 | _,_,_,.non,.non=>rfl
 | _,_,_,.bl _,.bl _=>rfl
 | _,_,_,.int _,.int _=>rfl
 | _,_,_,.str _,.str _=>rfl
 | _,_,_,.tup h r,.tup h' r'=>by rw [h] at h';cases h';rw [ax.inj r r']
 | _,_,_,.tup h r,.lst h' r'=>by rw [h] at h';cases h'
 | _,_,_,.lst h r,.tup h' r'=>by rw [h] at h';cases h'
 | _,_,_,.lst h r,.lst h' r'=>by rw [h] at h';cases h';rw [ax.inj r r']
theorem ax.inj {H:Hp}:∀ {vs:List V} {ds es:List D},ax H vs ds→ax H vs es→ds=es
 | _,_,_,.nil,.nil=>rfl
 | _,_,_,.cons r t,.cons r' t'=>by rw [Rep.inj r r',ax.inj t t']
end
theorem ax.ints {H:Hp}:∀ (ns:List Int),ax H (ns.map V.int) (ns.map D.int)
 | []=>.nil
 | n :: ns=>.cons (.int n) (ax.ints ns)
theorem ax.mQ {H:Hp}:∀ {vs:List V} {ns:List Int},ax H vs (ns.map D.int)→vs=ns.map V.int
 | [],[],.nil=>rfl
 | v :: vs,n :: ns,.cons r t=>by
  cases r
  rw [List.map_cons,ax.mQ t]
theorem D.ck:∀ (ds es:List D),D.bR ds es=((List.range (min ds.length es.length)).all (fun j=>D.eqv (ds.getD j .non) (es.getD j .non)) && ds.length == es.length)
 | [],[]=>rfl
 | [],e :: es=>by simp [D.bR]
 | d :: ds,[]=>by simp [D.bR]
 | d :: ds,e :: es=>by
  have ih:=D.ck ds es
  have q:min (d :: ds).length (e :: es).length=min ds.length es.length+1:=by simp only [List.length_cons];omega
  rw [q,List.range_succ_eq_map,List.all_cons,List.all_map]
  have z:((d :: ds).length == (e :: es).length)=(ds.length == es.length):=by
   rw [Bool.eq_iff_iff];simp
  rw [z,D.bR,ih,Bool.and_assoc]
  rfl
theorem D.gA:∀ {ds:List D} {i:Nat} {d:D},ds[i]?=some d→D.depth d≤D.cC ds
 | [],_,_,e=>by simp at e
 | x :: xs,0,d,e=>by
  simp at e;subst e
  exact Nat.le_max_left _ _
 | x :: xs,i+1,d,e=>Nat.le_trans (D.gA (ds:=xs) (i:=i) (by simpa using e)) (Nat.le_max_right _ _)
section
variable {X:Cx}
theorem vM {pins:List (Addr×Obj)} {σ:St} {H:Hp} {s:Shared} (I:Inv X pins σ H s):∀ (n:Nat) (A:Around) (x y:V) (u v:Value) (d e:D),A.units+n < cLine→D.depth d≤n→RelV x u→RelV y v→Rep H x d→Rep H y e →
  SeqAt.EqAt A s u v (D.eqv d e):=by
 intro n
 induction n with
 | zero=>
  intro A x y u v d e hu hd ru rv rx ry
  have hu':A.units < cLine:=by omega
  cases rx with
  | tup h r=>simp [D.depth] at hd
  | lst h r=>simp [D.depth] at hd
  | non=>
   cases ry with
   | tup h r=>
    cases ru;cases rv
    obtain ⟨its,rv,p,hz⟩:=I.tuple (SqT.of h)
    exact SeqAt.EqAt.none_tuple p hu'
   | lst h r=>
    cases ru;cases rv
    obtain ⟨its,rv,p,hz⟩:=I.list (SqL.of h)
    exact SeqAt.EqAt.none_list p.isList hu'
   | _=>simp only [D.eqv];exact jP ru rv rfl rfl
  | bl a=>
   cases ry with
   | tup h r=>
    cases ru;cases rv
    obtain ⟨its,rv,p,hz⟩:=I.tuple (SqT.of h)
    exact SeqAt.EqAt.bool_tuple a p hu'
   | lst h r=>
    cases ru;cases rv
    obtain ⟨its,rv,p,hz⟩:=I.list (SqL.of h)
    exact SeqAt.EqAt.bool_list a p.isList hu'
   | _=>simp only [D.eqv];exact jP ru rv rfl rfl
  | int a=>
   cases ry with
   | tup h r=>
    obtain ⟨t,rfl⟩:=ru;cases rv
    obtain ⟨its,rv,p,hz⟩:=I.tuple (SqT.of h)
    exact SeqAt.EqAt.int_tuple a t p hu'
   | lst h r=>
    obtain ⟨t,rfl⟩:=ru;cases rv
    obtain ⟨its,rv,p,hz⟩:=I.list (SqL.of h)
    exact SeqAt.EqAt.int_list a t p.isList hu'
   | _=>simp only [D.eqv];exact jP ru rv rfl rfl
  | str a=>
   cases ry with
   | tup h r=>
    obtain ⟨t,rfl⟩:=ru;cases rv
    obtain ⟨its,rv,p,hz⟩:=I.tuple (SqT.of h)
    exact SeqAt.EqAt.str_tuple a t p hu'
   | lst h r=>
    obtain ⟨t,rfl⟩:=ru;cases rv
    obtain ⟨its,rv,p,hz⟩:=I.list (SqL.of h)
    exact SeqAt.EqAt.str_list a t p.isList hu'
   | _=>simp only [D.eqv];exact jP ru rv rfl rfl
 | succ n ih=>
  intro A x y u v d e hu hd ru rv rx ry
  have hu':A.units < cLine:=by omega
  have items:∀ {vs us:List V} {ds es:List D} {its its2:List Value},D.cC ds≤n→Vals vs its→Vals us its2→ax H vs ds→ax H us es →
    ∀ j (h1:j < its.toArray.size) (h2:j < its2.toArray.size),SeqAt.EqAt A.in1 s its.toArray[j] its2.toArray[j] (D.eqv (ds.getD j .non) (es.getD j .non)):=by
   intro vs us ds es its its2 hdd r1 r2 q1 q2 j h1 h2
   have h1':j < its.length:=by simpa using h1
   have h2':j < its2.length:=by simpa using h2
   have l1:=r1.length
   have l2:=r2.length
   have m1:=q1.length
   have m2:=q2.length
   have e1:vs[j]?=some (vs[j]'(by omega)):=List.getElem?_eq_getElem _
   have e2:us[j]?=some (us[j]'(by omega)):=List.getElem?_eq_getElem _
   obtain ⟨a1,b1,c1⟩:=r1.get e1
   obtain ⟨a2,b2,c2⟩:=r2.get e2
   obtain ⟨f1,g1,k1⟩:=q1.get e1
   obtain ⟨f2,g2,k2⟩:=q2.get e2
   have z1:its.toArray[j]=a1:=by
    have:its[j]?=some its[j]:=List.getElem?_eq_getElem h1'
    rw [b1] at this
    simpa using (Option.some.inj this).symm
   have z2:its2.toArray[j]=a2:=by
    have:its2[j]?=some its2[j]:=List.getElem?_eq_getElem h2'
    rw [b2] at this
    simpa using (Option.some.inj this).symm
   rw [z1,z2,List.getD_eq_getElem?_getD,List.getD_eq_getElem?_getD,g1,g2]
   refine ih A.in1 _ _ _ _ _ _ ?_ (Nat.le_trans (D.gA g1) hdd) c1 c2 k1 k2
   show A.units+1+n < cLine
   omega
  cases rx with
  | @tup a vs ds h r=>
   obtain ⟨its,rv1,p,hz⟩:=I.tuple (SqT.of h)
   cases ry with
   | @tup b us es h' r'=>
    cases ru;cases rv
    obtain ⟨its2,rv2,p2,hz2⟩:=I.tuple (SqT.of h')
    by_cases hab:a=b
    ·subst hab
     rw [h] at h';cases h'
     rw [ax.inj r' r,D.eqv_refl]
     exact SeqAt.EqAt.same _
    ·have hdd:D.cC ds≤n:=by simp only [D.depth] at hd;omega
     have q:=SeqAt.EqAt.of_refs hab (SeqAt.RcAt.tuples (e:=fun j=>D.eqv (ds.getD j .non) (es.getD j .non)) p p2 hu' (items hdd rv1 rv2 r r'))
     rw [List.size_toArray,List.size_toArray,← rv1.length,← rv2.length,r.length,r'.length,← D.ck] at q
     simp only [D.eqv]
     exact q
   | @lst b us es h' r'=>
    cases ru;cases rv
    obtain ⟨its2,rv2,p2,hz2⟩:=I.list (SqL.of h')
    simp only [D.eqv]
    exact SeqAt.EqAt.tuple_list p p2.isList hu'
   | non=>cases ru;cases rv;simp only [D.eqv];exact SeqAt.EqAt.tuple_none p hu'
   | bl c=>cases ru;cases rv;simp only [D.eqv];exact SeqAt.EqAt.tuple_bool c p hu'
   | int c=>cases ru;obtain ⟨t,rfl⟩:=rv;simp only [D.eqv];exact SeqAt.EqAt.tuple_int c t p hu'
   | str c=>cases ru;obtain ⟨t,rfl⟩:=rv;simp only [D.eqv];exact SeqAt.EqAt.tuple_str c t p hu'
  | @lst a vs ds h r=>
   obtain ⟨its,rv1,p,hz⟩:=I.list (SqL.of h)
   cases ry with
   | @lst b us es h' r'=>
    cases ru;cases rv
    obtain ⟨its2,rv2,p2,hz2⟩:=I.list (SqL.of h')
    by_cases hab:a=b
    ·subst hab
     rw [h] at h';cases h'
     rw [ax.inj r' r,D.eqv_refl]
     exact SeqAt.EqAt.same _
    ·have hdd:D.cC ds≤n:=by simp only [D.depth] at hd;omega
     have l1:=rv1.length
     have l2:=rv2.length
     have m1:=r.length
     have m2:=r'.length
     by_cases hl:ds.length=es.length
     ·have q:=SeqAt.EqAt.of_refs hab (SeqAt.RcAt.lists (e:=fun j=>D.eqv (ds.getD j .non) (es.getD j .non)) p.isList p2.isList (by simp;omega) hu' (items hdd rv1 rv2 r r'))
      have z:D.bR ds es=(List.range its.toArray.size).all fun j=>D.eqv (ds.getD j .non) (es.getD j .non):=by
       rw [D.ck,← hl,Nat.min_self,List.size_toArray,← l1,m1]
       simp
      simp only [D.eqv]
      rw [z]
      exact q
     ·have q:=SeqAt.EqAt.of_refs hab (SeqAt.RcAt.lists_lengths p.isList p2.isList (by simp;omega) hu')
      have z:D.bR ds es=false:=by
       rw [D.ck]
       simp [hl]
      simp only [D.eqv]
      rw [z]
      exact q
   | @tup b us es h' r'=>
    cases ru;cases rv
    obtain ⟨its2,rv2,p2,hz2⟩:=I.tuple (SqT.of h')
    simp only [D.eqv]
    exact SeqAt.EqAt.list_tuple p.isList p2 hu'
   | non=>cases ru;cases rv;simp only [D.eqv];exact SeqAt.EqAt.list_none p.isList hu'
   | bl c=>cases ru;cases rv;simp only [D.eqv];exact SeqAt.EqAt.list_bool c p.isList hu'
   | int c=>cases ru;obtain ⟨t,rfl⟩:=rv;simp only [D.eqv];exact SeqAt.EqAt.list_int c t p.isList hu'
   | str c=>cases ru;obtain ⟨t,rfl⟩:=rv;simp only [D.eqv];exact SeqAt.EqAt.list_str c t p.isList hu'
  | non=>exact SeqAt.EqAt.of_in1 (ih A.in1 _ y u v _ e (by show A.units+1+n < cLine;omega) (by simp [D.depth]) ru rv .non ry)
  | bl c=>exact SeqAt.EqAt.of_in1 (ih A.in1 _ y u v _ e (by show A.units+1+n < cLine;omega) (by simp [D.depth]) ru rv (.bl c) ry)
  | int c=>exact SeqAt.EqAt.of_in1 (ih A.in1 _ y u v _ e (by show A.units+1+n < cLine;omega) (by simp [D.depth]) ru rv (.int c) ry)
  | str c=>exact SeqAt.EqAt.of_in1 (ih A.in1 _ y u v _ e (by show A.units+1+n < cLine;omega) (by simp [D.depth]) ru rv (.str c) ry)
end
section
variable {X:Cx}
def xQ:R2:=fun x y H Q=>∃ a b,x=.bl a∧y=.bl b∧Q (.bl (a == b)) H
def qH:R2:=fun x y H Q=>∃ a b,x=.bl a∧y=.bl b∧Q (.bl (a != b)) H
theorem v5:OpR X (compareOp .Is) xQ:=by
 intro pins s σ H x y v u Q I rx ry h
 obtain ⟨a,b,rfl,rfl,q⟩:=h
 cases rx;cases ry
 exact is_bool ⟨.bl _,H,I,rfl,q⟩
theorem ub:OpR X (compareOp .IsNot) qH:=by
 intro pins s σ H x y v u Q I rx ry h
 obtain ⟨a,b,rfl,rfl,q⟩:=h
 cases rx;cases ry
 exact isnot_bool ⟨.bl _,H,I,rfl,q⟩
def isT (T:String):D→Bool
 | .non=>false
 | .bl _=>T == "bool" || T == "int"
 | .int _=>T == "int"
 | .str _=>T == "str"
 | .tup _=>T == "tuple"
 | .lst _=>T == "list"
def okT (T:String):Bool:=T == "bool" || T == "int" || T == "str" || T == "tuple" || T == "list"
theorem Em {K:PySem.W.Frag} {H:Hp} {x:V} {d:D} {T:String} (r:Rep H x d) (h:okT T=true):∃ t,fA K H x t∧PySem.W.kitOne K t (.type T)=some (isT T d):=by
  have h5:T="bool"∨T="int"∨T="str"∨T="tuple"∨T="list":=by simpa [okT,or_assoc] using h
  cases r with
  | non=>exact ⟨_,.non,by rcases h5 with e | e | e | e | e<;>subst e<;>first | rfl | kernel_rfl⟩
  | bl b=>exact ⟨_,.bl b,by rcases h5 with e | e | e | e | e<;>subst e<;>first | rfl | kernel_rfl⟩
  | int i=>exact ⟨_,.int i,by rcases h5 with e | e | e | e | e<;>subst e<;>first | rfl | kernel_rfl⟩
  | str x=>exact ⟨_,.str x,by rcases h5 with e | e | e | e | e<;>subst e<;>first | rfl | kernel_rfl⟩
  | tup h r=>exact ⟨_,.tup h,by rcases h5 with e | e | e | e | e<;>subst e<;>first | rfl | kernel_rfl⟩
  | lst h r=>exact ⟨_,.lst h,by rcases h5 with e | e | e | e | e<;>subst e<;>first | rfl | kernel_rfl⟩
def Fo (T:String) (te:TE):TE:=fun σ H Q=>te σ H fun x H1=>∃ d,Rep H1 x d∧Q (.bl (isT T d)) H1
theorem vj {e:Expr} {te:TE} {nm:Str} {T:String} {p p2 pos:Pos} (hg:Gl X "isinstance") (hm:X.mg "isinstance"=none) (hg2:Gl X nm) (hm2:X.mg nm=none) (hv:bootBuiltins nm=some (.type T)) (ho:okT T=true) (ha:PE X e te)
  (hn:nm≠"__name__":=by decide) (hd:(nm == ("__debug__":Str))=false:=by decide) (hb:bootBuiltins "isinstance"=some (.builtin "isinstance"):=by decide +kernel)
  (he:starEach [e,.Name nm p2] X.env=(false,eval e X.env) :: starEach [.Name nm p2] X.env:=by rfl) (hs2:starEach [.Name nm p2] X.env=(false,eval (.Name nm p2) X.env) :: starEach [] X.env:=by rfl) (hpl:(backTo pos (starEach [.Name nm p2] X.env)).any (·.1)=false:=by rfl) :
  PE X (.Call (.Name "isinstance" p) [e,.Name nm p2] [] pos) (Fo T te):=by
 intro pins s σ H Q I h
 have hT:PE X (.Name nm p2) (tC (.ty T)):=zK hg2 hm2 hv rfl hn hd
 refine wpAny_Call_Name_kw (cq I hg hm hb ?_ (by decide) (by decide))
 refine PyProof.Rows.callWith_builtin1 (thn ((eJ ha (eJ hT gR hs2) he) pos pins s σ H (fun vs H1=>∃ x d,vs=[x,.ty T]∧Rep H1 x d∧Q (.bl (isT T d)) H1) I ?_) fun us s1 ⟨vs,H1,I1,r1,q1⟩=>?_) he hpl
 ·refine (show te σ H fun x H1=>_ from ?_)
  refine cast (congrArg (te σ H) ?_) h
  funext x H1
  refine propext ⟨fun ⟨d,r,q⟩=>⟨x,d,rfl,r,q⟩,fun ⟨x',d,e,r,q⟩=>?_⟩
  cases e
  exact ⟨d,r,q⟩
 ·obtain ⟨x,d,e,r,q⟩:=q1
  subst e
  obtain ⟨u,w',rfl,ru,rw'⟩:=r1.two
  obtain ⟨t,ty,k⟩:=Em (K:=X.K) r ho
  cases (show w'=Value.type T from rw')
  exact uw I1 ru ty k fun tk=>⟨.bl _,H1,I1.tok tk,rfl,q⟩
end
section
variable {X:Cx} {pins:List (Addr×Obj)} {σ:St} {H:Hp} {s:Shared} {h':Heap} {fp:List Addr}
theorem Inv.je {a:Addr} {o:HO} {t':Nat} (I:Inv X pins σ H s) (ha:s.heap.objs.size≤a) (hk:∀ b u,b∉fp→s.heap.get? b=some u→h'.get? b=some u) (hf:∀ b∈fp,fE X pins H b) (new:bH X.prog X.w (upd H a o) h' a o) :
  Inv X pins σ (upd H a o) { s with heap:=h',toks:=t' }:=by
 have hn:H a=none:=I.hok.fresh ha
 have nfp:∀ b u,H b=some u→b∉fp:=fun b u e z=>by
  have q:=(hf b z).1
  rw [e] at q
  cases q
 have hne:∀ b (u:Obj),s.heap.get? b=some u→b≠a:=fun b u e=>Nat.ne_of_lt (Nat.lt_of_lt_of_le (Heap.lt_size e) ha)
 refine I.step (g':=s.gens) (d':=s.drawn) (ch:=fp) (fun b hb=>?_) (fun b u _ _ hc e _=>hk b u hc e) (fun b u _ _ hc e _=>⟨u.slots,hk b u hc e⟩) (fun b u _ e n=>?_)
  (fun b u hc e=>⟨u,hk b u hc e⟩) (fun b xs e=>?_) (fun b u xs e=>?_) (fun b ps e=>⟨#[],?_⟩) (fun m hm=>?_) (fun b u e=>?_) I.bare
 ·obtain ⟨f0,f1,f2,f3,f4,f5⟩:=hf b hb
  exact ⟨f3,f1,f4,f5⟩
 ·rw [aS (hne b u e)];exact n
 ·rw [aS (bo e hn)];exact e
 ·rw [aS (bo e hn)];exact e
 ·rw [aS (bo e hn),e];simp
 ·obtain ⟨u,es,ep,ho,r⟩:=hm
  exact ⟨u,es,ep,hk _ u (fun z=>(hf _ z).2.1 rfl) ho,r⟩
 ·by_cases hb:b=a
  ·subst hb;rw [bJ] at e;cases e;exact new
  ·rw [aS hb] at e
   refine (I.hok b u e).jZ (fun c v hc q=>hk c v ?_ q) (fun c q=>by rw [aS (bo q hn)];exact q) fun c xs q=>by rw [aS (bo q hn)];exact q
   rcases hc with z | z
   ·rw [z];exact nfp b u e
   ·exact nfp c _ z
theorem Inv.sE {t':Nat} (I:Inv X pins σ H s) (hk:∀ b u,b∉fp→s.heap.get? b=some u→h'.get? b=some u) (hf:∀ b∈fp,fE X pins H b):Inv X pins σ H { s with heap:=h',toks:=t' }:=by
 have nfp:∀ b u,H b=some u→b∉fp:=fun b u e z=>by
  have q:=(hf b z).1
  rw [e] at q
  cases q
 refine I.step (g':=s.gens) (d':=s.drawn) (ch:=fp) (fun b hb=>?_) (fun b u _ _ hc e _=>hk b u hc e) (fun b u _ _ hc e _=>⟨u.slots,hk b u hc e⟩) (fun b u _ e n=>n)
  (fun b u hc e=>⟨u,hk b u hc e⟩) (fun b xs e=>e) (fun b u xs e=>e) (fun b ps e=>⟨#[],?_⟩) (fun m hm=>?_) (fun b u e=>?_) I.bare
 ·obtain ⟨f0,f1,f2,f3,f4,f5⟩:=hf b hb
  exact ⟨f3,f1,f4,f5⟩
 ·rw [e];simp
 ·obtain ⟨u,es,ep,ho,r⟩:=hm
  exact ⟨u,es,ep,hk _ u (fun z=>(hf _ z).2.1 rfl) ho,r⟩
 ·refine (I.hok b u e).jZ (fun c v hc q=>hk c v ?_ q) (fun _ q=>q) fun _ _ q=>q
  rcases hc with z | z
  ·rw [z];exact nfp b u e
  ·exact nfp c _ z
end
def Ite (K:PySem.W.Frag) (l:Addr):It:=
 ⟨fun i H=>∃ xs x,SqL K H l xs∧xs[i]?=some x,fun i H x H'=>∃ p y,H p=none∧x=.ref p∧H'=upd H p (.tup [.int i,y])∧∀ xs,SqL K H l xs→xs[i]?=some y,fun i H=>∃ xs,SqL K H l xs∧xs.length≤i⟩
theorem uT {P:Program} {w:World} {K:PySem.W.Frag} {es:List Expr} {kk:Nat} {tp:Pos} (l e it:Addr) (hne:e≠it) :
  Turn P w K (.Tuple es kk tp) (Ite K l) [e,it] e (fun i h=>(∃ old,IsEnum h e it ((i:Nat):Int) old)∧h.IsListIter it l i) where
 mem:=by simp
 obj:=fun i h st b hb=>by
  obtain ⟨⟨old,he⟩,hit⟩:=st
  rcases List.mem_cons.mp hb with z | z
  ·subst z;exact ⟨_,he,fun v z=>by
    have z':Data.fields _=Data.cell v:=z
    cases z'⟩
  ·have z:b=it:=List.mem_singleton.mp z
   subst z
   obtain ⟨o,q,_,d⟩:=hit
   exact ⟨o,q,fun v z=>by rw [d] at z;cases z⟩
 keep:=fun i h h' st k=>by
  obtain ⟨⟨old,he⟩,hit⟩:=st
  exact ⟨⟨old,k e (by simp) _ he⟩,hit.at fun o q=>k it (by simp) o q⟩
 item:=by
  intro X hP hw hK hc i pins s σ H E I hf st hg
  subst hP hw hK
  obtain ⟨⟨old,he⟩,hit⟩:=st
  obtain ⟨xs,x,hq,hx⟩:=hg
  obtain ⟨its,rv,p,hz⟩:=I.list hq
  obtain ⟨u,hu,ru⟩:=rv.get hx
  refine wpAny_pyNext_enum_item he hit p.isList (x:=u) (by simpa using hu) hne fun h1 ho1 hit1 ht1 hz1 hk1=>?_
  refine ⟨_,rfl,wpAny_letOwnedTupleGo_enum (s:={ s with heap:=h1,toks:=s.toks+1 }) ho1 fun h2 he2 hs2=>?_⟩
  have helt:e < s.heap.objs.size:=Heap.lt_size he
  have ht2:h2.get? s.heap.objs.size=some { cls:=.type "tuple",data:=.seq #[.int i s.toks,u] }:=hs2.extBut _ _ (Nat.ne_of_gt helt) ht1
  have k2:∀ b o,b∉[e,it]→s.heap.get? b=some o→h2.get? b=some o:=fun b o hb q=>by
   have hb1:b≠e:=fun z=>hb (by simp [z])
   have hb2:b≠it:=fun z=>hb (by simp [z])
   exact hs2.extBut b o hb1 (hk1 b o hb1 hb2 q)
  have I2:Inv X pins σ (upd H s.heap.objs.size (.tup [.int i,x])) { s with heap:=h2,toks:=s.toks+1 }:=by
   refine I.je (fp:=[e,it]) (Nat.le_refl _) k2 hf ?_
   exact ⟨by show 2≤sizeLine;decide,[.int i s.toks,u],.cons ⟨_,rfl⟩ (.cons ru .nil),⟨_,ht2,rfl,_,rfl⟩⟩
  refine ⟨.ref s.heap.objs.size,_,I2,rfl,⟨s.heap.objs.size,x,I.hok.fresh (Nat.le_refl _),rfl,rfl,fun ys hy=>by rw [I.qK hy hq];exact hx⟩,⟨⟨_,by simpa using he2⟩,?_⟩,fun b hb=>?_⟩
  ·exact hit1.extBut hs2.extBut (Ne.symm hne)
  ·have hlt:b < s.heap.objs.size:=by
    rcases List.mem_cons.mp hb with z | z
    ·rw [z];exact helt
    ·have z:b=it:=List.mem_singleton.mp z
     subst z
     obtain ⟨o,q,_⟩:=hit
     exact Heap.lt_size q
   rw [aS (Nat.ne_of_lt hlt)]
   exact (hf b hb).1
 done:=by
  intro X hP hw hK hc i pins s σ H E I hf st hg
  subst hP hw hK
  obtain ⟨⟨old,he⟩,hit⟩:=st
  obtain ⟨xs,hq,hx⟩:=hg
  obtain ⟨its,rv,p,hz⟩:=I.list hq
  have hl:=rv.length
  obtain ⟨f0,f1,f2,f3,f4,f5⟩:=hf it (by simp)
  exact wpAny_pyNext_enum_end (I.ok.hd hc) he hit p.isList (by simp;omega) fun h' eb=>⟨rfl,I.turned (t':=s.toks) (fun b o hb e=>eb b o hb e) f0 f1 f3 f4 f5⟩
 self:=fun _ _ _ _ _ st h=>by
  obtain ⟨⟨old,he⟩,_⟩:=st
  exact wpAny_pyIter_enum he h
section
variable {prog:Program} {w:World} {A:Around} {E:Value→Shared→Prop} {s:Shared}
theorem uc {it t:Addr} {i:Nat} {items:Array Value} {x:Value} {Q:Value→Shared→Prop} (hit:s.heap.IsTupleIter it t i) (ht:s.heap.IsTuple t items) (hx:items[i]?=some x)
  (hQ:∀ h',h'.IsTupleIter it t (i+1)→Heap.SameBut it s.heap h'→Q x { s with heap:=h' }):wpAny (model prog w) A (Builtin.SmallTypes.nextOf (.ref it)) Q E s:=by
 obtain ⟨o,ho,hc,hd⟩:=id hit
 obtain ⟨ot,hot,_,nt,hdt⟩:=ht
 unfold Builtin.SmallTypes.nextOf
 refine wpAny_bind (wpAny_callSpecial?_slot (name:=Str.ofString "__next__") hit.typeIs F.slot_tuple_iterator_next (wpAny_call_entry F.slot_tuple_iterator_next hit.typeIs F.entry_tuple_iterator_next ?_ (F.args_tuple_iterator_next_1 _)))
 refine (show wpAny _ _ (field (.ref it) 0>>=_) _ _ s from wpAny_bind (wpAny_field ho hd (x:=.ref t) rfl ?_))
 show wpAny _ _ (if (Value.ref t == Value.none)=true then _ else _) _ _ s
 rw [if_neg (by intro z;exact Bool.false_ne_true z)]
 refine (show wpAny _ _ (field (.ref it) 1>>=_) _ _ s from wpAny_bind (wpAny_field ho hd (x:=.int i 0) rfl ?_))
 refine (show wpAny _ _ (seqItems? (.ref t)>>=_) _ _ s from wpAny_bind (wpAny_seqItems hot hdt ?_))
 simp only [Int.toNat_natCast,hx]
 refine wpAny_bind (wpAny_setField ho hd (by simp) (wpAny_pure ⟨x,rfl,wpAny_pure (hQ _ ⟨_,Heap.get?_update_self _ ho (Obj.isFreed_of_fields (Obj.data_mapFields hd _)),(Obj.cls_mapFields ..).trans hc,?_⟩ (Heap.SameBut.update ..))⟩))
 rw [Obj.data_mapFields hd];simp [rawInt]
theorem uo {it t:Addr} {i:Nat} {items:Array Value} {Q:Value→Shared→Prop} (hh:A.handled=none) (hit:s.heap.IsTupleIter it t i) (ht:s.heap.IsTuple t items) (hx:items[i]?=none)
  (hE:∀ h' e,Heap.ExtBut it s.heap h'→(∃ o,h'.get? e=some o∧o.cls=.type "StopIteration")→E (.ref e) { s with heap:=h' }):wpAny (model prog w) A (Builtin.SmallTypes.nextOf (.ref it)) Q E s:=by
 obtain ⟨o,ho,hc,hd⟩:=id hit
 obtain ⟨ot,hot,_,nt,hdt⟩:=ht
 unfold Builtin.SmallTypes.nextOf
 refine wpAny_bind (wpAny_callSpecial?_slot (name:=Str.ofString "__next__") hit.typeIs F.slot_tuple_iterator_next (wpAny_call_entry F.slot_tuple_iterator_next hit.typeIs F.entry_tuple_iterator_next ?_ (F.args_tuple_iterator_next_1 _)))
 refine (show wpAny _ _ (field (.ref it) 0>>=_) _ _ s from wpAny_bind (wpAny_field ho hd (x:=.ref t) rfl ?_))
 show wpAny _ _ (if (Value.ref t == Value.none)=true then _ else _) _ _ s
 rw [if_neg (by intro z;exact Bool.false_ne_true z)]
 refine (show wpAny _ _ (field (.ref it) 1>>=_) _ _ s from wpAny_bind (wpAny_field ho hd (x:=.int i 0) rfl ?_))
 refine (show wpAny _ _ (seqItems? (.ref t)>>=_) _ _ s from wpAny_bind (wpAny_seqItems hot hdt ?_))
 simp only [Int.toNat_natCast,hx]
 refine wpAny_bind (wpAny_rule (wpAny_bind (wpAny_setField ho hd (by simp) ?_)))
 refine (show wpAny _ _ (newExc (.type "StopIteration") []>>=_) _ _ _ from wpAny_bind ?_)
 simp only [newExc,newTuple]
 refine wpAny_bind (wpAny_newObj_type (wpAny_bind (m:=firstArgMember _ _) (wpAny_of_eq (a:=Value.none) (by first | rfl | (simp only [firstArgMember];rfl)) (wpAny_newObj_type ?_ (by size_fits)))) (by size_fits))
 simp only [raiseNew]
 refine wpAny_bind (wpAny_handled ?_)
 first | rw [show A.in1.handled=none from hh] | rw [hh]
 exact wpAny_bind (wpAny_pure (wpAny_throw (hE _ _ (((Heap.SameBut.update ..).extBut.push _).push _) ⟨_,Heap.get?_push_size _ rfl,rfl⟩)))
end
theorem d9 {prog:Program} {w:World} {A:Around} (hh:A.handled=none) (it t:Addr) (hne:t≠it) (items:Array Value) :
  Draws prog w A it [it,t] items.size (fun i v=>items[i]?=some v) (fun i h=>h.IsTupleIter it t i∧h.IsTuple t items) where
 live:=fun _ _ st=>let ⟨o,ho,_⟩:=st.1;⟨o,ho⟩
 frame:=fun _ _ _ st hk=>⟨st.1.at fun o e=>hk it (by simp) o e,st.2.at fun o e=>hk t (by simp) o e⟩
 item:=fun i s Q E hi st hQ=>uc st.1 st.2 (x:=items[i]) (by simp [hi]) fun h' a b=>hQ _ h' s.toks (by simp [hi]) ⟨a,st.2.extBut b.extBut hne⟩ b
 done:=fun s Q E st hE=>uo hh st.1 st.2 (by simp) hE
structure b_ (z TI TO i1 i2:Addr) (fp1 fp2:List Addr):Prop where
 TIz:TI≠z
 TOz:TO≠z
 TITO:TI≠TO
 z1:z∉fp1
 z2:z∉fp2
 TO1:TO∉fp1
 TO2:TO∉fp2
 i12:i1∉fp2
 i21:i2∉fp1
 m1:i1∈fp1
 m2:i2∈fp2
 TI1:TI≠i1
 TI2:TI≠i2
section
variable {prog:Program} {w:World} {A:Around} {E:Value→Shared→Prop} {s:Shared} {z TI TO i1 i2:Addr} {fp1 fp2:List Addr} {n1 n2 k:Nat} {P1 P2:Nat→Value→Prop} {S1 S2:Nat→Heap→Prop} {a b:Value}
theorem b_.i1z (D:b_ z TI TO i1 i2 fp1 fp2):i1≠z:=fun e=>D.z1 (e ▸ D.m1)
theorem b_.i2z (D:b_ z TI TO i1 i2 fp1 fp2):i2≠z:=fun e=>D.z2 (e ▸ D.m2)
theorem b_.TOi1 (D:b_ z TI TO i1 i2 fp1 fp2):TO≠i1:=fun e=>D.TO1 (e ▸ D.m1)
theorem b_.TOi2 (D:b_ z TI TO i1 i2 fp1 fp2):TO≠i2:=fun e=>D.TO2 (e ▸ D.m2)
theorem dQ {a:Addr} {Q:Option Obj→Shared→Prop} (h:Q (s.heap.get? a) s):wpAny (model prog w) A (loadIfAlive a) Q E s:=
 fun _ _ _=>h
abbrev cK (h:Heap) (z TI TO:Addr) (own:Value) (fl:Bool):Prop:=h.get? z=some { cls:=.type "zip",dict:=none,data:=.fields #[own,.bool fl,.bool false,.ref TI,.ref TO],slots:=#[] }
def i7 (h:Heap) (own:Value):Prop:=own=.none∨∃ T:Addr,own=rawInt T∧h.get? T=none
theorem rL {own:Value} {fl:Bool} {Q:Bool→Shared→Prop} (hz:cK s.heap z TI TO own fl) (hf:i7 s.heap own) (h:Q true s):wpAny (model prog w) A (Builtin.SmallTypes.ownedTupleIsFree (.ref z)) Q E s:=by
 unfold Builtin.SmallTypes.ownedTupleIsFree
 rcases hf with rfl | ⟨T,rfl,hT⟩
 ·exact wpAny_bind (wpAny_field hz rfl (x:=.none) rfl (wpAny_pure h))
 ·refine wpAny_bind (wpAny_field hz rfl (x:=rawInt T) rfl ?_)
  refine (show wpAny _ _ (loadIfAlive ((T:Int)).toNat>>=_) _ _ _ from wpAny_bind (dQ ?_))
  rw [Int.toNat_natCast,hT]
  exact wpAny_ite_true rfl (wpAny_pure h)
theorem uI {Q:Value→Shared→Prop} (D:b_ z TI TO i1 i2 fp1 fp2) (D1:Draws prog w A i1 fp1 n1 P1 S1) (D2:Draws prog w A i2 fp2 n2 P2 S2) {own:Value} {fl:Bool} (hz:cK s.heap z TI TO own fl) (hfr:i7 s.heap own) (hTI:IsPair s.heap TI (.ref i1) (.ref i2)) (hTO:IsPair s.heap TO a b)
  (h1:S1 k s.heap) (h2:S2 k s.heap) (l1:k < n1) (l2:k < n2)
  (hQ:∀ x y h' tk,P1 k x→P2 k y→IsZip h' z TI TO (rawInt s.heap.objs.size)→IsPair h' TI (.ref i1) (.ref i2)→IsPair h' TO x y→S1 (k+1) h'→S2 (k+1) h'→IsPair h' s.heap.objs.size x y→h'.objs.size=s.heap.objs.size+1 →
   (∀ c o,c≠z→c≠TO→c≠i1→c≠i2→s.heap.get? c=some o→h'.get? c=some o)→Q (.ref s.heap.objs.size) { s with heap:=h',toks:=tk }) :
  wpAny (model prog w) A (Builtin.«zip.__next__» ⟨[.ref z],[]⟩) (fun fin s'=>∃ v,fin=.done (.ret v)∧Q v s') E s:=by
 refine (show wpAny _ _ (field (.ref z) 2>>=_) _ _ _ from wpAny_bind (wpAny_field hz rfl (x:=.bool false) rfl ?_))
 refine (show wpAny _ _ (field (.ref z) 3>>=_) _ _ _ from wpAny_bind (wpAny_field hz rfl (x:=.ref TI) rfl ?_))
 refine wpAny_bind (wpAny_seqItems hTI rfl ?_)
 refine (show wpAny _ _ (Builtin.SmallTypes.ownedTupleIsFree (.ref z)>>=_) _ _ _ from wpAny_bind (rL hz hfr ?_))
 simp only [if_true]
 refine wpAny_bind (wpAny_rule (wpAny_bind (wpAny_field hz rfl (x:=.ref TO) rfl ?_)))
 refine wpAny_bind (wpAny_setField_rec hz (by simp) fun g1 hz1 e1=>?_)
 replace hz1:cK g1 z TI TO .ellipsis fl:=hz1
 replace e1:Heap.SameBut z s.heap g1:=e1
 refine wpAny_bind ?_
 simp only [List.zipIdx_cons,List.zipIdx_nil,List.forIn_cons,List.forIn_nil]
 refine wpAny_bind (wpAny_bind (wpAny_onRaise ?_))
 have q1:S1 k g1:=D1.frame _ _ _ h1 fun c hc o q=>e1.extBut c o (fun y=>D.z1 (y ▸ hc)) q
 have q2:S2 k g1:=D2.frame _ _ _ h2 fun c hc o q=>e1.extBut c o (fun y=>D.z2 (y ▸ hc)) q
 refine (show wpAny _ _ (Builtin.SmallTypes.nextOf (.ref i1)>>=_) _ _ _ from wpAny_bind (D1.item k _ _ _ l1 q1 fun x g2 t2 p1 q1' e2=>wpAny_pure ?_))
 replace e2:Heap.SameBut i1 g1 g2:=e2
 have hTO2:IsPair g2 TO a b:=e2.extBut _ _ D.TOi1 (e1.extBut _ _ D.TOz hTO)
 refine wpAny_bind (wpAny_seqItems hTO2 rfl (wpAny_bind (wpAny_updateSeq_pair hTO2 fun g3 hTO3 e3=>?_)))
 replace hTO3:IsPair g3 TO x b:=hTO3
 replace e3:Heap.SameBut TO g2 g3:=e3
 refine wpAny_bind (wpAny_letGo (wpAny_pure ?_))
 refine wpAny_bind (wpAny_bind (wpAny_onRaise ?_))
 have r1:S1 (k+1) g3:=D1.frame _ _ _ q1' fun c hc o q=>e3.extBut c o (fun y=>D.TO1 (y ▸ hc)) q
 have r2:S2 k g3:=D2.frame _ _ _ q2 fun c hc o q=>e3.extBut c o (fun y=>D.TO2 (y ▸ hc)) (e2.extBut c o (fun y=>D.i12 (y ▸ hc)) q)
 refine (show wpAny _ _ (Builtin.SmallTypes.nextOf (.ref i2)>>=_) _ _ _ from wpAny_bind (D2.item k _ _ _ l2 r2 fun y g4 t4 p2 r2' e4=>wpAny_pure ?_))
 replace e4:Heap.SameBut i2 g3 g4:=e4
 have hTO4:IsPair g4 TO x b:=e4.extBut _ _ D.TOi2 hTO3
 refine wpAny_bind (wpAny_seqItems hTO4 rfl (wpAny_bind (wpAny_updateSeq_pair hTO4 fun g5 hTO5 e5=>?_)))
 replace hTO5:IsPair g5 TO x y:=hTO5
 replace e5:Heap.SameBut TO g4 g5:=e5
 refine wpAny_bind (wpAny_letGo (wpAny_pure (wpAny_pure ?_)))
 refine wpAny_bind (wpAny_seqItems hTO5 rfl (wpAny_bind (wpAny_newTuple ?_)))
 have hsz:g5.objs.size=s.heap.objs.size:=by rw [e5.1,e4.1,e3.1,e2.1,e1.1]
 have hz5:cK g5 z TI TO .ellipsis fl:=e5.extBut _ _ D.TOz.symm (e4.extBut _ _ D.i2z.symm (e3.extBut _ _ D.TOz.symm (e2.extBut _ _ D.i1z.symm hz1)))
 have k5:∀ c o,c≠z→c≠TO→c≠i1→c≠i2→s.heap.get? c=some o→g5.get? c=some o:=fun c o c1 c2 c3 c4 q=>
  e5.extBut _ _ c2 (e4.extBut _ _ c4 (e3.extBut _ _ c2 (e2.extBut _ _ c3 (e1.extBut _ _ c1 q))))
 have u1:S1 (k+1) g5:=D1.frame _ _ _ r1 fun c hc o q=>e5.extBut c o (fun y=>D.TO1 (y ▸ hc)) (e4.extBut c o (fun y=>D.i21 (y ▸ hc)) q)
 have u2:S2 (k+1) g5:=D2.frame _ _ _ r2' fun c hc o q=>e5.extBut c o (fun y=>D.TO2 (y ▸ hc)) q
 have hzl:z < g5.objs.size:=Heap.lt_size hz5
 refine (show wpAny _ _ (Builtin.SmallTypes.ownedTupleHandOut (.ref z) (.ref g5.objs.size)>>=_) _ _ _ from wpAny_bind ?_)
 unfold Builtin.SmallTypes.ownedTupleHandOut
 have hz6:cK (g5.push { cls:=.type "tuple",data:=.seq #[x,y] }) z TI TO .ellipsis fl:=Heap.get?_push_of_some _ hz5
 refine wpAny_bind (wpAny_setField_rec hz6 (by simp) fun g7 hz7 e7=>?_)
 replace hz7:cK g7 z TI TO (rawInt g5.objs.size) fl:=hz7
 refine wpAny_setField_rec hz7 (by simp) fun g8 hz8 e8=>?_
 replace hz8:IsZip g8 z TI TO (rawInt g5.objs.size):=hz8
 replace e7:Heap.SameBut z (g5.push { cls:=.type "tuple",data:=.seq #[x,y] }) g7:=e7
 replace e8:Heap.SameBut z g7 g8:=e8
 have up:∀ c o,c≠z→g5.get? c=some o→g8.get? c=some o:=fun c o c1 q=>e8.extBut _ _ c1 (e7.extBut _ _ c1 (Heap.get?_push_of_some _ q))
 have hT8:IsPair g8 g5.objs.size x y:=e8.extBut _ _ (Nat.ne_of_gt hzl) (e7.extBut _ _ (Nat.ne_of_gt hzl) (Heap.get?_push_size _ rfl))
 have z8:g8.objs.size=g5.objs.size+1:=by rw [e8.1,e7.1,Heap.size_push]
 rw [hsz] at hz8 hT8 z8
 refine wpAny_pure ⟨_,rfl,?_⟩
 show Q (.ref g5.objs.size) _
 rw [hsz]
 exact hQ x y g8 _ p1 p2 hz8 (up _ _ D.TIz (k5 _ _ D.TIz D.TITO D.TI1 D.TI2 hTI)) (up _ _ D.TOz hTO5) (D1.frame _ _ _ u1 fun c hc o q=>up c o (fun y=>D.z1 (y ▸ hc)) q) (D2.frame _ _ _ u2 fun c hc o q=>up c o (fun y=>D.z2 (y ▸ hc)) q) hT8 z8
  fun c o c1 c2 c3 c4 q=>up c o c1 (k5 c o c1 c2 c3 c4 q)
theorem xg {Q:PySem.Fin→Shared→Prop} (D:b_ z TI TO i1 i2 fp1 fp2) (D1:Draws prog w A i1 fp1 n1 P1 S1) (D2:Draws prog w A i2 fp2 n2 P2 S2) {own:Value} {fl:Bool} (hz:cK s.heap z TI TO own fl) (hfr:i7 s.heap own) (hTI:IsPair s.heap TI (.ref i1) (.ref i2)) (hTO:IsPair s.heap TO a b)
  (h1:S1 k s.heap) (h2:S2 k s.heap) (hend:k=n1∨(k < n1∧k=n2))
  (hE:∀ h' e tk,(∀ c o,c≠z→c≠TO→c≠i1→c≠i2→s.heap.get? c=some o→h'.get? c=some o)→(∃ o,h'.get? e=some o∧o.cls=.type "StopIteration")→E (.ref e) { s with heap:=h',toks:=tk }) :
  wpAny (model prog w) A (Builtin.«zip.__next__» ⟨[.ref z],[]⟩) Q E s:=by
 refine (show wpAny _ _ (field (.ref z) 2>>=_) _ _ _ from wpAny_bind (wpAny_field hz rfl (x:=.bool false) rfl ?_))
 refine (show wpAny _ _ (field (.ref z) 3>>=_) _ _ _ from wpAny_bind (wpAny_field hz rfl (x:=.ref TI) rfl ?_))
 refine wpAny_bind (wpAny_seqItems hTI rfl ?_)
 refine (show wpAny _ _ (Builtin.SmallTypes.ownedTupleIsFree (.ref z)>>=_) _ _ _ from wpAny_bind (rL hz hfr ?_))
 simp only [if_true]
 refine wpAny_bind (wpAny_rule (wpAny_bind (wpAny_field hz rfl (x:=.ref TO) rfl ?_)))
 refine wpAny_bind (wpAny_setField_rec hz (by simp) fun g1 hz1 e1=>?_)
 replace hz1:cK g1 z TI TO .ellipsis fl:=hz1
 replace e1:Heap.SameBut z s.heap g1:=e1
 refine wpAny_bind ?_
 simp only [List.zipIdx_cons,List.zipIdx_nil,List.forIn_cons,List.forIn_nil]
 refine wpAny_bind (wpAny_bind (wpAny_onRaise ?_))
 have q1:S1 k g1:=D1.frame _ _ _ h1 fun c hc o q=>e1.extBut c o (fun y=>D.z1 (y ▸ hc)) q
 have q2:S2 k g1:=D2.frame _ _ _ h2 fun c hc o q=>e1.extBut c o (fun y=>D.z2 (y ▸ hc)) q
 rcases hend with hk | ⟨hk,hk2⟩
 ·subst hk
  refine (show wpAny _ _ (Builtin.SmallTypes.nextOf (.ref i1)>>=_) _ _ _ from wpAny_bind (D1.done _ _ _ q1 fun g2 e e2 he=>?_))
  obtain ⟨oe,hoe,hce⟩:=he
  replace e2:Heap.ExtBut i1 g1 g2:=e2
  have hz2:cK g2 z TI TO .ellipsis fl:=e2 _ _ D.i1z.symm hz1
  have hez:e≠z:=fun x=>by subst x;rw [hz2] at hoe;cases hoe;simp at hce
  refine wpAny_setField_rec hz2 (by simp) fun g3 _ e3=>hE g3 e _ (fun c o c1 _ c3 _ q=>e3.extBut _ _ c1 (e2 _ _ c3 (e1.extBut _ _ c1 q))) ⟨oe,e3.extBut _ _ hez hoe,hce⟩
 ·subst hk2
  refine (show wpAny _ _ (Builtin.SmallTypes.nextOf (.ref i1)>>=_) _ _ _ from wpAny_bind (D1.item k _ _ _ hk q1 fun x g2 t2 p1 q1' e2=>wpAny_pure ?_))
  replace e2:Heap.SameBut i1 g1 g2:=e2
  have hTO2:IsPair g2 TO a b:=e2.extBut _ _ D.TOi1 (e1.extBut _ _ D.TOz hTO)
  refine wpAny_bind (wpAny_seqItems hTO2 rfl (wpAny_bind (wpAny_updateSeq_pair hTO2 fun g3 hTO3 e3=>?_)))
  replace e3:Heap.SameBut TO g2 g3:=e3
  refine wpAny_bind (wpAny_letGo (wpAny_pure ?_))
  refine wpAny_bind (wpAny_bind (wpAny_onRaise ?_))
  have r2:S2 k g3:=D2.frame _ _ _ q2 fun c hc o q=>e3.extBut c o (fun y=>D.TO2 (y ▸ hc)) (e2.extBut c o (fun y=>D.i12 (y ▸ hc)) q)
  refine (show wpAny _ _ (Builtin.SmallTypes.nextOf (.ref i2)>>=_) _ _ _ from wpAny_bind (D2.done _ _ _ r2 fun g4 e e4 he=>?_))
  obtain ⟨oe,hoe,hce⟩:=he
  replace e4:Heap.ExtBut i2 g3 g4:=e4
  have hz4:cK g4 z TI TO .ellipsis fl:=e4 _ _ D.i2z.symm (e3.extBut _ _ D.TOz.symm (e2.extBut _ _ D.i1z.symm hz1))
  have hez:e≠z:=fun x=>by subst x;rw [hz4] at hoe;cases hoe;simp at hce
  refine wpAny_setField_rec hz4 (by simp) fun g5 _ e5=>hE g5 e _ (fun c o c1 c2 c3 c4 q=>e5.extBut _ _ c1 (e4 _ _ c4 (e3.extBut _ _ c2 (e2.extBut _ _ c3 (e1.extBut _ _ c1 q))))) ⟨oe,e5.extBut _ _ hez hoe,hce⟩
end
section
variable {prog:Program} {w:World} {A:Around} {E:Value→Shared→Prop} {s:Shared} {z TI TO i1 i2:Addr} {fp1 fp2:List Addr} {n1 n2 k:Nat} {P1 P2:Nat→Value→Prop} {S1 S2:Nat→Heap→Prop} {a b:Value}
theorem nI {Q:Option Value→Shared→Prop} (D:b_ z TI TO i1 i2 fp1 fp2) (D1:Draws prog w A.in1 i1 fp1 n1 P1 S1) (D2:Draws prog w A.in1 i2 fp2 n2 P2 S2) {own:Value} {fl:Bool} (hz:cK s.heap z TI TO own fl) (hfr:i7 s.heap own) (hTI:IsPair s.heap TI (.ref i1) (.ref i2)) (hTO:IsPair s.heap TO a b)
  (h1:S1 k s.heap) (h2:S2 k s.heap) (l1:k < n1) (l2:k < n2)
  (hQ:∀ x y h' tk,P1 k x→P2 k y→IsZip h' z TI TO (rawInt s.heap.objs.size)→IsPair h' TI (.ref i1) (.ref i2)→IsPair h' TO x y→S1 (k+1) h'→S2 (k+1) h'→IsPair h' s.heap.objs.size x y→h'.objs.size=s.heap.objs.size+1 →
   (∀ c o,c≠z→c≠TO→c≠i1→c≠i2→s.heap.get? c=some o→h'.get? c=some o)→Q (some (.ref s.heap.objs.size)) { s with heap:=h',toks:=tk }) :
  wpAny (model prog w) A (pyNext (.ref z)) Q E s:=by
 have hT:s.TypeIs (.ref z) "zip":=⟨_,hz,rfl⟩
 unfold pyNext
 exact wpAny_bind (wpAny_attempt (wpAny_callSpecial?_slot (name:=Str.ofString "__next__") hT F.slot_zip_next (wpAny_call_entry F.slot_zip_next hT F.entry_zip_next
  (uI D D1 D2 hz hfr hTI hTO h1 h2 l1 l2 fun x y h' tk a1 a2 a3 a4 a5 a6 a7 a8 a9 a10=>wpAny_pure (hQ x y h' tk a1 a2 a3 a4 a5 a6 a7 a8 a9 a10)) (F.args_zip_next_1 _))))
theorem qu {Q:Option Value→Shared→Prop} (D:b_ z TI TO i1 i2 fp1 fp2) (D1:Draws prog w A.in1 i1 fp1 n1 P1 S1) (D2:Draws prog w A.in1 i2 fp2 n2 P2 S2) {own:Value} {fl:Bool} (hz:cK s.heap z TI TO own fl) (hfr:i7 s.heap own) (hTI:IsPair s.heap TI (.ref i1) (.ref i2)) (hTO:IsPair s.heap TO a b)
  (h1:S1 k s.heap) (h2:S2 k s.heap) (hend:k=n1∨(k < n1∧k=n2))
  (hQ:∀ h' tk,(∀ c o,c≠z→c≠TO→c≠i1→c≠i2→s.heap.get? c=some o→h'.get? c=some o)→Q none { s with heap:=h',toks:=tk }):wpAny (model prog w) A (pyNext (.ref z)) Q E s:=by
 have hT:s.TypeIs (.ref z) "zip":=⟨_,hz,rfl⟩
 unfold pyNext
 refine wpAny_bind (wpAny_attempt (wpAny_callSpecial?_slot (name:=Str.ofString "__next__") hT F.slot_zip_next (wpAny_call_entry F.slot_zip_next hT F.entry_zip_next
  (xg D D1 D2 hz hfr hTI hTO h1 h2 hend fun h' e tk hk he=>?_) (F.args_zip_next_1 _))))
 obtain ⟨o,ho,hc⟩:=he
 exact wpAny_bind (wpAny_isInstance (T:="StopIteration") (b:=true) ⟨o,ho,hc⟩ isSubtype_stop (wpAny_pure (hQ _ tk hk)))
abbrev zT (h:Heap) (t:Addr):Heap:=h.push { cls:=.type "tuple_iterator",data:=.fields #[.ref t,.int 0 0] }
abbrev zTT (h:Heap) (t u:Addr):Heap:=zT (zT h t) u
abbrev zPI (h:Heap) (t u:Addr):Heap:=(zTT h t u).push { cls:=.type "tuple",data:=.seq #[.ref h.objs.size,.ref (zT h t).objs.size] }
abbrev zPO (h:Heap) (t u:Addr):Heap:=(zPI h t u).push { cls:=.type "tuple",data:=.seq #[.none,.none] }
abbrev ni (h:Heap) (t u:Addr):Heap:=(zPO h t u).push { cls:=.type "zip",data:=.fields #[.none,.bool false,.bool false,.ref (zTT h t u).objs.size,.ref (zPI h t u).objs.size] }
theorem wa (t u:Addr) (xs ys:Array Value):Meets (Builtin.«zip.__new__» ⟨[.type "zip",.ref t,.ref u],[]⟩) (fun _ R s=>s.heap.IsTuple t xs∧s.heap.IsTuple u ys∧R (.ok (.ret (.ref (zPO s.heap t u).objs.size))) { s with heap:=ni s.heap t u }):=
 .of_wp fun prog w A R s h=>by
  obtain ⟨hp,g,d,tk,os⟩:=s
  obtain ⟨ht,hu,h⟩:=h
  have hsub:=sub_zip
  have h1:Heap.IsTuple (Shared.heap ⟨hp,g,d,tk,os⟩) t xs:=ht
  have h2:Heap.IsTuple (Shared.heap ⟨hp.push { cls:=.type "tuple_iterator",data:=.fields #[.ref t,.int 0 0] },g,d,tk,os⟩) u ys:=by
   obtain ⟨o,e,r⟩:=hu
   exact ⟨o,Heap.get?_push_of_some _ e,r⟩
  wp_walk using wpAny_pyIter_tuple h1,wpAny_pyIter_tuple h2
  exact ⟨_,rfl,h⟩
theorem nK {t u:Addr} {xs ys:Array Value} {Q:Value→Shared→Prop} (ht:s.heap.IsTuple t xs) (hu:s.heap.IsTuple u ys)
  (h:∀ h',IsZip h' (s.heap.objs.size+4) (s.heap.objs.size+2) (s.heap.objs.size+3) .none→IsPair h' (s.heap.objs.size+2) (.ref s.heap.objs.size) (.ref (s.heap.objs.size+1))→IsPair h' (s.heap.objs.size+3) .none .none →
   h'.IsTupleIter s.heap.objs.size t 0→h'.IsTupleIter (s.heap.objs.size+1) u 0→(∀ c o,s.heap.get? c=some o→h'.get? c=some o)→Q (.ref (s.heap.objs.size+4)) { s with heap:=h' }) :
  wpAny (model prog w) A (call (.type "zip") [.ref t,.ref u]) Q E s:=by
 refine callType_new F.called_zip (by decide) (F.typeCall_zip_2 _ _) (F.newCall_zip_2 _ _) (fun obj=>F.args_object_init_3 obj _ _) F.entry_zip_new (wa t u xs ys) ⟨ht,hu,?_⟩
 have s1:(zT s.heap t).objs.size=s.heap.objs.size+1:=Heap.size_push ..
 have s2:(zTT s.heap t u).objs.size=s.heap.objs.size+2:=by rw [Heap.size_push,s1]
 have s3:(zPI s.heap t u).objs.size=s.heap.objs.size+3:=by rw [Heap.size_push,s2]
 have s4:(zPO s.heap t u).objs.size=s.heap.objs.size+4:=by rw [Heap.size_push,s3]
 have g5:(ni s.heap t u).get? (zPO s.heap t u).objs.size=some _:=Heap.get?_push_size _ rfl
 have g4:(ni s.heap t u).get? (zPI s.heap t u).objs.size=some _:=Heap.get?_push_of_some _ (Heap.get?_push_size _ rfl)
 have g3:(ni s.heap t u).get? (zTT s.heap t u).objs.size=some _:=Heap.get?_push_of_some _ (Heap.get?_push_of_some _ (Heap.get?_push_size _ rfl))
 have g2:(ni s.heap t u).get? (zT s.heap t).objs.size=some _:=Heap.get?_push_of_some _ (Heap.get?_push_of_some _ (Heap.get?_push_of_some _ (Heap.get?_push_size _ rfl)))
 have g1:(ni s.heap t u).get? s.heap.objs.size=some _:=Heap.get?_push_of_some _ (Heap.get?_push_of_some _ (Heap.get?_push_of_some _ (Heap.get?_push_of_some _ (Heap.get?_push_size _ rfl))))
 show _∧_
 rw [s2,s3,s4] at g5
 rw [s1,s2] at g3
 rw [s3] at g4
 rw [s1] at g2
 rw [s4]
 exact ⟨⟨_,g5,rfl⟩,h _ g5 g3 g4 ⟨_,g1,rfl,rfl⟩ ⟨_,g2,rfl,rfl⟩ fun c o q=>Heap.get?_push_of_some _ (Heap.get?_push_of_some _ (Heap.get?_push_of_some _ (Heap.get?_push_of_some _ (Heap.get?_push_of_some _ q))))⟩
end
def Itz (t u:Addr):It:=
  ⟨fun i H=>∃ xs ys x y,H t=some (.tup xs)∧H u=some (.tup ys)∧xs[i]?=some x∧ys[i]?=some y,fun i H v H'=>∃ p x y,H p=none∧v=.ref p∧H'=upd H p (.tup [x,y])∧(∀ xs,H t=some (.tup xs)→xs[i]?=some x)∧∀ ys,H u=some (.tup ys)→ys[i]?=some y,
   fun i H=>∃ xs ys,H t=some (.tup xs)∧H u=some (.tup ys)∧i≤xs.length∧i≤ys.length∧(i=xs.length∨i=ys.length)⟩
theorem iV {N t u:Addr} (ht:∀ c∈[N+4,N+2,N+3,N,N+1],t≠c) (hu:∀ c∈[N+4,N+2,N+3,N,N+1],u≠c):b_ (N+4) (N+2) (N+3) N (N+1) [N,t] [N+1,u]:=by
 have d:∀ i j:Nat,i≠j→(N+i:Nat)≠N+j:=fun i j h e=>h (Nat.add_left_cancel e)
 have t4:=ht (N+4) (by simp);have t3:=ht (N+3) (by simp);have t1:=ht (N+1) (by simp)
 have u4:=hu (N+4) (by simp);have u3:=hu (N+3) (by simp);have u0:=hu N (by simp)
 refine ⟨d 2 4 (by decide),d 3 4 (by decide),d 2 3 (by decide),fun h=>?_,fun h=>?_,fun h=>?_,fun h=>?_,fun h=>?_,fun h=>?_,by simp,by simp,d 2 0 (by decide),d 2 1 (by decide)⟩
 ·rcases List.mem_cons.mp h with z | z
  ·exact d 4 0 (by decide) z
  ·exact t4 (List.mem_singleton.mp z).symm
 ·rcases List.mem_cons.mp h with z | z
  ·exact d 4 1 (by decide) z
  ·exact u4 (List.mem_singleton.mp z).symm
 ·rcases List.mem_cons.mp h with z | z
  ·exact d 3 0 (by decide) z
  ·exact t3 (List.mem_singleton.mp z).symm
 ·rcases List.mem_cons.mp h with z | z
  ·exact d 3 1 (by decide) z
  ·exact u3 (List.mem_singleton.mp z).symm
 ·rcases List.mem_cons.mp h with z | z
  ·exact d 0 1 (by decide) z
  ·exact u0 (List.mem_singleton.mp z).symm
 ·rcases List.mem_cons.mp h with z | z
  ·exact d 1 0 (by decide) z
  ·exact t1 (List.mem_singleton.mp z).symm
section
variable {prog:Program} {w:World} {A:Around} {E:Value→Shared→Prop} {s:Shared}
theorem w8 {t sl:Addr} {items:Array Value} {vl vu:Value} {lo hi:Option Int} {Q:Value→Shared→Prop} (ht:IsTup s.heap t items) (hs:s.heap.IsSliceOf sl vl vu .none) (pl:IsPart vl lo) (pu:IsPart vu hi)
    (hw:HT.sIx items.size 0 lo=0∧HT.sIx items.size items.size hi=items.size) (h:Q (.ref t) s):wpAny (model prog w) A (getItem (.ref t) (.ref sl)) Q E s:=by
  obtain ⟨os,hos,hcs,hds⟩:=id hs
  have hTs:s.TypeIs (.ref sl) "slice":=⟨os,hos,hcs⟩
  unfold getItem
  try with_reducible refine wpAny_holding ?_
  first | refine wpAny_bind (wpAny_pure ?_) | skip
  refine wpAny_bind (wpAny_sequenceKey ht.typeIs (by decide) ?_)
  refine wpAny_bind (wpAny_callSpecial?_slot (name:=Str.ofString "__getitem__") ht.typeIs PyProof.Rows.slot_tuple_getitem (wpAny_call_entry PyProof.Rows.slot_tuple_getitem ht.typeIs entry_tuple_getitem ?_ (args_tuple_getitem _ _)))
  refine (show wpAny _ _ (Builtin.Tuple.tupleItemsOf (.ref t)>>=_) _ _ s from wpAny_bind (tupleItemsOf_ ht (wpAny_bind (wpAny_typeOf hTs ?_))))
  rw [if_pos (by decide)]
  refine wpAny_bind (HT.gI hs pl pu ?_)
  have yes:(((HT.sIx items.size 0 lo:Nat):Int) == 0 && (1:Int) == 1 && (HT.sIx items.size items.size hi - HT.sIx items.size 0 lo) == items.size)=true:=by
    rw [hw.1,hw.2];simp
  show wpAny _ _ (if (((HT.sIx items.size 0 lo:Nat):Int) == 0 && (1:Int) == 1 && (HT.sIx items.size items.size hi - HT.sIx items.size 0 lo) == items.size)=true then _ else _) _ _ s
  rw [if_pos yes]
  obtain ⟨o,ho,hcl,n,hd⟩:=id ht
  have hT:s.TypeIs (.ref t) "tuple":=⟨o,ho,hcl⟩
  have hx:wpAny (model prog w) A.in1 (Builtin.Tuple.tupleIsExact (.ref t)) (fun b s'=>b=true∧s'=s) E s:=by
    unfold Builtin.Tuple.tupleIsExact
    first
      | exact wpAny_bind (wpAny_typeOf hT (wpAny_pure ⟨by decide,rfl⟩))
      | (refine wpAny_bind (wpAny_typeOf hT ?_);exact wpAny_pure ⟨by simp,rfl⟩)
  refine wpAny_bind (wpAny_mono hx (fun b s' hb=>?_) fun _ _ x=>x)
  obtain ⟨rfl,rfl⟩:=hb
  rw [if_pos rfl]
  exact wpAny_bind (wpAny_rule (wpAny_pure ⟨_,rfl,wpAny_pure h⟩))
theorem sV {sl:Addr} {tk:Tok} {n:Nat} {Q:Int×Int×Nat→Shared→Prop} (hs:s.heap.IsSliceOf sl .none .none (.int (-1) tk)) (h:Q ((n:Int) - 1,-1,n) s):wpAny (model prog w) A (Builtin.Slice.sliceApplied (.ref sl) (pure (n:Int))) Q E s:=by
 obtain ⟨os,hos,hcs,hds⟩:=id hs
 unfold Builtin.Slice.sliceApplied Builtin.Slice.sliceFields
 refine wpAny_bind (wpAny_bind (wpAny_field hos hds (x:=.none) rfl (wpAny_bind (wpAny_field hos hds (x:=.none) rfl (wpAny_bind (wpAny_field hos hds (x:=.int (-1) tk) rfl (wpAny_pure ?_)))))))
 refine wpAny_bind (slicePart_int ?_)
 show wpAny _ _ (if ((-1:Int) == 0)=true then _ else _) _ _ s
 rw [if_neg (by decide)]
 refine wpAny_bind (slicePart_none (wpAny_bind (slicePart_none (wpAny_bind (wpAny_pure ?_)))))
 show wpAny _ _ (pure ((n:Int) - 1,(-1:Int),Builtin.Slice.slicePlaces ((n:Int) - 1) (-1) (-1))) _ _ s
 have e:Builtin.Slice.slicePlaces ((n:Int) - 1) (-1) (-1)=n:=by
  unfold Builtin.Slice.slicePlaces
  have h1:¬((-1:Int) > 0):=by decide
  simp only [h1,if_false]
  have h2:(-(-1:Int))=1:=by decide
  rw [h2,Int.ediv_one]
  split<;>omega
 rw [e]
 exact wpAny_pure h
theorem z7 (xs:List Value):((List.range xs.length).filterMap fun (m:Nat)=>xs.toArray[(((xs.length:Nat):Int) - 1+(m:Int) * (-1)).toNat]?)=xs.reverse:=by
 apply List.ext_getElem?
 intro i
 have key:∀ (k:Nat),k≤xs.length→((List.range k).filterMap fun (m:Nat)=>xs.toArray[(((xs.length:Nat):Int) - 1+(m:Int) * (-1)).toNat]?)=xs.reverse.take k:=by
  intro k
  induction k with
  | zero=>intro _;simp
  | succ k ih=>
   intro hk
   have e:(((xs.length:Nat):Int) - 1+(k:Int) * (-1)).toNat=xs.length - 1 - k:=by omega
   rw [List.range_succ,List.filterMap_append,ih (by omega),List.take_add_one]
   congr 1
   simp only [List.filterMap_cons,List.filterMap_nil,e]
   rw [List.getElem?_reverse (by omega)]
   have h2:xs.length - 1 - k < xs.length:=by omega
   simp [h2]
 rw [key xs.length (Nat.le_refl _),List.take_of_length_le (by simp)]
theorem wx {t sl:Addr} {its:List Value} {tk:Tok} {Q:Value→Shared→Prop} (ht:IsTup s.heap t its.toArray) (hs:s.heap.IsSliceOf sl .none .none (.int (-1) tk)) (hsz:its.length≤sizeLine)
    (h:Q (.ref s.heap.objs.size) { s with heap:=s.heap.push { cls:=.type "tuple",data:=.seq its.reverse.toArray } }):wpAny (model prog w) A (getItem (.ref t) (.ref sl)) Q E s:=by
  obtain ⟨os,hos,hcs,hds⟩:=id hs
  have hTs:s.TypeIs (.ref sl) "slice":=⟨os,hos,hcs⟩
  unfold getItem
  try with_reducible refine wpAny_holding ?_
  first | refine wpAny_bind (wpAny_pure ?_) | skip
  refine wpAny_bind (wpAny_sequenceKey ht.typeIs (by decide) ?_)
  refine wpAny_bind (wpAny_callSpecial?_slot (name:=Str.ofString "__getitem__") ht.typeIs PyProof.Rows.slot_tuple_getitem (wpAny_call_entry PyProof.Rows.slot_tuple_getitem ht.typeIs entry_tuple_getitem ?_ (args_tuple_getitem _ _)))
  refine (show wpAny _ _ (Builtin.Tuple.tupleItemsOf (.ref t)>>=_) _ _ s from wpAny_bind (tupleItemsOf_ ht (wpAny_bind (wpAny_typeOf hTs ?_))))
  rw [if_pos (by decide)]
  refine wpAny_bind (sV hs ?_)
  have no:¬(((((its.toArray.size:Nat):Int) - 1 == 0) && ((-1:Int) == 1) && (its.toArray.size == its.toArray.size))=true):=by
    intro q
    rw [Bool.and_eq_true,Bool.and_eq_true] at q
    exact absurd q.1.2 (by decide)
  show wpAny _ _ (if ((((its.toArray.size:Nat):Int) - 1 == 0) && ((-1:Int) == 1) && (its.toArray.size == its.toArray.size))=true then _ else _) _ _ s
  rw [if_neg no]
  have z:its.toArray.size=its.length:=List.size_toArray ..
  rw [z]
  rw [z7]
  have htake:sizeOk (.seq its.reverse.toArray):=by
    show its.reverse.toArray.size≤sizeLine
    rw [List.size_toArray,List.length_reverse];exact hsz
  first
    | exact wpAny_bind (m:=Builtin.Tuple.tupleExact _) (wpAny_newObj_type (wpAny_pure ⟨_,rfl,wpAny_pure h⟩) htake)
    | exact wpAny_bind (m:=Builtin.Tuple.tupleExact _) (wpAny_newObj_type (wpAny_bind (wpAny_pure (wpAny_pure ⟨_,rfl,wpAny_pure h⟩))) htake)
    | exact wpAny_bind (wpAny_bind (m:=Builtin.Tuple.tupleExact _) (wpAny_newObj_type (wpAny_pure (wpAny_pure ⟨_,rfl,wpAny_pure h⟩)) htake))
    | exact wpAny_bind (wpAny_bind (m:=Builtin.Tuple.tupleExact _) (wpAny_newObj_type (wpAny_pure ⟨_,rfl,wpAny_pure h⟩) htake))
theorem A9 {t b:Addr} {ws:List Value} {Q:Value→Shared→Prop} (ht:IsTup s.heap t ([]:List Value).toArray) (hb:IsTup s.heap b ws.toArray) (h:Q (.ref b) s):wpAny (model prog w) A (binaryOp .Add (.ref t) (.ref b)) Q E s:=by
 obtain ⟨⟨cls,dd,data,sl⟩,ho,hc,n,hd⟩:=id ht
 obtain ⟨⟨cls2,dd2,data2,sl2⟩,ho2,hc2,n2,hd2⟩:=id hb
 simp only at hc hd hc2 hd2
 subst hc hd hc2 hd2
 exact concat_meets ⟨_,ho,rfl⟩ ⟨_,ho2,rfl⟩ noFill_tuple_add seq_tuple_add PySem.F.slot_tuple_add PySem.F.entry_tuple_add (PySem.F.args_tuple_add_2 _ _) (tuple_addW0 t b _ _ n n2 dd dd2 sl sl2 (by simp)) ⟨ho,ho2,h⟩
end
section
variable {X:Cx}
def h8 (n:Nat) (lo hi:Option Int):Prop:=HT.sIx n 0 lo=0∧HT.sIx n n hi=n
instance (n:Nat) (lo hi:Option Int):Decidable (h8 n lo hi):=inferInstanceAs (Decidable (_∧_))
def EC (K:PySem.W.Frag):V→Option Int→Option Int→Hp→VK→Prop:=fun x lo hi H Q=>∃ a xs,x=.ref a∧SqT K H a xs∧(h8 xs.length lo hi→Q (.ref a) H)∧(¬h8 xs.length lo hi→∀ p,H p=none→Q (.ref p) (upd H p (.tup (gU xs lo hi))))
theorem As:SlR X (EC X.K):=by
 intro pins s σ H x v vl vu lo hi sl Q I rx hs pl pu h
 obtain ⟨a,xs,rfl,hx,q1,q2⟩:=h
 by_cases hw:h8 xs.length lo hi
 ·cases rx
  obtain ⟨its,r,ht,hz⟩:=I.tuple hx
  have hlen:its.toArray.size=xs.length:=by rw [List.size_toArray];exact r.length.symm
  refine ⟨"tuple",_,PyProof.Rows.slot_tuple_getitem.lookup,ht.typeIs,?_⟩
  exact w8 ht hs pl pu (by rw [hlen];exact hw) ⟨.ref a,H,I,rfl,q1 hw⟩
 ·exact C8 pins s σ H (.ref a) v vl vu lo hi sl Q I rx hs pl pu ⟨a,xs,rfl,hx,hw,q2 hw⟩
def Bu (K:PySem.W.Frag):R2:=fun x y H Q=>∃ a b xs ys,x=.ref a∧y=.ref b∧SqT K H a xs∧SqT K H b ys∧xs.length+ys.length≤sizeLine ∧
 (xs=[]→Q (.ref b) H)∧(xs≠[]→ys=[]→Q (.ref a) H)∧(xs≠[]→ys≠[]→∀ p,H p=none→Q (.ref p) (upd H p (.tup (xs++ys))))
theorem wy:OpR X (binaryOp .Add) (Bu X.K):=by
 intro pins s σ H x y v u Q I rx ry h
 obtain ⟨a,b,xs,ys,rfl,rfl,ha,hb,hz,q1,q2,q3⟩:=h
 by_cases hx:xs=[]
 ·cases rx
  cases ry
  obtain ⟨its,r1,p1,_⟩:=I.tuple ha
  obtain ⟨its2,r2,p2,_⟩:=I.tuple hb
  obtain rfl:its=[]:=r1.kR.mpr hx
  exact A9 p1 p2 ⟨.ref b,H,I,rfl,q1 hx⟩
 ·exact Ao pins s σ H (.ref a) (.ref b) v u Q I rx ry ⟨a,b,xs,ys,rfl,rfl,ha,hb,hx,hz,q2 hx,q3 hx⟩
def wD:R2:=fun x y H Q=>∃ d e,Rep H x d∧Rep H y e∧D.depth d≤50∧((∃ ds es,d=.tup ds∧e=.tup es)∨∃ ds es,d=.lst ds∧e=.lst es)∧Q (.bl (D.eqv d e)) H
def xR:R2:=fun x y H Q=>∃ d e,Rep H x d∧Rep H y e∧D.depth d≤50∧((∃ ds es,d=.tup ds∧e=.tup es)∨∃ ds es,d=.lst ds∧e=.lst es)∧Q (.bl (!D.eqv d e)) H
theorem jh {pins:List (Addr×Obj)} {σ:St} {H:Hp} {s:Shared} {A:Around} {vs us:List V} {ds es:List D} {its its2:List Value} (I:Inv X pins σ H s) (hu:A.units+64 < cLine) (hd:D.cC ds≤50) (r1:Vals vs its) (r2:Vals us its2) (q1:ax H vs ds) (q2:ax H us es) :
  ∀ j (h1:j < its.toArray.size) (h2:j < its2.toArray.size),SeqAt.EqAt A.in1 s its.toArray[j] its2.toArray[j] (D.eqv (ds.getD j .non) (es.getD j .non)):=by
 intro j h1 h2
 have h1':j < its.length:=by simpa using h1
 have h2':j < its2.length:=by simpa using h2
 have l1:=r1.length
 have l2:=r2.length
 have e1:vs[j]?=some (vs[j]'(by omega)):=List.getElem?_eq_getElem _
 have e2:us[j]?=some (us[j]'(by omega)):=List.getElem?_eq_getElem _
 obtain ⟨a1,b1,c1⟩:=r1.get e1
 obtain ⟨a2,b2,c2⟩:=r2.get e2
 obtain ⟨f1,g1,k1⟩:=q1.get e1
 obtain ⟨f2,g2,k2⟩:=q2.get e2
 have z1:its.toArray[j]=a1:=by
  have:its[j]?=some its[j]:=List.getElem?_eq_getElem h1'
  rw [b1] at this
  simpa using (Option.some.inj this).symm
 have z2:its2.toArray[j]=a2:=by
  have:its2[j]?=some its2[j]:=List.getElem?_eq_getElem h2'
  rw [b2] at this
  simpa using (Option.some.inj this).symm
 rw [z1,z2,List.getD_eq_getElem?_getD,List.getD_eq_getElem?_getD,g1,g2]
 exact vM I 60 A.in1 _ _ _ _ _ _ (by show A.units+1+60 < cLine;omega) (Nat.le_trans (D.gA g1) (by omega)) c1 c2 k1 k2
theorem CN (hu:X.A.units+64 < cLine):OpR X (compareOp .Eq) wD:=by
 intro pins s σ H x y v u Q I rx ry h
 obtain ⟨d,e,r1,r2,hd,hk,q⟩:=h
 rcases hk with ⟨ds,es,rfl,rfl⟩ | ⟨ds,es,rfl,rfl⟩
 ·cases r1 with
  | tup h1 q1=>
   cases r2 with
   | tup h2 q2=>
    cases rx;cases ry
    obtain ⟨its,rv1,p1,_⟩:=I.tuple (SqT.of h1)
    obtain ⟨its2,rv2,p2,_⟩:=I.tuple (SqT.of h2)
    refine SeqAt.eq_tupleAt (e:=fun j=>D.eqv (ds.getD j .non) (es.getD j .non)) p1 p2 (by omega) (jh I hu (by simp only [D.depth] at hd;omega) rv1 rv2 q1 q2) ⟨.bl _,H,I,rfl,?_⟩
    rw [List.size_toArray,List.size_toArray,← rv1.length,← rv2.length,q1.length,q2.length,← D.ck]
    simpa only [D.eqv] using q
 ·cases r1 with
  | lst h1 q1=>
   cases r2 with
   | lst h2 q2=>
    cases rx;cases ry
    obtain ⟨its,rv1,p1,_⟩:=I.list (SqL.of h1)
    obtain ⟨its2,rv2,p2,_⟩:=I.list (SqL.of h2)
    have l1:=rv1.length
    have l2:=rv2.length
    have m1:=q1.length
    have m2:=q2.length
    by_cases hl:ds.length=es.length
    ·refine SeqAt.eq_listAt (e:=fun j=>D.eqv (ds.getD j .non) (es.getD j .non)) p1.isList p2.isList (by simp;omega) (by omega) (jh I hu (by simp only [D.depth] at hd;omega) rv1 rv2 q1 q2) ⟨.bl _,H,I,rfl,?_⟩
     have z:D.bR ds es=(List.range its.toArray.size).all fun j=>D.eqv (ds.getD j .non) (es.getD j .non):=by
      rw [D.ck,← hl,Nat.min_self,List.size_toArray,← l1,m1];simp
     rw [← z]
     simpa only [D.eqv] using q
    ·refine SeqAt.eq_list_lengthsAt p1.isList p2.isList (by simp;omega) (by omega) ⟨.bl _,H,I,rfl,?_⟩
     have z:D.bR ds es=false:=by rw [D.ck];simp [hl]
     simpa only [D.eqv,z] using q
theorem BF (hu:X.A.units+64 < cLine):OpR X (compareOp .NotEq) xR:=by
 intro pins s σ H x y v u Q I rx ry h
 obtain ⟨d,e,r1,r2,hd,hk,q⟩:=h
 rcases hk with ⟨ds,es,rfl,rfl⟩ | ⟨ds,es,rfl,rfl⟩
 ·cases r1 with
  | tup h1 q1=>
   cases r2 with
   | tup h2 q2=>
    cases rx;cases ry
    obtain ⟨its,rv1,p1,_⟩:=I.tuple (SqT.of h1)
    obtain ⟨its2,rv2,p2,_⟩:=I.tuple (SqT.of h2)
    refine SeqAt.RcNeAt.tuples (e:=fun j=>D.eqv (ds.getD j .non) (es.getD j .non)) p1 p2 (by omega) (jh I hu (by simp only [D.depth] at hd;omega) rv1 rv2 q1 q2) _ _ _ _ ⟨.bl _,H,I,rfl,?_⟩
    rw [List.size_toArray,List.size_toArray,← rv1.length,← rv2.length,q1.length,q2.length,← D.ck]
    simpa only [D.eqv] using q
 ·cases r1 with
  | lst h1 q1=>
   cases r2 with
   | lst h2 q2=>
    cases rx;cases ry
    obtain ⟨its,rv1,p1,_⟩:=I.list (SqL.of h1)
    obtain ⟨its2,rv2,p2,_⟩:=I.list (SqL.of h2)
    have l1:=rv1.length
    have l2:=rv2.length
    have m1:=q1.length
    have m2:=q2.length
    by_cases hl:ds.length=es.length
    ·refine SeqAt.RcNeAt.lists (e:=fun j=>D.eqv (ds.getD j .non) (es.getD j .non)) p1.isList p2.isList (by simp;omega) (by omega) (jh I hu (by simp only [D.depth] at hd;omega) rv1 rv2 q1 q2) _ _ _ _ ⟨.bl _,H,I,rfl,?_⟩
     have z:D.bR ds es=(List.range its.toArray.size).all fun j=>D.eqv (ds.getD j .non) (es.getD j .non):=by
      rw [D.ck,← hl,Nat.min_self,List.size_toArray,← l1,m1];simp
     rw [← z]
     simpa only [D.eqv] using q
    ·refine SeqAt.RcNeAt.lists_lengths p1.isList p2.isList (by simp;omega) (by omega) _ _ _ _ ⟨.bl _,H,I,rfl,?_⟩
     have z:D.bR ds es=false:=by rw [D.ck];simp [hl]
     simpa only [D.eqv,z,Bool.not_false] using q
theorem AS (hu:X.A.units+64 < cLine):OpR X (compareOp .Eq) (fun x y H Q=>rEq x y H Q∨wD x y H Q):=ET.or (CN hu)
theorem Ce (hu:X.A.units+64 < cLine):OpR X (compareOp .NotEq) (fun x y H Q=>rNe x y H Q∨xR x y H Q):=Ei.or (BF hu)
theorem C2:OpR X (compareOp .Is) (fun x y H Q=>xQ x y H Q∨(y=.non∧Q (.bl (decide (x=.non))) H)):=v5.or Dr
theorem xI:OpR X (compareOp .IsNot) (fun x y H Q=>qH x y H Q∨(y=.non∧Q (.bl (!decide (x=.non))) H)):=ub.or yX
theorem sC:∀ {bs:List Bool} {us:List Value},Vals (bs.map V.bl) us→us=bs.map Value.bool
 | [],_,h=>by cases h;rfl
 | b :: bs,_,h=>by
  cases h with
  | cons r t=>cases r;rw [sC t];rfl
theorem u_ (hc:X.calm=true):cx X (.builtin "all") (fun xs H Q=>∃ (p:Addr) (bs:List Bool),xs=[.ref p]∧SqL X.K H p (bs.map V.bl)∧Q (.bl (bs.all id)) H):=by
 intro pins s σ H xs us Q I r h
 obtain ⟨p,bs,rfl,hq,q⟩:=h
 obtain ⟨u,rfl,rx⟩:=vals1 r
 cases rx
 obtain ⟨its,rv,pl,hz⟩:=I.list hq
 have hits:=sC rv
 subst hits
 have hA:X.A.in1.handled=none:=I.ok.hd hc
 obtain ⟨o,ho,hcl,n,hd⟩:=pl.isList
 have hne:p≠s.heap.objs.size:=Nat.ne_of_lt (Heap.lt_size ho)
 refine call_all_walk (wpAny_pyIter_list pl.isList ?_)
 refine ⟨s.heap.objs.size,_,_,_,_,_,fun i=>bs.getD i true,rfl,Walks.list (prog:=X.prog) (w:=X.w) hA s.heap.objs.size p hne (bs.map Value.bool).toArray,⟨⟨_,Heap.get?_push_size _ rfl,rfl,rfl⟩,⟨o,Heap.get?_push_of_some _ ho,hcl,n,hd⟩⟩,?_,fun h' tk hk=>?_⟩
 ·intro i v s' Q' E' hP hQ
  have hP':(bs.map Value.bool).toArray[i]?=some v:=hP
  rw [List.getElem?_toArray,List.getElem?_map] at hP'
  cases e:bs[i]? with
  | none=>rw [e] at hP';cases hP'
  | some b=>
   rw [e] at hP'
   cases hP'
   have hQ:Q' (bs.getD i true) s':=hQ
   rw [List.getD_eq_getElem?_getD,e] at hQ
   exact wpAny_truthy_bool hQ
 ·have z:(List.range (bs.map Value.bool).toArray.size).all (fun i=>bs.getD i true)=bs.all id:=by
   rw [List.size_toArray,List.length_map,Bool.eq_iff_iff,List.all_eq_true,List.all_eq_true]
   constructor
   ·intro h b hb
    obtain ⟨i,hi,e⟩:=List.mem_iff_getElem.mp hb
    have:=h i (List.mem_range.mpr hi)
    rw [List.getD_eq_getElem?_getD,List.getElem?_eq_getElem hi] at this
    simpa [e] using this
   ·intro h i hi
    have hi':=List.mem_range.mp hi
    rw [List.getD_eq_getElem?_getD,List.getElem?_eq_getElem hi']
    exact h _ (List.getElem_mem hi')
  rw [z]
  have I1:Inv X pins σ H { s with heap:=s.heap.push { cls:=.type "list_iterator",data:=.fields #[.ref p,.int 0 0] } }:=I.kept (t':=s.toks) fun b o e=>Heap.get?_push_of_some _ e
  have fk:fE X pins H s.heap.objs.size:=I.jS (Nat.le_refl _) (I.hok.fresh (Nat.le_refl _))
  obtain ⟨f0,f1,f2,f3,f4,f5⟩:=fk
  exact ⟨.bl _,H,I1.turned (t':=tk) (it:=s.heap.objs.size) (fun b o hb e=>hk b o (fun z=>hb (List.mem_singleton.mp z)) e) f0 f1 f3 f4 f5,rfl,q⟩
theorem pj:cx X (.builtin "sorted") (fun xs H Q=>∃ (p:Addr) (ns:List Int),xs=[.ref p]∧SqL X.K H p (ns.map V.int)∧ns.length < 64∧∀ (l:Addr) (ms:List Int),H l=none→List.Perm ms ns→ms.Pairwise (·≤·)→Q (.ref l) (upd H l (.lst (ms.map V.int)))):=by
 intro pins s σ H xs us Q I r h
 obtain ⟨p,ns,rfl,hq,hl,q⟩:=h
 obtain ⟨u,rfl,rx⟩:=vals1 r
 cases rx
 obtain ⟨its,rv,pl,hz⟩:=I.list hq
 have hI:IntsAre its ns:=intsAre_of rv
 have h64:its.length < 64:=by rw [← rv.length,List.length_map];exact hl
 refine sorted_ints pl.isList hI h64 fun out ms hout hperm hpair=>?_
 obtain ⟨e,he⟩:=sortedAll_at s.heap its out
 refine ⟨.ref (s.heap.objs.size+1),_,I.laid (t':=s.toks) (o:=.lst (ms.map V.int)) (fun b ob q=>sortedAll_old q) (Nat.le_succ _) ?_,rfl,q _ ms (I.hok.fresh (Nat.le_succ _)) hperm hpair⟩
 have hlm:ms.length=ns.length:=hperm.length_eq
 exact ⟨by rw [List.length_map];have:(64:Nat)≤sizeLine:=(by decide);omega,out.toList,e,ij hout,by simpa using he⟩
end
def hZ (H:Hp) (p:Addr):Option (List V):=match H p with
 | some (.lst xs)=>some xs
 | some (.tup xs)=>some xs
 | _=>none
theorem Dg {H:Hp} {p:Addr} {xs:List V} (h:H p=some (.tup xs)):hZ H p=some xs:=by unfold hZ;rw [h]
theorem AG {H:Hp} {p:Addr} {xs:List V} (h:H p=some (.lst xs)):hZ H p=some xs:=by unfold hZ;rw [h]
theorem iP {H:Hp} {p:Addr} {xs:List V} (h:hZ H p=some xs):H p=some (.lst xs)∨H p=some (.tup xs):=by
 unfold hZ at h
 split at h
 ·cases h;exact .inl ‹_›
 ·cases h;exact .inr ‹_›
 ·cases h
section
variable {X:Cx}
def Cv:R2:=fun x y H Q=>∃ p i xs v,x=.ref p∧y=.int i∧hZ H p=some xs∧atI xs i=some v∧Q v H
theorem Fw:IxR X Cv:=by
 intro value slice pins s σ H x y v u Q I rx ry q hs
 obtain ⟨p,i,xs,w',rfl,rfl,h,e,q⟩:=q
 rcases iP h with h | h
 ·exact zf value slice pins s σ H _ _ v u Q I rx ry ⟨p,xs,i,w',rfl,rfl,SqL.of h,e,q⟩ hs
 ·exact Bq value slice pins s σ H _ _ v u Q I rx ry ⟨p,xs,i,w',rfl,rfl,SqT.of h,e,q⟩ hs
def yL:List V→Hp→VK→Prop:=fun vs H Q=>∃ p xs,vs=[.ref p]∧hZ H p=some xs∧Q (.int xs.length) H
theorem aR:cx X (.builtin "len") yL:=by
 intro pins s σ H vs us Q I r h
 obtain ⟨p,xs,rfl,h,q⟩:=h
 rcases iP h with h | h
 ·exact ph pins s σ H _ us Q I r ⟨_,_,rfl,.inl ⟨xs,SqL.of h,rfl⟩,q⟩
 ·exact ph pins s σ H _ us Q I r ⟨_,_,rfl,.inr ⟨xs,SqT.of h,rfl⟩,q⟩
def vf:List V→Hp→VK→Prop:=fun vs H Q=>∃ p xs,vs=[.ref p]∧hZ H p=some xs∧∀ l,H l=none→Q (.ref l) (upd H l (.lst xs))
theorem mw:cx X (.type "list") vf:=by
 intro pins s σ H vs us Q I r h
 obtain ⟨p,xs,rfl,h,q⟩:=h
 rcases iP h with h | h
 ·exact km pins s σ H _ us Q I r ⟨p,xs,rfl,.inl (SqL.of h),q⟩
 ·exact km pins s σ H _ us Q I r ⟨p,xs,rfl,.inr (SqT.of h),q⟩
def su:List V→Hp→VK→Prop:=fun vs H Q=>∃ p,vs=[.ref p]∧((∃ xs,H p=some (.lst xs)∧∀ l,H l=none→Q (.ref l) (upd H l (.tup xs)))∨∃ xs,H p=some (.tup xs)∧Q (.ref p) H)
theorem cg:cx X (.type "tuple") su:=by
 intro pins s σ H vs us Q I r h
 obtain ⟨p,rfl,⟨xs,h,q⟩ | ⟨xs,h,q⟩⟩:=h
 ·exact jx pins s σ H _ us Q I r ⟨p,xs,rfl,.inl ⟨SqL.of h,q⟩⟩
 ·exact jx pins s σ H _ us Q I r ⟨p,xs,rfl,.inr ⟨SqT.of h,q⟩⟩
def FE:V→Option Int→Option Int→Hp→VK→Prop:=fun x lo hi H Q=>∃ p,x=.ref p∧((∃ xs,H p=some (.tup xs)∧(h8 xs.length lo hi→Q (.ref p) H)∧(¬h8 xs.length lo hi→∀ l,H l=none→Q (.ref l) (upd H l (.tup (gU xs lo hi))))) ∨
 ∃ xs,H p=some (.lst xs)∧∀ l,H l=none→Q (.ref l) (upd H l (.lst (gU xs lo hi))))
theorem FK:SlR X FE:=by
 intro pins s σ H x v vl vu lo hi sl Q I rx hs pl pu h
 obtain ⟨p,rfl,⟨xs,h,q1,q2⟩ | ⟨xs,h,q⟩⟩:=h
 ·exact As pins s σ H _ v vl vu lo hi sl Q I rx hs pl pu ⟨p,xs,rfl,SqT.of h,q1,q2⟩
 ·exact r_ pins s σ H _ v vl vu lo hi sl Q I rx hs pl pu ⟨p,xs,rfl,SqL.of h,q⟩
def xq (neg:Bool):R2:=fun x y H Q=>∃ p xs,y=.ref p∧hZ H p=some xs∧ee x=true∧xs.all ee=true∧Q (.bl (if neg then !inV x xs else inV x xs)) H
theorem CA:OpR X (compareOp .In) (xq false):=by
 intro pins s σ H x y v u Q I rx ry h
 obtain ⟨p,xs,rfl,h,f1,f2,q⟩:=h
 rcases iP h with h | h
 ·exact n5 pins s σ H _ _ v u Q I rx ry ⟨p,xs,rfl,.inl (SqL.of h),f1,f2,q⟩
 ·exact n5 pins s σ H _ _ v u Q I rx ry ⟨p,xs,rfl,.inr (SqT.of h),f1,f2,q⟩
theorem ui:OpR X (compareOp .NotIn) (xq true):=by
 intro pins s σ H x y v u Q I rx ry h
 obtain ⟨p,xs,rfl,h,f1,f2,q⟩:=h
 rcases iP h with h | h
 ·exact j_ pins s σ H _ _ v u Q I rx ry ⟨p,xs,rfl,.inl (SqL.of h),f1,f2,q⟩
 ·exact j_ pins s σ H _ _ v u Q I rx ry ⟨p,xs,rfl,.inr (SqT.of h),f1,f2,q⟩
def yF:R2:=fun x y H Q=>(∃ i j,x=.int i∧y=.int j∧Q (.int (i+j)) H)∨∃ a b,x=.ref a∧y=.ref b ∧
  ((∃ xs ys,H a=some (.tup xs)∧H b=some (.tup ys)∧xs.length+ys.length≤sizeLine∧(xs=[]→Q (.ref b) H)∧(xs≠[]→ys=[]→Q (.ref a) H)∧(xs≠[]→ys≠[]→∀ p,H p=none→Q (.ref p) (upd H p (.tup (xs++ys))))) ∨
   ∃ xs ys,H a=some (.lst xs)∧H b=some (.lst ys)∧xs.length+ys.length≤sizeLine∧∀ p,H p=none→Q (.ref p) (upd H p (.lst (xs++ys))))
theorem zZ:OpR X (binaryOp .Add) yF:=by
 intro pins s σ H x y v u Q I rx ry h
 rcases h with ⟨i,j,rfl,rfl,q⟩ | ⟨a,b,rfl,rfl,⟨xs,ys,h1,h2,hz,q1,q2,q3⟩ | ⟨xs,ys,h1,h2,hz,q⟩⟩
 ·exact CT pins s σ H _ _ v u Q I rx ry ⟨i,j,rfl,rfl,q⟩
 ·exact wy pins s σ H _ _ v u Q I rx ry ⟨a,b,xs,ys,rfl,rfl,SqT.of h1,SqT.of h2,hz,q1,q2,q3⟩
 ·exact B_ pins s σ H _ _ v u Q I rx ry ⟨a,b,xs,ys,rfl,rfl,h1,h2,hz,q⟩
def CL:R2:=fun x y H Q=>rEq x y H Q∨wD x y H Q
def Be:R2:=fun x y H Q=>rNe x y H Q∨xR x y H Q
theorem bh (hu:X.A.units+64 < cLine):OpR X (compareOp .Eq) CL:=AS hu
theorem qw (hu:X.A.units+64 < cLine):OpR X (compareOp .NotEq) Be:=Ce hu
def Dq:R2:=fun x y H Q=>xQ x y H Q∨(y=.non∧Q (.bl (decide (x=.non))) H)
def vG:R2:=fun x y H Q=>qH x y H Q∨(y=.non∧Q (.bl (!decide (x=.non))) H)
theorem qO:OpR X (compareOp .Is) Dq:=C2
theorem xj:OpR X (compareOp .IsNot) vG:=xI
def yE:List V→Hp→VK→Prop:=fun vs H Q=>∃ (p:Addr) (bs:List Bool),vs=[.ref p]∧H p=some (.lst (bs.map V.bl))∧Q (.bl (bs.all id)) H
theorem c5 (hc:X.calm=true):cx X (.builtin "all") yE:=by
 intro pins s σ H vs us Q I r h
 obtain ⟨p,bs,rfl,h,q⟩:=h
 exact u_ hc pins s σ H _ us Q I r ⟨p,bs,rfl,SqL.of h,q⟩
def qh:List V→Hp→VK→Prop:=fun vs H Q=>∃ (p:Addr) (ns:List Int),vs=[.ref p]∧H p=some (.lst (ns.map V.int))∧ns.length < 64∧∀ (l:Addr) (ms:List Int),H l=none→List.Perm ms ns→ms.Pairwise (·≤·)→Q (.ref l) (upd H l (.lst (ms.map V.int)))
theorem qD:cx X (.builtin "sorted") qh:=by
 intro pins s σ H vs us Q I r h
 obtain ⟨p,ns,rfl,h,hl,q⟩:=h
 exact pj pins s σ H _ us Q I r ⟨p,ns,rfl,SqL.of h,hl,q⟩
def FD (to te:TE):TE:=fun σ H Q=>to σ H fun x H1=>∃ l xs0,x=.ref l∧H1 l=some (.lst xs0)∧te σ H1 fun y H2=>∃ xs,H2 l=some (.lst xs)∧xs.length < sizeLine∧Q .non (upd H2 l (.lst (xs++[y])))
theorem Ct {o e:Expr} {to te:TE} {apos cpos:Pos} (ho:PE X o to) (he:PE X e te)
  (hbase:attributeBase o "append" X.env (eval o X.env)=eval o X.env:=by rfl)
  (hfew:((backTo cpos (starEach [e] X.env)).all (fun x=>!x.1) && (backToKw cpos (keywordEach [] X.env)).all (fun x=>x.1.isSome) && decide ([e].length+([]:List Keyword).length+(if ([]:List Keyword).isEmpty then 0 else 1) < 30))=true:=by rfl)
  (hline:(apos.endLine == cpos.line)=true:=by rfl) (hs:starEach [e] X.env=(false,eval e X.env) :: starEach [] X.env:=by rfl):PE X (.Call (.Attribute o "append" apos) [e] [] cpos) (FD to te):=by
 intro pins s σ H Q I h
 refine wpAny_Call_method_late hbase hfew hline rfl (thn (ho pins s σ H _ I h) fun v s1 ⟨x,H1,I1,r1,l,xs0,e0,hl,q1⟩=>?_)
 subst e0
 have ty:tyV X.K "list" (.ref l) H1:=.inl ⟨rfl,_,SqL.of hl⟩
 obtain ⟨h1,h2⟩:=u7 I1 r1 ty
 refine ⟨"list",_,PySem.F.plainAttrs_list,PySem.F.slot_list_append,PySem.F.type_list_append,h1,h2,?_⟩
 have hA:=(eJ he gR hs) cpos pins s1 σ H1 (fun vs H2=>∃ y,vs=[y]∧∃ xs,H2 l=some (.lst xs)∧xs.length < sizeLine∧Q .non (upd H2 l (.lst (xs++[y])))) I1 (by
  refine cast (congrArg (te σ H1) ?_) q1
  funext y H2
  refine propext ⟨fun q=>⟨y,rfl,q⟩,fun ⟨y',e',q⟩=>?_⟩
  cases e'
  exact q)
 rw [hs] at hA ⊢
 refine Calls.callWith_builtin (by show (false || (backTo cpos (starEach ([]:List Expr) X.env)).any (·.1))=false;rfl) (Calls.evalArgs_plain ?_)
 exact thn hA fun us s2 ⟨vs,H2,I2,r2,y,e2,xs,h3,hz,q2⟩=>nC pins s2 σ H2 (.ref l) vs v us Q I2 r1 r2 ⟨l,xs,y,rfl,e2,h3,hz,q2⟩
def DF (te ts:TE):TE:=fun σ H Q=>te σ H fun x H1=>ts σ H1 fun y H2=>∃ a xs,x=.ref a∧y=.int (-1)∧H2 a=some (.tup xs)∧∀ p,H2 p=none→Q (.ref p) (upd H2 p (.tup xs.reverse))
end
theorem zW {X:Cx} {e st:Expr} {te ts:TE} {p2 pos:Pos} (he:PE X e te) (hs:PE X st ts):PE X (.Subscript e (.Slice none none (some st) p2) pos) (DF te ts):=by
 intro pins s σ H Q I h
 refine Subscript_ (thn (he pins s σ H _ I h) fun v s1 ⟨x,H1,I1,r1,q1⟩=>?_)
 refine wpAny_Slice ?_
 rw [evalPart_none]
 refine wpAny_pure (wpAny_pure ?_)
 rw [evalPart_some]
 refine thn (hs pins s1 σ H1 _ I1 q1) fun u s2 ⟨y,H2,I2,r2,q2⟩=>?_
 obtain ⟨a,xs,rfl,rfl,hx,q⟩:=q2
 cases r1
 obtain ⟨tk,rfl⟩:=r2
 have I3:Inv X pins σ H2 { s2 with heap:=s2.heap.push { cls:=.type "slice",data:=.fields #[.none,.none,.int (-1) tk] } }:=I2.kept (t':=s2.toks) fun b ob q=>Heap.get?_push_of_some _ q
 obtain ⟨its,r,ht,hz⟩:=I3.tuple (SqT.of hx)
 show wpAny (model X.prog X.w) X.A (subscriptTail e (.Slice none none (some st) p2) (.ref a) (.ref s2.heap.objs.size)) (EP X pins σ Q) X.xe { s2 with heap:=s2.heap.push { cls:=.type "slice",data:=.fields #[.none,.none,.int (-1) tk] } }
 refine tail_any (ops:=[.ref a,.ref s2.heap.objs.size]) ht.typeIs PyProof.Rows.slot_tuple_getitem.lookup (wx ht (Heap.IsSliceOf.new ..) (by rw [← r.length];exact hz) ?_) (by with_unfolding_all rfl)
 refine ⟨.ref _,_,I3.laid (t':=s2.toks) (o:=.tup xs.reverse) (fun b ob q=>Heap.get?_push_of_some _ q) (Nat.le_refl _) ?_,rfl,q _ (I3.hok.fresh (Nat.le_refl _))⟩
 exact ⟨by rw [List.length_reverse];exact hz,_,r.reverse,IsTup.new _ _⟩
theorem oH {n:Nat} {k:Int} (h0:0≤k) (h:k < (n:Int)):ixN n k=some k.toNat:=by
 unfold ixN
 rw [if_pos h0,if_pos h]
class NS (e:Expr):Prop where
 eq:∀ (es:List Expr) (env:Env),starEach (e :: es) env=(false,eval e env) :: starEach es env
instance {c:Const} {k:Nat} {p:Pos}:NS (.Constant c k p):=⟨fun _ _=>rfl⟩
instance {x:Str} {p:Pos}:NS (.Name x p):=⟨fun _ _=>rfl⟩
instance {es:List Expr} {k:Nat} {p:Pos}:NS (.Tuple es k p):=⟨fun _ _=>rfl⟩
instance {es:List Expr} {p:Pos}:NS (.List es p):=⟨fun _ _=>rfl⟩
instance {a:Expr} {o:Operator} {b:Expr} {p:Pos}:NS (.BinOp a o b p):=⟨fun _ _=>rfl⟩
instance {o:UnaryOp} {a:Expr} {p:Pos}:NS (.UnaryOp o a p):=⟨fun _ _=>rfl⟩
instance {f:Expr} {es:List Expr} {ks:List Keyword} {p:Pos}:NS (.Call f es ks p):=⟨fun _ _=>rfl⟩
instance {a b:Expr} {p:Pos}:NS (.Subscript a b p):=⟨fun _ _=>rfl⟩
instance {a:Expr} {os:List CmpOp} {bs:List Expr} {p:Pos}:NS (.Compare a os bs p):=⟨fun _ _=>rfl⟩
instance {o:BoolOp} {es:List Expr} {p:Pos}:NS (.BoolOp o es p):=⟨fun _ _=>rfl⟩
instance {a b c:Expr} {p:Pos}:NS (.IfExp a b c p):=⟨fun _ _=>rfl⟩
instance {e:Expr} {gs:List Comprehension} {sc:Scope} {p:Pos}:NS (.ListComp e gs sc p):=⟨fun _ _=>rfl⟩
structure PL (X:Cx) (es:List Expr) (t:TA):Prop where
 h:PA X es t
def Tr (l:List Addr) (H:Hp):Prop:=∀ b∈l,H b≠none
section
variable {X:Cx}
def tLm (r:V→List V→Hp→VK→Prop) (to te:TE):TE:=fun σ H Q=>to σ H fun x H1=>∃ l xs0,x=.ref l∧H1 l=some (.lst xs0)∧te σ H1 fun y H2=>r (.ref l) [y] H2 Q
theorem Ea {r:V→List V→Hp→VK→Prop} {name:Str} {id:String} {o e:Expr} {to te:TE} {apos cpos:Pos} (slot:Slot "list" name id) (hty:typeOf (.builtin id)=pure (.type "method_descriptor")) (hm:MtM X id r) (ho:PE X o to) (he:PE X e te)
  (hbase:attributeBase o name X.env (eval o X.env)=eval o X.env:=by rfl)
  (hfew:((backTo cpos (starEach [e] X.env)).all (fun x=>!x.1) && (backToKw cpos (keywordEach [] X.env)).all (fun x=>x.1.isSome) && decide ([e].length+([]:List Keyword).length+(if ([]:List Keyword).isEmpty then 0 else 1) < 30))=true:=by rfl)
  (hline:(apos.endLine == cpos.line)=true:=by rfl) (hs:starEach [e] X.env=(false,eval e X.env) :: starEach [] X.env:=by rfl):PE X (.Call (.Attribute o name apos) [e] [] cpos) (tLm r to te):=by
 intro pins s σ H Q I h
 refine wpAny_Call_method_late hbase hfew hline rfl (thn (ho pins s σ H _ I h) fun v s1 ⟨x,H1,I1,r1,l,xs0,e0,hl,q1⟩=>?_)
 subst e0
 have ty:tyV X.K "list" (.ref l) H1:=.inl ⟨rfl,_,SqL.of hl⟩
 obtain ⟨h1,h2⟩:=u7 I1 r1 ty
 refine ⟨"list",_,PySem.F.plainAttrs_list,slot,hty,h1,h2,?_⟩
 have hA:=(eJ he gR hs) cpos pins s1 σ H1 (fun vs H2=>∃ y,vs=[y]∧r (.ref l) [y] H2 Q) I1 (by
  refine cast (congrArg (te σ H1) ?_) q1
  funext y H2
  refine propext ⟨fun q=>⟨y,rfl,q⟩,fun ⟨y',e',q⟩=>?_⟩
  cases e'
  exact q)
 rw [hs] at hA ⊢
 refine Calls.callWith_builtin (by show (false || (backTo cpos (starEach ([]:List Expr) X.env)).any (·.1))=false;rfl) (Calls.evalArgs_plain ?_)
 exact thn hA fun us s2 ⟨vs,H2,I2,r2,y,e2,q2⟩=>hm pins s2 σ H2 (.ref l) vs v us Q I2 r1 r2 (by rw [e2];exact q2)
theorem rZ {f:Nat→V}:∀ (us:List Value) (k:Nat),(∀ j v,us[j]?=some v→RelV (f (k+j)) v)→Vals ((List.range' k us.length).map f) us
 | [],_,_=>.nil
 | u :: us,k,h=>by
  rw [List.length_cons,List.range'_succ,List.map_cons]
  refine .cons (h 0 u rfl) (rZ us (k+1) fun j v e=>?_)
  have:=h (j+1) v (by simpa using e)
  rw [show k+1+j=k+(j+1) by omega]
  exact this
def tLR (ta:TA):TE:=fun σ H Q=>ta σ H fun vs H1=>∃ j:Int,vs=[.int j]∧0≤j∧j≤1000∧∀ l,H1 l=none→Q (.ref l) (upd H1 l (.lst ((List.range j.toNat).map fun i=>V.int (i:Nat))))
theorem qy {a:Expr} {ta:TA} {p1 p2 pos1 pos2:Pos} (hc:X.calm=true) (hgl:Gl X "list") (hml:X.mg "list"=none) (hgr:Gl X "range") (hmr:X.mg "range"=none) (hbl:bootBuiltins "list"=some (.type "list")) (ha:PA X [a] ta)
  (hs:starEach [a] X.env=[(false,eval a X.env)]:=by rfl)
  (hs2:starEach [Expr.Call (.Name "range" p2) [a] [] pos2] X.env=(false,eval (Expr.Call (.Name "range" p2) [a] [] pos2) X.env) :: starEach [] X.env:=by rfl) :
  PE X (.Call (.Name "list" p1) [.Call (.Name "range" p2) [a] [] pos2] [] pos1) (tLR ta):=by
 intro pins s σ H Q I h
 refine wpAny_Call_Name_kw (cq I hgl hml hbl ?_)
 refine PyProof.Rows.callWith_type1 ?_ hs2 rfl
 rw [hs2]
 show wpAny _ _ (spliced ((false,eval (Expr.Call (.Name "range" p2) [a] [] pos2) X.env) :: backTo pos1 (starEach [] X.env))) _ _ s
 refine Calls.spliced_cons ?_
 refine Call_ (cq I hgr hmr boot_range (PyProof.Rows.callWith_type1 (thn (ha pos2 pins s σ H _ I h) fun us s1 ⟨vs,H1,I1,r1,q1⟩=>?_) hs rfl))
 obtain ⟨j,e,j0,j1,q⟩:=q1
 subst e
 cases r1 with
 | cons r rr=>
  cases rr
  obtain ⟨t,rfl⟩:=r
  refine call_range_1 ?_
  have hA:X.A.handled=none:=I.ok.hd hc
  have I2:Inv X pins σ H1 { s1 with heap:=s1.heap.push { cls:=.type "range",data:=.fields #[.int 0 s1.toks,.int j t,.int 1 (s1.toks+1)] },toks:=s1.toks+1+1 }:=I1.kept fun b o e=>Heap.get?_push_of_some _ e
  refine wpAny_pure ?_
  have hsz:Builtin.Range.rangeSize 0 j 1=((j.toNat:Nat):Int):=by rw [rangeSize_one];split<;>omega
  refine call_list_range hA (IsRange.new ..) (small_one (by omega) (by omega) (by omega) (by omega)) hsz (by omega) fun h' tk acc c' hk hnew hit=>?_
  have hvals:Vals ((List.range j.toNat).map fun i=>V.int (i:Nat)) acc.toList:=by
   have hl:acc.toList.length=j.toNat:=by rw [Array.length_toList];exact hit.1
   rw [← hl,List.range_eq_range']
   refine rZ acc.toList 0 fun i v e=>?_
   obtain ⟨t2,rfl⟩:=hit.2 i v (by simpa using e)
   exact ⟨t2,by congr 1;omega⟩
  refine ⟨.ref _,_,I2.laid (t':=tk) (o:=.lst ((List.range j.toNat).map fun i=>V.int (i:Nat))) hk (Nat.le_refl _) ⟨?_,acc.toList,c',hvals,?_⟩,rfl,q _ (I2.hok.fresh (Nat.le_refl _))⟩
  ·rw [List.length_map,List.length_range]
   exact Nat.le_of_lt (jN (by omega))
  ·simpa using hnew
end
section
variable {X:Cx}
theorem v9:∀ {x y:V} {u:Value},RelV x u→RelV y u→x=y:=by
  intro x y u h1 h2
  cases x<;>cases y<;>simp only [RelV] at h1 h2<;>first
    | rfl
    | (subst h1;cases h2;done)
    | (subst h1;cases h2;rfl)
    | (obtain ⟨t,rfl⟩:=h1;cases h2;done)
    | (obtain ⟨t,rfl⟩:=h1;obtain ⟨t2,e⟩:=h2;cases e;rfl)
    | (obtain ⟨t,rfl⟩:=h1;obtain ⟨t2,e⟩:=h2;cases e;done)
    | (obtain ⟨t,rfl⟩:=h2;cases h1;done)
def xG (neg:Bool):R2:=fun x y H Q=>∃ (p:Addr) (vs:List V) (d:D) (ds:List D),y=.ref p∧H p=some (.lst vs)∧ax H vs ds∧Rep H x d∧D.cC ds≤50∧Q (.bl (if neg then !ds.any (fun e=>D.eqv e d) else ds.any fun e=>D.eqv e d)) H
theorem rX {pins:List (Addr×Obj)} {σ:St} {H:Hp} {s:Shared} {p:Addr} {vs:List V} {d:D} {ds:List D} {x:V} {v:Value} (hu:X.A.units+64 < cLine) (I:Inv X pins σ H s) (rx:RelV x v) (hq:H p=some (.lst vs)) (rs:ax H vs ds) (rd:Rep H x d) (hd:D.cC ds≤50) :
  ∃ (its:List Value) (e:Value→Bool),s.heap.IsList p its.toArray∧(∀ y∈its.toArray,SeqAt.EqAt X.A.in1 s y v (e y))∧its.toArray.any e=ds.any fun e=>D.eqv e d:=by
 classical
 obtain ⟨its,r,pl,hz⟩:=I.list (SqL.of hq)
 have l1:=r.length
 have l2:=rs.length
 have key:∀ (j:Nat) (u:Value),its[j]?=some u→∃ (y:V) (e:D),vs[j]?=some y∧ds[j]?=some e∧RelV y u∧Rep H y e:=by
  intro j u hj
  have hlt:=(List.getElem?_eq_some_iff.mp hj).1
  have e1:vs[j]?=some (vs[j]'(by omega)):=List.getElem?_eq_getElem _
  obtain ⟨a1,b1,c1⟩:=r.get e1
  obtain ⟨f1,g1,k1⟩:=rs.get e1
  rw [hj] at b1
  cases b1
  exact ⟨_,f1,e1,g1,c1,k1⟩
 refine ⟨its,fun u=>decide (∃ (j:Nat) (y:V) (e:D),its[j]?=some u∧vs[j]?=some y∧ds[j]?=some e∧D.eqv e d=true),pl.isList,?_,?_⟩
 ·intro u hm
  have hm':u∈its:=by simpa using hm
  obtain ⟨j,hj⟩:=List.mem_iff_getElem?.mp hm'
  obtain ⟨y,e,h1,h2,h3,h4⟩:=key j u hj
  have q:=vM I 60 X.A.in1 y x u v e d (by show X.A.units+1+60 < cLine;omega) (Nat.le_trans (D.gA h2) (by omega)) h3 rx h4 rd
  have z:decide (∃ (j:Nat) (y:V) (e:D),its[j]?=some u∧vs[j]?=some y∧ds[j]?=some e∧D.eqv e d=true)=D.eqv e d:=by
   rw [Bool.eq_iff_iff,decide_eq_true_eq]
   refine ⟨fun ⟨j',y',e',g1,g2,g3,g4⟩=>?_,fun h=>⟨j,y,e,hj,h1,h2,h⟩⟩
   obtain ⟨y2,e2,k1,k2,k3,k4⟩:=key j' u g1
   rw [g2] at k1;cases k1
   rw [g3] at k2;cases k2
   have:=v9 h3 k3
   subst this
   rw [Rep.inj h4 k4]
   exact g4
  show SeqAt.EqAt X.A.in1 s u v (decide _)
  rw [z]
  exact q
 ·rw [List.any_toArray,Bool.eq_iff_iff,List.any_eq_true,List.any_eq_true]
  constructor
  ·rintro ⟨u,hu',h⟩
   obtain ⟨j,y,e,g1,g2,g3,g4⟩:=of_decide_eq_true h
   exact ⟨e,List.mem_of_getElem? g3,g4⟩
  ·rintro ⟨e,he,h⟩
   obtain ⟨j,hj⟩:=List.mem_iff_getElem?.mp he
   have hlt:=(List.getElem?_eq_some_iff.mp hj).1
   have e1:its[j]?=some (its[j]'(by omega)):=List.getElem?_eq_getElem _
   obtain ⟨y,e',h1,h2,h3,h4⟩:=key j _ e1
   exact ⟨_,List.mem_of_getElem? e1,decide_eq_true ⟨j,y,e,e1,h1,hj,h⟩⟩
theorem CB (hu:X.A.units+64 < cLine):OpR X (compareOp .In) (xG false):=by
 intro pins s σ H x y v u Q I rx ry h
 obtain ⟨p,vs,d,ds,rfl,hq,rs,rd,hd,q⟩:=h
 cases ry
 obtain ⟨its,e,h1,h2,h3⟩:=rX hu I rx hq rs rd hd
 refine SeqAt.in_listAt e h1 h2 ⟨.bl _,H,I,rfl,?_⟩
 rw [h3]
 exact q
theorem vK (hu:X.A.units+64 < cLine):OpR X (compareOp .NotIn) (xG true):=by
 intro pins s σ H x y v u Q I rx ry h
 obtain ⟨p,vs,d,ds,rfl,hq,rs,rd,hd,q⟩:=h
 cases ry
 obtain ⟨its,e,h1,h2,h3⟩:=rX hu I rx hq rs rd hd
 refine SeqAt.notIn_listAt e h1 h2 ⟨.bl _,H,I,rfl,?_⟩
 rw [h3]
 exact q
end
section
variable {prog:Program} {w:World} {A:Around} {E:Value→Shared→Prop} {s:Shared}
abbrev zL (h:Heap) (t:Addr):Heap:=h.push { cls:=.type "list_iterator",data:=.fields #[.ref t,.int 0 0] }
end
end L2
namespace ZS
open PySem
def Ri (l:List Nat):Prop:=l.Pairwise (· < ·)
theorem t_ (xs:Array Nat) (j p:Nat) (h1:∀ i,i < p→xs.getD i j < j) (h2:∀ i,p≤i→i < xs.size→¬xs.getD i j < j):∀ (fuel lo hi:Nat),lo≤p→p≤hi→hi≤xs.size→hi - lo≤fuel→SetTable.below.go xs j fuel lo hi=p
 | 0,lo,hi,a,b,c,d=>by rw [SetTable.below.go];omega
 | fuel+1,lo,hi,a,b,c,d=>by
  rw [SetTable.below.go]
  by_cases hl:lo < hi
  ·rw [if_pos hl]
   dsimp only
   have m1:lo≤(lo+hi) / 2:=by omega
   have m2:(lo+hi) / 2 < hi:=by omega
   by_cases hm:xs.getD ((lo+hi) / 2) j < j
   ·rw [if_pos hm]
    have:(lo+hi) / 2 < p:=by
     refine Nat.lt_of_not_le fun z=>?_
     exact h2 _ z (by omega) hm
    exact t_ xs j p h1 h2 fuel _ _ (by omega) b c (by omega)
   ·rw [if_neg hm]
    have:p≤(lo+hi) / 2:=by
     refine Nat.le_of_not_lt fun z=>?_
     exact hm (h1 _ z)
    exact t_ xs j p h1 h2 fuel _ _ a this (by omega) (by omega)
  ·rw [if_neg hl];omega
theorem getD_list {l:List Nat} {i j:Nat} (h:i < l.length):l.toArray.getD i j=l[i]:=by simp [Array.getD,h]
theorem below_at {l:List Nat} {j p:Nat} (hp:p≤l.length) (h1:∀ i (h:i < l.length),i < p→l[i] < j) (h2:∀ i (h:i < l.length),p≤i→j≤l[i]):SetTable.below l.toArray j=p:=by
 unfold SetTable.below
 refine t_ l.toArray j p (fun i hi=>?_) (fun i hi hs=>?_) _ _ _ (Nat.zero_le _) (by simpa using hp) (Nat.le_refl _) (by omega)
 ·rw [getD_list (by omega)];exact h1 i (by omega) hi
 ·rw [getD_list (by simpa using hs)]
  have:=h2 i (by simpa using hs) hi
  omega
theorem oM {l:List Nat} (h:Ri l) {i k:Nat} (hk:k < l.length) (hi:i < k):l[i] < l[k]:=List.pairwise_iff_getElem.mp h i k (by omega) hk hi
theorem uS {l:List Nat} (h:Ri l) (j:Nat):∃ p,p≤l.length∧SetTable.below l.toArray j=p∧(∀ x∈l.take p,x < j)∧(∀ x∈l.drop p,j≤x):=by
 induction l with
 | nil=>exact ⟨0,Nat.le_refl _,below_at (Nat.le_refl _) (fun i h=>by simp at h) (fun i h=>by simp at h),by simp,by simp⟩
 | cons a l ih=>
  obtain ⟨h1,h2⟩:=List.pairwise_cons.mp h
  obtain ⟨p,hp,_,ha,hb⟩:=ih h2
  by_cases hj:a < j
  ·have q1:∀ x∈(a :: l).take (p+1),x < j:=by
    intro x hx
    rw [List.take_succ_cons] at hx
    rcases List.mem_cons.mp hx with e | e
    ·omega
    ·exact ha x e
   have q2:∀ x∈(a :: l).drop (p+1),j≤x:=by
    intro x hx
    rw [List.drop_succ_cons] at hx
    exact hb x hx
   refine ⟨p+1,by simp;omega,below_at (by simp;omega) (fun i hi hip=>?_) (fun i hi hip=>?_),q1,q2⟩
   ·refine q1 _ ?_
    rw [List.mem_iff_getElem]
    exact ⟨i,by rw [List.length_take];simp at hi ⊢;omega,by rw [List.getElem_take]⟩
   ·refine q2 _ ?_
    rw [List.mem_iff_getElem]
    exact ⟨i - (p+1),by simp at hi ⊢;omega,by rw [List.getElem_drop];congr 1;omega⟩
  ·have q2:∀ x∈a :: l,j≤x:=by
    intro x hx
    rcases List.mem_cons.mp hx with e | e
    ·omega
    ·have:=h1 x e;omega
   refine ⟨0,Nat.zero_le _,below_at (Nat.zero_le _) (fun i hi hip=>by omega) (fun i hi _=>q2 _ (List.getElem_mem hi)),by simp,by simpa using q2⟩
theorem vH {l:List Nat} (h:Ri l) {i:Nat} (hi:i < l.length):SetTable.below l.toArray (l[i]+1)=i+1∧SetTable.below l.toArray l[i]=i:=by
 constructor
 ·refine below_at (by omega) (fun k hk hki=>?_) (fun k hk hki=>?_)
  ·by_cases e:k=i
   ·subst e;omega
   ·have:=oM h hi (show k < i by omega);omega
  ·have:=oM h hk (show i < k by omega);omega
 ·refine below_at (by omega) (fun k hk hki=>oM h hi hki) (fun k hk hki=>?_)
  by_cases e:k=i
  ·subst e;omega
  ·have:=oM h hk (show i < k by omega);omega
theorem vX {l:List Nat} (h:Ri l) {j p:Nat} (hj:j∉l) (ha:∀ x∈l.take p,x < j) (hb:∀ x∈l.drop p,j≤x):Ri (l.take p++j :: l.drop p):=by
 have hs:Ri (l.take p++l.drop p):=by rw [List.take_append_drop];exact h
 obtain ⟨s1,s2,s3⟩:=List.pairwise_append.mp hs
 refine List.pairwise_append.mpr ⟨s1,List.pairwise_cons.mpr ⟨fun x hx=>?_,s2⟩,fun x hx y hy=>?_⟩
 ·have:=hb x hx
  have:x≠j:=fun e=>hj (by rw [← e];exact List.mem_of_mem_drop hx)
  omega
 ·rcases List.mem_cons.mp hy with e | e
  ·rw [e];exact ha x hx
  ·exact s3 x hx y e
theorem slot_of {t:SetTable} {l:List Nat} (hp:t.place=l.toArray) (hr:Ri l) (hd:t.dummies=#[]) (j:Nat):(j∉l→t.slot j=.empty)∧(j∈l→∃ i,t.slot j=.live i):=by
 have hh:SetTable.has #[] j=false:=by simp [SetTable.has]
 constructor
 ·intro hj
  unfold SetTable.slot
  dsimp only
  rw [hp,hd,hh]
  have:(l.toArray[SetTable.below l.toArray j]? == some j)=false:=by
   rw [beq_eq_false_iff_ne]
   intro e
   rw [List.getElem?_toArray] at e
   exact hj (List.mem_of_getElem? e)
  rw [this]
  rfl
 ·intro hj
  obtain ⟨i,hi,rfl⟩:=List.mem_iff_getElem.mp hj
  refine ⟨i,?_⟩
  unfold SetTable.slot
  dsimp only
  rw [hp,(vH hr hi).2,List.getElem?_toArray,List.getElem?_eq_getElem hi]
  simp
def nxt (m i:Nat):Nat:=(i * 5+1) % (m+1)
def orb (m:Nat):Nat→Nat→Nat
 | 0,i=>i
 | n+1,i=>orb m n (nxt m i)
def marks (m:Nat):Nat→Nat→Nat→Nat
 | 0,_,acc=>acc
 | n+1,i,acc=>marks m n (nxt m i) (acc ||| (1 <<< i))
def full (m:Nat):Bool:=marks m (m+1) 0 0 == 2 ^ (m+1) - 1 && orb m (m+1) 0 == 0
theorem D6:full 7=true:=by decide +kernel
theorem De:full 31=true:=by decide +kernel
theorem zV:full 127=true:=by decide +kernel
theorem zM:full 511=true:=by decide +kernel
theorem n4 {m:Nat}:∀ (n i acc e:Nat),(marks m n i acc).testBit e=true→acc.testBit e=true∨∃ k,k < n∧orb m k i=e
 | 0,i,acc,e,h=>.inl h
 | n+1,i,acc,e,h=>by
  rw [marks] at h
  rcases n4 n _ _ e h with q | ⟨k,hk,q⟩
  ·rw [Nat.testBit_or,Bool.or_eq_true] at q
   rcases q with q | q
   ·exact .inl q
   ·refine .inr ⟨0,by omega,?_⟩
    rw [Nat.one_shiftLeft,Nat.testBit_two_pow] at q
    simpa [orb] using q
  ·exact .inr ⟨k+1,by omega,q⟩
theorem kN {m:Nat}:∀ (a b i:Nat),orb m (a+b) i=orb m b (orb m a i)
 | 0,b,i=>by simp [orb]
 | a+1,b,i=>by
  rw [show a+1+b=(a+b)+1 by omega,orb,kN a b,orb]
theorem yT {m e:Nat} (hf:full m=true) (he:e≤m):∃ k,k≤m∧orb m k 0=e:=by
 unfold full at hf
 rw [Bool.and_eq_true,beq_iff_eq,beq_iff_eq] at hf
 have q:(marks m (m+1) 0 0).testBit e=true:=by
  rw [hf.1,Nat.testBit_two_pow_sub_one]
  simp;omega
 rcases n4 _ _ _ _ q with z | ⟨k,hk,z⟩
 ·simp at z
 ·exact ⟨k,by omega,z⟩
theorem reach {m e i:Nat} (hf:full m=true) (he:e≤m) (hi:i≤m):∃ k,k≤m∧orb m k i=e:=by
 obtain ⟨a,ha,ea⟩:=yT hf hi
 obtain ⟨b,hb,eb⟩:=yT hf he
 have h0:orb m (m+1) 0=0:=by
  unfold full at hf
  rw [Bool.and_eq_true,beq_iff_eq,beq_iff_eq] at hf
  exact hf.2
 by_cases hab:a≤b
 ·refine ⟨b - a,by omega,?_⟩
  rw [← ea,← kN,show a+(b - a)=b by omega,eb]
 ·refine ⟨m+1 - a+b,by omega,?_⟩
  rw [← ea,← kN,show a+(m+1 - a+b)=(m+1)+b by omega,kN,h0,eb]
def lp (m:Nat):Nat→Nat×Nat→Nat×Nat
 | 0,x=>x
 | n+1,x=>lp m n (SetTable.leap m x.1 x.2)
theorem vo {m:Nat}:∀ (a b:Nat) (x:Nat×Nat),lp m (a+b) x=lp m b (lp m a x)
 | 0,b,x=>by simp [lp]
 | a+1,b,x=>by
  rw [show a+1+b=(a+b)+1 by omega,lp,vo a b,lp]
theorem rR {m:Nat}:∀ (n:Nat) (x:Nat×Nat),(lp m n x).2=x.2 / 32 ^ n
 | 0,x=>by simp [lp]
 | n+1,x=>by
  rw [lp,rR n]
  show x.2 / 32 / 32 ^ n=_
  rw [Nat.div_div_eq_div_mul,Nat.pow_succ,Nat.mul_comm]
theorem uk {m:Nat}:∀ (n i:Nat),lp m n (i,0)=(orb m n i,0)
 | 0,i=>rfl
 | n+1,i=>by
  rw [lp,orb]
  have:SetTable.leap m i 0=(nxt m i,0):=by simp [SetTable.leap,nxt]
  rw [this,uk n]
theorem Dx {m:Nat} (x:Nat×Nat) (h:x.1≤m):∀ n,(lp m n x).1≤m:=by
 intro n
 induction n generalizing x with
 | zero=>exact h
 | succ n ih=>
  rw [lp]
  exact ih _ (by show _ % (m+1)≤m;have:=Nat.mod_lt (x.1 * 5+1+x.2 / 32) (show m+1 > 0 by omega);omega)
theorem sf {m e i p:Nat} (hf:full m=true) (he:e≤m) (hi:i≤m) (hp:p < 2 ^ 64):∃ k,k < SetTable.turns m∧(lp m k (i,p)).1=e:=by
 have h13:(lp m 13 (i,p)).2=0:=by
  rw [rR]
  exact Nat.div_eq_of_lt (Nat.lt_of_lt_of_le hp (by decide))
 obtain ⟨k,hk,ek⟩:=reach hf he (Dx (i,p) hi 13)
 refine ⟨13+k,by unfold SetTable.turns;omega,?_⟩
 rw [vo]
 have z:lp m 13 (i,p)=((lp m 13 (i,p)).1,0):=by rw [← h13]
 rw [z,uk]
 exact ek
theorem sD (h:Int):SetTable.bits h < 2 ^ 64:=by
 unfold SetTable.bits
 have:=Int.emod_lt_of_pos h (show (0:Int) < 2 ^ 64 by decide)
 omega
theorem room {l:List Nat} {m:Nat} (hn:l.length≤m):∃ e,e≤m∧e∉l:=by
 refine Classical.byContradiction fun h=>?_
 have hall:∀ e∈List.range (m+1),e∈l:=fun e he=>Classical.byContradiction fun z=>h ⟨e,by have:=List.mem_range.mp he;omega,z⟩
 have:=List.Nodup.length_le_of_subset (List.nodup_range (n:=m+1)) hall
 rw [List.length_range] at this
 omega
theorem v_ {t:SetTable} {l:List Nat} (hp:t.place=l.toArray) (hr:Ri l) (hd:t.dummies=#[]) (h:Int) :
  ∀ (k:Nat) (fuel:Nat) (q:SetTable.Probe),q.dummy=none→q.more≤9→10 * k+q.more+1≤fuel→(lp t.mask k (q.i,q.perturb)).1∉l→(k=0→q.j=q.i∨q.j∉l)→(q.more≤9) →
   (k=0→q.j∉l)→∃ j,SetTable.probe.go t (fun _=>h+1) h fuel q=some (.empty j none)∧j∉l:=by
 intro k
 induction k with
 | zero=>
  intro fuel q h1 h2 h3 h4 h5 h6 h7
  obtain ⟨f,rfl⟩:∃ f,fuel=f+1:=⟨fuel - 1,by omega⟩
  refine ⟨q.j,?_,h7 rfl⟩
  rw [SetTable.probe.go,(slot_of hp hr hd q.j).1 (h7 rfl)]
  dsimp only
  rw [h1]
 | succ k ih=>
  intro fuel q h1 h2 h3 h4 h5 h6 h7
  have run:∀ (r fuel:Nat) (q:SetTable.Probe),q.more=r→q.dummy=none→10 * (k+1)+r+1≤fuel→(lp t.mask (k+1) (q.i,q.perturb)).1∉l→∃ j,SetTable.probe.go t (fun _=>h+1) h fuel q=some (.empty j none)∧j∉l:=by
   intro r
   induction r with
   | zero=>
    intro fuel q hm hdm hfu hl
    obtain ⟨f,rfl⟩:∃ f,fuel=f+1:=⟨fuel - 1,by omega⟩
    by_cases hj:q.j∈l
    ·obtain ⟨i,ei⟩:=(slot_of hp hr hd q.j).2 hj
     rw [SetTable.probe.go,ei]
     dsimp only
     have hne:(h+1 == h)=false:=by rw [beq_eq_false_iff_ne];omega
     rw [hne]
     have ha:t.advance q={ q with j:=(SetTable.leap t.mask q.i q.perturb).1,more:=SetTable.runEnd t.mask (SetTable.leap t.mask q.i q.perturb).1 - (SetTable.leap t.mask q.i q.perturb).1,i:=(SetTable.leap t.mask q.i q.perturb).1,perturb:=(SetTable.leap t.mask q.i q.perturb).2 }:=by
      unfold SetTable.advance
      rw [if_neg (by omega)]
     have hmore:(t.advance q).more≤9:=by
      rw [ha]
      dsimp only
      unfold SetTable.runEnd
      split<;>omega
     have hl':(lp t.mask k ((t.advance q).i,(t.advance q).perturb)).1∉l:=by rw [ha];exact hl
     refine ih f (t.advance q) (by rw [ha];exact hdm) hmore (by omega) hl' (fun _=>.inl (by rw [ha])) hmore fun hk=>?_
     rw [ha]
     dsimp only
     subst hk
     exact hl
    ·refine ⟨q.j,?_,hj⟩
     rw [SetTable.probe.go,(slot_of hp hr hd q.j).1 hj]
     dsimp only
     rw [hdm]
   | succ r ihr=>
    intro fuel q hm hdm hfu hl
    obtain ⟨f,rfl⟩:∃ f,fuel=f+1:=⟨fuel - 1,by omega⟩
    by_cases hj:q.j∈l
    ·obtain ⟨i,ei⟩:=(slot_of hp hr hd q.j).2 hj
     rw [SetTable.probe.go,ei]
     dsimp only
     have hne:(h+1 == h)=false:=by rw [beq_eq_false_iff_ne];omega
     rw [hne]
     have ha:t.advance q={ q with j:=q.j+1,more:=q.more - 1 }:=by
      unfold SetTable.advance
      rw [if_pos (by omega)]
     refine ihr f (t.advance q) (by rw [ha];dsimp only;omega) (by rw [ha];exact hdm) (by omega) (by rw [ha];exact hl)
    ·refine ⟨q.j,?_,hj⟩
     rw [SetTable.probe.go,(slot_of hp hr hd q.j).1 hj]
     dsimp only
     rw [hdm]
  exact run q.more fuel q rfl h1 h3 h4
theorem ve {t:SetTable} {l:List Nat} (hp:t.place=l.toArray) (hr:Ri l) (hd:t.dummies=#[]) (hf:full t.mask=true) (hn:l.length≤t.mask) (h:Int):∃ j,t.freeSlot h=some (j,false)∧j∉l:=by
 obtain ⟨e,he,hel⟩:=room hn
 have hi:SetTable.bits h % (t.mask+1)≤t.mask:=by have:=Nat.mod_lt (SetTable.bits h) (show t.mask+1 > 0 by omega);omega
 obtain ⟨k,hk,ek⟩:=sf hf he hi (sD h)
 have hmore:(t.probeStart h).more≤9:=by
  unfold SetTable.probeStart SetTable.runEnd
  dsimp only
  split<;>omega
 have q:=v_ hp hr hd h k (10 * SetTable.turns t.mask) (t.probeStart h) rfl hmore (by omega) (by
  show (lp t.mask k (SetTable.bits h % (t.mask+1),SetTable.bits h)).1∉l
  rw [ek];exact hel) (fun _=>.inl rfl) hmore (fun hk0=>by
   subst hk0
   show SetTable.bits h % (t.mask+1)∉l
   rw [show SetTable.bits h % (t.mask+1)=e from ek];exact hel)
 obtain ⟨j,ej,hj⟩:=q
 refine ⟨j,?_,hj⟩
 unfold SetTable.freeSlot SetTable.probe
 rw [ej]
 rfl
end ZS
namespace ZS
open PySem
theorem se {m e:Nat} {owner:Array (Option Nat)} (he:owner.getD e (some 0)=none):∀ (k fuel i p:Nat),(lp m k (i,p)).1=e→k < fuel→∃ j,SetTable.layClean.free m owner fuel i p=some j∧owner.getD j (some 0)=none
 | k,0,i,p,_,h=>by omega
 | k,fuel+1,i,p,hk,h=>by
  rw [SetTable.layClean.free]
  cases hf:(List.range (SetTable.runEnd m i+1 - i)).find? fun k=>(owner.getD (i+k) (some 0)).isNone with
  | some x=>
   refine ⟨i+x,rfl,?_⟩
   have:=List.find?_some hf
   simpa using this
  | none=>
   have hno:=List.find?_eq_none.mp hf
   cases k with
   | zero=>
    have hi:i=e:=hk
    have:=hno 0 (List.mem_range.mpr (by unfold SetTable.runEnd;split<;>omega))
    rw [Nat.add_zero,hi,he] at this
    simp at this
   | succ k=>
    dsimp only
    exact se he k fuel _ _ hk (by omega)
theorem qt {α β:Type} {f g:α→Option β}:∀ {l:List α},(∀ x∈l,f x=g x)→l.filterMap f=l.filterMap g
 | [],_=>rfl
 | a :: l,h=>by
  rw [List.filterMap_cons,List.filterMap_cons,h a (List.mem_cons_self ..),qt fun x hx=>h x (List.mem_cons_of_mem _ hx)]
def vals (m:Nat) (owner:Array (Option Nat)):List Nat:=(List.range (m+1)).filterMap fun j=>owner.getD j none
theorem xU (m:Nat):vals m (Array.replicate (m+1) none)=[]:=by
 unfold vals
 rw [List.filterMap_eq_nil_iff]
 intro j hj
 simp [Array.getD]
theorem xf {m j k:Nat} {owner:Array (Option Nat)} (hs:owner.size=m+1) (hj:owner.getD j (some 0)=none):(vals m (owner.setIfInBounds j (some k))).Perm (k :: vals m owner):=by
 have hjs:j < owner.size:=by
  refine Nat.lt_of_not_le fun z=>?_
  simp [Array.getD,Nat.not_lt.mpr z] at hj
 have hjv:owner.getD j none=none:=by
  simp [Array.getD,hjs] at hj ⊢
  exact hj
 have hmem:j∈List.range (m+1):=List.mem_range.mpr (by omega)
 have pe:=List.perm_cons_erase hmem
 have nd:(List.range (m+1)).Nodup:=List.nodup_range
 unfold vals
 refine (pe.filterMap _).trans ?_
 refine List.Perm.trans ?_ ((pe.filterMap (fun j=>owner.getD j none)).cons k).symm
 rw [List.filterMap_cons,List.filterMap_cons]
 have e1:(owner.setIfInBounds j (some k)).getD j none=some k:=by simp [Array.getD,hjs]
 rw [e1,hjv]
 dsimp only
 refine List.Perm.cons k (List.Perm.of_eq ?_)
 refine qt fun x hx=>?_
 have hne:x≠j:=fun e=>by
  rw [e] at hx
  exact (List.Nodup.mem_erase_iff nd).mp hx |>.1 rfl
 simp only [Array.getD,Array.size_setIfInBounds]
 split
 ·rw [Array.getInternal_eq_getElem,Array.getInternal_eq_getElem,Array.getElem_setIfInBounds_ne (by assumption) (fun e=>hne e.symm)]
 ·rfl
theorem xK {m:Nat} {owner:Array (Option Nat)} (hs:owner.size=m+1) (h:(vals m owner).length≤m):∃ e,e≤m∧owner.getD e (some 0)=none:=by
 refine Classical.byContradiction fun hno=>?_
 have all:∀ j∈List.range (m+1),(owner.getD j none).isSome=true:=fun j hj=>by
  have hj':=List.mem_range.mp hj
  cases e:owner.getD j none with
  | some x=>rfl
  | none=>
   refine absurd ⟨j,by omega,?_⟩ hno
   simp [Array.getD,show j < owner.size by omega] at e ⊢
   exact e
 have len:∀ l:List Nat,(∀ j∈l,(owner.getD j none).isSome=true)→(l.filterMap fun j=>owner.getD j none).length=l.length:=by
  intro l
  induction l with
  | nil=>intro _;rfl
  | cons a l ih=>
   intro hl
   obtain ⟨x,hx⟩:=Option.isSome_iff_exists.mp (hl a (List.mem_cons_self ..))
   rw [List.filterMap_cons,hx]
   dsimp only
   rw [List.length_cons,List.length_cons,ih fun j hj=>hl j (List.mem_cons_of_mem _ hj)]
 have:=len _ all
 rw [List.length_range] at this
 unfold vals at h
 omega
def kU (m:Nat) (acc:Option (Array (Option Nat)×Nat)) (h:Int):Option (Array (Option Nat)×Nat):=do
  let (owner,k) ← acc
  let j ← SetTable.layClean.free m owner (SetTable.turns m) (SetTable.bits h % (m+1)) (SetTable.bits h)
  pure (owner.setIfInBounds j (some k),k+1)
theorem qg {m:Nat} (hf:full m=true):∀ (hs:List Int) (owner:Array (Option Nat)) (k:Nat),owner.size=m+1→(vals m owner).Perm (List.range k)→k+hs.length≤m →
  ∃ owner',hs.foldl (kU m) (some (owner,k))=some (owner',k+hs.length)∧owner'.size=m+1∧(vals m owner').Perm (List.range (k+hs.length))
 | [],owner,k,h1,h2,h3=>⟨owner,rfl,h1,by simpa using h2⟩
 | h :: hs,owner,k,h1,h2,h3=>by
  have hlen:(vals m owner).length=k:=by rw [h2.length_eq,List.length_range]
  obtain ⟨e,he,hen⟩:=xK h1 (by simp at h3;omega)
  have hi:SetTable.bits h % (m+1)≤m:=by have:=Nat.mod_lt (SetTable.bits h) (show m+1 > 0 by omega);omega
  obtain ⟨q,hq,eq⟩:=sf hf he hi (sD h)
  obtain ⟨j,ej,hj⟩:=se (m:=m) hen q (SetTable.turns m) _ _ eq hq
  have st:kU m (some (owner,k)) h=some (owner.setIfInBounds j (some k),k+1):=by
   unfold kU
   show (SetTable.layClean.free m owner (SetTable.turns m) (SetTable.bits h % (m+1)) (SetTable.bits h)).bind _=_
   rw [ej]
   rfl
  have p2:(vals m (owner.setIfInBounds j (some k))).Perm (List.range (k+1)):=by
   refine (xf h1 hj).trans ((h2.cons k).trans ?_)
   rw [List.range_succ]
   exact (List.perm_append_singleton k _).symm
  obtain ⟨o',a1,a2,a3⟩:=qg hf hs _ (k+1) (by rw [Array.size_setIfInBounds];exact h1) p2 (by simp at h3;omega)
  refine ⟨o',?_,a2,by simp only [List.length_cons];rw [show k+(hs.length+1)=k+1+hs.length by omega];exact a3⟩
  rw [List.foldl_cons,st,a1]
  simp only [List.length_cons]
  rw [show k+(hs.length+1)=k+1+hs.length by omega]
theorem qT {m:Nat} (hf:full m=true) (hs:Array Int) (hn:hs.size≤m):∃ owner,SetTable.layClean m hs=some owner∧owner.size=m+1∧(vals m owner).Perm (List.range hs.size):=by
 obtain ⟨o,a1,a2,a3⟩:=qg hf hs.toList (Array.replicate (m+1) none) 0 (by simp) (by rw [xU];simp) (by simpa using hn)
 refine ⟨o,?_,a2,by simpa using a3⟩
 unfold SetTable.layClean
 rw [← Array.foldl_toList]
 have:(fun (acc:Option (Array (Option Nat)×Nat)) (h:Int)=>(do
  let (owner,k) ← acc
  let j ← SetTable.layClean.free m owner (SetTable.turns m) (SetTable.bits h % (m+1)) (SetTable.bits h)
  pure (owner.setIfInBounds j (some k),k+1):Option (Array (Option Nat)×Nat)))=kU m:=rfl
 rw [this,a1]
 rfl
theorem jm (f:Nat→Option Nat):∀ l:List Nat,((l.filterMap fun j=>(f j).map (j,·)).map (·.1))=l.filter fun j=>(f j).isSome
 | []=>rfl
 | a :: l=>by
  rw [List.filterMap_cons,List.filter_cons]
  cases f a with
  | none=>simpa using jm f l
  | some x=>simp [jm f l]
theorem jl (f:Nat→Option Nat):∀ l:List Nat,((l.filterMap fun j=>(f j).map (j,·)).map (·.2))=l.filterMap f
 | []=>rfl
 | a :: l=>by
  rw [List.filterMap_cons,List.filterMap_cons]
  cases f a with
  | none=>simpa using jl f l
  | some x=>simp [jl f l]
theorem sm {α:Type}:∀ (xs:List α),(List.range xs.length).filterMap (fun i=>xs[i]?)=xs
 | []=>rfl
 | x :: xs=>by
  rw [List.length_cons,List.range_succ_eq_map,List.filterMap_cons]
  simp only [List.getElem?_cons_zero]
  rw [List.filterMap_map]
  have:((fun i=>(x :: xs)[i]?) ∘ Nat.succ)=fun i=>xs[i]?:=by funext i;simp
  rw [this,sm xs]
theorem xm {t:SetTable} {es:Array (Int×Value)} {wanted:Nat} (hf:full (SetTable.sizeAbove wanted - 1)=true) (hn:es.size≤SetTable.sizeAbove wanted - 1) :
  ∃ es' t' l,relayAll t es wanted=(es',t',false)∧es'.toList.Perm es.toList∧t'.place=l.toArray∧Ri l∧l.length=es.size∧t'.dummies=#[]∧t'.mask=SetTable.sizeAbove wanted - 1∧t'.plain=t.plain∧t'.led=t.led:=by
 obtain ⟨owner,e1,e2,e3⟩:=qT hf (es.map (·.1)) (by simpa using hn)
 rw [Array.size_map] at e3
 generalize hm:SetTable.sizeAbove wanted - 1=m at *
 let f:Nat→Option Nat:=fun j=>owner.getD j none
 have r1:t.relaid (es.map (·.1)) wanted=some ({ mask:=m,place:=((List.range (m+1)).filter fun j=>(f j).isSome).toArray,dummies:=#[],finger:=t.finger,led:=t.led,moves:=t.movedTo m,plain:=t.plain },(vals m owner).toArray):=by
  unfold SetTable.relaid SetTable.laid
  rw [hm,e1]
  show some _=some _
  rw [← jm f,show vals m owner=(List.range (m+1)).filterMap f from rfl,← jl f]
 have po:((vals m owner).toArray.filterMap (fun (i:Nat)=>es[i]?)).toList.Perm es.toList:=by
  rw [Array.toList_filterMap]
  refine (e3.filterMap _).trans (List.Perm.of_eq ?_)
  have:(fun (i:Nat)=>es[i]?)=fun (i:Nat)=>es.toList[i]?:=by funext i;rw [Array.getElem?_toList]
  rw [this,← Array.length_toList,sm]
 have lpl:((List.range (m+1)).filter fun j=>(f j).isSome).length=es.size:=by
  rw [← jm f,List.length_map,← List.length_map (f:=(·.2)),jl f]
  show (vals m owner).length=es.size
  rw [e3.length_eq,List.length_range]
 have so:((vals m owner).toArray.filterMap (fun (i:Nat)=>es[i]?)).size=es.size:=by
  rw [← Array.length_toList,po.length_eq,Array.length_toList]
 refine ⟨_,{ mask:=m,place:=((List.range (m+1)).filter fun j=>(f j).isSome).toArray,dummies:=#[],finger:=t.finger,led:=t.led,moves:=t.movedTo m,plain:=t.plain },(List.range (m+1)).filter fun j=>(f j).isSome,?_,po,rfl,?_,lpl,rfl,rfl,rfl,rfl⟩
 ·unfold relayAll
  rw [r1]
  dsimp only
  have c1:coversAll (vals m owner).toArray es.size=true:=by
   unfold coversAll
   rw [List.isPerm_iff]
   exact e3
  have c2:SetTable.fits { mask:=m,place:=((List.range (m+1)).filter fun j=>(f j).isSome).toArray,dummies:=#[],finger:=t.finger,led:=t.led,moves:=t.movedTo m,plain:=t.plain } ((vals m owner).toArray.filterMap (fun (i:Nat)=>es[i]?)).size=true:=by
   unfold SetTable.fits SetTable.fill
   rw [so]
   simp only [List.size_toArray,lpl]
   simpa using hn
  rw [c1,c2]
  rfl
 ·exact List.Pairwise.filter _ List.pairwise_lt_range
end ZS
namespace ZS
open PySem
end ZS
namespace ZS
open PySem
end ZS
namespace L2
open PySem PySem.Spec PyProof.Rows ZS
def e_ (m:Nat):Bool:=m == 7 || m == 31 || m == 127 || m == 511
theorem rM {m:Nat} (h:e_ m=true):full m=true:=by
 simp only [e_,Bool.or_eq_true,beq_iff_eq] at h
 rcases h with ((h | h) | h) | h<;>subst h
 ·exact D6
 ·exact De
 ·exact zV
 ·exact zM
def iZ (w:World) (h:Heap) (a:Addr) (ks:List Int):Prop:=
 ∃ (o:Obj) (es:Array (Int×Value)) (ep:Nat) (t:SetTable) (pl:List Nat),h.get? a=some o∧o.ExactSet∧o.data=.set es ep t∧e_ t.mask=true∧t.dummies=#[]∧t.plain=true∧t.led=!(w.params.followText "set-order") ∧
  t.place=pl.toArray∧(Ri pl∧pl.length=ks.length∧ks.length * 5 < t.mask * 3)∧IntsAre (es.toList.map Prod.snd) ks∧(∀ e∈es.toList,∃ k,Value.isInt k e.2=true∧e.1=hashInt k)∧ks.Nodup∧ks.length≤300
theorem dY:∀ {vs:List Value} {ns:List Int},IntsAre vs ns→vs.length=ns.length
 | _,_,.nil=>rfl
 | _,_,.cons n t r=>by simp [dY r]
theorem fits_of {t:SetTable} {n:Nat} (h2:t.dummies=#[]) (h3:t.place.size=n) (hn:n≤t.mask):t.fits n=true:=by
 unfold SetTable.fits SetTable.fill
 rw [h2,h3]
 simp
 omega
theorem iu {k:Int} {t:Tok}:Value.isInt k (.int k t)=true:=by simp [Value.isInt]
theorem isInt_iff {k j:Int} {t:Tok}:Value.isInt k (.int j t)=true↔k=j:=by
 constructor
 ·intro h
  obtain ⟨t',e⟩:=Value.isInt_shape h
  cases e;rfl
 ·rintro rfl;exact iu
theorem kc:∀ {es:List (Int×Value)} {ks:List Int} {k:Int},IntsAre (es.map Prod.snd) ks→(k∈ks↔(es.findIdx? fun e=>Value.isInt k e.2).isSome=true)
 | [],_,k,r=>by cases r;simp
 | e :: es,_,k,r=>by
  obtain ⟨h,v⟩:=e
  cases r with
  | cons n t r=>
   have ih:=kc (k:=k) r
   rw [List.findIdx?_cons]
   by_cases hk:k=n
   ·subst hk
    simp [iu]
   ·have:Value.isInt k (.int n t)=false:=by rw [← Bool.not_eq_true,isInt_iff];exact hk
    simp only [this,List.mem_cons,hk,false_or]
    rw [ih]
    simp
theorem jC {α:Type} (xs:Array α) (p:Nat) (x:α) (hp:p≤xs.size):(SetTable.insertAt xs p x).toList=xs.toList.take p++x :: xs.toList.drop p:=by
 unfold SetTable.insertAt
 simp
 rw [List.take_of_length_le (by simp)]
section
variable {prog:Program} {w:World} {A:Around} {E:Value→Shared→Prop} {s:Shared}
theorem IntsAre.app:∀ {vs us:List Value} {ns ms:List Int},IntsAre vs ns→IntsAre us ms→IntsAre (vs++us) (ns++ms)
 | _,_,_,_,.nil,r=>r
 | _,_,_,_,.cons n t q,r=>.cons n t (IntsAre.app q r)
theorem IntsAre.yG:∀ {vs:List Value} {ns:List Int} (p:Nat),IntsAre vs ns→IntsAre (vs.take p) (ns.take p)
 | _,_,0,_=>.nil
 | _,_,_+1,.nil=>.nil
 | _,_,p+1,.cons n t q=>.cons n t (IntsAre.yG p q)
theorem IntsAre.yp:∀ {vs:List Value} {ns:List Int} (p:Nat),IntsAre vs ns→IntsAre (vs.drop p) (ns.drop p)
 | _,_,0,r=>r
 | _,_,_+1,.nil=>.nil
 | _,_,p+1,.cons _ _ q=>IntsAre.yp p q
theorem oD:∀ {vs us:List Value},List.Perm vs us→∀ {ns:List Int},IntsAre us ns→∃ ms,IntsAre vs ms∧List.Perm ms ns:=by
 intro vs us hp
 induction hp with
 | nil=>intro ns r;exact ⟨ns,r,.refl _⟩
 | cons x _ ih=>
  intro ns r
  cases r with
  | cons n t r=>
   obtain ⟨ms,a,b⟩:=ih r
   exact ⟨n :: ms,.cons n t a,b.cons n⟩
 | swap x y l=>
  intro ns r
  cases r with
  | cons n t r=>cases r with
   | cons n' t' r=>exact ⟨n' :: n :: _,.cons n' t' (.cons n t r),.swap ..⟩
 | trans _ _ ih1 ih2=>
  intro ns r
  obtain ⟨ms,a,b⟩:=ih2 r
  obtain ⟨ms',a',b'⟩:=ih1 a
  exact ⟨ms',a',b'.trans b⟩
theorem x_ {t':SetTable} {es':Array (Int×Value)} {n:Nat} (hm:e_ t'.mask=true) (hn:es'.size=n) (h1:¬n * 5 < t'.mask * 3) (h2:n * 5 < t'.mask * 3+5) (h3:n≤300) :
  e_ (SetTable.sizeAbove (SetTable.grown n) - 1)=true∧n * 5 < (SetTable.sizeAbove (SetTable.grown n) - 1) * 3:=by
 simp only [e_,Bool.or_eq_true,beq_iff_eq] at hm
 rcases hm with ((hm | hm) | hm) | hm<;>rw [hm] at h1 h2
 ·have:n=5:=by omega
  subst this;decide +kernel
 ·have:n=19:=by omega
  subst this;decide +kernel
 ·have:n=77:=by omega
  subst this;decide +kernel
 ·omega
theorem wY {a:Addr} {ks:List Int} {k:Int} {tk:Tok} {Q:Bool→Shared→Prop} (hS:iZ w s.heap a ks) (hl:k∉ks→ks.length < 300)
  (h:∀ (h':Heap) (ks':List Int) (b:Bool),Heap.SameBut a s.heap h'→iZ w h' a ks'→(∀ x,x∈ks'↔x∈ks∨x=k)→(k∈ks→ks'.length=ks.length)→(k∉ks→ks'.length=ks.length+1)→Q b { s with heap:=h',toks:=s.toks+1 }) :
  wpAny (model prog w) A (setAdd a (.int k tk)) Q E s:=by
 obtain ⟨o,es,ep,t,pl,g1,g2,g3,g4,g5,g6,g7,g8,g9,g10,g11,g12,g13⟩:=hS
 obtain ⟨g9,lpl,g14⟩:=g9
 have hmask:=rM g4
 have lks:es.size=ks.length:=by
  have:=dY g10
  rw [List.length_map,Array.length_toList] at this
  exact this
 have hmk:7≤t.mask:=by
  have q:=g4
  simp only [e_,Bool.or_eq_true,beq_iff_eq] at q
  omega
 have hfit:t.fits es.size=true:=fits_of g5 (by rw [g8,lks];simpa using lpl) (by omega)
 have hel:ElemsOf (intKind prog w) es.toList:=fun e he=>by
  obtain ⟨k',e1,e2⟩:=g11 e he
  refine ⟨⟨k',e1,e2⟩,?_⟩
  obtain ⟨t',e'⟩:=Value.isInt_shape e1
  rw [e'];rfl
 have hint:(intKind prog w).is k (.int k tk)=true:=iu (k:=k) (t:=tk)
 unfold setAdd
 refine wpAny_holding (wpAny_bind ((intKind prog w).pyHash (k:=k) (v:=.int k tk) hint ?_))
 unfold setAddHashed
 refine wpAny_holding ?_
 show wpAny _ _ (setAddHashedIn a (.int k tk) _ (99999+1)) _ _ _
 rw [setAddHashedIn.eq_2]
 refine wpAny_bind (wpAny_setState_of g1 g3 hfit ?_)
 show wpAny _ _ (if byScan (.int k tk) es=true then _ else _) _ _ _
 rw [if_pos (byScan_of (knd:=intKind prog w) rfl (by unfold scanBound;omega) hel)]
 refine wpAny_bind ?_
 unfold setAddByScan
 refine wpAny_bind (wpAny_rule (wpAny_bind (wpAny_setScan_of (knd:=intKind prog w) (k:=k) hint g1 g3 hfit hel ?_)))
 have hfi:=kc (k:=k) g10
 by_cases hm:k∈ks
 ·have hs:=hfi.mp hm
  cases hf:List.findIdx? (fun e=>(intKind prog w).is k e.snd) es.toList with
  | none=>
   have hf':List.findIdx? (fun e:Int×Value=>Value.isInt k e.2) es.toList=none:=hf
   rw [hf'] at hs;cases hs
  | some j=>
   refine wpAny_pure (wpAny_pure ?_)
   exact h s.heap ks false (Heap.SameBut.refl ..) ⟨o,es,ep,t,pl,g1,g2,g3,g4,g5,g6,g7,g8,⟨g9,lpl,g14⟩,g10,g11,g12,g13⟩ (fun x=>⟨.inl,fun z=>z.elim id fun e=>e ▸ hm⟩) (fun _=>rfl) (fun z=>absurd hm z)
 ·have hl3:=hl hm
  have hnone:List.findIdx? (fun e=>(intKind prog w).is k e.snd) es.toList=none:=by
   have hf':List.findIdx? (fun e:Int×Value=>Value.isInt k e.2) es.toList=none:=by
    cases hf:List.findIdx? (fun e:Int×Value=>Value.isInt k e.2) es.toList with
    | none=>rfl
    | some j=>exact absurd (hfi.mpr (by rw [hf];rfl)) hm
   exact hf'
  rw [hnone]
  obtain ⟨j,hfree,hjl⟩:=ve g8 g9 g5 hmask (show pl.length≤t.mask by omega) (hashInt k)
  obtain ⟨p,hple,hpb,hpa,hpc⟩:=uS g9 j
  have hp:SetTable.below pl.toArray j=p:=hpb
  have les0:es.size=pl.length:=by omega
  have riN:Ri (pl.take p++j :: pl.drop p):=vX g9 hjl hpa hpc
  have liN:(SetTable.insertAt pl.toArray p j).toList=pl.take p++j :: pl.drop p:=by
   have:=jC pl.toArray p j (by simpa using hple)
   simpa using this
  refine show _ from ?_
  ·have hput:t.put j=({ mask:=t.mask,place:=SetTable.insertAt t.place p j,dummies:=#[],finger:=t.finger,led:=t.led,moves:=t.moves,plain:=t.plain },p):=by
    unfold SetTable.put
    rw [g8,hp,g5]
    rfl
   generalize ht':({ mask:=t.mask,place:=SetTable.insertAt t.place p j,dummies:=#[],finger:=t.finger,led:=t.led,moves:=t.moves,plain:=t.plain }:SetTable)=t' at hput
   have m1:t'.mask=t.mask:=by rw [← ht']
   have m2:t'.dummies=#[]:=by rw [← ht']
   have m3:t'.plain=true:=by rw [← ht'];exact g6
   have m4:t'.led=!(w.params.followText "set-order"):=by rw [← ht'];exact g7
   have m5:t'.place=(pl.take p++j :: pl.drop p).toArray:=by rw [← ht',g8,← liN]
   have lpl':(pl.take p++j :: pl.drop p).length=ks.length+1:=by simp;omega
   have les:(SetTable.insertAt es p (hashInt k,Value.int k tk)).toList=es.toList.take p++(hashInt k,Value.int k tk) :: es.toList.drop p:=jC _ _ _ (by omega)
   generalize hes:SetTable.insertAt es p (hashInt k,Value.int k tk)=es' at les
   have lsz:es'.size=ks.length+1:=by
    rw [← Array.length_toList,les]
    simp
    omega
   have hfit':t'.fits es'.size=true:=fits_of m2 (by rw [m5,lsz];simpa using lpl') (by omega)
   have hlay:layNew t es (hashInt k) (.int k tk)=(es',t',false,false):=by
    unfold layNew
    rw [hfree]
    simp only [hput,hes]
    unfold SetTable.orStandIn
    rw [if_pos hfit',hfit']
    rfl
   have hlay2:layNew t es ((intKind prog w).hash k) (.int k tk)=(es',t',false,false):=hlay
   rw [hlay2]
   dsimp only
   refine wpAny_bind (wpAny_pure ?_)
   rw [if_pos m3,hashByValue_scannable 8 (x:=.int k tk) rfl]
   refine wpAny_bind (wpAny_pure ?_)
   have hpk:plainKind (Value.int k tk)=true:=rfl
   rw [if_pos hpk]
   have h1000:(1000:Nat)≤sizeLine:=Nat.le_of_lt (jN (Nat.le_refl 1000))
   have hsz:¬es'.size > sizeLine:=by rw [lsz];omega
   have i1:IntsAre (es'.toList.map Prod.snd) (ks.take p++k :: ks.drop p):=by
    rw [les,List.map_append,List.map_cons,List.map_take,List.map_drop]
    exact IntsAre.app (IntsAre.yG p g10) (.cons k tk (IntsAre.yp p g10))
   have i2:∀ e∈es'.toList,∃ k,Value.isInt k e.2=true∧e.1=hashInt k:=by
    intro e he
    rw [les] at he
    rcases List.mem_append.mp he with z | z
    ·exact g11 e (List.mem_of_mem_take z)
    ·rcases List.mem_cons.mp z with z | z
     ·rw [z];exact ⟨k,iu,rfl⟩
     ·exact g11 e (List.mem_of_mem_drop z)
   have hperm:List.Perm (ks.take p++k :: ks.drop p) (k :: ks):=by
    have:=List.perm_middle (a:=k) (l₁:=ks.take p) (l₂:=ks.drop p)
    rw [List.take_append_drop] at this
    exact this
   have kl:(ks.take p++k :: ks.drop p).length=ks.length+1:=by rw [hperm.length_eq];rfl
   have i3:(ks.take p++k :: ks.drop p).Nodup:=by
    rw [hperm.nodup_iff,List.nodup_cons]
    exact ⟨hm,g12⟩
   have i4:∀ x,x∈ks.take p++k :: ks.drop p↔x∈ks∨x=k:=by
    intro x
    rw [hperm.mem_iff,List.mem_cons]
    exact or_comm
   generalize hks:ks.take p++k :: ks.drop p=ks' at i1 kl i3 i4
   have hfill:t'.fill=ks.length+1:=by
    unfold SetTable.fill
    rw [m2,m5]
    simp only [List.size_toArray,lpl']
    rfl
   have putS:∀ (e2:Array (Int×Value)) (t2:SetTable) (o2:Obj) (e1:Array (Int×Value)) (n1:Nat) (t1:SetTable),o2.data=.set e1 n1 t1→Obj.putSet e2 t2 o2={ o2 with data:=.set e2 (n1+1) t2 }:=by
    intro e2 t2 o2 e1 n1 t1 hd
    obtain ⟨oc,od,oda,osl⟩:=o2
    have hd':oda=.set e1 n1 t1:=hd
    subst hd'
    rfl
   refine wpAny_bind ?_
   unfold storeSet
   refine wpAny_bind (wpAny_load' g1 ?_)
   rw [g3]
   dsimp only
   rw [if_neg hsz]
   refine wpAny_update' g1 ?_
   have hupd:=putS es' t' o es ep t g3
   have gN:(s.heap.update a (Obj.putSet es' t')).get? a=some { o with data:=.set es' (ep+1) t' }:=by
    rw [← hupd]
    exact Heap.get?_update_self _ g1 (by rw [hupd];rfl)
   have sbN:Heap.SameBut a s.heap (s.heap.update a (Obj.putSet es' t')):=Heap.SameBut.update ..
   by_cases hfull:(ks.length+1) * 5 < t.mask * 3
   ·have hf0:(!false && t'.tooFull)=false:=by
     unfold SetTable.tooFull
     rw [hfill,m1]
     simp
     omega
    rw [hf0]
    rw [if_neg (by simp)]
    refine wpAny_pure (wpAny_pure ?_)
    exact h _ ks' true sbN ⟨_,es',ep+1,t',_,gN,g2,rfl,by rw [m1];exact g4,m2,m3,m4,m5,⟨riN,by rw [lpl',kl],by rw [kl,m1];exact hfull⟩,i1,i2,i3,by omega⟩ i4 (fun z=>absurd z hm) (fun _=>kl)
   ·have hf1:(!false && t'.tooFull)=true:=by
     unfold SetTable.tooFull
     rw [hfill,m1]
     simp
     omega
    rw [hf1]
    rw [if_pos rfl]
    obtain ⟨w1,w2⟩:=x_ (t':=t') (es':=es') (n:=ks.length+1) (by rw [m1];exact g4) lsz (by rw [m1];exact hfull) (by rw [m1];omega) (by omega)
    rw [lsz]
    obtain ⟨e2,t2,l2,r1,r2,r3,r4,r5,r6,r7,r8,r9⟩:=xm (t:=t') (es:=es') (wanted:=SetTable.grown (ks.length+1)) (rM w1) (by rw [lsz];omega)
    rw [r1]
    dsimp only
    have lsz2:e2.size=ks.length+1:=by rw [← Array.length_toList,r2.length_eq,Array.length_toList,lsz]
    obtain ⟨ks2,j1,j2⟩:=oD (r2.map Prod.snd) i1
    refine wpAny_bind (wpAny_pure ?_)
    refine wpAny_bind ?_
    refine wpAny_bind (wpAny_load' gN ?_)
    dsimp only
    rw [if_neg (by rw [lsz2];omega)]
    refine wpAny_update' gN ?_
    refine wpAny_pure (wpAny_pure ?_)
    have gM:((s.heap.update a (Obj.putSet es' t')).update a (Obj.putSet e2 t2)).get? a=some { o with data:=.set e2 (ep+1+1) t2 }:=by
     have hq:=putS e2 t2 { o with data:=.set es' (ep+1) t' } es' (ep+1) t' rfl
     rw [← hq]
     exact Heap.get?_update_self _ gN (by rw [hq];rfl)
    refine h _ ks2 true (sbN.trans (Heap.SameBut.update ..)) ⟨_,e2,ep+1+1,t2,l2,gM,g2,rfl,by rw [r7];exact w1,r6,by rw [r8];exact m3,by rw [r9];exact m4,r3,⟨r4,by rw [r5,lsz,j2.length_eq,kl],by rw [r7,j2.length_eq,kl];exact w2⟩,j1,fun e he=>i2 e (r2.mem_iff.mp he),j2.nodup_iff.mpr i3,by rw [j2.length_eq,kl];omega⟩ (fun x=>by rw [j2.mem_iff];exact i4 x) (fun z=>absurd z hm) (fun _=>by rw [j2.length_eq,kl])
end
section
variable {prog:Program} {w:World} {A:Around} {E:Value→Shared→Prop} {s:Shared}
theorem iZ.at {h h':Heap} {S:Addr} {ks:List Int} (H:iZ w h S ks) (k:∀ o,h.get? S=some o→h'.get? S=some o):iZ w h' S ks:=by
 obtain ⟨o,es,ep,t,pl,g1,r⟩:=H
 exact ⟨o,es,ep,t,pl,k o g1,r⟩
theorem nQ {R:Result→Shared→Prop} {I:Addr} {fp wr:List Addr} {n:Nat} {P:Nat→Value→Prop} {St:Nat→Heap→Prop} (W:Walks prog w A.in1 I fp wr n P St) (S:Addr) (hSf:S∉fp) (val:Nat→Int) (hval:∀ i v,P i v→∃ t,v=Value.int (val i) t) (hn:n≤300) :
  ∀ (k i:Nat) (s:Shared) (ks:List Int),n - i=k→i≤n→St i s.heap→iZ w s.heap S ks→(∀ x,x∈ks↔∃ j,j < i∧val j=x)→ks.length≤i →
   (∀ (h':Heap) (tk:Nat) (ks':List Int),(∀ b o,b≠S→b∉wr→s.heap.get? b=some o→h'.get? b=some o)→iZ w h' S ks'→(∀ x,x∈ks'↔∃ j,j < n∧val j=x)→R (.ok (.ret .none)) { s with heap:=h',toks:=tk }) →
   codeAny (model prog w) A (Code.builtin "set.update.loop" ⟨[.ref S,.ref I],[]⟩) R s:=by
 have hSw:S∉wr:=fun h=>hSf (W.sub S h)
 intro k
 induction k with
 | zero=>
  intro i s ks hk hi hst hS hks hlen hR
  have hin:i=n:=by omega
  subst hin
  refine codeAny_builtin F.entry_set_update_loop ?_
  rw [Around.under_plainId F.plain_set_update_loop]
  refine (show wpAny _ _ (pyNext (.ref I)>>=_) _ _ _ from wpAny_bind (W.done s _ _ hst fun h' tk hk'=>?_))
  exact wpAny_pure (hR h' tk ks (fun b o _ hw e=>hk' b o hw e) (hS.at fun o e=>hk' S o hSw e) hks)
 | succ k ih=>
  intro i s ks hk hi hst hS hks hlen hR
  refine codeAny_builtin F.entry_set_update_loop ?_
  rw [Around.under_plainId F.plain_set_update_loop]
  refine (show wpAny _ _ (pyNext (.ref I)>>=_) _ _ _ from wpAny_bind (W.item i s _ _ (by omega) hst fun v h' tk hP hst' hk'=>?_))
  obtain ⟨t,rfl⟩:=hval i v hP
  refine (show wpAny _ _ (holding [Value.int (val i) t] (setAdd S (.int (val i) t))>>=_) _ _ _ from wpAny_bind (wpAny_holding ?_))
  refine wY (s:={ s with heap:=h',toks:=tk }) (hS.at fun o e=>hk' S o hSw e) (fun _=>by omega) fun h2 ks2 b sb hS2 hm l1 l2=>?_
  refine wpAny_pure ⟨plainId_quiet F.plain_set_update_loop _,ih (i+1) _ ks2 (by omega) (by omega) ?_ hS2 ?_ ?_ fun h3 tk3 ks3 q1 q2 q3=>?_⟩
  ·exact W.frame _ _ _ hst' fun b hb' o e=>sb.extBut b o (fun z=>hSf (z ▸ hb')) e
  ·intro x
   rw [hm,hks]
   constructor
   ·rintro (⟨j,h1,h2⟩ | rfl)
    ·exact ⟨j,by omega,h2⟩
    ·exact ⟨i,by omega,rfl⟩
   ·rintro ⟨j,h1,h2⟩
    by_cases e:j=i
    ·subst e;exact .inr h2.symm
    ·exact .inl ⟨j,by omega,h2⟩
  ·by_cases hin:val i∈ks
   ·have:=l1 hin;omega
   ·have:=l2 hin;omega
  ·exact hR h3 tk3 ks3 (fun b o hb1 hb2 e=>q1 b o hb1 hb2 (sb.extBut b o hb1 (hk' b o hb2 e))) q2 q3
theorem oz (a:Value) {Q₁:Value→Shared→Prop}
  (h:Q₁ (.ref s.heap.objs.size) { s with heap:=s.heap.push { cls:=.type "set",data:=.set #[] 0 (SetTable.fresh 0 0 (!(w.params.followText "set-order"))) } }) :
  codeAny (model prog w) A (Code.call (.builtin "set.__new__") ⟨[.type "set",a],[]⟩) (wants Q₁ E) s:=by
 refine codeAny_of_tree ?_
 refine (show wpAny _ _ (checkBuiltinCall "set.__new__" ⟨[.type "set",a],[]⟩>>=_) _ _ _ from wpAny_bind (wpAny_of_eq (F.newCall_set_1 a) (wpAny_pure ⟨plainId_quiet F.plain_set_new _,codeAny_builtin F.entry_set_new ?_⟩)))
 rw [Around.under_plainId F.plain_set_new]
 have hsub:=sub_set_self
 refine (show wpAny _ _ (Builtin.Frozenset.newClass "set" _>>=_) _ _ _ from wpAny_bind ?_)
 unfold Builtin.Frozenset.newClass
 refine wpAny_bind (wpAny_pure ?_)
 refine wpAny_ite_false rfl (wpAny_bind (wpAny_of_eq hsub (wpAny_ite_false rfl (wpAny_pure ?_))))
 refine (show wpAny _ _ (newSet (.type "set")>>=_) _ _ _ from wpAny_bind ?_)
 unfold newSet
 refine wpAny_bind ?_
 unfold setsByText
 refine wpAny_bind (wpAny_askSetting (wpAny_pure ?_))
 exact (show wpAny _ _ (newObj (.type "set") (Data.set #[] 0 (SetTable.fresh 0 0 (!(w.params.followText "set-order"))))) _ _ _ from wpAny_newObj_type (wpAny_pure h) (by first | size_fits | (intro _;decide)))
theorem iG:∀ {vs:List Value} {ns:List Int} {i:Nat} {v:Value},IntsAre vs ns→vs[i]?=some v→∃ t,v=Value.int (ns.getD i 0) t
 | _,_,_,_,.nil,e=>by simp at e
 | _,_,0,_,.cons n t _,e=>⟨t,by simpa using e.symm⟩
 | _,_,i+1,v,.cons n t r,e=>by
  obtain ⟨t',e'⟩:=iG (i:=i) (v:=v) r (by simpa using e)
  exact ⟨t',by simpa using e'⟩
def qM (h:Heap) (l:Addr) (items:Array Value) (k:Bool):Prop:=if k=true then h.IsList l items else h.IsTuple l items
theorem vD {S l:Addr} {items:Array Value} {ns:List Int} {F:PySem.Fin→Shared→Prop} {hp:Heap} {g:Array GenState} {d:Drawn} {tk:Nat} {os:OsState} (hh:A.handled=none) (hS:hp.get? S=some { cls:=.type "set",data:=.set #[] 0 (SetTable.fresh 0 0 (!(w.params.followText "set-order"))) }) (k:Bool) (hl:qM hp l items k) (hi:IntsAre items.toList ns) (hn:ns.length≤300)
    (h:∀ (h':Heap) (tk':Nat) (ks:List Int),iZ w h' S ks→(∀ x,x∈ks↔x∈ns)→(∀ b o,b≠S→hp.get? b=some o→h'.get? b=some o)→F (.done (.ret .none)) ⟨h',g,d,tk',os⟩) :
    wpAny (model prog w) A (Builtin.«set.__init__» ⟨[.ref S,.ref l],[]⟩) F E ⟨hp,g,d,tk,os⟩:=by
  cases k with
  | false=>
    replace hl:hp.IsTuple l items:=hl
    have hT:Shared.TypeIs ⟨hp,g,d,tk,os⟩ (.ref S) "set":=⟨_,hS,rfl⟩
    have hTt:Shared.TypeIs ⟨hp,g,d,tk,os⟩ (.ref l) "tuple":=hl.typeIs
    unfold Builtin.«set.__init__»
    refine wpAny_bind ?_
    unfold noKeywords
    refine wpAny_ite_true rfl (wpAny_pure ?_)
    dsimp only
    refine wpAny_bind ?_
    unfold typeNameOfCut
    refine wpAny_bind ?_
    unfold shownTypeOf
    refine wpAny_bind (wpAny_typeOf hT ?_)
    first
    | refine wpAny_ite_false rfl (wpAny_pure ?_)
    | refine wpAny_pure ?_
    refine (show wpAny _ _ (pure _) _ _ _ from wpAny_pure ?_)
    refine wpAny_bind ?_
    unfold checkCount
    refine wpAny_ite_false rfl (wpAny_ite_false rfl (wpAny_ite_false rfl (wpAny_pure ?_)))
    refine wpAny_bind (wpAny_pure ?_)
    refine wpAny_bind ?_
    unfold setUsed
    refine wpAny_bind (wpAny_setState_of hS rfl (by rfl) (wpAny_pure ?_))
    refine wpAny_ite_false rfl ?_
    refine wpAny_bind ?_
    unfold Builtin.Frozenset.updateFrom
    refine wpAny_bind ?_
    unfold Builtin.Frozenset.isAnySet
    refine (show wpAny _ _ (isInstance (.ref l) (.type "set")>>=_) _ _ _ from wpAny_bind (wpAny_isInstance hTt PySem.F.sub_tuple_set ?_))
    refine (show wpAny _ _ (isInstance (.ref l) (.type "frozenset")) _ _ _ from wpAny_isInstance hTt PySem.F.sub_tuple_frozenset ?_)
    refine wpAny_ite_false rfl (wpAny_bind (wpAny_typeOf hTt (wpAny_ite_false rfl (wpAny_bind (wpAny_pyIter_tuple hl ?_)))))
    refine wpAny_bind (wpAny_runValue ?_)
    have hlt:S < hp.objs.size:=Heap.lt_size hS
    obtain ⟨o,ho,hor⟩:=hl
    have hlt2:l < hp.objs.size:=Heap.lt_size ho
    have hne:l≠hp.objs.size:=Nat.ne_of_lt hlt2
    have W:=Walks.tuple (prog:=prog) (w:=w) (A:=A.in1) hh hp.objs.size l hne items
    have lit:items.size=ns.length:=by rw [← Array.length_toList];exact dY hi
    have hSl:S≠l:=fun e=>by
      rw [e,ho] at hS
      cases hS
      exact absurd (Value.type.inj hor.1) (by decide)
    refine nQ W S (by simp only [List.mem_cons,List.not_mem_nil,or_false,not_or];exact ⟨Nat.ne_of_lt hlt,hSl⟩) (fun i=>ns.getD i 0) ?_ (by omega) items.size 0 _ [] (by omega) (Nat.zero_le _) ?_ ?_ ?_ (Nat.le_refl 0) ?_
    · intro i v hv
      exact iG hi (by simpa using hv)
    · exact ⟨⟨_,Heap.get?_push_size _ rfl,rfl,rfl⟩,⟨o,Heap.get?_push_of_some _ ho,hor⟩⟩
    · refine ⟨_,#[],0,_,[],Heap.get?_push_of_some _ hS,⟨rfl,rfl,rfl⟩,rfl,(show e_ 7=true by decide),rfl,rfl,rfl,rfl,⟨List.Pairwise.nil,rfl,(show 0 * 5 < 7 * 3 by decide)⟩,.nil,by simp,List.nodup_nil,by simp⟩
    · intro x
      simp
    · intro h' tk' ks' q1 q2 q3
      refine wpAny_pure (wpAny_pure (h h' tk' ks' q2 ?_ ?_))
      · intro x
        rw [q3]
        constructor
        · rintro ⟨j,hj,rfl⟩
          show ns.getD j 0∈ns
          rw [List.getD_eq_getElem?_getD,List.getElem?_eq_getElem (show j < ns.length by omega)]
          exact List.getElem_mem _
        · intro hx
          obtain ⟨j,hj,e⟩:=List.mem_iff_getElem.mp hx
          refine ⟨j,by omega,?_⟩
          show ns.getD j 0=x
          rw [List.getD_eq_getElem?_getD,List.getElem?_eq_getElem hj]
          exact e
      · intro b o' hbS e
        refine q1 b o' hbS ?_ (Heap.get?_push_of_some _ e)
        simp only [List.mem_singleton]
        exact Nat.ne_of_lt (Heap.lt_size e)
  | true=>
    replace hl:hp.IsList l items:=hl
    have hT:Shared.TypeIs ⟨hp,g,d,tk,os⟩ (.ref S) "set":=⟨_,hS,rfl⟩
    have hTt:Shared.TypeIs ⟨hp,g,d,tk,os⟩ (.ref l) "list":=hl.typeIs
    unfold Builtin.«set.__init__»
    refine wpAny_bind ?_
    unfold noKeywords
    refine wpAny_ite_true rfl (wpAny_pure ?_)
    dsimp only
    refine wpAny_bind ?_
    unfold typeNameOfCut
    refine wpAny_bind ?_
    unfold shownTypeOf
    refine wpAny_bind (wpAny_typeOf hT ?_)
    first
    | refine wpAny_ite_false rfl (wpAny_pure ?_)
    | refine wpAny_pure ?_
    refine (show wpAny _ _ (pure _) _ _ _ from wpAny_pure ?_)
    refine wpAny_bind ?_
    unfold checkCount
    refine wpAny_ite_false rfl (wpAny_ite_false rfl (wpAny_ite_false rfl (wpAny_pure ?_)))
    refine wpAny_bind (wpAny_pure ?_)
    refine wpAny_bind ?_
    unfold setUsed
    refine wpAny_bind (wpAny_setState_of hS rfl (by rfl) (wpAny_pure ?_))
    refine wpAny_ite_false rfl ?_
    refine wpAny_bind ?_
    unfold Builtin.Frozenset.updateFrom
    refine wpAny_bind ?_
    unfold Builtin.Frozenset.isAnySet
    refine (show wpAny _ _ (isInstance (.ref l) (.type "set")>>=_) _ _ _ from wpAny_bind (wpAny_isInstance hTt PySem.F.sub_list_set ?_))
    refine (show wpAny _ _ (isInstance (.ref l) (.type "frozenset")) _ _ _ from wpAny_isInstance hTt PySem.F.sub_list_frozenset ?_)
    refine wpAny_ite_false rfl (wpAny_bind (wpAny_typeOf hTt (wpAny_ite_false rfl (wpAny_bind (wpAny_pyIter_list hl ?_)))))
    refine wpAny_bind (wpAny_runValue ?_)
    have hlt:S < hp.objs.size:=Heap.lt_size hS
    obtain ⟨o,ho,hor⟩:=hl
    have hlt2:l < hp.objs.size:=Heap.lt_size ho
    have hne:l≠hp.objs.size:=Nat.ne_of_lt hlt2
    have W:=Walks.list (prog:=prog) (w:=w) (A:=A.in1) hh hp.objs.size l hne items
    have lit:items.size=ns.length:=by rw [← Array.length_toList];exact dY hi
    have hSl:S≠l:=fun e=>by
      rw [e,ho] at hS
      cases hS
      exact absurd (Value.type.inj hor.1) (by decide)
    refine nQ W S (by simp only [List.mem_cons,List.not_mem_nil,or_false,not_or];exact ⟨Nat.ne_of_lt hlt,hSl⟩) (fun i=>ns.getD i 0) ?_ (by omega) items.size 0 _ [] (by omega) (Nat.zero_le _) ?_ ?_ ?_ (Nat.le_refl 0) ?_
    · intro i v hv
      exact iG hi (by simpa using hv)
    · exact ⟨⟨_,Heap.get?_push_size _ rfl,rfl,rfl⟩,⟨o,Heap.get?_push_of_some _ ho,hor⟩⟩
    · refine ⟨_,#[],0,_,[],Heap.get?_push_of_some _ hS,⟨rfl,rfl,rfl⟩,rfl,(show e_ 7=true by decide),rfl,rfl,rfl,rfl,⟨List.Pairwise.nil,rfl,(show 0 * 5 < 7 * 3 by decide)⟩,.nil,by simp,List.nodup_nil,by simp⟩
    · intro x
      simp
    · intro h' tk' ks' q1 q2 q3
      refine wpAny_pure (wpAny_pure (h h' tk' ks' q2 ?_ ?_))
      · intro x
        rw [q3]
        constructor
        · rintro ⟨j,hj,rfl⟩
          show ns.getD j 0∈ns
          rw [List.getD_eq_getElem?_getD,List.getElem?_eq_getElem (show j < ns.length by omega)]
          exact List.getElem_mem _
        · intro hx
          obtain ⟨j,hj,e⟩:=List.mem_iff_getElem.mp hx
          refine ⟨j,by omega,?_⟩
          show ns.getD j 0=x
          rw [List.getD_eq_getElem?_getD,List.getElem?_eq_getElem hj]
          exact e
      · intro b o' hbS e
        refine q1 b o' hbS ?_ (Heap.get?_push_of_some _ e)
        simp only [List.mem_singleton]
        exact Nat.ne_of_lt (Heap.lt_size e)
theorem vz {l:Addr} {items:Array Value} {ns:List Int} {Q:Value→Shared→Prop} (hh:A.handled=none) (k:Bool) (hl:qM s.heap l items k) (hi:IntsAre items.toList ns) (hn:ns.length≤300)
  (h:∀ (h':Heap) (tk:Nat) (ks:List Int),iZ w h' s.heap.objs.size ks→(∀ x,x∈ks↔x∈ns)→(∀ b o,s.heap.get? b=some o→h'.get? b=some o)→Q (.ref s.heap.objs.size) { s with heap:=h',toks:=tk }):wpAny (model prog w) A (call (.type "set") [.ref l]) Q E s:=by
 obtain ⟨c,tl,hmro⟩:=F.called_set.mro
 have hmade:=F.called_set.made
 have hsub:=F.called_set.sub
 have h1:=F.called_set.notType
 have h2:=F.called_set.canCreate
 have hct:=F.typeCall_set_1 (Value.ref l)
 refine wpAny_call (codeAny_of_tree ?_)
 refine (show wpAny _ _ (pure (Fin.again (Code.builtin "type.__call__" ⟨[.type "set",.ref l],[]⟩))) _ _ _ from wpAny_pure ⟨Code.quiet_builtin _ (by decide +kernel),codeAny_builtin F.entry_type_call ?_⟩)
 rw [Around.under_plain (weight_type_call_type "set" [Value.ref l] []) rfl]
 unfold Builtin.«type.__call__»
 dsimp only
 refine wpAny_ite_false rfl (wpAny_ite_false (by rw [h2];rfl) (wpAny_bind (wpAny_of_eq hct (wpAny_bind (wpAny_of_eq hmro (wpAny_ite_false rfl (wpAny_bind (wpAny_of_eq hmade ?_))))))))
 dsimp only
 refine wpAny_bind (wpAny_pure (wpAny_bind (wpAny_holding (wpAny_call (codeAny_mono (oz (E:=fun _ _=>False) (Q₁:=fun obj s₁=>obj=.ref s.heap.objs.size∧s₁={ s with heap:=s.heap.push { cls:=.type "set",data:=.set #[] 0 (SetTable.fresh 0 0 (!(w.params.followText "set-order"))) } }) (.ref l) ⟨rfl,rfl⟩) fun r s₁ hr=>?_)))))
 generalize hs1:({ s with heap:=s.heap.push { cls:=.type "set",data:=.set #[] 0 (SetTable.fresh 0 0 (!(w.params.followText "set-order"))) } }:Shared)=sN at hr
 cases r with
 | error e=>exact False.elim hr
 | ok f=>
  cases f with
  | ret v=>
   obtain ⟨e1,e2⟩:=hr
   subst e1 e2
   have hT:Shared.TypeIs s₁ (.ref s.heap.objs.size) "set":=by
    rw [← hs1]
    exact ⟨_,Heap.get?_push_size _ rfl,rfl⟩
   show wpAny _ _ _ _ _ _
   refine wpAny_bind (wpAny_isInstance (T:="set") (b:=true) hT hsub ?_)
   refine wpAny_ite_false rfl (wpAny_bind (wpAny_holding ?_))
   refine wpAny_callSpecial?_slot (name:=Str.ofString "__init__") hT F.called_set.init (wpAny_call (codeAny_call_builtin F.called_set.init.plain F.entry_set_init (check_set_init_1 hT ?_)))
   subst hs1
   obtain ⟨hp,g,d,tk,os⟩:=s
   refine vD (hp:=hp.push _) hh (Heap.get?_push_size _ rfl) k (by
    cases k with
    | false=>
     obtain ⟨o,e,r⟩:=(show Heap.IsTuple _ l items from hl)
     exact (show Heap.IsTuple _ l items from ⟨o,Heap.get?_push_of_some _ e,r⟩)
    | true=>
     obtain ⟨o,e,r⟩:=(show Heap.IsList _ l items from hl)
     exact (show Heap.IsList _ l items from ⟨o,Heap.get?_push_of_some _ e,r⟩)) hi hn fun h' tk' ks q1 q2 q3=>?_
   refine wpAny_ite_false rfl (wpAny_pure (h h' tk' ks q1 q2 fun b o e=>q3 b o (Nat.ne_of_lt (Heap.lt_size e)) (Heap.get?_push_of_some _ e)))
  | _=>exact False.elim hr
end
theorem md {α:Type}:∀ (l:List α) (k:Nat) (h:k < l.length),List.Perm (l[k] :: l.eraseIdx k) l
 | x :: l,0,_=>by simp
 | x :: l,k+1,h=>by
  have hk:k < l.length:=by simpa using h
  have ih:=md l k hk
  simp only [List.getElem_cons_succ,List.eraseIdx_cons_succ]
  exact (List.Perm.swap ..).trans (List.Perm.cons x ih)
section
variable {prog:Program} {w:World} {A:Around} {E:Value→Shared→Prop} {s:Shared}
abbrev BY (w:World):Bool:=w.params.followText "set-order"
structure Gf (w:World) (o:Obj) (es:Array (Int×Value)) (ep:Nat) (t:SetTable) (pl:List Nat):Prop where
 dat:o.data=.set es ep t
 cls:o.cls=.type "set"
 dum:t.dummies=#[]
 plain:t.plain=true
 led:t.led=!BY w
 place:t.place=pl.toArray
 ri:ZS.Ri pl
 lpl:pl.length=es.size
 room:es.size≤t.mask
 few:es.size≤300
end
end L2
namespace L2
open PySem PySem.Spec PyProof.Rows ZS
def hT (ks:List Int):Int:=reduceHash (Builtin.Tuple.tupleHashOf (ks.map hashInt))
section
variable {κ:Type} [DecidableEq κ]
def fV (kvs:List (κ×V)) (k:κ):Option V:=(kvs.find? fun kv=>decide (kv.1=k)).map (·.2)
def putK (kvs:List (κ×V)) (k:κ) (v:V):List (κ×V):=
 if (kvs.any fun kv=>decide (kv.1=k))=true then kvs.map (fun kv=>if kv.1=k then (kv.1,v) else kv) else kvs++[(k,v)]
theorem ja {p:κ×V} {r:List (κ×V)} {k:κ} (e:p.1=k):fV (p :: r) k=some p.2:=by simp [fV,List.find?_cons,e]
theorem hV {p:κ×V} {r:List (κ×V)} {k:κ} (e:¬p.1=k):fV (p :: r) k=fV r k:=by simp [fV,List.find?_cons,e]
theorem qj (k:κ):∀ kvs:List (κ×V),(kvs.any fun kv=>decide (kv.1=k))=(fV kvs k).isSome
 | []=>rfl
 | p :: r=>by
  rw [List.any_cons]
  by_cases e:p.1=k
  ·simp only [ja e,decide_eq_true e,Bool.true_or,Option.isSome_some]
  ·rw [hV e,decide_eq_false e,Bool.false_or];exact qj k r
theorem iF (kvs:List (κ×V)) (k:κ) (v:V):(putK kvs k v).length≤kvs.length+1:=by
 unfold putK
 split
 ·rw [List.length_map];omega
 ·rw [List.length_append,List.length_cons,List.length_nil];omega
theorem fC.kj {o:Option V} {u:Option Value} (r:fC o u):o.isSome=u.isSome:=by
 cases o with
 | none=>cases u with
  | none=>rfl
  | some _=>exact (show False from r).elim
 | some _=>cases u with
  | none=>exact (show False from r).elim
  | some _=>rfl
theorem fC.getD {o:Option V} {u:Option Value} {d:V} {d':Value} (r:fC o u) (rd:RelV d d'):RelV (o.getD d) (u.getD d'):=by
 cases o with
 | none=>cases u with
  | none=>exact rd
  | some _=>exact (show False from r).elim
 | some _=>cases u with
  | none=>exact (show False from r).elim
  | some _=>exact r
theorem KV.val {kvs:List (κ×V)} {vs:List (κ×Value)} (r:KV kvs vs) (k:κ):fC (fV kvs k) (valueAt vs k):=by
 unfold KV at r
 induction r with
 | nil=>exact True.intro
 | @cons p q ps qs h t ih=>
  obtain ⟨h1,h2⟩:=h
  by_cases e:p.1=k
  ·have e':q.1=k:=h1.symm.trans e
   have b:valueAt (q :: qs) k=some q.2:=by simp [valueAt,List.find?_cons,e']
   rw [ja e,b];exact h2
  ·have e':¬q.1=k:=fun z=>e (h1.trans z)
   have b:valueAt (q :: qs) k=valueAt qs k:=by simp [valueAt,List.find?_cons,e']
   rw [hV e,b];exact ih
theorem KV.any {kvs:List (κ×V)} {vs:List (κ×Value)} (r:KV kvs vs) (k:κ):(kvs.any fun kv=>decide (kv.1=k))=vs.any fun kv=>decide (kv.1=k):=by
 unfold KV at r
 induction r with
 | nil=>rfl
 | cons h t ih=>rw [List.any_cons,List.any_cons,ih,h.1]
theorem KV.w4 {kvs:List (κ×V)} {vs:List (κ×Value)} (r:KV kvs vs) (k:κ) {y:V} {u:Value} (ry:RelV y u) :
  KV (kvs.map fun kv=>if kv.1=k then (kv.1,y) else kv) (vs.map fun kv=>if kv.1=k then (kv.1,u) else kv):=by
 unfold KV at r ⊢
 induction r with
 | nil=>exact .nil
 | @cons p q ps qs h t ih=>
  rw [List.map_cons,List.map_cons]
  refine .cons ?_ ih
  obtain ⟨h1,h2⟩:=h
  by_cases e:p.1=k
  ·rw [if_pos e,if_pos (h1.symm.trans e)];exact ⟨h1,ry⟩
  ·rw [if_neg e,if_neg (fun z=>e (h1.trans z))];exact ⟨h1,h2⟩
theorem KV.put {kvs:List (κ×V)} {vs:List (κ×Value)} (r:KV kvs vs) (k:κ) {y:V} {u:Value} (ry:RelV y u):KV (putK kvs k y) (stored vs k u):=by
 unfold putK stored
 rw [r.any k]
 by_cases e:(vs.any fun kv=>decide (kv.1=k))=true
 ·rw [if_pos e,if_pos e];exact r.w4 k ry
 ·rw [if_neg e,if_neg e];exact Paired.snoc r ⟨rfl,ry⟩
theorem KV.length {kvs:List (κ×V)} {vs:List (κ×Value)} (r:KV kvs vs):kvs.length=vs.length:=Paired.length r
end
theorem kZ {P:Program} {w:World} {k:Key} {u:Value} (r:RelV (kV k) u):(bz P w).is k u=true:=by
 cases k with
 | inl i=>obtain ⟨t,e⟩:=(show ∃ t,u=Value.int i t from r);subst e;exact rl P w i t
 | inr x=>obtain ⟨t,e⟩:=(show ∃ t,u=Value.str x t from r);subst e;exact qS P w x t
theorem nM {P:Program} {w:World}:∀ {ks:List Key} {us:List Value},Vals (ks.map kV) us→ItemsAre (bz P w) ks us
 | [],_,r=>by rw [List.map_nil] at r;cases r;exact .nil
 | k :: ks,_,r=>by
  rw [List.map_cons] at r
  cases r with
  | cons h t=>exact .cons (kZ h) (nM t)
abbrev KT (H:Hp):List (List Key×V)→List (List Key×Addr×Value)→Prop:=Paired fun p q=>p.1=q.1∧H q.2.1=some (.tup (p.1.map kV))∧RelV p.2 q.2.2
theorem KT.val {H:Hp} {kvs:List (List Key×V)} {xs:List (List Key×Addr×Value)} (r:KT H kvs xs) (k:List Key):fC (fV kvs k) ((atKey xs k).map (·.2)):=by
 induction r with
 | nil=>exact True.intro
 | @cons p q ps qs h t ih=>
  obtain ⟨h1,_,h2⟩:=h
  by_cases e:p.1=k
  ·have e':q.1=k:=h1.symm.trans e
   have b:atKey (q :: qs) k=some q.2:=by simp [atKey,List.find?_cons,e']
   rw [ja e,b];exact h2
  ·have e':¬q.1=k:=fun z=>e (h1.trans z)
   have b:atKey (q :: qs) k=atKey qs k:=by simp [atKey,List.find?_cons,e']
   rw [hV e,b];exact ih
theorem KT.w4 {H:Hp} {kvs:List (List Key×V)} {xs:List (List Key×Addr×Value)} (r:KT H kvs xs) (k:List Key) {y:V} {u:Value} (ry:RelV y u) :
  KT H (kvs.map fun kv=>if kv.1=k then (kv.1,y) else kv) (xs.map (putAt k u)):=by
 induction r with
 | nil=>exact .nil
 | @cons p q ps qs h t ih=>
  rw [List.map_cons,List.map_cons]
  refine .cons ?_ ih
  obtain ⟨h1,h2,h3⟩:=h
  unfold putAt
  by_cases e:p.1=k
  ·rw [if_pos e,if_pos (h1.symm.trans e)];exact ⟨h1,h2,ry⟩
  ·rw [if_neg e,if_neg (fun z=>e (h1.trans z))];exact ⟨h1,h2,h3⟩
theorem KT.put {H:Hp} {kvs:List (List Key×V)} {xs:List (List Key×Addr×Value)} (r:KT H kvs xs) (k:List Key) {b:Addr} {y:V} {u:Value} (hb:H b=some (.tup (k.map kV))) (ry:RelV y u) :
  KT H (putK kvs k y) (storedH xs k b u):=by
 have e:(kvs.any fun kv=>decide (kv.1=k))=(atKey xs k).isSome:=by
  rw [qj,(r.val k).kj,Option.isSome_map]
 unfold putK storedH
 rw [e]
 by_cases q:(atKey xs k).isSome=true
 ·rw [if_pos q,if_pos q];exact r.w4 k ry
 ·rw [if_neg q,if_neg q];exact Paired.snoc r ⟨rfl,hb,ry⟩
theorem KT.keeps {H H':Hp} {kvs:List (List Key×V)} {xs:List (List Key×Addr×Value)} (r:KT H kvs xs) (ht:∀ b ys,H b=some (.tup ys)→H' b=some (.tup ys)):KT H' kvs xs:=
 Paired.wI r fun _ _ z=>⟨z.1,ht _ _ z.2.1,z.2.2⟩
section
variable {P:Program} {w:World} {H:Hp} {h:Heap} {a:Addr}
theorem yj {u:HO} (ok:HOk P w H h) (e:Rd H a u):bH P w H h a u:=e.ok ok
theorem kS {kvs:List (Key×V)} (ok:HOk P w H h) (e:Rd H a (.dK kvs)):kvs.length≤sizeLine∧(a == sysModules)=false∧∃ vs,KV kvs vs∧h.DictOf (bz P w) a vs:=
 show bH P w H h a (.dK kvs) from yj ok e
theorem EG {kvs:List (Key×V)} (ok:HOk P w H h) (e:H a=some (.dK kvs)):kvs.length≤sizeLine∧(a == sysModules)=false∧∃ vs,KV kvs vs∧h.DictOf (bz P w) a vs:=kS ok (.inl e)
theorem jT {ks:List Key} (ok:HOk P w H h) (e:H a=some (.tup (ks.map kV))):(tupleKind (bz P w)).is h ks a:=by
 obtain ⟨_,its,r,o,h1,h2,n,h3⟩:=(show bH P w H h a (.tup (ks.map kV)) from ok a _ e)
 exact ⟨o,its.toArray,n,h1,h2,h3,by simpa using nM r⟩
theorem kL {kvs:List (List Key×V)} (ok:HOk P w H h) (e:Rd H a (.dT kvs)):kvs.length≤sizeLine∧(a == sysModules)=false ∧
  ∃ xs,KT H kvs xs∧h.DictOfH (tupleKind (bz P w)) a xs:=by
 obtain ⟨z,y,xs,r,o,es,ep,h1,h2,h3,h4,h5⟩:=(show bH P w H h a (.dT kvs) from yj ok e)
 refine ⟨z,y,xs,r,o,es,ep,h1,h2,h3,h4,fun x hx=>?_,h5⟩
 have all:∀ {l:List (List Key×V)} {m:List (List Key×Addr×Value)},KT H l m→∀ x∈m,(tupleKind (bz P w)).is h x.1 x.2.1:=by
  intro l m q
  induction q with
  | nil=>intro x hx;exact nomatch hx
  | @cons p q ps qs hq t ih=>
   intro x hx
   rcases List.mem_cons.mp hx with e | hx
   ·subst e
    exact jT ok (by rw [← hq.1];exact hq.2.1)
   ·exact ih x hx
 exact all r x hx
theorem DM {kvs:List (List Key×V)} (ok:HOk P w H h) (e:H a=some (.dT kvs)):kvs.length≤sizeLine∧(a == sysModules)=false ∧
  ∃ xs,KT H kvs xs∧h.DictOfH (tupleKind (bz P w)) a xs:=kL ok (.inl e)
end
def jK (H:Hp) (a:Addr) (y:V) (r:Option V):Prop:=
 (∃ kvs k,Rd H a (.dK kvs)∧y=kV k∧r=fV kvs k)∨∃ kvs k b,Rd H a (.dT kvs)∧y=.ref b∧H b=some (.tup (k.map kV))∧r=fV kvs k
def pC (H:Hp) (a:Addr) (y v:V) (H':Hp):Prop:=
 (∃ kvs k,H a=some (.dK kvs)∧y=kV k∧kvs.length < sizeLine∧H'=upd H a (.dK (putK kvs k v))) ∨
 ∃ kvs k b,H a=some (.dT kvs)∧y=.ref b∧H b=some (.tup (k.map kV))∧kvs.length < sizeLine∧H'=upd H a (.dT (putK kvs k v))
theorem pC.k {H:Hp} {a:Addr} {kvs:List (Key×V)} {k:Key} {v:V} (e:H a=some (.dK kvs)) (hl:kvs.length < sizeLine):pC H a (kV k) v (upd H a (.dK (putK kvs k v))):=.inl ⟨kvs,k,e,rfl,hl,rfl⟩
section
variable {X:Cx} {pins:List (Addr×Obj)} {σ:St} {H:Hp} {s:Shared} {a:Addr} {y v:V} {u r:Value} {o:Option V} {A:Around} {E:Value→Shared→Prop}
theorem Inv.big (I:Inv X pins σ H s):sysModules < s.heap.objs.size:=by
 have h:mainGlobals < s.heap.objs.size:=(I.mod.glob.keeps I.bk).lt
 exact Nat.lt_trans (by decide) h
theorem vI {Q:Value→Shared→Prop} (hu:A.units+1 < cLine) (I:Inv X pins σ H s) (g:jK H a y (some v)) (ry:RelV y u) (h:∀ w' s',Inv X pins σ H s'→RelV v w'→Q w' s') :
  wpAny (model X.prog X.w) A (getItem (.ref a) u) Q E s:=by
 rcases g with ⟨kvs,k,e,ey,l⟩ | ⟨kvs,k,b,e,ey,eb,l⟩
 ·subst ey
  obtain ⟨z,hd,vs,rel,dd⟩:=kS I.hok e
  obtain ⟨w',hw,rw'⟩:=fC.some_of (v:=v) (o:=valueAt vs k) (by rw [l];exact rel.val k)
  exact wpAny_getItem_of (kZ ry) dd.mapOf hw (h w' _ (I.tok _) rw')
 ·subst ey
  cases (show u=Value.ref b from ry)
  obtain ⟨z,hd,xs,rel,dd⟩:=kL I.hok e
  obtain ⟨w',hw,rw'⟩:=fC.some_of (v:=v) (o:=(atKey xs k).map (·.2)) (by rw [l];exact rel.val k)
  obtain ⟨p,hp,hp2⟩:=Option.map_eq_some_iff.mp hw
  refine wpAny_getItem_heap (tupleKind_room_in1 hu) (jT I.hok eb) dd hp ?_
  rw [hp2]
  exact h w' _ (I.tok _) rw'
theorem FI {Q:Value→Shared→Prop} (hu:A.units+1 < cLine) (I:Inv X pins σ H s) (g:jK H a y o) (ry:RelV y u) (h:∀ s',Inv X pins σ H s'→Q (.bool o.isSome) s') :
  wpAny (model X.prog X.w) A (compareOp .In u (.ref a)) Q E s:=by
 rcases g with ⟨kvs,k,e,ey,l⟩ | ⟨kvs,k,b,e,ey,eb,l⟩
 ·subst ey
  obtain ⟨z,hd,vs,rel,dd⟩:=kS I.hok e
  refine wpAny_in_of (kZ ry) hd dd.mapOf ?_
  rw [← (rel.val k).kj,← l]
  exact h _ (I.tok _)
 ·subst ey
  cases (show u=Value.ref b from ry)
  obtain ⟨z,hd,xs,rel,dd⟩:=kL I.hok e
  refine wpAny_in_heap (tupleKind_room_in1 hu) (jT I.hok eb) hd dd ?_
  have q:=(rel.val k).kj
  rw [Option.isSome_map] at q
  rw [← q,← l]
  exact h _ (I.tok _)
theorem sd {h':Heap} {t':Nat} {ob:HO} (I:Inv X pins σ H s) (mu:Mut (H a)) (hs:Heap.SameBut a s.heap h') (he:∃ q,h'.get? a=some q) (new:bH X.prog X.w (upd H a ob) h' a ob) :
  Inv X pins σ (upd H a ob) { s with heap:=h',toks:=t' }:=
 I.write (x:=a) (e:=a) mu (.inl rfl) (fun b q hb z=>(hs.2 b hb).trans z) he new
theorem vS {P:Program} {w:World} {H':Hp} {h':Heap} {kvs:List (Key×V)} {vs:List (Key×Value)} (z:kvs.length≤sizeLine) (hd:(a == sysModules)=false) (rel:KV kvs vs) (dd:h'.DictOf (bz P w) a vs) :
  bH P w H' h' a (.dK kvs):=⟨z,hd,vs,rel,dd⟩
theorem uE {H':Hp} {Q:Unit→Shared→Prop} (hu:A.units+1 < cLine) (I:Inv X pins σ H s) (g:pC H a y v H') (ry:RelV y u) (rv:RelV v r) (h:∀ s',Inv X pins σ H' s'→Q () s') :
  wpAny (model X.prog X.w) A (setItem (.ref a) u r) Q E s:=by
 rcases g with ⟨kvs,k,e,ey,l,eH⟩ | ⟨kvs,k,b,e,ey,eb,l,eH⟩
 ·subst ey eH
  obtain ⟨z,hd,vs,rel,dd⟩:=EG I.hok e
  have hz:vs.length≤sizeLine:=by rw [← rel.length];exact z
  have hl:(putK kvs k v).length≤sizeLine:=by have:=iF kvs k v;omega
  refine wpAny_setItem_pairs (hsz:=hz) (kZ ry) dd fun h' dd' hs=>h _ ?_
  have he:∃ q,h'.get? a=some q:=let ⟨q,_,_,hq,_⟩:=dd';⟨q,hq⟩
  exact sd I (by rw [e];exact True.intro) hs he (vS hl hd (rel.put k rv) dd')
 ·subst ey eH
  cases (show u=Value.ref b from ry)
  obtain ⟨z,hd,xs,rel,dd⟩:=DM I.hok e
  have hz:xs.length≤sizeLine:=by rw [← Paired.length rel];exact z
  have hl:(putK kvs k v).length≤sizeLine:=by have:=iF kvs k v;omega
  refine wpAny_setItem_heap (hsz:=hz) (tupleKind_room_in1 hu) (jT I.hok eb) dd fun h' dd' hs=>h _ ?_
  obtain ⟨q,es,ep,hq,h2,h3,h4,_,h5⟩:=dd'
  refine sd I (by rw [e];exact True.intro) hs ⟨q,hq⟩ ⟨hl,hd,_,(rel.put k eb rv).keeps fun c ys ec=>?_,q,es,ep,hq,h2,h3,h4,h5⟩
  rw [aS (Et ec e (fun z=>nomatch z))]
  exact ec
end
def we (i:Expr):Prop:=∀ ov iv,subscripted i false ov iv=operate [ov,iv] (getItem ov iv)
theorem AA {prog:Program} {w:World} {A:Around} {E:Value→Shared→Prop} {s:Shared} {env:Env} {value slice:Expr} {pos:Pos} {T id:String} {Q:Value→Shared→Prop}
    (hl:typeLookup (.type T) "__getitem__"=pure (some (.builtin id))) (hs:we slice)
    (h:wpAny (model prog w) A (eval value env) (fun o s₁=>wpAny (model prog w) A (eval slice env) (fun i s₂=>s₂.TypeIs o T∧wpAny (model prog w) A (getItem o i) Q E s₂) E s₁) E s) :
    wpAny (model prog w) A (eval (.Subscript value slice pos) env) Q E s:=by
  refine Subscript_ (wpAny_mono h (fun o s₁ h₁=>wpAny_mono h₁ (fun i s₂ h₂=>?_) fun _ _ x=>x) fun _ _ x=>x)
  obtain ⟨hT,h₂⟩:=h₂
  unfold subscriptTail
  refine wpAny_bind ?_
  rw [getitemInPython_of_ne hT.not_modules]
  refine wpAny_bind (wpAny_specialOf hT hl ?_)
  have fin:wpAny (model prog w) A (subscripted slice false o i) (fun r s₃=>wpAny (model prog w) A (letTemporaryGo value o r>>=fun _=>pure r) Q E s₃) E s₂:=by
    rw [hs o i]
    exact wpAny_operating (wpAny_mono h₂ (fun r s₃ h₃=>wpAny_bind (wpAny_letTemporaryGo (wpAny_pure h₃))) fun _ _ x=>x)
  first
    | exact wpAny_pure (wpAny_bind fin)
    | exact wpAny_bind (wpAny_pure (wpAny_bind fin))
    | exact wpAny_bind fin
theorem qW {X:Cx} {pins:List (Addr×Obj)} {σ:St} {H:Hp} {s:Shared} {a:Addr} {y:V} {o:Option V} (I:Inv X pins σ H s) (g:jK H a y o):s.TypeIs (.ref a) "dict":=by
 rcases g with ⟨kvs,k,e,_,_⟩ | ⟨kvs,k,b,e,_,_,_⟩
 ·obtain ⟨_,_,vs,_,dd⟩:=kS I.hok e
  exact dd.typeIs
 ·obtain ⟨_,_,xs,_,dd⟩:=kL I.hok e
  exact dd.typeIs
def E5 (td ty:TE):TE:=fun σ H Q=>td σ H fun x H1=>ty σ H1 fun y H2=>∃ a v,x=.ref a∧jK H2 a y (some v)∧Q v H2
def Fc (td ty tv:TE):TS:=fun D σ H=>tv σ H fun v H1=>td σ H1 fun x H2=>ty σ H2 fun y H3=>∃ a H4,x=.ref a∧pC H3 a y v H4∧D.nx σ H4
section
variable {X:Cx} {o i e value:Expr} {pos pos' tpos:Pos} {td ty tv:TE}
theorem zU (hu:X.A.units+1 < cLine) (ho:PE X o td) (hi:PE X i ty) (hs:we i):PE X (.Subscript o i pos) (E5 td ty):=by
 intro pins s σ H Q I h
 refine AA PySem.F.slot_dict_getitem.lookup hs (thn (ho pins s σ H _ I h) fun u s1 ⟨x,H1,I1,rx,q1⟩=>thn (hi pins s1 σ H1 _ I1 q1) fun iv s2 ⟨y,H2,I2,ry,a,v,ex,g,q2⟩=>?_)
 subst ex
 obtain rfl:u=Value.ref a:=rx
 exact ⟨qW I2 g,vI hu I2 g ry fun w' s3 I3 rw'=>⟨v,H2,I3,rw',q2⟩⟩
theorem yZ (hu:X.A.units+1 < cLine) (ho:PE X o td) (hi:PE X i ty) (hv:PE X value tv) (hs:swapsWith value (some (.Subscript o i pos')) pos.line X.env=pure false) :
  PS X (.Assign [.Subscript o i pos'] value pos) (Fc td ty tv):=by
 intro pins s σ H D I h
 refine wpAny_Assign_Subscript (thn (hv pins s σ H _ I h) fun r s1 ⟨v,H1,I1,rv,q1⟩=>thn (ho pins s1 σ H1 _ I1 q1) fun u s2 ⟨x,H2,I2,rx,q2⟩=>thn (hi pins s2 σ H2 _ I2 q2) fun iv s3 ⟨y,H3,I3,ry,a,H4,ex,g,q3⟩=>?_) hs
 subst ex
 obtain rfl:u=Value.ref a:=rx
 exact uE hu I3 g ry rv fun s4 I4=>⟨σ,H4,I4,q3⟩
end
theorem wg {P:Program} {w:World} {H:Hp} (h:Heap) (hb:sysModules < h.objs.size):bH P w H (h.push { cls:=.type "dict",data:=.dict #[] }) h.objs.size (.dK []):=
 ⟨Nat.zero_le _,beq_eq_false_iff_ne.mpr (Ne.symm (Nat.ne_of_lt hb)),[],.nil,Heap.DictOf.new h⟩
def Bt:TE:=fun _ H Q=>∀ p,H p=none→Q (.ref p) (upd H p (.dK []))
section
variable {X:Cx} {pos:Pos}
theorem wz:PE X (.Dict [] [] pos) Bt:=fun pins s σ H Q I h=>
 wpAny_Dict_empty ⟨.ref s.heap.objs.size,_,I.laid (a:=s.heap.objs.size) (o:=.dK []) (t':=s.toks) (fun _ _ q=>Heap.get?_push_of_some _ q) (Nat.le_refl _) (wg s.heap I.big),rfl,h _ (I.hok.fresh (Nat.le_refl _))⟩
end
def vF:List (TE×TE)→St→Hp→(List (V×V)→Hp→Prop)→Prop
 | [],_,H,Q=>Q [] H
 | (tk,tv) :: r,σ,H,Q=>tk σ H fun x H1=>tv σ H1 fun y H2=>vF r σ H2 fun ps H3=>Q ((x,y) :: ps) H3
abbrev VV:List (V×V)→List (Value×Value)→Prop:=Paired fun p q=>RelV p.1 q.1∧RelV p.2 q.2
def PPs (X:Cx) (pos:Pos) (keys:List (Option Expr)) (values:List Expr) (trs:List (TE×TE)):Prop:=
 ∀ (pins:List (Addr×Obj)) (s:Shared) (σ:St) (H:Hp) (Q:List (V×V)→Hp→Prop),Inv X pins σ H s→vF trs σ H Q →
  wpAny (model X.prog X.w) X.A (evalPairs (pairTrees keys values X.env pos)) (fun vs s'=>∃ ps H',Inv X pins σ H' s'∧VV ps vs∧Q ps H') X.xe s
def cM (kvs more:List (Key×V)):List (Key×V):=more.foldl (fun acc kv=>putK acc kv.1 kv.2) kvs
theorem fZ:∀ (more kvs:List (Key×V)),(cM kvs more).length≤kvs.length+more.length
 | [],kvs=>by show kvs.length≤kvs.length+0;omega
 | p :: r,kvs=>by
  have h1:=fZ r (putK kvs p.1 p.2)
  have h2:=iF kvs p.1 p.2
  show (cM (putK kvs p.1 p.2) r).length≤_
  rw [List.length_cons];omega
structure M1 (X:Cx) (o:Expr) (m:Str) (apos:Pos) (e:Expr) (cpos:Pos):Prop where
 base:attributeBase o m X.env (eval o X.env)=eval o X.env
 few:((backTo cpos (starEach [e] X.env)).all (fun x=>!x.1) && (backToKw cpos (keywordEach [] X.env)).all (fun x=>x.1.isSome)
  && decide (([e]:List Expr).length+([]:List Keyword).length+(if ([]:List Keyword).isEmpty then 0 else 1) < 30))=true
 line:(apos.endLine == cpos.line)=true
 trees:backTo cpos (starEach [e] X.env)=[(false,eval e X.env)]
structure M2 (X:Cx) (o:Expr) (m:Str) (apos:Pos) (e f:Expr) (cpos:Pos):Prop where
 base:attributeBase o m X.env (eval o X.env)=eval o X.env
 few:((backTo cpos (starEach [e,f] X.env)).all (fun x=>!x.1) && (backToKw cpos (keywordEach [] X.env)).all (fun x=>x.1.isSome)
  && decide (([e,f]:List Expr).length+([]:List Keyword).length+(if ([]:List Keyword).isEmpty then 0 else 1) < 30))=true
 line:(apos.endLine == cpos.line)=true
 trees:backTo cpos (starEach [e,f] X.env)=[(false,eval e X.env),(false,eval f X.env)]
def IsD (H:Hp) (a:Addr):Prop:=(∃ kvs,Rd H a (.dK kvs))∨∃ kvs,Rd H a (.dT kvs)
theorem BB {X:Cx} {pins:List (Addr×Obj)} {σ:St} {H:Hp} {s:Shared} {a:Addr} (I:Inv X pins σ H s) (d:IsD H a) :
  s.TypeIs (.ref a) "dict"∧(∀ b,Value.ref a=.ref b→∃ ob,s.heap.get? b=some ob∧ob.dict=none)∧(a == sysModules)=false:=by
 rcases d with ⟨kvs,e⟩ | ⟨kvs,e⟩
 ·obtain ⟨_,hd,vs,_,dd⟩:=kS I.hok e
  refine ⟨dd.typeIs,fun b q=>?_,hd⟩
  cases q
  obtain ⟨ob,_,_,h1,h2,_⟩:=dd
  exact ⟨ob,h1,h2.2.1⟩
 ·obtain ⟨_,hd,xs,_,dd⟩:=kL I.hok e
  refine ⟨dd.typeIs,fun b q=>?_,hd⟩
  cases q
  obtain ⟨ob,_,_,h1,h2,_⟩:=dd
  exact ⟨ob,h1,h2.2.1⟩
section
variable {X:Cx} {pins:List (Addr×Obj)} {σ:St} {H:Hp} {s:Shared} {a:Addr} {y d:V} {u r:Value} {o:Option V} {A:Around} {E:Value→Shared→Prop}
theorem B6 {Q:Value→Shared→Prop} (hu:A.units+1 < cLine) (I:Inv X pins σ H s) (g:jK H a y o) (ry:RelV y u) (rd:RelV d r) (h:∀ w' s',Inv X pins σ H s'→RelV (o.getD d) w'→Q w' s') :
  wpAny (model X.prog X.w) A (call (.builtin "dict.get") [.ref a,u,r]) Q E s:=by
 rcases g with ⟨kvs,k,e,ey,l⟩ | ⟨kvs,k,b,e,ey,eb,l⟩
 ·subst ey
  obtain ⟨z,hd,vs,rel,dd⟩:=kS I.hok e
  refine call_meetsIn PySem.F.slot_dict_get dd.typeIs PySem.F.entry_dict_get (PySem.F.args_dict_get_3 _ _ _) (meets_dict_get_default (bz X.prog X.w) a (kZ ry) hd r) ⟨_,dd.mapOf,h _ _ (I.tok _) ?_⟩
  rw [l]
  exact (rel.val k).getD rd
 ·subst ey
  cases (show u=Value.ref b from ry)
  obtain ⟨z,hd,xs,rel,dd⟩:=kL I.hok e
  refine call_meetsIn PySem.F.slot_dict_get dd.typeIs PySem.F.entry_dict_get (PySem.F.args_dict_get_3 _ _ _) (meetsH_dict_get_default (tupleKind (bz X.prog X.w)) a b hd r) ⟨tupleKind_room_in1 hu,k,xs,jT I.hok eb,dd,h _ _ (I.tok _) ?_⟩
  rw [l]
  exact (rel.val k).getD rd
end
def BJ (td ty tx:TE):TE:=fun σ H Q=>td σ H fun x H1=>∃ a,x=.ref a∧IsD H1 a∧ty σ H1 fun y H2=>tx σ H2 fun z H3=>∃ o,jK H3 a y o∧Q (o.getD z) H3
section
variable {X:Cx} {o e f:Expr} {apos cpos:Pos} {td ty tx:TE}
theorem wW (hu:X.A.units+1 < cLine) (ho:PE X o td) (he:PE X e ty) (hf:PE X f tx) (m:M2 X o "get" apos e f cpos):PE X (.Call (.Attribute o "get" apos) [e,f] [] cpos) (BJ td ty tx):=by
 intro pins s σ H Q I h
 refine wpAny_Call_method m.base m.few m.line PySem.F.plainAttrs_dict PySem.F.slot_dict_get PySem.F.type_dict_get (thn (ho pins s σ H _ I h) fun u s1 ⟨x,H1,I1,rx,a,ex,d,q1⟩=>?_)
 subst ex
 obtain rfl:u=Value.ref a:=rx
 obtain ⟨t1,t2,_⟩:=BB I1 d
 refine ⟨t1,t2,?_⟩
 rw [m.trees]
 refine Calls.callWith_builtin rfl (Calls.evalArgs_plain (Calls.spliced_cons (thn (he pins s1 σ H1 _ I1 q1) fun iv s2 ⟨y,H2,I2,ry,q2⟩=>
  Calls.spliced_cons (thn (hf pins s2 σ H2 _ I2 q2) fun fv s3 ⟨z,H3,I3,rz,ov,g,q3⟩=>Calls.spliced_nil ?_))))
 exact B6 hu I3 g ry rz fun w' s4 I4 rw'=>⟨_,H3,I4,rw',q3⟩
end
inductive Vl where
 | d (x:D) | r (n:Nat) | fd (kvs:List (Key×D)) | fn (x:Str) | sc (ns:List Int) | pr (x:D) (n:Nat)
inductive Ob where
 | lst (xs:List D) | dct (kvs:List (Key×D)) | dead
abbrev Sto:=List Ob
inductive R (α:Type) where
 | ok (a:α) (S:Sto) | ex (c:Str) (xs:List (Str×D)) (S:Sto) | bad
def R.bind {α β:Type} (x:R α) (f:α→Sto→R β):R β:=match x with
 | .ok a S=>f a S
 | .ex c xs S=>.ex c xs S
 | .bad=>.bad
abbrev Nv:=List (Option Vl)
abbrev XE:=Nv→Sto→R Vl
abbrev XT:=Nv→Sto→R Bool
abbrev XA:=Nv→Sto→R (List Vl)
abbrev XO:=Nv→Sto→R (Option Int)
inductive Fl where
 | nx | bk | ct | rt (v:Vl)
abbrev XS:=Nv→Sto→R (Fl×Nv)
abbrev XG:=Vl→Nv→Sto→R Nv
abbrev XGs:=List Vl→Nv→Sto→R Nv
abbrev XF:=List Vl→Sto→R Vl
structure Its where
 items:List Vl
 gd:Option (Nat×Ob)
def Its.ok (I:Its) (S:Sto):Prop:=match I.gd with
 | none=>True
 | some (n,o)=>S[n]?=some o
abbrev XI:=Nv→Sto→R Its
def Al (μ:Nat→Addr) (S:Sto) (b:Addr):Prop:=∃ n o,S[n]?=some o∧o≠.dead∧μ n=b
open Classical in
noncomputable def vh (μ:Nat→Addr) (S:Sto) (H:Hp):Hp:=fun b=>if Al μ S b then none else H b
section
variable {μ μ' μ1 μ2:Nat→Addr} {S S' S1 S2:Sto} {H H' H1 H2:Hp} {b:Addr} {o:HO}
theorem bO (h:H b=some o) (n:¬Al μ S b):vh μ S H b=some o:=by unfold vh;rw [if_neg n];exact h
theorem aT (h:vh μ S H b=some o):¬Al μ S b∧H b=some o:=by
 unfold vh at h
 split at h
 ·cases h
 ·exact ⟨‹_›,h⟩
theorem gp:dn (vh μ S H) H:=fun _ _ h=>(aT h).2
def ObR (μ:Nat→Addr) (S:Sto) (H:Hp) (a:Addr):Ob→Prop
 | .lst ds=>∃ vs,H a=some (.lst vs)∧ax (vh μ S H) vs ds
 | .dct kvs=>∃ vs:List V,vs.length=kvs.length∧H a=some (.dK ((kvs.map (·.1)).zip vs))∧ax (vh μ S H) vs (kvs.map (·.2))
 | .dead=>True
structure HR (μ:Nat→Addr) (S:Sto) (H:Hp):Prop where
 ob:∀ n o,S[n]?=some o→ObR μ S H (μ n) o
 inj:∀ n m o o',S[n]?=some o→S[m]?=some o'→o≠.dead→o'≠.dead→μ n=μ m→n=m
theorem ObR.some {a:Addr} {ob:Ob} (h:ObR μ S H a ob) (n:ob≠.dead):∃ o,H a=Option.some o:=by
 cases ob with
 | lst ds=>obtain ⟨vs,e,_⟩:=h;exact ⟨_,e⟩
 | dct kvs=>obtain ⟨vs,_,e,_⟩:=h;exact ⟨_,e⟩
 | dead=>exact absurd rfl n
theorem HR.al (h:HR μ S H) (a:Al μ S b):∃ o,H b=some o:=by
 obtain ⟨n,ob,e,nd,rfl⟩:=a
 exact (h.ob n ob e).some nd
theorem HR.nal (h:HR μ S H) (e:H b=none):¬Al μ S b:=fun a=>by
 obtain ⟨o,q⟩:=h.al a
 rw [e] at q;cases q
theorem ObR.mono {a:Addr} {ob:Ob} (h:ObR μ S H a ob) (e:ob≠.dead→H' a=H a) (k:dn (vh μ S H) (vh μ' S' H')):ObR μ' S' H' a ob:=by
 cases ob with
 | lst ds=>obtain ⟨vs,q,r⟩:=h;exact ⟨vs,by rw [e (by simp)];exact q,r.mono k⟩
 | dct kvs=>obtain ⟨vs,l,q,r⟩:=h;exact ⟨vs,l,by rw [e (by simp)];exact q,r.mono k⟩
 | dead=>exact True.intro
structure Step (μ:Nat→Addr) (S:Sto) (H:Hp) (μ':Nat→Addr) (S':Sto) (H':Hp):Prop where
 ag:∀ n,n < S.length→μ' n=μ n
 le:S.length≤S'.length
 hr:HR μ' S' H'
 dd:∀ n:Nat,S[n]?=some Ob.dead→S'[n]?=some Ob.dead
 nw:∀ n o,S.length≤n→S'[n]?=some o→o≠.dead→H (μ' n)=none
 ko:∀ b o,H b=some o→¬Al μ S b→H' b=some o
 dm:∀ b o,H b=some o→∃ o',H' b=some o'
theorem Step.refl (h:HR μ S H):Step μ S H μ S H:=
 ⟨fun _ _=>rfl,Nat.le_refl _,h,fun _ e=>e,fun n o l e _=>(by rw [List.getElem?_eq_none l] at e;cases e),fun _ _ e _=>e,fun _ o e=>⟨o,e⟩⟩
theorem Step.nal (a:Step μ S H μ' S' H') (h:H b=some o) (n:¬Al μ S b):¬Al μ' S' b:=by
 rintro ⟨k,ob,e,nd,rfl⟩
 by_cases hk:k < S.length
 ·have e0:S[k]?=some S[k]:=List.getElem?_eq_getElem hk
  by_cases hd:S[k]=.dead
  ·rw [hd] at e0
   rw [a.dd k e0] at e
   cases e
   exact nd rfl
  ·exact n ⟨k,_,e0,hd,(a.ag k hk).symm⟩
 ·rw [a.nw k ob (by omega) e nd] at h
  cases h
theorem Step.vis (a:Step μ S H μ' S' H'):dn (vh μ S H) (vh μ' S' H'):=fun b o h=>by
 obtain ⟨n,h⟩:=aT h
 exact bO (a.ko b o h n) (a.nal h n)
theorem Step.trans (a:Step μ S H μ1 S1 H1) (b:Step μ1 S1 H1 μ2 S2 H2):Step μ S H μ2 S2 H2 where
 ag:=fun n h=>(b.ag n (Nat.lt_of_lt_of_le h a.le)).trans (a.ag n h)
 le:=Nat.le_trans a.le b.le
 hr:=b.hr
 dd:=fun n e=>b.dd n (a.dd n e)
 nw:=fun n o l e nd=>by
  by_cases hn:n < S1.length
  ·rw [b.ag n hn]
   refine a.nw n S1[n] l (List.getElem?_eq_getElem hn) fun z=>?_
   have e0:S1[n]?=some S1[n]:=List.getElem?_eq_getElem hn
   rw [z] at e0
   rw [b.dd n e0] at e
   cases e
   exact nd rfl
  ·have q:=b.nw n o (by omega) e nd
   cases e2:H (μ2 n) with
   | none=>rfl
   | some u=>
    obtain ⟨u',e3⟩:=a.dm _ _ e2
    rw [q] at e3;cases e3
 ko:=fun c o h n=>b.ko c o (a.ko c o h n) (a.nal h n)
 dm:=fun c o h=>by
  obtain ⟨o1,e1⟩:=a.dm c o h
  exact b.dm c o1 e1
theorem Step.new (h:HR μ S H) {p:Addr} (hp:H p=none) (o:HO):Step μ S H μ S (upd H p o):=by
 have k:dn (vh μ S H) (vh μ S (upd H p o)):=fun b u q=>by
  obtain ⟨n,q⟩:=aT q
  exact bO (by rw [aS (bo q hp)];exact q) n
 refine ⟨fun _ _=>rfl,Nat.le_refl _,⟨fun n ob e=>?_,h.inj⟩,fun _ e=>e,fun n ob l e _=>(by rw [List.getElem?_eq_none l] at e;cases e),fun b u q _=>by rw [aS (bo q hp)];exact q,fun b u q=>⟨u,by rw [aS (bo q hp)];exact q⟩⟩
 refine (h.ob n ob e).mono (fun nd=>?_) k
 obtain ⟨u,q⟩:=(h.ob n ob e).some nd
 exact aS (bo q hp)
def ext (μ:Nat→Addr) (k:Nat) (p:Addr):Nat→Addr:=fun n=>if n=k then p else μ n
theorem cN {k:Nat} {p:Addr}:ext μ k p k=p:=by unfold ext;rw [if_pos rfl]
theorem jW {k n:Nat} {p:Addr} (h:n≠k):ext μ k p n=μ n:=by unfold ext;rw [if_neg h]
def ObL (G:Hp):Ob→HO→Prop
 | .lst ds,o=>∃ vs,o=.lst vs∧ax G vs ds
 | .dct kvs,o=>∃ vs:List V,vs.length=kvs.length∧o=.dK ((kvs.map (·.1)).zip vs)∧ax G vs (kvs.map (·.2))
 | .dead,_=>False
theorem ObL.ne {G:Hp} {ob:Ob} {o:HO} (h:ObL G ob o):ob≠.dead:=by
 rintro rfl
 exact h
theorem ObL.at {ob:Ob} {o:HO} {a:Addr} {G:Hp} (h:ObL G ob o) (e:H a=some o) (k:dn G (vh μ S H)):ObR μ S H a ob:=by
 cases ob with
 | lst ds=>obtain ⟨vs,rfl,r⟩:=h;exact ⟨vs,e,r.mono k⟩
 | dct kvs=>obtain ⟨vs,l,rfl,r⟩:=h;exact ⟨vs,l,e,r.mono k⟩
 | dead=>exact h.elim
theorem Step.alloc (h:HR μ S H) {p:Addr} (hp:H p=none) {ob:Ob} {o:HO} (hl:ObL (vh μ S H) ob o):Step μ S H (ext μ S.length p) (S++[ob]) (upd H p o):=by
 have nd:=hl.ne
 have old:∀ n u,n < S.length→(S++[ob])[n]?=some u→S[n]?=some u∧ext μ S.length p n=μ n:=fun n u hn e=>by
  rw [List.getElem?_append_left hn] at e
  exact ⟨e,jW (Nat.ne_of_lt hn)⟩
 have new:∀ n u,S.length≤n→(S++[ob])[n]?=some u→n=S.length∧u=ob:=fun n u hn e=>by
  rw [List.getElem?_append_right hn] at e
  have hz:n - S.length=0:=by
   refine Nat.eq_zero_of_not_pos fun z=>?_
   rw [List.getElem?_eq_none (by simp;omega)] at e;cases e
  rw [hz] at e
  exact ⟨by omega,by simpa using e.symm⟩
 have nal:∀ {b u},H b=some u→¬Al μ S b→¬Al (ext μ S.length p) (S++[ob]) b:=by
  rintro b u q n ⟨k,v,e,d,rfl⟩
  by_cases hk:k < S.length
  ·obtain ⟨e1,e2⟩:=old k v hk e
   exact n ⟨k,v,e1,d,e2.symm⟩
  ·obtain ⟨rfl,rfl⟩:=new k v (by omega) e
   rw [cN,hp] at q;cases q
 have k:dn (vh μ S H) (vh (ext μ S.length p) (S++[ob]) (upd H p o)):=fun b u q=>by
  obtain ⟨n,q⟩:=aT q
  exact bO (by rw [aS (bo q hp)];exact q) (nal q n)
 refine ⟨fun n hn=>jW (Nat.ne_of_lt hn),by simp,⟨fun n u e=>?_,fun n m u v e1 e2 d1 d2 q=>?_⟩,fun n e=>?_,fun n u l e _=>?_,fun b u q _=>by rw [aS (bo q hp)];exact q,fun b u q=>⟨u,by rw [aS (bo q hp)];exact q⟩⟩
 ·by_cases hn:n < S.length
  ·obtain ⟨e1,e2⟩:=old n u hn e
   rw [e2]
   refine (h.ob n u e1).mono (fun nd=>?_) k
   obtain ⟨x,q⟩:=(h.ob n u e1).some nd
   exact aS (bo q hp)
  ·obtain ⟨rfl,rfl⟩:=new n u (by omega) e
   rw [cN]
   exact hl.at bJ k
 ·by_cases hn:n < S.length
  ·obtain ⟨a1,a2⟩:=old n u hn e1
   obtain ⟨x,qx⟩:=(h.ob n u a1).some d1
   by_cases hm:m < S.length
   ·obtain ⟨b1,b2⟩:=old m v hm e2
    rw [a2,b2] at q
    exact h.inj n m u v a1 b1 d1 d2 q
   ·obtain ⟨rfl,rfl⟩:=new m v (by omega) e2
    rw [a2,cN] at q
    rw [q,hp] at qx;cases qx
  ·obtain ⟨rfl,rfl⟩:=new n u (by omega) e1
   by_cases hm:m < S.length
   ·obtain ⟨b1,b2⟩:=old m v hm e2
    obtain ⟨x,qx⟩:=(h.ob m v b1).some d2
    rw [b2,cN] at q
    rw [← q,hp] at qx;cases qx
   ·exact (new m v (by omega) e2).1.symm
 ·have hn:n < S.length:=by
   refine Nat.lt_of_not_le fun z=>?_
   rw [List.getElem?_eq_none z] at e;cases e
  rw [List.getElem?_append_left hn];exact e
 ·obtain ⟨rfl,rfl⟩:=new n u l e
  rw [cN];exact hp
theorem fz {n m:Nat} {ob u:Ob} (hn:n < S.length) (e:(S.set n ob)[m]?=some u):(m=n∧u=ob)∨(m≠n∧S[m]?=some u):=by
 rw [List.getElem?_set] at e
 by_cases q:n=m
 ·subst q
  rw [if_pos rfl,if_pos hn] at e
  exact .inl ⟨rfl,(Option.some.inj e).symm⟩
 ·rw [if_neg q] at e
  exact .inr ⟨fun z=>q z.symm,e⟩
theorem Step.put (h:HR μ S H) {n:Nat} {ob ob0:Ob} {o:HO} (e0:S[n]?=some ob0) (d0:ob0≠.dead) (hl:ObL (vh μ S H) ob o):Step μ S H μ (S.set n ob) (upd H (μ n) o):=by
 have nd:=hl.ne
 have hn:n < S.length:=(List.getElem?_eq_some_iff.mp e0).1
 have al0:Al μ S (μ n):=⟨n,ob0,e0,d0,rfl⟩
 have al:∀ {b},Al μ (S.set n ob) b→Al μ S b:=by
  rintro b ⟨m,u,e,d,rfl⟩
  rcases fz hn e with ⟨rfl,rfl⟩ | ⟨z,q⟩
  ·exact al0
  ·exact ⟨m,u,q,d,rfl⟩
 have k:dn (vh μ S H) (vh μ (S.set n ob) (upd H (μ n) o)):=fun b u q=>by
  obtain ⟨z,q⟩:=aT q
  exact bO (by rw [aS (fun c=>z (by rw [c];exact al0))];exact q) fun c=>z (al c)
 refine ⟨fun _ _=>rfl,by rw [List.length_set];exact Nat.le_refl _,⟨fun m u e=>?_,fun m m' u v e1 e2 d1 d2 q=>?_⟩,fun m e=>?_,fun m u l e _=>?_,fun b u q z=>by rw [aS (fun c=>z (by rw [c];exact al0))];exact q,fun b u q=>?_⟩
 ·rcases fz hn e with ⟨rfl,rfl⟩ | ⟨z,q⟩
  ·exact hl.at bJ k
  ·refine (h.ob m u q).mono (fun d=>aS fun c=>z (h.inj m n u ob0 q e0 d d0 c)) k
 ·have a1:∃ w,S[m]?=some w∧w≠.dead:=by
   rcases fz hn e1 with ⟨rfl,rfl⟩ | ⟨z,q⟩
   ·exact ⟨ob0,e0,d0⟩
   ·exact ⟨u,q,d1⟩
  have a2:∃ w,S[m']?=some w∧w≠.dead:=by
   rcases fz hn e2 with ⟨rfl,rfl⟩ | ⟨z,q⟩
   ·exact ⟨ob0,e0,d0⟩
   ·exact ⟨v,q,d2⟩
  obtain ⟨w1,x1,y1⟩:=a1
  obtain ⟨w2,x2,y2⟩:=a2
  exact h.inj m m' w1 w2 x1 x2 y1 y2 q
 ·rw [List.getElem?_set_ne]
  ·exact e
  ·rintro rfl
   rw [e0] at e;cases e;exact d0 rfl
 ·rw [List.getElem?_eq_none (by rw [List.length_set];exact l)] at e;cases e
 ·by_cases z:b=μ n
  ·subst z;exact ⟨o,bJ⟩
  ·exact ⟨u,by rw [aS z];exact q⟩
theorem Step.freeze (h:HR μ S H) {n:Nat} {ob:Ob} (e0:S[n]?=some ob) (d0:ob≠.dead):Step μ S H μ (S.set n .dead) H∧¬Al μ (S.set n .dead) (μ n):=by
 have hn:n < S.length:=(List.getElem?_eq_some_iff.mp e0).1
 have al:∀ {b},Al μ (S.set n .dead) b→Al μ S b:=by
  rintro b ⟨m,u,e,d,rfl⟩
  rcases fz hn e with ⟨rfl,rfl⟩ | ⟨z,q⟩
  ·exact absurd rfl d
  ·exact ⟨m,u,q,d,rfl⟩
 have k:dn (vh μ S H) (vh μ (S.set n .dead) H):=fun b u q=>by
  obtain ⟨z,q⟩:=aT q
  exact bO q fun c=>z (al c)
 have inn:∀ m u,(S.set n .dead)[m]?=some u→u≠.dead→S[m]?=some u∧m≠n:=fun m u e d=>by
  rcases fz hn e with ⟨rfl,rfl⟩ | ⟨z,q⟩
  ·exact absurd rfl d
  ·exact ⟨q,z⟩
 refine ⟨⟨fun _ _=>rfl,by rw [List.length_set];exact Nat.le_refl _,⟨fun m u e=>?_,fun m m' u v e1 e2 d1 d2 q=>h.inj m m' u v (inn m u e1 d1).1 (inn m' v e2 d2).1 d1 d2 q⟩,fun m e=>?_,fun m u l e _=>?_,fun b u q z=>q,fun b u q=>⟨u,q⟩⟩,?_⟩
 ·by_cases d:u=.dead
  ·subst d;exact True.intro
  ·exact (h.ob m u (inn m u e d).1).mono (fun _=>rfl) k
 ·by_cases z:m=n
  ·subst z;rw [List.getElem?_set,if_pos rfl,if_pos hn]
  ·rw [List.getElem?_set_ne (fun c=>z c.symm)];exact e
 ·rw [List.getElem?_eq_none (by rw [List.length_set];exact l)] at e;cases e
 ·rintro ⟨m,u,e,d,q⟩
  obtain ⟨e1,z⟩:=inn m u e d
  exact z (h.inj m n u ob e1 e0 d d0 q)
theorem Step.wA (h:HR μ S H) {n:Nat} {ob:Ob} (o':HO) (e0:S[n]?=some ob) (d0:ob≠.dead):Step μ S H μ (S.set n .dead) (upd H (μ n) o')∧¬Al μ (S.set n .dead) (μ n):=by
 have hn:n < S.length:=(List.getElem?_eq_some_iff.mp e0).1
 have al0:Al μ S (μ n):=⟨n,ob,e0,d0,rfl⟩
 obtain ⟨st,na⟩:=Step.freeze h e0 d0
 have k:dn (vh μ S H) (vh μ (S.set n .dead) (upd H (μ n) o')):=fun b u q=>by
  obtain ⟨z,q'⟩:=aT q
  exact bO (by rw [aS (fun c=>z (by rw [c];exact al0))];exact q') (aT (st.vis b u q)).1
 refine ⟨⟨st.ag,st.le,⟨fun m u e=>?_,st.hr.inj⟩,st.dd,fun m u l e d=>st.nw m u l e d,fun b u q z=>by rw [aS (fun c=>z (by rw [c];exact al0))];exact q,fun b u q=>?_⟩,na⟩
 ·rcases fz hn e with ⟨rfl,rfl⟩ | ⟨z,q⟩
  ·exact True.intro
  ·by_cases d:u=.dead
   ·subst d;exact True.intro
   ·exact (h.ob m u q).mono (fun _=>aS fun c=>z (h.inj m n u ob q e0 d d0 c)) k
 ·by_cases z:b=μ n
  ·subst z;exact ⟨o',bJ⟩
  ·exact ⟨u,by rw [aS z];exact q⟩
theorem c_ {k n:Nat} {u:Ob} (e:(S.take k)[n]?=some u):n < k∧S[n]?=some u:=by
 rw [List.getElem?_take] at e
 split at e
 ·exact ⟨‹_›,e⟩
 ·cases e
theorem Step.take (a:Step μ S H μ' S' H'):Step μ S H μ' (S'.take S.length) H':=by
 have al:∀ {b},Al μ' (S'.take S.length) b→Al μ' S' b:=by
  rintro b ⟨m,u,e,d,rfl⟩
  exact ⟨m,u,(c_ e).2,d,rfl⟩
 have k:dn (vh μ' S' H') (vh μ' (S'.take S.length) H'):=fun b u q=>by
  obtain ⟨z,q⟩:=aT q
  exact bO q fun c=>z (al c)
 refine ⟨a.ag,by rw [List.length_take];have:=a.le;omega,⟨fun m u e=>(a.hr.ob m u (c_ e).2).mono (fun _=>rfl) k,fun m m' u v e1 e2=>a.hr.inj m m' u v (c_ e1).2 (c_ e2).2⟩,fun n e=>?_,fun n u l e _=>?_,a.ko,a.dm⟩
 ·have hn:n < S.length:=(List.getElem?_eq_some_iff.mp e).1
  rw [List.getElem?_take,if_pos hn]
  exact a.dd n e
 ·have:=(c_ e).1
  omega
theorem Step.move (a:Step μ S H μ' S' H') {n:Nat} {ob:Ob} (hn:S.length≤n) (e0:S'[n]?=some ob) (d0:ob≠.dead):Step μ S H (ext μ' S.length (μ' n)) (S'.take S.length++[ob]) H':=by
 have lt:(S'.take S.length).length=S.length:=by rw [List.length_take];have:=a.le;omega
 have get:∀ m u,(S'.take S.length++[ob])[m]?=some u→∃ j,S'[j]?=some u∧ext μ' S.length (μ' n) m=μ' j∧((m < S.length∧j=m)∨(m=S.length∧j=n)):=fun m u e=>by
  by_cases hm:m < S.length
  ·rw [List.getElem?_append_left (by omega)] at e
   exact ⟨m,(c_ e).2,jW (Nat.ne_of_lt hm),.inl ⟨hm,rfl⟩⟩
  ·rw [List.getElem?_append_right (by omega)] at e
   have hz:m - (S'.take S.length).length=0:=by
    refine Nat.eq_zero_of_not_pos fun z=>?_
    rw [List.getElem?_eq_none (by simp;omega)] at e;cases e
   rw [hz] at e
   have hm':m=S.length:=by omega
   subst hm'
   obtain rfl:ob=u:=by simpa using e
   exact ⟨n,e0,cN,.inr ⟨rfl,rfl⟩⟩
 have al:∀ {b},Al (ext μ' S.length (μ' n)) (S'.take S.length++[ob]) b→Al μ' S' b:=by
  rintro b ⟨m,u,e,d,rfl⟩
  obtain ⟨j,q,z,_⟩:=get m u e
  exact ⟨j,u,q,d,z.symm⟩
 have k:dn (vh μ' S' H') (vh (ext μ' S.length (μ' n)) (S'.take S.length++[ob]) H'):=fun b u q=>by
  obtain ⟨z,q⟩:=aT q
  exact bO q fun c=>z (al c)
 refine ⟨fun m hm=>(jW (Nat.ne_of_lt hm)).trans (a.ag m hm),by rw [List.length_append,lt];simp,⟨fun m u e=>?_,fun m m' u v e1 e2 d1 d2 q=>?_⟩,fun m e=>?_,fun m u l e d=>?_,a.ko,a.dm⟩
 ·obtain ⟨j,q,z,_⟩:=get m u e
  rw [z]
  exact (a.hr.ob j u q).mono (fun _=>rfl) k
 ·obtain ⟨j,q1,z1,w1⟩:=get m u e1
  obtain ⟨j',q2,z2,w2⟩:=get m' v e2
  rw [z1,z2] at q
  have:=a.hr.inj j j' u v q1 q2 d1 d2 q
  omega
 ·have hm:m < S.length:=(List.getElem?_eq_some_iff.mp e).1
  rw [List.getElem?_append_left (by omega),List.getElem?_take,if_pos hm]
  exact a.dd m e
 ·obtain ⟨j,q,z,w⟩:=get m u e
  rw [z]
  have hj:S.length≤j:=by omega
  exact a.nw j u hj q d
end
section
variable (K:PySem.W.Frag) (mg:Str→Option Value)
def ba (μ:Nat→Addr) (S:Sto) (H:Hp) (v:V):Vl→Prop
 | .d x=>Rep (vh μ S H) v x
 | .r n=>v=.ref (μ n)∧n < S.length
 | .fd kvs=>∃ (a:Addr) (vs:List V) (o:Obj),v=.ref a∧vs.length=kvs.length∧vh μ S H a=some (.frz o (.dK ((kvs.map (·.1)).zip vs)))∧ax (vh μ S H) vs (kvs.map (·.2))
 | .fn x=>∃ f:Addr,mg x=some (.ref f)∧v=.ref f
 | .sc ns=>∃ l:Addr,v=.ref l∧SqL K (vh μ S H) l (ns.map V.int)
 | .pr x n=>∃ (a:Addr) (u:V),v=.ref a∧vh μ S H a=some (.tup [u,.ref (μ n)])∧Rep (vh μ S H) u x∧n < S.length
inductive bK (μ:Nat→Addr) (S:Sto) (H:Hp):List V→List Vl→Prop
 | nil:bK μ S H [] []
 | cons {v:V} {x:Vl} {vs:List V} {xs:List Vl}:ba K mg μ S H v x→bK μ S H vs xs→bK μ S H (v :: vs) (x :: xs)
structure cf (μ:Nat→Addr) (S:Sto) (H:Hp) (σ:St) (τ:Nv):Prop where
 len:σ.length=τ.length
 get:∀ (i:Nat) (x:Vl),τ[i]?=some (some x)→∃ v,σ[i]?=some (some v)∧ba K mg μ S H v x
end
section
variable {K:PySem.W.Frag} {mg:Str→Option Value} {μ μ':Nat→Addr} {S S':Sto} {H H':Hp}
theorem SqL.mono {l:Addr} {xs:List V} {H H':Hp} (k:dn H H') (h:SqL K H l xs):SqL K H' l xs:=by
 rcases h with (h | ⟨o,h⟩) | h
 ·exact .inl (.inl (k _ _ h))
 ·exact .inl (.inr ⟨o,k _ _ h⟩)
 ·exact .inr h
theorem ba.step {v:V} {x:Vl} (a:Step μ S H μ' S' H') (h:ba K mg μ S H v x):ba K mg μ' S' H' v x:=by
 cases x with
 | d x=>exact Rep.mono a.vis h
 | r n=>obtain ⟨rfl,hn⟩:=h;exact ⟨by rw [a.ag n hn],Nat.lt_of_lt_of_le hn a.le⟩
 | fd kvs=>obtain ⟨p,vs,o,e,l,q,r⟩:=h;exact ⟨p,vs,o,e,l,a.vis _ _ q,r.mono a.vis⟩
 | pr x n=>obtain ⟨p,u,e,q,r,hn⟩:=h;exact ⟨p,u,e,by rw [a.ag n hn];exact a.vis _ _ q,Rep.mono a.vis r,Nat.lt_of_lt_of_le hn a.le⟩
 | fn x=>exact h
 | sc ns=>obtain ⟨l,e,q⟩:=h;exact ⟨l,e,q.mono a.vis⟩
theorem bK.step (a:Step μ S H μ' S' H'):∀ {vs:List V} {xs:List Vl},bK K mg μ S H vs xs→bK K mg μ' S' H' vs xs
 | _,_,.nil=>.nil
 | _,_,.cons r t=>.cons (r.step a) (bK.step a t)
theorem bK.length:∀ {vs:List V} {xs:List Vl},bK K mg μ S H vs xs→vs.length=xs.length
 | _,_,.nil=>rfl
 | _,_,.cons _ t=>by simp [bK.length t]
theorem bK.get:∀ {vs:List V} {xs:List Vl} {i:Nat} {x:Vl},bK K mg μ S H vs xs→xs[i]?=some x→∃ v,vs[i]?=some v∧ba K mg μ S H v x
 | _,_,_,_,.nil,e=>by simp at e
 | _,_,0,_,.cons r _,e=>by simp at e;subst e;exact ⟨_,rfl,r⟩
 | _,_,i+1,x,.cons _ t,e=>by
  obtain ⟨d,h1,h2⟩:=bK.get (i:=i) (x:=x) t (by simpa using e)
  exact ⟨d,by simpa using h1,h2⟩
theorem bK.rE:∀ {vs:List V} {ds:List D},ax (vh μ S H) vs ds→bK K mg μ S H vs (ds.map Vl.d)
 | _,_,.nil=>.nil
 | _,_,.cons r t=>.cons (show ba K mg μ S H _ (.d _) from r) (bK.rE t)
theorem cf.step {σ:St} {τ:Nv} (a:Step μ S H μ' S' H') (h:cf K mg μ S H σ τ):cf K mg μ' S' H' σ τ:=
 ⟨h.len,fun i x e=>by obtain ⟨v,e1,r⟩:=h.get i x e;exact ⟨v,e1,r.step a⟩⟩
theorem cf.set {σ:St} {τ:Nv} {v:V} {x:Vl} (i:Nat) (h:cf K mg μ S H σ τ) (r:ba K mg μ S H v x):cf K mg μ S H (σ.set i (some v)) (τ.set i (some x)):=by
 refine ⟨by rw [List.length_set,List.length_set];exact h.len,fun j y e=>?_⟩
 rw [List.getElem?_set] at e ⊢
 by_cases q:i=j
 ·subst q
  rw [if_pos rfl] at e ⊢
  by_cases hl:i < τ.length
  ·rw [if_pos hl] at e
   cases e
   exact ⟨v,by rw [if_pos (by rw [h.len];exact hl)],r⟩
  ·rw [if_neg hl] at e;cases e
 ·rw [if_neg q] at e ⊢
  exact h.get j y e
theorem cf.pre {σ:St} {τ:Nv} (k:Nat) (h:cf K mg μ S H σ τ):cf K mg μ S H (List.replicate k none++σ) (List.replicate k none++τ):=by
 refine ⟨by simp [h.len],fun i x e=>?_⟩
 by_cases hi:i < k
 ·rw [List.getElem?_append_left (by simpa using hi),List.getElem?_replicate,if_pos hi] at e
  cases e
 ·rw [List.getElem?_append_right (by simpa using hi)] at e ⊢
  simpa using h.get (i - k) x (by simpa using e)
theorem cf.beg {N:List Str} {vs:List V} {us:List Vl} (h:bK K mg μ S H vs us):cf K mg μ S H (L2.start N vs) (us.map some++List.replicate (N.length - us.length) none):=by
 have l:=h.length
 refine ⟨by simp [L2.start,l],fun i x e=>?_⟩
 unfold L2.start
 by_cases hi:i < us.length
 ·rw [List.getElem?_append_left (by simpa using hi),List.getElem?_map] at e
  cases q:us[i]? with
  | none=>rw [q] at e;cases e
  | some y=>
   rw [q] at e
   cases e
   obtain ⟨v,e1,r⟩:=h.get q
   exact ⟨v,by rw [List.getElem?_append_left (by simp;omega),List.getElem?_map,e1];rfl,r⟩
 ·rw [List.getElem?_append_right (by simpa using hi),List.getElem?_replicate] at e
  split at e<;>cases e
end
abbrev WX:=Str→List (Str×D)→Sto→(Nat→Addr)→Hp→Prop
abbrev W0:WX:=fun _ _ _ _ _=>False
def bc {α β:Type} (Rl:(Nat→Addr)→Sto→Hp→β→α→Prop) (WE:WX) (μ:Nat→Addr) (S:Sto) (H:Hp) (res:R α) (Q:β→Hp→Prop):Prop:=match res with
 | .ok a S'=>∀ b μ' H',Step μ S H μ' S' H'→Rl μ' S' H' b a→Q b H'
 | .ex c xs S'=>∀ μ' H',Step μ S H μ' S' H'→WE c xs S' μ' H'
 | .bad=>False
section
variable {α β γ δ:Type} {Rl:(Nat→Addr)→Sto→Hp→β→α→Prop} {Rl2:(Nat→Addr)→Sto→Hp→δ→γ→Prop} {WE:WX} {μ μ1:Nat→Addr} {S S1:Sto} {H H1:Hp} {res:R α} {Q:β→Hp→Prop} {Q2:δ→Hp→Prop}
theorem bc.shift (h:bc Rl WE μ S H res Q) (a:Step μ S H μ1 S1 H1):bc Rl WE μ1 S1 H1 res Q:=by
 cases res with
 | ok x S'=>exact fun b μ' H' st r=>h b μ' H' (a.trans st) r
 | ex c xs S'=>exact fun μ' H' st=>h μ' H' (a.trans st)
 | bad=>exact h
theorem bc.bind {f:α→Sto→R γ} (h:bc Rl2 WE μ S H (res.bind f) Q2) (k:∀ b a S1 μ1 H1,Step μ S H μ1 S1 H1→Rl μ1 S1 H1 b a→bc Rl2 WE μ1 S1 H1 (f a S1) Q2→Q b H1):bc Rl WE μ S H res Q:=by
 cases res with
 | ok x S'=>exact fun b μ' H' st r=>k b x S' μ' H' st r (bc.shift (show bc Rl2 WE μ S H (f x S') Q2 from h) st)
 | ex c xs S'=>exact h
 | bad=>exact h
theorem bc.here {a:α} {b:β} (hr:HR μ S H) (h:bc Rl WE μ S H (.ok a S) Q) (r:Rl μ S H b a):Q b H:=h b μ H (Step.refl hr) r
end
inductive FlV where
 | nx | bk | ct | rt (v:V)
def Ends.at (D:Ends) (p:FlV×St) (H:Hp):Prop:=match p.1 with
 | .nx=>D.nx p.2 H
 | .bk=>D.bk p.2 H
 | .ct=>D.ct p.2 H
 | .rt v=>D.rt v H
section
variable (K:PySem.W.Frag) (mg:Str→Option Value)
def FlR (μ:Nat→Addr) (S:Sto) (H:Hp):FlV→Fl→Prop
 | .nx,.nx=>True
 | .bk,.bk=>True
 | .ct,.ct=>True
 | .rt v,.rt z=>ba K mg μ S H v z
 | _,_=>False
def RlS (μ:Nat→Addr) (S:Sto) (H:Hp) (p:FlV×St) (q:Fl×Nv):Prop:=cf K mg μ S H p.2 q.2∧FlR K mg μ S H p.1 q.1
abbrev RlQ {α:Type} (_:Nat→Addr) (_:Sto) (_:Hp) (b a:α):Prop:=b=a
structure fB (μ:Nat→Addr) (S:Sto) (H:Hp) (J:It) (I:Its):Prop where
 ok:I.ok S
 len:I.items.length≤sizeLine
 go:∀ i z μ' S' H',Step μ S H μ' S' H'→I.ok S'→I.items[i]?=some z→J.go i H'
 yld:∀ i z μ' S' H' x H2,Step μ S H μ' S' H'→I.ok S'→I.items[i]?=some z→J.yld i H' x H2→Step μ' S' H' μ' S' H2∧ba K mg μ' S' H2 x z
 stop:∀ i μ' S' H',Step μ S H μ' S' H'→I.ok S'→I.items.length=i→J.stop i H'
def trE (WE:WX) (m:XE):TE:=fun σ H Q=>∃ μ S τ,HR μ S H∧cf K mg μ S H σ τ∧bc (ba K mg) WE μ S H (m τ S) Q
def trT (WE:WX) (m:XT):TT:=fun σ H Q=>∃ μ S τ,HR μ S H∧cf K mg μ S H σ τ∧bc RlQ WE μ S H (m τ S) Q
def trA (WE:WX) (m:XA):TA:=fun σ H Q=>∃ μ S τ,HR μ S H∧cf K mg μ S H σ τ∧bc (bK K mg) WE μ S H (m τ S) Q
def trO (WE:WX) (m:XO):TO:=fun σ H Q=>∃ μ S τ,HR μ S H∧cf K mg μ S H σ τ∧bc RlQ WE μ S H (m τ S) Q
def trS (WE:WX) (m:XS):TS:=fun D σ H=>∃ μ S τ,HR μ S H∧cf K mg μ S H σ τ∧bc (RlS K mg) WE μ S H (m τ S) D.at
def trG (WE:WX) (g:XG):TG:=fun v σ H Q=>∃ μ S τ z,HR μ S H∧cf K mg μ S H σ τ∧ba K mg μ S H v z∧bc (cf K mg) WE μ S H (g z τ S) Q
def FG (WE:WX) (g:XGs):TGs:=fun vs σ H Q=>∃ μ S τ zs,HR μ S H∧cf K mg μ S H σ τ∧bK K mg μ S H vs zs∧bc (cf K mg) WE μ S H (g zs τ S) Q
def trI (WE:WX) (it:XI):TI:=fun σ H Rr=>∃ μ S τ,HR μ S H∧cf K mg μ S H σ τ∧bc (fB K mg) WE μ S H (it τ S) Rr
end
structure RE (X:Cx) (WE:WX) (e:Expr) (m:XE):Prop where
 h:PE X e (trE X.K X.mg WE m)
structure RT (X:Cx) (WE:WX) (e:Expr) (m:XT):Prop where
 h:PT X e (trT X.K X.mg WE m)
structure RW (X:Cx) (WE:WX) (e:Expr) (m:XT):Prop where
 h:PW X e (trT X.K X.mg WE m)
structure RA (X:Cx) (WE:WX) (es:List Expr) (m:XA):Prop where
 h:PA X es (trA X.K X.mg WE m)
structure RO (X:Cx) (WE:WX) (e:Option Expr) (m:XO):Prop where
 h:PO X e (trO X.K X.mg WE m)
structure RS (X:Cx) (WE:WX) (s:Stmt) (m:XS):Prop where
 h:PS X s (trS X.K X.mg WE m)
structure RB (X:Cx) (WE:WX) (s:List Stmt) (m:XS):Prop where
 h:PSs X s (trS X.K X.mg WE m)
structure RG (X:Cx) (WE:WX) (t:Expr) (g:XG):Prop where
 h:PG X t (trG X.K X.mg WE g)
structure RGs (X:Cx) (WE:WX) (ts:List Expr) (g:XGs):Prop where
 h:PGs X ts (FG X.K X.mg WE g)
structure RI (X:Cx) (WE:WX) (tg iter:Expr) (it:XI):Prop where
 h:PI X tg iter (trI X.K X.mg WE it)
structure RTs (X:Cx) (WE:WX) (ifs:List Expr) (m:XT):Prop where
 h:PTs X ifs (trT X.K X.mg WE m)
section
variable {X:Cx}
theorem PE.weak {e:Expr} {t t':TE} (h:PE X e t) (k:∀ σ H Q,t' σ H Q→t σ H Q):PE X e t':=fun pins s σ H Q I q=>h pins s σ H Q I (k σ H Q q)
theorem PT.weak {e:Expr} {t t':TT} (h:PT X e t) (k:∀ σ H Q,t' σ H Q→t σ H Q):PT X e t':=fun pins s σ H Q I q=>h pins s σ H Q I (k σ H Q q)
theorem PW.weak {e:Expr} {t t':TT} (h:PW X e t) (k:∀ σ H Q,t' σ H Q→t σ H Q):PW X e t':=fun wh pins s σ H Q I q=>h wh pins s σ H Q I (k σ H Q q)
theorem PA.weak {e:List Expr} {t t':TA} (h:PA X e t) (k:∀ σ H Q,t' σ H Q→t σ H Q):PA X e t':=fun po pins s σ H Q I q=>h po pins s σ H Q I (k σ H Q q)
theorem PS.weak {e:Stmt} {t t':TS} (h:PS X e t) (k:∀ D σ H,t' D σ H→t D σ H):PS X e t':=fun pins s σ H D I q=>h pins s σ H D I (k D σ H q)
theorem PSs.weak {e:List Stmt} {t t':TS} (h:PSs X e t) (k:∀ D σ H,t' D σ H→t D σ H):PSs X e t':=fun pins s σ H D I q=>h pins s σ H D I (k D σ H q)
theorem PG.weak {e:Expr} {t t':TG} (h:PG X e t) (k:∀ v σ H Q,t' v σ H Q→t v σ H Q):PG X e t':=fun pins s σ H v u Q I r q=>h pins s σ H v u Q I r (k v σ H Q q)
theorem PGs.weak {e:List Expr} {t t':TGs} (h:PGs X e t) (k:∀ v σ H Q,t' v σ H Q→t v σ H Q):PGs X e t':=fun pins s σ H v u Q I r q=>h pins s σ H v u Q I r (k v σ H Q q)
theorem PI.weak {tg e:Expr} {t t':TI} (h:PI X tg e t) (k:∀ σ H Q,t' σ H Q→t σ H Q):PI X tg e t':=fun pins s σ H Q I q=>h pins s σ H Q I (k σ H Q q)
end
def cG (K:PySem.W.Frag) (mg:Str→Option Value) (r:R2) (f:Vl→Vl→Sto→R Vl):Prop:=∀ (WE:WX) (μ:Nat→Addr) (S:Sto) (H:Hp) (v w:V) (x y:Vl) (Q:VK),HR μ S H→ba K mg μ S H v x→ba K mg μ S H w y→bc (ba K mg) WE μ S H (f x y S) Q→r v w H Q
def B8 (K:PySem.W.Frag) (mg:Str→Option Value) (r:V→Hp→VK→Prop) (f:Vl→Sto→R Vl):Prop:=∀ (WE:WX) (μ:Nat→Addr) (S:Sto) (H:Hp) (v:V) (x:Vl) (Q:VK),HR μ S H→ba K mg μ S H v x→bc (ba K mg) WE μ S H (f x S) Q→r v H Q
def lP (K:PySem.W.Frag) (mg:Str→Option Value) (r:List V→Hp→VK→Prop) (f:List Vl→Sto→R Vl):Prop:=∀ (WE:WX) (μ:Nat→Addr) (S:Sto) (H:Hp) (vs:List V) (xs:List Vl) (Q:VK),HR μ S H→bK K mg μ S H vs xs→bc (ba K mg) WE μ S H (f xs S) Q→r vs H Q
def aa (i:Nat):XE:=fun τ S=>match τ[i]? with
 | some (some v)=>.ok v S
 | _=>.bad
def xC (d:D):XE:=fun _ S=>.ok (.d d) S
def xFn (x:Str):XE:=fun _ S=>.ok (.fn x) S
def xOp (f:Vl→Vl→Sto→R Vl) (a b:XE):XE:=fun τ S=>(a τ S).bind fun x S1=>(b τ S1).bind fun y S2=>f x y S2
def xUn (f:Vl→Sto→R Vl) (a:XE):XE:=fun τ S=>(a τ S).bind fun x S1=>f x S1
def fR (f f':Vl→Vl→Sto→R Vl) (a b c:XE):XE:=fun τ S=>(a τ S).bind fun x S1=>(b τ S1).bind fun y S2=>(f x y S2).bind fun z S3=>match z with
 | .d (.bl k)=>if k=true then (c τ S3).bind fun w S4=>f' y w S4 else .ok (.d (.bl false)) S3
 | _=>.bad
def asB (z:Vl) (S:Sto):R Bool:=match z with
 | .d (.bl b)=>.ok b S
 | _=>.bad
def aI (a:XE):XT:=fun τ S=>(a τ S).bind asB
def tru (z:Vl) (S:Sto):R Bool:=match z with
 | .d .non=>.ok false S
 | .d (.bl b)=>.ok b S
 | .d (.int i)=>.ok (i != 0) S
 | .d (.tup xs)=>.ok (!xs.isEmpty) S
 | .d (.lst xs)=>.ok (!xs.isEmpty) S
 | .r n=>match S[n]? with
  | some (.lst xs)=>.ok (!xs.isEmpty) S
  | some (.dct kvs)=>.ok (!kvs.isEmpty) S
  | _=>.bad
 | _=>.bad
def cQ (a:XE):XT:=fun τ S=>(a τ S).bind tru
def lI (a b:XT):XT:=fun τ S=>(a τ S).bind fun c S1=>if c=true then b τ S1 else .ok false S1
def xOr (a b:XT):XT:=fun τ S=>(a τ S).bind fun c S1=>if c=true then .ok true S1 else b τ S1
def c9 (a:XT):XT:=fun τ S=>(a τ S).bind fun c S1=>.ok (!c) S1
def cS (a b:XE):XE:=fun τ S=>(a τ S).bind fun x S1=>(asB x S1).bind fun c S2=>if c=true then b τ S2 else .ok (.d (.bl false)) S2
def FX (a b:XE):XE:=fun τ S=>(a τ S).bind fun x S1=>(asB x S1).bind fun c S2=>if c=true then .ok (.d (.bl true)) S2 else b τ S2
def tu (a:XE):XE:=fun τ S=>(a τ S).bind fun x S1=>(asB x S1).bind fun c S2=>.ok (.d (.bl (!c))) S2
def sO (c:XT) (a b:XE):XE:=fun τ S=>(c τ S).bind fun k S1=>if k=true then a τ S1 else b τ S1
def aj:XA:=fun _ S=>.ok [] S
def ab (a:XE) (r:XA):XA:=fun τ S=>(a τ S).bind fun x S1=>(r τ S1).bind fun xs S2=>.ok (x :: xs) S2
def iy:List Vl→Option (List D)
 | []=>some []
 | .d x :: r=>(iy r).map (x :: ·)
 | _=>none
def mkT (xs:List Vl) (S:Sto):R Vl:=match iy xs with
 | some ds=>if ds.length≤100000 then .ok (.d (.tup ds)) S else .bad
 | none=>.bad
def mkL (xs:List Vl) (S:Sto):R Vl:=match iy xs with
 | some ds=>if ds.length≤100000 then .ok (.d (.lst ds)) S else .bad
 | none=>.bad
def mkM (xs:List Vl) (S:Sto):R Vl:=match iy xs with
 | some ds=>if ds.length≤100000 then .ok (.r S.length) (S++[.lst ds]) else .bad
 | none=>.bad
def xN (f:List Vl→Sto→R Vl) (as:XA):XE:=fun τ S=>(as τ S).bind f
def frz (z:Vl) (S:Sto):R Vl:=match z with
 | .r n=>match S[n]? with
  | some (.lst xs)=>.ok (.d (.lst xs)) (S.set n .dead)
  | some (.dct kvs)=>.ok (.fd kvs) (S.set n .dead)
  | _=>.bad
 | z=>.ok z S
def xFz (a:XE):XE:=fun τ S=>(a τ S).bind frz
def aE:XO:=fun _ S=>.ok none S
def aQ (a:XE):XO:=fun τ S=>(a τ S).bind fun x S1=>match x with
 | .d (.int i)=>.ok (some i) S1
 | _=>.bad
def xSl (f:Vl→Option Int→Option Int→Sto→R Vl) (a:XE) (l h:XO):XE:=fun τ S=>(a τ S).bind fun x S1=>(l τ S1).bind fun i S2=>(h τ S2).bind fun j S3=>f x i j S3
section
variable {X:Cx} {WE:WX} {a b c e:Expr} {xa xb xc xe:XE} {pos:Pos} {es:List Expr} {t u:XT}
theorem rv (i:Nat) {x:Str} (hN:X.N[i]?=some x:=by rfl) (hv:Vis X.env.scope x:=by first | exact Or.inl rfl | exact Or.inr (Or.inl rfl) | exact Or.inr (Or.inr rfl)) (hd:(x == ("__debug__":Str))=false:=by decide)
  (hcd:(x == ("__classdict__":Str))=false:=by decide):RE X WE (.Name x pos) (aa i):=⟨(Cy hN hv hd hcd).weak fun σ H Q ⟨μ,S,τ,hr,sr,p⟩=>by
 unfold aa at p
 split at p
 ·obtain ⟨v,e1,r⟩:=sr.get _ _ ‹_›
  exact ⟨v,e1,p.here hr r⟩
 ·exact p.elim⟩
theorem af {i j}:RE X WE (.Constant (.int i) j pos) (xC (.int i)):=⟨Cg.weak fun _ _ _ ⟨_,_,_,hr,_,p⟩=>p.here hr (Rep.int i)⟩
theorem cR {i j}:RE X WE (.Constant (.bool i) j pos) (xC (.bl i)):=⟨DJ.weak fun _ _ _ ⟨_,_,_,hr,_,p⟩=>p.here hr (Rep.bl i)⟩
theorem iQ {j}:RE X WE (.Constant .none j pos) (xC .non):=⟨Bp.weak fun _ _ _ ⟨_,_,_,hr,_,p⟩=>p.here hr Rep.non⟩
theorem bp {x j}:RE X WE (.Constant (.str x) j pos) (xC (.str x)):=⟨BI.weak fun _ _ _ ⟨_,_,_,hr,_,p⟩=>p.here hr (Rep.str x)⟩
theorem two {r:R2} {f:Vl→Vl→Sto→R Vl} (hf:cG X.K X.mg r f) {σ:St} {H:Hp} {Q:VK} (h:trE X.K X.mg WE (xOp f xa xb) σ H Q):tOp r (trE X.K X.mg WE xa) (trE X.K X.mg WE xb) σ H Q:=by
 obtain ⟨μ,S,τ,hr,sr,p⟩:=h
 refine ⟨μ,S,τ,hr,sr,p.bind fun v x S1 μ1 H1 st1 r1 p1=>?_⟩
 refine ⟨μ1,S1,τ,st1.hr,sr.step st1,p1.bind fun w y S2 μ2 H2 st2 r2 p2=>?_⟩
 exact hf WE μ2 S2 H2 v w x y Q st2.hr (r1.step st2) r2 p2
theorem aA {op:Operator} {r:R2} {f:Vl→Vl→Sto→R Vl} (ho:OpR X (binaryOp op) r) (hf:cG X.K X.mg r f) (ha:RE X WE a xa) (hb:RE X WE b xb):RE X WE (.BinOp a op b pos) (xOp f xa xb):=
 ⟨(EU ho ha.h hb.h).weak fun _ _ _ h=>two hf h⟩
theorem oJ {op:UnaryOp} {r:V→Hp→VK→Prop} {f:Vl→Sto→R Vl} (ho:UnR X (unaryOp op) r) (hf:B8 X.K X.mg r f) (ha:RE X WE a xa):RE X WE (.UnaryOp op a pos) (xUn f xa):=
 ⟨(E4 ho ha.h).weak fun σ H Q ⟨μ,S,τ,hr,sr,p⟩=>⟨μ,S,τ,hr,sr,p.bind fun v x S1 μ1 H1 st1 r1 p1=>hf WE μ1 S1 H1 v x Q st1.hr r1 p1⟩⟩
theorem cI {op:CmpOp} {r:R2} {f:Vl→Vl→Sto→R Vl} (ho:OpR X (compareOp op) r) (hf:cG X.K X.mg r f) (ha:RE X WE a xa) (hb:RE X WE b xb) (hm:behindInMarks op b=false:=by first | exact uQ _ | with_unfolding_all rfl):RE X WE (.Compare a [op] [b] pos) (xOp f xa xb):=
 ⟨(Aa ho ha.h hb.h hm).weak fun _ _ _ h=>two hf h⟩
theorem rB {σ:St} {H:Hp} {Q:Bool→Hp→Prop} (h:trT X.K X.mg WE (aI xa) σ H Q):trE X.K X.mg WE xa σ H fun v H'=>∃ k,v=.bl k∧Q k H':=by
 obtain ⟨μ,S,τ,hr,sr,p⟩:=h
 refine ⟨μ,S,τ,hr,sr,p.bind fun v x S1 μ1 H1 st1 r1 p1=>?_⟩
 unfold asB at p1
 split at p1
 ·cases (show Rep (vh μ1 S1 H1) v (.bl _) from r1)
  exact ⟨_,rfl,p1.here st1.hr rfl⟩
 ·exact p1.elim
theorem aN {op:CmpOp} {r:R2} {f:Vl→Vl→Sto→R Vl} (ho:OpR X (compareOp op) r) (hf:cG X.K X.mg r f) (ha:RE X WE a xa) (hb:RE X WE b xb) (hm:behindInMarks op b=false:=by first | exact uQ _ | with_unfolding_all rfl):RT X WE (.Compare a [op] [b] pos) (aI (xOp f xa xb)):=
 ⟨(Aq ho ha.h hb.h hm).weak fun _ _ _ h=>two hf (rB h)⟩
theorem oV {r r':R2} {f f':Vl→Vl→Sto→R Vl} (hf:cG X.K X.mg r f) (hf':cG X.K X.mg r' f') {σ:St} {H:Hp} {Q:VK} (h:trE X.K X.mg WE (fR f f' xa xb xc) σ H Q):pU r r' (trE X.K X.mg WE xa) (trE X.K X.mg WE xb) (trE X.K X.mg WE xc) σ H Q:=by
 obtain ⟨μ,S,τ,hr,sr,p⟩:=h
 refine ⟨μ,S,τ,hr,sr,p.bind fun v x S1 μ1 H1 st1 r1 p1=>?_⟩
 refine ⟨μ1,S1,τ,st1.hr,sr.step st1,p1.bind fun w y S2 μ2 H2 st2 r2 p2=>?_⟩
 refine hf WE μ2 S2 H2 v w x y _ st2.hr (r1.step st2) r2 (p2.bind fun z zz S3 μ3 H3 st3 r3 p3=>?_)
 try dsimp only at p3
 split at p3
 ·cases (show Rep (vh μ3 S3 H3) z (.bl _) from r3)
  refine ⟨_,rfl,?_⟩
  split at p3
  ·rename_i k hk
   rw [if_pos hk]
   refine ⟨μ3,S3,τ,st3.hr,sr.step (st1.trans (st2.trans st3)),p3.bind fun q qq S4 μ4 H4 st4 r4 p4=>?_⟩
   exact hf' WE μ4 S4 H4 w q y qq Q st4.hr (r2.step (st3.trans st4)) r4 p4
  ·rename_i k hk
   rw [if_neg hk]
   exact p3.here st3.hr (Rep.bl false)
 ·exact p3.elim
theorem lX {op op':CmpOp} {r r':R2} {f f':Vl→Vl→Sto→R Vl} (ho:OpR X (compareOp op) r) (hf:cG X.K X.mg r f) (ho':OpR X (compareOp op') r') (hf':cG X.K X.mg r' f') (ha:RE X WE a xa) (hb:RE X WE b xb) (hc:RE X WE c xc)
  (hm:lastMarks [op,op'] [b,c]=false:=by with_unfolding_all rfl):RE X WE (.Compare a [op,op'] [b,c] pos) (fR f f' xa xb xc):=⟨(xF ho ho' ha.h hb.h hc.h hm).weak fun _ _ _ h=>oV hf hf' h⟩
theorem wJ {op op':CmpOp} {r r':R2} {f f':Vl→Vl→Sto→R Vl} (ho:OpR X (compareOp op) r) (hf:cG X.K X.mg r f) (ho':OpR X (compareOp op') r') (hf':cG X.K X.mg r' f') (ha:RE X WE a xa) (hb:RE X WE b xb) (hc:RE X WE c xc)
  (hm:lastMarks [op,op'] [b,c]=false:=by with_unfolding_all rfl):RT X WE (.Compare a [op,op'] [b,c] pos) (aI (fR f f' xa xb xc)):=⟨(xT ho ho' ha.h hb.h hc.h hm).weak fun _ _ _ h=>oV hf hf' (rB h)⟩
theorem isE {α β:Type} {xs:List α} {ys:List β} (h:xs.length=ys.length):(!xs.isEmpty)=!ys.isEmpty:=by
  cases xs<;>cases ys<;>first | rfl | simp at h
theorem BD {K:PySem.W.Frag} {mg:Str→Option Value} {WE:WX} {μ:Nat→Addr} {S:Sto} {H:Hp} {v:V} {x:Vl} {Q:Bool→Hp→Prop} (hr:HR μ S H) (r:ba K mg μ S H v x) (p:bc RlQ WE μ S H (tru x S) Q):∃ k,wm K v H k∧Q k H:=by
 unfold tru at p
 split at p
 ·cases (show Rep (vh μ S H) v .non from r);exact ⟨false,rfl,p.here hr rfl⟩
 ·cases (show Rep (vh μ S H) v (.bl _) from r);exact ⟨_,rfl,p.here hr rfl⟩
 ·cases (show Rep (vh μ S H) v (.int _) from r);exact ⟨_,rfl,p.here hr rfl⟩
 ·cases (show Rep (vh μ S H) v (.tup _) from r) with
  | tup h rs=>exact ⟨_,.inr (.inl ⟨_,SqT.of (aT h).2,rfl⟩),by rw [isE rs.length];exact p.here hr rfl⟩
 ·cases (show Rep (vh μ S H) v (.lst _) from r) with
  | lst h rs=>exact ⟨_,.inl ⟨_,SqL.of (aT h).2,rfl⟩,by rw [isE rs.length];exact p.here hr rfl⟩
 ·obtain ⟨rfl,hn⟩:=r
  split at p
  ·rename_i xs e
   obtain ⟨vs,h,rs⟩:=hr.ob _ _ e
   exact ⟨_,.inl ⟨_,SqL.of h,rfl⟩,by rw [isE rs.length];exact p.here hr rfl⟩
  ·rename_i kvs e
   obtain ⟨vs,l,h,rs⟩:=hr.ob _ _ e
   exact ⟨_,.inr (.inr ⟨_,h,rfl⟩),by rw [isE (ys:=kvs) (by simp [l])];exact p.here hr rfl⟩
  ·exact p.elim
 ·exact p.elim
theorem b9 (ha:RE X WE a xa) (he:∀ whole,isTrue a X.env whole=(do let v ← whole;standAt a.pos;holding [v] (truthy v)):=by intro _;rfl):RT X WE a (cQ xa):=
 ⟨(xW ha.h he).weak fun σ H Q ⟨μ,S,τ,hr,sr,p⟩=>⟨μ,S,τ,hr,sr,p.bind fun v x S1 μ1 H1 st1 r1 p1=>BD st1.hr r1 p1⟩⟩
theorem nj (ha:RT X WE a t):RW X WE (.BoolOp .And [a] pos) t:=⟨za ha.h⟩
theorem dZ (ha:RT X WE a t):RW X WE (.BoolOp .Or [a] pos) t:=⟨BE ha.h⟩
theorem pQ (ha:RT X WE a t) (hb:RW X WE (.BoolOp .And (b :: es) pos) u):RW X WE (.BoolOp .And (a :: b :: es) pos) (lI t u):=
 ⟨(BQ ha.h hb.h).weak fun σ H Q ⟨μ,S,τ,hr,sr,p⟩=>⟨μ,S,τ,hr,sr,p.bind fun k k' S1 μ1 H1 st1 r1 p1=>by
  cases (show k=k' from r1)
  try dsimp only at p1
  split at p1
  ·rename_i hk;rw [if_pos hk];exact ⟨μ1,S1,τ,st1.hr,sr.step st1,p1⟩
  ·rename_i hk;rw [if_neg hk];exact p1.here st1.hr rfl⟩⟩
theorem du (ha:RT X WE a t) (hb:RW X WE (.BoolOp .Or (b :: es) pos) u):RW X WE (.BoolOp .Or (a :: b :: es) pos) (xOr t u):=
 ⟨(DA ha.h hb.h).weak fun σ H Q ⟨μ,S,τ,hr,sr,p⟩=>⟨μ,S,τ,hr,sr,p.bind fun k k' S1 μ1 H1 st1 r1 p1=>by
  cases (show k=k' from r1)
  try dsimp only at p1
  split at p1
  ·rename_i hk;rw [if_pos hk];exact p1.here st1.hr rfl
  ·rename_i hk;rw [if_neg hk];exact ⟨μ1,S1,τ,st1.hr,sr.step st1,p1⟩⟩⟩
theorem RW.rt (h:RW X WE a t):RT X WE a t:=⟨h.h.pt⟩
theorem cw (ha:RT X WE a t):RT X WE (.UnaryOp .Not a pos) (c9 t):=
 ⟨(BS ha.h).weak fun σ H Q ⟨μ,S,τ,hr,sr,p⟩=>⟨μ,S,τ,hr,sr,p.bind fun k k' S1 μ1 H1 st1 r1 p1=>by
  cases (show k=k' from r1)
  exact p1.here st1.hr rfl⟩⟩
theorem uL {K:PySem.W.Frag} {mg:Str→Option Value} {α β:Type} {Rl:(Nat→Addr)→Sto→Hp→β→α→Prop} {μ:Nat→Addr} {S:Sto} {H:Hp} {v:V} {x:Vl} {Q:β→Hp→Prop} {f:Bool→Sto→R α} (r:ba K mg μ S H v x) (p:bc Rl WE μ S H ((asB x S).bind f) Q):∃ k,v=.bl k∧bc Rl WE μ S H (f k S) Q:=by
 unfold asB at p
 split at p
 ·cases (show Rep (vh μ S H) v (.bl _) from r)
  exact ⟨_,rfl,p⟩
 ·exact p.elim
theorem d_ {op} (ha:RE X WE a xa):RE X WE (.BoolOp op [a] pos) xa:=⟨Dk ha.h⟩
theorem cL (ha:RE X WE a xa) (hb:RE X WE (.BoolOp .And (b :: es) pos) xb):RE X WE (.BoolOp .And (a :: b :: es) pos) (cS xa xb):=
 ⟨(A0 ha.h hb.h).weak fun σ H Q ⟨μ,S,τ,hr,sr,p⟩=>⟨μ,S,τ,hr,sr,p.bind fun v x S1 μ1 H1 st1 r1 p1=>by
  obtain ⟨k,rfl,p1⟩:=uL r1 p1
  refine ⟨k,rfl,?_⟩
  split at p1
  ·rename_i hk;rw [if_pos hk];exact ⟨μ1,S1,τ,st1.hr,sr.step st1,p1⟩
  ·rename_i hk;rw [if_neg hk];exact p1.here st1.hr (Rep.bl false)⟩⟩
theorem Dm (ha:RE X WE a xa):RE X WE (.UnaryOp .Not a pos) (tu xa):=
 ⟨(Cj ha.h).weak fun σ H Q ⟨μ,S,τ,hr,sr,p⟩=>⟨μ,S,τ,hr,sr,p.bind fun v x S1 μ1 H1 st1 r1 p1=>by
  obtain ⟨k,rfl,p1⟩:=uL r1 p1
  exact ⟨k,rfl,p1.here st1.hr (Rep.bl _)⟩⟩⟩
theorem CO (hc:RT X WE c t) (ha:RE X WE a xa) (hb:RE X WE b xb):RE X WE (.IfExp c a b pos) (sO t xa xb):=
 ⟨(wK hc.h ha.h hb.h).weak fun σ H Q ⟨μ,S,τ,hr,sr,p⟩=>⟨μ,S,τ,hr,sr,p.bind fun k k' S1 μ1 H1 st1 r1 p1=>by
  cases (show k=k' from r1)
  try dsimp only at p1
  split at p1
  ·rename_i hk;rw [if_pos hk];exact ⟨μ1,S1,τ,st1.hr,sr.step st1,p1⟩
  ·rename_i hk;rw [if_neg hk];exact ⟨μ1,S1,τ,st1.hr,sr.step st1,p1⟩⟩⟩
theorem ah:RA X WE [] aj:=⟨gR.weak fun σ H Q ⟨μ,S,τ,hr,sr,p⟩=>p.here hr .nil⟩
theorem ae {ts:XA} [n:NS e] (ha:RE X WE e xe) (hr:RA X WE es ts):RA X WE (e :: es) (ab xe ts):=
 ⟨(eJ ha.h hr.h (n.eq es X.env)).weak fun σ H Q ⟨μ,S,τ,hr,sr,p⟩=>⟨μ,S,τ,hr,sr,p.bind fun v x S1 μ1 H1 st1 r1 p1=>⟨μ1,S1,τ,st1.hr,sr.step st1,p1.bind fun vs xs S2 μ2 H2 st2 r2 p2=>
  p2.here st2.hr (.cons (r1.step st2) r2)⟩⟩⟩
theorem gy {K:PySem.W.Frag} {mg:Str→Option Value} {μ:Nat→Addr} {S:Sto} {H:Hp}:∀ {vs:List V} {xs:List Vl} {ds:List D},bK K mg μ S H vs xs→iy xs=some ds→ax (vh μ S H) vs ds
 | _,_,_,.nil,e=>by simp [iy] at e;subst e;exact .nil
 | _,_,ds,@bK.cons _ _ _ _ _ v x vs xs r t,e=>by
  cases x with
  | d x=>
   simp only [iy,Option.map_eq_some_iff] at e
   obtain ⟨es,e1,rfl⟩:=e
   exact .cons r (gy t e1)
  | _=>simp [iy] at e
theorem jd {n:Nat} (h:n≤100000):n≤sizeLine:=by rw [sizeLine_eq];omega
theorem bc.pO {K:PySem.W.Frag} {mg:Str→Option Value} {μ:Nat→Addr} {S:Sto} {H:Hp} {Q:VK} {vs:List V} {ds:List D} (hr:HR μ S H) (rs:ax (vh μ S H) vs ds) (p:bc (ba K mg) WE μ S H (.ok (.d (.tup ds)) S) Q) (q:Addr) (hq:H q=none):Q (.ref q) (upd H q (.tup vs)):=by
 have st:=Step.new hr hq (.tup vs)
 exact p _ μ _ st (Rep.tup (bO bJ (hr.nal hq)) (rs.mono st.vis))
theorem br {ts:XA} {k:Nat} (h:RA X WE es ts):RE X WE (.Tuple es k pos) (xN mkT ts):=
 ⟨(CW h.h).weak fun σ H Q ⟨μ,S,τ,hr,sr,p⟩=>⟨μ,S,τ,hr,sr,p.bind fun vs xs S1 μ1 H1 st1 r1 p1=>by
  unfold mkT at p1
  split at p1
  ·rename_i ds e
   split at p1
   ·have rs:=gy r1 e
    refine ⟨jd (by rw [rs.length];assumption),fun q hq=>p1.pO st1.hr rs q hq⟩
   ·exact p1.elim
  ·exact p1.elim⟩⟩
end
section
variable {X:Cx} {WE:WX} {a b c e:Expr} {xa xb xc xe:XE} {pos:Pos} {es:List Expr} {t u:XT} {K:PySem.W.Frag} {mg:Str→Option Value} {μ:Nat→Addr} {S:Sto} {H:Hp} {Q:VK} {vs:List V} {ds:List D}
theorem bc.nk (hr:HR μ S H) (rs:ax (vh μ S H) vs ds) (p:bc (ba K mg) WE μ S H (.ok (.d (.lst ds)) S) Q) (q:Addr) (hq:H q=none):Q (.ref q) (upd H q (.lst vs)):=by
 have st:=Step.new hr hq (.lst vs)
 exact p _ μ _ st (Rep.lst (bO bJ (hr.nal hq)) (rs.mono st.vis))
theorem bc.yb (hr:HR μ S H) (rs:ax (vh μ S H) vs ds) (p:bc (ba K mg) WE μ S H (.ok (.r S.length) (S++[.lst ds])) Q) (q:Addr) (hq:H q=none):Q (.ref q) (upd H q (.lst vs)):=
 p _ _ _ (Step.alloc hr hq (ob:=.lst ds) ⟨vs,rfl,rs⟩) ⟨by rw [cN],by simp⟩
theorem bP {ts:XA} (h:RA X WE es ts):RE X WE (.List es pos) (xN mkL ts):=
 ⟨(vL h.h).weak fun σ H Q ⟨μ,S,τ,hr,sr,p⟩=>⟨μ,S,τ,hr,sr,p.bind fun vs xs S1 μ1 H1 st1 r1 p1=>by
  unfold mkL at p1
  split at p1
  ·rename_i ds e
   split at p1
   ·have rs:=gy r1 e
    refine ⟨jd (by rw [rs.length];assumption),fun q hq=>p1.nk st1.hr rs q hq⟩
   ·exact p1.elim
  ·exact p1.elim⟩⟩
theorem k6 {ts:XA} (h:RA X WE es ts):RE X WE (.List es pos) (xN mkM ts):=
 ⟨(vL h.h).weak fun σ H Q ⟨μ,S,τ,hr,sr,p⟩=>⟨μ,S,τ,hr,sr,p.bind fun vs xs S1 μ1 H1 st1 r1 p1=>by
  unfold mkM at p1
  split at p1
  ·rename_i ds e
   split at p1
   ·have rs:=gy r1 e
    refine ⟨jd (by rw [rs.length];assumption),fun q hq=>p1.yb st1.hr rs q hq⟩
   ·exact p1.elim
  ·exact p1.elim⟩⟩
theorem mm (ha:RE X WE a xa):RE X WE a (xFz xa):=
 ⟨fun pins s σ H Q I ⟨μ,S,τ,hr,sr,p⟩=>by
  refine thn (ha.h pins s σ H (fun v H1=>∃ μ1 S1 x,HR μ1 S1 H1∧ba X.K X.mg μ1 S1 H1 v x∧bc (ba X.K X.mg) WE μ1 S1 H1 (frz x S1) Q) I ⟨μ,S,τ,hr,sr,p.bind fun v x S1 μ1 H1 st1 r1 p1=>⟨μ1,S1,x,st1.hr,r1,p1⟩⟩) fun u s1 ⟨v,H1,I1,ru,μ1,S1,x,hr1,r1,p1⟩=>?_
  unfold frz at p1
  split at p1
  ·obtain ⟨rfl,hn⟩:=r1
   split at p1
   ·rename_i n xs e
    obtain ⟨vs,h,rs⟩:=hr1.ob _ _ e
    obtain ⟨st2,na⟩:=Step.freeze hr1 e (by simp)
    exact ⟨_,H1,I1,ru,p1 _ _ _ st2 (Rep.lst (bO h na) (rs.mono st2.vis))⟩
   ·rename_i n _ kvs e
    obtain ⟨vs,l,h,rs⟩:=hr1.ob _ _ e
    have ok:bH X.prog X.w H1 s1.heap (μ1 n) (.dK ((kvs.map (·.1)).zip vs)):=I1.hok _ _ h
    obtain ⟨z1,z2,ws,rel,o,es,ep,ho,r⟩:=ok
    obtain ⟨st2,na⟩:=Step.wA hr1 (.frz o (.dK ((kvs.map (·.1)).zip vs))) e (by simp)
    exact ⟨_,_,I1.write (o:=.frz o (.dK ((kvs.map (·.1)).zip vs))) (h':=s1.heap) (x:=μ1 n) (e:=μ1 n) (t':=s1.toks) (by rw [h];exact True.intro) (.inl rfl) (fun b q _ hq=>hq) ⟨o,ho⟩ (show _∧_ from ⟨ho,z1,z2,ws,rel,o,es,ep,ho,r⟩),ru,p1 _ _ _ st2 ⟨_,vs,o,rfl,l,bO bJ na,rs.mono st2.vis⟩⟩
   ·exact p1.elim
  ·exact ⟨_,H1,I1,ru,p1.here hr1 r1⟩⟩
theorem aM {x:Str} {p:Pos} {id:String} {r:List V→Hp→VK→Prop} {f:List Vl→Sto→R Vl} {ts:XA} [n:NS e] (hc:cx X (.builtin id) r) (hf:lP X.K X.mg r f) (hm:X.mg x=none) (hv:bootBuiltins x=some (.builtin id)) (ha:RA X WE (e :: es) ts) (hg:Gl X x:=by exact rfl) (hn:x≠"__name__":=by decide) (hdb:(x == ("__debug__":Str))=false:=by decide)
  (hpl:(backTo pos (starEach es X.env)).any (·.1)=false:=by rfl):RE X WE (.Call (.Name x p) (e :: es) [] pos) (xN f ts):=
 ⟨(xX hc hg hm hv ha.h hn hdb (n.eq es X.env) hpl).weak fun σ H Q ⟨μ,S,τ,hr,sr,p⟩=>⟨μ,S,τ,hr,sr,p.bind fun vs xs S1 μ1 H1 st1 r1 p1=>hf WE μ1 S1 H1 vs xs Q st1.hr r1 p1⟩⟩
theorem cu {x:Str} {p:Pos} {T:String} {r:List V→Hp→VK→Prop} {f:List Vl→Sto→R Vl} {ts:XA} [n:NS e] (hc:cx X (.type T) r) (hf:lP X.K X.mg r f) (hm:X.mg x=none) (hv:bootBuiltins x=some (.type T)) (ha:RA X WE (e :: es) ts) (hg:Gl X x:=by exact rfl) (hn:x≠"__name__":=by decide) (hdb:(x == ("__debug__":Str))=false:=by decide)
  (hpl:(backTo pos (starEach es X.env)).any (·.1)=false:=by rfl):RE X WE (.Call (.Name x p) (e :: es) [] pos) (xN f ts):=
 ⟨(uv hc hg hm hv ha.h hn hdb (n.eq es X.env) hpl).weak fun σ H Q ⟨μ,S,τ,hr,sr,p⟩=>⟨μ,S,τ,hr,sr,p.bind fun vs xs S1 μ1 H1 st1 r1 p1=>hf WE μ1 S1 H1 vs xs Q st1.hr r1 p1⟩⟩
def spM (K:PySem.W.Frag) (mg:Str→Option Value) (F:XF):Sp:=fun vs H Q _=>∃ μ S us,HR μ S H∧bK K mg μ S H vs us∧bc (ba K mg) W0 μ S H (F us S) Q
def noX {α:Type} (r:R α):R α:=match r with
 | .ex _ _ _=>.bad
 | r=>r
def ay (F:XF) (as:XA):XE:=fun τ S=>(as τ S).bind fun us S1=>noX (F us S1)
theorem bc.noX {α β:Type} {Rl:(Nat→Addr)→Sto→Hp→β→α→Prop} {res:R α} {Q:β→Hp→Prop} (h:bc Rl WE μ S H (noX res) Q):bc Rl W0 μ S H res Q:=by
 cases res with
 | ok a S'=>exact h
 | ex c xs S'=>exact h.elim
 | bad=>exact h.elim
end
section
variable {X:Cx} {WE:WX} {e:Expr} {es:List Expr} {pos p:Pos} {lev j:Nat} {ps:List Str} {F:XF} {x:Str} {ts:XA}
def OkE (P:Program) (w:World) (K:PySem.W.Frag) (mg:Str→Option Value) (lev:Nat) (x:Str) (ps:List Str) (M:XF):Prop:=∃ (f:Addr) (fd:FuncData),mg x=some (.ref f)∧PySem.W.keepIn K (.ref f)=true∧(∀ us:List Value,us.length=ps.length→bindArgs fd ⟨us,[]⟩=pure (ps.zip us))∧∀ base,fw P w K mg base CX0 lev f fd ps (spM K mg M)
theorem aq [n:NS e] (G:OkE X.prog X.w X.K X.mg lev x ps F) (hr:cW j X.A) (ha:RA X WE (e :: es) ts) (hj:lev≤j:=by decide) (hg:Gl X x:=by exact rfl)
  (hdb:(x == ("__debug__":Str))=false:=by decide) (hpl:(backTo pos (starEach es X.env)).any (·.1)=false:=by rfl):RE X WE (.Call (.Name x p) (e :: es) [] pos) (ay F ts):=by
 obtain ⟨f,fd,hm,hk,hb,G⟩:=G
 exact ⟨(Ad (G X.base) (hr.mono hj) hg hm hk (.all hb) .nil Ec ha.h hdb (n.eq es X.env) hpl).weak fun σ H Q ⟨μ,S,τ,hr,sr,p⟩=>⟨μ,S,τ,hr,sr,p.bind fun vs xs S1 μ1 H1 st1 r1 p1=>by
  rw [List.append_nil]
  exact ⟨μ1,S1,xs,st1.hr,r1,p1.noX⟩⟩⟩
end
def out (S:Sto) (z:Vl) (S':Sto):R Vl:=match z with
 | .r n=>if n < S.length then .ok (.r n) (S'.take S.length) else match S'[n]? with
  | some (.lst xs)=>.ok (.r S.length) (S'.take S.length++[.lst xs])
  | some (.dct kvs)=>.ok (.r S.length) (S'.take S.length++[.dct kvs])
  | _=>.bad
 | .pr x n=>if n < S.length then .ok (.pr x n) (S'.take S.length) else match S'[n]? with
  | some (.lst xs)=>.ok (.pr x S.length) (S'.take S.length++[.lst xs])
  | _=>.bad
 | z=>.ok z (S'.take S.length)
def leave (S:Sto) (r:R (Fl×Nv)):R Vl:=match r with
 | .ok q S'=>(match q.1 with
  | .nx=>out S (.d .non) S'
  | .rt z=>out S z S'
  | _=>.bad)
 | .ex c xs S'=>.ex c xs (S'.take S.length)
 | .bad=>.bad
def aW (k n:Nat) (b:XS):XF:=fun us S=>if us.length=k then leave S (b (us.map some++List.replicate (n - k) none) S) else .bad
section
variable {K:PySem.W.Frag} {mg:Str→Option Value} {μ μ':Nat→Addr} {S S':Sto} {H H':Hp} {Q:VK}
theorem ft {k:Nat}:dn (vh μ S H) (vh μ (S.take k) H):=fun b u q=>by
 obtain ⟨z,q⟩:=aT q
 refine bO q ?_
 rintro ⟨m,u,e,d,rfl⟩
 exact z ⟨m,u,(c_ e).2,d,rfl⟩
theorem AB {k n:Nat} {ob:Ob} (hk:k≤S.length) (e0:S[n]?=some ob) (d0:ob≠.dead):dn (vh μ S H) (vh (ext μ k (μ n)) (S.take k++[ob]) H):=fun b u q=>by
 obtain ⟨z,q⟩:=aT q
 refine bO q ?_
 rintro ⟨m,u,e,d,rfl⟩
 have lt:(S.take k).length=k:=by rw [List.length_take];omega
 by_cases hm:m < k
 ·rw [List.getElem?_append_left (by omega)] at e
  exact z ⟨m,u,(c_ e).2,d,by rw [jW (Nat.ne_of_lt hm)]⟩
 ·have hm':m=k:=by
   have:=(List.getElem?_eq_some_iff.mp e).1
   simp only [List.length_append,lt,List.length_singleton] at this
   omega
  subst hm'
  exact z ⟨n,ob,e0,d0,by rw [cN]⟩
theorem uA {WE:WX} {v:V} {z:Vl} (st:Step μ S H μ' S' H') (r:ba K mg μ' S' H' v z) (p:bc (ba K mg) WE μ S H (out S z S') Q):Q v H':=by
 have st':=st.take
 cases z with
 | d x=>exact p v μ' H' st' (Rep.mono ft r)
 | fd kvs=>obtain ⟨a,vs,o,e,l,h,rs⟩:=r;exact p v μ' H' st' ⟨a,vs,o,e,l,ft _ _ h,rs.mono ft⟩
 | fn x=>exact p v μ' H' st' r
 | sc ns=>obtain ⟨l,e,h⟩:=r;exact p v μ' H' st' ⟨l,e,h.mono ft⟩
 | pr x n=>
  obtain ⟨a,u,rfl,h,ru,hn⟩:=r
  unfold out at p
  try dsimp only at p
  split at p
  ·exact p _ μ' H' st' ⟨a,u,rfl,ft _ _ h,Rep.mono ft ru,by rw [List.length_take];omega⟩
  ·have lt:(S'.take S.length).length=S.length:=by rw [List.length_take];have:=st.le;omega
   split at p
   ·rename_i xs e
    have k:=AB (μ:=μ') (H:=H') (k:=S.length) st.le e (by simp)
    exact p _ _ H' (st.move (by omega) e (by simp)) ⟨a,u,rfl,by rw [cN];exact k _ _ h,Rep.mono k ru,by simp [lt]⟩
   ·exact p.elim
 | r n=>
  obtain ⟨rfl,hn⟩:=r
  unfold out at p
  try dsimp only at p
  split at p
  ·exact p _ μ' H' st' ⟨rfl,by rw [List.length_take];omega⟩
  ·have lt:(S'.take S.length).length=S.length:=by rw [List.length_take];have:=st.le;omega
   split at p
   ·rename_i xs e
    exact p _ _ H' (st.move (by omega) e (by simp)) ⟨by rw [cN],by simp [lt]⟩
   ·rename_i xs e
    exact p _ _ H' (st.move (by omega) e (by simp)) ⟨by rw [cN],by simp [lt]⟩
   ·exact p.elim
theorem FT {P:Program} {w:World} {base:Heap} {x qual:Str} {st:Stmt} {f:Addr} {fd:FuncData} {N ps:List Str} {lev:Nat} {m:XS} (F:Fun K x qual st f fd) (Sc:iM N ps (bY st))
  (hb:∀ (cdv:Value) (A:Around) (outer:List Env) (s:Shared) (H:Hp) (E:XK),cW lev (A.deeper (envOfC qual (bY st) s.heap.objs.size f cdv))→RB (kh CX0 P w K mg base N qual (bY st) f cdv A outer s H E).nox W0 (eO st) m) :
  fw P w K mg base CX0 (lev+1) f fd ps (spM K mg (aW ps.length N.length m)):=by
 refine F.ok Sc (fun vs H Q E h=>?_) (fun cdv A outer s H vs Q E hr h=>?_)
 ·obtain ⟨μ,S,us,hr,rs,p⟩:=h
  unfold aW at p
  split at p
  ·rw [rs.length];assumption
  ·exact p.elim
 ·refine ⟨_,(hb cdv A outer s H E hr).h,?_⟩
  obtain ⟨μ,S,us,hr,rs,p⟩:=h
  unfold aW at p
  split at p
  ·rename_i hl
   have sr:cf K mg μ S H (start N vs) (us.map some++List.replicate (N.length - ps.length) none):=by
    rw [← hl];exact cf.beg rs
   refine ⟨μ,S,_,hr,sr,?_⟩
   generalize m (us.map some++List.replicate (N.length - ps.length) none) S=res at p
   cases res with
   | bad=>exact p.elim
   | ex c xs S'=>exact fun μ' H' st=>p μ' H' st.take
   | ok q S'=>
    obtain ⟨fl,τ'⟩:=q
    rintro ⟨fv,σ'⟩ μ' H' st ⟨sr',fr⟩
    cases fl with
    | nx=>
     cases fv with
     | nx=>exact uA (K:=K) (mg:=mg) (v:=.non) (z:=.d .non) st Rep.non p
     | _=>exact (show False from fr).elim
    | rt z=>
     cases fv with
     | rt v=>exact uA st fr p
     | _=>exact (show False from fr).elim
    | bk=>exact (show False from p).elim
    | ct=>exact (show False from p).elim
  ·exact p.elim
end
def aP:XS:=fun τ S=>.ok (.nx,τ) S
def av (a b:XS):XS:=fun τ S=>(a τ S).bind fun q S1=>match q.1 with
 | .nx=>b q.2 S1
 | _=>.ok q S1
def dI (e:XE):XS:=fun τ S=>(e τ S).bind fun _ S1=>.ok (.nx,τ) S1
def aL (e:XE):XS:=fun τ S=>(e τ S).bind fun z S1=>.ok (.rt z,τ) S1
def E9:XS:=fun τ S=>.ok (.rt (.d .non),τ) S
def A4:XS:=fun τ S=>.ok (.bk,τ) S
def E6:XS:=fun τ S=>.ok (.ct,τ) S
def xIf (c:XT) (a b:XS):XS:=fun τ S=>(c τ S).bind fun k S1=>if k=true then a τ S1 else b τ S1
def bG:XS:=fun _ _=>.bad
def aH (e:XE) (g:XG):XS:=fun τ S=>(e τ S).bind fun z S1=>(g z τ S1).bind fun τ1 S2=>.ok (.nx,τ1) S2
def gNm (i:Nat):XG:=fun z τ S=>.ok (τ.set i (some z)) S
def gTu (n:Nat) (g:XGs):XG:=fun z τ S=>match z with
 | .d (.tup xs)=>if xs.length=n then g (xs.map Vl.d) τ S else .bad
 | _=>.bad
def gN0:XGs:=fun zs τ S=>match zs with
 | []=>.ok τ S
 | _=>.bad
def gCo (g:XG) (gs:XGs):XGs:=fun zs τ S=>match zs with
 | z :: r=>(g z τ S).bind fun τ1 S1=>gs r τ1 S1
 | []=>.bad
def gSb (o i:XE) (f:Vl→Vl→Vl→Sto→R Unit):XG:=fun z τ S=>(o τ S).bind fun x S1=>(i τ S1).bind fun y S2=>(f x y z S2).bind fun _ S3=>.ok τ S3
def gok (gd:Option (Nat×Ob)) (S:Sto):Prop:=match gd with
 | none=>True
 | some (n,o)=>S[n]?=some o
open Classical in
noncomputable def cE (g:XG) (b:XS) (gd:Option (Nat×Ob)):List Vl→Nv→Sto→R (Fl×Nv)
 | [],τ,S=>.ok (.nx,τ) S
 | z :: zs,τ,S=>(g z τ S).bind fun τ1 S1=>(b τ1 S1).bind fun q S2=>match q.1 with
  | .bk=>.ok (.nx,q.2) S2
  | .rt v=>.ok (.rt v,q.2) S2
  | _=>if gok gd S2 then cE g b gd zs q.2 S2 else .bad
noncomputable def dR (it:XI) (g:XG) (b:XS):XS:=fun τ S=>(it τ S).bind fun I S1=>cE g b I.gd I.items τ S1
section
variable {X:Cx} {WE:WX} {e c tg iter:Expr} {xe:XE} {t:XT} {pos:Pos} {st:Stmt} {sts sts':List Stmt} {m m':XS} {g:XG} {gs:XGs} {it:XI}
theorem aO:RB X WE [] aP:=⟨zI.weak fun D σ H ⟨μ,S,τ,hr,sr,p⟩=>p.here (b:=(FlV.nx,σ)) hr ⟨sr,True.intro⟩⟩
theorem au (h:RS X WE st m):RB X WE [st] m:=⟨Ap h.h⟩
theorem ak (h:RS X WE st m) (h':RB X WE sts m'):RB X WE (st :: sts) (av m m'):=
 ⟨(wt h.h h'.h).weak fun D σ H ⟨μ,S,τ,hr,sr,p⟩=>⟨μ,S,τ,hr,sr,p.bind fun b q S1 μ1 H1 st1 r1 p1=>by
  obtain ⟨fv,σ1⟩:=b
  obtain ⟨fl,τ1⟩:=q
  obtain ⟨sr1,fr⟩:=r1
  cases fl with
  | nx=>cases fv with
   | nx=>exact ⟨μ1,S1,τ1,st1.hr,sr1,p1⟩
   | _=>exact (show False from fr).elim
  | bk=>cases fv with
   | bk=>exact (show D.at (FlV.bk,σ1) H1 from bc.here (b:=(FlV.bk,σ1)) st1.hr p1 ⟨sr1,True.intro⟩)
   | _=>exact (show False from fr).elim
  | ct=>cases fv with
   | ct=>exact (show D.at (FlV.ct,σ1) H1 from bc.here (b:=(FlV.ct,σ1)) st1.hr p1 ⟨sr1,True.intro⟩)
   | _=>exact (show False from fr).elim
  | rt z=>cases fv with
   | rt v=>exact (show D.at (FlV.rt v,σ1) H1 from bc.here (b:=(FlV.rt v,σ1)) st1.hr p1 ⟨sr1,fr⟩)
   | _=>exact (show False from fr).elim⟩⟩
theorem di (he:RE X WE e xe) (hs:swapsWith e none pos.line X.env=pure false:=by rfl):RS X WE (.Expr e pos) (dI xe):=
 ⟨(zu he.h hs).weak fun D σ H ⟨μ,S,τ,hr,sr,p⟩=>⟨μ,S,τ,hr,sr,p.bind fun v x S1 μ1 H1 st1 r1 p1=>p1.here (b:=(FlV.nx,σ)) st1.hr ⟨sr.step st1,True.intro⟩⟩⟩
theorem aB (he:RE X WE e xe):RS X WE (.Return (some e) pos) (aL xe):=
 ⟨(CV he.h).weak fun D σ H ⟨μ,S,τ,hr,sr,p⟩=>⟨μ,S,τ,hr,sr,p.bind fun v x S1 μ1 H1 st1 r1 p1=>p1.here (b:=(FlV.rt v,σ)) st1.hr ⟨sr.step st1,r1⟩⟩⟩
theorem lU:RS X WE st bG:=⟨fun _ _ _ _ _ _ ⟨_,_,_,_,_,p⟩=>p.elim⟩
theorem aX (hc:RT X WE c t) (ha:RB X WE sts m) (hb:RB X WE sts' m'):RS X WE (.If c sts sts' pos) (xIf t m m'):=
 ⟨(D_ hc.h ha.h hb.h).weak fun D σ H ⟨μ,S,τ,hr,sr,p⟩=>⟨μ,S,τ,hr,sr,p.bind fun k k' S1 μ1 H1 st1 r1 p1=>by
  cases (show k=k' from r1)
  try dsimp only at p1
  split at p1
  ·rename_i hk;rw [if_pos hk];exact ⟨μ1,S1,τ,st1.hr,sr.step st1,p1⟩
  ·rename_i hk;rw [if_neg hk];exact ⟨μ1,S1,τ,st1.hr,sr.step st1,p1⟩⟩⟩
structure LQ (sc:Scope) (N:List Str):Prop where
 nd:N.Nodup
theorem aU {i:Nat} {x:Str} {sc:Scope} (q:LQ sc X.N) (hi:X.N[i]?=some x:=by exact rfl) (hx:Loc X.env.scope x:=by first | exact .inl rfl | exact .inr rfl) (hf:X.fn x=true∨X.env.scope.names.lookup x=some .local:=by first | exact .inl rfl | exact .inr rfl | assumption):RG X WE (.Name x pos) (gNm i):=
 ⟨(An q.nd hi hx hf).weak fun v σ H Q ⟨μ,S,τ,z,hr,sr,r,p⟩=>p.here hr (sr.set i r)⟩
theorem iO:RGs X WE [] gN0:=⟨zr.weak fun vs σ H Q ⟨μ,S,τ,zs,hr,sr,r,p⟩=>by
 unfold gN0 at p
 split at p
 ·cases r;exact ⟨rfl,p.here hr sr⟩
 ·exact p.elim⟩
theorem cO {es:List Expr} (h:RG X WE e g) (h':RGs X WE es gs) (hs:(assignEach (e :: es) X.env).map (·.2)=assign e X.env :: (assignEach es X.env).map (·.2):=by rfl):RGs X WE (e :: es) (gCo g gs):=
 ⟨(xE h.h h'.h hs).weak fun vs σ H Q ⟨μ,S,τ,zs,hr,sr,r,p⟩=>by
  unfold gCo at p
  split at p
  ·cases r with
   | cons r1 rr=>exact ⟨_,_,rfl,μ,S,τ,_,hr,sr,r1,p.bind fun σ1 τ1 S1 μ1 H1 st1 sr1 p1=>⟨μ1,S1,τ1,_,st1.hr,sr1,rr.step st1,p1⟩⟩
  ·exact p.elim⟩
theorem jX {n:Nat} {es:List Expr} {k:Nat} (h:RGs X WE es gs) (hc:X.calm=true:=by exact rfl) (hn:(assignEach es X.env).length=n:=by rfl) (hst:(assignEach es X.env).findIdx? (·.1)=none:=by rfl):RG X WE (.Tuple es k pos) (gTu n gs):=
 ⟨(A_ hc h.h hn hst).weak fun v σ H Q ⟨μ,S,τ,z,hr,sr,r,p⟩=>by
  unfold gTu at p
  split at p
  ·split at p
   ·rename_i xs hl
    cases (show Rep (vh μ S H) v (.tup xs) from r) with
    | tup h rs=>exact ⟨_,_,rfl,SqT.of (aT h).2,by rw [rs.length];exact hl,μ,S,τ,_,hr,sr,bK.rE rs,p⟩
   ·exact p.elim
  ·exact p.elim⟩
def uY (K:PySem.W.Frag) (mg:Str→Option Value) (ts:qk) (f:Vl→Vl→Vl→Sto→R Unit):Prop:=∀ (WE:WX) (μ:Nat→Addr) (S:Sto) (H:Hp) (o i v:V) (x y z:Vl) (Q:Unit→Hp→Prop),HR μ S H→ba K mg μ S H o x→ba K mg μ S H i y→ba K mg μ S H v z→bc (fun _ _ _ (_ _:Unit)=>True) WE μ S H (f x y z S) Q→ts o i v H (Q ())
theorem jQ {o i:Expr} {xo xi:XE} {ts:qk} {f:Vl→Vl→Vl→Sto→R Unit} (ho:RE X WE o xo) (hi:RE X WE i xi) (hs:tS X ts) (hf:uY X.K X.mg ts f)
  (ha:∀ v,assign (.Subscript o i pos) X.env v=(do
   let ov ← holding [v] (eval o X.env)
   let iv ← holding [v,ov] (eval i X.env)
   standAt pos
   holding [v,ov,iv] (setItem ov iv v)
   release [v,ov,iv] []):=by intro _;rfl):RG X WE (.Subscript o i pos) (gSb xo xi f):=
 ⟨(Bl ho.h hi.h hs ha).weak fun v σ H Q ⟨μ,S,τ,z,hr,sr,r,p⟩=>⟨μ,S,τ,hr,sr,p.bind fun ov x S1 μ1 H1 st1 r1 p1=>⟨μ1,S1,τ,st1.hr,sr.step st1,p1.bind fun iv y S2 μ2 H2 st2 r2 p2=>
  hf WE μ2 S2 H2 ov iv v x y z (fun _ H3=>Q σ H3) st2.hr (r1.step st2) r2 (r.step (st1.trans st2)) (p2.bind fun _ _ S3 μ3 H3 st3 _ p3=>p3.here st3.hr (sr.step (st1.trans (st2.trans st3))))⟩⟩⟩
theorem gX (he:RE X WE e xe) (hg:RG X WE tg g) (hs:swapsWithSole [tg] e pos.line X.env=pure false:=by rfl) (hw:swappedStores [tg] e X.env=pure none:=by rfl)
  (h1:(assignEach [tg] X.env).map (·.2)=[assign tg X.env]:=by rfl):RS X WE (.Assign [tg] e pos) (aH xe g):=
 ⟨(AI he.h hg.h hs hw h1).weak fun D σ H ⟨μ,S,τ,hr,sr,p⟩=>⟨μ,S,τ,hr,sr,p.bind fun v x S1 μ1 H1 st1 r1 p1=>⟨μ1,S1,τ,x,st1.hr,sr.step st1,r1,p1.bind fun σ2 τ2 S2 μ2 H2 st2 sr2 p2=>p2.here (b:=(FlV.nx,σ2)) st2.hr ⟨sr2,True.intro⟩⟩⟩⟩
theorem aJ {i:Nat} {x:Str} {pos':Pos} {sc:Scope} (q:LQ sc X.N) (he:RE X WE e xe) (hi:X.N[i]?=some x:=by exact rfl) (hx:Loc X.env.scope x:=by first | exact .inl rfl | exact .inr rfl) (hs:swapsWith e (some (.Name x pos')) pos.line X.env=pure false:=by rfl) (hf:X.fn x=true∨X.env.scope.names.lookup x=some .local:=by first | exact .inl rfl | exact .inr rfl | assumption) :
  RS X WE (.Assign [.Name x pos'] e pos) (aH xe (gNm i)):=
 ⟨(AJ q.nd hi hx he.h hs hf).weak fun D σ H ⟨μ,S,τ,hr,sr,p⟩=>⟨μ,S,τ,hr,sr,p.bind fun v x S1 μ1 H1 st1 r1 p1=>p1.here (b:=(FlV.nx,σ.set i (some v))) st1.hr ⟨(sr.step st1).set i r1,True.intro⟩⟩⟩
theorem B9 {I:Its} {S:Sto} (h:gok I.gd S):I.ok S:=h
open Classical in
theorem dg (hi:RI X WE tg iter it) (hg:RG X WE tg g) (hb:RB X WE sts m) (hp:PassesOwn (model X.prog X.w) X.A X.env X.xe:=by exact PassesOwn.never) (hc:X.calm=true:=by exact rfl) (hs:∀ x,foldedSetIterable iter X.env x=pure x:=by intro _;rfl):RS X WE (.For tg iter sts [] pos) (dR it g m):=
 ⟨(AW hp hc hi.h hg.h hb.h hs).weak fun D σ H ⟨μ,S,τ,hr,sr,p⟩=>⟨μ,S,τ,hr,sr,p.bind fun J I S1 μ1 H1 st1 io p1=>by
  refine ⟨fun i k σ' H'=>∃ μ' S' τ',Step μ1 S1 H1 μ' S' H'∧cf X.K X.mg μ' S' H' σ' τ'∧I.ok S'∧k+i=I.items.length∧bc (RlS X.K X.mg) WE μ' S' H' (cE g m I.gd (I.items.drop i) τ' S') D.at,
   ⟨I.items.length,μ1,S1,τ,Step.refl st1.hr,sr.step st1,io.ok,by simp,p1⟩,?_⟩
  rintro i k σ' H' ⟨μ',S',τ',st',sr',ok',hk,p'⟩
  by_cases hlt:i < I.items.length
  ·have hz:I.items[i]?=some I.items[i]:=List.getElem?_eq_getElem hlt
   rw [List.drop_eq_getElem_cons hlt,cE] at p'
   refine .inr ⟨io.go i _ μ' S' H' st' ok' hz,_,fun σ2 H2 n=>⟨I.items.length - (i+1),by omega,n⟩,fun x H2 y=>?_⟩
   obtain ⟨st2,rx⟩:=io.yld i _ μ' S' H' x H2 st' ok' hz y
   refine ⟨μ',S',τ',_,st2.hr,sr'.step st2,rx,(p'.shift st2).bind fun σ3 τ3 S3 μ3 H3 st3 sr3 p3=>⟨μ3,S3,τ3,st3.hr,sr3,p3.bind fun q qq S4 μ4 H4 st4 r4 p4=>?_⟩⟩
   obtain ⟨fv,σ4⟩:=q
   obtain ⟨fl,τ4⟩:=qq
   obtain ⟨sr4,fr⟩:=r4
   have go:∀ {b},bc (RlS X.K X.mg) WE μ4 S4 H4 (if gok I.gd S4 then cE g m I.gd (I.items.drop (i+1)) τ4 S4 else .bad) D.at→b=σ4→∃ μ' S' τ',Step μ1 S1 H1 μ' S' H4∧cf X.K X.mg μ' S' H4 b τ'∧I.ok S'∧I.items.length - (i+1)+(i+1)=I.items.length∧bc (RlS X.K X.mg) WE μ' S' H4 (cE g m I.gd (I.items.drop (i+1)) τ' S') D.at:=by
    rintro b p5 rfl
    split at p5
    ·exact ⟨μ4,S4,τ4,st'.trans (st2.trans (st3.trans st4)),sr4,B9 ‹_›,by omega,p5⟩
    ·exact p5.elim
   cases fl with
   | nx=>cases fv with
    | nx=>exact go p4 rfl
    | _=>exact (show False from fr).elim
   | ct=>cases fv with
    | ct=>exact go p4 rfl
    | _=>exact (show False from fr).elim
   | bk=>cases fv with
    | bk=>exact (show D.at (FlV.nx,σ4) H4 from bc.here (b:=(FlV.nx,σ4)) st4.hr p4 ⟨sr4,True.intro⟩)
    | _=>exact (show False from fr).elim
   | rt z=>cases fv with
    | rt v=>exact (show D.at (FlV.rt v,σ4) H4 from bc.here (b:=(FlV.rt v,σ4)) st4.hr p4 ⟨sr4,fr⟩)
    | _=>exact (show False from fr).elim
  ·rw [List.drop_eq_nil_of_le (by omega),cE] at p'
   exact .inl ⟨io.stop i μ' S' H' st' ok' (by omega),p'.here (b:=(FlV.nx,σ')) st'.hr ⟨sr',True.intro⟩⟩⟩⟩
end
open Classical in
noncomputable def f_ (g:XG) (t:XT) (e:XE) (n:Nat) (gd:Option (Nat×Ob)):List Vl→List D→Nv→Sto→R (List D)
 | [],acc,_,S=>if S[n]?=some (.lst acc) then .ok acc S else .bad
 | z :: zs,acc,τ,S=>(g z τ S).bind fun τ1 S1=>(t τ1 S1).bind fun b S2=>if b=true then (e τ1 S2).bind fun v S3=>(match v with
   | .d x=>if S3[n]?=some (.lst acc)∧gok gd (S3.set n (.lst (acc++[x]))) then f_ g t e n gd zs (acc++[x]) τ1 (S3.set n (.lst (acc++[x]))) else .bad
   | _=>.bad)
  else if gok gd S2 then f_ g t e n gd zs acc τ1 S2 else .bad
def mr (n:Nat) (acc:List D) (S:Sto):R Vl:=.ok (.d (.lst acc)) (if S.length=n+1 then S.take n else S.set n .dead)
noncomputable def tE (fin:Nat→List D→Sto→R Vl) (it:XI) (k:Nat) (g:XG) (t:XT) (e:XE):XE:=fun τ S=>(it τ S).bind fun I S1=>(f_ g t e S1.length I.gd I.items [] (List.replicate k none++τ) (S1++[.lst []])).bind fun acc S2=>fin S1.length acc S2
noncomputable abbrev xLC:XI→Nat→XG→XT→XE→XE:=tE mr
def oO (fin:Nat→List D→Sto→R Vl):Prop:=∀ (K:PySem.W.Frag) (mg:Str→Option Value) (WE:WX) (μ μ':Nat→Addr) (S S':Sto) (H H':Hp) (acc:List D) (D:Addr) (Q:VK),Step μ S H μ' S' H'→S'[S.length]?=some (.lst acc)→μ' S.length=D→bc (ba K mg) WE μ S H (fin S.length acc S') Q→Q (.ref D) H'
theorem b8:oO mr:=by
 intro K mg WE μ μ' S S' H H' acc D Q st e hD p
 obtain ⟨vs,h,rs⟩:=st.hr.ob _ _ e
 have hn:S.length < S'.length:=(List.getElem?_eq_some_iff.mp e).1
 unfold mr at p
 by_cases hl:S'.length=S.length+1
 ·rw [if_pos hl] at p
  refine p _ _ _ st.take (Rep.lst (vs:=vs) (bO (by rw [← hD];exact h) ?_) (rs.mono ft))
  rintro ⟨m,u,e2,d2,q⟩
  obtain ⟨hm,e3⟩:=c_ e2
  have:=st.hr.inj m S.length u _ e3 e d2 (by simp) (by rw [q,hD])
  omega
 ·rw [if_neg hl] at p
  obtain ⟨st2,na⟩:=Step.freeze st.hr e (by simp)
  refine p _ _ _ (st.trans st2) (Rep.lst (vs:=vs) (bO (by rw [← hD];exact h) (by rw [← hD];exact na)) (rs.mono st2.vis))
section
variable {X:Cx} {WE:WX} {tg elt iter:Expr} {ifs:List Expr} {scope:Scope} {pos:Pos} {it:XI} {g:XG} {t:XT} {e:XE} {N:List Str} {k:Nat} {fin:Nat→List D→Sto→R Vl}
theorem Ae:RTs X WE [] (fun _ S=>.ok true S):=⟨fun pins s σ H Q I ⟨μ,S,τ,hr,sr,p⟩=>yY pins s σ H Q I (p.here hr rfl)⟩
theorem mT {c:Expr} (h:RT X WE c t):RTs X WE [c] t:=⟨Ai h.h⟩
theorem bc.tX {α β γ δ:Type} {Rl:(Nat→Addr)→Sto→Hp→β→α→Prop} {Rl2:(Nat→Addr)→Sto→Hp→δ→γ→Prop} {μ μ1:Nat→Addr} {S S1:Sto} {H H1:Hp} {res:R α} {Q:β→Hp→Prop} {Q2:δ→Hp→Prop} {f:α→Sto→R γ}
  (h:bc Rl2 WE μ S H (res.bind f) Q2) (a:Step μ S H μ1 S1 H1) (kk:∀ b x S2 μ2 H2,Step μ1 S1 H1 μ2 S2 H2→Rl μ2 S2 H2 b x→bc Rl2 WE μ S H (f x S2) Q2→Q b H2):bc Rl WE μ1 S1 H1 res Q:=by
 cases res with
 | ok x S'=>exact fun b μ' H' st r=>kk b x S' μ' H' st r h
 | ex c xs S'=>exact fun μ' H' st=>h μ' H' (a.trans st)
 | bad=>exact h
open Classical in
theorem yH (hfin:oO fin) {σ:St} {H:Hp} {Q:VK} (h:trE X.K X.mg WE (tE fin it k g t e) σ H Q):tLC (trI X.K X.mg WE it) (trG X.K X.mg WE g) (trT X.K X.mg WE t) (trE X.K X.mg WE e) k σ H Q:=by
 obtain ⟨μ,S,τ,hr,sr,p⟩:=h
 refine ⟨μ,S,τ,hr,sr,p.bind fun J I S1 μ1 H1 st1 io p1=>fun D hD=>?_⟩
 have st0:Step μ1 S1 H1 (ext μ1 S1.length D) (S1++[.lst []]) (upd H1 D (.lst [])):=Step.alloc st1.hr hD (ob:=.lst []) ⟨[],rfl,.nil⟩
 have hlen:(S1++[Ob.lst []]).length=S1.length+1:=by simp
 refine ⟨fun i j σ' H'=>∃ μ' S' τ' acc,Step (ext μ1 S1.length D) (S1++[.lst []]) (upd H1 D (.lst [])) μ' S' H'∧cf X.K X.mg μ' S' H' σ' τ'∧I.ok S'∧j+i=I.items.length∧acc.length≤i ∧
   bc (ba X.K X.mg) WE μ1 S1 H1 ((f_ g t e S1.length I.gd (I.items.drop i) acc τ' S').bind fun acc S2=>fin S1.length acc S2) Q,
  ⟨I.items.length,_,_,_,[],Step.refl st0.hr,((sr.step st1).step st0).pre k,?_,by simp,Nat.le_refl _,p1⟩,?_⟩
 ·have ok:=io.ok
  unfold Its.ok at ok ⊢
  split
  ·trivial
  ·rename_i n o hg
   rw [hg] at ok
   have hn:n < S1.length:=(List.getElem?_eq_some_iff.mp ok).1
   rw [List.getElem?_append_left hn];exact ok
 rintro i j σ' H' ⟨μ',S',τ',acc,st',sr',ok',hj,hacc,p'⟩
 have stA:=st0.trans st'
 have hn:S1.length < S'.length:=by have:=st'.le;omega
 have hμ:μ' S1.length=D:=by rw [st'.ag S1.length (by omega),cN]
 by_cases hlt:i < I.items.length
 ·have hz:I.items[i]?=some I.items[i]:=List.getElem?_eq_getElem hlt
  rw [List.drop_eq_getElem_cons hlt,f_] at p'
  refine .inr ⟨io.go i _ μ' S' H' stA ok' hz,_,fun σ2 H2 n=>⟨I.items.length - (i+1),by omega,n⟩,fun x H2 y=>?_⟩
  obtain ⟨st2,rx⟩:=io.yld i _ μ' S' H' x H2 stA ok' hz y
  have bb:∀ {α β γ:Type} (r:R α) (f:α→Sto→R β) (f':β→Sto→R γ),(r.bind f).bind f'=r.bind fun a S=>(f a S).bind f':=fun r f f'=>by cases r<;>rfl
  simp only [bb] at p'
  refine ⟨μ',S',τ',_,st2.hr,sr'.step st2,rx,p'.tX (stA.trans st2) fun σ3 τ3 S3 μ3 H3 st3 sr3 p3=>?_⟩
  refine ⟨μ3,S3,τ3,st3.hr,sr3,p3.tX (stA.trans (st2.trans st3)) fun b b' S4 μ4 H4 st4 r4 p4=>?_⟩
  cases (show b=b' from r4)
  have st24:=st2.trans (st3.trans st4)
  by_cases hb:b=true
  ·rw [if_pos hb] at p4 ⊢
   rw [bb] at p4
   refine ⟨μ4,S4,τ3,st4.hr,sr3.step st4,p4.tX (stA.trans st24) fun v z S5 μ5 H5 st5 r5 p5=>?_⟩
   have st25:=st24.trans st5
   cases z with
   | d x=>
    try dsimp only at p5
    by_cases hif:S5[S1.length]?=some (.lst acc)∧gok I.gd (S5.set S1.length (.lst (acc++[x])))
    ·rw [if_pos hif] at p5
     obtain ⟨vs,h5,rs⟩:=st5.hr.ob _ _ hif.1
     have hμ5:μ5 S1.length=D:=by rw [st25.ag S1.length (by omega)];exact hμ
     rw [hμ5] at h5
     have sp:Step μ5 S5 H5 μ5 (S5.set S1.length (.lst (acc++[x]))) (upd H5 (μ5 S1.length) (.lst (vs++[v]))):=Step.put st5.hr hif.1 (by simp) (ob:=.lst (acc++[x])) ⟨_,rfl,rs.append (.cons r5 .nil)⟩
     rw [hμ5] at sp
     have lz:=io.len
     have lv:=rs.length
     refine ⟨vs,h5,by omega,μ5,_,τ3,acc++[x],st'.trans (st25.trans sp),(sr3.step (st4.trans st5)).step sp,hif.2,by omega,by simp;omega,p5⟩
    ·rw [if_neg hif] at p5
     exact p5.elim
   | _=>exact p5.elim
  ·rw [if_neg hb] at p4 ⊢
   by_cases hif:gok I.gd S4
   ·rw [if_pos hif] at p4
    exact ⟨μ4,S4,τ3,acc,st'.trans st24,sr3.step st4,hif,by omega,by omega,p4⟩
   ·rw [if_neg hif] at p4
    exact p4.elim
 ·rw [List.drop_eq_nil_of_le (by omega),f_] at p'
  refine .inl ⟨io.stop i μ' S' H' stA ok' (by omega),?_⟩
  by_cases hif:S'[S1.length]?=some (.lst acc)
  ·rw [if_pos hif] at p'
   exact hfin X.K X.mg WE μ1 μ' S1 S' H1 H' acc D Q stA hif hμ p'
  ·rw [if_neg hif] at p'
   exact p'.elim
theorem rt0:∀ C s H fp,RTs (cm X scope N C s H fp) WE [] (fun _ S=>.ok true S):=fun _ _ _ _=>Ae
theorem c8 {esc:Scope} {EN:List Str} (hfin:oO fin) (N:List Str) (q:LQ esc EN) (hi:RI X WE tg iter it) (hg:∀ C s H fp,LQ scope N→RG (cm X scope N C s H fp) WE tg g) (ht:∀ C s H fp,RTs (cm X scope N C s H fp) WE ifs t) (he:∀ C s H fp,RE (cm X scope N C s H fp) WE elt e) (hd:N.Nodup:=by decide +kernel)
  (Sc:eN esc scope EN N k:=by exact ⟨rfl,by decide +kernel,by decide +kernel,by decide +kernel,by decide +kernel,by decide +kernel⟩) (h1:X.env.scope=esc:=by exact rfl) (h2:X.N=EN:=by exact rfl) (hc:X.calm=true:=by exact rfl) (hs:∀ x,foldedSetIterable iter X.env x=pure x:=by intro _;rfl):RE X WE (.ListComp elt [⟨tg,iter,ifs,0⟩] scope pos) (tE fin it k g t e):=
 ⟨(DE hc Sc h1 h2 hi.h (fun C s H fp=>(hg C s H fp ⟨hd⟩).h) (fun C s H fp=>(ht C s H fp).h) (fun C s H fp=>(he C s H fp).h) hs).weak fun σ H Q h=>yH (X:=X) hfin h⟩
theorem oG {esc:Scope} {EN:List Str} {i:Nat} {y:Str} {py spos:Pos} (hfin:oO fin) (N:List Str) (q:LQ esc EN) (hi:RI X WE tg iter it) (hg:∀ C s H fp,LQ scope N→RG (cm X scope N C s H fp) WE tg g) (ht:∀ C s H fp,RTs (cm X scope N C s H fp) WE ifs t) (he:∀ C s H fp,RE (cm X scope N C s H fp) WE elt e)
  (hi':X.N[i]?=some y:=by exact rfl) (hy:Loc X.env.scope y:=by first | exact .inl rfl | exact .inr rfl) (hd:N.Nodup:=by decide +kernel)
  (Sc:eN esc scope EN N k:=by exact ⟨rfl,by decide +kernel,by decide +kernel,by decide +kernel,by decide +kernel,by decide +kernel⟩) (h1:X.env.scope=esc:=by exact rfl) (h2:X.N=EN:=by exact rfl) (hc:X.calm=true:=by exact rfl)
  (hsw:swapsWith (.ListComp elt [⟨tg,iter,ifs,0⟩] scope pos) (some (.Name y py)) spos.line X.env=pure true:=by rfl)
  (hs:∀ x,foldedSetIterable iter X.env x=pure x:=by intro _;rfl) (hf:X.fn y=true∨X.env.scope.names.lookup y=some .local:=by first | exact .inl rfl | exact .inr rfl | assumption) :
  RS X WE (.Assign [.Name y py] (.ListComp elt [⟨tg,iter,ifs,0⟩] scope pos) spos) (aH (tE fin it k g t e) (gNm i)):=
 ⟨(Fd (h2 ▸ q.nd) hi' hy hc Sc h1 h2 hi.h (fun C s H fp=>(hg C s H fp ⟨hd⟩).h) (fun C s H fp=>(ht C s H fp).h) (fun C s H fp=>(he C s H fp).h) hsw hs hf).weak fun D0 σ H ⟨μ,S,τ,hr,sr,p⟩=>by
  refine yH (X:=X) (WE:=WE) (g:=g) (t:=t) (e:=e) hfin ⟨μ,S,τ,hr,sr,?_⟩
  exact p.bind fun v x S1 μ1 H1 st1 r1 p1=>p1.here (b:=(FlV.nx,σ.set i (some v))) st1.hr ⟨(sr.step st1).set i r1,True.intro⟩⟩
end
def da (x:Vl) (S:Sto):Option (List D):=match x with
 | .d (.lst xs)=>some xs
 | .r n=>(match S[n]? with
  | some (.lst xs)=>some xs
  | _=>none)
 | _=>none
def b7 (x:Vl) (S:Sto):Option (List D):=match x with
 | .d (.tup xs)=>some xs
 | x=>da x S
section
variable {K:PySem.W.Frag} {mg:Str→Option Value} {μ:Nat→Addr} {S:Sto} {H:Hp} {v:V} {x:Vl} {ds:List D} {WE:WX} {Q:VK}
theorem fb (hr:HR μ S H) (r:ba K mg μ S H v x) (e:da x S=some ds):∃ a vs,v=.ref a∧H a=some (.lst vs)∧ax (vh μ S H) vs ds:=by
 unfold da at e
 split at e
 ·cases e
  cases (show Rep (vh μ S H) v (.lst _) from r) with
  | lst h rs=>exact ⟨_,_,rfl,(aT h).2,rs⟩
 ·split at e
  ·rename_i q
   cases e
   obtain ⟨rfl,hn⟩:=r
   obtain ⟨vs,h,rs⟩:=hr.ob _ _ q
   exact ⟨_,vs,rfl,h,rs⟩
  ·cases e
 ·cases e
theorem iX (hr:HR μ S H) (r:ba K mg μ S H v x) (e:b7 x S=some ds):∃ a vs,v=.ref a∧(H a=some (.lst vs)∨H a=some (.tup vs))∧ax (vh μ S H) vs ds:=by
 unfold b7 at e
 split at e
 ·cases e
  cases (show Rep (vh μ S H) v (.tup _) from r) with
  | tup h rs=>exact ⟨_,_,rfl,.inr (aT h).2,rs⟩
 ·obtain ⟨a,vs,e1,e2,e3⟩:=fb hr r e
  exact ⟨a,vs,e1,.inl e2,e3⟩
theorem kH {a:Addr} {vs:List V} (h:H a=some (.lst vs)∨H a=some (.tup vs)):hZ H a=some vs:=h.elim AG Dg
theorem bD {i:Int} (r:ba K mg μ S H v (.d (.int i))):v=.int i:=by cases (show Rep (vh μ S H) v (.int i) from r);rfl
theorem iU {i:Bool} (r:ba K mg μ S H v (.d (.bl i))):v=.bl i:=by cases (show Rep (vh μ S H) v (.bl i) from r);rfl
theorem fT {i:Str} (r:ba K mg μ S H v (.d (.str i))):v=.str i:=by cases (show Rep (vh μ S H) v (.str i) from r);rfl
theorem cH (r:ba K mg μ S H v (.d .non)):v=.non:=by cases (show Rep (vh μ S H) v .non from r);rfl
theorem fi (r:ba K mg μ S H v (.d (.tup ds))):∃ a vs,v=.ref a∧H a=some (.tup vs)∧vh μ S H a=some (.tup vs)∧ax (vh μ S H) vs ds:=by
 cases (show Rep (vh μ S H) v (.tup _) from r) with
 | tup h rs=>exact ⟨_,_,rfl,(aT h).2,h,rs⟩
end
def oI (C:Int→Int→Prop) [∀ i j,Decidable (C i j)] (f:Int→Int→D) (x y:Vl) (S:Sto):R Vl:=match x,y with
 | .d (.int i),.d (.int j)=>if C i j then .ok (.d (f i j)) S else .bad
 | _,_=>.bad
def oI0 (f:Int→Int→D) (x y:Vl) (S:Sto):R Vl:=match x,y with
 | .d (.int i),.d (.int j)=>.ok (.d (f i j)) S
 | _,_=>.bad
section
variable {K:PySem.W.Frag} {mg:Str→Option Value}
theorem bV {C:Int→Int→Prop} [∀ i j,Decidable (C i j)] (f:Int→Int→Int):cG K mg (rI C fun i j=>V.int (f i j)) (oI C fun i j=>D.int (f i j)):=by
 intro WE μ S H v w x y Q hr rx ry p
 unfold oI at p
 split at p
 ·split at p
  ·exact ⟨_,_,bD rx,bD ry,‹_›,p.here hr (Rep.int _)⟩
  ·exact p.elim
 ·exact p.elim
theorem gS (f:Int→Int→Int):cG K mg (rI0 fun i j=>V.int (f i j)) (oI0 fun i j=>D.int (f i j)):=by
 intro WE μ S H v w x y Q hr rx ry p
 unfold oI0 at p
 split at p
 ·exact ⟨_,_,bD rx,bD ry,p.here hr (Rep.int _)⟩
 ·exact p.elim
theorem bQ (f:Int→Int→Bool):cG K mg (rI0 fun i j=>V.bl (f i j)) (oI0 fun i j=>D.bl (f i j)):=by
 intro WE μ S H v w x y Q hr rx ry p
 unfold oI0 at p
 split at p
 ·exact ⟨_,_,bD rx,bD ry,p.here hr (Rep.bl _)⟩
 ·exact p.elim
end
instance (i j:Int):Decidable (jf i j):=by unfold jf;infer_instance
instance (i j:Int):Decidable (mZ i j):=by unfold mZ;infer_instance
instance (i j:Int):Decidable (m9 i j):=by unfold m9;infer_instance
abbrev iE:=oI0 fun i j=>D.int (i - j)
abbrev ia:=oI jf fun i j=>D.int (i * j)
abbrev oMod:=oI (fun _ j=>0 < j) fun i j=>D.int (i % j)
abbrev oDiv:=oI mZ fun i j=>D.int (i / j)
abbrev mX:=oI m9 fun i j=>D.int (i ^ j.toNat)
abbrev oLt:=oI0 fun i j=>D.bl (decide (i < j))
abbrev oLe:=oI0 fun i j=>D.bl (decide (i≤j))
abbrev oGt:=oI0 fun i j=>D.bl (decide (j < i))
abbrev oGe:=oI0 fun i j=>D.bl (decide (j≤i))
def jc (x:Vl) (S:Sto):R Vl:=match x with
 | .d (.int i)=>.ok (.d (.int (-i))) S
 | _=>.bad
def aD (x y:Vl) (S:Sto):R Vl:=match x,y with
 | .d (.int i),.d (.int j)=>.ok (.d (.int (i+j))) S
 | .d (.tup a),.d (.tup b)=>if a.length+b.length≤100000 then .ok (.d (.tup (a++b))) S else .bad
 | .d (.str a),.d (.str b)=>if a.length+b.length≤100000 then .ok (.d (.str (a++b))) S else .bad
 | x,y=>(match da x S,da y S with
  | some a,some b=>if a.length+b.length≤100000 then .ok (.d (.lst (a++b))) S else .bad
  | _,_=>.bad)
def eqD (x y:Vl) (S:Sto):Option Bool:=match x,y with
 | .d .non,.d .non=>some true
 | .d .non,.d (.int _)=>some false
 | .d .non,.d (.str _)=>some false
 | .d (.int _),.d .non=>some false
 | .d (.str _),.d .non=>some false
 | .d (.int i),.d (.int j)=>some (decide (i=j))
 | .d (.bl i),.d (.bl j)=>some (decide (i=j))
 | .d (.str i),.d (.str j)=>some (decide (i=j))
 | .d (.int _),.d (.str _)=>some false
 | .d (.str _),.d (.int _)=>some false
 | .d (.tup a),.d (.tup b)=>if D.depth (.tup a)≤50 then some (D.bR a b) else none
 | x,y=>(match da x S,da y S with
  | some a,some b=>if D.depth (.lst a)≤50 then some (D.bR a b) else none
  | _,_=>none)
def oEq (x y:Vl) (S:Sto):R Vl:=match eqD x y S with
 | some b=>.ok (.d (.bl b)) S
 | none=>.bad
def oNe (x y:Vl) (S:Sto):R Vl:=match eqD x y S with
 | some b=>.ok (.d (.bl (!b))) S
 | none=>.bad
def oIs (x y:Vl) (S:Sto):R Vl:=match x,y with
 | .d (.bl a),.d (.bl b)=>.ok (.d (.bl (a == b))) S
 | .d .non,.d .non=>.ok (.d (.bl true)) S
 | .fn _,_=>.bad
 | .sc _,_=>.bad
 | _,.d .non=>.ok (.d (.bl false)) S
 | _,_=>.bad
def ip (x y:Vl) (S:Sto):R Vl:=match x,y with
 | .d (.bl a),.d (.bl b)=>.ok (.d (.bl (a != b))) S
 | .d .non,.d .non=>.ok (.d (.bl false)) S
 | .fn _,_=>.bad
 | .sc _,_=>.bad
 | _,.d .non=>.ok (.d (.bl true)) S
 | _,_=>.bad
section
variable {K:PySem.W.Frag} {mg:Str→Option Value}
theorem kP:B8 K mg (rU fun i=>.int (-i)) jc:=by
 intro WE μ S H v x Q hr rx p
 unfold jc at p
 split at p
 ·exact ⟨_,bD rx,p.here hr (Rep.int _)⟩
 ·exact p.elim
def yk:R2:=fun x y H Q=>yF x y H Q∨∃ i j,x=.str i∧y=.str j∧i.length+j.length≤sizeLine∧Q (.str (i++j)) H
theorem aF {X:Cx}:OpR X (binaryOp .Add) yk:=zZ.or sM
theorem aG:cG K mg yk aD:=by
 intro WE μ S H v w x y Q hr rx ry p
 unfold aD at p
 split at p
 ·exact .inl (.inl ⟨_,_,bD rx,bD ry,p.here hr (Rep.int _)⟩)
 ·split at p
  ·rename_i a b hl
   obtain ⟨p1,us,rfl,h1,g1,r1⟩:=fi rx
   obtain ⟨p2,ws,rfl,h2,g2,r2⟩:=fi ry
   have l1:=r1.length
   have l2:=r2.length
   refine .inl (.inr ⟨p1,p2,rfl,rfl,.inl ⟨us,ws,h1,h2,jd (by omega),fun e=>?_,fun _ e=>?_,fun _ _ q hq=>p.pO hr (r1.append r2) q hq⟩⟩)
   ·subst e
    have:a=[]:=List.eq_nil_of_length_eq_zero l1.symm
    subst this
    exact p.here hr (Rep.tup g2 r2)
   ·subst e
    have:b=[]:=List.eq_nil_of_length_eq_zero l2.symm
    subst this
    rw [List.append_nil] at p
    exact p.here hr (Rep.tup g1 r1)
  ·exact p.elim
 ·split at p
  ·exact .inr ⟨_,_,fT rx,fT ry,jd ‹_›,p.here hr (Rep.str _)⟩
  ·exact p.elim
 ·split at p
  ·rename_i a b e1 e2
   split at p
   ·obtain ⟨p1,us,rfl,h1,r1⟩:=fb hr rx e1
    obtain ⟨p2,ws,rfl,h2,r2⟩:=fb hr ry e2
    have l1:=r1.length
    have l2:=r2.length
    exact .inl (.inr ⟨p1,p2,rfl,rfl,.inr ⟨us,ws,h1,h2,jd (by omega),fun q hq=>p.nk hr (r1.append r2) q hq⟩⟩)
   ·exact p.elim
  ·exact p.elim
theorem yi {μ:Nat→Addr} {S:Sto} {H:Hp} {v w:V} {x y:Vl} {b:Bool} (hr:HR μ S H) (rx:ba K mg μ S H v x) (ry:ba K mg μ S H w y) (e:eqD x y S=some b) :
  (wH v w=true∧decide (v=w)=b)∨∃ d e,Rep H v d∧Rep H w e∧D.depth d≤50∧((∃ ds es,d=.tup ds∧e=.tup es)∨∃ ds es,d=.lst ds∧e=.lst es)∧D.eqv d e=b:=by
 unfold eqD at e
 split at e
 ·cases e;rw [cH rx,cH ry];exact .inl ⟨rfl,by decide⟩
 ·cases e;rw [cH rx,bD ry];exact .inl ⟨rfl,by simp⟩
 ·cases e;rw [cH rx,fT ry];exact .inl ⟨rfl,by simp⟩
 ·cases e;rw [bD rx,cH ry];exact .inl ⟨rfl,by simp⟩
 ·cases e;rw [fT rx,cH ry];exact .inl ⟨rfl,by simp⟩
 ·cases e;rw [bD rx,bD ry];exact .inl ⟨rfl,by simp only [V.int.injEq]⟩
 ·cases e;rw [iU rx,iU ry];exact .inl ⟨rfl,by simp only [V.bl.injEq]⟩
 ·cases e;rw [fT rx,fT ry];exact .inl ⟨rfl,by simp only [V.str.injEq]⟩
 ·cases e;rw [bD rx,fT ry];exact .inl ⟨rfl,by simp⟩
 ·cases e;rw [fT rx,bD ry];exact .inl ⟨rfl,by simp⟩
 ·split at e
  ·cases e
   refine .inr ⟨_,_,Rep.mono gp rx,Rep.mono gp ry,‹_›,.inl ⟨_,_,rfl,rfl⟩,?_⟩
   simp only [D.eqv]
  ·cases e
 ·split at e
  ·rename_i a b e1 e2
   split at e
   ·cases e
    obtain ⟨p1,us,rfl,h1,r1⟩:=fb hr rx e1
    obtain ⟨p2,ws,rfl,h2,r2⟩:=fb hr ry e2
    refine .inr ⟨.lst a,.lst b,.lst h1 (r1.mono gp),.lst h2 (r2.mono gp),‹_›,.inr ⟨_,_,rfl,rfl⟩,?_⟩
    simp only [D.eqv]
   ·cases e
  ·cases e
theorem bf:cG K mg CL oEq:=by
 intro WE μ S H v w x y Q hr rx ry p
 unfold oEq at p
 split at p
 ·rename_i b e
  have q:=p.here hr (Rep.bl b)
  rcases yi hr rx ry e with ⟨h1,h2⟩ | ⟨d,d',h1,h2,h3,h4,h5⟩
  ·exact .inl ⟨h1,by rw [h2];exact q⟩
  ·exact .inr ⟨d,d',h1,h2,h3,h4,by rw [h5];exact q⟩
 ·exact p.elim
theorem pR:cG K mg Be oNe:=by
 intro WE μ S H v w x y Q hr rx ry p
 unfold oNe at p
 split at p
 ·rename_i b e
  have q:=p.here hr (Rep.bl (!b))
  rcases yi hr rx ry e with ⟨h1,h2⟩ | ⟨d,d',h1,h2,h3,h4,h5⟩
  ·exact .inl ⟨h1,by rw [h2];exact q⟩
  ·exact .inr ⟨d,d',h1,h2,h3,h4,by rw [h5];exact q⟩
 ·exact p.elim
theorem rH {μ:Nat→Addr} {S:Sto} {H:Hp} {v:V} {x:Vl} (r:ba K mg μ S H v x) (h1:x≠.d .non):v≠.non:=by
 rintro rfl
 cases x with
 | d x=>cases (show Rep (vh μ S H) .non x from r);exact h1 rfl
 | r n=>obtain ⟨e,_⟩:=r;cases e
 | fd kvs=>obtain ⟨_,_,_,e,_⟩:=r;cases e
 | pr x n=>obtain ⟨_,_,e,_⟩:=r;cases e
 | fn x=>obtain ⟨_,_,e⟩:=r;cases e
 | sc ns=>obtain ⟨_,e,_⟩:=r;cases e
theorem pP:cG K mg Dq oIs:=by
 intro WE μ S H v w x y Q hr rx ry p
 unfold oIs at p
 split at p
 ·rw [iU rx,iU ry];exact .inl ⟨_,_,rfl,rfl,p.here hr (Rep.bl _)⟩
 ·rw [cH rx,cH ry];exact .inr ⟨rfl,by rw [decide_eq_true rfl];exact p.here hr (Rep.bl _)⟩
 ·exact p.elim
 ·exact p.elim
 ·rename_i h _ _
  rw [cH ry]
  exact .inr ⟨rfl,by rw [decide_eq_false (rH rx h)];exact p.here hr (Rep.bl _)⟩
 ·exact p.elim
theorem wu:cG K mg vG ip:=by
 intro WE μ S H v w x y Q hr rx ry p
 unfold ip at p
 split at p
 ·rw [iU rx,iU ry];exact .inl ⟨_,_,rfl,rfl,p.here hr (Rep.bl _)⟩
 ·rw [cH rx,cH ry];exact .inr ⟨rfl,by rw [decide_eq_true rfl];exact p.here hr (Rep.bl _)⟩
 ·exact p.elim
 ·exact p.elim
 ·rename_i h _ _
  rw [cH ry]
  exact .inr ⟨rfl,by rw [decide_eq_false (rH rx h)];exact p.here hr (Rep.bl _)⟩
 ·exact p.elim
end
def D.flat:D→Bool
 | .tup _=>false
 | .lst _=>false
 | _=>true
def inD (x:D) (ds:List D):Bool:=ds.any fun e=>D.eqv e x
def inX (x y:Vl) (S:Sto):Option Bool:=match x with
 | .d x=>(match b7 y S with
  | some ds=>if (D.flat x && ds.all D.flat)=true then some (inD x ds) else (match da y S with
   | some ds=>if D.cC ds≤50 then some (inD x ds) else none
   | none=>none)
  | none=>none)
 | _=>none
def oIn (x y:Vl) (S:Sto):R Vl:=match inX x y S with
 | some b=>.ok (.d (.bl b)) S
 | none=>.bad
def dN (x y:Vl) (S:Sto):R Vl:=match inX x y S with
 | some b=>.ok (.d (.bl (!b))) S
 | none=>.bad
def oIx (x y:Vl) (S:Sto):R Vl:=match y with
 | .d (.int i)=>(match b7 x S with
  | some ds=>(match atI ds i with
   | some z=>.ok (.d z) S
   | none=>.bad)
  | none=>.bad)
 | _=>.bad
def cy (xs:List D) (lo hi:Option Int):List D:=(xs.drop (HT.sIx xs.length 0 lo)).take (HT.sIx xs.length xs.length hi - HT.sIx xs.length 0 lo)
def oSl (x:Vl) (lo hi:Option Int) (S:Sto):R Vl:=match x with
 | .d (.tup xs)=>.ok (.d (.tup (cy xs lo hi))) S
 | x=>(match da x S with
  | some xs=>.ok (.d (.lst (cy xs lo hi))) S
  | none=>.bad)
def mY (x y:Vl) (S:Sto):R Vl:=match x,y with
 | .d (.tup xs),.d (.int i)=>if i=-1 then .ok (.d (.tup xs.reverse)) S else .bad
 | _,_=>.bad
section
variable {K:PySem.W.Frag} {mg:Str→Option Value}
theorem pS {H:Hp} {v:V} {d:D} (r:Rep H v d) (h:D.flat d=true):ee v=true:=by cases r<;>first | rfl | cases h
theorem Cq {H:Hp} {v w:V} {d e:D} (r:Rep H v d) (q:Rep H w e) (h:D.flat d=true) (h':D.flat e=true):eqV v w=D.eqv d e:=by
  cases r<;>cases q<;>first | rfl | cases h | cases h' | simp [eqV,D.eqv]
theorem nP {H:Hp}:∀ {vs:List V} {ds:List D},ax H vs ds→ds.all D.flat=true→vs.all ee=true
 | _,_,.nil,_=>rfl
 | _,_,.cons r t,h=>by
  rw [List.all_cons,Bool.and_eq_true] at h ⊢
  exact ⟨pS r h.1,nP t h.2⟩
theorem uD {H:Hp} {v:V} {d:D} (r:Rep H v d) (h:D.flat d=true):∀ {vs:List V} {ds:List D},ax H vs ds→ds.all D.flat=true→inV v vs=inD d ds
 | _,_,.nil,_=>rfl
 | _,_,.cons q t,h'=>by
  rw [List.all_cons,Bool.and_eq_true] at h'
  have ih:=uD r h t h'.2
  unfold inV inD at ih ⊢
  rw [List.any_cons,List.any_cons,Cq q r h'.1 h,ih]
def pB (neg:Bool):R2:=fun x y H Q=>xq neg x y H Q∨xG neg x y H Q
theorem in_of {μ:Nat→Addr} {S:Sto} {H:Hp} {v w:V} {x y:Vl} {b neg:Bool} {Q:VK} (hr:HR μ S H) (rx:ba K mg μ S H v x) (ry:ba K mg μ S H w y) (e:inX x y S=some b) (q:Q (.bl (if neg then !b else b)) H):pB neg v w H Q:=by
 unfold inX at e
 split at e
 ·rename_i x
  split at e
  ·rename_i ds e1
   obtain ⟨a,vs,rfl,ha,rs⟩:=iX hr ry e1
   split at e
   ·rename_i hf
    rw [Bool.and_eq_true] at hf
    cases e
    refine .inl ⟨a,vs,rfl,kH ha,pS rx hf.1,nP rs hf.2,?_⟩
    rw [uD rx hf.1 rs hf.2]
    exact q
   ·split at e
    ·rename_i ds e2
     split at e
     ·cases e
      obtain ⟨a',vs',e3,ha',rs'⟩:=fb hr ry e2
      cases e3
      exact .inr ⟨_,vs',x,_,rfl,ha',rs'.mono gp,Rep.mono gp rx,‹_›,q⟩
     ·cases e
    ·cases e
  ·cases e
 ·cases e
theorem pq {X:Cx} (hu:X.A.units+64 < cLine):OpR X (compareOp .In) (pB false):=CA.or (CB hu)
theorem gE {X:Cx} (hu:X.A.units+64 < cLine):OpR X (compareOp .NotIn) (pB true):=ui.or (vK hu)
theorem qm:cG K mg (pB false) oIn:=by
 intro WE μ S H v w x y Q hr rx ry p
 unfold oIn at p
 split at p
 ·rename_i b e
  exact in_of hr rx ry e (p.here hr (Rep.bl b))
 ·exact p.elim
theorem gC:cG K mg (pB true) dN:=by
 intro WE μ S H v w x y Q hr rx ry p
 unfold dN at p
 split at p
 ·rename_i b e
  exact in_of hr rx ry e (p.here hr (Rep.bl (!b)))
 ·exact p.elim
theorem wU {H:Hp} {vs:List V} {ds:List D} {i:Int} {z:D} (rs:ax H vs ds) (e:atI ds i=some z):∃ v,atI vs i=some v∧Rep H v z:=by
 unfold atI at e ⊢
 rw [rs.length]
 cases q:ixN ds.length i with
 | none=>rw [q] at e;cases e
 | some j=>
  rw [q] at e
  obtain ⟨v,e1,r⟩:=rs.get' (show ds[j]?=some z from e)
  exact ⟨v,e1,r⟩
theorem C3:cG K mg Cv oIx:=by
 intro WE μ S H v w x y Q hr rx ry p
 unfold oIx at p
 split at p
 ·split at p
  ·rename_i ds e1
   obtain ⟨a,vs,rfl,ha,rs⟩:=iX hr rx e1
   split at p
   ·rename_i z e2
    obtain ⟨u,e3,ru⟩:=wU rs e2
    rw [bD ry]
    exact ⟨a,_,vs,u,rfl,rfl,kH ha,e3,p.here hr ru⟩
   ·exact p.elim
  ·exact p.elim
 ·exact p.elim
theorem lH {H:Hp} {vs:List V} {ds:List D} (rs:ax H vs ds) (lo hi:Option Int):ax H (gU vs lo hi) (cy ds lo hi):=by
 unfold gU cy
 rw [rs.length]
 exact (rs.drop _).take _
theorem vB {α:Type} {xs:List D} {lo hi:Option Int} (h:h8 xs.length lo hi):cy xs lo hi=xs:=by
 unfold cy
 rw [h.1,h.2]
 simp
theorem bt {X:Cx} {WE:WX} {e:Expr} {lo hi:Option Expr} {xa:XE} {xl xh:XO} {p2 pos:Pos} (he:RE X WE e xa) (hl:RO X WE lo xl) (hh:RO X WE hi xh):RE X WE (.Subscript e (.Slice lo hi none p2) pos) (xSl oSl xa xl xh):=
 ⟨(pk FK he.h hl.h hh.h).weak fun σ H Q ⟨μ,S,τ,hr,sr,p⟩=>⟨μ,S,τ,hr,sr,p.bind fun v x S1 μ1 H1 st1 r1 p1=>⟨μ1,S1,τ,st1.hr,sr.step st1,p1.bind fun i i' S2 μ2 H2 st2 r2 p2=>⟨μ2,S2,τ,st2.hr,sr.step (st1.trans st2),p2.bind fun j j' S3 μ3 H3 st3 r3 p3=>by
  cases (show i=i' from r2)
  cases (show j=j' from r3)
  have rv:=r1.step (st2.trans st3)
  unfold oSl at p3
  split at p3
  ·rename_i xs
   obtain ⟨a,vs,rfl,h,g,rs⟩:=fi rv
   refine ⟨a,rfl,.inl ⟨vs,h,fun hw=>?_,fun hw q hq=>p3.pO st3.hr (lH rs i j) q hq⟩⟩
   rw [rs.length] at hw
   rw [vB (α:=Unit) hw] at p3
   exact p3.here st3.hr (Rep.tup g rs)
  ·split at p3
   ·rename_i xs e1
    obtain ⟨a,vs,rfl,h,rs⟩:=fb st3.hr rv e1
    exact ⟨a,rfl,.inr ⟨vs,h,fun q hq=>p3.nk st3.hr (lH rs i j) q hq⟩⟩
   ·exact p3.elim⟩⟩⟩⟩
theorem a_ {X:Cx} {WE:WX}:RO X WE none aE:=⟨fun pins s σ H Q I ⟨μ,S,τ,hr,sr,p⟩=>Ab pins s σ H Q I (p.here hr rfl)⟩
theorem aV {X:Cx} {WE:WX} {e:Expr} {xa:XE} (he:RE X WE e xa):RO X WE (some e) (aQ xa):=⟨fun pins s σ H Q I ⟨μ,S,τ,hr,sr,p⟩=>zE he.h pins s σ H Q I ⟨μ,S,τ,hr,sr,p.bind fun v x S1 μ1 H1 st1 r1 p1=>by
 try dsimp only at p1
 split at p1
 ·exact ⟨_,bD r1,p1.here st1.hr rfl⟩
 ·exact p1.elim⟩⟩
theorem az {X:Cx} {WE:WX} {a b:Expr} {xa xb:XE} {pos:Pos} (ha:RE X WE a xa) (hb:RE X WE b xb) (hs:rW b:=by exact fun _ _=>rfl):RE X WE (.Subscript a b pos) (xOp oIx xa xb):=⟨(EV Fw ha.h hb.h hs).weak fun _ _ _ h=>two (X:=X) C3 h⟩
theorem B5 {X:Cx} {WE:WX} {e st:Expr} {xa xb:XE} {p2 pos:Pos} (he:RE X WE e xa) (hs:RE X WE st xb):RE X WE (.Subscript e (.Slice none none (some st) p2) pos) (xOp mY xa xb):=
 ⟨(zW he.h hs.h).weak fun σ H Q ⟨μ,S,τ,hr,sr,p⟩=>⟨μ,S,τ,hr,sr,p.bind fun v x S1 μ1 H1 st1 r1 p1=>⟨μ1,S1,τ,st1.hr,sr.step st1,p1.bind fun w y S2 μ2 H2 st2 r2 p2=>by
  have rv:=r1.step st2
  unfold mY at p2
  split at p2
  ·split at p2
   ·rename_i hi
    obtain ⟨a,vs,rfl,h,g,rs⟩:=fi rv
    exact ⟨a,vs,rfl,by rw [bD r2,hi],h,fun q hq=>p2.pO st2.hr rs.reverse q hq⟩
   ·exact p2.elim
  ·exact p2.elim⟩⟩⟩
end
def fI:List D→Option (List Bool)
 | []=>some []
 | .bl b :: r=>(fI r).map (b :: ·)
 | _=>none
def intsOf:List D→Option (List Int)
 | []=>some []
 | .int b :: r=>(intsOf r).map (b :: ·)
 | _=>none
theorem pY:∀ {ds:List D} {bs:List Bool},fI ds=some bs→ds=bs.map D.bl
 | [],_,e=>by simp [fI] at e;subst e;rfl
 | d :: ds,bs,e=>by
  cases d with
  | bl b=>
   simp only [fI,Option.map_eq_some_iff] at e
   obtain ⟨cs,e1,rfl⟩:=e
   rw [pY e1];rfl
  | _=>simp [fI] at e
theorem jU:∀ {ds:List D} {bs:List Int},intsOf ds=some bs→ds=bs.map D.int
 | [],_,e=>by simp [intsOf] at e;subst e;rfl
 | d :: ds,bs,e=>by
  cases d with
  | int b=>
   simp only [intsOf,Option.map_eq_some_iff] at e
   obtain ⟨cs,e1,rfl⟩:=e
   rw [jU e1];rfl
  | _=>simp [intsOf] at e
theorem jo:∀ bs:List Int,intsOf (bs.map D.int)=some bs
 | []=>rfl
 | b :: bs=>by simp [intsOf,jo bs]
theorem ax.vT {H:Hp}:∀ {vs:List V} {ns:List Bool},ax H vs (ns.map D.bl)→vs=ns.map V.bl
 | [],[],.nil=>rfl
 | v :: vs,n :: ns,.cons r t=>by
  cases r
  rw [List.map_cons,ax.vT t]
def insI (x:Int):List Int→List Int
 | []=>[x]
 | y :: ys=>if x≤y then x :: y :: ys else y :: insI x ys
def sortI:List Int→List Int
 | []=>[]
 | x :: xs=>insI x (sortI xs)
theorem insI_perm (x:Int):∀ ys,(insI x ys).Perm (x :: ys)
 | []=>.refl _
 | y :: ys=>by
  unfold insI
  split
  ·exact .refl _
  ·exact ((insI_perm x ys).cons y).trans (.swap x y ys)
theorem sortI_perm:∀ xs,(sortI xs).Perm xs
 | []=>.refl _
 | x :: xs=>(insI_perm x _).trans ((sortI_perm xs).cons x)
theorem nW (x:Int):∀ ys:List Int,ys.Pairwise (·≤·)→(insI x ys).Pairwise (·≤·)
 | [],_=>by simp [insI]
 | y :: ys,h=>by
  unfold insI
  split
  ·rename_i hxy
   refine List.pairwise_cons.mpr ⟨fun z hz=>?_,h⟩
   rcases List.mem_cons.mp hz with e | e
   ·omega
   ·have:=(List.pairwise_cons.mp h).1 z e;omega
  ·rename_i hxy
   obtain ⟨h1,h2⟩:=List.pairwise_cons.mp h
   refine List.pairwise_cons.mpr ⟨fun z hz=>?_,nW x ys h2⟩
   rcases List.mem_cons.mp ((insI_perm x ys).mem_iff.mp hz) with e | e
   ·omega
   ·exact h1 z e
theorem i6:∀ xs,(sortI xs).Pairwise (·≤·)
 | []=>.nil
 | x :: xs=>nW x _ (i6 xs)
theorem nq:∀ {xs ys:List Int},xs.Perm ys→xs.Pairwise (·≤·)→ys.Pairwise (·≤·)→xs=ys
 | [],ys,h,_,_=>by rw [List.nil_perm.mp h]
 | x :: xs,[],h,_,_=>by simpa using h.length_eq
 | x :: xs,y :: ys,h,h1,h2=>by
  obtain ⟨a1,a2⟩:=List.pairwise_cons.mp h1
  obtain ⟨b1,b2⟩:=List.pairwise_cons.mp h2
  have hx:x∈y :: ys:=h.mem_iff.mp (List.mem_cons_self ..)
  have hy:y∈x :: xs:=h.mem_iff.mpr (List.mem_cons_self ..)
  have e:x=y:=by
   rcases List.mem_cons.mp hx with e | e
   ·exact e
   ·rcases List.mem_cons.mp hy with e' | e'
    ·exact e'.symm
    ·have:=a1 y e';have:=b1 x e;omega
  subst e
  rw [nq (List.Perm.cons_inv h) a2 b2]
theorem pK {xs ys:List Int} (h:ys.Perm xs) (h1:ys.Pairwise (·≤·)):ys=sortI xs:=nq (h.trans (sortI_perm xs).symm) h1 (i6 xs)
def bB (xs:List Vl) (S:Sto):R Vl:=match xs with
 | [x]=>(match b7 x S with
  | some ds=>.ok (.d (.int ds.length)) S
  | none=>.bad)
 | _=>.bad
def cJ (xs:List Vl) (S:Sto):R Vl:=match xs with
 | [x]=>(match b7 x S with
  | some ds=>.ok (.d (.tup ds)) S
  | none=>.bad)
 | _=>.bad
def yO (xs:List Vl) (S:Sto):R Vl:=match xs with
 | [x]=>(match b7 x S with
  | some ds=>.ok (.d (.lst ds)) S
  | none=>.bad)
 | _=>.bad
def gQ (xs:List Vl) (S:Sto):R Vl:=match xs with
 | [x]=>(match b7 x S with
  | some ds=>.ok (.r S.length) (S++[.lst ds])
  | none=>.bad)
 | _=>.bad
def eD (xs:List Vl) (S:Sto):R Vl:=match xs with
 | [x]=>(match (da x S).bind fI with
  | some bs=>.ok (.d (.bl (bs.all id))) S
  | none=>.bad)
 | _=>.bad
def FZ (xs:List Vl) (S:Sto):R Vl:=match xs with
 | [.d (.int i),.d (.int j)]=>.ok (.d (.int (if j > i then j else i))) S
 | _=>.bad
def FL (xs:List Vl) (S:Sto):R Vl:=match xs with
 | [.d (.int i),.d (.int j)]=>.ok (.d (.int (if j < i then j else i))) S
 | _=>.bad
section
variable {K:PySem.W.Frag} {mg:Str→Option Value}
theorem bK.one {μ:Nat→Addr} {S:Sto} {H:Hp} {vs:List V} {x:Vl} (r:bK K mg μ S H vs [x]):∃ v,vs=[v]∧ba K mg μ S H v x:=by
 cases r with | cons r t=>cases t;exact ⟨_,rfl,r⟩
theorem bK.two {μ:Nat→Addr} {S:Sto} {H:Hp} {vs:List V} {x y:Vl} (r:bK K mg μ S H vs [x,y]):∃ v w,vs=[v,w]∧ba K mg μ S H v x∧ba K mg μ S H w y:=by
 cases r with | cons r t=>cases t with | cons r' t'=>cases t';exact ⟨_,_,rfl,r,r'⟩
theorem aY:lP K mg yL bB:=by
 intro WE μ S H vs xs Q hr rs p
 unfold bB at p
 split at p
 ·obtain ⟨v,rfl,r⟩:=rs.one
  split at p
  ·obtain ⟨a,us,rfl,ha,rr⟩:=iX hr r ‹_›
   exact ⟨a,us,rfl,kH ha,by rw [rr.length];exact p.here hr (Rep.int _)⟩
  ·exact p.elim
 ·exact p.elim
theorem cz:lP K mg su cJ:=by
 intro WE μ S H vs xs Q hr rs p
 unfold cJ at p
 split at p
 ·rename_i x
  obtain ⟨v,rfl,r⟩:=rs.one
  split at p
  ·rename_i ds e
   unfold b7 at e
   split at e
   ·cases e
    obtain ⟨a,us,rfl,h,g,rr⟩:=fi r
    exact ⟨a,rfl,.inr ⟨us,h,p.here hr (Rep.tup g rr)⟩⟩
   ·obtain ⟨a,us,rfl,h,rr⟩:=fb hr r e
    exact ⟨a,rfl,.inl ⟨us,h,fun q hq=>p.pO hr rr q hq⟩⟩
  ·exact p.elim
 ·exact p.elim
theorem mG:lP K mg vf gQ:=by
 intro WE μ S H vs xs Q hr rs p
 unfold gQ at p
 split at p
 ·obtain ⟨v,rfl,r⟩:=rs.one
  split at p
  ·obtain ⟨a,us,rfl,ha,rr⟩:=iX hr r ‹_›
   exact ⟨a,us,rfl,kH ha,fun q hq=>p.yb hr rr q hq⟩
  ·exact p.elim
 ·exact p.elim
theorem dw:lP K mg yE eD:=by
 intro WE μ S H vs xs Q hr rs p
 unfold eD at p
 split at p
 ·obtain ⟨v,rfl,r⟩:=rs.one
  split at p
  ·rename_i bs e
   obtain ⟨ds,e1,e2⟩:=Option.bind_eq_some_iff.mp e
   obtain ⟨a,us,rfl,ha,rr⟩:=fb hr r e1
   rw [pY e2] at rr
   rw [ax.vT rr] at ha
   exact ⟨a,bs,rfl,ha,p.here hr (Rep.bl _)⟩
  ·exact p.elim
 ·exact p.elim
end
def gH (T:String) (x:Vl) (S:Sto):R Vl:=match x with
 | .d d=>.ok (.d (.bl (isT T d))) S
 | .r n=>(match S[n]? with
  | some (.lst xs)=>.ok (.d (.bl (isT T (.lst xs)))) S
  | _=>.bad)
 | _=>.bad
section
variable {X:Cx} {WE:WX}
theorem c6 {e:Expr} {xa:XE} {nm:Str} {T:String} {p p2 pos:Pos} [n:NS e] (hm:X.mg "isinstance"=none) (hm2:X.mg nm=none) (hv:bootBuiltins nm=some (.type T)) (ha:RE X WE e xa) (hg:Gl X "isinstance":=by exact rfl) (hg2:Gl X nm:=by exact rfl) (ho:okT T=true:=by exact rfl)
  (hn:nm≠"__name__":=by decide) (hd:(nm == ("__debug__":Str))=false:=by decide) (hb:bootBuiltins "isinstance"=some (.builtin "isinstance"):=by decide +kernel)
  (hs2:starEach [.Name nm p2] X.env=(false,eval (.Name nm p2) X.env) :: starEach [] X.env:=by rfl) (hpl:(backTo pos (starEach [.Name nm p2] X.env)).any (·.1)=false:=by rfl) :
  RE X WE (.Call (.Name "isinstance" p) [e,.Name nm p2] [] pos) (xUn (gH T) xa):=
 ⟨(vj hg hm hg2 hm2 hv ho ha.h hn hd hb (n.eq _ X.env) hs2 hpl).weak fun σ H Q ⟨μ,S,τ,hr,sr,p⟩=>⟨μ,S,τ,hr,sr,p.bind fun v x S1 μ1 H1 st1 r1 p1=>by
  unfold gH at p1
  split at p1
  ·exact ⟨_,Rep.mono gp r1,p1.here st1.hr (Rep.bl _)⟩
  ·split at p1
   ·rename_i e
    obtain ⟨rfl,hn⟩:=r1
    obtain ⟨vs,h,rs⟩:=st1.hr.ob _ _ e
    exact ⟨_,Rep.lst h (rs.mono gp),p1.here st1.hr (Rep.bl _)⟩
   ·exact p1.elim
  ·exact p1.elim⟩⟩
def xLm (f:Nat→List D→D→Sto→R Vl) (o e:XE):XE:=fun τ S=>(o τ S).bind fun x S1=>match x with
 | .r n=>(match S1[n]? with
  | some (.lst _)=>(e τ S1).bind fun y S2=>(match y with
   | .d z=>(match S2[n]? with
    | some (.lst xs)=>f n xs z S2
    | _=>.bad)
   | _=>.bad)
  | _=>.bad)
 | _=>.bad
def j9 (n:Nat) (xs:List D) (z:D) (S:Sto):R Vl:=if xs.length < 100000 then .ok (.d .non) (S.set n (.lst (xs++[z]))) else .bad
theorem pM {o e:Expr} {xo xe:XE} {apos cpos:Pos} (ho:RE X WE o xo) (he:RE X WE e xe)
  (hbase:attributeBase o "append" X.env (eval o X.env)=eval o X.env:=by rfl)
  (hfew:((backTo cpos (starEach [e] X.env)).all (fun x=>!x.1) && (backToKw cpos (keywordEach [] X.env)).all (fun x=>x.1.isSome) && decide ([e].length+([]:List Keyword).length+(if ([]:List Keyword).isEmpty then 0 else 1) < 30))=true:=by rfl)
  (hline:(apos.endLine == cpos.line)=true:=by rfl) (hs:starEach [e] X.env=(false,eval e X.env) :: starEach [] X.env:=by rfl):RE X WE (.Call (.Attribute o "append" apos) [e] [] cpos) (xLm j9 xo xe):=
 ⟨(Ct ho.h he.h hbase hfew hline hs).weak fun σ H Q ⟨μ,S,τ,hr,sr,p⟩=>⟨μ,S,τ,hr,sr,p.bind fun v x S1 μ1 H1 st1 r1 p1=>by
  try dsimp only at p1
  split at p1
  ·rename_i n
   obtain ⟨rfl,hn⟩:=r1
   split at p1
   ·rename_i xs0 e0
    obtain ⟨vs0,h0,_⟩:=st1.hr.ob _ _ e0
    refine ⟨_,vs0,rfl,h0,μ1,S1,τ,st1.hr,sr.step st1,p1.bind fun w y S2 μ2 H2 st2 r2 p2=>?_⟩
    try dsimp only at p2
    split at p2
    ·split at p2
     ·rename_i z _ xs e2
      obtain ⟨vs,h2,rs⟩:=st2.hr.ob _ _ e2
      rw [st2.ag n hn] at h2
      unfold j9 at p2
      split at p2
      ·have lv:=rs.length
       have sp:=Step.put st2.hr e2 (by simp) (ob:=.lst (xs++[z])) ⟨_,rfl,rs.append (.cons r2 .nil)⟩
       rw [st2.ag n hn] at sp
       refine ⟨vs,h2,by rw [sizeLine_eq];omega,p2 _ _ _ sp Rep.non⟩
      ·exact p2.elim
     ·exact p2.elim
    ·exact p2.elim
   ·exact p1.elim
  ·exact p1.elim⟩⟩
def xy (r:V→List V→Hp→VK→Prop) (f:Nat→List D→D→Sto→R Vl):Prop:=∀ (K:PySem.W.Frag) (mg:Str→Option Value) (WE:WX) (μ:Nat→Addr) (S:Sto) (H:Hp) (n:Nat) (xs:List D) (vs:List V) (w:V) (z:D) (Q:VK),HR μ S H→S[n]?=some (.lst xs)→H (μ n)=some (.lst vs)→ax (vh μ S H) vs xs→Rep (vh μ S H) w z→bc (ba K mg) WE μ S H (f n xs z S) Q→r (.ref (μ n)) [w] H Q
theorem tY {r:V→List V→Hp→VK→Prop} {f:Nat→List D→D→Sto→R Vl} {name:Str} {id:String} {o e:Expr} {xo xe:XE} {apos cpos:Pos} (slot:Slot "list" name id) (hty:typeOf (.builtin id)=pure (.type "method_descriptor")) (hm:MtM X id r) (hf:xy r f) (ho:RE X WE o xo) (he:RE X WE e xe)
  (hbase:attributeBase o name X.env (eval o X.env)=eval o X.env:=by rfl)
  (hfew:((backTo cpos (starEach [e] X.env)).all (fun x=>!x.1) && (backToKw cpos (keywordEach [] X.env)).all (fun x=>x.1.isSome) && decide ([e].length+([]:List Keyword).length+(if ([]:List Keyword).isEmpty then 0 else 1) < 30))=true:=by rfl)
  (hline:(apos.endLine == cpos.line)=true:=by rfl) (hs:starEach [e] X.env=(false,eval e X.env) :: starEach [] X.env:=by rfl):RE X WE (.Call (.Attribute o name apos) [e] [] cpos) (xLm f xo xe):=
 ⟨(Ea slot hty hm ho.h he.h hbase hfew hline hs).weak fun σ H Q ⟨μ,S,τ,hr,sr,p⟩=>⟨μ,S,τ,hr,sr,p.bind fun v x S1 μ1 H1 st1 r1 p1=>by
  try dsimp only at p1
  split at p1
  ·rename_i n
   obtain ⟨rfl,hn⟩:=r1
   split at p1
   ·rename_i xs0 e0
    obtain ⟨vs0,h0,_⟩:=st1.hr.ob _ _ e0
    refine ⟨_,vs0,rfl,h0,μ1,S1,τ,st1.hr,sr.step st1,p1.bind fun w y S2 μ2 H2 st2 r2 p2=>?_⟩
    try dsimp only at p2
    split at p2
    ·split at p2
     ·rename_i z _ xs e2
      obtain ⟨vs,h2,rs⟩:=st2.hr.ob _ _ e2
      rw [← st2.ag n hn]
      exact hf X.K X.mg WE μ2 S2 H2 n xs vs w z Q st2.hr e2 h2 rs r2 p2
     ·exact p2.elim
    ·exact p2.elim
   ·exact p1.elim
  ·exact p1.elim⟩⟩
def mS (n:Nat) (xs:List D) (z:D) (S:Sto):R Vl:=match z with
 | .int i=>if 0≤i∧i < 2 ^ 63 then (match xs[i.toNat]? with
  | some y=>.ok (.d y) (S.set n (.lst (xs.eraseIdx i.toNat)))
  | none=>.bad) else .bad
 | _=>.bad
theorem ax.erase {H:Hp}:∀ {vs:List V} {ds:List D} (i:Nat),ax H vs ds→ax H (vs.eraseIdx i) (ds.eraseIdx i)
 | _,_,_,.nil=>.nil
 | _,_,0,.cons _ t=>t
 | _,_,i+1,.cons r t=>.cons r (ax.erase i t)
theorem qJ:xy u6 mS:=by
 intro K mg WE μ S H n xs vs w z Q hr e h rs rw' p
 unfold mS at p
 split at p
 ·rename_i i
  split at p
  ·rename_i hi
   split at p
   ·rename_i y ey
    obtain ⟨u,eu,ru⟩:=rs.get' ey
    have hl:i.toNat < vs.length:=(List.getElem?_eq_some_iff.mp eu).1
    cases rw'
    refine ⟨_,vs,i,i.toNat,u,rfl,rfl,h,by omega,hi.2,PySem.StrLaws.seqIndex_nonneg hi.1 (by omega),eu,?_⟩
    have sp:=Step.put hr e (by simp) (ob:=.lst (xs.eraseIdx i.toNat)) ⟨_,rfl,rs.erase i.toNat⟩
    exact p _ _ _ sp (Rep.mono sp.vis ru)
   ·exact p.elim
  ·exact p.elim
 ·exact p.elim
end
def cv (e:XE):XI:=fun τ S=>(e τ S).bind fun z S1=>match z with
 | .d (.tup xs)=>.ok ⟨xs.map Vl.d,none⟩ S1
 | .d (.lst xs)=>.ok ⟨xs.map Vl.d,none⟩ S1
 | .r n=>(match S1[n]? with
  | some (.lst xs)=>.ok ⟨xs.map Vl.d,some (n,.lst xs)⟩ S1
  | _=>.bad)
 | _=>.bad
def jM (as:XA):XI:=fun τ S=>(as τ S).bind fun zs S1=>match zs with
 | [.d (.int j)]=>if -100000≤j∧j≤100000 then .ok ⟨(List.range j.toNat).map fun i=>Vl.d (.int (i:Nat)),none⟩ S1 else .bad
 | _=>.bad
def tF (as:XA):XI:=fun τ S=>(as τ S).bind fun zs S1=>match zs with
 | [.d (.int i),.d (.int j)]=>if (-100000≤i∧i≤100000)∧-100000≤j∧j≤100000 then .ok ⟨(List.range (j - i).toNat).map fun k=>Vl.d (.int (i+(k:Nat))),none⟩ S1 else .bad
 | _=>.bad
section
variable {X:Cx} {WE:WX} {K:PySem.W.Frag} {mg:Str→Option Value} {μ:Nat→Addr} {S:Sto} {H:Hp}
theorem gB {xs:List D} {i:Nat} {z:Vl} (e:(xs.map Vl.d)[i]?=some z):∃ x,xs[i]?=some x∧z=.d x:=by
 rw [List.getElem?_map] at e
 cases q:xs[i]? with
 | none=>rw [q] at e;cases e
 | some x=>rw [q] at e;cases e;exact ⟨x,rfl,rfl⟩
theorem Cm {a:Addr} {vs:List V} {xs:List D} (g:vh μ S H a=some (.tup vs)) (rs:ax (vh μ S H) vs xs) (hz:vs.length≤sizeLine):fB K mg μ S H (Itt K a) ⟨xs.map Vl.d,none⟩ where
 ok:=True.intro
 len:=by simp only [List.length_map];rw [← rs.length];exact hz
 go:=fun i z μ' S' H' st _ e=>by
  obtain ⟨x,e1,rfl⟩:=gB e
  obtain ⟨u,e2,_⟩:=rs.get' e1
  exact ⟨vs,u,SqT.of (aT (st.vis _ _ g)).2,e2⟩
 yld:=fun i z μ' S' H' u H2 st _ e y=>by
  obtain ⟨rfl,y⟩:=y
  obtain ⟨x,e1,rfl⟩:=gB e
  have e2:=y vs (SqT.of (aT (st.vis _ _ g)).2)
  obtain ⟨x',e3,r⟩:=rs.get e2
  rw [e1] at e3;cases e3
  exact ⟨Step.refl st.hr,Rep.mono st.vis r⟩
 stop:=fun i μ' S' H' st _ hi=>⟨vs,SqT.of (aT (st.vis _ _ g)).2,by rw [rs.length];simpa using Nat.le_of_eq hi⟩
theorem Cp {a:Addr} {vs:List V} {xs:List D} (g:vh μ S H a=some (.lst vs)) (rs:ax (vh μ S H) vs xs) (hz:vs.length≤sizeLine):fB K mg μ S H (Itl K a) ⟨xs.map Vl.d,none⟩ where
 ok:=True.intro
 len:=by simp only [List.length_map];rw [← rs.length];exact hz
 go:=fun i z μ' S' H' st _ e=>by
  obtain ⟨x,e1,rfl⟩:=gB e
  obtain ⟨u,e2,_⟩:=rs.get' e1
  exact ⟨vs,u,SqL.of (aT (st.vis _ _ g)).2,e2⟩
 yld:=fun i z μ' S' H' u H2 st _ e y=>by
  obtain ⟨rfl,y⟩:=y
  obtain ⟨x,e1,rfl⟩:=gB e
  have e2:=y vs (SqL.of (aT (st.vis _ _ g)).2)
  obtain ⟨x',e3,r⟩:=rs.get e2
  rw [e1] at e3;cases e3
  exact ⟨Step.refl st.hr,Rep.mono st.vis r⟩
 stop:=fun i μ' S' H' st _ hi=>⟨vs,SqL.of (aT (st.vis _ _ g)).2,by rw [rs.length];simpa using Nat.le_of_eq hi⟩
theorem BL {n:Nat} {vs:List V} {xs:List D} (hn:n < S.length) (e0:S[n]?=some (.lst xs)) (rs:ax (vh μ S H) vs xs) (hz:vs.length≤sizeLine):fB K mg μ S H (Itl K (μ n)) ⟨xs.map Vl.d,some (n,.lst xs)⟩ where
 ok:=e0
 len:=by simp only [List.length_map];rw [← rs.length];exact hz
 go:=fun i z μ' S' H' st ok e=>by
  obtain ⟨us,h,rs'⟩:=st.hr.ob n _ ok
  rw [st.ag n hn] at h
  obtain ⟨x,e1,rfl⟩:=gB e
  obtain ⟨u,e2,_⟩:=rs'.get' e1
  exact ⟨us,u,SqL.of h,e2⟩
 yld:=fun i z μ' S' H' u H2 st ok e y=>by
  obtain ⟨rfl,y⟩:=y
  obtain ⟨us,h,rs'⟩:=st.hr.ob n _ ok
  rw [st.ag n hn] at h
  obtain ⟨x,e1,rfl⟩:=gB e
  have e2:=y us (SqL.of h)
  obtain ⟨x',e3,r⟩:=rs'.get e2
  rw [e1] at e3;cases e3
  exact ⟨Step.refl st.hr,r⟩
 stop:=fun i μ' S' H' st ok hi=>by
  replace hi:=Nat.le_of_eq hi
  obtain ⟨us,h,rs'⟩:=st.hr.ob n _ ok
  rw [st.ag n hn] at h
  exact ⟨us,SqL.of h,by rw [rs'.length];simpa using hi⟩
theorem ux {lo:Int} {m:Nat} (hr:HR μ S H) (hm:m≤sizeLine):fB K mg μ S H (Itr lo m) ⟨(List.range m).map fun k=>Vl.d (.int (lo+(k:Nat))),none⟩ where
 ok:=True.intro
 len:=by simpa using hm
 go:=fun i z μ' S' H' st _ e=>by
  have:=(List.getElem?_eq_some_iff.mp e).1
  exact (show i < m by simpa using this)
 yld:=fun i z μ' S' H' u H2 st _ e y=>by
  obtain ⟨rfl,rfl⟩:=y
  have hi:i < m:=by simpa using (List.getElem?_eq_some_iff.mp e).1
  rw [List.getElem?_map,List.getElem?_range hi] at e
  cases e
  exact ⟨Step.refl st.hr,Rep.int _⟩
 stop:=fun i μ' S' H' st _ hi=>(show m≤i by simpa using Nat.le_of_eq hi)
theorem b6 {tg l:Expr} {xl:XE} (hl:RE X WE l xl):RI X WE tg l (cv xl):=⟨by
 intro pins s σ H Rr I h
 obtain ⟨μ,S,τ,hr,sr,p⟩:=h
 refine thn (hl.h pins s σ H _ I ⟨μ,S,τ,hr,sr,p.bind (Q:=fun v H1=>∃ μ1 S1 z,HR μ1 S1 H1∧ba X.K X.mg μ1 S1 H1 v z∧bc (fB X.K X.mg) WE μ1 S1 H1 (match z with
   | .d (.tup xs)=>.ok ⟨xs.map Vl.d,none⟩ S1
   | .d (.lst xs)=>.ok ⟨xs.map Vl.d,none⟩ S1
   | .r n=>(match S1[n]? with
    | some (.lst xs)=>.ok ⟨xs.map Vl.d,some (n,.lst xs)⟩ S1
    | _=>.bad)
   | _=>.bad) Rr) fun v x S1 μ1 H1 st1 r1 p1=>⟨μ1,S1,x,st1.hr,r1,p1⟩⟩) fun v s1 ⟨u,H1,I1,ru,μ1,S1,z,hr1,r1,p1⟩=>?_
 have goT:∀ a vs xs,u=.ref a→vh μ1 S1 H1 a=some (.tup vs)→ax (vh μ1 S1 H1) vs xs→Rr (Itt X.K a) H1→wpAny (model X.prog X.w) X.A (pyIter v) (PIE X pins σ tg Rr) X.xe s1:=by
  rintro a vs xs rfl g rs q
  cases ru
  obtain ⟨its,rv,pp,hz⟩:=I1.tuple (SqT.of (aT g).2)
  refine wpAny_pyIter_tuple (show s1.heap.IsTuple a its.toArray from pp) ?_
  refine ⟨s1.heap.objs.size,[s1.heap.objs.size],_,_,H1,rfl,I1.kept (t':=s1.toks) fun b o e=>Heap.get?_push_of_some _ e,tD a _,⟨_,Heap.get?_push_size _ rfl,rfl,rfl⟩,fun b hb=>?_,q⟩
  rw [List.mem_singleton.mp hb]
  exact I1.jS (Nat.le_refl _) (I1.hok.fresh (Nat.le_refl _))
 have goL:∀ a vs,u=.ref a→H1 a=some (.lst vs)→Rr (Itl X.K a) H1→wpAny (model X.prog X.w) X.A (pyIter v) (PIE X pins σ tg Rr) X.xe s1:=by
  rintro a vs rfl g q
  cases ru
  obtain ⟨its,rv,pp,hz⟩:=I1.list (SqL.of g)
  refine wpAny_pyIter_list pp.isList ?_
  refine ⟨s1.heap.objs.size,[s1.heap.objs.size],_,_,H1,rfl,I1.kept (t':=s1.toks) fun b o e=>Heap.get?_push_of_some _ e,uF a _,⟨_,Heap.get?_push_size _ rfl,rfl,rfl⟩,fun b hb=>?_,q⟩
  rw [List.mem_singleton.mp hb]
  exact I1.jS (Nat.le_refl _) (I1.hok.fresh (Nat.le_refl _))
 split at p1
 ·obtain ⟨a,vs,rfl,h,g,rs⟩:=fi r1
  obtain ⟨its,rv,pp,hz⟩:=I1.tuple (SqT.of h)
  exact goT a vs _ rfl g rs (p1.here hr1 (Cm g rs hz))
 ·cases (show Rep (vh μ1 S1 H1) u (.lst _) from r1) with
  | lst g rs=>
   obtain ⟨its,rv,pp,hz⟩:=I1.list (SqL.of (aT g).2)
   exact goL _ _ rfl (aT g).2 (p1.here hr1 (Cp g rs hz))
 ·split at p1
  ·rename_i e
   obtain ⟨rfl,hn⟩:=r1
   obtain ⟨vs,h,rs⟩:=hr1.ob _ _ e
   obtain ⟨its,rv,pp,hz⟩:=I1.list (SqL.of h)
   exact goL _ _ rfl h (p1.here hr1 (BL hn e rs hz))
  ·exact p1.elim
 ·exact p1.elim⟩
theorem eK {tg a:Expr} {as:XA} {p pos:Pos} (hg:Gl X "range") (hm:X.mg "range"=none) (ha:RA X WE [a] as) (hs:starEach [a] X.env=[(false,eval a X.env)]:=by rfl):RI X WE tg (.Call (.Name "range" p) [a] [] pos) (jM as):=
 ⟨(vd hg hm ha.h hs).weak fun σ H Rr ⟨μ,S,τ,hr,sr,p⟩=>⟨μ,S,τ,hr,sr,p.bind fun vs xs S1 μ1 H1 st1 r1 p1=>by
  try dsimp only at p1
  split at p1
  ·split at p1
   ·obtain ⟨v,rfl,r⟩:=r1.one
    rename_i j hj
    refine ⟨j,by rw [bD r],by omega,by omega,p1.here st1.hr ?_⟩
    have q:=ux (K:=X.K) (mg:=X.mg) (lo:=0) (m:=j.toNat) st1.hr (jd (by omega))
    have z:∀ k:Nat,(0:Int)+k=k:=fun k=>by omega
    simp only [z] at q
    exact q
   ·exact p1.elim
  ·exact p1.elim⟩⟩
theorem n6 {tg a b:Expr} {as:XA} {p pos:Pos} (hg:Gl X "range") (hm:X.mg "range"=none) (ha:RA X WE [a,b] as) (hs:starEach [a,b] X.env=[(false,eval a X.env),(false,eval b X.env)]:=by rfl) (hs2:starEach [b] X.env=[(false,eval b X.env)]:=by rfl):RI X WE tg (.Call (.Name "range" p) [a,b] [] pos) (tF as):=
 ⟨(vt hg hm ha.h hs hs2).weak fun σ H Rr ⟨μ,S,τ,hr,sr,p⟩=>⟨μ,S,τ,hr,sr,p.bind fun vs xs S1 μ1 H1 st1 r1 p1=>by
  try dsimp only at p1
  split at p1
  ·split at p1
   ·obtain ⟨v,w,rfl,r,r'⟩:=r1.two
    rename_i i j hj
    exact ⟨i,j,by rw [bD r,bD r'],⟨by omega,by omega,by omega,by omega⟩,p1.here st1.hr (ux st1.hr (by rw [sizeLine_eq];omega))⟩
   ·exact p1.elim
  ·exact p1.elim⟩⟩
end
section
variable {prog:Program} {w:World} {A:Around} {E:Value→Shared→Prop} {s:Shared}
theorem q_ {l:Addr} {vs:List Value} {Q:List Value→Shared→Prop} (hl:IsTup s.heap l vs.toArray)
  (h:Q vs { s with heap:=(s.heap.push (seqObj "list" #[] 0)).update s.heap.objs.size (Obj.mapSeq (·++vs.toArray)) }) (hsz:vs.length≤sizeLine:=by size_fits) :
  wpAny (model prog w) A (collect (.ref l)) Q E s:=by
 obtain ⟨o,ho,hc,n,hd⟩:=id hl
 unfold collect
 refine wpAny_bind (wpAny_runValue (codeAny_builtin entry_proto_collect' ?_))
 show wpAny _ _ (do again (.builtin "list.__iadd__" ⟨[← newList [],.ref l],[]⟩)) _ _ s
 refine wpAny_bind (wpAny_newList (wpAny_pure ⟨Code.quiet_builtin _ (by decide +kernel),codeAny_builtin entry_list_iadd' ?_⟩))
 show wpAny _ _ (Builtin.List.listExtendWith (.ref s.heap.objs.size) (.ref l) (.ref s.heap.objs.size)) _ _ { s with heap:=s.heap.push (seqObj "list" #[] 0) }
 unfold Builtin.List.listExtendWith
 have ho':(s.heap.push (seqObj "list" #[] 0)).get? l=some o:=Heap.get?_push_of_some _ ho
 refine wpAny_bind (wpAny_typeOf (T:="tuple") ⟨o,ho',hc⟩ ?_)
 have ht:(Value.type "tuple" == Value.type "tuple")=true:=by rfl
 rw [if_pos (by rw [ht];simp)]
 refine wpAny_bind (listItems_at ho' hd ?_)
 refine wpAny_bind (listItems_at (xs:=#[]) (n:=0) (Heap.get?_push_size _ rfl) rfl ?_)
 rw [if_neg (by simp)]
 refine wpAny_bind (listUpdate_at (xs:=#[]) (n:=0) (Heap.get?_push_size _ rfl) rfl ?_ (Nat.zero_le _) (by show (#[]++vs.toArray).size≤sizeLine+1;simp only [Array.size_append,List.size_toArray,List.length_nil];omega))
 refine wpAny_pure ?_
 show wpAny (model prog w) A (do
   let o ← load s.heap.objs.size
   match o.data with
   | .seq xs _=>pure xs.toList
   | _=>unsupported "internal:collect") Q E { s with heap:=(s.heap.push (seqObj "list" #[] 0)).update s.heap.objs.size (Obj.mapSeq (·++vs.toArray)) }
 refine wpAny_bind (wpAny_load (get?_update_seq (Heap.get?_push_size _ rfl) _) ?_)
 show wpAny _ _ (pure ((#[]:Array Value)++vs.toArray).toList) Q E _
 rw [show ((#[]:Array Value)++vs.toArray).toList=vs by simp]
 exact wpAny_pure h
theorem tW {l:Addr} {vs:List Value} {ns:List Int} {Q:Value→Shared→Prop} (hl:IsTup s.heap l vs.toArray) (hI:IntsAre vs ns) (h64:vs.length < 64)
  (h:∀ (out:Array Value) (ns':List Int),IntsAre out.toList ns'→ns'.Perm ns→ns'.Pairwise (·≤·)→Q (.ref (s.heap.objs.size+1)) { s with heap:=sortedAll s.heap vs out }) :
  wpAny (model prog w) A (call (.builtin "sorted") [.ref l]) Q E s:=by
 refine Calls.call_function_entry kind_sorted plain_sorted entry_sorted (args_sorted1 _) ?_
 unfold Builtin.«sorted»
 refine wpAny_bind (m:=checkCount "sorted" 1 1 _) (wpAny_pure ?_)
 refine wpAny_bind (q_ hl ?_ (Nat.le_of_lt (jN (by omega))))
 refine wpAny_bind (wpAny_newList ?_)
 have hsz:((s.heap.push (seqObj "list" #[] 0)).update s.heap.objs.size (Obj.mapSeq (·++vs.toArray))).objs.size=s.heap.objs.size+1:=by
  rw [Heap.size_update,size_push']
 have hoL:(((s.heap.push (seqObj "list" #[] 0)).update s.heap.objs.size (Obj.mapSeq (·++vs.toArray))).push (seqObj "list" vs.toArray 0)).get? (s.heap.objs.size+1)=some (seqObj "list" vs.toArray 0):=by
  rw [← hsz];exact Heap.get?_push_size _ rfl
 show wpAny _ _ _ _ _ { s with heap:=((s.heap.push (seqObj "list" #[] 0)).update s.heap.objs.size (Obj.mapSeq (·++vs.toArray))).push (seqObj "list" vs.toArray 0) }
 rw [hsz]
 refine wpAny_bind (wpAny_holding (wpAny_call_entry slot_list_sort ⟨_,hoL,rfl⟩ entry_list_sort (list_sort_tree hoL hI h64 fun out ns' a1 a2 a3=>⟨_,rfl,?_⟩) (args_list_sort _)))
 exact wpAny_pure ⟨_,rfl,h out ns' a1 a2 a3⟩
end
section
variable {X:Cx}
def va:List V→Hp→VK→Prop:=fun vs H Q=>∃ (p:Addr) (ns:List Int),vs=[.ref p]∧H p=some (.tup (ns.map V.int))∧ns.length < 64∧∀ (l:Addr) (ms:List Int),H l=none→List.Perm ms ns→ms.Pairwise (·≤·)→Q (.ref l) (upd H l (.lst (ms.map V.int)))
theorem tI:cx X (.builtin "sorted") va:=by
 intro pins s σ H xs us Q I r h
 obtain ⟨p,ns,rfl,hq,hl,q⟩:=h
 obtain ⟨u,rfl,rx⟩:=vals1 r
 cases rx
 obtain ⟨its,rv,pl,hz⟩:=I.tuple (SqT.of hq)
 have hI:IntsAre its ns:=intsAre_of rv
 have h64:its.length < 64:=by rw [← rv.length,List.length_map];exact hl
 refine tW pl hI h64 fun out ms hout hperm hpair=>?_
 obtain ⟨e,he⟩:=sortedAll_at s.heap its out
 refine ⟨.ref (s.heap.objs.size+1),_,I.laid (t':=s.toks) (o:=.lst (ms.map V.int)) (fun b ob q=>sortedAll_old q) (Nat.le_succ _) ?_,rfl,q _ ms (I.hok.fresh (Nat.le_succ _)) hperm hpair⟩
 have hlm:ms.length=ns.length:=hperm.length_eq
 exact ⟨by rw [List.length_map];have:(64:Nat)≤sizeLine:=(by decide);omega,out.toList,e,ij hout,by simpa using he⟩
def vq:List V→Hp→VK→Prop:=fun vs H Q=>qh vs H Q∨va vs H Q
theorem tJ:cx X (.builtin "sorted") vq:=qD.or tI
def kQ (xs:List Vl) (S:Sto):R Vl:=match xs with
 | [x]=>(match (b7 x S).bind intsOf with
  | some ns=>if ns.length < 64 then .ok (.d (.lst ((sortI ns).map D.int))) S else .bad
  | none=>.bad)
 | _=>.bad
theorem vv {K:PySem.W.Frag} {mg:Str→Option Value}:lP K mg vq kQ:=by
 intro WE μ S H vs xs Q hr rs p
 unfold kQ at p
 split at p
 ·obtain ⟨v,rfl,r⟩:=rs.one
  split at p
  ·rename_i ns e
   split at p
   ·rename_i hb
    obtain ⟨ds,e1,e2⟩:=Option.bind_eq_some_iff.mp e
    obtain ⟨a,us,rfl,ha,rr⟩:=iX hr r e1
    rw [jU e2] at rr
    rw [ax.mQ rr] at ha
    rcases ha with ha | ha
    ·refine .inl ⟨a,ns,rfl,ha,hb,fun l ms hl h1 h2=>?_⟩
     rw [pK h1 h2]
     exact p.nk hr (ax.ints _) l hl
    ·refine .inr ⟨a,ns,rfl,ha,hb,fun l ms hl h1 h2=>?_⟩
     rw [pK h1 h2]
     exact p.nk hr (ax.ints _) l hl
   ·exact p.elim
  ·exact p.elim
 ·exact p.elim
def ye:V→List V→Hp→VK→Prop:=fun x vs H Q=>∃ l b xs zs,x=.ref l∧vs=[.ref b]∧H l=some (.lst xs)∧H b=some (.tup zs)∧xs.length+zs.length≤sizeLine∧Q .non (upd H l (.lst (xs++zs)))
theorem Am:MtM X "list.extend" ye:=by
 intro pins s σ H x vs v us Q I rx rv h
 obtain ⟨l,b,xs,zs,rfl,rfl,hH,hB,hz,q⟩:=h
 cases rx
 obtain ⟨u,rfl,ru⟩:=rv.one
 cases ru
 obtain ⟨z,its,n,r,hl,e⟩:=I.l0 hH
 obtain ⟨its2,r2,p2,hz2⟩:=I.tuple (SqT.of hB)
 obtain ⟨o2,g2,c2,n2,d2⟩:=id p2
 have l2:=r2.length
 have hsz:its.toArray.size+its2.toArray.size≤sizeLine:=by rw [List.size_toArray,List.size_toArray];omega
 have hlong:¬(!its.toArray.isEmpty && Builtin.List.listTooLong (its.toArray.size+its2.toArray.size))=true:=by
  rw [jg hsz,Bool.and_false]
  exact Bool.false_ne_true
 refine wpAny_call_entry F.slot_list_extend ⟨_,e,rfl⟩ F.entry_list_extend ?_ (F.args_list_extend_2 _ _)
 unfold Builtin.«list.extend»
 refine wpAny_bind (m:=selfAndOne "list.extend" _) ?_
 refine wpAny_of_eq (a:=(Value.ref l,Value.ref b)) (by first | rfl | (unfold selfAndOne;rfl)) ?_
 dsimp only
 unfold Builtin.List.listExtendWith
 refine wpAny_bind (wpAny_typeOf (T:="tuple") ⟨o2,g2,c2⟩ ?_)
 have ht:(Value.type "tuple" == Value.type "tuple")=true:=by rfl
 rw [if_pos (by rw [ht];simp)]
 refine wpAny_bind (listItems_at g2 d2 ?_)
 refine wpAny_bind (listItems_at (n:=n) e rfl ?_)
 rw [if_neg hlong]
 refine wpAny_bind (listUpdate_at (n:=n) e rfl ?_ (by rw [List.size_toArray];omega) (by rw [Array.size_append];omega))
 refine wpAny_pure ?_
 refine ⟨_,rfl,.non,_,I.t5 (its':=its++its2) hH e (by simp) (r.append r2) ?_,rfl,q⟩
 rw [List.length_append]
 omega
end
section
variable {X:Cx} {WE:WX}
def yI:V→List V→Hp→VK→Prop:=fun x vs H Q=>sA x vs H Q∨ye x vs H Q
theorem zR:MtM X "list.extend" yI:=by
 intro pins s σ H x vs v us Q I rx rv h
 rcases h with h | h
 ·exact u9 pins s σ H x vs v us Q I rx rv h
 ·exact Am pins s σ H x vs v us Q I rx rv h
def l6 (n:Nat) (xs:List D) (z:D) (S:Sto):R Vl:=match z with
 | .lst ys=>if xs.length+ys.length≤100000 then .ok (.d .non) (S.set n (.lst (xs++ys))) else .bad
 | .tup ys=>if xs.length+ys.length≤100000 then .ok (.d .non) (S.set n (.lst (xs++ys))) else .bad
 | _=>.bad
theorem uJ:xy yI l6:=by
 intro K mg WE μ S H n xs vs w z Q hr e h rs rw' p
 unfold l6 at p
 split at p
 ·rename_i ys
  split at p
  ·cases rw' with
   | @lst a us _ h' rs'=>
    have l1:=rs.length
    have l2:=rs'.length
    exact .inl ⟨_,a,vs,us,rfl,rfl,h,(aT h').2,jd (by omega),p _ _ _ (Step.put hr e (by simp) (ob:=.lst (xs++ys)) ⟨_,rfl,rs.append rs'⟩) Rep.non⟩
  ·exact p.elim
 ·rename_i ys
  split at p
  ·cases rw' with
   | @tup a us _ h' rs'=>
    have l1:=rs.length
    have l2:=rs'.length
    exact .inr ⟨_,a,vs,us,rfl,rfl,h,(aT h').2,jd (by omega),p _ _ _ (Step.put hr e (by simp) (ob:=.lst (xs++ys)) ⟨_,rfl,rs.append rs'⟩) Rep.non⟩
  ·exact p.elim
 ·exact p.elim
def ef (x y z:Vl) (S:Sto):R Unit:=match x,y,z with
 | .r n,.d (.int k),.d w=>(match S[n]? with
  | some (.lst xs)=>(match ixN xs.length k with
   | some j=>.ok () (S.set n (.lst (xs.set j w)))
   | none=>.bad)
  | _=>.bad)
 | _,_,_=>.bad
theorem ax.set {H:Hp} {v:V} {d:D} (r:Rep H v d):∀ {vs:List V} {ds:List D} (i:Nat),ax H vs ds→ax H (vs.set i v) (ds.set i d)
 | _,_,_,.nil=>.nil
 | _,_,0,.cons _ t=>.cons r t
 | _,_,i+1,.cons q t=>.cons q (ax.set r i t)
theorem iK {K:PySem.W.Frag} {mg:Str→Option Value}:uY K mg tL ef:=by
 intro WE μ S H o i v x y z Q hr ro ri rv p
 unfold ef at p
 split at p
 ·split at p
  ·rename_i n k w _ xs e
   obtain ⟨rfl,hn⟩:=ro
   obtain ⟨vs,h,rs⟩:=hr.ob _ _ e
   split at p
   ·rename_i j ej
    refine ⟨_,vs,k,j,rfl,bD ri,h,by rw [rs.length];exact ej,?_⟩
    exact p () _ _ (Step.put hr e (by simp) (ob:=.lst (xs.set j w)) ⟨_,rfl,rs.set rv j⟩) True.intro
   ·exact p.elim
  ·exact p.elim
 ·exact p.elim
theorem mi:tS X tL:=set_list
def lrg (fin:List D→Sto→R Vl) (zs:List Vl) (S:Sto):R Vl:=match zs with
 | [.d (.int j)]=>if 0≤j∧j≤1000 then fin ((List.range j.toNat).map fun i=>D.int (i:Nat)) S else .bad
 | _=>.bad
def xD (ds:List D) (S:Sto):R Vl:=.ok (.r S.length) (S++[.lst ds])
theorem mq {H:Hp}:∀ l:List Nat,ax H (l.map fun i=>V.int (i:Nat)) (l.map fun i=>D.int (i:Nat))
 | []=>.nil
 | n :: l=>.cons (.int _) (mq l)
theorem oi {a:Expr} {as:XA} {p1 p2 pos1 pos2:Pos} (hc:X.calm=true) (hgl:Gl X "list") (hml:X.mg "list"=none) (hgr:Gl X "range") (hmr:X.mg "range"=none) (hbl:bootBuiltins "list"=some (.type "list")) (ha:RA X WE [a] as)
  (hs:starEach [a] X.env=[(false,eval a X.env)]:=by rfl)
  (hs2:starEach [Expr.Call (.Name "range" p2) [a] [] pos2] X.env=(false,eval (Expr.Call (.Name "range" p2) [a] [] pos2) X.env) :: starEach [] X.env:=by rfl) :
  RE X WE (.Call (.Name "list" p1) [.Call (.Name "range" p2) [a] [] pos2] [] pos1) (xN (lrg xD) as):=
 ⟨(qy hc hgl hml hgr hmr hbl ha.h hs hs2).weak fun σ H Q ⟨μ,S,τ,hr,sr,p⟩=>⟨μ,S,τ,hr,sr,p.bind fun vs xs S1 μ1 H1 st1 r1 p1=>by
  unfold lrg at p1
  split at p1
  ·split at p1
   ·rename_i j hj
    obtain ⟨v,rfl,r⟩:=r1.one
    exact ⟨j,by rw [bD r],hj.1,hj.2,fun l hl=>p1.yb st1.hr (mq _) l hl⟩
   ·exact p1.elim
  ·exact p1.elim⟩⟩
end
def gW (x:Int):List Int→List Int
 | []=>[x]
 | y :: ys=>if x < y then x :: y :: ys else if x=y then y :: ys else y :: gW x ys
def bZ:List Int→List Int
 | []=>[]
 | x :: xs=>gW x (bZ xs)
theorem lS (x z:Int):∀ ys,z∈gW x ys↔z=x∨z∈ys
 | []=>by simp [gW]
 | y :: ys=>by
  unfold gW
  split
  ·simp
  ·split
   ·rename_i h;subst h;simp
   ·simp only [List.mem_cons,lS x z ys]
    constructor
    ·rintro (h | h | h)
     ·exact .inr (.inl h)
     ·exact .inl h
     ·exact .inr (.inr h)
    ·rintro (h | h | h)
     ·exact .inr (.inl h)
     ·exact .inl h
     ·exact .inr (.inr h)
theorem ig (z:Int):∀ xs,z∈bZ xs↔z∈xs
 | []=>by simp [bZ]
 | x :: xs=>by rw [bZ,lS,ig z xs,List.mem_cons]
theorem nV (x:Int):∀ ys:List Int,ys.Pairwise (· < ·)→(gW x ys).Pairwise (· < ·)
 | [],_=>by simp [gW]
 | y :: ys,h=>by
  obtain ⟨h1,h2⟩:=List.pairwise_cons.mp h
  unfold gW
  split
  ·rename_i hxy
   refine List.pairwise_cons.mpr ⟨fun z hz=>?_,h⟩
   rcases List.mem_cons.mp hz with e | e
   ·omega
   ·have:=h1 z e;omega
  ·split
   ·exact h
   ·refine List.pairwise_cons.mpr ⟨fun z hz=>?_,nV x ys h2⟩
    rcases (lS x z ys).mp hz with e | e
    ·omega
    ·exact h1 z e
theorem gk:∀ xs,(bZ xs).Pairwise (· < ·)
 | []=>.nil
 | x :: xs=>nV x _ (gk xs)
theorem kX {xs:List Int} (h:xs.Pairwise (· < ·)):xs.Nodup:=h.imp fun z=>by omega
theorem wk {xs ys:List Int} (h:∀ z,z∈xs↔z∈ys) (h1:xs.Pairwise (· < ·)) (h2:ys.Pairwise (· < ·)):xs=ys:=
 nq ((List.perm_ext_iff_of_nodup (kX h1) (kX h2)).mpr h) (h1.imp fun z=>by omega) (h2.imp fun z=>by omega)
theorem wc {xs ys:List Int} (h:∀ z,z∈ys↔z∈xs) (h1:ys.Pairwise (· < ·)):ys=bZ xs:=wk (fun z=>by rw [h,ig]) h1 (gk xs)
theorem mn {ks ns:List Int} (h1:ks.Nodup) (h2:∀ x,x∈ks↔x∈ns):ks.length=(bZ ns).length:=
 ((List.perm_ext_iff_of_nodup h1 (kX (gk ns))).mpr fun z=>by rw [h2,ig]).length_eq
section
variable {X:Cx} {WE:WX}
def SqI (H:Hp) (a:Addr) (ns:List Int):Prop:=H a=some (.lst (ns.map V.int))∨H a=some (.tup (ns.map V.int))
def Fu (te:TE):TE:=fun σ H Q=>te σ H fun x H1=>∃ (a:Addr) (ns:List Int),x=.ref a∧SqI H1 a ns∧ns.length≤300∧Q (.int (bZ ns).length) H1
theorem SqI.at {pins:List (Addr×Obj)} {σ:St} {H:Hp} {s:Shared} {a:Addr} {ns:List Int} (I:Inv X pins σ H s) (h:SqI H a ns):∃ (its:List Value) (k:Bool),IntsAre its ns∧qM s.heap a its.toArray k:=by
 rcases h with h | h
 ·obtain ⟨its,rv,pl,hz⟩:=I.list (SqL.of h)
  exact ⟨its,true,intsAre_of rv,pl.isList⟩
 ·obtain ⟨its,rv,pl,hz⟩:=I.tuple (SqT.of h)
  exact ⟨its,false,intsAre_of rv,pl⟩
theorem By {e:Expr} {te:TE} {p1 p2 pos1 pos2:Pos} (hc:X.calm=true) (hgs:Gl X "len") (hms:X.mg "len"=none) (hgt:Gl X "set") (hmt:X.mg "set"=none) (hbs:bootBuiltins "len"=some (.builtin "len")) (hbt:bootBuiltins "set"=some (.type "set")) (he:PE X e te)
  (hs:starEach [e] X.env=(false,eval e X.env) :: starEach [] X.env:=by rfl)
  (hs2:starEach [Expr.Call (.Name "set" p2) [e] [] pos2] X.env=(false,eval (Expr.Call (.Name "set" p2) [e] [] pos2) X.env) :: starEach [] X.env:=by rfl) :
  PE X (.Call (.Name "len" p1) [.Call (.Name "set" p2) [e] [] pos2] [] pos1) (Fu te):=by
 intro pins s σ H Q I h
 refine wpAny_Call_Name_kw (cq I hgs hms hbs ?_)
 rw [hs2]
 refine Calls.callWith_builtin (by show (false || (backTo pos1 (starEach ([]:List Expr) X.env)).any (·.1))=false;rfl) (Calls.evalArgs_plain ?_)
 show wpAny _ _ (spliced ((false,eval (Expr.Call (.Name "set" p2) [e] [] pos2) X.env) :: backTo pos1 (starEach [] X.env))) _ _ s
 refine Calls.spliced_cons ?_
 have hA:=(eJ he gR hs) pos2 pins s σ H (fun vs H1=>∃ x,vs=[x]∧∃ (a:Addr) (ns:List Int),x=.ref a∧SqI H1 a ns∧ns.length≤300∧Q (.int (bZ ns).length) H1) I (by
  refine cast (congrArg (te σ H) ?_) h
  funext y H2
  refine propext ⟨fun q=>⟨y,rfl,q⟩,fun ⟨y',e',q⟩=>?_⟩
  cases e'
  exact q)
 refine Call_ (cq I hgt hmt hbt (PyProof.Rows.callWith_type1 (thn hA fun us s1 ⟨vs,H1,I1,r1,x,e1,a,ns,e2,hx,hn,q⟩=>?_) hs rfl))
 subst e1 e2
 obtain ⟨u,rfl,rx⟩:=vals1 r1
 cases rx
 obtain ⟨its,k,hI,pl⟩:=hx.at I1
 have hA0:X.A.handled=none:=I.ok.hd hc
 refine vz hA0 k pl (by simpa using hI) hn fun h' tk ks S1 S2 S3=>?_
 refine wpAny_pure ?_
 obtain ⟨o,es,ep,t,pl',g1,g2,g3,g4,g5,g6,g7,g8,⟨g9,g10,g11⟩,g12,g13,g14,g15⟩:=S1
 have lks:es.size=ks.length:=by
  have:=dY g12
  rw [List.length_map,Array.length_toList] at this
  exact this
 refine call_len_set (s:=⟨h',s1.gens,s1.drawn,tk,s1.os⟩) g1 g2 g3 (fits_of g5 (by rw [g8,lks];simpa using g10) (by omega)) (by omega) ?_
 rw [lks,mn g14 S2]
 exact ⟨.int _,H1,I1.kept (t':=tk+1+1) S3,⟨_,rfl⟩,q⟩
def oLS (x:Vl) (S:Sto):R Vl:=match (b7 x S).bind intsOf with
 | some ns=>if ns.length≤300 then .ok (.d (.int (bZ ns).length)) S else .bad
 | none=>.bad
theorem C9 {K:PySem.W.Frag} {mg:Str→Option Value} {μ:Nat→Addr} {S:Sto} {H:Hp} {v:V} {x:Vl} {ns:List Int} (hr:HR μ S H) (r:ba K mg μ S H v x) (e:(b7 x S).bind intsOf=some ns):∃ a,v=.ref a∧SqI H a ns:=by
 obtain ⟨ds,e1,e2⟩:=Option.bind_eq_some_iff.mp e
 obtain ⟨a,us,rfl,ha,rr⟩:=iX hr r e1
 rw [jU e2] at rr
 rw [ax.mQ rr] at ha
 exact ⟨a,rfl,ha⟩
theorem yw {e:Expr} {xa:XE} {p1 p2 pos1 pos2:Pos} [n:NS e] (hc:X.calm=true) (hgs:Gl X "len") (hms:X.mg "len"=none) (hgt:Gl X "set") (hmt:X.mg "set"=none) (hbs:bootBuiltins "len"=some (.builtin "len")) (hbt:bootBuiltins "set"=some (.type "set")) (he:RE X WE e xa)
  (hs2:starEach [Expr.Call (.Name "set" p2) [e] [] pos2] X.env=(false,eval (Expr.Call (.Name "set" p2) [e] [] pos2) X.env) :: starEach [] X.env:=by rfl) :
  RE X WE (.Call (.Name "len" p1) [.Call (.Name "set" p2) [e] [] pos2] [] pos1) (xUn oLS xa):=
 ⟨(By hc hgs hms hgt hmt hbs hbt he.h (n.eq _ X.env) hs2).weak fun σ H Q ⟨μ,S,τ,hr,sr,p⟩=>⟨μ,S,τ,hr,sr,p.bind fun v x S1 μ1 H1 st1 r1 p1=>by
  unfold oLS at p1
  split at p1
  ·rename_i ns e1
   split at p1
   ·obtain ⟨a,rfl,sq⟩:=C9 st1.hr r1 e1
    exact ⟨a,ns,rfl,sq,‹_›,p1.here st1.hr (Rep.int _)⟩
   ·exact p1.elim
  ·exact p1.elim⟩⟩
end
def cF (k:Nat):List D→List Vl
 | []=>[]
 | x :: xs=>.d (.tup [.int k,x]) :: cF (k+1) xs
theorem fU:∀ (k:Nat) (xs:List D),(cF k xs).length=xs.length
 | _,[]=>rfl
 | k,x :: xs=>by simp [cF,fU (k+1) xs]
theorem dz:∀ (k:Nat) (xs:List D) (i:Nat),(cF k xs)[i]?=(xs[i]?).map fun x=>Vl.d (.tup [.int ((k+i:Nat):Int),x])
 | _,[],_=>by simp [cF]
 | k,x :: xs,0=>by simp [cF]
 | k,x :: xs,i+1=>by
  simp only [cF,List.getElem?_cons_succ,dz (k+1) xs i]
  congr 1
  funext z
  rw [show k+1+i=k+(i+1) by omega]
def xV (e:XE):XI:=fun τ S=>(e τ S).bind fun z S1=>match z with
 | .d (.lst xs)=>.ok ⟨cF 0 xs,none⟩ S1
 | _=>.bad
section
variable {X:Cx} {WE:WX} {K:PySem.W.Frag} {mg:Str→Option Value} {μ:Nat→Addr} {S:Sto} {H:Hp}
theorem wL {a:Addr} {vs:List V} {xs:List D} (g:vh μ S H a=some (.lst vs)) (rs:ax (vh μ S H) vs xs) (hz:vs.length≤sizeLine):fB K mg μ S H (Ite K a) ⟨cF 0 xs,none⟩ where
 ok:=True.intro
 len:=by simp only [fU];rw [← rs.length];exact hz
 go:=fun i z μ' S' H' st _ e=>by
  rw [dz] at e
  cases q:xs[i]? with
  | none=>rw [q] at e;cases e
  | some x=>
   obtain ⟨u,e2,_⟩:=rs.get' q
   exact ⟨vs,u,SqL.of (aT (st.vis _ _ g)).2,e2⟩
 yld:=fun i z μ' S' H' u H2 st _ e y=>by
  obtain ⟨p,w,hp,rfl,rfl,y⟩:=y
  rw [dz] at e
  cases q:xs[i]? with
  | none=>rw [q] at e;cases e
  | some x=>
   rw [q] at e
   cases e
   have e2:=y vs (SqL.of (aT (st.vis _ _ g)).2)
   obtain ⟨x',e3,r⟩:=rs.get e2
   rw [q] at e3;cases e3
   have st2:=Step.new st.hr hp (.tup [.int i,w])
   refine ⟨st2,Rep.tup (bO bJ (st.hr.nal hp)) (.cons ?_ (.cons (Rep.mono (st.trans st2).vis r) .nil))⟩
   rw [Nat.zero_add]
   exact .int _
 stop:=fun i μ' S' H' st _ hi=>⟨vs,SqL.of (aT (st.vis _ _ g)).2,by rw [rs.length];rw [fU] at hi;exact Nat.le_of_eq hi⟩
end
section
variable {X:Cx} {WE:WX}
theorem wG {es:List Expr} {kk:Nat} {tp:Pos} {l:Expr} {xl:XE} {p pos:Pos} (hg:Gl X "enumerate") (hm:X.mg "enumerate"=none) (hl:RE X WE l xl) (hb:bootBuiltins "enumerate"=some (.type "enumerate"):=by decide +kernel)
  (hs:starEach [l] X.env=[(false,eval l X.env)]:=by rfl):RI X WE (.Tuple es kk tp) (.Call (.Name "enumerate" p) [l] [] pos) (xV xl):=⟨by
 intro pins s σ H R I h
 obtain ⟨μ,S,τ,hr,sr,pp⟩:=h
 refine Call_ (cq I hg hm hb (PyProof.Rows.callWith_type1 (thn ((eJ hl.h gR hs) pos pins s σ H (fun vs H1=>∃ x,vs=[x]∧∃ μ1 S1 z,HR μ1 S1 H1∧ba X.K X.mg μ1 S1 H1 x z∧bc (fB X.K X.mg) WE μ1 S1 H1 (match z with
   | .d (.lst xs)=>.ok ⟨cF 0 xs,none⟩ S1
   | _=>.bad) R) I ?_) fun us s1 ⟨vs,H1,I1,r1,q1⟩=>?_) hs rfl))
 ·exact ⟨μ,S,τ,hr,sr,pp.bind fun v x S1 μ1 H1 st1 r1 p1=>⟨v,rfl,μ1,S1,x,st1.hr,r1,p1⟩⟩
 ·obtain ⟨x,e,μ1,S1,z,hr1,rz,p1⟩:=q1
  subst e
  obtain ⟨u,rfl,ru⟩:=vals1 r1
  split at p1
  ·cases (show Rep (vh μ1 S1 H1) x (.lst _) from rz) with
   | @lst a us _ g rs=>
    cases ru
    have hq:SqL X.K H1 a us:=SqL.of (aT g).2
    obtain ⟨its,rv,pl,hz⟩:=I1.list hq
    have q:=p1.here hr1 (wL g rs hz)
    refine call_enumerate_list pl.isList fun h' he hit hsz hk=>?_
    refine wpAny_pyIter_enum (s:={ s1 with heap:=h' }) he ?_
    have I2:Inv X pins σ H1 { s1 with heap:=h' }:=I1.kept (t':=s1.toks) hk
    refine ⟨s1.heap.objs.size+1,[s1.heap.objs.size+1,s1.heap.objs.size],_,_,H1,rfl,I2,uT a _ _ (Nat.succ_ne_self _),⟨⟨_,he⟩,hit⟩,fun b hb=>?_,q⟩
    have hle:s1.heap.objs.size≤b:=by
     rcases List.mem_cons.mp hb with z | z
     ·rw [z];exact Nat.le_succ _
     ·rw [List.mem_singleton.mp z];exact Nat.le_refl _
    exact I1.jS hle (I1.hok.fresh hle)
  ·exact p1.elim⟩
def pV (x:Vl) (lo hi:Option Int) (S:Sto):R Vl:=match x with
 | .sc ns=>.ok (.d (.lst (cy (ns.map D.int) lo hi))) S
 | _=>.bad
theorem uy {e:Expr} {lo hi:Option Expr} {xa:XE} {xl xh:XO} {p2 pos:Pos} (he:RE X WE e xa) (hl:RO X WE lo xl) (hh:RO X WE hi xh):RE X WE (.Subscript e (.Slice lo hi none p2) pos) (xSl pV xa xl xh):=
 ⟨(pk r_ he.h hl.h hh.h).weak fun σ H Q ⟨μ,S,τ,hr,sr,p⟩=>⟨μ,S,τ,hr,sr,p.bind fun v x S1 μ1 H1 st1 r1 p1=>⟨μ1,S1,τ,st1.hr,sr.step st1,p1.bind fun i i' S2 μ2 H2 st2 r2 p2=>⟨μ2,S2,τ,st2.hr,sr.step (st1.trans st2),p2.bind fun j j' S3 μ3 H3 st3 r3 p3=>by
  cases (show i=i' from r2)
  cases (show j=j' from r3)
  have rv:=r1.step (st2.trans st3)
  unfold pV at p3
  split at p3
  ·rename_i ns
   obtain ⟨l,rfl,hq⟩:=rv
   exact ⟨l,_,rfl,hq.mono gp,fun q hq=>p3.nk st3.hr (lH (ax.ints ns) i j) q hq⟩
  ·exact p3.elim⟩⟩⟩⟩
theorem bC {sts:List Stmt}:RB X WE sts bG:=⟨fun _ _ _ _ _ _ ⟨_,_,_,_,_,p⟩=>p.elim⟩
end
def Df (K:PySem.W.Frag) (mg:Str→Option Value) (x:Str) (st:Stmt):Prop:=∃ (f:Addr) (fd:FuncData),Fun K x x st f fd∧mg x=some (.ref f)
theorem EE {K:PySem.W.Frag} {h:Heap} {mg:Str→Option Value} {x:Str} {st:Stmt} {f:Addr} {oc:Value} {od an:Option Addr} {osl:Array (Option Value)} {kV doc pm cdv ct:Value} (X:K.In h) (G:h.Ns mainGlobals mg) (a:PySem.W.nsIn K mainGlobals x=some (some (.ref f)))
  (l:K.lookup f=some ⟨oc,od,.func (PySem.W.fnOf x x (iN st) (eO st) (bY st) .none kV doc pm an cdv ct),osl⟩) (c:PySem.W.codeIn K cdv x=true) (k:PySem.W.keepIn K (.ref f)=true):Df K mg x st:=⟨f,_,B0 l c k,PySem.W.mg_of X G a⟩
theorem bj {K:PySem.W.Frag} {mg:Str→Option Value} {P:Program} {w:World} {x:Str} {st:Stmt} {ps:List Str} {lev:Nat} {k n:Nat} {m:XS} {M:XF} (N:List Str) (F:Df K mg x st)
    (hb:∀ (base:Heap) (f:Addr) (cdv:Value) (A:Around) (outer:List Env) (s:Shared) (H:Hp) (E:XK),cW lev (A.deeper (envOfC x (bY st) s.heap.objs.size f cdv))→LQ (bY st) N→RB (kh CX0 P w K mg base N x (bY st) f cdv A outer s H E).nox W0 (eO st) m)
    (hM:M=aW k n m:=by rfl) (hk:ps.length=k:=by rfl) (hn:N.length=n:=by rfl) (Sc:iM N ps (bY st):=by exact ⟨rfl,rfl,rfl,by decide +kernel,rfl,by decide +kernel,by decide +kernel⟩)
    (hbd:∀ (kV doc pm:Value) (an:Option Addr) (cdv ct:Value) (us:List Value),us.length=ps.length→bindArgs (PySem.W.fnOf x x (iN st) (eO st) (bY st) .none kV doc pm an cdv ct) ⟨us,[]⟩=pure (ps.zip us):=by
      intro _ _ _ _ _ _ us hl
      rcases us with _ | ⟨a,_ | ⟨b,_ | ⟨c,_ | ⟨d,_ | ⟨e,_ | ⟨f,_ | ⟨g,us⟩⟩⟩⟩⟩⟩⟩<;>first | (simp at hl;done) | rfl):OkE P w K mg (lev+1) x ps M:=by
  subst hM hk hn
  obtain ⟨f,fd,F,hm⟩:=F
  refine ⟨f,fd,hm,F.kp,?_,fun base=>FT F Sc fun cdv A outer s H E hr=>hb base f cdv A outer s H E hr ⟨Sc.nd⟩⟩
  obtain ⟨oc,od,kV,doc,pm,an,cdv,ct,osl,rfl,lk,hcd⟩:=F.ex
  exact hbd kV doc pm an cdv ct
theorem bx {α β:Type} {a:α} {S:Sto} {f:α→Sto→R β}:(R.ok a S).bind f=f a S:=rfl
theorem EL {i:Nat} {z:Vl} {τ:Nv} {S:Sto}:gNm i z τ S=.ok (τ.set i (some z)) S:=rfl
theorem i_ {S S':Sto} {z:Vl} {τ:Nv}:leave S (.ok (.rt z,τ) S')=out S z S':=rfl
theorem jb {S S':Sto} {τ:Nv}:leave S (.ok (.nx,τ) S')=out S (.d .non) S':=rfl
theorem g_ {S S':Sto} {x:D}:out S (.d x) S'=.ok (.d x) (S'.take S.length):=rfl
theorem kO {k n:Nat} {b:XS} {us:List Vl} {S:Sto} (h:us.length=k):aW k n b us S=leave S (b (us.map some++List.replicate (n - k) none) S):=by unfold aW;rw [if_pos h]
open Classical in
theorem pT {g:XG} {b:XS} {gd:Option (Nat×Ob)}:∀ {items:List Vl} {τ:Nv} {S:Sto} (I:Nat→Nv→Sto→Prop),I 0 τ S →
  (∀ i z τ S,items[i]?=some z→I i τ S→∃ τ1 S1 fl τ2 S2,g z τ S=.ok τ1 S1∧b τ1 S1=.ok (fl,τ2) S2∧(fl=.nx∨fl=.ct)∧gok gd S2∧I (i+1) τ2 S2) →
  ∃ τ' S',cE g b gd items τ S=.ok (.nx,τ') S'∧I items.length τ' S'
 | [],τ,S,I,h0,_=>⟨τ,S,rfl,h0⟩
 | z :: zs,τ,S,I,h0,hs=>by
  obtain ⟨τ1,S1,fl,τ2,S2,e1,e2,hf,hg,hI⟩:=hs 0 z τ S rfl h0
  obtain ⟨τ',S',e3,h3⟩:=pT (items:=zs) (τ:=τ2) (S:=S2) (fun i=>I (i+1)) hI fun i z' τ S hz hi=>hs (i+1) z' τ S (by simpa using hz) hi
  refine ⟨τ',S',?_,h3⟩
  rw [cE,e1,bx,e2,bx]
  rcases hf with rfl | rfl
  ·dsimp only
   rw [if_pos hg];exact e3
  ·dsimp only
   rw [if_pos hg];exact e3
theorem vN {it:XI} {t:XT} {e:XE} {τ:Nv} {S S1:Sto} {items:List Vl} (hit:it τ S=.ok ⟨items,none⟩ S1) (J:Nat→List D→Sto→Prop) (h0:J 0 [] S1)
  (hs:∀ i z acc Q,items[i]?=some z→J i acc Q→Q.length=S1.length→∃ b Q1,t (some z :: τ) (Q++[.lst acc])=.ok b (Q1++[.lst acc])∧Q1.length=S1.length ∧
   (b=true→∃ x Q2,e (some z :: τ) (Q1++[.lst acc])=.ok (.d x) (Q2++[.lst acc])∧Q2.length=S1.length∧J (i+1) (acc++[x]) Q2)∧(b=false→J (i+1) acc Q1)) :
  ∃ acc Q,xLC it 1 (gNm 0) t e τ S=.ok (.d (.lst acc)) Q∧Q.length=S1.length∧J items.length acc Q:=by
 have key:∀ (zs:List Vl) (i:Nat) (acc:List D) (o:Option Vl) (Q:Sto),(∀ j,zs[j]?=items[i+j]?)→J i acc Q→Q.length=S1.length→∃ acc' Q',f_ (gNm 0) t e S1.length none zs acc (o :: τ) (Q++[.lst acc])=.ok acc' (Q'++[.lst acc'])∧Q'.length=S1.length∧J (i+zs.length) acc' Q':=by
  intro zs
  induction zs with
  | nil=>
   intro i acc o Q _ hJ hl
   refine ⟨acc,Q,?_,hl,hJ⟩
   rw [f_,if_pos]
   rw [← hl,List.getElem?_append_right (Nat.le_refl _)]
   simp
  | cons z zs ih=>
   intro i acc o Q hz hJ hl
   have hz0:items[i]?=some z:=by
    have:=hz 0
    simpa using this.symm
   have hz1:∀ j,zs[j]?=items[i+1+j]?:=fun j=>by
    have:=hz (j+1)
    rw [show i+1+j=i+(j+1) by omega]
    simpa using this
   obtain ⟨b,Q1,e1,l1,ht,hf⟩:=hs i z acc Q hz0 hJ hl
   rw [f_,EL,bx,show (o :: τ).set 0 (some z)=some z :: τ from rfl,e1,bx]
   cases b with
   | true=>
    obtain ⟨x,Q2,e2,l2,hJ2⟩:=ht rfl
    rw [if_pos rfl,e2,bx]
    dsimp only
    have hn:(Q2++[Ob.lst acc])[S1.length]?=some (.lst acc):=by
     rw [← l2,List.getElem?_append_right (Nat.le_refl _)];simp
    rw [if_pos ⟨hn,True.intro⟩]
    have hset:(Q2++[Ob.lst acc]).set S1.length (.lst (acc++[x]))=Q2++[.lst (acc++[x])]:=by
     rw [← l2,List.set_append_right _ _ (Nat.le_refl _)];simp
    rw [hset]
    obtain ⟨acc',Q',e3,l3,h3⟩:=ih (i+1) (acc++[x]) (some z) Q2 hz1 hJ2 l2
    exact ⟨acc',Q',e3,l3,by rw [show i+(z :: zs).length=i+1+zs.length by simp;omega];exact h3⟩
   | false=>
    rw [if_neg Bool.false_ne_true,if_pos (show gok none (Q1++[Ob.lst acc]) from True.intro)]
    obtain ⟨acc',Q',e3,l3,h3⟩:=ih (i+1) acc (some z) Q1 hz1 (hf rfl) l1
    exact ⟨acc',Q',e3,l3,by rw [show i+(z :: zs).length=i+1+zs.length by simp;omega];exact h3⟩
 obtain ⟨acc,Q,e1,l1,h1⟩:=key items 0 [] none S1 (fun j=>by rw [Nat.zero_add]) h0 rfl
 refine ⟨acc,Q,?_,l1,by rw [Nat.zero_add] at h1;exact h1⟩
 show (it τ S).bind _=_
 rw [hit,bx]
 dsimp only
 rw [show List.replicate 1 (none:Option Vl)++τ=none :: τ from rfl,e1,bx]
 unfold mr
 rw [if_pos (by simp [l1]),← l1,List.take_left]
theorem zj {it:XI} {t:XT} {e:XE} {τ:Nv} {S S1:Sto} {items:List Vl} (hit:it τ S=.ok ⟨items,none⟩ S1) (f:Vl→Option D)
  (hs:∀ z∈items,∀ S:Sto,(∀ x,f z=some x→t (some z :: τ) S=.ok true S∧e (some z :: τ) S=.ok (.d x) S)∧(f z=none→t (some z :: τ) S=.ok false S)) :
  xLC it 1 (gNm 0) t e τ S=.ok (.d (.lst (items.filterMap f))) S1:=by
 obtain ⟨acc,Q,e1,l1,h1⟩:=vN (t:=t) (e:=e) hit (fun i acc Q=>acc=(items.take i).filterMap f∧Q=S1) ⟨rfl,rfl⟩ (by
  rintro i z acc Q hz ⟨rfl,rfl⟩ _
  have hm:=List.mem_of_getElem? hz
  have ht:items.take (i+1)=items.take i++[z]:=by rw [List.take_add_one,hz];rfl
  obtain ⟨h1,h2⟩:=hs z hm (Q++[.lst ((items.take i).filterMap f)])
  cases q:f z with
  | some x=>
   obtain ⟨h3,h4⟩:=h1 x q
   refine ⟨true,Q,h3,rfl,fun _=>⟨x,Q,h4,rfl,?_,rfl⟩,fun z=>(by cases z)⟩
   rw [ht,List.filterMap_append]
   simp [q]
  | none=>
   refine ⟨false,Q,h2 q,rfl,fun z=>(by cases z),fun _=>⟨?_,rfl⟩⟩
   rw [ht,List.filterMap_append]
   simp [q])
 obtain ⟨rfl,rfl⟩:=h1
 rw [List.take_length] at e1
 exact e1
theorem oR {it:XI} {e:XE} {τ:Nv} {S S1:Sto} {items:List Vl} (hit:it τ S=.ok ⟨items,none⟩ S1) (f:Vl→D) (hs:∀ z∈items,∀ S:Sto,e (some z :: τ) S=.ok (.d (f z)) S) :
  xLC it 1 (gNm 0) (fun _ S=>.ok true S) e τ S=.ok (.d (.lst (items.map f))) S1:=by
 have:=zj (t:=fun _ S=>.ok true S) (e:=e) hit (fun z=>some (f z)) fun z hz S=>⟨fun x hx=>⟨rfl,by cases hx;exact hs z hz S⟩,fun h=>by cases h⟩
 rw [this]
 congr 4
 rw [List.filterMap_eq_map']
end L2
namespace L2
section
variable {n:Nat} {b:XS} {x y z u v:Vl} {S:Sto}
theorem cn:aW 1 n b [x] S=leave S (b ([some x]++List.replicate (n - 1) none) S):=kO rfl
theorem eY:aW 2 n b [x,y] S=leave S (b ([some x,some y]++List.replicate (n - 2) none) S):=kO rfl
theorem cZ:aW 3 n b [x,y,z] S=leave S (b ([some x,some y,some z]++List.replicate (n - 3) none) S):=kO rfl
theorem dB:aW 4 n b [x,y,z,u] S=leave S (b ([some x,some y,some z,some u]++List.replicate (n - 4) none) S):=kO rfl
theorem vU:aW 5 n b [x,y,z,u,v] S=leave S (b ([some x,some y,some z,some u,some v]++List.replicate (n - 5) none) S):=kO rfl
end
end L2
theorem L2.ai {α:Sort _} {a b:α} (h:a=b):a=b:=h
namespace L2
open PySem PySem.Spec PyProof.Rows
def BH (f:Vl→Vl→Sto→R Vl) (r:R Vl) (b:XE) (τ:Nv):R Vl:=r.bind fun x S1=>(b τ S1).bind fun y S2=>f x y S2
def xp (f:Vl→Vl→Sto→R Vl) (x:Vl) (r:R Vl):R Vl:=r.bind fun y S2=>f x y S2
def un1 (f:Vl→Sto→R Vl) (r:R Vl):R Vl:=r.bind fun x S1=>f x S1
def ch3 (r:R Vl) (f:Vl→Vl→Sto→R Vl) (y:Vl) (c:XE) (τ:Nv):R Vl:=r.bind fun z S3=>match z with
 | .d (.bl k)=>if k=true then (c τ S3).bind fun w S4=>f y w S4 else .ok (.d (.bl false)) S3
 | _=>.bad
def ch2 (f f2:Vl→Vl→Sto→R Vl) (x:Vl) (r:R Vl) (c:XE) (τ:Nv):R Vl:=r.bind fun y S2=>ch3 (f x y S2) f2 y c τ
def ch1 (f f2:Vl→Vl→Sto→R Vl) (r:R Vl) (b c:XE) (τ:Nv):R Vl:=r.bind fun x S1=>ch2 f f2 x (b τ S1) c τ
def t1 (r:R Vl):R Bool:=r.bind asB
def tr1 (r:R Vl):R Bool:=r.bind tru
def wj (r:R Bool) (b:XT) (τ:Nv):R Bool:=r.bind fun c S1=>if c=true then b τ S1 else .ok false S1
def or1 (r:R Bool) (b:XT) (τ:Nv):R Bool:=r.bind fun c S1=>if c=true then .ok true S1 else b τ S1
def AK (r:R Bool):R Bool:=r.bind fun c S1=>.ok (!c) S1
def tm (r:R Vl) (b:XE) (τ:Nv):R Vl:=r.bind fun x S1=>(asB x S1).bind fun c S2=>if c=true then b τ S2 else .ok (.d (.bl false)) S2
def xr (r:R Vl) (b:XE) (τ:Nv):R Vl:=r.bind fun x S1=>(asB x S1).bind fun c S2=>if c=true then .ok (.d (.bl true)) S2 else b τ S2
def yr (r:R Vl):R Vl:=r.bind fun x S1=>(asB x S1).bind fun c S2=>.ok (.d (.bl (!c))) S2
def xv (r:R Bool) (a b:XE) (τ:Nv):R Vl:=r.bind fun k S1=>if k=true then a τ S1 else b τ S1
def co2 (x:Vl) (r:R (List Vl)):R (List Vl):=r.bind fun xs S2=>.ok (x :: xs) S2
def co1 (r:R Vl) (t:XA) (τ:Nv):R (List Vl):=r.bind fun x S1=>co2 x (t τ S1)
def n1 (f:List Vl→Sto→R Vl) (r:R (List Vl)):R Vl:=r.bind f
def c1 (F:XF) (r:R (List Vl)):R Vl:=r.bind fun us S1=>noX (F us S1)
def fz1 (r:R Vl):R Vl:=r.bind frz
def p1 (r:R Vl):R (Option Int):=r.bind fun x S1=>match x with
 | .d (.int i)=>.ok (some i) S1
 | _=>.bad
def sl3 (f:Vl→Option Int→Option Int→Sto→R Vl) (x:Vl) (i:Option Int) (r:R (Option Int)):R Vl:=r.bind fun j S3=>f x i j S3
def sl2 (f:Vl→Option Int→Option Int→Sto→R Vl) (x:Vl) (r:R (Option Int)) (h:XO) (τ:Nv):R Vl:=r.bind fun i S2=>sl3 f x i (h τ S2)
def sl1 (f:Vl→Option Int→Option Int→Sto→R Vl) (r:R Vl) (l h:XO) (τ:Nv):R Vl:=r.bind fun x S1=>sl2 f x (l τ S1) h τ
def lm4 (f:Nat→List D→D→Sto→R Vl) (n:Nat) (o:Option Ob) (z:D) (S:Sto):R Vl:=match o with
 | some (.lst xs)=>f n xs z S
 | _=>.bad
def lm3 (f:Nat→List D→D→Sto→R Vl) (n:Nat) (r:R Vl):R Vl:=r.bind fun y S2=>match y with
 | .d z=>lm4 f n S2[n]? z S2
 | _=>.bad
def lm2 (f:Nat→List D→D→Sto→R Vl) (n:Nat) (o:Option Ob) (e:XE) (τ:Nv) (S:Sto):R Vl:=match o with
 | some (.lst _)=>lm3 f n (e τ S)
 | _=>.bad
def lm1 (f:Nat→List D→D→Sto→R Vl) (r:R Vl) (e:XE) (τ:Nv):R Vl:=r.bind fun x S1=>match x with
 | .r n=>lm2 f n S1[n]? e τ S1
 | _=>.bad
def sq1 (r:R (Fl×Nv)) (b:XS):R (Fl×Nv):=r.bind fun q S1=>match q.1 with
 | .nx=>b q.2 S1
 | _=>.ok q S1
def ex1 (r:R Vl) (τ:Nv):R (Fl×Nv):=r.bind fun _ S1=>.ok (.nx,τ) S1
def rt1 (r:R Vl) (τ:Nv):R (Fl×Nv):=r.bind fun z S1=>.ok (.rt z,τ) S1
def if1 (r:R Bool) (a b:XS) (τ:Nv):R (Fl×Nv):=r.bind fun k S1=>if k=true then a τ S1 else b τ S1
def as2 (r:R Nv):R (Fl×Nv):=r.bind fun τ1 S2=>.ok (.nx,τ1) S2
def as1 (r:R Vl) (g:XG) (τ:Nv):R (Fl×Nv):=r.bind fun z S1=>as2 (g z τ S1)
def gc1 (r:R Nv) (gs:XGs) (zs:List Vl):R Nv:=r.bind fun τ1 S1=>gs zs τ1 S1
def gs3 (r:R Unit) (τ:Nv):R Nv:=r.bind fun _ S3=>.ok τ S3
def gs2 (x:Vl) (r:R Vl) (f:Vl→Vl→Vl→Sto→R Unit) (z:Vl) (τ:Nv):R Nv:=r.bind fun y S2=>gs3 (f x y z S2) τ
def gs1 (r:R Vl) (i:XE) (f:Vl→Vl→Vl→Sto→R Unit) (z:Vl) (τ:Nv):R Nv:=r.bind fun x S1=>gs2 x (i τ S1) f z τ
noncomputable def fo1 (r:R Its) (g:XG) (b:XS) (τ:Nv):R (Fl×Nv):=r.bind fun I S1=>cE g b I.gd I.items τ S1
def is2 (n:Nat) (o:Option Ob) (S:Sto):R Its:=match o with
 | some (.lst xs)=>.ok ⟨xs.map Vl.d,some (n,.lst xs)⟩ S
 | _=>.bad
def is1 (r:R Vl):R Its:=r.bind fun z S1=>match z with
 | .d (.tup xs)=>.ok ⟨xs.map Vl.d,none⟩ S1
 | .d (.lst xs)=>.ok ⟨xs.map Vl.d,none⟩ S1
 | .r n=>is2 n S1[n]? S1
 | _=>.bad
def ir1 (r:R (List Vl)):R Its:=r.bind fun zs S1=>match zs with
 | [.d (.int j)]=>if -100000≤j∧j≤100000 then .ok ⟨(List.range j.toNat).map fun i=>Vl.d (.int (i:Nat)),none⟩ S1 else .bad
 | _=>.bad
def ir2 (r:R (List Vl)):R Its:=r.bind fun zs S1=>match zs with
 | [.d (.int i),.d (.int j)]=>if (-100000≤i∧i≤100000)∧-100000≤j∧j≤100000 then .ok ⟨(List.range (j - i).toNat).map fun k=>Vl.d (.int (i+(k:Nat))),none⟩ S1 else .bad
 | _=>.bad
def ie1 (r:R Vl):R Its:=r.bind fun z S1=>match z with
 | .d (.lst xs)=>.ok ⟨cF 0 xs,none⟩ S1
 | _=>.bad
theorem yN {v:Vl} {τ:Nv} {S:Sto}:aa 0 (some v :: τ) S=.ok v S:=ai rfl
theorem yQ {n:Nat} {o:Option Vl} {τ:Nv} {S:Sto}:aa (n+1) (o :: τ) S=aa n τ S:=ai rfl
theorem BV {x:D} {τ:Nv} {S:Sto}:xC x τ S=.ok (.d x) S:=ai rfl
theorem DO {x:Str} {τ:Nv} {S:Sto}:xFn x τ S=.ok (.fn x) S:=ai rfl
theorem DD {f:Vl→Vl→Sto→R Vl} {a b:XE} {τ:Nv} {S:Sto}:xOp f a b τ S=BH f (a τ S) b τ:=ai rfl
theorem Bg {f:Vl→Vl→Sto→R Vl} {b:XE} {τ:Nv} {S1:Sto} {x:Vl}:BH f (.ok x S1) b τ=xp f x (b τ S1):=ai rfl
theorem Di {f:Vl→Vl→Sto→R Vl} {S1:Sto} {x y:Vl}:xp f x (.ok y S1)=f x y S1:=ai rfl
theorem Fg {u:Vl→Sto→R Vl} {a:XE} {τ:Nv} {S:Sto}:xUn u a τ S=un1 u (a τ S):=ai rfl
theorem DL {u:Vl→Sto→R Vl} {S1:Sto} {x:Vl}:un1 u (.ok x S1)=u x S1:=ai rfl
theorem v8 {f f2:Vl→Vl→Sto→R Vl} {a b c:XE} {τ:Nv} {S:Sto}:fR f f2 a b c τ S=ch1 f f2 (a τ S) b c τ:=ai rfl
theorem E7 {f f2:Vl→Vl→Sto→R Vl} {b c:XE} {τ:Nv} {S1:Sto} {x:Vl}:ch1 f f2 (.ok x S1) b c τ=ch2 f f2 x (b τ S1) c τ:=ai rfl
theorem E2 {f f2:Vl→Vl→Sto→R Vl} {c:XE} {τ:Nv} {S1:Sto} {x y:Vl}:ch2 f f2 x (.ok y S1) c τ=ch3 (f x y S1) f2 y c τ:=ai rfl
theorem Bj {f:Vl→Vl→Sto→R Vl} {c:XE} {τ:Nv} {S1:Sto} {y:Vl}:ch3 (.ok (.d (.bl true)) S1) f y c τ=xp f y (c τ S1):=ai rfl
theorem CM {f:Vl→Vl→Sto→R Vl} {c:XE} {τ:Nv} {S1:Sto} {y:Vl}:ch3 (.ok (.d (.bl false)) S1) f y c τ=.ok (.d (.bl false)) S1:=ai rfl
theorem zF {a:XE} {τ:Nv} {S:Sto}:aI a τ S=t1 (a τ S):=ai rfl
theorem FC {k:Bool} {S:Sto}:t1 (.ok (.d (.bl k)) S)=.ok k S:=ai rfl
theorem Ci {a:XE} {τ:Nv} {S:Sto}:cQ a τ S=tr1 (a τ S):=ai rfl
theorem DP {z:Vl} {S:Sto}:tr1 (.ok z S)=tru z S:=ai rfl
theorem Fe {k:Bool} {S:Sto}:tru (.d (.bl k)) S=.ok k S:=ai rfl
theorem EF {xs:List D} {S:Sto}:tru (.d (.tup xs)) S=.ok (!xs.isEmpty) S:=ai rfl
theorem EX {xs:List D} {S:Sto}:tru (.d (.lst xs)) S=.ok (!xs.isEmpty) S:=ai rfl
theorem Fh {S:Sto}:tru (.d .non) S=.ok false S:=ai rfl
theorem BX {a b:XT} {τ:Nv} {S:Sto}:lI a b τ S=wj (a τ S) b τ:=ai rfl
theorem AF {b:XT} {τ:Nv} {S:Sto}:wj (.ok true S) b τ=b τ S:=ai rfl
theorem Dc {b:XT} {τ:Nv} {S:Sto}:wj (.ok false S) b τ=.ok false S:=ai rfl
theorem Du {a b:XT} {τ:Nv} {S:Sto}:xOr a b τ S=or1 (a τ S) b τ:=ai rfl
theorem DX {b:XT} {τ:Nv} {S:Sto}:or1 (.ok true S) b τ=.ok true S:=ai rfl
theorem DI {b:XT} {τ:Nv} {S:Sto}:or1 (.ok false S) b τ=b τ S:=ai rfl
theorem A2 {a:XT} {τ:Nv} {S:Sto}:c9 a τ S=AK (a τ S):=ai rfl
theorem Cu {S:Sto} {k:Bool}:AK (.ok k S)=.ok (!k) S:=ai rfl
theorem zC {a b:XE} {τ:Nv} {S:Sto}:cS a b τ S=tm (a τ S) b τ:=ai rfl
theorem yU {b:XE} {τ:Nv} {S:Sto}:tm (.ok (.d (.bl true)) S) b τ=b τ S:=ai rfl
theorem yW {b:XE} {τ:Nv} {S:Sto}:tm (.ok (.d (.bl false)) S) b τ=.ok (.d (.bl false)) S:=ai rfl
theorem BZ {a b:XE} {τ:Nv} {S:Sto}:FX a b τ S=xr (a τ S) b τ:=ai rfl
theorem BM {b:XE} {τ:Nv} {S:Sto}:xr (.ok (.d (.bl true)) S) b τ=.ok (.d (.bl true)) S:=ai rfl
theorem Bs {b:XE} {τ:Nv} {S:Sto}:xr (.ok (.d (.bl false)) S) b τ=b τ S:=ai rfl
theorem zN {a:XE} {τ:Nv} {S:Sto}:tu a τ S=yr (a τ S):=ai rfl
theorem zq {k:Bool} {S:Sto}:yr (.ok (.d (.bl k)) S)=.ok (.d (.bl (!k))) S:=ai rfl
theorem Cw {c:XT} {a b:XE} {τ:Nv} {S:Sto}:sO c a b τ S=xv (c τ S) a b τ:=ai rfl
theorem AL {a b:XE} {τ:Nv} {S:Sto}:xv (.ok true S) a b τ=a τ S:=ai rfl
theorem C4 {a b:XE} {τ:Nv} {S:Sto}:xv (.ok false S) a b τ=b τ S:=ai rfl
theorem vO {τ:Nv} {S:Sto}:aj τ S=.ok [] S:=ai rfl
theorem rY {a:XE} {r:XA} {τ:Nv} {S:Sto}:ab a r τ S=co1 (a τ S) r τ:=ai rfl
theorem yM {r:XA} {τ:Nv} {S:Sto} {x:Vl}:co1 (.ok x S) r τ=co2 x (r τ S):=ai rfl
theorem yl {S:Sto} {x:Vl} {xs:List Vl}:co2 x (.ok xs S)=.ok (x :: xs) S:=ai rfl
theorem Fz {r:XA} {τ:Nv} {S:Sto} {f:List Vl→Sto→R Vl}:xN f r τ S=n1 f (r τ S):=ai rfl
theorem F3 {S:Sto} {xs:List Vl} {f:List Vl→Sto→R Vl}:n1 f (.ok xs S)=f xs S:=ai rfl
theorem rC {r:XA} {τ:Nv} {S:Sto} {F:XF}:ay F r τ S=c1 F (r τ S):=ai rfl
theorem BP {S:Sto} {xs:List Vl} {F:XF}:c1 F (.ok xs S)=noX (F xs S):=ai rfl
theorem yx {x:Vl} {S:Sto}:noX (R.ok x S)=.ok x S:=ai rfl
theorem ED {a:XE} {τ:Nv} {S:Sto}:xFz a τ S=fz1 (a τ S):=ai rfl
theorem Ew {z:Vl} {S:Sto}:fz1 (.ok z S)=frz z S:=ai rfl
theorem Bn {x:D} {S:Sto}:frz (.d x) S=.ok (.d x) S:=ai rfl
theorem ug {τ:Nv} {S:Sto}:aE τ S=.ok none S:=ai rfl
theorem zm {a:XE} {τ:Nv} {S:Sto}:aQ a τ S=p1 (a τ S):=ai rfl
theorem Gd {i:Int} {S:Sto}:p1 (.ok (.d (.int i)) S)=.ok (some i) S:=ai rfl
theorem EY {f:Vl→Option Int→Option Int→Sto→R Vl} {a:XE} {l h:XO} {τ:Nv} {S:Sto}:xSl f a l h τ S=sl1 f (a τ S) l h τ:=ai rfl
theorem E3 {f:Vl→Option Int→Option Int→Sto→R Vl} {l h:XO} {τ:Nv} {S:Sto} {x:Vl}:sl1 f (.ok x S) l h τ=sl2 f x (l τ S) h τ:=ai rfl
theorem EM {f:Vl→Option Int→Option Int→Sto→R Vl} {h:XO} {τ:Nv} {S:Sto} {x:Vl} {i:Option Int}:sl2 f x (.ok i S) h τ=sl3 f x i (h τ S):=ai rfl
theorem DB {f:Vl→Option Int→Option Int→Sto→R Vl} {S:Sto} {x:Vl} {i j:Option Int}:sl3 f x i (.ok j S)=f x i j S:=ai rfl
theorem Ff {f:Nat→List D→D→Sto→R Vl} {o e:XE} {τ:Nv} {S:Sto}:xLm f o e τ S=lm1 f (o τ S) e τ:=ai rfl
theorem DZ {f:Nat→List D→D→Sto→R Vl} {e:XE} {τ:Nv} {S:Sto} {n:Nat}:lm1 f (.ok (.r n) S) e τ=lm2 f n S[n]? e τ S:=ai rfl
theorem El {f:Nat→List D→D→Sto→R Vl} {e:XE} {τ:Nv} {S:Sto} {n:Nat} {xs:List D}:lm2 f n (some (.lst xs)) e τ S=lm3 f n (e τ S):=ai rfl
theorem Eg {f:Nat→List D→D→Sto→R Vl} {S:Sto} {n:Nat} {z:D}:lm3 f n (.ok (.d z) S)=lm4 f n S[n]? z S:=ai rfl
theorem Es {f:Nat→List D→D→Sto→R Vl} {S:Sto} {n:Nat} {xs:List D} {z:D}:lm4 f n (some (.lst xs)) z S=f n xs z S:=ai rfl
theorem mR {τ:Nv} {S:Sto}:aP τ S=.ok (.nx,τ) S:=ai rfl
theorem iJ {a b:XS} {τ:Nv} {S:Sto}:av a b τ S=sq1 (a τ S) b:=ai rfl
theorem iA {b:XS} {τ:Nv} {S:Sto}:sq1 (.ok (.nx,τ) S) b=b τ S:=ai rfl
theorem EA {b:XS} {τ:Nv} {S:Sto} {v:Vl}:sq1 (.ok (.rt v,τ) S) b=.ok (.rt v,τ) S:=ai rfl
theorem DQ {b:XS} {τ:Nv} {S:Sto}:sq1 (.ok (.bk,τ) S) b=.ok (.bk,τ) S:=ai rfl
theorem DY {b:XS} {τ:Nv} {S:Sto}:sq1 (.ok (.ct,τ) S) b=.ok (.ct,τ) S:=ai rfl
theorem zJ {τ:Nv} {S:Sto} {e:XE}:dI e τ S=ex1 (e τ S) τ:=ai rfl
theorem DK {τ:Nv} {S:Sto} {z:Vl}:ex1 (.ok z S) τ=.ok (.nx,τ) S:=ai rfl
theorem CH {τ:Nv} {S:Sto} {e:XE}:aL e τ S=rt1 (e τ S) τ:=ai rfl
theorem Eb {τ:Nv} {S:Sto} {z:Vl}:rt1 (.ok z S) τ=.ok (.rt z,τ) S:=ai rfl
theorem zb {τ:Nv} {S:Sto}:E9 τ S=.ok (.rt (.d .non),τ) S:=ai rfl
theorem zy {τ:Nv} {S:Sto}:E6 τ S=.ok (.ct,τ) S:=ai rfl
theorem vZ {τ:Nv} {S:Sto}:A4 τ S=.ok (.bk,τ) S:=ai rfl
theorem yh {a b:XS} {τ:Nv} {S:Sto} {t:XT}:xIf t a b τ S=if1 (t τ S) a b τ:=ai rfl
theorem BA {a b:XS} {τ:Nv} {S:Sto}:if1 (.ok true S) a b τ=a τ S:=ai rfl
theorem pI {a b:XS} {τ:Nv} {S:Sto}:if1 (.ok false S) a b τ=b τ S:=ai rfl
theorem p9 {τ:Nv} {S:Sto} {e:XE} {g:XG}:aH e g τ S=as1 (e τ S) g τ:=ai rfl
theorem oF {τ:Nv} {S:Sto} {z:Vl} {g:XG}:as1 (.ok z S) g τ=as2 (g z τ S):=ai rfl
theorem mP {τ1:Nv} {S:Sto}:as2 (.ok τ1 S)=.ok (.nx,τ1) S:=ai rfl
theorem mh {τ:Nv} {S:Sto} {z:Vl} {i:Nat}:gNm i z τ S=.ok (τ.set i (some z)) S:=ai rfl
theorem Ep {gs:XGs} {τ:Nv} {S:Sto} {xs:List D} {n:Nat}:gTu n gs (.d (.tup xs)) τ S=if xs.length=n then gs (xs.map Vl.d) τ S else .bad:=ai rfl
theorem ES {τ:Nv} {S:Sto}:gN0 [] τ S=.ok τ S:=ai rfl
theorem ER {g:XG} {gs:XGs} {τ:Nv} {S:Sto} {z:Vl} {zs:List Vl}:gCo g gs (z :: zs) τ S=gc1 (g z τ S) gs zs:=ai rfl
theorem Dt {gs:XGs} {τ1:Nv} {S:Sto} {zs:List Vl}:gc1 (.ok τ1 S) gs zs=gs zs τ1 S:=ai rfl
theorem yn {τ:Nv} {S:Sto} {z:Vl} {o e:XE} {f:Vl→Vl→Vl→Sto→R Unit}:gSb o e f z τ S=gs1 (o τ S) e f z τ:=ai rfl
theorem yo {τ:Nv} {S:Sto} {z x:Vl} {e:XE} {f:Vl→Vl→Vl→Sto→R Unit}:gs1 (.ok x S) e f z τ=gs2 x (e τ S) f z τ:=ai rfl
theorem yS {τ:Nv} {S:Sto} {z x y:Vl} {f:Vl→Vl→Vl→Sto→R Unit}:gs2 x (.ok y S) f z τ=gs3 (f x y z S) τ:=ai rfl
theorem tQ {τ:Nv} {S:Sto}:gs3 (.ok () S) τ=.ok τ S:=ai rfl
theorem pN {it:XI} {g:XG} {b:XS} {τ:Nv} {S:Sto}:dR it g b τ S=fo1 (it τ S) g b τ:=ai rfl
theorem tT {g:XG} {b:XS} {τ:Nv} {S:Sto} {I:Its}:fo1 (.ok I S) g b τ=cE g b I.gd I.items τ S:=ai rfl
theorem mC {τ:Nv} {S:Sto} {e:XE}:cv e τ S=is1 (e τ S):=ai rfl
theorem qa {S:Sto} {xs:List D}:is1 (.ok (.d (.tup xs)) S)=.ok ⟨xs.map Vl.d,none⟩ S:=ai rfl
theorem pG {S:Sto} {xs:List D}:is1 (.ok (.d (.lst xs)) S)=.ok ⟨xs.map Vl.d,none⟩ S:=ai rfl
theorem A6 {S:Sto} {n:Nat}:is1 (.ok (.r n) S)=is2 n S[n]? S:=ai rfl
theorem Ee {S:Sto} {xs:List D} {n:Nat}:is2 n (some (.lst xs)) S=.ok ⟨xs.map Vl.d,some (n,.lst xs)⟩ S:=ai rfl
theorem Dd {τ:Nv} {S:Sto} {as:XA}:jM as τ S=ir1 (as τ S):=ai rfl
theorem Dh {τ:Nv} {S:Sto} {as:XA}:tF as τ S=ir2 (as τ S):=ai rfl
theorem CQ {τ:Nv} {S:Sto} {e:XE}:xV e τ S=ie1 (e τ S):=ai rfl
theorem E_ {S:Sto} {xs:List D}:ie1 (.ok (.d (.lst xs)) S)=.ok ⟨cF 0 xs,none⟩ S:=ai rfl
theorem EH {j:Int} {S:Sto} (h:-100000≤j∧j≤100000):ir1 (.ok [.d (.int j)] S)=.ok ⟨(List.range j.toNat).map fun i=>Vl.d (.int (i:Nat)),none⟩ S:=by rw [show ir1 (.ok [.d (.int j)] S)=if -100000≤j∧j≤100000 then .ok ⟨(List.range j.toNat).map fun i=>Vl.d (.int (i:Nat)),none⟩ S else .bad from rfl,if_pos h]
theorem ym {i j:Int} {S:Sto} (h:(-100000≤i∧i≤100000)∧-100000≤j∧j≤100000):ir2 (.ok [.d (.int i),.d (.int j)] S)=.ok ⟨(List.range (j - i).toNat).map fun k=>Vl.d (.int (i+(k:Nat))),none⟩ S:=by rw [show ir2 (.ok [.d (.int i),.d (.int j)] S)=if (-100000≤i∧i≤100000)∧-100000≤j∧j≤100000 then .ok ⟨(List.range (j - i).toNat).map fun k=>Vl.d (.int (i+(k:Nat))),none⟩ S else .bad from rfl,if_pos h]
theorem F0 {i j:Int} {S:Sto} {g:Int→Int→D}:oI0 g (.d (.int i)) (.d (.int j)) S=.ok (.d (g i j)) S:=ai rfl
theorem CG {i j:Int} {S:Sto}:aD (.d (.int i)) (.d (.int j)) S=.ok (.d (.int (i+j))) S:=ai rfl
theorem Eu {i:Int} {S:Sto}:jc (.d (.int i)) S=.ok (.d (.int (-i))) S:=ai rfl
theorem fO {S:Sto} {xs ys:List D} (h:xs.length+ys.length≤100000):aD (.d (.tup xs)) (.d (.tup ys)) S=.ok (.d (.tup (xs++ys))) S:=by rw [show aD (.d (.tup xs)) (.d (.tup ys)) S=if xs.length+ys.length≤100000 then .ok (.d (.tup (xs++ys))) S else .bad from rfl,if_pos h]
theorem kf {S:Sto} {xs ys:List D} (h:xs.length+ys.length≤100000):aD (.d (.lst xs)) (.d (.lst ys)) S=.ok (.d (.lst (xs++ys))) S:=by rw [show aD (.d (.lst xs)) (.d (.lst ys)) S=if xs.length+ys.length≤100000 then .ok (.d (.lst (xs++ys))) S else .bad from rfl,if_pos h]
theorem D7 {i j:Int} {S:Sto}:oEq (.d (.int i)) (.d (.int j)) S=.ok (.d (.bl (decide (i=j)))) S:=ai rfl
theorem D8 {i j:Int} {S:Sto}:oNe (.d (.int i)) (.d (.int j)) S=.ok (.d (.bl (!decide (i=j)))) S:=ai rfl
theorem Eo {S:Sto} {s t:Str}:oEq (.d (.str s)) (.d (.str t)) S=.ok (.d (.bl (decide (s=t)))) S:=ai rfl
theorem En {S:Sto} {s t:Str}:oNe (.d (.str s)) (.d (.str t)) S=.ok (.d (.bl (!decide (s=t)))) S:=ai rfl
theorem E8 {S:Sto} {p q:Bool}:oEq (.d (.bl p)) (.d (.bl q)) S=.ok (.d (.bl (decide (p=q)))) S:=ai rfl
theorem DR {S:Sto} {p q:Bool}:oNe (.d (.bl p)) (.d (.bl q)) S=.ok (.d (.bl (!decide (p=q)))) S:=ai rfl
theorem yB {S:Sto} {xs ys:List D} (h:D.depth (.tup xs)≤50):oEq (.d (.tup xs)) (.d (.tup ys)) S=.ok (.d (.bl (D.bR xs ys))) S:=by
 have:eqD (.d (.tup xs)) (.d (.tup ys)) S=some (D.bR xs ys):=by rw [show eqD (.d (.tup xs)) (.d (.tup ys)) S=if D.depth (.tup xs)≤50 then some (D.bR xs ys) else none from rfl,if_pos h]
 unfold oEq;rw [this]
theorem j8 {S:Sto} {xs ys:List D} (h:D.depth (.lst xs)≤50):oEq (.d (.lst xs)) (.d (.lst ys)) S=.ok (.d (.bl (D.bR xs ys))) S:=by
 have:eqD (.d (.lst xs)) (.d (.lst ys)) S=some (D.bR xs ys):=by rw [show eqD (.d (.lst xs)) (.d (.lst ys)) S=if D.depth (.lst xs)≤50 then some (D.bR xs ys) else none from rfl,if_pos h]
 unfold oEq;rw [this]
theorem C1 {S:Sto} {xs ys:List D} (h:D.depth (.lst xs)≤50):oNe (.d (.lst xs)) (.d (.lst ys)) S=.ok (.d (.bl (!D.bR xs ys))) S:=by
 have:eqD (.d (.lst xs)) (.d (.lst ys)) S=some (D.bR xs ys):=by rw [show eqD (.d (.lst xs)) (.d (.lst ys)) S=if D.depth (.lst xs)≤50 then some (D.bR xs ys) else none from rfl,if_pos h]
 unfold oNe;rw [this]
theorem D4 {S:Sto} {p q:Bool}:oIs (.d (.bl p)) (.d (.bl q)) S=.ok (.d (.bl (p == q))) S:=ai rfl
theorem Dn {S:Sto}:oIs (.d .non) (.d .non) S=.ok (.d (.bl true)) S:=ai rfl
theorem B7 {S:Sto} {xs:List D}:oIs (.d (.tup xs)) (.d .non) S=.ok (.d (.bl false)) S:=ai rfl
theorem Dl {S:Sto} {xs:List D}:oIs (.d (.lst xs)) (.d .non) S=.ok (.d (.bl false)) S:=ai rfl
theorem Ba {i:Int} {S:Sto}:oIs (.d (.int i)) (.d .non) S=.ok (.d (.bl false)) S:=ai rfl
theorem wN {S:Sto}:ip (.d .non) (.d .non) S=.ok (.d (.bl false)) S:=ai rfl
theorem wV {S:Sto} {xs:List D}:ip (.d (.tup xs)) (.d .non) S=.ok (.d (.bl true)) S:=ai rfl
theorem xu {S:Sto} {xs:List D}:ip (.d (.lst xs)) (.d .non) S=.ok (.d (.bl true)) S:=ai rfl
theorem xn {i:Int} {S:Sto}:ip (.d (.int i)) (.d .non) S=.ok (.d (.bl true)) S:=ai rfl
theorem EZ {T:String} {x:D} {S:Sto}:gH T (.d x) S=.ok (.d (.bl (isT T x))) S:=ai rfl
theorem pF {S:Sto} {xs:List D}:bB [.d (.tup xs)] S=.ok (.d (.int xs.length)) S:=ai rfl
theorem vm {S:Sto} {xs:List D}:bB [.d (.lst xs)] S=.ok (.d (.int xs.length)) S:=ai rfl
theorem CU {S:Sto} {xs:List D}:cJ [.d (.tup xs)] S=.ok (.d (.tup xs)) S:=ai rfl
theorem AO {S:Sto} {xs:List D}:cJ [.d (.lst xs)] S=.ok (.d (.tup xs)) S:=ai rfl
theorem Bz {S:Sto} {xs:List D}:yO [.d (.tup xs)] S=.ok (.d (.lst xs)) S:=ai rfl
theorem BN {S:Sto} {xs:List D}:yO [.d (.lst xs)] S=.ok (.d (.lst xs)) S:=ai rfl
theorem rN {S:Sto} {xs:List D}:gQ [.d (.tup xs)] S=.ok (.r S.length) (S++[.lst xs]):=ai rfl
theorem Ay {S:Sto} {xs:List D}:gQ [.d (.lst xs)] S=.ok (.r S.length) (S++[.lst xs]):=ai rfl
theorem Ej {i j:Int} {S:Sto}:FZ [.d (.int i),.d (.int j)] S=.ok (.d (.int (if j > i then j else i))) S:=ai rfl
theorem Ek {i j:Int} {S:Sto}:FL [.d (.int i),.d (.int j)] S=.ok (.d (.int (if j < i then j else i))) S:=ai rfl
theorem bE {i:Int} {S:Sto} {xs:List D} {z:D} (h:atI xs i=some z):oIx (.d (.tup xs)) (.d (.int i)) S=.ok (.d z) S:=by rw [show oIx (.d (.tup xs)) (.d (.int i)) S=(match atI xs i with | some z=>.ok (.d z) S | none=>.bad) from rfl,h]
theorem dH {i:Int} {S:Sto} {xs:List D} {z:D} (h:atI xs i=some z):oIx (.d (.lst xs)) (.d (.int i)) S=.ok (.d z) S:=by rw [show oIx (.d (.lst xs)) (.d (.int i)) S=(match atI xs i with | some z=>.ok (.d z) S | none=>.bad) from rfl,h]
theorem mI {i:Int} {S:Sto} {xs:List D} {z:D} {n:Nat} (e:S[n]?=some (.lst xs)) (h:atI xs i=some z):oIx (.r n) (.d (.int i)) S=.ok (.d z) S:=by
 have:b7 (.r n) S=some xs:=by unfold b7 da;dsimp only;rw [e]
 unfold oIx;dsimp only;rw [this];dsimp only;rw [h]
theorem ky {S:Sto} {xs:List D} {n:Nat} (e:S[n]?=some (.lst xs)):bB [.r n] S=.ok (.d (.int xs.length)) S:=by
 have:b7 (.r n) S=some xs:=by unfold b7 da;dsimp only;rw [e]
 unfold bB;dsimp only;rw [this]
theorem oK {xs:List D} {i j:Option Int} {S:Sto}:oSl (.d (.tup xs)) i j S=.ok (.d (.tup (cy xs i j))) S:=ai rfl
theorem Ey {xs:List D} {i j:Option Int} {S:Sto}:oSl (.d (.lst xs)) i j S=.ok (.d (.lst (cy xs i j))) S:=ai rfl
theorem EW {ns:List Int} {i j:Option Int} {S:Sto}:pV (.sc ns) i j S=.ok (.d (.lst (cy (ns.map D.int) i j))) S:=ai rfl
theorem yK {S:Sto} {xs:List D}:mY (.d (.tup xs)) (.d (.int (-1))) S=.ok (.d (.tup xs.reverse)) S:=ai rfl
theorem D9 {i j:Int} {S:Sto}:iE (.d (.int i)) (.d (.int j)) S=.ok (.d (.int (i - j))) S:=ai rfl
theorem Fv {i j:Int} {S:Sto}:oLt (.d (.int i)) (.d (.int j)) S=.ok (.d (.bl (decide (i < j)))) S:=ai rfl
theorem Fm {i j:Int} {S:Sto}:oLe (.d (.int i)) (.d (.int j)) S=.ok (.d (.bl (decide (i≤j)))) S:=ai rfl
theorem FQ {i j:Int} {S:Sto}:oGt (.d (.int i)) (.d (.int j)) S=.ok (.d (.bl (decide (j < i)))) S:=ai rfl
theorem FV {i j:Int} {S:Sto}:oGe (.d (.int i)) (.d (.int j)) S=.ok (.d (.bl (decide (j≤i)))) S:=ai rfl
theorem DW {i j:Int} {S:Sto} (h:jf i j):ia (.d (.int i)) (.d (.int j)) S=.ok (.d (.int (i * j))) S:=by rw [show ia (.d (.int i)) (.d (.int j)) S=if jf i j then .ok (.d (.int (i * j))) S else .bad from rfl,if_pos h]
theorem yt {i j:Int} {S:Sto} (h:0 < j):oMod (.d (.int i)) (.d (.int j)) S=.ok (.d (.int (i % j))) S:=by rw [show oMod (.d (.int i)) (.d (.int j)) S=if 0 < j then .ok (.d (.int (i % j))) S else .bad from rfl,if_pos h]
theorem D5 {i j:Int} {S:Sto} (h:mZ i j):oDiv (.d (.int i)) (.d (.int j)) S=.ok (.d (.int (i / j))) S:=by rw [show oDiv (.d (.int i)) (.d (.int j)) S=if mZ i j then .ok (.d (.int (i / j))) S else .bad from rfl,if_pos h]
theorem tM {i j:Int} {S:Sto} (h:m9 i j):mX (.d (.int i)) (.d (.int j)) S=.ok (.d (.int (i ^ j.toNat))) S:=by rw [show mX (.d (.int i)) (.d (.int j)) S=if m9 i j then .ok (.d (.int (i ^ j.toNat))) S else .bad from rfl,if_pos h]
theorem Fb {i j:Int} (h1:-(2 ^ 64) < j) (h2:j < 2 ^ 64):jf i j:=.inr ⟨h1,h2⟩
theorem Br {S:Sto}:mkT [] S=.ok (.d (.tup [])) S:=ai rfl
theorem Co {S:Sto}:mkL [] S=.ok (.d (.lst [])) S:=ai rfl
theorem Dp {S:Sto}:mkM [] S=.ok (.r S.length) (S++[.lst []]):=ai rfl
theorem Bh {a:D} {S:Sto}:mkT [.d a] S=.ok (.d (.tup [a])) S:=ai rfl
theorem BO {a:D} {S:Sto}:mkL [.d a] S=.ok (.d (.lst [a])) S:=ai rfl
theorem CI {a:D} {S:Sto}:mkM [.d a] S=.ok (.r S.length) (S++[.lst [a]]):=ai rfl
theorem AV {a b:D} {S:Sto}:mkT [.d a,.d b] S=.ok (.d (.tup [a,b])) S:=ai rfl
theorem Cz {a b:D} {S:Sto}:mkL [.d a,.d b] S=.ok (.d (.lst [a,b])) S:=ai rfl
theorem Ds {a b:D} {S:Sto}:mkM [.d a,.d b] S=.ok (.r S.length) (S++[.lst [a,b]]):=ai rfl
theorem Ca {a b c:D} {S:Sto}:mkT [.d a,.d b,.d c] S=.ok (.d (.tup [a,b,c])) S:=ai rfl
theorem CK {a b c:D} {S:Sto}:mkL [.d a,.d b,.d c] S=.ok (.d (.lst [a,b,c])) S:=ai rfl
theorem CC {a b c:D} {S:Sto}:mkM [.d a,.d b,.d c] S=.ok (.r S.length) (S++[.lst [a,b,c]]):=ai rfl
theorem C6 {a b c d:D} {S:Sto}:mkT [.d a,.d b,.d c,.d d] S=.ok (.d (.tup [a,b,c,d])) S:=ai rfl
theorem Bx {a b c d:D} {S:Sto}:mkL [.d a,.d b,.d c,.d d] S=.ok (.d (.lst [a,b,c,d])) S:=ai rfl
theorem AN {a b c d e:D} {S:Sto}:mkT [.d a,.d b,.d c,.d d,.d e] S=.ok (.d (.tup [a,b,c,d,e])) S:=ai rfl
theorem AH {a b c d e:D} {S:Sto}:mkL [.d a,.d b,.d c,.d d,.d e] S=.ok (.d (.lst [a,b,c,d,e])) S:=ai rfl
theorem CP {a b c d e f:D} {S:Sto}:mkT [.d a,.d b,.d c,.d d,.d e,.d f] S=.ok (.d (.tup [a,b,c,d,e,f])) S:=ai rfl
theorem Bk {a b c d e f:D} {S:Sto}:mkL [.d a,.d b,.d c,.d d,.d e,.d f] S=.ok (.d (.lst [a,b,c,d,e,f])) S:=ai rfl
theorem Bd {a b c d e f g:D} {S:Sto}:mkT [.d a,.d b,.d c,.d d,.d e,.d f,.d g] S=.ok (.d (.tup [a,b,c,d,e,f,g])) S:=ai rfl
theorem Dj {a b c d e f g:D} {S:Sto}:mkL [.d a,.d b,.d c,.d d,.d e,.d f,.d g] S=.ok (.d (.lst [a,b,c,d,e,f,g])) S:=ai rfl
theorem B2 {a b c d e f g h:D} {S:Sto}:mkT [.d a,.d b,.d c,.d d,.d e,.d f,.d g,.d h] S=.ok (.d (.tup [a,b,c,d,e,f,g,h])) S:=ai rfl
theorem CJ {a b c d e f g h:D} {S:Sto}:mkL [.d a,.d b,.d c,.d d,.d e,.d f,.d g,.d h] S=.ok (.d (.lst [a,b,c,d,e,f,g,h])) S:=ai rfl
theorem Cd {a b c d e f g h i:D} {S:Sto}:mkT [.d a,.d b,.d c,.d d,.d e,.d f,.d g,.d h,.d i] S=.ok (.d (.tup [a,b,c,d,e,f,g,h,i])) S:=ai rfl
theorem Cs {a b c d e f g h i:D} {S:Sto}:mkL [.d a,.d b,.d c,.d d,.d e,.d f,.d g,.d h,.d i] S=.ok (.d (.lst [a,b,c,d,e,f,g,h,i])) S:=ai rfl
theorem yV {a b c d e f g h i j:D} {S:Sto}:mkT [.d a,.d b,.d c,.d d,.d e,.d f,.d g,.d h,.d i,.d j] S=.ok (.d (.tup [a,b,c,d,e,f,g,h,i,j])) S:=ai rfl
theorem zS {a b c d e f g h i j:D} {S:Sto}:mkL [.d a,.d b,.d c,.d d,.d e,.d f,.d g,.d h,.d i,.d j] S=.ok (.d (.lst [a,b,c,d,e,f,g,h,i,j])) S:=ai rfl
theorem Af {a b c d e f g h i j k:D} {S:Sto}:mkT [.d a,.d b,.d c,.d d,.d e,.d f,.d g,.d h,.d i,.d j,.d k] S=.ok (.d (.tup [a,b,c,d,e,f,g,h,i,j,k])) S:=ai rfl
theorem Av {a b c d e f g h i j k:D} {S:Sto}:mkL [.d a,.d b,.d c,.d d,.d e,.d f,.d g,.d h,.d i,.d j,.d k] S=.ok (.d (.lst [a,b,c,d,e,f,g,h,i,j,k])) S:=ai rfl
theorem zA {a b c d e f g h i j k l:D} {S:Sto}:mkT [.d a,.d b,.d c,.d d,.d e,.d f,.d g,.d h,.d i,.d j,.d k,.d l] S=.ok (.d (.tup [a,b,c,d,e,f,g,h,i,j,k,l])) S:=ai rfl
theorem zP {a b c d e f g h i j k l:D} {S:Sto}:mkL [.d a,.d b,.d c,.d d,.d e,.d f,.d g,.d h,.d i,.d j,.d k,.d l] S=.ok (.d (.lst [a,b,c,d,e,f,g,h,i,j,k,l])) S:=ai rfl
theorem rJ {o x:Ob} {R:Sto}:(o :: (R++[x]))[R.length+1]?=some x:=by simp
theorem xY {x:Ob} {R:Sto}:(R++[x])[R.length]?=some x:=by simp
theorem wC {x y:Ob} {R:Sto}:(R++[x]).set R.length y=R++[y]:=by simp
theorem wq {x y:Ob} {R:Sto}:(R++[x,y])[R.length]?=some x:=by simp
theorem xw {x y z:Ob} {R:Sto}:(R++[x,y]).set R.length z=R++[z,y]:=by simp
theorem w6 {x y:Ob} {R:Sto}:(R++[x,y])[R.length+1]?=some y:=by simp
theorem xB {x y z:Ob} {R:Sto}:(R++[x,y]).set (R.length+1) z=R++[x,z]:=by simp
theorem uV (ns:List Int):(ns.map D.int).all D.flat=true:=by rw [List.all_map];exact List.all_eq_true.mpr fun _ _=>rfl
theorem zh (w:Int) (ns:List Int):inD (.int w) (ns.map D.int)=decide (w∈ns):=by
 unfold inD
 rw [List.any_map,Bool.eq_iff_iff,List.any_eq_true,decide_eq_true_eq]
 constructor
 ·rintro ⟨x,hx,e⟩
  have e':(x == w)=true:=e
  rw [← (beq_iff_eq.mp e')];exact hx
 ·intro h
  exact ⟨w,h,by show (w == w)=true;simp⟩
theorem yz {n:Nat} {S:Sto} {xs:List D} (e:S[n]?=some (.lst xs)):b7 (.r n) S=some xs:=by unfold b7 da;dsimp only;rw [e]
theorem gL {w:Int} {y:Vl} {S:Sto} {ns:List Int} (h:b7 y S=some (ns.map D.int)):inX (.d (.int w)) y S=some (decide (w∈ns)):=by
 unfold inX
 dsimp only
 rw [h]
 dsimp only
 rw [show D.flat (.int w)=true from rfl,uV,if_pos (by rfl),zh]
theorem yv {w:Int} {ns:List Int} {S:Sto}:oIn (.d (.int w)) (.d (.tup (ns.map D.int))) S=.ok (.d (.bl (decide (w∈ns)))) S:=by unfold oIn;rw [gL (ns:=ns) rfl]
theorem uM {w:Int} {ns:List Int} {S:Sto}:dN (.d (.int w)) (.d (.tup (ns.map D.int))) S=.ok (.d (.bl (!decide (w∈ns)))) S:=by unfold dN;rw [gL (ns:=ns) rfl]
theorem Dw {w:Int} {ns:List Int} {S:Sto}:oIn (.d (.int w)) (.d (.lst (ns.map D.int))) S=.ok (.d (.bl (decide (w∈ns)))) S:=by unfold oIn;rw [gL (ns:=ns) rfl]
theorem AX {w:Int} {ns:List Int} {S:Sto}:dN (.d (.int w)) (.d (.lst (ns.map D.int))) S=.ok (.d (.bl (!decide (w∈ns)))) S:=by unfold dN;rw [gL (ns:=ns) rfl]
theorem Bo {w:Int} {ns:List Int} {n:Nat} {S:Sto} (e:S[n]?=some (.lst (ns.map D.int))):dN (.d (.int w)) (.r n) S=.ok (.d (.bl (!decide (w∈ns)))) S:=by unfold dN;rw [gL (yz e)]
theorem t9 {n:Nat} {xs:List D} {z:D} {S:Sto} (h:xs.length < 100000):j9 n xs z S=.ok (.d .non) (S.set n (.lst (xs++[z]))):=by unfold j9;rw [if_pos h]
theorem uN {n:Nat} {xs ys:List D} {S:Sto} (h:xs.length+ys.length≤100000):l6 n xs (.lst ys) S=.ok (.d .non) (S.set n (.lst (xs++ys))):=by unfold l6;dsimp only;rw [if_pos h]
theorem Ax {x:Vl} {S:Sto} {ns:List Int} (e:b7 x S=some (ns.map D.int)) (h:ns.length < 64):kQ [x] S=.ok (.d (.lst ((sortI ns).map D.int))) S:=by
 unfold kQ
 dsimp only
 rw [e,Option.bind_some,jo]
 dsimp only
 rw [if_pos h]
theorem Ak {n:Nat} {S:Sto} {ns:List Int} (e:S[n]?=some (.lst (ns.map D.int))) (h:ns.length < 64):kQ [.r n] S=.ok (.d (.lst ((sortI ns).map D.int))) S:=Ax (yz e) h
theorem tU {x:Vl} {S:Sto} {ns:List Int} (e:b7 x S=some (ns.map D.int)) (h:ns.length≤300):oLS x S=.ok (.d (.int (bZ ns).length)) S:=by
 unfold oLS
 rw [e,Option.bind_some,jo]
 dsimp only
 rw [if_pos h]
theorem l4 (x:Int):∀ ys,(gW x ys).length≤ys.length+1
 | []=>by simp [gW]
 | y :: ys=>by
  unfold gW
  split
  ·simp
  ·split
   ·simp
   ·have:=l4 x ys
    simp
    omega
theorem kr:∀ xs,(bZ xs).length≤xs.length
 | []=>by simp [bZ]
 | x :: xs=>by
  have:=l4 x (bZ xs)
  have:=kr xs
  rw [bZ,List.length_cons]
  omega
theorem jL (ns:List Int):(sortI ns).length=ns.length:=(sortI_perm ns).length_eq
theorem nD (ns:List Int) (z:Int):z∈sortI ns↔z∈ns:=(sortI_perm ns).mem_iff
theorem pW {ns:List Int} (h:ns.Nodup):(sortI ns).Pairwise (· < ·):=((i6 ns).and ((sortI_perm ns).nodup_iff.mpr h)).imp fun z=>by have:=z.1;have:=z.2;omega
theorem uP {ds:List D} {bs:List Bool} {S:Sto} (h:fI ds=some bs):eD [.d (.lst ds)] S=.ok (.d (.bl (bs.all id))) S:=by
 unfold eD
 dsimp only
 rw [show da (.d (.lst ds)) S=some ds from rfl,Option.bind_some,h]
theorem rT {α:Type} (f:α→Bool):∀ l:List α,fI (l.map fun x=>D.bl (f x))=some (l.map f)
 | []=>rfl
 | x :: l=>by simp [fI,rT f l]
theorem pX {α:Type} (f:α→Int):∀ l:List α,intsOf (l.map fun x=>D.int (f x))=some (l.map f)
 | []=>rfl
 | x :: l=>by simp [intsOf,pX f l]
theorem uH {α:Type} {f:α→Bool} {l:List α} {S:Sto}:eD [.d (.lst (l.map fun x=>D.bl (f x)))] S=.ok (.d (.bl (l.all f))) S:=by rw [uP (rT f l),List.all_map];rfl
theorem Cc {j:Int} {S:Sto} (h:0≤j∧j≤1000):lrg xD [.d (.int j)] S=.ok (.r S.length) (S++[.lst ((List.range j.toNat).map fun i=>D.int (i:Nat))]):=by
 unfold lrg
 dsimp only
 rw [if_pos h]
 rfl
theorem yu {n:Nat} {xs:List D} {i:Int} {y:D} {S:Sto} (h:0≤i∧i < 2 ^ 63) (e:xs[i.toNat]?=some y):mS n xs (.int i) S=.ok (.d y) (S.set n (.lst (xs.eraseIdx i.toNat))):=by
 unfold mS
 dsimp only
 rw [if_pos h,e]
theorem yq {it:XI} {t:XT} {e:XE} {τ:Nv} {S:Sto} {r:R Vl} (hC:xLC it 1 (gNm 0) t e τ S=r) {S1:Sto} {items:List Vl} (hit:it τ S=.ok ⟨items,none⟩ S1) (J:Nat→List D→Sto→Prop) (h0:J 0 [] S1)
  (hs:∀ i z acc Q,items[i]?=some z→J i acc Q→Q.length=S1.length→∃ b Q1,t (some z :: τ) (Q++[.lst acc])=.ok b (Q1++[.lst acc])∧Q1.length=S1.length ∧
   (b=true→∃ x Q2,e (some z :: τ) (Q1++[.lst acc])=.ok (.d x) (Q2++[.lst acc])∧Q2.length=S1.length∧J (i+1) (acc++[x]) Q2)∧(b=false→J (i+1) acc Q1)) :
  ∃ acc Q,r=.ok (.d (.lst acc)) Q∧Q.length=S1.length∧J items.length acc Q:=by
 obtain ⟨acc,Q,e1,h⟩:=vN (t:=t) (e:=e) hit J h0 hs
 exact ⟨acc,Q,hC.symm.trans e1,h⟩
theorem kB {it:XI} {e:XE} {τ:Nv} {S:Sto} {r:R Vl} (hC:xLC it 1 (gNm 0) (fun _ S=>.ok true S) e τ S=r) {S1:Sto} {items:List Vl} (hit:it τ S=.ok ⟨items,none⟩ S1) (J:Nat→List D→Sto→Prop) (h0:J 0 [] S1)
  (hs:∀ i z acc Q,items[i]?=some z→J i acc Q→Q.length=S1.length→∃ x Q2,e (some z :: τ) (Q++[.lst acc])=.ok (.d x) (Q2++[.lst acc])∧Q2.length=S1.length∧J (i+1) (acc++[x]) Q2) :
  ∃ acc Q,r=.ok (.d (.lst acc)) Q∧Q.length=S1.length∧J items.length acc Q:=
 yq hC hit J h0 fun i z acc Q hz hJ hl=>⟨true,Q,rfl,hl,fun _=>hs i z acc Q hz hJ hl,fun z=>(by cases z)⟩
theorem mV {e:XE} {a:XE} {τ:Nv} {S S1:Sto} {r:R Vl} (hC:xLC (cv a) 1 (gNm 0) (fun _ S=>.ok true S) e τ S=r) {xs:List D} (ha:a τ S=.ok (.d (.tup xs)) S1) (f:D→D) (hs:∀ x∈xs,∀ S:Sto,e (some (.d x) :: τ) S=.ok (.d (f x)) S):r=.ok (.d (.lst (xs.map f))) S1:=by
 rw [← hC,oR (items:=xs.map Vl.d) (S1:=S1) (by rw [mC,ha,qa]) (fun z=>match z with | .d x=>f x | _=>.non) (by
  intro z hz S
  obtain ⟨x,hx,rfl⟩:=List.mem_map.mp hz
  exact hs x hx S)]
 rw [List.map_map]
 rfl
theorem zX {e:XE} {a:XE} {τ:Nv} {S S1:Sto} {r:R Vl} (hC:xLC (cv a) 1 (gNm 0) (fun _ S=>.ok true S) e τ S=r) {xs:List D} (ha:a τ S=.ok (.d (.lst xs)) S1) (f:D→D) (hs:∀ x∈xs,∀ S:Sto,e (some (.d x) :: τ) S=.ok (.d (f x)) S):r=.ok (.d (.lst (xs.map f))) S1:=by
 rw [← hC,oR (items:=xs.map Vl.d) (S1:=S1) (by rw [mC,ha,pG]) (fun z=>match z with | .d x=>f x | _=>.non) (by
  intro z hz S
  obtain ⟨x,hx,rfl⟩:=List.mem_map.mp hz
  exact hs x hx S)]
 rw [List.map_map]
 rfl
theorem fe {it:XI} {g:XG} {b:XS} {τ:Nv} {S:Sto} {r:R (Fl×Nv)} (hL:dR it g b τ S=r) {S1:Sto} {items:List Vl} {gd:Option (Nat×Ob)} (hit:it τ S=.ok ⟨items,gd⟩ S1) (I:Nat→Nv→Sto→Prop) (h0:I 0 τ S1)
  (hs:∀ i z τ S,items[i]?=some z→I i τ S→∃ τ1 S1 fl τ2 S2,g z τ S=.ok τ1 S1∧b τ1 S1=.ok (fl,τ2) S2∧(fl=.nx∨fl=.ct)∧gok gd S2∧I (i+1) τ2 S2):∃ τ' S',r=.ok (.nx,τ') S'∧I items.length τ' S':=by
 obtain ⟨τ',S',e,h⟩:=pT (g:=g) (b:=b) (gd:=gd) I h0 hs
 refine ⟨τ',S',?_,h⟩
 rw [← hL,pN,hit,tT]
 exact e
theorem o9 {g:XG} {b:XS} {gd:Option (Nat×Ob)} (Pr:Vl→Sto→Prop):∀ {items:List Vl} {τ:Nv} {S:Sto} (I:Nat→Nv→Sto→Prop),I 0 τ S →
  (∀ i z τ S,items[i]?=some z→I i τ S→∃ τ1 S1 fl τ2 S2,g z τ S=.ok τ1 S1∧b τ1 S1=.ok (fl,τ2) S2∧(((fl=.nx∨fl=.ct)∧gok gd S2∧I (i+1) τ2 S2)∨∃ v,fl=.rt v∧Pr v S2)) →
  (∃ τ' S',cE g b gd items τ S=.ok (.nx,τ') S'∧I items.length τ' S')∨∃ v τ' S',cE g b gd items τ S=.ok (.rt v,τ') S'∧Pr v S'
 | [],τ,S,I,h0,_=>.inl ⟨τ,S,rfl,h0⟩
 | z :: zs,τ,S,I,h0,hs=>by
  obtain ⟨τ1,S1,fl,τ2,S2,e1,e2,h⟩:=hs 0 z τ S rfl h0
  rcases h with ⟨hf,hg,hI⟩ | ⟨v,rfl,hv⟩
  ·have st:cE g b gd (z :: zs) τ S=cE g b gd zs τ2 S2:=by
    rw [cE,e1,bx,e2,bx]
    rcases hf with rfl | rfl
    ·dsimp only;rw [if_pos hg]
    ·dsimp only;rw [if_pos hg]
   rw [st]
   exact o9 Pr (items:=zs) (fun i=>I (i+1)) hI fun i z' τ S hz hi=>hs (i+1) z' τ S (by simpa using hz) hi
  ·refine .inr ⟨v,τ2,S2,?_,hv⟩
   rw [cE,e1,bx,e2,bx]
theorem nh {it:XI} {g:XG} {b:XS} {τ:Nv} {S:Sto} {r:R (Fl×Nv)} (hL:dR it g b τ S=r) (Pr:Vl→Sto→Prop) {S1:Sto} {items:List Vl} {gd:Option (Nat×Ob)} (hit:it τ S=.ok ⟨items,gd⟩ S1) (I:Nat→Nv→Sto→Prop) (h0:I 0 τ S1)
  (hs:∀ i z τ S,items[i]?=some z→I i τ S→∃ τ1 S1 fl τ2 S2,g z τ S=.ok τ1 S1∧b τ1 S1=.ok (fl,τ2) S2∧(((fl=.nx∨fl=.ct)∧gok gd S2∧I (i+1) τ2 S2)∨∃ v,fl=.rt v∧Pr v S2)) :
  (∃ τ' S',r=.ok (.nx,τ') S'∧I items.length τ' S')∨∃ v τ' S',r=.ok (.rt v,τ') S'∧Pr v S':=by
 have q:=o9 (g:=g) (b:=b) (gd:=gd) Pr I h0 hs
 have e:r=cE g b gd items τ S1:=by rw [← hL,pN,hit,tT]
 rw [e]
 exact q
theorem kK {n:Nat} {i:Nat} {z:Vl} (h:((List.range n).map fun i=>Vl.d (.int (i:Nat)))[i]?=some z):i < n∧z=.d (.int i):=by
 have hi:i < n:=by simpa using (List.getElem?_eq_some_iff.mp h).1
 rw [List.getElem?_map,List.getElem?_range hi] at h
 exact ⟨hi,(Option.some.inj h).symm⟩
theorem nc {n:Nat}:((List.range n).map fun i=>Vl.d (.int (i:Nat))).length=n:=by simp
theorem gO {α β:Type} {f:α→β} {l:List α} {x:α}:(l++[x]).map f=l.map f++[f x]:=by rw [List.map_append];rfl
end L2
namespace L2
open PySem PySem.Spec PyProof.Rows ZS
def dk (xs ys:List D):List Vl:=List.zipWith (fun x y=>Vl.d (.tup [x,y])) xs ys
theorem jj {xs ys:List D}:(dk xs ys).length=min xs.length ys.length:=by simp [dk]
theorem iY {xs ys:List D} {i:Nat} {z:Vl} (h:(dk xs ys)[i]?=some z):∃ x y,xs[i]?=some x∧ys[i]?=some y∧z=.d (.tup [x,y]):=by
 unfold dk at h
 rw [List.getElem?_zipWith] at h
 cases q:xs[i]? with
 | none=>rw [q] at h;cases h
 | some x=>
  cases q2:ys[i]? with
  | none=>rw [q,q2] at h;cases h
  | some y=>rw [q,q2] at h;cases h;exact ⟨x,y,rfl,rfl,rfl⟩
def Cf (zs:List Vl) (S:Sto):R Its:=match zs with
 | [.d (.tup xs),.d (.tup ys)]=>.ok ⟨dk xs ys,none⟩ S
 | [.d (.lst xs),.d (.tup ys)]=>.ok ⟨dk xs ys,none⟩ S
 | _=>.bad
def iZp (as:XA):XI:=fun τ S=>(as τ S).bind Cf
section
variable {X:Cx} {WE:WX} {K:PySem.W.Frag} {mg:Str→Option Value} {μ:Nat→Addr} {S:Sto} {H:Hp}
theorem A5 {t u:Addr} {vs us:List V} {xs ys:List D} (g:vh μ S H t=some (.tup vs)) (rs:ax (vh μ S H) vs xs) (g2:vh μ S H u=some (.tup us)) (rs2:ax (vh μ S H) us ys) (hz:vs.length≤sizeLine):fB K mg μ S H (Itz t u) ⟨dk xs ys,none⟩ where
 ok:=True.intro
 len:=by show (dk xs ys).length≤sizeLine;rw [jj];rw [rs.length] at hz;omega
 go:=fun i z μ' S' H' st _ e=>by
  obtain ⟨x,y,e1,e2,_⟩:=iY e
  obtain ⟨a,q1,_⟩:=rs.get' e1
  obtain ⟨b,q2,_⟩:=rs2.get' e2
  exact ⟨vs,us,a,b,(aT (st.vis _ _ g)).2,(aT (st.vis _ _ g2)).2,q1,q2⟩
 yld:=fun i z μ' S' H' v H2 st _ e yy=>by
  obtain ⟨p,a,b,hp,rfl,rfl,y1,y2⟩:=yy
  obtain ⟨x,y,e1,e2,rfl⟩:=iY e
  have q1:=y1 vs (aT (st.vis _ _ g)).2
  have q2:=y2 us (aT (st.vis _ _ g2)).2
  obtain ⟨x',e3,r1⟩:=rs.get q1
  obtain ⟨y',e4,r2⟩:=rs2.get q2
  rw [e1] at e3;cases e3
  rw [e2] at e4;cases e4
  have st2:=Step.new st.hr hp (.tup [a,b])
  exact ⟨st2,Rep.tup (bO bJ (st.hr.nal hp)) (.cons (Rep.mono (st.trans st2).vis r1) (.cons (Rep.mono (st.trans st2).vis r2) .nil))⟩
 stop:=fun i μ' S' H' st _ hi=>by
  replace hi:(dk xs ys).length=i:=hi
  rw [jj] at hi
  have l1:=rs.length
  have l2:=rs2.length
  exact ⟨vs,us,(aT (st.vis _ _ g)).2,(aT (st.vis _ _ g2)).2,by omega,by omega,by omega⟩
end
def xLf (f:List D→D→Sto→R Vl) (o e:XE):XE:=fun τ S=>(o τ S).bind fun x S1=>match x with
 | .d (.lst xs)=>(e τ S1).bind fun y S2=>(match y with
  | .d z=>f xs z S2
  | _=>.bad)
 | _=>.bad
def A1 (xs:List D) (z:D) (S:Sto):R Vl:=match z,intsOf xs with
 | .int k,some ns=>.ok (.d (.int (ns.count k:Nat))) S
 | _,_=>.bad
def Fp (xs:List Vl) (S:Sto):R Vl:=match xs with
 | [.d (.int i)]=>.ok (.d (.int i)) S
 | [.d (.bl k)]=>.ok (.d (.int (if k then 1 else 0))) S
 | _=>.bad
theorem BW {k:Bool} {S:Sto}:Fp [.d (.bl k)] S=.ok (.d (.int (if k then 1 else 0))) S:=ai rfl
def fX:D→Option Key
 | .int i=>some (.inl i)
 | .str x=>some (.inr x)
 | _=>none
def gu (x:Vl) (S:Sto):Option (List (Key×D)):=match x with
 | .fd kvs=>some kvs
 | .r n=>(match S[n]? with
  | some (.dct kvs)=>some kvs
  | _=>none)
 | _=>none
def eg (kvs:List (Key×D)) (k:Key):Option D:=(kvs.find? fun kv=>decide (kv.1=k)).map (·.2)
def putD (kvs:List (Key×D)) (k:Key) (v:D):List (Key×D):=
 if (kvs.any fun kv=>decide (kv.1=k))=true then kvs.map (fun kv=>if kv.1=k then (kv.1,v) else kv) else kvs++[(k,v)]
section
variable {G:Hp}
theorem jn {p:Key×D} {r:List (Key×D)} {k:Key} (e:p.1=k):eg (p :: r) k=some p.2:=by simp [eg,List.find?_cons,e]
theorem hU {p:Key×D} {r:List (Key×D)} {k:Key} (e:¬p.1=k):eg (p :: r) k=eg r k:=by simp [eg,List.find?_cons,e]
theorem mO (k:Key):∀ {kvs:List (Key×D)} {vs:List V},ax G vs (kvs.map (·.2))→(eg kvs k=none∧fV ((kvs.map (·.1)).zip vs) k=none)∨∃ d v,eg kvs k=some d∧fV ((kvs.map (·.1)).zip vs) k=some v∧Rep G v d
 | [],_,.nil=>.inl ⟨rfl,rfl⟩
 | p :: r,_,.cons (v:=v) (vs:=vs) h t=>by
  by_cases e:p.1=k
  ·exact .inr ⟨p.2,v,jn e,ja (p:=(p.1,v)) e,h⟩
  ·rcases mO k (kvs:=r) t with ⟨h1,h2⟩ | ⟨d,u,h1,h2,h3⟩
   ·exact .inl ⟨by rw [hU e];exact h1,(hV (p:=(p.1,v)) e).trans h2⟩
   ·exact .inr ⟨d,u,by rw [hU e];exact h1,(hV (p:=(p.1,v)) e).trans h2,h3⟩
theorem vC (k:Key):∀ {kvs:List (Key×D)} {vs:List V},ax G vs (kvs.map (·.2))→(((kvs.map (·.1)).zip vs).any fun kv=>decide (kv.1=k))=kvs.any fun kv=>decide (kv.1=k)
 | [],_,.nil=>rfl
 | p :: r,_,.cons h t=>by
  rw [List.map_cons,List.zip_cons_cons,List.any_cons,List.any_cons,vC k (kvs:=r) t]
theorem vQ (k:Key) {v:V} {d:D} (rv:Rep G v d):∀ {kvs:List (Key×D)} {vs:List V},ax G vs (kvs.map (·.2))→∃ ws,ws.length=kvs.length ∧
  ((kvs.map (·.1)).zip vs).map (fun kv=>if kv.1=k then (kv.1,v) else kv)=((kvs.map fun kv=>if kv.1=k then (kv.1,d) else kv).map (·.1)).zip ws∧ax G ws ((kvs.map fun kv=>if kv.1=k then (kv.1,d) else kv).map (·.2))
 | [],_,.nil=>⟨[],rfl,rfl,.nil⟩
 | p :: r,_,.cons (v:=u) (vs:=us) h t=>by
  obtain ⟨ws,l,e,rs⟩:=vQ k rv (kvs:=r) t
  by_cases q:p.1=k
  ·refine ⟨v :: ws,by simp [l],?_,?_⟩
   ·rw [List.map_cons,List.zip_cons_cons,List.map_cons,e,List.map_cons,List.map_cons,List.zip_cons_cons,if_pos q,if_pos q]
   ·rw [List.map_cons,List.map_cons,if_pos q];exact .cons rv rs
  ·refine ⟨u :: ws,by simp [l],?_,?_⟩
   ·rw [List.map_cons,List.zip_cons_cons,List.map_cons,e,List.map_cons,List.map_cons,List.zip_cons_cons,if_neg q,if_neg q]
   ·rw [List.map_cons,List.map_cons,if_neg q];exact .cons h rs
theorem uf (k:Key) {v:V} {d:D} (rv:Rep G v d) {kvs:List (Key×D)} {vs:List V} (rs:ax G vs (kvs.map (·.2))):∃ ws,ws.length=(putD kvs k d).length ∧
  putK ((kvs.map (·.1)).zip vs) k v=((putD kvs k d).map (·.1)).zip ws∧ax G ws ((putD kvs k d).map (·.2)):=by
 unfold putK putD
 rw [vC k rs]
 by_cases a:(kvs.any fun kv=>decide (kv.1=k))=true
 ·rw [if_pos a,if_pos a]
  obtain ⟨ws,l,e,r⟩:=vQ k rv rs
  exact ⟨ws,by simp [l],e,r⟩
 ·rw [if_neg a,if_neg a]
  have lv:vs.length=kvs.length:=by have:=rs.length;simpa using this
  refine ⟨vs++[v],by simp [lv],?_,?_⟩
  ·rw [List.map_append,List.zip_append (by simp [lv])]
   rfl
  ·rw [List.map_append];exact rs.append (.cons rv .nil)
theorem iS {G:Hp} {v:V} {x:D} {k:Key} (r:Rep G v x) (e:fX x=some k):v=kV k:=by
 unfold fX at e
 split at e
 ·cases e;cases r;rfl
 ·cases e;cases r;rfl
 ·cases e
end
section
variable {K:PySem.W.Frag} {mg:Str→Option Value} {μ:Nat→Addr} {S:Sto} {H:Hp} {v:V} {x:Vl} {kvs:List (Key×D)} {WE:WX} {Q:VK}
theorem l8 (hr:HR μ S H) (r:ba K mg μ S H v x) (e:gu x S=some kvs):∃ a vs,v=.ref a∧Rd H a (.dK ((kvs.map (·.1)).zip vs))∧ax (vh μ S H) vs (kvs.map (·.2)):=by
 unfold gu at e
 split at e
 ·cases e
  obtain ⟨a,vs,o,rfl,l,h,rs⟩:=r
  exact ⟨a,vs,rfl,.inr ⟨o,(aT h).2⟩,rs⟩
 ·split at e
  ·rename_i q
   cases e
   obtain ⟨rfl,hn⟩:=r
   obtain ⟨vs,l,h,rs⟩:=hr.ob _ _ q
   exact ⟨_,vs,rfl,.inl h,rs⟩
  ·cases e
 ·cases e
end
def oDx (x y:Vl) (S:Sto):R Vl:=match y with
 | .d yd=>(match fX yd,gu x S with
  | some k,some kvs=>(match eg kvs k with
   | some z=>.ok (.d z) S
   | none=>.bad)
  | _,_=>.bad)
 | _=>.bad
def oN (x y:Vl) (S:Sto):Option Bool:=match x with
 | .d xd=>(match fX xd,gu y S with
  | some k,some kvs=>some (eg kvs k).isSome
  | _,_=>none)
 | _=>none
def qF (x y:Vl) (S:Sto):R Vl:=match oN x y S with
 | some b=>.ok (.d (.bl b)) S
 | none=>.bad
def sX:XE:=fun _ S=>.ok (.r S.length) (S++[.dct []])
def oP (o i e:XE):XS:=fun τ S=>(e τ S).bind fun z S1=>(o τ S1).bind fun x S2=>(i τ S2).bind fun y S3=>match x,y,z with
 | .r n,.d yd,.d zd=>(match fX yd,S3[n]? with
  | some k,some (.dct kvs)=>if kvs.length < 100000 then .ok (.nx,τ) (S3.set n (.dct (putD kvs k zd))) else .bad
  | _,_=>.bad)
 | _,_,_=>.bad
def oE (d k e:XE):XE:=fun τ S=>(d τ S).bind fun x S1=>if (gu x S1).isSome=true then (k τ S1).bind fun y S2=>(e τ S2).bind fun z S3=>(match y,z with
 | .d yd,.d zd=>(match fX yd,gu x S3 with
  | some k,some kvs=>.ok (.d ((eg kvs k).getD zd)) S3
  | _,_=>.bad)
 | _,_=>.bad) else .bad
section
variable {X:Cx} {WE:WX} {a b c e:Expr} {xa xb xc xe:XE} {pos:Pos}
theorem yD (hu:X.A.units+64 < cLine) (ha:RE X WE a xa) (hb:RE X WE b xb) (hs:we b:=by exact fun _ _=>rfl):RE X WE (.Subscript a b pos) (xOp oDx xa xb):=
 ⟨(zU (by omega) ha.h hb.h hs).weak fun σ H Q h=>by
  refine (two (X:=X) (r:=fun x y H2 Q=>∃ a v,x=.ref a∧jK H2 a y (some v)∧Q v H2) ?_ h:_)
  intro WE μ S H v w x y Q hr rx ry p
  unfold oDx at p
  split at p
  ·split at p
   ·rename_i k kvs hk hd
    obtain ⟨a,vs,rfl,rd,rs⟩:=l8 hr rx hd
    split at p
    ·rename_i z hz
     rcases mO k rs with ⟨h1,_⟩ | ⟨d,u,h1,h2,h3⟩
     ·rw [h1] at hz;cases hz
     ·rw [h1] at hz;cases hz
      rw [iS ry hk]
      exact ⟨a,u,rfl,.inl ⟨_,k,rd,rfl,h2.symm⟩,p.here hr h3⟩
    ·exact p.elim
   ·exact p.elim
  ·exact p.elim⟩
def wB (neg:Bool):R2:=fun y x H Q=>∃ a o,x=.ref a∧jK H a y o∧Q (.bl (if neg then !o.isSome else o.isSome)) H
theorem AM (hu:X.A.units+64 < cLine):OpR X (compareOp .In) (wB false):=by
 intro pins s σ H x y u v Q I rx ry ⟨a,o,e,g,q⟩
 subst e
 obtain rfl:v=Value.ref a:=ry
 exact FI (by omega) I g rx fun s' I'=>⟨_,H,I',(show RelV (.bl _) _ from rfl),q⟩
theorem BR {K:PySem.W.Frag} {mg:Str→Option Value} {μ:Nat→Addr} {S:Sto} {H:Hp} {v w:V} {x y:Vl} {k neg:Bool} {Q:VK} (hr:HR μ S H) (rx:ba K mg μ S H v x) (ry:ba K mg μ S H w y) (e:oN x y S=some k) (q:Q (.bl (if neg then !k else k)) H):wB neg v w H Q:=by
 unfold oN at e
 split at e
 ·split at e
  ·rename_i key kvs hk hd
   cases e
   obtain ⟨a,vs,rfl,rd,rs⟩:=l8 hr ry hd
   rw [iS rx hk]
   refine ⟨a,_,rfl,.inl ⟨_,key,rd,rfl,rfl⟩,?_⟩
   rcases mO key rs with ⟨h1,h2⟩ | ⟨d,u,h1,h2,_⟩
   ·rw [h2];rw [h1] at q;exact q
   ·rw [h2];rw [h1] at q;exact q
  ·cases e
 ·cases e
theorem zk {K:PySem.W.Frag} {mg:Str→Option Value}:cG K mg (wB false) qF:=by
 intro WE μ S H v w x y Q hr rx ry p
 unfold qF at p
 split at p
 ·exact BR hr rx ry ‹_› (p.here hr (Rep.bl _))
 ·exact p.elim
theorem zO:RE X WE (.Dict [] [] pos) sX:=
 ⟨wz.weak fun σ H Q ⟨μ,S,τ,hr,sr,p⟩ q hq=>p _ _ _ (Step.alloc hr hq (ob:=.dct []) ⟨[],rfl,rfl,.nil⟩) ⟨by rw [cN],by simp⟩⟩
theorem y_ {pos':Pos} (hu:X.A.units+64 < cLine) (ho:RE X WE a xa) (hi:RE X WE b xb) (hv:RE X WE c xc) (hs:swapsWith c (some (.Subscript a b pos')) pos.line X.env=pure false:=by rfl) :
  RS X WE (.Assign [.Subscript a b pos'] c pos) (oP xa xb xc):=
 ⟨(yZ (by omega) ho.h hi.h hv.h hs).weak fun D σ H ⟨μ,S,τ,hr,sr,p⟩=>⟨μ,S,τ,hr,sr,p.bind fun w z S1 μ1 H1 st1 r1 p1=>⟨μ1,S1,τ,st1.hr,sr.step st1,p1.bind fun v x S2 μ2 H2 st2 r2 p2=>⟨μ2,S2,τ,st2.hr,sr.step (st1.trans st2),p2.bind fun u y S3 μ3 H3 st3 r3 p3=>by
  have rw':=r1.step (st2.trans st3)
  have rv:=r2.step st3
  try dsimp only at p3
  split at p3
  ·split at p3
   ·rename_i k kvs hk e
    split at p3
    ·rename_i hl
     obtain ⟨rfl,hn⟩:=rv
     obtain ⟨vs,l,h,rs⟩:=st3.hr.ob _ _ e
     rw [iS r3 hk]
     obtain ⟨ws,lw,e2,rs2⟩:=uf k rw' rs
     refine ⟨_,_,rfl,pC.k h ?_,?_⟩
     ·rw [List.length_zip,List.length_map,l,Nat.min_self]
      exact Nat.lt_of_lt_of_le hl (by rw [sizeLine_eq];decide)
     ·have st4:=Step.put st3.hr e (by simp) (ob:=.dct (putD kvs k _)) ⟨ws,lw,rfl,rs2⟩
      rw [← e2] at st4
      exact (show Ends.at D (FlV.nx,σ) _ from p3 (FlV.nx,σ) _ _ st4 ⟨sr.step (st1.trans (st2.trans (st3.trans st4))),True.intro⟩)
    ·exact p3.elim
   ·exact p3.elim
  ·exact p3.elim⟩⟩⟩⟩
theorem zg {apos cpos:Pos} (hu:X.A.units+64 < cLine) (hd:RE X WE a xa) (hk:RE X WE b xb) (he:RE X WE c xc)
  (m:M2 X a "get" apos b c cpos:=by exact ⟨rfl,rfl,rfl,rfl⟩):RE X WE (.Call (.Attribute a "get" apos) [b,c] [] cpos) (oE xa xb xc):=
 ⟨(wW (by omega) hd.h hk.h he.h m).weak fun σ H Q ⟨μ,S,τ,hr,sr,p⟩=>⟨μ,S,τ,hr,sr,p.bind fun v x S1 μ1 H1 st1 r1 p1=>by
  try dsimp only at p1
  split at p1
  ·rename_i hs
   obtain ⟨kvs,hd⟩:=Option.isSome_iff_exists.mp hs
   obtain ⟨a,vs,rfl,rd,rs⟩:=l8 st1.hr r1 hd
   refine ⟨a,rfl,.inl ⟨_,rd⟩,μ1,S1,τ,st1.hr,sr.step st1,p1.bind fun u y S2 μ2 H2 st2 r2 p2=>⟨μ2,S2,τ,st2.hr,sr.step (st1.trans st2),p2.bind fun w z S3 μ3 H3 st3 r3 p3=>?_⟩⟩
   try dsimp only at p3
   split at p3
   ·split at p3
    ·rename_i k kvs' hk hd'
     obtain ⟨a',vs',ea,rd',rs'⟩:=l8 st3.hr (r1.step (st2.trans st3)) hd'
     cases ea
     rw [iS (r2.step st3) hk]
     refine ⟨_,.inl ⟨_,k,rd',rfl,rfl⟩,?_⟩
     rcases mO k rs' with ⟨h1,h2⟩ | ⟨d,u,h1,h2,h3⟩
     ·rw [h2];rw [h1] at p3;exact p3.here st3.hr r3
     ·rw [h2];rw [h1] at p3;exact p3.here st3.hr h3
    ·exact p3.elim
   ·exact p3.elim
  ·exact p1.elim⟩⟩
end
def dW (kvs more:List (Key×D)):List (Key×D):=more.foldl (fun acc kv=>putD acc kv.1 kv.2) kvs
def trP (K:PySem.W.Frag) (mg:Str→Option Value) (WE:WX) (ms:List (XE×XE)):List (TE×TE):=ms.map fun m=>(trE K mg WE m.1,trE K mg WE m.2)
structure RP (X:Cx) (WE:WX) (pos:Pos) (ks:List (Option Expr)) (vs:List Expr) (ms:List (XE×XE)):Prop where
 h:PPs X pos ks vs (trP X.K X.mg WE ms)
section
variable {X:Cx} {WE:WX} {pos:Pos}
inductive tV (K:PySem.W.Frag) (mg:Str→Option Value) (μ:Nat→Addr) (S:Sto) (H:Hp):List (V×V)→List (Vl×Vl)→Prop
 | nil:tV K mg μ S H [] []
 | cons {v w:V} {x y:Vl} {vs:List (V×V)} {xs:List (Vl×Vl)}:ba K mg μ S H v x→ba K mg μ S H w y→tV K mg μ S H vs xs→tV K mg μ S H ((v,w) :: vs) ((x,y) :: xs)
theorem pd {G:Hp}:∀ {l kvs:List (Key×D)} {vs ws:List V},ax G vs (l.map (·.2))→ax G ws (kvs.map (·.2))→∃ us,us.length=(dW kvs l).length∧cM ((kvs.map (·.1)).zip ws) ((l.map (·.1)).zip vs)=((dW kvs l).map (·.1)).zip us∧ax G us ((dW kvs l).map (·.2))
 | [],kvs,_,ws,.nil,r=>⟨ws,by have:=r.length;simpa [dW] using this,rfl,r⟩
 | p :: l,kvs,_,ws,.cons (v:=v) (vs:=vs) h t,r=>by
  obtain ⟨us,lu,eu,ru⟩:=uf p.1 h r
  obtain ⟨us2,l2,e2,r2⟩:=pd (l:=l) (kvs:=putD kvs p.1 p.2) t ru
  refine ⟨us2,l2,?_,r2⟩
  rw [← eu] at e2
  exact e2
end
set_option maxRecDepth 100000
theorem uG (l:Addr) (items:Array Value):Meets (Builtin.«enumerate.__new__» ⟨[.type "enumerate",.ref l],[]⟩) (fun _ R s=>(∃ o,s.heap.get? l=some o∧o.cls=.type "tuple"∧∃ n,o.data=.seq items n) ∧
   R (.ok (.ret (.ref (zT s.heap l).objs.size))) { s with heap:=(zT s.heap l).push { cls:=.type "enumerate",data:=.fields #[.none,.bool false,.ref s.heap.objs.size,rawInt 0,.none,.none] } }):=
 .of_wp fun prog w A R s h=>by
  obtain ⟨hp,g,d,tk,os⟩:=s;obtain ⟨⟨⟨c,dct,dt,sl⟩,hl,hc,n,hd⟩,h⟩:=h
  replace hc:c=.type "tuple":=hc
  replace hd:dt=.seq items n:=hd
  subst hc hd
  have hsub:=sub_enumerate
  have hL:Heap.IsTuple (Shared.heap ⟨hp,g,d,tk,os⟩) l items:=⟨_,hl,rfl,n,rfl⟩
  wp_walk using AutoSeq1.wpAny_loadPart' hl
  refine wpAny_stack_any fun st=>wpAny_pure ?_
  split
  ·rename_i c _ _ _ _ _
   cases (c == Value.type "enumerate")
   ·wp_walk using AutoSeq1.wpAny_loadPart' hl,wpAny_pyIter_tuple hL
    exact ⟨_,rfl,h⟩
   ·wp_walk using AutoSeq1.wpAny_loadPart' hl,wpAny_pyIter_tuple hL
    exact ⟨_,rfl,h⟩
  ·wp_walk using AutoSeq1.wpAny_loadPart' hl,wpAny_pyIter_tuple hL
   exact ⟨_,rfl,h⟩
section
variable {prog:Program} {w:World} {A:Around} {E:Value→Shared→Prop} {s:Shared}
theorem t8 {l:Addr} {items:Array Value} {Q:Value→Shared→Prop} (hL:s.heap.IsTuple l items)
  (h:∀ h',IsEnum h' (s.heap.objs.size+1) s.heap.objs.size 0 .none→h'.IsTupleIter s.heap.objs.size l 0→(∀ b o,s.heap.get? b=some o→h'.get? b=some o)→Q (.ref (s.heap.objs.size+1)) { s with heap:=h' }) :
  wpAny (model prog w) A (call (.type "enumerate") [.ref l]) Q E s:=by
 refine callType_new F.called_enumerate (by decide) (F.typeCall_enumerate_1 _) (F.newCall_enumerate_1 _) (fun obj=>F.args_object_init_2 obj _) F.entry_enumerate_new (uG l items) ⟨hL,?_⟩
 have hz:(zT s.heap l).objs.size=s.heap.objs.size+1:=Heap.size_push ..
 have he:((zT s.heap l).push { cls:=.type "enumerate",data:=.fields #[.none,.bool false,.ref s.heap.objs.size,rawInt 0,.none,.none] }).get? (zT s.heap l).objs.size=some { cls:=.type "enumerate",data:=.fields #[.none,.bool false,.ref s.heap.objs.size,rawInt 0,.none,.none] }:=Heap.get?_push_size _ rfl
 show _∧_
 rw [hz] at he ⊢
 exact ⟨⟨_,he,rfl⟩,h _ he ⟨_,Heap.get?_push_of_some _ (Heap.get?_push_size _ rfl),rfl,rfl⟩ fun b o e=>Heap.get?_push_of_some _ (Heap.get?_push_of_some _ e)⟩
end
def CY (t:Addr):It:=
 ⟨fun i H=>∃ xs x,H t=some (.tup xs)∧xs[i]?=some x,fun i H x H'=>∃ p y,H p=none∧x=.ref p∧H'=upd H p (.tup [.int i,y])∧∀ xs,H t=some (.tup xs)→xs[i]?=some y,fun i H=>∃ xs,H t=some (.tup xs)∧xs.length=i⟩
theorem tf {P:Program} {w:World} {K:PySem.W.Frag} {es:List Expr} {kk:Nat} {tp:Pos} (l e it:Addr) (hne:e≠it) (hle:l≠e) (hli:l≠it) :
  Turn P w K (.Tuple es kk tp) (CY l) [e,it] e (fun i h=>(∃ old,IsEnum h e it ((i:Nat):Int) old)∧h.IsTupleIter it l i) where
 mem:=by simp
 obj:=fun i h st b hb=>by
  obtain ⟨⟨old,he⟩,hit⟩:=st
  rcases List.mem_cons.mp hb with z | z
  ·subst z;exact ⟨_,he,fun v z=>by
    have z':Data.fields _=Data.cell v:=z
    cases z'⟩
  ·have z:b=it:=List.mem_singleton.mp z
   subst z
   obtain ⟨o,q,_,d⟩:=hit
   exact ⟨o,q,fun v z=>by rw [d] at z;cases z⟩
 keep:=fun i h h' st k=>by
  obtain ⟨⟨old,he⟩,hit⟩:=st
  exact ⟨⟨old,k e (by simp) _ he⟩,hit.at fun o q=>k it (by simp) o q⟩
 item:=by
  intro X hP hw hK hc i pins s σ H E I hf st hg
  subst hP hw hK
  obtain ⟨⟨old,he⟩,hit⟩:=st
  obtain ⟨xs,x,hq,hx⟩:=hg
  obtain ⟨its,rv,p,hz⟩:=I.tuple (SqT.of (K:=X.K) hq)
  obtain ⟨u,hu,ru⟩:=rv.get hx
  have hit':i < its.toArray.size:=by have:=(List.getElem?_eq_some_iff.mp hu).1;simpa using this
  refine wpAny_pyNext_enum_itemD (d9 (prog:=X.prog) (w:=X.w) (A:=X.A.in1) (I.ok.hd hc) it l hli its.toArray) he ⟨hit,p⟩ hit' hne (by simp [hne,Ne.symm hle]) fun u' h1 tk hu' ho1 st1 ht1 hz1 hk1=>?_
  have e0:u'=u:=by
   have a1:its[i]?=some u':=by simpa using hu'
   rw [hu] at a1
   exact (Option.some.inj a1).symm
  subst e0
  refine ⟨_,rfl,wpAny_letOwnedTupleGo_enum (s:={ s with heap:=h1,toks:=tk+1 }) ho1 fun h2 he2 hs2=>?_⟩
  have helt:e < s.heap.objs.size:=Heap.lt_size he
  have ht2:h2.get? s.heap.objs.size=some { cls:=.type "tuple",data:=.seq #[.int i tk,u'] }:=hs2.extBut _ _ (Nat.ne_of_gt helt) ht1
  have k2:∀ b o,b∉[e,it]→s.heap.get? b=some o→h2.get? b=some o:=fun b o hb q=>by
   have hb1:b≠e:=fun z=>hb (by simp [z])
   have hb2:b≠it:=fun z=>hb (by simp [z])
   exact hs2.extBut b o hb1 (hk1 b o hb1 hb2 q)
  have I2:Inv X pins σ (upd H s.heap.objs.size (.tup [.int i,x])) { s with heap:=h2,toks:=tk+1 }:=by
   refine I.je (fp:=[e,it]) (Nat.le_refl _) k2 hf ?_
   exact ⟨by show 2≤sizeLine;decide,[.int i tk,u'],.cons ⟨_,rfl⟩ (.cons ru .nil),⟨_,ht2,rfl,_,rfl⟩⟩
  refine ⟨.ref s.heap.objs.size,_,I2,rfl,⟨s.heap.objs.size,x,I.hok.fresh (Nat.le_refl _),rfl,rfl,fun ys hy=>by rw [hq] at hy;cases hy;exact hx⟩,⟨⟨_,by simpa using he2⟩,?_⟩,fun b hb=>?_⟩
  ·exact st1.1.extBut hs2.extBut (Ne.symm hne)
  ·have hlt:b < s.heap.objs.size:=by
    rcases List.mem_cons.mp hb with z | z
    ·rw [z];exact helt
    ·have z:b=it:=List.mem_singleton.mp z
     subst z
     obtain ⟨o,q,_⟩:=hit
     exact Heap.lt_size q
   rw [aS (Nat.ne_of_lt hlt)]
   exact (hf b hb).1
 done:=by
  intro X hP hw hK hc i pins s σ H E I hf st hg
  subst hP hw hK
  obtain ⟨⟨old,he⟩,hit⟩:=st
  obtain ⟨xs,hq,hx⟩:=hg
  obtain ⟨its,rv,p,hz⟩:=I.tuple (SqT.of (K:=X.K) hq)
  have hl:=rv.length
  obtain ⟨f0,f1,f2,f3,f4,f5⟩:=hf it (by simp)
  exact wpAny_pyNext_enum_endD (d9 (prog:=X.prog) (w:=X.w) (A:=X.A.in1) (I.ok.hd hc) it l hli its.toArray) he ⟨by rw [List.size_toArray,← hl,hx];exact hit,p⟩ fun h' eb=>⟨rfl,I.turned (t':=s.toks) (fun b o hb e=>eb b o hb e) f0 f1 f3 f4 f5⟩
 self:=fun _ _ _ _ _ st h=>by
  obtain ⟨⟨old,he⟩,_⟩:=st
  exact wpAny_pyIter_enum he h
def xS (e:XE):XI:=fun τ S=>(e τ S).bind fun z S1=>match z with
 | .d (.tup xs)=>.ok ⟨cF 0 xs,none⟩ S1
 | _=>.bad
section
variable {X:Cx} {WE:WX} {K:PySem.W.Frag} {mg:Str→Option Value} {μ:Nat→Addr} {S:Sto} {H:Hp}
theorem xA {a:Addr} {vs:List V} {xs:List D} (g:vh μ S H a=some (.tup vs)) (rs:ax (vh μ S H) vs xs) (hz:vs.length≤sizeLine):fB K mg μ S H (CY a) ⟨cF 0 xs,none⟩ where
 ok:=True.intro
 len:=by simp only [fU];rw [← rs.length];exact hz
 go:=fun i z μ' S' H' st _ e=>by
  rw [dz] at e
  cases q:xs[i]? with
  | none=>rw [q] at e;cases e
  | some x=>
   obtain ⟨u,e2,_⟩:=rs.get' q
   exact ⟨vs,u,(aT (st.vis _ _ g)).2,e2⟩
 yld:=fun i z μ' S' H' u H2 st _ e y=>by
  obtain ⟨p,w,hp,rfl,rfl,y⟩:=y
  rw [dz] at e
  cases q:xs[i]? with
  | none=>rw [q] at e;cases e
  | some x=>
   rw [q] at e
   cases e
   have e2:=y vs (aT (st.vis _ _ g)).2
   obtain ⟨x',e3,r⟩:=rs.get e2
   rw [q] at e3;cases e3
   have st2:=Step.new st.hr hp (.tup [.int i,w])
   refine ⟨st2,Rep.tup (bO bJ (st.hr.nal hp)) (.cons ?_ (.cons (Rep.mono (st.trans st2).vis r) .nil))⟩
   rw [Nat.zero_add]
   exact .int _
 stop:=fun i μ' S' H' st _ hi=>⟨vs,(aT (st.vis _ _ g)).2,by rw [rs.length];rw [fU] at hi;exact hi⟩
end
section
variable {X:Cx} {WE:WX}
theorem xk {es:List Expr} {kk:Nat} {tp:Pos} {l:Expr} {xl:XE} {p pos:Pos} (hg:Gl X "enumerate") (hm:X.mg "enumerate"=none) (hl:RE X WE l xl) (hb:bootBuiltins "enumerate"=some (.type "enumerate"):=by decide +kernel)
  (hs:starEach [l] X.env=[(false,eval l X.env)]:=by rfl):RI X WE (.Tuple es kk tp) (.Call (.Name "enumerate" p) [l] [] pos) (xS xl):=⟨by
 intro pins s σ H R I h
 obtain ⟨μ,S,τ,hr,sr,pp⟩:=h
 refine Call_ (cq I hg hm hb (PyProof.Rows.callWith_type1 (thn ((eJ hl.h gR hs) pos pins s σ H (fun vs H1=>∃ x,vs=[x]∧∃ μ1 S1 z,HR μ1 S1 H1∧ba X.K X.mg μ1 S1 H1 x z∧bc (fB X.K X.mg) WE μ1 S1 H1 (match z with
   | .d (.tup xs)=>.ok ⟨cF 0 xs,none⟩ S1
   | _=>.bad) R) I ?_) fun us s1 ⟨vs,H1,I1,r1,q1⟩=>?_) hs rfl))
 ·exact ⟨μ,S,τ,hr,sr,pp.bind fun v x S1 μ1 H1 st1 r1 p1=>⟨v,rfl,μ1,S1,x,st1.hr,r1,p1⟩⟩
 ·obtain ⟨x,e,μ1,S1,z,hr1,rz,p1⟩:=q1
  subst e
  obtain ⟨u,rfl,ru⟩:=vals1 r1
  split at p1
  ·obtain ⟨a,us,rfl,h0,g,rs⟩:=fi rz
   cases ru
   obtain ⟨its,rv,pl,hz⟩:=I1.tuple (SqT.of (K:=X.K) h0)
   have q:=p1.here hr1 (xA g rs hz)
   have hlt:a < s1.heap.objs.size:=pl.lt
   refine t8 (show s1.heap.IsTuple a its.toArray from pl) fun h' he hit hk=>?_
   refine wpAny_pyIter_enum (s:={ s1 with heap:=h' }) he ?_
   have I2:Inv X pins σ H1 { s1 with heap:=h' }:=I1.kept (t':=s1.toks) hk
   refine ⟨s1.heap.objs.size+1,[s1.heap.objs.size+1,s1.heap.objs.size],_,_,H1,rfl,I2,tf a _ _ (Nat.succ_ne_self _) (Nat.ne_of_lt (Nat.lt_succ_of_lt hlt)) (Nat.ne_of_lt hlt),⟨⟨_,he⟩,hit⟩,fun b hb=>?_,q⟩
   have hle:s1.heap.objs.size≤b:=by
    rcases List.mem_cons.mp hb with z | z
    ·rw [z];exact Nat.le_succ _
    ·rw [List.mem_singleton.mp z];exact Nat.le_refl _
   exact I1.jS hle (I1.hok.fresh hle)
  ·exact p1.elim⟩
end
section
variable {prog:Program} {w:World} {A:Around} {E:Value→Shared→Prop} {s:Shared} {z TI TO i1 i2:Addr} {fp1 fp2:List Addr} {n1 n2 k:Nat} {P1 P2:Nat→Value→Prop} {S1 S2:Nat→Heap→Prop}
abbrev l7 (h:Heap) (z TI TO T:Addr) (b:Bool):Prop:=h.get? z=some { cls:=.type "zip",dict:=none,data:=.fields #[rawInt T,.bool b,.bool false,.ref TI,.ref TO],slots:=#[] }
set_option hygiene false in
local macro_rules | `(tactic| walk_at "zi") => `(tactic| (
  have q1:S1 k g0:=D1.frame _ _ _ h1 fun c hc o q=>e0.extBut c o (fun y=>D.z1 (y ▸ hc)) q
  have q2:S2 k g0:=D2.frame _ _ _ h2 fun c hc o q=>e0.extBut c o (fun y=>D.z2 (y ▸ hc)) q
  refine wpAny_bind (wpAny_bind (wpAny_bind (wpAny_holding ?_)))
  refine (show wpAny _ _ (Builtin.SmallTypes.nextOf (.ref i1)>>=_) _ _ _ from wpAny_bind (D1.item k _ _ _ l1 q1 fun x g2 t2 p1 q1' e2=>wpAny_pure (wpAny_pure ?_)))
  replace e2:Heap.SameBut i1 g0 g2:=e2
  refine wpAny_bind (wpAny_bind (wpAny_holding ?_))
  have r2:S2 k g2:=D2.frame _ _ _ q2 fun c hc o q=>e2.extBut c o (fun y=>D.i12 (y ▸ hc)) q
  refine (show wpAny _ _ (Builtin.SmallTypes.nextOf (.ref i2)>>=_) _ _ _ from wpAny_bind (D2.item k _ _ _ l2 r2 fun y g4 t4 p2 r2' e4=>wpAny_pure (wpAny_pure (wpAny_pure ?_))))
  replace e4:Heap.SameBut i2 g2 g4:=e4
  refine wpAny_bind (wpAny_newTuple ?_ (by show 2≤sizeLine;decide))
  have hsz:g4.objs.size=s.heap.objs.size:=by rw [e4.1,e2.1,e0.1]
  refine wpAny_pure ⟨_,rfl,?_⟩
  show Q (.ref g4.objs.size) _
  rw [hsz]
  have up:∀ c o,g4.get? c=some o→(g4.push { cls:=.type "tuple",data:=.seq #[x,y] }).get? c=some o:=fun c o q=>Heap.get?_push_of_some _ q
  refine hQ x y _ _ p1 p2 (up _ _ (e4.extBut _ _ D.i2z.symm (e2.extBut _ _ D.i1z.symm hz0))) (up _ _ (e4.extBut _ _ D.TI2 (e2.extBut _ _ D.TI1 (e0.extBut _ _ D.TIz hTI)))) ?_ ?_ ?_ fun c o c1 c3 c4 q=>up _ _ (e4.extBut _ _ c4 (e2.extBut _ _ c3 (e0.extBut _ _ c1 q)))
  ·exact D1.frame _ _ _ q1' fun c hc o q=>up _ _ (e4.extBut c o (fun y=>D.i21 (y ▸ hc)) q)
  ·exact D2.frame _ _ _ r2' fun c hc o q=>up _ _ q
  ·rw [← hsz];exact Heap.get?_push_size _ rfl
 ))
set_option hygiene false in
local macro_rules | `(tactic| walk_at "ze") => `(tactic| (
  have q1:S1 k g0:=D1.frame _ _ _ h1 fun c hc o q=>e0.extBut c o (fun y=>D.z1 (y ▸ hc)) q
  have q2:S2 k g0:=D2.frame _ _ _ h2 fun c hc o q=>e0.extBut c o (fun y=>D.z2 (y ▸ hc)) q
  refine wpAny_bind (wpAny_bind (wpAny_bind (wpAny_holding ?_)))
  rcases hend with hk | ⟨hk,hk2⟩
  ·subst hk
   refine (show wpAny _ _ (Builtin.SmallTypes.nextOf (.ref i1)>>=_) _ _ _ from wpAny_bind (D1.done _ _ _ q1 fun g2 e e2 he=>?_))
   replace e2:Heap.ExtBut i1 g0 g2:=e2
   exact hE g2 e _ (fun c o c1 _ c3 _ q=>e2 _ _ c3 (e0.extBut _ _ c1 q)) he
  ·subst hk2
   refine (show wpAny _ _ (Builtin.SmallTypes.nextOf (.ref i1)>>=_) _ _ _ from wpAny_bind (D1.item k _ _ _ hk q1 fun x g2 t2 p1 q1' e2=>wpAny_pure (wpAny_pure ?_)))
   replace e2:Heap.SameBut i1 g0 g2:=e2
   refine wpAny_bind (wpAny_bind (wpAny_holding ?_))
   have r2:S2 k g2:=D2.frame _ _ _ q2 fun c hc o q=>e2.extBut c o (fun y=>D.i12 (y ▸ hc)) q
   refine (show wpAny _ _ (Builtin.SmallTypes.nextOf (.ref i2)>>=_) _ _ _ from wpAny_bind (D2.done _ _ _ r2 fun g4 e e4 he=>?_))
   replace e4:Heap.ExtBut i2 g2 g4:=e4
   exact hE g4 e _ (fun c o c1 _ c3 c4 q=>e4 _ _ c4 (e2.extBut _ _ c3 (e0.extBut _ _ c1 q))) he
 ))
theorem nJ {T:Addr} {fl:Bool} {Q:Value→Shared→Prop} (D:b_ z TI TO i1 i2 fp1 fp2) (D1:Draws prog w A i1 fp1 n1 P1 S1) (D2:Draws prog w A i2 fp2 n2 P2 S2) (hz:l7 s.heap z TI TO T fl) (hT:∃ o,s.heap.get? T=some o) (hTI:IsPair s.heap TI (.ref i1) (.ref i2))
  (h1:S1 k s.heap) (h2:S2 k s.heap) (l1:k < n1) (l2:k < n2)
  (hQ:∀ x y h' tk,P1 k x→P2 k y→l7 h' z TI TO T true→IsPair h' TI (.ref i1) (.ref i2)→S1 (k+1) h'→S2 (k+1) h'→IsPair h' s.heap.objs.size x y →
   (∀ c o,c≠z→c≠i1→c≠i2→s.heap.get? c=some o→h'.get? c=some o)→Q (.ref s.heap.objs.size) { s with heap:=h',toks:=tk }) :
  wpAny (model prog w) A (Builtin.«zip.__next__» ⟨[.ref z],[]⟩) (fun fin s'=>∃ v,fin=.done (.ret v)∧Q v s') E s:=by
 refine (show wpAny _ _ (field (.ref z) 2>>=_) _ _ _ from wpAny_bind (wpAny_field hz rfl (x:=.bool false) rfl ?_))
 refine (show wpAny _ _ (field (.ref z) 3>>=_) _ _ _ from wpAny_bind (wpAny_field hz rfl (x:=.ref TI) rfl ?_))
 refine wpAny_bind (wpAny_seqItems hTI rfl ?_)
 refine (show wpAny _ _ (Builtin.SmallTypes.ownedTupleIsFree (.ref z)>>=_) _ _ _ from wpAny_bind ?_)
 unfold Builtin.SmallTypes.ownedTupleIsFree
 refine wpAny_bind (wpAny_field hz rfl (x:=rawInt T) rfl ?_)
 refine (show wpAny _ _ (loadIfAlive ((T:Int)).toNat>>=_) _ _ _ from wpAny_bind (dQ ?_))
 rw [Int.toNat_natCast]
 obtain ⟨oT,hoT⟩:=hT
 rw [hoT]
 refine wpAny_ite_false (by rfl) ?_
 refine wpAny_bind (wpAny_field hz rfl (x:=.bool fl) rfl ?_)
 have sb:Heap.SameBut z s.heap s.heap:=⟨rfl,fun _ _=>rfl⟩
 cases fl with
 | true=>
  refine wpAny_ite_false (by rfl) (wpAny_pure ?_)
  refine wpAny_ite_false (by rfl) ?_
  simp only [← Array.forIn_toList,List.forIn_cons,List.forIn_nil]
  have hz0:=hz
  let g0:=s.heap
  have e0:Heap.SameBut z s.heap g0:=sb
  walk_at "zi"
 | false=>
  refine wpAny_ite_true (by rfl) (wpAny_bind (wpAny_setField_rec hz (by simp) fun g0 hz0 e0=>wpAny_pure ?_))
  refine wpAny_ite_false (by rfl) ?_
  simp only [← Array.forIn_toList,List.forIn_cons,List.forIn_nil]
  walk_at "zi"
theorem pv {T:Addr} {fl:Bool} {Q:PySem.Fin→Shared→Prop} (D:b_ z TI TO i1 i2 fp1 fp2) (D1:Draws prog w A i1 fp1 n1 P1 S1) (D2:Draws prog w A i2 fp2 n2 P2 S2) (hz:l7 s.heap z TI TO T fl) (hT:∃ o,s.heap.get? T=some o) (hTI:IsPair s.heap TI (.ref i1) (.ref i2))
  (h1:S1 k s.heap) (h2:S2 k s.heap) (hend:k=n1∨(k < n1∧k=n2))
  (hE:∀ h' e tk,(∀ c o,c≠z→c≠TO→c≠i1→c≠i2→s.heap.get? c=some o→h'.get? c=some o)→(∃ o,h'.get? e=some o∧o.cls=.type "StopIteration")→E (.ref e) { s with heap:=h',toks:=tk }) :
  wpAny (model prog w) A (Builtin.«zip.__next__» ⟨[.ref z],[]⟩) Q E s:=by
 refine (show wpAny _ _ (field (.ref z) 2>>=_) _ _ _ from wpAny_bind (wpAny_field hz rfl (x:=.bool false) rfl ?_))
 refine (show wpAny _ _ (field (.ref z) 3>>=_) _ _ _ from wpAny_bind (wpAny_field hz rfl (x:=.ref TI) rfl ?_))
 refine wpAny_bind (wpAny_seqItems hTI rfl ?_)
 refine (show wpAny _ _ (Builtin.SmallTypes.ownedTupleIsFree (.ref z)>>=_) _ _ _ from wpAny_bind ?_)
 unfold Builtin.SmallTypes.ownedTupleIsFree
 refine wpAny_bind (wpAny_field hz rfl (x:=rawInt T) rfl ?_)
 refine (show wpAny _ _ (loadIfAlive ((T:Int)).toNat>>=_) _ _ _ from wpAny_bind (dQ ?_))
 rw [Int.toNat_natCast]
 obtain ⟨oT,hoT⟩:=hT
 rw [hoT]
 refine wpAny_ite_false (by rfl) ?_
 refine wpAny_bind (wpAny_field hz rfl (x:=.bool fl) rfl ?_)
 have sb:Heap.SameBut z s.heap s.heap:=⟨rfl,fun _ _=>rfl⟩
 cases fl with
 | true=>
  refine wpAny_ite_false (by rfl) (wpAny_pure ?_)
  refine wpAny_ite_false (by rfl) ?_
  simp only [← Array.forIn_toList,List.forIn_cons,List.forIn_nil]
  have hz0:=hz
  let g0:=s.heap
  have e0:Heap.SameBut z s.heap g0:=sb
  walk_at "ze"
 | false=>
  refine wpAny_ite_true (by rfl) (wpAny_bind (wpAny_setField_rec hz (by simp) fun g0 hz0 e0=>wpAny_pure ?_))
  refine wpAny_ite_false (by rfl) ?_
  simp only [← Array.forIn_toList,List.forIn_cons,List.forIn_nil]
  walk_at "ze"
end
set_option maxRecDepth 100000
theorem gf:entryFor table "dict.update.loop"=some Builtin.«dict.update.loop»:=entryFor_of_tree (by rfl)
theorem cU:plainId "dict.update.loop"=true:=by decide +kernel
structure wQ (prog:Program) (w:World) (A:Around) (I d:Addr) (wr:List Addr) (ps:List (Key×V)) (St:Nat→Heap→Prop):Prop where
 nd:d∉wr
 frame:∀ i h h',St i h→(∀ b o,b≠d→h.get? b=some o→h'.get? b=some o)→St i h'
 item:∀ i (s:Shared) (Q:Option Value→Shared→Prop) (E:Value→Shared→Prop),i < ps.length→St i s.heap→d < s.heap.objs.size →
  (∀ T k v x y h' tk,ps[i]?=some (k,v)→(bz prog w).is k x=true→RelV v y→h'.IsTuple T #[x,y]→St (i+1) h'→(∀ b o,b∉wr→s.heap.get? b=some o→h'.get? b=some o)→Q (some (.ref T)) { s with heap:=h',toks:=tk }) →
  wpAny (model prog w) A (pyNext (.ref I)) Q E s
 done:∀ (s:Shared) (Q:Option Value→Shared→Prop) (E:Value→Shared→Prop),St ps.length s.heap→(∀ h' tk,(∀ b o,b∉wr→s.heap.get? b=some o→h'.get? b=some o)→Q none { s with heap:=h',toks:=tk })→wpAny (model prog w) A (pyNext (.ref I)) Q E s
theorem rh (kvs:List (Key×V)) (ps:List (Key×V)) (k:Key) (v:V):cM kvs (ps++[(k,v)])=putK (cM kvs ps) k v:=by simp [cM,List.foldl_append]
theorem qQ {prog:Program} {w:World} {A:Around} {I d:Addr} {wr:List Addr} {ps:List (Key×V)} {St:Nat→Heap→Prop} {R:Result→Shared→Prop} (W:wQ prog w A.in1 I d wr ps St) (hn:ps.length≤100000) (res:Value) :
  ∀ (k i:Nat) (t:Tok) (s:Shared) (kvs:List (Key×Value)),ps.length - i=k→i≤ps.length→St i s.heap→s.heap.DictOf (bz prog w) d kvs→KV (cM [] (ps.take i)) kvs →
  (∀ h' tk kvs',h'.DictOf (bz prog w) d kvs'→KV (cM [] ps) kvs'→(∀ b o,b≠d→b∉wr→s.heap.get? b=some o→h'.get? b=some o)→R (.ok (.ret res)) { s with heap:=h',toks:=tk }) →
  codeAny (model prog w) A (.builtin "dict.update.loop" ⟨[.ref d,.ref I,.int i t,res],[]⟩) R s:=by
 intro k
 induction k with
 | zero=>
  intro i t s kvs hk hi hst hd hkv hR
  have hin:i=ps.length:=by omega
  subst hin
  rw [List.take_length] at hkv
  refine codeAny_builtin gf ?_
  rw [Around.under_plainId cU _]
  show wpAny _ A.in1 (pyNext (.ref I)>>=_) _ _ s
  refine wpAny_bind (W.done s _ _ hst fun h' tk hkp=>?_)
  refine wpAny_bind (wpAny_pure (wpAny_pure ?_))
  obtain ⟨o,es,ep,ho,r⟩:=hd
  exact hR h' tk kvs ⟨o,es,ep,hkp d o W.nd ho,r⟩ hkv fun b o _ hb e=>hkp b o hb e
 | succ k ih=>
  intro i t s kvs hk hi hst hd hkv hR
  have hlt:i < ps.length:=by omega
  refine codeAny_builtin gf ?_
  rw [Around.under_plainId cU _]
  show wpAny _ A.in1 (pyNext (.ref I)>>=_) _ _ s
  have hdl:d < s.heap.objs.size:=by obtain ⟨o,es,ep,ho,r⟩:=hd;exact Heap.lt_size ho
  refine wpAny_bind (W.item i s _ _ hlt hst hdl fun T key v x y h' tk hps hkey hv hT hst' hkp=>?_)
  have hd':h'.DictOf (bz prog w) d kvs:=by obtain ⟨o,es,ep,ho,r⟩:=hd;exact ⟨o,es,ep,hkp d o W.nd ho,r⟩
  have htk:ps.take (i+1)=ps.take i++[(key,v)]:=by rw [List.take_add_one,hps];rfl
  have hkv':KV (cM [] (ps.take (i+1))) (stored kvs key y):=by
   rw [htk,rh]
   exact hkv.put key hv
  obtain ⟨oT,hoT,hcT,nT,hdT⟩:=hT
  refine wpAny_bind (wpAny_holding (wpAny_bind (wpAny_tryCatch ?_)))
  unfold Builtin.Dict.pairItems
  refine wpAny_bind (wpAny_typeOf (T:="tuple") ⟨oT,hoT,hcT⟩ ?_)
  refine wpAny_ite_true (by rfl) ?_
  refine wpAny_bind (wpAny_seqItems hoT hdT (wpAny_pure ?_))
  have lk:kvs.length≤sizeLine:=by
   have l1:=hkv.length
   have l2:=fZ (ps.take i) []
   rw [List.length_take,List.length_nil] at l2
   rw [sizeLine_eq]
   omega
  refine wpAny_holding (wpAny_dictSet_pairs (knd:=bz prog w) (hsz:=lk) hkey hd' fun h2 hd2 hs2=>?_)
  refine wpAny_pure ⟨plainId_quiet cU _,?_⟩
  refine ih (i+1) _ _ _ (by omega) hlt (W.frame _ _ _ hst' fun b o hb e=>(hs2.2 b hb).trans e) hd2 hkv' fun h3 tk3 kvs3 a b c=>hR h3 tk3 kvs3 a b fun b' o hb hw e=>c b' o hb hw ((hs2.2 b' hb).trans (hkp b' o hw e))
theorem p6:entryFor table "zip.__getattribute__"=some Builtin.«object.__getattribute__»:=entryFor_alias (id':="object.__getattribute__") (by rfl) (by decide +kernel) (by decide +kernel) (by rfl)
theorem rg:typeLookup (.type "zip") "keys"=pure none:=by rw [typeLookup_type,builtinLookup_eq_fast];rfl
theorem mW:typeLookup (.type "zip") "__getattr__"=pure none:=by rw [typeLookup_type,builtinLookup_eq_fast];rfl
theorem ya (a:Addr) (vs:Array Value) (u:Tok):Meets (Builtin.«object.__getattribute__» ⟨[.ref a,.str "keys" u],[]⟩) (fun A R s=>s.heap.get? a=some { cls:=.type "zip",dict:=none,data:=.fields vs,slots:=#[] }∧raisesAttr (.ref a) "keys" A R s):=
 Meets.of_wp fun prog w A R s hs=>by
  obtain ⟨hp,g,d,tk,os⟩:=s
  obtain ⟨hx,hs⟩:=hs
  have hT:(⟨hp,g,d,tk,os⟩:Shared).TypeIs (.ref a) "zip":=⟨_,hx,rfl⟩
  have hmiss:=rg
  unfold Builtin.«object.__getattribute__»
  repeat (any_goals (first | assumption | wp_step))
  exact wpAny_raiseAttrError hs.1 hs.2 (attrMsg_fits (by decide +kernel) (by decide +kernel))
theorem wZ {prog:Program} {w:World} {A:Around} {E:Value→Shared→Prop} {s:Shared} {a:Addr} {vs:Array Value} {Q:Option Value→Shared→Prop} (hx:s.heap.get? a=some { cls:=.type "zip",dict:=none,data:=.fields vs,slots:=#[] }) (hA:A.handled=none)
  (h:∀ h' tk,(∀ b o,s.heap.get? b=some o→h'.get? b=some o)→Q none { s with heap:=h',toks:=tk }):wpAny (model prog w) A (getAttr? (.ref a) "keys") Q E s:=by
 obtain ⟨hp,g,d,tk,os⟩:=s
 have hT:∀ tk',(⟨hp,g,d,tk',os⟩:Shared).TypeIs (.ref a) "zip":=fun _=>⟨_,hx,rfl⟩
 have f1:=sub_AttributeError
 have f3:=F.slot_zip_getattribute.lookup
 have f4:=F.slot_zip_getattribute.bind (.ref a)
 have f5:=mW
 unfold getAttr? getAttrBy? getAttrBy
 repeat (any_goals (first | assumption | exact hT _ | ((with_reducible show wpAny _ _ (call (Value.builtin "zip.__getattribute__") _ _) _ _ _);refine call_meets F.slot_zip_getattribute (hT _) p6 (F.args_zip_getattribute_2 _ _) (ya a vs _) ⟨hx,hA,fun h' tk' e hx'=>?_⟩) | wp_step))
 obtain ⟨t',u',he⟩:=hx'.there
 show wpAny _ _ (getattributeRaised _ _ _ _ _ _ _) _ _ _
 unfold getattributeRaised
 repeat (any_goals (first | assumption | wp_step))
 exact h _ _ hx'.keeps
set_option maxRecDepth 100000
section
variable {prog:Program} {w:World} {A:Around} {E:Value→Shared→Prop} {s:Shared}
theorem qX {src:Addr} {ps:List (Key×V)} {T:String} {wr0:List Addr} {Q:Value→Shared→Prop} (hh:A.handled=none) (hn:ps.length≤100000) (hT:∀ s':Shared,(∀ b o,s.heap.get? b=some o→s'.heap.get? b=some o)→s'.TypeIs (.ref src) T) (hne:(Value.type T == Value.type "dict")=false)
  (hkeys:∀ (s':Shared) (A':Around) (E':Value→Shared→Prop) (Q':Option Value→Shared→Prop),(∀ b o,s.heap.get? b=some o→s'.heap.get? b=some o)→A'.handled=none→(∀ h' tk,(∀ b o,s'.heap.get? b=some o→h'.get? b=some o)→Q' none { s' with heap:=h',toks:=tk })→wpAny (model prog w) A' (getAttr? (.ref src) "keys") Q' E' s')
  (hit:∀ (s':Shared) (A':Around) (E':Value→Shared→Prop) (Q':Value→Shared→Prop),(∀ b o,s.heap.get? b=some o→s'.heap.get? b=some o)→s.heap.objs.size < s'.heap.objs.size→(∀ (I:Addr) (wr:List Addr) (St:Nat→Heap→Prop) h' tk,(∀ b o,s'.heap.get? b=some o→h'.get? b=some o)→St 0 h'→(∀ b o,b∉wr0→s.heap.get? b=some o→b∉wr)→(∀ A'':Around,A''.handled=none→wQ prog w A'' I s.heap.objs.size wr ps St)→Q' (.ref I) { s' with heap:=h',toks:=tk })→wpAny (model prog w) A' (pyIter (.ref src)) Q' E' s')
  (h:∀ h' tk kvs',h'.DictOf (bz prog w) s.heap.objs.size kvs'→KV (cM [] ps) kvs'→(∀ b o,b∉wr0→s.heap.get? b=some o→h'.get? b=some o)→Q (.ref s.heap.objs.size) { s with heap:=h',toks:=tk }) :
  wpAny (model prog w) A (call (.type "dict") [.ref src]) Q E s:=by
 refine callType_codes (Q₁:=fun obj s₁=>obj=.ref s.heap.objs.size∧s₁={ s with heap:=s.heap.push { cls:=.type "dict",data:=.dict #[] } }) F.kt_called_dict (F.kt_typeCall_dict_1 _) F.entry_dict_init (kt_code_dict_new _ ⟨rfl,rfl⟩) ?_
 rintro obj s₁ ⟨rfl,rfl⟩
 have hnew:(s.heap.push { cls:=.type "dict",data:=.dict #[] }).DictOf (bz prog w) s.heap.objs.size []:=Heap.DictOf.new s.heap
 have up:∀ b o,s.heap.get? b=some o→(s.heap.push { cls:=.type "dict",data:=.dict #[] }).get? b=some o:=fun b o e=>Heap.get?_push_of_some _ e
 refine ⟨hnew.typeIs,F.args_dict_init_2 _ _,?_⟩
 unfold Builtin.«dict.__init__»
 refine wpAny_bind ?_
 unfold Builtin.Dict.selfAndRest
 refine wpAny_bind (wpAny_notOrdered_dict hnew.typeIs ?_)
 show wpAny _ _ (pure (s.heap.objs.size,[Value.ref src])) _ _ _
 refine wpAny_pure ?_
 show wpAny _ _ (Builtin.Dict.updateFrom "dict.__init__" s.heap.objs.size (.ref src) [] .none) _ _ _
 unfold Builtin.Dict.updateFrom
 refine wpAny_bind (wpAny_typeOf (hT _ up) ?_)
 refine wpAny_ite_true (by show decide ((Value.type T != Value.type "dict")=true)=true;simp [bne,hne]) ?_
 refine wpAny_bind (hkeys _ _ _ _ up hh fun h1 t1 k1=>?_)
 refine wpAny_ite_true rfl (wpAny_bind (wpAny_rule (wpAny_bind ?_)))
 refine hit _ _ _ _ (fun b o e=>k1 b o (up b o e)) ?_ fun I wr St h2 t2 k2 st2 hw W=>wpAny_pure ⟨plainId_quiet cU _,?_⟩
 ·have e0:(s.heap.push { cls:=.type "dict",data:=.dict #[] }).get? s.heap.objs.size=some _:=Heap.get?_push_size _ rfl
  exact Heap.lt_size (k1 _ _ e0)
 ·have hd2:h2.DictOf (bz prog w) s.heap.objs.size []:=by
   obtain ⟨o,es,ep,ho,r⟩:=hnew
   exact ⟨o,es,ep,k2 _ _ (k1 _ _ ho),r⟩
  refine qQ (W A.in1.in1 hh) hn .none ps.length 0 _ _ [] rfl (Nat.zero_le _) st2 hd2 .nil fun h3 t3 kvs3 d3 r3 k3=>⟨rfl,h h3 t3 kvs3 d3 r3 fun b o hb e=>k3 b o (Nat.ne_of_lt (Heap.lt_size e)) (hw b o hb e) (k2 b o (k1 b o (up b o e)))⟩
end
def StZ (d z TI TO i1 i2:Addr) (S1 S2:Nat→Heap→Prop) (i:Nat) (h:Heap):Prop:=IsPair h TI (.ref i1) (.ref i2)∧S1 i h∧S2 i h∧((IsZip h z TI TO .none∧∃ a b,IsPair h TO a b)∨∃ T fl,T∉[d,z,TO,i1,i2]∧l7 h z TI TO T fl∧∃ o,h.get? T=some o)
theorem zQ {prog:Program} {w:World} {A:Around} {d z TI TO i1 i2 t u:Addr} {xs ys:Array Value} {ks:List Key} {vs:List V} (hh:A.handled=none) (D:b_ z TI TO i1 i2 [i1,t] [i2,u]) (n1:t≠i1) (n2:u≠i2) (hd:d∉[z,TI,TO,i1,i2,t,u])
  (rk:Vals (ks.map kV) xs.toList) (rv:Vals vs ys.toList):wQ prog w A z d [z,TO,i1,i2] (ks.zip vs) (StZ d z TI TO i1 i2 (fun i h=>h.IsTupleIter i1 t i∧h.IsTuple t xs) (fun i h=>h.IsTupleIter i2 u i∧h.IsTuple u ys)) where
 nd:=fun h=>hd (by simp only [List.mem_cons,List.not_mem_nil,or_false] at h ⊢;rcases h with h | h | h | h<;>simp [h])
 frame:=fun i h h' st k=>by
  simp only [List.mem_cons,List.not_mem_nil,or_false,not_or] at hd
  obtain ⟨d1,d2,d3,d4,d5,d6,d7⟩:=hd
  obtain ⟨a,⟨b1,b2⟩,⟨c1,c2⟩,e⟩:=st
  refine ⟨k _ _ (Ne.symm d2) a,⟨b1.at fun o q=>k _ o (Ne.symm d4) q,b2.at fun o q=>k _ o (Ne.symm d6) q⟩,⟨c1.at fun o q=>k _ o (Ne.symm d5) q,c2.at fun o q=>k _ o (Ne.symm d7) q⟩,?_⟩
  rcases e with ⟨e1,x,y,e2⟩ | ⟨T,fl,e1,e2,o,e3⟩
  ·exact .inl ⟨k _ _ (Ne.symm d1) e1,x,y,k _ _ (Ne.symm d3) e2⟩
  ·exact .inr ⟨T,fl,e1,k _ _ (Ne.symm d1) e2,o,k _ _ (fun z=>e1 (by simp [z])) e3⟩
 item:=fun i s Q E hi st hlt hQ=>by
  obtain ⟨a,b,c,e⟩:=st
  have lk:ks.length=xs.size:=by have:=rk.length;simpa using this
  have lv:vs.length=ys.size:=by have:=rv.length;simpa using this
  rw [List.length_zip] at hi
  have l1:i < xs.size:=by omega
  have l2:i < ys.size:=by omega
  have dw1:=d9 (prog:=prog) (w:=w) (A:=A.in1) hh i1 t n1 xs
  have dw2:=d9 (prog:=prog) (w:=w) (A:=A.in1) hh i2 u n2 ys
  have get:∀ x y,xs[i]?=some x→ys[i]?=some y→∃ k v,(ks.zip vs)[i]?=some (k,v)∧(bz prog w).is k x=true∧RelV v y:=fun x y hx hy=>by
   have hk:ks[i]?=some (ks[i]'(by omega)):=List.getElem?_eq_getElem _
   have hv:vs[i]?=some (vs[i]'(by omega)):=List.getElem?_eq_getElem _
   obtain ⟨x',e1,r1⟩:=rk.get (x:=kV (ks[i]'(by omega))) (by rw [List.getElem?_map,hk];rfl)
   obtain ⟨y',e2,r2⟩:=rv.get hv
   rw [Array.getElem?_toList,hx] at e1
   rw [Array.getElem?_toList,hy] at e2
   cases e1;cases e2
   exact ⟨_,_,by rw [List.getElem?_zip_eq_some];exact ⟨hk,hv⟩,kZ r1,r2⟩
  rcases e with ⟨e1,x0,y0,e2⟩ | ⟨T,fl,e1,e2,e3⟩
  ·refine nI D dw1 dw2 e1 (.inl rfl) a e2 b c l1 l2 fun x y h' tk px py g1 g2 g3 g4 g5 g6 g7 g8=>?_
   obtain ⟨k,v,q1,q2,q3⟩:=get x y px py
   refine hQ _ k v x y h' tk q1 q2 q3 ⟨_,g6,rfl,_,rfl⟩ ⟨g2,g4,g5,.inr ⟨_,false,?_,g1,_,g6⟩⟩ fun b' o hb q=>g8 b' o (fun z=>hb (by simp [z])) (fun z=>hb (by simp [z])) (fun z=>hb (by simp [z])) (fun z=>hb (by simp [z])) q
   obtain ⟨⟨o1,b1,_⟩,_⟩:=b
   obtain ⟨⟨o2,c1,_⟩,_⟩:=c
   have:=Heap.lt_size b1
   have:=Heap.lt_size c1
   have:=Heap.lt_size e1
   have:=Heap.lt_size e2
   simp only [List.mem_cons,List.not_mem_nil,or_false,not_or]
   exact ⟨Nat.ne_of_gt hlt,Nat.ne_of_gt (Heap.lt_size e1),Nat.ne_of_gt (Heap.lt_size e2),Nat.ne_of_gt (Heap.lt_size b1),Nat.ne_of_gt (Heap.lt_size c1)⟩
  ·have hT:s.TypeIs (.ref z) "zip":=⟨_,e2,rfl⟩
   unfold pyNext
   refine wpAny_bind (wpAny_attempt (wpAny_callSpecial?_slot (name:=Str.ofString "__next__") hT F.slot_zip_next (wpAny_call_entry F.slot_zip_next hT F.entry_zip_next (nJ D dw1 dw2 e2 e3 a b c l1 l2 fun x y h' tk px py g1 g2 g4 g5 g6 g8=>wpAny_pure ?_) (F.args_zip_next_1 _))))
   obtain ⟨k,v,q1,q2,q3⟩:=get x y px py
   obtain ⟨oT,hoT⟩:=e3
   refine hQ _ k v x y h' tk q1 q2 q3 ⟨_,g6,rfl,_,rfl⟩ ⟨g2,g4,g5,?_⟩ fun b' o hb q=>g8 b' o (fun z=>hb (by simp [z])) (fun z=>hb (by simp [z])) (fun z=>hb (by simp [z])) q
   have e1':=e1
   simp only [List.mem_cons,List.not_mem_nil,or_false,not_or] at e1'
   exact .inr ⟨T,true,e1,g1,oT,g8 T oT e1'.2.1 e1'.2.2.2.1 e1'.2.2.2.2 hoT⟩
 done:=fun s Q E st hQ=>by
  obtain ⟨a,b,c,e⟩:=st
  have lk:ks.length=xs.size:=by have:=rk.length;simpa using this
  have lv:vs.length=ys.size:=by have:=rv.length;simpa using this
  have dw1:=d9 (prog:=prog) (w:=w) (A:=A.in1) hh i1 t n1 xs
  have dw2:=d9 (prog:=prog) (w:=w) (A:=A.in1) hh i2 u n2 ys
  have hend:(ks.zip vs).length=xs.size∨((ks.zip vs).length < xs.size∧(ks.zip vs).length=ys.size):=by rw [List.length_zip];omega
  have kp:∀ {h':Heap},(∀ c o,c≠z→c≠TO→c≠i1→c≠i2→s.heap.get? c=some o→h'.get? c=some o)→∀ b o,b∉[z,TO,i1,i2]→s.heap.get? b=some o→h'.get? b=some o:=fun k b' o hb q=>k b' o (fun z=>hb (by simp [z])) (fun z=>hb (by simp [z])) (fun z=>hb (by simp [z])) (fun z=>hb (by simp [z])) q
  rcases e with ⟨e1,x0,y0,e2⟩ | ⟨T,fl,e1,e2,e3⟩
  ·exact qu D dw1 dw2 e1 (.inl rfl) a e2 b c hend fun h' tk k=>hQ h' tk (kp k)
  ·have hT:s.TypeIs (.ref z) "zip":=⟨_,e2,rfl⟩
   unfold pyNext
   refine wpAny_bind (wpAny_attempt (wpAny_callSpecial?_slot (name:=Str.ofString "__next__") hT F.slot_zip_next (wpAny_call_entry F.slot_zip_next hT F.entry_zip_next (pv D dw1 dw2 e2 e3 a b c hend fun h' e tk k he=>?_) (F.args_zip_next_1 _))))
   obtain ⟨o,ho,hc⟩:=he
   exact wpAny_bind (wpAny_isInstance (T:="StopIteration") (b:=true) ⟨o,ho,hc⟩ isSubtype_stop (wpAny_pure (hQ _ tk (kp k))))
def tDZ (ta:TA):TE:=fun σ H Q=>ta σ H fun vs H1=>∃ t u ks ys,vs=[.ref t,.ref u]∧H1 t=some (.tup (List.map kV ks))∧H1 u=some (.tup ys)∧(ks.zip ys).length≤100000∧∀ p,H1 p=none→Q (.ref p) (upd H1 p (.dK (cM [] (ks.zip ys))))
section
variable {X:Cx}
theorem sG {a b:Expr} {ta:TA} {p1 p2 pos1 pos2:Pos} (hc:X.calm=true) (hgd:Gl X "dict") (hmd:X.mg "dict"=none) (hgz:Gl X "zip") (hmz:X.mg "zip"=none) (hbd:bootBuiltins "dict"=some (.type "dict")) (hbz:bootBuiltins "zip"=some (.type "zip")) (ha:PA X [a,b] ta)
  (hs:starEach [a,b] X.env=[(false,eval a X.env),(false,eval b X.env)]:=by rfl) (hs2:starEach [b] X.env=[(false,eval b X.env)]:=by rfl)
  (hs3:starEach [Expr.Call (.Name "zip" p2) [a,b] [] pos2] X.env=(false,eval (Expr.Call (.Name "zip" p2) [a,b] [] pos2) X.env) :: starEach [] X.env:=by rfl) :
  PE X (.Call (.Name "dict" p1) [.Call (.Name "zip" p2) [a,b] [] pos2] [] pos1) (tDZ ta):=by
 intro pins s σ H Q I h
 refine Call_ (cq I hgd hmd hbd (PyProof.Rows.callWith_type1 ?_ hs3 rfl))
 rw [hs3]
 show wpAny _ _ (spliced ((false,eval (Expr.Call (.Name "zip" p2) [a,b] [] pos2) X.env) :: backTo pos1 (starEach [] X.env))) _ _ s
 refine Calls.spliced_cons ?_
 refine Call_ (cq I hgz hmz hbz (PyProof.Rows.callWith_type1 (thn (ha pos2 pins s σ H _ I h) fun us s1 ⟨vs,H1,I1,r1,t,u,ks,ys,ev,ht,hu,hl,q⟩=>?_) (by rw [hs,hs2]) (by rw [hs2];rfl)))
 subst ev
 obtain ⟨ut,uu,rfl,rt,ru⟩:=r1.two
 cases rt
 cases ru
 obtain ⟨xs,rx,px,hzx⟩:=I1.tuple (SqT.of (K:=X.K) ht)
 obtain ⟨zs,rz,pz,hzz⟩:=I1.tuple (SqT.of (K:=X.K) hu)
 have hh:X.A.handled=none:=I.ok.hd hc
 have lt:=px.lt
 have lu:=pz.lt
 refine nK (show s1.heap.IsTuple t xs.toArray from px) (show s1.heap.IsTuple u zs.toArray from pz) fun h1 z1 z2 z3 z4 z5 k1=>?_
 refine wpAny_pure ?_
 generalize hN:s1.heap.objs.size=N at *
 have ht':∀ c∈[N+4,N+2,N+3,N,N+1],t≠c:=fun c hc e=>by
  simp only [List.mem_cons,List.not_mem_nil,or_false] at hc
  have:N≤c:=by rcases hc with z | z | z | z | z<;>(rw [z];first | exact Nat.le_refl _ | exact Nat.le_add_right _ _)
  exact Nat.lt_irrefl _ (Nat.lt_of_lt_of_le lt (e ▸ this))
 have hu':∀ c∈[N+4,N+2,N+3,N,N+1],u≠c:=fun c hc e=>by
  simp only [List.mem_cons,List.not_mem_nil,or_false] at hc
  have:N≤c:=by rcases hc with z | z | z | z | z<;>(rw [z];first | exact Nat.le_refl _ | exact Nat.le_add_right _ _)
  exact Nat.lt_irrefl _ (Nat.lt_of_lt_of_le lu (e ▸ this))
 have I2:Inv X pins σ H1 { s1 with heap:=h1 }:=I1.kept (t':=s1.toks) k1
 have big:N+4 < h1.objs.size:=Heap.lt_size z1
 have t1:h1.IsTuple t xs.toArray:=by obtain ⟨o,e,r⟩:=px;exact ⟨o,k1 _ _ e,r⟩
 have u1:h1.IsTuple u zs.toArray:=by obtain ⟨o,e,r⟩:=pz;exact ⟨o,k1 _ _ e,r⟩
 have up:∀ {g:Heap} {s':Shared},(∀ b o,h1.get? b=some o→s'.heap.get? b=some o)→StZ h1.objs.size (N+4) (N+2) (N+3) N (N+1) (fun i h=>h.IsTupleIter N t i∧h.IsTuple t xs.toArray) (fun i h=>h.IsTupleIter (N+1) u i∧h.IsTuple u zs.toArray) 0 s'.heap:=fun k=>
  ⟨k _ _ z2,⟨z4.at fun o e=>k _ o e,t1.at fun o e=>k _ o e⟩,⟨z5.at fun o e=>k _ o e,u1.at fun o e=>k _ o e⟩,.inl ⟨k _ _ z1,_,_,k _ _ z3⟩⟩
 have hd:h1.objs.size∉[N+4,N+2,N+3,N,N+1,t,u]:=fun h=>by
  simp only [List.mem_cons,List.not_mem_nil,or_false] at h
  have:=t1
  obtain ⟨o,e,_⟩:=t1
  obtain ⟨o2,e2,_⟩:=u1
  have a1:=Heap.lt_size e
  have a2:=Heap.lt_size e2
  have a3:=Heap.lt_size z2
  have a4:=Heap.lt_size z3
  obtain ⟨o3,e3,_⟩:=z4
  obtain ⟨o4,e4,_⟩:=z5
  have a5:=Heap.lt_size e3
  have a6:=Heap.lt_size e4
  rcases h with z | z | z | z | z | z | z
  ·rw [← z] at big;exact Nat.lt_irrefl _ big
  ·rw [← z] at a3;exact Nat.lt_irrefl _ a3
  ·rw [← z] at a4;exact Nat.lt_irrefl _ a4
  ·rw [← z] at a5;exact Nat.lt_irrefl _ a5
  ·rw [← z] at a6;exact Nat.lt_irrefl _ a6
  ·rw [← z] at a1;exact Nat.lt_irrefl _ a1
  ·rw [← z] at a2;exact Nat.lt_irrefl _ a2
 refine qX (s:={ s1 with heap:=h1 }) (T:="zip") hh hl (fun s' k=>⟨_,k _ _ z1,rfl⟩) (by decide) (fun s' A' E' Q' k hA hQ'=>wZ (k _ _ z1) hA hQ') (fun s' A' E' Q' k _ hQ'=>wpAny_pyIter_zip (k _ _ z1) (hQ' (N+4) [N+4,N+3,N,N+1] _ s'.heap s'.toks (fun _ _ e=>e) (up (g:=h1) k) (fun b o hb _=>hb)
  (fun A' hA=>zQ hA (iV ht' hu') (ht' N (by simp)) (hu' (N+1) (by simp)) hd (by simpa using rx) (by simpa using rz)))) fun h3 t3 kvs3 d3 r3 k3=>?_
 have hw:∀ b o,s1.heap.get? b=some o→b∉[N+4,N+3,N,N+1]:=fun b o e hb=>by
  have lb:=Heap.lt_size e
  rw [hN] at lb
  simp only [List.mem_cons,List.not_mem_nil,or_false] at hb
  rcases hb with z | z | z | z<;>rw [z] at lb
  ·exact absurd lb (Nat.not_lt_of_le (Nat.le_add_right _ _))
  ·exact absurd lb (Nat.not_lt_of_le (Nat.le_add_right _ _))
  ·exact Nat.lt_irrefl _ lb
  ·exact absurd lb (Nat.not_lt_of_le (Nat.le_add_right _ _))
 have sz:(cM [] (ks.zip ys)).length≤sizeLine:=by
  have:=fZ (ks.zip ys) []
  rw [List.length_nil] at this
  rw [sizeLine_eq]
  omega
 have hle:s1.heap.objs.size≤h1.objs.size:=by rw [hN];exact Nat.le_of_lt (Nat.lt_of_le_of_lt (Nat.le_add_right _ _) big)
 exact ⟨.ref h1.objs.size,_,I1.laid (t':=t3) (a:=h1.objs.size) (o:=.dK (cM [] (ks.zip ys))) (fun b o e=>k3 b o (hw b o e) (k1 b o e)) hle (vS sz (beq_eq_false_iff_ne.mpr (Ne.symm (Nat.ne_of_lt (Nat.lt_of_lt_of_le I1.big hle)))) r3 d3),rfl,q _ (I1.hok.fresh hle)⟩
end
def kI:List D→Option (List Key)
 | []=>some []
 | x :: r=>(match fX x,kI r with
  | some k,some l=>some (k :: l)
  | _,_=>none)
def fDZ (zs:List Vl) (S:Sto):R Vl:=match zs with
 | [.d (.tup xs),.d (.tup ys)]=>(match kI xs with
  | some ks=>if (ks.zip ys).length≤100000 then .ok (.r S.length) (S++[.dct (dW [] (ks.zip ys))]) else .bad
  | none=>.bad)
 | _=>.bad
theorem pH {G:Hp}:∀ {vs:List V} {xs:List D} {ks:List Key},ax G vs xs→kI xs=some ks→vs=ks.map kV∧ks.length=xs.length
 | _,_,_,.nil,e=>by cases e;exact ⟨rfl,rfl⟩
 | _,_,ks,.cons r t,e=>by
  simp only [kI] at e
  split at e
  ·rename_i k l hk hl
   cases e
   obtain ⟨h1,h2⟩:=pH t hl
   exact ⟨by rw [List.map_cons,iS r hk,h1],by simp [h2]⟩
  ·cases e
theorem o8 {G:Hp}:∀ (ks:List Key) {vs:List V} {ys:List D},ax G vs ys→∃ us,us.length=(ks.zip ys).length∧ks.zip vs=((ks.zip ys).map (·.1)).zip us∧ax G us ((ks.zip ys).map (·.2))
 | [],_,_,_=>⟨[],rfl,rfl,.nil⟩
 | _ :: _,_,_,.nil=>⟨[],rfl,rfl,.nil⟩
 | k :: ks,_,_,.cons (v:=v) r t=>by
  obtain ⟨us,l,e,rs⟩:=o8 ks t
  exact ⟨v :: us,by simp [l],by simp [e],.cons r rs⟩
section
variable {X:Cx} {WE:WX}
theorem mN {a b:Expr} {ts:XA} {p1 p2 pos1 pos2:Pos} (hc:X.calm=true) (hgd:Gl X "dict") (hmd:X.mg "dict"=none) (hgz:Gl X "zip") (hmz:X.mg "zip"=none) (hbd:bootBuiltins "dict"=some (.type "dict")) (hbz:bootBuiltins "zip"=some (.type "zip")) (ha:RA X WE [a,b] ts)
  (hs:starEach [a,b] X.env=[(false,eval a X.env),(false,eval b X.env)]:=by rfl) (hs2:starEach [b] X.env=[(false,eval b X.env)]:=by rfl)
  (hs3:starEach [Expr.Call (.Name "zip" p2) [a,b] [] pos2] X.env=(false,eval (Expr.Call (.Name "zip" p2) [a,b] [] pos2) X.env) :: starEach [] X.env:=by rfl) :
  RE X WE (.Call (.Name "dict" p1) [.Call (.Name "zip" p2) [a,b] [] pos2] [] pos1) (xN fDZ ts):=
 ⟨(sG hc hgd hmd hgz hmz hbd hbz ha.h hs hs2 hs3).weak fun σ H Q ⟨μ,S,τ,hr,sr,p⟩=>⟨μ,S,τ,hr,sr,p.bind fun vs zs S1 μ1 H1 st1 r1 p1=>by
  unfold fDZ at p1
  split at p1
  ·rename_i xs ys
   split at p1
   ·rename_i ks hk
    split at p1
    ·rename_i hl
     cases r1 with
     | cons ra r1=>cases r1 with
      | cons rb r1=>
       cases r1
       obtain ⟨a1,us,rfl,h1,g1,rs1⟩:=fi ra
       obtain ⟨a2,ws,rfl,h2,g2,rs2⟩:=fi rb
       obtain ⟨ek,lk⟩:=pH rs1 hk
       subst ek
       have lw:=rs2.length
       refine ⟨a1,a2,ks,ws,rfl,h1,h2,?_,fun q hq=>?_⟩
       ·rw [List.length_zip] at hl ⊢;omega
       ·obtain ⟨vs2,l2,e2,r2⟩:=o8 ks rs2
        obtain ⟨us3,l3,e3,r3⟩:=pd (kvs:=[]) (ws:=[]) r2 ax.nil
        have e4:cM [] (ks.zip ws)=((dW [] (ks.zip ys)).map (·.1)).zip us3:=by rw [e2];exact e3
        rw [e4]
        exact p1 _ _ _ (Step.alloc st1.hr hq (ob:=.dct (dW [] (ks.zip ys))) ⟨us3,l3,rfl,r3⟩) ⟨by rw [cN],by simp⟩
    ·exact p1.elim
   ·exact p1.elim
  ·exact p1.elim⟩⟩
end
set_option maxRecDepth 100000
inductive m6 (H:Hp):List V→List (Key×V)→Prop
 | nil:m6 H [] []
 | cons {T:Addr} {k:Key} {v:V} {vs:List V} {ps:List (Key×V)}:H T=some (.tup [kV k,v])→m6 H vs ps→m6 H (.ref T :: vs) ((k,v) :: ps)
section
variable {prog:Program} {w:World} {A:Around} {E:Value→Shared→Prop} {s:Shared} {z TI TO i1 i2:Addr} {fp1 fp2:List Addr} {n1 n2 k:Nat} {P1 P2:Nat→Value→Prop} {S1 S2:Nat→Heap→Prop}
theorem lD {own:Value} {fl:Bool} {Q:Value→Shared→Prop} (hz:cK s.heap z TI TO own fl) (h:Q (.ref z) s):wpAny (model prog w) A (pyIter (.ref z)) Q E s:=by
 have hT:s.TypeIs (.ref z) "zip":=⟨_,hz,rfl⟩
 refine wpAny_pyIter_slot hT F.slot_zip_iter (wpAny_call_entry F.slot_zip_iter hT F.entry_zip_iter ?_ (F.args_zip_iter_1 _))
 show wpAny _ _ (ret (.ref z)) _ _ s
 exact wpAny_pure ⟨_,rfl,"zip",_,hT,F.slot_zip_next.lookup,h⟩
def m8 (h:Heap) (z TI TO:Addr):Prop:=(∃ own fl,cK h z TI TO own fl∧(own=.none∨∃ T:Addr,own=rawInt T))∧∃ a b,IsPair h TO a b
theorem j4 {Q:Option Value→Shared→Prop} (D:b_ z TI TO i1 i2 fp1 fp2) (D1:Draws prog w A.in1 i1 fp1 n1 P1 S1) (D2:Draws prog w A.in1 i2 fp2 n2 P2 S2) (hz:m8 s.heap z TI TO) (hTI:IsPair s.heap TI (.ref i1) (.ref i2))
  (h1:S1 k s.heap) (h2:S2 k s.heap) (l1:k < n1) (l2:k < n2)
  (hQ:∀ x y h' tk,P1 k x→P2 k y→m8 h' z TI TO→IsPair h' TI (.ref i1) (.ref i2)→S1 (k+1) h'→S2 (k+1) h'→IsPair h' s.heap.objs.size x y →
   (∀ c o,c≠z→c≠TO→c≠i1→c≠i2→s.heap.get? c=some o→h'.get? c=some o)→Q (some (.ref s.heap.objs.size)) { s with heap:=h',toks:=tk }) :
  wpAny (model prog w) A (pyNext (.ref z)) Q E s:=by
 obtain ⟨⟨own,fl,hz,ho⟩,a,b,hTO⟩:=hz
 have free:i7 s.heap own→wpAny (model prog w) A (pyNext (.ref z)) Q E s:=fun hf=>
  nI D D1 D2 hz hf hTI hTO h1 h2 l1 l2 fun x y h' tk a1 a2 a3 a4 a5 a6 a7 a8 _ a10=>hQ x y h' tk a1 a2 ⟨⟨_,false,a3,.inr ⟨_,rfl⟩⟩,_,_,a5⟩ a4 a6 a7 a8 a10
 rcases ho with rfl | ⟨T,rfl⟩
 ·exact free (.inl rfl)
 ·cases hT:s.heap.get? T with
  | none=>exact free (.inr ⟨T,rfl,hT⟩)
  | some o=>
   have ty:s.TypeIs (.ref z) "zip":=⟨_,hz,rfl⟩
   unfold pyNext
   refine wpAny_bind (wpAny_attempt (wpAny_callSpecial?_slot (name:=Str.ofString "__next__") ty F.slot_zip_next (wpAny_call_entry F.slot_zip_next ty F.entry_zip_next (nJ D D1 D2 hz ⟨o,hT⟩ hTI h1 h2 l1 l2 fun x y h' tk px py g1 g2 g4 g5 g6 g8=>wpAny_pure ?_) (F.args_zip_next_1 _))))
   exact hQ x y h' tk px py ⟨⟨_,true,g1,.inr ⟨T,rfl⟩⟩,_,_,g8 _ _ D.TOz D.TOi1 D.TOi2 hTO⟩ g2 g4 g5 g6 fun c o c1 _ c3 c4 q=>g8 c o c1 c3 c4 q
theorem lN {Q:Option Value→Shared→Prop} (D:b_ z TI TO i1 i2 fp1 fp2) (D1:Draws prog w A.in1 i1 fp1 n1 P1 S1) (D2:Draws prog w A.in1 i2 fp2 n2 P2 S2) (hz:m8 s.heap z TI TO) (hTI:IsPair s.heap TI (.ref i1) (.ref i2))
  (h1:S1 k s.heap) (h2:S2 k s.heap) (hend:k=n1∨(k < n1∧k=n2))
  (hQ:∀ h' tk,(∀ c o,c≠z→c≠TO→c≠i1→c≠i2→s.heap.get? c=some o→h'.get? c=some o)→Q none { s with heap:=h',toks:=tk }):wpAny (model prog w) A (pyNext (.ref z)) Q E s:=by
 obtain ⟨⟨own,fl,hz,ho⟩,a,b,hTO⟩:=hz
 have free:i7 s.heap own→wpAny (model prog w) A (pyNext (.ref z)) Q E s:=fun hf=>qu D D1 D2 hz hf hTI hTO h1 h2 hend hQ
 rcases ho with rfl | ⟨T,rfl⟩
 ·exact free (.inl rfl)
 ·cases hT:s.heap.get? T with
  | none=>exact free (.inr ⟨T,rfl,hT⟩)
  | some o=>
   have ty:s.TypeIs (.ref z) "zip":=⟨_,hz,rfl⟩
   unfold pyNext
   refine wpAny_bind (wpAny_attempt (wpAny_callSpecial?_slot (name:=Str.ofString "__next__") ty F.slot_zip_next (wpAny_call_entry F.slot_zip_next ty F.entry_zip_next (pv D D1 D2 hz ⟨o,hT⟩ hTI h1 h2 hend fun h' e tk k he=>?_) (F.args_zip_next_1 _))))
   obtain ⟨o,ho,hc⟩:=he
   exact wpAny_bind (wpAny_isInstance (T:="StopIteration") (b:=true) ⟨o,ho,hc⟩ isSubtype_stop (wpAny_pure (hQ _ tk k)))
end
theorem uR {P:Program} {w:World} {K:PySem.W.Frag} {nm:Str} {tp:Pos} (t u N:Addr) :
  Turn P w K (.Name nm tp) (Itz t u) [N+4,N+2,N+3,N,N+1] (N+4)
   (fun i h=>m8 h (N+4) (N+2) (N+3)∧IsPair h (N+2) (.ref N) (.ref (N+1))∧h.IsTupleIter N t i∧h.IsTupleIter (N+1) u i) where
 mem:=by simp
 obj:=fun i h st b hb=>by
  obtain ⟨⟨⟨own,fl,h1,_⟩,x,y,h3⟩,h2,⟨o4,h4,_,d4⟩,⟨o5,h5,_,d5⟩⟩:=st
  simp only [List.mem_cons,List.not_mem_nil,or_false] at hb
  rcases hb with z | z | z | z | z
  ·rw [z];exact ⟨_,h1,fun v z=>by
    have z':Data.fields _=Data.cell v:=z
    cases z'⟩
  ·rw [z];exact ⟨_,h2,fun v z=>by
    have z':Data.seq _ _=Data.cell v:=z
    cases z'⟩
  ·rw [z];exact ⟨_,h3,fun v z=>by
    have z':Data.seq _ _=Data.cell v:=z
    cases z'⟩
  ·rw [z];exact ⟨o4,h4,fun v z=>by rw [d4] at z;cases z⟩
  ·rw [z];exact ⟨o5,h5,fun v z=>by rw [d5] at z;cases z⟩
 keep:=fun i h h' st k=>by
  obtain ⟨⟨⟨own,fl,h1,ho⟩,x,y,h3⟩,h2,h4,h5⟩:=st
  exact ⟨⟨⟨own,fl,k _ (by simp) _ h1,ho⟩,x,y,k _ (by simp) _ h3⟩,k _ (by simp) _ h2,h4.at fun o q=>k _ (by simp) o q,h5.at fun o q=>k _ (by simp) o q⟩
 item:=by
  intro X hP hw hK hc i pins s σ H E I hf st hg
  subst hP hw hK
  obtain ⟨h1,h2,h4,h5⟩:=st
  obtain ⟨xs,ys,x,y,hx,hy,ex,ey⟩:=hg
  obtain ⟨its,rv,p,hz⟩:=I.tuple (SqT.of hx)
  obtain ⟨its2,rv2,p2,hz2⟩:=I.tuple (SqT.of hy)
  obtain ⟨a,ha,ra⟩:=rv.get ex
  obtain ⟨b,hb,rb⟩:=rv2.get ey
  have D0:=iV (N:=N) (t:=t) (u:=u) (fun c hc e=>by rw [e,(hf c hc).1] at hx;cases hx) (fun c hc e=>by rw [e,(hf c hc).1] at hy;cases hy)
  have hA:X.A.in1.handled=none:=I.ok.hd hc
  have tn:t≠N:=fun e=>by rw [e,(hf N (by simp)).1] at hx;cases hx
  have un:u≠N+1:=fun e=>by rw [e,(hf (N+1) (by simp)).1] at hy;cases hy
  have la:i < its.toArray.size:=by
   have:=(List.getElem?_eq_some_iff.mp ha).1
   simpa using this
  have lb:i < its2.toArray.size:=by
   have:=(List.getElem?_eq_some_iff.mp hb).1
   simpa using this
  refine j4 D0 (d9 (prog:=X.prog) (w:=X.w) hA N t tn its.toArray) (d9 (prog:=X.prog) (w:=X.w) hA (N+1) u un its2.toArray) h1 h2 ⟨h4,p⟩ ⟨h5,p2⟩ la lb fun x' y' g1 tk px py z1 z2 z4 z5 z6 k1=>?_
  obtain rfl:x'=a:=by
   have e:its.toArray[i]?=some x':=px
   rw [List.getElem?_toArray,ha] at e
   exact (Option.some.inj e).symm
  obtain rfl:y'=b:=by
   have e:its2.toArray[i]?=some y':=py
   rw [List.getElem?_toArray,hb] at e
   exact (Option.some.inj e).symm
  refine ⟨_,rfl,wpAny_pure ?_⟩
  have k2:∀ c o,c∉[N+4,N+2,N+3,N,N+1]→s.heap.get? c=some o→g1.get? c=some o:=fun c o hc q=>k1 c o (fun z=>hc (by simp [z])) (fun z=>hc (by simp [z])) (fun z=>hc (by simp [z])) (fun z=>hc (by simp [z])) q
  have I2:Inv X pins σ (upd H s.heap.objs.size (.tup [x,y])) { s with heap:=g1,toks:=tk }:=by
   refine I.je (fp:=[N+4,N+2,N+3,N,N+1]) (Nat.le_refl _) k2 hf ?_
   exact ⟨by show 2≤sizeLine;decide,[x',y'],.cons ra (.cons rb .nil),⟨_,z6,rfl,_,rfl⟩⟩
  refine ⟨.ref s.heap.objs.size,_,I2,rfl,⟨s.heap.objs.size,x,y,I.hok.fresh (Nat.le_refl _),rfl,rfl,fun zs hy=>?_,fun zs hy'=>?_⟩,⟨z1,z2,z4.1,z5.1⟩,fun b hb=>?_⟩
  ·rw [hx] at hy;cases hy;exact ex
  ·rw [hy] at hy';cases hy';exact ey
  ·have hlt:b < s.heap.objs.size:=by
    obtain ⟨⟨own,fl,q1,_⟩,x,y,q3⟩:=h1
    simp only [List.mem_cons,List.not_mem_nil,or_false] at hb
    rcases hb with z | z | z | z | z
    ·rw [z];exact Heap.lt_size q1
    ·rw [z];exact Heap.lt_size h2
    ·rw [z];exact Heap.lt_size q3
    ·obtain ⟨o,q,_⟩:=h4;rw [z];exact Heap.lt_size q
    ·obtain ⟨o,q,_⟩:=h5;rw [z];exact Heap.lt_size q
   rw [aS (Nat.ne_of_lt hlt)]
   exact (hf b hb).1
 done:=by
  intro X hP hw hK hc i pins s σ H E I hf st hg
  subst hP hw hK
  obtain ⟨h1,h2,h4,h5⟩:=st
  obtain ⟨xs,ys,hx,hy,lx,ly,hend⟩:=hg
  obtain ⟨its,rv,p,hz⟩:=I.tuple (SqT.of hx)
  obtain ⟨its2,rv2,p2,hz2⟩:=I.tuple (SqT.of hy)
  have D0:=iV (N:=N) (t:=t) (u:=u) (fun c hc e=>by rw [e,(hf c hc).1] at hx;cases hx) (fun c hc e=>by rw [e,(hf c hc).1] at hy;cases hy)
  have hA:X.A.in1.handled=none:=I.ok.hd hc
  have tn:t≠N:=fun e=>by rw [e,(hf N (by simp)).1] at hx;cases hx
  have un:u≠N+1:=fun e=>by rw [e,(hf (N+1) (by simp)).1] at hy;cases hy
  have l1:=rv.length
  have l2:=rv2.length
  refine lN D0 (d9 (prog:=X.prog) (w:=X.w) hA N t tn its.toArray) (d9 (prog:=X.prog) (w:=X.w) hA (N+1) u un its2.toArray) h1 h2 ⟨h4,p⟩ ⟨h5,p2⟩ ?_ fun h' tk hk=>⟨rfl,?_⟩
  ·simp only [List.size_toArray]
   omega
  ·refine I.sE (fp:=[N+4,N+2,N+3,N,N+1]) (fun c o hc q=>?_) hf
   exact hk c o (fun z=>hc (by simp [z])) (fun z=>hc (by simp [z])) (fun z=>hc (by simp [z])) (fun z=>hc (by simp [z])) q
 self:=fun _ _ _ _ _ st h=>by
  obtain ⟨⟨⟨own,fl,q1,_⟩,_⟩,_⟩:=st
  exact lD q1 h
set_option maxRecDepth 100000
section
variable {prog:Program} {w:World} {A:Around} {E:Value→Shared→Prop} {s:Shared}
abbrev wTT (h:Heap) (t u:Addr):Heap:=zL (zL h t) u
abbrev wPI (h:Heap) (t u:Addr):Heap:=(wTT h t u).push { cls:=.type "tuple",data:=.seq #[.ref h.objs.size,.ref (zL h t).objs.size] }
abbrev wPO (h:Heap) (t u:Addr):Heap:=(wPI h t u).push { cls:=.type "tuple",data:=.seq #[.none,.none] }
abbrev mU (h:Heap) (t u:Addr):Heap:=(wPO h t u).push { cls:=.type "zip",data:=.fields #[.none,.bool false,.bool false,.ref (wTT h t u).objs.size,.ref (wPI h t u).objs.size] }
theorem w_ (t u:Addr) (xs ys:Array Value):Meets (Builtin.«zip.__new__» ⟨[.type "zip",.ref t,.ref u],[]⟩) (fun _ R s=>s.heap.IsList t xs∧s.heap.IsList u ys∧R (.ok (.ret (.ref (wPO s.heap t u).objs.size))) { s with heap:=mU s.heap t u }):=
 .of_wp fun prog w A R s h=>by
  obtain ⟨hp,g,d,tk,os⟩:=s
  obtain ⟨ht,hu,h⟩:=h
  have hsub:=sub_zip
  have h1:Heap.IsList (Shared.heap ⟨hp,g,d,tk,os⟩) t xs:=ht
  have h2:Heap.IsList (Shared.heap ⟨hp.push { cls:=.type "list_iterator",data:=.fields #[.ref t,.int 0 0] },g,d,tk,os⟩) u ys:=by
   obtain ⟨o,e,r⟩:=hu
   exact ⟨o,Heap.get?_push_of_some _ e,r⟩
  wp_walk using wpAny_pyIter_list h1,wpAny_pyIter_list h2
  exact ⟨_,rfl,h⟩
theorem nH {t u:Addr} {xs ys:Array Value} {Q:Value→Shared→Prop} (ht:s.heap.IsList t xs) (hu:s.heap.IsList u ys)
  (h:∀ h',IsZip h' (s.heap.objs.size+4) (s.heap.objs.size+2) (s.heap.objs.size+3) .none→IsPair h' (s.heap.objs.size+2) (.ref s.heap.objs.size) (.ref (s.heap.objs.size+1))→IsPair h' (s.heap.objs.size+3) .none .none →
   h'.IsListIter s.heap.objs.size t 0→h'.IsListIter (s.heap.objs.size+1) u 0→(∀ c o,s.heap.get? c=some o→h'.get? c=some o)→Q (.ref (s.heap.objs.size+4)) { s with heap:=h' }) :
  wpAny (model prog w) A (call (.type "zip") [.ref t,.ref u]) Q E s:=by
 refine callType_new F.called_zip (by decide) (F.typeCall_zip_2 _ _) (F.newCall_zip_2 _ _) (fun obj=>F.args_object_init_3 obj _ _) F.entry_zip_new (w_ t u xs ys) ⟨ht,hu,?_⟩
 have s1:(zL s.heap t).objs.size=s.heap.objs.size+1:=Heap.size_push ..
 have s2:(wTT s.heap t u).objs.size=s.heap.objs.size+2:=by rw [Heap.size_push,s1]
 have s3:(wPI s.heap t u).objs.size=s.heap.objs.size+3:=by rw [Heap.size_push,s2]
 have s4:(wPO s.heap t u).objs.size=s.heap.objs.size+4:=by rw [Heap.size_push,s3]
 have g5:(mU s.heap t u).get? (wPO s.heap t u).objs.size=some _:=Heap.get?_push_size _ rfl
 have g4:(mU s.heap t u).get? (wPI s.heap t u).objs.size=some _:=Heap.get?_push_of_some _ (Heap.get?_push_size _ rfl)
 have g3:(mU s.heap t u).get? (wTT s.heap t u).objs.size=some _:=Heap.get?_push_of_some _ (Heap.get?_push_of_some _ (Heap.get?_push_size _ rfl))
 have g2:(mU s.heap t u).get? (zL s.heap t).objs.size=some _:=Heap.get?_push_of_some _ (Heap.get?_push_of_some _ (Heap.get?_push_of_some _ (Heap.get?_push_size _ rfl)))
 have g1:(mU s.heap t u).get? s.heap.objs.size=some _:=Heap.get?_push_of_some _ (Heap.get?_push_of_some _ (Heap.get?_push_of_some _ (Heap.get?_push_of_some _ (Heap.get?_push_size _ rfl))))
 show _∧_
 rw [s2,s3,s4] at g5
 rw [s1,s2] at g3
 rw [s3] at g4
 rw [s1] at g2
 rw [s4]
 exact ⟨⟨_,g5,rfl⟩,h _ g5 g3 g4 ⟨_,g1,rfl,rfl⟩ ⟨_,g2,rfl,rfl⟩ fun c o q=>Heap.get?_push_of_some _ (Heap.get?_push_of_some _ (Heap.get?_push_of_some _ (Heap.get?_push_of_some _ (Heap.get?_push_of_some _ q))))⟩
end
def Itw (t u:Addr):It:=
  ⟨fun i H=>∃ xs ys x y,H t=some (.lst xs)∧H u=some (.lst ys)∧xs[i]?=some x∧ys[i]?=some y,fun i H v H'=>∃ p x y,H p=none∧v=.ref p∧H'=upd H p (.tup [x,y])∧(∀ xs,H t=some (.lst xs)→xs[i]?=some x)∧∀ ys,H u=some (.lst ys)→ys[i]?=some y,
   fun i H=>∃ xs ys,H t=some (.lst xs)∧H u=some (.lst ys)∧i≤xs.length∧i≤ys.length∧(i=xs.length∨i=ys.length)⟩
theorem vY {P:Program} {w:World} {K:PySem.W.Frag} {nm:Str} {tp:Pos} (t u N:Addr) :
  Turn P w K (.Name nm tp) (Itw t u) [N+4,N+2,N+3,N,N+1] (N+4)
   (fun i h=>m8 h (N+4) (N+2) (N+3)∧IsPair h (N+2) (.ref N) (.ref (N+1))∧h.IsListIter N t i∧h.IsListIter (N+1) u i) where
 mem:=by simp
 obj:=fun i h st b hb=>by
  obtain ⟨⟨⟨own,fl,h1,_⟩,x,y,h3⟩,h2,⟨o4,h4,_,d4⟩,⟨o5,h5,_,d5⟩⟩:=st
  simp only [List.mem_cons,List.not_mem_nil,or_false] at hb
  rcases hb with z | z | z | z | z
  ·rw [z];exact ⟨_,h1,fun v z=>by
    have z':Data.fields _=Data.cell v:=z
    cases z'⟩
  ·rw [z];exact ⟨_,h2,fun v z=>by
    have z':Data.seq _ _=Data.cell v:=z
    cases z'⟩
  ·rw [z];exact ⟨_,h3,fun v z=>by
    have z':Data.seq _ _=Data.cell v:=z
    cases z'⟩
  ·rw [z];exact ⟨o4,h4,fun v z=>by rw [d4] at z;cases z⟩
  ·rw [z];exact ⟨o5,h5,fun v z=>by rw [d5] at z;cases z⟩
 keep:=fun i h h' st k=>by
  obtain ⟨⟨⟨own,fl,h1,ho⟩,x,y,h3⟩,h2,h4,h5⟩:=st
  exact ⟨⟨⟨own,fl,k _ (by simp) _ h1,ho⟩,x,y,k _ (by simp) _ h3⟩,k _ (by simp) _ h2,h4.at fun o q=>k _ (by simp) o q,h5.at fun o q=>k _ (by simp) o q⟩
 item:=by
  intro X hP hw hK hc i pins s σ H E I hf st hg
  subst hP hw hK
  obtain ⟨h1,h2,h4,h5⟩:=st
  obtain ⟨xs,ys,x,y,hx,hy,ex,ey⟩:=hg
  obtain ⟨its,rv,p,hz⟩:=I.list (SqL.of hx)
  obtain ⟨its2,rv2,p2,hz2⟩:=I.list (SqL.of hy)
  obtain ⟨a,ha,ra⟩:=rv.get ex
  obtain ⟨b,hb,rb⟩:=rv2.get ey
  have D0:=iV (N:=N) (t:=t) (u:=u) (fun c hc e=>by rw [e,(hf c hc).1] at hx;cases hx) (fun c hc e=>by rw [e,(hf c hc).1] at hy;cases hy)
  have hA:X.A.in1.handled=none:=I.ok.hd hc
  have tn:t≠N:=fun e=>by rw [e,(hf N (by simp)).1] at hx;cases hx
  have un:u≠N+1:=fun e=>by rw [e,(hf (N+1) (by simp)).1] at hy;cases hy
  have la:i < its.toArray.size:=by
   have:=(List.getElem?_eq_some_iff.mp ha).1
   simpa using this
  have lb:i < its2.toArray.size:=by
   have:=(List.getElem?_eq_some_iff.mp hb).1
   simpa using this
  refine j4 D0 (Draws.list (prog:=X.prog) (w:=X.w) hA N t tn its.toArray) (Draws.list (prog:=X.prog) (w:=X.w) hA (N+1) u un its2.toArray) h1 h2 ⟨h4,p.isList⟩ ⟨h5,p2.isList⟩ la lb fun x' y' g1 tk px py z1 z2 z4 z5 z6 k1=>?_
  obtain rfl:x'=a:=by
   have e:its.toArray[i]?=some x':=px
   rw [List.getElem?_toArray,ha] at e
   exact (Option.some.inj e).symm
  obtain rfl:y'=b:=by
   have e:its2.toArray[i]?=some y':=py
   rw [List.getElem?_toArray,hb] at e
   exact (Option.some.inj e).symm
  refine ⟨_,rfl,wpAny_pure ?_⟩
  have k2:∀ c o,c∉[N+4,N+2,N+3,N,N+1]→s.heap.get? c=some o→g1.get? c=some o:=fun c o hc q=>k1 c o (fun z=>hc (by simp [z])) (fun z=>hc (by simp [z])) (fun z=>hc (by simp [z])) (fun z=>hc (by simp [z])) q
  have I2:Inv X pins σ (upd H s.heap.objs.size (.tup [x,y])) { s with heap:=g1,toks:=tk }:=by
   refine I.je (fp:=[N+4,N+2,N+3,N,N+1]) (Nat.le_refl _) k2 hf ?_
   exact ⟨by show 2≤sizeLine;decide,[x',y'],.cons ra (.cons rb .nil),⟨_,z6,rfl,_,rfl⟩⟩
  refine ⟨.ref s.heap.objs.size,_,I2,rfl,⟨s.heap.objs.size,x,y,I.hok.fresh (Nat.le_refl _),rfl,rfl,fun zs hy=>?_,fun zs hy'=>?_⟩,⟨z1,z2,z4.1,z5.1⟩,fun b hb=>?_⟩
  ·rw [hx] at hy;cases hy;exact ex
  ·rw [hy] at hy';cases hy';exact ey
  ·have hlt:b < s.heap.objs.size:=by
    obtain ⟨⟨own,fl,q1,_⟩,x,y,q3⟩:=h1
    simp only [List.mem_cons,List.not_mem_nil,or_false] at hb
    rcases hb with z | z | z | z | z
    ·rw [z];exact Heap.lt_size q1
    ·rw [z];exact Heap.lt_size h2
    ·rw [z];exact Heap.lt_size q3
    ·obtain ⟨o,q,_⟩:=h4;rw [z];exact Heap.lt_size q
    ·obtain ⟨o,q,_⟩:=h5;rw [z];exact Heap.lt_size q
   rw [aS (Nat.ne_of_lt hlt)]
   exact (hf b hb).1
 done:=by
  intro X hP hw hK hc i pins s σ H E I hf st hg
  subst hP hw hK
  obtain ⟨h1,h2,h4,h5⟩:=st
  obtain ⟨xs,ys,hx,hy,lx,ly,hend⟩:=hg
  obtain ⟨its,rv,p,hz⟩:=I.list (SqL.of hx)
  obtain ⟨its2,rv2,p2,hz2⟩:=I.list (SqL.of hy)
  have D0:=iV (N:=N) (t:=t) (u:=u) (fun c hc e=>by rw [e,(hf c hc).1] at hx;cases hx) (fun c hc e=>by rw [e,(hf c hc).1] at hy;cases hy)
  have hA:X.A.in1.handled=none:=I.ok.hd hc
  have tn:t≠N:=fun e=>by rw [e,(hf N (by simp)).1] at hx;cases hx
  have un:u≠N+1:=fun e=>by rw [e,(hf (N+1) (by simp)).1] at hy;cases hy
  have l1:=rv.length
  have l2:=rv2.length
  refine lN D0 (Draws.list (prog:=X.prog) (w:=X.w) hA N t tn its.toArray) (Draws.list (prog:=X.prog) (w:=X.w) hA (N+1) u un its2.toArray) h1 h2 ⟨h4,p.isList⟩ ⟨h5,p2.isList⟩ ?_ fun h' tk hk=>⟨rfl,?_⟩
  ·simp only [List.size_toArray]
   omega
  ·refine I.sE (fp:=[N+4,N+2,N+3,N,N+1]) (fun c o hc q=>?_) hf
   exact hk c o (fun z=>hc (by simp [z])) (fun z=>hc (by simp [z])) (fun z=>hc (by simp [z])) (fun z=>hc (by simp [z])) q
 self:=fun _ _ _ _ _ st h=>by
  obtain ⟨⟨⟨own,fl,q1,_⟩,_⟩,_⟩:=st
  exact lD q1 h
theorem zi {K:PySem.W.Frag} {mg:Str→Option Value} {μ:Nat→Addr} {S:Sto} {H:Hp} {t u:Addr} {vs us:List V} {xs ys:List D} (g:vh μ S H t=some (.lst vs)) (rs:ax (vh μ S H) vs xs) (g2:vh μ S H u=some (.lst us)) (rs2:ax (vh μ S H) us ys) (hz:vs.length≤sizeLine):fB K mg μ S H (Itw t u) ⟨dk xs ys,none⟩ where
 ok:=True.intro
 len:=by show (dk xs ys).length≤sizeLine;rw [jj];rw [rs.length] at hz;omega
 go:=fun i z μ' S' H' st _ e=>by
  obtain ⟨x,y,e1,e2,_⟩:=iY e
  obtain ⟨a,q1,_⟩:=rs.get' e1
  obtain ⟨b,q2,_⟩:=rs2.get' e2
  exact ⟨vs,us,a,b,(aT (st.vis _ _ g)).2,(aT (st.vis _ _ g2)).2,q1,q2⟩
 yld:=fun i z μ' S' H' v H2 st _ e yy=>by
  obtain ⟨p,a,b,hp,rfl,rfl,y1,y2⟩:=yy
  obtain ⟨x,y,e1,e2,rfl⟩:=iY e
  have q1:=y1 vs (aT (st.vis _ _ g)).2
  have q2:=y2 us (aT (st.vis _ _ g2)).2
  obtain ⟨x',e3,r1⟩:=rs.get q1
  obtain ⟨y',e4,r2⟩:=rs2.get q2
  rw [e1] at e3;cases e3
  rw [e2] at e4;cases e4
  have st2:=Step.new st.hr hp (.tup [a,b])
  exact ⟨st2,Rep.tup (bO bJ (st.hr.nal hp)) (.cons (Rep.mono (st.trans st2).vis r1) (.cons (Rep.mono (st.trans st2).vis r2) .nil))⟩
 stop:=fun i μ' S' H' st _ hi=>by
  replace hi:(dk xs ys).length=i:=hi
  rw [jj] at hi
  have l1:=rs.length
  have l2:=rs2.length
  exact ⟨vs,us,(aT (st.vis _ _ g)).2,(aT (st.vis _ _ g2)).2,by omega,by omega,by omega⟩
def tN (zs:List Vl) (S:Sto):R Its:=match zs with
 | [.d (.tup xs),.d (.tup ys)]=>.ok ⟨dk xs ys,none⟩ S
 | [.d (.lst xs),.d (.lst ys)]=>.ok ⟨dk xs ys,none⟩ S
 | _=>.bad
def oU (as:XA):XI:=fun τ S=>(as τ S).bind tN
section
variable {X:Cx} {WE:WX}
theorem fp5 {N:Nat}:∀ b∈[N+4,N+2,N+3,N,N+1],N≤b:=by
 intro b hb
 simp only [List.mem_cons,List.not_mem_nil,or_false] at hb
 omega
theorem rF {nm:Str} {tp:Pos} {a b:Expr} {xa:XA} {p pos:Pos} (hg:Gl X "zip") (hm:X.mg "zip"=none) (ha:RA X WE [a,b] xa) (hb:bootBuiltins "zip"=some (.type "zip"):=by decide +kernel)
  (hs:starEach [a,b] X.env=[(false,eval a X.env),(false,eval b X.env)]:=by rfl) (hs2:starEach [b] X.env=[(false,eval b X.env)]:=by rfl):RI X WE (.Name nm tp) (.Call (.Name "zip" p) [a,b] [] pos) (oU xa):=⟨by
 intro pins s σ H R I h
 obtain ⟨μ,S,τ,hr,sr,pp⟩:=h
 refine Call_ (cq I hg hm hb (PyProof.Rows.callWith_type1 (thn (ha.h pos pins s σ H (fun vs H1=>∃ μ1 S1 zs,HR μ1 S1 H1∧bK X.K X.mg μ1 S1 H1 vs zs∧bc (fB X.K X.mg) WE μ1 S1 H1 (tN zs S1) R) I ?_) fun us s1 ⟨vs,H1,I1,r1,q1⟩=>?_) (by rw [hs,hs2]) (by rw [hs2];rfl)))
 ·exact ⟨μ,S,τ,hr,sr,pp.bind fun v x S1 μ1 H1 st1 r1 p1=>⟨μ1,S1,x,st1.hr,r1,p1⟩⟩
 ·obtain ⟨μ1,S1,zs,hr1,rz,p1⟩:=q1
  have fp:=fp5 (N:=s1.heap.objs.size)
  unfold tN at p1
  split at p1
  ·rename_i xs ys
   cases rz with
   | cons q1 q2=>cases q2 with
    | cons q2 q3=>
     cases q3
     obtain ⟨u1,u2,rfl,ru,rw'⟩:=r1.two
     cases (show Rep (vh μ1 S1 H1) _ (.tup _) from q1) with
     | @tup t vs1 _ g rs=>
      cases (show Rep (vh μ1 S1 H1) _ (.tup _) from q2) with
      | @tup u vs2 _ g2 rs2=>
       cases ru;cases rw'
       obtain ⟨its,rv,pl,hz⟩:=I1.tuple (SqT.of (aT g).2)
       obtain ⟨its2,rv2,pl2,hz2⟩:=I1.tuple (SqT.of (aT g2).2)
       have q:=p1.here hr1 (A5 g rs g2 rs2 hz)
       refine nK pl pl2 fun h' z1 z2 z3 z4 z5 hk=>?_
       refine wpAny_pyIter_zip (s:={ s1 with heap:=h' }) z1 ?_
       have I2:Inv X pins σ H1 { s1 with heap:=h' }:=I1.kept (t':=s1.toks) hk
       exact ⟨s1.heap.objs.size+4,_,_,_,H1,rfl,I2,uR t u s1.heap.objs.size,⟨⟨⟨_,_,z1,.inl rfl⟩,_,_,z3⟩,z2,z4,z5⟩,fun b hb=>I1.jS (fp b hb) (I1.hok.fresh (fp b hb)),q⟩
  ·rename_i xs ys
   cases rz with
   | cons q1 q2=>cases q2 with
    | cons q2 q3=>
     cases q3
     obtain ⟨u1,u2,rfl,ru,rw'⟩:=r1.two
     cases (show Rep (vh μ1 S1 H1) _ (.lst _) from q1) with
     | @lst t vs1 _ g rs=>
      cases (show Rep (vh μ1 S1 H1) _ (.lst _) from q2) with
      | @lst u vs2 _ g2 rs2=>
       cases ru;cases rw'
       obtain ⟨its,rv,pl,hz⟩:=I1.list (SqL.of (aT g).2)
       obtain ⟨its2,rv2,pl2,hz2⟩:=I1.list (SqL.of (aT g2).2)
       have q:=p1.here hr1 (zi g rs g2 rs2 hz)
       refine nH pl.isList pl2.isList fun h' z1 z2 z3 z4 z5 hk=>?_
       refine wpAny_pyIter_zip (s:={ s1 with heap:=h' }) z1 ?_
       have I2:Inv X pins σ H1 { s1 with heap:=h' }:=I1.kept (t':=s1.toks) hk
       exact ⟨s1.heap.objs.size+4,_,_,_,H1,rfl,I2,vY t u s1.heap.objs.size,⟨⟨⟨_,_,z1,.inl rfl⟩,_,_,z3⟩,z2,z4,z5⟩,fun b hb=>I1.jS (fp b hb) (I1.hok.fresh (fp b hb)),q⟩
  ·exact p1.elim⟩
end
inductive LT (H:Hp):List (V×V)→List Addr→Hp→Prop
 | nil:LT H [] [] H
 | snoc {ps:List (V×V)} {ts:List Addr} {H2:Hp} {p:Addr} {x y:V}:LT H ps ts H2→H2 p=none→LT H (ps++[(x,y)]) (ts++[p]) (upd H2 p (.tup [x,y]))
theorem LT.same {H:Hp} {ps:List (V×V)} {ts:List Addr} {H2:Hp} (h:LT H ps ts H2):dn H H2:=by
 induction h with
 | nil=>exact fun _ _ e=>e
 | snoc _ n ih=>
  intro b o e
  have:=ih b o e
  rw [aS (bo this n)];exact this
section
variable {X:Cx} {pins:List (Addr×Obj)} {σ:St} {H H':Hp} {s:Shared} {h':Heap}
theorem Inv.Ac {t':Nat} (I:Inv X pins σ H s) (k:∀ b u,s.heap.get? b=some u→h'.get? b=some u) (e:dn H H') (new:∀ a o,H' a=some o→H a=some o∨(s.heap.objs.size≤a∧bH X.prog X.w H' h' a o)):Inv X pins σ H' { s with heap:=h',toks:=t' }:=by
 refine I.un (h':=h') ⟨fun b u q _ _ _=>k b u q,fun b u q _ _ _=>⟨u.slots,k b u q⟩,fun b u q n _=>?_,fun b u q _=>⟨u,k b u q⟩,fun b xs q=>e _ _ q,fun b u xs q=>e _ _ q,fun b ps q=>⟨#[],by rw [e _ _ q];simp⟩⟩ fun a o q=>?_
 ·cases z:H' b with
  | none=>rfl
  | some o=>
   rcases new b o z with z1 | ⟨z1,_⟩
   ·rw [n] at z1;cases z1
   ·exact absurd (Heap.lt_size q) (Nat.not_lt_of_le z1)
 ·rcases new a o q with z | ⟨_,z⟩
  ·exact (I.hok a o z).jZ (fun b u _ q=>k b u q) (fun b q=>e _ _ q) fun b xs q=>e _ _ q
  ·exact z
end
section
variable {prog:Program} {w:World} {A:Around} {s:Shared} {R:Result→Shared→Prop}
theorem tR:typeLookup (.type "zip") "__len__"=pure none:=by rw [typeLookup_type,builtinLookup_eq_fast];kernel_rfl
theorem rj:typeLookup (.type "zip") "__length_hint__"=pure none:=by rw [typeLookup_type,builtinLookup_eq_fast];kernel_rfl
def StW (N t u:Addr) (xs ys:Array Value) (i:Nat) (h:Heap):Prop:=m8 h (N+4) (N+2) (N+3)∧IsPair h (N+2) (.ref N) (.ref (N+1))∧(h.IsListIter N t i∧h.IsList t xs)∧(h.IsListIter (N+1) u i∧h.IsList u ys)
theorem StW.keeps {N t u:Addr} {xs ys:Array Value} {i:Nat} {h h1:Heap} (x:StW N t u xs ys i h) (k:∀ b∈[N+4,N+2,N+3,N,N+1,t,u],∀ o,h.get? b=some o→h1.get? b=some o):StW N t u xs ys i h1:=by
 obtain ⟨⟨⟨own,fl,a1,a2⟩,p,q,a3⟩,a4,⟨a5,a6⟩,a7,a8⟩:=x
 exact ⟨⟨⟨own,fl,k _ (by simp) _ a1,a2⟩,p,q,k _ (by simp) _ a3⟩,k _ (by simp) _ a4,⟨a5.at fun o e=>k _ (by simp) o e,a6.at fun o e=>k _ (by simp) o e⟩,a7.at fun o e=>k _ (by simp) o e,a8.at fun o e=>k _ (by simp) o e⟩
theorem StW.lt {N t u:Addr} {xs ys:Array Value} {i:Nat} {h:Heap} (x:StW N t u xs ys i h):∀ b∈[N+4,N+2,N+3,N,N+1,t,u],b < h.objs.size:=by
 obtain ⟨⟨⟨own,fl,a1,a2⟩,p,q,a3⟩,a4,⟨⟨_,a5,_⟩,⟨_,a6,_⟩⟩,⟨_,a7,_⟩,⟨_,a8,_⟩⟩:=x
 intro b hb
 simp only [List.mem_cons,List.not_mem_nil,or_false] at hb
 rcases hb with z | z | z | z | z | z | z<;>rw [z]
 ·exact Heap.lt_size a1
 ·exact Heap.lt_size a4
 ·exact Heap.lt_size a3
 ·exact Heap.lt_size a5
 ·exact Heap.lt_size a7
 ·exact Heap.lt_size a6
 ·exact Heap.lt_size a8
def Ptw (B:Nat) (xs ys:Array Value) (ts:List Addr) (h:Heap):Prop:=∀ (j:Nat) (t:Addr),ts[j]?=some t→B≤t∧∃ x y,xs[j]?=some x∧ys[j]?=some y∧IsPair h t x y
theorem xH {N t u S B:Addr} {xs ys:Array Value} {n:Nat} (hh:A.in1.handled=none) (ht:∀ c∈[N+4,N+2,N+3,N,N+1],t≠c) (hu:∀ c∈[N+4,N+2,N+3,N,N+1],u≠c) (hSf:S∉[N+4,N+2,N+3,N,N+1,t,u])
  (hn:n=min xs.size ys.size) (hb:∀ b∈[N+4,N+2,N+3,N,N+1,t,u],b < B) (hSB:S=B) (hz:n≤100000):∀ (k i:Nat) (s:Shared) (c:Nat) (ts:List Addr),n - i=k→i≤n→StW N t u xs ys i s.heap→s.heap.get? S=some { cls:=.type "list",dict:=none,data:=.seq (ts.map Value.ref).toArray c,slots:=#[] }→ts.length=i→Ptw (B+1) xs ys ts s.heap→ts.Nodup →
  (∀ h' tk ts' c',(∀ b o,b∉[N+4,N+3,N,N+1,S]→b∉ts→s.heap.get? b=some o→h'.get? b=some o)→h'.get? S=some { cls:=.type "list",dict:=none,data:=.seq (ts'.map Value.ref).toArray c',slots:=#[] }→ts'.length=n→Ptw (B+1) xs ys ts' h'→ts'.Nodup→R (.ok (.ret .none)) { s with heap:=h',toks:=tk }) →
  codeAny (model prog w) A (.builtin "list.extend.loop" ⟨[.ref S,.ref (N+4),.none],[]⟩) R s:=by
 have tn:t≠N:=ht N (by simp)
 have un:u≠N+1:=hu (N+1) (by simp)
 have D0:=iV ht hu
 have d1:=Draws.list (prog:=prog) (w:=w) (A:=A.in1.in1) hh N t tn xs
 have d2:=Draws.list (prog:=prog) (w:=w) (A:=A.in1.in1) hh (N+1) u un ys
 intro k
 induction k with
 | zero=>
  intro i s c ts hk hi st hS hl hp nd hR
  have hin:i=n:=by omega
  refine codeAny_builtin F.entry_extend_loop ?_
  rw [Around.under_plainId F.plain_extend_loop _]
  show wpAny _ A.in1 (pyNext (.ref (N+4))>>=_) _ _ s
  obtain ⟨a1,a2,a3,a4⟩:=st
  refine wpAny_bind (lN D0 d1 d2 a1 a2 a3 a4 (by rw [hin,hn];omega) fun h' tk kp=>wpAny_pure (hR h' tk ts c (fun b o hb _ e=>kp b o (fun z=>hb (by simp [z])) (fun z=>hb (by simp [z])) (fun z=>hb (by simp [z])) (fun z=>hb (by simp [z])) e) (kp _ _ (fun z=>hSf (by simp [z])) (fun z=>hSf (by simp [z])) (fun z=>hSf (by simp [z])) (fun z=>hSf (by simp [z])) hS) (by rw [hl,hin]) (fun j t' ej=>?_) nd))
  obtain ⟨q0,x,y,q1,q2,q3⟩:=hp j t' ej
  have nb:∀ b∈[N+4,N+2,N+3,N,N+1,t,u],t'≠b:=fun b hbm=>Nat.ne_of_gt (Nat.lt_of_lt_of_le (hb b hbm) (Nat.le_of_succ_le q0))
  exact ⟨q0,x,y,q1,q2,kp _ _ (nb _ (by simp)) (nb _ (by simp)) (nb _ (by simp)) (nb _ (by simp)) q3⟩
 | succ k ih=>
  intro i s c ts hk hi st hS hl hp nd hR
  have hlt:i < n:=by omega
  refine codeAny_builtin F.entry_extend_loop ?_
  rw [Around.under_plainId F.plain_extend_loop _]
  show wpAny _ A.in1 (pyNext (.ref (N+4))>>=_) _ _ s
  obtain ⟨a1,a2,a3,a4⟩:=st
  refine wpAny_bind (j4 D0 d1 d2 a1 a2 a3 a4 (by omega) (by omega) fun x y h' tk px py g1 g2 g3 g4 g5 kp=>?_)
  have sS:S < s.heap.objs.size:=Heap.lt_size hS
  have hS':=kp _ _ (fun z=>hSf (by simp [z])) (fun z=>hSf (by simp [z])) (fun z=>hSf (by simp [z])) (fun z=>hSf (by simp [z])) hS
  show wpAny _ A.in1 (updateSeq S (·.push (.ref s.heap.objs.size))>>=_) _ _ _
  have oth:∀ b o,b≠S→h'.get? b=some o→(h'.update S (Obj.mapSeq (·.push (Value.ref s.heap.objs.size)))).get? b=some o:=fun b o hb e=>(Heap.get?_update_other _ _ (Ne.symm hb)).trans e
  have nS:∀ b∈[N+4,N+2,N+3,N,N+1,t,u],b≠S:=fun b hb z=>hSf (z ▸ hb)
  have pt:∀ j t',ts[j]?=some t'→t' < s.heap.objs.size:=fun j t' ej=>by
   obtain ⟨_,_,_,_,_,q⟩:=hp j t' ej
   exact Heap.lt_size q
  refine wpAny_bind (wpAny_updateSeq (s:={ s with heap:=h',toks:=tk }) hS' rfl (wpAny_pure ⟨plainId_quiet F.plain_extend_loop _,ih (i+1) _ _ (ts++[s.heap.objs.size]) (by omega) hlt (StW.keeps ⟨g1,g2,g3,g4⟩ fun b hb o e=>oth b o (nS b hb) e) (by rw [List.map_append,List.map_cons,List.map_nil,← List.push_toArray];exact Heap.get?_update_self _ hS' rfl) (by simp [hl]) (fun j t' ej=>?_) ?_ fun h2 tk2 ts' c' k2 q1 q2 q3 q4=>hR h2 tk2 ts' c' (fun b o hb hbt e=>?_) q1 q2 q3 q4⟩) (by simp only [List.size_toArray,List.length_map,hl,sizeLine_eq];omega) (by simp only [List.push_toArray,List.size_toArray,List.length_append,List.length_cons,List.length_nil,List.length_map,hl,sizeLine_eq];omega))
  ·rw [List.getElem?_append] at ej
   split at ej
   ·obtain ⟨q0,x',y',q1,q2,q3⟩:=hp j t' ej
    have nb:∀ b∈[N+4,N+2,N+3,N,N+1,t,u],t'≠b:=fun b hbm=>Nat.ne_of_gt (Nat.lt_of_lt_of_le (hb b hbm) (Nat.le_of_succ_le q0))
    exact ⟨q0,x',y',q1,q2,oth _ _ (fun z=>by rw [z,hSB] at q0;exact Nat.lt_irrefl _ q0) (kp _ _ (nb _ (by simp)) (nb _ (by simp)) (nb _ (by simp)) (nb _ (by simp)) q3)⟩
   ·rename_i hj
    have hj0:j - ts.length=0:=by
     cases e0:j - ts.length with
     | zero=>rfl
     | succ m=>rw [e0] at ej;simp at ej
    rw [hj0] at ej
    obtain rfl:s.heap.objs.size=t':=by simpa using ej
    obtain rfl:j=i:=by omega
    exact ⟨by rw [← hSB];exact sS,x,y,px,py,oth _ _ (Nat.ne_of_gt sS) g5⟩
  ·refine List.nodup_append.mpr ⟨nd,by simp,fun a ha b hb'=>?_⟩
   obtain ⟨j,hj⟩:=List.mem_iff_getElem?.mp ha
   have:=pt j a hj
   simp only [List.mem_cons,List.not_mem_nil,or_false] at hb'
   rw [hb']
   exact Nat.ne_of_lt this
  ·have bl:=Heap.lt_size e
   simp only [List.mem_cons,List.not_mem_nil,or_false,not_or] at hb
   obtain ⟨b4,b3,b0,b1,bS⟩:=hb
   refine k2 b o (by simp only [List.mem_cons,List.not_mem_nil,or_false,not_or];exact ⟨b4,b3,b0,b1,bS⟩) (fun z=>?_) (oth _ _ bS (kp b o b4 b3 b0 b1 e))
   rcases List.mem_append.mp z with z | z
   ·exact hbt z
   ·simp only [List.mem_cons,List.not_mem_nil,or_false] at z
    exact Nat.lt_irrefl _ (z ▸ bl)
end
theorem DT {H:Hp}:∀ (n:Nat) (ts:List Addr) (ps:List (V×V)),ts.length=n→ps.length=n→ts.Nodup→(∀ t∈ts,H t=none)→∃ H2,LT H ps ts H2∧∀ a o,H2 a=some o→H a=some o∨∃ (j:Nat) (x y:V),ts[j]?=some a∧ps[j]?=some (x,y)∧o=.tup [x,y]:=by
 intro n
 induction n with
 | zero=>
  intro ts ps h1 h2 _ _
  obtain rfl:=List.length_eq_zero_iff.mp h1
  obtain rfl:=List.length_eq_zero_iff.mp h2
  exact ⟨H,.nil,fun a o e=>.inl e⟩
 | succ n ih=>
  intro ts ps h1 h2 nd fr
  rcases List.eq_nil_or_concat ts with rfl | ⟨ts',p,rfl⟩
  ·simp at h1
  rcases List.eq_nil_or_concat ps with rfl | ⟨ps',⟨x,y⟩,rfl⟩
  ·simp at h2
  rw [List.concat_eq_append] at h1 nd fr ⊢
  rw [List.concat_eq_append] at h2 ⊢
  have l1:ts'.length=n:=by simpa using h1
  have l2:ps'.length=n:=by simpa using h2
  obtain ⟨nd1,_,nd3⟩:=List.nodup_append.mp nd
  obtain ⟨H2,a1,a2⟩:=ih ts' ps' l1 l2 nd1 fun t ht=>fr t (by simp [ht])
  have hp:H2 p=none:=by
   cases e:H2 p with
   | none=>rfl
   | some o=>
    rcases a2 p o e with z | ⟨j,_,_,z,_⟩
    ·rw [fr p (by simp)] at z;cases z
    ·exact absurd rfl (nd3 p (List.mem_of_getElem? z) p (by simp))
  refine ⟨_,a1.snoc hp,fun a o e=>?_⟩
  by_cases z:a=p
  ·subst z
   rw [bJ] at e
   exact .inr ⟨n,x,y,by rw [List.getElem?_append_right (by omega)];simp [l1],by rw [List.getElem?_append_right (by omega)];simp [l2],(Option.some.inj e).symm⟩
  ·rw [aS z] at e
   rcases a2 a o e with q | ⟨j,x',y',q1,q2,q3⟩
   ·exact .inl q
   ·exact .inr ⟨j,x',y',by rw [List.getElem?_append_left (List.getElem?_eq_some_iff.mp q1).1];exact q1,by rw [List.getElem?_append_left (List.getElem?_eq_some_iff.mp q2).1];exact q2,q3⟩
def tLZ (ta:TA):TE:=fun σ H Q=>ta σ H fun vs H1=>∃ t u xs ys,vs=[.ref t,.ref u]∧H1 t=some (.lst xs)∧H1 u=some (.lst ys)∧(xs.zip ys).length≤100000∧∀ ts H2 l,LT H1 (xs.zip ys) ts H2→H2 l=none→Q (.ref l) (upd H2 l (.lst (ts.map V.ref)))
section
variable {prog:Program} {w:World} {A:Around} {s:Shared} {R:Result→Shared→Prop} {N t u S:Addr} {xs ys:Array Value}
theorem sU {c₀:Nat} (hh:A.in1.handled=none) (ht:∀ c∈[N+4,N+2,N+3,N,N+1],t≠c) (hu:∀ c∈[N+4,N+2,N+3,N,N+1],u≠c) (st:StW N t u xs ys 0 s.heap) (hz:min xs.size ys.size≤100000) (h1:IsZip s.heap (N+4) (N+2) (N+3) .none) (hb:∀ b∈[N+4,N+2,N+3,N,N+1,t,u],b < S)
  (hS:s.heap.get? S=some { cls:=.type "list",data:=.seq #[] c₀ })
  (hR:∀ h' tk (ts:List Addr) c',(∀ b o,b∉[N+4,N+3,N,N+1,S]→s.heap.get? b=some o→h'.get? b=some o)→h'.get? S=some { cls:=.type "list",dict:=none,data:=.seq (ts.map Value.ref).toArray c',slots:=#[] }→ts.length=min xs.size ys.size→Ptw (S+1) xs ys ts h'→ts.Nodup→R (.ok (.ret .none)) { s with heap:=h',toks:=tk }) :
  wpAny (model prog w) A.in1 (Builtin.List.listExtendWith (.ref S) (.ref (N+4)) .none)
   (fun fin s'=>match fin with | .done f=>R (.ok f) s' | .again c'=>c'.quiet=true∧codeAny (model prog w) A c' R s') (fun e s'=>R (.error e) s') s:=by
 have hSf:S∉[N+4,N+2,N+3,N,N+1,t,u]:=fun hm=>Nat.lt_irrefl _ (hb _ hm)
 have nS:∀ b∈[N+4,N+2,N+3,N,N+1,t,u],b≠S:=fun b hb z=>hSf (z ▸ hb)
 have hT:s.TypeIs (.ref (N+4)) "zip":=⟨_,h1,rfl⟩
 unfold Builtin.List.listExtendWith
 refine wpAny_bind (wpAny_typeOf hT ?_)
 have e1:Builtin.List.listSameRef (.ref S) (.ref (N+4))=false:=by
  have:=nS (N+4) (by simp)
  simp [Builtin.List.listSameRef,Ne.symm this]
 have e2:(Value.type "zip" == Value.type "list")=false:=by decide
 have e3:(Value.type "zip" == Value.type "tuple")=false:=by decide
 simp only [e1,e2,e3,Bool.or_false,Bool.false_eq_true,if_false]
 refine wpAny_bind (wpAny_pyIter_zip h1 ?_)
 refine wpAny_bind (wpAny_holding ?_)
 unfold Builtin.List.listLengthHint
 refine wpAny_bind (wpAny_specialOf hT tR ?_)
 show wpAny _ A.in1 (specialOf (Value.ref (N+4)) (Str.ofString "__length_hint__")>>=_) _ _ _
 refine wpAny_bind (wpAny_specialOf hT rj ?_)
 refine wpAny_pure ?_
 show wpAny _ A.in1 (rule "list.extend.makes-room">>=fun _=>Builtin.List.listTouch (.ref S)>>=fun _=>again (.builtin "list.extend.loop" ⟨[.ref S,.ref (N+4),.none],[]⟩)) _ _ _
 refine wpAny_bind (wpAny_rule ?_)
 refine wpAny_bind ?_
 show wpAny _ A.in1 (updateSeq S (·.push .none)>>=fun _=>updateSeq S (·.pop)) _ _ _
 refine wpAny_bind (wpAny_updateSeq hS rfl ?_)
 have hS₃:=Heap.get?_update_self (Obj.mapSeq (·.push Value.none)) hS rfl
 refine wpAny_updateSeq (hz:=by seq_fits) hS₃ rfl ?_
 have hS₄:=Heap.get?_update_self (Obj.mapSeq (·.pop)) hS₃ rfl
 have oth2:∀ b o,b≠S→s.heap.get? b=some o→((s.heap.update S (Obj.mapSeq (·.push Value.none))).update S (Obj.mapSeq (·.pop))).get? b=some o:=
  fun b o hb e=>(Heap.get?_update_other _ _ (Ne.symm hb)).trans ((Heap.get?_update_other _ _ (Ne.symm hb)).trans e)
 refine wpAny_pure ⟨plainId_quiet F.plain_extend_loop _,xH (B:=S) hh ht hu hSf rfl hb rfl hz (min xs.size ys.size) 0 _ _ [] rfl (Nat.zero_le _) (st.keeps fun b hb o e=>oth2 b o (nS b hb) e) hS₄ rfl (fun j t' e=>by simp at e) List.nodup_nil fun h' tk ts' c' q1 q2 q3 q4 q5=>hR h' tk ts' c' (fun b o hb e=>q1 b o hb (by simp) (oth2 b o (fun z=>hb (by simp [z])) e)) q2 q3 q4 q5⟩
theorem wF (hh:A.in1.handled=none) (ht:∀ c∈[N+4,N+2,N+3,N,N+1],t≠c) (hu:∀ c∈[N+4,N+2,N+3,N,N+1],u≠c) (st:StW N t u xs ys 0 s.heap) (hz:min xs.size ys.size≤100000) (h1:IsZip s.heap (N+4) (N+2) (N+3) .none) (hb:∀ b∈[N+4,N+2,N+3,N,N+1,t,u],b < S)
  (hS:s.heap.get? S=some { cls:=.type "list",data:=.seq #[] })
  (hR:∀ h' tk (ts:List Addr) c',(∀ b o,b∉[N+4,N+3,N,N+1,S]→s.heap.get? b=some o→h'.get? b=some o)→h'.get? S=some { cls:=.type "list",dict:=none,data:=.seq (ts.map Value.ref).toArray c',slots:=#[] }→ts.length=min xs.size ys.size→Ptw (S+1) xs ys ts h'→ts.Nodup→R (.ok (.ret .none)) { s with heap:=h',toks:=tk }) :
  wpAny (model prog w) A.in1 (Builtin.«list.__init__» ⟨[.ref S,.ref (N+4)],[]⟩)
   (fun fin s'=>match fin with | .done f=>R (.ok f) s' | .again c'=>c'.quiet=true∧codeAny (model prog w) A c' R s') (fun e s'=>R (.error e) s') s:=by
 have nS:∀ b∈[N+4,N+2,N+3,N,N+1,t,u],b≠S:=fun b hb'=>Nat.ne_of_lt (hb b hb')
 show wpAny _ A.in1 (do let old ← Builtin.List.listItems (.ref S);Builtin.List.listUpdate (.ref S) (fun _=>#[]);letGo old.toList.reverse;Builtin.List.listExtendWith (.ref S) (.ref (N+4)) .none) _ _ s
 refine wpAny_bind ?_
 unfold Builtin.List.listItems
 refine wpAny_bind (wpAny_seqItems hS rfl (wpAny_pure ?_))
 show wpAny _ A.in1 (updateSeq S (fun _=>#[])>>=fun _=>letGo (#[]:Array Value).toList.reverse>>=fun _=>Builtin.List.listExtendWith (.ref S) (.ref (N+4)) .none) _ _ s
 refine wpAny_bind (wpAny_updateSeq hS rfl ?_)
 have hS₂:=Heap.get?_update_self (Obj.mapSeq (fun _=>(#[]:Array Value))) hS rfl
 have oth:∀ b o,b≠S→s.heap.get? b=some o→(s.heap.update S (Obj.mapSeq (fun _=>(#[]:Array Value)))).get? b=some o:=fun b o hb e=>(Heap.get?_update_other _ _ (Ne.symm hb)).trans e
 refine wpAny_bind (wpAny_letGo ?_)
 exact sU hh ht hu (st.keeps fun b hb o e=>oth b o (nS b hb) e) hz (oth _ _ (nS _ (by simp)) h1) hb hS₂ fun h' tk ts c' q1 q2 q3 q4 q5=>hR h' tk ts c' (fun b o hb e=>q1 b o hb (oth b o (fun z=>hb (by simp [z])) e)) q2 q3 q4 q5
theorem qL {E:Value→Shared→Prop} {Q:Value→Shared→Prop} (hh:A.handled=none) (ht:∀ c∈[N+4,N+2,N+3,N,N+1],t≠c) (hu:∀ c∈[N+4,N+2,N+3,N,N+1],u≠c) (st:StW N t u xs ys 0 s.heap) (hz:min xs.size ys.size≤100000) (h1:IsZip s.heap (N+4) (N+2) (N+3) .none)
  (hQ:∀ h' tk (ts:List Addr) c',(∀ b o,b∉[N+4,N+3,N,N+1]→s.heap.get? b=some o→h'.get? b=some o)→h'.get? s.heap.objs.size=some { cls:=.type "list",dict:=none,data:=.seq (ts.map Value.ref).toArray c',slots:=#[] }→ts.length=min xs.size ys.size→Ptw (s.heap.objs.size+1) xs ys ts h'→ts.Nodup→Q (.ref s.heap.objs.size) { s with heap:=h',toks:=tk }) :
  wpAny (model prog w) A (call (.type "list") [.ref (N+4)]) Q E s:=by
 have hb:=st.lt
 refine callType_codes (Q₁:=fun obj s₁=>obj=.ref s.heap.objs.size∧s₁={ s with heap:=s.heap.push { cls:=.type "list",data:=.seq #[] } }) F.called_list (F.typeCall_list_1 _) F.entry_list_init (code_list_new _ ⟨rfl,rfl⟩) fun obj s₁ h₁=>?_
 obtain ⟨rfl,rfl⟩:=h₁
 have hS:(s.heap.push { cls:=.type "list",data:=.seq #[] }).get? s.heap.objs.size=some { cls:=.type "list",data:=.seq #[] }:=Heap.get?_push_size _ rfl
 refine ⟨⟨_,hS,rfl⟩,F.args_list_init_2 _ _,wF hh ht hu (st.keeps fun b _ o e=>Heap.get?_push_of_some _ e) hz (Heap.get?_push_of_some _ h1) hb hS fun h' tk ts c' q1 q2 q3 q4 q5=>⟨rfl,hQ h' tk ts c' (fun b o hb e=>?_) q2 q3 q4 q5⟩⟩
 have hne:b≠s.heap.objs.size:=Nat.ne_of_lt (Heap.lt_size e)
 exact q1 b o (fun z=>by
  simp only [List.mem_cons,List.not_mem_nil,or_false] at z hb
  rcases z with z | z | z | z | z
  ·exact hb (.inl z)
  ·exact hb (.inr (.inl z))
  ·exact hb (.inr (.inr (.inl z)))
  ·exact hb (.inr (.inr (.inr z)))
  ·exact hne z) (Heap.get?_push_of_some _ e)
end
section
variable {X:Cx} {WE:WX}
theorem sP {a b:Expr} {ta:TA} {p1 p2 pos1 pos2:Pos} (hc:X.calm=true) (hgl:Gl X "list") (hml:X.mg "list"=none) (hgz:Gl X "zip") (hmz:X.mg "zip"=none) (hbl:bootBuiltins "list"=some (.type "list")) (hbz:bootBuiltins "zip"=some (.type "zip")) (ha:PA X [a,b] ta)
  (hs:starEach [a,b] X.env=[(false,eval a X.env),(false,eval b X.env)]:=by rfl) (hs2:starEach [b] X.env=[(false,eval b X.env)]:=by rfl)
  (hs3:starEach [Expr.Call (.Name "zip" p2) [a,b] [] pos2] X.env=(false,eval (Expr.Call (.Name "zip" p2) [a,b] [] pos2) X.env) :: starEach [] X.env:=by rfl) :
  PE X (.Call (.Name "list" p1) [.Call (.Name "zip" p2) [a,b] [] pos2] [] pos1) (tLZ ta):=by
 intro pins s σ H Q I h
 refine Call_ (cq I hgl hml hbl (PyProof.Rows.callWith_type1 ?_ hs3 rfl))
 rw [hs3]
 show wpAny _ _ (spliced ((false,eval (Expr.Call (.Name "zip" p2) [a,b] [] pos2) X.env) :: backTo pos1 (starEach [] X.env))) _ _ s
 refine Calls.spliced_cons ?_
 refine Call_ (cq I hgz hmz hbz (PyProof.Rows.callWith_type1 (thn (ha pos2 pins s σ H _ I h) fun us s1 ⟨vs,H1,I1,r1,t,u,ks,ys,ev,ht,hu,hl,q⟩=>?_) (by rw [hs,hs2]) (by rw [hs2];rfl)))
 subst ev
 obtain ⟨ut,uu,rfl,rt,ru⟩:=r1.two
 cases rt
 cases ru
 obtain ⟨xs,rx,px,hzx⟩:=I1.list (SqL.of (K:=X.K) ht)
 obtain ⟨zs,rz,pz,hzz⟩:=I1.list (SqL.of (K:=X.K) hu)
 have hh:X.A.handled=none:=I.ok.hd hc
 have lt:t < s1.heap.objs.size:=by obtain ⟨o,n,e,_⟩:=px;exact Heap.lt_size e
 have lu:u < s1.heap.objs.size:=by obtain ⟨o,n,e,_⟩:=pz;exact Heap.lt_size e
 refine nH px.isList pz.isList fun h1 z1 z2 z3 z4 z5 k1=>?_
 refine wpAny_pure ?_
 have fp:=fp5 (N:=s1.heap.objs.size)
 have I2:Inv X pins σ H1 { s1 with heap:=h1 }:=I1.kept (t':=s1.toks) k1
 have lk:=rx.length
 have lz:=rz.length
 rw [List.length_zip] at hl
 refine qL (s:={ s1 with heap:=h1 }) (t:=t) (u:=u) hh (fun c hc e=>Nat.lt_irrefl _ (Nat.lt_of_lt_of_le lt (e ▸ fp c hc))) (fun c hc e=>Nat.lt_irrefl _ (Nat.lt_of_lt_of_le lu (e ▸ fp c hc))) ⟨⟨⟨_,_,z1,.inl rfl⟩,_,_,z3⟩,z2,⟨z4,px.isList.at fun o e=>k1 _ o e⟩,z5,pz.isList.at fun o e=>k1 _ o e⟩ (by simp only [List.size_toArray];omega) z1 fun h3 t3 ts c3 k3 g3 l3 p3 n3=>?_
 have nle:s1.heap.objs.size≤h1.objs.size:=Nat.le_of_lt (Nat.lt_of_le_of_lt (Nat.le_add_right _ _) (Heap.lt_size z1))
 have kk:∀ b o,s1.heap.get? b=some o→h3.get? b=some o:=fun b o e=>k3 b o (fun z=>by
  have:=fp b (by simp only [List.mem_cons,List.not_mem_nil,or_false] at z ⊢;rcases z with z | z | z | z<;>simp [z])
  exact Nat.lt_irrefl _ (Nat.lt_of_lt_of_le (Heap.lt_size e) this)) (k1 b o e)
 have fr:∀ t∈ts,s1.heap.objs.size≤t:=fun t ht=>by
  obtain ⟨j,hj⟩:=List.mem_iff_getElem?.mp ht
  exact Nat.le_trans nle (Nat.le_of_succ_le (p3 j t hj).1)
 have zl:(ks.zip ys).length=ts.length:=by rw [List.length_zip,l3];simp only [List.size_toArray];omega
 obtain ⟨H2,a1,a2⟩:=DT (H:=H1) ts.length ts (ks.zip ys) rfl zl n3 fun t ht=>I1.hok.fresh (fr t ht)
 have hS:H2 h1.objs.size=none:=by
  cases e:H2 h1.objs.size with
  | none=>rfl
  | some o=>
   rcases a2 _ o e with z | ⟨j,_,_,z,_⟩
   ·rw [I1.hok.fresh nle] at z;cases z
   ·exact absurd (p3 j _ z).1 (Nat.not_succ_le_self _)
 refine ⟨.ref h1.objs.size,_,I1.Ac (t':=t3) kk (fun b o e=>by rw [aS (bo (a1.same b o e) hS)];exact a1.same b o e) (fun b o e=>?_),rfl,q ts H2 _ a1 hS⟩
 by_cases z:b=h1.objs.size
 ·subst z
  rw [bJ] at e
  cases e
  refine .inr ⟨nle,?_,ts.map Value.ref,c3,?_,g3⟩
  ·rw [List.length_map,l3,sizeLine_eq];simp only [List.size_toArray];omega
  ·clear g3 l3 p3 n3 fr zl a1 a2
   induction ts with
   | nil=>exact .nil
   | cons t ts ih=>exact .cons rfl ih
 ·rw [aS z] at e
  rcases a2 b o e with q | ⟨j,x,y,q1,q2,rfl⟩
  ·exact .inl q
  ·obtain ⟨_,vx,vy,v1,v2,v3⟩:=p3 j b q1
   obtain ⟨w1,w2⟩:=List.getElem?_zip_eq_some.mp q2
   obtain ⟨vx',e1,r1⟩:=rx.get w1
   obtain ⟨vy',e2,r2⟩:=rz.get w2
   rw [List.getElem?_toArray,e1] at v1
   rw [List.getElem?_toArray,e2] at v2
   cases v1;cases v2
   exact .inr ⟨fr b (List.mem_of_getElem? q1),by show 2≤sizeLine;decide,[vx,vy],.cons r1 (.cons r2 .nil),⟨_,v3,rfl,_,rfl⟩⟩
def fLZ (zs:List Vl) (S:Sto):R Vl:=match zs with
 | [.d (.lst xs),.d (.lst ys)]=>if (xs.zip ys).length≤100000 then .ok (.d (.lst ((xs.zip ys).map fun p=>.tup [p.1,p.2]))) S else .bad
 | _=>.bad
theorem Az {H:Hp} {μ:Nat→Addr} {S:Sto} (hr:HR μ S H) {vs us:List V} {xs ys:List D} (r1:ax (vh μ S H) vs xs) (r2:ax (vh μ S H) us ys) {ps:List (V×V)} {ts:List Addr} {H2:Hp} (h:LT H ps ts H2):(∃ k,ps=(vs.zip us).take k)→Step μ S H μ S H2∧ax (vh μ S H2) (ts.map V.ref) (((xs.zip ys).take ps.length).map fun p=>.tup [p.1,p.2]):=by
 induction h with
 | nil=>exact fun _=>⟨Step.refl hr,by simpa using ax.nil⟩
 | @snoc ps ts H2 p x y h hp ih=>
  rintro ⟨k,hk⟩
  have hlen:ps.length < (vs.zip us).length:=by
   have:=congrArg List.length hk
   rw [List.length_take] at this
   simp at this ⊢
   omega
  have hps:ps=(vs.zip us).take ps.length:=by
   have:=congrArg (List.take ps.length) hk
   rw [List.take_left,List.take_take] at this
   have hk2:=congrArg List.length hk
   rw [List.length_take] at hk2
   simp at hk2
   rw [this]
   congr 1
   simp
   omega
  obtain ⟨st,rs⟩:=ih ⟨_,hps⟩
  have hx:(vs.zip us)[ps.length]?=some (x,y):=by
   have:=congrArg (fun l=>l[ps.length]?) hk
   simp only [List.getElem?_append_right (Nat.le_refl _),Nat.sub_self] at this
   rw [List.getElem?_take] at this
   split at this
   ·simpa using this.symm
   ·simp at this
  obtain ⟨w1,w2⟩:=List.getElem?_zip_eq_some.mp hx
  obtain ⟨dx,e1,rx⟩:=r1.get w1
  obtain ⟨dy,e2,ry⟩:=r2.get w2
  have hz:(xs.zip ys)[ps.length]?=some (dx,dy):=List.getElem?_zip_eq_some.mpr ⟨e1,e2⟩
  have st2:=Step.new st.hr hp (.tup [x,y])
  refine ⟨st.trans st2,?_⟩
  rw [List.map_append,List.length_append,List.length_cons,List.length_nil,Nat.zero_add,List.take_add_one,hz,List.map_append]
  exact (rs.mono st2.vis).append (.cons (Rep.tup (bO bJ (st.hr.nal hp)) (.cons (Rep.mono (st.trans st2).vis rx) (.cons (Rep.mono (st.trans st2).vis ry) .nil))) .nil)
theorem tw {a b:Expr} {ts:XA} {p1 p2 pos1 pos2:Pos} (hc:X.calm=true) (hgl:Gl X "list") (hml:X.mg "list"=none) (hgz:Gl X "zip") (hmz:X.mg "zip"=none) (hbl:bootBuiltins "list"=some (.type "list")) (hbz:bootBuiltins "zip"=some (.type "zip")) (ha:RA X WE [a,b] ts)
  (hs:starEach [a,b] X.env=[(false,eval a X.env),(false,eval b X.env)]:=by rfl) (hs2:starEach [b] X.env=[(false,eval b X.env)]:=by rfl)
  (hs3:starEach [Expr.Call (.Name "zip" p2) [a,b] [] pos2] X.env=(false,eval (Expr.Call (.Name "zip" p2) [a,b] [] pos2) X.env) :: starEach [] X.env:=by rfl) :
  RE X WE (.Call (.Name "list" p1) [.Call (.Name "zip" p2) [a,b] [] pos2] [] pos1) (xN fLZ ts):=
 ⟨(sP hc hgl hml hgz hmz hbl hbz ha.h hs hs2 hs3).weak fun σ H Q ⟨μ,S,τ,hr,sr,p⟩=>⟨μ,S,τ,hr,sr,p.bind fun vs zs S1 μ1 H1 st1 r1 p1=>by
  unfold fLZ at p1
  split at p1
  ·rename_i xs ys
   split at p1
   ·rename_i hl
    cases r1 with
    | cons ra r1=>cases r1 with
     | cons rb r1=>
      cases r1
      cases (show Rep (vh μ1 S1 H1) _ (.lst _) from ra) with
      | @lst t vs1 _ g rs=>
       cases (show Rep (vh μ1 S1 H1) _ (.lst _) from rb) with
       | @lst u vs2 _ g2 rs2=>
        have l1:=rs.length
        have l2:=rs2.length
        have hzl:(vs1.zip vs2).length=(xs.zip ys).length:=by rw [List.length_zip,List.length_zip,l1,l2]
        refine ⟨t,u,vs1,vs2,rfl,(aT g).2,(aT g2).2,by omega,fun ts2 H2 l hLT hl2=>?_⟩
        obtain ⟨st2,rs3⟩:=Az st1.hr rs rs2 hLT ⟨(vs1.zip vs2).length,by rw [List.take_length]⟩
        rw [hzl,List.take_length] at rs3
        have st3:=Step.new st2.hr hl2 (.lst (ts2.map V.ref))
        exact p1 _ _ _ (st2.trans st3) (Rep.lst (bO bJ (st2.hr.nal hl2)) (rs3.mono st3.vis))
   ·exact p1.elim
  ·exact p1.elim⟩⟩
end
theorem iT {n d k:Nat}:HT.sIx n d (some (k:Int))=min k n:=by
 unfold HT.sIx
 first | (dsimp only;split<;>omega) | (simp;omega) | omega
theorem lJ {n d:Nat}:HT.sIx n d none=d:=rfl
theorem dh {xs:List D} {k:Nat}:cy xs none (some (k:Int))=xs.take k:=by
 unfold cy
 rw [lJ,iT,List.drop_zero,Nat.sub_zero]
 by_cases h:k≤xs.length
 ·rw [Nat.min_eq_left h]
 ·rw [Nat.min_eq_right (by omega),List.take_of_length_le (Nat.le_refl _),List.take_of_length_le (by omega)]
theorem cP {xs:List D} {k:Nat}:cy xs (some (k:Int)) none=xs.drop k:=by
 unfold cy
 rw [lJ,iT]
 by_cases h:k≤xs.length
 ·rw [Nat.min_eq_left h,List.take_of_length_le (by simp)]
 ·rw [Nat.min_eq_right (by omega),List.drop_of_length_le (Nat.le_refl _),List.drop_of_length_le (by omega)]
  simp
theorem uU {xs:List D} {a b:Nat}:cy xs (some (a:Int)) (some (b:Int))=(xs.drop a).take (b - a):=by
 unfold cy
 rw [iT,iT]
 by_cases h:a≤xs.length
 ·rw [Nat.min_eq_left h]
  by_cases hb:b≤xs.length
  ·rw [Nat.min_eq_left hb]
  ·rw [Nat.min_eq_right (by omega),List.take_of_length_le (by simp),List.take_of_length_le (by simp;omega)]
 ·rw [Nat.min_eq_right (show xs.length≤a by omega),List.drop_of_length_le (Nat.le_refl _),List.drop_of_length_le (by omega)]
  simp
theorem eT (ns:List Int):D.cC (ns.map D.int)=0:=by
 induction ns with
 | nil=>rfl
 | cons n ns ih=>simp [D.cC,D.depth,ih]
theorem fF {xs:List D} {i:Nat} {z:D} (h:xs[i]?=some z):atI xs (i:Int)=some z:=by
 have hi:=(List.getElem?_eq_some_iff.mp h).1
 unfold atI
 rw [oH (by omega) (by omega)]
 show xs[((i:Nat):Int).toNat]?=_
 rw [Int.toNat_natCast];exact h
def lf2 (f:List D→D→Sto→R Vl) (xs:List D) (r:R Vl):R Vl:=r.bind fun y S2=>match y with
 | .d z=>f xs z S2
 | _=>.bad
def lf1 (f:List D→D→Sto→R Vl) (r:R Vl) (e:XE) (τ:Nv):R Vl:=r.bind fun x S1=>match x with
 | .d (.lst xs)=>lf2 f xs (e τ S1)
 | _=>.bad
theorem Er {f:List D→D→Sto→R Vl} {o e:XE} {τ:Nv} {S:Sto}:xLf f o e τ S=lf1 f (o τ S) e τ:=ai rfl
theorem Ez {f:List D→D→Sto→R Vl} {xs:List D} {e:XE} {τ:Nv} {S:Sto}:lf1 f (.ok (.d (.lst xs)) S) e τ=lf2 f xs (e τ S):=ai rfl
theorem Ex {f:List D→D→Sto→R Vl} {xs:List D} {z:D} {S:Sto}:lf2 f xs (.ok (.d z) S)=f xs z S:=ai rfl
theorem Dz {ns:List Int} {k:Int} {S:Sto}:A1 (ns.map D.int) (.int k) S=.ok (.d (.int (ns.count k:Nat))) S:=by
 unfold A1
 rw [show intsOf (ns.map D.int)=some ns by rw [pX (fun x=>x) ns];simp]
def zp1 (r:R (List Vl)):R Its:=r.bind Cf
theorem EJ {as:XA} {τ:Nv} {S:Sto}:iZp as τ S=zp1 (as τ S):=ai rfl
theorem DS {xs ys:List D} {S:Sto}:zp1 (.ok [.d (.tup xs),.d (.tup ys)] S)=.ok ⟨dk xs ys,none⟩ S:=ai rfl
theorem EO {xs ys:List D} {S:Sto}:zp1 (.ok [.d (.lst xs),.d (.tup ys)] S)=.ok ⟨dk xs ys,none⟩ S:=ai rfl
end L2
set_option maxHeartbeats 4000000
namespace My
open PySem L2
noncomputable def ny:XS:=(dR (xV (xSl pV (aa 0) (aQ (xC (.int 12))) (aQ (xC (.int 63))))) (gTu 2 (gCo (gNm 2) (gCo (gNm 3) gN0))) (aH (xOp aD (xOp oIx (aa 1) (xOp oMod (aa 2) (xC (.int 12)))) (aa 3)) (gSb (aa 1) (xOp oMod (aa 2) (xC (.int 12))) ef)))
noncomputable def nu:XS:=(av (aH (xN gQ (ab (xSl pV (aa 0) aE (aQ (xC (.int 12)))) aj)) (gNm 1))
 (av ny
 (aL (xN mkM (ab (xFz (aa 1)) (ab (xC (.int 0)) (ab (xC (.int 0)) aj)))))))
noncomputable def jq:XF:=aW 1 4 nu
noncomputable def lg:XS:=(av (xIf (aI (xOp oGe (aa 0) (xOp mX (xC (.int 10)) (xC (.int 18))))) (aL (aa 0)) aP)
 (av (aH (xOp oMod (xOp aD (xOp aD (xOp ia (xOp oMod (aa 0) (xC (.int 1000000007))) (xC (.int 69069))) (xOp ia (aa 1) (xC (.int 40503)))) (xC (.int 977))) (xC (.int 2147483629))) (gNm 2))
 (av (aH (xOp oMod (xOp aD (xOp aD (xOp ia (aa 2) (aa 2)) (xOp ia (aa 1) (xC (.int 7919)))) (xOp oMod (aa 0) (xC (.int 65537)))) (xC (.int 2147483587))) (gNm 3))
 (av (aH (xOp oMod (xOp aD (xOp aD (xOp ia (aa 3) (aa 3)) (xOp ia (aa 2) (xC (.int 31)))) (xC (.int 5))) (xC (.int 2147483563))) (gNm 4))
 (aL (xOp aD (xOp ia (xOp aD (xOp ia (aa 2) (xC (.int 2147483659))) (aa 3)) (xC (.int 2147483693))) (aa 4)))))))
noncomputable def eX:XF:=aW 2 5 lg
noncomputable def nY:XS:=(av (xIf (aI (xOp oLt (xOp oIx (aa 0) (xC (.int 2))) (aa 1))) (av (aH (xOp oIx (aa 0) (xC (.int 1))) (gNm 2))
 (av (aH (xC (.int 0)) (gNm 3))
 (av (xIf (aI (xOp oLt (aa 2) (xN bB (ab (xOp oIx (aa 0) (xC (.int 0))) aj)))) (aH (xOp oIx (xOp oIx (aa 0) (xC (.int 0))) (aa 2)) (gNm 3)) (xIf (aI (xOp oGt (xN bB (ab (xOp oIx (aa 0) (xC (.int 0))) aj)) (xC (.int 0)))) (aH (xOp oMod (xOp oIx (xOp oIx (aa 0) (xC (.int 0))) (xOp oMod (xOp aD (xOp ia (aa 2) (xC (.int 5))) (xC (.int 3))) (xN bB (ab (xOp oIx (aa 0) (xC (.int 0))) aj)))) (xOp aD (xOp mX (xC (.int 10)) (xC (.int 17))) (aa 2))) (gNm 3)) aP))
 (av (aH (xOp aD (aa 2) (xC (.int 1))) (gSb (aa 0) (xC (.int 1)) ef))
 (aH (ay eX (ab (aa 3) (ab (aa 2) aj))) (gSb (aa 0) (xC (.int 2)) ef)))))) aP)
 (av (aH (xOp oMod (xOp oIx (aa 0) (xC (.int 2))) (aa 1)) (gNm 4))
 (av (aH (xOp oDiv (xOp oIx (aa 0) (xC (.int 2))) (aa 1)) (gSb (aa 0) (xC (.int 2)) ef))
 (aL (aa 4)))))
noncomputable def aZ:XF:=aW 2 5 nY
noncomputable def lG:XS:=(dR (jM (ab (xOp aD (xC (.int 1)) (ay aZ (ab (aa 0) (ab (aa 1) aj)))) aj)) (gNm 4) (av (aH (xOp aD (aa 2) (ay aZ (ab (aa 0) (ab (xC (.int 5)) aj)))) (gNm 5))
 (av (xIf (aI (xOp oEq (ay aZ (ab (aa 0) (ab (xC (.int 6)) aj))) (xC (.int 0)))) (aH (xOp iE (ay aZ (ab (aa 0) (ab (xC (.int 19)) aj))) (xC (.int 9))) (gNm 5)) aP)
 (xIf (aI (xOp dN (aa 5) (aa 3))) (dI (xLm j9 (aa 3) (aa 5))) aP))))
noncomputable def lE:XS:=(av (aH (xN mkM aj) (gNm 3))
 (av lG
 (aL (xN cJ (ab (xN kQ (ab (aa 3) aj)) aj)))))
noncomputable def eR:XF:=aW 3 6 lE
noncomputable def mH:XE:=(xLC (jM (ab (xOp aD (xC (.int 1)) (ay aZ (ab (aa 0) (ab (aa 1) aj)))) aj)) 1 (gNm 0) (fun _ S=>.ok true S) (ay eR (ab (aa 1) (ab (aa 3) (ab (aa 4) aj)))))
noncomputable def mf:XS:=(av (aH (xOp iE (ay aZ (ab (aa 0) (ab (xC (.int 15)) aj))) (xC (.int 9))) (gNm 3))
 (aL (xN cJ (ab mH aj))))
noncomputable def iw:XF:=aW 3 4 mf
noncomputable def nZ:XS:=(av (aH (xC (.int 0)) (gSb (aa 0) (xC (.int 2)) ef))
 (aL (aa 0)))
noncomputable def jk:XF:=aW 1 1 nZ
noncomputable def fo:XE:=(xLC (jM (ab (aa 3) aj)) 1 (gNm 0) (fun _ S=>.ok true S) (xLm mS (aa 3) (ay aZ (ab (aa 1) (ab (xN bB (ab (aa 3) aj)) aj)))))
noncomputable def ie:XS:=(av (aH (xN (lrg xD) (ab (xN bB (ab (aa 1) aj)) aj)) (gNm 2))
 (av (aH (xOp aD (xC (.int 1)) (ay aZ (ab (aa 0) (ab (xN bB (ab (aa 2) aj)) aj)))) (gNm 3))
 (av (xIf (aI (xOp oGt (ay aZ (ab (aa 0) (ab (xC (.int 3)) aj))) (xC (.int 0)))) (aH (xN bB (ab (aa 2) aj)) (gNm 3)) aP)
 (aL (xN cJ (ab fo aj))))))
noncomputable def dM:XF:=aW 2 4 ie
noncomputable def kE:XE:=(xLC (cv (aa 3)) 1 (gNm 0) (fun _ S=>.ok true S) (xOp aD (xC (.int 1)) (ay aZ (ab (aa 1) (ab (xOp oIx (xN mkL (ab (xC (.int 4)) (ab (xC (.int 2)) aj))) (ay aZ (ab (aa 1) (ab (xC (.int 2)) aj)))) aj)))))
noncomputable def kq:XS:=(av (aH (ay dM (ab (aa 0) (ab (aa 1) aj))) (gNm 3))
 (av (xIf (aI (xOp oEq (aa 2) (xC (.int 0)))) bG aP)
 (av (xIf (aI (xOp oEq (aa 2) (xC (.int 1)))) bG aP)
 (av (xIf (aI (xOp oEq (aa 2) (xC (.int 2)))) bG aP)
 (av (xIf (aI (xOp oEq (aa 2) (xC (.int 3)))) bG aP)
 (aL (xN mkT (ab (xC (.str "hand")) (ab (aa 3) (ab (xN cJ (ab kE aj)) aj))))))))))
noncomputable def fL:XF:=aW 3 11 kq
noncomputable def lA:XE:=(xLC (cv (aa 1)) 1 (gNm 0) (fun _ S=>.ok true S) (ay eR (ab (aa 1) (ab (xC (.int 3)) (ab (aa 3) aj)))))
noncomputable def lC:XS:=(av (aH (xOp iE (ay aZ (ab (aa 0) (ab (xC (.int 15)) aj))) (xC (.int 9))) (gNm 2))
 (aL (xN cJ (ab lA aj))))
noncomputable def gz:XF:=aW 2 3 lC
noncomputable def jR:XE:=(xLC (cv (aa 2)) 1 (gNm 0) (fun _ S=>.ok true S) (xOp qF (aa 0) (aa 5)))
noncomputable def kd:XE:=(xLC (oU (ab (aa 2) (ab (xSl oSl (aa 2) (aQ (xC (.int 1))) aE) aj))) 1 (gNm 0) (fun _ S=>.ok true S) (xOp oIn (aa 0) (aa 4)))
noncomputable def kA:XE:=(xLC (cv (xOp oIx (aa 0) (aa 6))) 1 (gNm 0) (aI (xOp oGe (aa 0) (aa 6))) (aa 0))
noncomputable def nF:XS:=(dR (cv (aa 2)) (gNm 6) (av (aH kA (gNm 7))
 (av (xIf (aI (xOp oEq (aa 7) (xN mkL aj))) (aL (xC (.bl true))) aP)
 (aH (xOp aD (xOp oIx (aa 7) (xC (.int 0))) (xOp oDx (aa 4) (aa 6))) (gNm 5)))))
noncomputable def nE:XS:=(av (aH (xFz (xN fDZ (ab (xOp oIx (aa 1) (xC (.int 1))) (ab (xOp oIx (aa 1) (xC (.int 2))) aj)))) (gNm 4))
 (av (xIf (xOr (aI (xOp oLt (xN bB (ab (aa 2) aj)) (xC (.int 2)))) (xOr (aI (xOp oLt (xUn oLS (aa 2)) (xN bB (ab (aa 2) aj)))) (c9 (cQ (xN eD (ab jR aj)))))) (aL (xC (.bl false))) aP)
 (av (xIf (c9 (cQ (xN eD (ab kd aj)))) (aL (xC (.bl false))) aP)
 (av (aH (xUn jc (xC (.int 10))) (gNm 5))
 (av nF
 (aL (xC (.bl false))))))))
noncomputable def gT:XF:=aW 4 8 nE
noncomputable def nR:XS:=(dR (tF (ab (xC (.int 2)) (ab (xOp aD (xN bB (ab (aa 2) aj)) (xC (.int 1))) aj))) (gNm 3) (av (aH (xN fLZ (ab (aa 2) (ab (xSl oSl (aa 2) (aQ (xC (.int 1))) aE) aj))) (gNm 4))
 (xIf (cQ (ay gT (ab (aa 0) (ab (aa 1) (ab (xSl oSl (aa 2) aE (aQ (aa 3))) (ab (aa 4) aj)))))) (aL (xN mkT (ab (xC (.str "late")) (ab (xN cJ (ab (xSl oSl (aa 2) aE (aQ (aa 3))) aj)) aj)))) aP)))
noncomputable def nX:XS:=(av nR
 (aL (xC .non)))
noncomputable def gK:XF:=aW 3 5 nX
noncomputable def mv (s_l_grown:XF):XS:=(av (aH (ay gK (ab (aa 0) (ab (aa 1) (ab (aa 2) aj)))) (gNm 6))
 (av (xIf (xOr (lI (aI (xOp ip (aa 6) (xC .non))) (xOr (cQ (aa 5)) (aI (xOp oEq (aa 3) (xN mkL aj))))) (aI (xOp oEq (aa 3) (xN mkL aj)))) (aL (sO (aI (xOp oIs (aa 6) (xC .non))) (xN mkT (ab (xC (.str "late")) (ab (xN cJ (ab (aa 2) aj)) aj))) (aa 6))) aP)
 (av (aH (xOp aD (xOp aD (xSl oSl (aa 2) aE (aQ (aa 4))) (xSl oSl (aa 3) aE (aQ (xC (.int 1))))) (xSl oSl (aa 2) (aQ (aa 4)) aE)) (gNm 7))
 (av (aH (ay s_l_grown (ab (aa 0) (ab (aa 1) (ab (aa 7) (ab (xSl oSl (aa 3) (aQ (xC (.int 1))) aE) (ab (xC (.int 0)) (ab (aa 5) aj))))))) (gNm 8))
 (av (xIf (aI (xOp oEq (aa 4) (xN bB (ab (aa 2) aj)))) (aL (aa 8)) aP)
 (aL (xN mkT (ab (xC (.str "first")) (ab (xOp oIx (aa 3) (xC (.int 0))) (ab (xOp oIx (aa 2) (aa 4)) (ab (aa 8) (ab (ay s_l_grown (ab (aa 0) (ab (aa 1) (ab (aa 2) (ab (aa 3) (ab (xOp aD (aa 4) (xC (.int 1))) (ab (aa 5) aj))))))) aj))))))))))))
noncomputable def dv:Nat→XF
 | 0=>aW 6 9 bG
 | n+1=>aW 6 9 (mv (dv n))
noncomputable def ll:XS:=(aL (cS (xUn (gH "int") (aa 0)) (tu (xUn (gH "bool") (aa 0)))))
noncomputable def gx:XF:=aW 1 1 ll
noncomputable def jV:XS:=(aL (cS (ay gx (ab (aa 0) aj)) (fR oLe oLe (aa 1) (aa 0) (aa 2))))
noncomputable def fJ:XF:=aW 3 3 jV
noncomputable def jG:XE:=(xLC (cv (aa 0)) 1 (gNm 0) (fun _ S=>.ok true S) (ay fJ (ab (aa 0) (ab (aa 2) (ab (aa 3) aj)))))
noncomputable def jy:XS:=(aL (cS (xUn (gH "tuple") (aa 0)) (xN eD (ab jG aj))))
noncomputable def cX:XF:=aW 3 3 jy
noncomputable def fW:XE:=(xLC (tF (ab (xC (.int 1)) (ab (xN bB (ab (aa 0) aj)) aj))) 1 (gNm 0) (fun _ S=>.ok true S) (xOp oLt (xOp oIx (aa 1) (xOp iE (aa 0) (xC (.int 1)))) (xOp oIx (aa 1) (aa 0))))
noncomputable def jB:XS:=(aL (xN eD (ab fW aj)))
noncomputable def eW:XF:=aW 1 1 jB
noncomputable def jE:XS:=(aL (cS (ay cX (ab (aa 0) (ab (xUn jc (xC (.int 9))) (ab (xC (.int 9)) aj)))) (cS (fR oLe oLe (xC (.int 1)) (xN bB (ab (aa 0) aj)) (xC (.int 4))) (ay eW (ab (aa 0) aj)))))
noncomputable def fj:XF:=aW 1 1 jE
noncomputable def lF:XE:=(xLC (cv (aa 0)) 1 (gNm 0) (fun _ S=>.ok true S) (ay fj (ab (aa 0) aj)))
noncomputable def k9:XS:=(av (xIf (xOr (c9 (cQ (xUn (gH "tuple") (aa 0)))) (c9 (aI (fR oLe oLe (xC (.int 1)) (xN bB (ab (aa 0) aj)) (xC (.int 4)))))) (aL (xC (.bl false))) aP)
 (aL (xN eD (ab lF aj))))
noncomputable def gm:XF:=aW 1 1 k9
noncomputable def jA:XS:=(xIf (c9 (cQ (ay gm (ab (aa 0) aj)))) bG aP)
noncomputable def eV:XF:=aW 1 1 jA
noncomputable def f9:XS:=(aL (xOp oEq (xUn oLS (aa 0)) (xN bB (ab (aa 0) aj))))
noncomputable def cD:XF:=aW 1 1 f9
noncomputable def j5:XS:=(aL (cS (ay cX (ab (aa 0) (ab (xC (.int 0)) (ab (xC (.int 3)) aj)))) (cS (fR oLe oLe (xC (.int 1)) (xN bB (ab (aa 0) aj)) (xC (.int 4))) (ay cD (ab (aa 0) aj)))))
noncomputable def fN:XF:=aW 1 1 j5
noncomputable def mB:XS:=(aL (cS (xOp oEq (xN bB (ab (aa 0) aj)) (xC (.int 3))) (cS (ay cX (ab (xOp oIx (aa 0) (xC (.int 2))) (ab (xC (.int 1)) (ab (xC (.int 4)) aj)))) (xOp oEq (xN bB (ab (xOp oIx (aa 0) (xC (.int 2))) aj)) (xN bB (ab (xOp oIx (aa 0) (xC (.int 1))) aj))))))
noncomputable def iz:XF:=aW 1 1 mB
noncomputable def gi:XS:=(av (aH (xOp oIx (aa 0) (xC (.int 0))) (gNm 1))
 (av (xIf (aI (xOp oEq (aa 1) (xC (.str "unlike")))) bG aP)
 (av (xIf (aI (xOp oEq (aa 1) (xC (.str "many")))) bG aP)
 (av (xIf (aI (xOp oEq (aa 1) (xC (.str "sum")))) bG aP)
 (av (xIf (aI (xOp oEq (aa 1) (xC (.str "row")))) bG aP)
 (aL (cS (xOp oEq (aa 1) (xC (.str "hand"))) (ay iz (ab (aa 0) aj)))))))))
noncomputable def c7:XF:=aW 1 2 gi
noncomputable def ma:XS:=(av (xIf (xOr (c9 (cQ (xUn (gH "tuple") (aa 0)))) (aI (xOp oLt (xN bB (ab (aa 0) aj)) (xC (.int 2))))) (aL (xC (.bl false))) aP)
 (aL (cS (ay fN (ab (xOp oIx (aa 0) (xC (.int 1))) aj)) (ay c7 (ab (aa 0) aj)))))
noncomputable def iq:XF:=aW 1 1 ma
noncomputable def ju:XE:=(xLC (cv (xOp oIx (aa 1) (xC (.int 1)))) 1 (gNm 0) (fun _ S=>.ok true S) (xOp oLt (aa 0) (xN bB (ab (aa 1) aj))))
noncomputable def jH:XS:=(aL (cS (ay iq (ab (aa 1) aj)) (xN eD (ab ju aj))))
noncomputable def ff:XF:=aW 2 2 jH
noncomputable def ku:XS:=(xIf (c9 (cQ (ay ff (ab (aa 0) (ab (aa 1) aj))))) bG aP)
noncomputable def fK:XF:=aW 3 3 ku
noncomputable def rQ:XS:=(av (dI (ay eV (ab (aa 0) aj)))
 (dI (ay fK (ab (aa 0) (ab (aa 1) (ab (xC (.int 0)) aj))))))
noncomputable def j3:XF:=aW 2 2 rQ
noncomputable def jY:XS:=(av (dI (ay j3 (ab (aa 0) (ab (aa 1) aj))))
 (xIf (aI (xOp oNe (xOp oIx (aa 1) (xC (.int 0))) (aa 2))) bG aP))
noncomputable def d8:XF:=aW 3 3 jY
noncomputable def gF:XE:=(xLC (cv (xOp oIx (aa 0) (aa 5))) 1 (gNm 0) (aI (xOp oGe (aa 0) (aa 5))) (aa 0))
noncomputable def jJ:XS:=(dR (cv (aa 2)) (gNm 5) (av (aH gF (gNm 6))
 (av (xIf (c9 (cQ (aa 6))) (aL (xC .non)) aP)
 (av (oP (aa 3) (aa 5) (xOp oIx (aa 6) (xC (.int 0))))
 (aH (xOp aD (xOp oIx (aa 6) (xC (.int 0))) (xOp oDx (aa 1) (aa 5))) (gNm 4))))))
noncomputable def kx:XS:=(av (aH sX (gNm 3))
 (av (aH (xOp oIx (xOp oIx (aa 0) (xOp oIx (aa 2) (xC (.int 0)))) (xC (.int 0))) (gNm 4))
 (av jJ
 (aL (xFz (aa 3))))))
noncomputable def dX:XF:=aW 3 7 kx
noncomputable def eQ:XE:=(xLC (xS (aa 0)) 2 (gTu 2 (gCo (gNm 0) (gCo (gNm 1) gN0))) (fun _ S=>.ok true S) (oE (aa 3) (aa 0) (xOp oIx (aa 1) (xC (.int 0)))))
noncomputable def ir:XS:=(aL (xN cJ (ab eQ aj)))
noncomputable def dF:XF:=aW 2 2 ir
noncomputable def dc (s_told_of_order s_told_of_places:XF):XS:=(av (aH (ay dX (ab (aa 0) (ab (aa 1) (ab (aa 2) aj)))) (gNm 4))
 (av (xIf (aI (xOp oIs (aa 4) (xC .non))) (aL (xN mkT (ab (xC (.str "no")) (ab (xN mkT (ab (xC (.str "late")) (ab (aa 2) aj))) aj)))) aP)
 (av (xIf (c9 (cQ (aa 3))) (aL (xN mkT (ab (xC (.str "can")) (ab (ay dF (ab (aa 0) (ab (aa 4) aj))) aj)))) aP)
 (aL (ay s_told_of_places (ab (aa 0) (ab (aa 1) (ab (aa 2) (ab (xN bB (ab (aa 2) aj)) (ab (aa 3) aj))))))))))
noncomputable def dS (s_told_of_order s_told_of_places:XF):XS:=(av (aH (xOp oIx (aa 4) (xC (.int 0))) (gNm 5))
 (av (aH (ay s_told_of_order (ab (aa 0) (ab (aa 1) (ab (xOp aD (xOp aD (xSl oSl (aa 2) aE (aQ (aa 3))) (xN mkT (ab (aa 5) aj))) (xSl oSl (aa 2) (aQ (aa 3)) aE)) (ab (xSl oSl (aa 4) (aQ (xC (.int 1))) aE) aj))))) (gNm 6))
 (av (xIf (xOr (aI (xOp oEq (xOp oIx (aa 6) (xC (.int 0))) (xC (.str "can")))) (aI (xOp oEq (aa 3) (xC (.int 0))))) (aL (aa 6)) aP)
 (av (aH (ay s_told_of_places (ab (aa 0) (ab (aa 1) (ab (aa 2) (ab (xOp iE (aa 3) (xC (.int 1))) (ab (aa 4) aj)))))) (gNm 7))
 (av (xIf (aI (xOp oEq (xOp oIx (aa 7) (xC (.int 0))) (xC (.str "can")))) (aL (aa 7)) aP)
 (aL (xN mkT (ab (xC (.str "no")) (ab (xN mkT (ab (xC (.str "first")) (ab (xOp oIx (aa 2) (xOp iE (aa 3) (xC (.int 1)))) (ab (aa 5) (ab (xOp oIx (aa 6) (xC (.int 1))) (ab (xOp oIx (aa 7) (xC (.int 1))) aj)))))) aj)))))))))
mutual
noncomputable def bL:Nat→XF
 | 0=>aW 4 5 bG
 | n+1=>aW 4 5 (dc (bL n) (bF n))
noncomputable def bF:Nat→XF
 | 0=>aW 5 8 bG
 | n+1=>aW 5 8 (dS (bL n) (bF n))
end
noncomputable def js:XS:=(aL (xFz (xN fDZ (ab (xOp oIx (aa 0) (xC (.int 1))) (ab (xOp oIx (aa 0) (xC (.int 2))) aj)))))
noncomputable def dA:XF:=aW 1 1 js
noncomputable def lr:XS:=(av (dI (ay d8 (ab (aa 0) (ab (aa 1) (ab (xC (.str "hand")) aj)))))
 (aL (ay (bL 40) (ab (aa 0) (ab (ay dA (ab (aa 1) aj)) (ab (xSl oSl (xOp oIx (aa 1) (xC (.int 1))) aE (aQ (xC (.int 1)))) (ab (xSl oSl (xOp oIx (aa 1) (xC (.int 1))) (aQ (xC (.int 1))) aE) aj)))))))
noncomputable def gr:XF:=aW 2 2 lr
noncomputable def gc (s_l_paths_of:XF):XE:=(xLC (cv (ay s_l_paths_of (ab (xOp oIx (aa 0) (aa 2)) aj))) 1 (gNm 0) (fun _ S=>.ok true S) (xOp aD (xN mkT (ab (aa 3) aj)) (aa 0)))
noncomputable def jw (s_l_paths_of:XF):XS:=(dR (cv (xN mkL (ab (xC (.int 3)) (ab (xC (.int 4)) aj)))) (gNm 2) (dI (xLm l6 (aa 1) (gc s_l_paths_of))))
noncomputable def gb (s_l_paths_of:XF):XS:=(av (aH (xN mkM (ab (xN mkT aj) aj)) (gNm 1))
 (av (xIf (aI (xOp oEq (xOp oIx (aa 0) (xC (.int 0))) (xC (.str "first")))) (jw s_l_paths_of) aP)
 (aL (xFz (aa 1)))))
noncomputable def bN:Nat→XF
 | 0=>aW 1 3 bG
 | n+1=>aW 1 3 (gb (bN n))
noncomputable def iC (s_l_put_to:XF):XS:=(av (xIf (aI (xOp oEq (aa 1) (xN mkT aj))) (aL (aa 2)) aP)
 (av (aH (xOp oIx (aa 1) (xC (.int 0))) (gNm 3))
 (aL (xOp aD (xOp aD (xSl oSl (aa 0) aE (aQ (aa 3))) (xN mkT (ab (ay s_l_put_to (ab (xOp oIx (aa 0) (aa 3)) (ab (xSl oSl (aa 1) (aQ (xC (.int 1))) aE) (ab (aa 2) aj)))) aj))) (xSl oSl (aa 0) (aQ (xOp aD (aa 3) (xC (.int 1)))) aE)))))
noncomputable def de:Nat→XF
 | 0=>aW 3 4 bG
 | n+1=>aW 3 4 (iC (de n))
noncomputable def dG:XE:=(xLC (jM (ab (xN bB (ab (aa 1) aj)) aj)) 1 (gNm 0) (aI (xOp dN (aa 0) (xOp oIx (aa 3) (xC (.int 1))))) (aa 0))
noncomputable def iI:XS:=(av (aH dG (gNm 4))
 (av (xIf (lI (aI (xOp oNe (aa 4) (xN mkL aj))) (aI (xOp oEq (ay aZ (ab (aa 0) (ab (xC (.int 5)) aj))) (xC (.int 0))))) (aL (xN mkT (ab (xC (.str "first")) (ab (xOp oIx (xOp oIx (aa 2) (xC (.int 1))) (xC (.int 0))) (ab (xOp oIx (aa 4) (ay aZ (ab (aa 0) (ab (xN bB (ab (aa 4) aj)) aj)))) (ab (aa 3) (ab (aa 3) aj))))))) aP)
 (av (aH (xOp oIx (xN mkL (ab (xC (.int 0)) (ab (xC (.int 1)) (ab (xC (.int 2)) (ab (xC (.int 3)) (ab (xUn jc (xC (.int 1))) (ab (xC (.int 4)) (ab (xOp mX (xC (.int 10)) (xC (.int 20))) aj)))))))) (ay aZ (ab (aa 0) (ab (xC (.int 7)) aj)))) (gNm 5))
 (av (xIf (aI (xOp oEq (xOp oIx (aa 3) (xC (.int 0))) (xC (.str "first")))) (av (aH (xN mkL (ab (xOp aD (xSl oSl (aa 3) aE (aQ (xC (.int 3)))) (xN mkT (ab (xOp oIx (aa 3) (xC (.int 4))) (ab (xOp oIx (aa 3) (xC (.int 3))) aj)))) (ab (xOp oIx (aa 3) (xC (.int 3))) (ab (xOp aD (xN mkT (ab (xC (.str "first")) (ab (aa 5) aj))) (xSl oSl (aa 3) (aQ (xC (.int 2))) aE)) (ab (xOp aD (xOp aD (xSl oSl (aa 3) aE (aQ (xC (.int 2)))) (xN mkT (ab (aa 5) aj))) (xSl oSl (aa 3) (aQ (xC (.int 3))) aE)) aj))))) (gNm 6))
 (av (aH (xOp aD (aa 6) (xN mkL (ab (xOp aD (xN mkT (ab (xC (.str "first")) (ab (xOp oIx (aa 3) (xC (.int 2))) (ab (xOp oIx (aa 3) (xC (.int 1))) aj)))) (xSl oSl (aa 3) (aQ (xC (.int 3))) aE)) (ab (xOp aD (xN mkT (ab (xC (.str "first")) (ab (aa 5) (ab (aa 5) aj)))) (xSl oSl (aa 3) (aQ (xC (.int 3))) aE)) aj)))) (gNm 6))
 (aL (xOp oIx (aa 6) (ay aZ (ab (aa 0) (ab (xC (.int 6)) aj))))))) aP)
 (av (aH (xOp oIx (aa 3) (xC (.int 1))) (gNm 7))
 (av (aH (ay aZ (ab (aa 0) (ab (xOp aD (xN bB (ab (aa 7) aj)) (xC (.int 1))) aj))) (gNm 8))
 (av (aH (xN mkL (ab (xOp aD (xSl oSl (aa 7) aE (aQ (aa 8))) (xSl oSl (aa 7) (aQ (xOp aD (aa 8) (xC (.int 1)))) aE)) (ab (xOp aD (xOp aD (xSl oSl (aa 7) aE (aQ (aa 8))) (xN mkT (ab (aa 5) aj))) (xSl oSl (aa 7) (aQ (aa 8)) aE)) (ab (xOp aD (xOp aD (xSl oSl (aa 7) aE (aQ (aa 8))) (xN mkT (ab (aa 5) aj))) (xSl oSl (aa 7) (aQ (xOp aD (aa 8) (xC (.int 1)))) aE)) (ab (xOp mY (aa 7) (xUn jc (xC (.int 1)))) aj))))) (gNm 6))
 (av (aH (xOp aD (aa 6) (xN mkL (ab (xN mkT aj) (ab (xSl oSl (aa 7) aE (aQ (xC (.int 1)))) (ab (xOp aD (aa 7) (xSl oSl (aa 7) aE (aQ (xC (.int 1))))) aj))))) (gNm 6))
 (aL (xN mkT (ab (xC (.str "late")) (ab (xOp oIx (aa 6) (ay aZ (ab (aa 0) (ab (xC (.int 7)) aj)))) aj))))))))))))
noncomputable def ed:XF:=aW 4 9 iI
noncomputable def j7:XS:=(dR (cv (aa 1)) (gNm 2) (aH (xOp oIx (aa 0) (aa 2)) (gNm 0)))
noncomputable def kb:XS:=(av j7
 (aL (aa 0)))
noncomputable def fM:XF:=aW 2 3 kb
noncomputable def fc (s_l_hand_right:XF):XS:=(av (xIf (aI (xOp oEq (xOp oIx (aa 2) (xC (.int 0))) (xC (.str "late")))) (aL (ay gT (ab (aa 0) (ab (aa 1) (ab (xOp oIx (aa 2) (xC (.int 1))) (ab (aa 3) aj)))))) aP)
 (av (aH (xSl oSl (aa 2) (aQ (xC (.int 1))) (aQ (xC (.int 3)))) (gTu 2 (gCo (gNm 4) (gCo (gNm 5) gN0))))
 (av (xIf (xOr (aI (xOp oEq (aa 4) (aa 5))) (xOr (aI (xOp dN (aa 4) (xOp oIx (aa 1) (xC (.int 1))))) (aI (xOp dN (aa 5) (xOp oIx (aa 1) (xC (.int 1))))))) (aL (xC (.bl false))) aP)
 (av (xIf (c9 (cQ (ay s_l_hand_right (ab (aa 0) (ab (aa 1) (ab (xOp oIx (aa 2) (xC (.int 3))) (ab (xOp aD (aa 3) (xN mkL (ab (xN mkT (ab (aa 4) (ab (aa 5) aj))) aj))) aj))))))) (aL (xC (.bl false))) aP)
 (aL (ay s_l_hand_right (ab (aa 0) (ab (aa 1) (ab (xOp oIx (aa 2) (xC (.int 4))) (ab (xOp aD (aa 3) (xN mkL (ab (xN mkT (ab (aa 5) (ab (aa 4) aj))) aj))) aj))))))))))
noncomputable def cb:Nat→XF
 | 0=>aW 4 6 bG
 | n+1=>aW 4 6 (fc (cb n))
noncomputable def eG:XE:=(xLC (cv (aa 2)) 1 (gNm 0) (fun _ S=>.ok true S) (xOp oIn (aa 0) (xOp oIx (aa 2) (xC (.int 1)))))
noncomputable def eF:XE:=(xLC (oU (ab (aa 2) (ab (xSl oSl (aa 2) (aQ (xC (.int 1))) aE) aj))) 1 (gNm 0) (fun _ S=>.ok true S) (xOp oIn (aa 0) (aa 4)))
noncomputable def hG:XS:=(av (xIf (xOr (c9 (cQ (xUn (gH "tuple") (aa 2)))) (xOr (aI (xOp oLt (xN bB (ab (aa 2) aj)) (xC (.int 2)))) (c9 (cQ (ay cD (ab (aa 2) aj)))))) (aL (xC (.bl false))) aP)
 (av (xIf (c9 (cQ (xN eD (ab eG aj)))) (aL (xC (.bl false))) aP)
 (av (xIf (c9 (cQ (xN eD (ab eF aj)))) (aL (xC (.bl false))) aP)
 (aL (xOp oIs (ay dX (ab (aa 0) (ab (ay dA (ab (aa 1) aj)) (ab (aa 2) aj)))) (xC .non))))))
noncomputable def dr:XF:=aW 4 4 hG
noncomputable def gg (s_is_right_split s_is_right_tree:XF):XS:=(av (aH (xOp oIx (aa 2) (xC (.int 1))) (gNm 4))
 (av (aH (xOp oIx (aa 2) (xC (.int 2))) (gNm 5))
 (av (xIf (xOr (aI (xOp oEq (aa 4) (aa 5))) (xOr (aI (xOp dN (aa 4) (xOp oIx (aa 1) (xC (.int 1))))) (aI (xOp dN (aa 5) (xOp oIx (aa 1) (xC (.int 1))))))) (aL (xC (.bl false))) aP)
 (av (xIf (c9 (cQ (ay s_is_right_tree (ab (aa 0) (ab (aa 1) (ab (xOp oIx (aa 2) (xC (.int 3))) (ab (xOp aD (aa 3) (xN mkL (ab (xN mkT (ab (aa 4) (ab (aa 5) aj))) aj))) aj))))))) (aL (xC (.bl false))) aP)
 (aL (ay s_is_right_tree (ab (aa 0) (ab (aa 1) (ab (xOp oIx (aa 2) (xC (.int 4))) (ab (xOp aD (aa 3) (xN mkL (ab (xN mkT (ab (aa 5) (ab (aa 4) aj))) aj))) aj))))))))))
noncomputable def eo (s_is_right_split s_is_right_tree:XF):XS:=(av (xIf (c9 (cQ (xUn (gH "tuple") (aa 2)))) (aL (xC (.bl false))) aP)
 (av (xIf (lI (aI (xOp oEq (xN bB (ab (aa 2) aj)) (xC (.int 2)))) (aI (xOp oEq (xOp oIx (aa 2) (xC (.int 0))) (xC (.str "late"))))) (aL (ay dr (ab (aa 0) (ab (aa 1) (ab (xOp oIx (aa 2) (xC (.int 1))) (ab (aa 3) aj)))))) aP)
 (aL (cS (xOp oEq (xN bB (ab (aa 2) aj)) (xC (.int 5))) (cS (xOp oEq (xOp oIx (aa 2) (xC (.int 0))) (xC (.str "first"))) (ay s_is_right_split (ab (aa 0) (ab (aa 1) (ab (aa 2) (ab (aa 3) aj))))))))))
mutual
noncomputable def cc:Nat→XF
 | 0=>aW 4 6 bG
 | n+1=>aW 4 6 (gg (cc n) (bT n))
noncomputable def bT:Nat→XF
 | 0=>aW 4 4 bG
 | n+1=>aW 4 4 (eo (cc n) (bT n))
end
noncomputable def jD:XS:=(av (dI (ay d8 (ab (aa 0) (ab (aa 1) (ab (xC (.str "hand")) aj)))))
 (aL (ay (bT 40) (ab (aa 0) (ab (aa 1) (ab (aa 2) (ab (xN mkL aj) aj)))))))
noncomputable def cY:XF:=aW 3 3 jD
noncomputable def k_:XS:=(av (dI (ay j3 (ab (aa 0) (ab (aa 1) aj))))
 (av (aH (xOp oIx (aa 1) (xC (.int 0))) (gNm 3))
 (av (xIf (aI (xOp oEq (aa 3) (xC (.str "unlike")))) bG aP)
 (av (xIf (aI (xOp oEq (aa 3) (xC (.str "many")))) bG aP)
 (av (xIf (aI (xOp oEq (aa 3) (xC (.str "sum")))) bG aP)
 (av (xIf (aI (xOp oEq (aa 3) (xC (.str "row")))) bG aP)
 (aL (ay cY (ab (aa 0) (ab (aa 1) (ab (aa 2) aj)))))))))))
noncomputable def fh:XF:=aW 3 4 k_
noncomputable def p_:XE:=(xLC (cv (xOp oIx (aa 4) (xC (.int 2)))) 1 (gNm 0) (fun _ S=>.ok true S) (xOp aD (xC (.int 1)) (xOp oMod (aa 0) (xC (.int 4)))))
noncomputable def oW:XE:=(xLC (cv (xOp oIx (aa 4) (xC (.int 1)))) 1 (gNm 0) (fun _ S=>.ok true S) (xLm mS (aa 8) (ay aZ (ab (aa 2) (ab (xN bB (ab (aa 8) aj)) aj)))))
noncomputable def mJ:XS:=(dR (jM (ab (xC (.int 6)) aj)) (gNm 13) (av (aH (xOp oIx (aa 10) (xOp oIx (xN mkL (ab (xC (.int 0)) (ab (xOp iE (xN bB (ab (aa 10) aj)) (xC (.int 1))) aj))) (xOp oMod (aa 13) (xC (.int 2))))) (gNm 14))
 (av (aH (ay (bN 40) (ab (aa 14) aj)) (gNm 15))
 (av (aH (xOp oIx (aa 15) (ay aZ (ab (aa 1) (ab (xN bB (ab (aa 15) aj)) aj)))) (gNm 16))
 (dI (xLm j9 (aa 10) (ay (de 40) (ab (aa 14) (ab (aa 16) (ab (ay ed (ab (aa 1) (ab (aa 3) (ab (aa 4) (ab (ay fM (ab (aa 14) (ab (aa 16) aj))) aj))))) aj))))))))))
noncomputable def oS:XS:=(dR (cv (xN mkL (ab (ay cY (ab (aa 17) (ab (aa 18) (ab (aa 14) aj)))) (ab (ay fh (ab (aa 17) (ab (aa 18) (ab (aa 14) aj)))) aj)))) (gNm 20) (xIf (xOr (c9 (cQ (xUn (gH "bool") (aa 20)))) (aI (xOp oNe (aa 20) (aa 19)))) (aL (xC (.bl false))) aP))
noncomputable def pJ:XS:=(dR (cv (xN mkL (ab (xN mkT (ab (aa 3) (ab (aa 4) aj))) (ab (xN mkT (ab (aa 5) (ab (aa 4) aj))) (ab (xN mkT (ab (aa 3) (ab (aa 6) aj))) aj))))) (gTu 2 (gCo (gNm 17) (gCo (gNm 18) gN0))) (av (aH (ay (cb 40) (ab (aa 17) (ab (aa 18) (ab (aa 14) (ab (xN mkL aj) aj))))) (gNm 19))
 oS))
noncomputable def l_:XS:=(dR (cv (aa 10)) (gNm 14) pJ)
noncomputable def uh:XS:=(dR (jM (ab (xC (.int 6)) aj)) (gNm 2) (av (aH (ay iw (ab (ay jk (ab (aa 1) aj)) (ab (xC (.int 4)) (ab (xOp oIx (xN mkL (ab (xC (.int 2)) (ab (xC (.int 3)) (ab (xC (.int 1)) aj)))) (xOp oMod (aa 2) (xC (.int 3)))) aj)))) (gNm 3))
 (av (aH (ay fL (ab (aa 1) (ab (aa 3) (ab (xC (.int 4)) aj)))) (gNm 4))
 (av (aH (ay gz (ab (aa 1) (ab (aa 3) aj))) (gNm 5))
 (av (aH (xOp aD (xSl oSl (aa 4) aE (aQ (xC (.int 2)))) (xN mkT (ab (xN cJ (ab p_ aj)) aj))) (gNm 6))
 (av (aH (xN gQ (ab (xOp oIx (aa 4) (xC (.int 1))) aj)) (gNm 7))
 (av (aH oW (gNm 8))
 (av (aH (ay (dv 40) (ab (aa 3) (ab (aa 4) (ab (xN mkL aj) (ab (aa 8) (ab (xC (.int 0)) (ab (xOp oGt (ay aZ (ab (aa 1) (ab (xC (.int 3)) aj))) (xC (.int 0))) aj))))))) (gNm 9))
 (av (aH (xN mkM (ab (aa 9) (ab (xN mkT (ab (xC (.str "late")) (ab (xOp oIx (aa 4) (xC (.int 1))) aj))) aj))) (gNm 10))
 (av (aH (ay gr (ab (aa 3) (ab (aa 4) aj))) (gTu 2 (gCo (gNm 11) (gCo (gNm 12) gN0))))
 (av (xIf (aI (xOp oEq (aa 11) (xC (.str "no")))) (dI (xLm j9 (aa 10) (aa 12))) aP)
 (av mJ
 l_))))))))))))
noncomputable def vR:XS:=(av (aH (ay jq (ab (aa 0) aj)) (gNm 1))
 (av uh
 (aL (xC (.bl true)))))
noncomputable def sQ:XF:=aW 1 21 vR
local macro_rules | `(tactic| walk_at "mx") => do
 let a:=("Er Ez Ex Dz BW EJ DS EO yN yQ BV DO DD Bg Di Fg DL v8 E7 E2 Bj CM zF FC Ci DP Fe EF EX Fh BX AF Dc Du DX DI A2 Cu zC yU yW BZ BM Bs zN zq Cw AL C4 vO rY yM yl Fz F3 rC BP yx ED Ew Bn ug zm Gd EY E3 EM DB Ff DZ El Eg Es mR iJ iA EA DQ DY zJ DK CH Eb zb zy vZ yh BA pI p9 oF mP mh Ep ES ER Dt yn yo yS tQ pN tT mC qa pG A6 Ee Dd Dh CQ E_ F0 CG Eu D7 D8 Eo En E8 DR D4 Dn B7 Dl Ba wN wV xu xn EZ pF vm CU AO Bz BN rN Ay Ej Ek oK Ey EW yK D9 Fv Fm FQ FV Br Bh AV Ca C6 AN CP Bd B2 Cd yV Af zA Co BO Cz CK Bx AH Bk Dj CJ Cs zS Av zP Dp CI Ds CC xY wC wq xw w6 xB yv uM Dw AX".splitOn " ").toArray.map fun s=>Lean.mkIdent (Lean.Name.mkStr `L2 s)
 let b:=("List.getElem?_cons_zero List.getElem?_cons_succ List.set_cons_zero List.set_cons_succ List.map_cons List.map_nil List.length_cons List.length_nil List.cons_append List.nil_append List.replicate_succ List.replicate_zero List.append_nil Nat.reduceSub Nat.reduceAdd Nat.zero_add Bool.not_true Bool.not_false decide_true decide_false beq_self_eq_true if_true if_false Int.reduceNeg".splitOn " ").toArray.map fun s=>Lean.mkIdent s.toName
 `(tactic| simp only [$[$a:term],*,$[$b:term],*,↓reduceIte])
local macro_rules | `(tactic| walk_at "mo") => `(tactic| first
  | rw [yt (by first | decide | omega)]
  | rw [DW (by first | exact Fb (by decide) (by decide) | exact Or.inl ⟨by omega,by omega⟩ | exact Or.inr ⟨by omega,by omega⟩)]
  | rw [D5 ⟨by first | decide | omega,by first | decide | omega⟩]
  | rw [tM ⟨by decide,by decide,by decide⟩]
  | rw [fO (by first | (simp only [List.length_cons,List.length_nil,List.length_map];omega) | (simp;omega))]
  | rw [kf (by first | (simp only [List.length_cons,List.length_nil,List.length_map];omega) | (simp;omega))]
  | rw [EH (by omega)]
  | rw [ym (by omega)])
local macro_rules | `(tactic| walk_at "mm") => `(tactic| repeat (first | walk_at "mx" | walk_at "mo"))
local macro_rules | `(tactic| erw [$rs,*]) => `(tactic| (rw [$rs,*]; walk_at "mx"))
def dj (cells:List Int) (at' pool:Int):Ob:=.lst [.lst (cells.map D.int),.int at',.int pool]
def Pen (o:Ob):Prop:=∃ cells at' pool,o=dj cells at' pool∧cells.length≤63∧0≤at'∧0≤pool
theorem aC {S:Sto} {x:D} {τ:Nv}:leave S (.ok (.rt (.d x),τ) S)=.ok (.d x) S:=by rw [i_,g_,List.take_length]
theorem lM {S R:Sto} {x:D} {τ:Nv}:leave S (.ok (.rt (.d x),τ) (S++R))=.ok (.d x) S:=by rw [i_,g_,List.take_left]
theorem dE {S S':Sto} {x:D} {τ:Nv}:leave S (.ok (.rt (.d x),τ) S')=.ok (.d x) (S'.take S.length):=by rw [i_,g_]
theorem vi (cell at':Int) (h:0≤at') (S:Sto):∃ r:Int,0≤r∧eX [.d (.int cell),.d (.int at')] S=.ok (.d (.int r)) S:=by
 unfold eX
 rw [eY]
 unfold lg
 walk_at "mx"
 erw [tM ⟨by decide,by decide,by decide⟩]
 by_cases hc:(10:Int) ^ (18:Int).toNat≤cell
 ·rw [decide_eq_true hc]
  refine ⟨cell,Int.le_trans (by decide) hc,?_⟩
  walk_at "mx"
  exact aC
 ·rw [decide_eq_false hc]
  walk_at "mm"
  generalize hone:(cell % 1000000007 * 69069+at' * 40503+977) % 2147483629=one
  have o1:0≤one:=by rw [← hone];exact Int.emod_nonneg _ (by decide)
  have o2:one < 2147483629:=by rw [← hone];exact Int.emod_lt_of_pos _ (by decide)
  walk_at "mm"
  generalize htwo:(one * one+at' * 7919+cell % 65537) % 2147483587=two
  have o3:0≤two:=by rw [← htwo];exact Int.emod_nonneg _ (by decide)
  have o4:two < 2147483587:=by rw [← htwo];exact Int.emod_lt_of_pos _ (by decide)
  walk_at "mm"
  generalize hthree:(two * two+one * 31+5) % 2147483563=three
  have o5:0≤three:=by rw [← hthree];exact Int.emod_nonneg _ (by decide)
  walk_at "mm"
  exact ⟨(one * 2147483659+two) * 2147483693+three,by omega,aC⟩
theorem mj {cells:List Int} {at' pool:Int} {R:Sto}:oIx (.r 0) (.d (.int 0)) (dj cells at' pool :: R)=.ok (.d (.lst (cells.map D.int))) (dj cells at' pool :: R):=mI rfl rfl
theorem Dv {cells:List Int} {at' pool:Int} {R:Sto}:oIx (.r 0) (.d (.int 1)) (dj cells at' pool :: R)=.ok (.d (.int at')) (dj cells at' pool :: R):=mI rfl rfl
theorem tG {cells:List Int} {at' pool:Int} {R:Sto}:oIx (.r 0) (.d (.int 2)) (dj cells at' pool :: R)=.ok (.d (.int pool)) (dj cells at' pool :: R):=mI rfl rfl
theorem C5 {cells:List Int} {at' pool v:Int} {R:Sto}:ef (.r 0) (.d (.int 1)) (.d (.int v)) (dj cells at' pool :: R)=.ok () (dj cells v pool :: R):=ai rfl
theorem pZ {cells:List Int} {at' pool v:Int} {R:Sto}:ef (.r 0) (.d (.int 2)) (.d (.int v)) (dj cells at' pool :: R)=.ok () (dj cells at' v :: R):=ai rfl
theorem fG {ns:List Int} {i:Int} (h0:0≤i) (h1:i < ns.length):∃ n,atI (ns.map D.int) i=some (.int n)∧n∈ns:=by
 have hk:i.toNat < ns.length:=by omega
 refine ⟨ns[i.toNat],?_,List.getElem_mem hk⟩
 unfold atI
 rw [oH h0 (by simpa using h1)]
 show (ns.map D.int)[i.toNat]?=_
 rw [List.getElem?_map,List.getElem?_eq_getElem hk]
 rfl
theorem hW {o o':Ob} {R:Sto}:(o' :: R).take (o :: R).length=o' :: R:=by rw [show (o :: R).length=(o' :: R).length from rfl,List.take_length]
theorem bI {o:Ob} {R:Sto} {m:Int} (hp:Pen o) (h0:0 < m) (h1:m < 1073741824):∃ (k:Int) (o':Ob),0≤k∧k < m∧Pen o'∧aZ [.r 0,.d (.int m)] (o :: R)=.ok (.d (.int k)) (o' :: R):=by
 obtain ⟨cells,at',pool,rfl,hl,ha,hq⟩:=hp
 unfold aZ
 rw [eY]
 unfold nY
 have tail:∀ (at2 pool2:Int) (o2 o3:Option Vl),0≤at2→0≤pool2→∃ (k:Int) (o':Ob),0≤k∧k < m∧Pen o' ∧
   leave (dj cells at' pool :: R) ((av (aH (xOp oMod (xOp oIx (aa 0) (xC (.int 2))) (aa 1)) (gNm 4)) (av (aH (xOp oDiv (xOp oIx (aa 0) (xC (.int 2))) (aa 1)) (gSb (aa 0) (xC (.int 2)) ef)) (aL (aa 4)))) [some (.r 0),some (.d (.int m)),o2,o3,none] (dj cells at2 pool2 :: R))=.ok (.d (.int k)) (o' :: R):=by
  intro at2 pool2 o2 o3 g1 g2
  walk_at "mx"
  rw [tG]
  walk_at "mm"
  rw [tG]
  walk_at "mm"
  rw [pZ]
  walk_at "mm"
  exact ⟨pool2 % m,_,Int.emod_nonneg _ (by omega),Int.emod_lt_of_pos _ h0,⟨cells,at2,pool2 / m,rfl,hl,g1,Int.ediv_nonneg g2 (by omega)⟩,by rw [dE,hW]⟩
 erw [iJ,yh]
 rw [tG]
 walk_at "mm"
 by_cases hc:pool < m
 ·erw [decide_eq_true hc]
  rw [Dv]
  walk_at "mm"
  rw [mj]
  walk_at "mm"
  have fin:∀ cell:Int,∃ (k:Int) (o':Ob),0≤k∧k < m∧Pen o'∧leave (dj cells at' pool :: R) (sq1 ((av (aH (xOp aD (aa 2) (xC (.int 1))) (gSb (aa 0) (xC (.int 1)) ef)) (aH (ay eX (ab (aa 3) (ab (aa 2) aj))) (gSb (aa 0) (xC (.int 2)) ef))) [some (.r 0),some (.d (.int m)),some (.d (.int at')),some (.d (.int cell)),none] (dj cells at' pool :: R))
    (av (aH (xOp oMod (xOp oIx (aa 0) (xC (.int 2))) (aa 1)) (gNm 4)) (av (aH (xOp oDiv (xOp oIx (aa 0) (xC (.int 2))) (aa 1)) (gSb (aa 0) (xC (.int 2)) ef)) (aL (aa 4)))))=.ok (.d (.int k)) (o' :: R):=by
   intro cell
   erw [iJ,p9]
   rw [C5]
   rw [tQ,mP,iA,p9,rC]
   obtain ⟨r,hr,er⟩:=vi cell at' ha (dj cells (at'+1) pool :: R)
   simp only [rY,vO,yQ,yN,yM,yl,BP,er,yx,oF,yn,yo,yS,BV,pZ,tQ,mP,iA]
   exact tail (at'+1) r _ _ (by omega) hr
  by_cases hin:at' < ((cells.map D.int).length:Int)
  ·erw [decide_eq_true hin]
   rw [mj]
   obtain ⟨n,en,_⟩:=fG (ns:=cells) ha (by simpa using hin)
   walk_at "mx"
   rw [dH en]
   rw [oF,mh,mP,iA]
   exact fin n
  ·erw [decide_eq_false hin]
   rw [mj]
   walk_at "mm"
   by_cases hpos:(0:Int) < ((cells.map D.int).length:Int)
   ·erw [decide_eq_true hpos]
    rw [mj]
    walk_at "mm"
    rw [mj]
    walk_at "mm"
    obtain ⟨n,en,_⟩:=fG (ns:=cells) (i:=(at' * 5+3) % ((cells.map D.int).length:Int)) (Int.emod_nonneg _ (by omega)) (by have:=Int.emod_lt_of_pos (at' * 5+3) hpos;simpa using this)
    erw [dH en]
    erw [tM ⟨by decide,by decide,by decide⟩]
    rw [yt (by have:(0:Int) < 10 ^ (17:Int).toNat:=(by decide);omega)]
    rw [oF,mh,mP,iA]
    exact fin _
   ·rw [decide_eq_false hpos]
    rw [pI,mR,iA]
    exact fin 0
 ·rw [decide_eq_false hc]
  rw [pI,mR,iA]
  exact tail at' pool _ _ ha hq
structure GoodW (m:Int) (ws:List Int):Prop where
 rise:ws.Pairwise (· < ·)
 lim:∀ w∈ws,-9≤w∧w≤9
 pos:1≤ws.length
 le:(ws.length:Int)≤m
def ao (ns:List Int):D:=.tup (ns.map D.int)
theorem nO {o:Ob} {R:Sto} {most near:Int} (hp:Pen o) (h0:0 < most) (h1:most≤50) (n0:-9≤near) (n1:near≤5):∃ (ws:List Int) (o':Ob),GoodW most ws∧Pen o'∧eR [.r 0,.d (.int most),.d (.int near)] (o :: R)=.ok (.d (ao ws)) (o' :: R):=by
 unfold eR
 rw [cZ]
 unfold lE
 walk_at "mx"
 obtain ⟨k,o1,k0,k1,hp1,e1⟩:=bI (R:=R++[.lst []]) hp h0 (by omega)
 obtain ⟨τ',S',e2,o2,ws,x4,x5,hp2,rfl,rfl,nd,lim,le,pos⟩:=fe (show _=lG [some (.r 0),some (.d (.int most)),some (.d (.int near)),some (.r (R.length+1)),none,none] (o :: (R++[.lst []])) from rfl)
  (S1:=o1 :: (R++[.lst []])) (gd:=none) (items:=(List.range (1+k).toNat).map fun i=>Vl.d (.int (i:Nat))) (by walk_at "mx";rw [e1];walk_at "mm")
  (fun i τ S=>∃ (o':Ob) (ws:List Int) (x4 x5:Option Vl),Pen o'∧τ=[some (.r 0),some (.d (.int most)),some (.d (.int near)),some (.r (R.length+1)),x4,x5]∧S=o' :: (R++[.lst (ws.map D.int)])∧ws.Nodup∧(∀ w∈ws,-9≤w∧w≤9)∧ws.length≤i∧(0 < i→0 < ws.length))
  ⟨o1,[],none,none,hp1,rfl,rfl,List.nodup_nil,by simp,Nat.le_refl _,by omega⟩ (by
   rintro i z τ S hz ⟨o',ws,x4,x5,hp',rfl,rfl,nd,lim,le,pos⟩
   have hi:i < (1+k).toNat:=by simpa using (List.getElem?_eq_some_iff.mp hz).1
   obtain ⟨a,oa,a0,a1,hpa,ea⟩:=bI (R:=R++[.lst (ws.map D.int)]) (m:=5) hp' (by decide) (by decide)
   obtain ⟨b,ob,b0,b1,hpb,eb⟩:=bI (R:=R++[.lst (ws.map D.int)]) (m:=6) hpa (by decide) (by decide)
   obtain ⟨c,oc,c0,c1,hpc,ec⟩:=bI (R:=R++[.lst (ws.map D.int)]) (m:=19) hpb (by decide) (by decide)
   have fin:∀ (v:Int) (q:Ob) (x5':Option Vl),-9≤v→v≤9→Pen q→x5'=some (.d (.int v))→∃ fl τ2 S2,(xIf (aI (xOp dN (aa 5) (aa 3))) (dI (xLm j9 (aa 3) (aa 5))) aP) [some (.r 0),some (.d (.int most)),some (.d (.int near)),some (.r (R.length+1)),some z,x5'] (q :: (R++[.lst (ws.map D.int)]))=.ok (fl,τ2) S2∧(fl=.nx∨fl=.ct) ∧
     ∃ (o':Ob) (ws:List Int) (x4 x5:Option Vl),Pen o'∧τ2=[some (.r 0),some (.d (.int most)),some (.d (.int near)),some (.r (R.length+1)),x4,x5]∧S2=o' :: (R++[.lst (ws.map D.int)])∧ws.Nodup∧(∀ w∈ws,-9≤w∧w≤9)∧ws.length≤i+1∧(0 < i+1→0 < ws.length):=by
    rintro v q _ v0 v1 hq rfl
    walk_at "mx"
    rw [Bo (ns:=ws) rJ]
    by_cases hm:v∈ws
    ·erw [decide_eq_true hm]
     exact ⟨_,_,_,rfl,.inl rfl,q,ws,_,_,hq,rfl,rfl,nd,lim,by omega,fun _=>List.length_pos_of_mem hm⟩
    ·erw [decide_eq_false hm]
     erw [t9 (by rw [List.length_map];omega)]
     refine ⟨_,_,_,rfl,.inl rfl,q,ws++[v],_,_,hq,rfl,by rw [List.map_append];rfl,?_,?_,by simp;omega,fun _=>by simp⟩
     ·rw [List.nodup_append]
      refine ⟨nd,by simp,fun x hx y hy=>?_⟩
      rw [List.mem_singleton.mp hy]
      rintro rfl
      exact hm hx
     ·intro w hw
      rcases List.mem_append.mp hw with e | e
      ·exact lim w e
      ·rw [List.mem_singleton.mp e];omega
   by_cases hb:b=0
   ·subst hb
    obtain ⟨fl,τ2,S2,f1,f2,f3⟩:=fin (c - 9) oc _ (by omega) (by omega) hpc rfl
    refine ⟨_,_,fl,τ2,S2,mh,?_,f2,True.intro,f3⟩
    walk_at "mx"
    erw [ea]
    erw [eb]
    erw [ec]
    erw [← f1]
   ·obtain ⟨fl,τ2,S2,f1,f2,f3⟩:=fin (near+a) ob _ (by omega) (by omega) hpb rfl
    refine ⟨_,_,fl,τ2,S2,mh,?_,f2,True.intro,f3⟩
    walk_at "mx"
    erw [ea]
    erw [eb]
    erw [decide_eq_false hb]
    rw [← f1]
    walk_at "mx")
 erw [e2]
 rw [nc] at le pos
 erw [Ak rJ (by omega)]
 refine ⟨sortI ws,o2,⟨pW nd,fun w hw=>lim w ((nD ws w).mp hw),by rw [jL];exact pos (by omega),by rw [jL];omega⟩,hp2,?_⟩
 rw [dE]
 simp [ao]
structure bX (n m:Int) (wss:List (List Int)):Prop where
 pos:1≤wss.length
 le:(wss.length:Int)≤n
 all:∀ ws∈wss,GoodW m ws
def aw (wss:List (List Int)):D:=.tup (wss.map ao)
theorem wX {o:Ob} {R:Sto} {names most:Int} (hp:Pen o) (h0:0 < names) (h1:names≤50) (m0:0 < most) (m1:most≤50):∃ (wss:List (List Int)) (o':Ob),bX names most wss∧Pen o'∧iw [.r 0,.d (.int names),.d (.int most)] (o :: R)=.ok (.d (aw wss)) (o' :: R):=by
 unfold iw
 rw [cZ]
 unfold mf
 walk_at "mx"
 obtain ⟨k,o1,k0,k1,hp1,e1⟩:=bI (R:=R) (m:=15) hp (by decide) (by decide)
 erw [e1]
 obtain ⟨j,o2,j0,j1,hp2,e2⟩:=bI (R:=R) hp1 h0 (by omega)
 obtain ⟨acc,Q,e4,hl,o3,wss,hp3,rfl,rfl,hw,hg⟩:=kB (show _=mH [some (.r 0),some (.d (.int names)),some (.d (.int most)),some (.d (.int (k - 9)))] (o1 :: R) from rfl) (S1:=o2 :: R) (items:=(List.range (1+j).toNat).map fun i=>Vl.d (.int (i:Nat))) (by walk_at "mx";rw [e2];walk_at "mm")
  (fun i acc Q=>∃ (o':Ob) (wss:List (List Int)),Pen o'∧acc=wss.map ao∧Q=o' :: R∧wss.length=i∧∀ ws∈wss,GoodW most ws) ⟨o2,[],hp2,rfl,rfl,rfl,by simp⟩ (by
   rintro i z acc Q hz ⟨o',wss,hp',rfl,rfl,hw,hg⟩ _
   obtain ⟨hi,rfl⟩:=kK hz
   obtain ⟨ws,o3,gw,hp3,e3⟩:=nO (R:=R++[.lst (wss.map ao)]) (near:=k - 9) hp' m0 m1 (by omega) (by omega)
   refine ⟨ao ws,o3 :: R,?_,rfl,o3,wss++[ws],hp3,gO.symm,rfl,by simp [hw],fun x hx=>?_⟩
   ·walk_at "mx"
    erw [e3]
   ·rcases List.mem_append.mp hx with e | e
    ·exact hg x e
    ·rw [List.mem_singleton.mp e];exact gw)
 erw [e4]
 rw [nc] at hw
 exact ⟨wss,o3,⟨by omega,by omega,hg⟩,hp3,by rw [dE,hW];rfl⟩
theorem zY {o:Ob} {R:Sto} (hp:Pen o):∃ o',Pen o'∧jk [.r 0] (o :: R)=.ok (.r 0) (o' :: R):=by
 obtain ⟨cells,at',pool,rfl,hl,ha,hq⟩:=hp
 unfold jk
 rw [cn]
 unfold nZ
 walk_at "mx"
 erw [pZ]
 refine ⟨dj cells at' 0,⟨cells,at',0,rfl,hl,ha,Int.le_refl 0⟩,?_⟩
 rw [i_]
 unfold out
 dsimp only
 rw [if_pos (by simp),hW]
theorem jr {xs:List D} {i:Nat} {z:Vl} (h:(cF 0 xs)[i]?=some z):∃ x,xs[i]?=some x∧z=.d (.tup [.int i,x]):=by
 rw [dz] at h
 cases q:xs[i]? with
 | none=>rw [q] at h;cases h
 | some x=>rw [q] at h;cases h;exact ⟨x,rfl,by rw [Nat.zero_add]⟩
theorem zw (ns:List Int):∃ o,Pen o∧jq [.sc ns] []=.ok (.r 0) [o]:=by
 unfold jq
 rw [cn]
 unfold nu
 walk_at "mx"
 rw [show (12:Int)=((12:Nat):Int) from rfl,dh,← List.map_take]
 obtain ⟨τ',S',e2,cs,x2,x3,rfl,rfl,hl⟩:=fe (show _=ny [some (.sc ns),some (.r 0),none,none] [.lst ((ns.take 12).map D.int)] from rfl)
  (S1:=[.lst ((ns.take 12).map D.int)]) (gd:=none) (items:=cF 0 (((ns.map D.int).drop 12).take (63 - 12))) (by
   walk_at "mx"
   rw [show (12:Int)=((12:Nat):Int) from rfl,show (63:Int)=((63:Nat):Int) from rfl,uU])
  (fun i τ S=>∃ (cs:List Int) (x2 x3:Option Vl),τ=[some (.sc ns),some (.r 0),x2,x3]∧S=[.lst (cs.map D.int)]∧cs.length=(ns.take 12).length) ⟨_,none,none,rfl,rfl,rfl⟩ (by
   rintro i z τ S hz ⟨cs,x2,x3,rfl,rfl,hl⟩
   obtain ⟨x,ex,rfl⟩:=jr hz
   have hx:x∈ns.map D.int:=List.mem_of_mem_drop (List.mem_of_mem_take (List.mem_of_getElem? ex))
   obtain ⟨v,_,rfl⟩:=List.mem_map.mp hx
   have hlen:12 < ns.length:=by
    have:=(List.getElem?_eq_some_iff.mp ex).1
    simp at this
    omega
   have hcs:cs.length=12:=by rw [hl];simp;omega
   have h0:0≤((i:Nat):Int) % 12:=Int.emod_nonneg _ (by decide)
   have h1:((i:Nat):Int) % 12 < 12:=Int.emod_lt_of_pos _ (by decide)
   obtain ⟨c,ec,_⟩:=fG (ns:=cs) (i:=((i:Nat):Int) % 12) h0 (by omega)
   have hix:ixN (cs.map D.int).length (((i:Nat):Int) % 12)=some (((i:Nat):Int) % 12).toNat:=oH h0 (by rw [List.length_map];omega)
   refine ⟨_,_,.nx,_,_,by walk_at "mm";rfl,by
    walk_at "mm"
    rw [mI (xs:=cs.map D.int) rfl ec]
    walk_at "mm"
    rw [show ef (.r 0) (.d (.int (((i:Nat):Int) % 12))) (.d (.int (c+v))) [Ob.lst (cs.map D.int)]=.ok () [.lst ((cs.map D.int).set (((i:Nat):Int) % 12).toNat (.int (c+v)))] by
     unfold ef
     simp only [List.getElem?_cons_zero,hix]
     rfl]
    walk_at "mx"
    rfl,.inl rfl,True.intro,cs.set (((i:Nat):Int) % 12).toNat (c+v),_,_,rfl,by rw [List.map_set],by rw [List.length_set];exact hl⟩)
 erw [e2]
 refine ⟨dj cs 0 0,⟨cs,0,0,rfl,by rw [hl];simp;omega,Int.le_refl 0,Int.le_refl 0⟩,?_⟩
 rfl
theorem kD {α β:Type} (f:α→β):∀ (l:List α) (k:Nat),(l.eraseIdx k).map f=(l.map f).eraseIdx k
 | [],_=>rfl
 | _ :: _,0=>rfl
 | x :: l,k+1=>by
  rw [List.eraseIdx_cons_succ,List.map_cons,List.map_cons,List.eraseIdx_cons_succ,kD f l k]
structure bU (k:Nat) (ns:List Int):Prop where
 dom:∀ n∈ns,0≤n∧n < (k:Int)
 pos:1≤ns.length
 le:ns.length≤k
 nd:ns.Nodup
theorem oo {o:Ob} {R:Sto} {wss:List (List Int)} (hp:Pen o) (h0:1≤wss.length) (h1:wss.length≤50):∃ (ns:List Int) (o':Ob),bU wss.length ns∧Pen o'∧dM [.r 0,.d (aw wss)] (o :: R)=.ok (.d (ao ns)) (o' :: R):=by
 unfold dM
 rw [eY]
 unfold ie aw
 walk_at "mx"
 erw [List.length_map,Cc (by omega)]
 have hr:(List.range ((wss.length:Nat):Int).toNat).map (fun i=>D.int ((i:Nat):Int))=((List.range wss.length).map fun i=>((i:Nat):Int)).map D.int:=by rw [Int.toNat_natCast,List.map_map];rfl
 rw [hr]
 generalize hL:((List.range wss.length).map fun i=>((i:Nat):Int))=L0
 have lL:L0.length=wss.length:=by rw [← hL];simp
 have dL:∀ n∈L0,0≤n∧n < (wss.length:Int):=by
  intro n hn
  rw [← hL] at hn
  obtain ⟨i,hi,rfl⟩:=List.mem_map.mp hn
  have:=List.mem_range.mp hi
  omega
 have nL:L0.Nodup:=by
  rw [← hL]
  exact List.Pairwise.map _ (fun a b (h:a≠b)=>by omega) List.nodup_range
 rw [ky (xs:=L0.map D.int) (by walk_at "mx"),List.length_map,lL]
 obtain ⟨a,o1,a0,a1,hp1,e1⟩:=bI (R:=R++[.lst (L0.map D.int)]) (m:=(wss.length:Int)) hp (by omega) (by omega)
 walk_at "mx"
 erw [e1]
 obtain ⟨b,o2,b0,b1,hp2,e2⟩:=bI (R:=R++[.lst (L0.map D.int)]) (m:=3) hp1 (by decide) (by decide)
 erw [e2]
 have fin:∀ (many:Int),1≤many→many≤wss.length→∃ (ns left:List Int) (o':Ob),bU wss.length ns∧Pen o' ∧
   fo [some (.r 0),some (.d (.tup (wss.map ao))),some (.r (R.length+1)),some (.d (.int many))] (o2 :: (R++[.lst (L0.map D.int)]))=.ok (.d (.lst (ns.map D.int))) (o' :: (R++[.lst (left.map D.int)])):=by
  intro many m0 m1
  obtain ⟨acc,Q,e4,hl,o3,ns,left,hp3,rfl,rfl,hw,hlen,hmem,hnd⟩:=kB (show _=fo [some (.r 0),some (.d (.tup (wss.map ao))),some (.r (R.length+1)),some (.d (.int many))] (o2 :: (R++[.lst (L0.map D.int)])) from rfl) (S1:=o2 :: (R++[.lst (L0.map D.int)])) (items:=(List.range many.toNat).map fun i=>Vl.d (.int (i:Nat))) (by walk_at "mm")
   (fun i acc Q=>∃ (o':Ob) (ns left:List Int),Pen o'∧acc=ns.map D.int∧Q=o' :: (R++[.lst (left.map D.int)])∧ns.length=i∧left.length+i=wss.length∧(∀ n,n∈ns++left→0≤n∧n < (wss.length:Int))∧(ns++left).Nodup) ⟨o2,[],L0,hp2,rfl,rfl,rfl,by omega,by simpa using dL,by simpa using nL⟩ (by
    rintro i z acc Q hz ⟨o',ns,left,hp',rfl,rfl,hw,hlen,hmem,hnd⟩ _
    obtain ⟨hi,rfl⟩:=kK hz
    obtain ⟨c,o3,c0,c1,hp3,e3⟩:=bI (R:=R++[.lst (left.map D.int),.lst (ns.map D.int)]) (m:=(left.length:Int)) hp' (by omega) (by omega)
    have hc:c.toNat < left.length:=by omega
    have hge:(left.map D.int)[c.toNat]?=some (.int left[c.toNat]):=by rw [List.getElem?_map,List.getElem?_eq_getElem hc];rfl
    have pe:(left[c.toNat] :: left.eraseIdx c.toNat).Perm left:=md left c.toNat hc
    have pa:((ns++[left[c.toNat]])++left.eraseIdx c.toNat).Perm (ns++left):=by
     rw [List.append_assoc]
     exact List.Perm.append_left ns pe
    refine ⟨.int left[c.toNat],o3 :: (R++[.lst ((left.eraseIdx c.toNat).map D.int)]),?_,by simp,o3,ns++[left[c.toNat]],left.eraseIdx c.toNat,hp3,gO.symm,rfl,by simp [hw],?_,fun n hn=>hmem n (pa.mem_iff.mp hn),pa.nodup_iff.mpr hnd⟩
    ·walk_at "mx"
     erw [show (R++[Ob.lst (left.map D.int)]++[Ob.lst (ns.map D.int)])=R++[.lst (left.map D.int),.lst (ns.map D.int)] by simp]
     erw [ky (xs:=left.map D.int) (by walk_at "mx"),List.length_map]
     erw [e3]
     erw [yu (by omega) hge]
     rw [kD]
     simp
    ·rw [List.length_eraseIdx_of_lt hc];omega)
  rw [nc] at hw hlen
  exact ⟨ns,left,o3,⟨fun n hn=>hmem n (List.mem_append_left _ hn),by omega,by omega,(List.nodup_append.mp hnd).1⟩,hp3,e4⟩
 by_cases hb:0 < b
 ·erw [decide_eq_true hb]
  erw [ky (xs:=L0.map D.int) (by walk_at "mx"),List.length_map,lL]
  obtain ⟨ns,left,o3,gn,hp3,e4⟩:=fin (wss.length:Int) (by omega) (by omega)
  erw [e4]
  refine ⟨ns,o3,gn,hp3,?_⟩
  rw [dE]
  simp [ao]
 ·erw [decide_eq_false hb]
  obtain ⟨ns,left,o3,gn,hp3,e4⟩:=fin (1+a) (by omega) (by omega)
  erw [e4]
  refine ⟨ns,o3,gn,hp3,?_⟩
  rw [dE]
  simp [ao]
theorem ints_get {ps:List Int} {i:Nat} {z:Vl} (h:((ps.map D.int).map Vl.d)[i]?=some z):∃ p,ps[i]?=some p∧z=.d (.int p):=by
 rw [List.getElem?_map,List.getElem?_map] at h
 cases q:ps[i]? with
 | none=>rw [q] at h;cases h
 | some p=>rw [q] at h;cases h;exact ⟨p,rfl,rfl⟩
theorem take_snoc {α:Type} {ps:List α} {i:Nat} {p:α} (h:ps[i]?=some p):ps.take (i+1)=ps.take i++[p]:=by
 rw [List.take_add_one,h];rfl
theorem v7 {wss:List (List Int)} {p:Int} (h0:0≤p) (h1:p < wss.length):atI (wss.map ao) p=some (ao (wss.getD p.toNat [])):=by
 obtain ⟨k,rfl⟩:=Int.eq_ofNat_of_zero_le h0
 have hk:k < wss.length:=by omega
 exact fF (by rw [List.getElem?_map,List.getElem?_eq_getElem hk,Int.toNat_natCast,List.getD_eq_getElem?_getD,List.getElem?_eq_getElem hk];rfl)
theorem n8 {wss:List (List Int)} {p:Int} (h0:0≤p) (h1:p < wss.length):wss.getD p.toNat []∈wss:=by
 have hk:p.toNat < wss.length:=by omega
 rw [List.getD_eq_getElem?_getD,List.getElem?_eq_getElem hk]
 exact List.getElem_mem hk
theorem qU {v:Int} {S:Sto}:gx [.d (.int v)] S=.ok (.d (.bl true)) S:=by
 unfold gx
 rw [cn]
 unfold ll
 walk_at "mx"
 erw [show isT "int" (.int v)=true from rfl]
 erw [show isT "bool" (.int v)=false from rfl]
 rw [aC]
theorem qr {v lo hi:Int} {S:Sto} (h:lo≤v∧v≤hi):fJ [.d (.int v),.d (.int lo),.d (.int hi)] S=.ok (.d (.bl true)) S:=by
 unfold fJ
 rw [cZ]
 unfold jV
 walk_at "mx"
 erw [qU]
 erw [decide_eq_true h.1]
 rw [decide_eq_true h.2]
 rw [aC]
theorem all_true {α:Type} {l:List α} {S:Sto}:eD [.d (.lst (l.map fun _=>D.bl true))] S=.ok (.d (.bl true)) S:=by
 rw [uH (f:=fun _=>true)]
 simp
theorem kY {xs:List D}:isT "tuple" (.tup xs)=true:=rfl
theorem f6 {ns:List Int} {lo hi:Int} {S:Sto} (h:∀ v∈ns,lo≤v∧v≤hi):cX [.d (ao ns),.d (.int lo),.d (.int hi)] S=.ok (.d (.bl true)) S:=by
 unfold cX
 rw [cZ]
 unfold jy ao
 walk_at "mx"
 erw [kY]
 rw [mV (show _=jG [some (.d (.tup (ns.map D.int))),some (.d (.int lo)),some (.d (.int hi))] S from rfl) (xs:=ns.map D.int) (S1:=S) (by walk_at "mx") (fun _=>.bl true) (by
  intro x hx S
  obtain ⟨v,hv,rfl⟩:=List.mem_map.mp hx
  walk_at "mx"
  rw [qr (h v hv)]
  walk_at "mx")]
 walk_at "mx"
 erw [all_true]
 rw [aC]
theorem zo {ns:List Int} (h:∀ k,k+1 < ns.length→ns.getD k 0 < ns.getD (k+1) 0):ns.Pairwise (· < ·):=by
 rw [List.pairwise_iff_getElem]
 have key:∀ d i,(hd:i+d+1 < ns.length)→ns.getD i 0 < ns.getD (i+d+1) 0:=by
  intro d
  induction d with
  | zero=>intro i hd;exact h i hd
  | succ d ih=>
   intro i hd
   have a:=ih i (by omega)
   have b:=h (i+d+1) (by omega)
   rw [show i+(d+1)+1=i+d+1+1 by omega]
   omega
 intro i j hi hj hij
 have:=key (j - i - 1) i (by omega)
 rw [show i+(j - i - 1)+1=j by omega,List.getD_eq_getElem?_getD,List.getD_eq_getElem?_getD,List.getElem?_eq_getElem hi,List.getElem?_eq_getElem hj] at this
 simpa using this
theorem Aj {ns:List Int} (h:ns.Pairwise (· < ·)) {k:Nat} (hk:k+1 < ns.length):ns.getD k 0 < ns.getD (k+1) 0:=by
 rw [List.pairwise_iff_getElem] at h
 have:=h k (k+1) (by omega) hk (by omega)
 rw [List.getD_eq_getElem?_getD,List.getD_eq_getElem?_getD,List.getElem?_eq_getElem hk,List.getElem?_eq_getElem (by omega)]
 simpa using this
theorem xO {ns:List Int}:((List.range (ns.length - 1)).all fun k=>decide (ns.getD k 0 < ns.getD (k+1) 0))=decide (ns.Pairwise (· < ·)):=by
 rw [Bool.eq_iff_iff,List.all_eq_true,decide_eq_true_iff]
 constructor
 ·intro h
  exact zo fun k hk=>by simpa using h k (List.mem_range.mpr (by omega))
 ·intro h k hk
  have:=List.mem_range.mp hk
  exact decide_eq_true (Aj h (by omega))
def nbL (ns:List Int):Vl→D
 | .d (.int j)=>.bl (decide (ns.getD (j.toNat - 1) 0 < ns.getD j.toNat 0))
 | _=>.non
theorem lV {ns:List Int} {i:Nat} (h:i < ns.length):atI (ns.map D.int) (i:Int)=some (.int (ns.getD i 0)):=fF (by rw [List.getElem?_map,List.getElem?_eq_getElem h,List.getD_eq_getElem?_getD,List.getElem?_eq_getElem h];rfl)
theorem om {ns:List Int} {S:Sto} (h:ns.length≤1000):eW [.d (ao ns)] S=.ok (.d (.bl (decide (ns.Pairwise (· < ·))))) S:=by
 unfold eW
 rw [cn]
 unfold jB ao
 walk_at "mx"
 have key:fW [some (.d (.tup (ns.map D.int)))] S=.ok (.d (.lst ((List.range (ns.length - 1)).map fun k=>.bl (decide (ns.getD k 0 < ns.getD (k+1) 0))))) S:=by
  unfold fW
  rw [oR (items:=(List.range ((ns.length:Int) - 1).toNat).map fun k=>Vl.d (.int (1+(k:Nat)))) (S1:=S) (by walk_at "mx";rw [List.length_map,ym (by omega)]) (nbL ns) (by
   intro z hz S
   obtain ⟨k,hk,rfl⟩:=List.mem_map.mp hz
   have hk:=List.mem_range.mp hk
   walk_at "mx"
   erw [show (1:Int)+(k:Nat) - 1=(k:Nat) by omega,show (1:Int)+(k:Nat)=((k+1:Nat):Int) by omega,bE (lV (by omega))]
   erw [bE (lV (by omega))]
   rfl)]
  rw [List.map_map,show ((ns.length:Int) - 1).toNat=ns.length - 1 by omega]
  congr 3
  refine List.map_congr_left fun k hk=>?_
  show nbL ns (.d (.int (1+(k:Nat))))=_
  rw [show (1:Int)+(k:Nat)=((k+1:Nat):Int) by omega]
  rfl
 erw [key]
 erw [uH,xO]
 rw [aC]
theorem oC {ws:List Int} {m:Int} {S:Sto} (g:GoodW m ws) (hm:m≤4):fj [.d (ao ws)] S=.ok (.d (.bl true)) S:=by
 have h1:=g.pos
 have h2:=g.le
 unfold fj
 rw [cn]
 unfold jE
 walk_at "mx"
 erw [f6 g.lim]
 rw [show ao ws=.tup (ws.map D.int) from rfl]
 try walk_at "mx"
 erw [List.length_map,decide_eq_true (show (1:Int)≤(ws.length:Int) by omega)]
 erw [decide_eq_true (show (ws.length:Int)≤4 by omega)]
 erw [show D.tup (ws.map D.int)=ao ws from rfl,om (by omega),decide_eq_true g.rise]
 rw [aC]
theorem rf {wss:List (List Int)} {n m:Int} {S:Sto} (g:bX n m wss) (hn:n≤4) (hm:m≤4):gm [.d (aw wss)] S=.ok (.d (.bl true)) S:=by
 have h1:=g.pos
 have h2:=g.le
 unfold gm
 rw [cn]
 unfold k9 aw
 walk_at "mx"
 erw [kY]
 erw [List.length_map,decide_eq_true (show (1:Int)≤(wss.length:Int) by omega)]
 erw [decide_eq_true (show (wss.length:Int)≤4 by omega)]
 rw [mV (show _=lF [some (.d (.tup (wss.map ao)))] S from rfl) (xs:=wss.map ao) (S1:=S) (by walk_at "mx") (fun _=>.bl true) (by
  intro x hx S
  obtain ⟨ws,hv,rfl⟩:=List.mem_map.mp hx
  walk_at "mx"
  rw [oC (g.all ws hv) hm]
  walk_at "mx")]
 walk_at "mx"
 erw [all_true]
 rw [aC]
theorem ow {wss:List (List Int)} {n m:Int} {S:Sto} (g:bX n m wss) (hn:n≤4) (hm:m≤4):eV [.d (aw wss)] S=.ok (.d .non) S:=by
 unfold eV
 rw [cn]
 unfold jA
 walk_at "mx"
 erw [rf g hn hm]
 rw [jb,g_,List.take_length]
theorem lR {ns:List Int} (h:ns.Nodup):(bZ ns).length=ns.length:=by
 rw [← wc (xs:=ns) (fun z=>nD ns z) (pW h),jL]
theorem oq {ns:List Int} {S:Sto} (h:ns.Nodup) (hl:ns.length≤60):cD [.d (ao ns)] S=.ok (.d (.bl true)) S:=by
 unfold cD
 rw [cn]
 unfold f9 ao
 walk_at "mx"
 erw [tU (ns:=ns) rfl (by omega)]
 erw [List.length_map,lR h]
 rw [aC]
theorem oZ {ns:List Int} {k:Nat} {S:Sto} (g:bU k ns) (hk:k≤4):fN [.d (ao ns)] S=.ok (.d (.bl true)) S:=by
 have h1:=g.pos
 have h2:=g.le
 unfold fN
 rw [cn]
 unfold j5
 walk_at "mx"
 erw [f6 (fun v hv=>by have:=g.dom v hv;omega)]
 rw [show ao ns=.tup (ns.map D.int) from rfl]
 try walk_at "mx"
 erw [List.length_map,decide_eq_true (show (1:Int)≤(ns.length:Int) by omega)]
 erw [decide_eq_true (show (ns.length:Int)≤4 by omega)]
 erw [show D.tup (ns.map D.int)=ao ns from rfl,oq g.nd (by omega)]
 rw [aC]
theorem eP {it:XI} {t:XT} {e:XE} {τ:Nv} {S S1:Sto} {r:R Vl} (hC:xLC it 1 (gNm 0) t e τ S=r) {α:Type} {d g:α→D} {xs:List α} (hit:it τ S=.ok ⟨xs.map fun x=>Vl.d (d x),none⟩ S1) (p:α→Bool) (ht:∀ x∈xs,∀ S:Sto,t (some (.d (d x)) :: τ) S=.ok (p x) S) (he:∀ x∈xs,p x=true→∀ S:Sto,e (some (.d (d x)) :: τ) S=.ok (.d (g x)) S):r=.ok (.d (.lst ((xs.filter p).map g))) S1:=by
 obtain ⟨acc,Q,e1,hl,rfl,rfl⟩:=yq hC hit (fun i acc Q=>acc=((xs.take i).filter p).map g∧Q=S1) ⟨by simp,rfl⟩ (by
  rintro i z acc Q hz ⟨rfl,rfl⟩ _
  rw [List.getElem?_map] at hz
  cases q:xs[i]? with
  | none=>rw [q] at hz;cases hz
  | some x=>
   rw [q] at hz
   cases hz
   have hx:=List.mem_of_getElem? q
   refine ⟨p x,Q,ht x hx _,rfl,fun hb=>⟨g x,Q,he x hx hb _,rfl,?_,rfl⟩,fun hb=>⟨?_,rfl⟩⟩
   ·rw [take_snoc q,List.filter_append,List.map_append]
    simp [hb]
   ·rw [take_snoc q,List.filter_append]
    simp [hb])
 rw [e1,List.length_map,List.take_length]
theorem dJ {ws:List Int}:(ws.map D.int).map Vl.d=ws.map fun x=>Vl.d (.int x):=by rw [List.map_map];rfl
theorem lcG {it:XI} {k:Nat} {g:XG} {t:XT} {e:XE} {τ:Nv} {S S1:Sto} {items:List Vl} (hit:it τ S=.ok ⟨items,none⟩ S1) (own:Vl→Nv) (f:Vl→D) (p:Vl→Bool) (hown:∀ z∈items,(own z).length=k) (hg:∀ z∈items,∀ ρ:Nv,ρ.length=k→∀ S:Sto,g z (ρ++τ) S=.ok (own z++τ) S)
  (ht:∀ z∈items,∀ S:Sto,t (own z++τ) S=.ok (p z) S) (he:∀ z∈items,p z=true→∀ S:Sto,e (own z++τ) S=.ok (.d (f z)) S):xLC it k g t e τ S=.ok (.d (.lst ((items.filter p).map f))) S1:=by
 have key:∀ (zs:List Vl) (acc:List D) (ρ:Nv),(∀ z∈zs,z∈items)→ρ.length=k→f_ g t e S1.length none zs acc (ρ++τ) (S1++[.lst acc])=.ok (acc++(zs.filter p).map f) (S1++[.lst (acc++(zs.filter p).map f)]):=by
  intro zs
  induction zs with
  | nil=>
   intro acc ρ _ _
   rw [f_,if_pos (by simp)]
   simp
  | cons z zs ih=>
   intro acc ρ hz hl
   have hm:=hz z (List.mem_cons_self ..)
   rw [f_,hg z hm ρ hl,bx,ht z hm,bx]
   by_cases hp:p z=true
   ·rw [if_pos hp,he z hm hp,bx]
    dsimp only
    rw [if_pos ⟨by simp,True.intro⟩]
    rw [show (S1++[Ob.lst acc]).set S1.length (.lst (acc++[f z]))=S1++[.lst (acc++[f z])] by simp]
    rw [ih (acc++[f z]) (own z) (fun y hy=>hz y (List.mem_cons_of_mem _ hy)) (hown z hm),List.filter_cons_of_pos hp,List.map_cons,List.append_assoc]
    rfl
   ·rw [if_neg hp,if_pos (show gok none (S1++[Ob.lst acc]) from True.intro),ih acc (own z) (fun y hy=>hz y (List.mem_cons_of_mem _ hy)) (hown z hm),List.filter_cons_of_neg hp]
 show (it τ S).bind _=_
 rw [hit,bx]
 dsimp only
 rw [key items [] (List.replicate k none) (fun _ h=>h) (by simp),bx]
 unfold mr
 rw [if_pos (by simp),List.take_left]
 simp
theorem ji {xs:List D}:D.bR xs []=xs.isEmpty:=by cases xs<;>simp [D.bR]
theorem fu {ns:List Int} {S:Sto}:bB [.d (ao ns)] S=.ok (.d (.int ns.length)) S:=by unfold ao;rw [pF,List.length_map]
theorem kW {ns:List Int} {v:Int} {S:Sto}:oIn (.d (.int v)) (.d (ao ns)) S=.ok (.d (.bl (decide (v∈ns)))) S:=yv
theorem i9 {ns:List Int} {v:Int} {S:Sto}:dN (.d (.int v)) (.d (ao ns)) S=.ok (.d (.bl (!decide (v∈ns)))) S:=uM
theorem lj {α β:Type} {f:α→β} {l:List α}:(l.map f).isEmpty=l.isEmpty:=by cases l<;>rfl
theorem yc {α β:Type} {f:α→β}:∀ {l:List α},l.Nodup→(∀ x∈l,∀ y∈l,f x=f y→x=y)→(l.map f).Nodup
 | [],_,_=>List.nodup_nil
 | a :: l,h,k=>by
  rw [List.nodup_cons] at h
  rw [List.map_cons,List.nodup_cons]
  refine ⟨fun hm=>?_,yc h.2 fun x hx y hy=>k x (List.mem_cons_of_mem _ hx) y (List.mem_cons_of_mem _ hy)⟩
  obtain ⟨y,hy,e⟩:=List.mem_map.mp hm
  have:=k a (List.mem_cons_self ..) y (List.mem_cons_of_mem _ hy) e.symm
  exact h.1 (this ▸ hy)
theorem FW {kvs:List (Key×D)} {yd z:D} {k:Key} {S:Sto} (hk:fX yd=some k) (hv:eg kvs k=some z):oDx (.fd kvs) (.d yd) S=.ok (.d z) S:=by
 unfold oDx
 dsimp only
 rw [hk]
 simp only [gu,hv]
theorem p7 {S:Sto} {x:Ob}:(S++[x])[S.length]?=some x:=by simp
theorem iH {S:Sto} {x y:Ob}:(S++[x]).set S.length y=S++[y]:=by simp
theorem sT {S R:Sto} {kvs:List (Key×D)}:frz (.r S.length) (S++[.dct kvs])=.ok (.fd kvs) (S++[.dead]):=by
 unfold frz
 simp
theorem uq {S R:Sto} {kvs:List (Key×D)} {τ:Nv}:leave S (.ok (.rt (.fd kvs),τ) (S++R))=.ok (.fd kvs) S:=by
 unfold leave out
 simp
theorem qv {kvs:List (Key×D)} {k:Key} {v:D} (h:k∉kvs.map (·.1)):putD kvs k v=kvs++[(k,v)]:=by
 unfold putD
 rw [if_neg]
 intro z
 obtain ⟨x,hx,hk⟩:=List.any_eq_true.mp z
 exact h (List.mem_map.mpr ⟨x,hx,by simpa using hk⟩)
theorem nG:∀ {l kvs:List (Key×D)},(l.map (·.1)).Nodup→(∀ k∈l.map (·.1),k∉kvs.map (·.1))→dW kvs l=kvs++l
 | [],kvs,_,_=>by simp [dW]
 | p :: l,kvs,hn,hd=>by
  rw [List.map_cons] at hn hd
  obtain ⟨h1,h2⟩:=List.nodup_cons.mp hn
  show dW (putD kvs p.1 p.2) l=_
  rw [qv (hd p.1 (by simp)),nG h2,List.append_assoc]
  ·rfl
  ·intro k hk z
   rw [List.map_append] at z
   rcases List.mem_append.mp z with z | z
   ·exact hd k (by simp [hk]) z
   ·rw [List.map_cons,List.map_nil,List.mem_singleton] at z
    exact h1 (z ▸ hk)
theorem mM {s:List Int} {k:Nat} {S:Sto}:oSl (.d (ao s)) none (some (k:Int)) S=.ok (.d (ao (s.take k))) S:=by
 unfold ao
 rw [oK,dh,List.map_take]
theorem getL {ns:List Int} {i:Nat} {S:Sto} (h:i < ns.length):oIx (.d (.lst (ns.map D.int))) (.d (.int (i:Int))) S=.ok (.d (.int (ns.getD i 0))) S:=dH (lV h)
theorem Ga {ns:List Int} {i:Nat} {S:Sto} (h:i < ns.length):oIx (.d (ao ns)) (.d (.int (i:Int))) S=.ok (.d (.int (ns.getD i 0))) S:=bE (lV h)
theorem lZ:∀ {ns f:List Int},((ns.zip f).map (·.1)).Sublist ns
 | [],_=>by simp
 | _ :: _,[]=>by simp
 | n :: ns,a :: f=>by simpa using (lZ (ns:=ns) (f:=f)).cons₂ n
theorem tK {ns:List Int}:kI (ns.map D.int)=some (ns.map Sum.inl):=by
 induction ns with
 | nil=>rfl
 | cons n ns ih=>simp only [List.map_cons,kI,ih,fX]
theorem fD {s:List Int} {k:Nat} {S:Sto}:oSl (.d (ao s)) (some (k:Int)) none S=.ok (.d (ao (s.drop k))) S:=by
 unfold ao
 rw [oK,cP,List.map_drop]
theorem gJ {s t:List Int} {S:Sto} (h:s.length+t.length≤100000):aD (.d (ao s)) (.d (ao t)) S=.ok (.d (ao (s++t))) S:=by
 unfold ao
 rw [fO (by simpa using h),List.map_append]
abbrev Se:=List (Int×Int)
def bA (wss:List (List Int)) (n:Int):List Int:=wss.getD n.toNat []
def seD (p:Int×Int):Key×D:=(.inl p.1,.int p.2)
theorem Bb {M:Se} (h:(M.map (·.1)).Nodup) {p:Int×Int} (hp:p∈M):eg (M.map seD) (.inl p.1)=some (.int p.2):=by
 induction M with
 | nil=>cases hp
 | cons q M ih=>
  rw [List.map_cons,List.nodup_cons] at h
  rw [List.map_cons]
  rcases List.mem_cons.mp hp with e | hp'
  ·subst e;exact jn rfl
  ·rw [hU,ih h.2 hp']
   intro z
   exact h.1 (by rw [Sum.inl.inj (show (Sum.inl q.1:Key)=.inl p.1 from z)];exact List.mem_map.mpr ⟨p,hp',rfl⟩)
theorem DG {α:Type} {f:α→Key×D} {g:α→Int} {l:List α} {w:Int} (hf:∀ x,(f x).1=.inl (g x)):(eg (l.map f) (.inl w)).isSome=decide (w∈l.map g):=by
 induction l with
 | nil=>rfl
 | cons x l ih=>
  rw [List.map_cons,List.map_cons]
  by_cases h:g x=w
  ·rw [jn (by rw [hf,h]),decide_eq_true (by simp [h])];rfl
  ·rw [hU (fun z=>h (by rw [hf] at z;exact Sum.inl.inj z)),ih]
   congr 1
   rw [List.mem_cons,eq_iff_iff]
   exact ⟨.inr,fun z=>z.resolve_left fun q=>h q.symm⟩
theorem dput {o i e:XE} {τ:Nv} {S:Sto} {n:Nat} {k:Int} {zd:D} {kvs:List (Key×D)} (he:e τ S=.ok (.d zd) S) (ho:o τ S=.ok (.r n) S) (hi:i τ S=.ok (.d (.int k)) S) (hk:S[n]?=some (.dct kvs)) (hl:kvs.length < 100000):oP o i e τ S=.ok (.nx,τ) (S.set n (.dct (putD kvs (.inl k) zd))):=by
 unfold oP
 rw [he,bx,ho,bx,hi,bx]
 dsimp only [fX]
 rw [hk]
 dsimp only
 rw [if_pos hl]
theorem um {o:Ob} {R:Sto} {wss:List (List Int)} (hp:Pen o) (h0:1≤wss.length) (h1:wss.length≤50):∃ (vss:List (List Int)) (o':Ob),bX wss.length 3 vss∧vss.length=wss.length∧Pen o'∧gz [.r 0,.d (aw wss)] (o :: R)=.ok (.d (aw vss)) (o' :: R):=by
 unfold gz
 rw [eY]
 unfold lC aw
 obtain ⟨a,o1,a0,a1,hp1,e1⟩:=bI (R:=R) (m:=15) hp (by decide) (by decide)
 walk_at "mx"
 erw [e1]
 obtain ⟨acc,Q,e4,hl,o3,vss,hp3,rfl,rfl,hw,hg⟩:=kB (show _=lA [some (.r 0),some (.d (.tup (wss.map ao))),some (.d (.int (a - 9)))] (o1 :: R) from rfl) (S1:=o1 :: R) (items:=(wss.map ao).map Vl.d) (by walk_at "mx")
  (fun i acc Q=>∃ (o':Ob) (vss:List (List Int)),Pen o'∧acc=vss.map ao∧Q=o' :: R∧vss.length=i∧∀ ws∈vss,GoodW 3 ws) ⟨o1,[],hp1,rfl,rfl,rfl,fun _ h=>by cases h⟩ (by
   rintro i z acc Q hz ⟨o',vss,hp',rfl,rfl,hw,hg⟩ _
   obtain ⟨ws,o3,gw,hp3,e3⟩:=nO (R:=R++[.lst (vss.map ao)]) (most:=3) (near:=a - 9) hp' (by decide) (by decide) (by omega) (by omega)
   refine ⟨ao ws,o3 :: R,?_,rfl,o3,vss++[ws],hp3,gO.symm,rfl,by simp [hw],fun w hm=>?_⟩
   ·walk_at "mx"
    erw [e3]
   ·rcases List.mem_append.mp hm with q | q
    ·exact hg w q
    ·rw [List.mem_singleton.mp q];exact gw)
 erw [e4]
 have hw':vss.length=wss.length:=by simpa using hw
 refine ⟨vss,o3,⟨by omega,by omega,hg⟩,hw',hp3,?_⟩
 rw [dE,hW]
theorem yg {n:Nat} {S:Sto} {xs:List D} (e:S[n]?=some (.lst xs)):frz (.r n) S=.ok (.d (.lst xs)) (S.set n .dead):=by
 unfold frz
 dsimp only
 rw [e]
def lkM (M:Se) (k:Int):Option Int:=(M.find? fun x=>decide (x.1=k)).map (·.2)
def mx (wss:List (List Int)) (M:Se):List Int:=(List.range wss.length).map fun k=>(lkM M (k:Nat)).getD ((wss.getD k []).getD 0 0)
theorem pb {M:Se} {k:Int}:eg (M.map seD) (.inl k)=(lkM M k).map D.int:=by
 unfold lkM
 induction M with
 | nil=>rfl
 | cons x l ih=>
  rw [List.map_cons]
  by_cases h:x.1=k
  ·rw [jn (show (seD x).1=.inl k by rw [← h];rfl)]
   simp [List.find?_cons,h,seD]
  ·rw [hU (show ¬(seD x).1=.inl k from fun z=>h (Sum.inl.inj z)),ih]
   simp [List.find?_cons,h]
theorem Bf {d k e:XE} {τ:Nv} {S S1 S2 S3:Sto} {kvs:List (Key×D)} {yd zd:D} {key:Key} (h1:d τ S=.ok (.fd kvs) S1) (h2:k τ S1=.ok (.d yd) S2) (h3:e τ S2=.ok (.d zd) S3) (hk:fX yd=some key):oE d k e τ S=.ok (.d ((eg kvs key).getD zd)) S3:=by
 unfold oE
 rw [h1,bx]
 rw [if_pos (show (gu (.fd kvs) S1).isSome=true from rfl),h2,bx,h3,bx]
 dsimp only
 rw [hk]
 rfl
theorem zB {wss:List (List Int)} {M:Se} {n m:Int} {S:Sto} (gs:bX n m wss):dF [.d (aw wss),.fd (M.map seD)] S=.ok (.d (ao (mx wss M))) S:=by
 unfold dF
 rw [eY]
 unfold ir
 have e:eQ [some (.d (aw wss)),some (.fd (M.map seD))] S=.ok (.d (.lst ((mx wss M).map D.int))) S:=by
  unfold eQ
  rw [lcG (items:=cF 0 (wss.map ao)) (S1:=S) (by unfold xS;rfl) (fun z=>match z with | .d (.tup [a,b])=>[some (.d a),some (.d b)] | _=>[none,none]) (fun z=>match z with | .d (.tup [.int k,_])=>.int ((lkM M k).getD ((wss.getD k.toNat []).getD 0 0)) | _=>.non) (fun _=>true) ?_ ?_ ?_ ?_]
  ·rw [List.filter_eq_self.mpr (fun _ _=>rfl)]
   congr 3
   refine List.ext_getElem? fun i=>?_
   rw [List.getElem?_map,dz,List.getElem?_map]
   unfold mx
   rw [List.getElem?_map,List.getElem?_map]
   by_cases hi:i < wss.length
   ·rw [List.getElem?_eq_getElem hi,List.getElem?_range hi]
    simp
   ·rw [List.getElem?_eq_none (by omega),List.getElem?_eq_none (by simp;omega)]
    rfl
  ·intro z hz
   obtain ⟨i,hi,rfl⟩:=List.mem_iff_getElem.mp hz
   obtain ⟨x,_,e⟩:=jr (List.getElem?_eq_getElem hi)
   rw [e]
   rfl
  ·intro z hz ρ hρ S
   obtain ⟨i,hi,rfl⟩:=List.mem_iff_getElem.mp hz
   obtain ⟨x,_,e⟩:=jr (List.getElem?_eq_getElem hi)
   rw [e]
   match ρ,hρ with
   | [_,_],_=>walk_at "mx"
  ·intro z hz S
   rfl
  ·intro z hz _ S
   obtain ⟨i,hi,rfl⟩:=List.mem_iff_getElem.mp hz
   obtain ⟨x,hx,e⟩:=jr (List.getElem?_eq_getElem hi)
   rw [e]
   rw [List.getElem?_map] at hx
   cases q:wss[i]? with
   | none=>rw [q] at hx;cases hx
   | some ws=>
    rw [q] at hx
    cases hx
    have hws:=gs.all ws (List.mem_of_getElem? q)
    have hpos:0 < ws.length:=hws.pos
    dsimp only
    rw [Bf (S1:=S) (S2:=S) (S3:=S) (kvs:=M.map seD) (yd:=.int (i:Nat)) (key:=.inl (i:Nat)) (zd:=.int (ws.getD 0 0)) (by walk_at "mx") (by walk_at "mx") (by
     walk_at "mx"
     exact bE (lV (i:=0) hpos)) rfl,pb]
    rw [Int.toNat_natCast,show wss.getD i []=ws by rw [List.getD_eq_getElem?_getD,q];rfl]
    cases lkM M (i:Nat)<;>rfl
 walk_at "mx"
 erw [e]
 rw [aC]
 rfl
theorem C_ {M:Se} (h:(M.map (·.1)).Nodup) {p:Int×Int} (hp:p∈M):lkM M p.1=some p.2:=by
 have:=Bb h hp
 rw [pb] at this
 cases q:lkM M p.1 with
 | none=>rw [q] at this;cases this
 | some v=>rw [q] at this;cases this;rfl
theorem eZ {x y:D} {S:Sto}:oIx (.d (.tup [x,y])) (.d (.int 0)) S=.ok (.d x) S:=bE rfl
theorem mK {x y:D} {S:Sto}:oIx (.d (.tup [x,y])) (.d (.int 1)) S=.ok (.d y) S:=bE rfl
theorem Bv:decide ((Str.ofString "hand":Str)=Str.ofString "unlike")=false:=by decide +kernel
theorem Bi:decide ((Str.ofString "hand":Str)=Str.ofString "many")=false:=by decide +kernel
theorem CZ:decide ((Str.ofString "hand":Str)=Str.ofString "sum")=false:=by decide +kernel
theorem AY:decide ((Str.ofString "hand":Str)=Str.ofString "row")=false:=by decide +kernel
theorem B3 {s:List Int} {c:Int} {S:Sto} (h:s.length≤1000):aD (.d (ao s)) (.d (.tup [.int c])) S=.ok (.d (ao (s++[c]))) S:=gJ (t:=[c]) (by rw [List.length_singleton];omega)
def bg (W:Int→List Int) (L:Int→Int):Int→List Int→Option Se
 | _,[]=>some []
 | fr,n :: r=>match (W n).filter fun w=>decide (fr≤w) with
  | []=>none
  | b :: _=>(bg W L (b+L n) r).map ((n,b) :: ·)
theorem sx {W:Int→List Int} {L:Int→Int} {fr n:Int} {r:List Int}:bg W L fr (n :: r)=match (W n).filter fun w=>decide (fr≤w) with
  | []=>none
  | b :: _=>(bg W L (b+L n) r).map ((n,b) :: ·):=rfl
theorem yJ {W:Int→List Int} {L:Int→Int}:∀ {order:List Int} {fr:Int} {B:Se},(∀ n∈order,0≤L n)→bg W L fr order=some B→B.map (·.1)=order∧(∀ p∈B,p.2∈W p.1∧fr≤p.2)∧B.Pairwise fun p q=>p.2+L p.1≤q.2
 | [],fr,B,_,h=>by
  cases h
  exact ⟨rfl,by simp,.nil⟩
 | n :: r,fr,B,hL,h=>by
  unfold bg at h
  cases q:(W n).filter fun w=>decide (fr≤w) with
  | nil=>rw [q] at h;cases h
  | cons b l=>
   rw [q] at h
   dsimp only at h
   obtain ⟨B1,h1,rfl⟩:=Option.map_eq_some_iff.mp h
   obtain ⟨a1,a2,a3⟩:=yJ (fun m hm=>hL m (by simp [hm])) h1
   obtain ⟨b1,b2⟩:=List.mem_filter.mp (show b∈(W n).filter fun w=>decide (fr≤w) by rw [q];simp)
   have b2:fr≤b:=of_decide_eq_true b2
   have hn:=hL n (by simp)
   refine ⟨by rw [List.map_cons,a1],fun p hp=>?_,List.pairwise_cons.mpr ⟨fun p hp=>(a2 p hp).2,a3⟩⟩
   rcases List.mem_cons.mp hp with rfl | hp
   ·exact ⟨b1,b2⟩
   ·have:=a2 p hp
    exact ⟨this.1,by omega⟩
theorem vb {W:Int→List Int} {L:Int→Int} {f:Int→Int}:∀ {order:List Int} {fr:Int},(∀ n∈order,f n∈W n∧(W n).Pairwise (· < ·))→(∀ p∈order.zip order.tail,f p.1+L p.1≤f p.2)→(∀ n r,order=n :: r→fr≤f n)→bg W L fr order≠none
 | [],_,_,_,_=>by simp [bg]
 | n :: r,fr,hf,hc,h0=>by
  obtain ⟨h1,h2⟩:=hf n (by simp)
  have h3:=h0 n r rfl
  unfold bg
  have hm:f n∈(W n).filter fun w=>decide (fr≤w):=List.mem_filter.mpr ⟨h1,decide_eq_true h3⟩
  cases q:(W n).filter fun w=>decide (fr≤w) with
  | nil=>rw [q] at hm;cases hm
  | cons b l=>
   dsimp only
   have hb:b≤f n:=by
    have hp:(b :: l).Pairwise (· < ·):=by rw [← q];exact h2.filter _
    rw [q] at hm
    rcases List.mem_cons.mp hm with e | e
    ·omega
    ·have:=(List.pairwise_cons.mp hp).1 _ e
     omega
   have:=vb (W:=W) (L:=L) (f:=f) (order:=r) (fr:=b+L n) (fun m hm=>hf m (by simp [hm])) (fun p hp=>by
    cases r with
    | nil=>simp at hp
    | cons m r=>exact hc p (by rw [List.tail_cons,List.zip_cons_cons];exact List.mem_cons_of_mem _ hp)) (fun m r' e=>by
    subst e
    have:=hc (n,m) (by simp)
    dsimp only at this
    omega)
   cases q2:bg W L (b+L n) r with
   | none=>exact absurd q2 this
   | some B=>simp
theorem xJ {W:Int→List Int} {L:Int→Int} {n w:Int} {r ws:List Int} (e:W n=w :: ws) (h:(W n).Pairwise (· < ·)) (h9:∀ x∈W n,-9≤x):bg W L w (n :: r)=bg W L (-10) (n :: r):=by
 have e1:(W n).filter (fun x=>decide (w≤x))=W n:=List.filter_eq_self.mpr fun x hx=>decide_eq_true (by
  rw [e] at h hx
  rcases List.mem_cons.mp hx with z | z
  ·omega
  ·have:=(List.pairwise_cons.mp h).1 x z
   omega)
 have e2:(W n).filter (fun x=>decide (-10≤x))=W n:=List.filter_eq_self.mpr fun x hx=>decide_eq_true (by have:=h9 x hx;omega)
 unfold bg
 rw [e1,e2]
inductive Tr where
 | late (o:List Int)
 | first (a b:Int) (l r:Tr)
def trD:Tr→D
 | .late o=>.tup [.str "late",ao o]
 | .first a b l r=>.tup [.str "first",.int a,.int b,trD l,trD r]
def dpT:Tr→Nat
 | .late _=>1
 | .first _ _ l r=>1+max (dpT l) (dpT r)
def trR (W:Int→List Int) (L:Int→Int) (ns:List Int):Se→Tr→Prop
 | told,.late o=>2≤o.length∧o.Nodup∧(∀ n∈o,n∈ns)∧(∀ p∈o.zip o.tail,p∈told)∧bg W L (-10) o=none
 | told,.first a b l r=>a≠b∧a∈ns∧b∈ns∧trR W L ns (told++[(a,b)]) l∧trR W L ns (told++[(b,a)]) r
def aK (ns ls:List Int):D:=.tup [.str "hand",ao ns,ao ls]
def lnH (ns ls:List Int) (n:Int):Int:=(lkM (ns.zip ls) n).getD 0
structure bM (ns ls:List Int):Prop where
 len:ls.length=ns.length
 lim:∀ l∈ls,1≤l∧l≤4
theorem BC {ns ls:List Int} (h:ns.Nodup):((ns.zip ls).map (·.1)).Nodup:=h.sublist lZ
theorem zp {ns ls:List Int} (h:ls.length=ns.length):(ns.zip ls).map (·.1)=ns:=by
 rw [List.map_fst_zip]
 omega
theorem Dy {ns ls:List Int} (h:ns.Nodup) {k:Nat} {n l:Int} (e1:ns[k]?=some n) (e2:ls[k]?=some l):lkM (ns.zip ls) n=some l:=by
 have:(n,l)∈ns.zip ls:=List.mem_of_getElem? (i:=k) (by rw [List.getElem?_zip_eq_some];exact ⟨e1,e2⟩)
 exact C_ (BC h) this
theorem uB {ns ls:List Int} (h:ns.Nodup) (g:bM ns ls) {n:Int} (hn:n∈ns):∃ l,lkM (ns.zip ls) n=some l∧lnH ns ls n=l∧1≤l∧l≤4:=by
 obtain ⟨k,hk,rfl⟩:=List.mem_iff_getElem.mp hn
 have hk2:k < ls.length:=by have:=g.len;omega
 have e:=Dy (ls:=ls) h (List.getElem?_eq_getElem hk) (List.getElem?_eq_getElem hk2)
 exact ⟨_,e,by unfold lnH;rw [e];rfl,g.lim _ (List.getElem_mem hk2)⟩
structure OkH (wss:List (List Int)) (ns ls:List Int) (B:Se):Prop where
 kn:(B.map (·.1)).Nodup
 mem:∀ p∈B,p.1∈ns∧p.2∈bA wss p.1
 all:∀ n∈ns,n∈B.map (·.1)
 pw:B.Pairwise fun p q=>p.2+lnH ns ls p.1≤q.2
local macro_rules | `(tactic| walk_at "my") => `(tactic| repeat (first | walk_at "mx" | simp only [fu, kW, i9, List.length_map]))
theorem ud {ns ls:List Int} {S:Sto}:oIx (.d (aK ns ls)) (.d (.int 0)) S=.ok (.d (.str "hand")) S:=bE rfl
theorem cA {ns ls:List Int} {S:Sto}:oIx (.d (aK ns ls)) (.d (.int 1)) S=.ok (.d (ao ns)) S:=bE rfl
theorem mL {ns ls:List Int} {S:Sto}:oIx (.d (aK ns ls)) (.d (.int 2)) S=.ok (.d (ao ls)) S:=bE rfl
theorem sk {ns ls:List Int} {S:Sto}:bB [.d (aK ns ls)] S=.ok (.d (.int 3)) S:=pF
theorem tB {o:Ob} {R:Sto} {wss:List (List Int)} (hp:Pen o) (h0:1≤wss.length) (h1:wss.length≤50):∃ (ns ls:List Int) (o':Ob),bU wss.length ns∧bM ns ls∧Pen o'∧fL [.r 0,.d (aw wss),.d (.int 4)] (o :: R)=.ok (.d (aK ns ls)) (o' :: R):=by
 unfold fL
 rw [cZ]
 unfold kq
 walk_at "mx"
 obtain ⟨ns,o1,gn,hp1,e1⟩:=oo (R:=R) hp h0 h1
 erw [e1]
 erw [show decide ((4:Int)=0)=false from rfl]
 erw [show decide ((4:Int)=1)=false from rfl]
 erw [show decide ((4:Int)=2)=false from rfl]
 erw [show decide ((4:Int)=3)=false from rfl]
 obtain ⟨acc,Q,e4,hl,o3,ls,hp3,rfl,rfl,hw,hlim⟩:=kB (show _=kE [some (.r 0),some (.d (aw wss)),some (.d (.int 4)),some (.d (ao ns)),none,none,none,none,none,none,none] (o1 :: R) from rfl) (S1:=o1 :: R) (items:=(ns.map D.int).map Vl.d) (by unfold ao;walk_at "mx")
  (fun i acc Q=>∃ (o':Ob) (ls:List Int),Pen o'∧acc=ls.map D.int∧Q=o' :: R∧ls.length=i∧∀ l∈ls,1≤l∧l≤4) ⟨o1,[],hp1,rfl,rfl,rfl,fun _ h=>by cases h⟩ (by
   rintro i z acc Q hz ⟨o',ls,hp',rfl,rfl,hw,hlim⟩ _
   obtain ⟨b,o2,b0,b1,hp2,e2⟩:=bI (R:=R++[.lst (ls.map D.int)]) (m:=2) hp' (by decide) (by decide)
   obtain ⟨u,eu,mu⟩:=fG (ns:=[4,2]) (i:=b) b0 (by simpa using b1)
   have hu:2≤u∧u≤4:=by
    simp only [List.mem_cons,List.not_mem_nil,or_false] at mu
    omega
   obtain ⟨c,o3,c0,c1,hp3,e3⟩:=bI (R:=R++[.lst (ls.map D.int)]) (m:=u) hp2 (by omega) (by omega)
   refine ⟨.int (1+c),o3 :: R,?_,rfl,o3,ls++[1+c],hp3,gO.symm,rfl,by simp [hw],fun l hl=>?_⟩
   ·walk_at "mx"
    erw [e2]
    erw [dH (show atI [D.int 4,D.int 2] b=some (.int u) from eu)]
    erw [e3]
   ·rcases List.mem_append.mp hl with q | q
    ·exact hlim l q
    ·rw [List.mem_singleton.mp q];omega)
 have hw':ls.length=ns.length:=by simpa using hw
 erw [e4]
 exact ⟨ns,ls,o3,gn,⟨hw',hlim⟩,hp3,by rw [dE,hW];rfl⟩
theorem ua {ns ls:List Int} {S:Sto} (g:bM ns ls):iz [.d (aK ns ls)] S=.ok (.d (.bl true)) S:=by
 unfold iz
 rw [cn]
 unfold mB
 walk_at "mx"
 erw [sk]
 erw [mL]
 erw [f6 g.lim]
 rw [mL]
 walk_at "my"
 rw [cA]
 walk_at "my"
 erw [g.len]
 rw [aC]
theorem zt {ns ls:List Int} {S:Sto} (g:bM ns ls):c7 [.d (aK ns ls)] S=.ok (.d (.bl true)) S:=by
 unfold c7
 rw [cn]
 unfold gi
 walk_at "mx"
 erw [ud]
 erw [Bv]
 erw [Bi]
 erw [CZ]
 erw [AY]
 erw [ua g]
 rw [aC]
theorem sF {ns ls:List Int} {k:Nat} {S:Sto} (g:bU k ns) (gl:bM ns ls) (hk:k≤4):iq [.d (aK ns ls)] S=.ok (.d (.bl true)) S:=by
 unfold iq
 rw [cn]
 unfold ma
 walk_at "mx"
 erw [show isT "tuple" (aK ns ls)=true from rfl]
 erw [sk]
 erw [show decide ((3:Int) < 2)=false from rfl]
 erw [cA]
 erw [oZ g hk]
 erw [zt gl]
 rw [aC]
theorem oy {wss:List (List Int)} {ns ls:List Int} {S:Sto} (g:bU wss.length ns) (gl:bM ns ls) (hk:wss.length≤4):ff [.d (aw wss),.d (aK ns ls)] S=.ok (.d (.bl true)) S:=by
 unfold ff
 rw [eY]
 unfold jH
 walk_at "mx"
 erw [sF g gl hk]
 rw [mV (show _=ju [some (.d (aw wss)),some (.d (aK ns ls))] S from rfl) (xs:=ns.map D.int) (S1:=S) (by walk_at "mx";rw [cA];rfl) (fun _=>.bl true) (by
  intro x hx S
  obtain ⟨v,hv,rfl⟩:=List.mem_map.mp hx
  have:=g.dom v hv
  unfold aw
  walk_at "mx"
  rw [List.length_map,decide_eq_true this.2])]
 walk_at "mx"
 erw [all_true]
 rw [aC]
theorem pA {wss:List (List Int)} {ns ls:List Int} {x:Vl} {S:Sto} (g:bU wss.length ns) (gl:bM ns ls) (hk:wss.length≤4):fK [.d (aw wss),.d (aK ns ls),x] S=.ok (.d .non) S:=by
 unfold fK
 rw [cZ]
 unfold ku
 walk_at "mx"
 erw [oy g gl hk]
 rw [jb,g_,List.take_length]
theorem sv {wss:List (List Int)} {n m:Int} {ns ls:List Int} {S:Sto} (gs:bX n m wss) (hn:n≤4) (hm:m≤4) (g:bU wss.length ns) (gl:bM ns ls):j3 [.d (aw wss),.d (aK ns ls)] S=.ok (.d .non) S:=by
 have:=gs.le
 unfold j3
 rw [eY]
 unfold rQ
 walk_at "mx"
 erw [ow gs hn hm]
 erw [pA g gl (by omega)]
 rw [jb,g_,List.take_length]
theorem jI {wss:List (List Int)} {n m:Int} {ns ls:List Int} {S:Sto} (gs:bX n m wss) (hn:n≤4) (hm:m≤4) (g:bU wss.length ns) (gl:bM ns ls):d8 [.d (aw wss),.d (aK ns ls),.d (.str "hand")] S=.ok (.d .non) S:=by
 unfold d8
 rw [cZ]
 unfold jY
 walk_at "mx"
 erw [sv gs hn hm g gl]
 erw [ud]
 rw [jb,g_,List.take_length]
theorem yC {ns f:List Int} {S:Sto} (hn:ns.Nodup) (hl:ns.length≤60):fDZ [.d (ao ns),.d (ao f)] S=.ok (.r S.length) (S++[.dct ((ns.zip f).map seD)]):=by
 unfold fDZ ao
 dsimp only
 rw [tK]
 dsimp only
 have e:(ns.map Sum.inl).zip (f.map D.int)=(ns.zip f).map seD:=by
  rw [List.zip_map]
  rfl
 rw [e,if_pos (by rw [List.length_map,List.length_zip];omega),nG]
 ·rfl
 ·rw [List.map_map]
  have:((ns.zip f).map ((fun x=>x.1) ∘ seD))=((ns.zip f).map (·.1)).map Sum.inl:=by rw [List.map_map];rfl
  rw [this]
  exact yc (hn.sublist lZ) fun x _ y _ z=>Sum.inl.inj z
 ·simp
theorem jz {ns ls:List Int} {S:Sto} (hn:ns.Nodup) (hl:ns.length≤60):dA [.d (aK ns ls)] S=.ok (.fd ((ns.zip ls).map seD)) S:=by
 unfold dA
 rw [cn]
 unfold js
 walk_at "mx"
 erw [cA]
 erw [mL]
 erw [yC hn hl]
 erw [sT (R:=[])]
 rw [uq]
theorem yP {ns ls:List Int} {n:Int} {S:Sto} (h:ns.Nodup) (g:bM ns ls) (hn:n∈ns):oDx (.fd ((ns.zip ls).map seD)) (.d (.int n)) S=.ok (.d (.int (lnH ns ls n))) S:=by
 obtain ⟨l,e1,e2,_⟩:=uB h g hn
 exact FW (k:=.inl n) rfl (by rw [pb,e1,e2];rfl)
theorem lK {wss:List (List Int)} {n:Int} {S:Sto} (h0:0≤n) (h1:n < (wss.length:Int)):oIx (.d (aw wss)) (.d (.int n)) S=.ok (.d (ao (bA wss n))) S:=bE (v7 h0 h1)
theorem fH {w:Int} {ws:List Int} {S:Sto}:oIx (.d (ao (w :: ws))) (.d (.int 0)) S=.ok (.d (.int w)) S:=bE (show atI ((w :: ws).map D.int) 0=some (.int w) from lV (ns:=w :: ws) (i:=0) (by simp))
theorem kT {w:Int} {ws:List Int} {S:Sto}:oIx (.d (.lst ((w :: ws).map D.int))) (.d (.int 0)) S=.ok (.d (.int w)) S:=dH (show atI ((w :: ws).map D.int) 0=some (.int w) from lV (ns:=w :: ws) (i:=0) (by simp))
theorem eE {S:Sto} {x:Ob} {τ:Nv} {z:D}:leave S (.ok (.rt (.d z),τ) (S++[x]))=.ok (.d z) S:=lM
theorem oh {wss:List (List Int)} {n m:Int} {ns ls order:List Int} {S:Sto} (gs:bX n m wss) (h4:wss.length≤4) (gn:bU wss.length ns) (gl:bM ns ls) (ho:order≠[]) (hnd:order.Nodup) (hsub:∀ x∈order,x∈ns) :
  dX [.d (aw wss),.fd ((ns.zip ls).map seD),.d (ao order)] S=.ok (match bg (bA wss) (lnH ns ls) (-10) order with | none=>.d .non | some B=>.fd (B.map seD)) S:=by
 have dom:∀ x∈order,0≤x∧x < (wss.length:Int):=fun x hx=>gn.dom x (hsub x hx)
 obtain ⟨n0,r0,rfl⟩:∃ a l,order=a :: l:=by cases order with | nil=>exact absurd rfl ho | cons a l=>exact ⟨a,l,rfl⟩
 obtain ⟨d0,d1⟩:=dom n0 (by simp)
 have gw:=gs.all _ (n8 d0 d1)
 obtain ⟨w0,ws0,ew⟩:∃ a l,bA wss n0=a :: l:=by
  have:=gw.pos
  cases q:bA wss n0 with
  | nil=>unfold bA at q;rw [q] at this;simp at this
  | cons a l=>exact ⟨a,l,rfl⟩
 rw [← xJ (W:=bA wss) (L:=lnH ns ls) (r:=r0) ew (by unfold bA;exact gw.rise) (fun x hx=>(gw.lim x hx).1)]
 have hlen:(n0 :: r0).length≤60:=by
  have h1:=gn.le
  have h3:=hnd.length_le_of_subset (l₂:=ns) (fun x hx=>hsub x hx)
  omega
 unfold dX
 rw [cZ]
 unfold kx
 walk_at "mx"
 erw [show sX [some (.d (aw wss)),some (.fd ((ns.zip ls).map seD)),some (.d (ao (n0 :: r0))),none,none,none,none] S=.ok (.r S.length) (S++[.dct []]) from rfl]
 erw [fH]
 erw [lK d0 d1,ew]
 erw [fH]
 have q:=nh (show _=jJ [some (.d (aw wss)),some (.fd ((ns.zip ls).map seD)),some (.d (ao (n0 :: r0))),some (.r S.length),some (.d (.int w0)),none,none] (S++[.dct []]) from rfl)
  (fun v S2=>v=.d .non∧bg (bA wss) (lnH ns ls) w0 (n0 :: r0)=none∧∃ x,S2=S++[x])
  (S1:=S++[.dct []]) (items:=((n0 :: r0).map D.int).map Vl.d) (gd:=none) (by unfold ao;walk_at "mx")
  (fun i τ S'=>∃ (fr:Int) (B:Se) (x5 x6:Option Vl),τ=[some (.d (aw wss)),some (.fd ((ns.zip ls).map seD)),some (.d (ao (n0 :: r0))),some (.r S.length),some (.d (.int fr)),x5,x6]∧S'=S++[.dct (B.map seD)]∧B.map (·.1)=(n0 :: r0).take i∧bg (bA wss) (lnH ns ls) w0 (n0 :: r0)=(bg (bA wss) (lnH ns ls) fr ((n0 :: r0).drop i)).map (B++·))
  ⟨w0,[],none,none,rfl,rfl,rfl,by rw [List.drop_zero];cases bg (bA wss) (lnH ns ls) w0 (n0 :: r0)<;>rfl⟩ (by
   rintro i z τ S' hz ⟨fr,B,x5,x6,rfl,rfl,hk,hb⟩
   obtain ⟨a,ea,rfl⟩:=ints_get hz
   have ham:=List.mem_of_getElem? ea
   obtain ⟨a0,a1⟩:=dom a ham
   have hd:(n0 :: r0).drop i=a :: (n0 :: r0).drop (i+1):=by
    obtain ⟨hi,e⟩:=List.getElem?_eq_some_iff.mp ea
    rw [← e,List.drop_eq_getElem_cons hi]
   rw [hd,sx (fr:=fr) (n:=a)] at hb
   have eC:∀ T:Sto,gF [some (.d (aw wss)),some (.fd ((ns.zip ls).map seD)),some (.d (ao (n0 :: r0))),some (.r S.length),some (.d (.int fr)),some (.d (.int a)),x6] T=.ok (.d (.lst (((bA wss a).filter fun w=>decide (fr≤w)).map D.int))) T:=fun T=>by
    rw [eP (show _=gF [some (.d (aw wss)),some (.fd ((ns.zip ls).map seD)),some (.d (ao (n0 :: r0))),some (.r S.length),some (.d (.int fr)),some (.d (.int a)),x6] T from rfl) (d:=D.int) (g:=D.int) (xs:=bA wss a) (S1:=T) (by
     walk_at "mx"
     rw [lK a0 a1]
     unfold ao
     walk_at "mx"
     rw [dJ]) (fun w=>decide (fr≤w)) (fun w _ S=>by walk_at "mx") (fun w _ _ S=>by walk_at "mx")]
   cases qf:(bA wss a).filter fun w=>decide (fr≤w) with
   | nil=>
    rw [qf] at hb eC
    refine ⟨_,_,.rt (.d .non),_,_,by walk_at "mx";rfl,by
     walk_at "mx"
     erw [eC]
     simp only [List.map_nil,List.isEmpty_nil,Bool.not_true]
     walk_at "mx"
     rfl,.inr ⟨_,rfl,rfl,hb,_,rfl⟩⟩
   | cons b l=>
    rw [qf] at hb eC
    dsimp only at hb
    have hnew:a∉B.map (·.1):=fun z=>by
     rw [hk] at z
     obtain ⟨hi,e⟩:=List.getElem?_eq_some_iff.mp ea
     obtain ⟨j,hj,e2⟩:=List.mem_iff_getElem.mp z
     rw [List.getElem_take] at e2
     rw [List.length_take] at hj
     have:=(List.getElem_inj hnd).mp (e2.trans e.symm)
     omega
    have hBl:B.length≤60:=by
     have:=congrArg List.length hk
     rw [List.length_map,List.length_take] at this
     omega
    refine ⟨_,_,.nx,_,_,by walk_at "mx";rfl,by
     walk_at "mx"
     erw [eC]
     simp only [List.map_cons,List.isEmpty_cons,Bool.not_false]
     walk_at "mx"
     rw [dput (n:=S.length) (k:=a) (zd:=.int b) (kvs:=B.map seD) (by walk_at "mx";exact kT (ws:=l)) (by walk_at "mx") (by walk_at "mx") p7 (by rw [List.length_map];omega),qv (k:=.inl a) (by
      intro z
      rw [List.map_map] at z
      obtain ⟨p,hp,e⟩:=List.mem_map.mp z
      exact hnew (List.mem_map.mpr ⟨p,hp,Sum.inl.inj e⟩)),iH]
     walk_at "mx"
     erw [show D.int b :: l.map D.int=(b :: l).map D.int from rfl,kT]
     erw [yP gn.nd gl (hsub a ham)]
     rfl,.inl ⟨.inl rfl,True.intro,b+lnH ns ls a,B++[(a,b)],_,_,rfl,by rw [List.map_append];rfl,?_,?_⟩⟩
    ·rw [List.map_append,hk,take_snoc ea];rfl
    ·rw [hb,Option.map_map]
     congr 1
     funext x
     simp)
 rcases q with ⟨τ',S',e,fr,B,x5,x6,rfl,rfl,hk,hb⟩ | ⟨v,τ',S',e,rfl,hb,x,rfl⟩
 ·rw [show (((n0 :: r0).map D.int).map Vl.d).length=(n0 :: r0).length by simp,List.drop_length] at hb
  erw [hb,e]
  erw [sT (R:=[])]
  rw [uq]
  simp [bg]
 ·erw [hb,e]
  rw [eE]
theorem ml:decide ((Str.ofString "no":Str)=Str.ofString "can")=false:=by decide +kernel
theorem iW {a:Int} {l:List Int} {S:Sto}:oSl (.d (ao (a :: l))) (some 1) none S=.ok (.d (ao l)) S:=fD (s:=a :: l) (k:=1)
theorem kF {T:Se} {a:Int} {l:List Int}:(∀ p∈(a :: l).zip (a :: l).tail,p∈T)↔(∀ b,l.head?=some b→(a,b)∈T)∧∀ p∈l.zip l.tail,p∈T:=by
 cases l with
 | nil=>simp
 | cons b l=>simp
theorem o_ {T:Se} {a nm:Int} {C:List Int} (h2:(a,nm)∈T) (h3:∀ c,C.head?=some c→(nm,c)∈T):∀ {A:List Int},(∀ p∈(A++a :: C).zip (A++a :: C).tail,p∈T)→∀ p∈(A++a :: nm :: C).zip (A++a :: nm :: C).tail,p∈T
 | [],h=>by
  rw [List.nil_append] at h ⊢
  rw [kF] at h ⊢
  refine ⟨fun b e=>by cases e;exact h2,?_⟩
  rw [kF]
  exact ⟨h3,h.2⟩
 | x :: A,h=>by
  rw [List.cons_append] at h ⊢
  rw [kF] at h ⊢
  refine ⟨fun b e=>h.1 b ?_,o_ h2 h3 h.2⟩
  cases A<;>exact e
def Res (wss:List (List Int)) (ns ls:List Int) (told:Se) (d:Nat) (x:D):Prop:=(∃ B,OkH wss ns ls B∧x=.tup [.str "can",ao (mx wss B)])∨∃ t,trR (bA wss) (lnH ns ls) ns told t∧dpT t≤d∧x=.tup [.str "no",trD t]
def Tells (wss:List (List Int)) (ns ls:List Int) (l:Nat):Prop:=∀ (f:Nat) (order left:List Int) (told:Se) (S:Sto),left.length=l→5 * l+1≤f→order≠[]→(order++left).Perm ns→(∀ p∈order.zip order.tail,p∈told) →
 ∃ x,Res wss ns ls told (3 * l+1) x∧bL f [.d (aw wss),.fd ((ns.zip ls).map seD),.d (ao order),.d (ao left)] S=.ok (.d x) S
theorem vc {wss:List (List Int)} {ns ls order left:List Int} {l:Nat} {nm:Int} (hns:ns.length≤4) (hl:left.length=l) (ho:order≠[]) (hp:(order++nm :: left).Perm ns) (hnd:ns.Nodup) (ih:Tells wss ns ls l) :
    ∀ (place:Nat) (f:Nat) (told:Se) (S:Sto),place≤order.length→place+5 * l+2≤f→(∀ p∈order.zip order.tail,p∈told)→(∀ a,order[place]?=some a→(nm,a)∈told) →
    ∃ x,Res wss ns ls told (place+(3 * l+1)) x∧bF f [.d (aw wss),.fd ((ns.zip ls).map seD),.d (ao order),.d (.int (place:Int)),.d (ao (nm :: left))] S=.ok (.d x) S:=by
  have hol:order.length≤4:=by
    have:=hp.length_eq
    rw [List.length_append] at this
    omega
  have hmem:∀ x,x∈order∨x=nm→x∈ns:=fun x hx=>hp.mem_iff.mp (by
    rcases hx with h | h
    · exact List.mem_append_left _ h
    · rw [h];exact List.mem_append_right _ (by simp))
  have hne:∀ x∈order,x≠nm:=fun x hx e=>by
    have:=(List.nodup_append.mp (hp.nodup_iff.mpr hnd)).2.2 x hx nm (by simp)
    exact this e
  have hperm:∀ place,(order.take place++[nm]++order.drop place++left).Perm ns:=fun place=>by
    refine List.Perm.trans ?_ hp
    have h1:(order.take place++[nm]++order.drop place).Perm (nm :: order):=by
      rw [List.append_assoc,List.singleton_append]
      refine List.perm_middle.trans ?_
      rw [List.take_append_drop]
    refine (h1.append_right left).trans ?_
    rw [List.cons_append]
    exact List.perm_middle.symm
  have ecut:∀ (place:Nat) (S:Sto),aD (.d (ao (order.take place))) (.d (.tup [.int nm])) S=.ok (.d (ao (order.take place++[nm]))) S:=fun place S=>B3 (by rw [List.length_take];omega)
  have ecut2:∀ (place:Nat) (S:Sto),aD (.d (ao (order.take place++[nm]))) (.d (ao (order.drop place))) S=.ok (.d (ao (order.take place++[nm]++order.drop place))) S:=fun place S=>gJ (by
    rw [List.length_append,List.length_take,List.length_drop,List.length_singleton];omega)
  intro place
  induction place with
  | zero=>
    intro f told S _ hf hc hn
    obtain ⟨f,rfl⟩:∃ g,f=g+1:=⟨f - 1,by omega⟩
    obtain ⟨x,hx,e⟩:=ih f (order.take 0++[nm]++order.drop 0) left told S hl (by omega) (by simp) (hperm 0) (by
      rw [List.take_zero,List.drop_zero,List.nil_append,List.singleton_append,kF]
      refine ⟨fun b hb=>hn b ?_,hc⟩
      rw [← hb,List.head?_eq_getElem?])
    refine ⟨x,by rw [Nat.zero_add];exact hx,?_⟩
    rw [bF,vU]
    unfold dS
    walk_at "mx"
    erw [fH]
    erw [mM]
    erw [ecut]
    erw [fD]
    erw [ecut2]
    erw [iW]
    rw [e]
    rcases hx with ⟨B,hB,rfl⟩ | ⟨t,ht,hd,rfl⟩
    · walk_at "mx"
      erw [eZ]
      rw [aC]
    · walk_at "mx"
      erw [eZ]
      erw [ml]
      erw [show decide (((0:Nat):Int)=0)=true from rfl]
      rw [aC]
  | succ place ihp=>
    intro f told S hpl hf hc hn
    obtain ⟨f,rfl⟩:∃ g,f=g+1:=⟨f - 1,by omega⟩
    obtain ⟨a,ea⟩:∃ a,order[place]?=some a:=⟨_,List.getElem?_eq_getElem (by omega)⟩
    have ham:=List.mem_of_getElem? ea
    obtain ⟨x,hx,e⟩:=ih f (order.take (place+1)++[nm]++order.drop (place+1)) left (told++[(a,nm)]) S hl (by omega) (by simp) (hperm (place+1)) (by
      rw [take_snoc ea,show order.take place++[a]++[nm]++order.drop (place+1)=order.take place++a :: nm :: order.drop (place+1) by simp]
      refine o_ (by simp) (fun c hc=>List.mem_append_left _ (hn c ?_)) fun p hp=>List.mem_append_left _ (hc p ?_)
      · rw [← hc,List.head?_drop]
      · have:order.take place++a :: order.drop (place+1)=order:=by
          obtain ⟨hi,e⟩:=List.getElem?_eq_some_iff.mp ea
          rw [← e,← List.drop_eq_getElem_cons hi,List.take_append_drop]
        rw [this] at hp
        exact hp)
    have hsub:((place+1:Nat):Int) - 1=(place:Int):=by omega
    obtain ⟨y,hy,ey⟩:=ihp f (told++[(nm,a)]) S (by omega) (by omega) (fun p hp=>List.mem_append_left _ (hc p hp)) (fun c hc=>by rw [ea] at hc;cases hc;simp)
    have start:∀ z,(leave S (sq1 (.ok (.nx,[some (.d (aw wss)),some (.fd ((ns.zip ls).map seD)),some (.d (ao order)),some (.d (.int ((place+1:Nat):Int))),some (.d (ao (nm :: left))),some (.d (.int nm)),some (.d x),none]) S)
 (av (xIf (xOr (aI (xOp oEq (xOp oIx (aa 6) (xC (.int 0))) (xC (.str "can")))) (aI (xOp oEq (aa 3) (xC (.int 0))))) (aL (aa 6)) aP)
 (av (aH (ay (bF f) (ab (aa 0) (ab (aa 1) (ab (aa 2) (ab (xOp iE (aa 3) (xC (.int 1))) (ab (aa 4) aj)))))) (gNm 7))
 (av (xIf (aI (xOp oEq (xOp oIx (aa 7) (xC (.int 0))) (xC (.str "can")))) (aL (aa 7)) aP)
 (aL (xN mkT (ab (xC (.str "no")) (ab (xN mkT (ab (xC (.str "first")) (ab (xOp oIx (aa 2) (xOp iE (aa 3) (xC (.int 1)))) (ab (aa 5) (ab (xOp oIx (aa 6) (xC (.int 1))) (ab (xOp oIx (aa 7) (xC (.int 1))) aj)))))) aj))))))))=z)→bF (f+1) [.d (aw wss),.fd ((ns.zip ls).map seD),.d (ao order),.d (.int ((place+1:Nat):Int)),.d (ao (nm :: left))] S=z:=fun z hz=>by
      rw [← hz,bF,vU]
      unfold dS
      walk_at "mx"
      erw [fH]
      erw [mM]
      erw [ecut]
      erw [fD]
      erw [ecut2]
      erw [iW]
      erw [e]
    rcases hx with ⟨B,hB,rfl⟩ | ⟨t,ht,hd,rfl⟩
    · refine ⟨_,.inl ⟨B,hB,rfl⟩,start _ ?_⟩
      walk_at "mx"
      erw [eZ]
      rw [aC]
    rcases hy with ⟨B,hB,rfl⟩ | ⟨u,hu,hd2,rfl⟩
    · refine ⟨_,.inl ⟨B,hB,rfl⟩,start _ ?_⟩
      walk_at "mx"
      erw [eZ]
      erw [ml]
      erw [decide_eq_false (show ¬((place+1:Nat):Int)=0 by omega)]
      erw [hsub,ey]
      erw [eZ]
      rw [aC]
    · refine ⟨_,.inr ⟨.first a nm t u,⟨hne a ham,hmem a (.inl ham),hmem nm (.inr rfl),ht,hu⟩,?_,rfl⟩,start _ ?_⟩
      · unfold dpT
        omega
      walk_at "mx"
      erw [eZ]
      erw [ml]
      erw [decide_eq_false (show ¬((place+1:Nat):Int)=0 by omega)]
      erw [hsub,ey]
      erw [eZ]
      erw [ml]
      erw [hsub,Ga (by omega),show order.getD place 0=a by rw [List.getD_eq_getElem?_getD,ea];rfl]
      erw [mK]
      erw [mK]
      rw [aC]
      rfl
theorem z0 {wss:List (List Int)} {n m:Int} {ns ls:List Int} (gs:bX n m wss) (h4:wss.length≤4) (gn:bU wss.length ns) (gl:bM ns ls):∀ l,Tells wss ns ls l:=by
 have hns:ns.length≤4:=by have:=gn.le;omega
 intro l
 induction l using Nat.strongRecOn with
 | _ l ih=>
  intro f order left told S hl hf ho hp hc
  obtain ⟨f,rfl⟩:∃ g,f=g+1:=⟨f - 1,by omega⟩
  have hnd:order.Nodup:=(List.nodup_append.mp (hp.nodup_iff.mpr gn.nd)).1
  have hsub:∀ x∈order,x∈ns:=fun x hx=>hp.mem_iff.mp (List.mem_append_left _ hx)
  have eb:=oh (S:=S) gs h4 gn gl ho hnd hsub
  cases q:bg (bA wss) (lnH ns ls) (-10) order with
  | none=>
   rw [q] at eb
   dsimp only at eb
   refine ⟨_,.inr ⟨.late order,⟨?_,hnd,hsub,hc,q⟩,by unfold dpT;omega,rfl⟩,?_⟩
   ·cases order with
    | nil=>exact absurd rfl ho
    | cons a r=>
     cases r with
     | cons b r=>simp
     | nil=>
      obtain ⟨d0,d1⟩:=gn.dom a (hsub a (by simp))
      have gw:=gs.all _ (n8 d0 d1)
      have hm:(bA wss a).getD 0 0∈bA wss a:=by
       have:=gw.pos
       unfold bA
       cases e:wss.getD a.toNat [] with
       | nil=>rw [e] at this;simp at this
       | cons x y=>simp
      exact absurd q (vb (f:=fun a=>(bA wss a).getD 0 0) (fun x hx=>by rw [List.mem_singleton.mp hx];exact ⟨hm,gw.rise⟩) (by simp) (fun x r e=>by
       cases e
       have:=(gw.lim _ hm).1
       omega))
   ·rw [bL,dB]
    unfold dc
    walk_at "mx"
    erw [eb]
    rw [aC]
    rfl
  | some B=>
   rw [q] at eb
   dsimp only at eb
   cases left with
   | nil=>
    rw [List.append_nil] at hp
    obtain ⟨b1,b2,b3⟩:=yJ (fun x hx=>by
     obtain ⟨l,_,e,l1,_⟩:=uB gn.nd gl (hsub x hx)
     omega) q
    refine ⟨_,.inl ⟨B,⟨by rw [b1];exact hnd,fun p hp'=>⟨hsub _ (by rw [← b1];exact List.mem_map.mpr ⟨p,hp',rfl⟩),(b2 p hp').1⟩,fun x hx=>by rw [b1];exact hp.mem_iff.mpr hx,b3⟩,rfl⟩,?_⟩
    rw [bL,dB]
    unfold dc
    walk_at "mx"
    erw [eb]
    erw [show oIs (.fd (B.map seD)) (.d .non) S=.ok (.d (.bl false)) S from rfl]
    erw [show ao []=.tup [] from rfl]
    simp only [List.isEmpty_nil,Bool.not_true]
    walk_at "mx"
    erw [zB gs]
    rw [aC]
   | cons nm left=>
    have hl':left.length+1=l:=hl
    have hlen:=hp.length_eq
    rw [List.length_append,List.length_cons] at hlen
    obtain ⟨x,hx,e⟩:=vc (S:=S) hns rfl ho hp gn.nd (ih left.length (by omega)) order.length f told (Nat.le_refl _) (by omega) hc (fun a ha=>by rw [List.getElem?_eq_none (Nat.le_refl _)] at ha;cases ha)
    refine ⟨x,?_,?_⟩
    ·rcases hx with h | ⟨t,h1,h2,h3⟩
     ·exact .inl h
     ·exact .inr ⟨t,h1,by omega,h3⟩
    rw [bL,dB]
    unfold dc
    walk_at "mx"
    erw [eb]
    erw [show oIs (.fd (B.map seD)) (.d .non) S=.ok (.d (.bl false)) S from rfl]
    erw [show ao (nm :: left)=.tup ((nm :: left).map D.int) from rfl]
    simp only [List.map_cons,List.isEmpty_cons,Bool.not_false]
    walk_at "mx"
    erw [fu,show D.tup (D.int nm :: left.map D.int)=ao (nm :: left) from rfl]
    erw [e]
    rw [aC]
theorem rm {wss:List (List Int)} {n m:Int} {ns ls:List Int} {S:Sto} (gs:bX n m wss) (hn:n≤4) (hm:m≤4) (gn:bU wss.length ns) (gl:bM ns ls):∃ x,Res wss ns ls [] 10 x∧gr [.d (aw wss),.d (aK ns ls)] S=.ok (.d x) S:=by
 have h4:=gs.le
 have hns:=gn.le
 have hpos:=gn.pos
 obtain ⟨a,r,rfl⟩:∃ a l,ns=a :: l:=by cases ns with | nil=>simp at hpos | cons a l=>exact ⟨a,l,rfl⟩
 have hr:(a :: r).length=r.length+1:=List.length_cons
 obtain ⟨x,hx,e⟩:=z0 gs (by omega) gn gl r.length 40 [a] r [] S rfl (by omega) (by simp) (List.Perm.refl _) (by simp)
 refine ⟨x,?_,?_⟩
 ·rcases hx with h | ⟨t,h1,h2,h3⟩
  ·exact .inl h
  ·exact .inr ⟨t,h1,by omega,h3⟩
 unfold gr
 rw [eY]
 unfold lr
 walk_at "mx"
 erw [jI gs hn hm gn gl]
 erw [jz gn.nd (by omega)]
 erw [cA]
 erw [show oSl (.d (ao (a :: r))) none (some 1) S=.ok (.d (ao [a])) S from mM (s:=a :: r) (k:=1)]
 erw [cA]
 erw [iW]
 erw [e]
 rw [aC]
def prD (p:Int×Int):D:=.tup [.int p.1,.int p.2]
theorem n_:∀ l:Se,D.cC (l.map prD)≤3
 | []=>by decide
 | p :: l=>by
  have:=n_ l
  rw [List.map_cons,D.cC]
  have:D.depth (prD p)≤3:=by
   show D.depth (ao [p.1,p.2])≤3
   unfold ao
   rw [D.depth,eT]
   decide
  omega
theorem kM:∀ {a b:List Int},dk (a.map D.int) (b.map D.int)=(a.zip b).map fun p=>Vl.d (prD p)
 | [],_=>rfl
 | _ :: _,[]=>rfl
 | x :: a,y :: b=>by
  show Vl.d (prD (x,y)) :: dk (a.map D.int) (b.map D.int)=_
  rw [kM]
  rfl
theorem CF:decide ((Str.ofString "first":Str)=Str.ofString "late")=false:=by decide +kernel
theorem i5:∀ {ws:List Int},(bZ ws).length=ws.length→ws.Nodup
 | [],_=>List.nodup_nil
 | x :: xs,h=>by
  have h1:=kr xs
  have h2:(bZ (x :: xs)).length≤(bZ xs).length+1:=l4 x (bZ xs)
  by_cases hx:x∈xs
  ·have:(bZ xs).length=(bZ (x :: xs)).length:=mn (kX (gk xs)) fun z=>by
    rw [ig,List.mem_cons]
    exact ⟨.inr,fun q=>q.elim (fun e=>e ▸ hx) id⟩
   rw [List.length_cons] at h
   omega
  ·rw [List.length_cons] at h
   exact List.nodup_cons.mpr ⟨hx,i5 (by omega)⟩
theorem sj {p:Int×Int} {T:Se} {S:Sto}:oIn (.d (prD p)) (.d (.lst (T.map prD))) S=.ok (.d (.bl (decide (p∈T)))) S:=by
 have hd:=n_ T
 unfold oIn inX
 dsimp only
 rw [show b7 (.d (.lst (T.map prD))) S=some (T.map prD) from rfl]
 dsimp only
 rw [show D.flat (prD p)=false from rfl,if_neg (by simp),show da (.d (.lst (T.map prD))) S=some (T.map prD) from rfl]
 dsimp only
 rw [if_pos (by omega)]
 have:inD (prD p) (T.map prD)=decide (p∈T):=by
  unfold inD
  rw [List.any_map,Bool.eq_iff_iff,List.any_eq_true,decide_eq_true_iff]
  constructor
  ·rintro ⟨q,hq,e⟩
   have e':D.eqv (prD p) (prD q)=true∨D.eqv (prD q) (prD p)=true:=by first | exact .inl e | exact .inr e
   have:p=q:=by
    obtain ⟨a,b⟩:=p
    obtain ⟨c,d⟩:=q
    rcases e' with e | e<;>(simp [prD,D.eqv,D.bR] at e;obtain ⟨rfl,rfl⟩:=e;rfl)
   rw [this];exact hq
  ·intro h
   exact ⟨p,h,by show D.eqv (prD p) (prD p)=true;exact D.eqv_refl _⟩
 rw [this]
theorem mD {α:Type} {l:List α} {f:α→Bool} {S:Sto}:eD [.d (.lst (l.map fun x=>D.bl (f x)))] S=.ok (.d (.bl (l.all f))) S:=by
 rw [uP (bs:=l.map f) (by induction l with | nil=>rfl | cons x l ih=>simp only [List.map_cons,fI,ih];rfl),List.all_map]
 rfl
theorem Ed {M:Se} {w:Int} {S:Sto}:qF (.d (.int w)) (.fd (M.map seD)) S=.ok (.d (.bl (decide (w∈M.map (·.1))))) S:=by
 unfold qF oN
 dsimp only [fX,gu]
 rw [DG (g:=fun p:Int×Int=>p.1) (fun _=>rfl)]
def cT (W:Int→List Int) (L:Int→Int) (ns:List Int) (told:Se) (o:List Int):Bool:=decide (2≤o.length) && (decide o.Nodup && ((o.all fun n=>decide (n∈ns)) && (((o.zip o.tail).all fun p=>decide (p∈told)) && (bg W L (-10) o).isNone)))
def SqI (v:Vl) (o:List Int):Prop:=v=.d (ao o)∨v=.d (.lst (o.map D.int))
theorem SqI.len {v:Vl} {o:List Int} (h:SqI v o) {S:Sto}:bB [v] S=.ok (.d (.int o.length)) S:=by
 rcases h with rfl | rfl
 ·exact fu
 ·rw [vm,List.length_map]
theorem SqI.sq {v:Vl} {o:List Int} (h:SqI v o) {S:Sto}:b7 v S=some (o.map D.int):=by rcases h with rfl | rfl<;>rfl
theorem SqI.it {v:Vl} {o:List Int} (h:SqI v o) {a:XE} {τ:Nv} {S S1:Sto} (ha:a τ S=.ok v S1):cv a τ S=.ok ⟨o.map fun x=>Vl.d (.int x),none⟩ S1:=by
 rw [mC,ha]
 rcases h with rfl | rfl
 ·unfold ao
  rw [qa,dJ]
 ·rw [pG,dJ]
theorem uX {wss:List (List Int)} {n m:Int} {ns ls o:List Int} {told:Se} {S:Sto} {v:Vl} (gs:bX n m wss) (h4:wss.length≤4) (gn:bU wss.length ns) (gl:bM ns ls) (hv:SqI v o) (h100:o.length≤100):gT [.d (aw wss),.d (aK ns ls),v,.d (.lst (told.map prD))] S=.ok (.d (.bl (cT (bA wss) (lnH ns ls) ns told o))) S:=by
 have hns:=gn.le
 unfold gT
 rw [dB]
 unfold nE
 walk_at "mx"
 erw [cA]
 erw [mL]
 erw [yC gn.nd (by omega)]
 erw [sT (R:=[])]
 erw [hv.len]
 by_cases q1:2≤o.length
 case neg=>
  erw [decide_eq_true (show (o.length:Int) < 2 by omega)]
  rw [eE]
  simp [cT,q1]
 erw [decide_eq_false (show ¬(o.length:Int) < 2 by omega)]
 erw [tU (x:=v) (ns:=o) hv.sq (by omega)]
 erw [hv.len]
 by_cases q2:o.Nodup
 case neg=>
  rw [decide_eq_true (show ((bZ o).length:Int) < o.length by
   have:=kr o
   have:(bZ o).length≠o.length:=fun z=>q2 (i5 z)
   omega)]
  walk_at "mx"
  rw [eE]
  simp [cT,q2]
 erw [lR q2,decide_eq_false (Int.lt_irrefl _)]
 have eC1:∀ T:Sto,jR [some (.d (aw wss)),some (.d (aK ns ls)),some v,some (.d (.lst (told.map prD))),some (.fd ((ns.zip ls).map seD)),none,none,none] T=.ok (.d (.lst (o.map fun x=>D.bl (decide (x∈ns))))) T:=fun T=>by
  rw [eP (show _=jR [some (.d (aw wss)),some (.d (aK ns ls)),some v,some (.d (.lst (told.map prD))),some (.fd ((ns.zip ls).map seD)),none,none,none] T from rfl) (d:=D.int) (g:=fun x=>D.bl (decide (x∈ns))) (xs:=o) (S1:=T) (hv.it (by walk_at "mx")) (fun _=>true) (fun p _ S=>rfl) (fun p hp _ S=>by
   walk_at "mx"
   rw [Ed,zp gl.len])]
  rw [List.filter_eq_self.mpr (fun _ _=>rfl)]
 erw [eC1]
 erw [mD]
 by_cases q3:(o.all fun x=>decide (x∈ns))=true
 case neg=>
  erw [Bool.eq_false_iff.mpr q3]
  rw [eE]
  simp [cT,Bool.eq_false_iff.mpr q3]
 erw [q3]
 have eC2:∀ T:Sto,kd [some (.d (aw wss)),some (.d (aK ns ls)),some v,some (.d (.lst (told.map prD))),some (.fd ((ns.zip ls).map seD)),none,none,none] T=.ok (.d (.lst ((o.zip o.tail).map fun p=>D.bl (decide (p∈told))))) T:=fun T=>by
  rw [eP (show _=kd [some (.d (aw wss)),some (.d (aK ns ls)),some v,some (.d (.lst (told.map prD))),some (.fd ((ns.zip ls).map seD)),none,none,none] T from rfl) (d:=prD) (g:=fun p=>D.bl (decide (p∈told))) (xs:=o.zip o.tail) (S1:=T) (by
   unfold oU
   rcases hv with rfl | rfl
   ·walk_at "mx"
    erw [show (some (1:Int))=some ((1:Nat):Int) from rfl,fD]
    rw [bx,← List.drop_one,← kM]
    rfl
   ·walk_at "mx"
    rw [show (some (1:Int))=some ((1:Nat):Int) from rfl,cP]
    rw [bx,← List.drop_one,← kM,List.map_drop]
    rfl) (fun _=>true) (fun p _ S=>rfl) (fun p hp _ S=>by
   walk_at "mx"
   rw [sj])]
  rw [List.filter_eq_self.mpr (fun _ _=>rfl)]
 erw [eC2]
 erw [mD]
 by_cases q4:((o.zip o.tail).all fun p=>decide (p∈told))=true
 case neg=>
  erw [Bool.eq_false_iff.mpr q4]
  rw [eE]
  simp [cT,Bool.eq_false_iff.mpr q4]
 erw [q4]
 have h3:∀ x∈o,x∈ns:=fun x hx=>by simpa using List.all_eq_true.mp q3 x hx
 have dom:∀ x∈o,0≤x∧x < (wss.length:Int):=fun x hx=>gn.dom x (h3 x hx)
 have eB:cT (bA wss) (lnH ns ls) ns told o=(bg (bA wss) (lnH ns ls) (-10) o).isNone:=by
  unfold cT
  rw [decide_eq_true q1,decide_eq_true q2,q3,q4]
  rfl
 rw [eB]
 have q:=nh (show _=nF [some (.d (aw wss)),some (.d (aK ns ls)),some v,some (.d (.lst (told.map prD))),some (.fd ((ns.zip ls).map seD)),some (.d (.int (-10))),none,none] (S++[.dead]) from rfl)
  (fun v S2=>v=.d (.bl true)∧S2=S++[.dead]∧bg (bA wss) (lnH ns ls) (-10) o=none)
  (S1:=S++[.dead]) (items:=o.map fun x=>Vl.d (.int x)) (gd:=none) (hv.it (by walk_at "mx"))
  (fun i τ S'=>∃ (fr:Int) (x6 x7:Option Vl),τ=[some (.d (aw wss)),some (.d (aK ns ls)),some v,some (.d (.lst (told.map prD))),some (.fd ((ns.zip ls).map seD)),some (.d (.int fr)),x6,x7]∧S'=S++[.dead]∧(bg (bA wss) (lnH ns ls) (-10) o=none↔bg (bA wss) (lnH ns ls) fr (o.drop i)=none))
  ⟨-10,none,none,rfl,rfl,Iff.rfl⟩ (by
   rintro i z τ S' hz ⟨fr,x6,x7,rfl,rfl,hb⟩
   rw [← dJ] at hz
   obtain ⟨a,ea,rfl⟩:=ints_get hz
   have ham:=List.mem_of_getElem? ea
   obtain ⟨a0,a1⟩:=dom a ham
   have hd:o.drop i=a :: o.drop (i+1):=by
    obtain ⟨hi,e⟩:=List.getElem?_eq_some_iff.mp ea
    rw [← e,List.drop_eq_getElem_cons hi]
   rw [hd,sx] at hb
   have eC:∀ T:Sto,kA [some (.d (aw wss)),some (.d (aK ns ls)),some v,some (.d (.lst (told.map prD))),some (.fd ((ns.zip ls).map seD)),some (.d (.int fr)),some (.d (.int a)),x7] T=.ok (.d (.lst (((bA wss a).filter fun w=>decide (fr≤w)).map D.int))) T:=fun T=>by
    rw [eP (show _=kA [some (.d (aw wss)),some (.d (aK ns ls)),some v,some (.d (.lst (told.map prD))),some (.fd ((ns.zip ls).map seD)),some (.d (.int fr)),some (.d (.int a)),x7] T from rfl) (d:=D.int) (g:=D.int) (xs:=bA wss a) (S1:=T) (by
     walk_at "mx"
     rw [lK a0 a1]
     unfold ao
     walk_at "mx"
     rw [dJ]) (fun w=>decide (fr≤w)) (fun w _ S=>by walk_at "mx") (fun w _ _ S=>by walk_at "mx")]
   cases qf:(bA wss a).filter fun w=>decide (fr≤w) with
   | nil=>
    rw [qf] at eC hb
    exact ⟨_,_,.rt (.d (.bl true)),_,_,by walk_at "mx";rfl,by
     walk_at "mx"
     erw [eC]
     erw [j8 (by decide),show D.bR [] []=true from rfl]
     rfl,.inr ⟨_,rfl,rfl,rfl,hb.mpr rfl⟩⟩
   | cons b l=>
    rw [qf] at hb eC
    dsimp only at hb
    exact ⟨_,_,.nx,_,_,by walk_at "mx";rfl,by
     walk_at "mx"
     erw [eC]
     erw [show D.int b :: l.map D.int=(b :: l).map D.int from rfl,j8 (by rw [D.depth,eT];decide),ji,show ((b :: l).map D.int).isEmpty=false from rfl]
     erw [show D.int b :: l.map D.int=(b :: l).map D.int from rfl,kT]
     erw [yP gn.nd gl (h3 a ham)]
     rfl,.inl ⟨.inl rfl,True.intro,b+lnH ns ls a,_,_,rfl,rfl,by rw [hb,Option.map_eq_none_iff]⟩⟩)
 rcases q with ⟨τ',S',e,fr,x6,x7,rfl,rfl,hb⟩ | ⟨v,τ',S',e,rfl,rfl,hb⟩
 ·rw [show (o.map fun x=>Vl.d (.int x)).length=o.length by simp,List.drop_length] at hb
  erw [e]
  rw [eE]
  have:(bg (bA wss) (lnH ns ls) (-10) o).isNone=false:=by
   rw [Bool.eq_false_iff]
   intro z
   have:=hb.mp (Option.isNone_iff_eq_none.mp z)
   simp [bg] at this
  rw [this]
 ·erw [e,hb]
  rw [eE]
  rfl
theorem Cr {wss:List (List Int)} {n m:Int} {ns ls o:List Int} {told:Se} {S:Sto} (gs:bX n m wss) (h4:wss.length≤4) (gn:bU wss.length ns) (gl:bM ns ls) (h100:o.length≤60):dr [.d (aw wss),.d (aK ns ls),.d (ao o),.d (.lst (told.map prD))] S=.ok (.d (.bl (cT (bA wss) (lnH ns ls) ns told o))) S:=by
 have hns:=gn.le
 unfold dr
 rw [dB]
 unfold hG
 walk_at "mx"
 rw [show isT "tuple" (ao o)=true from rfl]
 walk_at "my"
 by_cases q1:2≤o.length
 case neg=>
  erw [decide_eq_true (show (o.length:Int) < 2 by omega)]
  rw [aC]
  simp [cT,q1]
 erw [decide_eq_false (show ¬(o.length:Int) < 2 by omega)]
 have eU:cD [.d (ao o)] S=.ok (.d (.bl (decide o.Nodup))) S:=by
  unfold cD
  rw [cn]
  unfold f9
  walk_at "mx"
  rw [tU (x:=.d (ao o)) (ns:=o) rfl (by omega)]
  walk_at "my"
  rw [aC]
  congr 3
  rw [decide_eq_decide]
  constructor
  ·exact fun z=>i5 (by omega)
  ·exact fun z=>by rw [lR z]
 erw [eU]
 by_cases q2:o.Nodup
 case neg=>
  erw [decide_eq_false q2]
  rw [aC]
  simp [cT,q2]
 erw [decide_eq_true q2]
 have eC1:∀ T:Sto,eG [some (.d (aw wss)),some (.d (aK ns ls)),some (.d (ao o)),some (.d (.lst (told.map prD)))] T=.ok (.d (.lst (o.map fun x=>D.bl (decide (x∈ns))))) T:=fun T=>by
  rw [eP (show _=eG [some (.d (aw wss)),some (.d (aK ns ls)),some (.d (ao o)),some (.d (.lst (told.map prD)))] T from rfl) (d:=D.int) (g:=fun x=>D.bl (decide (x∈ns))) (xs:=o) (S1:=T) (SqI.it (.inl rfl) (by walk_at "mx")) (fun _=>true) (fun p _ S=>rfl) (fun p hp _ S=>by
   walk_at "mx"
   rw [cA]
   walk_at "my")]
  rw [List.filter_eq_self.mpr (fun _ _=>rfl)]
 erw [eC1]
 erw [mD]
 by_cases q3:(o.all fun x=>decide (x∈ns))=true
 case neg=>
  erw [Bool.eq_false_iff.mpr q3]
  rw [aC]
  simp [cT,Bool.eq_false_iff.mpr q3]
 erw [q3]
 have eC2:∀ T:Sto,eF [some (.d (aw wss)),some (.d (aK ns ls)),some (.d (ao o)),some (.d (.lst (told.map prD)))] T=.ok (.d (.lst ((o.zip o.tail).map fun p=>D.bl (decide (p∈told))))) T:=fun T=>by
  rw [eP (show _=eF [some (.d (aw wss)),some (.d (aK ns ls)),some (.d (ao o)),some (.d (.lst (told.map prD)))] T from rfl) (d:=prD) (g:=fun p=>D.bl (decide (p∈told))) (xs:=o.zip o.tail) (S1:=T) (by
   unfold oU
   walk_at "mx"
   erw [show (some (1:Int))=some ((1:Nat):Int) from rfl,fD]
   rw [bx,← List.drop_one,← kM]
   rfl) (fun _=>true) (fun p _ S=>rfl) (fun p hp _ S=>by
   walk_at "mx"
   rw [sj])]
  rw [List.filter_eq_self.mpr (fun _ _=>rfl)]
 erw [eC2]
 erw [mD]
 by_cases q4:((o.zip o.tail).all fun p=>decide (p∈told))=true
 case neg=>
  erw [Bool.eq_false_iff.mpr q4]
  rw [aC]
  simp [cT,Bool.eq_false_iff.mpr q4]
 erw [q4]
 have h3:∀ x∈o,x∈ns:=fun x hx=>by simpa using List.all_eq_true.mp q3 x hx
 erw [jz gn.nd (by omega)]
 rw [oh gs h4 gn gl (by intro z;rw [z] at q1;simp at q1) q2 h3]
 have eB:cT (bA wss) (lnH ns ls) ns told o=(bg (bA wss) (lnH ns ls) (-10) o).isNone:=by
  unfold cT
  rw [decide_eq_true q1,decide_eq_true q2,q3,q4]
  rfl
 rw [eB]
 cases bg (bA wss) (lnH ns ls) (-10) o with
 | none=>
  walk_at "mx"
  rw [aC]
  rfl
 | some B=>
  walk_at "mx"
  erw [show oIs (.fd (B.map seD)) (.d .non) S=.ok (.d (.bl false)) S from rfl]
  rw [aC]
  rfl
def trB (W:Int→List Int) (L:Int→Int) (ns:List Int):Se→Tr→Bool
 | told,.late o=>cT W L ns told o
 | told,.first a b l r=>!decide (a=b) && (decide (a∈ns) && (decide (b∈ns) && (trB W L ns (told++[(a,b)]) l && trB W L ns (told++[(b,a)]) r)))
def lfT (k:Nat):Tr→Prop
 | .late o=>o.length≤k
 | .first _ _ l r=>lfT k l∧lfT k r
theorem A3 {x a b l r:D}:cy [x,a,b,l,r] (some 1) (some 3)=[a,b]:=uU (a:=1) (b:=3)
theorem qp {wss:List (List Int)} {n m:Int} {ns ls:List Int} (gs:bX n m wss) (h4:wss.length≤4) (gn:bU wss.length ns) (gl:bM ns ls):∀ {t:Tr} {f:Nat} {told:Se} {S:Sto},dpT t≤f→told.length+dpT t≤1000→lfT 60 t→cb f [.d (aw wss),.d (aK ns ls),.d (trD t),.d (.lst (told.map prD))] S=.ok (.d (.bl (trB (bA wss) (lnH ns ls) ns told t))) S
 | .late o,f,told,S,hf,hl,h=>by
  obtain ⟨f,rfl⟩:∃ g,f=g+1:=⟨f - 1,by unfold dpT at hf;omega⟩
  rw [cb,dB]
  unfold fc trD
  walk_at "mx"
  erw [eZ]
  erw [mK]
  erw [uX gs h4 gn gl (.inl rfl) (by unfold lfT at h;omega)]
  rw [aC]
  rfl
 | .first a b l r,f,told,S,hf,hl,h=>by
  unfold dpT at hf hl
  obtain ⟨f,rfl⟩:∃ g,f=g+1:=⟨f - 1,by omega⟩
  have el:=qp gs h4 gn gl (t:=l) (f:=f) (told:=told++[(a,b)]) (S:=S) (by omega) (by rw [List.length_append,List.length_singleton];omega) h.1
  have er:=qp gs h4 gn gl (t:=r) (f:=f) (told:=told++[(b,a)]) (S:=S) (by omega) (by rw [List.length_append,List.length_singleton];omega) h.2
  have ea:∀ (x y:Int),aD (.d (.lst (told.map prD))) (.d (.lst [.tup [.int x,.int y]])) S=.ok (.d (.lst ((told++[(x,y)]).map prD))) S:=fun x y=>by
   rw [kf (by rw [List.length_map,List.length_singleton];omega),List.map_append]
   rfl
  rw [cb,dB]
  unfold fc trD trB
  walk_at "mx"
  erw [show oIx (.d (.tup [.str "first",.int a,.int b,trD l,trD r])) (.d (.int 0)) S=.ok (.d (.str "first")) S from bE rfl]
  erw [CF]
  erw [A3,if_pos (show [D.int a,D.int b].length=2 from rfl)]
  by_cases h1:a=b
  case pos=>
   erw [decide_eq_true h1]
   rw [aC]
   rfl
  erw [decide_eq_false h1]
  rw [cA]
  walk_at "my"
  by_cases h2:a∈ns
  case neg=>
   erw [decide_eq_false h2]
   rw [aC]
   rfl
  erw [decide_eq_true h2]
  rw [cA]
  walk_at "my"
  by_cases h3:b∈ns
  case neg=>
   erw [decide_eq_false h3]
   rw [aC]
   rfl
  erw [decide_eq_true h3]
  erw [show oIx (.d (.tup [.str "first",.int a,.int b,trD l,trD r])) (.d (.int 3)) S=.ok (.d (trD l)) S from bE rfl]
  erw [ea]
  rw [el]
  cases trB (bA wss) (lnH ns ls) ns (told++[(a,b)]) l with
  | false=>
   walk_at "mx"
   rw [aC]
   rfl
  | true=>
   walk_at "mx"
   erw [show oIx (.d (.tup [.str "first",.int a,.int b,trD l,trD r])) (.d (.int 4)) S=.ok (.d (trD r)) S from bE rfl]
   erw [ea]
   erw [er]
   rw [aC]
   rfl
theorem m_ {wss:List (List Int)} {n m:Int} {ns ls:List Int} (gs:bX n m wss) (h4:wss.length≤4) (gn:bU wss.length ns) (gl:bM ns ls):∀ {t:Tr} {f:Nat} {told:Se} {S:Sto},2 * dpT t≤f→told.length+dpT t≤1000→lfT 60 t→bT f [.d (aw wss),.d (aK ns ls),.d (trD t),.d (.lst (told.map prD))] S=.ok (.d (.bl (trB (bA wss) (lnH ns ls) ns told t))) S
 | .late o,f,told,S,hf,hl,h=>by
  obtain ⟨f,rfl⟩:∃ g,f=g+1:=⟨f - 1,by unfold dpT at hf;omega⟩
  rw [bT,dB]
  unfold eo trD
  walk_at "mx"
  erw [kY]
  erw [show decide (((2:Nat):Int)=2)=true from rfl]
  erw [eZ]
  erw [mK]
  erw [Cr gs h4 gn gl h]
  rw [aC]
  rfl
 | .first a b l r,f,told,S,hf,hl,h=>by
  unfold dpT at hf hl
  obtain ⟨f,rfl⟩:∃ g,f=g+2:=⟨f - 2,by omega⟩
  have el:=m_ gs h4 gn gl (t:=l) (f:=f) (told:=told++[(a,b)]) (S:=S) (by omega) (by rw [List.length_append,List.length_singleton];omega) h.1
  have er:=m_ gs h4 gn gl (t:=r) (f:=f) (told:=told++[(b,a)]) (S:=S) (by omega) (by rw [List.length_append,List.length_singleton];omega) h.2
  have ea:∀ (x y:Int),aD (.d (.lst (told.map prD))) (.d (.lst [.tup [.int x,.int y]])) S=.ok (.d (.lst ((told++[(x,y)]).map prD))) S:=fun x y=>by
   rw [kf (by rw [List.length_map,List.length_singleton];omega),List.map_append]
   rfl
  have es:cc (f+1) [.d (aw wss),.d (aK ns ls),.d (.tup [.str "first",.int a,.int b,trD l,trD r]),.d (.lst (told.map prD))] S=.ok (.d (.bl (trB (bA wss) (lnH ns ls) ns told (.first a b l r)))) S:=by
   rw [cc,dB]
   unfold gg trB
   walk_at "mx"
   erw [show oIx (.d (.tup [.str "first",.int a,.int b,trD l,trD r])) (.d (.int 1)) S=.ok (.d (.int a)) S from bE rfl]
   erw [show oIx (.d (.tup [.str "first",.int a,.int b,trD l,trD r])) (.d (.int 2)) S=.ok (.d (.int b)) S from bE rfl]
   by_cases h1:a=b
   case pos=>
    erw [decide_eq_true h1]
    rw [aC]
    rfl
   erw [decide_eq_false h1]
   rw [cA]
   walk_at "my"
   by_cases h2:a∈ns
   case neg=>
    erw [decide_eq_false h2]
    rw [aC]
    rfl
   erw [decide_eq_true h2]
   rw [cA]
   walk_at "my"
   by_cases h3:b∈ns
   case neg=>
    erw [decide_eq_false h3]
    rw [aC]
    rfl
   erw [decide_eq_true h3]
   erw [show oIx (.d (.tup [.str "first",.int a,.int b,trD l,trD r])) (.d (.int 3)) S=.ok (.d (trD l)) S from bE rfl]
   erw [ea]
   rw [el]
   cases trB (bA wss) (lnH ns ls) ns (told++[(a,b)]) l with
   | false=>
    walk_at "mx"
    rw [aC]
    rfl
   | true=>
    walk_at "mx"
    erw [show oIx (.d (.tup [.str "first",.int a,.int b,trD l,trD r])) (.d (.int 4)) S=.ok (.d (trD r)) S from bE rfl]
    erw [ea]
    erw [er]
    rw [aC]
    rfl
  rw [bT,dB]
  unfold eo trD
  walk_at "mx"
  erw [kY]
  erw [show decide (((5:Nat):Int)=2)=false from rfl]
  erw [show decide (((5:Nat):Int)=5)=true from rfl]
  erw [show oIx (.d (.tup [.str "first",.int a,.int b,trD l,trD r])) (.d (.int 0)) S=.ok (.d (.str "first")) S from bE rfl]
  erw [es]
  rw [aC]
theorem kC {wss:List (List Int)} {n m:Int} {ns ls:List Int} {t:Tr} {S:Sto} (gs:bX n m wss) (hn:n≤4) (hm:m≤4) (gn:bU wss.length ns) (gl:bM ns ls) (hd:dpT t≤20) (h:lfT 60 t):cY [.d (aw wss),.d (aK ns ls),.d (trD t)] S=.ok (.d (.bl (trB (bA wss) (lnH ns ls) ns [] t))) S:=by
 have h4:=gs.le
 unfold cY
 rw [cZ]
 unfold jD
 walk_at "mx"
 erw [jI gs hn hm gn gl]
 erw [show (D.lst [])=.lst (([]:Se).map prD) from rfl,m_ gs (by omega) gn gl (by omega) (by rw [List.length_nil];omega) h]
 rw [aC]
theorem sJ {wss:List (List Int)} {n m:Int} {ns ls:List Int} {t:Tr} {S:Sto} (gs:bX n m wss) (hn:n≤4) (hm:m≤4) (gn:bU wss.length ns) (gl:bM ns ls) (hd:dpT t≤20) (h:lfT 60 t):fh [.d (aw wss),.d (aK ns ls),.d (trD t)] S=.ok (.d (.bl (trB (bA wss) (lnH ns ls) ns [] t))) S:=by
 unfold fh
 rw [cZ]
 unfold k_
 walk_at "mx"
 erw [sv gs hn hm gn gl]
 erw [ud]
 repeat (first | walk_at "mx" | simp only [show decide ((Str.ofString "hand":Str)=Str.ofString "unlike")=false by decide +kernel,show decide ((Str.ofString "hand":Str)=Str.ofString "many")=false by decide +kernel,show decide ((Str.ofString "hand":Str)=Str.ofString "sum")=false by decide +kernel,show decide ((Str.ofString "hand":Str)=Str.ofString "row")=false by decide +kernel])
 erw [kC gs hn hm gn gl hd h]
 rw [aC]
theorem yR {o p:List Int} {S:Sto} (h:o.length≤1000):fLZ [.d (.lst (o.map D.int)),.d (.lst (p.map D.int))] S=.ok (.d (.lst ((o.zip p).map prD))) S:=by
 unfold fLZ
 dsimp only
 rw [if_pos (by rw [List.length_zip,List.length_map];omega),List.zip_map,List.map_map]<;>rfl
theorem zc {wss:List (List Int)} {n m:Int} {ns ls o:List Int} {S:Sto} (gs:bX n m wss) (h4:wss.length≤4) (gn:bU wss.length ns) (gl:bM ns ls) (h60:o.length≤60):∃ x,(x=.non∨∃ o',o'.length≤o.length∧x=trD (.late o'))∧gK [.d (aw wss),.d (aK ns ls),.d (.lst (o.map D.int))] S=.ok (.d x) S:=by
 have q:=nh (show _=nR [some (.d (aw wss)),some (.d (aK ns ls)),some (.d (.lst (o.map D.int))),none,none] S from rfl)
  (fun v S2=>S2=S∧∃ o',o'.length≤o.length∧v=.d (trD (.late o')))
  (S1:=S) (items:=(List.range ((o.length:Int)+1 - 2).toNat).map fun i=>Vl.d (.int (2+(i:Nat)))) (gd:=none) (by
   walk_at "mx"
   rw [List.length_map]
   walk_at "mm")
  (fun i τ S'=>∃ (x3 x4:Option Vl),τ=[some (.d (aw wss)),some (.d (aK ns ls)),some (.d (.lst (o.map D.int))),x3,x4]∧S'=S)
  ⟨none,none,rfl,rfl⟩ (by
   rintro i z τ S' hz ⟨x3,x4,rfl,rfl⟩
   rw [List.getElem?_map] at hz
   cases qi:(List.range ((o.length:Int)+1 - 2).toNat)[i]? with
   | none=>rw [qi] at hz;cases hz
   | some j=>
    rw [qi] at hz
    cases hz
    have ez:(2+(j:Int))=((2+j:Nat):Int):=by omega
    have eb:=uX (wss:=wss) (ns:=ns) (ls:=ls) (S:=S') (told:=o.zip o.tail) gs h4 gn gl (v:=.d (.lst ((o.take (2+j)).map D.int))) (o:=o.take (2+j)) (.inr rfl) (by rw [List.length_take];omega)
    cases hb:cT (bA wss) (lnH ns ls) ns (o.zip o.tail) (o.take (2+j)) with
    | true=>
     rw [hb] at eb
     exact ⟨_,_,.rt (.d (trD (.late (o.take (2+j))))),_,_,by walk_at "mx";rfl,by
      walk_at "mx"
      erw [show (some (1:Int))=some ((1:Nat):Int) from rfl,cP,← List.map_drop,List.drop_one,yR (by omega)]
      erw [ez,dh,← List.map_take,eb]
      rw [dh,← List.map_take]
      rfl,.inr ⟨_,rfl,rfl,_,by rw [List.length_take];omega,rfl⟩⟩
    | false=>
     rw [hb] at eb
     exact ⟨_,_,.nx,_,_,by walk_at "mx";rfl,by
      walk_at "mx"
      erw [show (some (1:Int))=some ((1:Nat):Int) from rfl,cP,← List.map_drop,List.drop_one,yR (by omega)]
      erw [ez,dh,← List.map_take,eb]
      rfl,.inl ⟨.inl rfl,True.intro,_,_,rfl,rfl⟩⟩)
 unfold gK
 rw [cZ]
 unfold nX
 walk_at "mx"
 rcases q with ⟨τ',S',e,x3,x4,rfl,rfl⟩ | ⟨v,τ',S',e,rfl,o',ho,rfl⟩
 ·refine ⟨.non,.inl rfl,?_⟩
  erw [e]
  rw [aC]
 ·refine ⟨_,.inr ⟨o',ho,rfl⟩,?_⟩
  erw [e]
  rw [aC]
def bS:Nat→Nat→Nat
 | 0,_=>0
 | l+1,k=>k+bS l (k+1)
theorem AU {n:Nat} {b:XS} {x y z u v w:Vl} {S:Sto}:aW 6 n b [x,y,z,u,v,w] S=leave S (b ([some x,some y,some z,some u,some v,some w]++List.replicate (n - 6) none) S):=kO rfl
theorem AD {o:List Int} {S:Sto}:oEq (.d (.lst (o.map D.int))) (.d (.lst [])) S=.ok (.d (.bl o.isEmpty)) S:=by
 rw [j8 (by rw [D.depth,eT];decide),ji,lj]
noncomputable def grR (s_l_grown:XF):XS:=(av (aH (xOp aD (xOp aD (xSl oSl (aa 2) aE (aQ (aa 4))) (xSl oSl (aa 3) aE (aQ (xC (.int 1))))) (xSl oSl (aa 2) (aQ (aa 4)) aE)) (gNm 7))
 (av (aH (ay s_l_grown (ab (aa 0) (ab (aa 1) (ab (aa 7) (ab (xSl oSl (aa 3) (aQ (xC (.int 1))) aE) (ab (xC (.int 0)) (ab (aa 5) aj))))))) (gNm 8))
 (av (xIf (aI (xOp oEq (aa 4) (xN bB (ab (aa 2) aj)))) (aL (aa 8)) aP)
 (aL (xN mkT (ab (xC (.str "first")) (ab (xOp oIx (aa 3) (xC (.int 0))) (ab (xOp oIx (aa 2) (aa 4)) (ab (aa 8) (ab (ay s_l_grown (ab (aa 0) (ab (aa 1) (ab (aa 2) (ab (aa 3) (ab (xOp aD (aa 4) (xC (.int 1))) (ab (aa 5) aj))))))) aj))))))))))
theorem C7 {s_l_grown:XF}:mv s_l_grown=av (aH (ay gK (ab (aa 0) (ab (aa 1) (ab (aa 2) aj)))) (gNm 6)) (av (xIf (xOr (lI (aI (xOp ip (aa 6) (xC .non))) (xOr (cQ (aa 5)) (aI (xOp oEq (aa 3) (xN mkL aj))))) (aI (xOp oEq (aa 3) (xN mkL aj)))) (aL (sO (aI (xOp oIs (aa 6) (xC .non))) (xN mkT (ab (xC (.str "late")) (ab (xN cJ (ab (aa 2) aj)) aj))) (aa 6))) aP) (grR s_l_grown)):=rfl
theorem xt {wss:List (List Int)} {n m:Int} {ns ls:List Int} {early:Bool} (gs:bX n m wss) (h4:wss.length≤4) (gn:bU wss.length ns) (gl:bM ns ls):∀ (f:Nat) (order left:List Int) (k:Nat) (S:Sto),order.length+left.length≤4→k≤order.length→5 * left.length+(order.length - k)+1≤f →
  ∃ t,lfT 4 t∧dpT t≤1+(match left with | []=>0 | _ :: l=>(order.length - k)+bS l.length (order.length+1))∧dv f [.d (aw wss),.d (aK ns ls),.d (.lst (order.map D.int)),.d (.lst (left.map D.int)),.d (.int (k:Int)),.d (.bl early)] S=.ok (.d (trD t)) S:=by
 intro f
 induction f with
 | zero=>intro order left k S _ _ h;omega
 | succ f ih=>
  intro order left k S h1 hk hf
  obtain ⟨x,hx,eL⟩:=zc (S:=S) (o:=order) gs h4 gn gl (by omega)
  erw [dv,AU,C7]
  rw [eL]
  cases left with
  | nil=>
   rcases hx with rfl | ⟨o',ho,rfl⟩
   ·refine ⟨.late order,by unfold lfT;omega,by unfold dpT;omega,?_⟩
    walk_at "mx"
    erw [j8 (by decide),show D.bR [] []=true from rfl]
    rw [aC]
    rfl
   ·refine ⟨.late o',by unfold lfT;omega,by unfold dpT;omega,?_⟩
    unfold trD
    walk_at "mx"
    cases early
    ·walk_at "mx"
     erw [j8 (by decide),show D.bR [] []=true from rfl]
     rw [aC]
    ·walk_at "mx"
     rw [aC]
  | cons a l=>
   have hl:order.length+(l.length+1)≤4:=by simpa using h1
   have hf':5 * (l.length+1)+(order.length - k)+1≤f+1:=by simpa using hf
   have rest:∃ t,lfT 4 t∧dpT t≤1+((order.length - k)+bS l.length (order.length+1))∧leave S (grR (dv f) [some (.d (aw wss)),some (.d (aK ns ls)),some (.d (.lst (order.map D.int))),some (.d (.lst (.int a :: l.map D.int))),some (.d (.int (k:Int))),some (.d (.bl early)),some (.d x),none,none] S)=.ok (.d (trD t)) S:=by
    obtain ⟨t1,l1,d1,e1⟩:=ih (order.take k++[a]++order.drop k) l 0 S (by simp;omega) (Nat.zero_le _) (by simp;omega)
    have d1':dpT t1≤1+bS l.length (order.length+1):=by
     cases l with
     | nil=>exact d1
     | cons b l=>
      have e:(order.take k++[a]++order.drop k).length=order.length+1:=by simp;omega
      rw [e] at d1
      exact d1
    rw [show ((0:Nat):Int)=0 from rfl] at e1
    have em:aD (.d (.lst (cy (order.map D.int) none (some (k:Int))))) (.d (.lst (cy (.int a :: l.map D.int) none (some 1)))) S=.ok (.d (.lst ((order.take k++[a]).map D.int))) S:=by
     rw [dh,show (some (1:Int))=some ((1:Nat):Int) from rfl,dh,← List.map_take,kf (by simp;omega)]
     simp
    have em2:aD (.d (.lst ((order.take k++[a]).map D.int))) (.d (.lst (cy (order.map D.int) (some (k:Int)) none))) S=.ok (.d (.lst ((order.take k++[a]++order.drop k).map D.int))) S:=by
     rw [cP,← List.map_drop,kf (by simp;omega),← List.map_append]
    have es:cy (.int a :: l.map D.int) (some 1) none=l.map D.int:=by
     rw [show (some (1:Int))=some ((1:Nat):Int) from rfl,cP]
     rfl
    unfold grR
    walk_at "mx"
    erw [em]
    erw [em2]
    erw [es,e1]
    rw [List.length_map]
    by_cases hkk:k=order.length
    ·refine ⟨t1,l1,by omega,?_⟩
     erw [decide_eq_true (show (k:Int)=order.length by omega)]
     rw [aC]
    ·obtain ⟨t2,l2,d2,e2⟩:=ih order (a :: l) (k+1) S h1 (by omega) (by rw [List.length_cons];omega)
     refine ⟨.first a (order.getD k 0) t1 t2,⟨l1,l2⟩,?_,?_⟩
     ·unfold dpT
      dsimp only at d2
      omega
     ·erw [decide_eq_false (show ¬(k:Int)=order.length by omega)]
      erw [show D.int a :: l.map D.int=(a :: l).map D.int from rfl,kT]
      erw [getL (by omega)]
      erw [show ((k:Int)+1)=((k+1:Nat):Int) by omega,show D.int a :: l.map D.int=(a :: l).map D.int from rfl,e2]
      rw [aC]
      rfl
   have hne:oEq (.d (.lst (.int a :: l.map D.int))) (.d (.lst [])) S=.ok (.d (.bl false)) S:=AD (o:=a :: l)
   rcases hx with rfl | ⟨o',ho,rfl⟩
   ·obtain ⟨t,r1,r2,r3⟩:=rest
    refine ⟨t,r1,r2,?_⟩
    walk_at "mx"
    erw [hne]
    exact r3
   ·cases early
    ·obtain ⟨t,r1,r2,r3⟩:=rest
     refine ⟨t,r1,r2,?_⟩
     unfold trD at r3 ⊢
     walk_at "mx"
     erw [hne]
     erw [hne]
     exact r3
    ·refine ⟨.late o',by unfold lfT;omega,by unfold dpT;omega,?_⟩
     unfold trD
     walk_at "mx"
     rw [aC]
def bW:Tr→List (List Int)
 | .late _=>[[]]
 | .first _ _ l r=>[[]]++(bW l).map (3 :: ·)++(bW r).map (4 :: ·)
theorem fS:∀ t:Tr,(bW t).length+1≤2 ^ dpT t∧∀ p∈bW t,p.length≤dpT t
 | .late _=>by simp [bW,dpT]
 | .first a b l r=>by
  have h1:=fS l
  have h2:=fS r
  refine ⟨?_,fun p hp=>?_⟩
  ·have e1:2 ^ dpT l≤2 ^ max (dpT l) (dpT r):=Nat.pow_le_pow_right (by decide) (by omega)
   have e2:2 ^ dpT r≤2 ^ max (dpT l) (dpT r):=Nat.pow_le_pow_right (by decide) (by omega)
   simp only [bW,dpT,List.length_append,List.length_map,List.length_cons,List.length_nil,Nat.pow_add,Nat.pow_one]
   omega
  ·simp only [bW,dpT,List.mem_append,List.mem_map,List.mem_cons,List.not_mem_nil,or_false] at hp ⊢
   rcases hp with (rfl | ⟨q,hq,rfl⟩) | ⟨q,hq,rfl⟩
   ·simp
   ·have:=h1.2 q hq;simp;omega
   ·have:=h2.2 q hq;simp;omega
theorem uZ:decide ((Str.ofString "late":Str)=Str.ofString "first")=false:=by decide +kernel
theorem lY {t:Tr} (h:dpT t≤14):(bW t).length≤20000:=by
 have h1:=(fS t).1
 have:2 ^ dpT t≤2 ^ 14:=Nat.pow_le_pow_right (by decide) h
 have:2 ^ 14=16384:=rfl
 omega
theorem lT:∀ (t:Tr) (f:Nat) (S:Sto),dpT t≤f→dpT t≤14→bN f [.d (trD t)] S=.ok (.d (.lst ((bW t).map ao))) S
 | .late o,f,S,hf,_=>by
  obtain ⟨f,rfl⟩:∃ g,f=g+1:=⟨f - 1,by unfold dpT at hf;omega⟩
  rw [bN,cn]
  unfold gb trD
  walk_at "mx"
  erw [eZ]
  erw [uZ]
  erw [yg p7,iH]
  rw [lM]
  rfl
 | .first a b l r,f,S,hf,h14=>by
  obtain ⟨f,rfl⟩:∃ g,f=g+1:=⟨f - 1,by unfold dpT at hf;omega⟩
  unfold dpT at hf h14
  have pl:=lY (t:=l) (by omega)
  have pr:=lY (t:=r) (by omega)
  have one:∀ (side:Int) (t:Tr),dpT t≤f→dpT t≤14→(∀ S:Sto,oIx (.d (.tup [.str "first",.int a,.int b,trD l,trD r])) (.d (.int side)) S=.ok (.d (trD t)) S)→(∀ S:Sto,bN f [.d (trD t)] S=.ok (.d (.lst ((bW t).map ao))) S)→∀ (x1:Option Vl) (T:Sto),gc (bN f) [some (.d (.tup [.str "first",.int a,.int b,trD l,trD r])),x1,some (.d (.int side))] T=.ok (.d (.lst (((bW t).map (side :: ·)).map ao))) T:=fun side t hd h14 hix ih x1 T=>by
   have hs:=(fS t).2
   rw [zX (show _=gc (bN f) [some (.d (.tup [.str "first",.int a,.int b,trD l,trD r])),x1,some (.d (.int side))] T from rfl) (xs:=(bW t).map ao) (S1:=T) (by
    walk_at "mx"
    erw [hix]
    rw [ih]
    walk_at "mx") (fun x=>match x with | .tup xs=>.tup (.int side :: xs) | y=>y) (by
    intro x hx S
    obtain ⟨q,hq,rfl⟩:=List.mem_map.mp hx
    have:=hs q hq
    unfold ao
    walk_at "mx"
    rw [fO (by simp;omega)]
    rfl),List.map_map,List.map_map]
   rfl
  rw [bN,cn]
  unfold gb trD
  walk_at "mx"
  erw [show oIx (.d (.tup [.str "first",.int a,.int b,trD l,trD r])) (.d (.int 0)) _=.ok (.d (.str "first")) _ from bE rfl]
  have q:=fe (show _=jw (bN f) [some (.d (.tup [.str "first",.int a,.int b,trD l,trD r])),some (.r S.length),none] (S++[.lst [.tup []]]) from rfl) (S1:=S++[.lst [.tup []]]) (items:=[.d (.int 3),.d (.int 4)]) (gd:=none) (by walk_at "mx")
   (fun i τ S'=>∃ x2,τ=[some (.d (.tup [.str "first",.int a,.int b,trD l,trD r])),some (.r S.length),x2]∧S'=S++[.lst (([[]]++(if 1≤i then (bW l).map (3 :: ·) else [])++(if 2≤i then (bW r).map (4 :: ·) else [])).map ao)]) ⟨none,rfl,rfl⟩ (by
    rintro i z τ S' hz ⟨x2,rfl,rfl⟩
    rcases i with _ | _ | i
    ·cases hz
     exact ⟨_,_,.nx,_,_,by walk_at "mx";rfl,by
      walk_at "mx"
      erw [one 3 l (by omega) (by omega) (fun _=>bE rfl) (fun S=>lT l f S (by omega) (by omega))]
      erw [uN (by simp;omega),iH]
      rfl,.inl rfl,True.intro,_,rfl,by simp⟩
    ·cases hz
     exact ⟨_,_,.nx,_,_,by walk_at "mx";rfl,by
      walk_at "mx"
      erw [one 4 r (by omega) (by omega) (fun _=>bE rfl) (fun S=>lT r f S (by omega) (by omega))]
      erw [uN (by simp;omega),iH]
      rfl,.inl rfl,True.intro,_,rfl,by simp⟩
    ·simp at hz)
  obtain ⟨τ',S',e,x2,rfl,rfl⟩:=q
  erw [e]
  erw [yg p7,iH]
  rw [lM]
  rfl
def vP:Tr→List Int→Prop
 | _,[]=>True
 | .first _ _ l r,s :: p=>(s=3∧vP l p)∨(s=4∧vP r p)
 | .late _,_ :: _=>False
theorem t7:∀ {t:Tr} {p:List Int},p∈bW t→vP t p
 | .late _,p,h=>by
  simp [bW] at h
  subst h
  trivial
 | .first a b l r,p,h=>by
  simp only [bW,List.mem_append,List.mem_map,List.mem_cons,List.not_mem_nil,or_false] at h
  rcases h with (rfl | ⟨q,hq,rfl⟩) | ⟨q,hq,rfl⟩
  ·trivial
  ·exact .inl ⟨rfl,t7 hq⟩
  ·exact .inr ⟨rfl,t7 hq⟩
def fq:Tr→List Int→Tr
 | t,[]=>t
 | .first _ _ l r,s :: p=>if s=3 then fq l p else fq r p
 | .late o,_ :: _=>.late o
theorem pL {k:Nat}:∀ {t:Tr} {p:List Int},lfT k t→lfT k (fq t p)
 | .late _,[],h=>h
 | .late _,_ :: _,h=>h
 | .first _ _ _ _,[],h=>h
 | .first a b l r,s :: p,h=>by
  unfold fq
  split
  ·exact pL h.1
  ·exact pL h.2
theorem zD {t:Tr} {p:List Int} {S:Sto} (h:vP t p):fM [.d (trD t),.d (ao p)] S=.ok (.d (trD (fq t p))) S:=by
 unfold fM
 rw [eY]
 unfold kb
 walk_at "mx"
 have q:=fe (show _=j7 [some (.d (trD t)),some (.d (ao p)),none] S from rfl) (S1:=S) (items:=(p.map D.int).map Vl.d) (gd:=none) (by unfold ao;walk_at "mx")
  (fun i τ S'=>∃ (u:Tr) (x2:Option Vl),τ=[some (.d (trD u)),some (.d (ao p)),x2]∧S'=S∧vP u (p.drop i)∧fq u (p.drop i)=fq t p) ⟨t,none,rfl,rfl,by simpa using h,by simp⟩ (by
   rintro i z τ S' hz ⟨u,x2,rfl,rfl,hv,hu⟩
   obtain ⟨a,ea,rfl⟩:=ints_get hz
   have hd:p.drop i=a :: p.drop (i+1):=by
    obtain ⟨hi,e⟩:=List.getElem?_eq_some_iff.mp ea
    rw [← e,List.drop_eq_getElem_cons hi]
   rw [hd] at hv hu
   cases u with
   | late o=>exact hv.elim
   | first c d l r=>
    rcases hv with ⟨rfl,hv⟩ | ⟨rfl,hv⟩
    ·exact ⟨_,_,.nx,_,_,by walk_at "mx";rfl,by
      walk_at "mx"
      erw [show oIx (.d (trD (.first c d l r))) (.d (.int 3)) S'=.ok (.d (trD l)) S' from bE rfl]
      rfl,.inl rfl,True.intro,l,_,rfl,rfl,hv,by rw [← hu];simp [fq]⟩
    ·exact ⟨_,_,.nx,_,_,by walk_at "mx";rfl,by
      walk_at "mx"
      erw [show oIx (.d (trD (.first c d l r))) (.d (.int 4)) S'=.ok (.d (trD r)) S' from bE rfl]
      rfl,.inl rfl,True.intro,r,_,rfl,rfl,hv,by rw [← hu];simp [fq]⟩)
 obtain ⟨τ',S',e,u,x2,rfl,rfl,hv,hu⟩:=q
 erw [e]
 rw [aC]
 rw [show ((p.map D.int).map Vl.d).length=p.length by simp,List.drop_length] at hu
 rw [← hu]
 cases u<;>rfl
def fm:Tr→List Int→Tr→Tr
 | _,[],o=>o
 | .first a b l r,s :: p,o=>if s=3 then .first a b (fm l p o) r else .first a b l (fm r p o)
 | .late x,_ :: _,_=>.late x
theorem qo {k:Nat} {o:Tr} (ho:lfT k o):∀ {t:Tr} {p:List Int},lfT k t→lfT k (fm t p o)
 | .late _,[],_=>ho
 | .late _,_ :: _,h=>h
 | .first _ _ _ _,[],_=>ho
 | .first a b l r,s :: p,h=>by
  unfold fm
  split
  ·exact ⟨qo ho h.1,h.2⟩
  ·exact ⟨h.1,qo ho h.2⟩
theorem qE {o:Tr}:∀ {t:Tr} {p:List Int},vP t p→dpT o≤dpT (fq t p)+1→dpT (fm t p o)≤dpT t+1
 | .late _,[],_,h=>h
 | .late _,_ :: _,h,_=>h.elim
 | .first _ _ _ _,[],_,h=>h
 | .first a b l r,s :: p,hv,h=>by
  rcases hv with ⟨rfl,hv⟩ | ⟨rfl,hv⟩
  ·have:=qE hv (by simpa [fq] using h)
   simp only [fm,if_true,dpT]
   omega
  ·have:=qE hv (by simpa [fq] using h)
   simp only [fm,show ¬((4:Int)=3) by decide,if_false,dpT]
   omega
theorem eI {k j:Nat} (h:k≤j):∀ {t:Tr},lfT k t→lfT j t
 | .late o,q=>by unfold lfT at q ⊢;omega
 | .first _ _ l r,q=>⟨eI h q.1,eI h q.2⟩
theorem oQ:∀ {t:Tr} {p:List Int} {o:Tr} {f:Nat} {S:Sto},vP t p→p.length+1≤f→p.length≤1000→de f [.d (trD t),.d (ao p),.d (trD o)] S=.ok (.d (trD (fm t p o))) S
 | t,[],o,f,S,_,hf,_=>by
  obtain ⟨f,rfl⟩:∃ g,f=g+1:=⟨f - 1,by omega⟩
  rw [de,cZ]
  unfold iC ao
  walk_at "mx"
  erw [yB (by decide),show D.bR [] []=true from rfl]
  rw [aC]
  cases t<;>rfl
 | .late _,_ :: _,_,_,_,h,_,_=>h.elim
 | .first a b l r,s :: p,o,f,S,hv,hf,hl=>by
  rw [List.length_cons] at hf hl
  obtain ⟨f,rfl⟩:∃ g,f=g+1:=⟨f - 1,by omega⟩
  have e0:oEq (.d (ao (s :: p))) (.d (.tup [])) S=.ok (.d (.bl false)) S:=by
   unfold ao
   rw [yB (by rw [D.depth,eT];decide),ji]
   rfl
  rw [de,cZ]
  unfold iC
  walk_at "mx"
  erw [e0]
  rw [fH,show trD (.first a b l r)=.tup [.str "first",.int a,.int b,trD l,trD r] from rfl]
  rcases hv with ⟨rfl,hv⟩ | ⟨rfl,hv⟩
  ·walk_at "mx"
   erw [show oIx (.d (.tup [.str "first",.int a,.int b,trD l,trD r])) (.d (.int 3)) _=.ok (.d (trD l)) _ from bE rfl]
   erw [iW]
   erw [oQ hv (by omega) (by omega)]
   erw [show (some (3:Int))=some ((3:Nat):Int) from rfl,dh,fO (by simp)]
   rw [show ((3:Int)+1)=((4:Nat):Int) from rfl,cP]
   erw [fO (by simp)]
   rw [aC]
   simp [fm,trD]
  ·walk_at "mx"
   erw [show oIx (.d (.tup [.str "first",.int a,.int b,trD l,trD r])) (.d (.int 4)) _=.ok (.d (trD r)) _ from bE rfl]
   erw [iW]
   erw [oQ hv (by omega) (by omega)]
   erw [show (some (4:Int))=some ((4:Nat):Int) from rfl,dh,fO (by simp)]
   rw [show ((4:Int)+1)=((5:Nat):Int) from rfl,cP]
   erw [fO (by simp)]
   rw [aC]
   simp [fm,trD]
theorem qG {α:Type} {f:α→D} {c:List α} {i:Int} (h0:0≤i) (h1:i < c.length):∃ x,x∈c∧atI (c.map f) i=some (f x):=by
 have hk:i.toNat < c.length:=by omega
 refine ⟨c[i.toNat],List.getElem_mem hk,?_⟩
 unfold atI
 rw [oH h0 (by simpa using h1)]
 show (c.map f)[i.toNat]?=_
 rw [List.getElem?_map,List.getElem?_eq_getElem hk]
 rfl
noncomputable def bpR:XS:=(av (aH (xOp oIx (xN mkL (ab (xC (.int 0)) (ab (xC (.int 1)) (ab (xC (.int 2)) (ab (xC (.int 3)) (ab (xUn jc (xC (.int 1))) (ab (xC (.int 4)) (ab (xOp mX (xC (.int 10)) (xC (.int 20))) aj)))))))) (ay aZ (ab (aa 0) (ab (xC (.int 7)) aj)))) (gNm 5))
 (av (xIf (aI (xOp oEq (xOp oIx (aa 3) (xC (.int 0))) (xC (.str "first")))) (av (aH (xN mkL (ab (xOp aD (xSl oSl (aa 3) aE (aQ (xC (.int 3)))) (xN mkT (ab (xOp oIx (aa 3) (xC (.int 4))) (ab (xOp oIx (aa 3) (xC (.int 3))) aj)))) (ab (xOp oIx (aa 3) (xC (.int 3))) (ab (xOp aD (xN mkT (ab (xC (.str "first")) (ab (aa 5) aj))) (xSl oSl (aa 3) (aQ (xC (.int 2))) aE)) (ab (xOp aD (xOp aD (xSl oSl (aa 3) aE (aQ (xC (.int 2)))) (xN mkT (ab (aa 5) aj))) (xSl oSl (aa 3) (aQ (xC (.int 3))) aE)) aj))))) (gNm 6))
 (av (aH (xOp aD (aa 6) (xN mkL (ab (xOp aD (xN mkT (ab (xC (.str "first")) (ab (xOp oIx (aa 3) (xC (.int 2))) (ab (xOp oIx (aa 3) (xC (.int 1))) aj)))) (xSl oSl (aa 3) (aQ (xC (.int 3))) aE)) (ab (xOp aD (xN mkT (ab (xC (.str "first")) (ab (aa 5) (ab (aa 5) aj)))) (xSl oSl (aa 3) (aQ (xC (.int 3))) aE)) aj)))) (gNm 6))
 (aL (xOp oIx (aa 6) (ay aZ (ab (aa 0) (ab (xC (.int 6)) aj))))))) aP)
 (av (aH (xOp oIx (aa 3) (xC (.int 1))) (gNm 7))
 (av (aH (ay aZ (ab (aa 0) (ab (xOp aD (xN bB (ab (aa 7) aj)) (xC (.int 1))) aj))) (gNm 8))
 (av (aH (xN mkL (ab (xOp aD (xSl oSl (aa 7) aE (aQ (aa 8))) (xSl oSl (aa 7) (aQ (xOp aD (aa 8) (xC (.int 1)))) aE)) (ab (xOp aD (xOp aD (xSl oSl (aa 7) aE (aQ (aa 8))) (xN mkT (ab (aa 5) aj))) (xSl oSl (aa 7) (aQ (aa 8)) aE)) (ab (xOp aD (xOp aD (xSl oSl (aa 7) aE (aQ (aa 8))) (xN mkT (ab (aa 5) aj))) (xSl oSl (aa 7) (aQ (xOp aD (aa 8) (xC (.int 1)))) aE)) (ab (xOp mY (aa 7) (xUn jc (xC (.int 1)))) aj))))) (gNm 6))
 (av (aH (xOp aD (aa 6) (xN mkL (ab (xN mkT aj) (ab (xSl oSl (aa 7) aE (aQ (xC (.int 1)))) (ab (xOp aD (aa 7) (xSl oSl (aa 7) aE (aQ (xC (.int 1))))) aj))))) (gNm 6))
 (aL (xN mkT (ab (xC (.str "late")) (ab (xOp oIx (aa 6) (ay aZ (ab (aa 0) (ab (xC (.int 7)) aj)))) aj))))))))))
theorem Bm:iI=av (aH dG (gNm 4)) (av (xIf (lI (aI (xOp oNe (aa 4) (xN mkL aj))) (aI (xOp oEq (ay aZ (ab (aa 0) (ab (xC (.int 5)) aj))) (xC (.int 0))))) (aL (xN mkT (ab (xC (.str "first")) (ab (xOp oIx (xOp oIx (aa 2) (xC (.int 1))) (xC (.int 0))) (ab (xOp oIx (aa 4) (ay aZ (ab (aa 0) (ab (xN bB (ab (aa 4) aj)) aj)))) (ab (aa 3) (ab (aa 3) aj))))))) aP) bpR):=rfl
theorem Au {o:Ob} {R:Sto} {wss:List (List Int)} {ns ls:List Int} {t:Tr} {k:Nat} (hp:Pen o) (h4:wss.length≤4) (gn:bU wss.length ns) (hk:lfT k t) (hk1:k≤100):∃ (t':Tr) (o':Ob),Pen o'∧lfT (k+1) t'∧dpT t'≤dpT t+1∧ed [.r 0,.d (aw wss),.d (aK ns ls),.d (trD t)] (o :: R)=.ok (.d (trD t')) (o' :: R):=by
  have hk':lfT (k+1) t:=eI (by omega) hk
  generalize hs:(((List.range wss.length).filter fun i=>!decide (((i:Nat):Int)∈ns)).map fun i=>((i:Nat):Int))=sy
  have sl:sy.length≤4:=by
    rw [← hs,List.length_map]
    have:=List.length_filter_le (fun i=>!decide (((i:Nat):Int)∈ns)) (List.range wss.length)
    rw [List.length_range] at this
    omega
  have eC:∀ T:Sto,dG [some (.r 0),some (.d (aw wss)),some (.d (aK ns ls)),some (.d (trD t)),none,none,none,none,none] T=.ok (.d (.lst (sy.map D.int))) T:=fun T=>by
    rw [eP (show _=dG [some (.r 0),some (.d (aw wss)),some (.d (aK ns ls)),some (.d (trD t)),none,none,none,none,none] T from rfl) (d:=fun i:Nat=>D.int i) (g:=fun i:Nat=>D.int i) (xs:=List.range wss.length) (S1:=T) (by
      unfold aw
      walk_at "mx"
      rw [List.length_map]
      walk_at "mm"
      rw [Int.toNat_natCast]) (fun i=>!decide (((i:Nat):Int)∈ns)) (fun i _ S=>by
      walk_at "mx"
      rw [cA]
      walk_at "my") (fun i _ _ S=>by walk_at "mx"),← hs,List.map_map]
    rfl
  obtain ⟨a0,nr,en⟩:∃ a l,ns=a :: l:=by
    have:=gn.pos
    cases ns with | nil=>simp at this | cons a l=>exact ⟨a,l,rfl⟩
  have rest:∀ (o:Ob),Pen o→∃ (t':Tr) (o':Ob),Pen o'∧lfT (k+1) t'∧dpT t'≤dpT t+1∧leave (o :: R) (bpR [some (.r 0),some (.d (aw wss)),some (.d (aK ns ls)),some (.d (trD t)),some (.d (.lst (sy.map D.int))),none,none,none,none] (o :: R))=.ok (.d (trD t')) (o' :: R):=by
    intro o hp
    obtain ⟨v,o1,v0,v1,hp1,e1⟩:=bI (R:=R) (m:=7) hp (by decide) (by decide)
    obtain ⟨nm,en1,_⟩:=fG (ns:=[0,1,2,3,-1,4,10 ^ 20]) (i:=v) v0 (by simpa using v1)
    unfold bpR
    walk_at "mm"
    erw [e1]
    rw [show [D.int 0,D.int 1,D.int 2,D.int 3,D.int (-1),D.int 4,D.int (10 ^ Int.toNat 20)]=[0,1,2,3,-1,4,10 ^ 20].map D.int from rfl,dH en1]
    cases t with
    | first a b l r=>
      obtain ⟨u,o2,u0,u1,hp2,e2⟩:=bI (R:=R) (m:=6) hp1 (by decide) (by decide)
      have c1:cy [.str "first",.int a,.int b,trD l,trD r] none (some 3)=[.str "first",.int a,.int b]:=dh (k:=3)
      have c2:cy [.str "first",.int a,.int b,trD l,trD r] (some 2) none=[.int b,trD l,trD r]:=cP (k:=2)
      have c3:cy [.str "first",.int a,.int b,trD l,trD r] none (some 2)=[.str "first",.int a]:=dh (k:=2)
      have c4:cy [.str "first",.int a,.int b,trD l,trD r] (some 3) none=[trD l,trD r]:=cP (k:=3)
      have i1:∀ S,oIx (.d (.tup [.str "first",.int a,.int b,trD l,trD r])) (.d (.int 1)) S=.ok (.d (.int a)) S:=fun S=>bE rfl
      have i2:∀ S,oIx (.d (.tup [.str "first",.int a,.int b,trD l,trD r])) (.d (.int 2)) S=.ok (.d (.int b)) S:=fun S=>bE rfl
      have i3:∀ S,oIx (.d (.tup [.str "first",.int a,.int b,trD l,trD r])) (.d (.int 3)) S=.ok (.d (trD l)) S:=fun S=>bE rfl
      have i4:∀ S,oIx (.d (.tup [.str "first",.int a,.int b,trD l,trD r])) (.d (.int 4)) S=.ok (.d (trD r)) S:=fun S=>bE rfl
      have i0:∀ S,oIx (.d (.tup [.str "first",.int a,.int b,trD l,trD r])) (.d (.int 0)) S=.ok (.d (.str "first")) S:=fun S=>bE rfl
      obtain ⟨t',hm,et⟩:=qG (f:=trD) (c:=[.first a b r l,l,.first nm b l r,.first a nm l r,.first b a l r,.first nm nm l r]) (i:=u) u0 (by simpa using u1)
      have hl:lfT (k+1) l:=hk'.1
      have hr:lfT (k+1) r:=hk'.2
      refine ⟨t',o2,hp2,?_,?_,?_⟩
      · simp only [List.mem_cons,List.not_mem_nil,or_false] at hm
        rcases hm with rfl | rfl | rfl | rfl | rfl | rfl<;>first | exact ⟨hl,hr⟩ | exact ⟨hr,hl⟩ | assumption
      · simp only [List.mem_cons,List.not_mem_nil,or_false] at hm
        rcases hm with rfl | rfl | rfl | rfl | rfl | rfl<;>simp only [dpT]<;>omega
      · rw [show trD (.first a b l r)=.tup [.str "first",.int a,.int b,trD l,trD r] from rfl]
        repeat (first | walk_at "mx" | simp only [c1,c2,c3,c4,i0,i1,i2,i3,i4] | walk_at "mo")
        erw [e2]
        erw [dH (show atI [D.tup [.str "first",.int a,.int b,trD r,trD l],trD l,.tup [.str "first",.int nm,.int b,trD l,trD r],.tup [.str "first",.int a,.int nm,trD l,trD r],.tup [.str "first",.int b,.int a,trD l,trD r],.tup [.str "first",.int nm,.int nm,trD l,trD r]] u=some (trD t') from et)]
        rw [dE]
        simp
    | late row=>
      have hrow:row.length≤k:=hk
      obtain ⟨u,o2,u0,u1,hp2,e2⟩:=bI (R:=R) (m:=(row.length:Int)+1) hp1 (by omega) (by omega)
      obtain ⟨j,rfl⟩:=Int.eq_ofNat_of_zero_le u0
      obtain ⟨u',o3,u0',u1',hp3,e3⟩:=bI (R:=R) (m:=7) hp2 (by decide) (by decide)
      have ej:((j:Nat):Int)+1=((j+1:Nat):Int):=by omega
      have q1:∀ S,oSl (.d (ao row)) none (some (j:Int)) S=.ok (.d (ao (row.take j))) S:=fun S=>mM
      have q2:∀ S,oSl (.d (ao row)) (some ((j:Int)+1)) none S=.ok (.d (ao (row.drop (j+1)))) S:=fun S=>by rw [ej];exact fD
      have q3:∀ S,oSl (.d (ao row)) (some (j:Int)) none S=.ok (.d (ao (row.drop j))) S:=fun S=>fD
      have q4:∀ S,oSl (.d (ao row)) none (some 1) S=.ok (.d (ao (row.take 1))) S:=fun S=>mM (k:=1)
      have q5:∀ S,mY (.d (ao row)) (.d (.int (-1))) S=.ok (.d (ao row.reverse)) S:=fun S=>by unfold ao;rw [yK,List.map_reverse]
      have z1:∀ S,aD (.d (ao (row.take j))) (.d (ao (row.drop (j+1)))) S=.ok (.d (ao (row.take j++row.drop (j+1)))) S:=fun S=>gJ (by simp;omega)
      have z2:∀ S,aD (.d (ao (row.take j))) (.d (.tup [.int nm])) S=.ok (.d (ao (row.take j++[nm]))) S:=fun S=>gJ (t:=[nm]) (by simp;omega)
      have z3:∀ S,aD (.d (ao (row.take j++[nm]))) (.d (ao (row.drop j))) S=.ok (.d (ao (row.take j++[nm]++row.drop j))) S:=fun S=>gJ (by simp;omega)
      have z4:∀ S,aD (.d (ao (row.take j++[nm]))) (.d (ao (row.drop (j+1)))) S=.ok (.d (ao (row.take j++[nm]++row.drop (j+1)))) S:=fun S=>gJ (by simp;omega)
      have z5:∀ S,aD (.d (ao row)) (.d (ao (row.take 1))) S=.ok (.d (ao (row++row.take 1))) S:=fun S=>gJ (by simp;omega)
      obtain ⟨r',hm,et⟩:=qG (f:=ao) (c:=[row.take j++row.drop (j+1),row.take j++[nm]++row.drop j,row.take j++[nm]++row.drop (j+1),row.reverse,[],row.take 1,row++row.take 1]) (i:=u') u0' (by simpa using u1')
      refine ⟨.late r',o3,hp3,?_,?_,?_⟩
      · unfold lfT
        simp only [List.mem_cons,List.not_mem_nil,or_false] at hm
        rcases hm with rfl | rfl | rfl | rfl | rfl | rfl | rfl<;>simp<;>omega
      · simp [dpT]
      · erw [show trD (.late row)=.tup [.str "late",ao row] from rfl]
        erw [eZ]
        erw [uZ]
        rw [mK]
        walk_at "my"
        rw [e2]
        repeat (first | walk_at "mx" | simp only [q1,q2,q3,q4,q5,z1,z2,z3,z4,z5] | walk_at "mo")
        erw [e3]
        erw [dH (show atI [ao (row.take j++row.drop (j+1)),ao (row.take j++[nm]++row.drop j),ao (row.take j++[nm]++row.drop (j+1)),ao row.reverse,.tup [],ao (row.take 1),ao (row++row.take 1)] u'=some (ao r') from et)]
        rw [dE]
        simp [trD]
  unfold ed
  erw [dB,Bm]
  erw [eC]
  rw [C1 (by rw [D.depth,eT];decide),ji,lj]
  cases sy with
  | nil=>
    obtain ⟨t',o',q1,q2,q3,q4⟩:=rest o hp
    refine ⟨t',o',q1,q2,q3,?_⟩
    simp only [List.isEmpty_nil,Bool.not_true]
    walk_at "mx"
    exact q4
  | cons c sy=>
    simp only [List.isEmpty_cons,Bool.not_false]
    obtain ⟨v,o1,v0,v1,hp1,e1⟩:=bI (R:=R) (m:=5) hp (by decide) (by decide)
    walk_at "mx"
    erw [e1]
    by_cases hv:v=0
    · obtain ⟨w,o2,w0,w1,hp2,e2⟩:=bI (R:=R) (m:=((c :: sy).length:Int)) hp1 (by simp) (by simp at sl;simp;omega)
      obtain ⟨x,ex,_⟩:=fG (ns:=c :: sy) (i:=w) w0 w1
      refine ⟨.first a0 x t t,o2,hp2,⟨hk',hk'⟩,by simp [dpT];omega,?_⟩
      erw [decide_eq_true hv]
      erw [cA,en]
      erw [fH]
      erw [List.length_map,show (((sy.length+1:Nat):Int))=((c :: sy).length:Int) by simp,e2]
      erw [show D.int c :: sy.map D.int=(c :: sy).map D.int from rfl,dH ex]
      rw [dE]
      simp [trD]
    · obtain ⟨t',o',q1,q2,q3,q4⟩:=rest o1 hp1
      refine ⟨t',o',q1,q2,q3,?_⟩
      erw [decide_eq_false hv]
      exact q4
theorem F8 {a:XE} {τ:Nv} {xs:List D} {n:Nat} {S S1:Sto} (ha:a τ S=.ok (.r n) S1) (hn:S1[n]?=some (.lst xs)):cv a τ S=.ok ⟨xs.map Vl.d,some (n,.lst xs)⟩ S1:=by unfold cv;rw [ha,bx];simp [hn]
theorem si {n m:Int} {wss:List (List Int)} (gs:bX n m wss) (hn:n≤4) (hm:m≤4):bX 4 4 wss:=⟨gs.pos,by have:=gs.le;omega,fun ws h=>⟨(gs.all ws h).rise,(gs.all ws h).lim,(gs.all ws h).pos,by have:=(gs.all ws h).le;omega⟩⟩
def okT (k:Nat) (t:Tr):Prop:=lfT k t∧dpT t≤k
theorem okT.up {k j:Nat} {t:Tr} (h:okT k t) (hk:k≤j):okT j t:=⟨eI hk h.1,by have:=h.2;omega⟩
theorem zv {o:Ob} {R:Sto} {K:Nat} {ts:List Tr} {wss vss:List (List Int)} {ns ls ls2:List Int} {x0 x2 x7 x8 x9 x11 x12 x13 x14 x15 x16 x17 x18 x19 x20:Option Vl} (hp:Pen o) (h4:wss.length≤4) (gn:bU wss.length ns) (hK:R[K]?=some (.lst (ts.map trD))) (ha:∀ t∈ts,okT 10 t) (hl:1≤ts.length∧ts.length≤3) :
  ∃ (o':Ob) (R':Sto) (ts':List Tr) (y13 y14 y15 y16:Option Vl),Pen o'∧R'[K]?=some (.lst (ts'.map trD))∧(∀ t∈ts',okT 12 t)∧ts'.length≤20∧mJ [x0,some (.r 0),x2,some (.d (aw wss)),some (.d (aK ns ls)),some (.d (aw vss)),some (.d (aK ns ls2)),x7,x8,x9,some (.r (K+1)),x11,x12,x13,x14,x15,x16,x17,x18,x19,x20] (o :: R)=.ok (.nx,[x0,some (.r 0),x2,some (.d (aw wss)),some (.d (aK ns ls)),some (.d (aw vss)),some (.d (aK ns ls2)),x7,x8,x9,some (.r (K+1)),x11,x12,y13,y14,y15,y16,x17,x18,x19,x20]) (o' :: R'):=by
 have q:=fe (show _=mJ [x0,some (.r 0),x2,some (.d (aw wss)),some (.d (aK ns ls)),some (.d (aw vss)),some (.d (aK ns ls2)),x7,x8,x9,some (.r (K+1)),x11,x12,x13,x14,x15,x16,x17,x18,x19,x20] (o :: R) from rfl) (S1:=o :: R) (items:=(List.range 6).map fun i=>Vl.d (.int (i:Nat))) (gd:=none) (by walk_at "mm";rfl)
  (fun i τ S'=>∃ (o':Ob) (R':Sto) (ts':List Tr) (y13 y14 y15 y16:Option Vl),τ=[x0,some (.r 0),x2,some (.d (aw wss)),some (.d (aK ns ls)),some (.d (aw vss)),some (.d (aK ns ls2)),x7,x8,x9,some (.r (K+1)),x11,x12,y13,y14,y15,y16,x17,x18,x19,x20]∧S'=o' :: R'∧Pen o'∧R'[K]?=some (.lst (ts'.map trD))∧(∀ t∈ts',okT 12 t)∧(∃ t0 r0,ts'=t0 :: r0∧okT 10 t0)∧(i % 2=1→∃ r1 t1,ts'=r1++[t1]∧okT 11 t1)∧ts'.length≤3+i)
  ⟨o,R,ts,_,_,_,_,rfl,rfl,hp,hK,fun t ht=>(ha t ht).up (by omega),by
   cases ts with | nil=>simp at hl | cons t r=>exact ⟨t,r,rfl,ha t (by simp)⟩,by simp,by omega⟩ (by
   rintro i z τ S' hz ⟨o',R',ts',y13,y14,y15,y16,rfl,rfl,hp',hK',ha',⟨t0,r0,e0,ok0⟩,hodd,hl'⟩
   obtain ⟨hi,rfl⟩:=kK hz
   have hKl:K < R'.length:=(List.getElem?_eq_some_iff.mp hK').1
   have sel:∃ (ix:Int) (t:Tr) (kk:Nat),atI [D.int 0,D.int ((ts'.length:Int) - 1)] ((i:Int) % 2)=some (D.int ix)∧atI (ts'.map trD) ix=some (trD t)∧okT kk t∧kk≤11∧((i+1) % 2=1→kk=10):=by
    by_cases hm:i % 2=1
    ·obtain ⟨r1,t1,e1,ok1⟩:=hodd hm
     refine ⟨(ts'.length:Int) - 1,t1,11,?_,?_,ok1,by omega,by omega⟩
     ·rw [show (i:Int) % 2=((1:Nat):Int) by omega];exact fF rfl
     ·rw [e1,show (((r1++[t1]).length:Int) - 1)=((r1.length:Nat):Int) by simp]
      exact fF (by simp)
    ·refine ⟨0,t0,10,?_,?_,ok0,by omega,fun _=>rfl⟩
     ·rw [show (i:Int) % 2=((0:Nat):Int) by omega];exact fF rfl
     ·rw [e0,show (0:Int)=((0:Nat):Int) from rfl]
      exact fF rfl
   obtain ⟨ix,t,kk,s1,s2,okk,k11,kev⟩:=sel
   have pl:=lY (t:=t) (by have:=okk.2;omega)
   have p1:1≤(bW t).length:=by cases t<;>simp [bW]
   obtain ⟨v,o1,v0,v1,hp1,e1⟩:=bI (R:=R') (m:=((bW t).length:Int)) hp' (by omega) (by omega)
   obtain ⟨pth,hpm,ep⟩:=qG (f:=ao) (c:=bW t) (i:=v) v0 v1
   have hv:=t7 hpm
   have hpl:=(fS t).2 pth hpm
   obtain ⟨t',o2,hp2,lf2,dp2,e2⟩:=Au (R:=R') (wss:=wss) (ls:=ls) (t:=fq t pth) (k:=kk) hp1 h4 gn (pL okk.1) (by omega)
   have okn:okT (kk+1) (fm t pth t'):=⟨qo lf2 (eI (by omega) okk.1),by have:=qE hv dp2;have:=okk.2;omega⟩
   have hlen:(o' :: R')[K+1]?=some (.lst (ts'.map trD)):=by simpa using hK'
   refine ⟨_,_,.nx,_,_,by walk_at "mx";rfl,by
    walk_at "mx"
    rw [ky hlen,List.length_map]
    walk_at "mm"
    erw [dH s1]
    erw [mI hlen s2]
    erw [lT t 40 _ (by have:=okk.2;omega) (by have:=okk.2;omega)]
    erw [List.length_map,e1]
    erw [dH ep]
    erw [hK']
    erw [zD hv]
    erw [e2]
    erw [oQ hv (by have:=okk.2;omega) (by have:=okk.2;omega)]
    erw [hK']
    erw [t9 (by rw [List.length_map];omega)]
    rfl,.inl rfl,True.intro,o2,R'.set K (.lst ((ts'++[fm t pth t']).map trD)),ts'++[fm t pth t'],_,_,_,_,rfl,?_,hp2,?_,?_,?_,?_,?_⟩
   ·rw [List.map_append];rfl
   ·rw [List.getElem?_set,if_pos rfl,if_pos hKl]
   ·intro u hu
    rcases List.mem_append.mp hu with z | z
    ·exact ha' u z
    ·rw [List.mem_singleton.mp z];exact okn.up (by omega)
   ·exact ⟨t0,r0++[fm t pth t'],by rw [e0];rfl,ok0⟩
   ·exact fun h=>⟨ts',_,rfl,by rw [kev h] at okn;exact okn⟩
   ·simp;omega)
 obtain ⟨τ',S',e,o',R',ts',y13,y14,y15,y16,rfl,rfl,hp',hK',ha',_,_,hl'⟩:=q
 exact ⟨o',R',ts',y13,y14,y15,y16,hp',hK',ha',by simp at hl';omega,e⟩
theorem BG {S:Sto} {b:Bool} {s w t:D} {a0 a1 a2 a3 a4 a5 a6 a7 a8 a9 a10 a11 a12 a13 a15 a16 a20:Option Vl} (e1:cY [.d s,.d w,.d t] S=.ok (.d (.bl b)) S) (e2:fh [.d s,.d w,.d t] S=.ok (.d (.bl b)) S):∃ y,oS [a0,a1,a2,a3,a4,a5,a6,a7,a8,a9,a10,a11,a12,a13,some (.d t),a15,a16,some (.d s),some (.d w),some (.d (.bl b)),a20] S=.ok (.nx,[a0,a1,a2,a3,a4,a5,a6,a7,a8,a9,a10,a11,a12,a13,some (.d t),a15,a16,some (.d s),some (.d w),some (.d (.bl b)),y]) S:=by
 obtain ⟨τ',S',e,y,rfl,rfl⟩:=fe (show _=oS [a0,a1,a2,a3,a4,a5,a6,a7,a8,a9,a10,a11,a12,a13,some (.d t),a15,a16,some (.d s),some (.d w),some (.d (.bl b)),a20] S from rfl) (S1:=S) (items:=[.d (.bl b),.d (.bl b)]) (gd:=none) (by walk_at "mx";rw [e1];walk_at "mx";rw [e2];walk_at "mx")
  (fun i τ S'=>∃ y:Option Vl,τ=[a0,a1,a2,a3,a4,a5,a6,a7,a8,a9,a10,a11,a12,a13,some (.d t),a15,a16,some (.d s),some (.d w),some (.d (.bl b)),y]∧S'=S) ⟨a20,rfl,rfl⟩ (by
   rintro i z τ S' hz ⟨y,rfl,rfl⟩
   have hz':z=.d (.bl b):=by
    rcases i with _ | _ | i
    ·exact (Option.some.inj hz).symm
    ·exact (Option.some.inj hz).symm
    ·simp at hz
   subst hz'
   exact ⟨_,_,.nx,_,_,by walk_at "mx";rfl,by
    walk_at "mx"
    erw [show isT "bool" (D.bl b)=true from rfl]
    rfl,.inl rfl,True.intro,_,rfl,rfl⟩)
 exact ⟨y,e⟩
theorem AR {S:Sto} {t:Tr} {wss vss:List (List Int)} {ns ls ls2:List Int} {a0 a1 a2 a7 a8 a9 a10 a11 a12 a13 a15 a16 a17 a18 a19 a20:Option Vl} (gs:bX 4 4 wss) (gv:bX 4 4 vss) (hv:vss.length=wss.length) (gn:bU wss.length ns) (gl:bM ns ls) (gl2:bM ns ls2) (ht:okT 12 t):∃ y17 y18 y19 y20,pJ [a0,a1,a2,some (.d (aw wss)),some (.d (aK ns ls)),some (.d (aw vss)),some (.d (aK ns ls2)),a7,a8,a9,a10,a11,a12,a13,some (.d (trD t)),a15,a16,a17,a18,a19,a20] S=.ok (.nx,[a0,a1,a2,some (.d (aw wss)),some (.d (aK ns ls)),some (.d (aw vss)),some (.d (aK ns ls2)),a7,a8,a9,a10,a11,a12,a13,some (.d (trD t)),a15,a16,y17,y18,y19,y20]) S:=by
 have one:∀ (p:List (List Int)×List Int) (S:Sto),p∈[(wss,ls),(vss,ls),(wss,ls2)]→bX 4 4 p.1∧bU p.1.length ns∧bM ns p.2:=fun p S hp=>by
  simp only [List.mem_cons,List.not_mem_nil,or_false] at hp
  rcases hp with rfl | rfl | rfl
  ·exact ⟨gs,gn,gl⟩
  ·exact ⟨gv,hv ▸ gn,gl⟩
  ·exact ⟨gs,gn,gl2⟩
 obtain ⟨τ',S',e,y17,y18,y19,y20,rfl,rfl⟩:=fe (show _=pJ [a0,a1,a2,some (.d (aw wss)),some (.d (aK ns ls)),some (.d (aw vss)),some (.d (aK ns ls2)),a7,a8,a9,a10,a11,a12,a13,some (.d (trD t)),a15,a16,a17,a18,a19,a20] S from rfl) (S1:=S) (items:=[(wss,ls),(vss,ls),(wss,ls2)].map fun p=>Vl.d (.tup [aw p.1,aK ns p.2])) (gd:=none) (by walk_at "mx")
  (fun i τ S'=>∃ y17 y18 y19 y20:Option Vl,τ=[a0,a1,a2,some (.d (aw wss)),some (.d (aK ns ls)),some (.d (aw vss)),some (.d (aK ns ls2)),a7,a8,a9,a10,a11,a12,a13,some (.d (trD t)),a15,a16,y17,y18,y19,y20]∧S'=S) ⟨_,_,_,_,rfl,rfl⟩ (by
   rintro i z τ S' hz ⟨y17,y18,y19,y20,rfl,rfl⟩
   rw [List.getElem?_map] at hz
   cases q:([(wss,ls),(vss,ls),(wss,ls2)]:List (List (List Int)×List Int))[i]? with
   | none=>rw [q] at hz;cases hz
   | some p=>
    rw [q] at hz
    cases hz
    obtain ⟨g1,g2,g3⟩:=one p S' (List.mem_of_getElem? q)
    have h4:=g1.le
    have lf:=eI (j:=60) (by omega) ht.1
    have dp:=ht.2
    have eA:=qp (S:=S') (told:=[]) (f:=40) g1 (by omega) g2 g3 (t:=t) (by omega) (by simp;omega) lf
    rw [show ([]:Se).map prD=[] from rfl] at eA
    obtain ⟨y,eB⟩:=BG (S:=S') (b:=trB (bA p.1) (lnH ns p.2) ns [] t) (s:=aw p.1) (w:=aK ns p.2) (t:=trD t) (a0:=a0) (a1:=a1) (a2:=a2) (a3:=some (.d (aw wss))) (a4:=some (.d (aK ns ls))) (a5:=some (.d (aw vss))) (a6:=some (.d (aK ns ls2))) (a7:=a7) (a8:=a8) (a9:=a9) (a10:=a10) (a11:=a11) (a12:=a12) (a13:=a13) (a15:=a15) (a16:=a16) (a20:=y20) (kC g1 (by decide) (by decide) g2 g3 (by omega) lf) (sJ g1 (by decide) (by decide) g2 g3 (by omega) lf)
    exact ⟨_,_,.nx,_,_,by walk_at "mx";rfl,by
     walk_at "mx"
     erw [eA]
     rw [eB],.inl rfl,True.intro,_,_,_,_,rfl,rfl⟩)
 exact ⟨_,_,_,_,e⟩
theorem CS {S:Sto} {k:Nat} {ts:List Tr} {wss vss:List (List Int)} {ns ls ls2:List Int} {a0 a1 a2 a7 a8 a9 a11 a12 a13 a14 a15 a16 a17 a18 a19 a20:Option Vl} (gs:bX 4 4 wss) (gv:bX 4 4 vss) (hv:vss.length=wss.length) (gn:bU wss.length ns) (gl:bM ns ls) (gl2:bM ns ls2) (hk:S[k]?=some (.lst (ts.map trD))) (ht:∀ t∈ts,okT 12 t):∃ y14 y17 y18 y19 y20,l_ [a0,a1,a2,some (.d (aw wss)),some (.d (aK ns ls)),some (.d (aw vss)),some (.d (aK ns ls2)),a7,a8,a9,some (.r k),a11,a12,a13,a14,a15,a16,a17,a18,a19,a20] S=.ok (.nx,[a0,a1,a2,some (.d (aw wss)),some (.d (aK ns ls)),some (.d (aw vss)),some (.d (aK ns ls2)),a7,a8,a9,some (.r k),a11,a12,a13,y14,a15,a16,y17,y18,y19,y20]) S:=by
 obtain ⟨τ',S',e,y14,y17,y18,y19,y20,rfl,rfl⟩:=fe (show _=l_ [a0,a1,a2,some (.d (aw wss)),some (.d (aK ns ls)),some (.d (aw vss)),some (.d (aK ns ls2)),a7,a8,a9,some (.r k),a11,a12,a13,a14,a15,a16,a17,a18,a19,a20] S from rfl) (S1:=S) (items:=(ts.map trD).map Vl.d) (gd:=some (k,.lst (ts.map trD))) (F8 (by walk_at "mx") hk)
  (fun i τ S'=>∃ y14 y17 y18 y19 y20:Option Vl,τ=[a0,a1,a2,some (.d (aw wss)),some (.d (aK ns ls)),some (.d (aw vss)),some (.d (aK ns ls2)),a7,a8,a9,some (.r k),a11,a12,a13,y14,a15,a16,y17,y18,y19,y20]∧S'=S) ⟨_,_,_,_,_,rfl,rfl⟩ (by
   rintro i z τ S' hz ⟨y14,y17,y18,y19,y20,rfl,rfl⟩
   rw [List.getElem?_map,List.getElem?_map] at hz
   cases q:ts[i]? with
   | none=>rw [q] at hz;cases hz
   | some t=>
    rw [q] at hz
    cases hz
    obtain ⟨z17,z18,z19,z20,eB⟩:=AR (S:=S') (a0:=a0) (a1:=a1) (a2:=a2) (a7:=a7) (a8:=a8) (a9:=a9) (a10:=some (.r k)) (a11:=a11) (a12:=a12) (a13:=a13) (a15:=a15) (a16:=a16) (a17:=y17) (a18:=y18) (a19:=y19) (a20:=y20) gs gv hv gn gl gl2 (ht t (List.mem_of_getElem? q))
    exact ⟨_,_,.nx,_,_,by walk_at "mx",eB,.inl rfl,hk,_,_,_,_,_,rfl,rfl⟩)
 exact ⟨_,_,_,_,_,e⟩
theorem wM {o:Ob} {R:Sto} {ns ls:List Int} {a0 a2 a3 a5 a6 a8 a9 a10 a11 a12 a13 a14 a15 a16 a17 a18 a19 a20:Option Vl} (hp:Pen o) (hn:ns.length≤4):∃ (o':Ob) (os left:List Int),Pen o'∧os.length=ns.length∧oW [a0,some (.r 0),a2,a3,some (.d (aK ns ls)),a5,a6,some (.r (R.length+1)),a8,a9,a10,a11,a12,a13,a14,a15,a16,a17,a18,a19,a20] (o :: (R++[.lst (ns.map D.int)]))=.ok (.d (.lst (os.map D.int))) (o' :: (R++[.lst (left.map D.int)])):=by
 obtain ⟨acc,Q,e4,hl,o3,os,left,hp3,rfl,rfl,hw,hlen⟩:=kB (show _=oW [a0,some (.r 0),a2,a3,some (.d (aK ns ls)),a5,a6,some (.r (R.length+1)),a8,a9,a10,a11,a12,a13,a14,a15,a16,a17,a18,a19,a20] (o :: (R++[.lst (ns.map D.int)])) from rfl) (S1:=o :: (R++[.lst (ns.map D.int)])) (items:=(ns.map D.int).map Vl.d) (by
   walk_at "mx"
   rw [cA]
   unfold ao
   walk_at "mx")
  (fun i acc Q=>∃ (o':Ob) (os left:List Int),Pen o'∧acc=os.map D.int∧Q=o' :: (R++[.lst (left.map D.int)])∧os.length=i∧left.length+i=ns.length) ⟨o,[],ns,hp,rfl,rfl,rfl,by omega⟩ (by
   rintro i z acc Q hz ⟨o',os,left,hp',rfl,rfl,hw,hlen⟩ _
   have hi:i < ns.length:=by simpa using (List.getElem?_eq_some_iff.mp hz).1
   obtain ⟨c,o3,c0,c1,hp3,e3⟩:=bI (R:=R++[.lst (left.map D.int),.lst (os.map D.int)]) (m:=(left.length:Int)) hp' (by omega) (by omega)
   have hc:c.toNat < left.length:=by omega
   have hge:(left.map D.int)[c.toNat]?=some (.int left[c.toNat]):=by rw [List.getElem?_map,List.getElem?_eq_getElem hc];rfl
   refine ⟨.int left[c.toNat],o3 :: (R++[.lst ((left.eraseIdx c.toNat).map D.int)]),?_,by simp,o3,os++[left[c.toNat]],left.eraseIdx c.toNat,hp3,gO.symm,rfl,by simp [hw],?_⟩
   ·walk_at "mx"
    erw [show (R++[Ob.lst (left.map D.int)]++[Ob.lst (os.map D.int)])=R++[.lst (left.map D.int),.lst (os.map D.int)] by simp]
    erw [ky (xs:=left.map D.int) (by simp),List.length_map]
    erw [e3]
    erw [yu ⟨c0,by omega⟩ hge]
    rw [kD]
    simp
   ·rw [List.length_eraseIdx_of_lt hc];omega)
 refine ⟨o3,os,left,hp3,?_,e4⟩
 rw [hw]
 simp
theorem vg {ns ls:List Int} {k:Nat} (gn:bU k ns) (gl:bM ns ls) (hk:k≤4):∃ ls2,bM ns ls2∧∀ (S:Sto) (a0 a1 a2 a3 a5 a6 a7 a8 a9 a10 a11 a12 a13 a14 a15 a16 a17 a18 a19 a20:Option Vl),p_ [a0,a1,a2,a3,some (.d (aK ns ls)),a5,a6,a7,a8,a9,a10,a11,a12,a13,a14,a15,a16,a17,a18,a19,a20] S=.ok (.d (.lst (ls2.map D.int))) S:=by
 have hn:=gn.le
 have hl:=gl.len
 refine ⟨ls.map fun l=>1+l % 4,⟨by rw [List.length_map,hl],fun l h=>?_⟩,?_⟩
 ·obtain ⟨x,hx,rfl⟩:=List.mem_map.mp h
  omega
 ·intro S a0 a1 a2 a3 a5 a6 a7 a8 a9 a10 a11 a12 a13 a14 a15 a16 a17 a18 a19 a20
  rw [eP (show _=p_ [a0,a1,a2,a3,some (.d (aK ns ls)),a5,a6,a7,a8,a9,a10,a11,a12,a13,a14,a15,a16,a17,a18,a19,a20] S from rfl) (d:=D.int) (g:=fun l=>D.int (1+l % 4)) (xs:=ls) (S1:=S) (by
   walk_at "mx"
   rw [mL]
   unfold ao
   walk_at "mx"
   rw [dJ]) (fun _=>true) (fun _ _ _=>rfl) (fun l _ _ S=>by walk_at "mm"),List.filter_eq_self.mpr (fun _ _=>rfl),List.map_map]
  rfl
theorem p8 {W:Int→List Int} {L:Int→Int} {ns:List Int}:∀ {t:Tr} {told:Se},trR W L ns told t→lfT ns.length t
 | .late o,_,h=>h.2.1.length_le_of_subset (l₂:=ns) (fun x hx=>h.2.2.1 x hx)
 | .first _ _ _ _,_,h=>⟨p8 h.2.2.2.1,p8 h.2.2.2.2⟩
theorem uK {ns ls:List Int} {S:Sto}:oSl (.d (aK ns ls)) none (some 2) S=.ok (.d (.tup [.str "hand",ao ns])) S:=by
 unfold aK
 rw [oK,show (some (2:Int))=some ((2:Nat):Int) from rfl,dh]
 rfl
theorem rO {ns ls:List Int} {S:Sto}:aD (.d (.tup [.str "hand",ao ns])) (.d (.tup [.tup (ls.map D.int)])) S=.ok (.d (aK ns ls)) S:=by
 rw [fO (by simp)]
 rfl
theorem nB {ns:List Int} {S:Sto}:gQ [.d (ao ns)] S=.ok (.r S.length) (S++[.lst (ns.map D.int)]):=by
 unfold ao
 rw [rN]
theorem xP (ns:List Int):sQ [.sc ns] []=.ok (.d (.bl true)) []:=by
 unfold sQ
 rw [cn]
 unfold vR
 obtain ⟨o,hp,e0⟩:=zw ns
 walk_at "mx"
 erw [e0]
 obtain ⟨τ',S',e,o',R,y2,y3,y4,y5,y6,y7,y8,y9,y10,y11,y12,y13,y14,y15,y16,y17,y18,y19,y20,hp',rfl,rfl⟩:=fe (show _=uh [some (.sc ns),some (.r 0),none,none,none,none,none,none,none,none,none,none,none,none,none,none,none,none,none,none,none] [o] from rfl) (S1:=[o]) (items:=(List.range 6).map fun i=>Vl.d (.int (i:Nat))) (gd:=none) (by walk_at "mm";rfl)
  (fun i τ S'=>∃ (o':Ob) (R:Sto) (y2 y3 y4 y5 y6 y7 y8 y9 y10 y11 y12 y13 y14 y15 y16 y17 y18 y19 y20:Option Vl),Pen o'∧τ=[some (.sc ns),some (.r 0),y2,y3,y4,y5,y6,y7,y8,y9,y10,y11,y12,y13,y14,y15,y16,y17,y18,y19,y20]∧S'=o' :: R) ⟨o,[],none,none,none,none,none,none,none,none,none,none,none,none,none,none,none,none,none,none,none,hp,rfl,rfl⟩ (by
   rintro i z τ S' hz ⟨o',R,y2,y3,y4,y5,y6,y7,y8,y9,y10,y11,y12,y13,y14,y15,y16,y17,y18,y19,y20,hp',rfl,rfl⟩
   obtain ⟨hi,rfl⟩:=kK hz
   obtain ⟨o1,hp1,e1⟩:=zY (R:=R) hp'
   obtain ⟨c,ec,hcm⟩:=fG (ns:=[2,3,1]) (i:=(i:Int) % 3) (by omega) (by simp;omega)
   have hc:0 < c∧c≤4:=by
    simp only [List.mem_cons,List.not_mem_nil,or_false] at hcm
    rcases hcm with rfl | rfl | rfl<;>decide
   obtain ⟨wss,o2,gs,hp2,e2⟩:=wX (R:=R) (names:=4) (most:=c) hp1 (by decide) (by decide) hc.1 (by omega)
   have gs4:=si gs (by decide) hc.2
   have hl4:=gs4.le
   have hw4:wss.length≤4:=by omega
   obtain ⟨k1,l1,o3,gn,gl,hp3,e3⟩:=tB (R:=R) (wss:=wss) hp2 gs.pos (by omega)
   obtain ⟨vss,o4,gv,hv,hp4,e4⟩:=um (R:=R) (wss:=wss) hp3 gs.pos (by omega)
   have gv4:=si gv (by omega) (by decide)
   have hkl:=gn.le
   rw [show List.map D.int [2,3,1]=[D.int 2,D.int 3,D.int 1] from rfl] at ec
   obtain ⟨l2,gl2,eS⟩:=vg gn gl hw4
   obtain ⟨o5,os,left,hp5,hos,e5⟩:=wM (R:=R) (ls:=l1) (a0:=some (.sc ns)) (a2:=some (.d (.int (i:Int)))) (a3:=some (.d (aw wss))) (a5:=some (.d (aw vss))) (a6:=some (.d (aK k1 l2))) (a8:=y8) (a9:=y9) (a10:=y10) (a11:=y11) (a12:=y12) (a13:=y13) (a14:=y14) (a15:=y15) (a16:=y16) (a17:=y17) (a18:=y18) (a19:=y19) (a20:=y20) hp4 (show k1.length≤4 by omega)
   obtain ⟨R1,hR1⟩:∃ R1,R1=R++[.lst (left.map D.int)]:=⟨_,rfl⟩
   rw [← hR1] at e5
   obtain ⟨v,o6,v0,v1,hp6,e6⟩:=bI (R:=R1) (m:=3) hp5 (by decide) (by decide)
   obtain ⟨t1,lf1,dp1,e7⟩:=xt (early:=decide (v > 0)) gs4 hw4 gn gl 40 [] os 0 (o6 :: R1) (by simp;omega) (Nat.zero_le _) (by simp;omega)
   have ok1:okT 10 t1:=⟨eI (by omega) lf1,by
    have hb:∀ l:Nat,l≤4→bS l 0≤6:=by decide
    cases os with
    | nil=>simp at dp1;omega
    | cons a l=>
     have:=hb (l.length+1) (by simp at hos;omega)
     simp only [bS,List.length_nil] at this dp1
     omega⟩
   have okn:okT 10 (.late k1):=⟨by unfold lfT;omega,by simp [dpT]⟩
   rw [show ((0:Nat):Int)=0 from rfl,show ([]:List Int).map D.int=[] from rfl] at e7
   obtain ⟨xx,hres,e8⟩:=rm (S:=o6 :: (R1++[.lst [trD t1,trD (.late k1)]])) gs4 (by decide) (by decide) gn gl
   have main:∀ (wd:Str) (yd:D) (ts:List Tr),(∀ t∈ts,okT 10 t)→1≤ts.length∧ts.length≤3→∃ (o7:Ob) (R7:Sto) (w13 w14 w15 w16 w17 w18 w19 w20:Option Vl),Pen o7∧(av mJ l_) [some (.sc ns),some (.r 0),some (.d (.int (i:Int))),some (.d (aw wss)),some (.d (aK k1 l1)),some (.d (aw vss)),some (.d (aK k1 l2)),some (.r (R.length+1)),some (.d (.lst (os.map D.int))),some (.d (trD t1)),some (.r (R1.length+1)),some (.d (.str wd)),some (.d yd),y13,y14,y15,y16,y17,y18,y19,y20] (o6 :: (R1++[.lst (ts.map trD)]))=.ok (.nx,[some (.sc ns),some (.r 0),some (.d (.int (i:Int))),some (.d (aw wss)),some (.d (aK k1 l1)),some (.d (aw vss)),some (.d (aK k1 l2)),some (.r (R.length+1)),some (.d (.lst (os.map D.int))),some (.d (trD t1)),some (.r (R1.length+1)),some (.d (.str wd)),some (.d yd),w13,w14,w15,w16,w17,w18,w19,w20]) (o7 :: R7):=by
    intro wd yd ts hts hln
    obtain ⟨o7,R7,ts',z13,z14,z15,z16,hp7,hK7,hts',hl7,e9⟩:=zv (o:=o6) (R:=R1++[.lst (ts.map trD)]) (K:=R1.length) (ts:=ts) (wss:=wss) (vss:=vss) (ns:=k1) (ls:=l1) (ls2:=l2) (x0:=some (.sc ns)) (x2:=some (.d (.int (i:Int)))) (x7:=some (.r (R.length+1))) (x8:=some (.d (.lst (os.map D.int)))) (x9:=some (.d (trD t1))) (x11:=some (.d (.str wd))) (x12:=some (.d yd)) (x13:=y13) (x14:=y14) (x15:=y15) (x16:=y16) (x17:=y17) (x18:=y18) (x19:=y19) (x20:=y20) hp6 hw4 gn (by simp) hts hln
    obtain ⟨w14,w17,w18,w19,w20,e10⟩:=CS (S:=o7 :: R7) (k:=R1.length+1) (ts:=ts') (a0:=some (.sc ns)) (a1:=some (.r 0)) (a2:=some (.d (.int (i:Int)))) (a7:=some (.r (R.length+1))) (a8:=some (.d (.lst (os.map D.int)))) (a9:=some (.d (trD t1))) (a11:=some (.d (.str wd))) (a12:=some (.d yd)) (a13:=z13) (a14:=z14) (a15:=z15) (a16:=z16) (a17:=y17) (a18:=y18) (a19:=y19) (a20:=y20) gs4 gv4 hv gn gl gl2 (by simpa using hK7) hts'
    refine ⟨o7,R7,z13,w14,z15,z16,w17,w18,w19,w20,hp7,?_⟩
    rw [iJ,e9,iA,e10]
   rcases hres with ⟨B,_,rfl⟩ | ⟨t,ht,hd,rfl⟩
   ·obtain ⟨o7,R7,w13,w14,w15,w16,w17,w18,w19,w20,hp7,eM⟩:=main "can" (ao (mx wss B)) [t1,.late k1] (by
     intro t ht
     simp only [List.mem_cons,List.not_mem_nil,or_false] at ht
     rcases ht with rfl | rfl
     ·exact ok1
     ·exact okn) (by simp)
    rw [iJ] at eM
    exact ⟨_,_,.nx,_,_,by walk_at "mx";rfl,by
     walk_at "mx"
     rw [e1]
     walk_at "mm"
     erw [dH ec]
     erw [e2]
     erw [e3]
     erw [e4]
     erw [uK]
     erw [eS]
     erw [rO]
     erw [cA]
     erw [nB]
     erw [e5]
     erw [e6]
     erw [e7]
     erw [cA]
     erw [show D.tup [.str "late",ao k1]=trD (.late k1) from rfl,e8]
     erw [show decide ((Str.ofString "can":Str)=Str.ofString "no")=false by decide +kernel]
     exact eM,.inl rfl,True.intro,o7,R7,_,_,_,_,_,_,_,_,_,_,_,_,_,_,_,_,_,_,_,hp7,rfl,rfl⟩
   ·have okt:okT 10 t:=⟨eI (by omega) (p8 ht),hd⟩
    obtain ⟨o7,R7,w13,w14,w15,w16,w17,w18,w19,w20,hp7,eM⟩:=main "no" (trD t) [t1,.late k1,t] (by
     intro t ht
     simp only [List.mem_cons,List.not_mem_nil,or_false] at ht
     rcases ht with rfl | rfl | rfl
     ·exact ok1
     ·exact okn
     ·exact okt) (by simp)
    rw [iJ] at eM
    exact ⟨_,_,.nx,_,_,by walk_at "mx";rfl,by
     walk_at "mx"
     rw [e1]
     walk_at "mm"
     erw [dH ec]
     erw [e2]
     erw [e3]
     erw [e4]
     erw [uK]
     erw [eS]
     erw [rO]
     erw [cA]
     erw [nB]
     erw [e5]
     erw [e6]
     erw [e7]
     erw [cA]
     erw [show D.tup [.str "late",ao k1]=trD (.late k1) from rfl,e8]
     erw [t9 (by simp)]
     exact eM,.inl rfl,True.intro,o7,R7,_,_,_,_,_,_,_,_,_,_,_,_,_,_,_,_,_,_,_,hp7,rfl,rfl⟩)
 erw [e]
 rw [dE]
 rfl
def top (i:Nat):Stmt:=PySem.Challenge.pw_wishstrike_k31_which_trees_of_orders.main.body.getD i (.Pass ⟨0,0,0,0⟩)
structure Txt (K:PySem.W.Frag) (mg:Str→Option Value):Prop where
 is_whole:Df K mg "is_whole" (top 1)
 is_within:Df K mg "is_within" (top 2)
 are_within:Df K mg "are_within" (top 3)
 are_rising:Df K mg "are_rising" (top 4)
 are_unlike:Df K mg "are_unlike" (top 5)
 are_names:Df K mg "are_names" (top 8)
 is_hand:Df K mg "is_hand" (top 16)
 is_of_its_kind:Df K mg "is_of_its_kind" (top 17)
 are_worths:Df K mg "are_worths" (top 23)
 is_stand:Df K mg "is_stand" (top 24)
 is_wish:Df K mg "is_wish" (top 25)
 filling_with:Df K mg "filling_with" (top 26)
 is_wish_of:Df K mg "is_wish_of" (top 27)
 need_stand:Df K mg "need_stand" (top 28)
 need_wish:Df K mg "need_wish" (top 29)
 need:Df K mg "need" (top 30)
 need_kind:Df K mg "need_kind" (top 31)
 lengths_of:Df K mg "lengths_of" (top 33)
 begins_in:Df K mg "begins_in" (top 34)
 told_of_order:Df K mg "told_of_order" (top 35)
 told_of_places:Df K mg "told_of_places" (top 36)
 hand_can:Df K mg "hand_can" (top 37)
 is_right_leaf:Df K mg "is_right_leaf" (top 38)
 is_right_split:Df K mg "is_right_split" (top 39)
 is_right_tree:Df K mg "is_right_tree" (top 40)
 hand_paper:Df K mg "hand_paper" (top 41)
 is_paper:Df K mg "is_paper" (top 65)
 l_spread:Df K mg "_law_spread" (top 67)
 l_open:Df K mg "_law_open" (top 68)
 l_anew:Df K mg "_law_anew" (top 69)
 l_take:Df K mg "_law_take" (top 70)
 l_worths:Df K mg "_law_worths" (top 71)
 l_stand:Df K mg "_law_stand" (top 72)
 l_some_names:Df K mg "_law_some_names" (top 73)
 l_wish_of:Df K mg "_law_wish_of" (top 77)
 l_late:Df K mg "_law_late" (top 78)
 l_hand_right:Df K mg "_law_hand_right" (top 79)
 l_leaf:Df K mg "_law_leaf" (top 80)
 l_grown:Df K mg "_law_grown" (top 81)
 l_paths_of:Df K mg "_law_paths_of" (top 82)
 l_part_of:Df K mg "_law_part_of" (top 83)
 l_put_to:Df K mg "_law_put_to" (top 84)
 l_bent_part:Df K mg "_law_bent_part" (top 85)
 l_beside:Df K mg "_law_beside" (top 86)
 law:Df K mg "law" (top 87)
 z_all:mg "all"=none
 z_any:mg "any"=none
 z_bool:mg "bool"=none
 z_dict:mg "dict"=none
 z_enumerate:mg "enumerate"=none
 z_int:mg "int"=none
 z_isinstance:mg "isinstance"=none
 z_len:mg "len"=none
 z_list:mg "list"=none
 z_max:mg "max"=none
 z_min:mg "min"=none
 z_range:mg "range"=none
 z_set:mg "set"=none
 z_sorted:mg "sorted"=none
 z_sum:mg "sum"=none
 z_tuple:mg "tuple"=none
 z_zip:mg "zip"=none
theorem fQ:bootBuiltins "all"=some (.builtin "all"):=by decide +kernel
theorem rG:bootBuiltins "bool"=some (.type "bool"):=by decide +kernel
theorem rS:bootBuiltins "dict"=some (.type "dict"):=by decide +kernel
theorem CD:bootBuiltins "int"=some (.type "int"):=by decide +kernel
theorem bq:bootBuiltins "len"=some (.builtin "len"):=by decide +kernel
theorem kJ:bootBuiltins "list"=some (.type "list"):=by decide +kernel
theorem u5:bootBuiltins "set"=some (.type "set"):=by decide +kernel
theorem uC:bootBuiltins "sorted"=some (.builtin "sorted"):=by decide +kernel
theorem b5:bootBuiltins "tuple"=some (.type "tuple"):=by decide +kernel
theorem qc:bootBuiltins "zip"=some (.type "zip"):=by decide +kernel
section
variable {P:Program} {w:World} {K:PySem.W.Frag} {mg:Str→Option Value}
theorem vp (T:Txt K mg):OkE P w K mg 1 "_law_open" ["script"] jq:=by
 refine bj ["script","cells","k","cell"] T.l_open fun _ _ _ _ _ _ _ _ hr q=>?_
 exact (ak (aJ q (cu mw mG T.z_list kJ (ae (uy (rv 0) a_ (aV af)) ah)))
 (ak (dg (wG rfl T.z_enumerate (uy (rv 0) (aV af) (aV af))) (jX (cO (aU q) (cO (aU q) iO))) (au (gX (aA aF aG (az (rv 1) (aA cV (bV _) (rv 2) af)) (rv 3)) (jQ (rv 1) (aA cV (bV _) (rv 2) af) mi iK))))
 (au (aB (k6 (ae (mm (rv 1)) (ae af (ae af ah))))))))
theorem qZ (T:Txt K mg):OkE P w K mg 1 "_law_spread" ["cell","at"] eX:=by
 refine bj ["cell","at","one","two","three"] T.l_spread fun _ _ _ _ _ _ _ _ hr q=>?_
 exact (ak (aX (aN sW (bQ _) (rv 0) (aA pf (bV _) af af)) (au (aB (rv 0))) aO)
 (ak (aJ q (aA cV (bV _) (aA aF aG (aA aF aG (aA fg (bV _) (aA cV (bV _) (rv 0) af) af) (aA fg (bV _) (rv 1) af)) af) af))
 (ak (aJ q (aA cV (bV _) (aA aF aG (aA aF aG (aA fg (bV _) (rv 2) (rv 2)) (aA fg (bV _) (rv 1) af)) (aA cV (bV _) (rv 0) af)) af))
 (ak (aJ q (aA cV (bV _) (aA aF aG (aA aF aG (aA fg (bV _) (rv 3) (rv 3)) (aA fg (bV _) (rv 2) af)) af) af))
 (au (aB (aA aF aG (aA fg (bV _) (aA aF aG (aA fg (bV _) (rv 2) af) (rv 3)) af) (rv 4))))))))
theorem bu (T:Txt K mg):OkE P w K mg 2 "_law_take" ["pen","many"] aZ:=by
 refine bj ["pen","many","at","cell","found"] T.l_take fun _ _ _ _ _ _ _ _ hr q=>?_
 exact (ak (aX (aN il (bQ _) (az (rv 0) af) (rv 1)) (ak (aJ q (az (rv 0) af))
 (ak (aJ q af)
 (ak (aX (aN il (bQ _) (rv 2) (aM aR aY T.z_len bq (ae (az (rv 0) af) ah))) (au (aJ q (az (az (rv 0) af) (rv 2)))) (au (aX (aN sY (bQ _) (aM aR aY T.z_len bq (ae (az (rv 0) af) ah)) af) (au (aJ q (aA cV (bV _) (az (az (rv 0) af) (aA cV (bV _) (aA aF aG (aA fg (bV _) (rv 2) af) af) (aM aR aY T.z_len bq (ae (az (rv 0) af) ah)))) (aA aF aG (aA pf (bV _) af af) (rv 2))))) aO)))
 (ak (gX (aA aF aG (rv 2) af) (jQ (rv 0) af mi iK))
 (au (gX (aq (qZ T) hr (ae (rv 3) (ae (rv 2) ah))) (jQ (rv 0) af mi iK))))))) aO)
 (ak (aJ q (aA cV (bV _) (az (rv 0) af) (rv 1)))
 (ak (gX (aA Ar (bV _) (az (rv 0) af) (rv 1)) (jQ (rv 0) af mi iK))
 (au (aB (rv 4))))))
theorem lB (T:Txt K mg):OkE P w K mg 3 "_law_worths" ["pen","most","near"] eR:=by
 refine bj ["pen","most","near","found","k","worth"] T.l_worths fun _ _ _ _ _ _ _ _ hr q=>?_
 have hu:=hr.units
 exact (ak (aJ q (k6 ah))
 (ak (dg (eK rfl T.z_range (ae (aA aF aG af (aq (bu T) hr (ae (rv 0) (ae (rv 1) ah)))) ah)) (aU q) (ak (aJ q (aA aF aG (rv 2) (aq (bu T) hr (ae (rv 0) (ae af ah)))))
 (ak (aX (aN (bh hu) bf (aq (bu T) hr (ae (rv 0) (ae af ah))) af) (au (aJ q (aA ib (gS _) (aq (bu T) hr (ae (rv 0) (ae af ah))) af))) aO)
 (au (aX (aN (gE hu) gC (rv 5) (rv 3)) (au (di (pM (rv 3) (rv 5)))) aO)))))
 (au (aB (cu cg cz T.z_tuple b5 (ae (aM tJ vv T.z_sorted uC (ae (rv 3) ah)) ah))))))
theorem tZ (T:Txt K mg):OkE P w K mg 4 "_law_stand" ["pen","names","most"] iw:=by
 refine bj ["pen","names","most","near"] T.l_stand fun _ _ _ _ _ _ _ _ hr q=>?_
 refine' (ak (aJ q (aA ib (gS _) (aq (bu T) hr (ae (rv 0) (ae af ah))) af))
 (au (aB (cu cg cz T.z_tuple b5 (ae (c8 b8 ["name","pen","names","most","near"] q (eK rfl T.z_range (ae (aA aF aG af (aq (bu T) hr (ae (rv 0) (ae (rv 1) ah)))) ah)) ?g0 rt0 ?e0) ah)))))
 (case g0=>intro _ _ _ _ q;exact (aU q))
 (case e0=>intro _ _ _ _;exact (aq (lB T) hr (ae (rv 1) (ae (rv 3) (ae (rv 4) ah)))))
theorem uj (T:Txt K mg):OkE P w K mg 1 "_law_anew" ["pen"] jk:=by
 refine bj ["pen"] T.l_anew fun _ _ _ _ _ _ _ _ hr q=>?_
 exact (ak (gX af (jQ (rv 0) af mi iK))
 (au (aB (rv 0))))
theorem l9 (T:Txt K mg):OkE P w K mg 3 "_law_some_names" ["pen","stand"] dM:=by
 refine bj ["pen","stand","left","many"] T.l_some_names fun _ _ _ _ _ _ _ _ hr q=>?_
 refine' (ak (aJ q (oi rfl rfl T.z_list rfl T.z_range kJ (ae (aM aR aY T.z_len bq (ae (rv 1) ah)) ah)))
 (ak (aJ q (aA aF aG af (aq (bu T) hr (ae (rv 0) (ae (aM aR aY T.z_len bq (ae (rv 2) ah)) ah)))))
 (ak (aX (aN sY (bQ _) (aq (bu T) hr (ae (rv 0) (ae af ah))) af) (au (aJ q (aM aR aY T.z_len bq (ae (rv 2) ah)))) aO)
 (au (aB (cu cg cz T.z_tuple b5 (ae (c8 b8 ["k","pen","stand","left","many"] q (eK rfl T.z_range (ae (rv 3) ah)) ?g0 rt0 ?e0) ah)))))))
 (case g0=>intro _ _ _ _ q;exact (aU q))
 (case e0=>intro _ _ _ _;exact (tY PySem.F.slot_list_pop PySem.F.type_list_pop qz qJ (rv 3) (aq (bu T) hr (ae (rv 1) (ae (aM aR aY T.z_len bq (ae (rv 3) ah)) ah)))))
theorem pD (T:Txt K mg):OkE P w K mg 4 "_law_wish_of" ["pen","stand","kind"] fL:=by
 refine bj ["pen","stand","kind","names","weights","total","name","weight","low","high","ends"] T.l_wish_of fun _ _ _ _ _ _ _ _ hr q=>?_
 have hu:=hr.units
 refine' (ak (aJ q (aq (l9 T) hr (ae (rv 0) (ae (rv 1) ah))))
 (ak (aX (aN (bh hu) bf (rv 2) af) bC aO)
 (ak (aX (aN (bh hu) bf (rv 2) af) bC aO)
 (ak (aX (aN (bh hu) bf (rv 2) af) bC aO)
 (ak (aX (aN (bh hu) bf (rv 2) af) bC aO)
 (au (aB (br (ae bp (ae (rv 3) (ae (cu cg cz T.z_tuple b5 (ae (c8 b8 ["name","pen","stand","kind","names","weights","total","~6","weight","low","high","ends"] q (b6 (rv 3)) ?g0 rt0 ?e0) ah)) ah)))))))))))
 (case g0=>intro _ _ _ _ q;exact (aU q))
 (case e0=>intro _ _ _ _;exact (aA aF aG af (aq (bu T) hr (ae (rv 1) (ae (az (bP (ae af (ae af ah))) (aq (bu T) hr (ae (rv 1) (ae af ah)))) ah)))))
theorem qR (T:Txt K mg):OkE P w K mg 4 "_law_beside" ["pen","stand"] gz:=by
 refine bj ["pen","stand","near"] T.l_beside fun _ _ _ _ _ _ _ _ hr q=>?_
 refine' (ak (aJ q (aA ib (gS _) (aq (bu T) hr (ae (rv 0) (ae af ah))) af))
 (au (aB (cu cg cz T.z_tuple b5 (ae (c8 b8 ["name","pen","stand","near"] q (b6 (rv 1)) ?g0 rt0 ?e0) ah)))))
 (case g0=>intro _ _ _ _ q;exact (aU q))
 (case e0=>intro _ _ _ _;exact (aq (lB T) hr (ae (rv 1) (ae af (ae (rv 3) ah)))))
theorem nA (T:Txt K mg):OkE P w K mg 1 "_law_late" ["stand","wish","some","told"] gT:=by
 refine bj ["stand","wish","some","told","lengths","free","name","begins"] T.l_late fun _ _ _ _ _ _ _ _ hr q=>?_
 have hu:=hr.units
 refine' (ak (aJ q (mm (mN rfl rfl T.z_dict rfl T.z_zip rS qc (ae (az (rv 1) af) (ae (az (rv 1) af) ah)))))
 (ak (aX (RW.rt (du (aN il (bQ _) (aM aR aY T.z_len bq (ae (rv 2) ah)) af) (du (aN il (bQ _) (yw rfl rfl T.z_len rfl T.z_set bq u5 (rv 2)) (aM aR aY T.z_len bq (ae (rv 2) ah))) (dZ (cw (b9 (aM (c5 rfl) dw T.z_all fQ (ae (c8 b8 ["name","stand","wish","some","told","lengths","free","~6","begins"] q (b6 (rv 2)) ?g0 rt0 ?e0) ah)))))))) (au (aB cR)) aO)
 (ak (aX (cw (b9 (aM (c5 rfl) dw T.z_all fQ (ae (c8 b8 ["pair","stand","wish","some","told","lengths","free","name","begins"] q (rF rfl T.z_zip (ae (rv 2) (ae (bt (rv 2) (aV af) a_) ah))) ?g1 rt0 ?e1) ah)))) (au (aB cR)) aO)
 (ak (aJ q (oJ me kP af))
 (ak (dg (b6 (rv 2)) (aU q) (ak (oG b8 ["worth","stand","wish","some","told","lengths","free","name","begins"] q (b6 (az (rv 0) (rv 6))) ?g2 ?t2 ?e2)
 (ak (aX (aN (bh hu) bf (rv 7) (bP ah)) (au (aB cR)) aO)
 (au (aJ q (aA aF aG (az (rv 7) af) (yD hu (rv 4) (rv 6))))))))
 (au (aB cR)))))))
 (case g0=>intro _ _ _ _ q;exact (aU q))
 (case e0=>intro _ _ _ _;exact (cI (AM hu) zk (rv 0) (rv 5)))
 (case g1=>intro _ _ _ _ q;exact (aU q))
 (case e1=>intro _ _ _ _;exact (cI (pq hu) qm (rv 0) (rv 4)))
 (case g2=>intro _ _ _ _ q;exact (aU q))
 (case t2=>intro _ _ _ _;exact (mT (aN sW (bQ _) (rv 0) (rv 6))))
 (case e2=>intro _ _ _ _;exact (rv 0))
theorem vw (T:Txt K mg):OkE P w K mg 2 "_law_leaf" ["stand","wish","order"] gK:=by
 refine bj ["stand","wish","order","many","told"] T.l_leaf fun _ _ _ _ _ _ _ _ hr q=>?_
 exact (ak (dg (n6 rfl T.z_range (ae af (ae (aA aF aG (aM aR aY T.z_len bq (ae (rv 2) ah)) af) ah))) (aU q) (ak (aJ q (tw rfl rfl T.z_list rfl T.z_zip kJ qc (ae (rv 2) (ae (bt (rv 2) (aV af) a_) ah))))
 (au (aX (b9 (aq (nA T) hr (ae (rv 0) (ae (rv 1) (ae (bt (rv 2) a_ (aV (rv 3))) (ae (rv 4) ah)))))) (au (aB (br (ae bp (ae (cu cg cz T.z_tuple b5 (ae (bt (rv 2) a_ (aV (rv 3))) ah)) ah))))) aO))))
 (au (aB iQ)))
theorem lh (T:Txt K mg):∀ n:Nat,OkE P w K mg (2+n+1) "_law_grown" ["stand","wish","order","left","at","early"] (dv n)
 | 0=>bj ["stand","wish","order","left","at","early","leaf","more","one"] T.l_grown fun _ _ _ _ _ _ _ _ hr q=>bC
 | n+1=>by
  have ih:=lh T n
  have gq:=fun (_:Txt K mg)=>ih
  · refine bj ["stand","wish","order","left","at","early","leaf","more","one"] T.l_grown fun _ _ _ _ _ _ _ _ hr q=>?_
    have hu:=hr.units
    exact (ak (aJ q (aq (vw T) hr (ae (rv 0) (ae (rv 1) (ae (rv 2) ah))) (by omega)))
 (ak (aX (RW.rt (du (RW.rt (pQ (aN xj wu (rv 6) iQ) (nj (RW.rt (du (b9 (rv 5)) (dZ (aN (bh hu) bf (rv 3) (bP ah)))))))) (dZ (aN (bh hu) bf (rv 3) (bP ah))))) (au (aB (CO (aN qO pP (rv 6) iQ) (br (ae bp (ae (cu cg cz T.z_tuple b5 (ae (rv 2) ah)) ah))) (rv 6)))) aO)
 (ak (aJ q (aA aF aG (aA aF aG (bt (rv 2) a_ (aV (rv 4))) (bt (rv 3) a_ (aV af))) (bt (rv 2) (aV (rv 4)) a_)))
 (ak (aJ q (aq (gq T) hr (ae (rv 0) (ae (rv 1) (ae (rv 7) (ae (bt (rv 3) (aV af) a_) (ae af (ae (rv 5) ah)))))) (by omega)))
 (ak (aX (aN (bh hu) bf (rv 4) (aM aR aY T.z_len bq (ae (rv 2) ah))) (au (aB (rv 8))) aO)
 (au (aB (br (ae bp (ae (az (rv 3) af) (ae (az (rv 2) (rv 4)) (ae (rv 8) (ae (aq (gq T) hr (ae (rv 0) (ae (rv 1) (ae (rv 2) (ae (rv 3) (ae (aA aF aG (rv 4) af) (ae (rv 5) ah)))))) (by omega)) ah)))))))))))))
theorem gq (T:Txt K mg):OkE P w K mg 43 "_law_grown" ["stand","wish","order","left","at","early"] (dv 40):=(lh T 40)
theorem qY (T:Txt K mg):OkE P w K mg 1 "is_whole" ["thing"] gx:=by
 refine bj ["thing"] T.is_whole fun _ _ _ _ _ _ _ _ hr q=>?_
 exact (au (aB (cL (c6 T.z_isinstance T.z_int CD (rv 0)) (d_ (Dm (c6 T.z_isinstance T.z_bool rG (rv 0)))))))
theorem pE (T:Txt K mg):OkE P w K mg 2 "is_within" ["thing","low","high"] fJ:=by
 refine bj ["thing","low","high"] T.is_within fun _ _ _ _ _ _ _ _ hr q=>?_
 exact (au (aB (cL (aq (qY T) hr (ae (rv 0) ah)) (d_ (lX ic (bQ _) ic (bQ _) (rv 1) (rv 0) (rv 2))))))
theorem fY (T:Txt K mg):OkE P w K mg 3 "are_within" ["thing","low","high"] cX:=by
 refine bj ["thing","low","high"] T.are_within fun _ _ _ _ _ _ _ _ hr q=>?_
 refine' (au (aB (cL (c6 T.z_isinstance T.z_tuple b5 (rv 0)) (d_ (aM (c5 rfl) dw T.z_all fQ (ae (c8 b8 ["part","thing","low","high"] q (b6 (rv 0)) ?g0 rt0 ?e0) ah))))))
 (case g0=>intro _ _ _ _ q;exact (aU q))
 (case e0=>intro _ _ _ _;exact (aq (pE T) hr (ae (rv 0) (ae (rv 2) (ae (rv 3) ah)))))
theorem ox (T:Txt K mg):OkE P w K mg 1 "are_rising" ["things"] eW:=by
 refine bj ["things"] T.are_rising fun _ _ _ _ _ _ _ _ hr q=>?_
 refine' (au (aB (aM (c5 rfl) dw T.z_all fQ (ae (c8 b8 ["at","things"] q (n6 rfl T.z_range (ae af (ae (aM aR aY T.z_len bq (ae (rv 0) ah)) ah))) ?g0 rt0 ?e0) ah))))
 (case g0=>intro _ _ _ _ q;exact (aU q))
 (case e0=>intro _ _ _ _;exact (cI il (bQ _) (az (rv 1) (aA ib (gS _) (rv 0) af)) (az (rv 1) (rv 0))))
theorem oB (T:Txt K mg):OkE P w K mg 4 "are_worths" ["thing"] fj:=by
 refine bj ["thing"] T.are_worths fun _ _ _ _ _ _ _ _ hr q=>?_
 exact (au (aB (cL (aq (fY T) hr (ae (rv 0) (ae (oJ me kP af) (ae af ah)))) (cL (lX ic (bQ _) ic (bQ _) af (aM aR aY T.z_len bq (ae (rv 0) ah)) af) (d_ (aq (ox T) hr (ae (rv 0) ah)))))))
theorem rn (T:Txt K mg):OkE P w K mg 5 "is_stand" ["thing"] gm:=by
 refine bj ["thing"] T.is_stand fun _ _ _ _ _ _ _ _ hr q=>?_
 refine' (ak (aX (RW.rt (du (cw (b9 (c6 T.z_isinstance T.z_tuple b5 (rv 0)))) (dZ (cw (wJ ic (bQ _) ic (bQ _) af (aM aR aY T.z_len bq (ae (rv 0) ah)) af))))) (au (aB cR)) aO)
 (au (aB (aM (c5 rfl) dw T.z_all fQ (ae (c8 b8 ["part","thing"] q (b6 (rv 0)) ?g0 rt0 ?e0) ah)))))
 (case g0=>intro _ _ _ _ q;exact (aU q))
 (case e0=>intro _ _ _ _;exact (aq (oB T) hr (ae (rv 0) ah)))
theorem oj (T:Txt K mg):OkE P w K mg 6 "need_stand" ["stand"] eV:=by
 refine bj ["stand"] T.need_stand fun _ _ _ _ _ _ _ _ hr q=>?_
 exact (au (aX (cw (b9 (aq (rn T) hr (ae (rv 0) ah)))) (au lU) aO))
theorem jt (T:Txt K mg):OkE P w K mg 1 "are_unlike" ["things"] cD:=by
 refine bj ["things"] T.are_unlike fun _ _ _ _ _ _ _ _ hr q=>?_
 have hu:=hr.units
 exact (au (aB (cI (bh hu) bf (yw rfl rfl T.z_len rfl T.z_set bq u5 (rv 0)) (aM aR aY T.z_len bq (ae (rv 0) ah)))))
theorem oY (T:Txt K mg):OkE P w K mg 4 "are_names" ["thing"] fN:=by
 refine bj ["thing"] T.are_names fun _ _ _ _ _ _ _ _ hr q=>?_
 exact (au (aB (cL (aq (fY T) hr (ae (rv 0) (ae af (ae af ah)))) (cL (lX ic (bQ _) ic (bQ _) af (aM aR aY T.z_len bq (ae (rv 0) ah)) af) (d_ (aq (jt T) hr (ae (rv 0) ah)))))))
theorem sZ (T:Txt K mg):OkE P w K mg 4 "is_hand" ["wish"] iz:=by
 refine bj ["wish"] T.is_hand fun _ _ _ _ _ _ _ _ hr q=>?_
 have hu:=hr.units
 exact (au (aB (cL (cI (bh hu) bf (aM aR aY T.z_len bq (ae (rv 0) ah)) af) (cL (aq (fY T) hr (ae (az (rv 0) af) (ae af (ae af ah)))) (d_ (cI (bh hu) bf (aM aR aY T.z_len bq (ae (az (rv 0) af) ah)) (aM aR aY T.z_len bq (ae (az (rv 0) af) ah))))))))
theorem k8 (T:Txt K mg):OkE P w K mg 5 "is_of_its_kind" ["wish"] c7:=by
 refine bj ["wish","word"] T.is_of_its_kind fun _ _ _ _ _ _ _ _ hr q=>?_
 have hu:=hr.units
 exact (ak (aJ q (az (rv 0) af))
 (ak (aX (aN (bh hu) bf (rv 1) bp) bC aO)
 (ak (aX (aN (bh hu) bf (rv 1) bp) bC aO)
 (ak (aX (aN (bh hu) bf (rv 1) bp) bC aO)
 (ak (aX (aN (bh hu) bf (rv 1) bp) bC aO)
 (au (aB (cL (cI (bh hu) bf (rv 1) bp) (d_ (aq (sZ T) hr (ae (rv 0) ah)))))))))))
theorem sL (T:Txt K mg):OkE P w K mg 6 "is_wish" ["thing"] iq:=by
 refine bj ["thing"] T.is_wish fun _ _ _ _ _ _ _ _ hr q=>?_
 exact (ak (aX (RW.rt (du (cw (b9 (c6 T.z_isinstance T.z_tuple b5 (rv 0)))) (dZ (aN il (bQ _) (aM aR aY T.z_len bq (ae (rv 0) ah)) af)))) (au (aB cR)) aO)
 (au (aB (cL (aq (oY T) hr (ae (az (rv 0) af) ah)) (d_ (aq (k8 T) hr (ae (rv 0) ah)))))))
theorem oA (T:Txt K mg):OkE P w K mg 7 "is_wish_of" ["stand","thing"] ff:=by
 refine bj ["stand","thing"] T.is_wish_of fun _ _ _ _ _ _ _ _ hr q=>?_
 refine' (au (aB (cL (aq (sL T) hr (ae (rv 1) ah)) (d_ (aM (c5 rfl) dw T.z_all fQ (ae (c8 b8 ["name","stand","thing"] q (b6 (az (rv 1) af)) ?g0 rt0 ?e0) ah))))))
 (case g0=>intro _ _ _ _ q;exact (aU q))
 (case e0=>intro _ _ _ _;exact (cI il (bQ _) (rv 0) (aM aR aY T.z_len bq (ae (rv 1) ah))))
theorem ql (T:Txt K mg):OkE P w K mg 8 "need_wish" ["stand","wish","number"] fK:=by
 refine bj ["stand","wish","number"] T.need_wish fun _ _ _ _ _ _ _ _ hr q=>?_
 exact (au (aX (cw (b9 (aq (oA T) hr (ae (rv 0) (ae (rv 1) ah))))) (au lU) aO))
theorem rP (T:Txt K mg):OkE P w K mg 9 "need" ["stand","wish"] j3:=by
 refine bj ["stand","wish"] T.need fun _ _ _ _ _ _ _ _ hr q=>?_
 exact (ak (di (aq (oj T) hr (ae (rv 0) ah)))
 (au (di (aq (ql T) hr (ae (rv 0) (ae (rv 1) (ae af ah)))))))
theorem jO (T:Txt K mg):OkE P w K mg 10 "need_kind" ["stand","wish","word"] d8:=by
 refine bj ["stand","wish","word"] T.need_kind fun _ _ _ _ _ _ _ _ hr q=>?_
 have hu:=hr.units
 exact (ak (di (aq (rP T) hr (ae (rv 0) (ae (rv 1) ah))))
 (au (aX (aN (qw hu) pR (az (rv 1) af) (rv 2)) (au lU) aO)))
theorem kz (T:Txt K mg):OkE P w K mg 1 "begins_in" ["stand","lengths","order"] dX:=by
 refine bj ["stand","lengths","order","begins","free_from","name","in_time"] T.begins_in fun _ _ _ _ _ _ _ _ hr q=>?_
 have hu:=hr.units
 refine' (ak (aJ q zO)
 (ak (aJ q (az (az (rv 0) (az (rv 2) af)) af))
 (ak (dg (b6 (rv 2)) (aU q) (ak (oG b8 ["worth","stand","lengths","order","begins","free_from","name","in_time"] q (b6 (az (rv 0) (rv 5))) ?g0 ?t0 ?e0)
 (ak (aX (cw (b9 (rv 6))) (au (aB iQ)) aO)
 (ak (y_ hu (rv 3) (rv 5) (az (rv 6) af))
 (au (aJ q (aA aF aG (az (rv 6) af) (yD hu (rv 1) (rv 5)))))))))
 (au (aB (mm (rv 3)))))))
 (case g0=>intro _ _ _ _ q;exact (aU q))
 (case t0=>intro _ _ _ _;exact (mT (aN sW (bQ _) (rv 0) (rv 5))))
 (case e0=>intro _ _ _ _;exact (rv 0))
theorem mz (T:Txt K mg):OkE P w K mg 1 "filling_with" ["stand","chosen"] dF:=by
 refine bj ["stand","chosen"] T.filling_with fun _ _ _ _ _ _ _ _ hr q=>?_
 have hu:=hr.units
 refine' (au (aB (cu cg cz T.z_tuple b5 (ae (c8 b8 ["name","worths","stand","chosen"] q (xk rfl T.z_enumerate (rv 0)) ?g0 rt0 ?e0) ah))))
 (case g0=>intro _ _ _ _ q;exact (jX (cO (aU q) (cO (aU q) iO))))
 (case e0=>intro _ _ _ _;exact (zg hu (rv 3) (rv 0) (az (rv 1) af)))
theorem dU (T:Txt K mg):∀ n:Nat,OkE P w K mg (1+n+1) "told_of_order" ["stand","lengths","order","left"] (bL n)∧OkE P w K mg (1+n+1) "told_of_places" ["stand","lengths","order","place","left"] (bF n)
 | 0=>⟨bj ["stand","lengths","order","left","begins"] T.told_of_order fun _ _ _ _ _ _ _ _ hr q=>bC,bj ["stand","lengths","order","place","left","name","here","sooner"] T.told_of_places fun _ _ _ _ _ _ _ _ hr q=>bC⟩
 | n+1=>by
  have ih:=dU T n
  have eh:=fun (_:Txt K mg)=>ih.1
  have dO:=fun (_:Txt K mg)=>ih.2
  refine ⟨?_,?_⟩
  · refine bj ["stand","lengths","order","left","begins"] T.told_of_order fun _ _ _ _ _ _ _ _ hr q=>?_
    exact (ak (aJ q (aq (kz T) hr (ae (rv 0) (ae (rv 1) (ae (rv 2) ah))) (by omega)))
 (ak (aX (aN qO pP (rv 4) iQ) (au (aB (br (ae bp (ae (br (ae bp (ae (rv 2) ah))) ah))))) aO)
 (ak (aX (cw (b9 (rv 3))) (au (aB (br (ae bp (ae (aq (mz T) hr (ae (rv 0) (ae (rv 4) ah)) (by omega)) ah))))) aO)
 (au (aB (aq (dO T) hr (ae (rv 0) (ae (rv 1) (ae (rv 2) (ae (aM aR aY T.z_len bq (ae (rv 2) ah)) (ae (rv 3) ah))))) (by omega)))))))
  · refine bj ["stand","lengths","order","place","left","name","here","sooner"] T.told_of_places fun _ _ _ _ _ _ _ _ hr q=>?_
    have hu:=hr.units
    exact (ak (aJ q (az (rv 4) af))
 (ak (aJ q (aq (eh T) hr (ae (rv 0) (ae (rv 1) (ae (aA aF aG (aA aF aG (bt (rv 2) a_ (aV (rv 3))) (br (ae (rv 5) ah))) (bt (rv 2) (aV (rv 3)) a_)) (ae (bt (rv 4) (aV af) a_) ah)))) (by omega)))
 (ak (aX (RW.rt (du (aN (bh hu) bf (az (rv 6) af) bp) (dZ (aN (bh hu) bf (rv 3) af)))) (au (aB (rv 6))) aO)
 (ak (aJ q (aq (dO T) hr (ae (rv 0) (ae (rv 1) (ae (rv 2) (ae (aA ib (gS _) (rv 3) af) (ae (rv 4) ah))))) (by omega)))
 (ak (aX (aN (bh hu) bf (az (rv 7) af) bp) (au (aB (rv 7))) aO)
 (au (aB (br (ae bp (ae (br (ae bp (ae (az (rv 2) (aA ib (gS _) (rv 3) af)) (ae (rv 5) (ae (az (rv 6) af) (ae (az (rv 7) af) ah)))))) ah))))))))))
theorem eh (T:Txt K mg):OkE P w K mg 42 "told_of_order" ["stand","lengths","order","left"] (bL 40):=(dU T 40).1
theorem dO (T:Txt K mg):OkE P w K mg 42 "told_of_places" ["stand","lengths","order","place","left"] (bF 40):=(dU T 40).2
theorem jv (T:Txt K mg):OkE P w K mg 1 "lengths_of" ["wish"] dA:=by
 refine bj ["wish"] T.lengths_of fun _ _ _ _ _ _ _ _ hr q=>?_
 exact (au (aB (mm (mN rfl rfl T.z_dict rfl T.z_zip rS qc (ae (az (rv 0) af) (ae (az (rv 0) af) ah))))))
theorem qP (T:Txt K mg):OkE P w K mg 43 "hand_can" ["stand","wish"] gr:=by
 refine bj ["stand","wish"] T.hand_can fun _ _ _ _ _ _ _ _ hr q=>?_
 exact (ak (di (aq (jO T) hr (ae (rv 0) (ae (rv 1) (ae bp ah)))))
 (au (aB (aq (eh T) hr (ae (rv 0) (ae (aq (jv T) hr (ae (rv 1) ah)) (ae (bt (az (rv 1) af) a_ (aV af)) (ae (bt (az (rv 1) af) (aV af) a_) ah))))))))
theorem iR (T:Txt K mg):∀ n:Nat,OkE P w K mg (0+n+1) "_law_paths_of" ["tree"] (bN n)
 | 0=>bj ["tree","found","side"] T.l_paths_of fun _ _ _ _ _ _ _ _ hr q=>bC
 | n+1=>by
  have ih:=iR T n
  have f7:=fun (_:Txt K mg)=>ih
  · refine bj ["tree","found","side"] T.l_paths_of fun _ _ _ _ _ _ _ _ hr q=>?_
    have hu:=hr.units
    refine' (ak (aJ q (k6 (ae (br ah) ah)))
 (ak (aX (aN (bh hu) bf (az (rv 0) af) bp) (au (dg (b6 (bP (ae af (ae af ah)))) (aU q) (au (di (tY PySem.F.slot_list_extend PySem.F.type_list_extend zR uJ (rv 1) (c8 b8 ["path","tree","found","side"] q (b6 (aq (f7 T) hr (ae (az (rv 0) (rv 2)) ah) (by omega))) ?g0 rt0 ?e0)))))) aO)
 (au (aB (mm (rv 1))))))
    (case g0=>intro _ _ _ _ q;exact (aU q))
    (case e0=>intro _ _ _ _;exact (aA aF aG (br (ae (rv 3) ah)) (rv 0)))
theorem f7 (T:Txt K mg):OkE P w K mg 41 "_law_paths_of" ["tree"] (bN 40):=(iR T 40)
theorem ke (T:Txt K mg):∀ n:Nat,OkE P w K mg (0+n+1) "_law_put_to" ["tree","path","other"] (de n)
 | 0=>bj ["tree","path","other","side"] T.l_put_to fun _ _ _ _ _ _ _ _ hr q=>bC
 | n+1=>by
  have ih:=ke T n
  have iB:=fun (_:Txt K mg)=>ih
  · refine bj ["tree","path","other","side"] T.l_put_to fun _ _ _ _ _ _ _ _ hr q=>?_
    have hu:=hr.units
    exact (ak (aX (aN (bh hu) bf (rv 1) (br ah)) (au (aB (rv 2))) aO)
 (ak (aJ q (az (rv 1) af))
 (au (aB (aA aF aG (aA aF aG (bt (rv 0) a_ (aV (rv 3))) (br (ae (aq (iB T) hr (ae (az (rv 0) (rv 3)) (ae (bt (rv 1) (aV af) a_) (ae (rv 2) ah))) (by omega)) ah))) (bt (rv 0) (aV (aA aF aG (rv 3) af)) a_))))))
theorem iB (T:Txt K mg):OkE P w K mg 41 "_law_put_to" ["tree","path","other"] (de 40):=(ke T 40)
theorem m7 (T:Txt K mg):OkE P w K mg 3 "_law_bent_part" ["pen","stand","wish","part"] ed:=by
 refine bj ["pen","stand","wish","part","strays","name","some","row","at"] T.l_bent_part fun _ _ _ _ _ _ _ _ hr q=>?_
 have hu:=hr.units
 refine' (ak (oG b8 ["name","pen","stand","wish","part","strays","~5","some","row","at"] q (eK rfl T.z_range (ae (aM aR aY T.z_len bq (ae (rv 1) ah)) ah)) ?g0 ?t0 ?e0)
 (ak (aX (RW.rt (pQ (aN (qw hu) pR (rv 4) (bP ah)) (nj (aN (bh hu) bf (aq (bu T) hr (ae (rv 0) (ae af ah))) af)))) (au (aB (br (ae bp (ae (az (az (rv 2) af) af) (ae (az (rv 4) (aq (bu T) hr (ae (rv 0) (ae (aM aR aY T.z_len bq (ae (rv 4) ah)) ah)))) (ae (rv 3) (ae (rv 3) ah)))))))) aO)
 (ak (aJ q (az (bP (ae af (ae af (ae af (ae af (ae (oJ me kP af) (ae af (ae (aA pf (bV _) af af) ah)))))))) (aq (bu T) hr (ae (rv 0) (ae af ah)))))
 (ak (aX (aN (bh hu) bf (az (rv 3) af) bp) (ak (aJ q (bP (ae (aA aF aG (bt (rv 3) a_ (aV af)) (br (ae (az (rv 3) af) (ae (az (rv 3) af) ah)))) (ae (az (rv 3) af) (ae (aA aF aG (br (ae bp (ae (rv 5) ah))) (bt (rv 3) (aV af) a_)) (ae (aA aF aG (aA aF aG (bt (rv 3) a_ (aV af)) (br (ae (rv 5) ah))) (bt (rv 3) (aV af) a_)) ah))))))
 (ak (aJ q (aA aF aG (rv 6) (bP (ae (aA aF aG (br (ae bp (ae (az (rv 3) af) (ae (az (rv 3) af) ah)))) (bt (rv 3) (aV af) a_)) (ae (aA aF aG (br (ae bp (ae (rv 5) (ae (rv 5) ah)))) (bt (rv 3) (aV af) a_)) ah)))))
 (au (aB (az (rv 6) (aq (bu T) hr (ae (rv 0) (ae af ah)))))))) aO)
 (ak (aJ q (az (rv 3) af))
 (ak (aJ q (aq (bu T) hr (ae (rv 0) (ae (aA aF aG (aM aR aY T.z_len bq (ae (rv 7) ah)) af) ah))))
 (ak (aJ q (bP (ae (aA aF aG (bt (rv 7) a_ (aV (rv 8))) (bt (rv 7) (aV (aA aF aG (rv 8) af)) a_)) (ae (aA aF aG (aA aF aG (bt (rv 7) a_ (aV (rv 8))) (br (ae (rv 5) ah))) (bt (rv 7) (aV (rv 8)) a_)) (ae (aA aF aG (aA aF aG (bt (rv 7) a_ (aV (rv 8))) (br (ae (rv 5) ah))) (bt (rv 7) (aV (aA aF aG (rv 8) af)) a_)) (ae (B5 (rv 7) (oJ me kP af)) ah))))))
 (ak (aJ q (aA aF aG (rv 6) (bP (ae (br ah) (ae (bt (rv 7) a_ (aV af)) (ae (aA aF aG (rv 7) (bt (rv 7) a_ (aV af))) ah))))))
 (au (aB (br (ae bp (ae (az (rv 6) (aq (bu T) hr (ae (rv 0) (ae af ah)))) ah)))))))))))))
 (case g0=>intro _ _ _ _ q;exact (aU q))
 (case t0=>intro _ _ _ _;exact (mT (aN (gE hu) gC (rv 0) (az (rv 3) af))))
 (case e0=>intro _ _ _ _;exact (rv 0))
theorem qC (T:Txt K mg):OkE P w K mg 1 "_law_part_of" ["tree","path"] fM:=by
 refine bj ["tree","path","side"] T.l_part_of fun _ _ _ _ _ _ _ _ hr q=>?_
 exact (ak (dg (b6 (rv 1)) (aU q) (au (aJ q (az (rv 0) (rv 2)))))
 (au (aB (rv 0))))
theorem gY (T:Txt K mg):∀ n:Nat,OkE P w K mg (1+n+1) "_law_hand_right" ["stand","wish","tree","told"] (cb n)
 | 0=>bj ["stand","wish","tree","told","one","other"] T.l_hand_right fun _ _ _ _ _ _ _ _ hr q=>bC
 | n+1=>by
  have ih:=gY T n
  have dq:=fun (_:Txt K mg)=>ih
  · refine bj ["stand","wish","tree","told","one","other"] T.l_hand_right fun _ _ _ _ _ _ _ _ hr q=>?_
    have hu:=hr.units
    exact (ak (aX (aN (bh hu) bf (az (rv 2) af) bp) (au (aB (aq (nA T) hr (ae (rv 0) (ae (rv 1) (ae (az (rv 2) af) (ae (rv 3) ah)))) (by omega)))) aO)
 (ak (gX (bt (rv 2) (aV af) (aV af)) (jX (cO (aU q) (cO (aU q) iO))))
 (ak (aX (RW.rt (du (aN (bh hu) bf (rv 4) (rv 5)) (du (aN (gE hu) gC (rv 4) (az (rv 1) af)) (dZ (aN (gE hu) gC (rv 5) (az (rv 1) af)))))) (au (aB cR)) aO)
 (ak (aX (cw (b9 (aq (dq T) hr (ae (rv 0) (ae (rv 1) (ae (az (rv 2) af) (ae (aA aF aG (rv 3) (bP (ae (br (ae (rv 4) (ae (rv 5) ah))) ah))) ah)))) (by omega)))) (au (aB cR)) aO)
 (au (aB (aq (dq T) hr (ae (rv 0) (ae (rv 1) (ae (az (rv 2) af) (ae (aA aF aG (rv 3) (bP (ae (br (ae (rv 5) (ae (rv 4) ah))) ah))) ah)))) (by omega))))))))
theorem dq (T:Txt K mg):OkE P w K mg 42 "_law_hand_right" ["stand","wish","tree","told"] (cb 40):=(gY T 40)
theorem lW (T:Txt K mg):OkE P w K mg 2 "is_right_leaf" ["stand","wish","some","told"] dr:=by
 refine bj ["stand","wish","some","told"] T.is_right_leaf fun _ _ _ _ _ _ _ _ hr q=>?_
 have hu:=hr.units
 refine' (ak (aX (RW.rt (du (cw (b9 (c6 T.z_isinstance T.z_tuple b5 (rv 2)))) (du (aN il (bQ _) (aM aR aY T.z_len bq (ae (rv 2) ah)) af) (dZ (cw (b9 (aq (jt T) hr (ae (rv 2) ah)))))))) (au (aB cR)) aO)
 (ak (aX (cw (b9 (aM (c5 rfl) dw T.z_all fQ (ae (c8 b8 ["name","stand","wish","some","told"] q (b6 (rv 2)) ?g0 rt0 ?e0) ah)))) (au (aB cR)) aO)
 (ak (aX (cw (b9 (aM (c5 rfl) dw T.z_all fQ (ae (c8 b8 ["pair","stand","wish","some","told"] q (rF rfl T.z_zip (ae (rv 2) (ae (bt (rv 2) (aV af) a_) ah))) ?g1 rt0 ?e1) ah)))) (au (aB cR)) aO)
 (au (aB (cI qO pP (aq (kz T) hr (ae (rv 0) (ae (aq (jv T) hr (ae (rv 1) ah)) (ae (rv 2) ah)))) iQ))))))
 (case g0=>intro _ _ _ _ q;exact (aU q))
 (case e0=>intro _ _ _ _;exact (cI (pq hu) qm (rv 0) (az (rv 2) af)))
 (case g1=>intro _ _ _ _ q;exact (aU q))
 (case e1=>intro _ _ _ _;exact (cI (pq hu) qm (rv 0) (rv 4)))
theorem dD (T:Txt K mg):∀ n:Nat,OkE P w K mg (2+n+1) "is_right_split" ["stand","wish","tree","told"] (cc n)∧OkE P w K mg (2+n+1) "is_right_tree" ["stand","wish","tree","told"] (bT n)
 | 0=>⟨bj ["stand","wish","tree","told","one","other"] T.is_right_split fun _ _ _ _ _ _ _ _ hr q=>bC,bj ["stand","wish","tree","told"] T.is_right_tree fun _ _ _ _ _ _ _ _ hr q=>bC⟩
 | n+1=>by
  have ih:=dD T n
  have gh:=fun (_:Txt K mg)=>ih.1
  have df:=fun (_:Txt K mg)=>ih.2
  refine ⟨?_,?_⟩
  · refine bj ["stand","wish","tree","told","one","other"] T.is_right_split fun _ _ _ _ _ _ _ _ hr q=>?_
    have hu:=hr.units
    exact (ak (aJ q (az (rv 2) af))
 (ak (aJ q (az (rv 2) af))
 (ak (aX (RW.rt (du (aN (bh hu) bf (rv 4) (rv 5)) (du (aN (gE hu) gC (rv 4) (az (rv 1) af)) (dZ (aN (gE hu) gC (rv 5) (az (rv 1) af)))))) (au (aB cR)) aO)
 (ak (aX (cw (b9 (aq (df T) hr (ae (rv 0) (ae (rv 1) (ae (az (rv 2) af) (ae (aA aF aG (rv 3) (bP (ae (br (ae (rv 4) (ae (rv 5) ah))) ah))) ah)))) (by omega)))) (au (aB cR)) aO)
 (au (aB (aq (df T) hr (ae (rv 0) (ae (rv 1) (ae (az (rv 2) af) (ae (aA aF aG (rv 3) (bP (ae (br (ae (rv 5) (ae (rv 4) ah))) ah))) ah)))) (by omega))))))))
  · refine bj ["stand","wish","tree","told"] T.is_right_tree fun _ _ _ _ _ _ _ _ hr q=>?_
    have hu:=hr.units
    exact (ak (aX (cw (b9 (c6 T.z_isinstance T.z_tuple b5 (rv 2)))) (au (aB cR)) aO)
 (ak (aX (RW.rt (pQ (aN (bh hu) bf (aM aR aY T.z_len bq (ae (rv 2) ah)) af) (nj (aN (bh hu) bf (az (rv 2) af) bp)))) (au (aB (aq (lW T) hr (ae (rv 0) (ae (rv 1) (ae (az (rv 2) af) (ae (rv 3) ah)))) (by omega)))) aO)
 (au (aB (cL (cI (bh hu) bf (aM aR aY T.z_len bq (ae (rv 2) ah)) af) (cL (cI (bh hu) bf (az (rv 2) af) bp) (d_ (aq (gh T) hr (ae (rv 0) (ae (rv 1) (ae (rv 2) (ae (rv 3) ah)))) (by omega)))))))))
theorem gh (T:Txt K mg):OkE P w K mg 43 "is_right_split" ["stand","wish","tree","told"] (cc 40):=(dD T 40).1
theorem df (T:Txt K mg):OkE P w K mg 43 "is_right_tree" ["stand","wish","tree","told"] (bT 40):=(dD T 40).2
theorem jF (T:Txt K mg):OkE P w K mg 44 "hand_paper" ["stand","wish","paper"] cY:=by
 refine bj ["stand","wish","paper"] T.hand_paper fun _ _ _ _ _ _ _ _ hr q=>?_
 exact (ak (di (aq (jO T) hr (ae (rv 0) (ae (rv 1) (ae bp ah)))))
 (au (aB (aq (df T) hr (ae (rv 0) (ae (rv 1) (ae (rv 2) (ae (bP ah) ah))))))))
theorem qV (T:Txt K mg):OkE P w K mg 45 "is_paper" ["stand","wish","paper"] fh:=by
 refine bj ["stand","wish","paper","word"] T.is_paper fun _ _ _ _ _ _ _ _ hr q=>?_
 have hu:=hr.units
 exact (ak (di (aq (rP T) hr (ae (rv 0) (ae (rv 1) ah))))
 (ak (aJ q (az (rv 1) af))
 (ak (aX (aN (bh hu) bf (rv 3) bp) bC aO)
 (ak (aX (aN (bh hu) bf (rv 3) bp) bC aO)
 (ak (aX (aN (bh hu) bf (rv 3) bp) bC aO)
 (ak (aX (aN (bh hu) bf (rv 3) bp) bC aO)
 (au (aB (aq (jF T) hr (ae (rv 0) (ae (rv 1) (ae (rv 2) ah))))))))))))
theorem Bc (T:Txt K mg):OkE P w K mg 46 "law" ["script"] sQ:=by
 refine bj ["script","pen","turn","stand","wish","other","second","left","order","tree","trees","word","told","k","one","paths","path","some","again","due","found"] T.law fun _ _ _ _ _ _ _ _ hr q=>?_
 have hu:=hr.units
 refine' (ak (aJ q (aq (vp T) hr (ae (rv 0) ah)))
 (ak (dg (eK rfl T.z_range (ae af ah)) (aU q) (ak (aJ q (aq (tZ T) hr (ae (aq (uj T) hr (ae (rv 1) ah)) (ae af (ae (az (bP (ae af (ae af (ae af ah)))) (aA cV (bV _) (rv 2) af)) ah)))))
 (ak (aJ q (aq (pD T) hr (ae (rv 1) (ae (rv 3) (ae af ah)))))
 (ak (aJ q (aq (qR T) hr (ae (rv 1) (ae (rv 3) ah))))
 (ak (aJ q (aA aF aG (bt (rv 4) a_ (aV af)) (br (ae (cu cg cz T.z_tuple b5 (ae (c8 b8 ["length","script","pen","turn","stand","wish","other","second","left","order","tree","trees","word","told","k","one","paths","path","some","again","due","found"] q (b6 (az (rv 4) af)) ?g0 rt0 ?e0) ah)) ah))))
 (ak (aJ q (cu mw mG T.z_list kJ (ae (az (rv 4) af) ah)))
 (ak (oG b8 ["name","script","pen","turn","stand","wish","other","second","left","order","tree","trees","word","told","k","one","paths","path","some","again","due","found"] q (b6 (az (rv 4) af)) ?g1 rt0 ?e1)
 (ak (aJ q (aq (gq T) hr (ae (rv 3) (ae (rv 4) (ae (bP ah) (ae (rv 8) (ae af (ae (cI sY (bQ _) (aq (bu T) hr (ae (rv 1) (ae af ah))) af) ah))))))))
 (ak (aJ q (k6 (ae (rv 9) (ae (br (ae bp (ae (az (rv 4) af) ah))) ah))))
 (ak (gX (aq (qP T) hr (ae (rv 3) (ae (rv 4) ah))) (jX (cO (aU q) (cO (aU q) iO))))
 (ak (aX (aN (bh hu) bf (rv 11) bp) (au (di (pM (rv 10) (rv 12)))) aO)
 (ak (dg (eK rfl T.z_range (ae af ah)) (aU q) (ak (aJ q (az (rv 10) (az (bP (ae af (ae (aA ib (gS _) (aM aR aY T.z_len bq (ae (rv 10) ah)) af) ah))) (aA cV (bV _) (rv 13) af))))
 (ak (aJ q (aq (f7 T) hr (ae (rv 14) ah)))
 (ak (aJ q (az (rv 15) (aq (bu T) hr (ae (rv 1) (ae (aM aR aY T.z_len bq (ae (rv 15) ah)) ah)))))
 (au (di (pM (rv 10) (aq (iB T) hr (ae (rv 14) (ae (rv 16) (ae (aq (m7 T) hr (ae (rv 1) (ae (rv 3) (ae (rv 4) (ae (aq (qC T) hr (ae (rv 14) (ae (rv 16) ah))) ah))))) ah)))))))))))
 (au (dg (b6 (rv 10)) (aU q) (au (dg (b6 (bP (ae (br (ae (rv 3) (ae (rv 4) ah))) (ae (br (ae (rv 5) (ae (rv 4) ah))) (ae (br (ae (rv 3) (ae (rv 6) ah))) ah))))) (jX (cO (aU q) (cO (aU q) iO))) (ak (aJ q (aq (dq T) hr (ae (rv 17) (ae (rv 18) (ae (rv 14) (ae (bP ah) ah))))))
 (au (dg (b6 (bP (ae (aq (jF T) hr (ae (rv 17) (ae (rv 18) (ae (rv 14) ah)))) (ae (aq (qV T) hr (ae (rv 17) (ae (rv 18) (ae (rv 14) ah)))) ah)))) (aU q) (au (aX (RW.rt (du (cw (b9 (c6 T.z_isinstance T.z_bool rG (rv 20)))) (dZ (aN (qw hu) pR (rv 20) (rv 19))))) (au (aB cR)) aO)))))))))))))))))))))
 (au (aB cR))))
 (case g0=>intro _ _ _ _ q;exact (aU q))
 (case e0=>intro _ _ _ _;exact (aA aF aG af (aA cV (bV _) (rv 0) af)))
 (case g1=>intro _ _ _ _ q;exact (aU q))
 (case e1=>intro _ _ _ _;exact (tY PySem.F.slot_list_pop PySem.F.type_list_pop qz qJ (rv 8) (aq (bu T) hr (ae (rv 2) (ae (aM aR aY T.z_len bq (ae (rv 8) ah)) ah)))))
end
end My
namespace PySem.W.Fast
def tw2326890412159741475:=()
def tw16542789949326000759:=()
def tw6142151996472287943:=()
def tw1728941983752884718:=()
def tw16872829330400159026:=()
def tw13512115082576153596:=()
def tw12895171231230492561:=()
def tw1810774815008952699:=()
def tw1635597217319562494:=()
def tw10997498391463634031:=()
def tw9441504859463009688:=()
def tw3933367163647182422:=()
def tw15762451105551009432:=()
def tw13746512298668770900:=()
def tw4392542311582456563:=()
def tw14357776017199427581:=()
def tw13662629692290163367:=()
def tw7261687105198681839:=()
def tw14353797330924349950:=()
def tw8535195165253728055:=()
def tw13731855770758179281:=()
def tw15236098991816060218:=()
def tw8915736166637080630:=()
def tw4394544014040348903:=()
def tw8249397859531230123:=()
def tw2640763434752653418:=()
def tw4705213599200917986:=()
def tw8262824498348844032:=()
def tw7972276702502870566:=()
def tw15664605503268567926:=()
def tw17045458545268637514:=()
def tw15750843315557488536:=()
def tw9976429773846181631:=()
def tw1517422896457074803:=()
def tw9967295124148819371:=()
def tw12561066364982742007:=()
def tw16722340334982097598:=()
def tw8811486592882304091:=()
def tw928006510654774454:=()
def tw7751411237598675900:=()
def tw1708852764076175075:=()
def tw17399336485513215642:=()
def tw16136724064592403962:=()
def tw9620236457981467804:=()
def tw6436138585421390335:=()
def tw1242067181142159733:=()
def tw700999506592268327:=()
def tw15980247558881403700:=()
def tw14454177865802533954:=()
def tw9757926658322640004:=()
def tw10624328751024209777:=()
def tw8785514887017420514:=()
def tw6440226942748569105:=()
def tw17360147429165194609:=()
def tw13917386232584963941:=()
def tw3789248708586465923:=()
def tw14943349966758665712:=()
def tw3717109632752628865:=()
def tw1913531239871782395:=()
def tw10442640975121076092:=()
def tw10944454106584182343:=()
def tw10279040643933865188:=()
def tw1241207472256280993:=()
def tw10205542501002752343:=()
def tw7869960191568054902:=()
def tw1195113173896146031:=()
def tw16878970063566561454:=()
def tw17726546399358080696:=()
def tw15533978272433210347:=()
def tw5419592980299964415:=()
def tw9355873620153922878:=()
def tw4075402188221805780:=()
def tw9885659620511192720:=()
def tw14337182285886709091:=()
def tw15837227782780576679:=()
def tw11063838958625179702:=()
def tw13359591629557965987:=()
def tw7684497551278990013:=()
def tw8309347055824836348:=()
def tw11283698332193068638:=()
def tw955802774686543252:=()
def tw18202003244456532018:=()
def tw13111150877696693962:=()
def tw15995805302452860580:=()
def tw3393555048555254035:=()
def tw5819457908029611787:=()
def tw6865365328243344453:=()
def tw4247570693153105993:=()
def tw7387984514125774995:=()
def tw5732130666342718954:=()
def tw6702692871562593129:=()
def tw12715614892811928529:=()
def tw4146839365973173007:=()
def tw10939404432323503101:=()
def tw8559728245862749898:=()
def tw8386263026141415243:=()
def tw10018707013686347104:=()
def tw17606561807947698347:=()
def tw15446179190771748424:=()
def tw3488402907202438608:=()
def tw10099321735150014749:=()
def tw2574052765996008691:=()
def tw6819829736238387872:=()
def tw16568134552702740725:=()
def tw18114672038427706939:=()
def tw3483996932619235026:=()
def tw3473344223510622170:=()
def tw2840332257101439607:=()
def tw14277754091836439976:=()
def tw10281647617793466650:=()
def tw465294726049959458:=()
def tw11296555945608387914:=()
def tw4328353715309234503:=()
def tw13355660730974526050:=()
def tw14084563932692631484:=()
def tw756899582480200508:=()
def tw17285427217224770794:=()
def tw12531039425156092539:=()
def tw17151469280857111030:=()
def tw4348500961697990873:=()
def tw18075006112948883550:=()
def tw7843540961884917664:=()
def tw13326481012520343027:=()
def tw12896143646118712581:=()
def tw5153997366042044533:=()
def tw11012767702596299218:=()
def tw17938214809823215263:=()
def tw1805645121180961264:=()
def tw15117078038885149743:=()
def tw16319277226394767713:=()
def tw10485677217629079595:=()
def tw7444233168249385856:=()
def tw2354371466164654095:=()
def tw11886052487199266248:=()
def tw4334665331886839554:=()
def tw7243357139468675122:=()
def tw2377738687409832489:=()
def tw7348806171028636157:=()
def tw57937370516144692:=()
def tw6910819101462891696:=()
def tw18121710001372530057:=()
def tw9491715002747516231:=()
def tw14686359400194007141:=()
def tw6763441561388696299:=()
def tw17299417794394071084:=()
def tw7155071428502791026:=()
def tw16851949148738995478:=()
def tw6975084539779218332:=()
def tw13307058501758352995:=()
def tw8584509570447889141:=()
def tw6128340696680329130:=()
def tw15833402284926910399:=()
def tw9107608594301000490:=()
def tw14317533213305360380:=()
def tw17189855573790848381:=()
def tw1424029485985326477:=()
def tw3483428022520510763:=()
def tw4200828779118223983:=()
def tw7843765134211202416:=()
def tw17623079164883915885:=()
def tw7769794505591694389:=()
def tw5167333349320597990:=()
def tw423714849325101698:=()
def tw16620544608150810774:=()
def tw3345691007707968254:=()
def tw15618132204580139013:=()
def tw4276158727434694031:=()
def tw10182673909287266676:=()
def tw7691997281906671073:=()
def tw12251757218364606722:=()
def tw16225958044101096595:=()
def tw14676026845346061448:=()
def tw357507522602951221:=()
def tw5614103266978417987:=()
def tw11298337393324992445:=()
def tw9050688180860780412:=()
def tw11863883640624864389:=()
def tw12656466975116689909:=()
def tw9460338183330744526:=()
def tw1260843138905806884:=()
def tw957473212147814422:=()
def tw7205425896681116814:=()
def tw12742598979704815109:=()
def tw7782252547742747540:=()
def tw17198018139370602748:=()
def tw18264274987283161412:=()
def tw16248876853734723031:=()
def tw11678256480775389978:=()
def tw4414226641554464303:=()
def tw5534808124707676999:=()
def tw2153549198056333051:=()
def tw9585030866249292823:=()
def tw9865514096504692108:=()
def tw12992541443064593848:=()
def tw1304447399612119428:=()
def tw245316234027788950:=()
def tw12487374819751047720:=()
def tw14081535677527695641:=()
def tw9549529726124408186:=()
def tw3584502898037750202:=()
def tw1230654514205756399:=()
def tw11120981750156685168:=()
def tw14483246337355647032:=()
def tw8318606466757694423:=()
def tw2186435049552016971:=()
def tw10209000303586020425:=()
def tw15499517530229894347:=()
def tw6334651429315903844:=()
def tw1883229950517852226:=()
def tw578629407221248012:=()
def tw17283032247403329623:=()
def tw4100796773704294134:=()
def tw9549910099071096298:=()
def tw8072209294909006616:=()
def tw4229658516797567007:=()
def tw15138036154657380064:=()
def tw3230614405950054403:=()
def tw2243965318358608739:=()
def tw12973294727969310688:=()
def tw11922732550831531943:=()
def tw7000277049828348807:=()
def tw2166883883142122739:=()
def tw15900006408491523182:=()
def tw10053328008078930508:=()
def tw9764631016527982375:=()
def tw1818566836479022466:=()
def tw17272671482144963923:=()
def tw14170802259741490934:=()
def tw13162865901171260195:=()
def tw10935774654598389697:=()
def tw16222266160065434506:=()
def tw1257109205185657071:=()
def tw9983276941849125842:=()
def tw2659936878423435031:=()
def tw2458298558422294415:=()
def tw14726012178601957612:=()
def tw14159654204716360095:=()
def tw16688020583953877337:=()
def tw11838537553416242439:=()
def tw700200207951873914:=()
def tw5637729167840167023:=()
def tw92862234121748324:=()
def tw37978946524358675:=()
def tw2333328455709643837:=()
def tw15168091121218505191:=()
def tw13638903069849532777:=()
def tw6421355973487254117:=()
def tw441380010162380354:=()
def tw9061149512700972006:=()
def tw666435620762614300:=()
def tw3735212080894699918:=()
def tw2613088832616113260:=()
def tw17085846590997608321:=()
def tw383741646253856414:=()
def tw16236171275654513577:=()
def tw13942748177034203234:=()
def tw7937933792171908310:=()
def tw15204362727263844290:=()
def tw11445909818714030738:=()
def tw13253475258212026044:=()
end PySem.W.Fast
namespace My
open PySem L2
def tj (K:PySem.W.Frag):Sp:=fun vs H Q _=>∃ (l:Addr) (ns:List Int),vs=[.ref l]∧SqL K H l (ns.map V.int)∧ns.length≤63∧∀ H',Q (.bl true) H'
theorem all_mk {l:PySem.W.OpenLaw} {w:World} {K:PySem.W.Frag} {mg:Str→Option Value} {fa:Addr} (hfa:mg "law"=some (.ref fa)) (T:Txt K mg) :
  ∃ fd:FuncData,(∀ (s:Shared) (v:Value),BindsTo s fd ⟨[v],[]⟩ [("script",v)])∧∀ base:Heap,K.In base→base.Ns mainGlobals mg→fw l.prog w K mg base CX0 46 fa fd ["script"] (tj K):=by
 obtain ⟨f,fd,m,kp,b,F⟩:=Bc (P:=l.prog) (w:=w) T
 have e2:f=fa:=(Value.ref.inj (Option.some.inj (hfa.symm.trans m))).symm
 subst e2
 refine ⟨fd,fun s v=>.of_eq (b [v] rfl),fun base _ _=>(F base).imp fun vs H Q E h=>?_⟩
 obtain ⟨l,ns,rfl,hS,hl,hQ⟩:=h
 refine ⟨fun _=>l,[],[.sc ns],⟨fun n o h=>(by cases h),fun n m o o' h=>(by cases h)⟩,.cons ⟨l,rfl,SqL.mono (fun b o h=>bO h (by rintro ⟨n,o',e,_⟩;cases e)) hS⟩ .nil,?_⟩
 rw [xP ns]
 intro b μ' H' st r
 cases r
 exact hQ H'
theorem walk {l:PySem.W.OpenLaw} {q:Program} {loose:List Str} {XP:(Str→Option Value)→Heap→Prop} {YP:World→Heap→Prop} {d:DefRec} {K:Params→PySem.W.Frag} (hn:l.most=some 63) (hdf:d.params.defaults=[])
  (hY:∀ (w:World) (h:Heap),YP w h→(K w.params).In h)
  (F:∀ (w:World) (mg:Str→Option Value) (fa:Addr) (h:Heap),(K w.params).In h→h.Ns mainGlobals mg→mg d.name=some (.ref fa) →
   ∃ fd:FuncData,(∀ (s:Shared) (u:Value),BindsTo s fd ⟨[u],[]⟩ [("script",u)])∧∀ base:Heap,(K w.params).In base→base.Ns mainGlobals mg→fw l.prog w (K w.params) mg base CX0 46 fa fd ["script"] (tj (K w.params))) :
  PySem.W.WalkO q loose XP YP l.row.toRowW d [] (fun f vs=>PySem.call f vs):=
 L2.ze (n:=63) (k:=46) (x:="script") (CX:=fun _=>CX0) (sp:=fun w=>tj (K w.params)) hn (by decide) hdf ⟨rfl,by decide,by decide⟩ hY F (fun _ _ a ns hl _ hS=>⟨a,ns,rfl,hS,hl,fun _=>rfl⟩) fun _ _ _ _ _ z=>z
end My
open PySem PySem.W PyProof.Rows
set_option maxRecDepth 100000 in
set_option maxHeartbeats 0 in
theorem PySem.Challenge.cw_wishstrike_k31_which_trees_of_orders_holds : PySem.Challenge.rw_wishstrike_k31_which_trees_of_orders.Holds := by
  w_on;o_law;k_head;(case hw=>w_witness2)
  k_fill
  refine My.walk (l:=PySem.Challenge.rw_wishstrike_k31_which_trees_of_orders) rfl rfl (fun w h Y=>PySem.W.kIn_of Y) ?F
  case F=>
    intro w mg fa h KX G hmg
    refine' My.all_mk hmg ?T
    (case T=>constructor<;>first | (refine' PySem.W.mg_none_of KX G ?z;(case z=>k_is)) | (refine' L2.EE KX G ?a ?l ?c ?k;(case a=>k_is);(case l=>k_is);(case c=>k_is);(case k=>k_is)))
#print axioms PySem.Challenge.cw_wishstrike_k31_which_trees_of_orders_holds
