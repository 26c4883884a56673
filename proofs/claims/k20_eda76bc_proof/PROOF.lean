import PyProof.Rows.All
import Wide.All
import OpenK.AllK
import Wide.FinOn
import Lean
import PyProof.EqAt
import PyProof.EqKinds
import PyProof.TupleCall
import PySem.Challenge.RW_wishstrike_k20_sums_or_not
set_option Elab.async false
set_option linter.all false
set_option maxRecDepth 100000
namespace L2
open PySem PySem.Spec PyProof.Rows
abbrev Key:=Sum Int Str
def k9:Key→Value→Bool
 | .inl k,v=>Value.isInt k v
 | .inr x,v=>Value.isStrOf x v
def I0 (w:World):Key→Int
 | .inl k=>hashInt k
 | .inr x=>hashStr w x
theorem bR:∀ {k:Key} {v:Value},k9 k v=true→(∃ i t,k=Sum.inl i∧v=Value.int i t)∨(∃ x t,k=Sum.inr x∧v=Value.str x t)
 | .inl i,v,h=>by
  obtain ⟨t,e⟩:=Value.isInt_shape (k:=i) (v:=v) h
  exact .inl ⟨i,t,rfl,e⟩
 | .inr x,v,h=>by
  obtain ⟨t,e⟩:=Value.isStrOf_shape (x:=x) (v:=v) h
  exact .inr ⟨x,t,rfl,e⟩
theorem yC (i:Int) (t:Tok):k9 (.inl i) (.int i t)=true:=by simp [k9,Value.isInt]
theorem wg (x:Str) (t:Tok):k9 (.inr x) (.str x t)=true:=by simp [k9,Value.isStrOf]
theorem E9 (a b:Int):decide ((Sum.inl a:Key)=Sum.inl b)=(a == b):=by
 by_cases e:a=b
 ·subst e;simp
 ·have h:¬(Sum.inl a:Key)=Sum.inl b:=fun q=>e (Sum.inl.inj q)
  rw [decide_eq_false h]
  exact (beq_eq_false_iff_ne.mpr e).symm
theorem Et (a b:Str):decide ((Sum.inr a:Key)=Sum.inr b)=decide (a=b):=by
 by_cases e:a=b
 ·subst e;simp
 ·have h:¬(Sum.inr a:Key)=Sum.inr b:=fun q=>e (Sum.inr.inj q)
  rw [decide_eq_false h,decide_eq_false e]
theorem Ed (a:Int) (b:Str):decide ((Sum.inl a:Key)=Sum.inr b)=false:=decide_eq_false (fun q=>nomatch q)
theorem EI (a:Str) (b:Int):decide ((Sum.inr a:Key)=Sum.inl b)=false:=decide_eq_false (fun q=>nomatch q)
def aR (prog:Program) (w:World):PySem.KeyKind prog w Key where
 is:=k9
 hash:=I0 w
 inj:=fun v a b ha hb=>by
  rcases bR ha with ⟨i,t,rfl,rfl⟩ | ⟨x,t,rfl,rfl⟩
  ·rcases bR hb with ⟨j,u,rfl,e⟩ | ⟨y,u,rfl,e⟩
   ·injection e with e1 _;rw [e1]
   ·exact nomatch e
  ·rcases bR hb with ⟨j,u,rfl,e⟩ | ⟨y,u,rfl,e⟩
   ·exact nomatch e
   ·injection e with e1 _;rw [e1]
 byValue:=fun k v h=>by
  rcases bR h with ⟨i,t,rfl,rfl⟩ | ⟨x,t,rfl,rfl⟩<;>rfl
 pyHash:=fun hv h=>by
  rcases bR hv with ⟨i,t,rfl,rfl⟩ | ⟨x,t,rfl,rfl⟩
  ·exact wpAny_pyHash_int h
  ·exact wpAny_pyHash_str h
 eqBool:=fun hu hv h=>by
  rcases bR hu with ⟨i,t,rfl,rfl⟩ | ⟨x,t,rfl,rfl⟩
  ·rcases bR hv with ⟨j,u,rfl,rfl⟩ | ⟨y,u,rfl,rfl⟩
   ·rw [E9] at h;exact wpAny_eqBool_int h
   ·rw [Ed] at h;exact SeqAt.EqAt.int_str i t y u _ _ _ _ h
  ·rcases bR hv with ⟨j,u,rfl,rfl⟩ | ⟨y,u,rfl,rfl⟩
   ·rw [EI] at h;exact SeqAt.EqAt.str_int x t j u _ _ _ _ h
   ·rw [Et] at h;exact wpAny_eqBool_str h
 «strs»:=fun k x t v h=>by
  rcases bR h with ⟨i,u,rfl,e⟩ | ⟨y,u,rfl,e⟩
  ·exact nomatch e
  ·injection e with e1 _
   subst e1
   cases v<;>rfl
theorem sS (prog:Program) (w:World) (i:Int) (t:Tok):(aR prog w).is (.inl i) (.int i t)=true:=yC i t
theorem sX (prog:Program) (w:World) (x:Str) (t:Tok):(aR prog w).is (.inr x) (.str x t)=true:=wg x t
inductive V where
 | non | bl (b:Bool) | int (i:Int) | str (x:Str) | byt (b:Array UInt8) | flt (b:UInt64) | ref (a:Addr) | ty (n:String)
 deriving DecidableEq
def RelV:V→Value→Prop
 | .non,u=>u=Value.none
 | .bl b,u=>u=Value.bool b
 | .int i,u=>∃ t,u=Value.int i t
 | .str x,u=>∃ t,u=Value.str x t
 | .byt b,u=>∃ t,u=Value.bytes b t
 | .flt b,u=>∃ t,u=Value.float b t
 | .ref a,u=>u=Value.ref a
 | .ty n,u=>u=Value.type n
abbrev Vals:List V→List Value→Prop:=Paired RelV
theorem Vals.length {xs:List V} {us:List Value} (r:Vals xs us):xs.length=us.length:=Paired.length r
theorem Vals.get:∀ {xs:List V} {us:List Value} {i:Nat} {x:V},Vals xs us→xs[i]?=some x→∃ u,us[i]?=some u∧RelV x u
 | _,_,_,_,.nil,e=>by simp at e
 | _,_,0,_,.cons r _,e=>by simp at e;subst e;exact ⟨_,rfl,r⟩
 | _,_,i+1,x,.cons _ t,e=>by
  obtain ⟨u,h1,h2⟩:=Vals.get (i:=i) (x:=x) t (by simpa using e)
  exact ⟨u,by simpa using h1,h2⟩
theorem Vals.set {x:V} {u:Value} (r:RelV x u):∀ {xs:List V} {us:List Value} (i:Nat),Vals xs us→Vals (xs.set i x) (us.set i u)
 | _,_,_,.nil=>.nil
 | _,_,0,.cons _ t=>.cons r t
 | _,_,i+1,.cons q t=>.cons q (Vals.set r i t)
theorem Vals.append:∀ {xs ys:List V} {us ws:List Value},Vals xs us→Vals ys ws→Vals (xs++ys) (us++ws)
 | _,_,_,_,.nil,s=>s
 | _,_,_,_,.cons r t,s=>.cons r (Vals.append t s)
theorem Vals.take:∀ {xs:List V} {us:List Value} (n:Nat),Vals xs us→Vals (xs.take n) (us.take n)
 | _,_,0,_=>.nil
 | _,_,_+1,.nil=>.nil
 | _,_,n+1,.cons r t=>.cons r (Vals.take n t)
theorem Vals.drop:∀ {xs:List V} {us:List Value} (n:Nat),Vals xs us→Vals (xs.drop n) (us.drop n)
 | _,_,0,r=>r
 | _,_,_+1,.nil=>.nil
 | _,_,n+1,.cons _ t=>Vals.drop n t
def fc:Option V→Option Value→Prop
 | some v,some u=>RelV v u
 | none,none=>True
 | _,_=>False
def KV {κ:Type}:List (κ×V)→List (κ×Value)→Prop:=Paired fun (p:κ×V) (q:κ×Value)=>p.1=q.1∧RelV p.2 q.2
def kV:Key→V
 | .inl i=>.int i
 | .inr x=>.str x
inductive HO where
 | lst (xs:List V)
 | tup (xs:List V)
 | dK (kvs:List (Key×V)) | dT (kvs:List (List Key×V))
 | set (S:Int→Bool) (n:Nat)
 | ins (C dx:Addr) (fs:List (Str×V))
 | own (x:Addr)
 | xd (fs:List (Str×V))
 | met (f x:Addr)
 | rng (lo hi:Int)
 | frz (o:Obj) (u:HO)
 | tbl (ps:Array Value)
 | ext (φ:Heap→Prop)
abbrev Hp:=Addr→Option HO
def upd (H:Hp) (a:Addr) (o:HO):Hp:=fun b=>if b=a then some o else H b
theorem bO {H:Hp} {a:Addr} {o:HO}:upd H a o a=some o:=by unfold upd;rw [if_pos rfl]
theorem aI {H:Hp} {a b:Addr} {o:HO} (h:b≠a):upd H a o b=H b:=by unfold upd;rw [if_neg h]
theorem Gf {H:Hp} {a b:Addr} {o u:HO} (h:H a=some o) (h':H b=some u) (d:o≠u):a≠b:=by
 intro e;subst e;rw [h] at h';exact d (Option.some.inj h')
theorem ba {H:Hp} {a b:Addr} {o:HO} (h:H a=some o) (h':H b=none):a≠b:=by
 intro e;subst e;rw [h] at h';cases h'
section
variable (P:Program) (w:World)
def bz (H:Hp) (h:Heap) (a:Addr):HO→Prop
 | .lst xs=>xs.length≤sizeLine∧∃ (its:List Value) (n:Nat),Vals xs its∧h.get? a=some { cls:=.type "list",data:=.seq its.toArray n }
 | .tup xs=>xs.length≤sizeLine∧∃ its:List Value,Vals xs its∧IsTup h a its.toArray
 | .dK kvs=>kvs.length≤sizeLine∧(a == sysModules)=false∧∃ vs,KV kvs vs∧h.DictOf (aR P w) a vs
 | .dT kvs=>kvs.length≤sizeLine∧(a == sysModules)=false∧∃ xs:List (List Key×Addr×Value),
   Paired (fun (p:List Key×V) (q:List Key×Addr×Value)=>p.1=q.1∧H q.2.1=some (.tup (p.1.map kV))∧RelV p.2 q.2.2) kvs xs ∧
   ∃ o es ep,h.get? a=some o∧o.ExactDict∧o.data=.dict es ep∧es.toList=xs.map (entryOfKey (tupleKind (aR P w)))∧(xs.map (·.1)).Nodup
 | .set S n=>h.SetOf (intKind P w) a S n
 | .ins C dx fs=>H dx=some (.own a)∧fs.length≤1000∧dx≠a∧h.get? a=some (PySem.W.instObj C dx) ∧
   ∃ mA,h.Ns1 dx mA∧(∀ f,fc (fs.lookup f) (mA f))∧PySem.Within mA (fs.map (·.1))
 | .own _=>∃ o,h.get? a=some o
 | .xd fs=>∃ mA,h.Ns1 a mA∧∀ f,fc (fs.lookup f) (mA f)
 | .rng lo hi=>∃ t u v,h.get? a=some { cls:=.type "range",data:=.fields #[.int lo t,.int hi u,.int 1 v] }
 | .frz o u=>h.get? a=some o∧bz H h a u
 | .tbl ps=>h.get? a=some { cls:=.none,data:=.fields ps }
 | .met f x=>h.get? a=some (PySem.W.methodObj (.ref f) (.ref x))
 | .ext φ=>φ h∧(∃ o,h.get? a=some o)∧∀ h1 h2:Heap,φ h1→(∀ o,h1.get? a=some o→h2.get? a=some o)→φ h2
def HOk (H:Hp) (h:Heap):Prop:=∀ a o,H a=some o→bz P w H h a o
end
section
variable {P:Program} {w:World} {H H':Hp} {h h':Heap} {a:Addr} {o:HO}
theorem bz.lt (x:bz P w H h a o):a < h.objs.size:=by
 cases o with
 | lst xs=>obtain ⟨_,_,_,_,e⟩:=x;exact Heap.lt_size e
 | tup xs=>obtain ⟨_,_,_,p⟩:=x;exact p.lt
 | dK kvs=>obtain ⟨_,_,_,_,o,_,_,e,_⟩:=x;exact Heap.lt_size e
 | dT kvs=>obtain ⟨_,_,_,_,o,_,_,e,_⟩:=x;exact Heap.lt_size e
 | set S n=>obtain ⟨o,_,_,_,e,_⟩:=x;exact Heap.lt_size e
 | ins C dx fs=>obtain ⟨_,_,_,e,_⟩:=x;exact Heap.lt_size e
 | own y=>obtain ⟨_,e⟩:=x;exact Heap.lt_size e
 | xd fs=>obtain ⟨_,⟨_,_,_,e,_⟩,_⟩:=x;exact Heap.lt_size e
 | rng lo hi=>obtain ⟨_,_,_,e⟩:=x;exact Heap.lt_size e
 | frz ob u=>obtain ⟨e,_⟩:=x;exact Heap.lt_size e
 | tbl ps=>exact Heap.lt_size (show h.get? a=some _ from x)
 | met f y=>exact Heap.lt_size (show h.get? a=some _ from x)
 | ext φ=>obtain ⟨_,⟨_,e⟩,_⟩:=x;exact Heap.lt_size e
theorem Paired.zD {α β:Type} {F G:α→β→Prop}:∀ {l₁:List α} {l₂:List β},Paired F l₁ l₂→(∀ a b,F a b→G a b)→Paired G l₁ l₂
 | _,_,.nil,_=>.nil
 | _,_,.cons r t,f=>.cons (f _ _ r) (Paired.zD t f)
theorem bz.l6 (x:bz P w H h a o) (k:∀ b u,(b=a∨H b=some (.own a))→h.get? b=some u→h'.get? b=some u)
  (ho:∀ b,H b=some (.own a)→H' b=some (.own a)) (ht:∀ b xs,H b=some (.tup xs)→H' b=some (.tup xs)):bz P w H' h' a o:=by
 induction o with
 | lst xs=>obtain ⟨z,its,n,r,e⟩:=x;exact ⟨z,its,n,r,k _ _ (.inl rfl) e⟩
 | tup xs=>obtain ⟨z,its,r,ob,e,c⟩:=x;exact ⟨z,its,r,ob,k _ _ (.inl rfl) e,c⟩
 | dK kvs=>obtain ⟨z,y,vs,r,ob,es,ep,e,c⟩:=x;exact ⟨z,y,vs,r,ob,es,ep,k _ _ (.inl rfl) e,c⟩
 | dT kvs=>
  obtain ⟨z,y,xs,r,ob,es,ep,e,c⟩:=x
  exact ⟨z,y,xs,Paired.zD r fun p q z=>⟨z.1,ht _ _ z.2.1,z.2.2⟩,ob,es,ep,k _ _ (.inl rfl) e,c⟩
 | set S n=>obtain ⟨ob,es,ep,t,e,c⟩:=x;exact ⟨ob,es,ep,t,k _ _ (.inl rfl) e,c⟩
 | ins C dx fs=>
  obtain ⟨d,z,ne,e,mA,⟨od,es,ep,e2,c⟩,r⟩:=x
  exact ⟨ho _ d,z,ne,k _ _ (.inl rfl) e,mA,⟨od,es,ep,k _ _ (.inr d) e2,c⟩,r⟩
 | own y=>obtain ⟨ob,e⟩:=x;exact ⟨ob,k _ _ (.inl rfl) e⟩
 | xd fs=>obtain ⟨mA,⟨od,es,ep,e,c⟩,r⟩:=x;exact ⟨mA,⟨od,es,ep,k _ _ (.inl rfl) e,c⟩,r⟩
 | rng lo hi=>obtain ⟨t,u,v,e⟩:=x;exact ⟨t,u,v,k _ _ (.inl rfl) e⟩
 | frz ob u ih=>obtain ⟨e,q⟩:=x;exact ⟨k _ _ (.inl rfl) e,ih q⟩
 | tbl ps=>
  have e:h.get? a=some { cls:=.none,data:=.fields ps }:=x
  show h'.get? a=some { cls:=.none,data:=.fields ps }
  exact k a _ (.inl rfl) e
 | met f y=>
  have e:h.get? a=some (PySem.W.methodObj (.ref f) (.ref y)):=x
  show h'.get? a=some (PySem.W.methodObj (.ref f) (.ref y))
  exact k a _ (.inl rfl) e
 | ext φ=>obtain ⟨p,⟨o,e⟩,st⟩:=x;exact ⟨st _ _ p fun o q=>k _ _ (.inl rfl) q,⟨o,k _ _ (.inl rfl) e⟩,st⟩
theorem HOk.lt (x:HOk P w H h) (e:H a=some o):a < h.objs.size:=(x a o e).lt
theorem HOk.fresh (x:HOk P w H h) (e:h.objs.size≤a):H a=none:=by
 cases q:H a with
 | none=>rfl
 | some u=>exact absurd (Nat.lt_of_lt_of_le (x.lt q) e) (Nat.lt_irrefl _)
theorem HOk.kept (x:HOk P w H h) (k:∀ b u,h.get? b=some u→h'.get? b=some u):HOk P w H h':=fun a o e=>
 (x a o e).l6 (fun b u _ q=>k b u q) (fun _ q=>q) fun _ _ q=>q
theorem HOk.laid (x:HOk P w H h) (k:∀ b u,h.get? b=some u→h'.get? b=some u) (hp:h.objs.size≤a) (new:bz P w (upd H a o) h' a o):HOk P w (upd H a o) h':=fun b u e=>by
 have hn:=x.fresh hp
 by_cases hb:b=a
 ·subst hb;rw [bO] at e;cases e;exact new
 ·rw [aI hb] at e
  exact (x b u e).l6 (fun c v _ q=>k c v q) (fun c q=>by rw [aI (ba q hn)];exact q) fun c xs q=>by rw [aI (ba q hn)];exact q
end
def Rd (H:Hp) (a:Addr) (u:HO):Prop:=H a=some u∨∃ o,H a=some (.frz o u)
theorem Rd.ok {P:Program} {w:World} {H:Hp} {h:Heap} {a:Addr} {u:HO} (r:Rd H a u) (x:HOk P w H h):bz P w H h a u:=by
 rcases r with r | ⟨o,r⟩
 ·exact x a u r
 ·obtain ⟨_,q⟩:=x a _ r
  exact q
def Mut:Option HO→Prop
 | some (.lst _)=>True
 | some (.dK _)=>True
 | some (.dT _)=>True
 | some (.set _ _)=>True
 | some (.ins _ _ _)=>True
 | some (.ext _)=>True
 | _=>False
section
variable {P:Program} {w:World} {H:Hp} {h h':Heap} {x e:Addr} {o':HO}
theorem HOk.write (ok:HOk P w H h) (mu:Mut (H x)) (he:e=x∨H e=some (.own x)) (k:∀ b u,b≠e→h.get? b=some u→h'.get? b=some u) (heo:∃ u,h'.get? e=some u)
  (new:bz P w (upd H x o') h' x o'):HOk P w (upd H x o') h':=fun b u q=>by
 have nown:∀ c y,H c=some (.own y)→c≠x:=fun c y r z=>by subst z;rw [r] at mu;exact mu
 have ntup:∀ c xs,H c=some (.tup xs)→c≠x:=fun c xs r z=>by subst z;rw [r] at mu;exact mu
 by_cases hb:b=x
 ·subst hb;rw [bO] at q;cases q;exact new
 ·rw [aI hb] at q
  by_cases hbe:b=e
  ·have q':H b=some (.own x):=by
    rcases he with z | z
    ·exact absurd (hbe.trans z) hb
    ·rw [hbe];exact z
   rw [q] at q';cases q'
   obtain ⟨v,hv⟩:=heo
   exact ⟨v,by rw [hbe];exact hv⟩
  ·refine (ok b u q).l6 (fun c v hc r=>k c v ?_ r) (fun c r=>by rw [aI (nown c b r)];exact r) fun c xs r=>by rw [aI (ntup c xs r)];exact r
   rcases hc with rfl | hc
   ·exact hbe
   ·rintro rfl
    rcases he with z | z
    ·exact nown c b hc z
    ·rw [hc] at z;cases z;exact hb rfl
end
structure Un (fs ex:List Addr) (H H':Hp) (h h':Heap):Prop where
 keep:∀ b o,h.get? b=some o→H b=none→b∉fs→b∉ex→h'.get? b=some o
 slot:∀ b o,h.get? b=some o→H b=none→b∈fs→b∉ex→∃ sl,h'.get? b=some { o with slots:=sl }
 free:∀ b o,h.get? b=some o→H b=none→b∉ex→H' b=none
 there:∀ b o,h.get? b=some o→b∉ex→∃ o',h'.get? b=some o'
 tups:∀ b xs,H b=some (.tup xs)→H' b=some (.tup xs)
 frzs:∀ b o u,H b=some (.frz o u)→H' b=some (.frz o u)
 tbls:∀ b ps,H b=some (.tbl ps)→∃ more,H' b=some (.tbl (ps++more))
section
variable {fs fs' ex ex':List Addr} {H H1 H2:Hp} {h h1 h2 h':Heap} {a x e:Addr} {o:HO}
theorem Un.any (u:Un fs ex H H1 h h1) {b:Addr} {ob:Obj} (q:h.get? b=some ob) (n:H b=none) (hx:b∉ex):∃ sl,h1.get? b=some { ob with slots:=sl }:=by
 by_cases hb:b∈fs
 ·exact u.slot b ob q n hb hx
 ·exact ⟨ob.slots,u.keep b ob q n hb hx⟩
theorem Un.kept (k:∀ b u,h.get? b=some u→h'.get? b=some u):Un fs ex H H h h':=
 ⟨fun b ob q _ _ _=>k b ob q,fun b ob q _ _ _=>⟨ob.slots,k b ob q⟩,fun _ _ _ n _=>n,fun b ob q _=>⟨ob,k b ob q⟩,fun _ _ q=>q,fun _ _ _ q=>q,fun _ ps q=>⟨#[],by rw [q];simp⟩⟩
theorem Un.refl:Un fs ex H H h h:=Un.kept fun _ _ q=>q
theorem Un.laid (k:∀ b u,h.get? b=some u→h'.get? b=some u) (hp:h.objs.size≤a) (hn:H a=none):Un fs ex H (upd H a o) h h' where
 keep:=fun b u q _ _ _=>k b u q
 slot:=fun b u q _ _ _=>⟨u.slots,k b u q⟩
 free:=fun b u q n _=>by rw [aI (Nat.ne_of_lt (Nat.lt_of_lt_of_le (Heap.lt_size q) hp))];exact n
 there:=fun b u q _=>⟨u,k b u q⟩
 tups:=fun b xs q=>by rw [aI (ba q hn)];exact q
 frzs:=fun b u xs q=>by rw [aI (ba q hn)];exact q
 tbls:=fun b ps q=>⟨#[],by rw [aI (ba q hn),q];simp⟩
theorem Un.write (mu:Mut (H x)) (he:e=x∨H e=some (.own x)) (k:∀ b u,b≠e→h.get? b=some u→h'.get? b=some u) (heo:∃ u,h'.get? e=some u):Un fs ex H (upd H x o) h h':=by
 have hx:∀ b,H b=none→b≠x:=fun b n z=>by subst z;rw [n] at mu;exact mu
 have hb:∀ b,H b=none→b≠e:=fun b n z=>by
  subst z
  rcases he with r | r
  ·exact hx b n r
  ·rw [n] at r;cases r
 have hm:∀ b u,H b=some u→¬Mut (some u)→b≠x:=fun b u q nm z=>by subst z;rw [q] at mu;exact nm mu
 refine ⟨fun b u q n _ _=>k b u (hb b n) q,fun b u q n _ _=>⟨u.slots,k b u (hb b n) q⟩,fun b u q n _=>by rw [aI (hx b n)];exact n,fun b u q _=>?_,
  fun b xs q=>by rw [aI (hm b _ q fun z=>z)];exact q,fun b u xs q=>by rw [aI (hm b _ q fun z=>z)];exact q,fun b ps q=>⟨#[],by rw [aI (hm b _ q fun z=>z),q];simp⟩⟩
 by_cases hbe:b=e
 ·subst hbe;exact heo
 ·exact ⟨u,k b u hbe q⟩
end
def trk (h:Heap) (H:Hp):List Addr:=(List.range h.objs.size).filter fun a=>(H a).isSome
def jd (h:Heap) (H:Hp):Heap:=PySem.W.hideAll h (trk h H)
theorem wu (h:Heap) (H:Hp):(jd h H).objs.size=h.objs.size:=PySem.W.hideAll_size _ _
theorem zf {h:Heap} {H:Hp} {b:Addr} {o:Obj} (e:h.get? b=some o) (n:H b=none):(jd h H).get? b=some o:=
 PySem.W.hideAll_get _ e fun hm=>by
  have q:(H b).isSome=true:=(List.mem_filter.mp hm).2
  rw [n] at q;simp at q
theorem De {h:Heap} {H:Hp} {b:Addr} {o:Obj} (e:(jd h H).get? b=some o):h.get? b=some o∧H b=none:=by
 have e':h.get? b=some o:=PySem.W.of_hideAll (trk h H) e
 refine ⟨e',?_⟩
 cases q:H b with
 | none=>rfl
 | some x=>
  have hm:b∈trk h H:=List.mem_filter.mpr ⟨List.mem_range.mpr (Heap.lt_size e'),by simp [q]⟩
  have z:(jd h H).get? b=none:=PySem.W.hideAll_none (trk h H) hm
  rw [z] at e;cases e
def BU (g h:Heap) (L:Addr):List (Addr×Obj):=(List.range h.objs.size).filterMap fun a=>if a=L∨(g.get? a).isSome=true then none else (h.get? a).map fun o=>(a,o)
def rest (g h:Heap) (L d:Addr):List (Addr×Obj):=(BU g h L).filter fun p=>decide (p.1≠d)
structure Mod (K:PySem.W.Frag) (mg:Str→Option Value) (base:Heap):Prop where
 kin:K.In base
 glob:base.Ns mainGlobals mg
 blt:∃ mb,base.Ns builtinsNs mb∧∀ x:Str,x≠"__name__"→mb x=bootBuiltins x
 nolimit:base.NoLimit
structure Cx where
 prog:Program
 w:World
 K:PySem.W.Frag
 mg:Str→Option Value
 base:Heap
 A:Around
 N:List Str
 s₀:Shared
 H₀:Hp
 env:Env
 outer:List Env
 stack:List Env
 ex:List Addr
 fn:Str→Bool
 calm:Bool
 pn:List (Addr×Obj)
 xe:Value→Shared→Prop
def frs (l:List Env):List Addr:=l.filterMap (·.frame)
abbrev Cx.fs (X:Cx):List Addr:=frs X.outer
def Vis (sc:Scope) (x:Str):Prop:=sc.names.lookup x=some .local∨sc.names.lookup x=some .cell∨sc.names.lookup x=some .free
def Loc (sc:Scope) (x:Str):Prop:=sc.names.lookup x=some .local∨sc.names.lookup x=some .cell
def Look (env:Env) (h:Heap) (m:Str→Option Value) (x:Str) (u:Value):Prop:=
 (env.kindOf x=some .local∧m x=some u)∨((env.kindOf x=some .cell∨env.kindOf x=some .free)∧∃ c,env.cells.lookup x=some c∧h.IsCell c (some u))
structure Cx.Ok (X:Cx):Prop where
 mod:Mod X.K X.mg X.base
 kind:X.env.scope.kind=.function
 glob:X.env.globals=mainGlobals
 blt:X.env.builtins=builtinsNs
 above:X.s₀.heap.objs.size≤X.env.locals
 inj:∀ x y c,X.env.cells.lookup x=some c→X.env.cells.lookup y=some c→x=y
 has:∀ x,(X.env.kindOf x=some .cell∨X.env.kindOf x=some .free)→∃ c,X.env.cells.lookup x=some c
 cab:∀ x c,X.fn x=true→X.env.cells.lookup x=some c→X.s₀.heap.objs.size≤c
 hd:X.calm=true→X.A.handled=none
 frames:X.A.frames=some X.stack
 stk:X.stack=X.outer∨(X.stack=X.env :: X.outer∧X.env.frame=some X.env.locals)
 exf:∀ b∈X.ex,b≠X.env.locals∧∀ x c,X.env.cells.lookup x=some c→c≠b
 bs:∀ b o,X.base.get? b=some o→X.s₀.heap.get? b=some o∧X.H₀ b=none
 bsz:X.base.objs.size≤X.s₀.heap.objs.size
 noex:∀ b o,X.base.get? b=some o→b∉X.ex
 exfs:∀ b∈X.ex,b∉X.fs
 gR:X.s₀.heap.FunFrames X.base X.outer
 frf:∀ b∈X.fs,X.H₀ b=none
structure Inv (X:Cx) (pins:List (Addr×Obj)) (σ:List (Option V)) (H:Hp) (s:Shared):Prop where
 ok:X.Ok
 os:s.os=X.s₀.os
 bare:AllBare s.gens
 base:Un X.fs X.ex X.H₀ H X.s₀.heap s.heap
 loc:∃ m,s.heap.Ns X.env.locals m∧∀ (i:Nat) (x:Str) (v:V),X.N[i]?=some x→σ[i]?=some (some v)→Vis X.env.scope x→∃ u,RelV v u∧Look X.env s.heap m x u
 cell:∀ x c,X.env.cells.lookup x=some c→∃ v,s.heap.IsCell c v
 free:H X.env.locals=none
 freeC:∀ x c,X.env.cells.lookup x=some c→H c=none
 pin:∀ p∈X.pn++pins,s.heap.get? p.1=some p.2∧H p.1=none∧p.1≠X.env.locals∧p.1∉X.fs∧∀ v,p.2.data≠.cell v
 hok:HOk X.prog X.w H s.heap
 len:σ.length=X.N.length
section
variable {X:Cx} {pins:List (Addr×Obj)} {σ:List (Option V)} {H H':Hp} {s:Shared} {h':Heap}
theorem Cx.Ok.IU (ok:X.Ok) {b:Addr} {o:Obj} (e:X.base.get? b=some o):b∉X.fs:=fun hb=>by
 have:=(ok.gR.mem hb).1
 rw [e] at this;cases this
theorem Inv.bs (I:Inv X pins σ H s):∀ b o,X.base.get? b=some o→s.heap.get? b=some o∧H b=none:=fun b o e=>
 ⟨I.base.keep b o (I.ok.bs b o e).1 (I.ok.bs b o e).2 (I.ok.IU e) (I.ok.noex b o e),I.base.free b o (I.ok.bs b o e).1 (I.ok.bs b o e).2 (I.ok.noex b o e)⟩
theorem Inv.bk (I:Inv X pins σ H s):∀ b o,X.base.get? b=some o→s.heap.get? b=some o:=fun b o e=>(I.bs b o e).1
theorem Inv.mod (I:Inv X pins σ H s):Mod X.K X.mg X.base:=I.ok.mod
theorem Inv.kIn (I:Inv X pins σ H s):X.K.In s.heap:=I.ok.mod.kin.keeps I.bk
theorem Inv.lt (I:Inv X pins σ H s):X.env.locals < s.heap.objs.size:=let ⟨_,hn,_⟩:=I.loc;hn.lt
theorem Inv.sz (I:Inv X pins σ H s):X.s₀.heap.objs.size≤s.heap.objs.size:=Nat.le_trans I.ok.above (Nat.le_of_lt I.lt)
theorem Inv.F4 (I:Inv X pins σ H s) {a:Addr} (h:s.heap.objs.size≤a):a∉X.fs:=fun hb=>by
 obtain ⟨_,o,ho,_⟩:=I.ok.gR.mem hb
 exact absurd (Nat.lt_of_lt_of_le (Heap.lt_size ho) (Nat.le_trans I.sz h)) (Nat.lt_irrefl _)
theorem Inv.cne (I:Inv X pins σ H s):∀ x c,X.env.cells.lookup x=some c→c≠X.env.locals:=fun x c e z=>by
 obtain ⟨v,o,ho,hd⟩:=I.cell x c e
 obtain ⟨m,⟨o',es,ep,ho',hd',_⟩,_⟩:=I.loc
 rw [z,ho'] at ho;cases ho;rw [hd'] at hd;cases hd
theorem Inv.gR (I:Inv X pins σ H s):s.heap.FunFrames X.base X.outer:=by
 have all:∀ (l:List Env),(∀ b∈frs l,b∈X.fs)→X.s₀.heap.FunFrames X.base l→s.heap.FunFrames X.base l:=by
  intro l
  induction l with
  | nil=>intro _ _;trivial
  | cons env r ih=>
   intro hs hl
   obtain ⟨hk,⟨L,o,hf,hn,ho,hd⟩,hr⟩:=hl
   have hL:L∈X.fs:=hs L (by unfold frs;rw [List.filterMap_cons,hf];exact List.mem_cons_self)
   obtain ⟨sl,e⟩:=I.base.slot L o ho (I.ok.frf L hL) hL fun z=>I.ok.exfs L z hL
   exact ⟨hk,⟨L,_,hf,hn,e,hd⟩,ih (fun b hb=>hs b (by unfold frs;rw [List.filterMap_cons,hf];exact List.mem_cons_of_mem _ hb)) hr⟩
 exact all X.outer (fun _ hb=>hb) I.ok.gR
theorem Inv.stack (I:Inv X pins σ H s):s.heap.FunFrames X.base X.stack:=by
 rcases I.ok.stk with e | ⟨e,hf⟩
 ·rw [e];exact I.gR
 ·rw [e]
  obtain ⟨m,hn,_⟩:=I.loc
  refine .cons (by rw [I.ok.kind];decide) hf hn ?_ I.gR
  exact Heap.get?_none_of_le (Nat.le_trans I.ok.bsz I.ok.above)
theorem Inv.mC (I:Inv X pins σ H s):∀ b∈frs X.stack,b∈X.env.locals :: X.fs:=fun b hb=>by
 rcases I.ok.stk with e | ⟨e,hf⟩
 ·rw [e] at hb;exact List.mem_cons_of_mem _ hb
 ·rw [e] at hb
  unfold frs at hb
  rw [List.filterMap_cons,hf] at hb
  exact hb
theorem Inv.uH (I:Inv X pins σ H s):∀ b∈frs X.stack,H b=none:=fun b hb=>by
 rcases List.mem_cons.mp (I.mC b hb) with e | hb
 ·rw [e];exact I.free
 ·obtain ⟨_,o,ho,_⟩:=I.ok.gR.mem hb
  exact I.base.free b o ho (I.ok.frf b hb) fun z=>I.ok.exfs b z hb
theorem Inv.step {g':Array GenState} {t':Nat} {d':Drawn} {ch:List Addr} (I:Inv X pins σ H s)
  (hch:∀ b∈ch,(b∈X.ex∨X.s₀.heap.objs.size≤b)∧b≠X.env.locals∧(∀ x c,X.env.cells.lookup x=some c→c≠b)∧∀ p∈X.pn++pins,p.1≠b)
  (keep:∀ b o,b≠X.env.locals→b∉X.fs→b∉ch→s.heap.get? b=some o→H b=none→h'.get? b=some o)
  (slot:∀ b o,b≠X.env.locals→b∈X.fs→b∉ch→s.heap.get? b=some o→H b=none→∃ sl,h'.get? b=some { o with slots:=sl }) (free:∀ b o,b∉ch→s.heap.get? b=some o→H b=none→H' b=none)
  (there:∀ b o,b∉ch→s.heap.get? b=some o→∃ o',h'.get? b=some o')
  (tups:∀ b xs,H b=some (.tup xs)→H' b=some (.tup xs)) (frzs:∀ b o u,H b=some (.frz o u)→H' b=some (.frz o u)) (tbls:∀ b ps,H b=some (.tbl ps)→∃ more,H' b=some (.tbl (ps++more)))
  (ns:∀ m,s.heap.Ns X.env.locals m→h'.Ns X.env.locals m) (hok:HOk X.prog X.w H' h') (hg:AllBare g') :
  Inv X pins σ H' { s with heap:=h',gens:=g',drawn:=d',toks:=t' }:=by
 have neL:∀ b o,X.s₀.heap.get? b=some o→b≠X.env.locals:=fun b o e=>Nat.ne_of_lt (Nat.lt_of_lt_of_le (Heap.lt_size e) I.ok.above)
 have neC:∀ b o,X.s₀.heap.get? b=some o→b∉X.ex→b∉ch:=fun b o e hx hb=>by
  rcases (hch b hb).1 with z | z
  ·exact hx z
  ·exact absurd (Nat.lt_of_lt_of_le (Heap.lt_size e) z) (Nat.lt_irrefl _)
 have cellK:∀ x c,X.env.cells.lookup x=some c→∀ v,s.heap.IsCell c v→h'.IsCell c v:=fun x c e v ⟨o,ho,hd⟩=>by
  have nch:c∉ch:=fun z=>(hch c z).2.2.1 x c e rfl
  by_cases hc:c∈X.fs
  ·obtain ⟨sl,q⟩:=slot c o (I.cne x c e) hc nch ho (I.freeC x c e)
   exact ⟨_,q,hd⟩
  ·exact ⟨o,keep c o (I.cne x c e) hc nch ho (I.freeC x c e),hd⟩
 refine ⟨I.ok,I.os,hg,⟨fun b o e n hb hx=>?_,fun b o e n hb hx=>?_,fun b o e n hx=>?_,fun b o e hx=>?_,fun b xs e=>tups b xs (I.base.tups b xs e),fun b o xs e=>frzs b o xs (I.base.frzs b o xs e),fun b ps e=>?_⟩,?_,fun x c e=>?_,?_,fun x c e=>?_,fun p hp=>?_,hok,I.len⟩
 ·exact keep b o (neL b o e) hb (neC b o e hx) (I.base.keep b o e n hb hx) (I.base.free b o e n hx)
 ·obtain ⟨sl,e1⟩:=I.base.slot b o e n hb hx
  obtain ⟨sl',e2⟩:=slot b _ (neL b o e) hb (neC b o e hx) e1 (I.base.free b o e n hx)
  exact ⟨sl',e2⟩
 ·obtain ⟨o',e1⟩:=I.base.there b o e hx
  exact free b o' (neC b o e hx) e1 (I.base.free b o e n hx)
 ·obtain ⟨o',e1⟩:=I.base.there b o e hx
  exact there b o' (neC b o e hx) e1
 ·obtain ⟨m1,e1⟩:=I.base.tbls b ps e
  obtain ⟨m2,e2⟩:=tbls b _ e1
  exact ⟨m1++m2,by rw [e2,Array.append_assoc]⟩
 ·obtain ⟨m,hn,hl⟩:=I.loc
  refine ⟨m,ns m hn,fun i x v e1 e2 e3=>?_⟩
  obtain ⟨u,r,l⟩:=hl i x v e1 e2 e3
  refine ⟨u,r,?_⟩
  rcases l with l | ⟨k,c,e,z⟩
  ·exact .inl l
  ·exact .inr ⟨k,c,e,cellK x c e _ z⟩
 ·obtain ⟨v,z⟩:=I.cell x c e
  exact ⟨v,cellK x c e v z⟩
 ·obtain ⟨m,⟨o,_,_,ho,_⟩,_⟩:=I.loc
  exact free _ o (fun z=>(hch _ z).2.1 rfl) ho I.free
 ·obtain ⟨v,o,ho,hd⟩:=I.cell x c e
  exact free c o (fun z=>(hch c z).2.2.1 x c e rfl) ho (I.freeC x c e)
 ·obtain ⟨e,n,ne,nf,d⟩:=I.pin p hp
  have nch:p.1∉ch:=fun z=>(hch p.1 z).2.2.2 p hp rfl
  exact ⟨keep p.1 p.2 ne nf nch e n,free p.1 p.2 nch e n,ne,nf,d⟩
theorem Inv.un {t':Nat} (I:Inv X pins σ H s) (u:Un X.fs [] H H' s.heap h') (hok:HOk X.prog X.w H' h'):Inv X pins σ H' { s with heap:=h',toks:=t' }:=by
 obtain ⟨m,⟨o,es,ep,ho,r⟩,_⟩:=id I.loc
 obtain ⟨sl,hL⟩:=u.any ho I.free (by simp)
 exact I.step (g':=s.gens) (d':=s.drawn) (ch:=[]) (fun _ z=>nomatch z) (fun b o _ hb _ e n=>u.keep b o e n hb (by simp)) (fun b o _ hb _ e n=>u.slot b o e n hb (by simp)) (fun b o _ e n=>u.free b o e n (by simp)) (fun b o _ e=>u.there b o e (by simp)) u.tups u.frzs u.tbls (fun m' hm=>by
  obtain ⟨o',es',ep',ho',r'⟩:=hm
  rw [ho] at ho';cases ho'
  exact ⟨_,es',ep',hL,r'⟩) hok I.bare
theorem Inv.call {g':Array GenState} {t':Nat} {d':Drawn} {ch:List Addr} (I:Inv X pins σ H s) (u:Un (frs X.stack) ch H H' s.heap h') (hok:HOk X.prog X.w H' h') (hg:AllBare g')
  (hch:∀ b∈ch,(b∈X.ex∨X.s₀.heap.objs.size≤b)∧b≠X.env.locals∧(∀ x c,X.env.cells.lookup x=some c→c≠b)∧∀ p∈X.pn++pins,p.1≠b) :
  Inv X pins σ H' { s with heap:=h',gens:=g',drawn:=d',toks:=t' }:=by
 obtain ⟨m,⟨o,es,ep,ho,r⟩,_⟩:=id I.loc
 obtain ⟨sl,hL⟩:=u.any ho I.free fun z=>(hch _ z).2.1 rfl
 exact I.step (ch:=ch) hch (fun b o hL hb hc e n=>u.keep b o e n (fun z=>(List.mem_cons.mp (I.mC b z)).elim hL hb) hc) (fun b o _ _ hc e n=>u.any e n hc) (fun b o hc e n=>u.free b o e n hc) (fun b o hc e=>u.there b o e hc) u.tups u.frzs u.tbls (fun m' hm=>by
  obtain ⟨o',es',ep',ho',r'⟩:=hm
  rw [ho] at ho';cases ho'
  exact ⟨_,es',ep',hL,r'⟩) hok hg
theorem Inv.turned {t':Nat} {it:Addr} (I:Inv X pins σ H s) (k:∀ b o,b≠it→s.heap.get? b=some o→h'.get? b=some o) (hn:H it=none) (hL:it≠X.env.locals)
  (h1:it∈X.ex∨X.s₀.heap.objs.size≤it) (h2:∀ x c,X.env.cells.lookup x=some c→c≠it) (h3:∀ p∈X.pn++pins,p.1≠it):Inv X pins σ H { s with heap:=h',toks:=t' }:=by
 have nit:∀ b u,H b=some u→b≠it:=fun b u e z=>by rw [z,hn] at e;cases e
 refine I.step (g':=s.gens) (d':=s.drawn) (ch:=[it]) (fun b hb=>?_) (fun b o _ _ hc e _=>k b o (fun z=>hc (by simp [z])) e) (fun b o _ _ hc e _=>⟨o.slots,k b o (fun z=>hc (by simp [z])) e⟩) (fun _ _ _ _ n=>n)
  (fun b o hc e=>⟨o,k b o (fun z=>hc (by simp [z])) e⟩) (fun _ _ e=>e) (fun _ _ _ e=>e) (fun b ps e=>⟨#[],by rw [e];simp⟩) (fun m hm=>?_) (fun b u e=>?_) I.bare
 ·have e:b=it:=by simpa using hb
  subst e
  exact ⟨h1,hL,h2,h3⟩
 ·obtain ⟨o,es,ep,ho,r⟩:=hm
  exact ⟨o,es,ep,k _ o (Ne.symm hL) ho,r⟩
 ·refine (I.hok b u e).l6 (fun c v hc q=>k c v ?_ q) (fun _ q=>q) fun _ _ q=>q
  rcases hc with z | z
  ·rw [z];exact nit b u e
  ·exact nit c _ z
theorem Inv.tok (I:Inv X pins σ H s) (t:Nat):Inv X pins σ H { s with toks:=t }:=I.un (h':=s.heap) (t':=t) Un.refl I.hok
theorem Inv.kept {t':Nat} (I:Inv X pins σ H s) (k:∀ b u,s.heap.get? b=some u→h'.get? b=some u):Inv X pins σ H { s with heap:=h',toks:=t' }:=I.un (Un.kept k) (I.hok.kept k)
theorem Inv.laid {a:Addr} {o:HO} {t':Nat} (I:Inv X pins σ H s) (k:∀ b u,s.heap.get? b=some u→h'.get? b=some u) (hp:s.heap.objs.size≤a) (new:bz X.prog X.w (upd H a o) h' a o) :
  Inv X pins σ (upd H a o) { s with heap:=h',toks:=t' }:=I.un (Un.laid k hp (I.hok.fresh hp)) (I.hok.laid k hp new)
theorem Inv.write {x e:Addr} {o:HO} {t':Nat} (I:Inv X pins σ H s) (mu:Mut (H x)) (he:e=x∨H e=some (.own x)) (k:∀ b u,b≠e→s.heap.get? b=some u→h'.get? b=some u) (heo:∃ u,h'.get? e=some u)
  (new:bz X.prog X.w (upd H x o) h' x o):Inv X pins σ (upd H x o) { s with heap:=h',toks:=t' }:=I.un (Un.write mu he k heo) (I.hok.write mu he k heo new)
theorem Inv.ou {pins':List (Addr×Obj)} (I:Inv X pins σ H s) (h:∀ p∈pins',s.heap.get? p.1=some p.2∧H p.1=none∧p.1≠X.env.locals∧p.1∉X.fs∧∀ v,p.2.data≠.cell v):Inv X pins' σ H s:=
 ⟨I.ok,I.os,I.bare,I.base,I.loc,I.cell,I.free,I.freeC,fun p hp=>(List.mem_append.mp hp).elim (fun z=>I.pin p (List.mem_append_left _ z)) (h p),I.hok,I.len⟩
theorem sh {N:List Str} (hN:N.Nodup) {i j:Nat} {x:Str} (a:N[i]?=some x) (b:N[j]?=some x):i=j:=by
 obtain ⟨h1,e1⟩:=List.getElem?_eq_some_iff.mp a
 obtain ⟨h2,e2⟩:=List.getElem?_eq_some_iff.mp b
 exact (List.getElem_inj hN).mp (e1.trans e2.symm)
theorem xI {M:Model} {A:Around} {E:Value→Shared→Prop} {i:Nat} {x:Str} {v:V} {u:Value} {Q:Unit→Shared→Prop} (I:Inv X pins σ H s) (hN:X.N.Nodup) (hi:X.N[i]?=some x) (hx:Loc X.env.scope x) (r:RelV v u)
  (h:∀ s',Inv X pins (σ.set i (some v)) H s'→(∃ a,Heap.SameBut a s.heap s'.heap∧(a=X.env.locals∨X.env.cells.lookup x=some a))→Q () s') (hf:X.fn x=true∨X.env.scope.names.lookup x=some .local:=by first | exact .inl rfl | exact .inr rfl | assumption):wpAny M A (storeName X.env x u) Q E s:=by
 obtain ⟨m,hn,hl⟩:=id I.loc
 have hcls:(X.env.scope.kind == .class || (X.env.scope.kind == .module && X.env.locals != X.env.globals))=false:=by rw [I.ok.kind];rfl
 have hiσ:i < σ.length:=by rw [I.len];exact (List.getElem?_eq_some_iff.mp hi).1
 have cne:=I.cne
 have tracked:∀ {a:Addr} {h':Heap},(∃ o,s.heap.get? a=some o∧H a=none)→Heap.SameBut a s.heap h'→HOk X.prog X.w H h':=fun {a h'} ha hs b ob e=>by
  obtain ⟨_,_,hfree⟩:=ha
  refine (I.hok b ob e).l6 (fun c w' hc q=>(hs.2 c ?_).trans q) (fun _ q=>q) fun _ _ q=>q
  rintro rfl
  rcases hc with rfl | hc
  ·rw [hfree] at e;cases e
  ·rw [hfree] at hc;cases hc
 rcases hx with hk | hk
 ·refine wpAny_storeName_local hk hn (fun h' hn' hs=>?_) hcls
  obtain ⟨oL,_,_,hoL,_⟩:=id hn
  refine h _ ⟨I.ok,I.os,I.bare,⟨fun b o e n hb hx=>?_,fun b o e n hb hx=>?_,I.base.free,fun b o e hx=>?_,I.base.tups,I.base.frzs,I.base.tbls⟩,⟨_,hn',fun j y v' e1 e2 e3=>?_⟩,fun y c e=>?_,I.free,I.freeC,fun p hp=>?_,tracked ⟨oL,hoL,I.free⟩ hs,by simpa using I.len⟩ ⟨_,hs,.inl rfl⟩
  ·exact (hs.2 b (Nat.ne_of_lt (Nat.lt_of_lt_of_le (Heap.lt_size e) I.ok.above))).trans (I.base.keep b o e n hb hx)
  ·obtain ⟨sl,e1⟩:=I.base.slot b o e n hb hx
   exact ⟨sl,(hs.2 b (Nat.ne_of_lt (Nat.lt_of_lt_of_le (Heap.lt_size e) I.ok.above))).trans e1⟩
  ·obtain ⟨o',e1⟩:=I.base.there b o e hx
   exact ⟨o',(hs.2 b (Nat.ne_of_lt (Nat.lt_of_lt_of_le (Heap.lt_size e) I.ok.above))).trans e1⟩
  ·by_cases hj:j=i
   ·subst hj
    rw [hi] at e1;cases e1
    rw [List.getElem?_set_self hiσ] at e2
    cases e2
    exact ⟨u,r,.inl ⟨hk,by simp⟩⟩
   ·rw [List.getElem?_set_ne (Ne.symm hj)] at e2
    obtain ⟨u',r',q⟩:=hl j y v' e1 e2 e3
    refine ⟨u',r',?_⟩
    rcases q with ⟨k,e⟩ | ⟨k,c,e,z⟩
    ·refine .inl ⟨k,?_⟩
     have:y≠x:=fun e=>hj (sh hN e1 (e ▸ hi))
     simp [this,e]
    ·exact .inr ⟨k,c,e,z.sameBut hs (cne y c e)⟩
  ·obtain ⟨w',z⟩:=I.cell y c e
   exact ⟨w',z.sameBut hs (cne y c e)⟩
  ·obtain ⟨e,n,ne,nf,d⟩:=I.pin p hp
   exact ⟨(hs.2 p.1 ne).trans e,n,ne,nf,d⟩
 ·have hfn:X.fn x=true:=by
   rcases hf with z | z
   ·exact z
   ·rw [z] at hk;cases hk
  obtain ⟨c,hc⟩:=I.ok.has x (.inl hk)
  obtain ⟨w',z⟩:=I.cell x c hc
  refine wpAny_storeName_cell I.ok.kind hk hc z (fun h' hc' hs=>?_)
  obtain ⟨oc,hoc,hocd⟩:=id z
  refine h { s with heap:=h' } ⟨I.ok,I.os,I.bare,⟨fun b o e n hb hx=>?_,fun b o e n hb hx=>?_,I.base.free,fun b o e hx=>?_,I.base.tups,I.base.frzs,I.base.tbls⟩,⟨m,hn.sameBut hs (Ne.symm (cne x c hc)),fun j y v' e1 e2 e3=>?_⟩,fun y c' e=>?_,I.free,I.freeC,fun p hp=>?_,tracked ⟨oc,hoc,I.freeC x c hc⟩ hs,by simpa using I.len⟩ ⟨c,hs,.inr hc⟩
  ·exact (hs.2 b (Nat.ne_of_lt (Nat.lt_of_lt_of_le (Heap.lt_size e) (I.ok.cab x c hfn hc)))).trans (I.base.keep b o e n hb hx)
  ·obtain ⟨sl,e1⟩:=I.base.slot b o e n hb hx
   exact ⟨sl,(hs.2 b (Nat.ne_of_lt (Nat.lt_of_lt_of_le (Heap.lt_size e) (I.ok.cab x c hfn hc)))).trans e1⟩
  ·obtain ⟨o',e1⟩:=I.base.there b o e hx
   exact ⟨o',(hs.2 b (Nat.ne_of_lt (Nat.lt_of_lt_of_le (Heap.lt_size e) (I.ok.cab x c hfn hc)))).trans e1⟩
  ·by_cases hj:j=i
   ·subst hj
    rw [hi] at e1;cases e1
    rw [List.getElem?_set_self hiσ] at e2
    cases e2
    exact ⟨u,r,.inr ⟨.inl hk,c,hc,hc'⟩⟩
   ·rw [List.getElem?_set_ne (Ne.symm hj)] at e2
    obtain ⟨u',r',q⟩:=hl j y v' e1 e2 e3
    refine ⟨u',r',?_⟩
    rcases q with q | ⟨k,c',e,z'⟩
    ·exact .inl q
    ·refine .inr ⟨k,c',e,z'.sameBut hs ?_⟩
     rintro rfl
     exact hj (sh hN e1 (I.ok.inj _ _ _ e hc ▸ hi))
  ·by_cases hcc:c'=c
   ·subst hcc;exact ⟨_,hc'⟩
   ·obtain ⟨w2,z2⟩:=I.cell y c' e
    exact ⟨w2,z2.sameBut hs hcc⟩
  ·obtain ⟨e,n,ne,nf,d⟩:=I.pin p hp
   refine ⟨(hs.2 p.1 ?_).trans e,n,ne,nf,d⟩
   intro q
   rw [q,hoc] at e
   have q':oc=p.2:=Option.some.inj e
   exact d w' (by rw [← q'];exact hocd)
theorem lS {M:Model} {A:Around} {E:Value→Shared→Prop} {i:Nat} {x:Str} {v:V} {u:Value} {Q:Unit→Shared→Prop} (I:Inv X pins σ H s) (hN:X.N.Nodup) (hi:X.N[i]?=some x) (hx:Loc X.env.scope x) (r:RelV v u)
  (h:∀ s',Inv X pins (σ.set i (some v)) H s'→Q () s') (hf:X.fn x=true∨X.env.scope.names.lookup x=some .local:=by first | exact .inl rfl | exact .inr rfl | assumption):wpAny M A (storeName X.env x u) Q E s:=
 xI I hN hi hx r (fun s' I' _=>h s' I') hf
theorem Inv.GG {s':Shared} {ch:List Addr} (I:Inv X pins σ H s) (ho:s'.os=s.os) (u:Un (frs X.stack) ch H H' s.heap s'.heap) (hok:HOk X.prog X.w H' s'.heap) (hg:AllBare s'.gens)
  (hch:∀ b∈ch,(b∈X.ex∨X.s₀.heap.objs.size≤b)∧b≠X.env.locals∧(∀ x c,X.env.cells.lookup x=some c→c≠b)∧∀ p∈X.pn++pins,p.1≠b):Inv X pins σ H' s':=by
 obtain ⟨h',g',d',t',o'⟩:=s'
 have e:o'=s.os:=ho
 subst e
 exact I.call (g':=g') (t':=t') (d':=d') u hok hg hch
end
abbrev XK:=Value→Option Addr→Hp→Prop
abbrev St:=List (Option V)
abbrev VK:=V→Hp→Prop
abbrev TE:=St→Hp→VK→Prop
abbrev TT:=St→Hp→(Bool→Hp→Prop)→Prop
abbrev TA:=St→Hp→(List V→Hp→Prop)→Prop
structure Ends where
 nx:St→Hp→Prop
 rt:VK
 bk:St→Hp→Prop:=fun _ _=>False
 ct:St→Hp→Prop:=fun _ _=>False
abbrev TS:=Ends→St→Hp→Prop
def EP (X:Cx) (pins:List (Addr×Obj)) (σ:St) (Q:VK) (u:Value) (s':Shared):Prop:=∃ v H',Inv X pins σ H' s'∧RelV v u∧Q v H'
def TP (X:Cx) (pins:List (Addr×Obj)) (σ:St) (Q:Bool→Hp→Prop) (b:Bool) (s':Shared):Prop:=∃ H',Inv X pins σ H' s'∧Q b H'
def AP (X:Cx) (pins:List (Addr×Obj)) (σ:St) (Q:List V→Hp→Prop) (us:List Value) (s':Shared):Prop:=∃ vs H',Inv X pins σ H' s'∧Vals vs us∧Q vs H'
def SP (X:Cx) (pins:List (Addr×Obj)) (D:Ends) (f:Flow) (s':Shared):Prop:=
 match f with
 | .next=>∃ σ' H',Inv X pins σ' H' s'∧D.nx σ' H'
 | .brk=>∃ σ' H',Inv X pins σ' H' s'∧D.bk σ' H'
 | .cont=>∃ σ' H',Inv X pins σ' H' s'∧D.ct σ' H'
 | .ret u=>∃ v σ' H',Inv X pins σ' H' s'∧RelV v u∧D.rt v H'
def PE (X:Cx) (e:Expr) (t:TE):Prop:=
 ∀ (pins:List (Addr×Obj)) (s:Shared) (σ:St) (H:Hp) (Q:VK),Inv X pins σ H s→t σ H Q→wpAny (model X.prog X.w) X.A (eval e X.env) (EP X pins σ Q) X.xe s
def PT (X:Cx) (e:Expr) (t:TT):Prop:=
 ∀ (pins:List (Addr×Obj)) (s:Shared) (σ:St) (H:Hp) (Q:Bool→Hp→Prop),Inv X pins σ H s→t σ H Q→wpAny (model X.prog X.w) X.A (isTrue e X.env (eval e X.env)) (TP X pins σ Q) X.xe s
def PW (X:Cx) (e:Expr) (t:TT):Prop:=
 ∀ (whole:Sem Value) (pins:List (Addr×Obj)) (s:Shared) (σ:St) (H:Hp) (Q:Bool→Hp→Prop),Inv X pins σ H s→t σ H Q→wpAny (model X.prog X.w) X.A (isTrue e X.env whole) (TP X pins σ Q) X.xe s
theorem PW.pt {X:Cx} {e:Expr} {t:TT} (h:PW X e t):PT X e t:=h _
def PA (X:Cx) (es:List Expr) (t:TA):Prop:=
 ∀ (pos:Pos) (pins:List (Addr×Obj)) (s:Shared) (σ:St) (H:Hp) (Q:List V→Hp→Prop),Inv X pins σ H s→t σ H Q→wpAny (model X.prog X.w) X.A (spliced (backTo pos (starEach es X.env))) (AP X pins σ Q) X.xe s
def PS (X:Cx) (st:Stmt) (t:TS):Prop:=
 ∀ (pins:List (Addr×Obj)) (s:Shared) (σ:St) (H:Hp) (D:Ends),Inv X pins σ H s→t D σ H→wpAny (model X.prog X.w) X.A (exec st X.env) (SP X pins D) X.xe s
def PSs (X:Cx) (st:List Stmt) (t:TS):Prop:=
 ∀ (pins:List (Addr×Obj)) (s:Shared) (σ:St) (H:Hp) (D:Ends),Inv X pins σ H s→t D σ H→wpAny (model X.prog X.w) X.A (execs st X.env) (SP X pins D) X.xe s
theorem thn {α:Type} {t:Sem α} {Q Q':α→Shared→Prop} {M:Model} {A:Around} {E:Value→Shared→Prop} {s:Shared} (h:wpAny M A t Q E s) (hQ:∀ a s,Q a s→Q' a s):wpAny M A t Q' E s:=wpAny_mono h hQ fun _ _ x=>x
section
variable {X:Cx}
def IW (i:Nat):TE:=fun σ H Q=>∃ v,σ[i]?=some (some v)∧Q v H
def tC (v:V):TE:=fun _ H Q=>Q v H
theorem xR {i:Nat} {x:Str} {pos:Pos} (hN:X.N[i]?=some x) (hv:Vis X.env.scope x) (hd:(x == ("__debug__":Str))=false:=by decide) (hcd:(x == ("__classdict__":Str))=false:=by decide):PE X (.Name x pos) (IW i):=by
 intro pins s σ H Q I h
 obtain ⟨v,e,h⟩:=h
 obtain ⟨m,hn,hl⟩:=I.loc
 obtain ⟨u,r,l⟩:=hl i x v hN e hv
 have fin:EP X pins σ Q u s:=⟨v,H,I,r,h⟩
 rcases l with ⟨hk,hm⟩ | ⟨hk,c,hc,hcell⟩
 ·exact wpAny_Name (wpAny_loadName_local I.ok.kind hk hn hm fin) hd
 ·rcases hk with hk | hk
  ·exact wpAny_Name (wpAny_loadName_cell I.ok.kind hk hc hcell fin) hd
  ·exact wpAny_Name (wpAny_loadName_free I.ok.kind hk hc hcell fin hcd) hd
theorem F2 {i j pos}:PE X (.Constant (.int i) j pos) (tC (.int i)):=fun _ _ _ H _ I h=>wpAny_Constant_int ⟨.int i,H,I.tok _,⟨_,rfl⟩,h⟩
theorem GC {b j pos}:PE X (.Constant (.bool b) j pos) (tC (.bl b)):=fun _ _ _ H _ I h=>Constant_bool ⟨.bl b,H,I,rfl,h⟩
theorem DE {x j pos}:PE X (.Constant (.str x) j pos) (tC (.str x)):=fun _ _ _ H _ I h=>Calls.Constant_str ⟨.str x,H,I.tok _,⟨_,rfl⟩,h⟩
def Gl (X:Cx) (x:Str):Prop:=X.env.kindOf x=some .globalImplicit
theorem ud {E:Value→Shared→Prop} {pins:List (Addr×Obj)} {s:Shared} {σ:St} {H:Hp} {x:Str} {u:Value} {pos:Pos} {Q:Value→Shared→Prop} (I:Inv X pins σ H s) (hg:Gl X x) (hm:X.mg x=some u) (h:Q u s)
  (hd:(x == ("__debug__":Str))=false:=by decide):wpAny (model X.prog X.w) X.A (eval (.Name x pos) X.env) Q E s:=
 Calls.Name_function_global I.ok.kind hg (Calls.loadGlobal_global (by rw [I.ok.glob];exact I.mod.glob.keeps I.bk) hm h) hd
theorem b7 {E:Value→Shared→Prop} {pins:List (Addr×Obj)} {s:Shared} {σ:St} {H:Hp} {x:Str} {u:Value} {pos:Pos} {Q:Value→Shared→Prop} (I:Inv X pins σ H s) (hg:Gl X x) (hm:X.mg x=none) (hv:bootBuiltins x=some u) (h:Q u s)
  (hn:x≠"__name__":=by decide) (hd:(x == ("__debug__":Str))=false:=by decide):wpAny (model X.prog X.w) X.A (eval (.Name x pos) X.env) Q E s:=by
 obtain ⟨mb,h1,h2⟩:=I.mod.blt
 exact Calls.Name_function_global I.ok.kind hg (Calls.loadGlobal_builtin (by rw [I.ok.glob];exact I.mod.glob.keeps I.bk) hm (by rw [I.ok.blt];exact h1.keeps I.bk) ((h2 x hn).trans hv) h) hd
theorem CL {x:Str} {v:V} {u:Value} {pos:Pos} (hg:Gl X x) (hm:X.mg x=some u) (r:RelV v u) (hd:(x == ("__debug__":Str))=false:=by decide):PE X (.Name x pos) (tC v):=
 fun _ _ _ H _ I h=>ud I hg hm ⟨v,H,I,r,h⟩ hd
theorem B0 {x:Str} {v:V} {u:Value} {pos:Pos} (hg:Gl X x) (hm:X.mg x=none) (hv:bootBuiltins x=some u) (r:RelV v u) (hn:x≠"__name__":=by decide) (hd:(x == ("__debug__":Str))=false:=by decide):PE X (.Name x pos) (tC v):=
 fun _ _ _ H _ I h=>b7 I hg hm hv ⟨v,H,I,r,h⟩ hn hd
variable {a b:Expr} {ta tb:TE} {pos:Pos}
variable {tA tB':TT} {rest:List Expr}
def tOr (t u:TT):TT:=fun σ H Q=>t σ H fun c H1=>if c=true then Q true H1 else u σ H1 Q
def Ic (t:TT):TT:=fun σ H Q=>t σ H fun c H1=>Q (!c) H1
theorem EK (ha:PT X a tA):PW X (.BoolOp .Or [a] pos) tA:=by
 intro wh pins s σ H Q I h
 refine isTrue_or (thn (ha pins s σ H Q I h) fun c s1 e=>?_)
 cases c with
 | false=>exact isTrue_or_nil e
 | true=>exact e
theorem Ge (ha:PT X a tA) (hb:PW X (.BoolOp .Or (b :: rest) pos) tB'):PW X (.BoolOp .Or (a :: b :: rest) pos) (tOr tA tB'):=by
 intro wh pins s σ H Q I h
 refine isTrue_or (thn (ha pins s σ H _ I h) fun c s1 ⟨H1,I1,q1⟩=>?_)
 cases c with
 | true=>exact ⟨H1,I1,q1⟩
 | false=>exact hb wh pins s1 σ H1 Q I1 q1
theorem Dq (ha:PT X a tA):PT X (.UnaryOp .Not a pos) (Ic tA):=by
 intro pins s σ H Q I h
 exact isTrue_not (ha pins s σ H (fun c H1=>Q (!c) H1) I h)
def Gi (ta tb:TE):TE:=fun σ H Q=>ta σ H fun x H1=>∃ c,x=.bl c∧if c=true then tb σ H1 Q else Q (.bl false) H1
def He (ta:TE):TE:=fun σ H Q=>ta σ H fun x H1=>∃ c,x=.bl c∧Q (.bl (!c)) H1
theorem Fb {op} {t:TE} (h:PE X a t):PE X (.BoolOp op [a] pos) t:=fun pins s σ H Q I hw=>BoolOp_one (h pins s σ H Q I hw)
theorem DD (ha:PE X a ta) (hb:PE X (.BoolOp .And (b :: rest) pos) tb):PE X (.BoolOp .And (a :: b :: rest) pos) (Gi ta tb):=by
 intro pins s σ H Q I h
 refine BoolOp_and (thn (ha pins s σ H _ I h) fun v s1 ⟨x,H1,I1,r1,q1⟩=>?_)
 obtain ⟨c,rfl,q1⟩:=q1
 cases r1
 refine wpAny_truthy_bool ?_
 cases c with
 | true=>exact hb pins s1 σ H1 Q I1 q1
 | false=>exact ⟨.bl false,H1,I1,rfl,q1⟩
theorem Fj (ha:PE X a ta):PE X (.UnaryOp .Not a pos) (He ta):=by
 intro pins s σ H Q I h
 refine UnaryOp_ (thn (ha pins s σ H _ I h) fun v s1 ⟨x,H1,I1,r1,q1⟩=>?_)
 obtain ⟨c,rfl,q1⟩:=q1
 cases r1
 exact not_of (wpAny_truthy_bool ⟨.bl (!c),H1,I1,rfl,q1⟩)
end
def SqL (K:PySem.W.Frag) (H:Hp) (a:Addr) (xs:List V):Prop:=
 Rd H a (.lst xs) ∨
  ∃ (o:Obj) (its:Array Value) (n:Nat),K.lookup a=some o∧o.cls=.type "list"∧o.dict=none∧o.data=.seq its n∧its.size≤sizeLine∧Vals xs its.toList
def SqT (K:PySem.W.Frag) (H:Hp) (a:Addr) (xs:List V):Prop:=
 Rd H a (.tup xs) ∨
  ∃ (o:Obj) (its:Array Value) (n:Nat),K.lookup a=some o∧o.cls=.type "tuple"∧o.data=.seq its n∧its.size≤sizeLine∧Vals xs its.toList
def Ib:Value→Option V
 | .none=>some .non
 | .bool b=>some (.bl b)
 | .int i _=>some (.int i)
 | .str x _=>some (.str x)
 | .bytes b _=>some (.byt b)
 | .float b _=>some (.flt b)
 | .ref a=>some (.ref a)
 | .type n=>some (.ty n)
 | _=>none
theorem RelV.abs {x:V} {u:Value} (r:RelV x u):Ib u=some x:=by
 cases x with
 | non=>cases r;rfl
 | bl _=>cases r;rfl
 | int _=>obtain ⟨t,rfl⟩:=r;rfl
 | str _=>obtain ⟨t,rfl⟩:=r;rfl
 | byt _=>obtain ⟨t,rfl⟩:=r;rfl
 | flt _=>obtain ⟨t,rfl⟩:=r;rfl
 | ref _=>cases r;rfl
 | ty _=>cases r;rfl
theorem RelV.inj {x y:V} {u:Value} (r:RelV x u) (q:RelV y u):x=y:=Option.some.inj (r.abs.symm.trans q.abs)
theorem Vals.inj:∀ {xs ys:List V} {us:List Value},Vals xs us→Vals ys us→xs=ys
 | _,_,_,.nil,.nil=>rfl
 | _,_,_,.cons r t,.cons r' t'=>by rw [r.inj r',Vals.inj t t']
section
variable {X:Cx} {pins:List (Addr×Obj)} {σ:St} {H:Hp} {s:Shared} {a:Addr} {xs ys:List V}
theorem SqL.of {K:PySem.W.Frag} (h:H a=some (.lst xs)):SqL K H a xs:=.inl (.inl h)
theorem SqT.of {K:PySem.W.Frag} (h:H a=some (.tup xs)):SqT K H a xs:=.inl (.inl h)
theorem Inv.list (I:Inv X pins σ H s) (h:SqL X.K H a xs):∃ its:List Value,Vals xs its∧PlainL s.heap a its.toArray∧xs.length≤sizeLine:=by
 rcases h with h | ⟨o,its,n,hk,hc,hd,hs,hz,r⟩
 ·obtain ⟨z,its,n,r,e⟩:=h.ok I.hok
  exact ⟨its,r,⟨_,n,e,rfl,rfl,rfl⟩,z⟩
 ·refine ⟨its.toList,r,⟨o,n,I.kIn a o hk,hc,hd,by simpa using hs⟩,?_⟩
  have e:=r.length
  simp only [Array.length_toList] at e
  omega
theorem Inv.tuple (I:Inv X pins σ H s) (h:SqT X.K H a xs):∃ its:List Value,Vals xs its∧IsTup s.heap a its.toArray∧xs.length≤sizeLine:=by
 rcases h with h | ⟨o,its,n,hk,hc,hs,hz,r⟩
 ·obtain ⟨z,its,r,p⟩:=h.ok I.hok
  exact ⟨its,r,p,z⟩
 ·refine ⟨its.toList,r,⟨o,I.kIn a o hk,hc,n,by simpa using hs⟩,?_⟩
  have e:=r.length
  simp only [Array.length_toList] at e
  omega
theorem Inv.qC (I:Inv X pins σ H s) (h:SqL X.K H a xs) (h':SqL X.K H a ys):xs=ys:=by
 obtain ⟨its,r,⟨o,n,e,_,_,d⟩,_⟩:=I.list h
 obtain ⟨its',r',⟨o',n',e',_,_,d'⟩,_⟩:=I.list h'
 rw [e] at e';cases e'
 rw [d] at d'
 injection d' with d1 _
 have:its=its':=by simpa using congrArg Array.toList d1
 subst this
 exact r.inj r'
theorem Inv.yi (I:Inv X pins σ H s) (h:SqT X.K H a xs) (h':SqT X.K H a ys):xs=ys:=by
 obtain ⟨its,r,⟨o,e,_,n,d⟩,_⟩:=I.tuple h
 obtain ⟨its',r',⟨o',e',_,n',d'⟩,_⟩:=I.tuple h'
 rw [e] at e';cases e'
 rw [d] at d'
 injection d' with d1 _
 have:its=its':=by simpa using congrArg Array.toList d1
 subst this
 exact r.inj r'
end
abbrev Cx.iy (X:Cx) (E:Value→Shared→Prop):Cx:={ X with xe:=E }
abbrev Cx.nox (X:Cx):Cx:=X.iy fun _ _=>False
theorem Cx.Ok.iy {X:Cx} (ok:X.Ok) (E:Value→Shared→Prop):(X.iy E).Ok:=
 ⟨ok.mod,ok.kind,ok.glob,ok.blt,ok.above,ok.inj,ok.has,ok.cab,ok.hd,ok.frames,ok.stk,ok.exf,ok.bs,ok.bsz,ok.noex,ok.exfs,ok.gR,ok.frf⟩
theorem Cx.Ok.fJ {X:Cx} {E:Value→Shared→Prop} (ok:(X.iy E).Ok):X.Ok:=
 ⟨ok.mod,ok.kind,ok.glob,ok.blt,ok.above,ok.inj,ok.has,ok.cab,ok.hd,ok.frames,ok.stk,ok.exf,ok.bs,ok.bsz,ok.noex,ok.exfs,ok.gR,ok.frf⟩
section
variable {X:Cx} {pins:List (Addr×Obj)} {σ:St} {H:Hp} {s:Shared} {E:Value→Shared→Prop}
theorem Inv.iy (I:Inv X pins σ H s) (E:Value→Shared→Prop):Inv (X.iy E) pins σ H s:=⟨I.ok.iy E,I.os,I.bare,I.base,I.loc,I.cell,I.free,I.freeC,I.pin,I.hok,I.len⟩
theorem Inv.fJ (I:Inv (X.iy E) pins σ H s):Inv X pins σ H s:=⟨I.ok.fJ,I.os,I.bare,I.base,I.loc,I.cell,I.free,I.freeC,I.pin,I.hok,I.len⟩
theorem SP.fJ {D:Ends} {f:Flow} {s':Shared} (h:SP (X.iy E) pins D f s'):SP X pins D f s':=by
 cases f with
 | next=>obtain ⟨σ',H',I,q⟩:=h;exact ⟨σ',H',I.fJ,q⟩
 | brk=>obtain ⟨σ',H',I,q⟩:=h;exact ⟨σ',H',I.fJ,q⟩
 | cont=>obtain ⟨σ',H',I,q⟩:=h;exact ⟨σ',H',I.fJ,q⟩
 | ret u=>obtain ⟨v,σ',H',I,r,q⟩:=h;exact ⟨v,σ',H',I.fJ,r,q⟩
theorem PSs.nox {st:List Stmt} {t:TS} (h:PSs X.nox st t):PSs X st t:=fun pins s σ H D I hw=>
 wpAny_mono (h pins s σ H D (I.iy _) hw) (fun _ _ q=>q.fJ) fun _ _ z=>False.elim z
end
section
variable {X:Cx} {st:Stmt} {rest:List Stmt} {t u:TS} {e:Expr} {te:TE} {pos:Pos}
def HW:TS:=fun D σ H=>D.nx σ H
def IV (t u:TS):TS:=fun D σ H=>t { D with nx:=u D } σ H
theorem B4:PSs X [] HW:=fun _ _ σ H _ I h=>wpAny_execs_nil ⟨σ,H,I,h⟩
theorem AL (h1:PS X st t) (h2:PSs X rest u):PSs X (st :: rest) (IV t u):=by
 intro pins s σ H D I h
 refine wpAny_execs_cons (thn (h1 pins s σ H { D with nx:=u D } I h) fun f s1 q=>?_)
 cases f with
 | next=>
  obtain ⟨σ',H',I',q⟩:=q
  exact h2 pins s1 σ' H' D I' q
 | ret v=>exact q
 | brk=>exact q
 | cont=>exact q
theorem Cc (h1:PS X st t):PSs X [st] t:=by
 intro pins s σ H D I h
 refine wpAny_execs_cons (thn (h1 pins s σ H D I h) fun f s1 q=>?_)
 cases f with
 | next=>exact wpAny_execs_nil q
 | ret v=>exact q
 | brk=>exact q
 | cont=>exact q
theorem Inv.quiet {pins:List (Addr×Obj)} {σ:St} {H:Hp} {s:Shared} (I:Inv X pins σ H s):interactive X.env=false:=by simp [interactive,I.ok.kind]
def GU (te:TE):TS:=fun D σ H=>te σ H fun _ H1=>D.nx σ H1
theorem CO (he:PE X e te) (hs:swapsWith e none pos.line X.env=pure false:=by rfl):PS X (.Expr e pos) (GU te):=by
 intro pins s σ H D I h
 exact wpAny_Expr_any (thn (he pins s σ H _ I h) fun v s1 ⟨x,H1,I1,r1,q1⟩=>⟨σ,H1,I1,q1⟩) I.quiet hs
def Io (te:TE):TS:=fun D σ H=>te σ H D.rt
theorem D7 (he:PE X e te):PS X (.Return (some e) pos) (Io te):=by
 intro pins s σ H D I h
 exact wpAny_Return_some (thn (he pins s σ H _ I h) fun v s1 ⟨x,H1,I1,r1,q1⟩=>⟨x,σ,H1,I1,r1,q1⟩)
def IL (c:TT) (t u:TS):TS:=fun D σ H=>c σ H fun b H1=>if b=true then t D σ H1 else u D σ H1
theorem F9 {c:Expr} {a b:List Stmt} {tc:TT} (hc:PT X c tc) (ha:PSs X a t) (hb:PSs X b u):PS X (.If c a b pos) (IL tc t u):=by
 intro pins s σ H D I h
 refine wpAny_If (thn (hc pins s σ H _ I h) fun d s1 ⟨H1,I1,q1⟩=>?_)
 cases d with
 | true=>exact ha pins s1 σ H1 D I1 q1
 | false=>exact hb pins s1 σ H1 D I1 q1
end
abbrev TG:=V→St→Hp→(St→Hp→Prop)→Prop
abbrev TGs:=List V→St→Hp→(St→Hp→Prop)→Prop
def PG (X:Cx) (target:Expr) (t:TG):Prop:=
 ∀ (pins:List (Addr×Obj)) (s:Shared) (σ:St) (H:Hp) (v:V) (u:Value) (Q:St→Hp→Prop),Inv X pins σ H s→RelV v u→t v σ H Q →
  wpAny (model X.prog X.w) X.A (assign target X.env u) (fun _ s'=>∃ σ' H',Inv X pins σ' H' s'∧Q σ' H') X.xe s
def PGs (X:Cx) (ts:List Expr) (t:TGs):Prop:=
 ∀ (pins:List (Addr×Obj)) (s:Shared) (σ:St) (H:Hp) (vs:List V) (us:List Value) (Q:St→Hp→Prop),Inv X pins σ H s→Vals vs us→t vs σ H Q →
  wpAny (model X.prog X.w) X.A (assignInOrder ((assignEach ts X.env).map (·.2)) us) (fun _ s'=>∃ σ' H',Inv X pins σ' H' s'∧Q σ' H') X.xe s
abbrev rE:=V→V→V→Hp→(Hp→Prop)→Prop
def vg (X:Cx) (t:rE):Prop:=
 ∀ (pins:List (Addr×Obj)) (s:Shared) (σ:St) (H:Hp) (o i v:V) (ov iv u:Value) (Q:Hp→Prop),Inv X pins σ H s→RelV o ov→RelV i iv→RelV v u→t o i v H Q →
  wpAny (model X.prog X.w) X.A (setItem ov iv u) (fun _ s'=>∃ H',Inv X pins σ H' s'∧Q H') X.xe s
section
variable {X:Cx} {pos:Pos}
def A6 (i:Nat):TG:=fun v σ H Q=>Q (σ.set i (some v)) H
theorem BP {i:Nat} {x:Str} (hN:X.N.Nodup) (hi:X.N[i]?=some x) (hx:Loc X.env.scope x) (hf:X.fn x=true∨X.env.scope.names.lookup x=some .local:=by first | exact .inl rfl | exact .inr rfl | assumption):PG X (.Name x pos) (A6 i):=by
 intro pins s σ H v u Q I r h
 exact wpAny_assign_Name (lS I hN hi hx r (fun s' I'=>⟨_,H,I',h⟩) hf)
def Iv:TGs:=fun vs σ H Q=>vs=[]∧Q σ H
def Hs (t:TG) (u:TGs):TGs:=fun vs σ H Q=>∃ v r,vs=v :: r∧t v σ H fun σ' H'=>u r σ' H' Q
theorem Cu:PGs X [] Iv:=by
 intro pins s σ H vs us Q I r h
 obtain ⟨e,h⟩:=h
 subst e
 cases r
 exact assignInOrder_nil ⟨σ,H,I,h⟩
theorem za {e:Expr} {es:List Expr} {t:TG} {u:TGs} (h1:PG X e t) (h2:PGs X es u)
  (hs:(assignEach (e :: es) X.env).map (·.2)=assign e X.env :: (assignEach es X.env).map (·.2):=by rfl):PGs X (e :: es) (Hs t u):=by
 intro pins s σ H vs us Q I r h
 obtain ⟨v,vr,e1,h⟩:=h
 subst e1
 cases r with
 | cons r rr=>
  rw [hs]
  refine assignInOrder_cons (thn (h1 pins s σ H _ _ _ I r h) fun _ s1 ⟨σ1,H1,I1,q1⟩=>?_)
  exact h2 pins s1 σ1 H1 _ _ Q I1 rr q1
def Iz (K:PySem.W.Frag) (n:Nat) (t:TGs):TG:=fun v σ H Q=>∃ a xs,v=.ref a∧SqT K H a xs∧xs.length=n∧t xs σ H Q
theorem DI {es:List Expr} {k:Nat} {t:TGs} {n:Nat} (hc:X.calm=true) (h:PGs X es t)
  (hn:(assignEach es X.env).length=n:=by rfl) (hst:(assignEach es X.env).findIdx? (·.1)=none:=by rfl):PG X (.Tuple es k pos) (Iz X.K n t):=by
 intro pins s σ H v u Q I r hw
 obtain ⟨a,xs,e1,hq,hl,hw⟩:=hw
 subst e1
 cases r
 obtain ⟨its,rv,ht,hz⟩:=I.tuple hq
 refine assign_Tuple_tuple (I.ok.hd hc) ht (by simp [hn,← hl,rv.length]) hst fun h' hx=>?_
 have I1:Inv X pins σ H { s with heap:=h' }:=I.kept (t':=s.toks) fun b o e=>hx b o (Nat.ne_of_lt (Heap.lt_size e)) e
 exact h pins _ σ H xs _ Q I1 (by simpa using rv) hw
def Ia (to ti:TE) (t:rE):TG:=fun v σ H Q=>to σ H fun o H1=>ti σ H1 fun i H2=>t o i v H2 fun H3=>Q σ H3
theorem Ff {o i:Expr} {to ti:TE} {t:rE} (ho:PE X o to) (hi:PE X i ti) (hs:vg X t)
  (ha:∀ v,assign (.Subscript o i pos) X.env v=(do
   let ov ← holding [v] (eval o X.env)
   let iv ← holding [v,ov] (eval i X.env)
   standAt pos
   holding [v,ov,iv] (setItem ov iv v)
   release [v,ov,iv] []):=by intro _;rfl):PG X (.Subscript o i pos) (Ia to ti t):=by
 intro pins s σ H v u Q I r h
 rw [ha]
 refine wpAny_bind (wpAny_holding (thn (ho pins s σ H _ I h) fun ov s1 ⟨x,H1,I1,r1,q1⟩=>?_))
 refine wpAny_bind (wpAny_holding (thn (hi pins s1 σ H1 _ I1 q1) fun iv s2 ⟨y,H2,I2,r2,q2⟩=>?_))
 refine wpAny_bind (wpAny_standAt (wpAny_bind (wpAny_holding (thn (hs pins s2 σ H2 x y v ov iv u _ I2 r1 r2 r q2) fun _ s3 ⟨H3,I3,q3⟩=>?_))))
 exact wpAny_release ⟨σ,H3,I3,q3⟩
def E3 (te:TE) (g:TG):TS:=fun D σ H=>te σ H fun x H1=>g x σ H1 D.nx
theorem F6 {tg e:Expr} {te:TE} {g:TG} (he:PE X e te) (hg:PG X tg g) (hs:swapsWithSole [tg] e pos.line X.env=pure false:=by rfl) (hw:swappedStores [tg] e X.env=pure none:=by rfl)
  (h1:(assignEach [tg] X.env).map (·.2)=[assign tg X.env]:=by rfl):PS X (.Assign [tg] e pos) (E3 te g):=by
 intro pins s σ H D I h
 refine wpAny_Assign_stores (thn (he pins s σ H _ I h) fun v s1 ⟨x,H1,I1,r1,q1⟩=>?_) hs hw
 rw [h1]
 exact thn (hg pins s1 σ H1 x v _ I1 r1 q1) fun _ s2 q=>q
theorem FQ {i:Nat} {x:Str} {e:Expr} {te:TE} {pos':Pos} (hN:X.N.Nodup) (hi:X.N[i]?=some x) (hx:Loc X.env.scope x) (he:PE X e te) (hs:swapsWith e (some (.Name x pos')) pos.line X.env=pure false:=by rfl) (hf:X.fn x=true∨X.env.scope.names.lookup x=some .local:=by first | exact .inl rfl | exact .inr rfl | assumption) :
  PS X (.Assign [.Name x pos'] e pos) (E3 te (A6 i)):=by
 intro pins s σ H D I h
 refine wpAny_Assign_Name (thn (he pins s σ H _ I h) fun v s1 ⟨y,H1,I1,r1,q1⟩=>?_) hs
 exact lS I1 hN hi hx r1 (fun s2 I2=>⟨_,H1,I2,q1⟩) hf
end
structure It where
 go:Nat→Hp→Prop
 yld:Nat→Hp→V→Hp→Prop
 stop:Nat→Hp→Prop
def fh (X:Cx) (pins:List (Addr×Obj)) (H:Hp) (b:Addr):Prop:=
 H b=none∧b≠X.env.locals∧b∉X.fs∧(b∈X.ex∨X.s₀.heap.objs.size≤b)∧(∀ x c,X.env.cells.lookup x=some c→c≠b)∧∀ p∈X.pn++pins,p.1≠b
theorem Inv.jk {X:Cx} {pins:List (Addr×Obj)} {σ:St} {H H':Hp} {s:Shared} {b:Addr} (I:Inv X pins σ H s) (hb:s.heap.objs.size≤b) (hn:H' b=none):fh X pins H' b:=by
 refine ⟨hn,Nat.ne_of_gt (Nat.lt_of_lt_of_le I.lt hb),I.F4 hb,.inr (Nat.le_trans I.sz hb),fun x c e z=>?_,fun p hp z=>?_⟩
 ·obtain ⟨v,q⟩:=I.cell x c e
  exact absurd (Nat.lt_of_lt_of_le q.lt (by rw [z];exact hb)) (Nat.lt_irrefl _)
 ·exact absurd (Nat.lt_of_lt_of_le (Heap.lt_size (I.pin p hp).1) (by rw [z];exact hb)) (Nat.lt_irrefl _)
structure Turn (P:Program) (w:World) (K:PySem.W.Frag) (tg:Expr) (J:It) (fp:List Addr) (it:Addr) (tn:Nat→Heap→Prop):Prop where
 mem:it∈fp
 obj:∀ i h,tn i h→∀ b∈fp,∃ o,h.get? b=some o∧∀ v,o.data≠.cell v
 keep:∀ i h h',tn i h→(∀ b∈fp,∀ o,h.get? b=some o→h'.get? b=some o)→tn i h'
 item:∀ (X:Cx),X.prog=P→X.w=w→X.K=K→X.calm=true→∀ (i:Nat) (pins:List (Addr×Obj)) (s:Shared) (σ:St) (H:Hp) (E:Value→Shared→Prop),Inv X pins σ H s→(∀ b∈fp,fh X pins H b)→tn i s.heap→J.go i H →
  wpAny (model P w) X.A (pyNext (.ref it)) (fun r s1=>∃ u,r=some u ∧
   wpAny (model P w) X.A (letOwnedTupleGo tg (.ref it) u) (fun _ s2=>∃ x H',Inv X pins σ H' s2∧RelV x u∧J.yld i H x H'∧tn (i+1) s2.heap∧∀ b∈fp,H' b=none) E s1) E s
 done:∀ (X:Cx),X.prog=P→X.w=w→X.K=K→X.calm=true→∀ (i:Nat) (pins:List (Addr×Obj)) (s:Shared) (σ:St) (H:Hp) (E:Value→Shared→Prop),Inv X pins σ H s→(∀ b∈fp,fh X pins H b)→tn i s.heap→J.stop i H →
  wpAny (model P w) X.A (pyNext (.ref it)) (fun r s1=>r=none∧Inv X pins σ H s1) E s
 self:∀ (A:Around) (i:Nat) (s:Shared) (Q:Value→Shared→Prop) (E:Value→Shared→Prop),tn i s.heap→Q (.ref it) s→wpAny (model P w) A (pyIter (.ref it)) Q E s
abbrev TI:=St→Hp→(It→Hp→Prop)→Prop
def PIE (X:Cx) (pins:List (Addr×Obj)) (σ:St) (tg:Expr) (R:It→Hp→Prop) (itv:Value) (s2:Shared):Prop:=
 ∃ (it:Addr) (fp:List Addr) (tn:Nat→Heap→Prop) (J:It) (H':Hp),itv=.ref it∧Inv X pins σ H' s2∧Turn X.prog X.w X.K tg J fp it tn∧tn 0 s2.heap∧(∀ b∈fp,fh X pins H' b)∧R J H'
def PI (X:Cx) (tg iter:Expr) (wi:TI):Prop:=
 ∀ (pins:List (Addr×Obj)) (s:Shared) (σ:St) (H:Hp) (R:It→Hp→Prop),Inv X pins σ H s→wi σ H R →
  wpAny (model X.prog X.w) X.A (eval iter X.env) (fun v s1=>wpAny (model X.prog X.w) X.A (pyIter v) (PIE X pins σ tg R) X.xe s1) X.xe s
theorem qj {M : Model} {A : Around} {E : Value → Shared → Prop} {s : Shared} {tg : Expr} {it : Addr} {u : Value} {o : Obj} {n : String} {vs : Array Value} {Q : Unit → Shared → Prop} (ho : s.heap.get? it = some o) (hc : o.cls = .type n) (hd : o.data = .fields vs)
    (hn : ["enumerate", "zip", "dict_itemiterator", "dict_reverseitemiterator", "odict_iterator", "itertools.zip_longest", "itertools.pairwise"].contains n = false) (hQ : Q () s) : wpAny M A (letOwnedTupleGo tg (.ref it) u) Q E s := by
  unfold letOwnedTupleGo
  cases tg <;> first
    | exact wpAny_pure hQ
    | (cases u <;> first
        | exact wpAny_pure hQ
        | (refine wpAny_bind (wpAny_load ho ?_)
           rw [hc, hd]
           show wpAny M A (if (["enumerate", "zip", "dict_itemiterator", "dict_reverseitemiterator", "odict_iterator", "itertools.zip_longest", "itertools.pairwise"].contains n && vs[0]? == some (rawInt _)) = true then _ else _) Q E s
           rw [if_neg (by intro h; rw [hn, Bool.false_and] at h; cases h)]
           exact wpAny_pure hQ))
def Itl (K:PySem.W.Frag) (a:Addr):It:=
 ⟨fun i H=>∃ xs x,SqL K H a xs∧xs[i]?=some x,fun i H x H'=>H'=H∧∀ xs,SqL K H a xs→xs[i]?=some x,fun i H=>∃ xs,SqL K H a xs∧xs.length≤i⟩
def Itt (K:PySem.W.Frag) (a:Addr):It:=
 ⟨fun i H=>∃ xs x,SqT K H a xs∧xs[i]?=some x,fun i H x H'=>H'=H∧∀ xs,SqT K H a xs→xs[i]?=some x,fun i H=>∃ xs,SqT K H a xs∧xs.length≤i⟩
def Itr (lo:Int) (n:Nat):It:=⟨fun i _=>i < n,fun i H x H'=>H'=H∧x=.int (lo+i),fun i _=>n≤i⟩
theorem wG {P:Program} {w:World} {K:PySem.W.Frag} {tg:Expr} (a it:Addr):Turn P w K tg (Itl K a) [it] it (fun i h=>h.IsListIter it a i) where
 mem:=by simp
 obj:=fun i h st b hb=>by
  have e:b=it:=by simpa using hb
  subst e
  obtain ⟨o,e,c,d⟩:=st
  exact ⟨o,e,fun v z=>by rw [d] at z;cases z⟩
 keep:=fun i h h' st k=>st.at fun o e=>k it (by simp) o e
 item:=by
  intro X hP hw hK hc i pins s σ H E I hf st hg
  subst hP hw hK
  obtain ⟨xs,x,hq,hx⟩:=hg
  obtain ⟨its,rv,p,hz⟩:=I.list hq
  obtain ⟨u,hu,ru⟩:=rv.get hx
  obtain ⟨f0,f1,f2,f3,f4,f5⟩:=hf it (by simp)
  refine wpAny_pyNext_list_item st p.isList (x:=u) (by simpa using hu) fun h' st' sb=>?_
  have I1:Inv X pins σ H { s with heap:=h' }:=I.turned (t':=s.toks) (fun b o hb e=>(sb.2 b hb).trans e) f0 f1 f3 f4 f5
  obtain ⟨o,e,c,d⟩:=id st'
  exact ⟨u,rfl,qj (s:={ s with heap:=h' }) e c d (by decide) ⟨x,H,I1,ru,⟨rfl,fun ys hy=>by rw [I.qC hy hq];exact hx⟩,st',fun b hb=>(hf b hb).1⟩⟩
 done:=by
  intro X hP hw hK hc i pins s σ H E I hf st hg
  subst hP hw hK
  obtain ⟨xs,hq,hx⟩:=hg
  obtain ⟨its,rv,p,hz⟩:=I.list hq
  obtain ⟨f0,f1,f2,f3,f4,f5⟩:=hf it (by simp)
  have hl:=rv.length
  exact wpAny_pyNext_list_end (I.ok.hd hc) st p.isList (by simp;omega) fun h' eb=>⟨rfl,I.turned (t':=s.toks) (fun b o hb e=>eb b o hb e) f0 f1 f3 f4 f5⟩
 self:=fun _ _ _ _ _ st h=>wpAny_pyIter_listiter st h
theorem vP {P:Program} {w:World} {K:PySem.W.Frag} {tg:Expr} (a it:Addr):Turn P w K tg (Itt K a) [it] it (fun i h=>h.IsTupleIter it a i) where
 mem:=by simp
 obj:=fun i h st b hb=>by
  have e:b=it:=by simpa using hb
  subst e
  obtain ⟨o,e,c,d⟩:=st
  exact ⟨o,e,fun v z=>by rw [d] at z;cases z⟩
 keep:=fun i h h' st k=>st.at fun o e=>k it (by simp) o e
 item:=by
  intro X hP hw hK hc i pins s σ H E I hf st hg
  subst hP hw hK
  obtain ⟨xs,x,hq,hx⟩:=hg
  obtain ⟨its,rv,p,hz⟩:=I.tuple hq
  obtain ⟨u,hu,ru⟩:=rv.get hx
  obtain ⟨f0,f1,f2,f3,f4,f5⟩:=hf it (by simp)
  refine wpAny_pyNext_tuple_item st (show s.heap.IsTuple a its.toArray from p) (x:=u) (by simpa using hu) fun h' st' sb=>?_
  have I1:Inv X pins σ H { s with heap:=h' }:=I.turned (t':=s.toks) (fun b o hb e=>(sb.2 b hb).trans e) f0 f1 f3 f4 f5
  obtain ⟨o,e,c,d⟩:=id st'
  exact ⟨u,rfl,qj (s:={ s with heap:=h' }) e c d (by decide) ⟨x,H,I1,ru,⟨rfl,fun ys hy=>by rw [I.yi hy hq];exact hx⟩,st',fun b hb=>(hf b hb).1⟩⟩
 done:=by
  intro X hP hw hK hc i pins s σ H E I hf st hg
  subst hP hw hK
  obtain ⟨xs,hq,hx⟩:=hg
  obtain ⟨its,rv,p,hz⟩:=I.tuple hq
  obtain ⟨f0,f1,f2,f3,f4,f5⟩:=hf it (by simp)
  have hl:=rv.length
  exact wpAny_pyNext_tuple_end (I.ok.hd hc) st (show s.heap.IsTuple a its.toArray from p) (by simp;omega) fun h' eb=>⟨rfl,I.turned (t':=s.toks) (fun b o hb e=>eb b o hb e) f0 f1 f3 f4 f5⟩
 self:=fun _ _ _ _ _ st h=>wpAny_pyIter_tupleiter st h
theorem vW {P:Program} {w:World} {K:PySem.W.Frag} {tg:Expr} (it:Addr) (lo:Int) (n:Nat):Turn P w K tg (Itr lo n) [it] it (fun i h=>IsRangeIter h it (lo+(i:Nat) * 1) ((n:Int) - (i:Nat)) 1) where
 mem:=by simp
 obj:=fun i h st b hb=>by
  have e:b=it:=by simpa using hb
  subst e
  exact ⟨_,st,fun v z=>by
   have z':Data.fields _=Data.cell v:=z
   cases z'⟩
 keep:=fun i h h' st k=>k it (by simp) _ st
 item:=by
  intro X hP hw hK hc i pins s σ H E I hf st hg
  subst hP hw hK
  obtain ⟨f0,f1,f2,f3,f4,f5⟩:=hf it (by simp)
  have W:=Walks.range (prog:=X.prog) (w:=X.w) (I.ok.hd hc) it lo 1 n
  refine W.item i s _ _ hg st fun v h' tk hv st' kk=>?_
  obtain ⟨t,rfl⟩:=hv
  have I1:Inv X pins σ H { s with heap:=h',toks:=tk }:=I.turned (fun b o hb e=>kk b o (by simpa using hb) e) f0 f1 f3 f4 f5
  refine ⟨_,rfl,qj (s:={ s with heap:=h',toks:=tk }) (n:="range_iterator") st' rfl rfl (by decide) ⟨.int (lo+i),H,I1,⟨t,?_⟩,⟨rfl,rfl⟩,st',fun b hb=>(hf b hb).1⟩⟩
  rw [Int.mul_one]
 done:=by
  intro X hP hw hK hc i pins s σ H E I hf st hg
  subst hP hw hK
  obtain ⟨f0,f1,f2,f3,f4,f5⟩:=hf it (by simp)
  exact wpAny_pyNext_range_end (I.ok.hd hc) st (by have:n≤i:=hg;omega) fun h' eb=>⟨rfl,I.turned (t':=s.toks) (fun b o hb e=>eb b o hb e) f0 f1 f3 f4 f5⟩
 self:=fun _ _ _ _ _ st h=>wpAny_pyIter_rangeiter st h
section
variable {X:Cx} {tg:Expr}
theorem rg {pins:List (Addr×Obj)} {σ:St} {H:Hp} {s:Shared} {R:It→Hp→Prop} {E:Value→Shared→Prop} {lo hi:Int} {t u v:Tok} {tk:Nat} (I:Inv X pins σ H s) (h1:-(2 ^ 62)≤lo) (h2:lo < 2 ^ 62) (h3:-(2 ^ 62)≤hi) (h4:hi < 2 ^ 62)
  (q:R (Itr lo (hi - lo).toNat) H):wpAny (model X.prog X.w) X.A (pyIter (.ref s.heap.objs.size)) (PIE X pins σ tg R) E { s with heap:=s.heap.push { cls:=.type "range",data:=.fields #[.int lo t,.int hi u,.int 1 v] },toks:=tk }:=by
 refine wpAny_pyIter_range (IsRange.new ..) (small_one h1 h2 h3 h4) ?_
 have I1:Inv X pins σ H { s with heap:=s.heap.push { cls:=.type "range",data:=.fields #[.int lo t,.int hi u,.int 1 v] },toks:=tk }:=I.kept fun b o e=>Heap.get?_push_of_some _ e
 refine ⟨(s.heap.push { cls:=.type "range",data:=.fields #[.int lo t,.int hi u,.int 1 v] }).objs.size,[(s.heap.push { cls:=.type "range",data:=.fields #[.int lo t,.int hi u,.int 1 v] }).objs.size],_,_,H,rfl,
  I1.kept (t':=tk) fun b o e=>Heap.get?_push_of_some _ e,vW _ lo (hi - lo).toNat,?_,fun b hb=>?_,q⟩
 ·have e1:lo+((0:Nat):Int) * 1=lo:=by simp
  have e2:(((hi - lo).toNat:Nat):Int) - ((0:Nat):Int)=Builtin.Range.rangeSize lo hi 1:=by rw [rangeSize_one];split<;>omega
  show IsRangeIter _ _ (lo+((0:Nat):Int) * 1) ((((hi - lo).toNat:Nat):Int) - ((0:Nat):Int)) 1
  rw [e1,e2]
  exact Heap.get?_push_size _ rfl
 ·have e:b=(s.heap.push { cls:=.type "range",data:=.fields #[.int lo t,.int hi u,.int 1 v] }).objs.size:=by simpa using hb
  subst e
  exact I1.jk (Nat.le_refl _) (I1.hok.fresh (Nat.le_refl _))
def GD (ta:TA):TI:=fun σ H R=>ta σ H fun vs H1=>∃ j:Int,vs=[.int j]∧-(2 ^ 62)≤j∧j < 2 ^ 62∧R (Itr 0 j.toNat) H1
def GV (ta:TA):TI:=fun σ H R=>ta σ H fun vs H1=>∃ i j:Int,vs=[.int i,.int j]∧(-(2 ^ 62)≤i∧i < 2 ^ 62∧-(2 ^ 62)≤j∧j < 2 ^ 62)∧R (Itr i (j - i).toNat) H1
theorem wO {a:Expr} {ta:TA} {p pos:Pos} (hg:Gl X "range") (hm:X.mg "range"=none) (ha:PA X [a] ta) (hs:starEach [a] X.env=[(false,eval a X.env)]:=by rfl):PI X tg (.Call (.Name "range" p) [a] [] pos) (GD ta):=by
 intro pins s σ H R I h
 refine Call_ (b7 I hg hm boot_range (PyProof.Rows.callWith_type1 (thn (ha pos pins s σ H _ I h) fun us s1 ⟨vs,H1,I1,r1,q1⟩=>?_) hs rfl))
 obtain ⟨j,e,q1,q2,q⟩:=q1
 subst e
 cases r1 with
 | cons r rr=>
  cases rr
  obtain ⟨t,rfl⟩:=r
  exact call_range_1 (rg I1 (by omega) (by omega) q1 q2 (by simpa using q))
theorem yF {a b:Expr} {ta:TA} {p pos:Pos} (hg:Gl X "range") (hm:X.mg "range"=none) (ha:PA X [a,b] ta) (hs:starEach [a,b] X.env=[(false,eval a X.env),(false,eval b X.env)]:=by rfl) (hs2:starEach [b] X.env=[(false,eval b X.env)]:=by rfl) :
  PI X tg (.Call (.Name "range" p) [a,b] [] pos) (GV ta):=by
 intro pins s σ H R I h
 refine Call_ (b7 I hg hm boot_range (PyProof.Rows.callWith_type1 (thn (ha pos pins s σ H _ I h) fun us s1 ⟨vs,H1,I1,r1,q1⟩=>?_) (by rw [hs,hs2]) (by rw [hs2];rfl)))
 obtain ⟨i,j,e,⟨q1,q2,q3,q4⟩,q⟩:=q1
 subst e
 cases r1 with
 | cons r rr=>
  cases rr with
  | cons r' rr=>
   cases rr
   obtain ⟨t,rfl⟩:=r
   obtain ⟨t',rfl⟩:=r'
   exact call_range_2 (rg I1 q1 q2 q3 q4 q)
def Ja (wi:TI) (g:TG) (tb:TS):TS:=fun D σ H=>wi σ H fun J H1=>∃ W:Nat→Nat→St→Hp→Prop,(∃ m,W 0 m σ H1)∧∀ i m σ H,W i m σ H →
 (J.stop i H∧D.nx σ H)∨(J.go i H∧∃ N:St→Hp→Prop,(∀ σ' H',N σ' H'→∃ m',m' < m∧W (i+1) m' σ' H')∧∀ x H',J.yld i H x H'→g x σ H' fun σ2 H2=>tb { D with nx:=N,ct:=N,bk:=D.nx } σ2 H2)
def kB (fp:List Addr) (h:Heap):List (Addr×Obj):=fp.filterMap fun b=>(h.get? b).map fun o=>(b,o)
theorem f_ {fp:List Addr} {h:Heap} {b:Addr} {o:Obj} (hb:b∈fp) (e:h.get? b=some o):(b,o)∈kB fp h:=List.mem_filterMap.mpr ⟨b,hb,by rw [e];rfl⟩
theorem xV {fp:List Addr} {h:Heap} {p:Addr×Obj} (hp:p∈kB fp h):p.1∈fp∧h.get? p.1=some p.2:=by
 obtain ⟨b,hb,e⟩:=List.mem_filterMap.mp hp
 cases q:h.get? b with
 | none=>rw [q] at e;cases e
 | some o=>
  rw [q] at e
  have e':(b,o)=p:=Option.some.inj e
  subst e'
  exact ⟨hb,q⟩
theorem Inv.pinned {pins:List (Addr×Obj)} {σ:St} {H:Hp} {s:Shared} {fp:List Addr} (I:Inv X pins σ H s) (hf:∀ b∈fp,fh X pins H b) (ho:∀ b∈fp,∃ o,s.heap.get? b=some o∧∀ v,o.data≠.cell v):Inv X (pins++kB fp s.heap) σ H s:=
 I.ou fun p hp=>(List.mem_append.mp hp).elim (fun z=>I.pin p (List.mem_append_right _ z)) fun z=>by
  obtain ⟨hb,e⟩:=xV z
  obtain ⟨f0,f1,f2,_⟩:=hf p.1 hb
  obtain ⟨o,e',d⟩:=ho p.1 hb
  rw [e] at e';cases e'
  exact ⟨e,f0,f1,f2,d⟩
theorem Inv.gH {pins pl:List (Addr×Obj)} {σ:St} {H:Hp} {s:Shared} (I:Inv X (pins++pl) σ H s):Inv X pins σ H s:=I.ou fun p hp=>I.pin p (List.mem_append_right _ (List.mem_append_left _ hp))
theorem EO {iter:Expr} {body:List Stmt} {wi:TI} {g:TG} {tb:TS} {pos:Pos} (hp:PassesOwn (model X.prog X.w) X.A X.env X.xe) (hc:X.calm=true) (hi:PI X tg iter wi) (hg:PG X tg g) (hb:PSs X body tb)
  (hs:∀ x,foldedSetIterable iter X.env x=pure x:=by intro _;rfl):PS X (.For tg iter body [] pos) (Ja wi g tb):=by
 intro pins s σ H D I h
 refine wpAny_For (thn (hi pins s σ H _ I h) fun v s1 h1=>thn h1 fun itv s2 h2=>?_) hs
 obtain ⟨it,fp,tn,J,H2,e,I2,T,st2,f2,W,⟨m0,w0⟩,turn⟩:=h2
 subst e
 have stat:∀ {H':Hp},(∀ b∈fp,H' b=none)→∀ b∈fp,fh X pins H' b:=fun hn b hb=>⟨hn b hb,(f2 b hb).2⟩
 refine codeAny_forLoop_any (fun n s'=>∃ i σ' H',Inv X pins σ' H' s'∧tn i s'.heap∧(∀ b∈fp,H' b=none)∧W i n σ' H') ?_ m0 ⟨0,σ,H2,I2,st2,fun b hb=>(f2 b hb).1,w0⟩
 rintro n s3 ⟨i,σ3,H3,I3,st3,fr3,w3⟩
 rcases turn i n σ3 H3 w3 with ⟨stop,qn⟩ | ⟨go,N,hN,step⟩
 ·refine wpAny_passesOwn hp (thn (T.done X rfl rfl rfl hc i pins s3 σ3 H3 X.xe I3 (stat fr3) st3 stop) fun r s4 ⟨hr,I4⟩=>?_)
  subst hr
  exact wpAny_execs_nil ⟨σ3,H3,I4,qn⟩
 ·refine wpAny_passesOwn hp (thn (T.item X rfl rfl rfl hc i pins s3 σ3 H3 X.xe I3 (stat fr3) st3 go) fun r s4 ⟨u,hr,h4⟩=>?_)
  subst hr
  refine wpAny_passesOwn hp (thn h4 fun _ s5 ⟨x,H5,I5,r5,y5,st5,fr5⟩=>?_)
  have I5':=I5.pinned (stat fr5) (T.obj _ _ st5)
  refine wpAny_passesOwn hp (thn (hg _ s5 σ3 H5 x u _ I5' r5 (step x H5 y5)) fun _ s6 ⟨σ6,H6,I6,q6⟩=>?_)
  refine wpAny_passesOwn hp (thn (hb _ s6 σ6 H6 _ I6 q6) fun f s7 q7=>?_)
  have again:∀ {σ7:St} {H7:Hp},Inv X (pins++kB fp s5.heap) σ7 H7 s7→N σ7 H7→∃ m,m < n∧∃ i σ' H',Inv X pins σ' H' s7∧tn i s7.heap∧(∀ b∈fp,H' b=none)∧W i m σ' H':=fun {σ7 H7} I7 n7=>by
   obtain ⟨m',hm,w7⟩:=hN σ7 H7 n7
   refine ⟨m',hm,i+1,σ7,H7,I7.gH,T.keep _ _ _ st5 fun b hb o e=>(I7.pin (b,o) (List.mem_append_right _ (List.mem_append_right _ (f_ hb e)))).1,fun b hb=>?_,w7⟩
   obtain ⟨o,e,d⟩:=T.obj _ _ st5 b hb
   exact (I7.pin (b,o) (List.mem_append_right _ (List.mem_append_right _ (f_ hb e)))).2.1
  cases f with
  | next=>obtain ⟨σ7,H7,I7,n7⟩:=q7;exact again I7 n7
  | cont=>obtain ⟨σ7,H7,I7,n7⟩:=q7;exact again I7 n7
  | brk=>obtain ⟨σ7,H7,I7,q7⟩:=q7;exact ⟨σ7,H7,I7.gH,q7⟩
  | ret v=>obtain ⟨x7,σ7,H7,I7,r7,q7⟩:=q7;exact ⟨x7,σ7,H7,I7.gH,r7,q7⟩
end
abbrev R2:=V→V→Hp→VK→Prop
def OpR (X:Cx) (f:Value→Value→Sem Value) (r:R2):Prop:=
 ∀ (pins:List (Addr×Obj)) (s:Shared) (σ:St) (H:Hp) (x y:V) (v u:Value) (Q:VK),Inv X pins σ H s→RelV x v→RelV y u→r x y H Q →
  wpAny (model X.prog X.w) X.A (f v u) (EP X pins σ Q) X.xe s
def UnR (X:Cx) (f:Value→Sem Value) (r:V→Hp→VK→Prop):Prop:=
 ∀ (pins:List (Addr×Obj)) (s:Shared) (σ:St) (H:Hp) (x:V) (v:Value) (Q:VK),Inv X pins σ H s→RelV x v→r x H Q →
  wpAny (model X.prog X.w) X.A (f v) (EP X pins σ Q) X.xe s
def bL (X:Cx) (f:Value) (r:List V→Hp→VK→Prop):Prop:=
 ∀ (pins:List (Addr×Obj)) (s:Shared) (σ:St) (H:Hp) (xs:List V) (us:List Value) (Q:VK),Inv X pins σ H s→Vals xs us→r xs H Q →
  wpAny (model X.prog X.w) X.A (call f us) (EP X pins σ Q) X.xe s
def Ih (X:Cx) (r:V→Hp→(Bool→Hp→Prop)→Prop):Prop:=
 ∀ (pins:List (Addr×Obj)) (s:Shared) (σ:St) (H:Hp) (x:V) (v:Value) (Q:Bool→Hp→Prop),Inv X pins σ H s→RelV x v→r x H Q →
  wpAny (model X.prog X.w) X.A (truthy v) (TP X pins σ Q) X.xe s
def tOp (r:R2) (ta tb:TE):TE:=fun σ H Q=>ta σ H fun x H1=>tb σ H1 fun y H2=>r x y H2 Q
def tUn (r:V→Hp→VK→Prop) (ta:TE):TE:=fun σ H Q=>ta σ H fun x H1=>r x H1 Q
def rI (C:Int→Int→Prop) (g:Int→Int→V):R2:=fun x y H Q=>∃ i j,x=.int i∧y=.int j∧C i j∧Q (g i j) H
def rI0 (g:Int→Int→V):R2:=fun x y H Q=>∃ i j,x=.int i∧y=.int j∧Q (g i j) H
def rU (g:Int→V):V→Hp→VK→Prop:=fun x H Q=>∃ i,x=.int i∧Q (g i) H
section
variable {X:Cx} {a b c:Expr} {ta tb tc:TE} {pos:Pos}
theorem Ai (ha:PE X a ta) (hb:PE X b tb) {pins:List (Addr×Obj)} {s:Shared} {σ:St} {H:Hp} {R:V→V→Hp→Prop} (I:Inv X pins σ H s)
  (h:ta σ H fun x H1=>tb σ H1 fun y H2=>R x y H2) {Q:Value→Shared→Prop} {f:Value→Value→Sem Value}
  (hf:∀ v u s2 x y H2,Inv X pins σ H2 s2→RelV x v→RelV y u→R x y H2→wpAny (model X.prog X.w) X.A (f v u) Q X.xe s2) :
  wpAny (model X.prog X.w) X.A (eval a X.env) (fun v s₁=>wpAny (model X.prog X.w) X.A (eval b X.env) (fun u s₂=>wpAny (model X.prog X.w) X.A (f v u) Q X.xe s₂) X.xe s₁) X.xe s:=by
 refine thn (ha pins s σ H _ I h) fun v s1 ⟨x,H1,I1,r1,q1⟩=>?_
 refine thn (hb pins s1 σ H1 _ I1 q1) fun u s2 ⟨y,H2,I2,r2,q2⟩=>?_
 exact hf v u s2 x y H2 I2 r1 r2 q2
theorem HM {op:Operator} {r:R2} (ho:OpR X (binaryOp op) r) (ha:PE X a ta) (hb:PE X b tb):PE X (.BinOp a op b pos) (tOp r ta tb):=by
 intro pins s σ H Q I h
 exact wpAny_BinOp (Ai ha hb I h fun v u s2 x y H2 I2 rx ry q=>ho pins s2 σ H2 x y v u Q I2 rx ry q)
theorem Ht {op:UnaryOp} {r:V→Hp→VK→Prop} (ho:UnR X (unaryOp op) r) (ha:PE X a ta):PE X (.UnaryOp op a pos) (tUn r ta):=by
 intro pins s σ H Q I h
 exact UnaryOp_ (thn (ha pins s σ H _ I h) fun v s1 ⟨x,H1,I1,r1,q1⟩=>ho pins s1 σ H1 x v Q I1 r1 q1)
theorem opI {f:Value→Value→Sem Value} {C:Int→Int→Prop} {g:Int→Int→Int}
  (rule:∀ (i j:Int) (t u:Tok) (s:Shared) (Q:Value→Shared→Prop) (E:Value→Shared→Prop),C i j→Q (.int (g i j) s.toks) { s with toks:=s.toks+1 }→wpAny (model X.prog X.w) X.A (f (.int i t) (.int j u)) Q E s) :
  OpR X f (rI C fun i j=>.int (g i j)):=by
 intro pins s σ H x y v u Q I rx ry h
 obtain ⟨i,j,rfl,rfl,hc,q⟩:=h
 obtain ⟨t,rfl⟩:=rx
 obtain ⟨t',rfl⟩:=ry
 exact rule i j t t' s _ _ hc ⟨.int (g i j),H,I.tok _,⟨_,rfl⟩,q⟩
theorem Fx {f:Value→Value→Sem Value} {g:Int→Int→Int}
  (rule:∀ (i j:Int) (t u:Tok) (s:Shared) (Q:Value→Shared→Prop) (E:Value→Shared→Prop),Q (.int (g i j) s.toks) { s with toks:=s.toks+1 }→wpAny (model X.prog X.w) X.A (f (.int i t) (.int j u)) Q E s) :
  OpR X f (rI0 fun i j=>.int (g i j)):=by
 intro pins s σ H x y v u Q I rx ry h
 obtain ⟨i,j,rfl,rfl,q⟩:=h
 obtain ⟨t,rfl⟩:=rx
 obtain ⟨t',rfl⟩:=ry
 exact rule i j t t' s _ _ ⟨.int (g i j),H,I.tok _,⟨_,rfl⟩,q⟩
theorem uY {f:Value→Value→Sem Value} {g:Int→Int→Bool}
  (rule:∀ (i j:Int) (t u:Tok) (s:Shared) (Q:Value→Shared→Prop) (E:Value→Shared→Prop),Q (.bool (g i j)) s→wpAny (model X.prog X.w) X.A (f (.int i t) (.int j u)) Q E s) :
  OpR X f (rI0 fun i j=>.bl (g i j)):=by
 intro pins s σ H x y v u Q I rx ry h
 obtain ⟨i,j,rfl,rfl,q⟩:=h
 obtain ⟨t,rfl⟩:=rx
 obtain ⟨t',rfl⟩:=ry
 exact rule i j t t' s _ _ ⟨.bl (g i j),H,I,rfl,q⟩
def oo (i j:Int):Prop:=0 < j∧j < 1073741824
def n4 (i j:Int):Prop:=0≤j∧j≤1000000∧i.natAbs < 2 ^ 64
def ju (i j:Int):Prop:=(-(2 ^ 64) < i∧i < 2 ^ 64)∨(-(2 ^ 64) < j∧j < 2 ^ 64)
theorem ju.ok {i j:Int} (h:ju i j):IntMulOk i j:=by
 rcases h with ⟨h1,h2⟩ | ⟨h1,h2⟩
 ·exact .of_left (intBits_le_64 h1 h2)
 ·exact .of_right (intBits_le_64 h1 h2)
theorem F5:OpR X (binaryOp .Add) (rI0 fun i j=>.int (i+j)):=Fx fun _ _ _ _ _ _ _ q=>add_int q
theorem gy:OpR X (binaryOp .Sub) (rI0 fun i j=>.int (i - j)):=Fx fun _ _ _ _ _ _ _ q=>sub_int q
theorem cM:OpR X (binaryOp .Mult) (rI ju fun i j=>.int (i * j)):=opI fun _ _ _ _ _ _ _ hc q=>mul_int q hc.ok
theorem CW:OpR X (binaryOp .FloorDiv) (rI oo fun i j=>.int (i / j)):=opI fun i j _ _ _ _ _ hc q=>by
 have h1:(0:Int) < j:=hc.1
 have h2:j < 1073741824:=hc.2
 exact floordiv_int (by omega) (by rw [Int.fdiv_eq_ediv_of_nonneg i (by omega)];exact q) (.inl (PyProof.noPylong_small (by omega)))
theorem dM:OpR X (binaryOp .Mod) (rI (fun _ j=>0 < j) fun i j=>.int (i % j)):=opI fun i j _ _ _ _ _ hc q=>by
 have h1:(0:Int) < j:=hc
 exact mod_int' (by omega) (by rw [Int.fmod_eq_emod_of_nonneg i (by omega)];exact q)
theorem xE:OpR X (binaryOp .Pow) (rI n4 fun i j=>.int (i ^ j.toNat)):=opI fun _ _ _ _ _ _ _ hc q=>pow_int_small hc.1 hc.2.1 hc.2.2 q
theorem unI {f:Value→Sem Value} {g:Int→Int}
  (rule:∀ (i:Int) (t:Tok) (s:Shared) (Q:Value→Shared→Prop) (E:Value→Shared→Prop),Q (.int (g i) s.toks) { s with toks:=s.toks+1 }→wpAny (model X.prog X.w) X.A (f (.int i t)) Q E s) :
  UnR X f (rU fun i=>.int (g i)):=by
 intro pins s σ H x v Q I rx h
 obtain ⟨i,rfl,q⟩:=h
 obtain ⟨t,rfl⟩:=rx
 exact rule i t s _ _ ⟨.int (g i),H,I.tok _,⟨_,rfl⟩,q⟩
theorem iH:UnR X (unaryOp .USub) (rU fun i=>.int (-i)):=unI fun _ _ _ _ _ q=>neg_int q
end
def zr:V→V→Bool
 | .non,.non=>true | .non,.int _=>true | .int _,.non=>true | .non,.bl _=>true | .bl _,.non=>true | .non,.str _=>true | .str _,.non=>true
 | .int _,.int _=>true | .bl _,.bl _=>true | .str _,.str _=>true | .byt _,.byt _=>true
 | .int _,.str _=>true | .str _,.int _=>true | .bl _,.str _=>true | .str _,.bl _=>true
 | _,_=>false
def rEq:R2:=fun x y H Q=>zr x y=true∧Q (.bl (decide (x=y))) H
def rNe:R2:=fun x y H Q=>zr x y=true∧Q (.bl (!decide (x=y))) H
theorem t_ {i j:Int}:decide (V.int i=V.int j)=(i == j):=by
 rw [Bool.eq_iff_iff]
 simp
theorem xY {i j:Bool}:decide (V.bl i=V.bl j)=(i == j):=by
 rw [Bool.eq_iff_iff]
 simp
theorem uq {i j:Str}:decide (V.str i=V.str j)=(i == j):=by
 rw [Bool.eq_iff_iff]
 simp
theorem uE {i j:Array UInt8}:decide (V.byt i=V.byt j)=(i.toList == j.toList):=by
 rw [Bool.eq_iff_iff]
 cases i
 cases j
 simp
section
variable {X:Cx} {a b c:Expr} {ta tb tc:TE} {pos:Pos}
theorem bf {pins:List (Addr×Obj)} {σ:St} {H:Hp} {s:Shared} {Q:VK} {k k':Bool} (I:Inv X pins σ H s) (q:Q (.bl k) H) (e:k=k'):EP X pins σ Q (.bool k') s:=by
 subst e
 exact ⟨.bl k,H,I,rfl,q⟩
theorem Gr:OpR X (compareOp .Eq) rEq:=by
 intro pins s σ H x y v u Q I rx ry h
 obtain ⟨hs,q⟩:=h
 cases x with
 | non=>
  cases rx
  cases y with
  | non=>cases ry;exact PySem.EqNone.eq_none_none (bf I q (by simp))
  | bl j=>cases ry;exact PySem.EqNone.eq_none_bool (bf I q (by simp))
  | int j=>obtain ⟨t',rfl⟩:=ry;exact PySem.EqNone.eq_none_int (bf I q (by simp))
  | str j=>obtain ⟨t',rfl⟩:=ry;exact PySem.EqNone.eq_none_str (bf I q (by simp))
  | _=>exact absurd (show false=true from hs) Bool.false_ne_true
 | bl i=>
  cases rx
  cases y with
  | non=>cases ry;exact PySem.EqNone.eq_bool_none (bf I q (by simp))
  | bl j=>cases ry;exact eq_bool (bf I q xY)
  | str j=>obtain ⟨t',rfl⟩:=ry;exact PySem.EqMixed.eq_bool_str (bf I q (by simp))
  | _=>exact absurd (show false=true from hs) Bool.false_ne_true
 | int i=>
  obtain ⟨t,rfl⟩:=rx
  cases y with
  | non=>cases ry;exact PySem.EqNone.eq_int_none (bf I q (by simp))
  | int j=>obtain ⟨t',rfl⟩:=ry;exact eq_int (bf I q t_)
  | str j=>obtain ⟨t',rfl⟩:=ry;exact PySem.EqMixed.eq_int_str (bf I q (by simp))
  | _=>exact absurd (show false=true from hs) Bool.false_ne_true
 | str i=>
  obtain ⟨t,rfl⟩:=rx
  cases y with
  | non=>cases ry;exact PySem.EqNone.eq_str_none (bf I q (by simp))
  | bl j=>cases ry;exact PySem.EqMixed.eq_str_bool (bf I q (by simp))
  | int j=>obtain ⟨t',rfl⟩:=ry;exact PySem.EqMixed.eq_str_int (bf I q (by simp))
  | str j=>obtain ⟨t',rfl⟩:=ry;exact eq_str (bf I q uq)
  | _=>exact absurd (show false=true from hs) Bool.false_ne_true
 | byt i=>
  obtain ⟨t,rfl⟩:=rx
  cases y with
  | byt j=>obtain ⟨t',rfl⟩:=ry;exact PySem.W.eq_bytes (bf I q uE)
  | _=>exact absurd (show false=true from hs) Bool.false_ne_true
 | _=>cases y<;>exact absurd (show false=true from hs) Bool.false_ne_true
theorem GO:OpR X (compareOp .NotEq) rNe:=by
 intro pins s σ H x y v u Q I rx ry h
 obtain ⟨hs,q⟩:=h
 cases x with
 | non=>
  cases rx
  cases y with
  | non=>cases ry;exact PySem.EqNone.ne_none_none (bf I q (by simp))
  | bl j=>cases ry;exact PySem.EqNone.ne_none_bool (bf I q (by simp))
  | int j=>obtain ⟨t',rfl⟩:=ry;exact PySem.EqNone.ne_none_int (bf I q (by simp))
  | str j=>obtain ⟨t',rfl⟩:=ry;exact PySem.EqNone.ne_none_str (bf I q (by simp))
  | _=>exact absurd (show false=true from hs) Bool.false_ne_true
 | bl i=>
  cases rx
  cases y with
  | non=>cases ry;exact PySem.EqNone.ne_bool_none (bf I q (by simp))
  | bl j=>cases ry;exact ne_bool (bf I q (congrArg not xY))
  | str j=>obtain ⟨t',rfl⟩:=ry;exact PySem.EqMixed.ne_bool_str (bf I q (by simp))
  | _=>exact absurd (show false=true from hs) Bool.false_ne_true
 | int i=>
  obtain ⟨t,rfl⟩:=rx
  cases y with
  | non=>cases ry;exact PySem.EqNone.ne_int_none (bf I q (by simp))
  | int j=>obtain ⟨t',rfl⟩:=ry;exact ne_int (bf I q (congrArg not t_))
  | str j=>obtain ⟨t',rfl⟩:=ry;exact PySem.EqMixed.ne_int_str (bf I q (by simp))
  | _=>exact absurd (show false=true from hs) Bool.false_ne_true
 | str i=>
  obtain ⟨t,rfl⟩:=rx
  cases y with
  | non=>cases ry;exact PySem.EqNone.ne_str_none (bf I q (by simp))
  | bl j=>cases ry;exact PySem.EqMixed.ne_str_bool (bf I q (by simp))
  | int j=>obtain ⟨t',rfl⟩:=ry;exact PySem.EqMixed.ne_str_int (bf I q (by simp))
  | str j=>obtain ⟨t',rfl⟩:=ry;exact ne_str (bf I q (congrArg not uq))
  | _=>exact absurd (show false=true from hs) Bool.false_ne_true
 | byt i=>
  obtain ⟨t,rfl⟩:=rx
  cases y with
  | byt j=>obtain ⟨t',rfl⟩:=ry;exact PySem.W.ne_bytes (bf I q (congrArg not uE))
  | _=>exact absurd (show false=true from hs) Bool.false_ne_true
 | _=>cases y<;>exact absurd (show false=true from hs) Bool.false_ne_true
theorem mP:OpR X (compareOp .Lt) (rI0 fun i j=>.bl (decide (i < j))):=uY fun _ _ _ _ _ _ _ q=>lt_int q
theorem dg:OpR X (compareOp .LtE) (rI0 fun i j=>.bl (decide (i≤j))):=uY fun _ _ _ _ _ _ _ q=>le_int q
theorem Bf:OpR X (compareOp .Gt) (rI0 fun i j=>.bl (decide (j < i))):=uY fun _ _ _ _ _ _ _ q=>gt_int q
theorem Bj:OpR X (compareOp .GtE) (rI0 fun i j=>.bl (decide (j≤i))):=uY fun _ _ _ _ _ _ _ q=>ge_int q
theorem OpR.or {f:Value→Value→Sem Value} {r r':R2} (h:OpR X f r) (h':OpR X f r'):OpR X f (fun x y H Q=>r x y H Q∨r' x y H Q):=by
 intro pins s σ H x y v u Q I rx ry q
 rcases q with q | q
 ·exact h pins s σ H x y v u Q I rx ry q
 ·exact h' pins s σ H x y v u Q I rx ry q
theorem xm (b:Expr) {op:CmpOp} (h:op≠.In:=by decide) (h2:op≠.NotIn:=by decide):behindInMarks op b=false:=by
  have e1:(op == CmpOp.In)=false:=by cases op<;>first | rfl | exact absurd rfl h
  have e2:(op == CmpOp.NotIn)=false:=by cases op<;>first | rfl | exact absurd rfl h2
  cases b<;>simp [behindInMarks,e1,e2]
theorem CK {op:CmpOp} {r:R2} (ho:OpR X (compareOp op) r) (ha:PE X a ta) (hb:PE X b tb) (hm:behindInMarks op b=false):PE X (.Compare a [op] [b] pos) (tOp r ta tb):=by
 intro pins s σ H Q I h
 exact wpAny_Compare1 (Ai ha hb I h fun v u s2 x y H2 I2 rx ry q=>ho pins s2 σ H2 x y v u Q I2 rx ry q) hm
def A2 (t:TE):TT:=fun σ H Q=>t σ H fun x H'=>∃ k,x=.bl k∧Q k H'
theorem Cd {op:CmpOp} {r:R2} (ho:OpR X (compareOp op) r) (ha:PE X a ta) (hb:PE X b tb) (hm:behindInMarks op b=false):PT X (.Compare a [op] [b] pos) (A2 (tOp r ta tb)):=by
 intro pins s σ H Q I h
 refine wpAny_isTrue_Compare1 (thn (ha pins s σ H _ I h) fun v s1 ⟨x,H1,I1,r1,q1⟩=>thn (hb pins s1 σ H1 _ I1 q1) fun u s2 ⟨y,H2,I2,r2,q2⟩=>
  thn (ho pins s2 σ H2 x y v u _ I2 r1 r2 q2) fun c s3 ⟨z,H3,I3,r3,k,e,q3⟩=>?_) hm
 subst e
 cases r3
 exact wpAny_truthy_bool ⟨H3,I3,q3⟩
def rh (r r':R2) (ta tb tc:TE):TE:=fun σ H Q=>ta σ H fun x H1=>tb σ H1 fun y H2=>r x y H2 fun z H3=>∃ k,z=.bl k ∧
 (if k=true then tc σ H3 fun w' H4=>r' y w' H4 Q else Q (.bl false) H3)
theorem AW {op op':CmpOp} {r r':R2} (ho:OpR X (compareOp op) r) (ho':OpR X (compareOp op') r') (ha:PE X a ta) (hb:PE X b tb) (hc:PE X c tc)
  (hm:lastMarks [op,op'] [b,c]=false:=by with_unfolding_all rfl):PE X (.Compare a [op,op'] [b,c] pos) (rh r r' ta tb tc):=by
 intro pins s σ H Q I h
 refine Compare_chain (thn (ha pins s σ H _ I h) fun v s1 ⟨x,H1,I1,r1,q1⟩=>chain_link (thn (hb pins s1 σ H1 _ I1 q1) fun u s2 ⟨y,H2,I2,r2,q2⟩=>
  thn (ho pins s2 σ H2 x y v u _ I2 r1 r2 q2) fun d s3 ⟨z,H3,I3,r3,k,e,q3⟩=>?_)) hm
 subst e
 cases r3
 refine wpAny_truthy_bool ?_
 cases k with
 | false=>exact ite_ff ⟨.bl false,H3,I3,rfl,q3⟩
 | true=>exact ite_tt (chain_last (thn (hc pins s3 σ H3 _ I3 q3) fun w' s4 ⟨z',H4,I4,r4,q4⟩=>ho' pins s4 σ H4 y z' u w' Q I4 r2 r4 q4))
theorem Ak {op op':CmpOp} {r r':R2} (ho:OpR X (compareOp op) r) (ho':OpR X (compareOp op') r') (ha:PE X a ta) (hb:PE X b tb) (hc:PE X c tc)
  (hm:lastMarks [op,op'] [b,c]=false:=by with_unfolding_all rfl):PT X (.Compare a [op,op'] [b,c] pos) (A2 (rh r r' ta tb tc)):=by
 intro pins s σ H Q I h
 refine isTrue_chain (thn (ha pins s σ H _ I h) fun v s1 ⟨x,H1,I1,r1,q1⟩=>test_link (thn (hb pins s1 σ H1 _ I1 q1) fun u s2 ⟨y,H2,I2,r2,q2⟩=>
  thn (ho pins s2 σ H2 x y v u _ I2 r1 r2 q2) fun d s3 ⟨z,H3,I3,r3,k,e,q3⟩=>?_)) hm
 subst e
 cases r3
 refine wpAny_truthy_bool ?_
 cases k with
 | false=>
  obtain ⟨k',e',q'⟩:=q3
  cases e'
  exact ite_ff ⟨H3,I3,q'⟩
 | true=>
  refine ite_tt (test_last (thn (hc pins s3 σ H3 _ I3 q3) fun w' s4 ⟨z',H4,I4,r4,q4⟩=>thn (ho' pins s4 σ H4 y z' u w' _ I4 r2 r4 q4) fun d' s5 ⟨z2,H5,I5,r5,k2,e2,q5⟩=>?_))
  subst e2
  cases r5
  exact wpAny_truthy_bool ⟨H5,I5,q5⟩
def Ar (K:PySem.W.Frag) (x:V) (H:Hp) (k:Bool):Prop:=
 match x with
 | .non=>k=false
 | .bl b=>k=b
 | .int i=>k=(i != 0)
 | .str y=>y.length≤sizeLine∧k=((y.length:Int) != 0)
 | .byt y=>y.size≤sizeLine∧k=((y.size:Int) != 0)
 | .ref p=>(∃ xs,SqL K H p xs∧k=!xs.isEmpty)∨(∃ xs,SqT K H p xs∧k=!xs.isEmpty)∨∃ kvs,H p=some (.dK kvs)∧k=!kvs.isEmpty
 | _=>False
theorem vf {κ:Type} {kvs:List (κ×V)} {vs:List (κ×Value)} (r:KV kvs vs):(!vs.isEmpty)=!kvs.isEmpty:=by
 cases r<;>rfl
theorem nN {xs:List V} {its:List Value} (r:Vals xs its):(!its.toArray.isEmpty)=!xs.isEmpty:=by
 cases r<;>simp
theorem kq:(sizeLine:Nat) < 2 ^ 63:=by rw [sizeLine_eq];decide
theorem Dx:Ih X (fun x H Q=>∃ k,Ar X.K x H k∧Q k H):=by
 intro pins s σ H x v Q I rx h
 obtain ⟨k,e,q⟩:=h
 have hl:=kq
 have hs:sizeLine=16777216:=sizeLine_eq
 cases x with
 | non=>
  cases rx
  have e':k=false:=e
  subst e'
  exact truthy_none ⟨H,I,q⟩
 | bl b=>
  cases rx
  have e':k=b:=e
  subst e'
  exact wpAny_truthy_bool ⟨H,I,q⟩
 | int i=>
  obtain ⟨t,rfl⟩:=rx
  have e':k=(i != 0):=e
  subst e'
  exact PySem.P.truthy_int ⟨H,I,q⟩
 | str y=>
  obtain ⟨t,rfl⟩:=rx
  obtain ⟨hy,e'⟩:y.length≤sizeLine∧k=((y.length:Int) != 0):=e
  subst e'
  exact PySem.P.truthy_str (by omega) ⟨H,I.tok _,q⟩
 | byt y=>
  obtain ⟨t,rfl⟩:=rx
  obtain ⟨hy,e'⟩:y.size≤sizeLine∧k=((y.size:Int) != 0):=e
  subst e'
  exact PySem.W.truthy_bytes (by omega) ⟨H,I.tok _,q⟩
 | ref p=>
  cases rx
  have e':(∃ xs,SqL X.K H p xs∧k=!xs.isEmpty)∨(∃ xs,SqT X.K H p xs∧k=!xs.isEmpty)∨∃ kvs,H p=some (.dK kvs)∧k=!kvs.isEmpty:=e
  rcases e' with ⟨xs,hx,e'⟩ | ⟨xs,hx,e'⟩ | ⟨kvs,hx,e'⟩
  ·subst e'
   obtain ⟨its,r,pl,hz⟩:=I.list hx
   have hlen:=r.length
   exact wpAny_truthy_list pl.isList (by simp only [List.size_toArray];omega) ⟨H,I.tok _,by rw [nN r];exact q⟩
  ·subst e'
   obtain ⟨its,r,pl,hz⟩:=I.tuple hx
   have hlen:=r.length
   exact truthy_tuple pl (by simp only [List.size_toArray];omega) ⟨H,I.tok _,by rw [nN r];exact q⟩
  ·subst e'
   obtain ⟨hz,hS,vs,r,m⟩:kvs.length≤sizeLine∧(p == sysModules)=false∧∃ vs,KV kvs vs∧s.heap.DictOf (aR X.prog X.w) p vs:=I.hok p _ hx
   have hlen:kvs.length=vs.length:=Paired.length r
   exact wpAny_truthy_dict hS m (by omega) ⟨H,I.tok _,by rw [vf r];exact q⟩
 | _=>exact (show False from e).elim
theorem zQ (ha:PE X a ta) (he:∀ whole,isTrue a X.env whole=(do let v ← whole;standAt a.pos;holding [v] (truthy v))) :
  PT X a (fun σ H Q=>ta σ H fun x H'=>∃ k,Ar X.K x H' k∧Q k H'):=by
 intro pins s σ H Q I h
 exact isTrue_plain (thn (ha pins s σ H _ I h) fun v s1 ⟨x,H1,I1,r1,q1⟩=>Dx pins s1 σ H1 x v Q I1 r1 q1) (he _)
theorem v9:OpR X (binaryOp .Add) (fun x y H Q=>∃ i j,x=.str i∧y=.str j∧i.length+j.length≤sizeLine∧Q (.str (i++j)) H):=by
 intro pins s σ H x y v u Q I rx ry h
 obtain ⟨i,j,rfl,rfl,hz,q⟩:=h
 obtain ⟨t,rfl⟩:=rx
 obtain ⟨t',rfl⟩:=ry
 exact add_str (fun t' tk=>⟨.str (i++j),H,I.tok _,⟨_,rfl⟩,q⟩) hz
theorem vals1 {x:V} {us:List Value} (r:Vals [x] us):∃ u,us=[u]∧RelV x u:=by
 cases r with
 | cons r1 r2=>cases r2;exact ⟨_,rfl,r1⟩
theorem vals2 {x y:V} {us:List Value} (r:Vals [x,y] us):∃ u w',us=[u,w']∧RelV x u∧RelV y w':=by
 cases r with
 | cons r1 r2=>
  cases r2 with
  | cons r3 r4=>cases r4;exact ⟨_,_,rfl,r1,r3⟩
theorem xf (hc:X.calm=true):bL X (.builtin "max") (fun xs H Q=>∃ i j,xs=[.int i,.int j]∧Q (.int (if j > i then j else i)) H):=by
 intro pins s σ H xs us Q I r h
 obtain ⟨i,j,rfl,q⟩:=h
 obtain ⟨u,w',rfl,⟨t,rfl⟩,⟨t',rfl⟩⟩:=vals2 r
 refine max_two_ints (I.ok.hd hc) fun h' tk k=>⟨_,H,I.kept k,?_,q⟩
 by_cases hj:j > i
 ·rw [if_pos hj,if_pos hj];exact ⟨_,rfl⟩
 ·rw [if_neg hj,if_neg hj];exact ⟨_,rfl⟩
theorem wL (hc:X.calm=true):bL X (.builtin "min") (fun xs H Q=>∃ i j,xs=[.int i,.int j]∧Q (.int (if j < i then j else i)) H):=by
 intro pins s σ H xs us Q I r h
 obtain ⟨i,j,rfl,q⟩:=h
 obtain ⟨u,w',rfl,⟨t,rfl⟩,⟨t',rfl⟩⟩:=vals2 r
 refine min_two_ints (I.ok.hd hc) fun h' tk k=>⟨_,H,I.kept k,?_,q⟩
 by_cases hj:j < i
 ·rw [if_pos hj,if_pos hj];exact ⟨_,rfl⟩
 ·rw [if_neg hj,if_neg hj];exact ⟨_,rfl⟩
def IE (K:PySem.W.Frag) (x:V) (H:Hp) (n:Nat):Prop:=
 match x with
 | .str y=>y.length≤sizeLine∧n=y.length
 | .byt y=>y.size≤sizeLine∧n=y.size
 | .ref p=>(∃ xs,SqL K H p xs∧n=xs.length)∨∃ xs,SqT K H p xs∧n=xs.length
 | _=>False
theorem sD:bL X (.builtin "len") (fun xs H Q=>∃ x n,xs=[x]∧IE X.K x H n∧Q (.int n) H):=by
 intro pins s σ H xs us Q I r h
 obtain ⟨x,n,rfl,e,q⟩:=h
 obtain ⟨u,rfl,rx⟩:=vals1 r
 have hl:=kq
 have hs:sizeLine=16777216:=sizeLine_eq
 cases x with
 | str y=>
  obtain ⟨t,rfl⟩:=rx
  obtain ⟨hy,e'⟩:y.length≤sizeLine∧n=y.length:=e
  subst e'
  exact len_str (by omega) ⟨.int _,H,I.tok _,⟨_,rfl⟩,q⟩
 | byt y=>
  obtain ⟨t,rfl⟩:=rx
  obtain ⟨hy,e'⟩:y.size≤sizeLine∧n=y.size:=e
  subst e'
  exact PySem.W.len_bytes (by omega) ⟨.int _,H,I.tok _,⟨_,rfl⟩,q⟩
 | ref p=>
  cases rx
  have e':(∃ xs,SqL X.K H p xs∧n=xs.length)∨∃ xs,SqT X.K H p xs∧n=xs.length:=e
  rcases e' with ⟨xs,hx,e'⟩ | ⟨xs,hx,e'⟩
  ·subst e'
   obtain ⟨its,r',pl,hz⟩:=I.list hx
   have hlen:=r'.length
   exact Calls.call_len_list pl.isList (by simp only [List.size_toArray];omega) ⟨.int xs.length,H,I.tok _,⟨_,by simp only [List.size_toArray];rw [hlen]⟩,q⟩
  ·subst e'
   obtain ⟨its,r',pl,hz⟩:=I.tuple hx
   have hlen:=r'.length
   exact len_tuple pl (by simp only [List.size_toArray];omega) ⟨.int xs.length,H,I.tok _,⟨_,by simp only [List.size_toArray];rw [hlen]⟩,q⟩
 | _=>exact (show False from e).elim
end
structure zq (h:Heap) (x dx C:Addr) (mA:Str→Option Value):Prop where
 obj:h.get? x=some (PySem.W.instObj C dx)
 ns:h.Ns1 dx mA
 ne:dx≠x
theorem yV {h:Heap} {dx:Addr} {mA:Str→Option Value} (n:h.Ns1 dx mA):∃ od,h.get? dx=some od∧∀ name,PySem.W.lookIn name od=some (mA name):=by
 obtain ⟨o,es,ep,ho,hd,hk,_,hm⟩:=n
 refine ⟨o,ho,fun name=>?_⟩
 have e:=hm name
 unfold nsFind findBy at e
 rw [← Array.find?_toList] at e
 unfold PySem.W.lookIn
 rw [hd]
 dsimp only
 split
 ·rename_i y q
  rw [q] at e
  exact congrArg some e
 ·rename_i q
  rw [q] at e
  have a:es.toList.any (·.refKey)=false:=by
   rw [List.any_eq_false]
   intro y hy
   obtain ⟨z,t,hkey⟩:=hk y (Array.mem_toList_iff.mp hy)
   simp [DictEntry.refKey,hkey]
  have a':¬es.toList.any (·.refKey)=true:=by rw [a];exact Bool.false_ne_true
  rw [if_neg a']
  exact congrArg some e
theorem zq.look {h:Heap} {x dx C:Addr} {mA:Str→Option Value} (I:zq h x dx C mA):∃ od,PySem.W.InstAt h x (PySem.W.instObj C dx) C (some od)∧∀ name,PySem.W.lookIn name od=some (mA name):=
 let ⟨od,ho,hl⟩:=yV I.ns
 ⟨od,⟨I.obj,rfl,rfl,ho⟩,hl⟩
theorem fc.some_of {v:V} {o:Option Value} (r:fc (some v) o):∃ u,o=some u∧RelV v u:=by
 cases o with
 | none=>exact (show False from r).elim
 | some u=>exact ⟨u,rfl,r⟩
section
variable {P:Program} {w:World} {H H':Hp} {h h':Heap} {a C dx:Addr} {fs fs':List (Str×V)}
theorem BQ (hok:HOk P w H h) (e:H a=some (.ins C dx fs)):∃ mA,zq h a dx C mA∧(∀ f,fc (fs.lookup f) (mA f))∧PySem.Within mA (fs.map (·.1))∧fs.length≤1000∧H dx=some (.own a):=by
 obtain ⟨d,z,ne,ob,mA,n,r,q⟩:=(show bz P w H h a (.ins C dx fs) from hok a _ e)
 exact ⟨mA,⟨ob,n,ne⟩,r,q,z,d⟩
end
structure Cls (K:PySem.W.Frag) (C:Addr):Prop where
 pg:PySem.W.plainGet K C Str.empty=true
 hd:PySem.W.hasDictIn K C=true
 po:PySem.W.plainOver K C=true
 sa:PySem.W.findIn K (.ref C) "__setattr__"=some (some (.builtin "object.__setattr__"))
theorem Cls.get {K:PySem.W.Frag} {C:Addr} (c:Cls K C) (f:Str):PySem.W.plainGet K C f=true:=c.pg
structure Con (K:PySem.W.Frag) (C:Addr) (f:Str) (v:V) (u:Value):Prop where
 at_:PySem.W.findIn K (.ref C) f=some (some u)
 rel:RelV v u
 get:PySem.W.specialIn K u "__get__"=some none
 cp:PySem.W.copiedNames.contains f=false
structure Meth (K:PySem.W.Frag) (C:Addr) (m:Str) (f:Addr):Prop where
 at_:PySem.W.findIn K (.ref C) m=some (some (.ref f))
 fn:PySem.W.isFn K (.ref f)=true
 kp:PySem.W.keepIn K (.ref f)=true
section
variable {X:Cx} {pins:List (Addr×Obj)} {σ:St} {H:Hp} {s:Shared} {A:Around} {E:Value→Shared→Prop} {Q:Value→Shared→Prop} {c:Value} {b:Bool}
inductive fb (K:PySem.W.Frag) (H:Hp):V→Value→Prop where
 | non:fb K H .non (.type "NoneType")
 | bl (x:Bool):fb K H (.bl x) (.type "bool")
 | int (i:Int):fb K H (.int i) (.type "int")
 | str (x:Str):fb K H (.str x) (.type "str")
 | flt (x:UInt64):fb K H (.flt x) (.type "float")
 | lst {a:Addr} {xs:List V} (e:H a=some (.lst xs)):fb K H (.ref a) (.type "list")
 | frz {a:Addr} {o:Obj} {xs:List V} (e:H a=some (.frz o (.lst xs))):fb K H (.ref a) (.type "list")
 | tup {a:Addr} {xs:List V} (e:H a=some (.tup xs)):fb K H (.ref a) (.type "tuple")
 | dK {a:Addr} {kvs:List (Key×V)} (e:H a=some (.dK kvs)):fb K H (.ref a) (.type "dict")
 | dT {a:Addr} {kvs:List (List Key×V)} (e:H a=some (.dT kvs)):fb K H (.ref a) (.type "dict")
 | ins {a C dx:Addr} {fs:List (Str×V)} (e:H a=some (.ins C dx fs)) (cl:Cls K C) (ha:PySem.W.findIn K (.ref C) "__class__"=some (some (.builtin "object.__class__")))
   (hn:PySem.W.specialIn K (.builtin "object.__class__") "__get__"=some (some (.builtin "getset_descriptor.__get__"))) (htk:PySem.W.takesIn K (.builtin "object.__class__")=some true)
   (hm:PySem.W.mroIn K C (.type "object")=some true):fb K H (.ref a) (.ref C)
theorem yI {x:V} {u t:Value} (I:Inv X pins σ H s) (rx:RelV x u) (ty:fb X.K H x t) (e:PySem.W.kitOne X.K t c=some b) (h:∀ tk,Q (.bool b) { s with toks:=tk }) :
  wpAny (model X.prog X.w) A (call (.builtin "isinstance") [u,c]) Q E s:=by
 cases ty with
 | non=>cases (show u=Value.none from rx);exact PySem.W.kia_one PySem.W.kitx_none I.kIn True.intro e (fun z=>nomatch z) h
 | bl y=>cases (show u=Value.bool y from rx);exact PySem.W.kia_one PySem.W.kitx_bool I.kIn True.intro e (fun z=>nomatch z) h
 | int i=>obtain ⟨t,q⟩:=(show ∃ t,u=Value.int i t from rx);cases q;exact PySem.W.kia_one PySem.W.kitx_int I.kIn True.intro e (fun z=>nomatch z) h
 | str y=>obtain ⟨t,q⟩:=(show ∃ t,u=Value.str y t from rx);cases q;exact PySem.W.kia_one PySem.W.kitx_str I.kIn True.intro e (fun z=>nomatch z) h
 | flt y=>obtain ⟨t,q⟩:=(show ∃ t,u=Value.float y t from rx);cases q;exact PySem.W.kia_one PySem.W.kitx_float I.kIn True.intro e (fun z=>nomatch z) h
 | @lst a xs ea=>
  cases (show u=Value.ref a from rx)
  obtain ⟨_,_,n,_,h1⟩:=(show bz X.prog X.w H s.heap a (.lst xs) from I.hok a _ ea)
  exact PySem.W.kia_one PySem.W.kitx_list I.kIn ⟨_,h1,rfl⟩ e (fun z=>nomatch z) h
 | @frz a ob xs ea=>
  cases (show u=Value.ref a from rx)
  obtain ⟨_,_,_,n,_,h1⟩:=(show bz X.prog X.w H s.heap a (.frz ob (.lst xs)) from I.hok a _ ea)
  exact PySem.W.kia_one PySem.W.kitx_list I.kIn ⟨_,h1,rfl⟩ e (fun z=>nomatch z) h
 | @tup a xs ea=>
  cases (show u=Value.ref a from rx)
  obtain ⟨_,_,_,p⟩:=(show bz X.prog X.w H s.heap a (.tup xs) from I.hok a _ ea)
  obtain ⟨o,h1,h2,_⟩:=p
  exact PySem.W.kia_one PySem.W.kitx_tuple I.kIn ⟨o,h1,h2⟩ e (fun z=>nomatch z) h
 | @dK a kvs ea=>
  cases (show u=Value.ref a from rx)
  obtain ⟨_,_,vs,_,p⟩:=(show bz X.prog X.w H s.heap a (.dK kvs) from I.hok a _ ea)
  obtain ⟨o,es,ep,h1,h2,_⟩:=p
  exact PySem.W.kia_one PySem.W.kitx_dict I.kIn ⟨o,h1,h2.1⟩ e (fun z=>nomatch z) h
 | @dT a kvs ea=>
  cases (show u=Value.ref a from rx)
  obtain ⟨_,_,xs,_,o,es,ep,h1,h2,_⟩:=(show bz X.prog X.w H s.heap a (.dT kvs) from I.hok a _ ea)
  exact PySem.W.kia_one PySem.W.kitx_dict I.kIn ⟨o,h1,h2.1⟩ e (fun z=>nomatch z) h
 | @ins a C dx fs ea cl ha hn htk hm=>
  cases (show u=Value.ref a from rx)
  obtain ⟨mA,O,_⟩:=BQ I.hok ea
  obtain ⟨od,J,_⟩:=O.look
  exact PySem.W.kia_one (PySem.W.kitx_own (cl.get _) cl.hd ha hn htk hm) I.kIn J e (fun z=>nomatch z) h
end
structure cn (k:Nat) (A:Around):Prop where
 hd:A.handled=none
 dp:A.depth+3 * k+5 < recursionLimit
 un:A.units+16 * k+200 < cLine
theorem cn.mono {j k:Nat} {A:Around} (r:cn k A) (h:j≤k):cn j A:=⟨r.hd,by have:=r.dp;omega,by have:=r.un;omega⟩
theorem cn.deeper {k:Nat} {A:Around} (r:cn (k+1) A) (env:Env):cn k (A.deeper env):=
 ⟨r.hd,by have:=r.dp;show A.depth+1+3 * k+5 < _;omega,by have:=r.un;show A.units+3+16 * k+200 < _;omega⟩
theorem cn.depth {k:Nat} {A:Around} (r:cn k A):A.depth < recursionLimit:=by have:=r.dp;omega
theorem cn.units {k:Nat} {A:Around} (r:cn k A):A.units+64 < cLine:=by have:=r.un;omega
def Iy:TA:=fun _ H Q=>Q [] H
def G4 (ta:TE) (tr:TA):TA:=fun σ H Q=>ta σ H fun x H1=>tr σ H1 fun xs H2=>Q (x :: xs) H2
section
variable {X:Cx} {e:Expr} {es:List Expr} {te:TE} {t:TA} {pos:Pos}
theorem fB:PA X [] Iy:=fun _ _ _ _ H Q I h=>Calls.spliced_nil ⟨[],H,I,.nil,h⟩
theorem dz (ha:PE X e te) (hr:PA X es t) (hs:starEach (e :: es) X.env=(false,eval e X.env) :: starEach es X.env:=by rfl):PA X (e :: es) (G4 te t):=by
 intro pos pins s σ H Q I h
 rw [hs]
 show wpAny _ _ (spliced ((false,eval e X.env) :: backTo pos (starEach es X.env))) _ _ s
 refine Calls.spliced_cons (thn (ha pins s σ H _ I h) fun u s1 ⟨x,H1,I1,r1,q1⟩=>?_)
 exact thn (hr pos pins s1 σ H1 _ I1 q1) fun us s2 ⟨xs,H2,I2,r2,q2⟩=>⟨x :: xs,H2,I2,.cons r1 r2,q2⟩
def Ii (t:TA):TE:=fun σ H Q=>t σ H fun xs H1=>xs.length≤sizeLine∧∀ p,H1 p=none→Q (.ref p) (upd H1 p (.tup xs))
def H_ (t:TA):TE:=fun σ H Q=>t σ H fun xs H1=>xs.length≤sizeLine∧∀ p,H1 p=none→Q (.ref p) (upd H1 p (.lst xs))
theorem yJ {x1} (h:PA X es t):PE X (.Tuple es x1 pos) (Ii t):=by
 intro pins s σ H Q I hq
 refine wpAny_Tuple_spliced (thn (h pos pins s σ H _ I hq) fun us s1 ⟨xs,H1,I1,r,z,q⟩=>⟨by rw [← r.length];exact z,?_⟩)
 have hf:H1 s1.heap.objs.size=none:=I1.hok.fresh (Nat.le_refl _)
 refine ⟨.ref s1.heap.objs.size,upd H1 s1.heap.objs.size (.tup xs),I1.laid (t':=s1.toks) (fun b u e=>Heap.get?_push_of_some _ e) (Nat.le_refl _) ?_,rfl,q _ hf⟩
 exact ⟨z,us,r,⟨_,Heap.get?_push_size _ rfl,rfl,_,rfl⟩⟩
theorem yp (h:PA X es t):PE X (.List es pos) (H_ t):=by
 intro pins s σ H Q I hq
 refine wpAny_List_spliced (thn (h pos pins s σ H _ I hq) fun us s1 ⟨xs,H1,I1,r,z,q⟩=>⟨by rw [← r.length];exact z,?_⟩)
 have hf:H1 s1.heap.objs.size=none:=I1.hok.fresh (Nat.le_refl _)
 refine ⟨.ref s1.heap.objs.size,upd H1 s1.heap.objs.size (.lst xs),I1.laid (t':=s1.toks) (fun b u e=>Heap.get?_push_of_some _ e) (Nat.le_refl _) ?_,rfl,q _ hf⟩
 exact ⟨z,us,0,r,Heap.get?_push_size _ rfl⟩
end
abbrev Sp:=List V→Hp→VK→XK→Prop
abbrev CXT:=List Env→Hp→Shared→XK→Value→Shared→Prop
structure vL (P:Program) (w:World) (K:PySem.W.Frag) (mg:Str→Option Value) (base:Heap) (A:Around) (outer:List Env) (s:Shared) (H:Hp):Prop where
 frames:A.frames=some outer
 mod:Mod K mg base
 bs:∀ b o,base.get? b=some o→s.heap.get? b=some o∧H b=none
 bsz:base.objs.size≤s.heap.objs.size
 gR:s.heap.FunFrames base outer
 frf:∀ b∈frs outer,H b=none
 hok:HOk P w H s.heap
 bare:AllBare s.gens
def CE (outer:List Env) (P:Program) (w:World) (H:Hp) (s:Shared) (Q:VK) (u:Value) (s':Shared):Prop:=
 ∃ v H',s'.os=s.os∧AllBare s'.gens∧Un (frs outer) [] H H' s.heap s'.heap∧HOk P w H' s'.heap∧RelV v u∧Q v H'
def CR (CX:CXT) (outer:List Env) (P:Program) (w:World) (H:Hp) (s:Shared) (Q:VK) (E:XK) (r:Result) (s':Shared):Prop:=
 match r with
 | .ok (.ret u)=>CE outer P w H s Q u s'
 | .ok _=>False
 | .error e=>CX outer H s E e s'
structure du (P:Program) (w:World) (K:PySem.W.Frag) (mg:Str→Option Value) (base:Heap) (CX:CXT) (k:Nat) (f:Addr) (fd:FuncData) (ps:List Str) (sp:Sp):Prop where
 len:∀ vs H Q E,sp vs H Q E→vs.length=ps.length
 run:∀ (A:Around) (outer:List Env) (s:Shared) (H:Hp) (args:Args) (us:List Value) (vs:List V) (Q:VK) (E:XK),cn k A→vL P w K mg base A outer s H→BindsTo s fd args (ps.zip us)→Vals vs us→sp vs H Q E →
  codeAny (model P w) A (.call (.ref f) args) (CR CX outer P w H s Q E) s
theorem du.mono {P:Program} {w:World} {K:PySem.W.Frag} {mg:Str→Option Value} {base:Heap} {CX:CXT} {j k:Nat} {f:Addr} {fd:FuncData} {ps:List Str} {sp:Sp} (F:du P w K mg base CX j f fd ps sp) (h:j≤k) :
  du P w K mg base CX k f fd ps sp:=⟨F.len,fun A outer s H args us vs Q E hr=>F.run A outer s H args us vs Q E (hr.mono h)⟩
theorem du.imp {P:Program} {w:World} {K:PySem.W.Frag} {mg:Str→Option Value} {base:Heap} {CX:CXT} {k:Nat} {f:Addr} {fd:FuncData} {ps:List Str} {sp sp':Sp} (F:du P w K mg base CX k f fd ps sp)
  (h:∀ vs H Q E,sp' vs H Q E→sp vs H Q E):du P w K mg base CX k f fd ps sp':=
 ⟨fun vs H Q E q=>F.len vs H Q E (h _ _ _ _ q),fun A outer s H args us vs Q E hr he hb hv hs=>F.run A outer s H args us vs Q E hr he hb hv (h _ _ _ _ hs)⟩
section
variable {X:Cx} {pins:List (Addr×Obj)} {σ:St} {H:Hp} {s s':Shared}
theorem Inv.Ip (I:Inv X pins σ H s):vL X.prog X.w X.K X.mg X.base X.A X.stack s H:=
 ⟨I.ok.frames,I.ok.mod,I.bs,Nat.le_trans I.ok.bsz I.sz,I.stack,I.uH,I.hok,I.bare⟩
theorem Inv.after {Q:VK} {u:Value} (I:Inv X pins σ H s) (h:CE X.stack X.prog X.w H s Q u s'):EP X pins σ Q u s':=by
 obtain ⟨v,H',os,bare,un,hok,r,q⟩:=h
 obtain ⟨hh,g,d,t,os'⟩:=s'
 obtain rfl:os'=s.os:=os
 exact ⟨v,H',I.call (h':=hh) (g':=g) (d':=d) (t':=t) (ch:=[]) un hok bare (fun b z=>absurd z (by simp)),r,q⟩
end
def A7 (sp:Sp) (dvs:List V) (E:XK) (t:TA):TE:=fun σ H Q=>t σ H fun vs H1=>sp (vs++dvs) H1 Q E
def Binds (K:PySem.W.Frag) (fd:FuncData) (ps:List Str) (ds:List Value):Prop:=
 ∀ (s:Shared) (us:List Value),K.In s.heap→(us++ds).length=ps.length→BindsTo s fd ⟨us,[]⟩ (ps.zip (us++ds))
theorem Binds.all {K:PySem.W.Frag} {fd:FuncData} {ps:List Str} (h:∀ us:List Value,us.length=ps.length→bindArgs fd ⟨us,[]⟩=pure (ps.zip us)):Binds K fd ps []:=fun s us _ hl=>by
 rw [List.append_nil] at hl ⊢
 exact .of_eq (h us hl)
def Passes (CX:CXT) (X:Cx) (E:XK):Prop:=∀ (pins:List (Addr×Obj)) (σ:St) (H:Hp) (s:Shared) (e:Value) (s':Shared),Inv X pins σ H s→CX X.stack H s E e s'→X.xe e s'
section
variable {X:Cx} {CX:CXT} {k:Nat} {f C:Addr} {fd:FuncData} {ps:List Str} {sp:Sp} {dvs:List V} {ds:List Value} {E:XK} {x m:Str} {p pos apos:Pos} {e o:Expr} {es:List Expr} {ta:TE} {t:TA}
theorem xW {pins:List (Addr×Obj)} {σ:St} {H:Hp} {s:Shared} {Q:VK} {us:List Value} {vs:List V} (F:du X.prog X.w X.K X.mg X.base CX k f fd ps sp) (hr:cn k X.A) (hb:Binds X.K fd ps ds) (hd:Vals dvs ds) (hx:Passes CX X E)
  (I:Inv X pins σ H s) (r:Vals vs us) (h:sp (vs++dvs) H Q E):wpAny (model X.prog X.w) X.A (call (.ref f) us) (EP X pins σ Q) X.xe s:=by
 have r2:Vals (vs++dvs) (us++ds):=r.append hd
 have hl:(us++ds).length=ps.length:=by rw [← r2.length];exact F.len _ _ _ _ h
 refine wpAny_call (codeAny_mono (F.run X.A X.stack s H ⟨us,[]⟩ (us++ds) (vs++dvs) Q E hr I.Ip (hb s us I.kIn hl) r2 h) fun r s' hq=>?_)
 cases r with
 | error e=>exact hx pins σ H s e s' I hq
 | ok fl=>
  cases fl with
  | ret u=>exact I.after hq
  | next=>exact False.elim hq
  | brk=>exact False.elim hq
  | cont=>exact False.elim hq
theorem BR (F:du X.prog X.w X.K X.mg X.base CX k f fd ps sp) (hr:cn k X.A) (hg:Gl X x) (hm:X.mg x=some (.ref f)) (hk:PySem.W.keepIn X.K (.ref f)=true) (hb:Binds X.K fd ps ds) (hd:Vals dvs ds) (hx:Passes CX X E)
  (ha:PA X (e :: es) t) (hdb:(x == ("__debug__":Str))=false:=by decide) (he:starEach (e :: es) X.env=(false,eval e X.env) :: starEach es X.env:=by rfl) (hpl:(backTo pos (starEach es X.env)).any (·.1)=false:=by rfl) :
  PE X (.Call (.Name x p) (e :: es) [] pos) (A7 sp dvs E t):=by
 intro pins s σ H Q I h
 refine wpAny_Call_Name_kw (ud I hg hm ?_ hdb)
 refine PySem.W.callWith_K (h₀:=X.base) I.ok.mod.kin hk (thn (ha pos pins s σ H _ I h) fun us s1 ⟨vs,H1,I1,r,q⟩=>⟨I1.kIn,?_⟩) he hpl
 exact xW F hr hb hd hx I1 r q
structure Mk (K:PySem.W.Frag) (C f:Addr):Prop where
 makes:PySem.W.makesIn K C=true
 init:PySem.W.findIn K (.ref C) "__init__"=some (some (.ref f))
 fn:PySem.W.isFn K (.ref f)=true
 kp:PySem.W.keepIn K (.ref C)=true
end
section
variable {X:Cx} {CX:CXT} {k:Nat} {f C:Addr} {fd:FuncData} {ps ks:List Str} {sp:Sp} {E:XK} {x m:Str} {p pos apos kpos:Pos} {e o:Expr} {es:List Expr} {kws:List Keyword} {te ta:TE} {t tk:TA} {nm:Option Str}
structure Jc (K:PySem.W.Frag) (fd:FuncData) (ps ks:List Str) (g:List Value→List Value→List Value) (gV:List V→List V→List V):Prop where
 to:∀ (s:Shared) (us ws:List Value),K.In s.heap→(g us ws).length=ps.length→BindsTo s fd ⟨us,ks.zip ws⟩ (ps.zip (g us ws))
 rel:∀ {vs:List V} {us:List Value} {zs:List V} {ws:List Value},Vals vs us→Vals zs ws→Vals (gV vs zs) (g us ws)
variable {g:List Value→List Value→List Value} {gV:List V→List V→List V}
end
structure iK (N P:List Str) (sc:Scope):Prop where
 kind:sc.kind=.function
 co:sc.isCoroutine=false
 gen:sc.isGenerator=false
 nd:N.Nodup
 pre:N.take P.length=P
 par:∀ x∈P,sc.names.lookup x=some .local∨sc.names.lookup x=some .cell
 nofree:∀ y∈sc.names,y.2≠.free
theorem o7 {kindOf:Str→Option NameKind} {x:Str}:∀ {binds:List (Str×Value)} {m:Str→Option Value},(∀ v,(x,v)∉binds)→bindL kindOf binds m x=m x
 | [],_,_=>rfl
 | (n,v) :: r,m,h=>by
  unfold bindL
  rw [o7 fun w hw=>h w (List.mem_cons_of_mem _ hw)]
  split
  ·have:x≠n:=by rintro rfl;exact h v List.mem_cons_self
   simp [this]
  ·rfl
theorem oV {kindOf:Str→Option NameKind} {x:Str}:∀ {binds:List (Str×Value)} {m:Str→Option Value},(∀ v,(x,v)∉binds)→bindC kindOf binds m x=m x
 | [],_,_=>rfl
 | (n,v) :: r,m,h=>by
  unfold bindC
  rw [oV fun w hw=>h w (List.mem_cons_of_mem _ hw)]
  split
  ·rfl
  ·have:x≠n:=by rintro rfl;exact h v List.mem_cons_self
   simp [this]
theorem pk {kindOf:Str→Option NameKind} {x:Str} {v:Value}:∀ {P:List Str} {vs:List Value} {i:Nat} {m:Str→Option Value},P.Nodup→P[i]?=some x→vs[i]?=some v→kindOf x=some .local →
  bindL kindOf (P.zip vs) m x=some v
 | [],_,_,_,_,h,_,_=>by simp at h
 | _ :: _,[],_,_,_,_,h,_=>by simp at h
 | p :: P,w :: vs,0,m,nd,h1,h2,hk=>by
  simp at h1 h2;subst h1;subst h2
  show bindL kindOf ((p,w) :: P.zip vs) m p=_
  unfold bindL
  rw [o7 fun v hv=>(List.nodup_cons.mp nd).1 (List.of_mem_zip hv).1,if_pos hk]
  simp
 | p :: P,w :: vs,i+1,m,nd,h1,h2,hk=>by
  show bindL kindOf ((p,w) :: P.zip vs) m x=_
  unfold bindL
  exact pk (i:=i) (List.nodup_cons.mp nd).2 (by simpa using h1) (by simpa using h2) hk
theorem o6 {kindOf:Str→Option NameKind} {x:Str} {v:Value}:∀ {P:List Str} {vs:List Value} {i:Nat} {m:Str→Option Value},P.Nodup→P[i]?=some x→vs[i]?=some v→kindOf x≠some .local →
  bindC kindOf (P.zip vs) m x=some v
 | [],_,_,_,_,h,_,_=>by simp at h
 | _ :: _,[],_,_,_,_,h,_=>by simp at h
 | p :: P,w :: vs,0,m,nd,h1,h2,hk=>by
  simp at h1 h2;subst h1;subst h2
  show bindC kindOf ((p,w) :: P.zip vs) m p=_
  unfold bindC
  rw [oV fun v hv=>(List.nodup_cons.mp nd).1 (List.of_mem_zip hv).1,if_neg hk]
  simp
 | p :: P,w :: vs,i+1,m,nd,h1,h2,hk=>by
  show bindC kindOf ((p,w) :: P.zip vs) m x=_
  unfold bindC
  exact o6 (i:=i) (List.nodup_cons.mp nd).2 (by simpa using h1) (by simpa using h2) hk
def start (N:List Str) (vs:List V):St:=vs.map some++List.replicate (N.length - vs.length) none
def kE (CX:CXT) (P:Program) (w:World) (K:PySem.W.Frag) (mg:Str→Option Value) (base:Heap) (N:List Str) (qual:Str) (scope:Scope) (f:Addr) (cd:Value) (A:Around) (outer:List Env) (s:Shared) (H:Hp) (E:XK):Cx where
 prog:=P
 w:=w
 K:=K
 mg:=mg
 base:=base
 A:=A.deeper (envOfC qual scope s.heap.objs.size f cd)
 N:=N
 s₀:=s
 H₀:=H
 env:=envOfC qual scope s.heap.objs.size f cd
 outer:=outer
 stack:=envOfC qual scope s.heap.objs.size f cd :: outer
 ex:=[]
 calm:=true
 fn:=fun _=>true
 pn:=[]
 xe:=fun e s'=>wpAny (model P w) (A.deeper (envOfC qual scope s.heap.objs.size f cd)) (leaving (envOfC qual scope s.heap.objs.size f cd) e) (fun _ s''=>CX outer H s E e s'') (fun e' s''=>CX outer H s E e' s'') s'
theorem q_ {sc:Scope} {n:Nat} {x:Str} (h:sc.names.lookup x=some .cell):∃ c,(cellsFrom n sc.names []).lookup x=some c:=by
 have q:=PySem.W.cellsFrom_some sc.names n [] (.inl h)
 exact Option.isSome_iff_exists.mp q
theorem wV {CX:CXT} {P:Program} {w:World} {K:PySem.W.Frag} {mg:Str→Option Value} {base:Heap} {N ps:List Str} {qual:Str} {scope:Scope} {f:Addr} {cd:Value} {A:Around} {outer:List Env} {s s1:Shared} {H:Hp} {E:XK} {us:List Value} {vs:List V}
  (S:iK N ps scope) (hd:A.handled=none) (e0:vL P w K mg base A outer s H) (hl:vs.length=ps.length) (r:Vals vs us)
  (x:InCallC s s.heap.objs.size (bindL (envOfC qual scope s.heap.objs.size f cd).kindOf (ps.zip us) fun _=>none) (cellsFrom (s.heap.objs.size+1) scope.names []) (bindC (envOfC qual scope s.heap.objs.size f cd).kindOf (ps.zip us) fun _=>none) s1) :
  Inv (kE CX P w K mg base N qual scope f cd A outer s H E) [] (start N vs) H s1:=by
 have hpl:ps.length≤N.length:=by have:=congrArg List.length S.pre;rw [List.length_take] at this;omega
 obtain ⟨h1,tk,rfl,hk⟩:=x.done
 have noA:∀ b:Addr,b∉(kE CX P w K mg base N qual scope f cd A outer s H E).ex:=fun b z=>absurd (show b∈([]:List Addr) from z) (by simp)
 refine ⟨⟨e0.mod,S.kind,rfl,rfl,Nat.le_refl _,fun y z c h1 h2=>?_,fun y hy=>?_,fun y c _ h=>?_,fun _=>hd,Around.frames_deeper e0.frames,.inr ⟨rfl,rfl⟩,fun b z=>absurd z (noA b),e0.bs,e0.bsz,fun b _ _=>noA b,fun b z=>absurd z (noA b),e0.gR,e0.frf⟩,
  rfl,e0.bare,Un.kept hk,⟨_,x.toInCall.ns,fun i y v h1 h2 h3=>?_⟩,fun y c h=>⟨_,x.cell y c h⟩,e0.hok.fresh (Nat.le_refl _),fun y c h=>?_,fun p hp=>absurd (show p∈([]:List (Addr×Obj)) from hp) (by simp),e0.hok.kept hk,?_⟩
 ·exact name_of_addr x.apart (PySem.mem_of_lookup h1) (PySem.mem_of_lookup h2)
 ·have hy:scope.names.lookup y=some .cell∨scope.names.lookup y=some .free:=hy
  rcases hy with hy | hy
  ·exact q_ hy
  ·exact absurd rfl (S.nofree _ (PySem.mem_of_lookup hy))
 ·exact Nat.le_of_lt (x.above y c (PySem.mem_of_lookup h))
 ·have hi:i < vs.length:=by
   unfold start at h2
   by_cases hi:i < vs.length
   ·exact hi
   ·rw [List.getElem?_append_right (by simpa using hi)] at h2
    rw [List.getElem?_replicate] at h2
    split at h2<;>cases h2
  have ha:vs[i]?=some v:=by
   unfold start at h2
   rw [List.getElem?_append_left (by simpa using hi),List.getElem?_map] at h2
   cases e:vs[i]? with
   | none=>rw [e] at h2;cases h2
   | some a=>rw [e] at h2;cases h2;rfl
  obtain ⟨u,hu,rv⟩:=r.get ha
  have hp:ps[i]?=some y:=by
   rw [← S.pre,List.getElem?_take_of_lt (by omega)];exact h1
  have ndP:ps.Nodup:=by rw [← S.pre];exact S.nd.sublist (List.take_sublist _ _)
  refine ⟨u,rv,?_⟩
  rcases S.par y (List.mem_of_getElem? hp) with k | k
  ·exact .inl ⟨k,pk ndP hp hu k⟩
  ·obtain ⟨c,e⟩:=q_ (n:=s.heap.objs.size+1) k
   refine .inr ⟨.inl k,c,e,?_⟩
   have q:=x.cell y c e
   rw [o6 ndP hp hu (by show scope.names.lookup y≠_;rw [k];decide)] at q
   exact q
 ·exact e0.hok.fresh (Nat.le_of_lt (x.above y c (PySem.mem_of_lookup h)))
 ·unfold start
  show _=N.length
  rw [List.length_append,List.length_map,List.length_replicate]
  omega
theorem HX {CX:CXT} {P:Program} {w:World} {K:PySem.W.Frag} {mg:Str→Option Value} {base:Heap} {k:Nat} {f:Addr} {name qual:Str} {params:Arguments} {body:List Stmt} {scope:Scope} {dV kV doc pm cdv ct oc:Value} {an od:Option Addr}
  {osl:Array (Option Value)} {N ps:List Str} {sp:Sp} (lk:K.lookup f=some ⟨oc,od,.func (PySem.W.fnOf name qual params body scope dV kV doc pm an cdv ct),osl⟩) (hcd:PySem.W.codeIn K cdv qual=true) (S:iK N ps scope)
  (len:∀ vs H Q E,sp vs H Q E→vs.length=ps.length)
  (hbody:∀ (A:Around) (outer:List Env) (s:Shared) (H:Hp) (vs:List V) (Q:VK) (E:XK),cn k (A.deeper (envOfC qual scope s.heap.objs.size f cdv))→sp vs H Q E →
   ∃ t,PSs (kE CX P w K mg base N qual scope f cdv A outer s H E) body t∧t { nx:=fun _ H'=>Q .non H',rt:=Q } (start N vs) H) :
  du P w K mg base CX (k+1) f (PySem.W.fnOf name qual params body scope dV kV doc pm an cdv ct) ps sp:=by
 refine ⟨len,fun A outer s H args us vs Q E hr e0 hb r hsp=>?_⟩
 have hl:=len _ _ _ _ hsp
 have KX:K.In s.heap:=e0.mod.kin.keeps fun b o e=>(e0.bs b o e).1
 have lim:s.heap.NoLimit:=e0.mod.nolimit.keeps fun b o e=>(e0.bs b o e).1
 have hkind:∀ y∈ps.zip us,scope.names.lookup y.1=some .local∨(scope.names.lookup y.1=some .cell∧((cellsFrom (s.heap.objs.size+1) scope.names []).lookup y.1).isSome=true):=fun ⟨n,v⟩ hy=>by
  rcases S.par n (List.of_mem_zip hy).1 with q | q
  ·exact .inl q
  ·exact .inr ⟨q,PySem.W.cellsFrom_some _ _ _ (.inl q)⟩
 refine codeAny_call_function hr.depth (KX _ _ lk) rfl S.co S.gen rfl (PySem.W.codeRec_of KX hcd) (hb _ _ _ _ ?_)
 refine wpAny_newFunctionEnv_cells S.kind hkind fun env he s1 x=>?_
 subst he
 refine ⟨lim.keeps x.toInCall.keep,codeAny_func ?_⟩
 obtain ⟨t,ht,hq⟩:=hbody A outer s H vs Q E (hr.deeper _) hsp
 have I:Inv (kE CX P w K mg base N qual scope f cdv A outer s H E) [] (start N vs) H s1:=wV S hr.hd e0 hl r x
 refine wpAny_mono (ht [] s1 (start N vs) H _ I hq) (fun fl s' hs=>?_) fun e s' hs=>hs
 have fin:∀ {σ':St} {H':Hp} {v:V} {u:Value},Inv (kE CX P w K mg base N qual scope f cdv A outer s H E) [] σ' H' s'→RelV v u→Q v H'→CE outer P w H s Q u s':=
  fun {σ' H' v u} J rv q=>⟨v,H',J.os,J.bare,J.base,J.hok,rv,q⟩
 cases fl with
 | ret u=>
  obtain ⟨v,σ',H',J,rv,q⟩:=hs
  exact fin J rv q
 | next=>
  obtain ⟨σ',H',J,q⟩:=hs
  exact fin (v:=V.non) (u:=Value.none) J rfl q
 | brk=>
  obtain ⟨_,_,_,q⟩:=hs
  exact False.elim q
 | cont=>
  obtain ⟨_,_,_,q⟩:=hs
  exact False.elim q
section
variable {X:Cx} {x:Str} {p pos:Pos} {e:Expr} {es:List Expr} {t:TA} {id T:String} {r:List V→Hp→VK→Prop}
def tCB (r:List V→Hp→VK→Prop) (t:TA):TE:=fun σ H Q=>t σ H fun vs H1=>r vs H1 Q
theorem zO (hc:bL X (.builtin id) r) (hg:Gl X x) (hm:X.mg x=none) (hv:bootBuiltins x=some (.builtin id)) (ha:PA X (e :: es) t) (hn:x≠"__name__":=by decide) (hdb:(x == ("__debug__":Str))=false:=by decide)
  (he:starEach (e :: es) X.env=(false,eval e X.env) :: starEach es X.env:=by rfl) (hpl:(backTo pos (starEach es X.env)).any (·.1)=false:=by rfl):PE X (.Call (.Name x p) (e :: es) [] pos) (tCB r t):=by
 intro pins s σ H Q I h
 refine wpAny_Call_Name_kw (b7 I hg hm hv ?_ hn hdb)
 exact PyProof.Rows.callWith_builtin1 (thn (ha pos pins s σ H _ I h) fun us s1 ⟨vs,H1,I1,r1,q1⟩=>hc pins s1 σ H1 vs us Q I1 r1 q1) he hpl
theorem w8 (hc:bL X (.type T) r) (hg:Gl X x) (hm:X.mg x=none) (hv:bootBuiltins x=some (.type T)) (ha:PA X (e :: es) t) (hn:x≠"__name__":=by decide) (hdb:(x == ("__debug__":Str))=false:=by decide)
  (he:starEach (e :: es) X.env=(false,eval e X.env) :: starEach es X.env:=by rfl) (hpl:(backTo pos (starEach es X.env)).any (·.1)=false:=by rfl):PE X (.Call (.Name x p) (e :: es) [] pos) (tCB r t):=by
 intro pins s σ H Q I h
 refine wpAny_Call_Name_kw (b7 I hg hm hv ?_ hn hdb)
 exact PyProof.Rows.callWith_type1 (thn (ha pos pins s σ H _ I h) fun us s1 ⟨vs,H1,I1,r1,q1⟩=>hc pins s1 σ H1 vs us Q I1 r1 q1) he hpl
end
end L2
namespace HT
open PySem PyProof.Rows
section
variable {prog:Program} {w:World} {A:Around} {E:Value→Shared→Prop} {s:Shared}
theorem B_ {t b:Addr} {vs ws:List Value} {Q:Value→Shared→Prop} (ht:IsTup s.heap t vs.toArray) (hb:IsTup s.heap b ws.toArray) (hv:vs≠[])
  (h1:ws=[]→Q (.ref t) s) (h2:ws≠[]→Q (.ref s.heap.objs.size) { s with heap:=s.heap.push { cls:=.type "tuple",data:=.seq (vs++ws).toArray } })
  (hsz:vs.length+ws.length≤sizeLine):wpAny (model prog w) A (binaryOp .Add (.ref t) (.ref b)) Q E s:=by
 obtain ⟨⟨cls,dd,data,sl⟩,ho,hc,n,hd⟩:=id ht
 obtain ⟨⟨cls2,dd2,data2,sl2⟩,ho2,hc2,n2,hd2⟩:=id hb
 simp only at hc hd hc2 hd2
 subst hc hd hc2 hd2
 have e:vs.toArray++ws.toArray=(vs++ws).toArray:=by simp
 by_cases hw:ws=[]
 ·exact concat_meets ⟨_,ho,rfl⟩ ⟨_,ho2,rfl⟩ noFill_tuple_add seq_tuple_add PySem.F.slot_tuple_add PySem.F.entry_tuple_add (PySem.F.args_tuple_add_2 _ _)
   (tuple_addW1 t b vs.toArray ws.toArray n n2 dd dd2 sl sl2 (by simpa using hv) (by simp [hw])) ⟨ho,ho2,h1 hw⟩
 ·refine concat_meets ⟨_,ho,rfl⟩ ⟨_,ho2,rfl⟩ noFill_tuple_add seq_tuple_add PySem.F.slot_tuple_add PySem.F.entry_tuple_add (PySem.F.args_tuple_add_2 _ _)
   (tuple_addW2 t b vs.toArray ws.toArray n n2 dd dd2 sl sl2 (by simpa using hv) (by simpa using hw) (by rw [List.size_toArray,List.size_toArray];exact hsz)) ⟨ho,ho2,?_⟩
  rw [e]
  exact h2 hw
def sIx (n d:Nat):Option Int→Nat
 | none=>d
 | some v=>if v < 0 then (v+(n:Int)).toNat else min v.toNat n
theorem qA (n d:Nat):sIx n d none=d:=rfl
theorem kQ (n d k:Nat):sIx n d (some (k:Int))=min k n:=by
 show (if (k:Int) < 0 then ((k:Int)+(n:Int)).toNat else min (k:Int).toNat n)=min k n
 rw [if_neg (by omega),Int.toNat_natCast]
end
end HT
namespace L2
open PySem PySem.Spec PyProof.Rows
abbrev TO:=St→Hp→(Option Int→Hp→Prop)→Prop
def PO (X:Cx) (e:Option Expr) (t:TO):Prop:=
 ∀ (pins:List (Addr×Obj)) (s:Shared) (σ:St) (H:Hp) (Q:Option Int→Hp→Prop),Inv X pins σ H s→t σ H Q →
  wpAny (model X.prog X.w) X.A (evalPart e X.env) (fun u s'=>∃ o H',Inv X pins σ H' s'∧IsPart u o∧Q o H') X.xe s
def Cg:TO:=fun _ H Q=>Q none H
def HK (t:TE):TO:=fun σ H Q=>t σ H fun x H1=>∃ i,x=.int i∧Q (some i) H1
theorem intsAre_of {ns:List Int}:∀ {us:List Value},Vals (ns.map V.int) us→IntsAre us ns:=by
 induction ns with
 | nil=>intro us r;rw [List.map_nil] at r;cases r;exact .nil
 | cons n ns ih=>
  intro us r
  rw [List.map_cons] at r
  cases r with
  | cons r1 r2=>
   obtain ⟨t,e⟩:=r1
   subst e
   exact .cons n t (ih r2)
section
variable {X:Cx} {e:Expr} {te:TE} {lo hi:Option Expr} {tl th:TO} {pos p2:Pos}
theorem Cz:PO X none Cg:=by
 intro pins s σ H Q I h
 rw [evalPart_none]
 exact wpAny_pure ⟨none,H,I,.none,h⟩
theorem CF (h:PE X e te):PO X (some e) (HK te):=by
 intro pins s σ H Q I hw
 rw [evalPart_some]
 refine thn (h pins s σ H _ I hw) fun u s1 ⟨x,H1,I1,r1,q1⟩=>?_
 obtain ⟨i,rfl,q⟩:=q1
 obtain ⟨t,rfl⟩:=r1
 exact ⟨some i,H1,I1,.int i t,q⟩
def SlR (X:Cx) (r:V→Option Int→Option Int→Hp→VK→Prop):Prop:=
 ∀ (pins:List (Addr×Obj)) (s:Shared) (σ:St) (H:Hp) (x:V) (v vl vu:Value) (lo hi:Option Int) (sl:Addr) (Q:VK),Inv X pins σ H s→RelV x v→s.heap.IsSliceOf sl vl vu .none→IsPart vl lo→IsPart vu hi→r x lo hi H Q →
  ∃ T id,typeLookup (.type T) "__getitem__"=pure (some (.builtin id))∧s.TypeIs v T∧wpAny (model X.prog X.w) X.A (getItem v (.ref sl)) (EP X pins σ Q) X.xe s
def tSl (r:V→Option Int→Option Int→Hp→VK→Prop) (te:TE) (tl th:TO):TE:=fun σ H Q=>te σ H fun x H1=>tl σ H1 fun l H2=>th σ H2 fun u H3=>r x l u H3 Q
theorem An {r:V→Option Int→Option Int→Hp→VK→Prop} (hr:SlR X r) (he:PE X e te) (hl:PO X lo tl) (hu:PO X hi th):PE X (.Subscript e (.Slice lo hi none p2) pos) (tSl r te tl th):=by
 intro pins s σ H Q I h
 refine Subscript_ (thn (he pins s σ H _ I h) fun v s1 ⟨x,H1,I1,r1,q1⟩=>?_)
 refine wpAny_Slice (thn (hl pins s1 σ H1 _ I1 q1) fun vl s2 ⟨l,H2,I2,pl,q2⟩=>thn (hu pins s2 σ H2 _ I2 q2) fun vu s3 ⟨u,H3,I3,pu,q3⟩=>?_)
 rw [evalPart_none]
 refine wpAny_pure ?_
 have I4:Inv X pins σ H3 { s3 with heap:=s3.heap.push { cls:=.type "slice",data:=.fields #[vl,vu,.none] } }:=I3.kept (t':=s3.toks) fun b ob q=>Heap.get?_push_of_some _ q
 obtain ⟨T,id,hT,ht,hg⟩:=hr pins { s3 with heap:=s3.heap.push { cls:=.type "slice",data:=.fields #[vl,vu,.none] } } σ H3 x v vl vu l u s3.heap.objs.size Q I4 r1 (Heap.IsSliceOf.new ..) pl pu q3
 show wpAny (model X.prog X.w) X.A (subscriptTail e (.Slice lo hi none p2) v (.ref s3.heap.objs.size)) (EP X pins σ Q) X.xe { s3 with heap:=s3.heap.push { cls:=.type "slice",data:=.fields #[vl,vu,.none] } }
 exact tail_any (ops:=[.ref s3.heap.objs.size,v]) ht hT hg (by with_unfolding_all rfl)
def oA (xs:List V) (lo hi:Option Int):List V:=(xs.drop (HT.sIx xs.length 0 lo)).take (HT.sIx xs.length xs.length hi - HT.sIx xs.length 0 lo)
theorem sW (xs:List V) (lo hi:Option Int):(oA xs lo hi).length≤xs.length:=by
 unfold oA
 rw [List.length_take,List.length_drop]
 omega
def Hb (K:PySem.W.Frag):R2:=fun x y H Q=>∃ a b xs ys,x=.ref a∧y=.ref b∧SqT K H a xs∧SqT K H b ys∧xs≠[]∧xs.length+ys.length≤sizeLine ∧
 (ys=[]→Q (.ref a) H)∧(ys≠[]→∀ p,H p=none→Q (.ref p) (upd H p (.tup (xs++ys))))
theorem Vals.k8 {xs:List V} {us:List Value} (r:Vals xs us):us=[]↔xs=[]:=by
 cases r with
 | nil=>simp
 | cons _ _=>simp
theorem Ck:OpR X (binaryOp .Add) (Hb X.K):=by
 intro pins s σ H x y v u Q I rx ry h
 obtain ⟨a,b,xs,ys,rfl,rfl,ha,hb,hx,hz,q1,q2⟩:=h
 cases rx
 cases ry
 obtain ⟨its,r1,p1,_⟩:=I.tuple ha
 obtain ⟨its2,r2,p2,_⟩:=I.tuple hb
 refine HT.B_ p1 p2 (fun z=>hx (r1.k8.mp z)) (fun z=>⟨.ref a,H,I,rfl,q1 (r2.k8.mp z)⟩) (fun z=>?_) (by rw [← r1.length,← r2.length];exact hz)
 refine ⟨.ref s.heap.objs.size,_,I.laid (t':=s.toks) (o:=.tup (xs++ys)) (fun b ob q=>Heap.get?_push_of_some _ q) (Nat.le_refl _) ?_,rfl,q2 (fun w=>z (r2.k8.mpr w)) _ (I.hok.fresh (Nat.le_refl _))⟩
 exact ⟨by rw [List.length_append];exact hz,_,r1.append r2,IsTup.new _ _⟩
end
def ixN (n:Nat) (i:Int):Option Nat:=if 0≤i then (if i < n then some i.toNat else none) else if -(n:Int)≤i then some (i+n).toNat else none
def atI {α:Type} (xs:List α) (i:Int):Option α:=(ixN xs.length i).bind fun j=>xs[j]?
theorem tO {n:Nat} {i:Int} {j:Nat} (h:ixN n i=some j):seqIndex? i n=some j∧j < n∧-(n:Int)≤i∧i < n:=by
 unfold ixN at h
 by_cases h0:0≤i
 ·rw [if_pos h0] at h
  by_cases h1:i < n
  ·rw [if_pos h1] at h
   have e:i.toNat=j:=Option.some.inj h
   exact ⟨by rw [seqIndex_of h0 h1,e],by omega,by omega,h1⟩
  ·rw [if_neg h1] at h;cases h
 ·rw [if_neg h0] at h
  by_cases h1:-(n:Int)≤i
  ·rw [if_pos h1] at h
   have e:(i+n).toNat=j:=Option.some.inj h
   exact ⟨by rw [seqIndex_neg (by omega) h1,e],by omega,h1,by omega⟩
  ·rw [if_neg h1] at h;cases h
theorem tQ {α:Type} {xs:List α} {i:Int} {v:α} (h:atI xs i=some v):∃ j,seqIndex? i xs.length=some j∧xs[j]?=some v∧j < xs.length∧-(xs.length:Int)≤i∧i < xs.length:=by
 unfold atI at h
 cases e:ixN xs.length i with
 | none=>rw [e] at h;cases h
 | some j=>
  rw [e] at h
  obtain ⟨h1,h2,h3,h4⟩:=tO e
  exact ⟨j,h1,h,h2,h3,h4⟩
theorem rq {α:Type} (xs:List α) (v:α):atI (xs++[v]) (-1)=some v:=by
 have hl:(xs++[v]).length=xs.length+1:=by simp
 have e:ixN (xs++[v]).length (-1)=some xs.length:=by
  unfold ixN
  rw [hl,if_neg (by decide),if_pos (by omega)]
  congr 1
  omega
 unfold atI
 rw [e]
 show (xs++[v])[xs.length]?=some v
 simp
def nV (b:Expr):Prop:=∀ o i,subscripted b false o i=operate [o,i] (getItem o i)
def IxR (X:Cx) (r:R2):Prop:=
 ∀ (value slice:Expr) (pins:List (Addr×Obj)) (s:Shared) (σ:St) (H:Hp) (x y:V) (v u:Value) (Q:VK),Inv X pins σ H s→RelV x v→RelV y u→r x y H Q →
  subscripted slice false v u=operate [v,u] (getItem v u)→wpAny (model X.prog X.w) X.A (subscriptTail value slice v u) (EP X pins σ Q) X.xe s
def MtR (X:Cx) (id:String) (r:V→List V→Hp→VK→Prop):Prop:=
 ∀ (pins:List (Addr×Obj)) (s:Shared) (σ:St) (H:Hp) (x:V) (xs:List V) (v:Value) (us:List Value) (Q:VK),Inv X pins σ H s→RelV x v→Vals xs us→r x xs H Q →
  wpAny (model X.prog X.w) X.A (call (.builtin id) (v :: us)) (EP X pins σ Q) X.xe s
section
variable {X:Cx} {a b:Expr} {ta tb:TE} {pos:Pos}
theorem Bg {r:R2} (hr:IxR X r) (ha:PE X a ta) (hb:PE X b tb) (hs:nV b):PE X (.Subscript a b pos) (tOp r ta tb):=by
 intro pins s σ H Q I h
 exact Subscript_ (Ai ha hb I h fun v u s2 x y H2 I2 rx ry q=>hr a b pins s2 σ H2 x y v u Q I2 rx ry q (hs _ _))
def IB (K:PySem.W.Frag):R2:=fun x y H Q=>∃ p xs i v,x=.ref p∧y=.int i∧SqL K H p xs∧atI xs i=some v∧Q v H
def ID (K:PySem.W.Frag):R2:=fun x y H Q=>∃ p xs i v,x=.ref p∧y=.int i∧SqT K H p xs∧atI xs i=some v∧Q v H
theorem Dg:IxR X (IB X.K):=by
 intro value slice pins s σ H x y v u Q I rx ry h hs
 obtain ⟨p,xs,i,z,rfl,rfl,hq,he,q⟩:=h
 cases rx
 obtain ⟨t,rfl⟩:=ry
 obtain ⟨its,r,pl,hz⟩:=I.list hq
 obtain ⟨j,h1,h2,h3,h4,h5⟩:=tQ he
 obtain ⟨w,ew,rw'⟩:=r.get h2
 have hl:=r.length
 have hn:=kq
 have fin:EP X pins σ Q w s:=⟨z,H,I,rw',q⟩
 by_cases h0:0≤i
 ·have hj:i.toNat=j:=by
   rw [seqIndex_of h0 h5] at h1
   exact Option.some.inj h1
  exact item_listR pl.isList h0 (by omega) (by rw [hj];simpa using ew) fin hs
 ·have hj:(i+(its.toArray.size:Int)).toNat=j:=by
   rw [seqIndex_neg (by omega) h4] at h1
   rw [List.size_toArray,← hl]
   exact Option.some.inj h1
  exact subscriptTail_builtinR (x:=w) pl.isList.typeIs slot_list_getitem.lookup
   (wpAny_getItem_list_neg (Q:=fun r s'=>r=w∧EP X pins σ Q r s') pl.isList (by omega) (by rw [List.size_toArray]<;>omega) (by omega) (by rw [hj];simpa using ew) ⟨rfl,fin⟩) hs
theorem Fq:IxR X (ID X.K):=by
 intro value slice pins s σ H x y v u Q I rx ry h hs
 obtain ⟨p,xs,i,z,rfl,rfl,hq,he,q⟩:=h
 cases rx
 obtain ⟨t,rfl⟩:=ry
 obtain ⟨its,r,pl,hz⟩:=I.tuple hq
 obtain ⟨j,h1,h2,h3,h4,h5⟩:=tQ he
 obtain ⟨w,ew,rw'⟩:=r.get h2
 have hl:=r.length
 have hn:=kq
 have fin:EP X pins σ Q w s:=⟨z,H,I,rw',q⟩
 exact subscriptTail_builtinR (x:=w) pl.typeIs slot_tuple_getitem.lookup
  (getItem_tuple (j:=j) (Q:=fun r s'=>r=w∧EP X pins σ Q r s') pl (by omega) (by omega) (by rw [List.size_toArray,← hl];exact h1) (by simpa using ew) ⟨rfl,fin⟩) hs
theorem u_ (its:List Value) (n j:Nat) (u:Value):Obj.mapSeq (·.setIfInBounds j u) { cls:=.type "list",data:=.seq its.toArray n }={ cls:=.type "list",data:=.seq (its.set j u).toArray n }:=by
 simp [Obj.mapSeq]
theorem Inv.lst {pins:List (Addr×Obj)} {σ:St} {H:Hp} {s:Shared} {p:Addr} {xs:List V} (I:Inv X pins σ H s) (h:H p=some (.lst xs)) :
  ∃ (its:List Value) (n:Nat),Vals xs its∧s.heap.get? p=some { cls:=.type "list",data:=.seq its.toArray n }∧xs.length≤sizeLine:=by
 obtain ⟨z,its,n,r,e⟩:=I.hok p _ h
 exact ⟨its,n,r,e,z⟩
theorem Inv.EL {pins:List (Addr×Obj)} {σ:St} {H:Hp} {s:Shared} {p:Addr} {xs ys:List V} {its its':List Value} {n n':Nat} {f:Obj→Obj} (I:Inv X pins σ H s) (h:H p=some (.lst xs))
  (ho:s.heap.get? p=some { cls:=.type "list",data:=.seq its.toArray n }) (hf:f { cls:=.type "list",data:=.seq its.toArray n }={ cls:=.type "list",data:=.seq its'.toArray n' }) (r:Vals ys its') (hz:ys.length≤sizeLine) (t:Nat) :
  Inv X pins σ (upd H p (.lst ys)) { s with heap:=s.heap.update p f,toks:=t }:=by
 have e:(s.heap.update p f).get? p=some { cls:=.type "list",data:=.seq its'.toArray n' }:=by
  rw [Heap.get?_update_self f ho (by rw [hf]<;>rfl),hf]
 refine I.write (x:=p) (e:=p) (by rw [h];trivial) (.inl rfl) (fun b u hb q=>(Heap.get?_update_other _ _ (Ne.symm hb)).trans q) ⟨_,e⟩ ?_
 exact ⟨hz,its',n',r,e⟩
def vU:V→V→V→Hp→(Hp→Prop)→Prop:=fun o i v H Q=>∃ p xs k j,o=.ref p∧i=.int k∧H p=some (.lst xs)∧ixN xs.length k=some j∧Q (upd H p (.lst (xs.set j v)))
theorem set_list:vg X vU:=by
 intro pins s σ H o i v ov iv u Q I ro ri rv h
 obtain ⟨p,xs,k,j,rfl,rfl,hp,hj,q⟩:=h
 cases ro
 obtain ⟨t,rfl⟩:=ri
 obtain ⟨its,n,r,ho,hz⟩:=I.lst hp
 obtain ⟨h1,h2,h3,h4⟩:=tO hj
 have hl:=r.length
 have hn:=kq
 have I':Inv X pins σ (upd H p (.lst (xs.set j v))) { s with heap:=s.heap.update p (Obj.mapSeq (·.setIfInBounds j u)) }:=
  I.EL hp ho (u_ its n j u) (r.set rv j) (by rw [List.length_set];exact hz) s.toks
 by_cases h0:0≤k
 ·have hk:k.toNat=j:=by
   rw [seqIndex_of h0 h4] at h1
   exact Option.some.inj h1
  exact PySem.W.ki_setAt ho h0 (by omega) (by rw [List.size_toArray,← hl];exact h4) (by rw [hk];exact ⟨_,I',q⟩)
 ·have hk:(k+(its.toArray.size:Int)).toNat=j:=by
   rw [seqIndex_neg (by omega) h3] at h1
   rw [List.size_toArray,← hl]
   exact Option.some.inj h1
  exact PySem.W.ki_setBack ho (by omega) (by rw [List.size_toArray,← hl];exact h3) (by omega) (by rw [hk];exact ⟨_,I',q⟩)
theorem qQ (lo hi:Option Int) (n:Nat):(sliceBounds lo hi none n).1=((HT.sIx n 0 lo:Nat):Int)∧(sliceBounds lo hi none n).2.1=((HT.sIx n n hi:Nat):Int)∧(sliceBounds lo hi none n).2.2=1:=by
 refine ⟨?_,?_,rfl⟩
 ·cases lo with
  | none=>simp [sliceBounds,HT.sIx]
  | some i=>
   simp only [sliceBounds,HT.sIx,Option.getD_none,show (1:Int) > 0 by decide,if_true]
   by_cases h:i < 0
   ·simp only [h,if_true]<;>omega
   ·simp only [h,if_false]<;>omega
 ·cases hi with
  | none=>simp [sliceBounds,HT.sIx]
  | some i=>
   simp only [sliceBounds,HT.sIx,Option.getD_none,show (1:Int) > 0 by decide,if_true]
   by_cases h:i < 0
   ·simp only [h,if_true]<;>omega
   ·simp only [h,if_false]<;>omega
theorem pS (its:List Value) (lo hi:Option Int):slicePick its.toArray lo hi none=((its.drop (HT.sIx its.length 0 lo)).take (HT.sIx its.length its.length hi - HT.sIx its.length 0 lo)).toArray:=by
 obtain ⟨h1,h2,h3⟩:=qQ lo hi its.toArray.size
 unfold slicePick
 rw [h1,h2,h3]
 simp only [sliceRange_one,pick_run,List.size_toArray]<;>rfl
def IA (K:PySem.W.Frag):V→Option Int→Option Int→Hp→VK→Prop:=fun x lo hi H Q=>∃ a xs,x=.ref a∧SqL K H a xs∧∀ p,H p=none→Q (.ref p) (upd H p (.lst (oA xs lo hi)))
theorem BS:SlR X (IA X.K):=by
 intro pins s σ H x v vl vu lo hi sl Q I rx hs pl pu h
 obtain ⟨a,xs,rfl,hx,q⟩:=h
 cases rx
 obtain ⟨its,r,ht,hz⟩:=I.list hx
 have hlen:=r.length
 refine ⟨"list",_,slot_list_getitem.lookup,ht.isList.typeIs,?_⟩
 refine wpAny_getItem_list_slice ht.isList hs pl pu .none (by simp) ?_ (by rw [List.size_toArray]<;>omega)
 rw [pS,← hlen]
 refine ⟨.ref s.heap.objs.size,_,I.laid (t':=s.toks) (o:=.lst (oA xs lo hi)) (fun b ob q=>Heap.get?_push_of_some _ q) (Nat.le_refl _) ?_,rfl,q _ (I.hok.fresh (Nat.le_refl _))⟩
 exact ⟨Nat.le_trans (sW xs lo hi) hz,_,0,(r.drop (HT.sIx xs.length 0 lo)).take (HT.sIx xs.length xs.length hi - HT.sIx xs.length 0 lo),Heap.get?_push_size _ rfl⟩
def dW:V→Bool
 | .non=>true
 | .bl _=>true
 | .int _=>true
 | .str _=>true
 | _=>false
def eqV:V→V→Bool
 | .non,.non=>true
 | .bl a,.bl b=>a == b
 | .bl a,.int b=>(if a then 1 else 0) == b
 | .int a,.bl b=>a == (if b then 1 else 0)
 | .int a,.int b=>a == b
 | .str a,.str b=>a == b
 | _,_=>false
theorem jZ {A:Around} {s:Shared} {y x:V} {u v:Value} (ry:RelV y u) (rx:RelV x v) (fy:dW y=true) (fx:dW x=true):SeqAt.EqAt A s u v (eqV y x):=by
 cases y with
 | non=>
  cases ry
  cases x with
  | non=>cases rx;exact SeqAt.EqAt.same _
  | bl b=>cases rx;exact SeqAt.EqAt.none_bool b
  | int b=>obtain ⟨t,rfl⟩:=rx;exact SeqAt.EqAt.none_int b t
  | str b=>obtain ⟨t,rfl⟩:=rx;exact SeqAt.EqAt.none_str b t
  | _=>exact absurd (show false=true from fx) Bool.false_ne_true
 | bl a=>
  cases ry
  cases x with
  | non=>cases rx;exact SeqAt.EqAt.bool_none a
  | bl b=>cases rx;exact SeqAt.EqAt.bool_bool a b
  | int b=>obtain ⟨t,rfl⟩:=rx;exact SeqAt.EqAt.bool_int a b t
  | str b=>obtain ⟨t,rfl⟩:=rx;exact SeqAt.EqAt.bool_str a b t
  | _=>exact absurd (show false=true from fx) Bool.false_ne_true
 | int a=>
  obtain ⟨t',rfl⟩:=ry
  cases x with
  | non=>cases rx;exact SeqAt.EqAt.int_none a t'
  | bl b=>cases rx;exact SeqAt.EqAt.int_bool a t' b
  | int b=>obtain ⟨t,rfl⟩:=rx;exact SeqAt.EqAt.int_int a t' b t
  | str b=>obtain ⟨t,rfl⟩:=rx;exact SeqAt.EqAt.int_str a t' b t
  | _=>exact absurd (show false=true from fx) Bool.false_ne_true
 | str a=>
  obtain ⟨t',rfl⟩:=ry
  cases x with
  | non=>cases rx;exact SeqAt.EqAt.str_none a t'
  | bl b=>cases rx;exact SeqAt.EqAt.str_bool a t' b
  | int b=>obtain ⟨t,rfl⟩:=rx;exact SeqAt.EqAt.str_int a t' b t
  | str b=>obtain ⟨t,rfl⟩:=rx;exact SeqAt.EqAt.str_str a t' b t
  | _=>exact absurd (show false=true from fx) Bool.false_ne_true
 | _=>exact absurd (show false=true from fy) Bool.false_ne_true
def eqU (x:V) (u:Value):Bool:=match u with
 | .none=>eqV .non x
 | .bool b=>eqV (.bl b) x
 | .int i _=>eqV (.int i) x
 | .str z _=>eqV (.str z) x
 | _=>false
theorem wy {x y:V} {u:Value} (r:RelV y u) (f:dW y=true):eqU x u=eqV y x:=by
 cases y with
 | non=>cases r;rfl
 | bl b=>cases r;rfl
 | int i=>obtain ⟨t,rfl⟩:=r;rfl
 | str z=>obtain ⟨t,rfl⟩:=r;rfl
 | _=>exact absurd (show false=true from f) Bool.false_ne_true
theorem iO {x:V}:∀ {xs:List V} {us:List Value},Vals xs us→xs.all dW=true→us.any (eqU x)=xs.any fun y=>eqV y x
 | _,_,.nil,_=>rfl
 | y :: xs,u :: us,.cons r t,f=>by
  rw [List.all_cons,Bool.and_eq_true] at f
  rw [List.any_cons,List.any_cons,wy r f.1,iO t f.2]
theorem gW {A:Around} {s:Shared} {x:V} {v:Value} (rx:RelV x v) (fx:dW x=true):∀ {xs:List V} {us:List Value},Vals xs us→xs.all dW=true→∀ u∈us,SeqAt.EqAt A s u v (eqU x u)
 | _,_,.nil,_=>fun u hu=>by cases hu
 | y :: xs,u :: us,.cons r t,f=>fun u' hu=>by
  rw [List.all_cons,Bool.and_eq_true] at f
  rcases List.mem_cons.mp hu with rfl | hu
  ·rw [wy r f.1];exact jZ r rx f.1 fx
  ·exact gW rx fx t f.2 u' hu
def inV (x:V) (xs:List V):Bool:=xs.any fun y=>eqV y x
def rIn (K:PySem.W.Frag) (neg:Bool):R2:=fun x y H Q=>∃ p xs,y=.ref p∧(SqL K H p xs∨SqT K H p xs)∧dW x=true∧xs.all dW=true∧Q (.bl (if neg then !inV x xs else inV x xs)) H
theorem oU:OpR X (compareOp .In) (rIn X.K false):=by
 intro pins s σ H x y v u Q I rx ry h
 obtain ⟨p,xs,rfl,hq,fx,fs,q⟩:=h
 cases ry
 rcases hq with hq | hq
 ·obtain ⟨its,r,pl,hz⟩:=I.list hq
  refine SeqAt.in_listAt (eqU x) pl.isList (fun w hw=>gW rx fx r fs w (by simpa using hw)) ⟨.bl _,H,I,rfl,?_⟩
  rw [show its.toArray.any (eqU x)=its.any (eqU x) by simp,iO r fs]
  exact q
 ·obtain ⟨its,r,pl,hz⟩:=I.tuple hq
  refine SeqAt.in_tupleAt (eqU x) pl (fun w hw=>gW rx fx r fs w (by simpa using hw)) ⟨.bl _,H,I,rfl,?_⟩
  rw [show its.toArray.any (eqU x)=its.any (eqU x) by simp,iO r fs]
  exact q
theorem j5:OpR X (compareOp .NotIn) (rIn X.K true):=by
 intro pins s σ H x y v u Q I rx ry h
 obtain ⟨p,xs,rfl,hq,fx,fs,q⟩:=h
 cases ry
 rcases hq with hq | hq
 ·obtain ⟨its,r,pl,hz⟩:=I.list hq
  refine SeqAt.notIn_listAt (eqU x) pl.isList (fun w hw=>gW rx fx r fs w (by simpa using hw)) ⟨.bl _,H,I,rfl,?_⟩
  rw [show its.toArray.any (eqU x)=its.any (eqU x) by simp,iO r fs]
  exact q
 ·obtain ⟨its,r,pl,hz⟩:=I.tuple hq
  refine SeqAt.notIn_tupleAt (eqU x) pl (fun w hw=>gW rx fx r fs w (by simpa using hw)) ⟨.bl _,H,I,rfl,?_⟩
  rw [show its.toArray.any (eqU x)=its.any (eqU x) by simp,iO r fs]
  exact q
theorem bL.or {f:Value} {r r':List V→Hp→VK→Prop} (h:bL X f r) (h':bL X f r'):bL X f (fun xs H Q=>r xs H Q∨r' xs H Q):=by
 intro pins s σ H xs us Q I rs q
 rcases q with q | q
 ·exact h pins s σ H xs us Q I rs q
 ·exact h' pins s σ H xs us Q I rs q
theorem kI:bL X (.type "list") (fun xs H Q=>∃ p ys,xs=[.ref p]∧(SqL X.K H p ys∨SqT X.K H p ys)∧∀ l,H l=none→Q (.ref l) (upd H l (.lst ys))):=by
 intro pins s σ H xs us Q I r h
 obtain ⟨p,ys,rfl,hq,q⟩:=h
 obtain ⟨u,rfl,rx⟩:=vals1 r
 cases rx
 have fin:∀ (its:List Value),Vals ys its→ys.length≤sizeLine→∀ (h':Heap) (c':Nat),(∀ b o',s.heap.get? b=some o'→h'.get? b=some o') →
   h'.get? s.heap.objs.size=some { cls:=.type "list",dict:=none,data:=.seq its.toArray c',slots:=#[] }→EP X pins σ Q (.ref s.heap.objs.size) { s with heap:=h' }:=fun its r' hz h' c' kp e=>
  ⟨.ref s.heap.objs.size,_,I.laid (t':=s.toks) kp (Nat.le_refl _) (show bz X.prog X.w _ h' _ (.lst ys) from ⟨hz,its,c',r',e⟩),rfl,q _ (I.hok.fresh (Nat.le_refl _))⟩
 rcases hq with hq | hq
 ·obtain ⟨its,r',pl,hz⟩:=I.list hq
  have hlen:=r'.length
  obtain ⟨o,ho,hc,n,hd⟩:=pl.isList
  exact call_list_seq p (.inl rfl) ho hc hd (fun h' c' kp e=>fin its r' hz h' c' kp e) (by simp only [List.size_toArray]<;>omega)
 ·obtain ⟨its,r',pl,hz⟩:=I.tuple hq
  have hlen:=r'.length
  obtain ⟨o,ho,hc,n,hd⟩:=pl
  exact call_list_seq p (.inr rfl) ho hc hd (fun h' c' kp e=>fin its r' hz h' c' kp e) (by simp only [List.size_toArray]<;>omega)
theorem jK:bL X (.type "tuple") (fun xs H Q=>∃ p ys,xs=[.ref p]∧((SqL X.K H p ys∧∀ l,H l=none→Q (.ref l) (upd H l (.tup ys)))∨(SqT X.K H p ys∧Q (.ref p) H))):=by
 intro pins s σ H xs us Q I r h
 obtain ⟨p,ys,rfl,h⟩:=h
 obtain ⟨u,rfl,rx⟩:=vals1 r
 cases rx
 rcases h with ⟨hq,q⟩ | ⟨hq,q⟩
 ·obtain ⟨its,r',pl,hz⟩:=I.list hq
  have hlen:=r'.length
  refine call_tuple_list pl.isList (fun h' kp=>?_) (by simp only [List.size_toArray]<;>omega)
  have I1:Inv X pins σ H { s with heap:=h' }:=I.kept (t':=s.toks) kp
  have I2:Inv X pins σ (upd H h'.objs.size (.tup ys)) { s with heap:=h'.push { cls:=.type "tuple",data:=.seq its.toArray } }:=
   I1.laid (t':=s.toks) (fun b o e=>Heap.get?_push_of_some _ e) (Nat.le_refl _) (show bz X.prog X.w _ _ _ (.tup ys) from ⟨hz,its,r',IsTup.new _ _⟩)
  exact ⟨.ref h'.objs.size,_,I2,rfl,q _ (I1.hok.fresh (Nat.le_refl _))⟩
 ·obtain ⟨its,r',pl,hz⟩:=I.tuple hq
  exact call_tuple_same pl ⟨.ref p,H,I,rfl,q⟩
def tyV (K:PySem.W.Frag) (T:String) (x:V) (H:Hp):Prop:=match x with
 | .str _=>T="str"
 | .int _=>T="int"
 | .ref p=>(T="list"∧∃ xs,SqL K H p xs)∨(T="tuple"∧∃ o,K.lookup p=some o∧o.cls=.type "tuple"∧o.dict=none) ∨
   (T="dict"∧((∃ kvs,H p=some (.dK kvs))∨∃ kvs,H p=some (.dT kvs)))∨(T="set"∧∃ S n,H p=some (.set S n))
 | _=>False
theorem sH {pins:List (Addr×Obj)} {σ:St} {H:Hp} {s:Shared} {T:String} {x:V} {v:Value} (I:Inv X pins σ H s) (r:RelV x v) (ty:tyV X.K T x H) :
  s.TypeIs v T∧∀ a,v=.ref a→∃ ob,s.heap.get? a=some ob∧ob.dict=none:=by
 cases x with
 | str z=>
  obtain ⟨t,rfl⟩:=r
  cases (show T="str" from ty)
  exact ⟨typeIs_str s z t,fun _ e=>nomatch e⟩
 | int i=>
  obtain ⟨t,rfl⟩:=r
  cases (show T="int" from ty)
  exact ⟨typeIs_int s i t,fun _ e=>nomatch e⟩
 | ref p=>
  cases r
  rcases ty with ⟨rfl,xs,hq⟩ | ⟨rfl,o,hk,hc,hd⟩ | ⟨rfl,hk⟩ | ⟨rfl,S,n,hk⟩
  ·obtain ⟨its,_,pl,_⟩:=I.list hq
   refine ⟨pl.isList.typeIs,fun a e=>?_⟩
   cases e
   obtain ⟨o,n,e,c,hd,_⟩:=pl
   exact ⟨o,e,hd⟩
  ·refine ⟨⟨o,I.kIn p o hk,hc⟩,fun a e=>?_⟩
   cases e
   exact ⟨o,I.kIn _ o hk,hd⟩
  ·have z:∃ o,s.heap.get? p=some o∧o.ExactDict:=by
    rcases hk with ⟨kvs,hk⟩ | ⟨kvs,hk⟩
    ·obtain ⟨_,_,_,_,o,_,_,e,ex,_⟩:=I.hok p _ hk
     exact ⟨o,e,ex⟩
    ·obtain ⟨_,_,_,_,o,_,_,e,ex,_⟩:=I.hok p _ hk
     exact ⟨o,e,ex⟩
   obtain ⟨o,e,ex⟩:=z
   refine ⟨⟨o,e,ex.1⟩,fun a e2=>?_⟩
   cases e2
   exact ⟨o,e,ex.2.1⟩
  ·obtain ⟨o,_,_,_,e,ex,_⟩:=I.hok p _ hk
   refine ⟨⟨o,e,ex.1⟩,fun a e2=>?_⟩
   cases e2
   exact ⟨o,e,ex.2.1⟩
 | _=>exact False.elim ty
def Ik (K:PySem.W.Frag) (T:String) (r:V→List V→Hp→VK→Prop) (to:TE):TE:=fun σ H Q=>to σ H fun x H1=>tyV K T x H1∧r x [] H1 Q
variable {o e:Expr} {es:List Expr} {to:TE} {t:TA} {name:Str} {apos cpos:Pos} {T id:String} {r:V→List V→Hp→VK→Prop}
theorem DN (pa:PlainAttrs T) (slot:Slot T name id) (hty:typeOf (.builtin id)=pure (.type "method_descriptor")) (hm:MtR X id r) (ho:PE X o to)
  (hbase:attributeBase o name X.env (eval o X.env)=eval o X.env:=by rfl) (hline:(apos.endLine == cpos.line)=true:=by rfl):PE X (.Call (.Attribute o name apos) [] [] cpos) (Ik X.K T r to):=by
 intro pins s σ H Q I h
 refine wpAny_Call_method0_late hbase hline (thn (ho pins s σ H _ I h) fun v s1 ⟨x,H1,I1,r1,ty,q1⟩=>?_)
 obtain ⟨h1,h2⟩:=sH I1 r1 ty
 exact ⟨T,id,pa,slot,hty,h1,h2,Calls.callWith_builtin rfl (PySem.evalArgs_none (hm pins s1 σ H1 x [] v [] Q I1 r1 .nil q1))⟩
end
def MtM (X:Cx) (id:String) (r:V→List V→Hp→VK→Prop):Prop:=
 ∀ (pins:List (Addr×Obj)) (s:Shared) (σ:St) (H:Hp) (x:V) (xs:List V) (v:Value) (us:List Value) (Q:VK),Inv X pins σ H s→RelV x v→Vals xs us→r x xs H Q →
  wpAny (model X.prog X.w) X.A (call (.builtin id) (v :: us)) (EP X pins σ Q) X.xe s
theorem Vals.one:∀ {x:V} {us:List Value},Vals [x] us→∃ u,us=[u]∧RelV x u
 | _,_,.cons r .nil=>⟨_,rfl,r⟩
theorem Vals.two:∀ {x y:V} {us:List Value},Vals [x,y] us→∃ u v,us=[u,v]∧RelV x u∧RelV y v
 | _,_,_,.cons r (.cons q .nil)=>⟨_,_,rfl,r,q⟩
theorem Vals.zero:∀ {us:List Value},Vals [] us→us=[]
 | _,.nil=>rfl
theorem Vals.eraseIdx:∀ {xs:List V} {us:List Value} (i:Nat),Vals xs us→Vals (xs.eraseIdx i) (us.eraseIdx i)
 | _,_,_,.nil=>.nil
 | _,_,0,.cons _ t=>t
 | _,_,i+1,.cons r t=>.cons r (Vals.eraseIdx i t)
theorem pK {α:Type}:∀ (l:List α) (i:Nat),(l.eraseIdx i).length≤l.length
 | [],_=>Nat.le_refl _
 | _ :: _,0=>Nat.le_succ _
 | _ :: r,i+1=>Nat.succ_le_succ (pK r i)
section
variable {X:Cx} {pins:List (Addr×Obj)} {σ:St} {H:Hp} {s:Shared} {l b:Addr} {xs ys zs:List V}
theorem Inv.rP {its its':List Value} {n:Nat} {f:Array Value→Array Value} {t':Nat} (I:Inv X pins σ H s) (hH:H l=some (.lst xs))
  (e:s.heap.get? l=some { cls:=.type "list",data:=.seq its.toArray n }) (hf:f its.toArray=its'.toArray) (hv:Vals ys its') (hz:ys.length≤sizeLine) :
  Inv X pins σ (upd H l (.lst ys)) { s with heap:=s.heap.update l (Obj.mapSeq f),toks:=t' }:=by
 have q:=PySem.IsL.update e f
 rw [hf] at q
 refine I.write (x:=l) (e:=l) (by rw [hH];exact trivial) (.inl rfl) (fun b' u hb hu=>(Heap.get?_update_other s.heap (Obj.mapSeq f) (Ne.symm hb)).trans hu) ⟨_,q⟩ ?_
 exact ⟨hz,its',_,hv,q⟩
theorem Inv.Ie {its:List Value} {t':Nat} (I:Inv X pins σ H s) (hv:Vals ys its) (hz:ys.length≤sizeLine) :
  Inv X pins σ (upd H s.heap.objs.size (.lst ys)) { s with heap:=s.heap.push { cls:=.type "list",data:=.seq its.toArray },toks:=t' }:=
 I.laid (fun _ _ q=>Heap.get?_push_of_some _ q) (Nat.le_refl _) ⟨hz,its,0,hv,Heap.get?_push_size _ rfl⟩
theorem Inv.fresh (I:Inv X pins σ H s):H s.heap.objs.size=none:=I.hok.fresh (Nat.le_refl _)
theorem Inv.kf (I:Inv X pins σ H s) (hH:H l=some (.lst xs)):xs.length≤sizeLine∧∃ (its:List Value) (n:Nat),Vals xs its∧xs.length=its.length∧s.heap.get? l=some { cls:=.type "list",data:=.seq its.toArray n }:=by
 obtain ⟨z,its,n,r,e⟩:=I.hok l _ hH
 exact ⟨z,its,n,r,r.length,e⟩
theorem i_ {n:Nat} (h:n≤sizeLine):Builtin.List.listTooLong n=false:=by
 unfold Builtin.List.listTooLong
 exact decide_eq_false (by omega)
end
section
variable {X:Cx}
def CZ:V→List V→Hp→VK→Prop:=fun x vs H Q=>∃ l xs y,x=.ref l∧vs=[y]∧H l=some (.lst xs)∧xs.length < sizeLine∧Q .non (upd H l (.lst (xs++[y])))
theorem pJ:MtM X "list.append" CZ:=by
 intro pins s σ H x vs v us Q I rx rv h
 obtain ⟨l,xs,y,rfl,rfl,hH,hz,q⟩:=h
 cases rx
 obtain ⟨u,rfl,ru⟩:=rv.one
 obtain ⟨z,its,n,r,hl,e⟩:=I.kf hH
 refine call_meets F.slot_list_append ⟨_,e,rfl⟩ F.entry_list_append (F.args_list_append_2 _ _) (PySem.list_append l its.toArray n u (by rw [List.size_toArray];omega)) ⟨e,?_⟩
 refine ⟨.non,_,I.rP (its':=its++[u]) hH e (by simp) (r.append (.cons ru .nil)) ?_,rfl,q⟩
 rw [List.length_append,List.length_singleton]
 omega
def tW:V→List V→Hp→VK→Prop:=fun x vs H Q=>∃ l b xs zs,x=.ref l∧vs=[.ref b]∧H l=some (.lst xs)∧H b=some (.lst zs)∧xs.length+zs.length≤sizeLine∧Q .non (upd H l (.lst (xs++zs)))
theorem yR:MtM X "list.extend" tW:=by
 intro pins s σ H x vs v us Q I rx rv h
 obtain ⟨l,b,xs,zs,rfl,rfl,hH,hB,hz,q⟩:=h
 cases rx
 obtain ⟨u,rfl,ru⟩:=rv.one
 cases ru
 obtain ⟨z,its,n,r,hl,e⟩:=I.kf hH
 obtain ⟨z2,its2,n2,r2,hl2,e2⟩:=I.kf hB
 have hsz:its.toArray.size+its2.toArray.size≤sizeLine:=by rw [List.size_toArray,List.size_toArray];omega
 have hlong:¬(!its.toArray.isEmpty && Builtin.List.listTooLong (its.toArray.size+its2.toArray.size))=true:=by
  rw [i_ hsz,Bool.and_false]
  exact Bool.false_ne_true
 refine call_meets F.slot_list_extend ⟨_,e,rfl⟩ F.entry_list_extend (F.args_list_extend_2 _ _)
  (AutoSeq1.list_extend_list_list_0 l its.toArray n b its2.toArray n2 hlong (by rw [List.size_toArray];omega) (by omega)) ⟨e,e2,?_⟩
 refine ⟨.non,_,I.rP (its':=its++its2) hH e (by simp) (r.append r2) ?_,rfl,q⟩
 rw [List.length_append]
 omega
def x_:V→List V→Hp→VK→Prop:=fun x vs H Q=>∃ l xs i k y,x=.ref l∧vs=[.int i]∧H l=some (.lst xs)∧-(2 ^ 63)≤i∧i < 2 ^ 63∧seqIndex? i xs.length=some k∧xs[k]?=some y∧Q y (upd H l (.lst (xs.eraseIdx k)))
theorem Aa:MtM X "list.pop" x_:=by
 intro pins s σ H x vs v us Q I rx rv h
 obtain ⟨l,xs,i,k,y,rfl,rfl,hH,h1,h2,hk,hy,q⟩:=h
 cases rx
 obtain ⟨u,rfl,ru⟩:=rv.one
 obtain ⟨t,rfl⟩:=ru
 obtain ⟨z,its,n,r,hl,e⟩:=I.kf hH
 obtain ⟨w,hw,rw'⟩:=r.get hy
 refine call_meets F.slot_list_pop ⟨_,e,rfl⟩ F.entry_list_pop (F.args_list_pop_2 _ _)
  (MeetsSeq.list_pop_at l its.toArray n i t k w (fitsIndex_both h1 h2) (by rw [List.size_toArray,← hl];exact hk) (by rw [← Array.getElem?_toList];exact hw) (by rw [List.size_toArray];omega)) ⟨e,?_⟩
 refine ⟨y,_,I.rP (its':=its.eraseIdx k) hH e ?_ (r.eraseIdx k) ?_,rw',q⟩
 ·show its.toArray.eraseIdxIfInBounds k=(its.eraseIdx k).toArray
  rw [List.eraseIdxIfInBounds_toArray]
 ·have:=pK xs k
  omega
def Ec:V→List V→Hp→VK→Prop:=fun x vs H Q=>∃ l xs,x=.ref l∧vs=[]∧H l=some (.lst xs)∧Q .non (upd H l (.lst []))
theorem AK:MtM X "list.clear" Ec:=by
 intro pins s σ H x vs v us Q I rx rv h
 obtain ⟨l,xs,rfl,rfl,hH,q⟩:=h
 cases rx
 have hus:=rv.zero
 subst hus
 obtain ⟨z,its,n,r,hl,e⟩:=I.kf hH
 refine call_meets F.slot_list_clear ⟨_,e,rfl⟩ F.entry_list_clear (F.args_list_clear_1 _) (AutoSeq1.list_clear_list_0 l its.toArray n (by rw [List.size_toArray];omega)) ⟨e,?_⟩
 exact ⟨.non,_,I.rP (its':=[]) (ys:=[]) hH e rfl .nil (Nat.zero_le _),rfl,q⟩
def IS:R2:=fun x y H Q=>∃ l b xs zs,x=.ref l∧y=.ref b∧H l=some (.lst xs)∧H b=some (.lst zs)∧xs.length+zs.length≤sizeLine∧∀ p,H p=none→Q (.ref p) (upd H p (.lst (xs++zs)))
theorem FT:OpR X (binaryOp .Add) IS:=by
 intro pins s σ H x y v u Q I rx ry h
 obtain ⟨l,b,xs,zs,rfl,rfl,hH,hB,hz,q⟩:=h
 cases rx
 cases ry
 obtain ⟨z,its,n,r,hl,e⟩:=I.kf hH
 obtain ⟨z2,its2,n2,r2,hl2,e2⟩:=I.kf hB
 refine PySem.P.add_list e e2 ?_ (by rw [List.size_toArray,List.size_toArray];omega)
 have ea:its.toArray++its2.toArray=(its++its2).toArray:=by simp
 rw [ea]
 exact ⟨.ref _,_,I.Ie (t':=s.toks) (r.append r2) (by rw [List.length_append];omega),rfl,q _ I.fresh⟩
end
section
variable {prog:Program} {w:World} {A:Around} {E:Value→Shared→Prop} {s:Shared}
theorem vX {a c n:Nat} (hac:a≤c) (hc:c≤n):sliceBounds (some (a:Int)) (some (c:Int)) none n=((a:Int),(c:Int),1):=by
 simp only [sliceBounds,Option.getD_none]
 have h1:¬((a:Int) < 0):=by omega
 have h2:¬((c:Int) < 0):=by omega
 simp only [h1,h2,if_false,show (1:Int) > 0 by decide,if_true]
 congr 1
 ·omega
 ·congr 1;omega
set_option maxRecDepth 100000 in
theorem Di {l b sl : Addr} {items new : Array Value} {n n2 : Nat} {vl vu : Value} {a c : Nat} {Q : Unit → Shared → Prop}
    (e : s.heap.get? l = some { cls := .type "list", data := .seq items n }) (e2 : s.heap.get? b = some { cls := .type "list", data := .seq new n2 }) (hne : l ≠ b)
    (hs : s.heap.IsSliceOf sl vl vu .none) (pl : IsPart vl (some (a : Int))) (pu : IsPart vu (some (c : Int))) (hac : a ≤ c) (hc : c ≤ items.size)
    (hsz : items.size + new.size ≤ sizeLine) (h : Q () { s with heap := s.heap.update l (Obj.mapSeq fun xs => xs.extract 0 a ++ new ++ xs.extract c xs.size) }) :
    wpAny (model prog w) A (setItem (.ref l) (.ref sl) (.ref b)) Q E s := by
  have hl : s.heap.IsList l items := PySem.IsL.isList e
  have hb : s.heap.IsList b new := PySem.IsL.isList e2
  obtain ⟨os, hos, hcs, hds⟩ := id hs
  have hTs : s.TypeIs (.ref sl) "slice" := ⟨os, hos, hcs⟩
  have hstep : ¬ ((rawPart none == rawInt 0) = true) := Bool.false_ne_true
  have hsame : Builtin.List.listSameRef (.ref l) (.ref b) = false := by
    unfold Builtin.List.listSameRef
    exact beq_eq_false_iff_ne.mpr hne
  have hmax : (max (a : Int) (c : Int)).toNat = c := by omega
  have hz' : ((fun xs : Array Value => xs.extract 0 a ++ new ++ xs.extract c xs.size) items).size ≤ sizeLine + 1 := by
    simp only [Array.size_append, Array.size_extract]
    omega
  unfold setItem
  try with_reducible refine wpAny_holding ?_
  first | refine wpAny_bind (wpAny_pure ?_) | skip
  refine wpAny_bind (wpAny_sequenceKey hl.typeIs (by decide) ?_)
  refine wpAny_bind (wpAny_callSpecial?_slot (name := Str.ofString "__setitem__") hl.typeIs slot_list_setitem
    (wpAny_call_entry slot_list_setitem hl.typeIs entry_list_setitem ?_ (args_list_setitem _ _ _)))
  show wpAny _ _ (Builtin.List.listSubscript? (.ref sl) >>= _) _ _ s
  refine wpAny_bind ?_
  unfold Builtin.List.listSubscript?
  refine wpAny_bind (wpAny_specialOf hTs slice_no_index ?_)
  simp only [Option.isNone_none, if_true]
  refine wpAny_pure ?_
  show wpAny _ _ (typeOf (.ref sl) >>= _) _ _ s
  refine wpAny_bind (wpAny_typeOf hTs ?_)
  first
    | rw [if_neg (by decide)]
    | refine PySem.W.KFB.if_not (by decide) ?_
  rw [listSliceParts_eq]
  refine wpAny_bind (wpAny_bind (wpAny_field hos hds (x := .none) rfl (wpAny_bind (wpAny_listPart .none ?_))))
  rw [if_neg hstep]
  refine wpAny_bind (wpAny_field hos hds (x := vl) rfl (wpAny_bind (wpAny_listPart pl ?_)))
  refine wpAny_bind (wpAny_field hos hds (x := vu) rfl (wpAny_bind (wpAny_listPart pu (wpAny_pure ?_))))
  first
    | simp only [hsame, Bool.false_eq_true, if_false]
    | refine PySem.W.KFB.if_not hsame ?_
    | (dsimp only
       rw [if_neg (by rw [hsame]; exact Bool.false_ne_true)])
  refine wpAny_bind (m := Builtin.List.listAllItems (.ref b) "must assign iterable to extended slice") ?_
  unfold Builtin.List.listAllItems
  refine wpAny_bind (wpAny_typeOf hb.typeIs ?_)
  first
    | refine PySem.W.KFB.if_so (by decide) ?_
    | rw [if_pos (by decide)]
    | simp only [beq_self_eq_true, Bool.true_or, if_true]
  unfold Builtin.List.listItems
  refine wpAny_bind (wpAny_seqItems e2 rfl (wpAny_pure ?_))
  refine wpAny_bind (wpAny_bind (wpAny_seqItems e rfl (wpAny_pure ?_)))
  refine wpAny_bind (wpAny_of_eq ((sliceIndices_raw (some (a : Int)) (some (c : Int)) none items.size (by simp)).trans (congrArg (pure : Int × Int × Int → Sem (Int × Int × Int)) (vX hac hc))) ?_)
  show wpAny _ _ (if ((1 : Int) == 1) = true then _ else _) _ _ s
  rw [if_pos (by decide)]
  refine wpAny_bind (wpAny_rule ?_)
  first
    | simp only [i_ hsz, Bool.false_eq_true, if_false]
    | refine PySem.W.KFB.if_not (i_ hsz) ?_
  first | refine wpAny_bind (wpAny_pure ?_) | skip
  show wpAny _ _ (updateSeq l (fun xs => xs.extract 0 ((a : Int)).toNat ++ new ++ xs.extract (max (a : Int) (c : Int)).toNat xs.size) >>= _) _ _ s
  rw [hmax, Int.toNat_natCast]
  refine wpAny_bind (wpAny_updateSeq (hz := Nat.le_trans (Nat.le_add_right _ _) hsz) (_hz' := hz') e rfl ?_)
  refine wpAny_bind (wpAny_letGo ?_)
  first
    | exact wpAny_bind (wpAny_pure (wpAny_pure ⟨.none, rfl, wpAny_pure h⟩))
    | exact wpAny_pure ⟨.none, rfl, wpAny_pure h⟩
end
end L2
namespace Att
open PySem PySem.W PySem.Calls PyProof.Rows
theorem my {P:Params} {h:Heap}:∀ (ns:List Int) (vs:List Value),WellAll P h vs (ns.map WData.int)→IntsAre vs ns:=by
 intro ns
 induction ns with
 | nil=>
  intro vs w
  rw [List.map_nil] at w
  cases w
  exact .nil
 | cons n ns ih=>
  intro vs w
  rw [List.map_cons] at w
  cases w with
  | cons a b=>
   cases a
   exact .cons _ _ (ih _ b)
theorem wI {l:OpenLaw} {n:Nat} (hn:l.most=some n) {P:Params} {h:Heap} {args:List WData} {vals:List Value}
    (hpre:l.row.toRowW.claim.pre args=true) (hwl:WellAll P h vals args) :
    ∃ a vs ns,vals=[Value.ref a]∧args=[WData.list (ns.map WData.int)]∧h.get? a=some { cls:=.type "list",data:=.seq vs.toArray }∧IntsAre vs ns∧ns.length≤n:=by
  have hsh:WShape.hasAll [] args [.list .int]=true:=(pre_splitW hpre).1
  have hc:l.pre.holds [] { args:=args }=true:=(pre_splitW hpre).2
  obtain ⟨d,r,rfl,h1,h2⟩:=hasAllW_cons hsh
  obtain rfl:=hasAllW_nil h2
  obtain ⟨xs,rfl,h3⟩:=hasW_list h1
  obtain ⟨ns,rfl⟩:=items_int h3
  have hlen:ns.length≤n:=by
    unfold OpenLaw.pre at hc
    have h4:(WTm.not (.lt (.lit (.int (n:Int))) (.len (.arg 0)))).holds [] { args:=[.list (ns.map .int)] }=true:=by
      have h4:=(holds_andW hc).1
      rw [hn] at h4
      exact h4
    have h5:=condW_of h4 (w_not (w_lt w_lit (w_len_list (w_arg rfl))))
    rw [List.length_map] at h5
    refine Nat.le_of_not_lt fun q=>?_
    have q':(n:Int) < ((ns.length:Nat):Int):=by omega
    first
      | (rw [decide_eq_true q'] at h5;exact absurd h5 (by decide))
      | (simp at h5;omega)
  cases hwl with
  | cons w1 w2=>
    cases w2
    cases w1 with
    | list ho hall=>exact ⟨_,_,ns,rfl,rfl,ho,my ns _ hall,hlen⟩
theorem yv (l:OpenLaw) (args:List WData):l.row.toRowW.claim.post args (.bool true) args=true:=
 postW_of (r:=l.row.toRowW) (X:=(true == true))
  (show WShape.has [] (.bool true) .bool=true by first | rfl | decide | simp [WShape.has,WShape.arms,WShape.armsAll])
  (show (WTm.eq .res (.lit (.bool true))).value [] { args:=args,res:=some (.bool true),after:=args }=some (.bool (true == true)) from w_eq_bool (w_res rfl) w_lit) rfl
theorem tq {l:OpenLaw} {n:Nat} {q:Program} {loose:List Str} {XP:(Str→Option Value)→Heap→Prop} {YP:World→Heap→Prop} {d:DefRec}
  (hn:l.most=some n) (hdf:d.params.defaults=[])
  (call:∀ (w:World) (s₀ s₁:Shared) (mg mb:Str→Option Value) (fa:Addr) (o:Obj) (pm cd doc:Value) (a:Addr) (vs:List Value) (ns:List Int),
   Ground q loose [] XP w s₀ mg mb s₁.heap→YP w s₁.heap →
   s₁.heap.get? fa=some o→o.data=.func (docDef d.name d.params d.body d.scope pm cd doc)→s₁.heap.CodeRec cd d.name→mg d.name=some (.ref fa) →
   s₁.heap.get? a=some { cls:=.type "list",data:=.seq vs.toArray }→IntsAre vs ns→ns.length≤n→s₁.gens=#[] →
   codeAny (model l.prog w) callerA (.call (.ref fa) ⟨[.ref a],[]⟩) (fun r s'=>r=.ok (.ret (.bool true))∧OldK s₁.heap s'.heap∧s'.os=s₁.os∧AllBare s'.gens) s₁) :
  WalkO q loose XP YP l.row.toRowW d [] (fun f vs=>PySem.call f vs):=by
 intro w s₀ s₁ mg mb G Y fa o pm cd doc dV kV ho hd hcd hD hmg hg args vals as hpre hlay hrd hwl hlo
 obtain rfl:dV=.none:=Dflts.none hD hdf
 obtain rfl:kV=.none:=Dflts.noKw hD
 obtain ⟨a,vs,ns,rfl,rfl,hobj,hints,hlen⟩:=wI hn hpre hwl
 refine enter_call (codeAny_mono (call w s₀ s₁ mg mb fa o pm cd doc a vs ns G Y ho (fd_plain hd) hcd hmg hobj hints hlen hg) fun r s' hq=>?_)
 obtain ⟨rfl,h2,h3,h4⟩:=hq
 exact ⟨.inl ⟨.bool true,.bool true,[],rfl,fun _=>rfl,.bool true,yv l _,fun _=>⟨List.Pairwise.nil,fun _ hm=>(nomatch hm)⟩⟩,h2,h3,h4⟩
end Att
namespace L2
open PySem PySem.Spec PyProof.Rows
theorem eg:∀ {vs:List Value} {ns:List Int},IntsAre vs ns→Vals (ns.map V.int) vs
 | _,_,.nil=>.nil
 | _,_,.cons n t h=>.cons ⟨t,rfl⟩ (eg h)
def zg (H:Hp):Prop:=∀ b,H b=none∨∃ o xs,H b=some (.frz o (.lst xs))
theorem AE {P:Program} {w:World} {K:PySem.W.Frag} {mg mb:Str→Option Value} {CX:CXT} {k:Nat} {fa a:Addr} {fd:FuncData} {x:Str} {sp:Sp} {s₁:Shared} {vs:List Value} {ns:List Int}
  (KX:K.In s₁.heap) (hns:s₁.heap.Ns mainGlobals mg) (hb:s₁.heap.Ns builtinsNs mb) (hbb:∀ x:Str,x≠"__name__"→mb x=bootBuiltins x) (hlim:s₁.heap.NoLimit) (hg:s₁.gens=#[])
  (ha:s₁.heap.get? a=some { cls:=.type "list",data:=.seq vs.toArray }) (hi:IntsAre vs ns) (hl:ns.length≤sizeLine) (hr:cn k callerA)
  (F:∀ base:Heap,K.In base→base.Ns mainGlobals mg→du P w K mg base CX k fa fd [x] sp) (hbind:∀ (s:Shared) (u:Value),BindsTo s fd ⟨[u],[]⟩ [(x,u)])
  (hsp:∀ H:Hp,zg H→SqL K H a (ns.map V.int)→sp [.ref a] H (fun v _=>v=.bl true) fun _ _ _=>False)
  (hCX:∀ H e s',CX [] H s₁ (fun _ _ _=>False) e s'→False) :
  codeAny (model P w) callerA (.call (.ref fa) ⟨[.ref a],[]⟩) (fun r s'=>r=.ok (.ret (.bool true))∧OldK s₁.heap s'.heap∧s'.os=s₁.os∧AllBare s'.gens) s₁:=by
 have rv:=eg hi
 have lenV:=hi.length
 have core:∀ H:Hp,zg H→SqL K H a (ns.map V.int)→HOk P w H s₁.heap→(∀ b,H b≠none→b=a)→(H a≠none→K.lookup a=none) →
   codeAny (model P w) callerA (.call (.ref fa) ⟨[.ref a],[]⟩) (fun r s'=>r=.ok (.ret (.bool true))∧OldK s₁.heap s'.heap∧s'.os=s₁.os∧AllBare s'.gens) s₁:=by
  intro H hO hS hok hA hK
  have base_of:∀ {b:Addr} {o:Obj},s₁.heap.get? b=some o→H b=none→(jd s₁.heap H).get? b=some o:=fun e n=>zf e n
  have noA:∀ {b:Addr} {o:Obj} {es:Array DictEntry} {ep:Nat},s₁.heap.get? b=some o→o.data=.dict es ep→H b=none:=fun {b o es ep} e d=>by
   cases q:H b with
   | none=>rfl
   | some u=>
    have e':b=a:=hA b (by rw [q];simp)
    subst e'
    rw [ha] at e;cases e
    have d':Data.seq vs.toArray _=Data.dict es ep:=d
    cases d'
  have nsK:∀ {b:Addr} {m:Str→Option Value},s₁.heap.Ns b m→(jd s₁.heap H).Ns b m:=fun {b m} ⟨o,es,ep,e,d,r⟩=>⟨o,es,ep,base_of e (noA e d),d,r⟩
  have hKb:K.In (jd s₁.heap H):=fun b o e=>base_of (KX b o e) (by
   cases q:H b with
   | none=>rfl
   | some u=>
    have e':b=a:=hA b (by rw [q];simp)
    subst e'
    rw [hK (by rw [q];simp)] at e;cases e)
  have hM:Mod K mg (jd s₁.heap H):=⟨hKb,nsK hns,⟨mb,nsK hb,hbb⟩,let ⟨mc,h1,h2⟩:=hlim;⟨mc,nsK h1,h2⟩⟩
  have e0:vL P w K mg (jd s₁.heap H) callerA [] s₁ H:=⟨rfl,hM,fun b o e=>De e,Nat.le_of_eq (wu _ _),trivial,fun b hb=>absurd (show b∈([]:List Addr) from hb) (by simp),hok,.of_eq hg⟩
  refine codeAny_mono ((F _ hKb (nsK hns)).run callerA [] s₁ H ⟨[.ref a],[]⟩ [.ref a] [.ref a] _ _ hr e0 (hbind s₁ (.ref a)) (.cons rfl .nil) (hsp H hO hS)) fun r s' h=>?_
  cases r with
  | error e=>exact (hCX H e s' h).elim
  | ok fl=>
   cases fl with
   | next=>exact False.elim h
   | brk=>exact False.elim h
   | cont=>exact False.elim h
   | ret u=>
    obtain ⟨v,H',os,bare,un,hok',r',q⟩:=h
    have q':v=.bl true:=q
    subst q'
    obtain rfl:u=Value.bool true:=r'
    refine ⟨rfl,OldK.of_keep fun b o e=>?_,os,bare⟩
    cases q:H b with
    | none=>exact un.keep b o e q (by intro z;exact absurd (show b∈([]:List Addr) from z) (by simp)) (by simp)
    | some u=>
     rcases hO b with z | ⟨ob,xs,z⟩
     ·rw [q] at z;cases z
     ·have z2:=un.frzs b ob _ z
      obtain ⟨e1,_⟩:=hok b _ z
      obtain ⟨e2,_⟩:=hok' b _ z2
      rw [e] at e1;cases e1
      exact e2
 cases hk:K.lookup a with
 | some o=>
  have e:=KX a o hk
  rw [ha] at e
  cases e
  refine core (fun _=>none) (fun _=>.inl rfl) (.inr ⟨_,vs.toArray,_,hk,rfl,rfl,rfl,by rw [List.size_toArray,lenV];exact hl,by simpa using rv⟩) (fun b u z=>by have z':(none:Option HO)=some u:=z;cases z') (fun b z=>absurd rfl z) fun z=>absurd rfl z
 | none=>
  refine core (fun b=>if b=a then some (.frz { cls:=.type "list",data:=.seq vs.toArray } (.lst (ns.map V.int))) else none) (fun b=>?_) (.inl (.inr ⟨{ cls:=.type "list",data:=.seq vs.toArray },if_pos rfl⟩)) (fun b u z=>?_) (fun b z=>?_) fun _=>hk
  ·by_cases hb:b=a
   ·exact .inr ⟨_,_,if_pos hb⟩
   ·exact .inl (if_neg hb)
  ·by_cases hb:b=a
   ·have z':=(if_pos hb).symm.trans z
    cases z'
    subst hb
    exact ⟨ha,by rw [List.length_map];exact hl,vs,_,rv,ha⟩
   ·have z':=(if_neg hb).symm.trans z
    cases z'
  ·by_cases hb:b=a
   ·exact hb
   ·exact absurd (if_neg hb) z
theorem CH {l:PySem.W.OpenLaw} {n k:Nat} {q:Program} {loose:List Str} {XP:(Str→Option Value)→Heap→Prop} {YP:World→Heap→Prop} {d:DefRec} {K:Params→PySem.W.Frag} {CX:World→CXT} {sp:World→Sp} {x:Str}
  (hn:l.most=some n) (hn2:n≤sizeLine) (hdf:d.params.defaults=[]) (hr:cn k callerA)
  (hY:∀ (w:World) (h:Heap),YP w h→(K w.params).In h)
  (F:∀ (w:World) (mg:Str→Option Value) (fa:Addr) (h:Heap),(K w.params).In h→h.Ns mainGlobals mg→mg d.name=some (.ref fa) →
   ∃ fd:FuncData,(∀ (s:Shared) (u:Value),BindsTo s fd ⟨[u],[]⟩ [(x,u)]) ∧
    ∀ base:Heap,(K w.params).In base→base.Ns mainGlobals mg→du l.prog w (K w.params) mg base (CX w) k fa fd [x] (sp w))
  (hsp:∀ (w:World) (H:Hp) (a:Addr) (ns:List Int),ns.length≤n→zg H→SqL (K w.params) H a (ns.map V.int)→sp w [.ref a] H (fun v _=>v=.bl true) fun _ _ _=>False)
  (hCX:∀ (w:World) (H:Hp) (s:Shared) (e:Value) (s':Shared),CX w [] H s (fun _ _ _=>False) e s'→False) :
  PySem.W.WalkO q loose XP YP l.row.toRowW d [] (fun f vs=>PySem.call f vs):=by
 refine Att.tq hn hdf fun w s₀ s₁ mg mb fa o pm cd doc a vs ns G Y ho hd hcd hmg hobj hints hlen hg=>?_
 have KX:=hY w _ Y
 obtain ⟨fd,hb,hF⟩:=F w mg fa _ KX G.T.g hmg
 exact AE KX G.T.g G.T.b G.T.builtins G.T.nolimit hg hobj hints (Nat.le_trans hlen hn2) hr hF hb (fun H hO hS=>hsp w H a ns hlen hO hS) fun H e s'=>hCX w H s₁ e s'
def iP (s:Stmt):Arguments:=match s with
 | .FunctionDef _ a _ _ _ _ _ _ _ _=>a
 | _=>{ posonlyargs:=[],args:=[],vararg:=none,kwonlyargs:=[],kw_defaults:=[],kwarg:=none,defaults:=[] }
def el (s:Stmt):List Stmt:=match s with
 | .FunctionDef _ _ b _ _ _ _ _ _ _=>b
 | _=>[]
def bP (s:Stmt):Scope:=match s with
 | .FunctionDef _ _ _ _ _ _ sc _ _ _=>sc
 | _=>{ kind:=.function,names:=[],isGenerator:=false,isCoroutine:=false }
abbrev CX0:CXT:=fun _ _ _ _ _ _=>False
abbrev E0:XK:=fun _ _ _=>False
theorem Br {X:Cx}:Passes CX0 X E0:=fun _ _ _ _ _ _ _ h=>h.elim
structure Fun (K:PySem.W.Frag) (x qual:Str) (st:Stmt) (f:Addr) (fd:FuncData):Prop where
 ex:∃ (oc:Value) (od:Option Addr) (kV doc pm:Value) (an:Option Addr) (cdv ct:Value) (osl:Array (Option Value)),
  fd=PySem.W.fnOf x qual (iP st) (el st) (bP st) .none kV doc pm an cdv ct∧K.lookup f=some ⟨oc,od,.func fd,osl⟩∧PySem.W.codeIn K cdv qual=true
 kp:PySem.W.keepIn K (.ref f)=true
section
variable {P:Program} {w:World} {K:PySem.W.Frag} {mg:Str→Option Value} {base:Heap}
theorem Fun.ok {x qual:Str} {st:Stmt} {f:Addr} {fd:FuncData} {N ps:List Str} {k:Nat} {sp:Sp} (F:Fun K x qual st f fd) (S:iK N ps (bP st)) (len:∀ vs H Q E,sp vs H Q E→vs.length=ps.length)
  (hbody:∀ (cdv:Value) (A:Around) (outer:List Env) (s:Shared) (H:Hp) (vs:List V) (Q:VK) (E:XK),cn k (A.deeper (envOfC qual (bP st) s.heap.objs.size f cdv))→sp vs H Q E →
   ∃ t,PSs (kE CX0 P w K mg base N qual (bP st) f cdv A outer s H E).nox (el st) t∧t { nx:=fun _ H'=>Q .non H',rt:=Q } (start N vs) H):du P w K mg base CX0 (k+1) f fd ps sp:=by
 obtain ⟨oc,od,kV,doc,pm,an,cdv,ct,osl,rfl,lk,hcd⟩:=F.ex
 refine HX lk hcd S len fun A outer s H vs Q E hr hsp=>?_
 obtain ⟨t,h,q⟩:=hbody cdv A outer s H vs Q E hr hsp
 exact ⟨t,h.nox,q⟩
theorem FV {x qual:Str} {st:Stmt} {f:Addr} {oc:Value} {od an:Option Addr} {osl:Array (Option Value)} {kV doc pm cdv ct:Value} (l:K.lookup f=some ⟨oc,od,.func (PySem.W.fnOf x qual (iP st) (el st) (bP st) .none kV doc pm an cdv ct),osl⟩)
  (c:PySem.W.codeIn K cdv qual=true) (k:PySem.W.keepIn K (.ref f)=true):Fun K x qual st f (PySem.W.fnOf x qual (iP st) (el st) (bP st) .none kV doc pm an cdv ct):=⟨⟨oc,od,kV,doc,pm,an,cdv,ct,osl,rfl,l,c⟩,k⟩
end
theorem di {n:Nat} (h:n≤1000):n < sizeLine:=Nat.lt_of_le_of_lt h (by decide)
def dH (H H':Hp):Prop:=∀ b o,H b=some o→H' b=some o
def gE (env:Env):List (Str×NameKind)→List (Str×Addr)→List (Str×Addr)
 | [],acc=>acc
 | (n,k) :: r,acc=>gE env r (if k == .free then (n,(env.cells.lookup n).getD 0) :: acc else acc)
theorem g_ {scope:Scope} {env:Env} (h:∀ y∈scope.names,y.2=.free→∃ c,env.cells.lookup y.1=some c):closureFor scope env=pure (gE env scope.names []):=by
 have all:∀ (l:List (Str×NameKind)) (acc:List (Str×Addr)),(∀ y∈l,y.2=.free→∃ c,env.cells.lookup y.1=some c) →
   (forIn l acc fun (x:Str×NameKind) (r:List (Str×Addr))=>match x with
    | (name,kind)=>if (kind == NameKind.free)=true then (do let a ← cellOf env name;pure (ForInStep.yield ((name,a) :: r))) else pure (ForInStep.yield r):Sem (List (Str×Addr)))=pure (gE env l acc):=by
  intro l
  induction l with
  | nil=>intro acc _;rfl
  | cons y r ih=>
   intro acc hl
   obtain ⟨n,k⟩:=y
   have hr:∀ y∈r,y.2=.free→∃ c,env.cells.lookup y.1=some c:=fun y hy=>hl y (List.mem_cons_of_mem _ hy)
   rw [List.forIn_cons]
   by_cases hk:k=.free
   ·subst hk
    obtain ⟨c,hc⟩:=hl _ List.mem_cons_self rfl
    have e:cellOf env n=pure c:=by unfold cellOf;rw [show env.cells.lookup n=some c from hc]
    simp only [beq_self_eq_true,if_true,e,pure_bind]
    rw [ih _ hr]
    simp only [gE,beq_self_eq_true,if_true,show env.cells.lookup n=some c from hc,Option.getD_some]
   ·have hb:(k == NameKind.free)=false:=by simpa using hk
    simp only [hb,Bool.false_eq_true,if_false,pure_bind]
    rw [ih _ hr]
    simp only [gE,hb,Bool.false_eq_true,if_false]
 have q:=all scope.names [] h
 unfold closureFor
 simp only [bind_pure] at q ⊢
 exact q
theorem rN {env:Env}:∀ {l:List (Str×NameKind)} {acc:List (Str×Addr)} {x:Str} {c:Addr},(∀ y∈l,y.2=.free→∃ c,env.cells.lookup y.1=some c) →
  (∀ x c,(x,c)∈acc→env.cells.lookup x=some c)→(x,c)∈gE env l acc→env.cells.lookup x=some c
 | [],_,_,_,_,ha,h=>ha _ _ h
 | (n,k) :: r,acc,x,c,hl,ha,h=>by
  refine rN (l:=r) (fun y hy=>hl y (List.mem_cons_of_mem _ hy)) (fun x c hm=>?_) h
  by_cases hk:(k == NameKind.free)=true
  ·rw [if_pos hk] at hm
   rcases List.mem_cons.mp hm with e | e
   ·cases e
    obtain ⟨c',hc⟩:=hl _ List.mem_cons_self (by simpa using hk)
    have hc':env.cells.lookup n=some c':=hc
    rw [hc'];rfl
   ·exact ha _ _ e
  ·rw [if_neg hk] at hm;exact ha _ _ hm
theorem dv {env:Env} {l:List (Str×NameKind)} {x:Str} {c:Addr} (hl:∀ y∈l,y.2=.free→∃ c,env.cells.lookup y.1=some c) (h:(gE env l []).lookup x=some c):env.cells.lookup x=some c:=
 rN hl (fun _ _ z=>absurd z (by simp)) (PySem.mem_of_lookup h)
theorem md {env:Env}:∀ {l:List (Str×NameKind)} {acc:List (Str×Addr)} {x:Str},((x,NameKind.free)∈l∨∃ c,(x,c)∈acc)→∃ c,(x,c)∈gE env l acc
 | [],_,_,h=>h.elim (fun z=>absurd z (by simp)) fun z=>z
 | (n,k) :: r,acc,x,h=>by
  refine md (l:=r) ?_
  rcases h with h | ⟨c,h⟩
  ·rcases List.mem_cons.mp h with e | e
   ·cases e
    exact .inr ⟨_,by rw [if_pos (by simp)];exact List.mem_cons_self⟩
   ·exact .inl e
  ·by_cases hk:(k == NameKind.free)=true
   ·exact .inr ⟨c,by rw [if_pos hk];exact List.mem_cons_of_mem _ h⟩
   ·exact .inr ⟨c,by rw [if_neg hk];exact h⟩
theorem dF {β:Type}:∀ {l:List (Str×β)} {x:Str} {c:β},(x,c)∈l→∃ c',l.lookup x=some c'
 | [],_,_,h=>nomatch h
 | (n,d) :: r,x,c,h=>by
  rw [List.lookup_cons]
  cases e:x == n with
  | true=>exact ⟨d,rfl⟩
  | false=>
   rcases List.mem_cons.mp h with q | q
   ·cases q;simp at e
   ·exact dF q
def b6 (X:Cx) (scope:Scope) (N:List Str) (C:Addr) (s:Shared) (H:Hp) (fp:List Addr):Cx:=
 { X with N:=N,s₀:=s,H₀:=H,env:=compEnvC scope (gE X.env scope.names []) C X.env,outer:=X.stack,ex:=fp,fn:=fun _=>false,pn:=[],xe:=fun _ _=>False }
structure eh (esc scope:Scope) (EN N:List Str) (k:Nat):Prop where
 kind:scope.kind=.function
 nocell:∀ y∈scope.names,y.2≠.cell
 names:∀ y∈scope.names,y.2=.local→scope.names.lookup y.1=some .local
 frees:∀ y∈scope.names,y.2=.free→esc.names.lookup y.1=some .cell∨esc.names.lookup y.1=some .free
 len:N.length=k+EN.length
 nm:(((N.drop k).zip EN).all fun p=>(decide (p.1=p.2) && decide (scope.names.lookup p.1=some .free)) || decide (scope.names.lookup p.1=none))=true
theorem cc {scope:Scope} {env:Env} {x:Str} {k:NameKind}:∀ {l:List (Str×NameKind)},
  (l.map fun (n,k)=>if (k == NameKind.free && env.scope.kind == .function && env.kindOf n == some .cell) then (n,NameKind.cell) else (n,k)).lookup x=some k →
  l.lookup x=some k∨(l.lookup x=some .free∧k=.cell∧env.kindOf x=some .cell)
 | [],h=>by simp at h
 | (n,k') :: r,h=>by
  have ih:=@cc scope env x k r
  cases hx:x == n with
  | true=>
   have e:x=n:=by simpa using hx
   subst e
   by_cases hc:(k' == NameKind.free && env.scope.kind == .function && env.kindOf x == some .cell)=true
   ·simp only [List.map_cons,if_pos hc,List.lookup_cons,hx] at h
    cases h
    have hc2:(k'=.free∧env.scope.kind=.function)∧env.kindOf x=some .cell:=by simpa using hc
    exact .inr ⟨by simp [List.lookup_cons,hc2.1.1],rfl,hc2.2⟩
   ·simp only [List.map_cons,if_neg hc,List.lookup_cons,hx] at h
    exact .inl (by simpa [List.lookup_cons] using h)
  | false=>
   have h':(r.map fun (n,k)=>if (k == NameKind.free && env.scope.kind == .function && env.kindOf n == some .cell) then (n,NameKind.cell) else (n,k)).lookup x=some k:=by
    by_cases hc:(k' == NameKind.free && env.scope.kind == .function && env.kindOf n == some .cell)=true
    ·simpa only [List.map_cons,if_pos hc,List.lookup_cons,hx] using h
    ·simpa only [List.map_cons,if_neg hc,List.lookup_cons,hx] using h
   rw [List.lookup_cons,hx]
   exact ih h'
theorem kK {scope:Scope} {env:Env} {x:Str}:∀ {l:List (Str×NameKind)},l.lookup x=some .free →
  (l.map fun (n,k)=>if (k == NameKind.free && env.scope.kind == .function && env.kindOf n == some .cell) then (n,NameKind.cell) else (n,k)).lookup x=some .cell ∨
  (l.map fun (n,k)=>if (k == NameKind.free && env.scope.kind == .function && env.kindOf n == some .cell) then (n,NameKind.cell) else (n,k)).lookup x=some .free
 | [],h=>by simp at h
 | (n,k') :: r,h=>by
  have ih:=@kK scope env x r
  cases hx:x == n with
  | true=>
   by_cases hc:(k' == NameKind.free && env.scope.kind == .function && env.kindOf n == some .cell)=true
   ·exact .inl (by simp only [List.map_cons,if_pos hc,List.lookup_cons,hx])
   ·refine .inr ?_
    simp only [List.map_cons,if_neg hc,List.lookup_cons,hx]
    simpa only [List.lookup_cons,hx] using h
  | false=>
   have h':r.lookup x=some .free:=by simpa only [List.lookup_cons,hx] using h
   by_cases hc:(k' == NameKind.free && env.scope.kind == .function && env.kindOf n == some .cell)=true
   ·simpa only [List.map_cons,if_pos hc,List.lookup_cons,hx] using ih h'
   ·simpa only [List.map_cons,if_neg hc,List.lookup_cons,hx] using ih h'
section
variable {X:Cx} {pins:List (Addr×Obj)} {σ:St} {H:Hp} {s:Shared} {scope:Scope} {N:List Str} {k:Nat} {fp:List Addr}
theorem eh.cells (S:eh X.env.scope scope X.N N k) (ok:X.Ok):∀ y∈scope.names,y.2=.free→∃ c,X.env.cells.lookup y.1=some c:=fun y hy hf=>ok.has y.1 (S.frees y hy hf)
theorem Inv.BN {h4:Heap} {tk:Nat} (I:Inv X pins σ H s) (S:eh X.env.scope scope X.N N k) (hf:∀ b∈fp,fh X pins H b) (hlt:∀ b∈fp,b < s.heap.objs.size) (hn:h4.Ns s.heap.objs.size fun _=>none) (hk:∀ b o,s.heap.get? b=some o→h4.get? b=some o) :
  Inv (b6 X scope N s.heap.objs.size s H fp) [] (List.replicate k none++σ) H { s with heap:=h4,toks:=tk }:=by
 have hcells:=S.cells I.ok
 have noA:∀ p:Addr×Obj,p∈(b6 X scope N s.heap.objs.size s H fp).pn++[]→False:=fun p hp=>absurd (show p∈([]:List (Addr×Obj)) from hp) (by simp)
 refine ⟨⟨I.ok.mod,S.kind,I.ok.glob,I.ok.blt,Nat.le_refl _,fun y z c h1 h2=>?_,fun y hy=>?_,fun y c h=>?_,I.ok.hd,I.ok.frames,.inl rfl,fun b hb=>?_,I.bs,Nat.le_trans I.ok.bsz I.sz,fun b o e hb=>?_,fun b hb hz=>?_,I.stack,I.uH⟩,
  rfl,I.bare,Un.kept hk,⟨_,hn,fun i y v h1 h2 h3=>?_⟩,fun y c h=>?_,I.hok.fresh (Nat.le_refl _),fun y c h=>?_,fun p hp=>(noA p hp).elim,I.hok.kept hk,?_⟩
 ·exact I.ok.inj y z c (dv hcells h1) (dv hcells h2)
 ·have hy:(relabel scope X.env).names.lookup y=some .cell∨(relabel scope X.env).names.lookup y=some .free:=hy
  have hfree:scope.names.lookup y=some .free:=by
   rcases hy with q | q
   ·rcases cc (scope:=scope) q with q | ⟨q,_⟩
    ·exact absurd rfl (S.nocell _ (PySem.mem_of_lookup q))
    ·exact q
   ·rcases cc (scope:=scope) q with q | ⟨q,z,_⟩
    ·exact q
    ·cases z
  obtain ⟨c,hc⟩:=md (env:=X.env) (l:=scope.names) (acc:=[]) (.inl (PySem.mem_of_lookup hfree))
  exact dF hc
 ·exact absurd h (by show ¬(false=true);decide)
 ·obtain ⟨f0,f1,f2,f3,f4,f5⟩:=hf b hb
  exact ⟨Nat.ne_of_lt (hlt b hb),fun x c h=>f4 x c (dv hcells h)⟩
 ·obtain ⟨f0,f1,f2,f3,f4,f5⟩:=hf b hb
  rcases f3 with q | q
  ·exact I.ok.noex b o e q
  ·exact absurd (Nat.lt_of_lt_of_le (Heap.lt_size (I.ok.bs b o e).1) q) (Nat.lt_irrefl _)
 ·obtain ⟨f0,f1,f2,f3,f4,f5⟩:=hf b hb
  rcases List.mem_cons.mp (I.mC b hz) with z | z
  ·exact f1 z
  ·exact f2 z
 ·
  have hi:k≤i:=by
   refine Nat.le_of_not_lt fun q=>?_
   rw [List.getElem?_append_left (by simpa using q),List.getElem?_replicate] at h2
   split at h2<;>cases h2
  obtain ⟨j,rfl⟩:=Nat.exists_eq_add_of_le hi
  have h2':σ[j]?=some (some v):=by
   rw [List.getElem?_append_right (by simp)] at h2
   simpa using h2
  have hy:(relabel scope X.env).names.lookup y=some .local∨(relabel scope X.env).names.lookup y=some .cell∨(relabel scope X.env).names.lookup y=some .free:=h3
  have hjn:j < X.N.length:=by
   have:=(List.getElem?_eq_some_iff.mp h2').1
   rw [I.len] at this
   exact this
  have hyn:N[k+j]?=some y:=h1
  have hnm:=List.all_eq_true.mp S.nm (y,X.N[j]) (by
   refine List.mem_iff_getElem?.mpr ⟨j,?_⟩
   rw [List.getElem?_zip_eq_some]
   exact ⟨by rw [List.getElem?_drop];exact hyn,by simp [hjn]⟩)
  have hvis:scope.names.lookup y≠none:=by
   rcases hy with q | q | q
   ·rcases cc (scope:=scope) q with q | ⟨q,_⟩<;>rw [q]<;>simp
   ·rcases cc (scope:=scope) q with q | ⟨q,_⟩<;>rw [q]<;>simp
   ·rcases cc (scope:=scope) q with q | ⟨q,_⟩<;>rw [q]<;>simp
  have hnm2:y=X.N[j]∧scope.names.lookup y=some .free:=by
   rcases (Bool.or_eq_true _ _).mp hnm with q | q
   ·exact ⟨of_decide_eq_true ((Bool.and_eq_true _ _).mp q).1,of_decide_eq_true ((Bool.and_eq_true _ _).mp q).2⟩
   ·exact absurd (of_decide_eq_true q) hvis
  obtain ⟨hyj,hfree⟩:=hnm2
  have hk2:=S.frees _ (PySem.mem_of_lookup hfree) rfl
  have hvis2:Vis X.env.scope y:=.inr hk2
  obtain ⟨m,hm,hl⟩:=I.loc
  obtain ⟨u,ru,lk⟩:=hl j y v (by rw [hyj];simp [hjn]) h2' hvis2
  refine ⟨u,ru,?_⟩
  rcases lk with ⟨q,_⟩ | ⟨_,c,hc,hcell⟩
  ·rcases hk2 with z | z
   ·exact absurd (q.symm.trans (show X.env.kindOf y=some .cell from z)) (by simp)
   ·exact absurd (q.symm.trans (show X.env.kindOf y=some .free from z)) (by simp)
  ·refine .inr ⟨kK (scope:=scope) hfree,c,?_,hcell.keeps hk⟩
   obtain ⟨c',hc'⟩:=md (env:=X.env) (l:=scope.names) (acc:=[]) (.inl (PySem.mem_of_lookup hfree))
   obtain ⟨c2,hc2⟩:=dF hc'
   have q:=dv hcells hc2
   rw [hc] at q;cases q
   exact hc2
 ·obtain ⟨v,q⟩:=I.cell y c (dv hcells h)
  exact ⟨v,q.keeps hk⟩
 ·exact I.freeC y c (dv hcells h)
 ·show (List.replicate k none++σ).length=N.length
  rw [List.length_append,List.length_replicate,S.len,I.len]
end
section
variable {prog:Program} {w:World} {A:Around} {R:Result→Shared→Prop} {s:Shared}
theorem gq {env:Env} {R:Value→Shared→Prop}:∀ (x:Value) (s':Shared),False→notedBy (model prog w) A env R x s':=fun _ _ h=>h.elim
theorem rQ {elt target iter:Expr} {ifs:List Expr} {scope:Scope} {pos:Pos} {it acc:Value} {env:Env} (I:Nat→Shared→Prop)
  (turn:∀ n s,I n s→wpAny (model prog w) A (pyNext it) (fun r s₁=>match r with
   | none=>R (.ok .next) s₁
   | some v=>wpAny (model prog w) A (letOwnedTupleGo target it v) (fun _ s₁'=>wpAny (model prog w) A (assign target env v) (fun _ s₂=>
     wpAny (model prog w) A (forIn ifs true fun c r=>if r=true then do let ok ← isTrue c env (eval c env);pure (ForInStep.yield ok) else pure (ForInStep.yield r)) (fun ok s₃=>
      if ok=true then wpAny (model prog w) A (eval elt env) (fun x s₄=>
       wpAny (model prog w) A (call (.builtin "list.append") [acc,x]) (fun _ s₅=>∃ m,m < n∧I m s₅) (fun _ _=>False) s₄) (fun _ _=>False) s₃
      else ∃ m,m < n∧I m s₃) (fun _ _=>False) s₂) (fun _ _=>False) s₁') (fun _ _=>False) s₁) (fun _ _=>False) s)
  (n:Nat) (h:I n s) :
  codeAny (model prog w) A (.compLoop (.ListComp elt [⟨target,iter,ifs,0⟩] scope pos) 0 it acc env) R s:=by
 refine codeAny_loop rfl I (fun n s hI=>?_) n h
 show wpAny _ A ((compTurn (.ListComp elt [⟨target,iter,ifs,0⟩] scope pos) 0 it acc env).onRaise (fun x=>do noteFrame x env;theTreesLotGoes x)) _ _ s
 refine wpAny_noted ?_
 rw [compTurn_list]
 refine wpAny_bind (wpAny_standAt (wpAny_bind (wpAny_mono (turn n s hI) (fun r s₁ h₁=>?_) gq)))
 cases r with
 | none=>exact wpAny_pure h₁
 | some v=>
  refine wpAny_bind (wpAny_mono h₁ (fun _ s₁' h₁'=>?_) gq)
  refine wpAny_bind (wpAny_mono h₁' (fun _ s₂ h₂=>wpAny_bind (wpAny_mono h₂ (fun ok s₃ h₃=>?_) gq)) gq)
  cases ok with
  | false=>exact wpAny_pure ⟨rfl,h₃⟩
  | true=>
   exact wpAny_bind (wpAny_bind (wpAny_mono h₃ (fun x s₄ h₄=>wpAny_bind (wpAny_mono h₄ (fun _ s₅ h₅=>wpAny_pure (wpAny_pure ⟨rfl,h₅⟩)) gq)) gq))
end
def PTs (X:Cx) (ifs:List Expr) (t:TT):Prop:=
 ∀ (pins:List (Addr×Obj)) (s:Shared) (σ:St) (H:Hp) (Q:Bool→Hp→Prop),Inv X pins σ H s→t σ H Q →
  wpAny (model X.prog X.w) X.A (forIn ifs true fun c r=>if r=true then do let ok ← isTrue c X.env (eval c X.env);pure (ForInStep.yield ok) else pure (ForInStep.yield r)) (TP X pins σ Q) X.xe s
def Ir:TT:=fun _ H Q=>Q true H
theorem CP {X:Cx}:PTs X [] Ir:=fun _ _ _ H _ I h=>wpAny_tests_nil ⟨H,I,h⟩
theorem BV {X:Cx} {c:Expr} {t:TT} (h:PT X c t):PTs X [c] t:=fun pins s σ H Q I q=>wpAny_tests_one (h pins s σ H Q I q)
def LCW (J:It) (g:TG) (tt:TT) (te:TE) (k:Nat) (D:Addr) (σ:St) (H1:Hp) (Q:Hp→Prop):Prop:=
 ∃ W:Nat→Nat→St→Hp→Prop,(∃ m,W 0 m (List.replicate k none++σ) (upd H1 D (.lst [])))∧∀ i m σ' H',W i m σ' H' →
  (J.stop i H'∧Q H')∨(J.go i H'∧∃ N:St→Hp→Prop,(∀ σ2 H2,N σ2 H2→∃ m',m' < m∧W (i+1) m' σ2 H2) ∧
   ∀ x H2,J.yld i H' x H2→g x σ' H2 fun σ3 H3=>tt σ3 H3 fun b H4=>if b=true then te σ3 H4 fun v H5=>∃ xs,H5 D=some (.lst xs)∧xs.length < sizeLine∧N σ3 (upd H5 D (.lst (xs++[v]))) else N σ3 H4)
def tLC (wi:TI) (g:TG) (tt:TT) (te:TE) (k:Nat):TE:=fun σ H Q=>wi σ H fun J H1=>∀ D,H1 D=none→LCW J g tt te k D σ H1 fun H2=>Q (.ref D) H2
section
variable {X:Cx} {tg elt iter:Expr} {ifs:List Expr} {scope:Scope} {pos:Pos} {wi:TI} {g:TG} {tt:TT} {te:TE} {N:List Str} {k:Nat}
theorem sE {pins:List (Addr×Obj)} {σ:St} {H2:Hp} {s2:Shared} {it:Addr} {fp:List Addr} {tn:Nat→Heap→Prop} {J:It} {E:Value→Shared→Prop} {QD:Addr→Hp→Prop} {RR:Value→Addr→Result→Shared→Prop}
  (hc:X.calm=true) (S:eh X.env.scope scope X.N N k) (hg:∀ C s H fp,PG (b6 X scope N C s H fp) tg g) (ht:∀ C s H fp,PTs (b6 X scope N C s H fp) ifs tt) (he:∀ C s H fp,PE (b6 X scope N C s H fp) elt te)
  (I2:Inv X pins σ H2 s2) (T:Turn X.prog X.w X.K tg J fp it tn) (st2:tn 0 s2.heap) (f2:∀ b∈fp,fh X pins H2 b) (q:∀ D,H2 D=none→LCW J g tt te k D σ H2 (QD D))
  (hRR:∀ (D C:Addr) (s':Shared) (H':Hp) (m:Str→Option Value),s2.heap.objs.size < C→Inv X pins σ H' s'→s'.heap.Ns C m→H' C=none→C≠X.env.locals→C∉X.fs→X.s₀.heap.objs.size≤C→(∀ x c,X.env.cells.lookup x=some c→c≠C)→(∀ p∈X.pn++pins,p.1≠C)→QD D H'→RR (.ref D) C (.ok .next) s') :
  wpAny (model X.prog X.w) X.A (newList []) (fun acc s₃=>wpAny (model X.prog X.w) X.A (newFunctionEnv scope X.env.globals (gE X.env scope.names []) [] X.env.qual none .none (some X.env)) (fun cenv s₄=>
   codeAny (model X.prog X.w) X.A (.compStart (.ListComp elt [⟨tg,iter,ifs,0⟩] scope pos) 0 (.ref it) acc { cenv with scope:=relabel scope X.env }) (RR acc cenv.locals) s₄) E s₃) E s2:=by
 have hD:H2 s2.heap.objs.size=none:=I2.hok.fresh (Nat.le_refl _)
 obtain ⟨W,⟨m0,w0⟩,turn⟩:=q _ hD
 refine wpAny_newObj_type ?_
 have I3:Inv X pins σ (upd H2 s2.heap.objs.size (.lst [])) { s2 with heap:=s2.heap.push { cls:=.type "list",dict:=none,data:=.seq ([]:List Value).toArray } }:=by
  refine I2.laid (t':=s2.toks) (fun b u e=>Heap.get?_push_of_some _ e) (Nat.le_refl _) ?_
  exact ⟨Nat.zero_le _,[],0,.nil,Heap.get?_push_size _ rfl⟩
 have k3:∀ b o,s2.heap.get? b=some o→(s2.heap.push { cls:=.type "list",dict:=none,data:=.seq ([]:List Value).toArray }).get? b=some o:=fun b o e=>Heap.get?_push_of_some _ e
 generalize hs3:({ s2 with heap:=s2.heap.push { cls:=.type "list",dict:=none,data:=.seq ([]:List Value).toArray } }:Shared)=s3 at I3 ⊢
 have hsz:s3.heap.objs.size=s2.heap.objs.size+1:=by rw [← hs3];exact Heap.size_push ..
 have k3':∀ b o,s2.heap.get? b=some o→s3.heap.get? b=some o:=by rw [← hs3];exact k3
 generalize hDe:s2.heap.objs.size=D at *
 have fpD:∀ b∈fp,b < D:=fun b hb=>by
  obtain ⟨o,e,_⟩:=T.obj _ _ st2 b hb
  rw [← hDe];exact Heap.lt_size e
 have f3:∀ b∈fp,fh X pins (upd H2 D (.lst [])) b:=fun b hb=>by
  refine ⟨?_,(f2 b hb).2⟩
  rw [aI (Nat.ne_of_lt (fpD b hb))]
  exact (f2 b hb).1
 refine wpAny_newFunctionEnv S.nocell (by intro y hy;simp at hy) (fun h4 hn4 hs4=>?_) S.kind
 try dsimp only at hn4 hs4 ⊢
 have k4:∀ b o,s3.heap.get? b=some o→h4.get? b=some o:=fun b o e=>hs4.extBut b o (Nat.ne_of_lt (Heap.lt_size e)) (Heap.get?_push_of_some _ e)
 have I4:=I3.BN (h4:=h4) (tk:=s3.toks+0) S f3 (fun b hb=>by rw [hsz];exact Nat.lt_succ_of_lt (fpD b hb)) hn4 k4
 have st4:tn 0 h4:=T.keep _ _ _ st2 fun b hb o e=>k4 b o (k3' b o e)
 have fr4:∀ b∈fp,(upd H2 D (.lst [])) b=none:=fun b hb=>(f3 b hb).1
 generalize hC:s3.heap.objs.size=C at *
 have hX:∀ (H':Hp),(∀ b∈fp,H' b=none)→∀ b∈fp,fh (b6 X scope N C s3 (upd H2 D (.lst [])) fp) [] H' b:=fun H' hn b hb=>by
  obtain ⟨g0,g1,g2,g3,g4,g5⟩:=f3 b hb
  refine ⟨hn b hb,?_,?_,.inl hb,?_,fun p hp=>absurd (show p∈([]:List (Addr×Obj)) from hp) (by simp)⟩
  ·exact Nat.ne_of_lt (Nat.lt_of_lt_of_eq (Nat.lt_succ_of_lt (fpD b hb)) hsz.symm)
  ·intro z
   rcases List.mem_cons.mp (I3.mC b z) with z | z
   ·exact g1 z
   ·exact g2 z
  ·intro x c h
   exact g4 x c (dv (S.cells I3.ok) h)
 have fin:∀ (s':Shared) (σ':St) (H':Hp),Inv (b6 X scope N C s3 (upd H2 D (.lst [])) fp) [] σ' H' s'→QD D H'→RR (.ref D) C (.ok .next) s':=by
  intro s' σ' H' I' qd
  obtain ⟨m,hm,_⟩:=id I'.loc
  have IX:Inv X pins σ H' s':=by
   refine I3.GG (s':=s') (ch:=fp) I'.os I'.base I'.hok I'.bare fun b hb=>?_
   obtain ⟨g0,g1,g2,g3,g4,g5⟩:=f3 b hb
   exact ⟨g3,g1,g4,g5⟩
  have hlt:=I3.lt
  rw [hC] at hlt
  refine hRR D C s' H' m (Nat.lt_of_lt_of_eq (Nat.lt_succ_self D) hsz.symm) IX hm I'.free (Nat.ne_of_gt hlt) (I3.F4 (Nat.le_of_eq hC)) (Nat.le_trans I3.sz (Nat.le_of_eq hC)) (fun x c e z=>?_) (fun p hp z=>?_) qd
  ·obtain ⟨v,hv⟩:=I3.cell x c e
   have q:=hv.lt
   rw [hC,z] at q
   exact Nat.lt_irrefl _ q
  ·have q:=Heap.lt_size (I3.pin p hp).1
   rw [hC,z] at q
   exact Nat.lt_irrefl _ q
 have loop:∀ s₀:Shared,s₀={ s3 with heap:=h4,toks:=s3.toks+([]:List (Str×Value)).length } →
   codeAny (model X.prog X.w) X.A (.compLoop (.ListComp elt [⟨tg,iter,ifs,0⟩] scope pos) 0 (.ref it) (.ref D) (compEnvC scope (gE X.env scope.names []) C X.env)) (RR (.ref D) C) s₀:=by
  rintro s₀ rfl
  refine rQ (fun n s'=>∃ i σ' H',Inv (b6 X scope N C s3 (upd H2 D (.lst [])) fp) [] σ' H' s'∧tn i s'.heap∧(∀ b∈fp,H' b=none)∧W i n σ' H') ?_ m0 ⟨0,_,_,I4,st4,fr4,w0⟩
  rintro n s5 ⟨i,σ5,H5,I5,st5,fr5,w5⟩
  rcases turn i n σ5 H5 w5 with ⟨stop,qn⟩ | ⟨go,NN,hN,step⟩
  ·refine thn (T.done (b6 X scope N C s3 (upd H2 D (.lst [])) fp) rfl rfl rfl hc i [] s5 σ5 H5 _ I5 (hX _ fr5) st5 stop) fun r s6 ⟨hr,I6⟩=>?_
   subst hr
   exact fin s6 σ5 H5 I6 qn
  ·refine thn (T.item (b6 X scope N C s3 (upd H2 D (.lst [])) fp) rfl rfl rfl hc i [] s5 σ5 H5 _ I5 (hX _ fr5) st5 go) fun r s6 ⟨u,hr,h6⟩=>?_
   subst hr
   refine thn h6 fun _ s7 ⟨x,H7,I7,r7,y7,st7,fr7⟩=>?_
   have I7':=I7.pinned (hX _ fr7) (T.obj _ _ st7)
   have back:∀ {s9:Shared} {σ9:St} {H9:Hp},Inv (b6 X scope N C s3 (upd H2 D (.lst [])) fp) ([]++kB fp s7.heap) σ9 H9 s9→NN σ9 H9→∃ m,m < n∧∃ i σ' H',Inv (b6 X scope N C s3 (upd H2 D (.lst [])) fp) [] σ' H' s9∧tn i s9.heap∧(∀ b∈fp,H' b=none)∧W i m σ' H':=fun {s9 σ9 H9} I9 n9=>by
    obtain ⟨m',hm,w9⟩:=hN σ9 H9 n9
    refine ⟨m',hm,i+1,σ9,H9,I9.gH,T.keep _ _ _ st7 fun b hb o e=>(I9.pin (b,o) (List.mem_append_right _ (List.mem_append_right _ (f_ hb e)))).1,fun b hb=>?_,w9⟩
    obtain ⟨o,e,d⟩:=T.obj _ _ st7 b hb
    exact (I9.pin (b,o) (List.mem_append_right _ (List.mem_append_right _ (f_ hb e)))).2.1
   refine thn (hg C s3 _ fp _ s7 σ5 H7 x u _ I7' r7 (step x H7 y7)) fun _ s8 ⟨σ8,H8,I8,q8⟩=>?_
   refine thn (ht C s3 _ fp _ s8 σ8 H8 _ I8 q8) fun ok s9 ⟨H9,I9,q9⟩=>?_
   cases ok with
   | false=>
    rw [if_neg Bool.false_ne_true] at q9
    rw [if_neg Bool.false_ne_true]
    exact back I9 q9
   | true=>
    rw [if_pos rfl] at q9
    rw [if_pos rfl]
    refine thn (he C s3 _ fp _ s9 σ8 H9 _ I9 q9) fun y s10 ⟨v,H10,I10,r10,q10⟩=>?_
    obtain ⟨xs,hD10,hz,qN⟩:=q10
    refine thn (pJ (X:=b6 X scope N C s3 (upd H2 D (.lst [])) fp) _ s10 σ8 H10 (.ref D) [v] (.ref D) [y] (fun _ H'=>NN σ8 H') I10 rfl (.cons r10 .nil) ⟨D,xs,v,rfl,rfl,hD10,hz,qN⟩) fun _ s11 ⟨_,H11,I11,_,q11⟩=>?_
    exact back I11 q11
 exact codeAny_compStart_list (loop _ rfl) (T.self _ 0 _ _ _ st4 (loop _ rfl))
theorem Gu {esc:Scope} {EN:List Str} (hc:X.calm=true) (S:eh esc scope EN N k) (h1:X.env.scope=esc) (h2:X.N=EN) (hi:PI X tg iter wi) (hg:∀ C s H fp,PG (b6 X scope N C s H fp) tg g) (ht:∀ C s H fp,PTs (b6 X scope N C s H fp) ifs tt) (he:∀ C s H fp,PE (b6 X scope N C s H fp) elt te)
  (hs:∀ x,foldedSetIterable iter X.env x=pure x:=by intro _;rfl):PE X (.ListComp elt [⟨tg,iter,ifs,0⟩] scope pos) (tLC wi g tt te k):=by
 subst h1 h2
 intro pins s σ H Q I h
 rw [eval_ListComp]
 refine wpAny_comprehension_free (use:=none) rfl hs (g_ (S.cells I.ok)) S.kind S.names (thn (hi pins s σ H _ I h) fun v s1 h1=>thn h1 fun itv s2 h2=>?_)
 obtain ⟨it,fp,tn,J,H2,e,I2,T,st2,f2,q⟩:=h2
 subst e
 refine sE (RR:=fun acc C=>compPost (model X.prog X.w) X.A X.xe none (EP X pins σ Q) acc C) hc S hg ht he I2 T st2 f2 q ?_
 intro D C s' H' m hC IX hm hn hL hF hS hcell hp qd
 refine ⟨m,hm,fun h' sb=>?_⟩
 exact ⟨.ref D,H',IX.turned (t':=s'.toks) (fun b o hb e=>sb.extBut b o hb e) hn hL (.inr hS) hcell hp,rfl,qd⟩
def sLC (wi:TI) (g:TG) (tt:TT) (te:TE) (k i:Nat):TS:=fun D σ H=>tLC wi g tt te k σ H fun v H1=>D.nx (σ.set i (some v)) H1
theorem Hi {esc:Scope} {EN:List Str} {i:Nat} {y:Str} {py spos:Pos} (hN:X.N.Nodup) (hi':X.N[i]?=some y) (hy:Loc X.env.scope y) (hc:X.calm=true) (S:eh esc scope EN N k) (h1:X.env.scope=esc) (h2:X.N=EN) (hi:PI X tg iter wi) (hg:∀ C s H fp,PG (b6 X scope N C s H fp) tg g) (ht:∀ C s H fp,PTs (b6 X scope N C s H fp) ifs tt) (he:∀ C s H fp,PE (b6 X scope N C s H fp) elt te)
  (hsw:swapsWith (.ListComp elt [⟨tg,iter,ifs,0⟩] scope pos) (some (.Name y py)) spos.line X.env=pure true:=by rfl)
  (hs:∀ x,foldedSetIterable iter X.env x=pure x:=by intro _;rfl) (hf:X.fn y=true∨X.env.scope.names.lookup y=some .local:=by first | exact .inl rfl | exact .inr rfl | assumption) :
  PS X (.Assign [.Name y py] (.ListComp elt [⟨tg,iter,ifs,0⟩] scope pos) spos) (sLC wi g tt te k i):=by
 subst h1 h2
 intro pins s σ H D0 I h
 rw [exec_Assign_Name_used _ _ _ _ hsw]
 refine wpAny_bind (wpAny_standAt (wpAny_bind ?_))
 show wpAny _ X.A (do let _ ← comprehension (.ListComp elt [⟨tg,iter,ifs,0⟩] scope pos) scope X.env _ (newList []) false (eval iter X.env) (some (assign (.Name y py) X.env))) _ _ s
 refine wpAny_bind (wpAny_mono (wpAny_comprehension_free (use:=some (assign (.Name y py) X.env)) (Q:=fun _ s'=>SP X pins D0 .next s') rfl hs (g_ (S.cells I.ok)) S.kind S.names
  (thn (hi pins s σ H _ I h) fun v s1 h1=>thn h1 fun itv s2 h2=>?_)) (fun _ s' hq=>wpAny_pure (wpAny_pure hq)) fun _ _ e=>e)
 obtain ⟨it,fp,tn,J,H2,e,I2,T,st2,f2,q⟩:=h2
 subst e
 refine sE (RR:=fun acc C=>compPost (model X.prog X.w) X.A X.xe (some (assign (.Name y py) X.env)) (fun _ s'=>SP X pins D0 .next s') acc C) hc S hg ht he I2 T st2 f2 q ?_
 intro D C s' H' m hC IX hm hn hL hF hS hcell hp qd
 show wpAny _ X.A (assign (.Name y py) X.env (.ref D)) _ _ _
 obtain ⟨o,es,ep,ho,hd,hr⟩:=id hm
 have IP:Inv X (pins++[(C,o)]) σ H' s':=IX.ou fun p hp=>by
  rcases List.mem_append.mp hp with z | z
  ·exact IX.pin p (List.mem_append_right _ z)
  ·obtain rfl:p=(C,o):=List.mem_singleton.mp z
   exact ⟨ho,hn,hL,hF,fun v z=>by rw [hd] at z;cases z⟩
 refine wpAny_assign_Name (lS IP hN hi' hy (v:=.ref D) (u:=.ref D) rfl (fun s'' I''=>?_) hf)
 have hC2:=(I''.pin (C,o) (List.mem_append_right _ (List.mem_append_right _ (List.mem_singleton.mpr rfl)))).1
 refine ⟨m,⟨o,es,ep,hC2,hd,hr⟩,fun h' sb=>?_⟩
 exact ⟨_,H',(I''.gH).turned (t':=s''.toks) (fun b o hb e=>sb.extBut b o hb e) hn hL (.inr hS) hcell hp,qd⟩
end
inductive D where
 | non | bl (b:Bool) | int (i:Int) | str (x:Str) | tup (xs:List D) | lst (xs:List D)
mutual
def D.eqv:D→D→Bool
 | .non,.non=>true
 | .bl a,.bl b=>a == b
 | .bl a,.int b=>(if a then 1 else 0) == b
 | .int a,.bl b=>a == (if b then 1 else 0)
 | .int a,.int b=>a == b
 | .str a,.str b=>a == b
 | .tup xs,.tup ys=>D.bS xs ys
 | .lst xs,.lst ys=>D.bS xs ys
 | _,_=>false
def D.bS:List D→List D→Bool
 | [],[]=>true
 | x :: xs,y :: ys=>D.eqv x y && D.bS xs ys
 | _,_=>false
end
mutual
theorem D.eqv_refl:∀ d:D,D.eqv d d=true
 | .non=>rfl
 | .bl a=>by simp [D.eqv]
 | .int a=>by simp [D.eqv]
 | .str a=>by simp [D.eqv]
 | .tup xs=>by simp only [D.eqv];exact D.jQ xs
 | .lst xs=>by simp only [D.eqv];exact D.jQ xs
theorem D.jQ:∀ ds:List D,D.bS ds ds=true
 | []=>rfl
 | d :: ds=>by simp only [D.bS,D.eqv_refl d,D.jQ ds,Bool.and_self]
end
mutual
def D.depth:D→Nat
 | .tup xs=>D.b_ xs+1
 | .lst xs=>D.b_ xs+1
 | _=>0
def D.b_:List D→Nat
 | []=>0
 | x :: xs=>max (D.depth x) (D.b_ xs)
end
mutual
inductive Rep (H:Hp):V→D→Prop
 | non:Rep H .non .non
 | bl (b:Bool):Rep H (.bl b) (.bl b)
 | int (i:Int):Rep H (.int i) (.int i)
 | str (x:Str):Rep H (.str x) (.str x)
 | tup {a:Addr} {vs:List V} {ds:List D}:H a=some (.tup vs)→av H vs ds→Rep H (.ref a) (.tup ds)
 | lst {a:Addr} {vs:List V} {ds:List D}:H a=some (.lst vs)→av H vs ds→Rep H (.ref a) (.lst ds)
inductive av (H:Hp):List V→List D→Prop
 | nil:av H [] []
 | cons {v:V} {d:D} {vs:List V} {ds:List D}:Rep H v d→av H vs ds→av H (v :: vs) (d :: ds)
end
theorem av.length {H:Hp}:∀ {vs:List V} {ds:List D},av H vs ds→vs.length=ds.length
 | _,_,.nil=>rfl
 | _,_,.cons _ t=>by simp [av.length t]
theorem av.get {H:Hp}:∀ {vs:List V} {ds:List D} {i:Nat} {v:V},av H vs ds→vs[i]?=some v→∃ d,ds[i]?=some d∧Rep H v d
 | _,_,_,_,.nil,e=>by simp at e
 | _,_,0,_,.cons r _,e=>by simp at e;subst e;exact ⟨_,rfl,r⟩
 | _,_,i+1,v,.cons _ t,e=>by
  obtain ⟨d,h1,h2⟩:=av.get (i:=i) (v:=v) t (by simpa using e)
  exact ⟨d,by simpa using h1,h2⟩
theorem av.get' {H:Hp}:∀ {vs:List V} {ds:List D} {i:Nat} {d:D},av H vs ds→ds[i]?=some d→∃ v,vs[i]?=some v∧Rep H v d
 | _,_,_,_,.nil,e=>by simp at e
 | _,_,0,_,.cons r _,e=>by simp at e;subst e;exact ⟨_,rfl,r⟩
 | _,_,i+1,v,.cons _ t,e=>by
  obtain ⟨d,h1,h2⟩:=av.get' (i:=i) (d:=v) t (by simpa using e)
  exact ⟨d,by simpa using h1,h2⟩
theorem av.append {H:Hp}:∀ {vs us:List V} {ds es:List D},av H vs ds→av H us es→av H (vs++us) (ds++es)
 | _,_,_,_,.nil,s=>s
 | _,_,_,_,.cons r t,s=>.cons r (av.append t s)
theorem av.take {H:Hp}:∀ {vs:List V} {ds:List D} (n:Nat),av H vs ds→av H (vs.take n) (ds.take n)
 | _,_,0,_=>.nil
 | _,_,_+1,.nil=>.nil
 | _,_,n+1,.cons r t=>.cons r (av.take n t)
theorem av.drop {H:Hp}:∀ {vs:List V} {ds:List D} (n:Nat),av H vs ds→av H (vs.drop n) (ds.drop n)
 | _,_,0,r=>r
 | _,_,_+1,.nil=>.nil
 | _,_,n+1,.cons _ t=>av.drop n t
mutual
theorem Rep.mono {H H':Hp} (e:dH H H'):∀ {v:V} {d:D},Rep H v d→Rep H' v d
 | _,_,.non=>.non
 | _,_,.bl b=>.bl b
 | _,_,.int i=>.int i
 | _,_,.str x=>.str x
 | _,_,.tup h r=>.tup (e _ _ h) (av.mono e r)
 | _,_,.lst h r=>.lst (e _ _ h) (av.mono e r)
theorem av.mono {H H':Hp} (e:dH H H'):∀ {vs:List V} {ds:List D},av H vs ds→av H' vs ds
 | _,_,.nil=>.nil
 | _,_,.cons r t=>.cons (Rep.mono e r) (av.mono e t)
end
mutual
theorem Rep.inj {H:Hp}:∀ {v:V} {d e:D},Rep H v d→Rep H v e→d=e
 | _,_,_,.non,.non=>rfl
 | _,_,_,.bl _,.bl _=>rfl
 | _,_,_,.int _,.int _=>rfl
 | _,_,_,.str _,.str _=>rfl
 | _,_,_,.tup h r,.tup h' r'=>by rw [h] at h';cases h';rw [av.inj r r']
 | _,_,_,.tup h r,.lst h' r'=>by rw [h] at h';cases h'
 | _,_,_,.lst h r,.tup h' r'=>by rw [h] at h';cases h'
 | _,_,_,.lst h r,.lst h' r'=>by rw [h] at h';cases h';rw [av.inj r r']
theorem av.inj {H:Hp}:∀ {vs:List V} {ds es:List D},av H vs ds→av H vs es→ds=es
 | _,_,_,.nil,.nil=>rfl
 | _,_,_,.cons r t,.cons r' t'=>by rw [Rep.inj r r',av.inj t t']
end
theorem av.ints {H:Hp}:∀ (ns:List Int),av H (ns.map V.int) (ns.map D.int)
 | []=>.nil
 | n :: ns=>.cons (.int n) (av.ints ns)
theorem av.n6 {H:Hp}:∀ {vs:List V} {ns:List Int},av H vs (ns.map D.int)→vs=ns.map V.int
 | [],[],.nil=>rfl
 | v :: vs,n :: ns,.cons r t=>by
  cases r
  rw [List.map_cons,av.n6 t]
theorem D.bX:∀ (ds es:List D),D.bS ds es=((List.range (min ds.length es.length)).all (fun j=>D.eqv (ds.getD j .non) (es.getD j .non)) && ds.length == es.length)
 | [],[]=>rfl
 | [],e :: es=>by simp [D.bS]
 | d :: ds,[]=>by simp [D.bS]
 | d :: ds,e :: es=>by
  have ih:=D.bX ds es
  have q:min (d :: ds).length (e :: es).length=min ds.length es.length+1:=by simp only [List.length_cons];omega
  rw [q,List.range_succ_eq_map,List.all_cons,List.all_map]
  have z:((d :: ds).length == (e :: es).length)=(ds.length == es.length):=by
   rw [Bool.eq_iff_iff];simp
  rw [z,D.bS,ih,Bool.and_assoc]
  rfl
theorem D.gh:∀ {ds:List D} {i:Nat} {d:D},ds[i]?=some d→D.depth d≤D.b_ ds
 | [],_,_,e=>by simp at e
 | x :: xs,0,d,e=>by
  simp at e;subst e
  exact Nat.le_max_left _ _
 | x :: xs,i+1,d,e=>Nat.le_trans (D.gh (ds:=xs) (i:=i) (by simpa using e)) (Nat.le_max_right _ _)
section
variable {X:Cx}
theorem yE {pins:List (Addr×Obj)} {σ:St} {H:Hp} {s:Shared} (I:Inv X pins σ H s):∀ (n:Nat) (A:Around) (x y:V) (u v:Value) (d e:D),A.units+n < cLine→D.depth d≤n→RelV x u→RelV y v→Rep H x d→Rep H y e →
  SeqAt.EqAt A s u v (D.eqv d e):=by
 intro n
 induction n with
 | zero=>
  intro A x y u v d e hu hd ru rv rx ry
  have hu':A.units < cLine:=by omega
  cases rx with
  | tup h r=>simp [D.depth] at hd
  | lst h r=>simp [D.depth] at hd
  | non=>
   cases ry with
   | tup h r=>
    cases ru;cases rv
    obtain ⟨its,rv,p,hz⟩:=I.tuple (SqT.of h)
    exact SeqAt.EqAt.none_tuple p hu'
   | lst h r=>
    cases ru;cases rv
    obtain ⟨its,rv,p,hz⟩:=I.list (SqL.of h)
    exact SeqAt.EqAt.none_list p.isList hu'
   | _=>simp only [D.eqv];exact jZ ru rv rfl rfl
  | bl a=>
   cases ry with
   | tup h r=>
    cases ru;cases rv
    obtain ⟨its,rv,p,hz⟩:=I.tuple (SqT.of h)
    exact SeqAt.EqAt.bool_tuple a p hu'
   | lst h r=>
    cases ru;cases rv
    obtain ⟨its,rv,p,hz⟩:=I.list (SqL.of h)
    exact SeqAt.EqAt.bool_list a p.isList hu'
   | _=>simp only [D.eqv];exact jZ ru rv rfl rfl
  | int a=>
   cases ry with
   | tup h r=>
    obtain ⟨t,rfl⟩:=ru;cases rv
    obtain ⟨its,rv,p,hz⟩:=I.tuple (SqT.of h)
    exact SeqAt.EqAt.int_tuple a t p hu'
   | lst h r=>
    obtain ⟨t,rfl⟩:=ru;cases rv
    obtain ⟨its,rv,p,hz⟩:=I.list (SqL.of h)
    exact SeqAt.EqAt.int_list a t p.isList hu'
   | _=>simp only [D.eqv];exact jZ ru rv rfl rfl
  | str a=>
   cases ry with
   | tup h r=>
    obtain ⟨t,rfl⟩:=ru;cases rv
    obtain ⟨its,rv,p,hz⟩:=I.tuple (SqT.of h)
    exact SeqAt.EqAt.str_tuple a t p hu'
   | lst h r=>
    obtain ⟨t,rfl⟩:=ru;cases rv
    obtain ⟨its,rv,p,hz⟩:=I.list (SqL.of h)
    exact SeqAt.EqAt.str_list a t p.isList hu'
   | _=>simp only [D.eqv];exact jZ ru rv rfl rfl
 | succ n ih=>
  intro A x y u v d e hu hd ru rv rx ry
  have hu':A.units < cLine:=by omega
  have items:∀ {vs us:List V} {ds es:List D} {its its2:List Value},D.b_ ds≤n→Vals vs its→Vals us its2→av H vs ds→av H us es →
    ∀ j (h1:j < its.toArray.size) (h2:j < its2.toArray.size),SeqAt.EqAt A.in1 s its.toArray[j] its2.toArray[j] (D.eqv (ds.getD j .non) (es.getD j .non)):=by
   intro vs us ds es its its2 hdd r1 r2 q1 q2 j h1 h2
   have h1':j < its.length:=by simpa using h1
   have h2':j < its2.length:=by simpa using h2
   have l1:=r1.length
   have l2:=r2.length
   have m1:=q1.length
   have m2:=q2.length
   have e1:vs[j]?=some (vs[j]'(by omega)):=List.getElem?_eq_getElem _
   have e2:us[j]?=some (us[j]'(by omega)):=List.getElem?_eq_getElem _
   obtain ⟨a1,b1,c1⟩:=r1.get e1
   obtain ⟨a2,b2,c2⟩:=r2.get e2
   obtain ⟨f1,g1,k1⟩:=q1.get e1
   obtain ⟨f2,g2,k2⟩:=q2.get e2
   have z1:its.toArray[j]=a1:=by
    have:its[j]?=some its[j]:=List.getElem?_eq_getElem h1'
    rw [b1] at this
    simpa using (Option.some.inj this).symm
   have z2:its2.toArray[j]=a2:=by
    have:its2[j]?=some its2[j]:=List.getElem?_eq_getElem h2'
    rw [b2] at this
    simpa using (Option.some.inj this).symm
   rw [z1,z2,List.getD_eq_getElem?_getD,List.getD_eq_getElem?_getD,g1,g2]
   refine ih A.in1 _ _ _ _ _ _ ?_ (Nat.le_trans (D.gh g1) hdd) c1 c2 k1 k2
   show A.units+1+n < cLine
   omega
  cases rx with
  | @tup a vs ds h r=>
   obtain ⟨its,rv1,p,hz⟩:=I.tuple (SqT.of h)
   cases ry with
   | @tup b us es h' r'=>
    cases ru;cases rv
    obtain ⟨its2,rv2,p2,hz2⟩:=I.tuple (SqT.of h')
    by_cases hab:a=b
    ·subst hab
     rw [h] at h';cases h'
     rw [av.inj r' r,D.eqv_refl]
     exact SeqAt.EqAt.same _
    ·have hdd:D.b_ ds≤n:=by simp only [D.depth] at hd;omega
     have q:=SeqAt.EqAt.of_refs hab (SeqAt.RcAt.tuples (e:=fun j=>D.eqv (ds.getD j .non) (es.getD j .non)) p p2 hu' (items hdd rv1 rv2 r r'))
     rw [List.size_toArray,List.size_toArray,← rv1.length,← rv2.length,r.length,r'.length,← D.bX] at q
     simp only [D.eqv]
     exact q
   | @lst b us es h' r'=>
    cases ru;cases rv
    obtain ⟨its2,rv2,p2,hz2⟩:=I.list (SqL.of h')
    simp only [D.eqv]
    exact SeqAt.EqAt.tuple_list p p2.isList hu'
   | non=>cases ru;cases rv;simp only [D.eqv];exact SeqAt.EqAt.tuple_none p hu'
   | bl c=>cases ru;cases rv;simp only [D.eqv];exact SeqAt.EqAt.tuple_bool c p hu'
   | int c=>cases ru;obtain ⟨t,rfl⟩:=rv;simp only [D.eqv];exact SeqAt.EqAt.tuple_int c t p hu'
   | str c=>cases ru;obtain ⟨t,rfl⟩:=rv;simp only [D.eqv];exact SeqAt.EqAt.tuple_str c t p hu'
  | @lst a vs ds h r=>
   obtain ⟨its,rv1,p,hz⟩:=I.list (SqL.of h)
   cases ry with
   | @lst b us es h' r'=>
    cases ru;cases rv
    obtain ⟨its2,rv2,p2,hz2⟩:=I.list (SqL.of h')
    by_cases hab:a=b
    ·subst hab
     rw [h] at h';cases h'
     rw [av.inj r' r,D.eqv_refl]
     exact SeqAt.EqAt.same _
    ·have hdd:D.b_ ds≤n:=by simp only [D.depth] at hd;omega
     have l1:=rv1.length
     have l2:=rv2.length
     have m1:=r.length
     have m2:=r'.length
     by_cases hl:ds.length=es.length
     ·have q:=SeqAt.EqAt.of_refs hab (SeqAt.RcAt.lists (e:=fun j=>D.eqv (ds.getD j .non) (es.getD j .non)) p.isList p2.isList (by simp;omega) hu' (items hdd rv1 rv2 r r'))
      have z:D.bS ds es=(List.range its.toArray.size).all fun j=>D.eqv (ds.getD j .non) (es.getD j .non):=by
       rw [D.bX,← hl,Nat.min_self,List.size_toArray,← l1,m1]
       simp
      simp only [D.eqv]
      rw [z]
      exact q
     ·have q:=SeqAt.EqAt.of_refs hab (SeqAt.RcAt.lists_lengths p.isList p2.isList (by simp;omega) hu')
      have z:D.bS ds es=false:=by
       rw [D.bX]
       simp [hl]
      simp only [D.eqv]
      rw [z]
      exact q
   | @tup b us es h' r'=>
    cases ru;cases rv
    obtain ⟨its2,rv2,p2,hz2⟩:=I.tuple (SqT.of h')
    simp only [D.eqv]
    exact SeqAt.EqAt.list_tuple p.isList p2 hu'
   | non=>cases ru;cases rv;simp only [D.eqv];exact SeqAt.EqAt.list_none p.isList hu'
   | bl c=>cases ru;cases rv;simp only [D.eqv];exact SeqAt.EqAt.list_bool c p.isList hu'
   | int c=>cases ru;obtain ⟨t,rfl⟩:=rv;simp only [D.eqv];exact SeqAt.EqAt.list_int c t p.isList hu'
   | str c=>cases ru;obtain ⟨t,rfl⟩:=rv;simp only [D.eqv];exact SeqAt.EqAt.list_str c t p.isList hu'
  | non=>exact SeqAt.EqAt.of_in1 (ih A.in1 _ y u v _ e (by show A.units+1+n < cLine;omega) (by simp [D.depth]) ru rv .non ry)
  | bl c=>exact SeqAt.EqAt.of_in1 (ih A.in1 _ y u v _ e (by show A.units+1+n < cLine;omega) (by simp [D.depth]) ru rv (.bl c) ry)
  | int c=>exact SeqAt.EqAt.of_in1 (ih A.in1 _ y u v _ e (by show A.units+1+n < cLine;omega) (by simp [D.depth]) ru rv (.int c) ry)
  | str c=>exact SeqAt.EqAt.of_in1 (ih A.in1 _ y u v _ e (by show A.units+1+n < cLine;omega) (by simp [D.depth]) ru rv (.str c) ry)
end
section
variable {X:Cx}
def isT (T:String):D→Bool
 | .non=>false
 | .bl _=>T == "bool" || T == "int"
 | .int _=>T == "int"
 | .str _=>T == "str"
 | .tup _=>T == "tuple"
 | .lst _=>T == "list"
def okT (T:String):Bool:=T == "bool" || T == "int" || T == "str" || T == "tuple" || T == "list"
theorem HB {K:PySem.W.Frag} {H:Hp} {x:V} {d:D} {T:String} (r:Rep H x d) (h:okT T=true):∃ t,fb K H x t∧PySem.W.kitOne K t (.type T)=some (isT T d):=by
  have h5:T="bool"∨T="int"∨T="str"∨T="tuple"∨T="list":=by simpa [okT,or_assoc] using h
  cases r with
  | non=>exact ⟨_,.non,by rcases h5 with e | e | e | e | e<;>subst e<;>first | rfl | kernel_rfl⟩
  | bl b=>exact ⟨_,.bl b,by rcases h5 with e | e | e | e | e<;>subst e<;>first | rfl | kernel_rfl⟩
  | int i=>exact ⟨_,.int i,by rcases h5 with e | e | e | e | e<;>subst e<;>first | rfl | kernel_rfl⟩
  | str x=>exact ⟨_,.str x,by rcases h5 with e | e | e | e | e<;>subst e<;>first | rfl | kernel_rfl⟩
  | tup h r=>exact ⟨_,.tup h,by rcases h5 with e | e | e | e | e<;>subst e<;>first | rfl | kernel_rfl⟩
  | lst h r=>exact ⟨_,.lst h,by rcases h5 with e | e | e | e | e<;>subst e<;>first | rfl | kernel_rfl⟩
def IH (T:String) (te:TE):TE:=fun σ H Q=>te σ H fun x H1=>∃ d,Rep H1 x d∧Q (.bl (isT T d)) H1
theorem oS {e:Expr} {te:TE} {nm:Str} {T:String} {p p2 pos:Pos} (hg:Gl X "isinstance") (hm:X.mg "isinstance"=none) (hg2:Gl X nm) (hm2:X.mg nm=none) (hv:bootBuiltins nm=some (.type T)) (ho:okT T=true) (ha:PE X e te)
  (hn:nm≠"__name__":=by decide) (hd:(nm == ("__debug__":Str))=false:=by decide) (hb:bootBuiltins "isinstance"=some (.builtin "isinstance"):=by decide +kernel)
  (he:starEach [e,.Name nm p2] X.env=(false,eval e X.env) :: starEach [.Name nm p2] X.env:=by rfl) (hs2:starEach [.Name nm p2] X.env=(false,eval (.Name nm p2) X.env) :: starEach [] X.env:=by rfl) (hpl:(backTo pos (starEach [.Name nm p2] X.env)).any (·.1)=false:=by rfl) :
  PE X (.Call (.Name "isinstance" p) [e,.Name nm p2] [] pos) (IH T te):=by
 intro pins s σ H Q I h
 have hT:PE X (.Name nm p2) (tC (.ty T)):=B0 hg2 hm2 hv rfl hn hd
 refine wpAny_Call_Name_kw (b7 I hg hm hb ?_ (by decide) (by decide))
 refine PyProof.Rows.callWith_builtin1 (thn ((dz ha (dz hT fB hs2) he) pos pins s σ H (fun vs H1=>∃ x d,vs=[x,.ty T]∧Rep H1 x d∧Q (.bl (isT T d)) H1) I ?_) fun us s1 ⟨vs,H1,I1,r1,q1⟩=>?_) he hpl
 ·refine (show te σ H fun x H1=>_ from ?_)
  refine cast (congrArg (te σ H) ?_) h
  funext x H1
  refine propext ⟨fun ⟨d,r,q⟩=>⟨x,d,rfl,r,q⟩,fun ⟨x',d,e,r,q⟩=>?_⟩
  cases e
  exact ⟨d,r,q⟩
 ·obtain ⟨x,d,e,r,q⟩:=q1
  subst e
  obtain ⟨u,w',rfl,ru,rw'⟩:=r1.two
  obtain ⟨t,ty,k⟩:=HB (K:=X.K) r ho
  cases (show w'=Value.type T from rw')
  exact yI I1 ru ty k fun tk=>⟨.bl _,H1,I1.tok tk,rfl,q⟩
end
section
variable {X:Cx} {pins:List (Addr×Obj)} {σ:St} {H:Hp} {s:Shared} {h':Heap} {fp:List Addr}
theorem Inv.jf {a:Addr} {o:HO} {t':Nat} (I:Inv X pins σ H s) (ha:s.heap.objs.size≤a) (hk:∀ b u,b∉fp→s.heap.get? b=some u→h'.get? b=some u) (hf:∀ b∈fp,fh X pins H b) (new:bz X.prog X.w (upd H a o) h' a o) :
  Inv X pins σ (upd H a o) { s with heap:=h',toks:=t' }:=by
 have hn:H a=none:=I.hok.fresh ha
 have nfp:∀ b u,H b=some u→b∉fp:=fun b u e z=>by
  have q:=(hf b z).1
  rw [e] at q
  cases q
 have hne:∀ b (u:Obj),s.heap.get? b=some u→b≠a:=fun b u e=>Nat.ne_of_lt (Nat.lt_of_lt_of_le (Heap.lt_size e) ha)
 refine I.step (g':=s.gens) (d':=s.drawn) (ch:=fp) (fun b hb=>?_) (fun b u _ _ hc e _=>hk b u hc e) (fun b u _ _ hc e _=>⟨u.slots,hk b u hc e⟩) (fun b u _ e n=>?_)
  (fun b u hc e=>⟨u,hk b u hc e⟩) (fun b xs e=>?_) (fun b u xs e=>?_) (fun b ps e=>⟨#[],?_⟩) (fun m hm=>?_) (fun b u e=>?_) I.bare
 ·obtain ⟨f0,f1,f2,f3,f4,f5⟩:=hf b hb
  exact ⟨f3,f1,f4,f5⟩
 ·rw [aI (hne b u e)];exact n
 ·rw [aI (ba e hn)];exact e
 ·rw [aI (ba e hn)];exact e
 ·rw [aI (ba e hn),e];simp
 ·obtain ⟨u,es,ep,ho,r⟩:=hm
  exact ⟨u,es,ep,hk _ u (fun z=>(hf _ z).2.1 rfl) ho,r⟩
 ·by_cases hb:b=a
  ·subst hb;rw [bO] at e;cases e;exact new
  ·rw [aI hb] at e
   refine (I.hok b u e).l6 (fun c v hc q=>hk c v ?_ q) (fun c q=>by rw [aI (ba q hn)];exact q) fun c xs q=>by rw [aI (ba q hn)];exact q
   rcases hc with z | z
   ·rw [z];exact nfp b u e
   ·exact nfp c _ z
theorem Inv.tT {t':Nat} (I:Inv X pins σ H s) (hk:∀ b u,b∉fp→s.heap.get? b=some u→h'.get? b=some u) (hf:∀ b∈fp,fh X pins H b):Inv X pins σ H { s with heap:=h',toks:=t' }:=by
 have nfp:∀ b u,H b=some u→b∉fp:=fun b u e z=>by
  have q:=(hf b z).1
  rw [e] at q
  cases q
 refine I.step (g':=s.gens) (d':=s.drawn) (ch:=fp) (fun b hb=>?_) (fun b u _ _ hc e _=>hk b u hc e) (fun b u _ _ hc e _=>⟨u.slots,hk b u hc e⟩) (fun b u _ e n=>n)
  (fun b u hc e=>⟨u,hk b u hc e⟩) (fun b xs e=>e) (fun b u xs e=>e) (fun b ps e=>⟨#[],?_⟩) (fun m hm=>?_) (fun b u e=>?_) I.bare
 ·obtain ⟨f0,f1,f2,f3,f4,f5⟩:=hf b hb
  exact ⟨f3,f1,f4,f5⟩
 ·rw [e];simp
 ·obtain ⟨u,es,ep,ho,r⟩:=hm
  exact ⟨u,es,ep,hk _ u (fun z=>(hf _ z).2.1 rfl) ho,r⟩
 ·refine (I.hok b u e).l6 (fun c v hc q=>hk c v ?_ q) (fun _ q=>q) fun _ _ q=>q
  rcases hc with z | z
  ·rw [z];exact nfp b u e
  ·exact nfp c _ z
end
def Ite (K:PySem.W.Frag) (l:Addr):It:=
 ⟨fun i H=>∃ xs x,SqL K H l xs∧xs[i]?=some x,fun i H x H'=>∃ p y,H p=none∧x=.ref p∧H'=upd H p (.tup [.int i,y])∧∀ xs,SqL K H l xs→xs[i]?=some y,fun i H=>∃ xs,SqL K H l xs∧xs.length≤i⟩
theorem xr {P:Program} {w:World} {K:PySem.W.Frag} {es:List Expr} {kk:Nat} {tp:Pos} (l e it:Addr) (hne:e≠it) :
  Turn P w K (.Tuple es kk tp) (Ite K l) [e,it] e (fun i h=>(∃ old,IsEnum h e it ((i:Nat):Int) old)∧h.IsListIter it l i) where
 mem:=by simp
 obj:=fun i h st b hb=>by
  obtain ⟨⟨old,he⟩,hit⟩:=st
  rcases List.mem_cons.mp hb with z | z
  ·subst z;exact ⟨_,he,fun v z=>by
    have z':Data.fields _=Data.cell v:=z
    cases z'⟩
  ·have z:b=it:=List.mem_singleton.mp z
   subst z
   obtain ⟨o,q,_,d⟩:=hit
   exact ⟨o,q,fun v z=>by rw [d] at z;cases z⟩
 keep:=fun i h h' st k=>by
  obtain ⟨⟨old,he⟩,hit⟩:=st
  exact ⟨⟨old,k e (by simp) _ he⟩,hit.at fun o q=>k it (by simp) o q⟩
 item:=by
  intro X hP hw hK hc i pins s σ H E I hf st hg
  subst hP hw hK
  obtain ⟨⟨old,he⟩,hit⟩:=st
  obtain ⟨xs,x,hq,hx⟩:=hg
  obtain ⟨its,rv,p,hz⟩:=I.list hq
  obtain ⟨u,hu,ru⟩:=rv.get hx
  refine wpAny_pyNext_enum_item he hit p.isList (x:=u) (by simpa using hu) hne fun h1 ho1 hit1 ht1 hz1 hk1=>?_
  refine ⟨_,rfl,wpAny_letOwnedTupleGo_enum (s:={ s with heap:=h1,toks:=s.toks+1 }) ho1 fun h2 he2 hs2=>?_⟩
  have helt:e < s.heap.objs.size:=Heap.lt_size he
  have ht2:h2.get? s.heap.objs.size=some { cls:=.type "tuple",data:=.seq #[.int i s.toks,u] }:=hs2.extBut _ _ (Nat.ne_of_gt helt) ht1
  have k2:∀ b o,b∉[e,it]→s.heap.get? b=some o→h2.get? b=some o:=fun b o hb q=>by
   have hb1:b≠e:=fun z=>hb (by simp [z])
   have hb2:b≠it:=fun z=>hb (by simp [z])
   exact hs2.extBut b o hb1 (hk1 b o hb1 hb2 q)
  have I2:Inv X pins σ (upd H s.heap.objs.size (.tup [.int i,x])) { s with heap:=h2,toks:=s.toks+1 }:=by
   refine I.jf (fp:=[e,it]) (Nat.le_refl _) k2 hf ?_
   exact ⟨by show 2≤sizeLine;decide,[.int i s.toks,u],.cons ⟨_,rfl⟩ (.cons ru .nil),⟨_,ht2,rfl,_,rfl⟩⟩
  refine ⟨.ref s.heap.objs.size,_,I2,rfl,⟨s.heap.objs.size,x,I.hok.fresh (Nat.le_refl _),rfl,rfl,fun ys hy=>by rw [I.qC hy hq];exact hx⟩,⟨⟨_,by simpa using he2⟩,?_⟩,fun b hb=>?_⟩
  ·exact hit1.extBut hs2.extBut (Ne.symm hne)
  ·have hlt:b < s.heap.objs.size:=by
    rcases List.mem_cons.mp hb with z | z
    ·rw [z];exact helt
    ·have z:b=it:=List.mem_singleton.mp z
     subst z
     obtain ⟨o,q,_⟩:=hit
     exact Heap.lt_size q
   rw [aI (Nat.ne_of_lt hlt)]
   exact (hf b hb).1
 done:=by
  intro X hP hw hK hc i pins s σ H E I hf st hg
  subst hP hw hK
  obtain ⟨⟨old,he⟩,hit⟩:=st
  obtain ⟨xs,hq,hx⟩:=hg
  obtain ⟨its,rv,p,hz⟩:=I.list hq
  have hl:=rv.length
  obtain ⟨f0,f1,f2,f3,f4,f5⟩:=hf it (by simp)
  exact wpAny_pyNext_enum_end (I.ok.hd hc) he hit p.isList (by simp;omega) fun h' eb=>⟨rfl,I.turned (t':=s.toks) (fun b o hb e=>eb b o hb e) f0 f1 f3 f4 f5⟩
 self:=fun _ _ _ _ _ st h=>by
  obtain ⟨⟨old,he⟩,_⟩:=st
  exact wpAny_pyIter_enum he h
section
variable {prog:Program} {w:World} {A:Around} {E:Value→Shared→Prop} {s:Shared}
theorem vk {it t:Addr} {i:Nat} {items:Array Value} {x:Value} {Q:Value→Shared→Prop} (hit:s.heap.IsTupleIter it t i) (ht:s.heap.IsTuple t items) (hx:items[i]?=some x)
  (hQ:∀ h',h'.IsTupleIter it t (i+1)→Heap.SameBut it s.heap h'→Q x { s with heap:=h' }):wpAny (model prog w) A (Builtin.SmallTypes.nextOf (.ref it)) Q E s:=by
 obtain ⟨o,ho,hc,hd⟩:=id hit
 obtain ⟨ot,hot,_,nt,hdt⟩:=ht
 unfold Builtin.SmallTypes.nextOf
 refine wpAny_bind (wpAny_callSpecial?_slot (name:=Str.ofString "__next__") hit.typeIs F.slot_tuple_iterator_next (wpAny_call_entry F.slot_tuple_iterator_next hit.typeIs F.entry_tuple_iterator_next ?_ (F.args_tuple_iterator_next_1 _)))
 refine (show wpAny _ _ (field (.ref it) 0>>=_) _ _ s from wpAny_bind (wpAny_field ho hd (x:=.ref t) rfl ?_))
 show wpAny _ _ (if (Value.ref t == Value.none)=true then _ else _) _ _ s
 rw [if_neg (by intro z;exact Bool.false_ne_true z)]
 refine (show wpAny _ _ (field (.ref it) 1>>=_) _ _ s from wpAny_bind (wpAny_field ho hd (x:=.int i 0) rfl ?_))
 refine (show wpAny _ _ (seqItems? (.ref t)>>=_) _ _ s from wpAny_bind (wpAny_seqItems hot hdt ?_))
 simp only [Int.toNat_natCast,hx]
 refine wpAny_bind (wpAny_setField ho hd (by simp) (wpAny_pure ⟨x,rfl,wpAny_pure (hQ _ ⟨_,Heap.get?_update_self _ ho (Obj.isFreed_of_fields (Obj.data_mapFields hd _)),(Obj.cls_mapFields ..).trans hc,?_⟩ (Heap.SameBut.update ..))⟩))
 rw [Obj.data_mapFields hd];simp [rawInt]
theorem wD {it t:Addr} {i:Nat} {items:Array Value} {Q:Value→Shared→Prop} (hh:A.handled=none) (hit:s.heap.IsTupleIter it t i) (ht:s.heap.IsTuple t items) (hx:items[i]?=none)
  (hE:∀ h' e,Heap.ExtBut it s.heap h'→(∃ o,h'.get? e=some o∧o.cls=.type "StopIteration")→E (.ref e) { s with heap:=h' }):wpAny (model prog w) A (Builtin.SmallTypes.nextOf (.ref it)) Q E s:=by
 obtain ⟨o,ho,hc,hd⟩:=id hit
 obtain ⟨ot,hot,_,nt,hdt⟩:=ht
 unfold Builtin.SmallTypes.nextOf
 refine wpAny_bind (wpAny_callSpecial?_slot (name:=Str.ofString "__next__") hit.typeIs F.slot_tuple_iterator_next (wpAny_call_entry F.slot_tuple_iterator_next hit.typeIs F.entry_tuple_iterator_next ?_ (F.args_tuple_iterator_next_1 _)))
 refine (show wpAny _ _ (field (.ref it) 0>>=_) _ _ s from wpAny_bind (wpAny_field ho hd (x:=.ref t) rfl ?_))
 show wpAny _ _ (if (Value.ref t == Value.none)=true then _ else _) _ _ s
 rw [if_neg (by intro z;exact Bool.false_ne_true z)]
 refine (show wpAny _ _ (field (.ref it) 1>>=_) _ _ s from wpAny_bind (wpAny_field ho hd (x:=.int i 0) rfl ?_))
 refine (show wpAny _ _ (seqItems? (.ref t)>>=_) _ _ s from wpAny_bind (wpAny_seqItems hot hdt ?_))
 simp only [Int.toNat_natCast,hx]
 refine wpAny_bind (wpAny_rule (wpAny_bind (wpAny_setField ho hd (by simp) ?_)))
 refine (show wpAny _ _ (newExc (.type "StopIteration") []>>=_) _ _ _ from wpAny_bind ?_)
 simp only [newExc,newTuple]
 refine wpAny_bind (wpAny_newObj_type (wpAny_bind (m:=firstArgMember _ _) (wpAny_of_eq (a:=Value.none) (by first | rfl | (simp only [firstArgMember];rfl)) (wpAny_newObj_type ?_ (by size_fits)))) (by size_fits))
 simp only [raiseNew]
 refine wpAny_bind (wpAny_handled ?_)
 first | rw [show A.in1.handled=none from hh] | rw [hh]
 exact wpAny_bind (wpAny_pure (wpAny_throw (hE _ _ (((Heap.SameBut.update ..).extBut.push _).push _) ⟨_,Heap.get?_push_size _ rfl,rfl⟩)))
end
theorem cT {prog:Program} {w:World} {A:Around} (hh:A.handled=none) (it t:Addr) (hne:t≠it) (items:Array Value) :
  Draws prog w A it [it,t] items.size (fun i v=>items[i]?=some v) (fun i h=>h.IsTupleIter it t i∧h.IsTuple t items) where
 live:=fun _ _ st=>let ⟨o,ho,_⟩:=st.1;⟨o,ho⟩
 frame:=fun _ _ _ st hk=>⟨st.1.at fun o e=>hk it (by simp) o e,st.2.at fun o e=>hk t (by simp) o e⟩
 item:=fun i s Q E hi st hQ=>vk st.1 st.2 (x:=items[i]) (by simp [hi]) fun h' a b=>hQ _ h' s.toks (by simp [hi]) ⟨a,st.2.extBut b.extBut hne⟩ b
 done:=fun s Q E st hE=>wD hh st.1 st.2 (by simp) hE
structure b9 (z TI TO i1 i2:Addr) (fp1 fp2:List Addr):Prop where
 TIz:TI≠z
 TOz:TO≠z
 TITO:TI≠TO
 z1:z∉fp1
 z2:z∉fp2
 TO1:TO∉fp1
 TO2:TO∉fp2
 i12:i1∉fp2
 i21:i2∉fp1
 m1:i1∈fp1
 m2:i2∈fp2
 TI1:TI≠i1
 TI2:TI≠i2
section
variable {prog:Program} {w:World} {A:Around} {E:Value→Shared→Prop} {s:Shared} {z TI TO i1 i2:Addr} {fp1 fp2:List Addr} {n1 n2 k:Nat} {P1 P2:Nat→Value→Prop} {S1 S2:Nat→Heap→Prop} {a b:Value}
theorem b9.i1z (D:b9 z TI TO i1 i2 fp1 fp2):i1≠z:=fun e=>D.z1 (e ▸ D.m1)
theorem b9.i2z (D:b9 z TI TO i1 i2 fp1 fp2):i2≠z:=fun e=>D.z2 (e ▸ D.m2)
theorem b9.TOi1 (D:b9 z TI TO i1 i2 fp1 fp2):TO≠i1:=fun e=>D.TO1 (e ▸ D.m1)
theorem b9.TOi2 (D:b9 z TI TO i1 i2 fp1 fp2):TO≠i2:=fun e=>D.TO2 (e ▸ D.m2)
theorem dG {a:Addr} {Q:Option Obj→Shared→Prop} (h:Q (s.heap.get? a) s):wpAny (model prog w) A (loadIfAlive a) Q E s:=
 fun _ _ _=>h
abbrev cV (h:Heap) (z TI TO:Addr) (own:Value) (fl:Bool):Prop:=h.get? z=some { cls:=.type "zip",dict:=none,data:=.fields #[own,.bool fl,.bool false,.ref TI,.ref TO],slots:=#[] }
def mN (h:Heap) (own:Value):Prop:=own=.none∨∃ T:Addr,own=rawInt T∧h.get? T=none
theorem ub {own:Value} {fl:Bool} {Q:Bool→Shared→Prop} (hz:cV s.heap z TI TO own fl) (hf:mN s.heap own) (h:Q true s):wpAny (model prog w) A (Builtin.SmallTypes.ownedTupleIsFree (.ref z)) Q E s:=by
 unfold Builtin.SmallTypes.ownedTupleIsFree
 rcases hf with rfl | ⟨T,rfl,hT⟩
 ·exact wpAny_bind (wpAny_field hz rfl (x:=.none) rfl (wpAny_pure h))
 ·refine wpAny_bind (wpAny_field hz rfl (x:=rawInt T) rfl ?_)
  refine (show wpAny _ _ (loadIfAlive ((T:Int)).toNat>>=_) _ _ _ from wpAny_bind (dG ?_))
  rw [Int.toNat_natCast,hT]
  exact wpAny_ite_true rfl (wpAny_pure h)
theorem yx {Q:Value→Shared→Prop} (D:b9 z TI TO i1 i2 fp1 fp2) (D1:Draws prog w A i1 fp1 n1 P1 S1) (D2:Draws prog w A i2 fp2 n2 P2 S2) {own:Value} {fl:Bool} (hz:cV s.heap z TI TO own fl) (hfr:mN s.heap own) (hTI:IsPair s.heap TI (.ref i1) (.ref i2)) (hTO:IsPair s.heap TO a b)
  (h1:S1 k s.heap) (h2:S2 k s.heap) (l1:k < n1) (l2:k < n2)
  (hQ:∀ x y h' tk,P1 k x→P2 k y→IsZip h' z TI TO (rawInt s.heap.objs.size)→IsPair h' TI (.ref i1) (.ref i2)→IsPair h' TO x y→S1 (k+1) h'→S2 (k+1) h'→IsPair h' s.heap.objs.size x y→h'.objs.size=s.heap.objs.size+1 →
   (∀ c o,c≠z→c≠TO→c≠i1→c≠i2→s.heap.get? c=some o→h'.get? c=some o)→Q (.ref s.heap.objs.size) { s with heap:=h',toks:=tk }) :
  wpAny (model prog w) A (Builtin.«zip.__next__» ⟨[.ref z],[]⟩) (fun fin s'=>∃ v,fin=.done (.ret v)∧Q v s') E s:=by
 refine (show wpAny _ _ (field (.ref z) 2>>=_) _ _ _ from wpAny_bind (wpAny_field hz rfl (x:=.bool false) rfl ?_))
 refine (show wpAny _ _ (field (.ref z) 3>>=_) _ _ _ from wpAny_bind (wpAny_field hz rfl (x:=.ref TI) rfl ?_))
 refine wpAny_bind (wpAny_seqItems hTI rfl ?_)
 refine (show wpAny _ _ (Builtin.SmallTypes.ownedTupleIsFree (.ref z)>>=_) _ _ _ from wpAny_bind (ub hz hfr ?_))
 simp only [if_true]
 refine wpAny_bind (wpAny_rule (wpAny_bind (wpAny_field hz rfl (x:=.ref TO) rfl ?_)))
 refine wpAny_bind (wpAny_setField_rec hz (by simp) fun g1 hz1 e1=>?_)
 replace hz1:cV g1 z TI TO .ellipsis fl:=hz1
 replace e1:Heap.SameBut z s.heap g1:=e1
 refine wpAny_bind ?_
 simp only [List.zipIdx_cons,List.zipIdx_nil,List.forIn_cons,List.forIn_nil]
 refine wpAny_bind (wpAny_bind (wpAny_onRaise ?_))
 have q1:S1 k g1:=D1.frame _ _ _ h1 fun c hc o q=>e1.extBut c o (fun y=>D.z1 (y ▸ hc)) q
 have q2:S2 k g1:=D2.frame _ _ _ h2 fun c hc o q=>e1.extBut c o (fun y=>D.z2 (y ▸ hc)) q
 refine (show wpAny _ _ (Builtin.SmallTypes.nextOf (.ref i1)>>=_) _ _ _ from wpAny_bind (D1.item k _ _ _ l1 q1 fun x g2 t2 p1 q1' e2=>wpAny_pure ?_))
 replace e2:Heap.SameBut i1 g1 g2:=e2
 have hTO2:IsPair g2 TO a b:=e2.extBut _ _ D.TOi1 (e1.extBut _ _ D.TOz hTO)
 refine wpAny_bind (wpAny_seqItems hTO2 rfl (wpAny_bind (wpAny_updateSeq_pair hTO2 fun g3 hTO3 e3=>?_)))
 replace hTO3:IsPair g3 TO x b:=hTO3
 replace e3:Heap.SameBut TO g2 g3:=e3
 refine wpAny_bind (wpAny_letGo (wpAny_pure ?_))
 refine wpAny_bind (wpAny_bind (wpAny_onRaise ?_))
 have r1:S1 (k+1) g3:=D1.frame _ _ _ q1' fun c hc o q=>e3.extBut c o (fun y=>D.TO1 (y ▸ hc)) q
 have r2:S2 k g3:=D2.frame _ _ _ q2 fun c hc o q=>e3.extBut c o (fun y=>D.TO2 (y ▸ hc)) (e2.extBut c o (fun y=>D.i12 (y ▸ hc)) q)
 refine (show wpAny _ _ (Builtin.SmallTypes.nextOf (.ref i2)>>=_) _ _ _ from wpAny_bind (D2.item k _ _ _ l2 r2 fun y g4 t4 p2 r2' e4=>wpAny_pure ?_))
 replace e4:Heap.SameBut i2 g3 g4:=e4
 have hTO4:IsPair g4 TO x b:=e4.extBut _ _ D.TOi2 hTO3
 refine wpAny_bind (wpAny_seqItems hTO4 rfl (wpAny_bind (wpAny_updateSeq_pair hTO4 fun g5 hTO5 e5=>?_)))
 replace hTO5:IsPair g5 TO x y:=hTO5
 replace e5:Heap.SameBut TO g4 g5:=e5
 refine wpAny_bind (wpAny_letGo (wpAny_pure (wpAny_pure ?_)))
 refine wpAny_bind (wpAny_seqItems hTO5 rfl (wpAny_bind (wpAny_newTuple ?_)))
 have hsz:g5.objs.size=s.heap.objs.size:=by rw [e5.1,e4.1,e3.1,e2.1,e1.1]
 have hz5:cV g5 z TI TO .ellipsis fl:=e5.extBut _ _ D.TOz.symm (e4.extBut _ _ D.i2z.symm (e3.extBut _ _ D.TOz.symm (e2.extBut _ _ D.i1z.symm hz1)))
 have k5:∀ c o,c≠z→c≠TO→c≠i1→c≠i2→s.heap.get? c=some o→g5.get? c=some o:=fun c o c1 c2 c3 c4 q=>
  e5.extBut _ _ c2 (e4.extBut _ _ c4 (e3.extBut _ _ c2 (e2.extBut _ _ c3 (e1.extBut _ _ c1 q))))
 have u1:S1 (k+1) g5:=D1.frame _ _ _ r1 fun c hc o q=>e5.extBut c o (fun y=>D.TO1 (y ▸ hc)) (e4.extBut c o (fun y=>D.i21 (y ▸ hc)) q)
 have u2:S2 (k+1) g5:=D2.frame _ _ _ r2' fun c hc o q=>e5.extBut c o (fun y=>D.TO2 (y ▸ hc)) q
 have hzl:z < g5.objs.size:=Heap.lt_size hz5
 refine (show wpAny _ _ (Builtin.SmallTypes.ownedTupleHandOut (.ref z) (.ref g5.objs.size)>>=_) _ _ _ from wpAny_bind ?_)
 unfold Builtin.SmallTypes.ownedTupleHandOut
 have hz6:cV (g5.push { cls:=.type "tuple",data:=.seq #[x,y] }) z TI TO .ellipsis fl:=Heap.get?_push_of_some _ hz5
 refine wpAny_bind (wpAny_setField_rec hz6 (by simp) fun g7 hz7 e7=>?_)
 replace hz7:cV g7 z TI TO (rawInt g5.objs.size) fl:=hz7
 refine wpAny_setField_rec hz7 (by simp) fun g8 hz8 e8=>?_
 replace hz8:IsZip g8 z TI TO (rawInt g5.objs.size):=hz8
 replace e7:Heap.SameBut z (g5.push { cls:=.type "tuple",data:=.seq #[x,y] }) g7:=e7
 replace e8:Heap.SameBut z g7 g8:=e8
 have up:∀ c o,c≠z→g5.get? c=some o→g8.get? c=some o:=fun c o c1 q=>e8.extBut _ _ c1 (e7.extBut _ _ c1 (Heap.get?_push_of_some _ q))
 have hT8:IsPair g8 g5.objs.size x y:=e8.extBut _ _ (Nat.ne_of_gt hzl) (e7.extBut _ _ (Nat.ne_of_gt hzl) (Heap.get?_push_size _ rfl))
 have z8:g8.objs.size=g5.objs.size+1:=by rw [e8.1,e7.1,Heap.size_push]
 rw [hsz] at hz8 hT8 z8
 refine wpAny_pure ⟨_,rfl,?_⟩
 show Q (.ref g5.objs.size) _
 rw [hsz]
 exact hQ x y g8 _ p1 p2 hz8 (up _ _ D.TIz (k5 _ _ D.TIz D.TITO D.TI1 D.TI2 hTI)) (up _ _ D.TOz hTO5) (D1.frame _ _ _ u1 fun c hc o q=>up c o (fun y=>D.z1 (y ▸ hc)) q) (D2.frame _ _ _ u2 fun c hc o q=>up c o (fun y=>D.z2 (y ▸ hc)) q) hT8 z8
  fun c o c1 c2 c3 c4 q=>up c o c1 (k5 c o c1 c2 c3 c4 q)
theorem AF {Q:PySem.Fin→Shared→Prop} (D:b9 z TI TO i1 i2 fp1 fp2) (D1:Draws prog w A i1 fp1 n1 P1 S1) (D2:Draws prog w A i2 fp2 n2 P2 S2) {own:Value} {fl:Bool} (hz:cV s.heap z TI TO own fl) (hfr:mN s.heap own) (hTI:IsPair s.heap TI (.ref i1) (.ref i2)) (hTO:IsPair s.heap TO a b)
  (h1:S1 k s.heap) (h2:S2 k s.heap) (hend:k=n1∨(k < n1∧k=n2))
  (hE:∀ h' e tk,(∀ c o,c≠z→c≠TO→c≠i1→c≠i2→s.heap.get? c=some o→h'.get? c=some o)→(∃ o,h'.get? e=some o∧o.cls=.type "StopIteration")→E (.ref e) { s with heap:=h',toks:=tk }) :
  wpAny (model prog w) A (Builtin.«zip.__next__» ⟨[.ref z],[]⟩) Q E s:=by
 refine (show wpAny _ _ (field (.ref z) 2>>=_) _ _ _ from wpAny_bind (wpAny_field hz rfl (x:=.bool false) rfl ?_))
 refine (show wpAny _ _ (field (.ref z) 3>>=_) _ _ _ from wpAny_bind (wpAny_field hz rfl (x:=.ref TI) rfl ?_))
 refine wpAny_bind (wpAny_seqItems hTI rfl ?_)
 refine (show wpAny _ _ (Builtin.SmallTypes.ownedTupleIsFree (.ref z)>>=_) _ _ _ from wpAny_bind (ub hz hfr ?_))
 simp only [if_true]
 refine wpAny_bind (wpAny_rule (wpAny_bind (wpAny_field hz rfl (x:=.ref TO) rfl ?_)))
 refine wpAny_bind (wpAny_setField_rec hz (by simp) fun g1 hz1 e1=>?_)
 replace hz1:cV g1 z TI TO .ellipsis fl:=hz1
 replace e1:Heap.SameBut z s.heap g1:=e1
 refine wpAny_bind ?_
 simp only [List.zipIdx_cons,List.zipIdx_nil,List.forIn_cons,List.forIn_nil]
 refine wpAny_bind (wpAny_bind (wpAny_onRaise ?_))
 have q1:S1 k g1:=D1.frame _ _ _ h1 fun c hc o q=>e1.extBut c o (fun y=>D.z1 (y ▸ hc)) q
 have q2:S2 k g1:=D2.frame _ _ _ h2 fun c hc o q=>e1.extBut c o (fun y=>D.z2 (y ▸ hc)) q
 rcases hend with hk | ⟨hk,hk2⟩
 ·subst hk
  refine (show wpAny _ _ (Builtin.SmallTypes.nextOf (.ref i1)>>=_) _ _ _ from wpAny_bind (D1.done _ _ _ q1 fun g2 e e2 he=>?_))
  obtain ⟨oe,hoe,hce⟩:=he
  replace e2:Heap.ExtBut i1 g1 g2:=e2
  have hz2:cV g2 z TI TO .ellipsis fl:=e2 _ _ D.i1z.symm hz1
  have hez:e≠z:=fun x=>by subst x;rw [hz2] at hoe;cases hoe;simp at hce
  refine wpAny_setField_rec hz2 (by simp) fun g3 _ e3=>hE g3 e _ (fun c o c1 _ c3 _ q=>e3.extBut _ _ c1 (e2 _ _ c3 (e1.extBut _ _ c1 q))) ⟨oe,e3.extBut _ _ hez hoe,hce⟩
 ·subst hk2
  refine (show wpAny _ _ (Builtin.SmallTypes.nextOf (.ref i1)>>=_) _ _ _ from wpAny_bind (D1.item k _ _ _ hk q1 fun x g2 t2 p1 q1' e2=>wpAny_pure ?_))
  replace e2:Heap.SameBut i1 g1 g2:=e2
  have hTO2:IsPair g2 TO a b:=e2.extBut _ _ D.TOi1 (e1.extBut _ _ D.TOz hTO)
  refine wpAny_bind (wpAny_seqItems hTO2 rfl (wpAny_bind (wpAny_updateSeq_pair hTO2 fun g3 hTO3 e3=>?_)))
  replace e3:Heap.SameBut TO g2 g3:=e3
  refine wpAny_bind (wpAny_letGo (wpAny_pure ?_))
  refine wpAny_bind (wpAny_bind (wpAny_onRaise ?_))
  have r2:S2 k g3:=D2.frame _ _ _ q2 fun c hc o q=>e3.extBut c o (fun y=>D.TO2 (y ▸ hc)) (e2.extBut c o (fun y=>D.i12 (y ▸ hc)) q)
  refine (show wpAny _ _ (Builtin.SmallTypes.nextOf (.ref i2)>>=_) _ _ _ from wpAny_bind (D2.done _ _ _ r2 fun g4 e e4 he=>?_))
  obtain ⟨oe,hoe,hce⟩:=he
  replace e4:Heap.ExtBut i2 g3 g4:=e4
  have hz4:cV g4 z TI TO .ellipsis fl:=e4 _ _ D.i2z.symm (e3.extBut _ _ D.TOz.symm (e2.extBut _ _ D.i1z.symm hz1))
  have hez:e≠z:=fun x=>by subst x;rw [hz4] at hoe;cases hoe;simp at hce
  refine wpAny_setField_rec hz4 (by simp) fun g5 _ e5=>hE g5 e _ (fun c o c1 c2 c3 c4 q=>e5.extBut _ _ c1 (e4 _ _ c4 (e3.extBut _ _ c2 (e2.extBut _ _ c3 (e1.extBut _ _ c1 q))))) ⟨oe,e5.extBut _ _ hez hoe,hce⟩
end
section
variable {prog:Program} {w:World} {A:Around} {E:Value→Shared→Prop} {s:Shared} {z TI TO i1 i2:Addr} {fp1 fp2:List Addr} {n1 n2 k:Nat} {P1 P2:Nat→Value→Prop} {S1 S2:Nat→Heap→Prop} {a b:Value}
theorem j_ {Q:Option Value→Shared→Prop} (D:b9 z TI TO i1 i2 fp1 fp2) (D1:Draws prog w A.in1 i1 fp1 n1 P1 S1) (D2:Draws prog w A.in1 i2 fp2 n2 P2 S2) {own:Value} {fl:Bool} (hz:cV s.heap z TI TO own fl) (hfr:mN s.heap own) (hTI:IsPair s.heap TI (.ref i1) (.ref i2)) (hTO:IsPair s.heap TO a b)
  (h1:S1 k s.heap) (h2:S2 k s.heap) (l1:k < n1) (l2:k < n2)
  (hQ:∀ x y h' tk,P1 k x→P2 k y→IsZip h' z TI TO (rawInt s.heap.objs.size)→IsPair h' TI (.ref i1) (.ref i2)→IsPair h' TO x y→S1 (k+1) h'→S2 (k+1) h'→IsPair h' s.heap.objs.size x y→h'.objs.size=s.heap.objs.size+1 →
   (∀ c o,c≠z→c≠TO→c≠i1→c≠i2→s.heap.get? c=some o→h'.get? c=some o)→Q (some (.ref s.heap.objs.size)) { s with heap:=h',toks:=tk }) :
  wpAny (model prog w) A (pyNext (.ref z)) Q E s:=by
 have hT:s.TypeIs (.ref z) "zip":=⟨_,hz,rfl⟩
 unfold pyNext
 exact wpAny_bind (wpAny_attempt (wpAny_callSpecial?_slot (name:=Str.ofString "__next__") hT F.slot_zip_next (wpAny_call_entry F.slot_zip_next hT F.entry_zip_next
  (yx D D1 D2 hz hfr hTI hTO h1 h2 l1 l2 fun x y h' tk a1 a2 a3 a4 a5 a6 a7 a8 a9 a10=>wpAny_pure (hQ x y h' tk a1 a2 a3 a4 a5 a6 a7 a8 a9 a10)) (F.args_zip_next_1 _))))
theorem lZ {Q:Option Value→Shared→Prop} (D:b9 z TI TO i1 i2 fp1 fp2) (D1:Draws prog w A.in1 i1 fp1 n1 P1 S1) (D2:Draws prog w A.in1 i2 fp2 n2 P2 S2) {own:Value} {fl:Bool} (hz:cV s.heap z TI TO own fl) (hfr:mN s.heap own) (hTI:IsPair s.heap TI (.ref i1) (.ref i2)) (hTO:IsPair s.heap TO a b)
  (h1:S1 k s.heap) (h2:S2 k s.heap) (hend:k=n1∨(k < n1∧k=n2))
  (hQ:∀ h' tk,(∀ c o,c≠z→c≠TO→c≠i1→c≠i2→s.heap.get? c=some o→h'.get? c=some o)→Q none { s with heap:=h',toks:=tk }):wpAny (model prog w) A (pyNext (.ref z)) Q E s:=by
 have hT:s.TypeIs (.ref z) "zip":=⟨_,hz,rfl⟩
 unfold pyNext
 refine wpAny_bind (wpAny_attempt (wpAny_callSpecial?_slot (name:=Str.ofString "__next__") hT F.slot_zip_next (wpAny_call_entry F.slot_zip_next hT F.entry_zip_next
  (AF D D1 D2 hz hfr hTI hTO h1 h2 hend fun h' e tk hk he=>?_) (F.args_zip_next_1 _))))
 obtain ⟨o,ho,hc⟩:=he
 exact wpAny_bind (wpAny_isInstance (T:="StopIteration") (b:=true) ⟨o,ho,hc⟩ isSubtype_stop (wpAny_pure (hQ _ tk hk)))
abbrev zT (h:Heap) (t:Addr):Heap:=h.push { cls:=.type "tuple_iterator",data:=.fields #[.ref t,.int 0 0] }
abbrev zTT (h:Heap) (t u:Addr):Heap:=zT (zT h t) u
abbrev zPI (h:Heap) (t u:Addr):Heap:=(zTT h t u).push { cls:=.type "tuple",data:=.seq #[.ref h.objs.size,.ref (zT h t).objs.size] }
abbrev zPO (h:Heap) (t u:Addr):Heap:=(zPI h t u).push { cls:=.type "tuple",data:=.seq #[.none,.none] }
abbrev ow (h:Heap) (t u:Addr):Heap:=(zPO h t u).push { cls:=.type "zip",data:=.fields #[.none,.bool false,.bool false,.ref (zTT h t u).objs.size,.ref (zPI h t u).objs.size] }
theorem zB (t u:Addr) (xs ys:Array Value):Meets (Builtin.«zip.__new__» ⟨[.type "zip",.ref t,.ref u],[]⟩) (fun _ R s=>s.heap.IsTuple t xs∧s.heap.IsTuple u ys∧R (.ok (.ret (.ref (zPO s.heap t u).objs.size))) { s with heap:=ow s.heap t u }):=
 .of_wp fun prog w A R s h=>by
  obtain ⟨hp,g,d,tk,os⟩:=s
  obtain ⟨ht,hu,h⟩:=h
  have hsub:=sub_zip
  have h1:Heap.IsTuple (Shared.heap ⟨hp,g,d,tk,os⟩) t xs:=ht
  have h2:Heap.IsTuple (Shared.heap ⟨hp.push { cls:=.type "tuple_iterator",data:=.fields #[.ref t,.int 0 0] },g,d,tk,os⟩) u ys:=by
   obtain ⟨o,e,r⟩:=hu
   exact ⟨o,Heap.get?_push_of_some _ e,r⟩
  wp_walk using wpAny_pyIter_tuple h1,wpAny_pyIter_tuple h2
  exact ⟨_,rfl,h⟩
theorem oQ {t u:Addr} {xs ys:Array Value} {Q:Value→Shared→Prop} (ht:s.heap.IsTuple t xs) (hu:s.heap.IsTuple u ys)
  (h:∀ h',IsZip h' (s.heap.objs.size+4) (s.heap.objs.size+2) (s.heap.objs.size+3) .none→IsPair h' (s.heap.objs.size+2) (.ref s.heap.objs.size) (.ref (s.heap.objs.size+1))→IsPair h' (s.heap.objs.size+3) .none .none →
   h'.IsTupleIter s.heap.objs.size t 0→h'.IsTupleIter (s.heap.objs.size+1) u 0→(∀ c o,s.heap.get? c=some o→h'.get? c=some o)→Q (.ref (s.heap.objs.size+4)) { s with heap:=h' }) :
  wpAny (model prog w) A (call (.type "zip") [.ref t,.ref u]) Q E s:=by
 refine callType_new F.called_zip (by decide) (F.typeCall_zip_2 _ _) (F.newCall_zip_2 _ _) (fun obj=>F.args_object_init_3 obj _ _) F.entry_zip_new (zB t u xs ys) ⟨ht,hu,?_⟩
 have s1:(zT s.heap t).objs.size=s.heap.objs.size+1:=Heap.size_push ..
 have s2:(zTT s.heap t u).objs.size=s.heap.objs.size+2:=by rw [Heap.size_push,s1]
 have s3:(zPI s.heap t u).objs.size=s.heap.objs.size+3:=by rw [Heap.size_push,s2]
 have s4:(zPO s.heap t u).objs.size=s.heap.objs.size+4:=by rw [Heap.size_push,s3]
 have g5:(ow s.heap t u).get? (zPO s.heap t u).objs.size=some _:=Heap.get?_push_size _ rfl
 have g4:(ow s.heap t u).get? (zPI s.heap t u).objs.size=some _:=Heap.get?_push_of_some _ (Heap.get?_push_size _ rfl)
 have g3:(ow s.heap t u).get? (zTT s.heap t u).objs.size=some _:=Heap.get?_push_of_some _ (Heap.get?_push_of_some _ (Heap.get?_push_size _ rfl))
 have g2:(ow s.heap t u).get? (zT s.heap t).objs.size=some _:=Heap.get?_push_of_some _ (Heap.get?_push_of_some _ (Heap.get?_push_of_some _ (Heap.get?_push_size _ rfl)))
 have g1:(ow s.heap t u).get? s.heap.objs.size=some _:=Heap.get?_push_of_some _ (Heap.get?_push_of_some _ (Heap.get?_push_of_some _ (Heap.get?_push_of_some _ (Heap.get?_push_size _ rfl))))
 show _∧_
 rw [s2,s3,s4] at g5
 rw [s1,s2] at g3
 rw [s3] at g4
 rw [s1] at g2
 rw [s4]
 exact ⟨⟨_,g5,rfl⟩,h _ g5 g3 g4 ⟨_,g1,rfl,rfl⟩ ⟨_,g2,rfl,rfl⟩ fun c o q=>Heap.get?_push_of_some _ (Heap.get?_push_of_some _ (Heap.get?_push_of_some _ (Heap.get?_push_of_some _ (Heap.get?_push_of_some _ q))))⟩
end
def Itz (t u:Addr):It:=
  ⟨fun i H=>∃ xs ys x y,H t=some (.tup xs)∧H u=some (.tup ys)∧xs[i]?=some x∧ys[i]?=some y,fun i H v H'=>∃ p x y,H p=none∧v=.ref p∧H'=upd H p (.tup [x,y])∧(∀ xs,H t=some (.tup xs)→xs[i]?=some x)∧∀ ys,H u=some (.tup ys)→ys[i]?=some y,
   fun i H=>∃ xs ys,H t=some (.tup xs)∧H u=some (.tup ys)∧i≤xs.length∧i≤ys.length∧(i=xs.length∨i=ys.length)⟩
theorem jX {N t u:Addr} (ht:∀ c∈[N+4,N+2,N+3,N,N+1],t≠c) (hu:∀ c∈[N+4,N+2,N+3,N,N+1],u≠c):b9 (N+4) (N+2) (N+3) N (N+1) [N,t] [N+1,u]:=by
 have d:∀ i j:Nat,i≠j→(N+i:Nat)≠N+j:=fun i j h e=>h (Nat.add_left_cancel e)
 have t4:=ht (N+4) (by simp);have t3:=ht (N+3) (by simp);have t1:=ht (N+1) (by simp)
 have u4:=hu (N+4) (by simp);have u3:=hu (N+3) (by simp);have u0:=hu N (by simp)
 refine ⟨d 2 4 (by decide),d 3 4 (by decide),d 2 3 (by decide),fun h=>?_,fun h=>?_,fun h=>?_,fun h=>?_,fun h=>?_,fun h=>?_,by simp,by simp,d 2 0 (by decide),d 2 1 (by decide)⟩
 ·rcases List.mem_cons.mp h with z | z
  ·exact d 4 0 (by decide) z
  ·exact t4 (List.mem_singleton.mp z).symm
 ·rcases List.mem_cons.mp h with z | z
  ·exact d 4 1 (by decide) z
  ·exact u4 (List.mem_singleton.mp z).symm
 ·rcases List.mem_cons.mp h with z | z
  ·exact d 3 0 (by decide) z
  ·exact t3 (List.mem_singleton.mp z).symm
 ·rcases List.mem_cons.mp h with z | z
  ·exact d 3 1 (by decide) z
  ·exact u3 (List.mem_singleton.mp z).symm
 ·rcases List.mem_cons.mp h with z | z
  ·exact d 0 1 (by decide) z
  ·exact u0 (List.mem_singleton.mp z).symm
 ·rcases List.mem_cons.mp h with z | z
  ·exact d 1 0 (by decide) z
  ·exact t1 (List.mem_singleton.mp z).symm
theorem zS {P:Program} {w:World} {K:PySem.W.Frag} {es:List Expr} {kk:Nat} {tp:Pos} (t u N:Addr) :
  Turn P w K (.Tuple es kk tp) (Itz t u) [N+4,N+2,N+3,N,N+1] (N+4)
   (fun i h=>IsZip h (N+4) (N+2) (N+3) .none∧IsPair h (N+2) (.ref N) (.ref (N+1))∧(∃ a b,IsPair h (N+3) a b)∧h.IsTupleIter N t i∧h.IsTupleIter (N+1) u i) where
 mem:=by simp
 obj:=fun i h st b hb=>by
  obtain ⟨h1,h2,⟨x,y,h3⟩,⟨o4,h4,_,d4⟩,⟨o5,h5,_,d5⟩⟩:=st
  simp only [List.mem_cons,List.not_mem_nil,or_false] at hb
  rcases hb with z | z | z | z | z
  ·rw [z];exact ⟨_,h1,fun v z=>by
    have z':Data.fields _=Data.cell v:=z
    cases z'⟩
  ·rw [z];exact ⟨_,h2,fun v z=>by
    have z':Data.seq _ _=Data.cell v:=z
    cases z'⟩
  ·rw [z];exact ⟨_,h3,fun v z=>by
    have z':Data.seq _ _=Data.cell v:=z
    cases z'⟩
  ·rw [z];exact ⟨o4,h4,fun v z=>by rw [d4] at z;cases z⟩
  ·rw [z];exact ⟨o5,h5,fun v z=>by rw [d5] at z;cases z⟩
 keep:=fun i h h' st k=>by
  obtain ⟨h1,h2,⟨x,y,h3⟩,h4,h5⟩:=st
  exact ⟨k _ (by simp) _ h1,k _ (by simp) _ h2,⟨x,y,k _ (by simp) _ h3⟩,h4.at fun o q=>k _ (by simp) o q,h5.at fun o q=>k _ (by simp) o q⟩
 item:=by
  intro X hP hw hK hc i pins s σ H E I hf st hg
  subst hP hw hK
  obtain ⟨h1,h2,⟨a0,b0,h3⟩,h4,h5⟩:=st
  obtain ⟨xs,ys,x,y,hx,hy,ex,ey⟩:=hg
  obtain ⟨its,rv,p,hz⟩:=I.tuple (SqT.of hx)
  obtain ⟨its2,rv2,p2,hz2⟩:=I.tuple (SqT.of hy)
  obtain ⟨a,ha,ra⟩:=rv.get ex
  obtain ⟨b,hb,rb⟩:=rv2.get ey
  have D0:=jX (N:=N) (t:=t) (u:=u) (fun c hc e=>by rw [e,(hf c hc).1] at hx;cases hx) (fun c hc e=>by rw [e,(hf c hc).1] at hy;cases hy)
  have hA:X.A.in1.handled=none:=I.ok.hd hc
  have tn:t≠N:=fun e=>by rw [e,(hf N (by simp)).1] at hx;cases hx
  have un:u≠N+1:=fun e=>by rw [e,(hf (N+1) (by simp)).1] at hy;cases hy
  have la:i < its.toArray.size:=by
   have:=(List.getElem?_eq_some_iff.mp ha).1
   simpa using this
  have lb:i < its2.toArray.size:=by
   have:=(List.getElem?_eq_some_iff.mp hb).1
   simpa using this
  refine j_ D0 (cT (prog:=X.prog) (w:=X.w) hA N t tn its.toArray) (cT (prog:=X.prog) (w:=X.w) hA (N+1) u un its2.toArray) h1 (.inl rfl) h2 h3 ⟨h4,p⟩ ⟨h5,p2⟩ la lb fun x' y' g1 tk px py z1 z2 z3 z4 z5 z6 z7 k1=>?_
  obtain rfl:x'=a:=by
   have e:its.toArray[i]?=some x':=px
   rw [List.getElem?_toArray,ha] at e
   exact (Option.some.inj e).symm
  obtain rfl:y'=b:=by
   have e:its2.toArray[i]?=some y':=py
   rw [List.getElem?_toArray,hb] at e
   exact (Option.some.inj e).symm
  refine ⟨_,rfl,wpAny_letOwnedTupleGo_zip (s:={ s with heap:=g1,toks:=tk }) z1 fun g2 y1 e2=>?_⟩
  replace e2:Heap.SameBut (N+4) g1 g2:=e2
  have hl4:N+4 < s.heap.objs.size:=Heap.lt_size h1
  have d:∀ i j:Nat,i≠j→(N+i:Nat)≠N+j:=fun i j h e=>h (Nat.add_left_cancel e)
  have ht2:IsPair g2 s.heap.objs.size x' y':=e2.extBut _ _ (Nat.ne_of_gt hl4) z6
  have k2:∀ c o,c∉[N+4,N+2,N+3,N,N+1]→s.heap.get? c=some o→g2.get? c=some o:=fun c o hc q=>by
   have c4:c≠N+4:=fun z=>hc (by simp [z])
   have c3:c≠N+3:=fun z=>hc (by simp [z])
   have c0:c≠N:=fun z=>hc (by simp [z])
   have c1:c≠N+1:=fun z=>hc (by simp [z])
   exact e2.extBut c o c4 (k1 c o c4 c3 c0 c1 q)
  have I2:Inv X pins σ (upd H s.heap.objs.size (.tup [x,y])) { s with heap:=g2,toks:=tk }:=by
   refine I.jf (fp:=[N+4,N+2,N+3,N,N+1]) (Nat.le_refl _) k2 hf ?_
   exact ⟨by show 2≤sizeLine;decide,[x',y'],.cons ra (.cons rb .nil),⟨_,ht2,rfl,_,rfl⟩⟩
  refine ⟨.ref s.heap.objs.size,_,I2,rfl,⟨s.heap.objs.size,x,y,I.hok.fresh (Nat.le_refl _),rfl,rfl,fun zs hy=>?_,fun zs hy'=>?_⟩,⟨y1,e2.extBut _ _ (d 2 4 (by decide)) z2,⟨_,_,e2.extBut _ _ (d 3 4 (by decide)) z3⟩,z4.1.extBut e2.extBut (d 0 4 (by decide)),z5.1.extBut e2.extBut (d 1 4 (by decide))⟩,fun b hb=>?_⟩
  ·rw [hx] at hy;cases hy;exact ex
  ·rw [hy] at hy';cases hy';exact ey
  ·have hlt:b < s.heap.objs.size:=by
    simp only [List.mem_cons,List.not_mem_nil,or_false] at hb
    rcases hb with z | z | z | z | z
    ·rw [z];exact hl4
    ·rw [z];exact Heap.lt_size h2
    ·rw [z];exact Heap.lt_size h3
    ·obtain ⟨o,q,_⟩:=h4;rw [z];exact Heap.lt_size q
    ·obtain ⟨o,q,_⟩:=h5;rw [z];exact Heap.lt_size q
   rw [aI (Nat.ne_of_lt hlt)]
   exact (hf b hb).1
 done:=by
  intro X hP hw hK hc i pins s σ H E I hf st hg
  subst hP hw hK
  obtain ⟨h1,h2,⟨a0,b0,h3⟩,h4,h5⟩:=st
  obtain ⟨xs,ys,hx,hy,lx,ly,hend⟩:=hg
  obtain ⟨its,rv,p,hz⟩:=I.tuple (SqT.of hx)
  obtain ⟨its2,rv2,p2,hz2⟩:=I.tuple (SqT.of hy)
  have D0:=jX (N:=N) (t:=t) (u:=u) (fun c hc e=>by rw [e,(hf c hc).1] at hx;cases hx) (fun c hc e=>by rw [e,(hf c hc).1] at hy;cases hy)
  have hA:X.A.in1.handled=none:=I.ok.hd hc
  have tn:t≠N:=fun e=>by rw [e,(hf N (by simp)).1] at hx;cases hx
  have un:u≠N+1:=fun e=>by rw [e,(hf (N+1) (by simp)).1] at hy;cases hy
  have l1:=rv.length
  have l2:=rv2.length
  refine lZ D0 (cT (prog:=X.prog) (w:=X.w) hA N t tn its.toArray) (cT (prog:=X.prog) (w:=X.w) hA (N+1) u un its2.toArray) h1 (.inl rfl) h2 h3 ⟨h4,p⟩ ⟨h5,p2⟩ ?_ fun h' tk hk=>⟨rfl,?_⟩
  ·simp only [List.size_toArray]
   omega
  ·refine I.tT (fp:=[N+4,N+2,N+3,N,N+1]) (fun c o hc q=>?_) hf
   exact hk c o (fun z=>hc (by simp [z])) (fun z=>hc (by simp [z])) (fun z=>hc (by simp [z])) (fun z=>hc (by simp [z])) q
 self:=fun _ _ _ _ _ st h=>wpAny_pyIter_zip st.1 h
section
variable {prog:Program} {w:World} {A:Around} {E:Value→Shared→Prop} {s:Shared}
theorem Eg {t b:Addr} {ws:List Value} {Q:Value→Shared→Prop} (ht:IsTup s.heap t ([]:List Value).toArray) (hb:IsTup s.heap b ws.toArray) (h:Q (.ref b) s):wpAny (model prog w) A (binaryOp .Add (.ref t) (.ref b)) Q E s:=by
 obtain ⟨⟨cls,dd,data,sl⟩,ho,hc,n,hd⟩:=id ht
 obtain ⟨⟨cls2,dd2,data2,sl2⟩,ho2,hc2,n2,hd2⟩:=id hb
 simp only at hc hd hc2 hd2
 subst hc hd hc2 hd2
 exact concat_meets ⟨_,ho,rfl⟩ ⟨_,ho2,rfl⟩ noFill_tuple_add seq_tuple_add PySem.F.slot_tuple_add PySem.F.entry_tuple_add (PySem.F.args_tuple_add_2 _ _) (tuple_addW0 t b _ _ n n2 dd dd2 sl sl2 (by simp)) ⟨ho,ho2,h⟩
end
section
variable {X:Cx}
def DB (n:Nat) (lo hi:Option Int):Prop:=HT.sIx n 0 lo=0∧HT.sIx n n hi=n
instance (n:Nat) (lo hi:Option Int):Decidable (DB n lo hi):=inferInstanceAs (Decidable (_∧_))
def Fc (K:PySem.W.Frag):R2:=fun x y H Q=>∃ a b xs ys,x=.ref a∧y=.ref b∧SqT K H a xs∧SqT K H b ys∧xs.length+ys.length≤sizeLine ∧
 (xs=[]→Q (.ref b) H)∧(xs≠[]→ys=[]→Q (.ref a) H)∧(xs≠[]→ys≠[]→∀ p,H p=none→Q (.ref p) (upd H p (.tup (xs++ys))))
theorem z0:OpR X (binaryOp .Add) (Fc X.K):=by
 intro pins s σ H x y v u Q I rx ry h
 obtain ⟨a,b,xs,ys,rfl,rfl,ha,hb,hz,q1,q2,q3⟩:=h
 by_cases hx:xs=[]
 ·cases rx
  cases ry
  obtain ⟨its,r1,p1,_⟩:=I.tuple ha
  obtain ⟨its2,r2,p2,_⟩:=I.tuple hb
  obtain rfl:its=[]:=r1.k8.mpr hx
  exact Eg p1 p2 ⟨.ref b,H,I,rfl,q1 hx⟩
 ·exact Ck pins s σ H (.ref a) (.ref b) v u Q I rx ry ⟨a,b,xs,ys,rfl,rfl,ha,hb,hx,hz,q2 hx,q3 hx⟩
def Ax:R2:=fun x y H Q=>∃ d e,Rep H x d∧Rep H y e∧D.depth d≤50∧((∃ ds es,d=.tup ds∧e=.tup es)∨∃ ds es,d=.lst ds∧e=.lst es)∧Q (.bl (D.eqv d e)) H
def Aj:R2:=fun x y H Q=>∃ d e,Rep H x d∧Rep H y e∧D.depth d≤50∧((∃ ds es,d=.tup ds∧e=.tup es)∨∃ ds es,d=.lst ds∧e=.lst es)∧Q (.bl (!D.eqv d e)) H
theorem jn {pins:List (Addr×Obj)} {σ:St} {H:Hp} {s:Shared} {A:Around} {vs us:List V} {ds es:List D} {its its2:List Value} (I:Inv X pins σ H s) (hu:A.units+64 < cLine) (hd:D.b_ ds≤50) (r1:Vals vs its) (r2:Vals us its2) (q1:av H vs ds) (q2:av H us es) :
  ∀ j (h1:j < its.toArray.size) (h2:j < its2.toArray.size),SeqAt.EqAt A.in1 s its.toArray[j] its2.toArray[j] (D.eqv (ds.getD j .non) (es.getD j .non)):=by
 intro j h1 h2
 have h1':j < its.length:=by simpa using h1
 have h2':j < its2.length:=by simpa using h2
 have l1:=r1.length
 have l2:=r2.length
 have e1:vs[j]?=some (vs[j]'(by omega)):=List.getElem?_eq_getElem _
 have e2:us[j]?=some (us[j]'(by omega)):=List.getElem?_eq_getElem _
 obtain ⟨a1,b1,c1⟩:=r1.get e1
 obtain ⟨a2,b2,c2⟩:=r2.get e2
 obtain ⟨f1,g1,k1⟩:=q1.get e1
 obtain ⟨f2,g2,k2⟩:=q2.get e2
 have z1:its.toArray[j]=a1:=by
  have:its[j]?=some its[j]:=List.getElem?_eq_getElem h1'
  rw [b1] at this
  simpa using (Option.some.inj this).symm
 have z2:its2.toArray[j]=a2:=by
  have:its2[j]?=some its2[j]:=List.getElem?_eq_getElem h2'
  rw [b2] at this
  simpa using (Option.some.inj this).symm
 rw [z1,z2,List.getD_eq_getElem?_getD,List.getD_eq_getElem?_getD,g1,g2]
 exact yE I 60 A.in1 _ _ _ _ _ _ (by show A.units+1+60 < cLine;omega) (Nat.le_trans (D.gh g1) (by omega)) c1 c2 k1 k2
theorem EM (hu:X.A.units+64 < cLine):OpR X (compareOp .Eq) Ax:=by
 intro pins s σ H x y v u Q I rx ry h
 obtain ⟨d,e,r1,r2,hd,hk,q⟩:=h
 rcases hk with ⟨ds,es,rfl,rfl⟩ | ⟨ds,es,rfl,rfl⟩
 ·cases r1 with
  | tup h1 q1=>
   cases r2 with
   | tup h2 q2=>
    cases rx;cases ry
    obtain ⟨its,rv1,p1,_⟩:=I.tuple (SqT.of h1)
    obtain ⟨its2,rv2,p2,_⟩:=I.tuple (SqT.of h2)
    refine SeqAt.eq_tupleAt (e:=fun j=>D.eqv (ds.getD j .non) (es.getD j .non)) p1 p2 (by omega) (jn I hu (by simp only [D.depth] at hd;omega) rv1 rv2 q1 q2) ⟨.bl _,H,I,rfl,?_⟩
    rw [List.size_toArray,List.size_toArray,← rv1.length,← rv2.length,q1.length,q2.length,← D.bX]
    simpa only [D.eqv] using q
 ·cases r1 with
  | lst h1 q1=>
   cases r2 with
   | lst h2 q2=>
    cases rx;cases ry
    obtain ⟨its,rv1,p1,_⟩:=I.list (SqL.of h1)
    obtain ⟨its2,rv2,p2,_⟩:=I.list (SqL.of h2)
    have l1:=rv1.length
    have l2:=rv2.length
    have m1:=q1.length
    have m2:=q2.length
    by_cases hl:ds.length=es.length
    ·refine SeqAt.eq_listAt (e:=fun j=>D.eqv (ds.getD j .non) (es.getD j .non)) p1.isList p2.isList (by simp;omega) (by omega) (jn I hu (by simp only [D.depth] at hd;omega) rv1 rv2 q1 q2) ⟨.bl _,H,I,rfl,?_⟩
     have z:D.bS ds es=(List.range its.toArray.size).all fun j=>D.eqv (ds.getD j .non) (es.getD j .non):=by
      rw [D.bX,← hl,Nat.min_self,List.size_toArray,← l1,m1];simp
     rw [← z]
     simpa only [D.eqv] using q
    ·refine SeqAt.eq_list_lengthsAt p1.isList p2.isList (by simp;omega) (by omega) ⟨.bl _,H,I,rfl,?_⟩
     have z:D.bS ds es=false:=by rw [D.bX];simp [hl]
     simpa only [D.eqv,z] using q
theorem Eu (hu:X.A.units+64 < cLine):OpR X (compareOp .NotEq) Aj:=by
 intro pins s σ H x y v u Q I rx ry h
 obtain ⟨d,e,r1,r2,hd,hk,q⟩:=h
 rcases hk with ⟨ds,es,rfl,rfl⟩ | ⟨ds,es,rfl,rfl⟩
 ·cases r1 with
  | tup h1 q1=>
   cases r2 with
   | tup h2 q2=>
    cases rx;cases ry
    obtain ⟨its,rv1,p1,_⟩:=I.tuple (SqT.of h1)
    obtain ⟨its2,rv2,p2,_⟩:=I.tuple (SqT.of h2)
    refine SeqAt.RcNeAt.tuples (e:=fun j=>D.eqv (ds.getD j .non) (es.getD j .non)) p1 p2 (by omega) (jn I hu (by simp only [D.depth] at hd;omega) rv1 rv2 q1 q2) _ _ _ _ ⟨.bl _,H,I,rfl,?_⟩
    rw [List.size_toArray,List.size_toArray,← rv1.length,← rv2.length,q1.length,q2.length,← D.bX]
    simpa only [D.eqv] using q
 ·cases r1 with
  | lst h1 q1=>
   cases r2 with
   | lst h2 q2=>
    cases rx;cases ry
    obtain ⟨its,rv1,p1,_⟩:=I.list (SqL.of h1)
    obtain ⟨its2,rv2,p2,_⟩:=I.list (SqL.of h2)
    have l1:=rv1.length
    have l2:=rv2.length
    have m1:=q1.length
    have m2:=q2.length
    by_cases hl:ds.length=es.length
    ·refine SeqAt.RcNeAt.lists (e:=fun j=>D.eqv (ds.getD j .non) (es.getD j .non)) p1.isList p2.isList (by simp;omega) (by omega) (jn I hu (by simp only [D.depth] at hd;omega) rv1 rv2 q1 q2) _ _ _ _ ⟨.bl _,H,I,rfl,?_⟩
     have z:D.bS ds es=(List.range its.toArray.size).all fun j=>D.eqv (ds.getD j .non) (es.getD j .non):=by
      rw [D.bX,← hl,Nat.min_self,List.size_toArray,← l1,m1];simp
     rw [← z]
     simpa only [D.eqv] using q
    ·refine SeqAt.RcNeAt.lists_lengths p1.isList p2.isList (by simp;omega) (by omega) _ _ _ _ ⟨.bl _,H,I,rfl,?_⟩
     have z:D.bS ds es=false:=by rw [D.bX];simp [hl]
     simpa only [D.eqv,z,Bool.not_false] using q
theorem Fv (hu:X.A.units+64 < cLine):OpR X (compareOp .Eq) (fun x y H Q=>rEq x y H Q∨Ax x y H Q):=Gr.or (EM hu)
theorem Fw (hu:X.A.units+64 < cLine):OpR X (compareOp .NotEq) (fun x y H Q=>rNe x y H Q∨Aj x y H Q):=GO.or (Eu hu)
theorem tV:∀ {bs:List Bool} {us:List Value},Vals (bs.map V.bl) us→us=bs.map Value.bool
 | [],_,h=>by cases h;rfl
 | b :: bs,_,h=>by
  cases h with
  | cons r t=>cases r;rw [tV t];rfl
theorem xn (hc:X.calm=true):bL X (.builtin "all") (fun xs H Q=>∃ (p:Addr) (bs:List Bool),xs=[.ref p]∧SqL X.K H p (bs.map V.bl)∧Q (.bl (bs.all id)) H):=by
 intro pins s σ H xs us Q I r h
 obtain ⟨p,bs,rfl,hq,q⟩:=h
 obtain ⟨u,rfl,rx⟩:=vals1 r
 cases rx
 obtain ⟨its,rv,pl,hz⟩:=I.list hq
 have hits:=tV rv
 subst hits
 have hA:X.A.in1.handled=none:=I.ok.hd hc
 obtain ⟨o,ho,hcl,n,hd⟩:=pl.isList
 have hne:p≠s.heap.objs.size:=Nat.ne_of_lt (Heap.lt_size ho)
 refine call_all_walk (wpAny_pyIter_list pl.isList ?_)
 refine ⟨s.heap.objs.size,_,_,_,_,_,fun i=>bs.getD i true,rfl,Walks.list (prog:=X.prog) (w:=X.w) hA s.heap.objs.size p hne (bs.map Value.bool).toArray,⟨⟨_,Heap.get?_push_size _ rfl,rfl,rfl⟩,⟨o,Heap.get?_push_of_some _ ho,hcl,n,hd⟩⟩,?_,fun h' tk hk=>?_⟩
 ·intro i v s' Q' E' hP hQ
  have hP':(bs.map Value.bool).toArray[i]?=some v:=hP
  rw [List.getElem?_toArray,List.getElem?_map] at hP'
  cases e:bs[i]? with
  | none=>rw [e] at hP';cases hP'
  | some b=>
   rw [e] at hP'
   cases hP'
   have hQ:Q' (bs.getD i true) s':=hQ
   rw [List.getD_eq_getElem?_getD,e] at hQ
   exact wpAny_truthy_bool hQ
 ·have z:(List.range (bs.map Value.bool).toArray.size).all (fun i=>bs.getD i true)=bs.all id:=by
   rw [List.size_toArray,List.length_map,Bool.eq_iff_iff,List.all_eq_true,List.all_eq_true]
   constructor
   ·intro h b hb
    obtain ⟨i,hi,e⟩:=List.mem_iff_getElem.mp hb
    have:=h i (List.mem_range.mpr hi)
    rw [List.getD_eq_getElem?_getD,List.getElem?_eq_getElem hi] at this
    simpa [e] using this
   ·intro h i hi
    have hi':=List.mem_range.mp hi
    rw [List.getD_eq_getElem?_getD,List.getElem?_eq_getElem hi']
    exact h _ (List.getElem_mem hi')
  rw [z]
  have I1:Inv X pins σ H { s with heap:=s.heap.push { cls:=.type "list_iterator",data:=.fields #[.ref p,.int 0 0] } }:=I.kept (t':=s.toks) fun b o e=>Heap.get?_push_of_some _ e
  have fk:fh X pins H s.heap.objs.size:=I.jk (Nat.le_refl _) (I.hok.fresh (Nat.le_refl _))
  obtain ⟨f0,f1,f2,f3,f4,f5⟩:=fk
  exact ⟨.bl _,H,I1.turned (t':=tk) (it:=s.heap.objs.size) (fun b o hb e=>hk b o (fun z=>hb (List.mem_singleton.mp z)) e) f0 f1 f3 f4 f5,rfl,q⟩
theorem su:bL X (.builtin "sorted") (fun xs H Q=>∃ (p:Addr) (ns:List Int),xs=[.ref p]∧SqL X.K H p (ns.map V.int)∧ns.length < 64∧∀ (l:Addr) (ms:List Int),H l=none→List.Perm ms ns→ms.Pairwise (·≤·)→Q (.ref l) (upd H l (.lst (ms.map V.int)))):=by
 intro pins s σ H xs us Q I r h
 obtain ⟨p,ns,rfl,hq,hl,q⟩:=h
 obtain ⟨u,rfl,rx⟩:=vals1 r
 cases rx
 obtain ⟨its,rv,pl,hz⟩:=I.list hq
 have hI:IntsAre its ns:=intsAre_of rv
 have h64:its.length < 64:=by rw [← rv.length,List.length_map];exact hl
 refine sorted_ints pl.isList hI h64 fun out ms hout hperm hpair=>?_
 obtain ⟨e,he⟩:=sortedAll_at s.heap its out
 refine ⟨.ref (s.heap.objs.size+1),_,I.laid (t':=s.toks) (o:=.lst (ms.map V.int)) (fun b ob q=>sortedAll_old q) (Nat.le_succ _) ?_,rfl,q _ ms (I.hok.fresh (Nat.le_succ _)) hperm hpair⟩
 have hlm:ms.length=ns.length:=hperm.length_eq
 exact ⟨by rw [List.length_map];have:(64:Nat)≤sizeLine:=(by decide);omega,out.toList,e,eg hout,by simpa using he⟩
end
def gC (H:Hp) (p:Addr):Option (List V):=match H p with
 | some (.lst xs)=>some xs
 | some (.tup xs)=>some xs
 | _=>none
theorem mx {H:Hp} {p:Addr} {xs:List V} (h:H p=some (.tup xs)):gC H p=some xs:=by unfold gC;rw [h]
theorem FN {H:Hp} {p:Addr} {xs:List V} (h:H p=some (.lst xs)):gC H p=some xs:=by unfold gC;rw [h]
theorem iE {H:Hp} {p:Addr} {xs:List V} (h:gC H p=some xs):H p=some (.lst xs)∨H p=some (.tup xs):=by
 unfold gC at h
 split at h
 ·cases h;exact .inl ‹_›
 ·cases h;exact .inr ‹_›
 ·cases h
section
variable {X:Cx}
def zw:R2:=fun x y H Q=>∃ p i xs v,x=.ref p∧y=.int i∧gC H p=some xs∧atI xs i=some v∧Q v H
theorem DQ:IxR X zw:=by
 intro value slice pins s σ H x y v u Q I rx ry q hs
 obtain ⟨p,i,xs,w',rfl,rfl,h,e,q⟩:=q
 rcases iE h with h | h
 ·exact Dg value slice pins s σ H _ _ v u Q I rx ry ⟨p,xs,i,w',rfl,rfl,SqL.of h,e,q⟩ hs
 ·exact Fq value slice pins s σ H _ _ v u Q I rx ry ⟨p,xs,i,w',rfl,rfl,SqT.of h,e,q⟩ hs
def vq:List V→Hp→VK→Prop:=fun vs H Q=>∃ p xs,vs=[.ref p]∧gC H p=some xs∧Q (.int xs.length) H
theorem aS:bL X (.builtin "len") vq:=by
 intro pins s σ H vs us Q I r h
 obtain ⟨p,xs,rfl,h,q⟩:=h
 rcases iE h with h | h
 ·exact sD pins s σ H _ us Q I r ⟨_,_,rfl,.inl ⟨xs,SqL.of h,rfl⟩,q⟩
 ·exact sD pins s σ H _ us Q I r ⟨_,_,rfl,.inr ⟨xs,SqT.of h,rfl⟩,q⟩
def sM:List V→Hp→VK→Prop:=fun vs H Q=>∃ p xs,vs=[.ref p]∧gC H p=some xs∧∀ l,H l=none→Q (.ref l) (upd H l (.lst xs))
theorem ml:bL X (.type "list") sM:=by
 intro pins s σ H vs us Q I r h
 obtain ⟨p,xs,rfl,h,q⟩:=h
 rcases iE h with h | h
 ·exact kI pins s σ H _ us Q I r ⟨p,xs,rfl,.inl (SqL.of h),q⟩
 ·exact kI pins s σ H _ us Q I r ⟨p,xs,rfl,.inr (SqT.of h),q⟩
def tZ:List V→Hp→VK→Prop:=fun vs H Q=>∃ p,vs=[.ref p]∧((∃ xs,H p=some (.lst xs)∧∀ l,H l=none→Q (.ref l) (upd H l (.tup xs)))∨∃ xs,H p=some (.tup xs)∧Q (.ref p) H)
theorem cy:bL X (.type "tuple") tZ:=by
 intro pins s σ H vs us Q I r h
 obtain ⟨p,rfl,⟨xs,h,q⟩ | ⟨xs,h,q⟩⟩:=h
 ·exact jK pins s σ H _ us Q I r ⟨p,xs,rfl,.inl ⟨SqL.of h,q⟩⟩
 ·exact jK pins s σ H _ us Q I r ⟨p,xs,rfl,.inr ⟨SqT.of h,q⟩⟩
def zV (neg:Bool):R2:=fun x y H Q=>∃ p xs,y=.ref p∧gC H p=some xs∧dW x=true∧xs.all dW=true∧Q (.bl (if neg then !inV x xs else inV x xs)) H
theorem Fp:OpR X (compareOp .In) (zV false):=by
 intro pins s σ H x y v u Q I rx ry h
 obtain ⟨p,xs,rfl,h,f1,f2,q⟩:=h
 rcases iE h with h | h
 ·exact oU pins s σ H _ _ v u Q I rx ry ⟨p,xs,rfl,.inl (SqL.of h),f1,f2,q⟩
 ·exact oU pins s σ H _ _ v u Q I rx ry ⟨p,xs,rfl,.inr (SqT.of h),f1,f2,q⟩
theorem xU:OpR X (compareOp .NotIn) (zV true):=by
 intro pins s σ H x y v u Q I rx ry h
 obtain ⟨p,xs,rfl,h,f1,f2,q⟩:=h
 rcases iE h with h | h
 ·exact j5 pins s σ H _ _ v u Q I rx ry ⟨p,xs,rfl,.inl (SqL.of h),f1,f2,q⟩
 ·exact j5 pins s σ H _ _ v u Q I rx ry ⟨p,xs,rfl,.inr (SqT.of h),f1,f2,q⟩
def BA:R2:=fun x y H Q=>(∃ i j,x=.int i∧y=.int j∧Q (.int (i+j)) H)∨∃ a b,x=.ref a∧y=.ref b ∧
  ((∃ xs ys,H a=some (.tup xs)∧H b=some (.tup ys)∧xs.length+ys.length≤sizeLine∧(xs=[]→Q (.ref b) H)∧(xs≠[]→ys=[]→Q (.ref a) H)∧(xs≠[]→ys≠[]→∀ p,H p=none→Q (.ref p) (upd H p (.tup (xs++ys))))) ∨
   ∃ xs ys,H a=some (.lst xs)∧H b=some (.lst ys)∧xs.length+ys.length≤sizeLine∧∀ p,H p=none→Q (.ref p) (upd H p (.lst (xs++ys))))
theorem B7:OpR X (binaryOp .Add) BA:=by
 intro pins s σ H x y v u Q I rx ry h
 rcases h with ⟨i,j,rfl,rfl,q⟩ | ⟨a,b,rfl,rfl,⟨xs,ys,h1,h2,hz,q1,q2,q3⟩ | ⟨xs,ys,h1,h2,hz,q⟩⟩
 ·exact F5 pins s σ H _ _ v u Q I rx ry ⟨i,j,rfl,rfl,q⟩
 ·exact z0 pins s σ H _ _ v u Q I rx ry ⟨a,b,xs,ys,rfl,rfl,SqT.of h1,SqT.of h2,hz,q1,q2,q3⟩
 ·exact FT pins s σ H _ _ v u Q I rx ry ⟨a,b,xs,ys,rfl,rfl,h1,h2,hz,q⟩
def Dn:R2:=fun x y H Q=>rEq x y H Q∨Ax x y H Q
def DX:R2:=fun x y H Q=>rNe x y H Q∨Aj x y H Q
theorem bj (hu:X.A.units+64 < cLine):OpR X (compareOp .Eq) Dn:=Fv hu
theorem mB (hu:X.A.units+64 < cLine):OpR X (compareOp .NotEq) DX:=Fw hu
def Bu:List V→Hp→VK→Prop:=fun vs H Q=>∃ (p:Addr) (bs:List Bool),vs=[.ref p]∧H p=some (.lst (bs.map V.bl))∧Q (.bl (bs.all id)) H
theorem cN (hc:X.calm=true):bL X (.builtin "all") Bu:=by
 intro pins s σ H vs us Q I r h
 obtain ⟨p,bs,rfl,h,q⟩:=h
 exact xn hc pins s σ H _ us Q I r ⟨p,bs,rfl,SqL.of h,q⟩
def rX:List V→Hp→VK→Prop:=fun vs H Q=>∃ (p:Addr) (ns:List Int),vs=[.ref p]∧H p=some (.lst (ns.map V.int))∧ns.length < 64∧∀ (l:Addr) (ms:List Int),H l=none→List.Perm ms ns→ms.Pairwise (·≤·)→Q (.ref l) (upd H l (.lst (ms.map V.int)))
theorem qy:bL X (.builtin "sorted") rX:=by
 intro pins s σ H vs us Q I r h
 obtain ⟨p,ns,rfl,h,hl,q⟩:=h
 exact su pins s σ H _ us Q I r ⟨p,ns,rfl,SqL.of h,hl,q⟩
def F7:List V→Hp→VK→Prop:=fun vs H Q=>∃ i j,vs=[.int i,.int j]∧Q (.int (if j > i then j else i)) H
def EA:List V→Hp→VK→Prop:=fun vs H Q=>∃ i j,vs=[.int i,.int j]∧Q (.int (if j < i then j else i)) H
theorem yc (hc:X.calm=true):bL X (.builtin "max") F7:=xf hc
theorem pD (hc:X.calm=true):bL X (.builtin "min") EA:=wL hc
def IJ (to te:TE):TE:=fun σ H Q=>to σ H fun x H1=>∃ l xs0,x=.ref l∧H1 l=some (.lst xs0)∧te σ H1 fun y H2=>∃ xs,H2 l=some (.lst xs)∧xs.length < sizeLine∧Q .non (upd H2 l (.lst (xs++[y])))
theorem Ea {o e:Expr} {to te:TE} {apos cpos:Pos} (ho:PE X o to) (he:PE X e te)
  (hbase:attributeBase o "append" X.env (eval o X.env)=eval o X.env:=by rfl)
  (hfew:((backTo cpos (starEach [e] X.env)).all (fun x=>!x.1) && (backToKw cpos (keywordEach [] X.env)).all (fun x=>x.1.isSome) && decide ([e].length+([]:List Keyword).length+(if ([]:List Keyword).isEmpty then 0 else 1) < 30))=true:=by rfl)
  (hline:(apos.endLine == cpos.line)=true:=by rfl) (hs:starEach [e] X.env=(false,eval e X.env) :: starEach [] X.env:=by rfl):PE X (.Call (.Attribute o "append" apos) [e] [] cpos) (IJ to te):=by
 intro pins s σ H Q I h
 refine wpAny_Call_method_late hbase hfew hline rfl (thn (ho pins s σ H _ I h) fun v s1 ⟨x,H1,I1,r1,l,xs0,e0,hl,q1⟩=>?_)
 subst e0
 have ty:tyV X.K "list" (.ref l) H1:=.inl ⟨rfl,_,SqL.of hl⟩
 obtain ⟨h1,h2⟩:=sH I1 r1 ty
 refine ⟨"list",_,PySem.F.plainAttrs_list,PySem.F.slot_list_append,PySem.F.type_list_append,h1,h2,?_⟩
 have hA:=(dz he fB hs) cpos pins s1 σ H1 (fun vs H2=>∃ y,vs=[y]∧∃ xs,H2 l=some (.lst xs)∧xs.length < sizeLine∧Q .non (upd H2 l (.lst (xs++[y])))) I1 (by
  refine cast (congrArg (te σ H1) ?_) q1
  funext y H2
  refine propext ⟨fun q=>⟨y,rfl,q⟩,fun ⟨y',e',q⟩=>?_⟩
  cases e'
  exact q)
 rw [hs] at hA ⊢
 refine Calls.callWith_builtin (by show (false || (backTo cpos (starEach ([]:List Expr) X.env)).any (·.1))=false;rfl) (Calls.evalArgs_plain ?_)
 exact thn hA fun us s2 ⟨vs,H2,I2,r2,y,e2,xs,h3,hz,q2⟩=>pJ pins s2 σ H2 (.ref l) vs v us Q I2 r1 r2 ⟨l,xs,y,rfl,e2,h3,hz,q2⟩
end
theorem ve {n:Nat} {k:Int} (h0:0≤k) (h:k < (n:Int)):ixN n k=some k.toNat:=by
 unfold ixN
 rw [if_pos h0,if_pos h]
class NS (e:Expr):Prop where
 eq:∀ (es:List Expr) (env:Env),starEach (e :: es) env=(false,eval e env) :: starEach es env
instance {c:Const} {k:Nat} {p:Pos}:NS (.Constant c k p):=⟨fun _ _=>rfl⟩
instance {x:Str} {p:Pos}:NS (.Name x p):=⟨fun _ _=>rfl⟩
instance {es:List Expr} {k:Nat} {p:Pos}:NS (.Tuple es k p):=⟨fun _ _=>rfl⟩
instance {es:List Expr} {p:Pos}:NS (.List es p):=⟨fun _ _=>rfl⟩
instance {a:Expr} {o:Operator} {b:Expr} {p:Pos}:NS (.BinOp a o b p):=⟨fun _ _=>rfl⟩
instance {o:UnaryOp} {a:Expr} {p:Pos}:NS (.UnaryOp o a p):=⟨fun _ _=>rfl⟩
instance {f:Expr} {es:List Expr} {ks:List Keyword} {p:Pos}:NS (.Call f es ks p):=⟨fun _ _=>rfl⟩
instance {a b:Expr} {p:Pos}:NS (.Subscript a b p):=⟨fun _ _=>rfl⟩
instance {a:Expr} {os:List CmpOp} {bs:List Expr} {p:Pos}:NS (.Compare a os bs p):=⟨fun _ _=>rfl⟩
instance {o:BoolOp} {es:List Expr} {p:Pos}:NS (.BoolOp o es p):=⟨fun _ _=>rfl⟩
instance {a b c:Expr} {p:Pos}:NS (.IfExp a b c p):=⟨fun _ _=>rfl⟩
instance {e:Expr} {gs:List Comprehension} {sc:Scope} {p:Pos}:NS (.ListComp e gs sc p):=⟨fun _ _=>rfl⟩
structure PL (X:Cx) (es:List Expr) (t:TA):Prop where
 h:PA X es t
section
variable {X:Cx}
def tLm (r:V→List V→Hp→VK→Prop) (to te:TE):TE:=fun σ H Q=>to σ H fun x H1=>∃ l xs0,x=.ref l∧H1 l=some (.lst xs0)∧te σ H1 fun y H2=>r (.ref l) [y] H2 Q
theorem F8 {r:V→List V→Hp→VK→Prop} {name:Str} {id:String} {o e:Expr} {to te:TE} {apos cpos:Pos} (slot:Slot "list" name id) (hty:typeOf (.builtin id)=pure (.type "method_descriptor")) (hm:MtM X id r) (ho:PE X o to) (he:PE X e te)
  (hbase:attributeBase o name X.env (eval o X.env)=eval o X.env:=by rfl)
  (hfew:((backTo cpos (starEach [e] X.env)).all (fun x=>!x.1) && (backToKw cpos (keywordEach [] X.env)).all (fun x=>x.1.isSome) && decide ([e].length+([]:List Keyword).length+(if ([]:List Keyword).isEmpty then 0 else 1) < 30))=true:=by rfl)
  (hline:(apos.endLine == cpos.line)=true:=by rfl) (hs:starEach [e] X.env=(false,eval e X.env) :: starEach [] X.env:=by rfl):PE X (.Call (.Attribute o name apos) [e] [] cpos) (tLm r to te):=by
 intro pins s σ H Q I h
 refine wpAny_Call_method_late hbase hfew hline rfl (thn (ho pins s σ H _ I h) fun v s1 ⟨x,H1,I1,r1,l,xs0,e0,hl,q1⟩=>?_)
 subst e0
 have ty:tyV X.K "list" (.ref l) H1:=.inl ⟨rfl,_,SqL.of hl⟩
 obtain ⟨h1,h2⟩:=sH I1 r1 ty
 refine ⟨"list",_,PySem.F.plainAttrs_list,slot,hty,h1,h2,?_⟩
 have hA:=(dz he fB hs) cpos pins s1 σ H1 (fun vs H2=>∃ y,vs=[y]∧r (.ref l) [y] H2 Q) I1 (by
  refine cast (congrArg (te σ H1) ?_) q1
  funext y H2
  refine propext ⟨fun q=>⟨y,rfl,q⟩,fun ⟨y',e',q⟩=>?_⟩
  cases e'
  exact q)
 rw [hs] at hA ⊢
 refine Calls.callWith_builtin (by show (false || (backTo cpos (starEach ([]:List Expr) X.env)).any (·.1))=false;rfl) (Calls.evalArgs_plain ?_)
 exact thn hA fun us s2 ⟨vs,H2,I2,r2,y,e2,q2⟩=>hm pins s2 σ H2 (.ref l) vs v us Q I2 r1 r2 (by rw [e2];exact q2)
theorem ui {f:Nat→V}:∀ (us:List Value) (k:Nat),(∀ j v,us[j]?=some v→RelV (f (k+j)) v)→Vals ((List.range' k us.length).map f) us
 | [],_,_=>.nil
 | u :: us,k,h=>by
  rw [List.length_cons,List.range'_succ,List.map_cons]
  refine .cons (h 0 u rfl) (ui us (k+1) fun j v e=>?_)
  have:=h (j+1) v (by simpa using e)
  rw [show k+1+j=k+(j+1) by omega]
  exact this
def tLR (ta:TA):TE:=fun σ H Q=>ta σ H fun vs H1=>∃ j:Int,vs=[.int j]∧0≤j∧j≤1000∧∀ l,H1 l=none→Q (.ref l) (upd H1 l (.lst ((List.range j.toNat).map fun i=>V.int (i:Nat))))
theorem qV {a:Expr} {ta:TA} {p1 p2 pos1 pos2:Pos} (hc:X.calm=true) (hgl:Gl X "list") (hml:X.mg "list"=none) (hgr:Gl X "range") (hmr:X.mg "range"=none) (hbl:bootBuiltins "list"=some (.type "list")) (ha:PA X [a] ta)
  (hs:starEach [a] X.env=[(false,eval a X.env)]:=by rfl)
  (hs2:starEach [Expr.Call (.Name "range" p2) [a] [] pos2] X.env=(false,eval (Expr.Call (.Name "range" p2) [a] [] pos2) X.env) :: starEach [] X.env:=by rfl) :
  PE X (.Call (.Name "list" p1) [.Call (.Name "range" p2) [a] [] pos2] [] pos1) (tLR ta):=by
 intro pins s σ H Q I h
 refine wpAny_Call_Name_kw (b7 I hgl hml hbl ?_)
 refine PyProof.Rows.callWith_type1 ?_ hs2 rfl
 rw [hs2]
 show wpAny _ _ (spliced ((false,eval (Expr.Call (.Name "range" p2) [a] [] pos2) X.env) :: backTo pos1 (starEach [] X.env))) _ _ s
 refine Calls.spliced_cons ?_
 refine Call_ (b7 I hgr hmr boot_range (PyProof.Rows.callWith_type1 (thn (ha pos2 pins s σ H _ I h) fun us s1 ⟨vs,H1,I1,r1,q1⟩=>?_) hs rfl))
 obtain ⟨j,e,j0,j1,q⟩:=q1
 subst e
 cases r1 with
 | cons r rr=>
  cases rr
  obtain ⟨t,rfl⟩:=r
  refine call_range_1 ?_
  have hA:X.A.handled=none:=I.ok.hd hc
  have I2:Inv X pins σ H1 { s1 with heap:=s1.heap.push { cls:=.type "range",data:=.fields #[.int 0 s1.toks,.int j t,.int 1 (s1.toks+1)] },toks:=s1.toks+1+1 }:=I1.kept fun b o e=>Heap.get?_push_of_some _ e
  refine wpAny_pure ?_
  have hsz:Builtin.Range.rangeSize 0 j 1=((j.toNat:Nat):Int):=by rw [rangeSize_one];split<;>omega
  refine call_list_range hA (IsRange.new ..) (small_one (by omega) (by omega) (by omega) (by omega)) hsz (by omega) fun h' tk acc c' hk hnew hit=>?_
  have hvals:Vals ((List.range j.toNat).map fun i=>V.int (i:Nat)) acc.toList:=by
   have hl:acc.toList.length=j.toNat:=by rw [Array.length_toList];exact hit.1
   rw [← hl,List.range_eq_range']
   refine ui acc.toList 0 fun i v e=>?_
   obtain ⟨t2,rfl⟩:=hit.2 i v (by simpa using e)
   exact ⟨t2,by congr 1;omega⟩
  refine ⟨.ref _,_,I2.laid (t':=tk) (o:=.lst ((List.range j.toNat).map fun i=>V.int (i:Nat))) hk (Nat.le_refl _) ⟨?_,acc.toList,c',hvals,?_⟩,rfl,q _ (I2.hok.fresh (Nat.le_refl _))⟩
  ·rw [List.length_map,List.length_range]
   exact Nat.le_of_lt (di (by omega))
  ·simpa using hnew
end
section
variable {X:Cx}
theorem zM:∀ {x y:V} {u:Value},RelV x u→RelV y u→x=y:=by
  intro x y u h1 h2
  cases x<;>cases y<;>simp only [RelV] at h1 h2<;>first
    | rfl
    | (subst h1;cases h2;done)
    | (subst h1;cases h2;rfl)
    | (obtain ⟨t,rfl⟩:=h1;cases h2;done)
    | (obtain ⟨t,rfl⟩:=h1;obtain ⟨t2,e⟩:=h2;cases e;rfl)
    | (obtain ⟨t,rfl⟩:=h1;obtain ⟨t2,e⟩:=h2;cases e;done)
    | (obtain ⟨t,rfl⟩:=h2;cases h1;done)
def zh (neg:Bool):R2:=fun x y H Q=>∃ (p:Addr) (vs:List V) (d:D) (ds:List D),y=.ref p∧H p=some (.lst vs)∧av H vs ds∧Rep H x d∧D.b_ ds≤50∧Q (.bl (if neg then !ds.any (fun e=>D.eqv e d) else ds.any fun e=>D.eqv e d)) H
theorem t5 {pins:List (Addr×Obj)} {σ:St} {H:Hp} {s:Shared} {p:Addr} {vs:List V} {d:D} {ds:List D} {x:V} {v:Value} (hu:X.A.units+64 < cLine) (I:Inv X pins σ H s) (rx:RelV x v) (hq:H p=some (.lst vs)) (rs:av H vs ds) (rd:Rep H x d) (hd:D.b_ ds≤50) :
  ∃ (its:List Value) (e:Value→Bool),s.heap.IsList p its.toArray∧(∀ y∈its.toArray,SeqAt.EqAt X.A.in1 s y v (e y))∧its.toArray.any e=ds.any fun e=>D.eqv e d:=by
 classical
 obtain ⟨its,r,pl,hz⟩:=I.list (SqL.of hq)
 have l1:=r.length
 have l2:=rs.length
 have key:∀ (j:Nat) (u:Value),its[j]?=some u→∃ (y:V) (e:D),vs[j]?=some y∧ds[j]?=some e∧RelV y u∧Rep H y e:=by
  intro j u hj
  have hlt:=(List.getElem?_eq_some_iff.mp hj).1
  have e1:vs[j]?=some (vs[j]'(by omega)):=List.getElem?_eq_getElem _
  obtain ⟨a1,b1,c1⟩:=r.get e1
  obtain ⟨f1,g1,k1⟩:=rs.get e1
  rw [hj] at b1
  cases b1
  exact ⟨_,f1,e1,g1,c1,k1⟩
 refine ⟨its,fun u=>decide (∃ (j:Nat) (y:V) (e:D),its[j]?=some u∧vs[j]?=some y∧ds[j]?=some e∧D.eqv e d=true),pl.isList,?_,?_⟩
 ·intro u hm
  have hm':u∈its:=by simpa using hm
  obtain ⟨j,hj⟩:=List.mem_iff_getElem?.mp hm'
  obtain ⟨y,e,h1,h2,h3,h4⟩:=key j u hj
  have q:=yE I 60 X.A.in1 y x u v e d (by show X.A.units+1+60 < cLine;omega) (Nat.le_trans (D.gh h2) (by omega)) h3 rx h4 rd
  have z:decide (∃ (j:Nat) (y:V) (e:D),its[j]?=some u∧vs[j]?=some y∧ds[j]?=some e∧D.eqv e d=true)=D.eqv e d:=by
   rw [Bool.eq_iff_iff,decide_eq_true_eq]
   refine ⟨fun ⟨j',y',e',g1,g2,g3,g4⟩=>?_,fun h=>⟨j,y,e,hj,h1,h2,h⟩⟩
   obtain ⟨y2,e2,k1,k2,k3,k4⟩:=key j' u g1
   rw [g2] at k1;cases k1
   rw [g3] at k2;cases k2
   have:=zM h3 k3
   subst this
   rw [Rep.inj h4 k4]
   exact g4
  show SeqAt.EqAt X.A.in1 s u v (decide _)
  rw [z]
  exact q
 ·rw [List.any_toArray,Bool.eq_iff_iff,List.any_eq_true,List.any_eq_true]
  constructor
  ·rintro ⟨u,hu',h⟩
   obtain ⟨j,y,e,g1,g2,g3,g4⟩:=of_decide_eq_true h
   exact ⟨e,List.mem_of_getElem? g3,g4⟩
  ·rintro ⟨e,he,h⟩
   obtain ⟨j,hj⟩:=List.mem_iff_getElem?.mp he
   have hlt:=(List.getElem?_eq_some_iff.mp hj).1
   have e1:its[j]?=some (its[j]'(by omega)):=List.getElem?_eq_getElem _
   obtain ⟨y,e',h1,h2,h3,h4⟩:=key j _ e1
   exact ⟨_,List.mem_of_getElem? e1,decide_eq_true ⟨j,y,e,e1,h1,hj,h⟩⟩
theorem DR (hu:X.A.units+64 < cLine):OpR X (compareOp .In) (zh false):=by
 intro pins s σ H x y v u Q I rx ry h
 obtain ⟨p,vs,d,ds,rfl,hq,rs,rd,hd,q⟩:=h
 cases ry
 obtain ⟨its,e,h1,h2,h3⟩:=t5 hu I rx hq rs rd hd
 refine SeqAt.in_listAt e h1 h2 ⟨.bl _,H,I,rfl,?_⟩
 rw [h3]
 exact q
theorem wq (hu:X.A.units+64 < cLine):OpR X (compareOp .NotIn) (zh true):=by
 intro pins s σ H x y v u Q I rx ry h
 obtain ⟨p,vs,d,ds,rfl,hq,rs,rd,hd,q⟩:=h
 cases ry
 obtain ⟨its,e,h1,h2,h3⟩:=t5 hu I rx hq rs rd hd
 refine SeqAt.notIn_listAt e h1 h2 ⟨.bl _,H,I,rfl,?_⟩
 rw [h3]
 exact q
end
section
variable {prog:Program} {w:World} {A:Around} {E:Value→Shared→Prop} {s:Shared}
abbrev zL (h:Heap) (t:Addr):Heap:=h.push { cls:=.type "list_iterator",data:=.fields #[.ref t,.int 0 0] }
abbrev yTT (h:Heap) (t u:Addr):Heap:=zT (zL h t) u
abbrev yPI (h:Heap) (t u:Addr):Heap:=(yTT h t u).push { cls:=.type "tuple",data:=.seq #[.ref h.objs.size,.ref (zL h t).objs.size] }
abbrev yPO (h:Heap) (t u:Addr):Heap:=(yPI h t u).push { cls:=.type "tuple",data:=.seq #[.none,.none] }
abbrev oG (h:Heap) (t u:Addr):Heap:=(yPO h t u).push { cls:=.type "zip",data:=.fields #[.none,.bool false,.bool false,.ref (yTT h t u).objs.size,.ref (yPI h t u).objs.size] }
theorem AR (t u:Addr) (xs ys:Array Value):Meets (Builtin.«zip.__new__» ⟨[.type "zip",.ref t,.ref u],[]⟩) (fun _ R s=>s.heap.IsList t xs∧s.heap.IsTuple u ys∧R (.ok (.ret (.ref (yPO s.heap t u).objs.size))) { s with heap:=oG s.heap t u }):=
 .of_wp fun prog w A R s h=>by
  obtain ⟨hp,g,d,tk,os⟩:=s
  obtain ⟨ht,hu,h⟩:=h
  have hsub:=sub_zip
  have h1:Heap.IsList (Shared.heap ⟨hp,g,d,tk,os⟩) t xs:=ht
  have h2:Heap.IsTuple (Shared.heap ⟨hp.push { cls:=.type "list_iterator",data:=.fields #[.ref t,.int 0 0] },g,d,tk,os⟩) u ys:=by
   obtain ⟨o,e,r⟩:=hu
   exact ⟨o,Heap.get?_push_of_some _ e,r⟩
  wp_walk using wpAny_pyIter_list h1,wpAny_pyIter_tuple h2
  exact ⟨_,rfl,h⟩
theorem wR {t u:Addr} {xs ys:Array Value} {Q:Value→Shared→Prop} (ht:s.heap.IsList t xs) (hu:s.heap.IsTuple u ys)
  (h:∀ h',IsZip h' (s.heap.objs.size+4) (s.heap.objs.size+2) (s.heap.objs.size+3) .none→IsPair h' (s.heap.objs.size+2) (.ref s.heap.objs.size) (.ref (s.heap.objs.size+1))→IsPair h' (s.heap.objs.size+3) .none .none →
   h'.IsListIter s.heap.objs.size t 0→h'.IsTupleIter (s.heap.objs.size+1) u 0→(∀ c o,s.heap.get? c=some o→h'.get? c=some o)→Q (.ref (s.heap.objs.size+4)) { s with heap:=h' }) :
  wpAny (model prog w) A (call (.type "zip") [.ref t,.ref u]) Q E s:=by
 refine callType_new F.called_zip (by decide) (F.typeCall_zip_2 _ _) (F.newCall_zip_2 _ _) (fun obj=>F.args_object_init_3 obj _ _) F.entry_zip_new (AR t u xs ys) ⟨ht,hu,?_⟩
 have s1:(zL s.heap t).objs.size=s.heap.objs.size+1:=Heap.size_push ..
 have s2:(yTT s.heap t u).objs.size=s.heap.objs.size+2:=by rw [Heap.size_push,s1]
 have s3:(yPI s.heap t u).objs.size=s.heap.objs.size+3:=by rw [Heap.size_push,s2]
 have s4:(yPO s.heap t u).objs.size=s.heap.objs.size+4:=by rw [Heap.size_push,s3]
 have g5:(oG s.heap t u).get? (yPO s.heap t u).objs.size=some _:=Heap.get?_push_size _ rfl
 have g4:(oG s.heap t u).get? (yPI s.heap t u).objs.size=some _:=Heap.get?_push_of_some _ (Heap.get?_push_size _ rfl)
 have g3:(oG s.heap t u).get? (yTT s.heap t u).objs.size=some _:=Heap.get?_push_of_some _ (Heap.get?_push_of_some _ (Heap.get?_push_size _ rfl))
 have g2:(oG s.heap t u).get? (zL s.heap t).objs.size=some _:=Heap.get?_push_of_some _ (Heap.get?_push_of_some _ (Heap.get?_push_of_some _ (Heap.get?_push_size _ rfl)))
 have g1:(oG s.heap t u).get? s.heap.objs.size=some _:=Heap.get?_push_of_some _ (Heap.get?_push_of_some _ (Heap.get?_push_of_some _ (Heap.get?_push_of_some _ (Heap.get?_push_size _ rfl))))
 show _∧_
 rw [s2,s3,s4] at g5
 rw [s1,s2] at g3
 rw [s3] at g4
 rw [s1] at g2
 rw [s4]
 exact ⟨⟨_,g5,rfl⟩,h _ g5 g3 g4 ⟨_,g1,rfl,rfl⟩ ⟨_,g2,rfl,rfl⟩ fun c o q=>Heap.get?_push_of_some _ (Heap.get?_push_of_some _ (Heap.get?_push_of_some _ (Heap.get?_push_of_some _ (Heap.get?_push_of_some _ q))))⟩
end
def Ity (t u:Addr):It:=
  ⟨fun i H=>∃ xs ys x y,H t=some (.lst xs)∧H u=some (.tup ys)∧xs[i]?=some x∧ys[i]?=some y,fun i H v H'=>∃ p x y,H p=none∧v=.ref p∧H'=upd H p (.tup [x,y])∧(∀ xs,H t=some (.lst xs)→xs[i]?=some x)∧∀ ys,H u=some (.tup ys)→ys[i]?=some y,
   fun i H=>∃ xs ys,H t=some (.lst xs)∧H u=some (.tup ys)∧i≤xs.length∧i≤ys.length∧(i=xs.length∨i=ys.length)⟩
theorem yS {P:Program} {w:World} {K:PySem.W.Frag} {es:List Expr} {kk:Nat} {tp:Pos} (t u N:Addr) :
  Turn P w K (.Tuple es kk tp) (Ity t u) [N+4,N+2,N+3,N,N+1] (N+4)
   (fun i h=>IsZip h (N+4) (N+2) (N+3) .none∧IsPair h (N+2) (.ref N) (.ref (N+1))∧(∃ a b,IsPair h (N+3) a b)∧h.IsListIter N t i∧h.IsTupleIter (N+1) u i) where
 mem:=by simp
 obj:=fun i h st b hb=>by
  obtain ⟨h1,h2,⟨x,y,h3⟩,⟨o4,h4,_,d4⟩,⟨o5,h5,_,d5⟩⟩:=st
  simp only [List.mem_cons,List.not_mem_nil,or_false] at hb
  rcases hb with z | z | z | z | z
  ·rw [z];exact ⟨_,h1,fun v z=>by
    have z':Data.fields _=Data.cell v:=z
    cases z'⟩
  ·rw [z];exact ⟨_,h2,fun v z=>by
    have z':Data.seq _ _=Data.cell v:=z
    cases z'⟩
  ·rw [z];exact ⟨_,h3,fun v z=>by
    have z':Data.seq _ _=Data.cell v:=z
    cases z'⟩
  ·rw [z];exact ⟨o4,h4,fun v z=>by rw [d4] at z;cases z⟩
  ·rw [z];exact ⟨o5,h5,fun v z=>by rw [d5] at z;cases z⟩
 keep:=fun i h h' st k=>by
  obtain ⟨h1,h2,⟨x,y,h3⟩,h4,h5⟩:=st
  exact ⟨k _ (by simp) _ h1,k _ (by simp) _ h2,⟨x,y,k _ (by simp) _ h3⟩,h4.at fun o q=>k _ (by simp) o q,h5.at fun o q=>k _ (by simp) o q⟩
 item:=by
  intro X hP hw hK hc i pins s σ H E I hf st hg
  subst hP hw hK
  obtain ⟨h1,h2,⟨a0,b0,h3⟩,h4,h5⟩:=st
  obtain ⟨xs,ys,x,y,hx,hy,ex,ey⟩:=hg
  obtain ⟨its,rv,p,hz⟩:=I.list (SqL.of hx)
  obtain ⟨its2,rv2,p2,hz2⟩:=I.tuple (SqT.of hy)
  obtain ⟨a,ha,ra⟩:=rv.get ex
  obtain ⟨b,hb,rb⟩:=rv2.get ey
  have D0:=jX (N:=N) (t:=t) (u:=u) (fun c hc e=>by rw [e,(hf c hc).1] at hx;cases hx) (fun c hc e=>by rw [e,(hf c hc).1] at hy;cases hy)
  have hA:X.A.in1.handled=none:=I.ok.hd hc
  have tn:t≠N:=fun e=>by rw [e,(hf N (by simp)).1] at hx;cases hx
  have un:u≠N+1:=fun e=>by rw [e,(hf (N+1) (by simp)).1] at hy;cases hy
  have la:i < its.toArray.size:=by
   have:=(List.getElem?_eq_some_iff.mp ha).1
   simpa using this
  have lb:i < its2.toArray.size:=by
   have:=(List.getElem?_eq_some_iff.mp hb).1
   simpa using this
  refine j_ D0 (Draws.list (prog:=X.prog) (w:=X.w) hA N t tn its.toArray) (cT (prog:=X.prog) (w:=X.w) hA (N+1) u un its2.toArray) h1 (.inl rfl) h2 h3 ⟨h4,p.isList⟩ ⟨h5,p2⟩ la lb fun x' y' g1 tk px py z1 z2 z3 z4 z5 z6 z7 k1=>?_
  obtain rfl:x'=a:=by
   have e:its.toArray[i]?=some x':=px
   rw [List.getElem?_toArray,ha] at e
   exact (Option.some.inj e).symm
  obtain rfl:y'=b:=by
   have e:its2.toArray[i]?=some y':=py
   rw [List.getElem?_toArray,hb] at e
   exact (Option.some.inj e).symm
  refine ⟨_,rfl,wpAny_letOwnedTupleGo_zip (s:={ s with heap:=g1,toks:=tk }) z1 fun g2 y1 e2=>?_⟩
  replace e2:Heap.SameBut (N+4) g1 g2:=e2
  have hl4:N+4 < s.heap.objs.size:=Heap.lt_size h1
  have d:∀ i j:Nat,i≠j→(N+i:Nat)≠N+j:=fun i j h e=>h (Nat.add_left_cancel e)
  have ht2:IsPair g2 s.heap.objs.size x' y':=e2.extBut _ _ (Nat.ne_of_gt hl4) z6
  have k2:∀ c o,c∉[N+4,N+2,N+3,N,N+1]→s.heap.get? c=some o→g2.get? c=some o:=fun c o hc q=>by
   have c4:c≠N+4:=fun z=>hc (by simp [z])
   have c3:c≠N+3:=fun z=>hc (by simp [z])
   have c0:c≠N:=fun z=>hc (by simp [z])
   have c1:c≠N+1:=fun z=>hc (by simp [z])
   exact e2.extBut c o c4 (k1 c o c4 c3 c0 c1 q)
  have I2:Inv X pins σ (upd H s.heap.objs.size (.tup [x,y])) { s with heap:=g2,toks:=tk }:=by
   refine I.jf (fp:=[N+4,N+2,N+3,N,N+1]) (Nat.le_refl _) k2 hf ?_
   exact ⟨by show 2≤sizeLine;decide,[x',y'],.cons ra (.cons rb .nil),⟨_,ht2,rfl,_,rfl⟩⟩
  refine ⟨.ref s.heap.objs.size,_,I2,rfl,⟨s.heap.objs.size,x,y,I.hok.fresh (Nat.le_refl _),rfl,rfl,fun zs hy=>?_,fun zs hy'=>?_⟩,⟨y1,e2.extBut _ _ (d 2 4 (by decide)) z2,⟨_,_,e2.extBut _ _ (d 3 4 (by decide)) z3⟩,z4.1.extBut e2.extBut (d 0 4 (by decide)),z5.1.extBut e2.extBut (d 1 4 (by decide))⟩,fun b hb=>?_⟩
  ·rw [hx] at hy;cases hy;exact ex
  ·rw [hy] at hy';cases hy';exact ey
  ·have hlt:b < s.heap.objs.size:=by
    simp only [List.mem_cons,List.not_mem_nil,or_false] at hb
    rcases hb with z | z | z | z | z
    ·rw [z];exact hl4
    ·rw [z];exact Heap.lt_size h2
    ·rw [z];exact Heap.lt_size h3
    ·obtain ⟨o,q,_⟩:=h4;rw [z];exact Heap.lt_size q
    ·obtain ⟨o,q,_⟩:=h5;rw [z];exact Heap.lt_size q
   rw [aI (Nat.ne_of_lt hlt)]
   exact (hf b hb).1
 done:=by
  intro X hP hw hK hc i pins s σ H E I hf st hg
  subst hP hw hK
  obtain ⟨h1,h2,⟨a0,b0,h3⟩,h4,h5⟩:=st
  obtain ⟨xs,ys,hx,hy,lx,ly,hend⟩:=hg
  obtain ⟨its,rv,p,hz⟩:=I.list (SqL.of hx)
  obtain ⟨its2,rv2,p2,hz2⟩:=I.tuple (SqT.of hy)
  have D0:=jX (N:=N) (t:=t) (u:=u) (fun c hc e=>by rw [e,(hf c hc).1] at hx;cases hx) (fun c hc e=>by rw [e,(hf c hc).1] at hy;cases hy)
  have hA:X.A.in1.handled=none:=I.ok.hd hc
  have tn:t≠N:=fun e=>by rw [e,(hf N (by simp)).1] at hx;cases hx
  have un:u≠N+1:=fun e=>by rw [e,(hf (N+1) (by simp)).1] at hy;cases hy
  have l1:=rv.length
  have l2:=rv2.length
  refine lZ D0 (Draws.list (prog:=X.prog) (w:=X.w) hA N t tn its.toArray) (cT (prog:=X.prog) (w:=X.w) hA (N+1) u un its2.toArray) h1 (.inl rfl) h2 h3 ⟨h4,p.isList⟩ ⟨h5,p2⟩ ?_ fun h' tk hk=>⟨rfl,?_⟩
  ·simp only [List.size_toArray]
   omega
  ·refine I.tT (fp:=[N+4,N+2,N+3,N,N+1]) (fun c o hc q=>?_) hf
   exact hk c o (fun z=>hc (by simp [z])) (fun z=>hc (by simp [z])) (fun z=>hc (by simp [z])) (fun z=>hc (by simp [z])) q
 self:=fun _ _ _ _ _ st h=>wpAny_pyIter_zip st.1 h
end L2
namespace ZS
open PySem
def Ri (l:List Nat):Prop:=l.Pairwise (· < ·)
theorem vw (xs:Array Nat) (j p:Nat) (h1:∀ i,i < p→xs.getD i j < j) (h2:∀ i,p≤i→i < xs.size→¬xs.getD i j < j):∀ (fuel lo hi:Nat),lo≤p→p≤hi→hi≤xs.size→hi - lo≤fuel→SetTable.below.go xs j fuel lo hi=p
 | 0,lo,hi,a,b,c,d=>by rw [SetTable.below.go];omega
 | fuel+1,lo,hi,a,b,c,d=>by
  rw [SetTable.below.go]
  by_cases hl:lo < hi
  ·rw [if_pos hl]
   dsimp only
   have m1:lo≤(lo+hi) / 2:=by omega
   have m2:(lo+hi) / 2 < hi:=by omega
   by_cases hm:xs.getD ((lo+hi) / 2) j < j
   ·rw [if_pos hm]
    have:(lo+hi) / 2 < p:=by
     refine Nat.lt_of_not_le fun z=>?_
     exact h2 _ z (by omega) hm
    exact vw xs j p h1 h2 fuel _ _ (by omega) b c (by omega)
   ·rw [if_neg hm]
    have:p≤(lo+hi) / 2:=by
     refine Nat.le_of_not_lt fun z=>?_
     exact hm (h1 _ z)
    exact vw xs j p h1 h2 fuel _ _ a this (by omega) (by omega)
  ·rw [if_neg hl];omega
theorem getD_list {l:List Nat} {i j:Nat} (h:i < l.length):l.toArray.getD i j=l[i]:=by simp [Array.getD,h]
theorem below_at {l:List Nat} {j p:Nat} (hp:p≤l.length) (h1:∀ i (h:i < l.length),i < p→l[i] < j) (h2:∀ i (h:i < l.length),p≤i→j≤l[i]):SetTable.below l.toArray j=p:=by
 unfold SetTable.below
 refine vw l.toArray j p (fun i hi=>?_) (fun i hi hs=>?_) _ _ _ (Nat.zero_le _) (by simpa using hp) (Nat.le_refl _) (by omega)
 ·rw [getD_list (by omega)];exact h1 i (by omega) hi
 ·rw [getD_list (by simpa using hs)]
  have:=h2 i (by simpa using hs) hi
  omega
theorem qo {l:List Nat} (h:Ri l) {i k:Nat} (hk:k < l.length) (hi:i < k):l[i] < l[k]:=List.pairwise_iff_getElem.mp h i k (by omega) hk hi
theorem wQ {l:List Nat} (h:Ri l) (j:Nat):∃ p,p≤l.length∧SetTable.below l.toArray j=p∧(∀ x∈l.take p,x < j)∧(∀ x∈l.drop p,j≤x):=by
 induction l with
 | nil=>exact ⟨0,Nat.le_refl _,below_at (Nat.le_refl _) (fun i h=>by simp at h) (fun i h=>by simp at h),by simp,by simp⟩
 | cons a l ih=>
  obtain ⟨h1,h2⟩:=List.pairwise_cons.mp h
  obtain ⟨p,hp,_,ha,hb⟩:=ih h2
  by_cases hj:a < j
  ·have q1:∀ x∈(a :: l).take (p+1),x < j:=by
    intro x hx
    rw [List.take_succ_cons] at hx
    rcases List.mem_cons.mp hx with e | e
    ·omega
    ·exact ha x e
   have q2:∀ x∈(a :: l).drop (p+1),j≤x:=by
    intro x hx
    rw [List.drop_succ_cons] at hx
    exact hb x hx
   refine ⟨p+1,by simp;omega,below_at (by simp;omega) (fun i hi hip=>?_) (fun i hi hip=>?_),q1,q2⟩
   ·refine q1 _ ?_
    rw [List.mem_iff_getElem]
    exact ⟨i,by rw [List.length_take];simp at hi ⊢;omega,by rw [List.getElem_take]⟩
   ·refine q2 _ ?_
    rw [List.mem_iff_getElem]
    exact ⟨i - (p+1),by simp at hi ⊢;omega,by rw [List.getElem_drop];congr 1;omega⟩
  ·have q2:∀ x∈a :: l,j≤x:=by
    intro x hx
    rcases List.mem_cons.mp hx with e | e
    ·omega
    ·have:=h1 x e;omega
   refine ⟨0,Nat.zero_le _,below_at (Nat.zero_le _) (fun i hi hip=>by omega) (fun i hi _=>q2 _ (List.getElem_mem hi)),by simp,by simpa using q2⟩
theorem pb {l:List Nat} (h:Ri l) {i:Nat} (hi:i < l.length):SetTable.below l.toArray (l[i]+1)=i+1∧SetTable.below l.toArray l[i]=i:=by
 constructor
 ·refine below_at (by omega) (fun k hk hki=>?_) (fun k hk hki=>?_)
  ·by_cases e:k=i
   ·subst e;omega
   ·have:=qo h hi (show k < i by omega);omega
  ·have:=qo h hk (show i < k by omega);omega
 ·refine below_at (by omega) (fun k hk hki=>qo h hi hki) (fun k hk hki=>?_)
  by_cases e:k=i
  ·subst e;omega
  ·have:=qo h hk (show i < k by omega);omega
theorem uV {l:List Nat}:SetTable.below l.toArray 0=0:=below_at (Nat.zero_le _) (fun i hi h=>by omega) (fun i hi _=>Nat.zero_le _)
theorem wM {l:List Nat} (h:Ri l) {j p:Nat} (hj:j∉l) (ha:∀ x∈l.take p,x < j) (hb:∀ x∈l.drop p,j≤x):Ri (l.take p++j :: l.drop p):=by
 have hs:Ri (l.take p++l.drop p):=by rw [List.take_append_drop];exact h
 obtain ⟨s1,s2,s3⟩:=List.pairwise_append.mp hs
 refine List.pairwise_append.mpr ⟨s1,List.pairwise_cons.mpr ⟨fun x hx=>?_,s2⟩,fun x hx y hy=>?_⟩
 ·have:=hb x hx
  have:x≠j:=fun e=>hj (by rw [← e];exact List.mem_of_mem_drop hx)
  omega
 ·rcases List.mem_cons.mp hy with e | e
  ·rw [e];exact ha x hx
  ·exact s3 x hx y e
theorem slot_of {t:SetTable} {l:List Nat} (hp:t.place=l.toArray) (hr:Ri l) (hd:t.dummies=#[]) (j:Nat):(j∉l→t.slot j=.empty)∧(j∈l→∃ i,t.slot j=.live i):=by
 have hh:SetTable.has #[] j=false:=by simp [SetTable.has]
 constructor
 ·intro hj
  unfold SetTable.slot
  dsimp only
  rw [hp,hd,hh]
  have:(l.toArray[SetTable.below l.toArray j]? == some j)=false:=by
   rw [beq_eq_false_iff_ne]
   intro e
   rw [List.getElem?_toArray] at e
   exact hj (List.mem_of_getElem? e)
  rw [this]
  rfl
 ·intro hj
  obtain ⟨i,hi,rfl⟩:=List.mem_iff_getElem.mp hj
  refine ⟨i,?_⟩
  unfold SetTable.slot
  dsimp only
  rw [hp,(pb hr hi).2,List.getElem?_toArray,List.getElem?_eq_getElem hi]
  simp
def nxt (m i:Nat):Nat:=(i * 5+1) % (m+1)
def orb (m:Nat):Nat→Nat→Nat
 | 0,i=>i
 | n+1,i=>orb m n (nxt m i)
def marks (m:Nat):Nat→Nat→Nat→Nat
 | 0,_,acc=>acc
 | n+1,i,acc=>marks m n (nxt m i) (acc ||| (1 <<< i))
def full (m:Nat):Bool:=marks m (m+1) 0 0 == 2 ^ (m+1) - 1 && orb m (m+1) 0 == 0
theorem Hg:full 7=true:=by decide +kernel
theorem Ez:full 31=true:=by decide +kernel
theorem BJ:full 127=true:=by decide +kernel
theorem B1:full 511=true:=by decide +kernel
theorem pE {m:Nat}:∀ (n i acc e:Nat),(marks m n i acc).testBit e=true→acc.testBit e=true∨∃ k,k < n∧orb m k i=e
 | 0,i,acc,e,h=>.inl h
 | n+1,i,acc,e,h=>by
  rw [marks] at h
  rcases pE n _ _ e h with q | ⟨k,hk,q⟩
  ·rw [Nat.testBit_or,Bool.or_eq_true] at q
   rcases q with q | q
   ·exact .inl q
   ·refine .inr ⟨0,by omega,?_⟩
    rw [Nat.one_shiftLeft,Nat.testBit_two_pow] at q
    simpa [orb] using q
  ·exact .inr ⟨k+1,by omega,q⟩
theorem lA {m:Nat}:∀ (a b i:Nat),orb m (a+b) i=orb m b (orb m a i)
 | 0,b,i=>by simp [orb]
 | a+1,b,i=>by
  rw [show a+1+b=(a+b)+1 by omega,orb,lA a b,orb]
theorem A9 {m e:Nat} (hf:full m=true) (he:e≤m):∃ k,k≤m∧orb m k 0=e:=by
 unfold full at hf
 rw [Bool.and_eq_true,beq_iff_eq,beq_iff_eq] at hf
 have q:(marks m (m+1) 0 0).testBit e=true:=by
  rw [hf.1,Nat.testBit_two_pow_sub_one]
  simp;omega
 rcases pE _ _ _ _ q with z | ⟨k,hk,z⟩
 ·simp at z
 ·exact ⟨k,by omega,z⟩
theorem reach {m e i:Nat} (hf:full m=true) (he:e≤m) (hi:i≤m):∃ k,k≤m∧orb m k i=e:=by
 obtain ⟨a,ha,ea⟩:=A9 hf hi
 obtain ⟨b,hb,eb⟩:=A9 hf he
 have h0:orb m (m+1) 0=0:=by
  unfold full at hf
  rw [Bool.and_eq_true,beq_iff_eq,beq_iff_eq] at hf
  exact hf.2
 by_cases hab:a≤b
 ·refine ⟨b - a,by omega,?_⟩
  rw [← ea,← lA,show a+(b - a)=b by omega,eb]
 ·refine ⟨m+1 - a+b,by omega,?_⟩
  rw [← ea,← lA,show a+(m+1 - a+b)=(m+1)+b by omega,lA,h0,eb]
def lp (m:Nat):Nat→Nat×Nat→Nat×Nat
 | 0,x=>x
 | n+1,x=>lp m n (SetTable.leap m x.1 x.2)
theorem yL {m:Nat}:∀ (a b:Nat) (x:Nat×Nat),lp m (a+b) x=lp m b (lp m a x)
 | 0,b,x=>by simp [lp]
 | a+1,b,x=>by
  rw [show a+1+b=(a+b)+1 by omega,lp,yL a b,lp]
theorem uo {m:Nat}:∀ (n:Nat) (x:Nat×Nat),(lp m n x).2=x.2 / 32 ^ n
 | 0,x=>by simp [lp]
 | n+1,x=>by
  rw [lp,uo n]
  show x.2 / 32 / 32 ^ n=_
  rw [Nat.div_div_eq_div_mul,Nat.pow_succ,Nat.mul_comm]
theorem xt {m:Nat}:∀ (n i:Nat),lp m n (i,0)=(orb m n i,0)
 | 0,i=>rfl
 | n+1,i=>by
  rw [lp,orb]
  have:SetTable.leap m i 0=(nxt m i,0):=by simp [SetTable.leap,nxt]
  rw [this,xt n]
theorem HY {m:Nat} (x:Nat×Nat) (h:x.1≤m):∀ n,(lp m n x).1≤m:=by
 intro n
 induction n generalizing x with
 | zero=>exact h
 | succ n ih=>
  rw [lp]
  exact ih _ (by show _ % (m+1)≤m;have:=Nat.mod_lt (x.1 * 5+1+x.2 / 32) (show m+1 > 0 by omega);omega)
theorem tU {m e i p:Nat} (hf:full m=true) (he:e≤m) (hi:i≤m) (hp:p < 2 ^ 64):∃ k,k < SetTable.turns m∧(lp m k (i,p)).1=e:=by
 have h13:(lp m 13 (i,p)).2=0:=by
  rw [uo]
  exact Nat.div_eq_of_lt (Nat.lt_of_lt_of_le hp (by decide))
 obtain ⟨k,hk,ek⟩:=reach hf he (HY (i,p) hi 13)
 refine ⟨13+k,by unfold SetTable.turns;omega,?_⟩
 rw [yL]
 have z:lp m 13 (i,p)=((lp m 13 (i,p)).1,0):=by rw [← h13]
 rw [z,xt]
 exact ek
theorem tP (h:Int):SetTable.bits h < 2 ^ 64:=by
 unfold SetTable.bits
 have:=Int.emod_lt_of_pos h (show (0:Int) < 2 ^ 64 by decide)
 omega
theorem room {l:List Nat} {m:Nat} (hn:l.length≤m):∃ e,e≤m∧e∉l:=by
 refine Classical.byContradiction fun h=>?_
 have hall:∀ e∈List.range (m+1),e∈l:=fun e he=>Classical.byContradiction fun z=>h ⟨e,by have:=List.mem_range.mp he;omega,z⟩
 have:=List.Nodup.length_le_of_subset (List.nodup_range (n:=m+1)) hall
 rw [List.length_range] at this
 omega
theorem Ab {t:SetTable} {l:List Nat} (hp:t.place=l.toArray) (hr:Ri l) (hd:t.dummies=#[]) (h:Int) :
  ∀ (k:Nat) (fuel:Nat) (q:SetTable.Probe),q.dummy=none→q.more≤9→10 * k+q.more+1≤fuel→(lp t.mask k (q.i,q.perturb)).1∉l→(k=0→q.j=q.i∨q.j∉l)→(q.more≤9) →
   (k=0→q.j∉l)→∃ j,SetTable.probe.go t (fun _=>h+1) h fuel q=some (.empty j none)∧j∉l:=by
 intro k
 induction k with
 | zero=>
  intro fuel q h1 h2 h3 h4 h5 h6 h7
  obtain ⟨f,rfl⟩:∃ f,fuel=f+1:=⟨fuel - 1,by omega⟩
  refine ⟨q.j,?_,h7 rfl⟩
  rw [SetTable.probe.go,(slot_of hp hr hd q.j).1 (h7 rfl)]
  dsimp only
  rw [h1]
 | succ k ih=>
  intro fuel q h1 h2 h3 h4 h5 h6 h7
  have run:∀ (r fuel:Nat) (q:SetTable.Probe),q.more=r→q.dummy=none→10 * (k+1)+r+1≤fuel→(lp t.mask (k+1) (q.i,q.perturb)).1∉l→∃ j,SetTable.probe.go t (fun _=>h+1) h fuel q=some (.empty j none)∧j∉l:=by
   intro r
   induction r with
   | zero=>
    intro fuel q hm hdm hfu hl
    obtain ⟨f,rfl⟩:∃ f,fuel=f+1:=⟨fuel - 1,by omega⟩
    by_cases hj:q.j∈l
    ·obtain ⟨i,ei⟩:=(slot_of hp hr hd q.j).2 hj
     rw [SetTable.probe.go,ei]
     dsimp only
     have hne:(h+1 == h)=false:=by rw [beq_eq_false_iff_ne];omega
     rw [hne]
     have ha:t.advance q={ q with j:=(SetTable.leap t.mask q.i q.perturb).1,more:=SetTable.runEnd t.mask (SetTable.leap t.mask q.i q.perturb).1 - (SetTable.leap t.mask q.i q.perturb).1,i:=(SetTable.leap t.mask q.i q.perturb).1,perturb:=(SetTable.leap t.mask q.i q.perturb).2 }:=by
      unfold SetTable.advance
      rw [if_neg (by omega)]
     have hmore:(t.advance q).more≤9:=by
      rw [ha]
      dsimp only
      unfold SetTable.runEnd
      split<;>omega
     have hl':(lp t.mask k ((t.advance q).i,(t.advance q).perturb)).1∉l:=by rw [ha];exact hl
     refine ih f (t.advance q) (by rw [ha];exact hdm) hmore (by omega) hl' (fun _=>.inl (by rw [ha])) hmore fun hk=>?_
     rw [ha]
     dsimp only
     subst hk
     exact hl
    ·refine ⟨q.j,?_,hj⟩
     rw [SetTable.probe.go,(slot_of hp hr hd q.j).1 hj]
     dsimp only
     rw [hdm]
   | succ r ihr=>
    intro fuel q hm hdm hfu hl
    obtain ⟨f,rfl⟩:∃ f,fuel=f+1:=⟨fuel - 1,by omega⟩
    by_cases hj:q.j∈l
    ·obtain ⟨i,ei⟩:=(slot_of hp hr hd q.j).2 hj
     rw [SetTable.probe.go,ei]
     dsimp only
     have hne:(h+1 == h)=false:=by rw [beq_eq_false_iff_ne];omega
     rw [hne]
     have ha:t.advance q={ q with j:=q.j+1,more:=q.more - 1 }:=by
      unfold SetTable.advance
      rw [if_pos (by omega)]
     refine ihr f (t.advance q) (by rw [ha];dsimp only;omega) (by rw [ha];exact hdm) (by omega) (by rw [ha];exact hl)
    ·refine ⟨q.j,?_,hj⟩
     rw [SetTable.probe.go,(slot_of hp hr hd q.j).1 hj]
     dsimp only
     rw [hdm]
  exact run q.more fuel q rfl h1 h3 h4
theorem xS {t:SetTable} {l:List Nat} (hp:t.place=l.toArray) (hr:Ri l) (hd:t.dummies=#[]) (hf:full t.mask=true) (hn:l.length≤t.mask) (h:Int):∃ j,t.freeSlot h=some (j,false)∧j∉l:=by
 obtain ⟨e,he,hel⟩:=room hn
 have hi:SetTable.bits h % (t.mask+1)≤t.mask:=by have:=Nat.mod_lt (SetTable.bits h) (show t.mask+1 > 0 by omega);omega
 obtain ⟨k,hk,ek⟩:=tU hf he hi (tP h)
 have hmore:(t.probeStart h).more≤9:=by
  unfold SetTable.probeStart SetTable.runEnd
  dsimp only
  split<;>omega
 have q:=Ab hp hr hd h k (10 * SetTable.turns t.mask) (t.probeStart h) rfl hmore (by omega) (by
  show (lp t.mask k (SetTable.bits h % (t.mask+1),SetTable.bits h)).1∉l
  rw [ek];exact hel) (fun _=>.inl rfl) hmore (fun hk0=>by
   subst hk0
   show SetTable.bits h % (t.mask+1)∉l
   rw [show SetTable.bits h % (t.mask+1)=e from ek];exact hel)
 obtain ⟨j,ej,hj⟩:=q
 refine ⟨j,?_,hj⟩
 unfold SetTable.freeSlot SetTable.probe
 rw [ej]
 rfl
end ZS
namespace ZS
open PySem
theorem uk {m e:Nat} {owner:Array (Option Nat)} (he:owner.getD e (some 0)=none):∀ (k fuel i p:Nat),(lp m k (i,p)).1=e→k < fuel→∃ j,SetTable.layClean.free m owner fuel i p=some j∧owner.getD j (some 0)=none
 | k,0,i,p,_,h=>by omega
 | k,fuel+1,i,p,hk,h=>by
  rw [SetTable.layClean.free]
  cases hf:(List.range (SetTable.runEnd m i+1 - i)).find? fun k=>(owner.getD (i+k) (some 0)).isNone with
  | some x=>
   refine ⟨i+x,rfl,?_⟩
   have:=List.find?_some hf
   simpa using this
  | none=>
   have hno:=List.find?_eq_none.mp hf
   cases k with
   | zero=>
    have hi:i=e:=hk
    have:=hno 0 (List.mem_range.mpr (by unfold SetTable.runEnd;split<;>omega))
    rw [Nat.add_zero,hi,he] at this
    simp at this
   | succ k=>
    dsimp only
    exact uk he k fuel _ _ hk (by omega)
theorem qr {α β:Type} {f g:α→Option β}:∀ {l:List α},(∀ x∈l,f x=g x)→l.filterMap f=l.filterMap g
 | [],_=>rfl
 | a :: l,h=>by
  rw [List.filterMap_cons,List.filterMap_cons,h a (List.mem_cons_self ..),qr fun x hx=>h x (List.mem_cons_of_mem _ hx)]
def vals (m:Nat) (owner:Array (Option Nat)):List Nat:=(List.range (m+1)).filterMap fun j=>owner.getD j none
theorem zk (m:Nat):vals m (Array.replicate (m+1) none)=[]:=by
 unfold vals
 rw [List.filterMap_eq_nil_iff]
 intro j hj
 simp [Array.getD]
theorem z9 {m j k:Nat} {owner:Array (Option Nat)} (hs:owner.size=m+1) (hj:owner.getD j (some 0)=none):(vals m (owner.setIfInBounds j (some k))).Perm (k :: vals m owner):=by
 have hjs:j < owner.size:=by
  refine Nat.lt_of_not_le fun z=>?_
  simp [Array.getD,Nat.not_lt.mpr z] at hj
 have hjv:owner.getD j none=none:=by
  simp [Array.getD,hjs] at hj ⊢
  exact hj
 have hmem:j∈List.range (m+1):=List.mem_range.mpr (by omega)
 have pe:=List.perm_cons_erase hmem
 have nd:(List.range (m+1)).Nodup:=List.nodup_range
 unfold vals
 refine (pe.filterMap _).trans ?_
 refine List.Perm.trans ?_ ((pe.filterMap (fun j=>owner.getD j none)).cons k).symm
 rw [List.filterMap_cons,List.filterMap_cons]
 have e1:(owner.setIfInBounds j (some k)).getD j none=some k:=by simp [Array.getD,hjs]
 rw [e1,hjv]
 dsimp only
 refine List.Perm.cons k (List.Perm.of_eq ?_)
 refine qr fun x hx=>?_
 have hne:x≠j:=fun e=>by
  rw [e] at hx
  exact (List.Nodup.mem_erase_iff nd).mp hx |>.1 rfl
 simp only [Array.getD,Array.size_setIfInBounds]
 split
 ·rw [Array.getInternal_eq_getElem,Array.getInternal_eq_getElem,Array.getElem_setIfInBounds_ne (by assumption) (fun e=>hne e.symm)]
 ·rfl
theorem AG {m:Nat} {owner:Array (Option Nat)} (hs:owner.size=m+1) (h:(vals m owner).length≤m):∃ e,e≤m∧owner.getD e (some 0)=none:=by
 refine Classical.byContradiction fun hno=>?_
 have all:∀ j∈List.range (m+1),(owner.getD j none).isSome=true:=fun j hj=>by
  have hj':=List.mem_range.mp hj
  cases e:owner.getD j none with
  | some x=>rfl
  | none=>
   refine absurd ⟨j,by omega,?_⟩ hno
   simp [Array.getD,show j < owner.size by omega] at e ⊢
   exact e
 have len:∀ l:List Nat,(∀ j∈l,(owner.getD j none).isSome=true)→(l.filterMap fun j=>owner.getD j none).length=l.length:=by
  intro l
  induction l with
  | nil=>intro _;rfl
  | cons a l ih=>
   intro hl
   obtain ⟨x,hx⟩:=Option.isSome_iff_exists.mp (hl a (List.mem_cons_self ..))
   rw [List.filterMap_cons,hx]
   dsimp only
   rw [List.length_cons,List.length_cons,ih fun j hj=>hl j (List.mem_cons_of_mem _ hj)]
 have:=len _ all
 rw [List.length_range] at this
 unfold vals at h
 omega
def kX (m:Nat) (acc:Option (Array (Option Nat)×Nat)) (h:Int):Option (Array (Option Nat)×Nat):=do
  let (owner,k) ← acc
  let j ← SetTable.layClean.free m owner (SetTable.turns m) (SetTable.bits h % (m+1)) (SetTable.bits h)
  pure (owner.setIfInBounds j (some k),k+1)
theorem rB {m:Nat} (hf:full m=true):∀ (hs:List Int) (owner:Array (Option Nat)) (k:Nat),owner.size=m+1→(vals m owner).Perm (List.range k)→k+hs.length≤m →
  ∃ owner',hs.foldl (kX m) (some (owner,k))=some (owner',k+hs.length)∧owner'.size=m+1∧(vals m owner').Perm (List.range (k+hs.length))
 | [],owner,k,h1,h2,h3=>⟨owner,rfl,h1,by simpa using h2⟩
 | h :: hs,owner,k,h1,h2,h3=>by
  have hlen:(vals m owner).length=k:=by rw [h2.length_eq,List.length_range]
  obtain ⟨e,he,hen⟩:=AG h1 (by simp at h3;omega)
  have hi:SetTable.bits h % (m+1)≤m:=by have:=Nat.mod_lt (SetTable.bits h) (show m+1 > 0 by omega);omega
  obtain ⟨q,hq,eq⟩:=tU hf he hi (tP h)
  obtain ⟨j,ej,hj⟩:=uk (m:=m) hen q (SetTable.turns m) _ _ eq hq
  have st:kX m (some (owner,k)) h=some (owner.setIfInBounds j (some k),k+1):=by
   unfold kX
   show (SetTable.layClean.free m owner (SetTable.turns m) (SetTable.bits h % (m+1)) (SetTable.bits h)).bind _=_
   rw [ej]
   rfl
  have p2:(vals m (owner.setIfInBounds j (some k))).Perm (List.range (k+1)):=by
   refine (z9 h1 hj).trans ((h2.cons k).trans ?_)
   rw [List.range_succ]
   exact (List.perm_append_singleton k _).symm
  obtain ⟨o',a1,a2,a3⟩:=rB hf hs _ (k+1) (by rw [Array.size_setIfInBounds];exact h1) p2 (by simp at h3;omega)
  refine ⟨o',?_,a2,by simp only [List.length_cons];rw [show k+(hs.length+1)=k+1+hs.length by omega];exact a3⟩
  rw [List.foldl_cons,st,a1]
  simp only [List.length_cons]
  rw [show k+(hs.length+1)=k+1+hs.length by omega]
theorem tD {m:Nat} (hf:full m=true) (hs:Array Int) (hn:hs.size≤m):∃ owner,SetTable.layClean m hs=some owner∧owner.size=m+1∧(vals m owner).Perm (List.range hs.size):=by
 obtain ⟨o,a1,a2,a3⟩:=rB hf hs.toList (Array.replicate (m+1) none) 0 (by simp) (by rw [zk];simp) (by simpa using hn)
 refine ⟨o,?_,a2,by simpa using a3⟩
 unfold SetTable.layClean
 rw [← Array.foldl_toList]
 have:(fun (acc:Option (Array (Option Nat)×Nat)) (h:Int)=>(do
  let (owner,k) ← acc
  let j ← SetTable.layClean.free m owner (SetTable.turns m) (SetTable.bits h % (m+1)) (SetTable.bits h)
  pure (owner.setIfInBounds j (some k),k+1):Option (Array (Option Nat)×Nat)))=kX m:=rfl
 rw [this,a1]
 rfl
theorem jb (f:Nat→Option Nat):∀ l:List Nat,((l.filterMap fun j=>(f j).map (j,·)).map (·.1))=l.filter fun j=>(f j).isSome
 | []=>rfl
 | a :: l=>by
  rw [List.filterMap_cons,List.filter_cons]
  cases f a with
  | none=>simpa using jb f l
  | some x=>simp [jb f l]
theorem jl (f:Nat→Option Nat):∀ l:List Nat,((l.filterMap fun j=>(f j).map (j,·)).map (·.2))=l.filterMap f
 | []=>rfl
 | a :: l=>by
  rw [List.filterMap_cons,List.filterMap_cons]
  cases f a with
  | none=>simpa using jl f l
  | some x=>simp [jl f l]
theorem uy {α:Type}:∀ (xs:List α),(List.range xs.length).filterMap (fun i=>xs[i]?)=xs
 | []=>rfl
 | x :: xs=>by
  rw [List.length_cons,List.range_succ_eq_map,List.filterMap_cons]
  simp only [List.getElem?_cons_zero]
  rw [List.filterMap_map]
  have:((fun i=>(x :: xs)[i]?) ∘ Nat.succ)=fun i=>xs[i]?:=by funext i;simp
  rw [this,uy xs]
theorem Ao {t:SetTable} {es:Array (Int×Value)} {wanted:Nat} (hf:full (SetTable.sizeAbove wanted - 1)=true) (hn:es.size≤SetTable.sizeAbove wanted - 1) :
  ∃ es' t' l,relayAll t es wanted=(es',t',false)∧es'.toList.Perm es.toList∧t'.place=l.toArray∧Ri l∧l.length=es.size∧t'.dummies=#[]∧t'.mask=SetTable.sizeAbove wanted - 1∧t'.plain=t.plain∧t'.led=t.led:=by
 obtain ⟨owner,e1,e2,e3⟩:=tD hf (es.map (·.1)) (by simpa using hn)
 rw [Array.size_map] at e3
 generalize hm:SetTable.sizeAbove wanted - 1=m at *
 let f:Nat→Option Nat:=fun j=>owner.getD j none
 have r1:t.relaid (es.map (·.1)) wanted=some ({ mask:=m,place:=((List.range (m+1)).filter fun j=>(f j).isSome).toArray,dummies:=#[],finger:=t.finger,led:=t.led,moves:=t.movedTo m,plain:=t.plain },(vals m owner).toArray):=by
  unfold SetTable.relaid SetTable.laid
  rw [hm,e1]
  show some _=some _
  rw [← jb f,show vals m owner=(List.range (m+1)).filterMap f from rfl,← jl f]
 have po:((vals m owner).toArray.filterMap (fun (i:Nat)=>es[i]?)).toList.Perm es.toList:=by
  rw [Array.toList_filterMap]
  refine (e3.filterMap _).trans (List.Perm.of_eq ?_)
  have:(fun (i:Nat)=>es[i]?)=fun (i:Nat)=>es.toList[i]?:=by funext i;rw [Array.getElem?_toList]
  rw [this,← Array.length_toList,uy]
 have lpl:((List.range (m+1)).filter fun j=>(f j).isSome).length=es.size:=by
  rw [← jb f,List.length_map,← List.length_map (f:=(·.2)),jl f]
  show (vals m owner).length=es.size
  rw [e3.length_eq,List.length_range]
 have so:((vals m owner).toArray.filterMap (fun (i:Nat)=>es[i]?)).size=es.size:=by
  rw [← Array.length_toList,po.length_eq,Array.length_toList]
 refine ⟨_,{ mask:=m,place:=((List.range (m+1)).filter fun j=>(f j).isSome).toArray,dummies:=#[],finger:=t.finger,led:=t.led,moves:=t.movedTo m,plain:=t.plain },(List.range (m+1)).filter fun j=>(f j).isSome,?_,po,rfl,?_,lpl,rfl,rfl,rfl,rfl⟩
 ·unfold relayAll
  rw [r1]
  dsimp only
  have c1:coversAll (vals m owner).toArray es.size=true:=by
   unfold coversAll
   rw [List.isPerm_iff]
   exact e3
  have c2:SetTable.fits { mask:=m,place:=((List.range (m+1)).filter fun j=>(f j).isSome).toArray,dummies:=#[],finger:=t.finger,led:=t.led,moves:=t.movedTo m,plain:=t.plain } ((vals m owner).toArray.filterMap (fun (i:Nat)=>es[i]?)).size=true:=by
   unfold SetTable.fits SetTable.fill
   rw [so]
   simp only [List.size_toArray,lpl]
   simpa using hn
  rw [c1,c2]
  rfl
 ·exact List.Pairwise.filter _ List.pairwise_lt_range
end ZS
namespace ZS
open PySem
end ZS
namespace ZS
open PySem
end ZS
namespace L2
open PySem PySem.Spec PyProof.Rows ZS
def eV (m:Nat):Bool:=m == 7 || m == 31 || m == 127 || m == 511
theorem uI {m:Nat} (h:eV m=true):full m=true:=by
 simp only [eV,Bool.or_eq_true,beq_iff_eq] at h
 rcases h with ((h | h) | h) | h<;>subst h
 ·exact Hg
 ·exact Ez
 ·exact BJ
 ·exact B1
def iu (w:World) (h:Heap) (a:Addr) (ks:List Int):Prop:=
 ∃ (o:Obj) (es:Array (Int×Value)) (ep:Nat) (t:SetTable) (pl:List Nat),h.get? a=some o∧o.ExactSet∧o.data=.set es ep t∧eV t.mask=true∧t.dummies=#[]∧t.plain=true∧t.led=!(w.params.followText "set-order") ∧
  t.place=pl.toArray∧(Ri pl∧pl.length=ks.length∧ks.length * 5 < t.mask * 3)∧IntsAre (es.toList.map Prod.snd) ks∧(∀ e∈es.toList,∃ k,Value.isInt k e.2=true∧e.1=hashInt k)∧ks.Nodup∧ks.length≤300
theorem cz:∀ {vs:List Value} {ns:List Int},IntsAre vs ns→vs.length=ns.length
 | _,_,.nil=>rfl
 | _,_,.cons n t r=>by simp [cz r]
theorem fits_of {t:SetTable} {n:Nat} (h2:t.dummies=#[]) (h3:t.place.size=n) (hn:n≤t.mask):t.fits n=true:=by
 unfold SetTable.fits SetTable.fill
 rw [h2,h3]
 simp
 omega
theorem h9 {k:Int} {t:Tok}:Value.isInt k (.int k t)=true:=by simp [Value.isInt]
theorem isInt_iff {k j:Int} {t:Tok}:Value.isInt k (.int j t)=true↔k=j:=by
 constructor
 ·intro h
  obtain ⟨t',e⟩:=Value.isInt_shape h
  cases e;rfl
 ·rintro rfl;exact h9
theorem j8:∀ {es:List (Int×Value)} {ks:List Int} {k:Int},IntsAre (es.map Prod.snd) ks→(k∈ks↔(es.findIdx? fun e=>Value.isInt k e.2).isSome=true)
 | [],_,k,r=>by cases r;simp
 | e :: es,_,k,r=>by
  obtain ⟨h,v⟩:=e
  cases r with
  | cons n t r=>
   have ih:=j8 (k:=k) r
   rw [List.findIdx?_cons]
   by_cases hk:k=n
   ·subst hk
    simp [h9]
   ·have:Value.isInt k (.int n t)=false:=by rw [← Bool.not_eq_true,isInt_iff];exact hk
    simp only [this,List.mem_cons,hk,false_or]
    rw [ih]
    simp
theorem jA {α:Type} (xs:Array α) (p:Nat) (x:α) (hp:p≤xs.size):(SetTable.insertAt xs p x).toList=xs.toList.take p++x :: xs.toList.drop p:=by
 unfold SetTable.insertAt
 simp
 rw [List.take_of_length_le (by simp)]
section
variable {prog:Program} {w:World} {A:Around} {E:Value→Shared→Prop} {s:Shared}
theorem IntsAre.app:∀ {vs us:List Value} {ns ms:List Int},IntsAre vs ns→IntsAre us ms→IntsAre (vs++us) (ns++ms)
 | _,_,_,_,.nil,r=>r
 | _,_,_,_,.cons n t q,r=>.cons n t (IntsAre.app q r)
theorem IntsAre.Bl:∀ {vs:List Value} {ns:List Int} (p:Nat),IntsAre vs ns→IntsAre (vs.take p) (ns.take p)
 | _,_,0,_=>.nil
 | _,_,_+1,.nil=>.nil
 | _,_,p+1,.cons n t q=>.cons n t (IntsAre.Bl p q)
theorem IntsAre.Bd:∀ {vs:List Value} {ns:List Int} (p:Nat),IntsAre vs ns→IntsAre (vs.drop p) (ns.drop p)
 | _,_,0,r=>r
 | _,_,_+1,.nil=>.nil
 | _,_,p+1,.cons _ _ q=>IntsAre.Bd p q
theorem pQ:∀ {vs us:List Value},List.Perm vs us→∀ {ns:List Int},IntsAre us ns→∃ ms,IntsAre vs ms∧List.Perm ms ns:=by
 intro vs us hp
 induction hp with
 | nil=>intro ns r;exact ⟨ns,r,.refl _⟩
 | cons x _ ih=>
  intro ns r
  cases r with
  | cons n t r=>
   obtain ⟨ms,a,b⟩:=ih r
   exact ⟨n :: ms,.cons n t a,b.cons n⟩
 | swap x y l=>
  intro ns r
  cases r with
  | cons n t r=>cases r with
   | cons n' t' r=>exact ⟨n' :: n :: _,.cons n' t' (.cons n t r),.swap ..⟩
 | trans _ _ ih1 ih2=>
  intro ns r
  obtain ⟨ms,a,b⟩:=ih2 r
  obtain ⟨ms',a',b'⟩:=ih1 a
  exact ⟨ms',a',b'.trans b⟩
theorem Au {t':SetTable} {es':Array (Int×Value)} {n:Nat} (hm:eV t'.mask=true) (hn:es'.size=n) (h1:¬n * 5 < t'.mask * 3) (h2:n * 5 < t'.mask * 3+5) (h3:n≤300) :
  eV (SetTable.sizeAbove (SetTable.grown n) - 1)=true∧n * 5 < (SetTable.sizeAbove (SetTable.grown n) - 1) * 3:=by
 simp only [eV,Bool.or_eq_true,beq_iff_eq] at hm
 rcases hm with ((hm | hm) | hm) | hm<;>rw [hm] at h1 h2
 ·have:n=5:=by omega
  subst this;decide +kernel
 ·have:n=19:=by omega
  subst this;decide +kernel
 ·have:n=77:=by omega
  subst this;decide +kernel
 ·omega
theorem zX {a:Addr} {ks:List Int} {k:Int} {tk:Tok} {Q:Bool→Shared→Prop} (hS:iu w s.heap a ks) (hl:k∉ks→ks.length < 300)
  (h:∀ (h':Heap) (ks':List Int) (b:Bool),Heap.SameBut a s.heap h'→iu w h' a ks'→(∀ x,x∈ks'↔x∈ks∨x=k)→(k∈ks→ks'.length=ks.length)→(k∉ks→ks'.length=ks.length+1)→Q b { s with heap:=h',toks:=s.toks+1 }) :
  wpAny (model prog w) A (setAdd a (.int k tk)) Q E s:=by
 obtain ⟨o,es,ep,t,pl,g1,g2,g3,g4,g5,g6,g7,g8,g9,g10,g11,g12,g13⟩:=hS
 obtain ⟨g9,lpl,g14⟩:=g9
 have hmask:=uI g4
 have lks:es.size=ks.length:=by
  have:=cz g10
  rw [List.length_map,Array.length_toList] at this
  exact this
 have hmk:7≤t.mask:=by
  have q:=g4
  simp only [eV,Bool.or_eq_true,beq_iff_eq] at q
  omega
 have hfit:t.fits es.size=true:=fits_of g5 (by rw [g8,lks];simpa using lpl) (by omega)
 have hel:ElemsOf (intKind prog w) es.toList:=fun e he=>by
  obtain ⟨k',e1,e2⟩:=g11 e he
  refine ⟨⟨k',e1,e2⟩,?_⟩
  obtain ⟨t',e'⟩:=Value.isInt_shape e1
  rw [e'];rfl
 have hint:(intKind prog w).is k (.int k tk)=true:=h9 (k:=k) (t:=tk)
 unfold setAdd
 refine wpAny_holding (wpAny_bind ((intKind prog w).pyHash (k:=k) (v:=.int k tk) hint ?_))
 unfold setAddHashed
 refine wpAny_holding ?_
 show wpAny _ _ (setAddHashedIn a (.int k tk) _ (99999+1)) _ _ _
 rw [setAddHashedIn.eq_2]
 refine wpAny_bind (wpAny_setState_of g1 g3 hfit ?_)
 show wpAny _ _ (if byScan (.int k tk) es=true then _ else _) _ _ _
 rw [if_pos (byScan_of (knd:=intKind prog w) rfl (by unfold scanBound;omega) hel)]
 refine wpAny_bind ?_
 unfold setAddByScan
 refine wpAny_bind (wpAny_rule (wpAny_bind (wpAny_setScan_of (knd:=intKind prog w) (k:=k) hint g1 g3 hfit hel ?_)))
 have hfi:=j8 (k:=k) g10
 by_cases hm:k∈ks
 ·have hs:=hfi.mp hm
  cases hf:List.findIdx? (fun e=>(intKind prog w).is k e.snd) es.toList with
  | none=>
   have hf':List.findIdx? (fun e:Int×Value=>Value.isInt k e.2) es.toList=none:=hf
   rw [hf'] at hs;cases hs
  | some j=>
   refine wpAny_pure (wpAny_pure ?_)
   exact h s.heap ks false (Heap.SameBut.refl ..) ⟨o,es,ep,t,pl,g1,g2,g3,g4,g5,g6,g7,g8,⟨g9,lpl,g14⟩,g10,g11,g12,g13⟩ (fun x=>⟨.inl,fun z=>z.elim id fun e=>e ▸ hm⟩) (fun _=>rfl) (fun z=>absurd hm z)
 ·have hl3:=hl hm
  have hnone:List.findIdx? (fun e=>(intKind prog w).is k e.snd) es.toList=none:=by
   have hf':List.findIdx? (fun e:Int×Value=>Value.isInt k e.2) es.toList=none:=by
    cases hf:List.findIdx? (fun e:Int×Value=>Value.isInt k e.2) es.toList with
    | none=>rfl
    | some j=>exact absurd (hfi.mpr (by rw [hf];rfl)) hm
   exact hf'
  rw [hnone]
  obtain ⟨j,hfree,hjl⟩:=xS g8 g9 g5 hmask (show pl.length≤t.mask by omega) (hashInt k)
  obtain ⟨p,hple,hpb,hpa,hpc⟩:=wQ g9 j
  have hp:SetTable.below pl.toArray j=p:=hpb
  have les0:es.size=pl.length:=by omega
  have riN:Ri (pl.take p++j :: pl.drop p):=wM g9 hjl hpa hpc
  have liN:(SetTable.insertAt pl.toArray p j).toList=pl.take p++j :: pl.drop p:=by
   have:=jA pl.toArray p j (by simpa using hple)
   simpa using this
  refine show _ from ?_
  ·have hput:t.put j=({ mask:=t.mask,place:=SetTable.insertAt t.place p j,dummies:=#[],finger:=t.finger,led:=t.led,moves:=t.moves,plain:=t.plain },p):=by
    unfold SetTable.put
    rw [g8,hp,g5]
    rfl
   generalize ht':({ mask:=t.mask,place:=SetTable.insertAt t.place p j,dummies:=#[],finger:=t.finger,led:=t.led,moves:=t.moves,plain:=t.plain }:SetTable)=t' at hput
   have m1:t'.mask=t.mask:=by rw [← ht']
   have m2:t'.dummies=#[]:=by rw [← ht']
   have m3:t'.plain=true:=by rw [← ht'];exact g6
   have m4:t'.led=!(w.params.followText "set-order"):=by rw [← ht'];exact g7
   have m5:t'.place=(pl.take p++j :: pl.drop p).toArray:=by rw [← ht',g8,← liN]
   have lpl':(pl.take p++j :: pl.drop p).length=ks.length+1:=by simp;omega
   have les:(SetTable.insertAt es p (hashInt k,Value.int k tk)).toList=es.toList.take p++(hashInt k,Value.int k tk) :: es.toList.drop p:=jA _ _ _ (by omega)
   generalize hes:SetTable.insertAt es p (hashInt k,Value.int k tk)=es' at les
   have lsz:es'.size=ks.length+1:=by
    rw [← Array.length_toList,les]
    simp
    omega
   have hfit':t'.fits es'.size=true:=fits_of m2 (by rw [m5,lsz];simpa using lpl') (by omega)
   have hlay:layNew t es (hashInt k) (.int k tk)=(es',t',false,false):=by
    unfold layNew
    rw [hfree]
    simp only [hput,hes]
    unfold SetTable.orStandIn
    rw [if_pos hfit',hfit']
    rfl
   have hlay2:layNew t es ((intKind prog w).hash k) (.int k tk)=(es',t',false,false):=hlay
   rw [hlay2]
   dsimp only
   refine wpAny_bind (wpAny_pure ?_)
   rw [if_pos m3,hashByValue_scannable 8 (x:=.int k tk) rfl]
   refine wpAny_bind (wpAny_pure ?_)
   have hpk:plainKind (Value.int k tk)=true:=rfl
   rw [if_pos hpk]
   have h1000:(1000:Nat)≤sizeLine:=Nat.le_of_lt (di (Nat.le_refl 1000))
   have hsz:¬es'.size > sizeLine:=by rw [lsz];omega
   have i1:IntsAre (es'.toList.map Prod.snd) (ks.take p++k :: ks.drop p):=by
    rw [les,List.map_append,List.map_cons,List.map_take,List.map_drop]
    exact IntsAre.app (IntsAre.Bl p g10) (.cons k tk (IntsAre.Bd p g10))
   have i2:∀ e∈es'.toList,∃ k,Value.isInt k e.2=true∧e.1=hashInt k:=by
    intro e he
    rw [les] at he
    rcases List.mem_append.mp he with z | z
    ·exact g11 e (List.mem_of_mem_take z)
    ·rcases List.mem_cons.mp z with z | z
     ·rw [z];exact ⟨k,h9,rfl⟩
     ·exact g11 e (List.mem_of_mem_drop z)
   have hperm:List.Perm (ks.take p++k :: ks.drop p) (k :: ks):=by
    have:=List.perm_middle (a:=k) (l₁:=ks.take p) (l₂:=ks.drop p)
    rw [List.take_append_drop] at this
    exact this
   have kl:(ks.take p++k :: ks.drop p).length=ks.length+1:=by rw [hperm.length_eq];rfl
   have i3:(ks.take p++k :: ks.drop p).Nodup:=by
    rw [hperm.nodup_iff,List.nodup_cons]
    exact ⟨hm,g12⟩
   have i4:∀ x,x∈ks.take p++k :: ks.drop p↔x∈ks∨x=k:=by
    intro x
    rw [hperm.mem_iff,List.mem_cons]
    exact or_comm
   generalize hks:ks.take p++k :: ks.drop p=ks' at i1 kl i3 i4
   have hfill:t'.fill=ks.length+1:=by
    unfold SetTable.fill
    rw [m2,m5]
    simp only [List.size_toArray,lpl']
    rfl
   have putS:∀ (e2:Array (Int×Value)) (t2:SetTable) (o2:Obj) (e1:Array (Int×Value)) (n1:Nat) (t1:SetTable),o2.data=.set e1 n1 t1→Obj.putSet e2 t2 o2={ o2 with data:=.set e2 (n1+1) t2 }:=by
    intro e2 t2 o2 e1 n1 t1 hd
    obtain ⟨oc,od,oda,osl⟩:=o2
    have hd':oda=.set e1 n1 t1:=hd
    subst hd'
    rfl
   refine wpAny_bind ?_
   unfold storeSet
   refine wpAny_bind (wpAny_load' g1 ?_)
   rw [g3]
   dsimp only
   rw [if_neg hsz]
   refine wpAny_update' g1 ?_
   have hupd:=putS es' t' o es ep t g3
   have gN:(s.heap.update a (Obj.putSet es' t')).get? a=some { o with data:=.set es' (ep+1) t' }:=by
    rw [← hupd]
    exact Heap.get?_update_self _ g1 (by rw [hupd];rfl)
   have sbN:Heap.SameBut a s.heap (s.heap.update a (Obj.putSet es' t')):=Heap.SameBut.update ..
   by_cases hfull:(ks.length+1) * 5 < t.mask * 3
   ·have hf0:(!false && t'.tooFull)=false:=by
     unfold SetTable.tooFull
     rw [hfill,m1]
     simp
     omega
    rw [hf0]
    rw [if_neg (by simp)]
    refine wpAny_pure (wpAny_pure ?_)
    exact h _ ks' true sbN ⟨_,es',ep+1,t',_,gN,g2,rfl,by rw [m1];exact g4,m2,m3,m4,m5,⟨riN,by rw [lpl',kl],by rw [kl,m1];exact hfull⟩,i1,i2,i3,by omega⟩ i4 (fun z=>absurd z hm) (fun _=>kl)
   ·have hf1:(!false && t'.tooFull)=true:=by
     unfold SetTable.tooFull
     rw [hfill,m1]
     simp
     omega
    rw [hf1]
    rw [if_pos rfl]
    obtain ⟨w1,w2⟩:=Au (t':=t') (es':=es') (n:=ks.length+1) (by rw [m1];exact g4) lsz (by rw [m1];exact hfull) (by rw [m1];omega) (by omega)
    rw [lsz]
    obtain ⟨e2,t2,l2,r1,r2,r3,r4,r5,r6,r7,r8,r9⟩:=Ao (t:=t') (es:=es') (wanted:=SetTable.grown (ks.length+1)) (uI w1) (by rw [lsz];omega)
    rw [r1]
    dsimp only
    have lsz2:e2.size=ks.length+1:=by rw [← Array.length_toList,r2.length_eq,Array.length_toList,lsz]
    obtain ⟨ks2,j1,j2⟩:=pQ (r2.map Prod.snd) i1
    refine wpAny_bind (wpAny_pure ?_)
    refine wpAny_bind ?_
    refine wpAny_bind (wpAny_load' gN ?_)
    dsimp only
    rw [if_neg (by rw [lsz2];omega)]
    refine wpAny_update' gN ?_
    refine wpAny_pure (wpAny_pure ?_)
    have gM:((s.heap.update a (Obj.putSet es' t')).update a (Obj.putSet e2 t2)).get? a=some { o with data:=.set e2 (ep+1+1) t2 }:=by
     have hq:=putS e2 t2 { o with data:=.set es' (ep+1) t' } es' (ep+1) t' rfl
     rw [← hq]
     exact Heap.get?_update_self _ gN (by rw [hq];rfl)
    refine h _ ks2 true (sbN.trans (Heap.SameBut.update ..)) ⟨_,e2,ep+1+1,t2,l2,gM,g2,rfl,by rw [r7];exact w1,r6,by rw [r8];exact m3,by rw [r9];exact m4,r3,⟨r4,by rw [r5,lsz,j2.length_eq,kl],by rw [r7,j2.length_eq,kl];exact w2⟩,j1,fun e he=>i2 e (r2.mem_iff.mp he),j2.nodup_iff.mpr i3,by rw [j2.length_eq,kl];omega⟩ (fun x=>by rw [j2.mem_iff];exact i4 x) (fun z=>absurd z hm) (fun _=>by rw [j2.length_eq,kl])
end
section
variable {prog:Program} {w:World} {A:Around} {E:Value→Shared→Prop} {s:Shared}
theorem iu.at {h h':Heap} {S:Addr} {ks:List Int} (H:iu w h S ks) (k:∀ o,h.get? S=some o→h'.get? S=some o):iu w h' S ks:=by
 obtain ⟨o,es,ep,t,pl,g1,r⟩:=H
 exact ⟨o,es,ep,t,pl,k o g1,r⟩
theorem oZ {R:Result→Shared→Prop} {I:Addr} {fp wr:List Addr} {n:Nat} {P:Nat→Value→Prop} {St:Nat→Heap→Prop} (W:Walks prog w A.in1 I fp wr n P St) (S:Addr) (hSf:S∉fp) (val:Nat→Int) (hval:∀ i v,P i v→∃ t,v=Value.int (val i) t) (hn:n≤300) :
  ∀ (k i:Nat) (s:Shared) (ks:List Int),n - i=k→i≤n→St i s.heap→iu w s.heap S ks→(∀ x,x∈ks↔∃ j,j < i∧val j=x)→ks.length≤i →
   (∀ (h':Heap) (tk:Nat) (ks':List Int),(∀ b o,b≠S→b∉wr→s.heap.get? b=some o→h'.get? b=some o)→iu w h' S ks'→(∀ x,x∈ks'↔∃ j,j < n∧val j=x)→R (.ok (.ret .none)) { s with heap:=h',toks:=tk }) →
   codeAny (model prog w) A (Code.builtin "set.update.loop" ⟨[.ref S,.ref I],[]⟩) R s:=by
 have hSw:S∉wr:=fun h=>hSf (W.sub S h)
 intro k
 induction k with
 | zero=>
  intro i s ks hk hi hst hS hks hlen hR
  have hin:i=n:=by omega
  subst hin
  refine codeAny_builtin F.entry_set_update_loop ?_
  rw [Around.under_plainId F.plain_set_update_loop]
  refine (show wpAny _ _ (pyNext (.ref I)>>=_) _ _ _ from wpAny_bind (W.done s _ _ hst fun h' tk hk'=>?_))
  exact wpAny_pure (hR h' tk ks (fun b o _ hw e=>hk' b o hw e) (hS.at fun o e=>hk' S o hSw e) hks)
 | succ k ih=>
  intro i s ks hk hi hst hS hks hlen hR
  refine codeAny_builtin F.entry_set_update_loop ?_
  rw [Around.under_plainId F.plain_set_update_loop]
  refine (show wpAny _ _ (pyNext (.ref I)>>=_) _ _ _ from wpAny_bind (W.item i s _ _ (by omega) hst fun v h' tk hP hst' hk'=>?_))
  obtain ⟨t,rfl⟩:=hval i v hP
  refine (show wpAny _ _ (holding [Value.int (val i) t] (setAdd S (.int (val i) t))>>=_) _ _ _ from wpAny_bind (wpAny_holding ?_))
  refine zX (s:={ s with heap:=h',toks:=tk }) (hS.at fun o e=>hk' S o hSw e) (fun _=>by omega) fun h2 ks2 b sb hS2 hm l1 l2=>?_
  refine wpAny_pure ⟨plainId_quiet F.plain_set_update_loop _,ih (i+1) _ ks2 (by omega) (by omega) ?_ hS2 ?_ ?_ fun h3 tk3 ks3 q1 q2 q3=>?_⟩
  ·exact W.frame _ _ _ hst' fun b hb' o e=>sb.extBut b o (fun z=>hSf (z ▸ hb')) e
  ·intro x
   rw [hm,hks]
   constructor
   ·rintro (⟨j,h1,h2⟩ | rfl)
    ·exact ⟨j,by omega,h2⟩
    ·exact ⟨i,by omega,rfl⟩
   ·rintro ⟨j,h1,h2⟩
    by_cases e:j=i
    ·subst e;exact .inr h2.symm
    ·exact .inl ⟨j,by omega,h2⟩
  ·by_cases hin:val i∈ks
   ·have:=l1 hin;omega
   ·have:=l2 hin;omega
  ·exact hR h3 tk3 ks3 (fun b o hb1 hb2 e=>q1 b o hb1 hb2 (sb.extBut b o hb1 (hk' b o hb2 e))) q2 q3
theorem p6 (a:Value) {Q₁:Value→Shared→Prop}
  (h:Q₁ (.ref s.heap.objs.size) { s with heap:=s.heap.push { cls:=.type "set",data:=.set #[] 0 (SetTable.fresh 0 0 (!(w.params.followText "set-order"))) } }) :
  codeAny (model prog w) A (Code.call (.builtin "set.__new__") ⟨[.type "set",a],[]⟩) (wants Q₁ E) s:=by
 refine codeAny_of_tree ?_
 refine (show wpAny _ _ (checkBuiltinCall "set.__new__" ⟨[.type "set",a],[]⟩>>=_) _ _ _ from wpAny_bind (wpAny_of_eq (F.newCall_set_1 a) (wpAny_pure ⟨plainId_quiet F.plain_set_new _,codeAny_builtin F.entry_set_new ?_⟩)))
 rw [Around.under_plainId F.plain_set_new]
 have hsub:=sub_set_self
 refine (show wpAny _ _ (Builtin.Frozenset.newClass "set" _>>=_) _ _ _ from wpAny_bind ?_)
 unfold Builtin.Frozenset.newClass
 refine wpAny_bind (wpAny_pure ?_)
 refine wpAny_ite_false rfl (wpAny_bind (wpAny_of_eq hsub (wpAny_ite_false rfl (wpAny_pure ?_))))
 refine (show wpAny _ _ (newSet (.type "set")>>=_) _ _ _ from wpAny_bind ?_)
 unfold newSet
 refine wpAny_bind ?_
 unfold setsByText
 refine wpAny_bind (wpAny_askSetting (wpAny_pure ?_))
 exact (show wpAny _ _ (newObj (.type "set") (Data.set #[] 0 (SetTable.fresh 0 0 (!(w.params.followText "set-order"))))) _ _ _ from wpAny_newObj_type (wpAny_pure h) (by first | size_fits | (intro _;decide)))
theorem iC:∀ {vs:List Value} {ns:List Int} {i:Nat} {v:Value},IntsAre vs ns→vs[i]?=some v→∃ t,v=Value.int (ns.getD i 0) t
 | _,_,_,_,.nil,e=>by simp at e
 | _,_,0,_,.cons n t _,e=>⟨t,by simpa using e.symm⟩
 | _,_,i+1,v,.cons n t r,e=>by
  obtain ⟨t',e'⟩:=iC (i:=i) (v:=v) r (by simpa using e)
  exact ⟨t',by simpa using e'⟩
def rM (h:Heap) (l:Addr) (items:Array Value) (k:Bool):Prop:=if k=true then h.IsList l items else h.IsTuple l items
theorem w_ {S l:Addr} {items:Array Value} {ns:List Int} {F:PySem.Fin→Shared→Prop} {hp:Heap} {g:Array GenState} {d:Drawn} {tk:Nat} {os:OsState} (hh:A.handled=none) (hS:hp.get? S=some { cls:=.type "set",data:=.set #[] 0 (SetTable.fresh 0 0 (!(w.params.followText "set-order"))) }) (k:Bool) (hl:rM hp l items k) (hi:IntsAre items.toList ns) (hn:ns.length≤300)
    (h:∀ (h':Heap) (tk':Nat) (ks:List Int),iu w h' S ks→(∀ x,x∈ks↔x∈ns)→(∀ b o,b≠S→hp.get? b=some o→h'.get? b=some o)→F (.done (.ret .none)) ⟨h',g,d,tk',os⟩) :
    wpAny (model prog w) A (Builtin.«set.__init__» ⟨[.ref S,.ref l],[]⟩) F E ⟨hp,g,d,tk,os⟩:=by
  cases k with
  | false=>
    replace hl:hp.IsTuple l items:=hl
    have hT:Shared.TypeIs ⟨hp,g,d,tk,os⟩ (.ref S) "set":=⟨_,hS,rfl⟩
    have hTt:Shared.TypeIs ⟨hp,g,d,tk,os⟩ (.ref l) "tuple":=hl.typeIs
    unfold Builtin.«set.__init__»
    refine wpAny_bind ?_
    unfold noKeywords
    refine wpAny_ite_true rfl (wpAny_pure ?_)
    dsimp only
    refine wpAny_bind ?_
    unfold typeNameOfCut
    refine wpAny_bind ?_
    unfold shownTypeOf
    refine wpAny_bind (wpAny_typeOf hT ?_)
    first
    | refine wpAny_ite_false rfl (wpAny_pure ?_)
    | refine wpAny_pure ?_
    refine (show wpAny _ _ (pure _) _ _ _ from wpAny_pure ?_)
    refine wpAny_bind ?_
    unfold checkCount
    refine wpAny_ite_false rfl (wpAny_ite_false rfl (wpAny_ite_false rfl (wpAny_pure ?_)))
    refine wpAny_bind (wpAny_pure ?_)
    refine wpAny_bind ?_
    unfold setUsed
    refine wpAny_bind (wpAny_setState_of hS rfl (by rfl) (wpAny_pure ?_))
    refine wpAny_ite_false rfl ?_
    refine wpAny_bind ?_
    unfold Builtin.Frozenset.updateFrom
    refine wpAny_bind ?_
    unfold Builtin.Frozenset.isAnySet
    refine (show wpAny _ _ (isInstance (.ref l) (.type "set")>>=_) _ _ _ from wpAny_bind (wpAny_isInstance hTt PySem.F.sub_tuple_set ?_))
    refine (show wpAny _ _ (isInstance (.ref l) (.type "frozenset")) _ _ _ from wpAny_isInstance hTt PySem.F.sub_tuple_frozenset ?_)
    refine wpAny_ite_false rfl (wpAny_bind (wpAny_typeOf hTt (wpAny_ite_false rfl (wpAny_bind (wpAny_pyIter_tuple hl ?_)))))
    refine wpAny_bind (wpAny_runValue ?_)
    have hlt:S < hp.objs.size:=Heap.lt_size hS
    obtain ⟨o,ho,hor⟩:=hl
    have hlt2:l < hp.objs.size:=Heap.lt_size ho
    have hne:l≠hp.objs.size:=Nat.ne_of_lt hlt2
    have W:=Walks.tuple (prog:=prog) (w:=w) (A:=A.in1) hh hp.objs.size l hne items
    have lit:items.size=ns.length:=by rw [← Array.length_toList];exact cz hi
    have hSl:S≠l:=fun e=>by
      rw [e,ho] at hS
      cases hS
      exact absurd (Value.type.inj hor.1) (by decide)
    refine oZ W S (by simp only [List.mem_cons,List.not_mem_nil,or_false,not_or];exact ⟨Nat.ne_of_lt hlt,hSl⟩) (fun i=>ns.getD i 0) ?_ (by omega) items.size 0 _ [] (by omega) (Nat.zero_le _) ?_ ?_ ?_ (Nat.le_refl 0) ?_
    · intro i v hv
      exact iC hi (by simpa using hv)
    · exact ⟨⟨_,Heap.get?_push_size _ rfl,rfl,rfl⟩,⟨o,Heap.get?_push_of_some _ ho,hor⟩⟩
    · refine ⟨_,#[],0,_,[],Heap.get?_push_of_some _ hS,⟨rfl,rfl,rfl⟩,rfl,(show eV 7=true by decide),rfl,rfl,rfl,rfl,⟨List.Pairwise.nil,rfl,(show 0 * 5 < 7 * 3 by decide)⟩,.nil,by simp,List.nodup_nil,by simp⟩
    · intro x
      simp
    · intro h' tk' ks' q1 q2 q3
      refine wpAny_pure (wpAny_pure (h h' tk' ks' q2 ?_ ?_))
      · intro x
        rw [q3]
        constructor
        · rintro ⟨j,hj,rfl⟩
          show ns.getD j 0∈ns
          rw [List.getD_eq_getElem?_getD,List.getElem?_eq_getElem (show j < ns.length by omega)]
          exact List.getElem_mem _
        · intro hx
          obtain ⟨j,hj,e⟩:=List.mem_iff_getElem.mp hx
          refine ⟨j,by omega,?_⟩
          show ns.getD j 0=x
          rw [List.getD_eq_getElem?_getD,List.getElem?_eq_getElem hj]
          exact e
      · intro b o' hbS e
        refine q1 b o' hbS ?_ (Heap.get?_push_of_some _ e)
        simp only [List.mem_singleton]
        exact Nat.ne_of_lt (Heap.lt_size e)
  | true=>
    replace hl:hp.IsList l items:=hl
    have hT:Shared.TypeIs ⟨hp,g,d,tk,os⟩ (.ref S) "set":=⟨_,hS,rfl⟩
    have hTt:Shared.TypeIs ⟨hp,g,d,tk,os⟩ (.ref l) "list":=hl.typeIs
    unfold Builtin.«set.__init__»
    refine wpAny_bind ?_
    unfold noKeywords
    refine wpAny_ite_true rfl (wpAny_pure ?_)
    dsimp only
    refine wpAny_bind ?_
    unfold typeNameOfCut
    refine wpAny_bind ?_
    unfold shownTypeOf
    refine wpAny_bind (wpAny_typeOf hT ?_)
    first
    | refine wpAny_ite_false rfl (wpAny_pure ?_)
    | refine wpAny_pure ?_
    refine (show wpAny _ _ (pure _) _ _ _ from wpAny_pure ?_)
    refine wpAny_bind ?_
    unfold checkCount
    refine wpAny_ite_false rfl (wpAny_ite_false rfl (wpAny_ite_false rfl (wpAny_pure ?_)))
    refine wpAny_bind (wpAny_pure ?_)
    refine wpAny_bind ?_
    unfold setUsed
    refine wpAny_bind (wpAny_setState_of hS rfl (by rfl) (wpAny_pure ?_))
    refine wpAny_ite_false rfl ?_
    refine wpAny_bind ?_
    unfold Builtin.Frozenset.updateFrom
    refine wpAny_bind ?_
    unfold Builtin.Frozenset.isAnySet
    refine (show wpAny _ _ (isInstance (.ref l) (.type "set")>>=_) _ _ _ from wpAny_bind (wpAny_isInstance hTt PySem.F.sub_list_set ?_))
    refine (show wpAny _ _ (isInstance (.ref l) (.type "frozenset")) _ _ _ from wpAny_isInstance hTt PySem.F.sub_list_frozenset ?_)
    refine wpAny_ite_false rfl (wpAny_bind (wpAny_typeOf hTt (wpAny_ite_false rfl (wpAny_bind (wpAny_pyIter_list hl ?_)))))
    refine wpAny_bind (wpAny_runValue ?_)
    have hlt:S < hp.objs.size:=Heap.lt_size hS
    obtain ⟨o,ho,hor⟩:=hl
    have hlt2:l < hp.objs.size:=Heap.lt_size ho
    have hne:l≠hp.objs.size:=Nat.ne_of_lt hlt2
    have W:=Walks.list (prog:=prog) (w:=w) (A:=A.in1) hh hp.objs.size l hne items
    have lit:items.size=ns.length:=by rw [← Array.length_toList];exact cz hi
    have hSl:S≠l:=fun e=>by
      rw [e,ho] at hS
      cases hS
      exact absurd (Value.type.inj hor.1) (by decide)
    refine oZ W S (by simp only [List.mem_cons,List.not_mem_nil,or_false,not_or];exact ⟨Nat.ne_of_lt hlt,hSl⟩) (fun i=>ns.getD i 0) ?_ (by omega) items.size 0 _ [] (by omega) (Nat.zero_le _) ?_ ?_ ?_ (Nat.le_refl 0) ?_
    · intro i v hv
      exact iC hi (by simpa using hv)
    · exact ⟨⟨_,Heap.get?_push_size _ rfl,rfl,rfl⟩,⟨o,Heap.get?_push_of_some _ ho,hor⟩⟩
    · refine ⟨_,#[],0,_,[],Heap.get?_push_of_some _ hS,⟨rfl,rfl,rfl⟩,rfl,(show eV 7=true by decide),rfl,rfl,rfl,rfl,⟨List.Pairwise.nil,rfl,(show 0 * 5 < 7 * 3 by decide)⟩,.nil,by simp,List.nodup_nil,by simp⟩
    · intro x
      simp
    · intro h' tk' ks' q1 q2 q3
      refine wpAny_pure (wpAny_pure (h h' tk' ks' q2 ?_ ?_))
      · intro x
        rw [q3]
        constructor
        · rintro ⟨j,hj,rfl⟩
          show ns.getD j 0∈ns
          rw [List.getD_eq_getElem?_getD,List.getElem?_eq_getElem (show j < ns.length by omega)]
          exact List.getElem_mem _
        · intro hx
          obtain ⟨j,hj,e⟩:=List.mem_iff_getElem.mp hx
          refine ⟨j,by omega,?_⟩
          show ns.getD j 0=x
          rw [List.getD_eq_getElem?_getD,List.getElem?_eq_getElem hj]
          exact e
      · intro b o' hbS e
        refine q1 b o' hbS ?_ (Heap.get?_push_of_some _ e)
        simp only [List.mem_singleton]
        exact Nat.ne_of_lt (Heap.lt_size e)
theorem pL {l:Addr} {items:Array Value} {ns:List Int} {Q:Value→Shared→Prop} (hh:A.handled=none) (k:Bool) (hl:rM s.heap l items k) (hi:IntsAre items.toList ns) (hn:ns.length≤300)
  (h:∀ (h':Heap) (tk:Nat) (ks:List Int),iu w h' s.heap.objs.size ks→(∀ x,x∈ks↔x∈ns)→(∀ b o,s.heap.get? b=some o→h'.get? b=some o)→Q (.ref s.heap.objs.size) { s with heap:=h',toks:=tk }):wpAny (model prog w) A (call (.type "set") [.ref l]) Q E s:=by
 obtain ⟨c,tl,hmro⟩:=F.called_set.mro
 have hmade:=F.called_set.made
 have hsub:=F.called_set.sub
 have h1:=F.called_set.notType
 have h2:=F.called_set.canCreate
 have hct:=F.typeCall_set_1 (Value.ref l)
 refine wpAny_call (codeAny_of_tree ?_)
 refine (show wpAny _ _ (pure (Fin.again (Code.builtin "type.__call__" ⟨[.type "set",.ref l],[]⟩))) _ _ _ from wpAny_pure ⟨Code.quiet_builtin _ (by decide +kernel),codeAny_builtin F.entry_type_call ?_⟩)
 rw [Around.under_plain (weight_type_call_type "set" [Value.ref l] []) rfl]
 unfold Builtin.«type.__call__»
 dsimp only
 refine wpAny_ite_false rfl (wpAny_ite_false (by rw [h2];rfl) (wpAny_bind (wpAny_of_eq hct (wpAny_bind (wpAny_of_eq hmro (wpAny_ite_false rfl (wpAny_bind (wpAny_of_eq hmade ?_))))))))
 dsimp only
 refine wpAny_bind (wpAny_pure (wpAny_bind (wpAny_holding (wpAny_call (codeAny_mono (p6 (E:=fun _ _=>False) (Q₁:=fun obj s₁=>obj=.ref s.heap.objs.size∧s₁={ s with heap:=s.heap.push { cls:=.type "set",data:=.set #[] 0 (SetTable.fresh 0 0 (!(w.params.followText "set-order"))) } }) (.ref l) ⟨rfl,rfl⟩) fun r s₁ hr=>?_)))))
 generalize hs1:({ s with heap:=s.heap.push { cls:=.type "set",data:=.set #[] 0 (SetTable.fresh 0 0 (!(w.params.followText "set-order"))) } }:Shared)=sN at hr
 cases r with
 | error e=>exact False.elim hr
 | ok f=>
  cases f with
  | ret v=>
   obtain ⟨e1,e2⟩:=hr
   subst e1 e2
   have hT:Shared.TypeIs s₁ (.ref s.heap.objs.size) "set":=by
    rw [← hs1]
    exact ⟨_,Heap.get?_push_size _ rfl,rfl⟩
   show wpAny _ _ _ _ _ _
   refine wpAny_bind (wpAny_isInstance (T:="set") (b:=true) hT hsub ?_)
   refine wpAny_ite_false rfl (wpAny_bind (wpAny_holding ?_))
   refine wpAny_callSpecial?_slot (name:=Str.ofString "__init__") hT F.called_set.init (wpAny_call (codeAny_call_builtin F.called_set.init.plain F.entry_set_init (check_set_init_1 hT ?_)))
   subst hs1
   obtain ⟨hp,g,d,tk,os⟩:=s
   refine w_ (hp:=hp.push _) hh (Heap.get?_push_size _ rfl) k (by
    cases k with
    | false=>
     obtain ⟨o,e,r⟩:=(show Heap.IsTuple _ l items from hl)
     exact (show Heap.IsTuple _ l items from ⟨o,Heap.get?_push_of_some _ e,r⟩)
    | true=>
     obtain ⟨o,e,r⟩:=(show Heap.IsList _ l items from hl)
     exact (show Heap.IsList _ l items from ⟨o,Heap.get?_push_of_some _ e,r⟩)) hi hn fun h' tk' ks q1 q2 q3=>?_
   refine wpAny_ite_false rfl (wpAny_pure (h h' tk' ks q1 q2 fun b o e=>q3 b o (Nat.ne_of_lt (Heap.lt_size e)) (Heap.get?_push_of_some _ e)))
  | _=>exact False.elim hr
end
theorem bt:Slot "set_iterator" (Str.ofString "__next__") "set_iterator.__next__":=
 Slot.of (owner:="set_iterator") (n:="__next__") (by rw [typeLookup_type,builtinLookup_eq_fast];rfl) (by decide +kernel) (by decide +kernel) (by decide +kernel) (Or.inl (by decide +kernel)) (by rw [isSubtype_type];rfl) (by decide +kernel)
theorem dE:entryFor table "set_iterator.__next__"=some Builtin.«set_iterator.__next__»:=entryFor_of_tree (by rfl)
theorem oq:entryFor table "set.__iter__"=some Builtin.«frozenset.__iter__»:=entryFor_alias (id':="frozenset.__iter__") (by rfl) (by decide +kernel) (by decide +kernel) (by rfl)
theorem fF:List.lookup (String.ofList "set_iterator".toList) Manifest.owners=some Manifest.sig_set_iterator:=by rfl
theorem dN (a:Value):argsOk "set_iterator.__next__" ⟨[a],[]⟩:=by
 have h:Manifest.signature? "set_iterator.__next__"=List.lookup (String.ofList (['_','_','t','x','e','n','_','_']:List Char).reverse) Manifest.sig_set_iterator:=signature?_of (o:=['r','o','t','a','r','e','t','i','_','t','e','s']) (by decide +kernel) fF
 unfold argsOk
 rw [h]
 rfl
theorem AQ {prog:Program} {w:World} {A:Around} {E:Value→Shared→Prop} {s:Shared} {r:Addr} {Q:Bool→Shared→Prop} (hT:s.TypeIs (.ref r) "set") (h:Q false s):wpAny (model prog w) A (Builtin.List.listLengthHint (.ref r)) Q E s:=by
 unfold Builtin.List.listLengthHint
 refine wpAny_bind (wpAny_specialOf hT F.slot_set_len.lookup ?_)
 dsimp only
 rw [show splitId "set.__len__"=some ("set","__len__") by decide +kernel]
 dsimp only
 refine wpAny_bind (wpAny_isInstance hT F.called_set.sub (wpAny_ite_false rfl ?_))
 refine wpAny_ite_true rfl (wpAny_bind (wpAny_typeOf hT ?_))
 exact wpAny_pure h
theorem je {α:Type}:∀ (l:List α) (k:Nat) (h:k < l.length),List.Perm (l[k] :: l.eraseIdx k) l
 | x :: l,0,_=>by simp
 | x :: l,k+1,h=>by
  have hk:k < l.length:=by simpa using h
  have ih:=je l k hk
  simp only [List.getElem_cons_succ,List.eraseIdx_cons_succ]
  exact (List.Perm.swap ..).trans (List.Perm.cons x ih)
theorem tX {α:Type} (next:Nat→Nat):∀ (fuel a:Nat) (l:List α) (acc:Array α),fuel=l.length→List.Perm (pickOrder.go next fuel a l acc).toList (acc.toList++l)
 | 0,a,l,acc,h=>by
  have:l=[]:=List.eq_nil_of_length_eq_zero h.symm
  subst this
  rw [pickOrder.go.eq_1,List.append_nil]
 | fuel+1,a,l,acc,h=>by
  rw [pickOrder.go.eq_2]
  have hlt:next a % l.length < l.length:=Nat.mod_lt _ (by omega)
  rw [List.getElem?_eq_getElem hlt]
  refine (tX next fuel (a+1) (l.eraseIdx (next a % l.length)) (acc.push l[next a % l.length]) (by rw [List.length_eraseIdx_of_lt hlt];omega)).trans ?_
  rw [Array.toList_push,List.append_assoc]
  refine List.Perm.append_left _ ?_
  rw [List.singleton_append]
  exact je l _ hlt
theorem ye {α:Type} (next:Nat→Nat) (xs:Array α):List.Perm (pickOrder next xs).toList xs.toList:=by
 unfold pickOrder
 have:=tX next xs.size 0 xs.toList #[] (by simp)
 simpa using this
section
variable {prog:Program} {w:World} {A:Around} {E:Value→Shared→Prop} {s:Shared}
abbrev dO (w:World):Bool:=w.params.followText "set-order"
def orderOf (w:World) (S:Addr) (ep:Nat) (es:Array (Int×Value)):Array (Int×Value):=if dO w=true then pickOrder (w.params.setOrder S ep) es else es
theorem nC (w:World) (S:Addr) (ep:Nat) (es:Array (Int×Value)):List.Perm (orderOf w S ep es).toList es.toList:=by
 unfold orderOf
 split
 ·exact ye _ _
 ·exact List.Perm.refl _
def slotAt (w:World) (pl:List Nat):Nat→Nat
 | 0=>0
 | i+1=>if dO w=true then 0 else pl.getD i 0+1
structure gF (w:World) (o:Obj) (es:Array (Int×Value)) (ep:Nat) (t:SetTable) (pl:List Nat):Prop where
 dat:o.data=.set es ep t
 cls:o.cls=.type "set"
 dum:t.dummies=#[]
 plain:t.plain=true
 led:t.led=!dO w
 place:t.place=pl.toArray
 ri:ZS.Ri pl
 lpl:pl.length=es.size
 room:es.size≤t.mask
 few:es.size≤300
def i7 (w:World) (S:Addr) (es:Array (Int×Value)) (ep:Nat) (pl:List Nat) (i:Nat):Obj:={ cls:=.type "set_iterator",data:=.fields #[rawInt (slotAt w pl i:Nat),rawInt (i:Nat),.ref S,rawInt (es.size:Nat),rawInt (ep:Nat)] }
theorem gF.fits {o:Obj} {es:Array (Int×Value)} {ep:Nat} {t:SetTable} {pl:List Nat} (H:gF w o es ep t pl):t.fits es.size=true:=
 fits_of H.dum (by rw [H.place];simpa using H.lpl) H.room
theorem vo {pl:List Nat} {i:Nat} (h:ZS.Ri pl) (hi:i≤pl.length) (hw:dO w=false):SetTable.below pl.toArray (slotAt w pl i)=i:=by
 cases i with
 | zero=>exact ZS.uV
 | succ i=>
  show SetTable.below pl.toArray (if dO w=true then 0 else pl.getD i 0+1)=i+1
  rw [hw,if_neg (by simp),List.getD_eq_getElem?_getD,List.getElem?_eq_getElem (show i < pl.length by omega)]
  exact (ZS.pb h (by omega)).1
theorem qw {S:Addr} {o:Obj} {es:Array (Int×Value)} {ep:Nat} {t:SetTable} {pl:List Nat} {i:Nat} {Q:Option (Value×Nat)→Shared→Prop} (H:gF w o es ep t pl) (hS:s.heap.get? S=some o) (hi:i≤es.size)
  (h:Q (((orderOf w S ep es)[i]?).map fun e=>(e.2,slotAt w pl (i+1))) s):wpAny (model prog w) A (setNext S (slotAt w pl i) i ep) Q E s:=by
 unfold setNext
 refine wpAny_bind (wpAny_setState_of hS H.dat H.fits ?_)
 dsimp only
 unfold setsByText
 refine wpAny_bind (wpAny_bind (wpAny_askSetting (wpAny_pure ?_)))
 show wpAny _ _ (if dO w=true then _ else _) _ _ _
 by_cases hb:dO w=true
 ·rw [if_pos hb]
  refine wpAny_ite_false (by simp) ?_
  refine wpAny_bind ?_
  unfold setWalk
  refine wpAny_bind (wpAny_setState_of hS H.dat H.fits ?_)
  dsimp only
  unfold setsByText
  refine wpAny_bind (wpAny_bind (wpAny_askSetting (wpAny_pure ?_)))
  show wpAny _ _ (if dO w=true then _ else _) _ _ _
  rw [if_pos hb]
  refine wpAny_bind (wpAny_askSetting (wpAny_pure (wpAny_pure ?_)))
  have e1:orderOf w S ep es=pickOrder (w.params.setOrder S ep) es:=by unfold orderOf;rw [if_pos hb]
  rw [e1] at h
  have e2:slotAt w pl (i+1)=slotAt w pl i:=by
   cases i with
   | zero=>simp [slotAt,hb]
   | succ j=>simp [slotAt,hb]
  rw [e2] at h
  exact h
 ·rw [if_neg hb]
  have hbf:dO w=false:=by simpa using hb
  refine wpAny_ite_false (by
   show decide ((!t.plain && decide (es.size > 1))=true)=false
   rw [H.plain]
   rfl) ?_
  refine wpAny_bind ?_
  refine wpAny_ite_false (by
   rw [H.led,hbf]
   rfl) (wpAny_pure (wpAny_pure ?_))
  have e1:orderOf w S ep es=es:=by unfold orderOf;rw [if_neg hb]
  rw [e1] at h
  have lpl:=H.lpl
  rw [H.place,vo H.ri (by omega) hbf]
  by_cases hlt:i < es.size
  ·have a1:es[i]?=some es[i]:=by simp [hlt]
   have a2:pl.toArray[i]?=some (pl.getD i 0):=by
    rw [List.getElem?_toArray,List.getD_eq_getElem?_getD,List.getElem?_eq_getElem (show i < pl.length by omega)]
    rfl
   rw [a1] at h
   rw [a1,a2]
   have e3:slotAt w pl (i+1)=pl.getD i 0+1:=by simp [slotAt,hb]
   rw [e3] at h
   exact h
  ·have a1:es[i]?=none:=by simp;omega
   rw [a1] at h
   rw [a1]
   exact h
theorem gF.typeIs {o:Obj} {es:Array (Int×Value)} {ep:Nat} {t:SetTable} {pl:List Nat} {S:Addr} (H:gF w o es ep t pl) (hS:s.heap.get? S=some o):s.TypeIs (.ref S) "set":=⟨o,hS,H.cls⟩
theorem vJ {S:Addr} {o:Obj} {es:Array (Int×Value)} {ep:Nat} {t:SetTable} {pl:List Nat} {Q:Value→Shared→Prop} (H:gF w o es ep t pl) (hS:s.heap.get? S=some o)
  (h:Q (.ref s.heap.objs.size) { s with heap:=s.heap.push (i7 w S es ep pl 0) }):wpAny (model prog w) A (pyIter (.ref S)) Q E s:=by
 refine wpAny_pyIter_slot (H.typeIs hS) F.slot_set_iter (wpAny_call_entry F.slot_set_iter (H.typeIs hS) oq ?_ (F.args_set_iter_1 _))
 unfold Builtin.«frozenset.__iter__»
 refine wpAny_bind ?_
 unfold Builtin.Frozenset.slot0 slotArgs
 refine wpAny_bind (wpAny_ite_false rfl (wpAny_ite_false rfl (wpAny_pure ?_)))
 refine wpAny_pure ?_
 refine wpAny_bind ?_
 unfold Builtin.Frozenset.sizeOf setEntries
 refine wpAny_bind (wpAny_bind (wpAny_setState_of hS H.dat H.fits (wpAny_pure (wpAny_pure ?_))))
 refine wpAny_bind ?_
 unfold setDrawn
 refine wpAny_bind (wpAny_setState_of hS H.dat H.fits ?_)
 dsimp only
 unfold setsByText
 refine wpAny_bind (wpAny_bind (wpAny_askSetting (wpAny_pure (wpAny_pure ?_))))
 refine wpAny_ite_false (by
  show decide ((!dO w && (!t.plain && decide (es.size > 1)))=true)=false
  rw [H.plain]
  simp) ?_
 refine wpAny_bind (wpAny_pure ?_)
 refine wpAny_bind ?_
 unfold setEpoch
 refine wpAny_bind (wpAny_setState_of hS H.dat H.fits (wpAny_pure ?_))
 refine wpAny_bind ?_
 unfold newFields
 exact wpAny_newObj_type (wpAny_pure ⟨_,rfl,"set_iterator",_,⟨_,Heap.get?_push_size _ rfl,rfl⟩,bt.lookup,h⟩) (by first | size_fits | (intro _;decide) | decide)
end
section
variable {prog:Program} {w:World} {A:Around} {E:Value→Shared→Prop} {s:Shared}
theorem yH {S I:Addr} {o:Obj} {es:Array (Int×Value)} {ep:Nat} {t:SetTable} {pl:List Nat} {i:Nat} {x:Int×Value} {Q:Value→Shared→Prop} (H:gF w o es ep t pl) (hI:s.heap.get? I=some (i7 w S es ep pl i)) (hS:s.heap.get? S=some o) (hx:(orderOf w S ep es)[i]?=some x) (hi:i≤es.size)
  (hQ:∀ h',h'.get? I=some (i7 w S es ep pl (i+1))→Heap.SameBut I s.heap h'→Q x.2 { s with heap:=h' }) :
  wpAny (model prog w) A (Builtin.«set_iterator.__next__» ⟨[.ref I],[]⟩) (fun fin s'=>∃ v,fin=.done (.ret v)∧Q v s') E s:=by
 unfold Builtin.«set_iterator.__next__»
 refine wpAny_bind ?_
 unfold slotArgs
 refine wpAny_ite_false rfl (wpAny_ite_false rfl (wpAny_pure ?_))
 dsimp only
 refine wpAny_bind (wpAny_fieldsOf hI rfl ?_)
 refine (show wpAny _ _ (setEntries S>>=_) _ _ _ from wpAny_bind ?_)
 unfold setEntries
 refine wpAny_bind (wpAny_setState_of hS H.dat H.fits (wpAny_pure ?_))
 refine wpAny_ite_false (by simp) ?_
 refine (show wpAny _ _ (setNext S ((slotAt w pl i:Nat):Int).toNat ((i:Nat):Int).toNat ((ep:Nat):Int).toNat>>=_) _ _ _ from wpAny_bind ?_)
 rw [Int.toNat_natCast,Int.toNat_natCast,Int.toNat_natCast]
 refine qw H hS hi ?_
 rw [hx]
 dsimp only [Option.map]
 refine wpAny_bind (wpAny_setField_rec hI (by simp) fun h1 g1 e1=>?_)
 refine wpAny_bind (wpAny_setField_rec g1 (by simp) fun h2 g2 e2=>?_)
 refine wpAny_pure ⟨_,rfl,hQ h2 ?_ (e1.trans e2)⟩
 rw [g2]
 rfl
theorem AJ {S I:Addr} {o:Obj} {es:Array (Int×Value)} {ep:Nat} {t:SetTable} {pl:List Nat} {i:Nat} {Q:PySem.Fin→Shared→Prop} (hh:A.handled=none) (H:gF w o es ep t pl) (hI:s.heap.get? I=some (i7 w S es ep pl i)) (hS:s.heap.get? S=some o) (hx:(orderOf w S ep es)[i]?=none) (hi:i≤es.size)
  (hE:∀ h' e,Heap.ExtBut I s.heap h'→(∃ o,h'.get? e=some o∧o.cls=.type "StopIteration")→E (.ref e) { s with heap:=h' }) :
  wpAny (model prog w) A (Builtin.«set_iterator.__next__» ⟨[.ref I],[]⟩) Q E s:=by
 unfold Builtin.«set_iterator.__next__»
 refine wpAny_bind ?_
 unfold slotArgs
 refine wpAny_ite_false rfl (wpAny_ite_false rfl (wpAny_pure ?_))
 dsimp only
 refine wpAny_bind (wpAny_fieldsOf hI rfl ?_)
 refine (show wpAny _ _ (setEntries S>>=_) _ _ _ from wpAny_bind ?_)
 unfold setEntries
 refine wpAny_bind (wpAny_setState_of hS H.dat H.fits (wpAny_pure ?_))
 refine wpAny_ite_false (by simp) ?_
 refine (show wpAny _ _ (setNext S ((slotAt w pl i:Nat):Int).toNat ((i:Nat):Int).toNat ((ep:Nat):Int).toNat>>=_) _ _ _ from wpAny_bind ?_)
 rw [Int.toNat_natCast,Int.toNat_natCast,Int.toNat_natCast]
 refine qw H hS hi ?_
 rw [hx]
 dsimp only [Option.map]
 refine wpAny_bind (wpAny_setField hI rfl (by simp) ?_)
 refine (show wpAny _ _ (newExc (.type "StopIteration") []>>=_) _ _ _ from wpAny_bind ?_)
 simp only [newExc,newTuple]
 refine wpAny_bind (wpAny_newObj_type (wpAny_bind (m:=firstArgMember _ _) (wpAny_of_eq (a:=Value.none) (by first | rfl | (simp only [firstArgMember];rfl)) (wpAny_newObj_type ?_ (by size_fits)))) (by size_fits))
 simp only [raiseNew]
 refine wpAny_bind (wpAny_handled ?_)
 first | rw [show A.in1.handled=none from hh] | rw [hh]
 exact wpAny_bind (wpAny_pure (wpAny_throw (hE _ _ (((Heap.SameBut.update ..).extBut.push _).push _) ⟨_,Heap.get?_push_size _ rfl,rfl⟩)))
theorem dD:Slot "set_iterator" (Str.ofString "__iter__") "set_iterator.__iter__":=Slot.of (owner:="set_iterator") (n:="__iter__") (by rw [typeLookup_type,builtinLookup_eq_fast];rfl) (by decide +kernel) (by decide +kernel) (by decide +kernel) (Or.inl (by decide +kernel)) (by rw [isSubtype_type];rfl) (by decide +kernel)
theorem gY:entryFor table "set_iterator.__iter__"=some Builtin.«dict_keyiterator.__iter__»:=entryFor_alias (id':="dict_keyiterator.__iter__") (by rfl) (by decide +kernel) (by decide +kernel) (by rfl)
theorem iB (a:Value):argsOk "set_iterator.__iter__" ⟨[a],[]⟩:=by
 have h:Manifest.signature? "set_iterator.__iter__"=List.lookup (String.ofList (['_','_','r','e','t','i','_','_']:List Char).reverse) Manifest.sig_set_iterator:=signature?_of (o:=['r','o','t','a','r','e','t','i','_','t','e','s']) (by decide +kernel) fF
 unfold argsOk
 rw [h]
 rfl
theorem iS (w:World) (S:Addr) (ep:Nat) (es:Array (Int×Value)):(orderOf w S ep es).size=es.size:=by
 have:=(nC w S ep es).length_eq
 simpa using this
theorem yD (hh:A.handled=none) {S I:Addr} (hne:S≠I) {o:Obj} {es:Array (Int×Value)} {ep:Nat} {t:SetTable} {pl:List Nat} (H:gF w o es ep t pl) :
  Walks prog w A I [I,S] [I] es.size (fun i v=>∃ x,(orderOf w S ep es)[i]?=some x∧v=x.2) (fun i h=>h.get? I=some (i7 w S es ep pl i)∧h.get? S=some o) where
 sub:=fun b hb=>by rw [List.mem_singleton.mp hb];simp
 frame:=fun i h h' st hk=>⟨hk I (by simp) _ st.1,hk S (by simp) _ st.2⟩
 item:=fun i s Q E hi st hQ=>by
  have hx:(orderOf w S ep es)[i]?=some ((orderOf w S ep es)[i]'(by rw [iS];exact hi)):=by rw [Array.getElem?_eq_getElem]
  have hT:s.TypeIs (.ref I) "set_iterator":=⟨_,st.1,rfl⟩
  unfold pyNext
  refine wpAny_bind (wpAny_attempt (wpAny_callSpecial?_slot (name:=Str.ofString "__next__") hT bt (wpAny_call_entry bt hT dE ?_ (dN _))))
  refine yH H st.1 st.2 hx (by omega) fun h' g1 e1=>wpAny_pure ?_
  exact hQ _ h' s.toks ⟨_,hx,rfl⟩ ⟨g1,e1.extBut _ _ hne st.2⟩ fun b o hb q=>e1.extBut b o (fun z=>hb (by simp [z])) q
 done:=fun s Q E st hQ=>by
  have hx:(orderOf w S ep es)[es.size]?=none:=by rw [Array.getElem?_eq_none_iff,iS];exact Nat.le_refl _
  have hT:s.TypeIs (.ref I) "set_iterator":=⟨_,st.1,rfl⟩
  unfold pyNext
  refine wpAny_bind (wpAny_attempt (wpAny_callSpecial?_slot (name:=Str.ofString "__next__") hT bt (wpAny_call_entry bt hT dE ?_ (dN _))))
  refine AJ hh H st.1 st.2 hx (Nat.le_refl _) fun h' e ext he=>?_
  obtain ⟨o',ho',hc'⟩:=he
  exact wpAny_bind (wpAny_isInstance (T:="StopIteration") (b:=true) ⟨o',ho',hc'⟩ isSubtype_stop (wpAny_pure (hQ _ s.toks fun b o hb q=>ext b o (fun z=>hb (by simp [z])) q)))
 self:=fun i s Q E st h=>by
  have hT:s.TypeIs (.ref I) "set_iterator":=⟨_,st.1,rfl⟩
  exact wpAny_pyIter_slot hT dD (wpAny_call_entry dD hT gY (wpAny_pure ⟨_,rfl,"set_iterator",_,hT,bt.lookup,h⟩) (iB _))
theorem B5 {S:Addr} {o:Obj} {es:Array (Int×Value)} {ep:Nat} {t:SetTable} {pl:List Nat} (H:gF w o es ep t pl) :
  PySem.W.KdlSrc prog w "set" S S es.size (fun i v=>∃ x,(orderOf w S ep es)[i]?=some x∧v=x.2) (fun h=>h.get? S=some o) where
 type:=fun s hs=>H.typeIs hs
 there:=fun h hs=>⟨Heap.lt_size hs,Heap.lt_size hs⟩
 keep:=fun h h' hs hk=>hk S (.inl rfl) o hs
 notList:=by decide
 notTuple:=by decide
 hint:=fun A E s Q hs h=>AQ (H.typeIs hs) h
 iter:=fun A s hh hs=>⟨i7 w S es ep pl 0,fun i h=>h.get? s.heap.objs.size=some (i7 w S es ep pl i)∧h.get? S=some o,fun E Q hq=>vJ H hs hq,
  yD hh (Nat.ne_of_lt (Heap.lt_size hs)) H,Heap.get?_push_size _ rfl,Heap.get?_push_of_some _ hs⟩
end
def vZ:Value→Int
 | .int k _=>k
 | _=>0
theorem intsAre_map:∀ {vs:List Value} {ns:List Int},IntsAre vs ns→(∀ v∈vs,∃ k t,v=Value.int k t)∧ns=vs.map vZ
 | _,_,.nil=>⟨by simp,rfl⟩
 | _,_,.cons n t r=>by
  obtain ⟨h1,h2⟩:=intsAre_map r
  refine ⟨fun v hv=>?_,by rw [List.map_cons,← h2];rfl⟩
  rcases List.mem_cons.mp hv with z | z
  ·exact ⟨n,t,z⟩
  ·exact h1 v z
theorem mw:∀ (vs:List Value),(∀ v∈vs,∃ k t,v=Value.int k t)→IntsAre vs (vs.map vZ)
 | [],_=>.nil
 | v :: vs,h=>by
  obtain ⟨k,t,rfl⟩:=h v (by simp)
  exact .cons k t (mw vs fun u hu=>h u (by simp [hu]))
theorem sf {vs us:List Value} {ns:List Int} (hp:List.Perm vs us) (r:IntsAre us ns):∃ ms,IntsAre vs ms∧List.Perm ms ns:=by
 obtain ⟨h1,h2⟩:=intsAre_map r
 refine ⟨vs.map vZ,mw vs fun v hv=>h1 v (hp.mem_iff.mp hv),?_⟩
 rw [h2]
 exact hp.map vZ
def kC (N:Nat):Prop:=∀ {prog:Program} {w:World} {A:Around} {E:Value→Shared→Prop} {s:Shared} {a:Addr} {vs:List Value} {ns:List Int} {n:Nat} {P:PySem.Fin→Shared→Prop},s.heap.get? a=some (seqObj "list" vs.toArray n)→IntsAre vs ns→vs.length < N→(∀ (out:Array Value) (ns':List Int),IntsAre out.toList ns'→ns'.Perm ns→ns'.Pairwise (·≤·)→P (.done (.ret .none)) { s with heap:=sortedHeap s.heap a vs out })→wpAny (model prog w) A (Builtin.«list.sort» ⟨[.ref a],[]⟩) P E s
section
variable {prog:Program} {w:World} {A:Around} {E:Value→Shared→Prop} {s:Shared}
theorem uX {N:Nat} (T:kC N) (hN:N≤301) {S:Addr} {ks:List Int} {Q:Value→Shared→Prop} (hh:A.handled=none) (hS:iu w s.heap S ks) (h64:ks.length < N)
  (h:∀ (h':Heap) (tk:Nat) (out:Array Value) (ms:List Int) (l:Addr) (c:Nat),(∀ b o,s.heap.get? b=some o→h'.get? b=some o)→S < l→h'.get? l=some (seqObj "list" out c)→IntsAre out.toList ms→ms.Pairwise (· < ·)→(∀ x,x∈ms↔x∈ks)→ms.length≤300→Q (.ref l) { s with heap:=h',toks:=tk }) :
  wpAny (model prog w) A (call (.builtin "sorted") [.ref S]) Q E s:=by
 obtain ⟨o,es,ep,t,pl,g1,g2,g3,g4,g5,g6,g7,g8,g9,g10,g11,g12,g13⟩:=hS
 obtain ⟨g9,lpl,g14⟩:=g9
 have lks:es.size=ks.length:=by
  have:=cz g10
  rw [List.length_map,Array.length_toList] at this
  exact this
 have H:gF w o es ep t pl:=⟨g3,g2.1,g5,g6,g7,g8,g9,by omega,by omega,by omega⟩
 refine Calls.call_function_entry kind_sorted plain_sorted entry_sorted (args_sorted1 _) ?_
 unfold Builtin.sorted
 refine wpAny_bind ?_
 unfold checkCount
 refine wpAny_ite_false rfl (wpAny_ite_false rfl (wpAny_ite_false rfl (wpAny_pure ?_)))
 refine wpAny_bind (PySem.W.kdu_collect (B5 H) hh g1 (Nat.le_trans H.few (Nat.le_of_lt (di (by decide)))) fun h1 tk acc hk hacc=>?_)
 have hacc1:acc.toList=(orderOf w S ep es).toList.map Prod.snd:=by
  refine List.ext_getElem? fun i=>?_
  by_cases hi:i < acc.size
  ·have e1:acc.toList[i]?=some acc[i]:=by simp [hi]
   obtain ⟨x,hx,hv⟩:=hacc.2 i acc[i] (by simp [hi])
   rw [e1,List.getElem?_map]
   rw [show (orderOf w S ep es).toList[i]?=some x by simpa using hx]
   rw [hv]
   rfl
  ·rw [List.getElem?_eq_none (by simp;omega),List.getElem?_eq_none]
   rw [List.length_map,Array.length_toList,iS]
   have:=hacc.1
   omega
 obtain ⟨ns0,i1,i2⟩:=sf (vs:=acc.toList) (by rw [hacc1];exact (nC w S ep es).map Prod.snd) g10
 have l0:acc.toList.length=ks.length:=by rw [cz i1];exact i2.length_eq
 refine wpAny_bind (wpAny_newList ?_ (by rw [l0];exact Nat.le_of_lt (di (by omega))))
 refine wpAny_bind (wpAny_holding ?_)
 have hat:(h1.push (seqObj "list" acc.toList.toArray 0)).get? h1.objs.size=some (seqObj "list" acc.toList.toArray 0):=Heap.get?_push_size _ rfl
 refine wpAny_call_entry slot_list_sort ⟨_,hat,rfl⟩ entry_list_sort ?_ (args_list_sort _)
 refine T hat i1 (by omega) fun out ms r1 r2 r3=>⟨_,rfl,wpAny_pure ⟨_,rfl,?_⟩⟩
 obtain ⟨c,hc⟩:=sortedHeap_at (out:=out) hat
 have hnd:ms.Nodup:=r2.nodup_iff.mpr (i2.nodup_iff.mpr g12)
 refine h _ tk out ms h1.objs.size c ?_ ?_ hc r1 ?_ ?_ ?_
 ·intro b o' e
  have e1:=hk b o' e
  have hb:b < h1.objs.size:=Heap.lt_size e1
  rw [sortedHeap_old (Nat.ne_of_lt hb) (by rw [Heap.size_push];exact Nat.lt_succ_of_lt hb)]
  exact Heap.get?_push_of_some _ e1
 ·exact Heap.lt_size (hk S o g1)
 ·exact (List.Pairwise.and r3 hnd).imp fun z=>by have:=z.1;have:=z.2;omega
 ·intro x
  rw [r2.mem_iff,i2.mem_iff]
 ·have:=r2.length_eq
  have:=i2.length_eq
  omega
end
end L2
namespace L2
open PySem PySem.Spec PyProof.Rows ZS
def hT (ks:List Int):Int:=reduceHash (Builtin.Tuple.tupleHashOf (ks.map hashInt))
section
variable {κ:Type} [DecidableEq κ]
def fQ (kvs:List (κ×V)) (k:κ):Option V:=(kvs.find? fun kv=>decide (kv.1=k)).map (·.2)
def putK (kvs:List (κ×V)) (k:κ) (v:V):List (κ×V):=
 if (kvs.any fun kv=>decide (kv.1=k))=true then kvs.map (fun kv=>if kv.1=k then (kv.1,v) else kv) else kvs++[(k,v)]
theorem iV {p:κ×V} {r:List (κ×V)} {k:κ} (e:p.1=k):fQ (p :: r) k=some p.2:=by simp [fQ,List.find?_cons,e]
theorem gu {p:κ×V} {r:List (κ×V)} {k:κ} (e:¬p.1=k):fQ (p :: r) k=fQ r k:=by simp [fQ,List.find?_cons,e]
theorem qP (k:κ):∀ kvs:List (κ×V),(kvs.any fun kv=>decide (kv.1=k))=(fQ kvs k).isSome
 | []=>rfl
 | p :: r=>by
  rw [List.any_cons]
  by_cases e:p.1=k
  ·simp only [iV e,decide_eq_true e,Bool.true_or,Option.isSome_some]
  ·rw [gu e,decide_eq_false e,Bool.false_or];exact qP k r
theorem iw (kvs:List (κ×V)) (k:κ) (v:V):(putK kvs k v).length≤kvs.length+1:=by
 unfold putK
 split
 ·rw [List.length_map];omega
 ·rw [List.length_append,List.length_cons,List.length_nil];omega
theorem fc.yt {o:Option V} {u:Option Value} (r:fc o u):o.isSome=u.isSome:=by
 cases o with
 | none=>cases u with
  | none=>rfl
  | some _=>exact (show False from r).elim
 | some _=>cases u with
  | none=>exact (show False from r).elim
  | some _=>rfl
theorem fc.getD {o:Option V} {u:Option Value} {d:V} {d':Value} (r:fc o u) (rd:RelV d d'):RelV (o.getD d) (u.getD d'):=by
 cases o with
 | none=>cases u with
  | none=>exact rd
  | some _=>exact (show False from r).elim
 | some _=>cases u with
  | none=>exact (show False from r).elim
  | some _=>exact r
theorem KV.val {kvs:List (κ×V)} {vs:List (κ×Value)} (r:KV kvs vs) (k:κ):fc (fQ kvs k) (valueAt vs k):=by
 unfold KV at r
 induction r with
 | nil=>exact True.intro
 | @cons p q ps qs h t ih=>
  obtain ⟨h1,h2⟩:=h
  by_cases e:p.1=k
  ·have e':q.1=k:=h1.symm.trans e
   have b:valueAt (q :: qs) k=some q.2:=by simp [valueAt,List.find?_cons,e']
   rw [iV e,b];exact h2
  ·have e':¬q.1=k:=fun z=>e (h1.trans z)
   have b:valueAt (q :: qs) k=valueAt qs k:=by simp [valueAt,List.find?_cons,e']
   rw [gu e,b];exact ih
theorem KV.any {kvs:List (κ×V)} {vs:List (κ×Value)} (r:KV kvs vs) (k:κ):(kvs.any fun kv=>decide (kv.1=k))=vs.any fun kv=>decide (kv.1=k):=by
 unfold KV at r
 induction r with
 | nil=>rfl
 | cons h t ih=>rw [List.any_cons,List.any_cons,ih,h.1]
theorem KV.Aq {kvs:List (κ×V)} {vs:List (κ×Value)} (r:KV kvs vs) (k:κ) {y:V} {u:Value} (ry:RelV y u) :
  KV (kvs.map fun kv=>if kv.1=k then (kv.1,y) else kv) (vs.map fun kv=>if kv.1=k then (kv.1,u) else kv):=by
 unfold KV at r ⊢
 induction r with
 | nil=>exact .nil
 | @cons p q ps qs h t ih=>
  rw [List.map_cons,List.map_cons]
  refine .cons ?_ ih
  obtain ⟨h1,h2⟩:=h
  by_cases e:p.1=k
  ·rw [if_pos e,if_pos (h1.symm.trans e)];exact ⟨h1,ry⟩
  ·rw [if_neg e,if_neg (fun z=>e (h1.trans z))];exact ⟨h1,h2⟩
theorem KV.put {kvs:List (κ×V)} {vs:List (κ×Value)} (r:KV kvs vs) (k:κ) {y:V} {u:Value} (ry:RelV y u):KV (putK kvs k y) (stored vs k u):=by
 unfold putK stored
 rw [r.any k]
 by_cases e:(vs.any fun kv=>decide (kv.1=k))=true
 ·rw [if_pos e,if_pos e];exact r.Aq k ry
 ·rw [if_neg e,if_neg e];exact Paired.snoc r ⟨rfl,ry⟩
theorem KV.length {kvs:List (κ×V)} {vs:List (κ×Value)} (r:KV kvs vs):kvs.length=vs.length:=Paired.length r
end
theorem kS {P:Program} {w:World} {k:Key} {u:Value} (r:RelV (kV k) u):(aR P w).is k u=true:=by
 cases k with
 | inl i=>obtain ⟨t,e⟩:=(show ∃ t,u=Value.int i t from r);subst e;exact sS P w i t
 | inr x=>obtain ⟨t,e⟩:=(show ∃ t,u=Value.str x t from r);subst e;exact sX P w x t
theorem pB {P:Program} {w:World}:∀ {ks:List Key} {us:List Value},Vals (ks.map kV) us→ItemsAre (aR P w) ks us
 | [],_,r=>by rw [List.map_nil] at r;cases r;exact .nil
 | k :: ks,_,r=>by
  rw [List.map_cons] at r
  cases r with
  | cons h t=>exact .cons (kS h) (pB t)
abbrev KT (H:Hp):List (List Key×V)→List (List Key×Addr×Value)→Prop:=Paired fun p q=>p.1=q.1∧H q.2.1=some (.tup (p.1.map kV))∧RelV p.2 q.2.2
theorem KT.val {H:Hp} {kvs:List (List Key×V)} {xs:List (List Key×Addr×Value)} (r:KT H kvs xs) (k:List Key):fc (fQ kvs k) ((atKey xs k).map (·.2)):=by
 induction r with
 | nil=>exact True.intro
 | @cons p q ps qs h t ih=>
  obtain ⟨h1,_,h2⟩:=h
  by_cases e:p.1=k
  ·have e':q.1=k:=h1.symm.trans e
   have b:atKey (q :: qs) k=some q.2:=by simp [atKey,List.find?_cons,e']
   rw [iV e,b];exact h2
  ·have e':¬q.1=k:=fun z=>e (h1.trans z)
   have b:atKey (q :: qs) k=atKey qs k:=by simp [atKey,List.find?_cons,e']
   rw [gu e,b];exact ih
theorem KT.Aq {H:Hp} {kvs:List (List Key×V)} {xs:List (List Key×Addr×Value)} (r:KT H kvs xs) (k:List Key) {y:V} {u:Value} (ry:RelV y u) :
  KT H (kvs.map fun kv=>if kv.1=k then (kv.1,y) else kv) (xs.map (putAt k u)):=by
 induction r with
 | nil=>exact .nil
 | @cons p q ps qs h t ih=>
  rw [List.map_cons,List.map_cons]
  refine .cons ?_ ih
  obtain ⟨h1,h2,h3⟩:=h
  unfold putAt
  by_cases e:p.1=k
  ·rw [if_pos e,if_pos (h1.symm.trans e)];exact ⟨h1,h2,ry⟩
  ·rw [if_neg e,if_neg (fun z=>e (h1.trans z))];exact ⟨h1,h2,h3⟩
theorem KT.put {H:Hp} {kvs:List (List Key×V)} {xs:List (List Key×Addr×Value)} (r:KT H kvs xs) (k:List Key) {b:Addr} {y:V} {u:Value} (hb:H b=some (.tup (k.map kV))) (ry:RelV y u) :
  KT H (putK kvs k y) (storedH xs k b u):=by
 have e:(kvs.any fun kv=>decide (kv.1=k))=(atKey xs k).isSome:=by
  rw [qP,(r.val k).yt,Option.isSome_map]
 unfold putK storedH
 rw [e]
 by_cases q:(atKey xs k).isSome=true
 ·rw [if_pos q,if_pos q];exact r.Aq k ry
 ·rw [if_neg q,if_neg q];exact Paired.snoc r ⟨rfl,hb,ry⟩
theorem KT.keeps {H H':Hp} {kvs:List (List Key×V)} {xs:List (List Key×Addr×Value)} (r:KT H kvs xs) (ht:∀ b ys,H b=some (.tup ys)→H' b=some (.tup ys)):KT H' kvs xs:=
 Paired.zD r fun _ _ z=>⟨z.1,ht _ _ z.2.1,z.2.2⟩
section
variable {P:Program} {w:World} {H:Hp} {h:Heap} {a:Addr}
theorem BE {u:HO} (ok:HOk P w H h) (e:Rd H a u):bz P w H h a u:=e.ok ok
theorem nP {kvs:List (Key×V)} (ok:HOk P w H h) (e:Rd H a (.dK kvs)):kvs.length≤sizeLine∧(a == sysModules)=false∧∃ vs,KV kvs vs∧h.DictOf (aR P w) a vs:=
 show bz P w H h a (.dK kvs) from BE ok e
theorem Bb {kvs:List (Key×V)} (ok:HOk P w H h) (e:H a=some (.dK kvs)):kvs.length≤sizeLine∧(a == sysModules)=false∧∃ vs,KV kvs vs∧h.DictOf (aR P w) a vs:=nP ok (.inl e)
theorem mS {ks:List Key} (ok:HOk P w H h) (e:H a=some (.tup (ks.map kV))):(tupleKind (aR P w)).is h ks a:=by
 obtain ⟨_,its,r,o,h1,h2,n,h3⟩:=(show bz P w H h a (.tup (ks.map kV)) from ok a _ e)
 exact ⟨o,its.toArray,n,h1,h2,h3,by simpa using pB r⟩
theorem mG {kvs:List (List Key×V)} (ok:HOk P w H h) (e:Rd H a (.dT kvs)):kvs.length≤sizeLine∧(a == sysModules)=false ∧
  ∃ xs,KT H kvs xs∧h.DictOfH (tupleKind (aR P w)) a xs:=by
 obtain ⟨z,y,xs,r,o,es,ep,h1,h2,h3,h4,h5⟩:=(show bz P w H h a (.dT kvs) from BE ok e)
 refine ⟨z,y,xs,r,o,es,ep,h1,h2,h3,h4,fun x hx=>?_,h5⟩
 have all:∀ {l:List (List Key×V)} {m:List (List Key×Addr×Value)},KT H l m→∀ x∈m,(tupleKind (aR P w)).is h x.1 x.2.1:=by
  intro l m q
  induction q with
  | nil=>intro x hx;exact nomatch hx
  | @cons p q ps qs hq t ih=>
   intro x hx
   rcases List.mem_cons.mp hx with e | hx
   ·subst e
    exact mS ok (by rw [← hq.1];exact hq.2.1)
   ·exact ih x hx
 exact all r x hx
theorem Hv {kvs:List (List Key×V)} (ok:HOk P w H h) (e:H a=some (.dT kvs)):kvs.length≤sizeLine∧(a == sysModules)=false ∧
  ∃ xs,KT H kvs xs∧h.DictOfH (tupleKind (aR P w)) a xs:=mG ok (.inl e)
end
def nX (H:Hp) (a:Addr) (y:V) (r:Option V):Prop:=
 (∃ kvs k,Rd H a (.dK kvs)∧y=kV k∧r=fQ kvs k)∨∃ kvs k b,Rd H a (.dT kvs)∧y=.ref b∧H b=some (.tup (k.map kV))∧r=fQ kvs k
def sd (H:Hp) (a:Addr) (y v:V) (H':Hp):Prop:=
 (∃ kvs k,H a=some (.dK kvs)∧y=kV k∧kvs.length < sizeLine∧H'=upd H a (.dK (putK kvs k v))) ∨
 ∃ kvs k b,H a=some (.dT kvs)∧y=.ref b∧H b=some (.tup (k.map kV))∧kvs.length < sizeLine∧H'=upd H a (.dT (putK kvs k v))
theorem sd.k {H:Hp} {a:Addr} {kvs:List (Key×V)} {k:Key} {v:V} (e:H a=some (.dK kvs)) (hl:kvs.length < sizeLine):sd H a (kV k) v (upd H a (.dK (putK kvs k v))):=.inl ⟨kvs,k,e,rfl,hl,rfl⟩
section
variable {X:Cx} {pins:List (Addr×Obj)} {σ:St} {H:Hp} {s:Shared} {a:Addr} {y v:V} {u r:Value} {o:Option V} {A:Around} {E:Value→Shared→Prop}
theorem Inv.big (I:Inv X pins σ H s):sysModules < s.heap.objs.size:=by
 have h:mainGlobals < s.heap.objs.size:=(I.mod.glob.keeps I.bk).lt
 exact Nat.lt_trans (by decide) h
theorem wk {Q:Value→Shared→Prop} (hu:A.units+1 < cLine) (I:Inv X pins σ H s) (g:nX H a y (some v)) (ry:RelV y u) (h:∀ w' s',Inv X pins σ H s'→RelV v w'→Q w' s') :
  wpAny (model X.prog X.w) A (getItem (.ref a) u) Q E s:=by
 rcases g with ⟨kvs,k,e,ey,l⟩ | ⟨kvs,k,b,e,ey,eb,l⟩
 ·subst ey
  obtain ⟨z,hd,vs,rel,dd⟩:=nP I.hok e
  obtain ⟨w',hw,rw'⟩:=fc.some_of (v:=v) (o:=valueAt vs k) (by rw [l];exact rel.val k)
  exact wpAny_getItem_of (kS ry) dd.mapOf hw (h w' _ (I.tok _) rw')
 ·subst ey
  cases (show u=Value.ref b from ry)
  obtain ⟨z,hd,xs,rel,dd⟩:=mG I.hok e
  obtain ⟨w',hw,rw'⟩:=fc.some_of (v:=v) (o:=(atKey xs k).map (·.2)) (by rw [l];exact rel.val k)
  obtain ⟨p,hp,hp2⟩:=Option.map_eq_some_iff.mp hw
  refine wpAny_getItem_heap (tupleKind_room_in1 hu) (mS I.hok eb) dd hp ?_
  rw [hp2]
  exact h w' _ (I.tok _) rw'
theorem oM {h':Heap} {t':Nat} {ob:HO} (I:Inv X pins σ H s) (mu:Mut (H a)) (hs:Heap.SameBut a s.heap h') (he:∃ q,h'.get? a=some q) (new:bz X.prog X.w (upd H a ob) h' a ob) :
  Inv X pins σ (upd H a ob) { s with heap:=h',toks:=t' }:=
 I.write (x:=a) (e:=a) mu (.inl rfl) (fun b q hb z=>(hs.2 b hb).trans z) he new
theorem sQ {P:Program} {w:World} {H':Hp} {h':Heap} {kvs:List (Key×V)} {vs:List (Key×Value)} (z:kvs.length≤sizeLine) (hd:(a == sysModules)=false) (rel:KV kvs vs) (dd:h'.DictOf (aR P w) a vs) :
  bz P w H' h' a (.dK kvs):=⟨z,hd,vs,rel,dd⟩
theorem wc {H':Hp} {Q:Unit→Shared→Prop} (hu:A.units+1 < cLine) (I:Inv X pins σ H s) (g:sd H a y v H') (ry:RelV y u) (rv:RelV v r) (h:∀ s',Inv X pins σ H' s'→Q () s') :
  wpAny (model X.prog X.w) A (setItem (.ref a) u r) Q E s:=by
 rcases g with ⟨kvs,k,e,ey,l,eH⟩ | ⟨kvs,k,b,e,ey,eb,l,eH⟩
 ·subst ey eH
  obtain ⟨z,hd,vs,rel,dd⟩:=Bb I.hok e
  have hz:vs.length≤sizeLine:=by rw [← rel.length];exact z
  have hl:(putK kvs k v).length≤sizeLine:=by have:=iw kvs k v;omega
  refine wpAny_setItem_pairs (hsz:=hz) (kS ry) dd fun h' dd' hs=>h _ ?_
  have he:∃ q,h'.get? a=some q:=let ⟨q,_,_,hq,_⟩:=dd';⟨q,hq⟩
  exact oM I (by rw [e];exact True.intro) hs he (sQ hl hd (rel.put k rv) dd')
 ·subst ey eH
  cases (show u=Value.ref b from ry)
  obtain ⟨z,hd,xs,rel,dd⟩:=Hv I.hok e
  have hz:xs.length≤sizeLine:=by rw [← Paired.length rel];exact z
  have hl:(putK kvs k v).length≤sizeLine:=by have:=iw kvs k v;omega
  refine wpAny_setItem_heap (hsz:=hz) (tupleKind_room_in1 hu) (mS I.hok eb) dd fun h' dd' hs=>h _ ?_
  obtain ⟨q,es,ep,hq,h2,h3,h4,_,h5⟩:=dd'
  refine oM I (by rw [e];exact True.intro) hs ⟨q,hq⟩ ⟨hl,hd,_,(rel.put k eb rv).keeps fun c ys ec=>?_,q,es,ep,hq,h2,h3,h4,h5⟩
  rw [aI (Gf ec e (fun z=>nomatch z))]
  exact ec
end
def A1 (i:Expr):Prop:=∀ ov iv,subscripted i false ov iv=operate [ov,iv] (getItem ov iv)
theorem Cb {prog:Program} {w:World} {A:Around} {E:Value→Shared→Prop} {s:Shared} {env:Env} {value slice:Expr} {pos:Pos} {T id:String} {Q:Value→Shared→Prop}
    (hl:typeLookup (.type T) "__getitem__"=pure (some (.builtin id))) (hs:A1 slice)
    (h:wpAny (model prog w) A (eval value env) (fun o s₁=>wpAny (model prog w) A (eval slice env) (fun i s₂=>s₂.TypeIs o T∧wpAny (model prog w) A (getItem o i) Q E s₂) E s₁) E s) :
    wpAny (model prog w) A (eval (.Subscript value slice pos) env) Q E s:=by
  refine Subscript_ (wpAny_mono h (fun o s₁ h₁=>wpAny_mono h₁ (fun i s₂ h₂=>?_) fun _ _ x=>x) fun _ _ x=>x)
  obtain ⟨hT,h₂⟩:=h₂
  unfold subscriptTail
  refine wpAny_bind ?_
  rw [getitemInPython_of_ne hT.not_modules]
  refine wpAny_bind (wpAny_specialOf hT hl ?_)
  have fin:wpAny (model prog w) A (subscripted slice false o i) (fun r s₃=>wpAny (model prog w) A (letTemporaryGo value o r>>=fun _=>pure r) Q E s₃) E s₂:=by
    rw [hs o i]
    exact wpAny_operating (wpAny_mono h₂ (fun r s₃ h₃=>wpAny_bind (wpAny_letTemporaryGo (wpAny_pure h₃))) fun _ _ x=>x)
  first
    | exact wpAny_pure (wpAny_bind fin)
    | exact wpAny_bind (wpAny_pure (wpAny_bind fin))
    | exact wpAny_bind fin
theorem tM {X:Cx} {pins:List (Addr×Obj)} {σ:St} {H:Hp} {s:Shared} {a:Addr} {y:V} {o:Option V} (I:Inv X pins σ H s) (g:nX H a y o):s.TypeIs (.ref a) "dict":=by
 rcases g with ⟨kvs,k,e,_,_⟩ | ⟨kvs,k,b,e,_,_,_⟩
 ·obtain ⟨_,_,vs,_,dd⟩:=nP I.hok e
  exact dd.typeIs
 ·obtain ⟨_,_,xs,_,dd⟩:=mG I.hok e
  exact dd.typeIs
def GK (td ty:TE):TE:=fun σ H Q=>td σ H fun x H1=>ty σ H1 fun y H2=>∃ a v,x=.ref a∧nX H2 a y (some v)∧Q v H2
def Hh (td ty tv:TE):TS:=fun D σ H=>tv σ H fun v H1=>td σ H1 fun x H2=>ty σ H2 fun y H3=>∃ a H4,x=.ref a∧sd H3 a y v H4∧D.nx σ H4
section
variable {X:Cx} {o i e value:Expr} {pos pos' tpos:Pos} {td ty tv:TE}
theorem B3 (hu:X.A.units+1 < cLine) (ho:PE X o td) (hi:PE X i ty) (hs:A1 i):PE X (.Subscript o i pos) (GK td ty):=by
 intro pins s σ H Q I h
 refine Cb PySem.F.slot_dict_getitem.lookup hs (thn (ho pins s σ H _ I h) fun u s1 ⟨x,H1,I1,rx,q1⟩=>thn (hi pins s1 σ H1 _ I1 q1) fun iv s2 ⟨y,H2,I2,ry,a,v,ex,g,q2⟩=>?_)
 subst ex
 obtain rfl:u=Value.ref a:=rx
 exact ⟨tM I2 g,wk hu I2 g ry fun w' s3 I3 rw'=>⟨v,H2,I3,rw',q2⟩⟩
theorem Cq (hu:X.A.units+1 < cLine) (ho:PE X o td) (hi:PE X i ty) (hv:PE X value tv) (hs:swapsWith value (some (.Subscript o i pos')) pos.line X.env=pure false) :
  PS X (.Assign [.Subscript o i pos'] value pos) (Hh td ty tv):=by
 intro pins s σ H D I h
 refine wpAny_Assign_Subscript (thn (hv pins s σ H _ I h) fun r s1 ⟨v,H1,I1,rv,q1⟩=>thn (ho pins s1 σ H1 _ I1 q1) fun u s2 ⟨x,H2,I2,rx,q2⟩=>thn (hi pins s2 σ H2 _ I2 q2) fun iv s3 ⟨y,H3,I3,ry,a,H4,ex,g,q3⟩=>?_) hs
 subst ex
 obtain rfl:u=Value.ref a:=rx
 exact wc hu I3 g ry rv fun s4 I4=>⟨σ,H4,I4,q3⟩
end
theorem rl {P:Program} {w:World} {H:Hp} (h:Heap) (hb:sysModules < h.objs.size):bz P w H (h.push { cls:=.type "dict",data:=.dict #[] }) h.objs.size (.dK []):=
 ⟨Nat.zero_le _,beq_eq_false_iff_ne.mpr (Ne.symm (Nat.ne_of_lt hb)),[],.nil,Heap.DictOf.new h⟩
def Dv:TE:=fun _ H Q=>∀ p,H p=none→Q (.ref p) (upd H p (.dK []))
section
variable {X:Cx} {pos:Pos}
theorem AM:PE X (.Dict [] [] pos) Dv:=fun pins s σ H Q I h=>
 wpAny_Dict_empty ⟨.ref s.heap.objs.size,_,I.laid (a:=s.heap.objs.size) (o:=.dK []) (t':=s.toks) (fun _ _ q=>Heap.get?_push_of_some _ q) (Nat.le_refl _) (rl s.heap I.big),rfl,h _ (I.hok.fresh (Nat.le_refl _))⟩
end
def ny:List (TE×TE)→St→Hp→(List (V×V)→Hp→Prop)→Prop
 | [],_,H,Q=>Q [] H
 | (tk,tv) :: r,σ,H,Q=>tk σ H fun x H1=>tv σ H1 fun y H2=>ny r σ H2 fun ps H3=>Q ((x,y) :: ps) H3
abbrev VV:List (V×V)→List (Value×Value)→Prop:=Paired fun p q=>RelV p.1 q.1∧RelV p.2 q.2
def PPs (X:Cx) (pos:Pos) (keys:List (Option Expr)) (values:List Expr) (trs:List (TE×TE)):Prop:=
 ∀ (pins:List (Addr×Obj)) (s:Shared) (σ:St) (H:Hp) (Q:List (V×V)→Hp→Prop),Inv X pins σ H s→ny trs σ H Q →
  wpAny (model X.prog X.w) X.A (evalPairs (pairTrees keys values X.env pos)) (fun vs s'=>∃ ps H',Inv X pins σ H' s'∧VV ps vs∧Q ps H') X.xe s
theorem Dc {X:Cx} {pos:Pos}:PPs X pos [] [] []:=fun pins s σ H Q I h=>pairTrees_nil_walk ⟨[],H,I,.nil,h⟩
theorem AN {X:Cx} {pos:Pos} {k v:Expr} {ks:List (Option Expr)} {vs:List Expr} {tk tv:TE} {trs:List (TE×TE)} (hk:PE X k tk) (hv:PE X v tv) (hr:PPs X pos ks vs trs) :
  PPs X pos (some k :: ks) (v :: vs) ((tk,tv) :: trs):=fun pins s σ H Q I h=>
 pairTrees_cons_walk (thn (hk pins s σ H _ I h) fun u s1 ⟨x,H1,I1,rx,q1⟩=>thn (hv pins s1 σ H1 _ I1 q1) fun w2 s2 ⟨y,H2,I2,ry,q2⟩=>
  thn (hr pins s2 σ H2 _ I2 q2) fun ws s3 ⟨ps,H3,I3,rel,q3⟩=>⟨(x,y) :: ps,H3,I3,.cons ⟨rx,ry⟩ rel,q3⟩)
def b4 (kvs more:List (Key×V)):List (Key×V):=more.foldl (fun acc kv=>putK acc kv.1 kv.2) kvs
theorem KV.merge:∀ {more:List (Key×V)} {rs:List (Key×Value)} {kvs:List (Key×V)} {vs:List (Key×Value)},KV more rs→KV kvs vs→KV (b4 kvs more) (merged vs rs):=by
 intro more rs kvs vs r
 unfold KV at r
 induction r generalizing kvs vs with
 | nil=>intro q;exact q
 | @cons p q ps qs h t ih=>
  intro r0
  have e:KV (putK kvs p.1 p.2) (stored vs q.1 q.2):=by
   have:=r0.put p.1 h.2
   rw [← h.1];exact this
  exact ih e
theorem dX:∀ (more kvs:List (Key×V)),(b4 kvs more).length≤kvs.length+more.length
 | [],kvs=>by show kvs.length≤kvs.length+0;omega
 | p :: r,kvs=>by
  have h1:=dX r (putK kvs p.1 p.2)
  have h2:=iw kvs p.1 p.2
  show (b4 (putK kvs p.1 p.2) r).length≤_
  rw [List.length_cons];omega
theorem nD {P:Program} {w:World}:∀ {kvs:List (Key×V)} {ws:List (Value×Value)},VV (kvs.map fun kv=>(kV kv.1,kv.2)) ws→∃ rs,Carries (aR P w) ws rs∧KV kvs rs
 | [],_,r=>by rw [List.map_nil] at r;cases r;exact ⟨[],True.intro,.nil⟩
 | p :: kvs,_,r=>by
  rw [List.map_cons] at r
  cases r with
  | @cons a b as bs h t=>
   obtain ⟨rs,c,q⟩:=nD (P:=P) (w:=w) t
   obtain ⟨b1,b2⟩:=b
   exact ⟨(p.1,b2) :: rs,⟨kS h.1,rfl,c⟩,.cons ⟨rfl,h.2⟩ q⟩
def Hx (trs:List (TE×TE)):TE:=fun σ H Q=>∀ p,H p=none→ny trs σ (upd H p (.dK [])) fun ps H2=>H2 p=some (.dK [])∧∃ kvs:List (Key×V),ps=kvs.map (fun kv=>(kV kv.1,kv.2))∧kvs.length≤15∧Q (.ref p) (upd H2 p (.dK (b4 [] kvs)))
theorem CD {X:Cx} {pos:Pos} {keys:List (Option Expr)} {values:List Expr} {trs:List (TE×TE)} (h:PPs X pos keys values trs) (hall:keys.all (·.isSome)=true) (hl:keys.length=values.length) (h0:keys≠[])
  (h15:keys.length≤15):PE X (.Dict keys values pos) (Hx trs):=by
 intro pins s σ H Q I q
 have hn:=I.hok.fresh (Nat.le_refl s.heap.objs.size)
 have I1:=I.laid (a:=s.heap.objs.size) (o:=.dK []) (h':=s.heap.push { cls:=.type "dict",data:=.dict #[] }) (t':=s.toks) (fun _ _ q=>Heap.get?_push_of_some _ q) (Nat.le_refl _) (rl s.heap I.big)
 refine wpAny_Dict_walk (knd:=aR X.prog X.w) hall hl h0 h15 (thn (h pins _ σ _ _ I1 (q _ hn)) fun ws s2 ⟨ps,H2,I2,rel,e,kvs,ep,lk,q2⟩=>?_)
 subst ep
 obtain ⟨rs,c,rk⟩:=nD (P:=X.prog) (w:=X.w) rel
 obtain ⟨z,hd,vs0,r0,dd⟩:=Bb I2.hok e
 cases r0
 refine ⟨rs,c,dd,fun h' dd' hs=>⟨.ref s.heap.objs.size,_,?_,rfl,q2⟩⟩
 have hz:(b4 [] kvs).length≤sizeLine:=by
  have h1:=dX kvs []
  rw [List.length_nil] at h1
  rw [sizeLine_eq];omega
 have he:∃ q,h'.get? s.heap.objs.size=some q:=let ⟨q,_,_,hq,_⟩:=dd';⟨q,hq⟩
 exact oM I2 (by rw [e];exact True.intro) hs he (sQ hz hd (rk.merge .nil) dd')
structure M1 (X:Cx) (o:Expr) (m:Str) (apos:Pos) (e:Expr) (cpos:Pos):Prop where
 base:attributeBase o m X.env (eval o X.env)=eval o X.env
 few:((backTo cpos (starEach [e] X.env)).all (fun x=>!x.1) && (backToKw cpos (keywordEach [] X.env)).all (fun x=>x.1.isSome)
  && decide (([e]:List Expr).length+([]:List Keyword).length+(if ([]:List Keyword).isEmpty then 0 else 1) < 30))=true
 line:(apos.endLine == cpos.line)=true
 trees:backTo cpos (starEach [e] X.env)=[(false,eval e X.env)]
structure M2 (X:Cx) (o:Expr) (m:Str) (apos:Pos) (e f:Expr) (cpos:Pos):Prop where
 base:attributeBase o m X.env (eval o X.env)=eval o X.env
 few:((backTo cpos (starEach [e,f] X.env)).all (fun x=>!x.1) && (backToKw cpos (keywordEach [] X.env)).all (fun x=>x.1.isSome)
  && decide (([e,f]:List Expr).length+([]:List Keyword).length+(if ([]:List Keyword).isEmpty then 0 else 1) < 30))=true
 line:(apos.endLine == cpos.line)=true
 trees:backTo cpos (starEach [e,f] X.env)=[(false,eval e X.env),(false,eval f X.env)]
def IsD (H:Hp) (a:Addr):Prop:=(∃ kvs,Rd H a (.dK kvs))∨∃ kvs,Rd H a (.dT kvs)
theorem DG {X:Cx} {pins:List (Addr×Obj)} {σ:St} {H:Hp} {s:Shared} {a:Addr} (I:Inv X pins σ H s) (d:IsD H a) :
  s.TypeIs (.ref a) "dict"∧(∀ b,Value.ref a=.ref b→∃ ob,s.heap.get? b=some ob∧ob.dict=none)∧(a == sysModules)=false:=by
 rcases d with ⟨kvs,e⟩ | ⟨kvs,e⟩
 ·obtain ⟨_,hd,vs,_,dd⟩:=nP I.hok e
  refine ⟨dd.typeIs,fun b q=>?_,hd⟩
  cases q
  obtain ⟨ob,_,_,h1,h2,_⟩:=dd
  exact ⟨ob,h1,h2.2.1⟩
 ·obtain ⟨_,hd,xs,_,dd⟩:=mG I.hok e
  refine ⟨dd.typeIs,fun b q=>?_,hd⟩
  cases q
  obtain ⟨ob,_,_,h1,h2,_⟩:=dd
  exact ⟨ob,h1,h2.2.1⟩
section
variable {X:Cx} {pins:List (Addr×Obj)} {σ:St} {H:Hp} {s:Shared} {a:Addr} {y d:V} {u r:Value} {o:Option V} {A:Around} {E:Value→Shared→Prop}
theorem FD {Q:Value→Shared→Prop} (hu:A.units+1 < cLine) (I:Inv X pins σ H s) (g:nX H a y o) (ry:RelV y u) (rd:RelV d r) (h:∀ w' s',Inv X pins σ H s'→RelV (o.getD d) w'→Q w' s') :
  wpAny (model X.prog X.w) A (call (.builtin "dict.get") [.ref a,u,r]) Q E s:=by
 rcases g with ⟨kvs,k,e,ey,l⟩ | ⟨kvs,k,b,e,ey,eb,l⟩
 ·subst ey
  obtain ⟨z,hd,vs,rel,dd⟩:=nP I.hok e
  refine call_meetsIn PySem.F.slot_dict_get dd.typeIs PySem.F.entry_dict_get (PySem.F.args_dict_get_3 _ _ _) (meets_dict_get_default (aR X.prog X.w) a (kS ry) hd r) ⟨_,dd.mapOf,h _ _ (I.tok _) ?_⟩
  rw [l]
  exact (rel.val k).getD rd
 ·subst ey
  cases (show u=Value.ref b from ry)
  obtain ⟨z,hd,xs,rel,dd⟩:=mG I.hok e
  refine call_meetsIn PySem.F.slot_dict_get dd.typeIs PySem.F.entry_dict_get (PySem.F.args_dict_get_3 _ _ _) (meetsH_dict_get_default (tupleKind (aR X.prog X.w)) a b hd r) ⟨tupleKind_room_in1 hu,k,xs,mS I.hok eb,dd,h _ _ (I.tok _) ?_⟩
  rw [l]
  exact (rel.val k).getD rd
end
def En (td ty tx:TE):TE:=fun σ H Q=>td σ H fun x H1=>∃ a,x=.ref a∧IsD H1 a∧ty σ H1 fun y H2=>tx σ H2 fun z H3=>∃ o,nX H3 a y o∧Q (o.getD z) H3
section
variable {X:Cx} {o e f:Expr} {apos cpos:Pos} {td ty tx:TE}
theorem zJ (hu:X.A.units+1 < cLine) (ho:PE X o td) (he:PE X e ty) (hf:PE X f tx) (m:M2 X o "get" apos e f cpos):PE X (.Call (.Attribute o "get" apos) [e,f] [] cpos) (En td ty tx):=by
 intro pins s σ H Q I h
 refine wpAny_Call_method m.base m.few m.line PySem.F.plainAttrs_dict PySem.F.slot_dict_get PySem.F.type_dict_get (thn (ho pins s σ H _ I h) fun u s1 ⟨x,H1,I1,rx,a,ex,d,q1⟩=>?_)
 subst ex
 obtain rfl:u=Value.ref a:=rx
 obtain ⟨t1,t2,_⟩:=DG I1 d
 refine ⟨t1,t2,?_⟩
 rw [m.trees]
 refine Calls.callWith_builtin rfl (Calls.evalArgs_plain (Calls.spliced_cons (thn (he pins s1 σ H1 _ I1 q1) fun iv s2 ⟨y,H2,I2,ry,q2⟩=>
  Calls.spliced_cons (thn (hf pins s2 σ H2 _ I2 q2) fun fv s3 ⟨z,H3,I3,rz,ov,g,q3⟩=>Calls.spliced_nil ?_))))
 exact FD hu I3 g ry rz fun w' s4 I4 rw'=>⟨_,H3,I4,rw',q3⟩
end
inductive Vl where
 | d (x:D) | r (n:Nat) | fd (kvs:List (Key×D)) | fn (x:Str) | sc (ns:List Int) | pr (x:D) (n:Nat)
inductive Ob where
 | lst (xs:List D) | dct (kvs:List (Key×D)) | dead
abbrev Sto:=List Ob
inductive R (α:Type) where
 | ok (a:α) (S:Sto) | ex (c:Str) (xs:List (Str×D)) (S:Sto) | bad
def R.bind {α β:Type} (x:R α) (f:α→Sto→R β):R β:=match x with
 | .ok a S=>f a S
 | .ex c xs S=>.ex c xs S
 | .bad=>.bad
abbrev Nv:=List (Option Vl)
abbrev XE:=Nv→Sto→R Vl
abbrev XT:=Nv→Sto→R Bool
abbrev XA:=Nv→Sto→R (List Vl)
abbrev XO:=Nv→Sto→R (Option Int)
inductive Fl where
 | nx | bk | ct | rt (v:Vl)
abbrev XS:=Nv→Sto→R (Fl×Nv)
abbrev XG:=Vl→Nv→Sto→R Nv
abbrev XGs:=List Vl→Nv→Sto→R Nv
abbrev XF:=List Vl→Sto→R Vl
structure Its where
 items:List Vl
 gd:Option (Nat×Ob)
def Its.ok (I:Its) (S:Sto):Prop:=match I.gd with
 | none=>True
 | some (n,o)=>S[n]?=some o
abbrev XI:=Nv→Sto→R Its
def Al (μ:Nat→Addr) (S:Sto) (b:Addr):Prop:=∃ n o,S[n]?=some o∧o≠.dead∧μ n=b
open Classical in
noncomputable def vh (μ:Nat→Addr) (S:Sto) (H:Hp):Hp:=fun b=>if Al μ S b then none else H b
section
variable {μ μ' μ1 μ2:Nat→Addr} {S S' S1 S2:Sto} {H H' H1 H2:Hp} {b:Addr} {o:HO}
theorem bF (h:H b=some o) (n:¬Al μ S b):vh μ S H b=some o:=by unfold vh;rw [if_neg n];exact h
theorem aC (h:vh μ S H b=some o):¬Al μ S b∧H b=some o:=by
 unfold vh at h
 split at h
 ·cases h
 ·exact ⟨‹_›,h⟩
theorem dy:dH (vh μ S H) H:=fun _ _ h=>(aC h).2
def ObR (μ:Nat→Addr) (S:Sto) (H:Hp) (a:Addr):Ob→Prop
 | .lst ds=>∃ vs,H a=some (.lst vs)∧av (vh μ S H) vs ds
 | .dct kvs=>∃ vs:List V,vs.length=kvs.length∧H a=some (.dK ((kvs.map (·.1)).zip vs))∧av (vh μ S H) vs (kvs.map (·.2))
 | .dead=>True
structure HR (μ:Nat→Addr) (S:Sto) (H:Hp):Prop where
 ob:∀ n o,S[n]?=some o→ObR μ S H (μ n) o
 inj:∀ n m o o',S[n]?=some o→S[m]?=some o'→o≠.dead→o'≠.dead→μ n=μ m→n=m
theorem ObR.some {a:Addr} {ob:Ob} (h:ObR μ S H a ob) (n:ob≠.dead):∃ o,H a=Option.some o:=by
 cases ob with
 | lst ds=>obtain ⟨vs,e,_⟩:=h;exact ⟨_,e⟩
 | dct kvs=>obtain ⟨vs,_,e,_⟩:=h;exact ⟨_,e⟩
 | dead=>exact absurd rfl n
theorem HR.al (h:HR μ S H) (a:Al μ S b):∃ o,H b=some o:=by
 obtain ⟨n,ob,e,nd,rfl⟩:=a
 exact (h.ob n ob e).some nd
theorem HR.nal (h:HR μ S H) (e:H b=none):¬Al μ S b:=fun a=>by
 obtain ⟨o,q⟩:=h.al a
 rw [e] at q;cases q
theorem ObR.mono {a:Addr} {ob:Ob} (h:ObR μ S H a ob) (e:ob≠.dead→H' a=H a) (k:dH (vh μ S H) (vh μ' S' H')):ObR μ' S' H' a ob:=by
 cases ob with
 | lst ds=>obtain ⟨vs,q,r⟩:=h;exact ⟨vs,by rw [e (by simp)];exact q,r.mono k⟩
 | dct kvs=>obtain ⟨vs,l,q,r⟩:=h;exact ⟨vs,l,by rw [e (by simp)];exact q,r.mono k⟩
 | dead=>exact True.intro
structure Step (μ:Nat→Addr) (S:Sto) (H:Hp) (μ':Nat→Addr) (S':Sto) (H':Hp):Prop where
 ag:∀ n,n < S.length→μ' n=μ n
 le:S.length≤S'.length
 hr:HR μ' S' H'
 dd:∀ n:Nat,S[n]?=some Ob.dead→S'[n]?=some Ob.dead
 nw:∀ n o,S.length≤n→S'[n]?=some o→o≠.dead→H (μ' n)=none
 ko:∀ b o,H b=some o→¬Al μ S b→H' b=some o
 dm:∀ b o,H b=some o→∃ o',H' b=some o'
theorem Step.refl (h:HR μ S H):Step μ S H μ S H:=
 ⟨fun _ _=>rfl,Nat.le_refl _,h,fun _ e=>e,fun n o l e _=>(by rw [List.getElem?_eq_none l] at e;cases e),fun _ _ e _=>e,fun _ o e=>⟨o,e⟩⟩
theorem Step.nal (a:Step μ S H μ' S' H') (h:H b=some o) (n:¬Al μ S b):¬Al μ' S' b:=by
 rintro ⟨k,ob,e,nd,rfl⟩
 by_cases hk:k < S.length
 ·have e0:S[k]?=some S[k]:=List.getElem?_eq_getElem hk
  by_cases hd:S[k]=.dead
  ·rw [hd] at e0
   rw [a.dd k e0] at e
   cases e
   exact nd rfl
  ·exact n ⟨k,_,e0,hd,(a.ag k hk).symm⟩
 ·rw [a.nw k ob (by omega) e nd] at h
  cases h
theorem Step.vis (a:Step μ S H μ' S' H'):dH (vh μ S H) (vh μ' S' H'):=fun b o h=>by
 obtain ⟨n,h⟩:=aC h
 exact bF (a.ko b o h n) (a.nal h n)
theorem Step.trans (a:Step μ S H μ1 S1 H1) (b:Step μ1 S1 H1 μ2 S2 H2):Step μ S H μ2 S2 H2 where
 ag:=fun n h=>(b.ag n (Nat.lt_of_lt_of_le h a.le)).trans (a.ag n h)
 le:=Nat.le_trans a.le b.le
 hr:=b.hr
 dd:=fun n e=>b.dd n (a.dd n e)
 nw:=fun n o l e nd=>by
  by_cases hn:n < S1.length
  ·rw [b.ag n hn]
   refine a.nw n S1[n] l (List.getElem?_eq_getElem hn) fun z=>?_
   have e0:S1[n]?=some S1[n]:=List.getElem?_eq_getElem hn
   rw [z] at e0
   rw [b.dd n e0] at e
   cases e
   exact nd rfl
  ·have q:=b.nw n o (by omega) e nd
   cases e2:H (μ2 n) with
   | none=>rfl
   | some u=>
    obtain ⟨u',e3⟩:=a.dm _ _ e2
    rw [q] at e3;cases e3
 ko:=fun c o h n=>b.ko c o (a.ko c o h n) (a.nal h n)
 dm:=fun c o h=>by
  obtain ⟨o1,e1⟩:=a.dm c o h
  exact b.dm c o1 e1
theorem Step.new (h:HR μ S H) {p:Addr} (hp:H p=none) (o:HO):Step μ S H μ S (upd H p o):=by
 have k:dH (vh μ S H) (vh μ S (upd H p o)):=fun b u q=>by
  obtain ⟨n,q⟩:=aC q
  exact bF (by rw [aI (ba q hp)];exact q) n
 refine ⟨fun _ _=>rfl,Nat.le_refl _,⟨fun n ob e=>?_,h.inj⟩,fun _ e=>e,fun n ob l e _=>(by rw [List.getElem?_eq_none l] at e;cases e),fun b u q _=>by rw [aI (ba q hp)];exact q,fun b u q=>⟨u,by rw [aI (ba q hp)];exact q⟩⟩
 refine (h.ob n ob e).mono (fun nd=>?_) k
 obtain ⟨u,q⟩:=(h.ob n ob e).some nd
 exact aI (ba q hp)
def ext (μ:Nat→Addr) (k:Nat) (p:Addr):Nat→Addr:=fun n=>if n=k then p else μ n
theorem cg {k:Nat} {p:Addr}:ext μ k p k=p:=by unfold ext;rw [if_pos rfl]
theorem kj {k n:Nat} {p:Addr} (h:n≠k):ext μ k p n=μ n:=by unfold ext;rw [if_neg h]
def ObL (G:Hp):Ob→HO→Prop
 | .lst ds,o=>∃ vs,o=.lst vs∧av G vs ds
 | .dct kvs,o=>∃ vs:List V,vs.length=kvs.length∧o=.dK ((kvs.map (·.1)).zip vs)∧av G vs (kvs.map (·.2))
 | .dead,_=>False
theorem ObL.ne {G:Hp} {ob:Ob} {o:HO} (h:ObL G ob o):ob≠.dead:=by
 rintro rfl
 exact h
theorem ObL.at {ob:Ob} {o:HO} {a:Addr} {G:Hp} (h:ObL G ob o) (e:H a=some o) (k:dH G (vh μ S H)):ObR μ S H a ob:=by
 cases ob with
 | lst ds=>obtain ⟨vs,rfl,r⟩:=h;exact ⟨vs,e,r.mono k⟩
 | dct kvs=>obtain ⟨vs,l,rfl,r⟩:=h;exact ⟨vs,l,e,r.mono k⟩
 | dead=>exact h.elim
theorem Step.alloc (h:HR μ S H) {p:Addr} (hp:H p=none) {ob:Ob} {o:HO} (hl:ObL (vh μ S H) ob o):Step μ S H (ext μ S.length p) (S++[ob]) (upd H p o):=by
 have nd:=hl.ne
 have old:∀ n u,n < S.length→(S++[ob])[n]?=some u→S[n]?=some u∧ext μ S.length p n=μ n:=fun n u hn e=>by
  rw [List.getElem?_append_left hn] at e
  exact ⟨e,kj (Nat.ne_of_lt hn)⟩
 have new:∀ n u,S.length≤n→(S++[ob])[n]?=some u→n=S.length∧u=ob:=fun n u hn e=>by
  rw [List.getElem?_append_right hn] at e
  have hz:n - S.length=0:=by
   refine Nat.eq_zero_of_not_pos fun z=>?_
   rw [List.getElem?_eq_none (by simp;omega)] at e;cases e
  rw [hz] at e
  exact ⟨by omega,by simpa using e.symm⟩
 have nal:∀ {b u},H b=some u→¬Al μ S b→¬Al (ext μ S.length p) (S++[ob]) b:=by
  rintro b u q n ⟨k,v,e,d,rfl⟩
  by_cases hk:k < S.length
  ·obtain ⟨e1,e2⟩:=old k v hk e
   exact n ⟨k,v,e1,d,e2.symm⟩
  ·obtain ⟨rfl,rfl⟩:=new k v (by omega) e
   rw [cg,hp] at q;cases q
 have k:dH (vh μ S H) (vh (ext μ S.length p) (S++[ob]) (upd H p o)):=fun b u q=>by
  obtain ⟨n,q⟩:=aC q
  exact bF (by rw [aI (ba q hp)];exact q) (nal q n)
 refine ⟨fun n hn=>kj (Nat.ne_of_lt hn),by simp,⟨fun n u e=>?_,fun n m u v e1 e2 d1 d2 q=>?_⟩,fun n e=>?_,fun n u l e _=>?_,fun b u q _=>by rw [aI (ba q hp)];exact q,fun b u q=>⟨u,by rw [aI (ba q hp)];exact q⟩⟩
 ·by_cases hn:n < S.length
  ·obtain ⟨e1,e2⟩:=old n u hn e
   rw [e2]
   refine (h.ob n u e1).mono (fun nd=>?_) k
   obtain ⟨x,q⟩:=(h.ob n u e1).some nd
   exact aI (ba q hp)
  ·obtain ⟨rfl,rfl⟩:=new n u (by omega) e
   rw [cg]
   exact hl.at bO k
 ·by_cases hn:n < S.length
  ·obtain ⟨a1,a2⟩:=old n u hn e1
   obtain ⟨x,qx⟩:=(h.ob n u a1).some d1
   by_cases hm:m < S.length
   ·obtain ⟨b1,b2⟩:=old m v hm e2
    rw [a2,b2] at q
    exact h.inj n m u v a1 b1 d1 d2 q
   ·obtain ⟨rfl,rfl⟩:=new m v (by omega) e2
    rw [a2,cg] at q
    rw [q,hp] at qx;cases qx
  ·obtain ⟨rfl,rfl⟩:=new n u (by omega) e1
   by_cases hm:m < S.length
   ·obtain ⟨b1,b2⟩:=old m v hm e2
    obtain ⟨x,qx⟩:=(h.ob m v b1).some d2
    rw [b2,cg] at q
    rw [← q,hp] at qx;cases qx
   ·exact (new m v (by omega) e2).1.symm
 ·have hn:n < S.length:=by
   refine Nat.lt_of_not_le fun z=>?_
   rw [List.getElem?_eq_none z] at e;cases e
  rw [List.getElem?_append_left hn];exact e
 ·obtain ⟨rfl,rfl⟩:=new n u l e
  rw [cg];exact hp
theorem eY {n m:Nat} {ob u:Ob} (hn:n < S.length) (e:(S.set n ob)[m]?=some u):(m=n∧u=ob)∨(m≠n∧S[m]?=some u):=by
 rw [List.getElem?_set] at e
 by_cases q:n=m
 ·subst q
  rw [if_pos rfl,if_pos hn] at e
  exact .inl ⟨rfl,(Option.some.inj e).symm⟩
 ·rw [if_neg q] at e
  exact .inr ⟨fun z=>q z.symm,e⟩
theorem Step.put (h:HR μ S H) {n:Nat} {ob ob0:Ob} {o:HO} (e0:S[n]?=some ob0) (d0:ob0≠.dead) (hl:ObL (vh μ S H) ob o):Step μ S H μ (S.set n ob) (upd H (μ n) o):=by
 have nd:=hl.ne
 have hn:n < S.length:=(List.getElem?_eq_some_iff.mp e0).1
 have al0:Al μ S (μ n):=⟨n,ob0,e0,d0,rfl⟩
 have al:∀ {b},Al μ (S.set n ob) b→Al μ S b:=by
  rintro b ⟨m,u,e,d,rfl⟩
  rcases eY hn e with ⟨rfl,rfl⟩ | ⟨z,q⟩
  ·exact al0
  ·exact ⟨m,u,q,d,rfl⟩
 have k:dH (vh μ S H) (vh μ (S.set n ob) (upd H (μ n) o)):=fun b u q=>by
  obtain ⟨z,q⟩:=aC q
  exact bF (by rw [aI (fun c=>z (by rw [c];exact al0))];exact q) fun c=>z (al c)
 refine ⟨fun _ _=>rfl,by rw [List.length_set];exact Nat.le_refl _,⟨fun m u e=>?_,fun m m' u v e1 e2 d1 d2 q=>?_⟩,fun m e=>?_,fun m u l e _=>?_,fun b u q z=>by rw [aI (fun c=>z (by rw [c];exact al0))];exact q,fun b u q=>?_⟩
 ·rcases eY hn e with ⟨rfl,rfl⟩ | ⟨z,q⟩
  ·exact hl.at bO k
  ·refine (h.ob m u q).mono (fun d=>aI fun c=>z (h.inj m n u ob0 q e0 d d0 c)) k
 ·have a1:∃ w,S[m]?=some w∧w≠.dead:=by
   rcases eY hn e1 with ⟨rfl,rfl⟩ | ⟨z,q⟩
   ·exact ⟨ob0,e0,d0⟩
   ·exact ⟨u,q,d1⟩
  have a2:∃ w,S[m']?=some w∧w≠.dead:=by
   rcases eY hn e2 with ⟨rfl,rfl⟩ | ⟨z,q⟩
   ·exact ⟨ob0,e0,d0⟩
   ·exact ⟨v,q,d2⟩
  obtain ⟨w1,x1,y1⟩:=a1
  obtain ⟨w2,x2,y2⟩:=a2
  exact h.inj m m' w1 w2 x1 x2 y1 y2 q
 ·rw [List.getElem?_set_ne]
  ·exact e
  ·rintro rfl
   rw [e0] at e;cases e;exact d0 rfl
 ·rw [List.getElem?_eq_none (by rw [List.length_set];exact l)] at e;cases e
 ·by_cases z:b=μ n
  ·subst z;exact ⟨o,bO⟩
  ·exact ⟨u,by rw [aI z];exact q⟩
theorem Step.freeze (h:HR μ S H) {n:Nat} {ob:Ob} (e0:S[n]?=some ob) (d0:ob≠.dead):Step μ S H μ (S.set n .dead) H∧¬Al μ (S.set n .dead) (μ n):=by
 have hn:n < S.length:=(List.getElem?_eq_some_iff.mp e0).1
 have al:∀ {b},Al μ (S.set n .dead) b→Al μ S b:=by
  rintro b ⟨m,u,e,d,rfl⟩
  rcases eY hn e with ⟨rfl,rfl⟩ | ⟨z,q⟩
  ·exact absurd rfl d
  ·exact ⟨m,u,q,d,rfl⟩
 have k:dH (vh μ S H) (vh μ (S.set n .dead) H):=fun b u q=>by
  obtain ⟨z,q⟩:=aC q
  exact bF q fun c=>z (al c)
 have inn:∀ m u,(S.set n .dead)[m]?=some u→u≠.dead→S[m]?=some u∧m≠n:=fun m u e d=>by
  rcases eY hn e with ⟨rfl,rfl⟩ | ⟨z,q⟩
  ·exact absurd rfl d
  ·exact ⟨q,z⟩
 refine ⟨⟨fun _ _=>rfl,by rw [List.length_set];exact Nat.le_refl _,⟨fun m u e=>?_,fun m m' u v e1 e2 d1 d2 q=>h.inj m m' u v (inn m u e1 d1).1 (inn m' v e2 d2).1 d1 d2 q⟩,fun m e=>?_,fun m u l e _=>?_,fun b u q z=>q,fun b u q=>⟨u,q⟩⟩,?_⟩
 ·by_cases d:u=.dead
  ·subst d;exact True.intro
  ·exact (h.ob m u (inn m u e d).1).mono (fun _=>rfl) k
 ·by_cases z:m=n
  ·subst z;rw [List.getElem?_set,if_pos rfl,if_pos hn]
  ·rw [List.getElem?_set_ne (fun c=>z c.symm)];exact e
 ·rw [List.getElem?_eq_none (by rw [List.length_set];exact l)] at e;cases e
 ·rintro ⟨m,u,e,d,q⟩
  obtain ⟨e1,z⟩:=inn m u e d
  exact z (h.inj m n u ob e1 e0 d d0 q)
theorem Step.AO (h:HR μ S H) {n:Nat} {ob:Ob} (o':HO) (e0:S[n]?=some ob) (d0:ob≠.dead):Step μ S H μ (S.set n .dead) (upd H (μ n) o')∧¬Al μ (S.set n .dead) (μ n):=by
 have hn:n < S.length:=(List.getElem?_eq_some_iff.mp e0).1
 have al0:Al μ S (μ n):=⟨n,ob,e0,d0,rfl⟩
 obtain ⟨st,na⟩:=Step.freeze h e0 d0
 have k:dH (vh μ S H) (vh μ (S.set n .dead) (upd H (μ n) o')):=fun b u q=>by
  obtain ⟨z,q'⟩:=aC q
  exact bF (by rw [aI (fun c=>z (by rw [c];exact al0))];exact q') (aC (st.vis b u q)).1
 refine ⟨⟨st.ag,st.le,⟨fun m u e=>?_,st.hr.inj⟩,st.dd,fun m u l e d=>st.nw m u l e d,fun b u q z=>by rw [aI (fun c=>z (by rw [c];exact al0))];exact q,fun b u q=>?_⟩,na⟩
 ·rcases eY hn e with ⟨rfl,rfl⟩ | ⟨z,q⟩
  ·exact True.intro
  ·by_cases d:u=.dead
   ·subst d;exact True.intro
   ·exact (h.ob m u q).mono (fun _=>aI fun c=>z (h.inj m n u ob q e0 d d0 c)) k
 ·by_cases z:b=μ n
  ·subst z;exact ⟨o',bO⟩
  ·exact ⟨u,by rw [aI z];exact q⟩
theorem cO {k n:Nat} {u:Ob} (e:(S.take k)[n]?=some u):n < k∧S[n]?=some u:=by
 rw [List.getElem?_take] at e
 split at e
 ·exact ⟨‹_›,e⟩
 ·cases e
theorem Step.take (a:Step μ S H μ' S' H'):Step μ S H μ' (S'.take S.length) H':=by
 have al:∀ {b},Al μ' (S'.take S.length) b→Al μ' S' b:=by
  rintro b ⟨m,u,e,d,rfl⟩
  exact ⟨m,u,(cO e).2,d,rfl⟩
 have k:dH (vh μ' S' H') (vh μ' (S'.take S.length) H'):=fun b u q=>by
  obtain ⟨z,q⟩:=aC q
  exact bF q fun c=>z (al c)
 refine ⟨a.ag,by rw [List.length_take];have:=a.le;omega,⟨fun m u e=>(a.hr.ob m u (cO e).2).mono (fun _=>rfl) k,fun m m' u v e1 e2=>a.hr.inj m m' u v (cO e1).2 (cO e2).2⟩,fun n e=>?_,fun n u l e _=>?_,a.ko,a.dm⟩
 ·have hn:n < S.length:=(List.getElem?_eq_some_iff.mp e).1
  rw [List.getElem?_take,if_pos hn]
  exact a.dd n e
 ·have:=(cO e).1
  omega
theorem Step.move (a:Step μ S H μ' S' H') {n:Nat} {ob:Ob} (hn:S.length≤n) (e0:S'[n]?=some ob) (d0:ob≠.dead):Step μ S H (ext μ' S.length (μ' n)) (S'.take S.length++[ob]) H':=by
 have lt:(S'.take S.length).length=S.length:=by rw [List.length_take];have:=a.le;omega
 have get:∀ m u,(S'.take S.length++[ob])[m]?=some u→∃ j,S'[j]?=some u∧ext μ' S.length (μ' n) m=μ' j∧((m < S.length∧j=m)∨(m=S.length∧j=n)):=fun m u e=>by
  by_cases hm:m < S.length
  ·rw [List.getElem?_append_left (by omega)] at e
   exact ⟨m,(cO e).2,kj (Nat.ne_of_lt hm),.inl ⟨hm,rfl⟩⟩
  ·rw [List.getElem?_append_right (by omega)] at e
   have hz:m - (S'.take S.length).length=0:=by
    refine Nat.eq_zero_of_not_pos fun z=>?_
    rw [List.getElem?_eq_none (by simp;omega)] at e;cases e
   rw [hz] at e
   have hm':m=S.length:=by omega
   subst hm'
   obtain rfl:ob=u:=by simpa using e
   exact ⟨n,e0,cg,.inr ⟨rfl,rfl⟩⟩
 have al:∀ {b},Al (ext μ' S.length (μ' n)) (S'.take S.length++[ob]) b→Al μ' S' b:=by
  rintro b ⟨m,u,e,d,rfl⟩
  obtain ⟨j,q,z,_⟩:=get m u e
  exact ⟨j,u,q,d,z.symm⟩
 have k:dH (vh μ' S' H') (vh (ext μ' S.length (μ' n)) (S'.take S.length++[ob]) H'):=fun b u q=>by
  obtain ⟨z,q⟩:=aC q
  exact bF q fun c=>z (al c)
 refine ⟨fun m hm=>(kj (Nat.ne_of_lt hm)).trans (a.ag m hm),by rw [List.length_append,lt];simp,⟨fun m u e=>?_,fun m m' u v e1 e2 d1 d2 q=>?_⟩,fun m e=>?_,fun m u l e d=>?_,a.ko,a.dm⟩
 ·obtain ⟨j,q,z,_⟩:=get m u e
  rw [z]
  exact (a.hr.ob j u q).mono (fun _=>rfl) k
 ·obtain ⟨j,q1,z1,w1⟩:=get m u e1
  obtain ⟨j',q2,z2,w2⟩:=get m' v e2
  rw [z1,z2] at q
  have:=a.hr.inj j j' u v q1 q2 d1 d2 q
  omega
 ·have hm:m < S.length:=(List.getElem?_eq_some_iff.mp e).1
  rw [List.getElem?_append_left (by omega),List.getElem?_take,if_pos hm]
  exact a.dd m e
 ·obtain ⟨j,q,z,w⟩:=get m u e
  rw [z]
  have hj:S.length≤j:=by omega
  exact a.nw j u hj q d
end
section
variable (K:PySem.W.Frag) (mg:Str→Option Value)
def aP (μ:Nat→Addr) (S:Sto) (H:Hp) (v:V):Vl→Prop
 | .d x=>Rep (vh μ S H) v x
 | .r n=>v=.ref (μ n)∧n < S.length
 | .fd kvs=>∃ (a:Addr) (vs:List V) (o:Obj),v=.ref a∧vs.length=kvs.length∧vh μ S H a=some (.frz o (.dK ((kvs.map (·.1)).zip vs)))∧av (vh μ S H) vs (kvs.map (·.2))
 | .fn x=>∃ f:Addr,mg x=some (.ref f)∧v=.ref f
 | .sc ns=>∃ l:Addr,v=.ref l∧SqL K (vh μ S H) l (ns.map V.int)
 | .pr x n=>∃ (a:Addr) (u:V),v=.ref a∧vh μ S H a=some (.tup [u,.ref (μ n)])∧Rep (vh μ S H) u x∧n < S.length
inductive bx (μ:Nat→Addr) (S:Sto) (H:Hp):List V→List Vl→Prop
 | nil:bx μ S H [] []
 | cons {v:V} {x:Vl} {vs:List V} {xs:List Vl}:aP K mg μ S H v x→bx μ S H vs xs→bx μ S H (v :: vs) (x :: xs)
structure bV (μ:Nat→Addr) (S:Sto) (H:Hp) (σ:St) (τ:Nv):Prop where
 len:σ.length=τ.length
 get:∀ (i:Nat) (x:Vl),τ[i]?=some (some x)→∃ v,σ[i]?=some (some v)∧aP K mg μ S H v x
end
section
variable {K:PySem.W.Frag} {mg:Str→Option Value} {μ μ':Nat→Addr} {S S':Sto} {H H':Hp}
theorem SqL.mono {l:Addr} {xs:List V} {H H':Hp} (k:dH H H') (h:SqL K H l xs):SqL K H' l xs:=by
 rcases h with (h | ⟨o,h⟩) | h
 ·exact .inl (.inl (k _ _ h))
 ·exact .inl (.inr ⟨o,k _ _ h⟩)
 ·exact .inr h
theorem aP.step {v:V} {x:Vl} (a:Step μ S H μ' S' H') (h:aP K mg μ S H v x):aP K mg μ' S' H' v x:=by
 cases x with
 | d x=>exact Rep.mono a.vis h
 | r n=>obtain ⟨rfl,hn⟩:=h;exact ⟨by rw [a.ag n hn],Nat.lt_of_lt_of_le hn a.le⟩
 | fd kvs=>obtain ⟨p,vs,o,e,l,q,r⟩:=h;exact ⟨p,vs,o,e,l,a.vis _ _ q,r.mono a.vis⟩
 | pr x n=>obtain ⟨p,u,e,q,r,hn⟩:=h;exact ⟨p,u,e,by rw [a.ag n hn];exact a.vis _ _ q,Rep.mono a.vis r,Nat.lt_of_lt_of_le hn a.le⟩
 | fn x=>exact h
 | sc ns=>obtain ⟨l,e,q⟩:=h;exact ⟨l,e,q.mono a.vis⟩
theorem bx.step (a:Step μ S H μ' S' H'):∀ {vs:List V} {xs:List Vl},bx K mg μ S H vs xs→bx K mg μ' S' H' vs xs
 | _,_,.nil=>.nil
 | _,_,.cons r t=>.cons (r.step a) (bx.step a t)
theorem bx.length:∀ {vs:List V} {xs:List Vl},bx K mg μ S H vs xs→vs.length=xs.length
 | _,_,.nil=>rfl
 | _,_,.cons _ t=>by simp [bx.length t]
theorem bx.get:∀ {vs:List V} {xs:List Vl} {i:Nat} {x:Vl},bx K mg μ S H vs xs→xs[i]?=some x→∃ v,vs[i]?=some v∧aP K mg μ S H v x
 | _,_,_,_,.nil,e=>by simp at e
 | _,_,0,_,.cons r _,e=>by simp at e;subst e;exact ⟨_,rfl,r⟩
 | _,_,i+1,x,.cons _ t,e=>by
  obtain ⟨d,h1,h2⟩:=bx.get (i:=i) (x:=x) t (by simpa using e)
  exact ⟨d,by simpa using h1,h2⟩
theorem bx.ux:∀ {vs:List V} {ds:List D},av (vh μ S H) vs ds→bx K mg μ S H vs (ds.map Vl.d)
 | _,_,.nil=>.nil
 | _,_,.cons r t=>.cons (show aP K mg μ S H _ (.d _) from r) (bx.ux t)
theorem bV.step {σ:St} {τ:Nv} (a:Step μ S H μ' S' H') (h:bV K mg μ S H σ τ):bV K mg μ' S' H' σ τ:=
 ⟨h.len,fun i x e=>by obtain ⟨v,e1,r⟩:=h.get i x e;exact ⟨v,e1,r.step a⟩⟩
theorem bV.set {σ:St} {τ:Nv} {v:V} {x:Vl} (i:Nat) (h:bV K mg μ S H σ τ) (r:aP K mg μ S H v x):bV K mg μ S H (σ.set i (some v)) (τ.set i (some x)):=by
 refine ⟨by rw [List.length_set,List.length_set];exact h.len,fun j y e=>?_⟩
 rw [List.getElem?_set] at e ⊢
 by_cases q:i=j
 ·subst q
  rw [if_pos rfl] at e ⊢
  by_cases hl:i < τ.length
  ·rw [if_pos hl] at e
   cases e
   exact ⟨v,by rw [if_pos (by rw [h.len];exact hl)],r⟩
  ·rw [if_neg hl] at e;cases e
 ·rw [if_neg q] at e ⊢
  exact h.get j y e
theorem bV.pre {σ:St} {τ:Nv} (k:Nat) (h:bV K mg μ S H σ τ):bV K mg μ S H (List.replicate k none++σ) (List.replicate k none++τ):=by
 refine ⟨by simp [h.len],fun i x e=>?_⟩
 by_cases hi:i < k
 ·rw [List.getElem?_append_left (by simpa using hi),List.getElem?_replicate,if_pos hi] at e
  cases e
 ·rw [List.getElem?_append_right (by simpa using hi)] at e ⊢
  simpa using h.get (i - k) x (by simpa using e)
theorem bV.beg {N:List Str} {vs:List V} {us:List Vl} (h:bx K mg μ S H vs us):bV K mg μ S H (L2.start N vs) (us.map some++List.replicate (N.length - us.length) none):=by
 have l:=h.length
 refine ⟨by simp [L2.start,l],fun i x e=>?_⟩
 unfold L2.start
 by_cases hi:i < us.length
 ·rw [List.getElem?_append_left (by simpa using hi),List.getElem?_map] at e
  cases q:us[i]? with
  | none=>rw [q] at e;cases e
  | some y=>
   rw [q] at e
   cases e
   obtain ⟨v,e1,r⟩:=h.get q
   exact ⟨v,by rw [List.getElem?_append_left (by simp;omega),List.getElem?_map,e1];rfl,r⟩
 ·rw [List.getElem?_append_right (by simpa using hi),List.getElem?_replicate] at e
  split at e<;>cases e
end
abbrev WX:=Str→List (Str×D)→Sto→(Nat→Addr)→Hp→Prop
abbrev W0:WX:=fun _ _ _ _ _=>False
def aK {α β:Type} (Rl:(Nat→Addr)→Sto→Hp→β→α→Prop) (WE:WX) (μ:Nat→Addr) (S:Sto) (H:Hp) (res:R α) (Q:β→Hp→Prop):Prop:=match res with
 | .ok a S'=>∀ b μ' H',Step μ S H μ' S' H'→Rl μ' S' H' b a→Q b H'
 | .ex c xs S'=>∀ μ' H',Step μ S H μ' S' H'→WE c xs S' μ' H'
 | .bad=>False
section
variable {α β γ δ:Type} {Rl:(Nat→Addr)→Sto→Hp→β→α→Prop} {Rl2:(Nat→Addr)→Sto→Hp→δ→γ→Prop} {WE:WX} {μ μ1:Nat→Addr} {S S1:Sto} {H H1:Hp} {res:R α} {Q:β→Hp→Prop} {Q2:δ→Hp→Prop}
theorem aK.shift (h:aK Rl WE μ S H res Q) (a:Step μ S H μ1 S1 H1):aK Rl WE μ1 S1 H1 res Q:=by
 cases res with
 | ok x S'=>exact fun b μ' H' st r=>h b μ' H' (a.trans st) r
 | ex c xs S'=>exact fun μ' H' st=>h μ' H' (a.trans st)
 | bad=>exact h
theorem aK.bind {f:α→Sto→R γ} (h:aK Rl2 WE μ S H (res.bind f) Q2) (k:∀ b a S1 μ1 H1,Step μ S H μ1 S1 H1→Rl μ1 S1 H1 b a→aK Rl2 WE μ1 S1 H1 (f a S1) Q2→Q b H1):aK Rl WE μ S H res Q:=by
 cases res with
 | ok x S'=>exact fun b μ' H' st r=>k b x S' μ' H' st r (aK.shift (show aK Rl2 WE μ S H (f x S') Q2 from h) st)
 | ex c xs S'=>exact h
 | bad=>exact h
theorem aK.here {a:α} {b:β} (hr:HR μ S H) (h:aK Rl WE μ S H (.ok a S) Q) (r:Rl μ S H b a):Q b H:=h b μ H (Step.refl hr) r
end
inductive FlV where
 | nx | bk | ct | rt (v:V)
def Ends.at (D:Ends) (p:FlV×St) (H:Hp):Prop:=match p.1 with
 | .nx=>D.nx p.2 H
 | .bk=>D.bk p.2 H
 | .ct=>D.ct p.2 H
 | .rt v=>D.rt v H
section
variable (K:PySem.W.Frag) (mg:Str→Option Value)
def FlR (μ:Nat→Addr) (S:Sto) (H:Hp):FlV→Fl→Prop
 | .nx,.nx=>True
 | .bk,.bk=>True
 | .ct,.ct=>True
 | .rt v,.rt z=>aP K mg μ S H v z
 | _,_=>False
def RlS (μ:Nat→Addr) (S:Sto) (H:Hp) (p:FlV×St) (q:Fl×Nv):Prop:=bV K mg μ S H p.2 q.2∧FlR K mg μ S H p.1 q.1
abbrev RlQ {α:Type} (_:Nat→Addr) (_:Sto) (_:Hp) (b a:α):Prop:=b=a
structure eK (μ:Nat→Addr) (S:Sto) (H:Hp) (J:It) (I:Its):Prop where
 ok:I.ok S
 len:I.items.length≤sizeLine
 go:∀ i z μ' S' H',Step μ S H μ' S' H'→I.ok S'→I.items[i]?=some z→J.go i H'
 yld:∀ i z μ' S' H' x H2,Step μ S H μ' S' H'→I.ok S'→I.items[i]?=some z→J.yld i H' x H2→Step μ' S' H' μ' S' H2∧aP K mg μ' S' H2 x z
 stop:∀ i μ' S' H',Step μ S H μ' S' H'→I.ok S'→I.items.length=i→J.stop i H'
def trE (WE:WX) (m:XE):TE:=fun σ H Q=>∃ μ S τ,HR μ S H∧bV K mg μ S H σ τ∧aK (aP K mg) WE μ S H (m τ S) Q
def trT (WE:WX) (m:XT):TT:=fun σ H Q=>∃ μ S τ,HR μ S H∧bV K mg μ S H σ τ∧aK RlQ WE μ S H (m τ S) Q
def trA (WE:WX) (m:XA):TA:=fun σ H Q=>∃ μ S τ,HR μ S H∧bV K mg μ S H σ τ∧aK (bx K mg) WE μ S H (m τ S) Q
def trO (WE:WX) (m:XO):TO:=fun σ H Q=>∃ μ S τ,HR μ S H∧bV K mg μ S H σ τ∧aK RlQ WE μ S H (m τ S) Q
def trS (WE:WX) (m:XS):TS:=fun D σ H=>∃ μ S τ,HR μ S H∧bV K mg μ S H σ τ∧aK (RlS K mg) WE μ S H (m τ S) D.at
def trG (WE:WX) (g:XG):TG:=fun v σ H Q=>∃ μ S τ z,HR μ S H∧bV K mg μ S H σ τ∧aP K mg μ S H v z∧aK (bV K mg) WE μ S H (g z τ S) Q
def IM (WE:WX) (g:XGs):TGs:=fun vs σ H Q=>∃ μ S τ zs,HR μ S H∧bV K mg μ S H σ τ∧bx K mg μ S H vs zs∧aK (bV K mg) WE μ S H (g zs τ S) Q
def trI (WE:WX) (it:XI):TI:=fun σ H Rr=>∃ μ S τ,HR μ S H∧bV K mg μ S H σ τ∧aK (eK K mg) WE μ S H (it τ S) Rr
end
structure RE (X:Cx) (WE:WX) (e:Expr) (m:XE):Prop where
 h:PE X e (trE X.K X.mg WE m)
structure RT (X:Cx) (WE:WX) (e:Expr) (m:XT):Prop where
 h:PT X e (trT X.K X.mg WE m)
structure RW (X:Cx) (WE:WX) (e:Expr) (m:XT):Prop where
 h:PW X e (trT X.K X.mg WE m)
structure RA (X:Cx) (WE:WX) (es:List Expr) (m:XA):Prop where
 h:PA X es (trA X.K X.mg WE m)
structure RO (X:Cx) (WE:WX) (e:Option Expr) (m:XO):Prop where
 h:PO X e (trO X.K X.mg WE m)
structure RS (X:Cx) (WE:WX) (s:Stmt) (m:XS):Prop where
 h:PS X s (trS X.K X.mg WE m)
structure RB (X:Cx) (WE:WX) (s:List Stmt) (m:XS):Prop where
 h:PSs X s (trS X.K X.mg WE m)
structure RG (X:Cx) (WE:WX) (t:Expr) (g:XG):Prop where
 h:PG X t (trG X.K X.mg WE g)
structure RGs (X:Cx) (WE:WX) (ts:List Expr) (g:XGs):Prop where
 h:PGs X ts (IM X.K X.mg WE g)
structure RI (X:Cx) (WE:WX) (tg iter:Expr) (it:XI):Prop where
 h:PI X tg iter (trI X.K X.mg WE it)
structure RTs (X:Cx) (WE:WX) (ifs:List Expr) (m:XT):Prop where
 h:PTs X ifs (trT X.K X.mg WE m)
section
variable {X:Cx}
theorem PE.weak {e:Expr} {t t':TE} (h:PE X e t) (k:∀ σ H Q,t' σ H Q→t σ H Q):PE X e t':=fun pins s σ H Q I q=>h pins s σ H Q I (k σ H Q q)
theorem PT.weak {e:Expr} {t t':TT} (h:PT X e t) (k:∀ σ H Q,t' σ H Q→t σ H Q):PT X e t':=fun pins s σ H Q I q=>h pins s σ H Q I (k σ H Q q)
theorem PW.weak {e:Expr} {t t':TT} (h:PW X e t) (k:∀ σ H Q,t' σ H Q→t σ H Q):PW X e t':=fun wh pins s σ H Q I q=>h wh pins s σ H Q I (k σ H Q q)
theorem PA.weak {e:List Expr} {t t':TA} (h:PA X e t) (k:∀ σ H Q,t' σ H Q→t σ H Q):PA X e t':=fun po pins s σ H Q I q=>h po pins s σ H Q I (k σ H Q q)
theorem PS.weak {e:Stmt} {t t':TS} (h:PS X e t) (k:∀ D σ H,t' D σ H→t D σ H):PS X e t':=fun pins s σ H D I q=>h pins s σ H D I (k D σ H q)
theorem PSs.weak {e:List Stmt} {t t':TS} (h:PSs X e t) (k:∀ D σ H,t' D σ H→t D σ H):PSs X e t':=fun pins s σ H D I q=>h pins s σ H D I (k D σ H q)
theorem PG.weak {e:Expr} {t t':TG} (h:PG X e t) (k:∀ v σ H Q,t' v σ H Q→t v σ H Q):PG X e t':=fun pins s σ H v u Q I r q=>h pins s σ H v u Q I r (k v σ H Q q)
theorem PGs.weak {e:List Expr} {t t':TGs} (h:PGs X e t) (k:∀ v σ H Q,t' v σ H Q→t v σ H Q):PGs X e t':=fun pins s σ H v u Q I r q=>h pins s σ H v u Q I r (k v σ H Q q)
theorem PI.weak {tg e:Expr} {t t':TI} (h:PI X tg e t) (k:∀ σ H Q,t' σ H Q→t σ H Q):PI X tg e t':=fun pins s σ H Q I q=>h pins s σ H Q I (k σ H Q q)
end
def cL (K:PySem.W.Frag) (mg:Str→Option Value) (r:R2) (f:Vl→Vl→Sto→R Vl):Prop:=∀ (WE:WX) (μ:Nat→Addr) (S:Sto) (H:Hp) (v w:V) (x y:Vl) (Q:VK),HR μ S H→aP K mg μ S H v x→aP K mg μ S H w y→aK (aP K mg) WE μ S H (f x y S) Q→r v w H Q
def EW (K:PySem.W.Frag) (mg:Str→Option Value) (r:V→Hp→VK→Prop) (f:Vl→Sto→R Vl):Prop:=∀ (WE:WX) (μ:Nat→Addr) (S:Sto) (H:Hp) (v:V) (x:Vl) (Q:VK),HR μ S H→aP K mg μ S H v x→aK (aP K mg) WE μ S H (f x S) Q→r v H Q
def fL (K:PySem.W.Frag) (mg:Str→Option Value) (r:List V→Hp→VK→Prop) (f:List Vl→Sto→R Vl):Prop:=∀ (WE:WX) (μ:Nat→Addr) (S:Sto) (H:Hp) (vs:List V) (xs:List Vl) (Q:VK),HR μ S H→bx K mg μ S H vs xs→aK (aP K mg) WE μ S H (f xs S) Q→r vs H Q
def aa (i:Nat):XE:=fun τ S=>match τ[i]? with
 | some (some v)=>.ok v S
 | _=>.bad
def xC (d:D):XE:=fun _ S=>.ok (.d d) S
def xFn (x:Str):XE:=fun _ S=>.ok (.fn x) S
def xOp (f:Vl→Vl→Sto→R Vl) (a b:XE):XE:=fun τ S=>(a τ S).bind fun x S1=>(b τ S1).bind fun y S2=>f x y S2
def xUn (f:Vl→Sto→R Vl) (a:XE):XE:=fun τ S=>(a τ S).bind fun x S1=>f x S1
def dJ (f f':Vl→Vl→Sto→R Vl) (a b c:XE):XE:=fun τ S=>(a τ S).bind fun x S1=>(b τ S1).bind fun y S2=>(f x y S2).bind fun z S3=>match z with
 | .d (.bl k)=>if k=true then (c τ S3).bind fun w S4=>f' y w S4 else .ok (.d (.bl false)) S3
 | _=>.bad
def asB (z:Vl) (S:Sto):R Bool:=match z with
 | .d (.bl b)=>.ok b S
 | _=>.bad
def aU (a:XE):XT:=fun τ S=>(a τ S).bind asB
def tru (z:Vl) (S:Sto):R Bool:=match z with
 | .d .non=>.ok false S
 | .d (.bl b)=>.ok b S
 | .d (.int i)=>.ok (i != 0) S
 | .d (.tup xs)=>.ok (!xs.isEmpty) S
 | .d (.lst xs)=>.ok (!xs.isEmpty) S
 | .r n=>match S[n]? with
  | some (.lst xs)=>.ok (!xs.isEmpty) S
  | some (.dct kvs)=>.ok (!kvs.isEmpty) S
  | _=>.bad
 | _=>.bad
def eM (a:XE):XT:=fun τ S=>(a τ S).bind tru
def IC (a b:XT):XT:=fun τ S=>(a τ S).bind fun c S1=>if c=true then b τ S1 else .ok false S1
def xOr (a b:XT):XT:=fun τ S=>(a τ S).bind fun c S1=>if c=true then .ok true S1 else b τ S1
def fm (a:XT):XT:=fun τ S=>(a τ S).bind fun c S1=>.ok (!c) S1
def bY (a b:XE):XE:=fun τ S=>(a τ S).bind fun x S1=>(asB x S1).bind fun c S2=>if c=true then b τ S2 else .ok (.d (.bl false)) S2
def IZ (a b:XE):XE:=fun τ S=>(a τ S).bind fun x S1=>(asB x S1).bind fun c S2=>if c=true then .ok (.d (.bl true)) S2 else b τ S2
def qi (a:XE):XE:=fun τ S=>(a τ S).bind fun x S1=>(asB x S1).bind fun c S2=>.ok (.d (.bl (!c))) S2
def IT (c:XT) (a b:XE):XE:=fun τ S=>(c τ S).bind fun k S1=>if k=true then a τ S1 else b τ S1
def ak:XA:=fun _ S=>.ok [] S
def ab (a:XE) (r:XA):XA:=fun τ S=>(a τ S).bind fun x S1=>(r τ S1).bind fun xs S2=>.ok (x :: xs) S2
def h_:List Vl→Option (List D)
 | []=>some []
 | .d x :: r=>(h_ r).map (x :: ·)
 | _=>none
def mkT (xs:List Vl) (S:Sto):R Vl:=match h_ xs with
 | some ds=>if ds.length≤100000 then .ok (.d (.tup ds)) S else .bad
 | none=>.bad
def mkL (xs:List Vl) (S:Sto):R Vl:=match h_ xs with
 | some ds=>if ds.length≤100000 then .ok (.d (.lst ds)) S else .bad
 | none=>.bad
def mkM (xs:List Vl) (S:Sto):R Vl:=match h_ xs with
 | some ds=>if ds.length≤100000 then .ok (.r S.length) (S++[.lst ds]) else .bad
 | none=>.bad
def xN (f:List Vl→Sto→R Vl) (as:XA):XE:=fun τ S=>(as τ S).bind f
def frz (z:Vl) (S:Sto):R Vl:=match z with
 | .r n=>match S[n]? with
  | some (.lst xs)=>.ok (.d (.lst xs)) (S.set n .dead)
  | some (.dct kvs)=>.ok (.fd kvs) (S.set n .dead)
  | _=>.bad
 | z=>.ok z S
def xFz (a:XE):XE:=fun τ S=>(a τ S).bind frz
def oJ:XO:=fun _ S=>.ok none S
def mJ (a:XE):XO:=fun τ S=>(a τ S).bind fun x S1=>match x with
 | .d (.int i)=>.ok (some i) S1
 | _=>.bad
def xSl (f:Vl→Option Int→Option Int→Sto→R Vl) (a:XE) (l h:XO):XE:=fun τ S=>(a τ S).bind fun x S1=>(l τ S1).bind fun i S2=>(h τ S2).bind fun j S3=>f x i j S3
section
variable {X:Cx} {WE:WX} {a b c e:Expr} {xa xb xc xe:XE} {pos:Pos} {es:List Expr} {t u:XT}
theorem rv (i:Nat) {x:Str} (hN:X.N[i]?=some x:=by rfl) (hv:Vis X.env.scope x:=by first | exact Or.inl rfl | exact Or.inr (Or.inl rfl) | exact Or.inr (Or.inr rfl)) (hd:(x == ("__debug__":Str))=false:=by decide)
  (hcd:(x == ("__classdict__":Str))=false:=by decide):RE X WE (.Name x pos) (aa i):=⟨(xR hN hv hd hcd).weak fun σ H Q ⟨μ,S,τ,hr,sr,p⟩=>by
 unfold aa at p
 split at p
 ·obtain ⟨v,e1,r⟩:=sr.get _ _ ‹_›
  exact ⟨v,e1,p.here hr r⟩
 ·exact p.elim⟩
theorem af {i j}:RE X WE (.Constant (.int i) j pos) (xC (.int i)):=⟨F2.weak fun _ _ _ ⟨_,_,_,hr,_,p⟩=>p.here hr (Rep.int i)⟩
theorem fA {i j}:RE X WE (.Constant (.bool i) j pos) (xC (.bl i)):=⟨GC.weak fun _ _ _ ⟨_,_,_,hr,_,p⟩=>p.here hr (Rep.bl i)⟩
theorem bK {x j}:RE X WE (.Constant (.str x) j pos) (xC (.str x)):=⟨DE.weak fun _ _ _ ⟨_,_,_,hr,_,p⟩=>p.here hr (Rep.str x)⟩
theorem Gq {x:Str} {f:Addr} (hg:Gl X x) (hm:X.mg x=some (.ref f)) (hd:(x == ("__debug__":Str))=false:=by decide):RE X WE (.Name x pos) (xFn x):=
 ⟨(CL (v:=.ref f) hg hm rfl hd).weak fun _ _ _ ⟨_,_,_,hr,_,p⟩=>p.here hr ⟨f,hm,rfl⟩⟩
theorem two {r:R2} {f:Vl→Vl→Sto→R Vl} (hf:cL X.K X.mg r f) {σ:St} {H:Hp} {Q:VK} (h:trE X.K X.mg WE (xOp f xa xb) σ H Q):tOp r (trE X.K X.mg WE xa) (trE X.K X.mg WE xb) σ H Q:=by
 obtain ⟨μ,S,τ,hr,sr,p⟩:=h
 refine ⟨μ,S,τ,hr,sr,p.bind fun v x S1 μ1 H1 st1 r1 p1=>?_⟩
 refine ⟨μ1,S1,τ,st1.hr,sr.step st1,p1.bind fun w y S2 μ2 H2 st2 r2 p2=>?_⟩
 exact hf WE μ2 S2 H2 v w x y Q st2.hr (r1.step st2) r2 p2
theorem aD {op:Operator} {r:R2} {f:Vl→Vl→Sto→R Vl} (ho:OpR X (binaryOp op) r) (hf:cL X.K X.mg r f) (ha:RE X WE a xa) (hb:RE X WE b xb):RE X WE (.BinOp a op b pos) (xOp f xa xb):=
 ⟨(HM ho ha.h hb.h).weak fun _ _ _ h=>two hf h⟩
theorem kZ {op:UnaryOp} {r:V→Hp→VK→Prop} {f:Vl→Sto→R Vl} (ho:UnR X (unaryOp op) r) (hf:EW X.K X.mg r f) (ha:RE X WE a xa):RE X WE (.UnaryOp op a pos) (xUn f xa):=
 ⟨(Ht ho ha.h).weak fun σ H Q ⟨μ,S,τ,hr,sr,p⟩=>⟨μ,S,τ,hr,sr,p.bind fun v x S1 μ1 H1 st1 r1 p1=>hf WE μ1 S1 H1 v x Q st1.hr r1 p1⟩⟩
theorem cH {op:CmpOp} {r:R2} {f:Vl→Vl→Sto→R Vl} (ho:OpR X (compareOp op) r) (hf:cL X.K X.mg r f) (ha:RE X WE a xa) (hb:RE X WE b xb) (hm:behindInMarks op b=false:=by first | exact xm _ | with_unfolding_all rfl):RE X WE (.Compare a [op] [b] pos) (xOp f xa xb):=
 ⟨(CK ho ha.h hb.h hm).weak fun _ _ _ h=>two hf h⟩
theorem uC {σ:St} {H:Hp} {Q:Bool→Hp→Prop} (h:trT X.K X.mg WE (aU xa) σ H Q):trE X.K X.mg WE xa σ H fun v H'=>∃ k,v=.bl k∧Q k H':=by
 obtain ⟨μ,S,τ,hr,sr,p⟩:=h
 refine ⟨μ,S,τ,hr,sr,p.bind fun v x S1 μ1 H1 st1 r1 p1=>?_⟩
 unfold asB at p1
 split at p1
 ·cases (show Rep (vh μ1 S1 H1) v (.bl _) from r1)
  exact ⟨_,rfl,p1.here st1.hr rfl⟩
 ·exact p1.elim
theorem aW {op:CmpOp} {r:R2} {f:Vl→Vl→Sto→R Vl} (ho:OpR X (compareOp op) r) (hf:cL X.K X.mg r f) (ha:RE X WE a xa) (hb:RE X WE b xb) (hm:behindInMarks op b=false:=by first | exact xm _ | with_unfolding_all rfl):RT X WE (.Compare a [op] [b] pos) (aU (xOp f xa xb)):=
 ⟨(Cd ho ha.h hb.h hm).weak fun _ _ _ h=>two hf (uC h)⟩
theorem rm {r r':R2} {f f':Vl→Vl→Sto→R Vl} (hf:cL X.K X.mg r f) (hf':cL X.K X.mg r' f') {σ:St} {H:Hp} {Q:VK} (h:trE X.K X.mg WE (dJ f f' xa xb xc) σ H Q):rh r r' (trE X.K X.mg WE xa) (trE X.K X.mg WE xb) (trE X.K X.mg WE xc) σ H Q:=by
 obtain ⟨μ,S,τ,hr,sr,p⟩:=h
 refine ⟨μ,S,τ,hr,sr,p.bind fun v x S1 μ1 H1 st1 r1 p1=>?_⟩
 refine ⟨μ1,S1,τ,st1.hr,sr.step st1,p1.bind fun w y S2 μ2 H2 st2 r2 p2=>?_⟩
 refine hf WE μ2 S2 H2 v w x y _ st2.hr (r1.step st2) r2 (p2.bind fun z zz S3 μ3 H3 st3 r3 p3=>?_)
 try dsimp only at p3
 split at p3
 ·cases (show Rep (vh μ3 S3 H3) z (.bl _) from r3)
  refine ⟨_,rfl,?_⟩
  split at p3
  ·rename_i k hk
   rw [if_pos hk]
   refine ⟨μ3,S3,τ,st3.hr,sr.step (st1.trans (st2.trans st3)),p3.bind fun q qq S4 μ4 H4 st4 r4 p4=>?_⟩
   exact hf' WE μ4 S4 H4 w q y qq Q st4.hr (r2.step (st3.trans st4)) r4 p4
  ·rename_i k hk
   rw [if_neg hk]
   exact p3.here st3.hr (Rep.bl false)
 ·exact p3.elim
theorem jw {op op':CmpOp} {r r':R2} {f f':Vl→Vl→Sto→R Vl} (ho:OpR X (compareOp op) r) (hf:cL X.K X.mg r f) (ho':OpR X (compareOp op') r') (hf':cL X.K X.mg r' f') (ha:RE X WE a xa) (hb:RE X WE b xb) (hc:RE X WE c xc)
  (hm:lastMarks [op,op'] [b,c]=false:=by with_unfolding_all rfl):RE X WE (.Compare a [op,op'] [b,c] pos) (dJ f f' xa xb xc):=⟨(AW ho ho' ha.h hb.h hc.h hm).weak fun _ _ _ h=>rm hf hf' h⟩
theorem qJ {op op':CmpOp} {r r':R2} {f f':Vl→Vl→Sto→R Vl} (ho:OpR X (compareOp op) r) (hf:cL X.K X.mg r f) (ho':OpR X (compareOp op') r') (hf':cL X.K X.mg r' f') (ha:RE X WE a xa) (hb:RE X WE b xb) (hc:RE X WE c xc)
  (hm:lastMarks [op,op'] [b,c]=false:=by with_unfolding_all rfl):RT X WE (.Compare a [op,op'] [b,c] pos) (aU (dJ f f' xa xb xc)):=⟨(Ak ho ho' ha.h hb.h hc.h hm).weak fun _ _ _ h=>rm hf hf' (uC h)⟩
theorem isE {α β:Type} {xs:List α} {ys:List β} (h:xs.length=ys.length):(!xs.isEmpty)=!ys.isEmpty:=by
  cases xs<;>cases ys<;>first | rfl | simp at h
theorem Ds {K:PySem.W.Frag} {mg:Str→Option Value} {WE:WX} {μ:Nat→Addr} {S:Sto} {H:Hp} {v:V} {x:Vl} {Q:Bool→Hp→Prop} (hr:HR μ S H) (r:aP K mg μ S H v x) (p:aK RlQ WE μ S H (tru x S) Q):∃ k,Ar K v H k∧Q k H:=by
 unfold tru at p
 split at p
 ·cases (show Rep (vh μ S H) v .non from r);exact ⟨false,rfl,p.here hr rfl⟩
 ·cases (show Rep (vh μ S H) v (.bl _) from r);exact ⟨_,rfl,p.here hr rfl⟩
 ·cases (show Rep (vh μ S H) v (.int _) from r);exact ⟨_,rfl,p.here hr rfl⟩
 ·cases (show Rep (vh μ S H) v (.tup _) from r) with
  | tup h rs=>exact ⟨_,.inr (.inl ⟨_,SqT.of (aC h).2,rfl⟩),by rw [isE rs.length];exact p.here hr rfl⟩
 ·cases (show Rep (vh μ S H) v (.lst _) from r) with
  | lst h rs=>exact ⟨_,.inl ⟨_,SqL.of (aC h).2,rfl⟩,by rw [isE rs.length];exact p.here hr rfl⟩
 ·obtain ⟨rfl,hn⟩:=r
  split at p
  ·rename_i xs e
   obtain ⟨vs,h,rs⟩:=hr.ob _ _ e
   exact ⟨_,.inl ⟨_,SqL.of h,rfl⟩,by rw [isE rs.length];exact p.here hr rfl⟩
  ·rename_i kvs e
   obtain ⟨vs,l,h,rs⟩:=hr.ob _ _ e
   exact ⟨_,.inr (.inr ⟨_,h,rfl⟩),by rw [isE (ys:=kvs) (by simp [l])];exact p.here hr rfl⟩
  ·exact p.elim
 ·exact p.elim
theorem cW (ha:RE X WE a xa) (he:∀ whole,isTrue a X.env whole=(do let v ← whole;standAt a.pos;holding [v] (truthy v)):=by intro _;rfl):RT X WE a (eM xa):=
 ⟨(zQ ha.h he).weak fun σ H Q ⟨μ,S,τ,hr,sr,p⟩=>⟨μ,S,τ,hr,sr,p.bind fun v x S1 μ1 H1 st1 r1 p1=>Ds st1.hr r1 p1⟩⟩
theorem kr (ha:RT X WE a t):RW X WE (.BoolOp .Or [a] pos) t:=⟨EK ha.h⟩
theorem nQ (ha:RT X WE a t) (hb:RW X WE (.BoolOp .Or (b :: es) pos) u):RW X WE (.BoolOp .Or (a :: b :: es) pos) (xOr t u):=
 ⟨(Ge ha.h hb.h).weak fun σ H Q ⟨μ,S,τ,hr,sr,p⟩=>⟨μ,S,τ,hr,sr,p.bind fun k k' S1 μ1 H1 st1 r1 p1=>by
  cases (show k=k' from r1)
  try dsimp only at p1
  split at p1
  ·rename_i hk;rw [if_pos hk];exact p1.here st1.hr rfl
  ·rename_i hk;rw [if_neg hk];exact ⟨μ1,S1,τ,st1.hr,sr.step st1,p1⟩⟩⟩
theorem RW.rt (h:RW X WE a t):RT X WE a t:=⟨h.h.pt⟩
theorem dq (ha:RT X WE a t):RT X WE (.UnaryOp .Not a pos) (fm t):=
 ⟨(Dq ha.h).weak fun σ H Q ⟨μ,S,τ,hr,sr,p⟩=>⟨μ,S,τ,hr,sr,p.bind fun k k' S1 μ1 H1 st1 r1 p1=>by
  cases (show k=k' from r1)
  exact p1.here st1.hr rfl⟩⟩
theorem xD {K:PySem.W.Frag} {mg:Str→Option Value} {α β:Type} {Rl:(Nat→Addr)→Sto→Hp→β→α→Prop} {μ:Nat→Addr} {S:Sto} {H:Hp} {v:V} {x:Vl} {Q:β→Hp→Prop} {f:Bool→Sto→R α} (r:aP K mg μ S H v x) (p:aK Rl WE μ S H ((asB x S).bind f) Q):∃ k,v=.bl k∧aK Rl WE μ S H (f k S) Q:=by
 unfold asB at p
 split at p
 ·cases (show Rep (vh μ S H) v (.bl _) from r)
  exact ⟨_,rfl,p⟩
 ·exact p.elim
theorem cj {op} (ha:RE X WE a xa):RE X WE (.BoolOp op [a] pos) xa:=⟨Fb ha.h⟩
theorem bT (ha:RE X WE a xa) (hb:RE X WE (.BoolOp .And (b :: es) pos) xb):RE X WE (.BoolOp .And (a :: b :: es) pos) (bY xa xb):=
 ⟨(DD ha.h hb.h).weak fun σ H Q ⟨μ,S,τ,hr,sr,p⟩=>⟨μ,S,τ,hr,sr,p.bind fun v x S1 μ1 H1 st1 r1 p1=>by
  obtain ⟨k,rfl,p1⟩:=xD r1 p1
  refine ⟨k,rfl,?_⟩
  split at p1
  ·rename_i hk;rw [if_pos hk];exact ⟨μ1,S1,τ,st1.hr,sr.step st1,p1⟩
  ·rename_i hk;rw [if_neg hk];exact p1.here st1.hr (Rep.bl false)⟩⟩
theorem wN (ha:RE X WE a xa):RE X WE (.UnaryOp .Not a pos) (qi xa):=
 ⟨(Fj ha.h).weak fun σ H Q ⟨μ,S,τ,hr,sr,p⟩=>⟨μ,S,τ,hr,sr,p.bind fun v x S1 μ1 H1 st1 r1 p1=>by
  obtain ⟨k,rfl,p1⟩:=xD r1 p1
  exact ⟨k,rfl,p1.here st1.hr (Rep.bl _)⟩⟩⟩
theorem ai:RA X WE [] ak:=⟨fB.weak fun σ H Q ⟨μ,S,τ,hr,sr,p⟩=>p.here hr .nil⟩
theorem ah {ts:XA} [n:NS e] (ha:RE X WE e xe) (hr:RA X WE es ts):RA X WE (e :: es) (ab xe ts):=
 ⟨(dz ha.h hr.h (n.eq es X.env)).weak fun σ H Q ⟨μ,S,τ,hr,sr,p⟩=>⟨μ,S,τ,hr,sr,p.bind fun v x S1 μ1 H1 st1 r1 p1=>⟨μ1,S1,τ,st1.hr,sr.step st1,p1.bind fun vs xs S2 μ2 H2 st2 r2 p2=>
  p2.here st2.hr (.cons (r1.step st2) r2)⟩⟩⟩
theorem eC {K:PySem.W.Frag} {mg:Str→Option Value} {μ:Nat→Addr} {S:Sto} {H:Hp}:∀ {vs:List V} {xs:List Vl} {ds:List D},bx K mg μ S H vs xs→h_ xs=some ds→av (vh μ S H) vs ds
 | _,_,_,.nil,e=>by simp [h_] at e;subst e;exact .nil
 | _,_,ds,@bx.cons _ _ _ _ _ v x vs xs r t,e=>by
  cases x with
  | d x=>
   simp only [h_,Option.map_eq_some_iff] at e
   obtain ⟨es,e1,rfl⟩:=e
   exact .cons r (eC t e1)
  | _=>simp [h_] at e
theorem iz {n:Nat} (h:n≤100000):n≤sizeLine:=by rw [sizeLine_eq];omega
theorem aK.vH {K:PySem.W.Frag} {mg:Str→Option Value} {μ:Nat→Addr} {S:Sto} {H:Hp} {Q:VK} {vs:List V} {ds:List D} (hr:HR μ S H) (rs:av (vh μ S H) vs ds) (p:aK (aP K mg) WE μ S H (.ok (.d (.tup ds)) S) Q) (q:Addr) (hq:H q=none):Q (.ref q) (upd H q (.tup vs)):=by
 have st:=Step.new hr hq (.tup vs)
 exact p _ μ _ st (Rep.tup (bF bO (hr.nal hq)) (rs.mono st.vis))
theorem dQ {ts:XA} {k:Nat} (h:RA X WE es ts):RE X WE (.Tuple es k pos) (xN mkT ts):=
 ⟨(yJ h.h).weak fun σ H Q ⟨μ,S,τ,hr,sr,p⟩=>⟨μ,S,τ,hr,sr,p.bind fun vs xs S1 μ1 H1 st1 r1 p1=>by
  unfold mkT at p1
  split at p1
  ·rename_i ds e
   split at p1
   ·have rs:=eC r1 e
    refine ⟨iz (by rw [rs.length];assumption),fun q hq=>p1.vH st1.hr rs q hq⟩
   ·exact p1.elim
  ·exact p1.elim⟩⟩
end
section
variable {X:Cx} {WE:WX} {a b c e:Expr} {xa xb xc xe:XE} {pos:Pos} {es:List Expr} {t u:XT} {K:PySem.W.Frag} {mg:Str→Option Value} {μ:Nat→Addr} {S:Sto} {H:Hp} {Q:VK} {vs:List V} {ds:List D}
theorem aK.kn (hr:HR μ S H) (rs:av (vh μ S H) vs ds) (p:aK (aP K mg) WE μ S H (.ok (.d (.lst ds)) S) Q) (q:Addr) (hq:H q=none):Q (.ref q) (upd H q (.lst vs)):=by
 have st:=Step.new hr hq (.lst vs)
 exact p _ μ _ st (Rep.lst (bF bO (hr.nal hq)) (rs.mono st.vis))
theorem aK.zN (hr:HR μ S H) (rs:av (vh μ S H) vs ds) (p:aK (aP K mg) WE μ S H (.ok (.r S.length) (S++[.lst ds])) Q) (q:Addr) (hq:H q=none):Q (.ref q) (upd H q (.lst vs)):=
 p _ _ _ (Step.alloc hr hq (ob:=.lst ds) ⟨vs,rfl,rs⟩) ⟨by rw [cg],by simp⟩
theorem dU {ts:XA} (h:RA X WE es ts):RE X WE (.List es pos) (xN mkL ts):=
 ⟨(yp h.h).weak fun σ H Q ⟨μ,S,τ,hr,sr,p⟩=>⟨μ,S,τ,hr,sr,p.bind fun vs xs S1 μ1 H1 st1 r1 p1=>by
  unfold mkL at p1
  split at p1
  ·rename_i ds e
   split at p1
   ·have rs:=eC r1 e
    refine ⟨iz (by rw [rs.length];assumption),fun q hq=>p1.kn st1.hr rs q hq⟩
   ·exact p1.elim
  ·exact p1.elim⟩⟩
theorem lh {ts:XA} (h:RA X WE es ts):RE X WE (.List es pos) (xN mkM ts):=
 ⟨(yp h.h).weak fun σ H Q ⟨μ,S,τ,hr,sr,p⟩=>⟨μ,S,τ,hr,sr,p.bind fun vs xs S1 μ1 H1 st1 r1 p1=>by
  unfold mkM at p1
  split at p1
  ·rename_i ds e
   split at p1
   ·have rs:=eC r1 e
    refine ⟨iz (by rw [rs.length];assumption),fun q hq=>p1.zN st1.hr rs q hq⟩
   ·exact p1.elim
  ·exact p1.elim⟩⟩
theorem nI (ha:RE X WE a xa):RE X WE a (xFz xa):=
 ⟨fun pins s σ H Q I ⟨μ,S,τ,hr,sr,p⟩=>by
  refine thn (ha.h pins s σ H (fun v H1=>∃ μ1 S1 x,HR μ1 S1 H1∧aP X.K X.mg μ1 S1 H1 v x∧aK (aP X.K X.mg) WE μ1 S1 H1 (frz x S1) Q) I ⟨μ,S,τ,hr,sr,p.bind fun v x S1 μ1 H1 st1 r1 p1=>⟨μ1,S1,x,st1.hr,r1,p1⟩⟩) fun u s1 ⟨v,H1,I1,ru,μ1,S1,x,hr1,r1,p1⟩=>?_
  unfold frz at p1
  split at p1
  ·obtain ⟨rfl,hn⟩:=r1
   split at p1
   ·rename_i n xs e
    obtain ⟨vs,h,rs⟩:=hr1.ob _ _ e
    obtain ⟨st2,na⟩:=Step.freeze hr1 e (by simp)
    exact ⟨_,H1,I1,ru,p1 _ _ _ st2 (Rep.lst (bF h na) (rs.mono st2.vis))⟩
   ·rename_i n _ kvs e
    obtain ⟨vs,l,h,rs⟩:=hr1.ob _ _ e
    have ok:bz X.prog X.w H1 s1.heap (μ1 n) (.dK ((kvs.map (·.1)).zip vs)):=I1.hok _ _ h
    obtain ⟨z1,z2,ws,rel,o,es,ep,ho,r⟩:=ok
    obtain ⟨st2,na⟩:=Step.AO hr1 (.frz o (.dK ((kvs.map (·.1)).zip vs))) e (by simp)
    exact ⟨_,_,I1.write (o:=.frz o (.dK ((kvs.map (·.1)).zip vs))) (h':=s1.heap) (x:=μ1 n) (e:=μ1 n) (t':=s1.toks) (by rw [h];exact True.intro) (.inl rfl) (fun b q _ hq=>hq) ⟨o,ho⟩ (show _∧_ from ⟨ho,z1,z2,ws,rel,o,es,ep,ho,r⟩),ru,p1 _ _ _ st2 ⟨_,vs,o,rfl,l,bF bO na,rs.mono st2.vis⟩⟩
   ·exact p1.elim
  ·exact ⟨_,H1,I1,ru,p1.here hr1 r1⟩⟩
theorem aF {x:Str} {p:Pos} {id:String} {r:List V→Hp→VK→Prop} {f:List Vl→Sto→R Vl} {ts:XA} [n:NS e] (hc:bL X (.builtin id) r) (hf:fL X.K X.mg r f) (hm:X.mg x=none) (hv:bootBuiltins x=some (.builtin id)) (ha:RA X WE (e :: es) ts) (hg:Gl X x:=by exact rfl) (hn:x≠"__name__":=by decide) (hdb:(x == ("__debug__":Str))=false:=by decide)
  (hpl:(backTo pos (starEach es X.env)).any (·.1)=false:=by rfl):RE X WE (.Call (.Name x p) (e :: es) [] pos) (xN f ts):=
 ⟨(zO hc hg hm hv ha.h hn hdb (n.eq es X.env) hpl).weak fun σ H Q ⟨μ,S,τ,hr,sr,p⟩=>⟨μ,S,τ,hr,sr,p.bind fun vs xs S1 μ1 H1 st1 r1 p1=>hf WE μ1 S1 H1 vs xs Q st1.hr r1 p1⟩⟩
theorem cx {x:Str} {p:Pos} {T:String} {r:List V→Hp→VK→Prop} {f:List Vl→Sto→R Vl} {ts:XA} [n:NS e] (hc:bL X (.type T) r) (hf:fL X.K X.mg r f) (hm:X.mg x=none) (hv:bootBuiltins x=some (.type T)) (ha:RA X WE (e :: es) ts) (hg:Gl X x:=by exact rfl) (hn:x≠"__name__":=by decide) (hdb:(x == ("__debug__":Str))=false:=by decide)
  (hpl:(backTo pos (starEach es X.env)).any (·.1)=false:=by rfl):RE X WE (.Call (.Name x p) (e :: es) [] pos) (xN f ts):=
 ⟨(w8 hc hg hm hv ha.h hn hdb (n.eq es X.env) hpl).weak fun σ H Q ⟨μ,S,τ,hr,sr,p⟩=>⟨μ,S,τ,hr,sr,p.bind fun vs xs S1 μ1 H1 st1 r1 p1=>hf WE μ1 S1 H1 vs xs Q st1.hr r1 p1⟩⟩
def spM (K:PySem.W.Frag) (mg:Str→Option Value) (F:XF):Sp:=fun vs H Q _=>∃ μ S us,HR μ S H∧bx K mg μ S H vs us∧aK (aP K mg) W0 μ S H (F us S) Q
def noX {α:Type} (r:R α):R α:=match r with
 | .ex _ _ _=>.bad
 | r=>r
def az (F:XF) (as:XA):XE:=fun τ S=>(as τ S).bind fun us S1=>noX (F us S1)
theorem aK.noX {α β:Type} {Rl:(Nat→Addr)→Sto→Hp→β→α→Prop} {res:R α} {Q:β→Hp→Prop} (h:aK Rl WE μ S H (noX res) Q):aK Rl W0 μ S H res Q:=by
 cases res with
 | ok a S'=>exact h
 | ex c xs S'=>exact h.elim
 | bad=>exact h.elim
end
section
variable {X:Cx} {WE:WX} {e:Expr} {es:List Expr} {pos p:Pos} {lev j:Nat} {ps:List Str} {F:XF} {x:Str} {ts:XA}
def OkE (P:Program) (w:World) (K:PySem.W.Frag) (mg:Str→Option Value) (lev:Nat) (x:Str) (ps:List Str) (M:XF):Prop:=∃ (f:Addr) (fd:FuncData),mg x=some (.ref f)∧PySem.W.keepIn K (.ref f)=true∧(∀ us:List Value,us.length=ps.length→bindArgs fd ⟨us,[]⟩=pure (ps.zip us))∧∀ base,du P w K mg base CX0 lev f fd ps (spM K mg M)
theorem aw [n:NS e] (G:OkE X.prog X.w X.K X.mg lev x ps F) (hr:cn j X.A) (ha:RA X WE (e :: es) ts) (hj:lev≤j:=by decide) (hg:Gl X x:=by exact rfl)
  (hdb:(x == ("__debug__":Str))=false:=by decide) (hpl:(backTo pos (starEach es X.env)).any (·.1)=false:=by rfl):RE X WE (.Call (.Name x p) (e :: es) [] pos) (az F ts):=by
 obtain ⟨f,fd,hm,hk,hb,G⟩:=G
 exact ⟨(BR (G X.base) (hr.mono hj) hg hm hk (.all hb) .nil Br ha.h hdb (n.eq es X.env) hpl).weak fun σ H Q ⟨μ,S,τ,hr,sr,p⟩=>⟨μ,S,τ,hr,sr,p.bind fun vs xs S1 μ1 H1 st1 r1 p1=>by
  rw [List.append_nil]
  exact ⟨μ1,S1,xs,st1.hr,r1,p1.noX⟩⟩⟩
end
def out (S:Sto) (z:Vl) (S':Sto):R Vl:=match z with
 | .r n=>if n < S.length then .ok (.r n) (S'.take S.length) else match S'[n]? with
  | some (.lst xs)=>.ok (.r S.length) (S'.take S.length++[.lst xs])
  | some (.dct kvs)=>.ok (.r S.length) (S'.take S.length++[.dct kvs])
  | _=>.bad
 | .pr x n=>if n < S.length then .ok (.pr x n) (S'.take S.length) else match S'[n]? with
  | some (.lst xs)=>.ok (.pr x S.length) (S'.take S.length++[.lst xs])
  | _=>.bad
 | z=>.ok z (S'.take S.length)
def leave (S:Sto) (r:R (Fl×Nv)):R Vl:=match r with
 | .ok q S'=>(match q.1 with
  | .nx=>out S (.d .non) S'
  | .rt z=>out S z S'
  | _=>.bad)
 | .ex c xs S'=>.ex c xs (S'.take S.length)
 | .bad=>.bad
def aQ (k n:Nat) (b:XS):XF:=fun us S=>if us.length=k then leave S (b (us.map some++List.replicate (n - k) none) S) else .bad
section
variable {K:PySem.W.Frag} {mg:Str→Option Value} {μ μ':Nat→Addr} {S S':Sto} {H H':Hp} {Q:VK}
theorem fi {k:Nat}:dH (vh μ S H) (vh μ (S.take k) H):=fun b u q=>by
 obtain ⟨z,q⟩:=aC q
 refine bF q ?_
 rintro ⟨m,u,e,d,rfl⟩
 exact z ⟨m,u,(cO e).2,d,rfl⟩
theorem BZ {k n:Nat} {ob:Ob} (hk:k≤S.length) (e0:S[n]?=some ob) (d0:ob≠.dead):dH (vh μ S H) (vh (ext μ k (μ n)) (S.take k++[ob]) H):=fun b u q=>by
 obtain ⟨z,q⟩:=aC q
 refine bF q ?_
 rintro ⟨m,u,e,d,rfl⟩
 have lt:(S.take k).length=k:=by rw [List.length_take];omega
 by_cases hm:m < k
 ·rw [List.getElem?_append_left (by omega)] at e
  exact z ⟨m,u,(cO e).2,d,by rw [kj (Nat.ne_of_lt hm)]⟩
 ·have hm':m=k:=by
   have:=(List.getElem?_eq_some_iff.mp e).1
   simp only [List.length_append,lt,List.length_singleton] at this
   omega
  subst hm'
  exact z ⟨n,ob,e0,d0,by rw [cg]⟩
theorem xT {WE:WX} {v:V} {z:Vl} (st:Step μ S H μ' S' H') (r:aP K mg μ' S' H' v z) (p:aK (aP K mg) WE μ S H (out S z S') Q):Q v H':=by
 have st':=st.take
 cases z with
 | d x=>exact p v μ' H' st' (Rep.mono fi r)
 | fd kvs=>obtain ⟨a,vs,o,e,l,h,rs⟩:=r;exact p v μ' H' st' ⟨a,vs,o,e,l,fi _ _ h,rs.mono fi⟩
 | fn x=>exact p v μ' H' st' r
 | sc ns=>obtain ⟨l,e,h⟩:=r;exact p v μ' H' st' ⟨l,e,h.mono fi⟩
 | pr x n=>
  obtain ⟨a,u,rfl,h,ru,hn⟩:=r
  unfold out at p
  try dsimp only at p
  split at p
  ·exact p _ μ' H' st' ⟨a,u,rfl,fi _ _ h,Rep.mono fi ru,by rw [List.length_take];omega⟩
  ·have lt:(S'.take S.length).length=S.length:=by rw [List.length_take];have:=st.le;omega
   split at p
   ·rename_i xs e
    have k:=BZ (μ:=μ') (H:=H') (k:=S.length) st.le e (by simp)
    exact p _ _ H' (st.move (by omega) e (by simp)) ⟨a,u,rfl,by rw [cg];exact k _ _ h,Rep.mono k ru,by simp [lt]⟩
   ·exact p.elim
 | r n=>
  obtain ⟨rfl,hn⟩:=r
  unfold out at p
  try dsimp only at p
  split at p
  ·exact p _ μ' H' st' ⟨rfl,by rw [List.length_take];omega⟩
  ·have lt:(S'.take S.length).length=S.length:=by rw [List.length_take];have:=st.le;omega
   split at p
   ·rename_i xs e
    exact p _ _ H' (st.move (by omega) e (by simp)) ⟨by rw [cg],by simp [lt]⟩
   ·rename_i xs e
    exact p _ _ H' (st.move (by omega) e (by simp)) ⟨by rw [cg],by simp [lt]⟩
   ·exact p.elim
theorem I_ {P:Program} {w:World} {base:Heap} {x qual:Str} {st:Stmt} {f:Addr} {fd:FuncData} {N ps:List Str} {lev:Nat} {m:XS} (F:Fun K x qual st f fd) (Sc:iK N ps (bP st))
  (hb:∀ (cdv:Value) (A:Around) (outer:List Env) (s:Shared) (H:Hp) (E:XK),cn lev (A.deeper (envOfC qual (bP st) s.heap.objs.size f cdv))→RB (kE CX0 P w K mg base N qual (bP st) f cdv A outer s H E).nox W0 (el st) m) :
  du P w K mg base CX0 (lev+1) f fd ps (spM K mg (aQ ps.length N.length m)):=by
 refine F.ok Sc (fun vs H Q E h=>?_) (fun cdv A outer s H vs Q E hr h=>?_)
 ·obtain ⟨μ,S,us,hr,rs,p⟩:=h
  unfold aQ at p
  split at p
  ·rw [rs.length];assumption
  ·exact p.elim
 ·refine ⟨_,(hb cdv A outer s H E hr).h,?_⟩
  obtain ⟨μ,S,us,hr,rs,p⟩:=h
  unfold aQ at p
  split at p
  ·rename_i hl
   have sr:bV K mg μ S H (start N vs) (us.map some++List.replicate (N.length - ps.length) none):=by
    rw [← hl];exact bV.beg rs
   refine ⟨μ,S,_,hr,sr,?_⟩
   generalize m (us.map some++List.replicate (N.length - ps.length) none) S=res at p
   cases res with
   | bad=>exact p.elim
   | ex c xs S'=>exact fun μ' H' st=>p μ' H' st.take
   | ok q S'=>
    obtain ⟨fl,τ'⟩:=q
    rintro ⟨fv,σ'⟩ μ' H' st ⟨sr',fr⟩
    cases fl with
    | nx=>
     cases fv with
     | nx=>exact xT (K:=K) (mg:=mg) (v:=.non) (z:=.d .non) st Rep.non p
     | _=>exact (show False from fr).elim
    | rt z=>
     cases fv with
     | rt v=>exact xT st fr p
     | _=>exact (show False from fr).elim
    | bk=>exact (show False from p).elim
    | ct=>exact (show False from p).elim
  ·exact p.elim
end
def aT:XS:=fun τ S=>.ok (.nx,τ) S
def ax (a b:XS):XS:=fun τ S=>(a τ S).bind fun q S1=>match q.1 with
 | .nx=>b q.2 S1
 | _=>.ok q S1
def eO (e:XE):XS:=fun τ S=>(e τ S).bind fun _ S1=>.ok (.nx,τ) S1
def aN (e:XE):XS:=fun τ S=>(e τ S).bind fun z S1=>.ok (.rt z,τ) S1
def HI:XS:=fun τ S=>.ok (.rt (.d .non),τ) S
def Dz:XS:=fun τ S=>.ok (.bk,τ) S
def HD:XS:=fun τ S=>.ok (.ct,τ) S
def xIf (c:XT) (a b:XS):XS:=fun τ S=>(c τ S).bind fun k S1=>if k=true then a τ S1 else b τ S1
def bE:XS:=fun _ _=>.bad
def aJ (e:XE) (g:XG):XS:=fun τ S=>(e τ S).bind fun z S1=>(g z τ S1).bind fun τ1 S2=>.ok (.nx,τ1) S2
def gNm (i:Nat):XG:=fun z τ S=>.ok (τ.set i (some z)) S
def gTu (n:Nat) (g:XGs):XG:=fun z τ S=>match z with
 | .d (.tup xs)=>if xs.length=n then g (xs.map Vl.d) τ S else .bad
 | _=>.bad
def gN0:XGs:=fun zs τ S=>match zs with
 | []=>.ok τ S
 | _=>.bad
def gCo (g:XG) (gs:XGs):XGs:=fun zs τ S=>match zs with
 | z :: r=>(g z τ S).bind fun τ1 S1=>gs r τ1 S1
 | []=>.bad
def gSb (o i:XE) (f:Vl→Vl→Vl→Sto→R Unit):XG:=fun z τ S=>(o τ S).bind fun x S1=>(i τ S1).bind fun y S2=>(f x y z S2).bind fun _ S3=>.ok τ S3
def gok (gd:Option (Nat×Ob)) (S:Sto):Prop:=match gd with
 | none=>True
 | some (n,o)=>S[n]?=some o
open Classical in
noncomputable def bU (g:XG) (b:XS) (gd:Option (Nat×Ob)):List Vl→Nv→Sto→R (Fl×Nv)
 | [],τ,S=>.ok (.nx,τ) S
 | z :: zs,τ,S=>(g z τ S).bind fun τ1 S1=>(b τ1 S1).bind fun q S2=>match q.1 with
  | .bk=>.ok (.nx,q.2) S2
  | .rt v=>.ok (.rt v,q.2) S2
  | _=>if gok gd S2 then bU g b gd zs q.2 S2 else .bad
noncomputable def cC (it:XI) (g:XG) (b:XS):XS:=fun τ S=>(it τ S).bind fun I S1=>bU g b I.gd I.items τ S1
section
variable {X:Cx} {WE:WX} {e c tg iter:Expr} {xe:XE} {t:XT} {pos:Pos} {st:Stmt} {sts sts':List Stmt} {m m':XS} {g:XG} {gs:XGs} {it:XI}
theorem aM:RB X WE [] aT:=⟨B4.weak fun D σ H ⟨μ,S,τ,hr,sr,p⟩=>p.here (b:=(FlV.nx,σ)) hr ⟨sr,True.intro⟩⟩
theorem au (h:RS X WE st m):RB X WE [st] m:=⟨Cc h.h⟩
theorem ao (h:RS X WE st m) (h':RB X WE sts m'):RB X WE (st :: sts) (ax m m'):=
 ⟨(AL h.h h'.h).weak fun D σ H ⟨μ,S,τ,hr,sr,p⟩=>⟨μ,S,τ,hr,sr,p.bind fun b q S1 μ1 H1 st1 r1 p1=>by
  obtain ⟨fv,σ1⟩:=b
  obtain ⟨fl,τ1⟩:=q
  obtain ⟨sr1,fr⟩:=r1
  cases fl with
  | nx=>cases fv with
   | nx=>exact ⟨μ1,S1,τ1,st1.hr,sr1,p1⟩
   | _=>exact (show False from fr).elim
  | bk=>cases fv with
   | bk=>exact (show D.at (FlV.bk,σ1) H1 from aK.here (b:=(FlV.bk,σ1)) st1.hr p1 ⟨sr1,True.intro⟩)
   | _=>exact (show False from fr).elim
  | ct=>cases fv with
   | ct=>exact (show D.at (FlV.ct,σ1) H1 from aK.here (b:=(FlV.ct,σ1)) st1.hr p1 ⟨sr1,True.intro⟩)
   | _=>exact (show False from fr).elim
  | rt z=>cases fv with
   | rt v=>exact (show D.at (FlV.rt v,σ1) H1 from aK.here (b:=(FlV.rt v,σ1)) st1.hr p1 ⟨sr1,fr⟩)
   | _=>exact (show False from fr).elim⟩⟩
theorem d_ (he:RE X WE e xe) (hs:swapsWith e none pos.line X.env=pure false:=by rfl):RS X WE (.Expr e pos) (eO xe):=
 ⟨(CO he.h hs).weak fun D σ H ⟨μ,S,τ,hr,sr,p⟩=>⟨μ,S,τ,hr,sr,p.bind fun v x S1 μ1 H1 st1 r1 p1=>p1.here (b:=(FlV.nx,σ)) st1.hr ⟨sr.step st1,True.intro⟩⟩⟩
theorem aB (he:RE X WE e xe):RS X WE (.Return (some e) pos) (aN xe):=
 ⟨(D7 he.h).weak fun D σ H ⟨μ,S,τ,hr,sr,p⟩=>⟨μ,S,τ,hr,sr,p.bind fun v x S1 μ1 H1 st1 r1 p1=>p1.here (b:=(FlV.rt v,σ)) st1.hr ⟨sr.step st1,r1⟩⟩⟩
theorem lX:RS X WE st bE:=⟨fun _ _ _ _ _ _ ⟨_,_,_,_,_,p⟩=>p.elim⟩
theorem aV (hc:RT X WE c t) (ha:RB X WE sts m) (hb:RB X WE sts' m'):RS X WE (.If c sts sts' pos) (xIf t m m'):=
 ⟨(F9 hc.h ha.h hb.h).weak fun D σ H ⟨μ,S,τ,hr,sr,p⟩=>⟨μ,S,τ,hr,sr,p.bind fun k k' S1 μ1 H1 st1 r1 p1=>by
  cases (show k=k' from r1)
  try dsimp only at p1
  split at p1
  ·rename_i hk;rw [if_pos hk];exact ⟨μ1,S1,τ,st1.hr,sr.step st1,p1⟩
  ·rename_i hk;rw [if_neg hk];exact ⟨μ1,S1,τ,st1.hr,sr.step st1,p1⟩⟩⟩
structure LQ (sc:Scope) (N:List Str):Prop where
 nd:N.Nodup
theorem aG {i:Nat} {x:Str} {sc:Scope} (q:LQ sc X.N) (hi:X.N[i]?=some x:=by exact rfl) (hx:Loc X.env.scope x:=by first | exact .inl rfl | exact .inr rfl) (hf:X.fn x=true∨X.env.scope.names.lookup x=some .local:=by first | exact .inl rfl | exact .inr rfl | assumption):RG X WE (.Name x pos) (gNm i):=
 ⟨(BP q.nd hi hx hf).weak fun v σ H Q ⟨μ,S,τ,z,hr,sr,r,p⟩=>p.here hr (sr.set i r)⟩
theorem iN:RGs X WE [] gN0:=⟨Cu.weak fun vs σ H Q ⟨μ,S,τ,zs,hr,sr,r,p⟩=>by
 unfold gN0 at p
 split at p
 ·cases r;exact ⟨rfl,p.here hr sr⟩
 ·exact p.elim⟩
theorem cB {es:List Expr} (h:RG X WE e g) (h':RGs X WE es gs) (hs:(assignEach (e :: es) X.env).map (·.2)=assign e X.env :: (assignEach es X.env).map (·.2):=by rfl):RGs X WE (e :: es) (gCo g gs):=
 ⟨(za h.h h'.h hs).weak fun vs σ H Q ⟨μ,S,τ,zs,hr,sr,r,p⟩=>by
  unfold gCo at p
  split at p
  ·cases r with
   | cons r1 rr=>exact ⟨_,_,rfl,μ,S,τ,_,hr,sr,r1,p.bind fun σ1 τ1 S1 μ1 H1 st1 sr1 p1=>⟨μ1,S1,τ1,_,st1.hr,sr1,rr.step st1,p1⟩⟩
  ·exact p.elim⟩
theorem ku {n:Nat} {es:List Expr} {k:Nat} (h:RGs X WE es gs) (hc:X.calm=true:=by exact rfl) (hn:(assignEach es X.env).length=n:=by rfl) (hst:(assignEach es X.env).findIdx? (·.1)=none:=by rfl):RG X WE (.Tuple es k pos) (gTu n gs):=
 ⟨(DI hc h.h hn hst).weak fun v σ H Q ⟨μ,S,τ,z,hr,sr,r,p⟩=>by
  unfold gTu at p
  split at p
  ·split at p
   ·rename_i xs hl
    cases (show Rep (vh μ S H) v (.tup xs) from r) with
    | tup h rs=>exact ⟨_,_,rfl,SqT.of (aC h).2,by rw [rs.length];exact hl,μ,S,τ,_,hr,sr,bx.ux rs,p⟩
   ·exact p.elim
  ·exact p.elim⟩
def wY (K:PySem.W.Frag) (mg:Str→Option Value) (ts:rE) (f:Vl→Vl→Vl→Sto→R Unit):Prop:=∀ (WE:WX) (μ:Nat→Addr) (S:Sto) (H:Hp) (o i v:V) (x y z:Vl) (Q:Unit→Hp→Prop),HR μ S H→aP K mg μ S H o x→aP K mg μ S H i y→aP K mg μ S H v z→aK (fun _ _ _ (_ _:Unit)=>True) WE μ S H (f x y z S) Q→ts o i v H (Q ())
theorem kh {o i:Expr} {xo xi:XE} {ts:rE} {f:Vl→Vl→Vl→Sto→R Unit} (ho:RE X WE o xo) (hi:RE X WE i xi) (hs:vg X ts) (hf:wY X.K X.mg ts f)
  (ha:∀ v,assign (.Subscript o i pos) X.env v=(do
   let ov ← holding [v] (eval o X.env)
   let iv ← holding [v,ov] (eval i X.env)
   standAt pos
   holding [v,ov,iv] (setItem ov iv v)
   release [v,ov,iv] []):=by intro _;rfl):RG X WE (.Subscript o i pos) (gSb xo xi f):=
 ⟨(Ff ho.h hi.h hs ha).weak fun v σ H Q ⟨μ,S,τ,z,hr,sr,r,p⟩=>⟨μ,S,τ,hr,sr,p.bind fun ov x S1 μ1 H1 st1 r1 p1=>⟨μ1,S1,τ,st1.hr,sr.step st1,p1.bind fun iv y S2 μ2 H2 st2 r2 p2=>
  hf WE μ2 S2 H2 ov iv v x y z (fun _ H3=>Q σ H3) st2.hr (r1.step st2) r2 (r.step (st1.trans st2)) (p2.bind fun _ _ S3 μ3 H3 st3 _ p3=>p3.here st3.hr (sr.step (st1.trans (st2.trans st3))))⟩⟩⟩
theorem jN (he:RE X WE e xe) (hg:RG X WE tg g) (hs:swapsWithSole [tg] e pos.line X.env=pure false:=by rfl) (hw:swappedStores [tg] e X.env=pure none:=by rfl)
  (h1:(assignEach [tg] X.env).map (·.2)=[assign tg X.env]:=by rfl):RS X WE (.Assign [tg] e pos) (aJ xe g):=
 ⟨(F6 he.h hg.h hs hw h1).weak fun D σ H ⟨μ,S,τ,hr,sr,p⟩=>⟨μ,S,τ,hr,sr,p.bind fun v x S1 μ1 H1 st1 r1 p1=>⟨μ1,S1,τ,x,st1.hr,sr.step st1,r1,p1.bind fun σ2 τ2 S2 μ2 H2 st2 sr2 p2=>p2.here (b:=(FlV.nx,σ2)) st2.hr ⟨sr2,True.intro⟩⟩⟩⟩
theorem aH {i:Nat} {x:Str} {pos':Pos} {sc:Scope} (q:LQ sc X.N) (he:RE X WE e xe) (hi:X.N[i]?=some x:=by exact rfl) (hx:Loc X.env.scope x:=by first | exact .inl rfl | exact .inr rfl) (hs:swapsWith e (some (.Name x pos')) pos.line X.env=pure false:=by rfl) (hf:X.fn x=true∨X.env.scope.names.lookup x=some .local:=by first | exact .inl rfl | exact .inr rfl | assumption) :
  RS X WE (.Assign [.Name x pos'] e pos) (aJ xe (gNm i)):=
 ⟨(FQ q.nd hi hx he.h hs hf).weak fun D σ H ⟨μ,S,τ,hr,sr,p⟩=>⟨μ,S,τ,hr,sr,p.bind fun v x S1 μ1 H1 st1 r1 p1=>p1.here (b:=(FlV.nx,σ.set i (some v))) st1.hr ⟨(sr.step st1).set i r1,True.intro⟩⟩⟩
theorem DZ {I:Its} {S:Sto} (h:gok I.gd S):I.ok S:=h
open Classical in
theorem cb (hi:RI X WE tg iter it) (hg:RG X WE tg g) (hb:RB X WE sts m) (hp:PassesOwn (model X.prog X.w) X.A X.env X.xe:=by exact PassesOwn.never) (hc:X.calm=true:=by exact rfl) (hs:∀ x,foldedSetIterable iter X.env x=pure x:=by intro _;rfl):RS X WE (.For tg iter sts [] pos) (cC it g m):=
 ⟨(EO hp hc hi.h hg.h hb.h hs).weak fun D σ H ⟨μ,S,τ,hr,sr,p⟩=>⟨μ,S,τ,hr,sr,p.bind fun J I S1 μ1 H1 st1 io p1=>by
  refine ⟨fun i k σ' H'=>∃ μ' S' τ',Step μ1 S1 H1 μ' S' H'∧bV X.K X.mg μ' S' H' σ' τ'∧I.ok S'∧k+i=I.items.length∧aK (RlS X.K X.mg) WE μ' S' H' (bU g m I.gd (I.items.drop i) τ' S') D.at,
   ⟨I.items.length,μ1,S1,τ,Step.refl st1.hr,sr.step st1,io.ok,by simp,p1⟩,?_⟩
  rintro i k σ' H' ⟨μ',S',τ',st',sr',ok',hk,p'⟩
  by_cases hlt:i < I.items.length
  ·have hz:I.items[i]?=some I.items[i]:=List.getElem?_eq_getElem hlt
   rw [List.drop_eq_getElem_cons hlt,bU] at p'
   refine .inr ⟨io.go i _ μ' S' H' st' ok' hz,_,fun σ2 H2 n=>⟨I.items.length - (i+1),by omega,n⟩,fun x H2 y=>?_⟩
   obtain ⟨st2,rx⟩:=io.yld i _ μ' S' H' x H2 st' ok' hz y
   refine ⟨μ',S',τ',_,st2.hr,sr'.step st2,rx,(p'.shift st2).bind fun σ3 τ3 S3 μ3 H3 st3 sr3 p3=>⟨μ3,S3,τ3,st3.hr,sr3,p3.bind fun q qq S4 μ4 H4 st4 r4 p4=>?_⟩⟩
   obtain ⟨fv,σ4⟩:=q
   obtain ⟨fl,τ4⟩:=qq
   obtain ⟨sr4,fr⟩:=r4
   have go:∀ {b},aK (RlS X.K X.mg) WE μ4 S4 H4 (if gok I.gd S4 then bU g m I.gd (I.items.drop (i+1)) τ4 S4 else .bad) D.at→b=σ4→∃ μ' S' τ',Step μ1 S1 H1 μ' S' H4∧bV X.K X.mg μ' S' H4 b τ'∧I.ok S'∧I.items.length - (i+1)+(i+1)=I.items.length∧aK (RlS X.K X.mg) WE μ' S' H4 (bU g m I.gd (I.items.drop (i+1)) τ' S') D.at:=by
    rintro b p5 rfl
    split at p5
    ·exact ⟨μ4,S4,τ4,st'.trans (st2.trans (st3.trans st4)),sr4,DZ ‹_›,by omega,p5⟩
    ·exact p5.elim
   cases fl with
   | nx=>cases fv with
    | nx=>exact go p4 rfl
    | _=>exact (show False from fr).elim
   | ct=>cases fv with
    | ct=>exact go p4 rfl
    | _=>exact (show False from fr).elim
   | bk=>cases fv with
    | bk=>exact (show D.at (FlV.nx,σ4) H4 from aK.here (b:=(FlV.nx,σ4)) st4.hr p4 ⟨sr4,True.intro⟩)
    | _=>exact (show False from fr).elim
   | rt z=>cases fv with
    | rt v=>exact (show D.at (FlV.rt v,σ4) H4 from aK.here (b:=(FlV.rt v,σ4)) st4.hr p4 ⟨sr4,fr⟩)
    | _=>exact (show False from fr).elim
  ·rw [List.drop_eq_nil_of_le (by omega),bU] at p'
   exact .inl ⟨io.stop i μ' S' H' st' ok' (by omega),p'.here (b:=(FlV.nx,σ')) st'.hr ⟨sr',True.intro⟩⟩⟩⟩
end
open Classical in
noncomputable def c7 (g:XG) (t:XT) (e:XE) (n:Nat) (gd:Option (Nat×Ob)):List Vl→List D→Nv→Sto→R (List D)
 | [],acc,_,S=>if S[n]?=some (.lst acc) then .ok acc S else .bad
 | z :: zs,acc,τ,S=>(g z τ S).bind fun τ1 S1=>(t τ1 S1).bind fun b S2=>if b=true then (e τ1 S2).bind fun v S3=>(match v with
   | .d x=>if S3[n]?=some (.lst acc)∧gok gd (S3.set n (.lst (acc++[x]))) then c7 g t e n gd zs (acc++[x]) τ1 (S3.set n (.lst (acc++[x]))) else .bad
   | _=>.bad)
  else if gok gd S2 then c7 g t e n gd zs acc τ1 S2 else .bad
def jr (n:Nat) (acc:List D) (S:Sto):R Vl:=.ok (.d (.lst acc)) (if S.length=n+1 then S.take n else S.set n .dead)
noncomputable def oh (fin:Nat→List D→Sto→R Vl) (it:XI) (k:Nat) (g:XG) (t:XT) (e:XE):XE:=fun τ S=>(it τ S).bind fun I S1=>(c7 g t e S1.length I.gd I.items [] (List.replicate k none++τ) (S1++[.lst []])).bind fun acc S2=>fin S1.length acc S2
noncomputable abbrev xLC:XI→Nat→XG→XT→XE→XE:=oh jr
def qp (fin:Nat→List D→Sto→R Vl):Prop:=∀ (K:PySem.W.Frag) (mg:Str→Option Value) (WE:WX) (μ μ':Nat→Addr) (S S':Sto) (H H':Hp) (acc:List D) (D:Addr) (Q:VK),Step μ S H μ' S' H'→S'[S.length]?=some (.lst acc)→μ' S.length=D→aK (aP K mg) WE μ S H (fin S.length acc S') Q→Q (.ref D) H'
theorem bW:qp jr:=by
 intro K mg WE μ μ' S S' H H' acc D Q st e hD p
 obtain ⟨vs,h,rs⟩:=st.hr.ob _ _ e
 have hn:S.length < S'.length:=(List.getElem?_eq_some_iff.mp e).1
 unfold jr at p
 by_cases hl:S'.length=S.length+1
 ·rw [if_pos hl] at p
  refine p _ _ _ st.take (Rep.lst (vs:=vs) (bF (by rw [← hD];exact h) ?_) (rs.mono fi))
  rintro ⟨m,u,e2,d2,q⟩
  obtain ⟨hm,e3⟩:=cO e2
  have:=st.hr.inj m S.length u _ e3 e d2 (by simp) (by rw [q,hD])
  omega
 ·rw [if_neg hl] at p
  obtain ⟨st2,na⟩:=Step.freeze st.hr e (by simp)
  refine p _ _ _ (st.trans st2) (Rep.lst (vs:=vs) (bF (by rw [← hD];exact h) (by rw [← hD];exact na)) (rs.mono st2.vis))
section
variable {X:Cx} {WE:WX} {tg elt iter:Expr} {ifs:List Expr} {scope:Scope} {pos:Pos} {it:XI} {g:XG} {t:XT} {e:XE} {N:List Str} {k:Nat} {fin:Nat→List D→Sto→R Vl}
theorem BG:RTs X WE [] (fun _ S=>.ok true S):=⟨fun pins s σ H Q I ⟨μ,S,τ,hr,sr,p⟩=>CP pins s σ H Q I (p.here hr rfl)⟩
theorem ug {c:Expr} (h:RT X WE c t):RTs X WE [c] t:=⟨BV h.h⟩
theorem aK.uU {α β γ δ:Type} {Rl:(Nat→Addr)→Sto→Hp→β→α→Prop} {Rl2:(Nat→Addr)→Sto→Hp→δ→γ→Prop} {μ μ1:Nat→Addr} {S S1:Sto} {H H1:Hp} {res:R α} {Q:β→Hp→Prop} {Q2:δ→Hp→Prop} {f:α→Sto→R γ}
  (h:aK Rl2 WE μ S H (res.bind f) Q2) (a:Step μ S H μ1 S1 H1) (kk:∀ b x S2 μ2 H2,Step μ1 S1 H1 μ2 S2 H2→Rl μ2 S2 H2 b x→aK Rl2 WE μ S H (f x S2) Q2→Q b H2):aK Rl WE μ1 S1 H1 res Q:=by
 cases res with
 | ok x S'=>exact fun b μ' H' st r=>kk b x S' μ' H' st r h
 | ex c xs S'=>exact fun μ' H' st=>h μ' H' (a.trans st)
 | bad=>exact h
open Classical in
theorem Bs (hfin:qp fin) {σ:St} {H:Hp} {Q:VK} (h:trE X.K X.mg WE (oh fin it k g t e) σ H Q):tLC (trI X.K X.mg WE it) (trG X.K X.mg WE g) (trT X.K X.mg WE t) (trE X.K X.mg WE e) k σ H Q:=by
 obtain ⟨μ,S,τ,hr,sr,p⟩:=h
 refine ⟨μ,S,τ,hr,sr,p.bind fun J I S1 μ1 H1 st1 io p1=>fun D hD=>?_⟩
 have st0:Step μ1 S1 H1 (ext μ1 S1.length D) (S1++[.lst []]) (upd H1 D (.lst [])):=Step.alloc st1.hr hD (ob:=.lst []) ⟨[],rfl,.nil⟩
 have hlen:(S1++[Ob.lst []]).length=S1.length+1:=by simp
 refine ⟨fun i j σ' H'=>∃ μ' S' τ' acc,Step (ext μ1 S1.length D) (S1++[.lst []]) (upd H1 D (.lst [])) μ' S' H'∧bV X.K X.mg μ' S' H' σ' τ'∧I.ok S'∧j+i=I.items.length∧acc.length≤i ∧
   aK (aP X.K X.mg) WE μ1 S1 H1 ((c7 g t e S1.length I.gd (I.items.drop i) acc τ' S').bind fun acc S2=>fin S1.length acc S2) Q,
  ⟨I.items.length,_,_,_,[],Step.refl st0.hr,((sr.step st1).step st0).pre k,?_,by simp,Nat.le_refl _,p1⟩,?_⟩
 ·have ok:=io.ok
  unfold Its.ok at ok ⊢
  split
  ·trivial
  ·rename_i n o hg
   rw [hg] at ok
   have hn:n < S1.length:=(List.getElem?_eq_some_iff.mp ok).1
   rw [List.getElem?_append_left hn];exact ok
 rintro i j σ' H' ⟨μ',S',τ',acc,st',sr',ok',hj,hacc,p'⟩
 have stA:=st0.trans st'
 have hn:S1.length < S'.length:=by have:=st'.le;omega
 have hμ:μ' S1.length=D:=by rw [st'.ag S1.length (by omega),cg]
 by_cases hlt:i < I.items.length
 ·have hz:I.items[i]?=some I.items[i]:=List.getElem?_eq_getElem hlt
  rw [List.drop_eq_getElem_cons hlt,c7] at p'
  refine .inr ⟨io.go i _ μ' S' H' stA ok' hz,_,fun σ2 H2 n=>⟨I.items.length - (i+1),by omega,n⟩,fun x H2 y=>?_⟩
  obtain ⟨st2,rx⟩:=io.yld i _ μ' S' H' x H2 stA ok' hz y
  have bb:∀ {α β γ:Type} (r:R α) (f:α→Sto→R β) (f':β→Sto→R γ),(r.bind f).bind f'=r.bind fun a S=>(f a S).bind f':=fun r f f'=>by cases r<;>rfl
  simp only [bb] at p'
  refine ⟨μ',S',τ',_,st2.hr,sr'.step st2,rx,p'.uU (stA.trans st2) fun σ3 τ3 S3 μ3 H3 st3 sr3 p3=>?_⟩
  refine ⟨μ3,S3,τ3,st3.hr,sr3,p3.uU (stA.trans (st2.trans st3)) fun b b' S4 μ4 H4 st4 r4 p4=>?_⟩
  cases (show b=b' from r4)
  have st24:=st2.trans (st3.trans st4)
  by_cases hb:b=true
  ·rw [if_pos hb] at p4 ⊢
   rw [bb] at p4
   refine ⟨μ4,S4,τ3,st4.hr,sr3.step st4,p4.uU (stA.trans st24) fun v z S5 μ5 H5 st5 r5 p5=>?_⟩
   have st25:=st24.trans st5
   cases z with
   | d x=>
    try dsimp only at p5
    by_cases hif:S5[S1.length]?=some (.lst acc)∧gok I.gd (S5.set S1.length (.lst (acc++[x])))
    ·rw [if_pos hif] at p5
     obtain ⟨vs,h5,rs⟩:=st5.hr.ob _ _ hif.1
     have hμ5:μ5 S1.length=D:=by rw [st25.ag S1.length (by omega)];exact hμ
     rw [hμ5] at h5
     have sp:Step μ5 S5 H5 μ5 (S5.set S1.length (.lst (acc++[x]))) (upd H5 (μ5 S1.length) (.lst (vs++[v]))):=Step.put st5.hr hif.1 (by simp) (ob:=.lst (acc++[x])) ⟨_,rfl,rs.append (.cons r5 .nil)⟩
     rw [hμ5] at sp
     have lz:=io.len
     have lv:=rs.length
     refine ⟨vs,h5,by omega,μ5,_,τ3,acc++[x],st'.trans (st25.trans sp),(sr3.step (st4.trans st5)).step sp,hif.2,by omega,by simp;omega,p5⟩
    ·rw [if_neg hif] at p5
     exact p5.elim
   | _=>exact p5.elim
  ·rw [if_neg hb] at p4 ⊢
   by_cases hif:gok I.gd S4
   ·rw [if_pos hif] at p4
    exact ⟨μ4,S4,τ3,acc,st'.trans st24,sr3.step st4,hif,by omega,by omega,p4⟩
   ·rw [if_neg hif] at p4
    exact p4.elim
 ·rw [List.drop_eq_nil_of_le (by omega),c7] at p'
  refine .inl ⟨io.stop i μ' S' H' stA ok' (by omega),?_⟩
  by_cases hif:S'[S1.length]?=some (.lst acc)
  ·rw [if_pos hif] at p'
   exact hfin X.K X.mg WE μ1 μ' S1 S' H1 H' acc D Q stA hif hμ p'
  ·rw [if_neg hif] at p'
   exact p'.elim
theorem rt0:∀ C s H fp,RTs (b6 X scope N C s H fp) WE [] (fun _ S=>.ok true S):=fun _ _ _ _=>BG
theorem cw {esc:Scope} {EN:List Str} (hfin:qp fin) (N:List Str) (q:LQ esc EN) (hi:RI X WE tg iter it) (hg:∀ C s H fp,LQ scope N→RG (b6 X scope N C s H fp) WE tg g) (ht:∀ C s H fp,RTs (b6 X scope N C s H fp) WE ifs t) (he:∀ C s H fp,RE (b6 X scope N C s H fp) WE elt e) (hd:N.Nodup:=by decide +kernel)
  (Sc:eh esc scope EN N k:=by exact ⟨rfl,by decide +kernel,by decide +kernel,by decide +kernel,by decide +kernel,by decide +kernel⟩) (h1:X.env.scope=esc:=by exact rfl) (h2:X.N=EN:=by exact rfl) (hc:X.calm=true:=by exact rfl) (hs:∀ x,foldedSetIterable iter X.env x=pure x:=by intro _;rfl):RE X WE (.ListComp elt [⟨tg,iter,ifs,0⟩] scope pos) (oh fin it k g t e):=
 ⟨(Gu hc Sc h1 h2 hi.h (fun C s H fp=>(hg C s H fp ⟨hd⟩).h) (fun C s H fp=>(ht C s H fp).h) (fun C s H fp=>(he C s H fp).h) hs).weak fun σ H Q h=>Bs (X:=X) hfin h⟩
theorem GX {esc:Scope} {EN:List Str} {i:Nat} {y:Str} {py spos:Pos} (hfin:qp fin) (N:List Str) (q:LQ esc EN) (hi:RI X WE tg iter it) (hg:∀ C s H fp,LQ scope N→RG (b6 X scope N C s H fp) WE tg g) (ht:∀ C s H fp,RTs (b6 X scope N C s H fp) WE ifs t) (he:∀ C s H fp,RE (b6 X scope N C s H fp) WE elt e)
  (hi':X.N[i]?=some y:=by exact rfl) (hy:Loc X.env.scope y:=by first | exact .inl rfl | exact .inr rfl) (hd:N.Nodup:=by decide +kernel)
  (Sc:eh esc scope EN N k:=by exact ⟨rfl,by decide +kernel,by decide +kernel,by decide +kernel,by decide +kernel,by decide +kernel⟩) (h1:X.env.scope=esc:=by exact rfl) (h2:X.N=EN:=by exact rfl) (hc:X.calm=true:=by exact rfl)
  (hsw:swapsWith (.ListComp elt [⟨tg,iter,ifs,0⟩] scope pos) (some (.Name y py)) spos.line X.env=pure true:=by rfl)
  (hs:∀ x,foldedSetIterable iter X.env x=pure x:=by intro _;rfl) (hf:X.fn y=true∨X.env.scope.names.lookup y=some .local:=by first | exact .inl rfl | exact .inr rfl | assumption) :
  RS X WE (.Assign [.Name y py] (.ListComp elt [⟨tg,iter,ifs,0⟩] scope pos) spos) (aJ (oh fin it k g t e) (gNm i)):=
 ⟨(Hi (h2 ▸ q.nd) hi' hy hc Sc h1 h2 hi.h (fun C s H fp=>(hg C s H fp ⟨hd⟩).h) (fun C s H fp=>(ht C s H fp).h) (fun C s H fp=>(he C s H fp).h) hsw hs hf).weak fun D0 σ H ⟨μ,S,τ,hr,sr,p⟩=>by
  refine Bs (X:=X) (WE:=WE) (g:=g) (t:=t) (e:=e) hfin ⟨μ,S,τ,hr,sr,?_⟩
  exact p.bind fun v x S1 μ1 H1 st1 r1 p1=>p1.here (b:=(FlV.nx,σ.set i (some v))) st1.hr ⟨(sr.step st1).set i r1,True.intro⟩⟩
end
def cE (x:Vl) (S:Sto):Option (List D):=match x with
 | .d (.lst xs)=>some xs
 | .r n=>(match S[n]? with
  | some (.lst xs)=>some xs
  | _=>none)
 | _=>none
def bN (x:Vl) (S:Sto):Option (List D):=match x with
 | .d (.tup xs)=>some xs
 | x=>cE x S
section
variable {K:PySem.W.Frag} {mg:Str→Option Value} {μ:Nat→Addr} {S:Sto} {H:Hp} {v:V} {x:Vl} {ds:List D} {WE:WX} {Q:VK}
theorem fE (hr:HR μ S H) (r:aP K mg μ S H v x) (e:cE x S=some ds):∃ a vs,v=.ref a∧H a=some (.lst vs)∧av (vh μ S H) vs ds:=by
 unfold cE at e
 split at e
 ·cases e
  cases (show Rep (vh μ S H) v (.lst _) from r) with
  | lst h rs=>exact ⟨_,_,rfl,(aC h).2,rs⟩
 ·split at e
  ·rename_i q
   cases e
   obtain ⟨rfl,hn⟩:=r
   obtain ⟨vs,h,rs⟩:=hr.ob _ _ q
   exact ⟨_,vs,rfl,h,rs⟩
  ·cases e
 ·cases e
theorem gT (hr:HR μ S H) (r:aP K mg μ S H v x) (e:bN x S=some ds):∃ a vs,v=.ref a∧(H a=some (.lst vs)∨H a=some (.tup vs))∧av (vh μ S H) vs ds:=by
 unfold bN at e
 split at e
 ·cases e
  cases (show Rep (vh μ S H) v (.tup _) from r) with
  | tup h rs=>exact ⟨_,_,rfl,.inr (aC h).2,rs⟩
 ·obtain ⟨a,vs,e1,e2,e3⟩:=fE hr r e
  exact ⟨a,vs,e1,.inl e2,e3⟩
theorem iL {a:Addr} {vs:List V} (h:H a=some (.lst vs)∨H a=some (.tup vs)):gC H a=some vs:=h.elim FN mx
theorem aY {i:Int} (r:aP K mg μ S H v (.d (.int i))):v=.int i:=by cases (show Rep (vh μ S H) v (.int i) from r);rfl
theorem xy {i:Bool} (r:aP K mg μ S H v (.d (.bl i))):v=.bl i:=by cases (show Rep (vh μ S H) v (.bl i) from r);rfl
theorem fK {i:Str} (r:aP K mg μ S H v (.d (.str i))):v=.str i:=by cases (show Rep (vh μ S H) v (.str i) from r);rfl
theorem gr (r:aP K mg μ S H v (.d .non)):v=.non:=by cases (show Rep (vh μ S H) v .non from r);rfl
theorem gx (r:aP K mg μ S H v (.d (.tup ds))):∃ a vs,v=.ref a∧H a=some (.tup vs)∧vh μ S H a=some (.tup vs)∧av (vh μ S H) vs ds:=by
 cases (show Rep (vh μ S H) v (.tup _) from r) with
 | tup h rs=>exact ⟨_,_,rfl,(aC h).2,h,rs⟩
end
def oI (C:Int→Int→Prop) [∀ i j,Decidable (C i j)] (f:Int→Int→D) (x y:Vl) (S:Sto):R Vl:=match x,y with
 | .d (.int i),.d (.int j)=>if C i j then .ok (.d (f i j)) S else .bad
 | _,_=>.bad
def oI0 (f:Int→Int→D) (x y:Vl) (S:Sto):R Vl:=match x,y with
 | .d (.int i),.d (.int j)=>.ok (.d (f i j)) S
 | _,_=>.bad
section
variable {K:PySem.W.Frag} {mg:Str→Option Value}
theorem bH {C:Int→Int→Prop} [∀ i j,Decidable (C i j)] (f:Int→Int→Int):cL K mg (rI C fun i j=>V.int (f i j)) (oI C fun i j=>D.int (f i j)):=by
 intro WE μ S H v w x y Q hr rx ry p
 unfold oI at p
 split at p
 ·split at p
  ·exact ⟨_,_,aY rx,aY ry,‹_›,p.here hr (Rep.int _)⟩
  ·exact p.elim
 ·exact p.elim
theorem gL (f:Int→Int→Int):cL K mg (rI0 fun i j=>V.int (f i j)) (oI0 fun i j=>D.int (f i j)):=by
 intro WE μ S H v w x y Q hr rx ry p
 unfold oI0 at p
 split at p
 ·exact ⟨_,_,aY rx,aY ry,p.here hr (Rep.int _)⟩
 ·exact p.elim
theorem bB (f:Int→Int→Bool):cL K mg (rI0 fun i j=>V.bl (f i j)) (oI0 fun i j=>D.bl (f i j)):=by
 intro WE μ S H v w x y Q hr rx ry p
 unfold oI0 at p
 split at p
 ·exact ⟨_,_,aY rx,aY ry,p.here hr (Rep.bl _)⟩
 ·exact p.elim
end
instance (i j:Int):Decidable (ju i j):=by unfold ju;infer_instance
instance (i j:Int):Decidable (oo i j):=by unfold oo;infer_instance
instance (i j:Int):Decidable (n4 i j):=by unfold n4;infer_instance
abbrev j7:=oI0 fun i j=>D.int (i - j)
abbrev d8:=oI ju fun i j=>D.int (i * j)
abbrev oMod:=oI (fun _ j=>0 < j) fun i j=>D.int (i % j)
abbrev oDiv:=oI oo fun i j=>D.int (i / j)
abbrev uM:=oI n4 fun i j=>D.int (i ^ j.toNat)
abbrev oLt:=oI0 fun i j=>D.bl (decide (i < j))
abbrev oLe:=oI0 fun i j=>D.bl (decide (i≤j))
abbrev oGt:=oI0 fun i j=>D.bl (decide (j < i))
abbrev oGe:=oI0 fun i j=>D.bl (decide (j≤i))
def jv (x:Vl) (S:Sto):R Vl:=match x with
 | .d (.int i)=>.ok (.d (.int (-i))) S
 | _=>.bad
def bA (x y:Vl) (S:Sto):R Vl:=match x,y with
 | .d (.int i),.d (.int j)=>.ok (.d (.int (i+j))) S
 | .d (.tup a),.d (.tup b)=>if a.length+b.length≤100000 then .ok (.d (.tup (a++b))) S else .bad
 | .d (.str a),.d (.str b)=>if a.length+b.length≤100000 then .ok (.d (.str (a++b))) S else .bad
 | x,y=>(match cE x S,cE y S with
  | some a,some b=>if a.length+b.length≤100000 then .ok (.d (.lst (a++b))) S else .bad
  | _,_=>.bad)
def eqD (x y:Vl) (S:Sto):Option Bool:=match x,y with
 | .d .non,.d .non=>some true
 | .d .non,.d (.int _)=>some false
 | .d .non,.d (.str _)=>some false
 | .d (.int _),.d .non=>some false
 | .d (.str _),.d .non=>some false
 | .d (.int i),.d (.int j)=>some (decide (i=j))
 | .d (.bl i),.d (.bl j)=>some (decide (i=j))
 | .d (.str i),.d (.str j)=>some (decide (i=j))
 | .d (.int _),.d (.str _)=>some false
 | .d (.str _),.d (.int _)=>some false
 | .d (.tup a),.d (.tup b)=>if D.depth (.tup a)≤50 then some (D.bS a b) else none
 | x,y=>(match cE x S,cE y S with
  | some a,some b=>if D.depth (.lst a)≤50 then some (D.bS a b) else none
  | _,_=>none)
def oEq (x y:Vl) (S:Sto):R Vl:=match eqD x y S with
 | some b=>.ok (.d (.bl b)) S
 | none=>.bad
def oNe (x y:Vl) (S:Sto):R Vl:=match eqD x y S with
 | some b=>.ok (.d (.bl (!b))) S
 | none=>.bad
def oIs (x y:Vl) (S:Sto):R Vl:=match x,y with
 | .d (.bl a),.d (.bl b)=>.ok (.d (.bl (a == b))) S
 | .d .non,.d .non=>.ok (.d (.bl true)) S
 | .fn _,_=>.bad
 | .sc _,_=>.bad
 | _,.d .non=>.ok (.d (.bl false)) S
 | _,_=>.bad
def qe (x y:Vl) (S:Sto):R Vl:=match x,y with
 | .d (.bl a),.d (.bl b)=>.ok (.d (.bl (a != b))) S
 | .d .non,.d .non=>.ok (.d (.bl false)) S
 | .fn _,_=>.bad
 | .sc _,_=>.bad
 | _,.d .non=>.ok (.d (.bl true)) S
 | _,_=>.bad
section
variable {K:PySem.W.Frag} {mg:Str→Option Value}
theorem gj:EW K mg (rU fun i=>.int (-i)) jv:=by
 intro WE μ S H v x Q hr rx p
 unfold jv at p
 split at p
 ·exact ⟨_,aY rx,p.here hr (Rep.int _)⟩
 ·exact p.elim
def Bw:R2:=fun x y H Q=>BA x y H Q∨∃ i j,x=.str i∧y=.str j∧i.length+j.length≤sizeLine∧Q (.str (i++j)) H
theorem aX {X:Cx}:OpR X (binaryOp .Add) Bw:=B7.or v9
theorem aZ:cL K mg Bw bA:=by
 intro WE μ S H v w x y Q hr rx ry p
 unfold bA at p
 split at p
 ·exact .inl (.inl ⟨_,_,aY rx,aY ry,p.here hr (Rep.int _)⟩)
 ·split at p
  ·rename_i a b hl
   obtain ⟨p1,us,rfl,h1,g1,r1⟩:=gx rx
   obtain ⟨p2,ws,rfl,h2,g2,r2⟩:=gx ry
   have l1:=r1.length
   have l2:=r2.length
   refine .inl (.inr ⟨p1,p2,rfl,rfl,.inl ⟨us,ws,h1,h2,iz (by omega),fun e=>?_,fun _ e=>?_,fun _ _ q hq=>p.vH hr (r1.append r2) q hq⟩⟩)
   ·subst e
    have:a=[]:=List.eq_nil_of_length_eq_zero l1.symm
    subst this
    exact p.here hr (Rep.tup g2 r2)
   ·subst e
    have:b=[]:=List.eq_nil_of_length_eq_zero l2.symm
    subst this
    rw [List.append_nil] at p
    exact p.here hr (Rep.tup g1 r1)
  ·exact p.elim
 ·split at p
  ·exact .inr ⟨_,_,fK rx,fK ry,iz ‹_›,p.here hr (Rep.str _)⟩
  ·exact p.elim
 ·split at p
  ·rename_i a b e1 e2
   split at p
   ·obtain ⟨p1,us,rfl,h1,r1⟩:=fE hr rx e1
    obtain ⟨p2,ws,rfl,h2,r2⟩:=fE hr ry e2
    have l1:=r1.length
    have l2:=r2.length
    exact .inl (.inr ⟨p1,p2,rfl,rfl,.inr ⟨us,ws,h1,h2,iz (by omega),fun q hq=>p.kn hr (r1.append r2) q hq⟩⟩)
   ·exact p.elim
  ·exact p.elim
theorem Bc {μ:Nat→Addr} {S:Sto} {H:Hp} {v w:V} {x y:Vl} {b:Bool} (hr:HR μ S H) (rx:aP K mg μ S H v x) (ry:aP K mg μ S H w y) (e:eqD x y S=some b) :
  (zr v w=true∧decide (v=w)=b)∨∃ d e,Rep H v d∧Rep H w e∧D.depth d≤50∧((∃ ds es,d=.tup ds∧e=.tup es)∨∃ ds es,d=.lst ds∧e=.lst es)∧D.eqv d e=b:=by
 unfold eqD at e
 split at e
 ·cases e;rw [gr rx,gr ry];exact .inl ⟨rfl,by decide⟩
 ·cases e;rw [gr rx,aY ry];exact .inl ⟨rfl,by simp⟩
 ·cases e;rw [gr rx,fK ry];exact .inl ⟨rfl,by simp⟩
 ·cases e;rw [aY rx,gr ry];exact .inl ⟨rfl,by simp⟩
 ·cases e;rw [fK rx,gr ry];exact .inl ⟨rfl,by simp⟩
 ·cases e;rw [aY rx,aY ry];exact .inl ⟨rfl,by simp only [V.int.injEq]⟩
 ·cases e;rw [xy rx,xy ry];exact .inl ⟨rfl,by simp only [V.bl.injEq]⟩
 ·cases e;rw [fK rx,fK ry];exact .inl ⟨rfl,by simp only [V.str.injEq]⟩
 ·cases e;rw [aY rx,fK ry];exact .inl ⟨rfl,by simp⟩
 ·cases e;rw [fK rx,aY ry];exact .inl ⟨rfl,by simp⟩
 ·split at e
  ·cases e
   refine .inr ⟨_,_,Rep.mono dy rx,Rep.mono dy ry,‹_›,.inl ⟨_,_,rfl,rfl⟩,?_⟩
   simp only [D.eqv]
  ·cases e
 ·split at e
  ·rename_i a b e1 e2
   split at e
   ·cases e
    obtain ⟨p1,us,rfl,h1,r1⟩:=fE hr rx e1
    obtain ⟨p2,ws,rfl,h2,r2⟩:=fE hr ry e2
    refine .inr ⟨.lst a,.lst b,.lst h1 (r1.mono dy),.lst h2 (r2.mono dy),‹_›,.inr ⟨_,_,rfl,rfl⟩,?_⟩
    simp only [D.eqv]
   ·cases e
  ·cases e
theorem bo:cL K mg Dn oEq:=by
 intro WE μ S H v w x y Q hr rx ry p
 unfold oEq at p
 split at p
 ·rename_i b e
  have q:=p.here hr (Rep.bl b)
  rcases Bc hr rx ry e with ⟨h1,h2⟩ | ⟨d,d',h1,h2,h3,h4,h5⟩
  ·exact .inl ⟨h1,by rw [h2];exact q⟩
  ·exact .inr ⟨d,d',h1,h2,h3,h4,by rw [h5];exact q⟩
 ·exact p.elim
theorem nG:cL K mg DX oNe:=by
 intro WE μ S H v w x y Q hr rx ry p
 unfold oNe at p
 split at p
 ·rename_i b e
  have q:=p.here hr (Rep.bl (!b))
  rcases Bc hr rx ry e with ⟨h1,h2⟩ | ⟨d,d',h1,h2,h3,h4,h5⟩
  ·exact .inl ⟨h1,by rw [h2];exact q⟩
  ·exact .inr ⟨d,d',h1,h2,h3,h4,by rw [h5];exact q⟩
 ·exact p.elim
end
def D.flat:D→Bool
 | .tup _=>false
 | .lst _=>false
 | _=>true
def inD (x:D) (ds:List D):Bool:=ds.any fun e=>D.eqv e x
def inX (x y:Vl) (S:Sto):Option Bool:=match x with
 | .d x=>(match bN y S with
  | some ds=>if (D.flat x && ds.all D.flat)=true then some (inD x ds) else (match cE y S with
   | some ds=>if D.b_ ds≤50 then some (inD x ds) else none
   | none=>none)
  | none=>none)
 | _=>none
def oIn (x y:Vl) (S:Sto):R Vl:=match inX x y S with
 | some b=>.ok (.d (.bl b)) S
 | none=>.bad
def fM (x y:Vl) (S:Sto):R Vl:=match inX x y S with
 | some b=>.ok (.d (.bl (!b))) S
 | none=>.bad
def oIx (x y:Vl) (S:Sto):R Vl:=match y with
 | .d (.int i)=>(match bN x S with
  | some ds=>(match atI ds i with
   | some z=>.ok (.d z) S
   | none=>.bad)
  | none=>.bad)
 | _=>.bad
def fT (xs:List D) (lo hi:Option Int):List D:=(xs.drop (HT.sIx xs.length 0 lo)).take (HT.sIx xs.length xs.length hi - HT.sIx xs.length 0 lo)
def oSl (x:Vl) (lo hi:Option Int) (S:Sto):R Vl:=match x with
 | .d (.tup xs)=>.ok (.d (.tup (fT xs lo hi))) S
 | x=>(match cE x S with
  | some xs=>.ok (.d (.lst (fT xs lo hi))) S
  | none=>.bad)
def IF (x y:Vl) (S:Sto):R Vl:=match x,y with
 | .d (.tup xs),.d (.int i)=>if i=-1 then .ok (.d (.tup xs.reverse)) S else .bad
 | _,_=>.bad
section
variable {K:PySem.W.Frag} {mg:Str→Option Value}
theorem rO {H:Hp} {v:V} {d:D} (r:Rep H v d) (h:D.flat d=true):dW v=true:=by cases r<;>first | rfl | cases h
theorem Dj {H:Hp} {v w:V} {d e:D} (r:Rep H v d) (q:Rep H w e) (h:D.flat d=true) (h':D.flat e=true):eqV v w=D.eqv d e:=by
  cases r<;>cases q<;>first | rfl | cases h | cases h' | simp [eqV,D.eqv]
theorem o_ {H:Hp}:∀ {vs:List V} {ds:List D},av H vs ds→ds.all D.flat=true→vs.all dW=true
 | _,_,.nil,_=>rfl
 | _,_,.cons r t,h=>by
  rw [List.all_cons,Bool.and_eq_true] at h ⊢
  exact ⟨rO r h.1,o_ t h.2⟩
theorem xF {H:Hp} {v:V} {d:D} (r:Rep H v d) (h:D.flat d=true):∀ {vs:List V} {ds:List D},av H vs ds→ds.all D.flat=true→inV v vs=inD d ds
 | _,_,.nil,_=>rfl
 | _,_,.cons q t,h'=>by
  rw [List.all_cons,Bool.and_eq_true] at h'
  have ih:=xF r h t h'.2
  unfold inV inD at ih ⊢
  rw [List.any_cons,List.any_cons,Dj q r h'.1 h,ih]
def qY (neg:Bool):R2:=fun x y H Q=>zV neg x y H Q∨zh neg x y H Q
theorem in_of {μ:Nat→Addr} {S:Sto} {H:Hp} {v w:V} {x y:Vl} {b neg:Bool} {Q:VK} (hr:HR μ S H) (rx:aP K mg μ S H v x) (ry:aP K mg μ S H w y) (e:inX x y S=some b) (q:Q (.bl (if neg then !b else b)) H):qY neg v w H Q:=by
 unfold inX at e
 split at e
 ·rename_i x
  split at e
  ·rename_i ds e1
   obtain ⟨a,vs,rfl,ha,rs⟩:=gT hr ry e1
   split at e
   ·rename_i hf
    rw [Bool.and_eq_true] at hf
    cases e
    refine .inl ⟨a,vs,rfl,iL ha,rO rx hf.1,o_ rs hf.2,?_⟩
    rw [xF rx hf.1 rs hf.2]
    exact q
   ·split at e
    ·rename_i ds e2
     split at e
     ·cases e
      obtain ⟨a',vs',e3,ha',rs'⟩:=fE hr ry e2
      cases e3
      exact .inr ⟨_,vs',x,_,rfl,ha',rs'.mono dy,Rep.mono dy rx,‹_›,q⟩
     ·cases e
    ·cases e
  ·cases e
 ·cases e
theorem yb {X:Cx} (hu:X.A.units+64 < cLine):OpR X (compareOp .In) (qY false):=Fp.or (DR hu)
theorem um {X:Cx} (hu:X.A.units+64 < cLine):OpR X (compareOp .NotIn) (qY true):=xU.or (wq hu)
theorem yj:cL K mg (qY false) oIn:=by
 intro WE μ S H v w x y Q hr rx ry p
 unfold oIn at p
 split at p
 ·rename_i b e
  exact in_of hr rx ry e (p.here hr (Rep.bl b))
 ·exact p.elim
theorem ur:cL K mg (qY true) fM:=by
 intro WE μ S H v w x y Q hr rx ry p
 unfold fM at p
 split at p
 ·rename_i b e
  exact in_of hr rx ry e (p.here hr (Rep.bl (!b)))
 ·exact p.elim
theorem zP {H:Hp} {vs:List V} {ds:List D} {i:Int} {z:D} (rs:av H vs ds) (e:atI ds i=some z):∃ v,atI vs i=some v∧Rep H v z:=by
 unfold atI at e ⊢
 rw [rs.length]
 cases q:ixN ds.length i with
 | none=>rw [q] at e;cases e
 | some j=>
  rw [q] at e
  obtain ⟨v,e1,r⟩:=rs.get' (show ds[j]?=some z from e)
  exact ⟨v,e1,r⟩
theorem wW:cL K mg zw oIx:=by
 intro WE μ S H v w x y Q hr rx ry p
 unfold oIx at p
 split at p
 ·split at p
  ·rename_i ds e1
   obtain ⟨a,vs,rfl,ha,rs⟩:=gT hr rx e1
   split at p
   ·rename_i z e2
    obtain ⟨u,e3,ru⟩:=zP rs e2
    rw [aY ry]
    exact ⟨a,_,vs,u,rfl,rfl,iL ha,e3,p.here hr ru⟩
   ·exact p.elim
  ·exact p.elim
 ·exact p.elim
theorem zF {H:Hp} {vs:List V} {ds:List D} (rs:av H vs ds) (lo hi:Option Int):av H (oA vs lo hi) (fT ds lo hi):=by
 unfold oA fT
 rw [rs.length]
 exact (rs.drop _).take _
theorem C3 {X:Cx} {WE:WX}:RO X WE none oJ:=⟨fun pins s σ H Q I ⟨μ,S,τ,hr,sr,p⟩=>Cz pins s σ H Q I (p.here hr rfl)⟩
theorem oy {X:Cx} {WE:WX} {e:Expr} {xa:XE} (he:RE X WE e xa):RO X WE (some e) (mJ xa):=⟨fun pins s σ H Q I ⟨μ,S,τ,hr,sr,p⟩=>CF he.h pins s σ H Q I ⟨μ,S,τ,hr,sr,p.bind fun v x S1 μ1 H1 st1 r1 p1=>by
 try dsimp only at p1
 split at p1
 ·exact ⟨_,aY r1,p1.here st1.hr rfl⟩
 ·exact p1.elim⟩⟩
theorem ay {X:Cx} {WE:WX} {a b:Expr} {xa xb:XE} {pos:Pos} (ha:RE X WE a xa) (hb:RE X WE b xb) (hs:nV b:=by exact fun _ _=>rfl):RE X WE (.Subscript a b pos) (xOp oIx xa xb):=⟨(Bg DQ ha.h hb.h hs).weak fun _ _ _ h=>two (X:=X) wW h⟩
end
def gb:List D→Option (List Bool)
 | []=>some []
 | .bl b :: r=>(gb r).map (b :: ·)
 | _=>none
def intsOf:List D→Option (List Int)
 | []=>some []
 | .int b :: r=>(intsOf r).map (b :: ·)
 | _=>none
theorem qM:∀ {ds:List D} {bs:List Bool},gb ds=some bs→ds=bs.map D.bl
 | [],_,e=>by simp [gb] at e;subst e;rfl
 | d :: ds,bs,e=>by
  cases d with
  | bl b=>
   simp only [gb,Option.map_eq_some_iff] at e
   obtain ⟨cs,e1,rfl⟩:=e
   rw [qM e1];rfl
  | _=>simp [gb] at e
theorem j6:∀ {ds:List D} {bs:List Int},intsOf ds=some bs→ds=bs.map D.int
 | [],_,e=>by simp [intsOf] at e;subst e;rfl
 | d :: ds,bs,e=>by
  cases d with
  | int b=>
   simp only [intsOf,Option.map_eq_some_iff] at e
   obtain ⟨cs,e1,rfl⟩:=e
   rw [j6 e1];rfl
  | _=>simp [intsOf] at e
theorem ja:∀ bs:List Int,intsOf (bs.map D.int)=some bs
 | []=>rfl
 | b :: bs=>by simp [intsOf,ja bs]
theorem av.yw {H:Hp}:∀ {vs:List V} {ns:List Bool},av H vs (ns.map D.bl)→vs=ns.map V.bl
 | [],[],.nil=>rfl
 | v :: vs,n :: ns,.cons r t=>by
  cases r
  rw [List.map_cons,av.yw t]
def insI (x:Int):List Int→List Int
 | []=>[x]
 | y :: ys=>if x≤y then x :: y :: ys else y :: insI x ys
def sortI:List Int→List Int
 | []=>[]
 | x :: xs=>insI x (sortI xs)
theorem insI_perm (x:Int):∀ ys,(insI x ys).Perm (x :: ys)
 | []=>.refl _
 | y :: ys=>by
  unfold insI
  split
  ·exact .refl _
  ·exact ((insI_perm x ys).cons y).trans (.swap x y ys)
theorem sortI_perm:∀ xs,(sortI xs).Perm xs
 | []=>.refl _
 | x :: xs=>(insI_perm x _).trans ((sortI_perm xs).cons x)
theorem pA (x:Int):∀ ys:List Int,ys.Pairwise (·≤·)→(insI x ys).Pairwise (·≤·)
 | [],_=>by simp [insI]
 | y :: ys,h=>by
  unfold insI
  split
  ·rename_i hxy
   refine List.pairwise_cons.mpr ⟨fun z hz=>?_,h⟩
   rcases List.mem_cons.mp hz with e | e
   ·omega
   ·have:=(List.pairwise_cons.mp h).1 z e;omega
  ·rename_i hxy
   obtain ⟨h1,h2⟩:=List.pairwise_cons.mp h
   refine List.pairwise_cons.mpr ⟨fun z hz=>?_,pA x ys h2⟩
   rcases List.mem_cons.mp ((insI_perm x ys).mem_iff.mp hz) with e | e
   ·omega
   ·exact h1 z e
theorem jt:∀ xs,(sortI xs).Pairwise (·≤·)
 | []=>.nil
 | x :: xs=>pA x _ (jt xs)
theorem oC:∀ {xs ys:List Int},xs.Perm ys→xs.Pairwise (·≤·)→ys.Pairwise (·≤·)→xs=ys
 | [],ys,h,_,_=>by rw [List.nil_perm.mp h]
 | x :: xs,[],h,_,_=>by simpa using h.length_eq
 | x :: xs,y :: ys,h,h1,h2=>by
  obtain ⟨a1,a2⟩:=List.pairwise_cons.mp h1
  obtain ⟨b1,b2⟩:=List.pairwise_cons.mp h2
  have hx:x∈y :: ys:=h.mem_iff.mp (List.mem_cons_self ..)
  have hy:y∈x :: xs:=h.mem_iff.mpr (List.mem_cons_self ..)
  have e:x=y:=by
   rcases List.mem_cons.mp hx with e | e
   ·exact e
   ·rcases List.mem_cons.mp hy with e' | e'
    ·exact e'.symm
    ·have:=a1 y e';have:=b1 x e;omega
  subst e
  rw [oC (List.Perm.cons_inv h) a2 b2]
theorem lT {xs ys:List Int} (h:ys.Perm xs) (h1:ys.Pairwise (·≤·)):ys=sortI xs:=oC (h.trans (sortI_perm xs).symm) h1 (jt xs)
def bG (xs:List Vl) (S:Sto):R Vl:=match xs with
 | [x]=>(match bN x S with
  | some ds=>.ok (.d (.int ds.length)) S
  | none=>.bad)
 | _=>.bad
def dn (xs:List Vl) (S:Sto):R Vl:=match xs with
 | [x]=>(match bN x S with
  | some ds=>.ok (.d (.tup ds)) S
  | none=>.bad)
 | _=>.bad
def kN (xs:List Vl) (S:Sto):R Vl:=match xs with
 | [x]=>(match bN x S with
  | some ds=>.ok (.d (.lst ds)) S
  | none=>.bad)
 | _=>.bad
def kJ (xs:List Vl) (S:Sto):R Vl:=match xs with
 | [x]=>(match bN x S with
  | some ds=>.ok (.r S.length) (S++[.lst ds])
  | none=>.bad)
 | _=>.bad
def eG (xs:List Vl) (S:Sto):R Vl:=match xs with
 | [x]=>(match (cE x S).bind gb with
  | some bs=>.ok (.d (.bl (bs.all id))) S
  | none=>.bad)
 | _=>.bad
def vN (xs:List Vl) (S:Sto):R Vl:=match xs with
 | [.d (.int i),.d (.int j)]=>.ok (.d (.int (if j > i then j else i))) S
 | _=>.bad
def sG (xs:List Vl) (S:Sto):R Vl:=match xs with
 | [.d (.int i),.d (.int j)]=>.ok (.d (.int (if j < i then j else i))) S
 | _=>.bad
section
variable {K:PySem.W.Frag} {mg:Str→Option Value}
theorem bx.one {μ:Nat→Addr} {S:Sto} {H:Hp} {vs:List V} {x:Vl} (r:bx K mg μ S H vs [x]):∃ v,vs=[v]∧aP K mg μ S H v x:=by
 cases r with | cons r t=>cases t;exact ⟨_,rfl,r⟩
theorem bx.two {μ:Nat→Addr} {S:Sto} {H:Hp} {vs:List V} {x y:Vl} (r:bx K mg μ S H vs [x,y]):∃ v w,vs=[v,w]∧aP K mg μ S H v x∧aP K mg μ S H w y:=by
 cases r with | cons r t=>cases t with | cons r' t'=>cases t';exact ⟨_,_,rfl,r,r'⟩
theorem a_:fL K mg vq bG:=by
 intro WE μ S H vs xs Q hr rs p
 unfold bG at p
 split at p
 ·obtain ⟨v,rfl,r⟩:=rs.one
  split at p
  ·obtain ⟨a,us,rfl,ha,rr⟩:=gT hr r ‹_›
   exact ⟨a,us,rfl,iL ha,by rw [rr.length];exact p.here hr (Rep.int _)⟩
  ·exact p.elim
 ·exact p.elim
theorem cR:fL K mg tZ dn:=by
 intro WE μ S H vs xs Q hr rs p
 unfold dn at p
 split at p
 ·rename_i x
  obtain ⟨v,rfl,r⟩:=rs.one
  split at p
  ·rename_i ds e
   unfold bN at e
   split at e
   ·cases e
    obtain ⟨a,us,rfl,h,g,rr⟩:=gx r
    exact ⟨a,rfl,.inr ⟨us,h,p.here hr (Rep.tup g rr)⟩⟩
   ·obtain ⟨a,us,rfl,h,rr⟩:=fE hr r e
    exact ⟨a,rfl,.inl ⟨us,h,fun q hq=>p.vH hr rr q hq⟩⟩
  ·exact p.elim
 ·exact p.elim
theorem xj:fL K mg sM kN:=by
 intro WE μ S H vs xs Q hr rs p
 unfold kN at p
 split at p
 ·obtain ⟨v,rfl,r⟩:=rs.one
  split at p
  ·obtain ⟨a,us,rfl,ha,rr⟩:=gT hr r ‹_›
   exact ⟨a,us,rfl,iL ha,fun q hq=>p.kn hr rr q hq⟩
  ·exact p.elim
 ·exact p.elim
theorem u9:fL K mg sM kJ:=by
 intro WE μ S H vs xs Q hr rs p
 unfold kJ at p
 split at p
 ·obtain ⟨v,rfl,r⟩:=rs.one
  split at p
  ·obtain ⟨a,us,rfl,ha,rr⟩:=gT hr r ‹_›
   exact ⟨a,us,rfl,iL ha,fun q hq=>p.zN hr rr q hq⟩
  ·exact p.elim
 ·exact p.elim
theorem dr:fL K mg Bu eG:=by
 intro WE μ S H vs xs Q hr rs p
 unfold eG at p
 split at p
 ·obtain ⟨v,rfl,r⟩:=rs.one
  split at p
  ·rename_i bs e
   obtain ⟨ds,e1,e2⟩:=Option.bind_eq_some_iff.mp e
   obtain ⟨a,us,rfl,ha,rr⟩:=fE hr r e1
   rw [qM e2] at rr
   rw [av.yw rr] at ha
   exact ⟨a,bs,rfl,ha,p.here hr (Rep.bl _)⟩
  ·exact p.elim
 ·exact p.elim
theorem AA:fL K mg F7 vN:=by
 intro WE μ S H vs xs Q hr rs p
 unfold vN at p
 split at p
 ·obtain ⟨v,w,rfl,r1,r2⟩:=rs.two
  exact ⟨_,_,by rw [aY r1,aY r2],p.here hr (Rep.int _)⟩
 ·exact p.elim
theorem rS:fL K mg EA sG:=by
 intro WE μ S H vs xs Q hr rs p
 unfold sG at p
 split at p
 ·obtain ⟨v,w,rfl,r1,r2⟩:=rs.two
  exact ⟨_,_,by rw [aY r1,aY r2],p.here hr (Rep.int _)⟩
 ·exact p.elim
end
def dI (T:String) (x:Vl) (S:Sto):R Vl:=match x with
 | .d d=>.ok (.d (.bl (isT T d))) S
 | .r n=>(match S[n]? with
  | some (.lst xs)=>.ok (.d (.bl (isT T (.lst xs)))) S
  | _=>.bad)
 | _=>.bad
section
variable {X:Cx} {WE:WX}
theorem cv {e:Expr} {xa:XE} {nm:Str} {T:String} {p p2 pos:Pos} [n:NS e] (hm:X.mg "isinstance"=none) (hm2:X.mg nm=none) (hv:bootBuiltins nm=some (.type T)) (ha:RE X WE e xa) (hg:Gl X "isinstance":=by exact rfl) (hg2:Gl X nm:=by exact rfl) (ho:okT T=true:=by exact rfl)
  (hn:nm≠"__name__":=by decide) (hd:(nm == ("__debug__":Str))=false:=by decide) (hb:bootBuiltins "isinstance"=some (.builtin "isinstance"):=by decide +kernel)
  (hs2:starEach [.Name nm p2] X.env=(false,eval (.Name nm p2) X.env) :: starEach [] X.env:=by rfl) (hpl:(backTo pos (starEach [.Name nm p2] X.env)).any (·.1)=false:=by rfl) :
  RE X WE (.Call (.Name "isinstance" p) [e,.Name nm p2] [] pos) (xUn (dI T) xa):=
 ⟨(oS hg hm hg2 hm2 hv ho ha.h hn hd hb (n.eq _ X.env) hs2 hpl).weak fun σ H Q ⟨μ,S,τ,hr,sr,p⟩=>⟨μ,S,τ,hr,sr,p.bind fun v x S1 μ1 H1 st1 r1 p1=>by
  unfold dI at p1
  split at p1
  ·exact ⟨_,Rep.mono dy r1,p1.here st1.hr (Rep.bl _)⟩
  ·split at p1
   ·rename_i e
    obtain ⟨rfl,hn⟩:=r1
    obtain ⟨vs,h,rs⟩:=st1.hr.ob _ _ e
    exact ⟨_,Rep.lst h (rs.mono dy),p1.here st1.hr (Rep.bl _)⟩
   ·exact p1.elim
  ·exact p1.elim⟩⟩
def xLm (f:Nat→List D→D→Sto→R Vl) (o e:XE):XE:=fun τ S=>(o τ S).bind fun x S1=>match x with
 | .r n=>(match S1[n]? with
  | some (.lst _)=>(e τ S1).bind fun y S2=>(match y with
   | .d z=>(match S2[n]? with
    | some (.lst xs)=>f n xs z S2
    | _=>.bad)
   | _=>.bad)
  | _=>.bad)
 | _=>.bad
def l5 (n:Nat) (xs:List D) (z:D) (S:Sto):R Vl:=if xs.length < 100000 then .ok (.d .non) (S.set n (.lst (xs++[z]))) else .bad
theorem wX {o e:Expr} {xo xe:XE} {apos cpos:Pos} (ho:RE X WE o xo) (he:RE X WE e xe)
  (hbase:attributeBase o "append" X.env (eval o X.env)=eval o X.env:=by rfl)
  (hfew:((backTo cpos (starEach [e] X.env)).all (fun x=>!x.1) && (backToKw cpos (keywordEach [] X.env)).all (fun x=>x.1.isSome) && decide ([e].length+([]:List Keyword).length+(if ([]:List Keyword).isEmpty then 0 else 1) < 30))=true:=by rfl)
  (hline:(apos.endLine == cpos.line)=true:=by rfl) (hs:starEach [e] X.env=(false,eval e X.env) :: starEach [] X.env:=by rfl):RE X WE (.Call (.Attribute o "append" apos) [e] [] cpos) (xLm l5 xo xe):=
 ⟨(Ea ho.h he.h hbase hfew hline hs).weak fun σ H Q ⟨μ,S,τ,hr,sr,p⟩=>⟨μ,S,τ,hr,sr,p.bind fun v x S1 μ1 H1 st1 r1 p1=>by
  try dsimp only at p1
  split at p1
  ·rename_i n
   obtain ⟨rfl,hn⟩:=r1
   split at p1
   ·rename_i xs0 e0
    obtain ⟨vs0,h0,_⟩:=st1.hr.ob _ _ e0
    refine ⟨_,vs0,rfl,h0,μ1,S1,τ,st1.hr,sr.step st1,p1.bind fun w y S2 μ2 H2 st2 r2 p2=>?_⟩
    try dsimp only at p2
    split at p2
    ·split at p2
     ·rename_i z _ xs e2
      obtain ⟨vs,h2,rs⟩:=st2.hr.ob _ _ e2
      rw [st2.ag n hn] at h2
      unfold l5 at p2
      split at p2
      ·have lv:=rs.length
       have sp:=Step.put st2.hr e2 (by simp) (ob:=.lst (xs++[z])) ⟨_,rfl,rs.append (.cons r2 .nil)⟩
       rw [st2.ag n hn] at sp
       refine ⟨vs,h2,by rw [sizeLine_eq];omega,p2 _ _ _ sp Rep.non⟩
      ·exact p2.elim
     ·exact p2.elim
    ·exact p2.elim
   ·exact p1.elim
  ·exact p1.elim⟩⟩
def yY (r:V→List V→Hp→VK→Prop) (f:Nat→List D→D→Sto→R Vl):Prop:=∀ (K:PySem.W.Frag) (mg:Str→Option Value) (WE:WX) (μ:Nat→Addr) (S:Sto) (H:Hp) (n:Nat) (xs:List D) (vs:List V) (w:V) (z:D) (Q:VK),HR μ S H→S[n]?=some (.lst xs)→H (μ n)=some (.lst vs)→av (vh μ S H) vs xs→Rep (vh μ S H) w z→aK (aP K mg) WE μ S H (f n xs z S) Q→r (.ref (μ n)) [w] H Q
theorem BD {r:V→List V→Hp→VK→Prop} {f:Nat→List D→D→Sto→R Vl} {name:Str} {id:String} {o e:Expr} {xo xe:XE} {apos cpos:Pos} (slot:Slot "list" name id) (hty:typeOf (.builtin id)=pure (.type "method_descriptor")) (hm:MtM X id r) (hf:yY r f) (ho:RE X WE o xo) (he:RE X WE e xe)
  (hbase:attributeBase o name X.env (eval o X.env)=eval o X.env:=by rfl)
  (hfew:((backTo cpos (starEach [e] X.env)).all (fun x=>!x.1) && (backToKw cpos (keywordEach [] X.env)).all (fun x=>x.1.isSome) && decide ([e].length+([]:List Keyword).length+(if ([]:List Keyword).isEmpty then 0 else 1) < 30))=true:=by rfl)
  (hline:(apos.endLine == cpos.line)=true:=by rfl) (hs:starEach [e] X.env=(false,eval e X.env) :: starEach [] X.env:=by rfl):RE X WE (.Call (.Attribute o name apos) [e] [] cpos) (xLm f xo xe):=
 ⟨(F8 slot hty hm ho.h he.h hbase hfew hline hs).weak fun σ H Q ⟨μ,S,τ,hr,sr,p⟩=>⟨μ,S,τ,hr,sr,p.bind fun v x S1 μ1 H1 st1 r1 p1=>by
  try dsimp only at p1
  split at p1
  ·rename_i n
   obtain ⟨rfl,hn⟩:=r1
   split at p1
   ·rename_i xs0 e0
    obtain ⟨vs0,h0,_⟩:=st1.hr.ob _ _ e0
    refine ⟨_,vs0,rfl,h0,μ1,S1,τ,st1.hr,sr.step st1,p1.bind fun w y S2 μ2 H2 st2 r2 p2=>?_⟩
    try dsimp only at p2
    split at p2
    ·split at p2
     ·rename_i z _ xs e2
      obtain ⟨vs,h2,rs⟩:=st2.hr.ob _ _ e2
      rw [← st2.ag n hn]
      exact hf X.K X.mg WE μ2 S2 H2 n xs vs w z Q st2.hr e2 h2 rs r2 p2
     ·exact p2.elim
    ·exact p2.elim
   ·exact p1.elim
  ·exact p1.elim⟩⟩
def qv (n:Nat) (xs:List D) (z:D) (S:Sto):R Vl:=match z with
 | .int i=>if 0≤i∧i < 2 ^ 63 then (match xs[i.toNat]? with
  | some y=>.ok (.d y) (S.set n (.lst (xs.eraseIdx i.toNat)))
  | none=>.bad) else .bad
 | _=>.bad
theorem av.erase {H:Hp}:∀ {vs:List V} {ds:List D} (i:Nat),av H vs ds→av H (vs.eraseIdx i) (ds.eraseIdx i)
 | _,_,_,.nil=>.nil
 | _,_,0,.cons _ t=>t
 | _,_,i+1,.cons r t=>.cons r (av.erase i t)
theorem zG:yY x_ qv:=by
 intro K mg WE μ S H n xs vs w z Q hr e h rs rw' p
 unfold qv at p
 split at p
 ·rename_i i
  split at p
  ·rename_i hi
   split at p
   ·rename_i y ey
    obtain ⟨u,eu,ru⟩:=rs.get' ey
    have hl:i.toNat < vs.length:=(List.getElem?_eq_some_iff.mp eu).1
    cases rw'
    refine ⟨_,vs,i,i.toNat,u,rfl,rfl,h,by omega,hi.2,PySem.StrLaws.seqIndex_nonneg hi.1 (by omega),eu,?_⟩
    have sp:=Step.put hr e (by simp) (ob:=.lst (xs.eraseIdx i.toNat)) ⟨_,rfl,rs.erase i.toNat⟩
    exact p _ _ _ sp (Rep.mono sp.vis ru)
   ·exact p.elim
  ·exact p.elim
 ·exact p.elim
end
def bZ (e:XE):XI:=fun τ S=>(e τ S).bind fun z S1=>match z with
 | .d (.tup xs)=>.ok ⟨xs.map Vl.d,none⟩ S1
 | .d (.lst xs)=>.ok ⟨xs.map Vl.d,none⟩ S1
 | .r n=>(match S1[n]? with
  | some (.lst xs)=>.ok ⟨xs.map Vl.d,some (n,.lst xs)⟩ S1
  | _=>.bad)
 | _=>.bad
def jV (as:XA):XI:=fun τ S=>(as τ S).bind fun zs S1=>match zs with
 | [.d (.int j)]=>if -100000≤j∧j≤100000 then .ok ⟨(List.range j.toNat).map fun i=>Vl.d (.int (i:Nat)),none⟩ S1 else .bad
 | _=>.bad
def zU (as:XA):XI:=fun τ S=>(as τ S).bind fun zs S1=>match zs with
 | [.d (.int i),.d (.int j)]=>if (-100000≤i∧i≤100000)∧-100000≤j∧j≤100000 then .ok ⟨(List.range (j - i).toNat).map fun k=>Vl.d (.int (i+(k:Nat))),none⟩ S1 else .bad
 | _=>.bad
section
variable {X:Cx} {WE:WX} {K:PySem.W.Frag} {mg:Str→Option Value} {μ:Nat→Addr} {S:Sto} {H:Hp}
theorem gp {xs:List D} {i:Nat} {z:Vl} (e:(xs.map Vl.d)[i]?=some z):∃ x,xs[i]?=some x∧z=.d x:=by
 rw [List.getElem?_map] at e
 cases q:xs[i]? with
 | none=>rw [q] at e;cases e
 | some x=>rw [q] at e;cases e;exact ⟨x,rfl,rfl⟩
theorem Ef {a:Addr} {vs:List V} {xs:List D} (g:vh μ S H a=some (.tup vs)) (rs:av (vh μ S H) vs xs) (hz:vs.length≤sizeLine):eK K mg μ S H (Itt K a) ⟨xs.map Vl.d,none⟩ where
 ok:=True.intro
 len:=by simp only [List.length_map];rw [← rs.length];exact hz
 go:=fun i z μ' S' H' st _ e=>by
  obtain ⟨x,e1,rfl⟩:=gp e
  obtain ⟨u,e2,_⟩:=rs.get' e1
  exact ⟨vs,u,SqT.of (aC (st.vis _ _ g)).2,e2⟩
 yld:=fun i z μ' S' H' u H2 st _ e y=>by
  obtain ⟨rfl,y⟩:=y
  obtain ⟨x,e1,rfl⟩:=gp e
  have e2:=y vs (SqT.of (aC (st.vis _ _ g)).2)
  obtain ⟨x',e3,r⟩:=rs.get e2
  rw [e1] at e3;cases e3
  exact ⟨Step.refl st.hr,Rep.mono st.vis r⟩
 stop:=fun i μ' S' H' st _ hi=>⟨vs,SqT.of (aC (st.vis _ _ g)).2,by rw [rs.length];simpa using Nat.le_of_eq hi⟩
theorem EH {a:Addr} {vs:List V} {xs:List D} (g:vh μ S H a=some (.lst vs)) (rs:av (vh μ S H) vs xs) (hz:vs.length≤sizeLine):eK K mg μ S H (Itl K a) ⟨xs.map Vl.d,none⟩ where
 ok:=True.intro
 len:=by simp only [List.length_map];rw [← rs.length];exact hz
 go:=fun i z μ' S' H' st _ e=>by
  obtain ⟨x,e1,rfl⟩:=gp e
  obtain ⟨u,e2,_⟩:=rs.get' e1
  exact ⟨vs,u,SqL.of (aC (st.vis _ _ g)).2,e2⟩
 yld:=fun i z μ' S' H' u H2 st _ e y=>by
  obtain ⟨rfl,y⟩:=y
  obtain ⟨x,e1,rfl⟩:=gp e
  have e2:=y vs (SqL.of (aC (st.vis _ _ g)).2)
  obtain ⟨x',e3,r⟩:=rs.get e2
  rw [e1] at e3;cases e3
  exact ⟨Step.refl st.hr,Rep.mono st.vis r⟩
 stop:=fun i μ' S' H' st _ hi=>⟨vs,SqL.of (aC (st.vis _ _ g)).2,by rw [rs.length];simpa using Nat.le_of_eq hi⟩
theorem Dw {n:Nat} {vs:List V} {xs:List D} (hn:n < S.length) (e0:S[n]?=some (.lst xs)) (rs:av (vh μ S H) vs xs) (hz:vs.length≤sizeLine):eK K mg μ S H (Itl K (μ n)) ⟨xs.map Vl.d,some (n,.lst xs)⟩ where
 ok:=e0
 len:=by simp only [List.length_map];rw [← rs.length];exact hz
 go:=fun i z μ' S' H' st ok e=>by
  obtain ⟨us,h,rs'⟩:=st.hr.ob n _ ok
  rw [st.ag n hn] at h
  obtain ⟨x,e1,rfl⟩:=gp e
  obtain ⟨u,e2,_⟩:=rs'.get' e1
  exact ⟨us,u,SqL.of h,e2⟩
 yld:=fun i z μ' S' H' u H2 st ok e y=>by
  obtain ⟨rfl,y⟩:=y
  obtain ⟨us,h,rs'⟩:=st.hr.ob n _ ok
  rw [st.ag n hn] at h
  obtain ⟨x,e1,rfl⟩:=gp e
  have e2:=y us (SqL.of h)
  obtain ⟨x',e3,r⟩:=rs'.get e2
  rw [e1] at e3;cases e3
  exact ⟨Step.refl st.hr,r⟩
 stop:=fun i μ' S' H' st ok hi=>by
  replace hi:=Nat.le_of_eq hi
  obtain ⟨us,h,rs'⟩:=st.hr.ob n _ ok
  rw [st.ag n hn] at h
  exact ⟨us,SqL.of h,by rw [rs'.length];simpa using hi⟩
theorem ya {lo:Int} {m:Nat} (hr:HR μ S H) (hm:m≤sizeLine):eK K mg μ S H (Itr lo m) ⟨(List.range m).map fun k=>Vl.d (.int (lo+(k:Nat))),none⟩ where
 ok:=True.intro
 len:=by simpa using hm
 go:=fun i z μ' S' H' st _ e=>by
  have:=(List.getElem?_eq_some_iff.mp e).1
  exact (show i < m by simpa using this)
 yld:=fun i z μ' S' H' u H2 st _ e y=>by
  obtain ⟨rfl,rfl⟩:=y
  have hi:i < m:=by simpa using (List.getElem?_eq_some_iff.mp e).1
  rw [List.getElem?_map,List.getElem?_range hi] at e
  cases e
  exact ⟨Step.refl st.hr,Rep.int _⟩
 stop:=fun i μ' S' H' st _ hi=>(show m≤i by simpa using Nat.le_of_eq hi)
theorem bJ {tg l:Expr} {xl:XE} (hl:RE X WE l xl):RI X WE tg l (bZ xl):=⟨by
 intro pins s σ H Rr I h
 obtain ⟨μ,S,τ,hr,sr,p⟩:=h
 refine thn (hl.h pins s σ H _ I ⟨μ,S,τ,hr,sr,p.bind (Q:=fun v H1=>∃ μ1 S1 z,HR μ1 S1 H1∧aP X.K X.mg μ1 S1 H1 v z∧aK (eK X.K X.mg) WE μ1 S1 H1 (match z with
   | .d (.tup xs)=>.ok ⟨xs.map Vl.d,none⟩ S1
   | .d (.lst xs)=>.ok ⟨xs.map Vl.d,none⟩ S1
   | .r n=>(match S1[n]? with
    | some (.lst xs)=>.ok ⟨xs.map Vl.d,some (n,.lst xs)⟩ S1
    | _=>.bad)
   | _=>.bad) Rr) fun v x S1 μ1 H1 st1 r1 p1=>⟨μ1,S1,x,st1.hr,r1,p1⟩⟩) fun v s1 ⟨u,H1,I1,ru,μ1,S1,z,hr1,r1,p1⟩=>?_
 have goT:∀ a vs xs,u=.ref a→vh μ1 S1 H1 a=some (.tup vs)→av (vh μ1 S1 H1) vs xs→Rr (Itt X.K a) H1→wpAny (model X.prog X.w) X.A (pyIter v) (PIE X pins σ tg Rr) X.xe s1:=by
  rintro a vs xs rfl g rs q
  cases ru
  obtain ⟨its,rv,pp,hz⟩:=I1.tuple (SqT.of (aC g).2)
  refine wpAny_pyIter_tuple (show s1.heap.IsTuple a its.toArray from pp) ?_
  refine ⟨s1.heap.objs.size,[s1.heap.objs.size],_,_,H1,rfl,I1.kept (t':=s1.toks) fun b o e=>Heap.get?_push_of_some _ e,vP a _,⟨_,Heap.get?_push_size _ rfl,rfl,rfl⟩,fun b hb=>?_,q⟩
  rw [List.mem_singleton.mp hb]
  exact I1.jk (Nat.le_refl _) (I1.hok.fresh (Nat.le_refl _))
 have goL:∀ a vs,u=.ref a→H1 a=some (.lst vs)→Rr (Itl X.K a) H1→wpAny (model X.prog X.w) X.A (pyIter v) (PIE X pins σ tg Rr) X.xe s1:=by
  rintro a vs rfl g q
  cases ru
  obtain ⟨its,rv,pp,hz⟩:=I1.list (SqL.of g)
  refine wpAny_pyIter_list pp.isList ?_
  refine ⟨s1.heap.objs.size,[s1.heap.objs.size],_,_,H1,rfl,I1.kept (t':=s1.toks) fun b o e=>Heap.get?_push_of_some _ e,wG a _,⟨_,Heap.get?_push_size _ rfl,rfl,rfl⟩,fun b hb=>?_,q⟩
  rw [List.mem_singleton.mp hb]
  exact I1.jk (Nat.le_refl _) (I1.hok.fresh (Nat.le_refl _))
 split at p1
 ·obtain ⟨a,vs,rfl,h,g,rs⟩:=gx r1
  obtain ⟨its,rv,pp,hz⟩:=I1.tuple (SqT.of h)
  exact goT a vs _ rfl g rs (p1.here hr1 (Ef g rs hz))
 ·cases (show Rep (vh μ1 S1 H1) u (.lst _) from r1) with
  | lst g rs=>
   obtain ⟨its,rv,pp,hz⟩:=I1.list (SqL.of (aC g).2)
   exact goL _ _ rfl (aC g).2 (p1.here hr1 (EH g rs hz))
 ·split at p1
  ·rename_i e
   obtain ⟨rfl,hn⟩:=r1
   obtain ⟨vs,h,rs⟩:=hr1.ob _ _ e
   obtain ⟨its,rv,pp,hz⟩:=I1.list (SqL.of h)
   exact goL _ _ rfl h (p1.here hr1 (Dw hn e rs hz))
  ·exact p1.elim
 ·exact p1.elim⟩
theorem ez {tg a:Expr} {as:XA} {p pos:Pos} (hg:Gl X "range") (hm:X.mg "range"=none) (ha:RA X WE [a] as) (hs:starEach [a] X.env=[(false,eval a X.env)]:=by rfl):RI X WE tg (.Call (.Name "range" p) [a] [] pos) (jV as):=
 ⟨(wO hg hm ha.h hs).weak fun σ H Rr ⟨μ,S,τ,hr,sr,p⟩=>⟨μ,S,τ,hr,sr,p.bind fun vs xs S1 μ1 H1 st1 r1 p1=>by
  try dsimp only at p1
  split at p1
  ·split at p1
   ·obtain ⟨v,rfl,r⟩:=r1.one
    rename_i j hj
    refine ⟨j,by rw [aY r],by omega,by omega,p1.here st1.hr ?_⟩
    have q:=ya (K:=X.K) (mg:=X.mg) (lo:=0) (m:=j.toNat) st1.hr (iz (by omega))
    have z:∀ k:Nat,(0:Int)+k=k:=fun k=>by omega
    simp only [z] at q
    exact q
   ·exact p1.elim
  ·exact p1.elim⟩⟩
theorem yl {tg a b:Expr} {as:XA} {p pos:Pos} (hg:Gl X "range") (hm:X.mg "range"=none) (ha:RA X WE [a,b] as) (hs:starEach [a,b] X.env=[(false,eval a X.env),(false,eval b X.env)]:=by rfl) (hs2:starEach [b] X.env=[(false,eval b X.env)]:=by rfl):RI X WE tg (.Call (.Name "range" p) [a,b] [] pos) (zU as):=
 ⟨(yF hg hm ha.h hs hs2).weak fun σ H Rr ⟨μ,S,τ,hr,sr,p⟩=>⟨μ,S,τ,hr,sr,p.bind fun vs xs S1 μ1 H1 st1 r1 p1=>by
  try dsimp only at p1
  split at p1
  ·split at p1
   ·obtain ⟨v,w,rfl,r,r'⟩:=r1.two
    rename_i i j hj
    exact ⟨i,j,by rw [aY r,aY r'],⟨by omega,by omega,by omega,by omega⟩,p1.here st1.hr (ya st1.hr (by rw [sizeLine_eq];omega))⟩
   ·exact p1.elim
  ·exact p1.elim⟩⟩
end
section
variable {prog:Program} {w:World} {A:Around} {E:Value→Shared→Prop} {s:Shared}
theorem tK {l:Addr} {vs:List Value} {Q:List Value→Shared→Prop} (hl:IsTup s.heap l vs.toArray)
  (h:Q vs { s with heap:=(s.heap.push (seqObj "list" #[] 0)).update s.heap.objs.size (Obj.mapSeq (·++vs.toArray)) }) (hsz:vs.length≤sizeLine:=by size_fits) :
  wpAny (model prog w) A (collect (.ref l)) Q E s:=by
 obtain ⟨o,ho,hc,n,hd⟩:=id hl
 unfold collect
 refine wpAny_bind (wpAny_runValue (codeAny_builtin entry_proto_collect' ?_))
 show wpAny _ _ (do again (.builtin "list.__iadd__" ⟨[← newList [],.ref l],[]⟩)) _ _ s
 refine wpAny_bind (wpAny_newList (wpAny_pure ⟨Code.quiet_builtin _ (by decide +kernel),codeAny_builtin entry_list_iadd' ?_⟩))
 show wpAny _ _ (Builtin.List.listExtendWith (.ref s.heap.objs.size) (.ref l) (.ref s.heap.objs.size)) _ _ { s with heap:=s.heap.push (seqObj "list" #[] 0) }
 unfold Builtin.List.listExtendWith
 have ho':(s.heap.push (seqObj "list" #[] 0)).get? l=some o:=Heap.get?_push_of_some _ ho
 refine wpAny_bind (wpAny_typeOf (T:="tuple") ⟨o,ho',hc⟩ ?_)
 have ht:(Value.type "tuple" == Value.type "tuple")=true:=by rfl
 rw [if_pos (by rw [ht];simp)]
 refine wpAny_bind (listItems_at ho' hd ?_)
 refine wpAny_bind (listItems_at (xs:=#[]) (n:=0) (Heap.get?_push_size _ rfl) rfl ?_)
 rw [if_neg (by simp)]
 refine wpAny_bind (listUpdate_at (xs:=#[]) (n:=0) (Heap.get?_push_size _ rfl) rfl ?_ (Nat.zero_le _) (by show (#[]++vs.toArray).size≤sizeLine+1;simp only [Array.size_append,List.size_toArray,List.length_nil];omega))
 refine wpAny_pure ?_
 show wpAny (model prog w) A (do
   let o ← load s.heap.objs.size
   match o.data with
   | .seq xs _=>pure xs.toList
   | _=>unsupported "internal:collect") Q E { s with heap:=(s.heap.push (seqObj "list" #[] 0)).update s.heap.objs.size (Obj.mapSeq (·++vs.toArray)) }
 refine wpAny_bind (wpAny_load (get?_update_seq (Heap.get?_push_size _ rfl) _) ?_)
 show wpAny _ _ (pure ((#[]:Array Value)++vs.toArray).toList) Q E _
 rw [show ((#[]:Array Value)++vs.toArray).toList=vs by simp]
 exact wpAny_pure h
theorem vF {l:Addr} {vs:List Value} {ns:List Int} {Q:Value→Shared→Prop} (hl:IsTup s.heap l vs.toArray) (hI:IntsAre vs ns) (h64:vs.length < 64)
  (h:∀ (out:Array Value) (ns':List Int),IntsAre out.toList ns'→ns'.Perm ns→ns'.Pairwise (·≤·)→Q (.ref (s.heap.objs.size+1)) { s with heap:=sortedAll s.heap vs out }) :
  wpAny (model prog w) A (call (.builtin "sorted") [.ref l]) Q E s:=by
 refine Calls.call_function_entry kind_sorted plain_sorted entry_sorted (args_sorted1 _) ?_
 unfold Builtin.«sorted»
 refine wpAny_bind (m:=checkCount "sorted" 1 1 _) (wpAny_pure ?_)
 refine wpAny_bind (tK hl ?_ (Nat.le_of_lt (di (by omega))))
 refine wpAny_bind (wpAny_newList ?_)
 have hsz:((s.heap.push (seqObj "list" #[] 0)).update s.heap.objs.size (Obj.mapSeq (·++vs.toArray))).objs.size=s.heap.objs.size+1:=by
  rw [Heap.size_update,size_push']
 have hoL:(((s.heap.push (seqObj "list" #[] 0)).update s.heap.objs.size (Obj.mapSeq (·++vs.toArray))).push (seqObj "list" vs.toArray 0)).get? (s.heap.objs.size+1)=some (seqObj "list" vs.toArray 0):=by
  rw [← hsz];exact Heap.get?_push_size _ rfl
 show wpAny _ _ _ _ _ { s with heap:=((s.heap.push (seqObj "list" #[] 0)).update s.heap.objs.size (Obj.mapSeq (·++vs.toArray))).push (seqObj "list" vs.toArray 0) }
 rw [hsz]
 refine wpAny_bind (wpAny_holding (wpAny_call_entry slot_list_sort ⟨_,hoL,rfl⟩ entry_list_sort (list_sort_tree hoL hI h64 fun out ns' a1 a2 a3=>⟨_,rfl,?_⟩) (args_list_sort _)))
 exact wpAny_pure ⟨_,rfl,h out ns' a1 a2 a3⟩
end
section
variable {X:Cx}
def yk:List V→Hp→VK→Prop:=fun vs H Q=>∃ (p:Addr) (ns:List Int),vs=[.ref p]∧H p=some (.tup (ns.map V.int))∧ns.length < 64∧∀ (l:Addr) (ms:List Int),H l=none→List.Perm ms ns→ms.Pairwise (·≤·)→Q (.ref l) (upd H l (.lst (ms.map V.int)))
theorem vC:bL X (.builtin "sorted") yk:=by
 intro pins s σ H xs us Q I r h
 obtain ⟨p,ns,rfl,hq,hl,q⟩:=h
 obtain ⟨u,rfl,rx⟩:=vals1 r
 cases rx
 obtain ⟨its,rv,pl,hz⟩:=I.tuple (SqT.of hq)
 have hI:IntsAre its ns:=intsAre_of rv
 have h64:its.length < 64:=by rw [← rv.length,List.length_map];exact hl
 refine vF pl hI h64 fun out ms hout hperm hpair=>?_
 obtain ⟨e,he⟩:=sortedAll_at s.heap its out
 refine ⟨.ref (s.heap.objs.size+1),_,I.laid (t':=s.toks) (o:=.lst (ms.map V.int)) (fun b ob q=>sortedAll_old q) (Nat.le_succ _) ?_,rfl,q _ ms (I.hok.fresh (Nat.le_succ _)) hperm hpair⟩
 have hlm:ms.length=ns.length:=hperm.length_eq
 exact ⟨by rw [List.length_map];have:(64:Nat)≤sizeLine:=(by decide);omega,out.toList,e,eg hout,by simpa using he⟩
def yu:List V→Hp→VK→Prop:=fun vs H Q=>rX vs H Q∨yk vs H Q
theorem uO:bL X (.builtin "sorted") yu:=qy.or vC
def lB (xs:List Vl) (S:Sto):R Vl:=match xs with
 | [x]=>(match (bN x S).bind intsOf with
  | some ns=>if ns.length < 64 then .ok (.d (.lst ((sortI ns).map D.int))) S else .bad
  | none=>.bad)
 | _=>.bad
theorem yA {K:PySem.W.Frag} {mg:Str→Option Value}:fL K mg yu lB:=by
 intro WE μ S H vs xs Q hr rs p
 unfold lB at p
 split at p
 ·obtain ⟨v,rfl,r⟩:=rs.one
  split at p
  ·rename_i ns e
   split at p
   ·rename_i hb
    obtain ⟨ds,e1,e2⟩:=Option.bind_eq_some_iff.mp e
    obtain ⟨a,us,rfl,ha,rr⟩:=gT hr r e1
    rw [j6 e2] at rr
    rw [av.n6 rr] at ha
    rcases ha with ha | ha
    ·refine .inl ⟨a,ns,rfl,ha,hb,fun l ms hl h1 h2=>?_⟩
     rw [lT h1 h2]
     exact p.kn hr (av.ints _) l hl
    ·refine .inr ⟨a,ns,rfl,ha,hb,fun l ms hl h1 h2=>?_⟩
     rw [lT h1 h2]
     exact p.kn hr (av.ints _) l hl
   ·exact p.elim
  ·exact p.elim
 ·exact p.elim
def A4:V→List V→Hp→VK→Prop:=fun x vs H Q=>∃ l b xs zs,x=.ref l∧vs=[.ref b]∧H l=some (.lst xs)∧H b=some (.tup zs)∧xs.length+zs.length≤sizeLine∧Q .non (upd H l (.lst (xs++zs)))
theorem Cr:MtM X "list.extend" A4:=by
 intro pins s σ H x vs v us Q I rx rv h
 obtain ⟨l,b,xs,zs,rfl,rfl,hH,hB,hz,q⟩:=h
 cases rx
 obtain ⟨u,rfl,ru⟩:=rv.one
 cases ru
 obtain ⟨z,its,n,r,hl,e⟩:=I.kf hH
 obtain ⟨its2,r2,p2,hz2⟩:=I.tuple (SqT.of hB)
 obtain ⟨o2,g2,c2,n2,d2⟩:=id p2
 have l2:=r2.length
 have hsz:its.toArray.size+its2.toArray.size≤sizeLine:=by rw [List.size_toArray,List.size_toArray];omega
 have hlong:¬(!its.toArray.isEmpty && Builtin.List.listTooLong (its.toArray.size+its2.toArray.size))=true:=by
  rw [i_ hsz,Bool.and_false]
  exact Bool.false_ne_true
 refine wpAny_call_entry F.slot_list_extend ⟨_,e,rfl⟩ F.entry_list_extend ?_ (F.args_list_extend_2 _ _)
 unfold Builtin.«list.extend»
 refine wpAny_bind (m:=selfAndOne "list.extend" _) ?_
 refine wpAny_of_eq (a:=(Value.ref l,Value.ref b)) (by first | rfl | (unfold selfAndOne;rfl)) ?_
 dsimp only
 unfold Builtin.List.listExtendWith
 refine wpAny_bind (wpAny_typeOf (T:="tuple") ⟨o2,g2,c2⟩ ?_)
 have ht:(Value.type "tuple" == Value.type "tuple")=true:=by rfl
 rw [if_pos (by rw [ht];simp)]
 refine wpAny_bind (listItems_at g2 d2 ?_)
 refine wpAny_bind (listItems_at (n:=n) e rfl ?_)
 rw [if_neg hlong]
 refine wpAny_bind (listUpdate_at (n:=n) e rfl ?_ (by rw [List.size_toArray];omega) (by rw [Array.size_append];omega))
 refine wpAny_pure ?_
 refine ⟨_,rfl,.non,_,I.rP (its':=its++its2) hH e (by simp) (r.append r2) ?_,rfl,q⟩
 rw [List.length_append]
 omega
end
section
variable {X:Cx} {WE:WX}
def A8:V→List V→Hp→VK→Prop:=fun x vs H Q=>tW x vs H Q∨A4 x vs H Q
theorem CY:MtM X "list.extend" A8:=by
 intro pins s σ H x vs v us Q I rx rv h
 rcases h with h | h
 ·exact yR pins s σ H x vs v us Q I rx rv h
 ·exact Cr pins s σ H x vs v us Q I rx rv h
def nz (n:Nat) (xs:List D) (z:D) (S:Sto):R Vl:=match z with
 | .lst ys=>if xs.length+ys.length≤100000 then .ok (.d .non) (S.set n (.lst (xs++ys))) else .bad
 | .tup ys=>if xs.length+ys.length≤100000 then .ok (.d .non) (S.set n (.lst (xs++ys))) else .bad
 | _=>.bad
theorem yG:yY A8 nz:=by
 intro K mg WE μ S H n xs vs w z Q hr e h rs rw' p
 unfold nz at p
 split at p
 ·rename_i ys
  split at p
  ·cases rw' with
   | @lst a us _ h' rs'=>
    have l1:=rs.length
    have l2:=rs'.length
    exact .inl ⟨_,a,vs,us,rfl,rfl,h,(aC h').2,iz (by omega),p _ _ _ (Step.put hr e (by simp) (ob:=.lst (xs++ys)) ⟨_,rfl,rs.append rs'⟩) Rep.non⟩
  ·exact p.elim
 ·rename_i ys
  split at p
  ·cases rw' with
   | @tup a us _ h' rs'=>
    have l1:=rs.length
    have l2:=rs'.length
    exact .inr ⟨_,a,vs,us,rfl,rfl,h,(aC h').2,iz (by omega),p _ _ _ (Step.put hr e (by simp) (ob:=.lst (xs++ys)) ⟨_,rfl,rs.append rs'⟩) Rep.non⟩
  ·exact p.elim
 ·exact p.elim
def d9 (x y z:Vl) (S:Sto):R Unit:=match x,y,z with
 | .r n,.d (.int k),.d w=>(match S[n]? with
  | some (.lst xs)=>(match ixN xs.length k with
   | some j=>.ok () (S.set n (.lst (xs.set j w)))
   | none=>.bad)
  | _=>.bad)
 | _,_,_=>.bad
theorem av.set {H:Hp} {v:V} {d:D} (r:Rep H v d):∀ {vs:List V} {ds:List D} (i:Nat),av H vs ds→av H (vs.set i v) (ds.set i d)
 | _,_,_,.nil=>.nil
 | _,_,0,.cons _ t=>.cons r t
 | _,_,i+1,.cons q t=>.cons q (av.set r i t)
theorem iM {K:PySem.W.Frag} {mg:Str→Option Value}:wY K mg vU d9:=by
 intro WE μ S H o i v x y z Q hr ro ri rv p
 unfold d9 at p
 split at p
 ·split at p
  ·rename_i n k w _ xs e
   obtain ⟨rfl,hn⟩:=ro
   obtain ⟨vs,h,rs⟩:=hr.ob _ _ e
   split at p
   ·rename_i j ej
    refine ⟨_,vs,k,j,rfl,aY ri,h,by rw [rs.length];exact ej,?_⟩
    exact p () _ _ (Step.put hr e (by simp) (ob:=.lst (xs.set j w)) ⟨_,rfl,rs.set rv j⟩) True.intro
   ·exact p.elim
  ·exact p.elim
 ·exact p.elim
theorem nq:vg X vU:=set_list
def lrg (fin:List D→Sto→R Vl) (zs:List Vl) (S:Sto):R Vl:=match zs with
 | [.d (.int j)]=>if 0≤j∧j≤1000 then fin ((List.range j.toNat).map fun i=>D.int (i:Nat)) S else .bad
 | _=>.bad
def zo (ds:List D) (S:Sto):R Vl:=.ok (.r S.length) (S++[.lst ds])
theorem m_ {H:Hp}:∀ l:List Nat,av H (l.map fun i=>V.int (i:Nat)) (l.map fun i=>D.int (i:Nat))
 | []=>.nil
 | n :: l=>.cons (.int _) (m_ l)
theorem p8 {a:Expr} {as:XA} {p1 p2 pos1 pos2:Pos} (hc:X.calm=true) (hgl:Gl X "list") (hml:X.mg "list"=none) (hgr:Gl X "range") (hmr:X.mg "range"=none) (hbl:bootBuiltins "list"=some (.type "list")) (ha:RA X WE [a] as)
  (hs:starEach [a] X.env=[(false,eval a X.env)]:=by rfl)
  (hs2:starEach [Expr.Call (.Name "range" p2) [a] [] pos2] X.env=(false,eval (Expr.Call (.Name "range" p2) [a] [] pos2) X.env) :: starEach [] X.env:=by rfl) :
  RE X WE (.Call (.Name "list" p1) [.Call (.Name "range" p2) [a] [] pos2] [] pos1) (xN (lrg zo) as):=
 ⟨(qV hc hgl hml hgr hmr hbl ha.h hs hs2).weak fun σ H Q ⟨μ,S,τ,hr,sr,p⟩=>⟨μ,S,τ,hr,sr,p.bind fun vs xs S1 μ1 H1 st1 r1 p1=>by
  unfold lrg at p1
  split at p1
  ·split at p1
   ·rename_i j hj
    obtain ⟨v,rfl,r⟩:=r1.one
    exact ⟨j,by rw [aY r],hj.1,hj.2,fun l hl=>p1.zN st1.hr (m_ _) l hl⟩
   ·exact p1.elim
  ·exact p1.elim⟩⟩
end
def gP (x:Int):List Int→List Int
 | []=>[x]
 | y :: ys=>if x < y then x :: y :: ys else if x=y then y :: ys else y :: gP x ys
def bI:List Int→List Int
 | []=>[]
 | x :: xs=>gP x (bI xs)
theorem lV (x z:Int):∀ ys,z∈gP x ys↔z=x∨z∈ys
 | []=>by simp [gP]
 | y :: ys=>by
  unfold gP
  split
  ·simp
  ·split
   ·rename_i h;subst h;simp
   ·simp only [List.mem_cons,lV x z ys]
    constructor
    ·rintro (h | h | h)
     ·exact .inr (.inl h)
     ·exact .inl h
     ·exact .inr (.inr h)
    ·rintro (h | h | h)
     ·exact .inr (.inl h)
     ·exact .inl h
     ·exact .inr (.inr h)
theorem jU (z:Int):∀ xs,z∈bI xs↔z∈xs
 | []=>by simp [bI]
 | x :: xs=>by rw [bI,lV,jU z xs,List.mem_cons]
theorem pH (x:Int):∀ ys:List Int,ys.Pairwise (· < ·)→(gP x ys).Pairwise (· < ·)
 | [],_=>by simp [gP]
 | y :: ys,h=>by
  obtain ⟨h1,h2⟩:=List.pairwise_cons.mp h
  unfold gP
  split
  ·rename_i hxy
   refine List.pairwise_cons.mpr ⟨fun z hz=>?_,h⟩
   rcases List.mem_cons.mp hz with e | e
   ·omega
   ·have:=h1 z e;omega
  ·split
   ·exact h
   ·refine List.pairwise_cons.mpr ⟨fun z hz=>?_,pH x ys h2⟩
    rcases (lV x z ys).mp hz with e | e
    ·omega
    ·exact h1 z e
theorem gg:∀ xs,(bI xs).Pairwise (· < ·)
 | []=>.nil
 | x :: xs=>pH x _ (gg xs)
theorem n5 {xs:List Int} (h:xs.Pairwise (· < ·)):xs.Nodup:=h.imp fun z=>by omega
theorem zp {xs ys:List Int} (h:∀ z,z∈xs↔z∈ys) (h1:xs.Pairwise (· < ·)) (h2:ys.Pairwise (· < ·)):xs=ys:=
 oC ((List.perm_ext_iff_of_nodup (n5 h1) (n5 h2)).mpr h) (h1.imp fun z=>by omega) (h2.imp fun z=>by omega)
theorem mh {xs ys:List Int} (h:∀ z,z∈ys↔z∈xs) (h1:ys.Pairwise (· < ·)):ys=bI xs:=zp (fun z=>by rw [h,jU]) h1 (gg xs)
theorem m8 {ks ns:List Int} (h1:ks.Nodup) (h2:∀ x,x∈ks↔x∈ns):ks.length=(bI ns).length:=
 ((List.perm_ext_iff_of_nodup h1 (n5 (gg ns))).mpr fun z=>by rw [h2,jU]).length_eq
section
variable {X:Cx} {WE:WX}
def SqI (H:Hp) (a:Addr) (ns:List Int):Prop:=H a=some (.lst (ns.map V.int))∨H a=some (.tup (ns.map V.int))
def IG (N:Nat) (te:TE):TE:=fun σ H Q=>te σ H fun x H1=>∃ (a:Addr) (ns:List Int),x=.ref a∧SqI H1 a ns∧ns.length≤300∧(bI ns).length < N∧∀ l:Addr,H1 l=none→Q (.ref l) (upd H1 l (.lst ((bI ns).map V.int)))
def HZ (te:TE):TE:=fun σ H Q=>te σ H fun x H1=>∃ (a:Addr) (ns:List Int),x=.ref a∧SqI H1 a ns∧ns.length≤300∧Q (.int (bI ns).length) H1
theorem SqI.at {pins:List (Addr×Obj)} {σ:St} {H:Hp} {s:Shared} {a:Addr} {ns:List Int} (I:Inv X pins σ H s) (h:SqI H a ns):∃ (its:List Value) (k:Bool),IntsAre its ns∧rM s.heap a its.toArray k:=by
 rcases h with h | h
 ·obtain ⟨its,rv,pl,hz⟩:=I.list (SqL.of h)
  exact ⟨its,true,intsAre_of rv,pl.isList⟩
 ·obtain ⟨its,rv,pl,hz⟩:=I.tuple (SqT.of h)
  exact ⟨its,false,intsAre_of rv,pl⟩
theorem Dp {N:Nat} (T:kC N) (hN:N≤301) {e:Expr} {te:TE} {p1 p2 pos1 pos2:Pos} (hc:X.calm=true) (hgs:Gl X "sorted") (hms:X.mg "sorted"=none) (hgt:Gl X "set") (hmt:X.mg "set"=none) (hbs:bootBuiltins "sorted"=some (.builtin "sorted")) (hbt:bootBuiltins "set"=some (.type "set")) (he:PE X e te)
  (hs:starEach [e] X.env=(false,eval e X.env) :: starEach [] X.env:=by rfl)
  (hs2:starEach [Expr.Call (.Name "set" p2) [e] [] pos2] X.env=(false,eval (Expr.Call (.Name "set" p2) [e] [] pos2) X.env) :: starEach [] X.env:=by rfl) :
  PE X (.Call (.Name "sorted" p1) [.Call (.Name "set" p2) [e] [] pos2] [] pos1) (IG N te):=by
 intro pins s σ H Q I h
 refine wpAny_Call_Name_kw (b7 I hgs hms hbs ?_)
 rw [hs2]
 refine Calls.callWith_builtin (by show (false || (backTo pos1 (starEach ([]:List Expr) X.env)).any (·.1))=false;rfl) (Calls.evalArgs_plain ?_)
 show wpAny _ _ (spliced ((false,eval (Expr.Call (.Name "set" p2) [e] [] pos2) X.env) :: backTo pos1 (starEach [] X.env))) _ _ s
 refine Calls.spliced_cons ?_
 have hA:=(dz he fB hs) pos2 pins s σ H (fun vs H1=>∃ x,vs=[x]∧∃ (a:Addr) (ns:List Int),x=.ref a∧SqI H1 a ns∧ns.length≤300∧(bI ns).length < N∧∀ l:Addr,H1 l=none→Q (.ref l) (upd H1 l (.lst ((bI ns).map V.int)))) I (by
  refine cast (congrArg (te σ H) ?_) h
  funext y H2
  refine propext ⟨fun q=>⟨y,rfl,q⟩,fun ⟨y',e',q⟩=>?_⟩
  cases e'
  exact q)
 refine Call_ (b7 I hgt hmt hbt (PyProof.Rows.callWith_type1 (thn hA fun us s1 ⟨vs,H1,I1,r1,x,e1,a,ns,e2,hx,hn,hb,q⟩=>?_) hs rfl))
 subst e1 e2
 obtain ⟨u,rfl,rx⟩:=vals1 r1
 cases rx
 obtain ⟨its,k,hI,pl⟩:=hx.at I1
 have hA0:X.A.handled=none:=I.ok.hd hc
 refine pL hA0 k pl (by simpa using hI) hn fun h' tk ks S1 S2 S3=>?_
 refine wpAny_pure ?_
 have hnd:ks.Nodup:=by obtain ⟨_,_,_,_,_,_,_,_,_,_,_,_,_,_,_,_,g,_⟩:=S1;exact g
 have lk:=m8 hnd S2
 refine uX T hN hA0 S1 (by omega) fun h2 tk2 out ms l c k1 k2 k3 k4 k5 k6 k7=>?_
 have em:ms=bI ns:=mh (fun x=>by rw [k6,S2]) k5
 subst em
 refine ⟨.ref l,_,I1.laid (t':=tk2) (o:=.lst ((bI ns).map V.int)) (fun b o e=>k1 b o (S3 b o e)) (Nat.le_of_lt k2) ⟨?_,out.toList,c,eg k4,?_⟩,rfl,q l (I1.hok.fresh (Nat.le_of_lt k2))⟩
 ·rw [List.length_map]
  exact Nat.le_of_lt (di (by omega))
 ·simpa [seqObj] using k3
theorem DT {e:Expr} {te:TE} {p1 p2 pos1 pos2:Pos} (hc:X.calm=true) (hgs:Gl X "len") (hms:X.mg "len"=none) (hgt:Gl X "set") (hmt:X.mg "set"=none) (hbs:bootBuiltins "len"=some (.builtin "len")) (hbt:bootBuiltins "set"=some (.type "set")) (he:PE X e te)
  (hs:starEach [e] X.env=(false,eval e X.env) :: starEach [] X.env:=by rfl)
  (hs2:starEach [Expr.Call (.Name "set" p2) [e] [] pos2] X.env=(false,eval (Expr.Call (.Name "set" p2) [e] [] pos2) X.env) :: starEach [] X.env:=by rfl) :
  PE X (.Call (.Name "len" p1) [.Call (.Name "set" p2) [e] [] pos2] [] pos1) (HZ te):=by
 intro pins s σ H Q I h
 refine wpAny_Call_Name_kw (b7 I hgs hms hbs ?_)
 rw [hs2]
 refine Calls.callWith_builtin (by show (false || (backTo pos1 (starEach ([]:List Expr) X.env)).any (·.1))=false;rfl) (Calls.evalArgs_plain ?_)
 show wpAny _ _ (spliced ((false,eval (Expr.Call (.Name "set" p2) [e] [] pos2) X.env) :: backTo pos1 (starEach [] X.env))) _ _ s
 refine Calls.spliced_cons ?_
 have hA:=(dz he fB hs) pos2 pins s σ H (fun vs H1=>∃ x,vs=[x]∧∃ (a:Addr) (ns:List Int),x=.ref a∧SqI H1 a ns∧ns.length≤300∧Q (.int (bI ns).length) H1) I (by
  refine cast (congrArg (te σ H) ?_) h
  funext y H2
  refine propext ⟨fun q=>⟨y,rfl,q⟩,fun ⟨y',e',q⟩=>?_⟩
  cases e'
  exact q)
 refine Call_ (b7 I hgt hmt hbt (PyProof.Rows.callWith_type1 (thn hA fun us s1 ⟨vs,H1,I1,r1,x,e1,a,ns,e2,hx,hn,q⟩=>?_) hs rfl))
 subst e1 e2
 obtain ⟨u,rfl,rx⟩:=vals1 r1
 cases rx
 obtain ⟨its,k,hI,pl⟩:=hx.at I1
 have hA0:X.A.handled=none:=I.ok.hd hc
 refine pL hA0 k pl (by simpa using hI) hn fun h' tk ks S1 S2 S3=>?_
 refine wpAny_pure ?_
 obtain ⟨o,es,ep,t,pl',g1,g2,g3,g4,g5,g6,g7,g8,⟨g9,g10,g11⟩,g12,g13,g14,g15⟩:=S1
 have lks:es.size=ks.length:=by
  have:=cz g12
  rw [List.length_map,Array.length_toList] at this
  exact this
 refine call_len_set (s:=⟨h',s1.gens,s1.drawn,tk,s1.os⟩) g1 g2 g3 (fits_of g5 (by rw [g8,lks];simpa using g10) (by omega)) (by omega) ?_
 rw [lks,m8 g14 S2]
 exact ⟨.int _,H1,I1.kept (t':=tk+1+1) S3,⟨_,rfl⟩,q⟩
def rL (N:Nat) (x:Vl) (S:Sto):R Vl:=match (bN x S).bind intsOf with
 | some ns=>if ns.length≤300∧(bI ns).length < N then .ok (.d (.lst ((bI ns).map D.int))) S else .bad
 | none=>.bad
def oLS (x:Vl) (S:Sto):R Vl:=match (bN x S).bind intsOf with
 | some ns=>if ns.length≤300 then .ok (.d (.int (bI ns).length)) S else .bad
 | none=>.bad
theorem yO {K:PySem.W.Frag} {mg:Str→Option Value} {μ:Nat→Addr} {S:Sto} {H:Hp} {v:V} {x:Vl} {ns:List Int} (hr:HR μ S H) (r:aP K mg μ S H v x) (e:(bN x S).bind intsOf=some ns):∃ a,v=.ref a∧SqI H a ns:=by
 obtain ⟨ds,e1,e2⟩:=Option.bind_eq_some_iff.mp e
 obtain ⟨a,us,rfl,ha,rr⟩:=gT hr r e1
 rw [j6 e2] at rr
 rw [av.n6 rr] at ha
 exact ⟨a,rfl,ha⟩
theorem DJ {N:Nat} (T:kC N) (hN:N≤301) {e:Expr} {xa:XE} {p1 p2 pos1 pos2:Pos} [n:NS e] (hc:X.calm=true) (hgs:Gl X "sorted") (hms:X.mg "sorted"=none) (hgt:Gl X "set") (hmt:X.mg "set"=none) (hbs:bootBuiltins "sorted"=some (.builtin "sorted")) (hbt:bootBuiltins "set"=some (.type "set")) (he:RE X WE e xa)
  (hs2:starEach [Expr.Call (.Name "set" p2) [e] [] pos2] X.env=(false,eval (Expr.Call (.Name "set" p2) [e] [] pos2) X.env) :: starEach [] X.env:=by rfl) :
  RE X WE (.Call (.Name "sorted" p1) [.Call (.Name "set" p2) [e] [] pos2] [] pos1) (xUn (rL N) xa):=
 ⟨(Dp T hN hc hgs hms hgt hmt hbs hbt he.h (n.eq _ X.env) hs2).weak fun σ H Q ⟨μ,S,τ,hr,sr,p⟩=>⟨μ,S,τ,hr,sr,p.bind fun v x S1 μ1 H1 st1 r1 p1=>by
  unfold rL at p1
  split at p1
  ·rename_i ns e1
   split at p1
   ·rename_i hb
    obtain ⟨a,rfl,sq⟩:=yO st1.hr r1 e1
    exact ⟨a,ns,rfl,sq,hb.1,hb.2,fun l hl=>p1.kn st1.hr (av.ints _) l hl⟩
   ·exact p1.elim
  ·exact p1.elim⟩⟩
theorem Hc {e:Expr} {xa:XE} {p1 p2 pos1 pos2:Pos} [n:NS e] (hc:X.calm=true) (hgs:Gl X "len") (hms:X.mg "len"=none) (hgt:Gl X "set") (hmt:X.mg "set"=none) (hbs:bootBuiltins "len"=some (.builtin "len")) (hbt:bootBuiltins "set"=some (.type "set")) (he:RE X WE e xa)
  (hs2:starEach [Expr.Call (.Name "set" p2) [e] [] pos2] X.env=(false,eval (Expr.Call (.Name "set" p2) [e] [] pos2) X.env) :: starEach [] X.env:=by rfl) :
  RE X WE (.Call (.Name "len" p1) [.Call (.Name "set" p2) [e] [] pos2] [] pos1) (xUn oLS xa):=
 ⟨(DT hc hgs hms hgt hmt hbs hbt he.h (n.eq _ X.env) hs2).weak fun σ H Q ⟨μ,S,τ,hr,sr,p⟩=>⟨μ,S,τ,hr,sr,p.bind fun v x S1 μ1 H1 st1 r1 p1=>by
  unfold oLS at p1
  split at p1
  ·rename_i ns e1
   split at p1
   ·obtain ⟨a,rfl,sq⟩:=yO st1.hr r1 e1
    exact ⟨a,ns,rfl,sq,‹_›,p1.here st1.hr (Rep.int _)⟩
   ·exact p1.elim
  ·exact p1.elim⟩⟩
end
def cm (k:Nat):List D→List Vl
 | []=>[]
 | x :: xs=>.d (.tup [.int k,x]) :: cm (k+1) xs
theorem fI:∀ (k:Nat) (xs:List D),(cm k xs).length=xs.length
 | _,[]=>rfl
 | k,x :: xs=>by simp [cm,fI (k+1) xs]
theorem dh:∀ (k:Nat) (xs:List D) (i:Nat),(cm k xs)[i]?=(xs[i]?).map fun x=>Vl.d (.tup [.int ((k+i:Nat):Int),x])
 | _,[],_=>by simp [cm]
 | k,x :: xs,0=>by simp [cm]
 | k,x :: xs,i+1=>by
  simp only [cm,List.getElem?_cons_succ,dh (k+1) xs i]
  congr 1
  funext z
  rw [show k+1+i=k+(i+1) by omega]
def AH (e:XE):XI:=fun τ S=>(e τ S).bind fun z S1=>match z with
 | .d (.lst xs)=>.ok ⟨cm 0 xs,none⟩ S1
 | _=>.bad
section
variable {X:Cx} {WE:WX} {K:PySem.W.Frag} {mg:Str→Option Value} {μ:Nat→Addr} {S:Sto} {H:Hp}
theorem AU {a:Addr} {vs:List V} {xs:List D} (g:vh μ S H a=some (.lst vs)) (rs:av (vh μ S H) vs xs) (hz:vs.length≤sizeLine):eK K mg μ S H (Ite K a) ⟨cm 0 xs,none⟩ where
 ok:=True.intro
 len:=by simp only [fI];rw [← rs.length];exact hz
 go:=fun i z μ' S' H' st _ e=>by
  rw [dh] at e
  cases q:xs[i]? with
  | none=>rw [q] at e;cases e
  | some x=>
   obtain ⟨u,e2,_⟩:=rs.get' q
   exact ⟨vs,u,SqL.of (aC (st.vis _ _ g)).2,e2⟩
 yld:=fun i z μ' S' H' u H2 st _ e y=>by
  obtain ⟨p,w,hp,rfl,rfl,y⟩:=y
  rw [dh] at e
  cases q:xs[i]? with
  | none=>rw [q] at e;cases e
  | some x=>
   rw [q] at e
   cases e
   have e2:=y vs (SqL.of (aC (st.vis _ _ g)).2)
   obtain ⟨x',e3,r⟩:=rs.get e2
   rw [q] at e3;cases e3
   have st2:=Step.new st.hr hp (.tup [.int i,w])
   refine ⟨st2,Rep.tup (bF bO (st.hr.nal hp)) (.cons ?_ (.cons (Rep.mono (st.trans st2).vis r) .nil))⟩
   rw [Nat.zero_add]
   exact .int _
 stop:=fun i μ' S' H' st _ hi=>⟨vs,SqL.of (aC (st.vis _ _ g)).2,by rw [rs.length];rw [fI] at hi;exact Nat.le_of_eq hi⟩
end
section
variable {X:Cx} {WE:WX}
theorem zW {es:List Expr} {kk:Nat} {tp:Pos} {l:Expr} {xl:XE} {p pos:Pos} (hg:Gl X "enumerate") (hm:X.mg "enumerate"=none) (hl:RE X WE l xl) (hb:bootBuiltins "enumerate"=some (.type "enumerate"):=by decide +kernel)
  (hs:starEach [l] X.env=[(false,eval l X.env)]:=by rfl):RI X WE (.Tuple es kk tp) (.Call (.Name "enumerate" p) [l] [] pos) (AH xl):=⟨by
 intro pins s σ H R I h
 obtain ⟨μ,S,τ,hr,sr,pp⟩:=h
 refine Call_ (b7 I hg hm hb (PyProof.Rows.callWith_type1 (thn ((dz hl.h fB hs) pos pins s σ H (fun vs H1=>∃ x,vs=[x]∧∃ μ1 S1 z,HR μ1 S1 H1∧aP X.K X.mg μ1 S1 H1 x z∧aK (eK X.K X.mg) WE μ1 S1 H1 (match z with
   | .d (.lst xs)=>.ok ⟨cm 0 xs,none⟩ S1
   | _=>.bad) R) I ?_) fun us s1 ⟨vs,H1,I1,r1,q1⟩=>?_) hs rfl))
 ·exact ⟨μ,S,τ,hr,sr,pp.bind fun v x S1 μ1 H1 st1 r1 p1=>⟨v,rfl,μ1,S1,x,st1.hr,r1,p1⟩⟩
 ·obtain ⟨x,e,μ1,S1,z,hr1,rz,p1⟩:=q1
  subst e
  obtain ⟨u,rfl,ru⟩:=vals1 r1
  split at p1
  ·cases (show Rep (vh μ1 S1 H1) x (.lst _) from rz) with
   | @lst a us _ g rs=>
    cases ru
    have hq:SqL X.K H1 a us:=SqL.of (aC g).2
    obtain ⟨its,rv,pl,hz⟩:=I1.list hq
    have q:=p1.here hr1 (AU g rs hz)
    refine call_enumerate_list pl.isList fun h' he hit hsz hk=>?_
    refine wpAny_pyIter_enum (s:={ s1 with heap:=h' }) he ?_
    have I2:Inv X pins σ H1 { s1 with heap:=h' }:=I1.kept (t':=s1.toks) hk
    refine ⟨s1.heap.objs.size+1,[s1.heap.objs.size+1,s1.heap.objs.size],_,_,H1,rfl,I2,xr a _ _ (Nat.succ_ne_self _),⟨⟨_,he⟩,hit⟩,fun b hb=>?_,q⟩
    have hle:s1.heap.objs.size≤b:=by
     rcases List.mem_cons.mp hb with z | z
     ·rw [z];exact Nat.le_succ _
     ·rw [List.mem_singleton.mp z];exact Nat.le_refl _
    exact I1.jk hle (I1.hok.fresh hle)
  ·exact p1.elim⟩
def qB (x:Vl) (lo hi:Option Int) (S:Sto):R Vl:=match x with
 | .sc ns=>.ok (.d (.lst (fT (ns.map D.int) lo hi))) S
 | _=>.bad
theorem wb {e:Expr} {lo hi:Option Expr} {xa:XE} {xl xh:XO} {p2 pos:Pos} (he:RE X WE e xa) (hl:RO X WE lo xl) (hh:RO X WE hi xh):RE X WE (.Subscript e (.Slice lo hi none p2) pos) (xSl qB xa xl xh):=
 ⟨(An BS he.h hl.h hh.h).weak fun σ H Q ⟨μ,S,τ,hr,sr,p⟩=>⟨μ,S,τ,hr,sr,p.bind fun v x S1 μ1 H1 st1 r1 p1=>⟨μ1,S1,τ,st1.hr,sr.step st1,p1.bind fun i i' S2 μ2 H2 st2 r2 p2=>⟨μ2,S2,τ,st2.hr,sr.step (st1.trans st2),p2.bind fun j j' S3 μ3 H3 st3 r3 p3=>by
  cases (show i=i' from r2)
  cases (show j=j' from r3)
  have rv:=r1.step (st2.trans st3)
  unfold qB at p3
  split at p3
  ·rename_i ns
   obtain ⟨l,rfl,hq⟩:=rv
   exact ⟨l,_,rfl,hq.mono dy,fun q hq=>p3.kn st3.hr (zF (av.ints ns) i j) q hq⟩
  ·exact p3.elim⟩⟩⟩⟩
theorem bC {sts:List Stmt}:RB X WE sts bE:=⟨fun _ _ _ _ _ _ ⟨_,_,_,_,_,p⟩=>p.elim⟩
end
def Df (K:PySem.W.Frag) (mg:Str→Option Value) (x:Str) (st:Stmt):Prop:=∃ (f:Addr) (fd:FuncData),Fun K x x st f fd∧mg x=some (.ref f)
theorem HF {K:PySem.W.Frag} {h:Heap} {mg:Str→Option Value} {x:Str} {st:Stmt} {f:Addr} {oc:Value} {od an:Option Addr} {osl:Array (Option Value)} {kV doc pm cdv ct:Value} (X:K.In h) (G:h.Ns mainGlobals mg) (a:PySem.W.nsIn K mainGlobals x=some (some (.ref f)))
  (l:K.lookup f=some ⟨oc,od,.func (PySem.W.fnOf x x (iP st) (el st) (bP st) .none kV doc pm an cdv ct),osl⟩) (c:PySem.W.codeIn K cdv x=true) (k:PySem.W.keepIn K (.ref f)=true):Df K mg x st:=⟨f,_,FV l c k,PySem.W.mg_of X G a⟩
theorem bg {K:PySem.W.Frag} {mg:Str→Option Value} {P:Program} {w:World} {x:Str} {st:Stmt} {ps:List Str} {lev:Nat} {k n:Nat} {m:XS} {M:XF} (N:List Str) (F:Df K mg x st)
    (hb:∀ (base:Heap) (f:Addr) (cdv:Value) (A:Around) (outer:List Env) (s:Shared) (H:Hp) (E:XK),cn lev (A.deeper (envOfC x (bP st) s.heap.objs.size f cdv))→LQ (bP st) N→RB (kE CX0 P w K mg base N x (bP st) f cdv A outer s H E).nox W0 (el st) m)
    (hM:M=aQ k n m:=by rfl) (hk:ps.length=k:=by rfl) (hn:N.length=n:=by rfl) (Sc:iK N ps (bP st):=by exact ⟨rfl,rfl,rfl,by decide +kernel,rfl,by decide +kernel,by decide +kernel⟩)
    (hbd:∀ (kV doc pm:Value) (an:Option Addr) (cdv ct:Value) (us:List Value),us.length=ps.length→bindArgs (PySem.W.fnOf x x (iP st) (el st) (bP st) .none kV doc pm an cdv ct) ⟨us,[]⟩=pure (ps.zip us):=by
      intro _ _ _ _ _ _ us hl
      rcases us with _ | ⟨a,_ | ⟨b,_ | ⟨c,_ | ⟨d,_ | ⟨e,_ | ⟨f,us⟩⟩⟩⟩⟩⟩<;>first | (simp at hl;done) | rfl):OkE P w K mg (lev+1) x ps M:=by
  subst hM hk hn
  obtain ⟨f,fd,F,hm⟩:=F
  refine ⟨f,fd,hm,F.kp,?_,fun base=>I_ F Sc fun cdv A outer s H E hr=>hb base f cdv A outer s H E hr ⟨Sc.nd⟩⟩
  obtain ⟨oc,od,kV,doc,pm,an,cdv,ct,osl,rfl,lk,hcd⟩:=F.ex
  exact hbd kV doc pm an cdv ct
theorem aE {α β:Type} {a:α} {S:Sto} {f:α→Sto→R β}:(R.ok a S).bind f=f a S:=rfl
theorem HV {i:Nat} {z:Vl} {τ:Nv} {S:Sto}:gNm i z τ S=.ok (τ.set i (some z)) S:=rfl
theorem jj {S S':Sto} {z:Vl} {τ:Nv}:leave S (.ok (.rt z,τ) S')=out S z S':=rfl
theorem jq {S S':Sto} {τ:Nv}:leave S (.ok (.nx,τ) S')=out S (.d .non) S':=rfl
theorem gO {S S':Sto} {x:D}:out S (.d x) S'=.ok (.d x) (S'.take S.length):=rfl
theorem nu {k n:Nat} {b:XS} {us:List Vl} {S:Sto} (h:us.length=k):aQ k n b us S=leave S (b (us.map some++List.replicate (n - k) none) S):=by unfold aQ;rw [if_pos h]
open Classical in
theorem rn {g:XG} {b:XS} {gd:Option (Nat×Ob)}:∀ {items:List Vl} {τ:Nv} {S:Sto} (I:Nat→Nv→Sto→Prop),I 0 τ S →
  (∀ i z τ S,items[i]?=some z→I i τ S→∃ τ1 S1 fl τ2 S2,g z τ S=.ok τ1 S1∧b τ1 S1=.ok (fl,τ2) S2∧(fl=.nx∨fl=.ct)∧gok gd S2∧I (i+1) τ2 S2) →
  ∃ τ' S',bU g b gd items τ S=.ok (.nx,τ') S'∧I items.length τ' S'
 | [],τ,S,I,h0,_=>⟨τ,S,rfl,h0⟩
 | z :: zs,τ,S,I,h0,hs=>by
  obtain ⟨τ1,S1,fl,τ2,S2,e1,e2,hf,hg,hI⟩:=hs 0 z τ S rfl h0
  obtain ⟨τ',S',e3,h3⟩:=rn (items:=zs) (τ:=τ2) (S:=S2) (fun i=>I (i+1)) hI fun i z' τ S hz hi=>hs (i+1) z' τ S (by simpa using hz) hi
  refine ⟨τ',S',?_,h3⟩
  rw [bU,e1,aE,e2,aE]
  rcases hf with rfl | rfl
  ·dsimp only
   rw [if_pos hg];exact e3
  ·dsimp only
   rw [if_pos hg];exact e3
theorem yf {it:XI} {t:XT} {e:XE} {τ:Nv} {S S1:Sto} {items:List Vl} (hit:it τ S=.ok ⟨items,none⟩ S1) (J:Nat→List D→Sto→Prop) (h0:J 0 [] S1)
  (hs:∀ i z acc Q,items[i]?=some z→J i acc Q→Q.length=S1.length→∃ b Q1,t (some z :: τ) (Q++[.lst acc])=.ok b (Q1++[.lst acc])∧Q1.length=S1.length ∧
   (b=true→∃ x Q2,e (some z :: τ) (Q1++[.lst acc])=.ok (.d x) (Q2++[.lst acc])∧Q2.length=S1.length∧J (i+1) (acc++[x]) Q2)∧(b=false→J (i+1) acc Q1)) :
  ∃ acc Q,xLC it 1 (gNm 0) t e τ S=.ok (.d (.lst acc)) Q∧Q.length=S1.length∧J items.length acc Q:=by
 have key:∀ (zs:List Vl) (i:Nat) (acc:List D) (o:Option Vl) (Q:Sto),(∀ j,zs[j]?=items[i+j]?)→J i acc Q→Q.length=S1.length→∃ acc' Q',c7 (gNm 0) t e S1.length none zs acc (o :: τ) (Q++[.lst acc])=.ok acc' (Q'++[.lst acc'])∧Q'.length=S1.length∧J (i+zs.length) acc' Q':=by
  intro zs
  induction zs with
  | nil=>
   intro i acc o Q _ hJ hl
   refine ⟨acc,Q,?_,hl,hJ⟩
   rw [c7,if_pos]
   rw [← hl,List.getElem?_append_right (Nat.le_refl _)]
   simp
  | cons z zs ih=>
   intro i acc o Q hz hJ hl
   have hz0:items[i]?=some z:=by
    have:=hz 0
    simpa using this.symm
   have hz1:∀ j,zs[j]?=items[i+1+j]?:=fun j=>by
    have:=hz (j+1)
    rw [show i+1+j=i+(j+1) by omega]
    simpa using this
   obtain ⟨b,Q1,e1,l1,ht,hf⟩:=hs i z acc Q hz0 hJ hl
   rw [c7,HV,aE,show (o :: τ).set 0 (some z)=some z :: τ from rfl,e1,aE]
   cases b with
   | true=>
    obtain ⟨x,Q2,e2,l2,hJ2⟩:=ht rfl
    rw [if_pos rfl,e2,aE]
    dsimp only
    have hn:(Q2++[Ob.lst acc])[S1.length]?=some (.lst acc):=by
     rw [← l2,List.getElem?_append_right (Nat.le_refl _)];simp
    rw [if_pos ⟨hn,True.intro⟩]
    have hset:(Q2++[Ob.lst acc]).set S1.length (.lst (acc++[x]))=Q2++[.lst (acc++[x])]:=by
     rw [← l2,List.set_append_right _ _ (Nat.le_refl _)];simp
    rw [hset]
    obtain ⟨acc',Q',e3,l3,h3⟩:=ih (i+1) (acc++[x]) (some z) Q2 hz1 hJ2 l2
    exact ⟨acc',Q',e3,l3,by rw [show i+(z :: zs).length=i+1+zs.length by simp;omega];exact h3⟩
   | false=>
    rw [if_neg Bool.false_ne_true,if_pos (show gok none (Q1++[Ob.lst acc]) from True.intro)]
    obtain ⟨acc',Q',e3,l3,h3⟩:=ih (i+1) acc (some z) Q1 hz1 (hf rfl) l1
    exact ⟨acc',Q',e3,l3,by rw [show i+(z :: zs).length=i+1+zs.length by simp;omega];exact h3⟩
 obtain ⟨acc,Q,e1,l1,h1⟩:=key items 0 [] none S1 (fun j=>by rw [Nat.zero_add]) h0 rfl
 refine ⟨acc,Q,?_,l1,by rw [Nat.zero_add] at h1;exact h1⟩
 show (it τ S).bind _=_
 rw [hit,aE]
 dsimp only
 rw [show List.replicate 1 (none:Option Vl)++τ=none :: τ from rfl,e1,aE]
 unfold jr
 rw [if_pos (by simp [l1]),← l1,List.take_left]
theorem CS {it:XI} {t:XT} {e:XE} {τ:Nv} {S S1:Sto} {items:List Vl} (hit:it τ S=.ok ⟨items,none⟩ S1) (f:Vl→Option D)
  (hs:∀ z∈items,∀ S:Sto,(∀ x,f z=some x→t (some z :: τ) S=.ok true S∧e (some z :: τ) S=.ok (.d x) S)∧(f z=none→t (some z :: τ) S=.ok false S)) :
  xLC it 1 (gNm 0) t e τ S=.ok (.d (.lst (items.filterMap f))) S1:=by
 obtain ⟨acc,Q,e1,l1,h1⟩:=yf (t:=t) (e:=e) hit (fun i acc Q=>acc=(items.take i).filterMap f∧Q=S1) ⟨rfl,rfl⟩ (by
  rintro i z acc Q hz ⟨rfl,rfl⟩ _
  have hm:=List.mem_of_getElem? hz
  have ht:items.take (i+1)=items.take i++[z]:=by rw [List.take_add_one,hz];rfl
  obtain ⟨h1,h2⟩:=hs z hm (Q++[.lst ((items.take i).filterMap f)])
  cases q:f z with
  | some x=>
   obtain ⟨h3,h4⟩:=h1 x q
   refine ⟨true,Q,h3,rfl,fun _=>⟨x,Q,h4,rfl,?_,rfl⟩,fun z=>(by cases z)⟩
   rw [ht,List.filterMap_append]
   simp [q]
  | none=>
   refine ⟨false,Q,h2 q,rfl,fun z=>(by cases z),fun _=>⟨?_,rfl⟩⟩
   rw [ht,List.filterMap_append]
   simp [q])
 obtain ⟨rfl,rfl⟩:=h1
 rw [List.take_length] at e1
 exact e1
theorem xx {it:XI} {e:XE} {τ:Nv} {S S1:Sto} {items:List Vl} (hit:it τ S=.ok ⟨items,none⟩ S1) (f:Vl→D) (hs:∀ z∈items,∀ S:Sto,e (some z :: τ) S=.ok (.d (f z)) S) :
  xLC it 1 (gNm 0) (fun _ S=>.ok true S) e τ S=.ok (.d (.lst (items.map f))) S1:=by
 have:=CS (t:=fun _ S=>.ok true S) (e:=e) hit (fun z=>some (f z)) fun z hz S=>⟨fun x hx=>⟨rfl,by cases hx;exact hs z hz S⟩,fun h=>by cases h⟩
 rw [this]
 congr 4
 rw [List.filterMap_eq_map']
end L2
namespace L2
section
variable {n:Nat} {b:XS} {x y z u v:Vl} {S:Sto}
theorem b5:aQ 1 n b [x] S=leave S (b ([some x]++List.replicate (n - 1) none) S):=nu rfl
theorem cZ:aQ 2 n b [x,y] S=leave S (b ([some x,some y]++List.replicate (n - 2) none) S):=nu rfl
theorem dk:aQ 3 n b [x,y,z] S=leave S (b ([some x,some y,some z]++List.replicate (n - 3) none) S):=nu rfl
theorem nK:aQ 4 n b [x,y,z,u] S=leave S (b ([some x,some y,some z,some u]++List.replicate (n - 4) none) S):=nu rfl
theorem ES:aQ 5 n b [x,y,z,u,v] S=leave S (b ([some x,some y,some z,some u,some v]++List.replicate (n - 5) none) S):=nu rfl
end
end L2
theorem L2.ae {α:Sort _} {a b:α} (h:a=b):a=b:=h
namespace L2
open PySem PySem.Spec PyProof.Rows
def Fm (f:Vl→Vl→Sto→R Vl) (r:R Vl) (b:XE) (τ:Nv):R Vl:=r.bind fun x S1=>(b τ S1).bind fun y S2=>f x y S2
def A0 (f:Vl→Vl→Sto→R Vl) (x:Vl) (r:R Vl):R Vl:=r.bind fun y S2=>f x y S2
def un1 (f:Vl→Sto→R Vl) (r:R Vl):R Vl:=r.bind fun x S1=>f x S1
def ch3 (r:R Vl) (f:Vl→Vl→Sto→R Vl) (y:Vl) (c:XE) (τ:Nv):R Vl:=r.bind fun z S3=>match z with
 | .d (.bl k)=>if k=true then (c τ S3).bind fun w S4=>f y w S4 else .ok (.d (.bl false)) S3
 | _=>.bad
def ch2 (f f2:Vl→Vl→Sto→R Vl) (x:Vl) (r:R Vl) (c:XE) (τ:Nv):R Vl:=r.bind fun y S2=>ch3 (f x y S2) f2 y c τ
def ch1 (f f2:Vl→Vl→Sto→R Vl) (r:R Vl) (b c:XE) (τ:Nv):R Vl:=r.bind fun x S1=>ch2 f f2 x (b τ S1) c τ
def t1 (r:R Vl):R Bool:=r.bind asB
def tr1 (r:R Vl):R Bool:=r.bind tru
def yX (r:R Bool) (b:XT) (τ:Nv):R Bool:=r.bind fun c S1=>if c=true then b τ S1 else .ok false S1
def or1 (r:R Bool) (b:XT) (τ:Nv):R Bool:=r.bind fun c S1=>if c=true then .ok true S1 else b τ S1
def E_ (r:R Bool):R Bool:=r.bind fun c S1=>.ok (!c) S1
def vR (r:R Vl) (b:XE) (τ:Nv):R Vl:=r.bind fun x S1=>(asB x S1).bind fun c S2=>if c=true then b τ S2 else .ok (.d (.bl false)) S2
def zv (r:R Vl) (b:XE) (τ:Nv):R Vl:=r.bind fun x S1=>(asB x S1).bind fun c S2=>if c=true then .ok (.d (.bl true)) S2 else b τ S2
def Bt (r:R Vl):R Vl:=r.bind fun x S1=>(asB x S1).bind fun c S2=>.ok (.d (.bl (!c))) S2
def AB (r:R Bool) (a b:XE) (τ:Nv):R Vl:=r.bind fun k S1=>if k=true then a τ S1 else b τ S1
def co2 (x:Vl) (r:R (List Vl)):R (List Vl):=r.bind fun xs S2=>.ok (x :: xs) S2
def co1 (r:R Vl) (t:XA) (τ:Nv):R (List Vl):=r.bind fun x S1=>co2 x (t τ S1)
def n1 (f:List Vl→Sto→R Vl) (r:R (List Vl)):R Vl:=r.bind f
def c1 (F:XF) (r:R (List Vl)):R Vl:=r.bind fun us S1=>noX (F us S1)
def fz1 (r:R Vl):R Vl:=r.bind frz
def p1 (r:R Vl):R (Option Int):=r.bind fun x S1=>match x with
 | .d (.int i)=>.ok (some i) S1
 | _=>.bad
def sl3 (f:Vl→Option Int→Option Int→Sto→R Vl) (x:Vl) (i:Option Int) (r:R (Option Int)):R Vl:=r.bind fun j S3=>f x i j S3
def sl2 (f:Vl→Option Int→Option Int→Sto→R Vl) (x:Vl) (r:R (Option Int)) (h:XO) (τ:Nv):R Vl:=r.bind fun i S2=>sl3 f x i (h τ S2)
def sl1 (f:Vl→Option Int→Option Int→Sto→R Vl) (r:R Vl) (l h:XO) (τ:Nv):R Vl:=r.bind fun x S1=>sl2 f x (l τ S1) h τ
def lm4 (f:Nat→List D→D→Sto→R Vl) (n:Nat) (o:Option Ob) (z:D) (S:Sto):R Vl:=match o with
 | some (.lst xs)=>f n xs z S
 | _=>.bad
def lm3 (f:Nat→List D→D→Sto→R Vl) (n:Nat) (r:R Vl):R Vl:=r.bind fun y S2=>match y with
 | .d z=>lm4 f n S2[n]? z S2
 | _=>.bad
def lm2 (f:Nat→List D→D→Sto→R Vl) (n:Nat) (o:Option Ob) (e:XE) (τ:Nv) (S:Sto):R Vl:=match o with
 | some (.lst _)=>lm3 f n (e τ S)
 | _=>.bad
def lm1 (f:Nat→List D→D→Sto→R Vl) (r:R Vl) (e:XE) (τ:Nv):R Vl:=r.bind fun x S1=>match x with
 | .r n=>lm2 f n S1[n]? e τ S1
 | _=>.bad
def sq1 (r:R (Fl×Nv)) (b:XS):R (Fl×Nv):=r.bind fun q S1=>match q.1 with
 | .nx=>b q.2 S1
 | _=>.ok q S1
def ex1 (r:R Vl) (τ:Nv):R (Fl×Nv):=r.bind fun _ S1=>.ok (.nx,τ) S1
def rt1 (r:R Vl) (τ:Nv):R (Fl×Nv):=r.bind fun z S1=>.ok (.rt z,τ) S1
def if1 (r:R Bool) (a b:XS) (τ:Nv):R (Fl×Nv):=r.bind fun k S1=>if k=true then a τ S1 else b τ S1
def as2 (r:R Nv):R (Fl×Nv):=r.bind fun τ1 S2=>.ok (.nx,τ1) S2
def as1 (r:R Vl) (g:XG) (τ:Nv):R (Fl×Nv):=r.bind fun z S1=>as2 (g z τ S1)
def gc1 (r:R Nv) (gs:XGs) (zs:List Vl):R Nv:=r.bind fun τ1 S1=>gs zs τ1 S1
def gs3 (r:R Unit) (τ:Nv):R Nv:=r.bind fun _ S3=>.ok τ S3
def gs2 (x:Vl) (r:R Vl) (f:Vl→Vl→Vl→Sto→R Unit) (z:Vl) (τ:Nv):R Nv:=r.bind fun y S2=>gs3 (f x y z S2) τ
def gs1 (r:R Vl) (i:XE) (f:Vl→Vl→Vl→Sto→R Unit) (z:Vl) (τ:Nv):R Nv:=r.bind fun x S1=>gs2 x (i τ S1) f z τ
noncomputable def fo1 (r:R Its) (g:XG) (b:XS) (τ:Nv):R (Fl×Nv):=r.bind fun I S1=>bU g b I.gd I.items τ S1
def is2 (n:Nat) (o:Option Ob) (S:Sto):R Its:=match o with
 | some (.lst xs)=>.ok ⟨xs.map Vl.d,some (n,.lst xs)⟩ S
 | _=>.bad
def is1 (r:R Vl):R Its:=r.bind fun z S1=>match z with
 | .d (.tup xs)=>.ok ⟨xs.map Vl.d,none⟩ S1
 | .d (.lst xs)=>.ok ⟨xs.map Vl.d,none⟩ S1
 | .r n=>is2 n S1[n]? S1
 | _=>.bad
def ir1 (r:R (List Vl)):R Its:=r.bind fun zs S1=>match zs with
 | [.d (.int j)]=>if -100000≤j∧j≤100000 then .ok ⟨(List.range j.toNat).map fun i=>Vl.d (.int (i:Nat)),none⟩ S1 else .bad
 | _=>.bad
def ir2 (r:R (List Vl)):R Its:=r.bind fun zs S1=>match zs with
 | [.d (.int i),.d (.int j)]=>if (-100000≤i∧i≤100000)∧-100000≤j∧j≤100000 then .ok ⟨(List.range (j - i).toNat).map fun k=>Vl.d (.int (i+(k:Nat))),none⟩ S1 else .bad
 | _=>.bad
def ie1 (r:R Vl):R Its:=r.bind fun z S1=>match z with
 | .d (.lst xs)=>.ok ⟨cm 0 xs,none⟩ S1
 | _=>.bad
theorem Bm {v:Vl} {τ:Nv} {S:Sto}:aa 0 (some v :: τ) S=.ok v S:=ae rfl
theorem A5 {n:Nat} {o:Option Vl} {τ:Nv} {S:Sto}:aa (n+1) (o :: τ) S=aa n τ S:=ae rfl
theorem D3 {x:D} {τ:Nv} {S:Sto}:xC x τ S=.ok (.d x) S:=ae rfl
theorem Ga {x:Str} {τ:Nv} {S:Sto}:xFn x τ S=.ok (.fn x) S:=ae rfl
theorem GF {f:Vl→Vl→Sto→R Vl} {a b:XE} {τ:Nv} {S:Sto}:xOp f a b τ S=Fm f (a τ S) b τ:=ae rfl
theorem DF {f:Vl→Vl→Sto→R Vl} {b:XE} {τ:Nv} {S1:Sto} {x:Vl}:Fm f (.ok x S1) b τ=A0 f x (b τ S1):=ae rfl
theorem Eh {f:Vl→Vl→Sto→R Vl} {S1:Sto} {x y:Vl}:A0 f x (.ok y S1)=f x y S1:=ae rfl
theorem Gp {u:Vl→Sto→R Vl} {a:XE} {τ:Nv} {S:Sto}:xUn u a τ S=un1 u (a τ S):=ae rfl
theorem G8 {u:Vl→Sto→R Vl} {S1:Sto} {x:Vl}:un1 u (.ok x S1)=u x S1:=ae rfl
theorem AZ {f f2:Vl→Vl→Sto→R Vl} {a b c:XE} {τ:Nv} {S:Sto}:dJ f f2 a b c τ S=ch1 f f2 (a τ S) b c τ:=ae rfl
theorem GQ {f f2:Vl→Vl→Sto→R Vl} {b c:XE} {τ:Nv} {S1:Sto} {x:Vl}:ch1 f f2 (.ok x S1) b c τ=ch2 f f2 x (b τ S1) c τ:=ae rfl
theorem HP {f f2:Vl→Vl→Sto→R Vl} {c:XE} {τ:Nv} {S1:Sto} {x y:Vl}:ch2 f f2 x (.ok y S1) c τ=ch3 (f x y S1) f2 y c τ:=ae rfl
theorem DM {f:Vl→Vl→Sto→R Vl} {c:XE} {τ:Nv} {S1:Sto} {y:Vl}:ch3 (.ok (.d (.bl true)) S1) f y c τ=A0 f y (c τ S1):=ae rfl
theorem FJ {f:Vl→Vl→Sto→R Vl} {c:XE} {τ:Nv} {S1:Sto} {y:Vl}:ch3 (.ok (.d (.bl false)) S1) f y c τ=.ok (.d (.bl false)) S1:=ae rfl
theorem C7 {a:XE} {τ:Nv} {S:Sto}:aU a τ S=t1 (a τ S):=ae rfl
theorem II {k:Bool} {S:Sto}:t1 (.ok (.d (.bl k)) S)=.ok k S:=ae rfl
theorem D8 {a:XE} {τ:Nv} {S:Sto}:eM a τ S=tr1 (a τ S):=ae rfl
theorem GI {z:Vl} {S:Sto}:tr1 (.ok z S)=tru z S:=ae rfl
theorem Hl {k:Bool} {S:Sto}:tru (.d (.bl k)) S=.ok k S:=ae rfl
theorem HH {xs:List D} {S:Sto}:tru (.d (.tup xs)) S=.ok (!xs.isEmpty) S:=ae rfl
theorem G2 {xs:List D} {S:Sto}:tru (.d (.lst xs)) S=.ok (!xs.isEmpty) S:=ae rfl
theorem HS {S:Sto}:tru (.d .non) S=.ok false S:=ae rfl
theorem D4 {a b:XT} {τ:Nv} {S:Sto}:IC a b τ S=yX (a τ S) b τ:=ae rfl
theorem FH {b:XT} {τ:Nv} {S:Sto}:yX (.ok true S) b τ=b τ S:=ae rfl
theorem Dy {b:XT} {τ:Nv} {S:Sto}:yX (.ok false S) b τ=.ok false S:=ae rfl
theorem Hm {a b:XT} {τ:Nv} {S:Sto}:xOr a b τ S=or1 (a τ S) b τ:=ae rfl
theorem HC {b:XT} {τ:Nv} {S:Sto}:or1 (.ok true S) b τ=.ok true S:=ae rfl
theorem HG {b:XT} {τ:Nv} {S:Sto}:or1 (.ok false S) b τ=b τ S:=ae rfl
theorem EV {a:XT} {τ:Nv} {S:Sto}:fm a τ S=E_ (a τ S):=ae rfl
theorem FP {S:Sto} {k:Bool}:E_ (.ok k S)=.ok (!k) S:=ae rfl
theorem Cy {a b:XE} {τ:Nv} {S:Sto}:bY a b τ S=vR (a τ S) b τ:=ae rfl
theorem Cp {b:XE} {τ:Nv} {S:Sto}:vR (.ok (.d (.bl true)) S) b τ=b τ S:=ae rfl
theorem Cm {b:XE} {τ:Nv} {S:Sto}:vR (.ok (.d (.bl false)) S) b τ=.ok (.d (.bl false)) S:=ae rfl
theorem DU {a b:XE} {τ:Nv} {S:Sto}:IZ a b τ S=zv (a τ S) b τ:=ae rfl
theorem Fz {b:XE} {τ:Nv} {S:Sto}:zv (.ok (.d (.bl true)) S) b τ=.ok (.d (.bl true)) S:=ae rfl
theorem Er {b:XE} {τ:Nv} {S:Sto}:zv (.ok (.d (.bl false)) S) b τ=b τ S:=ae rfl
theorem C_ {a:XE} {τ:Nv} {S:Sto}:qi a τ S=Bt (a τ S):=ae rfl
theorem BH {k:Bool} {S:Sto}:Bt (.ok (.d (.bl k)) S)=.ok (.d (.bl (!k))) S:=ae rfl
theorem DC {c:XT} {a b:XE} {τ:Nv} {S:Sto}:IT c a b τ S=AB (c τ S) a b τ:=ae rfl
theorem EY {a b:XE} {τ:Nv} {S:Sto}:AB (.ok true S) a b τ=a τ S:=ae rfl
theorem E6 {a b:XE} {τ:Nv} {S:Sto}:AB (.ok false S) a b τ=b τ S:=ae rfl
theorem yz {τ:Nv} {S:Sto}:ak τ S=.ok [] S:=ae rfl
theorem uw {a:XE} {r:XA} {τ:Nv} {S:Sto}:ab a r τ S=co1 (a τ S) r τ:=ae rfl
theorem Bo {r:XA} {τ:Nv} {S:Sto} {x:Vl}:co1 (.ok x S) r τ=co2 x (r τ S):=ae rfl
theorem Ba {S:Sto} {x:Vl} {xs:List Vl}:co2 x (.ok xs S)=.ok (x :: xs) S:=ae rfl
theorem IQ {r:XA} {τ:Nv} {S:Sto} {f:List Vl→Sto→R Vl}:xN f r τ S=n1 f (r τ S):=ae rfl
theorem Il {S:Sto} {xs:List Vl} {f:List Vl→Sto→R Vl}:n1 f (.ok xs S)=f xs S:=ae rfl
theorem uA {r:XA} {τ:Nv} {S:Sto} {F:XF}:az F r τ S=c1 F (r τ S):=ae rfl
theorem Fd {S:Sto} {xs:List Vl} {F:XF}:c1 F (.ok xs S)=noX (F xs S):=ae rfl
theorem Bx {x:Vl} {S:Sto}:noX (R.ok x S)=.ok x S:=ae rfl
theorem GH {a:XE} {τ:Nv} {S:Sto}:xFz a τ S=fz1 (a τ S):=ae rfl
theorem GR {z:Vl} {S:Sto}:fz1 (.ok z S)=frz z S:=ae rfl
theorem FW {x:D} {S:Sto}:frz (.d x) S=.ok (.d x) S:=ae rfl
theorem xM {τ:Nv} {S:Sto}:oJ τ S=.ok none S:=ae rfl
theorem CI {a:XE} {τ:Nv} {S:Sto}:mJ a τ S=p1 (a τ S):=ae rfl
theorem Iu {i:Int} {S:Sto}:p1 (.ok (.d (.int i)) S)=.ok (some i) S:=ae rfl
theorem Hy {f:Vl→Option Int→Option Int→Sto→R Vl} {a:XE} {l h:XO} {τ:Nv} {S:Sto}:xSl f a l h τ S=sl1 f (a τ S) l h τ:=ae rfl
theorem G9 {f:Vl→Option Int→Option Int→Sto→R Vl} {l h:XO} {τ:Nv} {S:Sto} {x:Vl}:sl1 f (.ok x S) l h τ=sl2 f x (l τ S) h τ:=ae rfl
theorem G6 {f:Vl→Option Int→Option Int→Sto→R Vl} {h:XO} {τ:Nv} {S:Sto} {x:Vl} {i:Option Int}:sl2 f x (.ok i S) h τ=sl3 f x i (h τ S):=ae rfl
theorem GZ {f:Vl→Option Int→Option Int→Sto→R Vl} {S:Sto} {x:Vl} {i j:Option Int}:sl3 f x i (.ok j S)=f x i j S:=ae rfl
theorem GW {f:Nat→List D→D→Sto→R Vl} {o e:XE} {τ:Nv} {S:Sto}:xLm f o e τ S=lm1 f (o τ S) e τ:=ae rfl
theorem G_ {f:Nat→List D→D→Sto→R Vl} {e:XE} {τ:Nv} {S:Sto} {n:Nat}:lm1 f (.ok (.r n) S) e τ=lm2 f n S[n]? e τ S:=ae rfl
theorem HL {f:Nat→List D→D→Sto→R Vl} {e:XE} {τ:Nv} {S:Sto} {n:Nat} {xs:List D}:lm2 f n (some (.lst xs)) e τ S=lm3 f n (e τ S):=ae rfl
theorem G3 {f:Nat→List D→D→Sto→R Vl} {S:Sto} {n:Nat} {z:D}:lm3 f n (.ok (.d z) S)=lm4 f n S[n]? z S:=ae rfl
theorem Hn {f:Nat→List D→D→Sto→R Vl} {S:Sto} {n:Nat} {xs:List D} {z:D}:lm4 f n (some (.lst xs)) z S=f n xs z S:=ae rfl
theorem nW {τ:Nv} {S:Sto}:aT τ S=.ok (.nx,τ) S:=ae rfl
theorem si {a b:XS} {τ:Nv} {S:Sto}:ax a b τ S=sq1 (a τ S) b:=ae rfl
theorem jc {b:XS} {τ:Nv} {S:Sto}:sq1 (.ok (.nx,τ) S) b=b τ S:=ae rfl
theorem F_ {b:XS} {τ:Nv} {S:Sto} {v:Vl}:sq1 (.ok (.rt v,τ) S) b=.ok (.rt v,τ) S:=ae rfl
theorem Hj {b:XS} {τ:Nv} {S:Sto}:sq1 (.ok (.bk,τ) S) b=.ok (.bk,τ) S:=ae rfl
theorem GB {b:XS} {τ:Nv} {S:Sto}:sq1 (.ok (.ct,τ) S) b=.ok (.ct,τ) S:=ae rfl
theorem C6 {τ:Nv} {S:Sto} {e:XE}:eO e τ S=ex1 (e τ S) τ:=ae rfl
theorem HE {τ:Nv} {S:Sto} {z:Vl}:ex1 (.ok z S) τ=.ok (.nx,τ) S:=ae rfl
theorem ED {τ:Nv} {S:Sto} {e:XE}:aN e τ S=rt1 (e τ S) τ:=ae rfl
theorem Ho {τ:Nv} {S:Sto} {z:Vl}:rt1 (.ok z S) τ=.ok (.rt z,τ) S:=ae rfl
theorem Cw {τ:Nv} {S:Sto}:HI τ S=.ok (.rt (.d .non),τ) S:=ae rfl
theorem CJ {τ:Nv} {S:Sto}:HD τ S=.ok (.ct,τ) S:=ae rfl
theorem zA {τ:Nv} {S:Sto}:Dz τ S=.ok (.bk,τ) S:=ae rfl
theorem BC {a b:XS} {τ:Nv} {S:Sto} {t:XT}:xIf t a b τ S=if1 (t τ S) a b τ:=ae rfl
theorem Fu {a b:XS} {τ:Nv} {S:Sto}:if1 (.ok true S) a b τ=a τ S:=ae rfl
theorem rW {a b:XS} {τ:Nv} {S:Sto}:if1 (.ok false S) a b τ=b τ S:=ae rfl
theorem sC {τ:Nv} {S:Sto} {e:XE} {g:XG}:aJ e g τ S=as1 (e τ S) g τ:=ae rfl
theorem qc {τ:Nv} {S:Sto} {z:Vl} {g:XG}:as1 (.ok z S) g τ=as2 (g z τ S):=ae rfl
theorem mX {τ1:Nv} {S:Sto}:as2 (.ok τ1 S)=.ok (.nx,τ1) S:=ae rfl
theorem nc {τ:Nv} {S:Sto} {z:Vl} {i:Nat}:gNm i z τ S=.ok (τ.set i (some z)) S:=ae rfl
theorem Gm {gs:XGs} {τ:Nv} {S:Sto} {xs:List D} {n:Nat}:gTu n gs (.d (.tup xs)) τ S=if xs.length=n then gs (xs.map Vl.d) τ S else .bad:=ae rfl
theorem GL {τ:Nv} {S:Sto}:gN0 [] τ S=.ok τ S:=ae rfl
theorem HN {g:XG} {gs:XGs} {τ:Nv} {S:Sto} {z:Vl} {zs:List Vl}:gCo g gs (z :: zs) τ S=gc1 (g z τ S) gs zs:=ae rfl
theorem Hd {gs:XGs} {τ1:Nv} {S:Sto} {zs:List Vl}:gc1 (.ok τ1 S) gs zs=gs zs τ1 S:=ae rfl
theorem A3 {τ:Nv} {S:Sto} {z:Vl} {o e:XE} {f:Vl→Vl→Vl→Sto→R Unit}:gSb o e f z τ S=gs1 (o τ S) e f z τ:=ae rfl
theorem Bz {τ:Nv} {S:Sto} {z x:Vl} {e:XE} {f:Vl→Vl→Vl→Sto→R Unit}:gs1 (.ok x S) e f z τ=gs2 x (e τ S) f z τ:=ae rfl
theorem BB {τ:Nv} {S:Sto} {z x y:Vl} {f:Vl→Vl→Vl→Sto→R Unit}:gs2 x (.ok y S) f z τ=gs3 (f x y z S) τ:=ae rfl
theorem vT {τ:Nv} {S:Sto}:gs3 (.ok () S) τ=.ok τ S:=ae rfl
theorem mT {it:XI} {g:XG} {b:XS} {τ:Nv} {S:Sto}:cC it g b τ S=fo1 (it τ S) g b τ:=ae rfl
theorem qk {g:XG} {b:XS} {τ:Nv} {S:Sto} {I:Its}:fo1 (.ok I S) g b τ=bU g b I.gd I.items τ S:=ae rfl
theorem qT {τ:Nv} {S:Sto} {e:XE}:bZ e τ S=is1 (e τ S):=ae rfl
theorem yP {S:Sto} {xs:List D}:is1 (.ok (.d (.tup xs)) S)=.ok ⟨xs.map Vl.d,none⟩ S:=ae rfl
theorem FL {S:Sto} {xs:List D}:is1 (.ok (.d (.lst xs)) S)=.ok ⟨xs.map Vl.d,none⟩ S:=ae rfl
theorem Ek {S:Sto} {n:Nat}:is1 (.ok (.r n) S)=is2 n S[n]? S:=ae rfl
theorem Hq {S:Sto} {xs:List D} {n:Nat}:is2 n (some (.lst xs)) S=.ok ⟨xs.map Vl.d,some (n,.lst xs)⟩ S:=ae rfl
theorem ET {τ:Nv} {S:Sto} {as:XA}:jV as τ S=ir1 (as τ S):=ae rfl
theorem EE {τ:Nv} {S:Sto} {as:XA}:zU as τ S=ir2 (as τ S):=ae rfl
theorem Fo {τ:Nv} {S:Sto} {e:XE}:AH e τ S=ie1 (e τ S):=ae rfl
theorem Gk {S:Sto} {xs:List D}:ie1 (.ok (.d (.lst xs)) S)=.ok ⟨cm 0 xs,none⟩ S:=ae rfl
theorem vE {j:Int} {S:Sto} (h:-100000≤j∧j≤100000):ir1 (.ok [.d (.int j)] S)=.ok ⟨(List.range j.toNat).map fun i=>Vl.d (.int (i:Nat)),none⟩ S:=by rw [show ir1 (.ok [.d (.int j)] S)=if -100000≤j∧j≤100000 then .ok ⟨(List.range j.toNat).map fun i=>Vl.d (.int (i:Nat)),none⟩ S else .bad from rfl,if_pos h]
theorem Bv {i j:Int} {S:Sto} (h:(-100000≤i∧i≤100000)∧-100000≤j∧j≤100000):ir2 (.ok [.d (.int i),.d (.int j)] S)=.ok ⟨(List.range (j - i).toNat).map fun k=>Vl.d (.int (i+(k:Nat))),none⟩ S:=by rw [show ir2 (.ok [.d (.int i),.d (.int j)] S)=if (-100000≤i∧i≤100000)∧-100000≤j∧j≤100000 then .ok ⟨(List.range (j - i).toNat).map fun k=>Vl.d (.int (i+(k:Nat))),none⟩ S else .bad from rfl,if_pos h]
theorem Jb {i j:Int} {S:Sto} {g:Int→Int→D}:oI0 g (.d (.int i)) (.d (.int j)) S=.ok (.d (g i j)) S:=ae rfl
theorem Fg {i j:Int} {S:Sto}:bA (.d (.int i)) (.d (.int j)) S=.ok (.d (.int (i+j))) S:=ae rfl
theorem Gw {i:Int} {S:Sto}:jv (.d (.int i)) S=.ok (.d (.int (-i))) S:=ae rfl
theorem r_ {S:Sto} {xs ys:List D} (h:xs.length+ys.length≤100000):bA (.d (.tup xs)) (.d (.tup ys)) S=.ok (.d (.tup (xs++ys))) S:=by rw [show bA (.d (.tup xs)) (.d (.tup ys)) S=if xs.length+ys.length≤100000 then .ok (.d (.tup (xs++ys))) S else .bad from rfl,if_pos h]
theorem yQ {S:Sto} {xs ys:List D} (h:xs.length+ys.length≤100000):bA (.d (.lst xs)) (.d (.lst ys)) S=.ok (.d (.lst (xs++ys))) S:=by rw [show bA (.d (.lst xs)) (.d (.lst ys)) S=if xs.length+ys.length≤100000 then .ok (.d (.lst (xs++ys))) S else .bad from rfl,if_pos h]
theorem Hr {i j:Int} {S:Sto}:oEq (.d (.int i)) (.d (.int j)) S=.ok (.d (.bl (decide (i=j)))) S:=ae rfl
theorem Gx {i j:Int} {S:Sto}:oNe (.d (.int i)) (.d (.int j)) S=.ok (.d (.bl (!decide (i=j)))) S:=ae rfl
theorem Hk {S:Sto} {s t:Str}:oEq (.d (.str s)) (.d (.str t)) S=.ok (.d (.bl (decide (s=t)))) S:=ae rfl
theorem G7 {S:Sto} {s t:Str}:oNe (.d (.str s)) (.d (.str t)) S=.ok (.d (.bl (!decide (s=t)))) S:=ae rfl
theorem Gj {S:Sto} {p q:Bool}:oEq (.d (.bl p)) (.d (.bl q)) S=.ok (.d (.bl (decide (p=q)))) S:=ae rfl
theorem GN {S:Sto} {p q:Bool}:oNe (.d (.bl p)) (.d (.bl q)) S=.ok (.d (.bl (!decide (p=q)))) S:=ae rfl
theorem m7 {S:Sto} {xs ys:List D} (h:D.depth (.lst xs)≤50):oEq (.d (.lst xs)) (.d (.lst ys)) S=.ok (.d (.bl (D.bS xs ys))) S:=by
 have:eqD (.d (.lst xs)) (.d (.lst ys)) S=some (D.bS xs ys):=by rw [show eqD (.d (.lst xs)) (.d (.lst ys)) S=if D.depth (.lst xs)≤50 then some (D.bS xs ys) else none from rfl,if_pos h]
 unfold oEq;rw [this]
theorem Hf {S:Sto} {p q:Bool}:oIs (.d (.bl p)) (.d (.bl q)) S=.ok (.d (.bl (p == q))) S:=ae rfl
theorem D5 {S:Sto}:oIs (.d .non) (.d .non) S=.ok (.d (.bl true)) S:=ae rfl
theorem EC {S:Sto} {xs:List D}:oIs (.d (.tup xs)) (.d .non) S=.ok (.d (.bl false)) S:=ae rfl
theorem EB {S:Sto} {xs:List D}:oIs (.d (.lst xs)) (.d .non) S=.ok (.d (.bl false)) S:=ae rfl
theorem EJ {i:Int} {S:Sto}:oIs (.d (.int i)) (.d .non) S=.ok (.d (.bl false)) S:=ae rfl
theorem AY {S:Sto}:qe (.d .non) (.d .non) S=.ok (.d (.bl false)) S:=ae rfl
theorem yW {S:Sto} {xs:List D}:qe (.d (.tup xs)) (.d .non) S=.ok (.d (.bl true)) S:=ae rfl
theorem yZ {S:Sto} {xs:List D}:qe (.d (.lst xs)) (.d .non) S=.ok (.d (.bl true)) S:=ae rfl
theorem As {i:Int} {S:Sto}:qe (.d (.int i)) (.d .non) S=.ok (.d (.bl true)) S:=ae rfl
theorem Gb {T:String} {x:D} {S:Sto}:dI T (.d x) S=.ok (.d (.bl (isT T x))) S:=ae rfl
theorem qI {S:Sto} {xs:List D}:bG [.d (.tup xs)] S=.ok (.d (.int xs.length)) S:=ae rfl
theorem FF {S:Sto} {xs:List D}:bG [.d (.lst xs)] S=.ok (.d (.int xs.length)) S:=ae rfl
theorem E2 {S:Sto} {xs:List D}:dn [.d (.tup xs)] S=.ok (.d (.tup xs)) S:=ae rfl
theorem D_ {S:Sto} {xs:List D}:dn [.d (.lst xs)] S=.ok (.d (.tup xs)) S:=ae rfl
theorem ER {S:Sto} {xs:List D}:kN [.d (.tup xs)] S=.ok (.d (.lst xs)) S:=ae rfl
theorem E4 {S:Sto} {xs:List D}:kN [.d (.lst xs)] S=.ok (.d (.lst xs)) S:=ae rfl
theorem BK {S:Sto} {xs:List D}:kJ [.d (.tup xs)] S=.ok (.r S.length) (S++[.lst xs]):=ae rfl
theorem CA {S:Sto} {xs:List D}:kJ [.d (.lst xs)] S=.ok (.r S.length) (S++[.lst xs]):=ae rfl
theorem GY {i j:Int} {S:Sto}:vN [.d (.int i),.d (.int j)] S=.ok (.d (.int (if j > i then j else i))) S:=ae rfl
theorem Hw {i j:Int} {S:Sto}:sG [.d (.int i),.d (.int j)] S=.ok (.d (.int (if j < i then j else i))) S:=ae rfl
theorem df {i:Int} {S:Sto} {xs:List D} {z:D} (h:atI xs i=some z):oIx (.d (.tup xs)) (.d (.int i)) S=.ok (.d z) S:=by rw [show oIx (.d (.tup xs)) (.d (.int i)) S=(match atI xs i with | some z=>.ok (.d z) S | none=>.bad) from rfl,h]
theorem i5 {i:Int} {S:Sto} {xs:List D} {z:D} (h:atI xs i=some z):oIx (.d (.lst xs)) (.d (.int i)) S=.ok (.d z) S:=by rw [show oIx (.d (.lst xs)) (.d (.int i)) S=(match atI xs i with | some z=>.ok (.d z) S | none=>.bad) from rfl,h]
theorem kM {i:Int} {S:Sto} {xs:List D} {z:D} {n:Nat} (e:S[n]?=some (.lst xs)) (h:atI xs i=some z):oIx (.r n) (.d (.int i)) S=.ok (.d z) S:=by
 have:bN (.r n) S=some xs:=by unfold bN cE;dsimp only;rw [e]
 unfold oIx;dsimp only;rw [this];dsimp only;rw [h]
theorem qE {S:Sto} {xs:List D} {n:Nat} (e:S[n]?=some (.lst xs)):bG [.r n] S=.ok (.d (.int xs.length)) S:=by
 have:bN (.r n) S=some xs:=by unfold bN cE;dsimp only;rw [e]
 unfold bG;dsimp only;rw [this]
theorem Gh {xs:List D} {i j:Option Int} {S:Sto}:oSl (.d (.tup xs)) i j S=.ok (.d (.tup (fT xs i j))) S:=ae rfl
theorem Gv {xs:List D} {i j:Option Int} {S:Sto}:oSl (.d (.lst xs)) i j S=.ok (.d (.lst (fT xs i j))) S:=ae rfl
theorem Gg {ns:List Int} {i j:Option Int} {S:Sto}:qB (.sc ns) i j S=.ok (.d (.lst (fT (ns.map D.int) i j))) S:=ae rfl
theorem Hu {S:Sto} {xs:List D}:IF (.d (.tup xs)) (.d (.int (-1))) S=.ok (.d (.tup xs.reverse)) S:=ae rfl
theorem HU {i j:Int} {S:Sto}:j7 (.d (.int i)) (.d (.int j)) S=.ok (.d (.int (i - j))) S:=ae rfl
theorem Ij {i j:Int} {S:Sto}:oLt (.d (.int i)) (.d (.int j)) S=.ok (.d (.bl (decide (i < j)))) S:=ae rfl
theorem Iw {i j:Int} {S:Sto}:oLe (.d (.int i)) (.d (.int j)) S=.ok (.d (.bl (decide (i≤j)))) S:=ae rfl
theorem IK {i j:Int} {S:Sto}:oGt (.d (.int i)) (.d (.int j)) S=.ok (.d (.bl (decide (j < i)))) S:=ae rfl
theorem Iq {i j:Int} {S:Sto}:oGe (.d (.int i)) (.d (.int j)) S=.ok (.d (.bl (decide (j≤i)))) S:=ae rfl
theorem m6 {i j:Int} {S:Sto} (h:ju i j):d8 (.d (.int i)) (.d (.int j)) S=.ok (.d (.int (i * j))) S:=by rw [show d8 (.d (.int i)) (.d (.int j)) S=if ju i j then .ok (.d (.int (i * j))) S else .bad from rfl,if_pos h]
theorem Bp {i j:Int} {S:Sto} (h:0 < j):oMod (.d (.int i)) (.d (.int j)) S=.ok (.d (.int (i % j))) S:=by rw [show oMod (.d (.int i)) (.d (.int j)) S=if 0 < j then .ok (.d (.int (i % j))) S else .bad from rfl,if_pos h]
theorem Gd {i j:Int} {S:Sto} (h:oo i j):oDiv (.d (.int i)) (.d (.int j)) S=.ok (.d (.int (i / j))) S:=by rw [show oDiv (.d (.int i)) (.d (.int j)) S=if oo i j then .ok (.d (.int (i / j))) S else .bad from rfl,if_pos h]
theorem vB {i j:Int} {S:Sto} (h:n4 i j):uM (.d (.int i)) (.d (.int j)) S=.ok (.d (.int (i ^ j.toNat))) S:=by rw [show uM (.d (.int i)) (.d (.int j)) S=if n4 i j then .ok (.d (.int (i ^ j.toNat))) S else .bad from rfl,if_pos h]
theorem nr {i j:Int} (h1:-(2 ^ 64) < j) (h2:j < 2 ^ 64):ju i j:=.inr ⟨h1,h2⟩
theorem Fh {S:Sto}:mkT [] S=.ok (.d (.tup [])) S:=ae rfl
theorem E8 {S:Sto}:mkL [] S=.ok (.d (.lst [])) S:=ae rfl
theorem FI {S:Sto}:mkM [] S=.ok (.r S.length) (S++[.lst []]):=ae rfl
theorem Fn {a:D} {S:Sto}:mkT [.d a] S=.ok (.d (.tup [a])) S:=ae rfl
theorem Fy {a:D} {S:Sto}:mkL [.d a] S=.ok (.d (.lst [a])) S:=ae rfl
theorem Ew {a:D} {S:Sto}:mkM [.d a] S=.ok (.r S.length) (S++[.lst [a]]):=ae rfl
theorem DS {a b:D} {S:Sto}:mkT [.d a,.d b] S=.ok (.d (.tup [a,b])) S:=ae rfl
theorem EF {a b:D} {S:Sto}:mkL [.d a,.d b] S=.ok (.d (.lst [a,b])) S:=ae rfl
theorem E1 {a b:D} {S:Sto}:mkM [.d a,.d b] S=.ok (.r S.length) (S++[.lst [a,b]]):=ae rfl
theorem Ft {a b c:D} {S:Sto}:mkT [.d a,.d b,.d c] S=.ok (.d (.tup [a,b,c])) S:=ae rfl
theorem Ee {a b c:D} {S:Sto}:mkL [.d a,.d b,.d c] S=.ok (.d (.lst [a,b,c])) S:=ae rfl
theorem Eo {a b c:D} {S:Sto}:mkM [.d a,.d b,.d c] S=.ok (.r S.length) (S++[.lst [a,b,c]]):=ae rfl
theorem DK {a b c d:D} {S:Sto}:mkT [.d a,.d b,.d c,.d d] S=.ok (.d (.tup [a,b,c,d])) S:=ae rfl
theorem DH {a b c d:D} {S:Sto}:mkL [.d a,.d b,.d c,.d d] S=.ok (.d (.lst [a,b,c,d])) S:=ae rfl
theorem Ey {a b c d e:D} {S:Sto}:mkT [.d a,.d b,.d c,.d d,.d e] S=.ok (.d (.tup [a,b,c,d,e])) S:=ae rfl
theorem Fs {a b c d e:D} {S:Sto}:mkL [.d a,.d b,.d c,.d d,.d e] S=.ok (.d (.lst [a,b,c,d,e])) S:=ae rfl
theorem DL {a b c d e f:D} {S:Sto}:mkT [.d a,.d b,.d c,.d d,.d e,.d f] S=.ok (.d (.tup [a,b,c,d,e,f])) S:=ae rfl
theorem FZ {a b c d e f:D} {S:Sto}:mkL [.d a,.d b,.d c,.d d,.d e,.d f] S=.ok (.d (.lst [a,b,c,d,e,f])) S:=ae rfl
theorem Ej {a b c d e f g:D} {S:Sto}:mkT [.d a,.d b,.d c,.d d,.d e,.d f,.d g] S=.ok (.d (.tup [a,b,c,d,e,f,g])) S:=ae rfl
theorem El {a b c d e f g:D} {S:Sto}:mkL [.d a,.d b,.d c,.d d,.d e,.d f,.d g] S=.ok (.d (.lst [a,b,c,d,e,f,g])) S:=ae rfl
theorem Dt {a b c d e f g h:D} {S:Sto}:mkT [.d a,.d b,.d c,.d d,.d e,.d f,.d g,.d h] S=.ok (.d (.tup [a,b,c,d,e,f,g,h])) S:=ae rfl
theorem FG {a b c d e f g h:D} {S:Sto}:mkL [.d a,.d b,.d c,.d d,.d e,.d f,.d g,.d h] S=.ok (.d (.lst [a,b,c,d,e,f,g,h])) S:=ae rfl
theorem FU {a b c d e f g h i:D} {S:Sto}:mkT [.d a,.d b,.d c,.d d,.d e,.d f,.d g,.d h,.d i] S=.ok (.d (.tup [a,b,c,d,e,f,g,h,i])) S:=ae rfl
theorem FX {a b c d e f g h i:D} {S:Sto}:mkL [.d a,.d b,.d c,.d d,.d e,.d f,.d g,.d h,.d i] S=.ok (.d (.lst [a,b,c,d,e,f,g,h,i])) S:=ae rfl
theorem BI {a b c d e f g h i j:D} {S:Sto}:mkT [.d a,.d b,.d c,.d d,.d e,.d f,.d g,.d h,.d i,.d j] S=.ok (.d (.tup [a,b,c,d,e,f,g,h,i,j])) S:=ae rfl
theorem BY {a b c d e f g h i j:D} {S:Sto}:mkL [.d a,.d b,.d c,.d d,.d e,.d f,.d g,.d h,.d i,.d j] S=.ok (.d (.lst [a,b,c,d,e,f,g,h,i,j])) S:=ae rfl
theorem B6 {a b c d e f g h i j k:D} {S:Sto}:mkT [.d a,.d b,.d c,.d d,.d e,.d f,.d g,.d h,.d i,.d j,.d k] S=.ok (.d (.tup [a,b,c,d,e,f,g,h,i,j,k])) S:=ae rfl
theorem BM {a b c d e f g h i j k:D} {S:Sto}:mkL [.d a,.d b,.d c,.d d,.d e,.d f,.d g,.d h,.d i,.d j,.d k] S=.ok (.d (.lst [a,b,c,d,e,f,g,h,i,j,k])) S:=ae rfl
theorem B2 {a b c d e f g h i j k l:D} {S:Sto}:mkT [.d a,.d b,.d c,.d d,.d e,.d f,.d g,.d h,.d i,.d j,.d k,.d l] S=.ok (.d (.tup [a,b,c,d,e,f,g,h,i,j,k,l])) S:=ae rfl
theorem Cs {a b c d e f g h i j k l:D} {S:Sto}:mkL [.d a,.d b,.d c,.d d,.d e,.d f,.d g,.d h,.d i,.d j,.d k,.d l] S=.ok (.d (.lst [a,b,c,d,e,f,g,h,i,j,k,l])) S:=ae rfl
theorem uK {o x:Ob} {R:Sto}:(o :: (R++[x]))[R.length+1]?=some x:=by simp
theorem qO {x:Ob} {R:Sto}:(R++[x])[R.length]?=some x:=by simp
theorem zm {x y:Ob} {R:Sto}:(R++[x]).set R.length y=R++[y]:=by simp
theorem zH {x y:Ob} {R:Sto}:(R++[x,y])[R.length]?=some x:=by simp
theorem zj {x y z:Ob} {R:Sto}:(R++[x,y]).set R.length z=R++[z,y]:=by simp
theorem Ac {x y:Ob} {R:Sto}:(R++[x,y])[R.length+1]?=some y:=by simp
theorem Ad {x y z:Ob} {R:Sto}:(R++[x,y]).set (R.length+1) z=R++[x,z]:=by simp
theorem wC (ns:List Int):(ns.map D.int).all D.flat=true:=by rw [List.all_map];exact List.all_eq_true.mpr fun _ _=>rfl
theorem CT (w:Int) (ns:List Int):inD (.int w) (ns.map D.int)=decide (w∈ns):=by
 unfold inD
 rw [List.any_map,Bool.eq_iff_iff,List.any_eq_true,decide_eq_true_eq]
 constructor
 ·rintro ⟨x,hx,e⟩
  have e':(x == w)=true:=e
  rw [← (beq_iff_eq.mp e')];exact hx
 ·intro h
  exact ⟨w,h,by show (w == w)=true;simp⟩
theorem A_ {n:Nat} {S:Sto} {xs:List D} (e:S[n]?=some (.lst xs)):bN (.r n) S=some xs:=by unfold bN cE;dsimp only;rw [e]
theorem gS {w:Int} {y:Vl} {S:Sto} {ns:List Int} (h:bN y S=some (ns.map D.int)):inX (.d (.int w)) y S=some (decide (w∈ns)):=by
 unfold inX
 dsimp only
 rw [h]
 dsimp only
 rw [show D.flat (.int w)=true from rfl,wC,if_pos (by rfl),CT]
theorem Bk {w:Int} {ns:List Int} {S:Sto}:oIn (.d (.int w)) (.d (.tup (ns.map D.int))) S=.ok (.d (.bl (decide (w∈ns)))) S:=by unfold oIn;rw [gS (ns:=ns) rfl]
theorem wJ {w:Int} {ns:List Int} {S:Sto}:fM (.d (.int w)) (.d (.tup (ns.map D.int))) S=.ok (.d (.bl (!decide (w∈ns)))) S:=by unfold fM;rw [gS (ns:=ns) rfl]
theorem G0 {w:Int} {ns:List Int} {S:Sto}:oIn (.d (.int w)) (.d (.lst (ns.map D.int))) S=.ok (.d (.bl (decide (w∈ns)))) S:=by unfold oIn;rw [gS (ns:=ns) rfl]
theorem DA {w:Int} {ns:List Int} {S:Sto}:fM (.d (.int w)) (.d (.lst (ns.map D.int))) S=.ok (.d (.bl (!decide (w∈ns)))) S:=by unfold fM;rw [gS (ns:=ns) rfl]
theorem Fe {w:Int} {ns:List Int} {n:Nat} {S:Sto} (e:S[n]?=some (.lst (ns.map D.int))):fM (.d (.int w)) (.r n) S=.ok (.d (.bl (!decide (w∈ns)))) S:=by unfold fM;rw [gS (A_ e)]
theorem Bh {n:Nat} {xs:List D} {z:D} {S:Sto} (h:xs.length < 100000):l5 n xs z S=.ok (.d .non) (S.set n (.lst (xs++[z]))):=by unfold l5;rw [if_pos h]
theorem EU {n:Nat} {xs ys:List D} {S:Sto} (h:xs.length+ys.length≤100000):nz n xs (.lst ys) S=.ok (.d .non) (S.set n (.lst (xs++ys))):=by unfold nz;dsimp only;rw [if_pos h]
theorem CG {x:Vl} {S:Sto} {ns:List Int} (e:bN x S=some (ns.map D.int)) (h:ns.length < 64):lB [x] S=.ok (.d (.lst ((sortI ns).map D.int))) S:=by
 unfold lB
 dsimp only
 rw [e,Option.bind_some,ja]
 dsimp only
 rw [if_pos h]
theorem B8 {n:Nat} {S:Sto} {ns:List Int} (e:S[n]?=some (.lst (ns.map D.int))) (h:ns.length < 64):lB [.r n] S=.ok (.d (.lst ((sortI ns).map D.int))) S:=CG (A_ e) h
theorem Gn {x:Vl} {S:Sto} {ns:List Int} (e:bN x S=some (ns.map D.int)) (h:ns.length≤300):oLS x S=.ok (.d (.int (bI ns).length)) S:=by
 unfold oLS
 rw [e,Option.bind_some,ja]
 dsimp only
 rw [if_pos h]
theorem sF (x:Int):∀ ys,(gP x ys).length≤ys.length+1
 | []=>by simp [gP]
 | y :: ys=>by
  unfold gP
  split
  ·simp
  ·split
   ·simp
   ·have:=sF x ys
    simp
    omega
theorem oY:∀ xs,(bI xs).length≤xs.length
 | []=>by simp [bI]
 | x :: xs=>by
  have:=sF x (bI xs)
  have:=oY xs
  rw [bI,List.length_cons]
  omega
theorem fH (ns:List Int):(sortI ns).length=ns.length:=(sortI_perm ns).length_eq
theorem fD (ns:List Int) (z:Int):z∈sortI ns↔z∈ns:=(sortI_perm ns).mem_iff
theorem i8 {ns:List Int} (h:ns.Nodup):(sortI ns).Pairwise (· < ·):=((jt ns).and ((sortI_perm ns).nodup_iff.mpr h)).imp fun z=>by have:=z.1;have:=z.2;omega
theorem Dr {ds:List D} {bs:List Bool} {S:Sto} (h:gb ds=some bs):eG [.d (.lst ds)] S=.ok (.d (.bl (bs.all id))) S:=by
 unfold eG
 dsimp only
 rw [show cE (.d (.lst ds)) S=some ds from rfl,Option.bind_some,h]
theorem ua {α:Type} (f:α→Bool):∀ l:List α,gb (l.map fun x=>D.bl (f x))=some (l.map f)
 | []=>rfl
 | x :: l=>by simp [gb,ua f l]
theorem l_ {α:Type} (f:α→Int):∀ l:List α,intsOf (l.map fun x=>D.int (f x))=some (l.map f)
 | []=>rfl
 | x :: l=>by simp [intsOf,l_ f l]
theorem yh {α:Type} {f:α→Bool} {l:List α} {S:Sto}:eG [.d (.lst (l.map fun x=>D.bl (f x)))] S=.ok (.d (.bl (l.all f))) S:=by rw [Dr (ua f l),List.all_map];rfl
theorem Du {j:Int} {S:Sto} (h:0≤j∧j≤1000):lrg zo [.d (.int j)] S=.ok (.r S.length) (S++[.lst ((List.range j.toNat).map fun i=>D.int (i:Nat))]):=by
 unfold lrg
 dsimp only
 rw [if_pos h]
 rfl
theorem Gz {n:Nat} {xs:List D} {i:Int} {y:D} {S:Sto} (h:0≤i∧i < 2 ^ 63) (e:xs[i.toNat]?=some y):qv n xs (.int i) S=.ok (.d y) (S.set n (.lst (xs.eraseIdx i.toNat))):=by
 unfold qv
 dsimp only
 rw [if_pos h,e]
theorem By {it:XI} {t:XT} {e:XE} {τ:Nv} {S:Sto} {r:R Vl} (hC:xLC it 1 (gNm 0) t e τ S=r) {S1:Sto} {items:List Vl} (hit:it τ S=.ok ⟨items,none⟩ S1) (J:Nat→List D→Sto→Prop) (h0:J 0 [] S1)
  (hs:∀ i z acc Q,items[i]?=some z→J i acc Q→Q.length=S1.length→∃ b Q1,t (some z :: τ) (Q++[.lst acc])=.ok b (Q1++[.lst acc])∧Q1.length=S1.length ∧
   (b=true→∃ x Q2,e (some z :: τ) (Q1++[.lst acc])=.ok (.d x) (Q2++[.lst acc])∧Q2.length=S1.length∧J (i+1) (acc++[x]) Q2)∧(b=false→J (i+1) acc Q1)) :
  ∃ acc Q,r=.ok (.d (.lst acc)) Q∧Q.length=S1.length∧J items.length acc Q:=by
 obtain ⟨acc,Q,e1,h⟩:=yf (t:=t) (e:=e) hit J h0 hs
 exact ⟨acc,Q,hC.symm.trans e1,h⟩
theorem mq {it:XI} {e:XE} {τ:Nv} {S:Sto} {r:R Vl} (hC:xLC it 1 (gNm 0) (fun _ S=>.ok true S) e τ S=r) {S1:Sto} {items:List Vl} (hit:it τ S=.ok ⟨items,none⟩ S1) (J:Nat→List D→Sto→Prop) (h0:J 0 [] S1)
  (hs:∀ i z acc Q,items[i]?=some z→J i acc Q→Q.length=S1.length→∃ x Q2,e (some z :: τ) (Q++[.lst acc])=.ok (.d x) (Q2++[.lst acc])∧Q2.length=S1.length∧J (i+1) (acc++[x]) Q2) :
  ∃ acc Q,r=.ok (.d (.lst acc)) Q∧Q.length=S1.length∧J items.length acc Q:=
 By hC hit J h0 fun i z acc Q hz hJ hl=>⟨true,Q,rfl,hl,fun _=>hs i z acc Q hz hJ hl,fun z=>(by cases z)⟩
theorem gm {e:XE} {a:XE} {τ:Nv} {S S1:Sto} {r:R Vl} (hC:xLC (bZ a) 1 (gNm 0) (fun _ S=>.ok true S) e τ S=r) {xs:List D} (ha:a τ S=.ok (.d (.tup xs)) S1) (f:D→D) (hs:∀ x∈xs,∀ S:Sto,e (some (.d x) :: τ) S=.ok (.d (f x)) S):r=.ok (.d (.lst (xs.map f))) S1:=by
 rw [← hC,xx (items:=xs.map Vl.d) (S1:=S1) (by rw [qT,ha,yP]) (fun z=>match z with | .d x=>f x | _=>.non) (by
  intro z hz S
  obtain ⟨x,hx,rfl⟩:=List.mem_map.mp hz
  exact hs x hx S)]
 rw [List.map_map]
 rfl
theorem cX {it:XI} {g:XG} {b:XS} {τ:Nv} {S:Sto} {r:R (Fl×Nv)} (hL:cC it g b τ S=r) {S1:Sto} {items:List Vl} {gd:Option (Nat×Ob)} (hit:it τ S=.ok ⟨items,gd⟩ S1) (I:Nat→Nv→Sto→Prop) (h0:I 0 τ S1)
  (hs:∀ i z τ S,items[i]?=some z→I i τ S→∃ τ1 S1 fl τ2 S2,g z τ S=.ok τ1 S1∧b τ1 S1=.ok (fl,τ2) S2∧(fl=.nx∨fl=.ct)∧gok gd S2∧I (i+1) τ2 S2):∃ τ' S',r=.ok (.nx,τ') S'∧I items.length τ' S':=by
 obtain ⟨τ',S',e,h⟩:=rn (g:=g) (b:=b) (gd:=gd) I h0 hs
 refine ⟨τ',S',?_,h⟩
 rw [← hL,mT,hit,qk]
 exact e
theorem rR {g:XG} {b:XS} {gd:Option (Nat×Ob)} (Pr:Vl→Sto→Prop):∀ {items:List Vl} {τ:Nv} {S:Sto} (I:Nat→Nv→Sto→Prop),I 0 τ S →
  (∀ i z τ S,items[i]?=some z→I i τ S→∃ τ1 S1 fl τ2 S2,g z τ S=.ok τ1 S1∧b τ1 S1=.ok (fl,τ2) S2∧(((fl=.nx∨fl=.ct)∧gok gd S2∧I (i+1) τ2 S2)∨∃ v,fl=.rt v∧Pr v S2)) →
  (∃ τ' S',bU g b gd items τ S=.ok (.nx,τ') S'∧I items.length τ' S')∨∃ v τ' S',bU g b gd items τ S=.ok (.rt v,τ') S'∧Pr v S'
 | [],τ,S,I,h0,_=>.inl ⟨τ,S,rfl,h0⟩
 | z :: zs,τ,S,I,h0,hs=>by
  obtain ⟨τ1,S1,fl,τ2,S2,e1,e2,h⟩:=hs 0 z τ S rfl h0
  rcases h with ⟨hf,hg,hI⟩ | ⟨v,rfl,hv⟩
  ·have st:bU g b gd (z :: zs) τ S=bU g b gd zs τ2 S2:=by
    rw [bU,e1,aE,e2,aE]
    rcases hf with rfl | rfl
    ·dsimp only;rw [if_pos hg]
    ·dsimp only;rw [if_pos hg]
   rw [st]
   exact rR Pr (items:=zs) (fun i=>I (i+1)) hI fun i z' τ S hz hi=>hs (i+1) z' τ S (by simpa using hz) hi
  ·refine .inr ⟨v,τ2,S2,?_,hv⟩
   rw [bU,e1,aE,e2,aE]
theorem Ci {it:XI} {g:XG} {b:XS} {τ:Nv} {S:Sto} {r:R (Fl×Nv)} (hL:cC it g b τ S=r) (Pr:Vl→Sto→Prop) {S1:Sto} {items:List Vl} {gd:Option (Nat×Ob)} (hit:it τ S=.ok ⟨items,gd⟩ S1) (I:Nat→Nv→Sto→Prop) (h0:I 0 τ S1)
  (hs:∀ i z τ S,items[i]?=some z→I i τ S→∃ τ1 S1 fl τ2 S2,g z τ S=.ok τ1 S1∧b τ1 S1=.ok (fl,τ2) S2∧(((fl=.nx∨fl=.ct)∧gok gd S2∧I (i+1) τ2 S2)∨∃ v,fl=.rt v∧Pr v S2)) :
  (∃ τ' S',r=.ok (.nx,τ') S'∧I items.length τ' S')∨∃ v τ' S',r=.ok (.rt v,τ') S'∧Pr v S':=by
 have q:=rR (g:=g) (b:=b) (gd:=gd) Pr I h0 hs
 have e:r=bU g b gd items τ S1:=by rw [← hL,mT,hit,qk]
 rw [e]
 exact q
theorem kW {n:Nat} {i:Nat} {z:Vl} (h:((List.range n).map fun i=>Vl.d (.int (i:Nat)))[i]?=some z):i < n∧z=.d (.int i):=by
 have hi:i < n:=by simpa using (List.getElem?_eq_some_iff.mp h).1
 rw [List.getElem?_map,List.getElem?_range hi] at h
 exact ⟨hi,(Option.some.inj h).symm⟩
theorem k_ {n:Nat}:((List.range n).map fun i=>Vl.d (.int (i:Nat))).length=n:=by simp
theorem jm {α β:Type} {f:α→β} {l:List α} {x:α}:(l++[x]).map f=l.map f++[f x]:=by rw [List.map_append];rfl
end L2
namespace L2
open PySem PySem.Spec PyProof.Rows ZS
def c_ (xs ys:List D):List Vl:=List.zipWith (fun x y=>Vl.d (.tup [x,y])) xs ys
theorem gz {xs ys:List D}:(c_ xs ys).length=min xs.length ys.length:=by simp [c_]
theorem gD {xs ys:List D} {i:Nat} {z:Vl} (h:(c_ xs ys)[i]?=some z):∃ x y,xs[i]?=some x∧ys[i]?=some y∧z=.d (.tup [x,y]):=by
 unfold c_ at h
 rw [List.getElem?_zipWith] at h
 cases q:xs[i]? with
 | none=>rw [q] at h;cases h
 | some x=>
  cases q2:ys[i]? with
  | none=>rw [q,q2] at h;cases h
  | some y=>rw [q,q2] at h;cases h;exact ⟨x,y,rfl,rfl,rfl⟩
def v_ (zs:List Vl) (S:Sto):R Its:=match zs with
 | [.d (.tup xs),.d (.tup ys)]=>.ok ⟨c_ xs ys,none⟩ S
 | [.d (.lst xs),.d (.tup ys)]=>.ok ⟨c_ xs ys,none⟩ S
 | _=>.bad
def iZp (as:XA):XI:=fun τ S=>(as τ S).bind v_
section
variable {X:Cx} {WE:WX} {K:PySem.W.Frag} {mg:Str→Option Value} {μ:Nat→Addr} {S:Sto} {H:Hp}
theorem Dl {t u:Addr} {vs us:List V} {xs ys:List D} (g:vh μ S H t=some (.tup vs)) (rs:av (vh μ S H) vs xs) (g2:vh μ S H u=some (.tup us)) (rs2:av (vh μ S H) us ys) (hz:vs.length≤sizeLine):eK K mg μ S H (Itz t u) ⟨c_ xs ys,none⟩ where
 ok:=True.intro
 len:=by show (c_ xs ys).length≤sizeLine;rw [gz];rw [rs.length] at hz;omega
 go:=fun i z μ' S' H' st _ e=>by
  obtain ⟨x,y,e1,e2,_⟩:=gD e
  obtain ⟨a,q1,_⟩:=rs.get' e1
  obtain ⟨b,q2,_⟩:=rs2.get' e2
  exact ⟨vs,us,a,b,(aC (st.vis _ _ g)).2,(aC (st.vis _ _ g2)).2,q1,q2⟩
 yld:=fun i z μ' S' H' v H2 st _ e yy=>by
  obtain ⟨p,a,b,hp,rfl,rfl,y1,y2⟩:=yy
  obtain ⟨x,y,e1,e2,rfl⟩:=gD e
  have q1:=y1 vs (aC (st.vis _ _ g)).2
  have q2:=y2 us (aC (st.vis _ _ g2)).2
  obtain ⟨x',e3,r1⟩:=rs.get q1
  obtain ⟨y',e4,r2⟩:=rs2.get q2
  rw [e1] at e3;cases e3
  rw [e2] at e4;cases e4
  have st2:=Step.new st.hr hp (.tup [a,b])
  exact ⟨st2,Rep.tup (bF bO (st.hr.nal hp)) (.cons (Rep.mono (st.trans st2).vis r1) (.cons (Rep.mono (st.trans st2).vis r2) .nil))⟩
 stop:=fun i μ' S' H' st _ hi=>by
  replace hi:(c_ xs ys).length=i:=hi
  rw [gz] at hi
  have l1:=rs.length
  have l2:=rs2.length
  exact ⟨vs,us,(aC (st.vis _ _ g)).2,(aC (st.vis _ _ g2)).2,by omega,by omega,by omega⟩
theorem Ct {t u:Addr} {vs us:List V} {xs ys:List D} (g:vh μ S H t=some (.lst vs)) (rs:av (vh μ S H) vs xs) (g2:vh μ S H u=some (.tup us)) (rs2:av (vh μ S H) us ys) (hz:vs.length≤sizeLine):eK K mg μ S H (Ity t u) ⟨c_ xs ys,none⟩ where
 ok:=True.intro
 len:=by show (c_ xs ys).length≤sizeLine;rw [gz];rw [rs.length] at hz;omega
 go:=fun i z μ' S' H' st _ e=>by
  obtain ⟨x,y,e1,e2,_⟩:=gD e
  obtain ⟨a,q1,_⟩:=rs.get' e1
  obtain ⟨b,q2,_⟩:=rs2.get' e2
  exact ⟨vs,us,a,b,(aC (st.vis _ _ g)).2,(aC (st.vis _ _ g2)).2,q1,q2⟩
 yld:=fun i z μ' S' H' v H2 st _ e yy=>by
  obtain ⟨p,a,b,hp,rfl,rfl,y1,y2⟩:=yy
  obtain ⟨x,y,e1,e2,rfl⟩:=gD e
  have q1:=y1 vs (aC (st.vis _ _ g)).2
  have q2:=y2 us (aC (st.vis _ _ g2)).2
  obtain ⟨x',e3,r1⟩:=rs.get q1
  obtain ⟨y',e4,r2⟩:=rs2.get q2
  rw [e1] at e3;cases e3
  rw [e2] at e4;cases e4
  have st2:=Step.new st.hr hp (.tup [a,b])
  exact ⟨st2,Rep.tup (bF bO (st.hr.nal hp)) (.cons (Rep.mono (st.trans st2).vis r1) (.cons (Rep.mono (st.trans st2).vis r2) .nil))⟩
 stop:=fun i μ' S' H' st _ hi=>by
  replace hi:(c_ xs ys).length=i:=hi
  rw [gz] at hi
  have l1:=rs.length
  have l2:=rs2.length
  exact ⟨vs,us,(aC (st.vis _ _ g)).2,(aC (st.vis _ _ g2)).2,by omega,by omega,by omega⟩
theorem yq {es:List Expr} {kk:Nat} {tp:Pos} {a b:Expr} {xa:XA} {p pos:Pos} (hg:Gl X "zip") (hm:X.mg "zip"=none) (ha:RA X WE [a,b] xa) (hb:bootBuiltins "zip"=some (.type "zip"):=by decide +kernel)
  (hs:starEach [a,b] X.env=[(false,eval a X.env),(false,eval b X.env)]:=by rfl) (hs2:starEach [b] X.env=[(false,eval b X.env)]:=by rfl):RI X WE (.Tuple es kk tp) (.Call (.Name "zip" p) [a,b] [] pos) (iZp xa):=⟨by
 intro pins s σ H R I h
 obtain ⟨μ,S,τ,hr,sr,pp⟩:=h
 refine Call_ (b7 I hg hm hb (PyProof.Rows.callWith_type1 (thn (ha.h pos pins s σ H (fun vs H1=>∃ μ1 S1 zs,HR μ1 S1 H1∧bx X.K X.mg μ1 S1 H1 vs zs∧aK (eK X.K X.mg) WE μ1 S1 H1 (v_ zs S1) R) I ?_) fun us s1 ⟨vs,H1,I1,r1,q1⟩=>?_) (by rw [hs,hs2]) (by rw [hs2];rfl)))
 ·exact ⟨μ,S,τ,hr,sr,pp.bind fun v x S1 μ1 H1 st1 r1 p1=>⟨μ1,S1,x,st1.hr,r1,p1⟩⟩
 ·obtain ⟨μ1,S1,zs,hr1,rz,p1⟩:=q1
  have fp:∀ b∈[s1.heap.objs.size+4,s1.heap.objs.size+2,s1.heap.objs.size+3,s1.heap.objs.size,s1.heap.objs.size+1],s1.heap.objs.size≤b:=by
   intro b hb
   simp only [List.mem_cons,List.not_mem_nil,or_false] at hb
   rcases hb with z | z | z | z | z<;>rw [z]
   ·exact Nat.le_add_right _ _
   ·exact Nat.le_add_right _ _
   ·exact Nat.le_add_right _ _
   ·exact Nat.le_refl _
   ·exact Nat.le_add_right _ _
  unfold v_ at p1
  split at p1
  ·rename_i xs ys
   cases rz with
   | cons q1 q2=>cases q2 with
    | cons q2 q3=>
     cases q3
     obtain ⟨u1,u2,rfl,ru,rw'⟩:=r1.two
     cases (show Rep (vh μ1 S1 H1) _ (.tup _) from q1) with
     | @tup t vs1 _ g rs=>
      cases (show Rep (vh μ1 S1 H1) _ (.tup _) from q2) with
      | @tup u vs2 _ g2 rs2=>
       cases ru;cases rw'
       obtain ⟨its,rv,pl,hz⟩:=I1.tuple (SqT.of (aC g).2)
       obtain ⟨its2,rv2,pl2,hz2⟩:=I1.tuple (SqT.of (aC g2).2)
       have q:=p1.here hr1 (Dl g rs g2 rs2 hz)
       refine oQ pl pl2 fun h' z1 z2 z3 z4 z5 hk=>?_
       refine wpAny_pyIter_zip (s:={ s1 with heap:=h' }) z1 ?_
       have I2:Inv X pins σ H1 { s1 with heap:=h' }:=I1.kept (t':=s1.toks) hk
       exact ⟨s1.heap.objs.size+4,_,_,_,H1,rfl,I2,zS t u s1.heap.objs.size,⟨z1,z2,⟨_,_,z3⟩,z4,z5⟩,fun b hb=>I1.jk (fp b hb) (I1.hok.fresh (fp b hb)),q⟩
  ·rename_i xs ys
   cases rz with
   | cons q1 q2=>cases q2 with
    | cons q2 q3=>
     cases q3
     obtain ⟨u1,u2,rfl,ru,rw'⟩:=r1.two
     cases (show Rep (vh μ1 S1 H1) _ (.lst _) from q1) with
     | @lst t vs1 _ g rs=>
      cases (show Rep (vh μ1 S1 H1) _ (.tup _) from q2) with
      | @tup u vs2 _ g2 rs2=>
       cases ru;cases rw'
       obtain ⟨its,rv,pl,hz⟩:=I1.list (SqL.of (aC g).2)
       obtain ⟨its2,rv2,pl2,hz2⟩:=I1.tuple (SqT.of (aC g2).2)
       have q:=p1.here hr1 (Ct g rs g2 rs2 hz)
       refine wR pl.isList pl2 fun h' z1 z2 z3 z4 z5 hk=>?_
       refine wpAny_pyIter_zip (s:={ s1 with heap:=h' }) z1 ?_
       have I2:Inv X pins σ H1 { s1 with heap:=h' }:=I1.kept (t':=s1.toks) hk
       exact ⟨s1.heap.objs.size+4,_,_,_,H1,rfl,I2,yS t u s1.heap.objs.size,⟨z1,z2,⟨_,_,z3⟩,z4,z5⟩,fun b hb=>I1.jk (fp b hb) (I1.hok.fresh (fp b hb)),q⟩
  ·exact p1.elim⟩
end
def xLf (f:List D→D→Sto→R Vl) (o e:XE):XE:=fun τ S=>(o τ S).bind fun x S1=>match x with
 | .d (.lst xs)=>(e τ S1).bind fun y S2=>(match y with
  | .d z=>f xs z S2
  | _=>.bad)
 | _=>.bad
def Ep (xs:List D) (z:D) (S:Sto):R Vl:=match z,intsOf xs with
 | .int k,some ns=>.ok (.d (.int (ns.count k:Nat))) S
 | _,_=>.bad
def gJ (tb:List (Str×XF)) (i:Nat) (as:XA):XE:=fun τ S=>match τ[i]? with
 | some (some (.fn nm))=>(match tb.lookup nm with
  | some F=>az F as τ S
  | none=>.bad)
 | _=>.bad
def u6 (P:Program) (w:World) (K:PySem.W.Frag) (mg:Str→Option Value) (lev:Nat) (tb:List (Str×XF)):Prop:=∀ nm F,tb.lookup nm=some F→∃ ps,OkE P w K mg lev nm ps F
theorem xG {P:Program} {w:World} {K:PySem.W.Frag} {mg:Str→Option Value} {lev:Nat}:u6 P w K mg lev []:=fun _ _ h=>by cases h
theorem uf {P:Program} {w:World} {K:PySem.W.Frag} {mg:Str→Option Value} {lev l0:Nat} {nm0:Str} {ps:List Str} {F0:XF} {tb:List (Str×XF)} (h:OkE P w K mg l0 nm0 ps F0) (h':u6 P w K mg lev tb) (hl:l0≤lev:=by decide):u6 P w K mg lev ((nm0,F0) :: tb):=by
 intro nm F e
 rw [List.lookup_cons] at e
 split at e
 ·rename_i q
  cases e
  obtain rfl:nm=nm0:=eq_of_beq q
  obtain ⟨f,fd,a,b,c,d⟩:=h
  exact ⟨ps,f,fd,a,b,c,fun base=>(d base).mono hl⟩
 ·exact h' nm F e
section
variable {X:Cx} {WE:WX} {i k lev j:Nat} {x:Str} {p pos:Pos} {e:Expr} {es:List Expr} {t:TA} {E:XK}
theorem y_ (hr:cn k X.A) (hN:X.N[i]?=some x) (hv:Vis X.env.scope x) (hd:(x == ("__debug__":Str))=false) (hcd:(x == ("__classdict__":Str))=false) (hx:Passes CX0 X E) (ha:PA X (e :: es) t) (he:starEach (e :: es) X.env=(false,eval e X.env) :: starEach es X.env) (hpl:(backTo pos (starEach es X.env)).any (·.1)=false) :
  PE X (.Call (.Name x p) (e :: es) [] pos) (fun σ H Q=>∃ f fd ps sp,σ[i]?=some (some (.ref f))∧PySem.W.keepIn X.K (.ref f)=true∧Binds X.K fd ps []∧du X.prog X.w X.K X.mg X.base CX0 k f fd ps sp∧A7 sp [] E t σ H Q):=by
 intro pins s σ H Q I h
 obtain ⟨f,fd,ps,sp,hs,hk,hb,F,h⟩:=h
 refine wpAny_Call_Name_kw (thn (xR hN hv hd hcd pins s σ H (fun v H1=>v=.ref f∧H1=H) I ⟨_,hs,rfl,rfl⟩) fun u s1 ⟨w,H1,I1,rw',ew,eH⟩=>?_)
 subst ew eH
 obtain rfl:u=Value.ref f:=rw'
 refine PySem.W.callWith_K (h₀:=X.base) I1.ok.mod.kin hk (thn (ha pos pins s1 σ H1 _ I1 h) fun us s2 ⟨vs,H2,I2,r,q⟩=>⟨I2.kIn,?_⟩) he hpl
 exact xW F hr hb .nil hx I2 r q
theorem xP {st:Stmt} (D:Df X.K X.mg x st) (hg:Gl X x:=by exact rfl) (hd:(x == ("__debug__":Str))=false:=by decide):RE X WE (.Name x pos) (xFn x):=by
 obtain ⟨f,fd,F,hm⟩:=D
 exact Gq hg hm hd
theorem qu {tb:List (Str×XF)} {ts:XA} [n:NS e] (G:u6 X.prog X.w X.K X.mg j tb) (hr:cn j X.A) (ha:RA X WE (e :: es) ts) (hN:X.N[i]?=some x:=by exact rfl) (hv:Vis X.env.scope x:=by first | exact Or.inl rfl | exact Or.inr (Or.inl rfl) | exact Or.inr (Or.inr rfl))
  (hd:(x == ("__debug__":Str))=false:=by decide) (hcd:(x == ("__classdict__":Str))=false:=by decide) (hpl:(backTo pos (starEach es X.env)).any (·.1)=false:=by rfl):RE X WE (.Call (.Name x p) (e :: es) [] pos) (gJ tb i ts):=
 ⟨(y_ hr hN hv hd hcd Br ha.h (n.eq es X.env) hpl).weak fun σ H Q ⟨μ,S,τ,hr,sr,p⟩=>by
  unfold gJ at p
  split at p
  ·rename_i nm e1
   split at p
   ·rename_i F e2
    obtain ⟨v,hs,f,hm,rfl⟩:=sr.get _ _ e1
    obtain ⟨ps,f',fd,hm',hk,hb,G'⟩:=G nm F e2
    obtain rfl:f'=f:=Value.ref.inj (Option.some.inj (hm'.symm.trans hm))
    exact ⟨f',fd,ps,_,hs,hk,.all hb,G' X.base,μ,S,τ,hr,sr,p.bind fun vs xs S1 μ1 H1 st1 r1 p1=>by
     rw [List.append_nil]
     exact ⟨μ1,S1,xs,st1.hr,r1,p1.noX⟩⟩
   ·exact p.elim
  ·exact p.elim⟩
end
def IY (xs:List Vl) (S:Sto):R Vl:=match xs with
 | [.d (.int i)]=>.ok (.d (.int i)) S
 | [.d (.bl k)]=>.ok (.d (.int (if k then 1 else 0))) S
 | _=>.bad
theorem Dk {tb:List (Str×XF)} {i:Nat} {as:XA} {τ:Nv} {S:Sto} {nm:Str} {F:XF} (h1:τ[i]?=some (some (.fn nm))) (h2:tb.lookup nm=some F):gJ tb i as τ S=az F as τ S:=by
 unfold gJ
 rw [h1]
 dsimp only
 rw [h2]
theorem DW {k:Bool} {S:Sto}:IY [.d (.bl k)] S=.ok (.d (.int (if k then 1 else 0))) S:=ae rfl
def gX:D→Option Key
 | .int i=>some (.inl i)
 | .str x=>some (.inr x)
 | _=>none
def kD:Key→D
 | .inl i=>.int i
 | .inr x=>.str x
def js (x:Vl) (S:Sto):Option (List (Key×D)):=match x with
 | .fd kvs=>some kvs
 | .r n=>(match S[n]? with
  | some (.dct kvs)=>some kvs
  | _=>none)
 | _=>none
def e_ (kvs:List (Key×D)) (k:Key):Option D:=(kvs.find? fun kv=>decide (kv.1=k)).map (·.2)
def putD (kvs:List (Key×D)) (k:Key) (v:D):List (Key×D):=
 if (kvs.any fun kv=>decide (kv.1=k))=true then kvs.map (fun kv=>if kv.1=k then (kv.1,v) else kv) else kvs++[(k,v)]
section
variable {G:Hp}
theorem l7 {p:Key×D} {r:List (Key×D)} {k:Key} (e:p.1=k):e_ (p :: r) k=some p.2:=by simp [e_,List.find?_cons,e]
theorem i0 {p:Key×D} {r:List (Key×D)} {k:Key} (e:¬p.1=k):e_ (p :: r) k=e_ r k:=by simp [e_,List.find?_cons,e]
theorem qW (k:Key):∀ {kvs:List (Key×D)} {vs:List V},av G vs (kvs.map (·.2))→(e_ kvs k=none∧fQ ((kvs.map (·.1)).zip vs) k=none)∨∃ d v,e_ kvs k=some d∧fQ ((kvs.map (·.1)).zip vs) k=some v∧Rep G v d
 | [],_,.nil=>.inl ⟨rfl,rfl⟩
 | p :: r,_,.cons (v:=v) (vs:=vs) h t=>by
  by_cases e:p.1=k
  ·exact .inr ⟨p.2,v,l7 e,iV (p:=(p.1,v)) e,h⟩
  ·rcases qW k (kvs:=r) t with ⟨h1,h2⟩ | ⟨d,u,h1,h2,h3⟩
   ·exact .inl ⟨by rw [i0 e];exact h1,(gu (p:=(p.1,v)) e).trans h2⟩
   ·exact .inr ⟨d,u,by rw [i0 e];exact h1,(gu (p:=(p.1,v)) e).trans h2,h3⟩
theorem wA (k:Key):∀ {kvs:List (Key×D)} {vs:List V},av G vs (kvs.map (·.2))→(((kvs.map (·.1)).zip vs).any fun kv=>decide (kv.1=k))=kvs.any fun kv=>decide (kv.1=k)
 | [],_,.nil=>rfl
 | p :: r,_,.cons h t=>by
  rw [List.map_cons,List.zip_cons_cons,List.any_cons,List.any_cons,wA k (kvs:=r) t]
theorem wo (k:Key) {v:V} {d:D} (rv:Rep G v d):∀ {kvs:List (Key×D)} {vs:List V},av G vs (kvs.map (·.2))→∃ ws,ws.length=kvs.length ∧
  ((kvs.map (·.1)).zip vs).map (fun kv=>if kv.1=k then (kv.1,v) else kv)=((kvs.map fun kv=>if kv.1=k then (kv.1,d) else kv).map (·.1)).zip ws∧av G ws ((kvs.map fun kv=>if kv.1=k then (kv.1,d) else kv).map (·.2))
 | [],_,.nil=>⟨[],rfl,rfl,.nil⟩
 | p :: r,_,.cons (v:=u) (vs:=us) h t=>by
  obtain ⟨ws,l,e,rs⟩:=wo k rv (kvs:=r) t
  by_cases q:p.1=k
  ·refine ⟨v :: ws,by simp [l],?_,?_⟩
   ·rw [List.map_cons,List.zip_cons_cons,List.map_cons,e,List.map_cons,List.map_cons,List.zip_cons_cons,if_pos q,if_pos q]
   ·rw [List.map_cons,List.map_cons,if_pos q];exact .cons rv rs
  ·refine ⟨u :: ws,by simp [l],?_,?_⟩
   ·rw [List.map_cons,List.zip_cons_cons,List.map_cons,e,List.map_cons,List.map_cons,List.zip_cons_cons,if_neg q,if_neg q]
   ·rw [List.map_cons,List.map_cons,if_neg q];exact .cons h rs
theorem xH (k:Key) {v:V} {d:D} (rv:Rep G v d) {kvs:List (Key×D)} {vs:List V} (rs:av G vs (kvs.map (·.2))):∃ ws,ws.length=(putD kvs k d).length ∧
  putK ((kvs.map (·.1)).zip vs) k v=((putD kvs k d).map (·.1)).zip ws∧av G ws ((putD kvs k d).map (·.2)):=by
 unfold putK putD
 rw [wA k rs]
 by_cases a:(kvs.any fun kv=>decide (kv.1=k))=true
 ·rw [if_pos a,if_pos a]
  obtain ⟨ws,l,e,r⟩:=wo k rv rs
  exact ⟨ws,by simp [l],e,r⟩
 ·rw [if_neg a,if_neg a]
  have lv:vs.length=kvs.length:=by have:=rs.length;simpa using this
  refine ⟨vs++[v],by simp [lv],?_,?_⟩
  ·rw [List.map_append,List.zip_append (by simp [lv])]
   rfl
  ·rw [List.map_append];exact rs.append (.cons rv .nil)
theorem iJ {G:Hp} {v:V} {x:D} {k:Key} (r:Rep G v x) (e:gX x=some k):v=kV k:=by
 unfold gX at e
 split at e
 ·cases e;cases r;rfl
 ·cases e;cases r;rfl
 ·cases e
theorem FE {G:Hp} (k:Key):Rep G (kV k) (kD k):=by
 cases k with
 | inl i=>exact Rep.int i
 | inr x=>exact Rep.str x
end
section
variable {K:PySem.W.Frag} {mg:Str→Option Value} {μ:Nat→Addr} {S:Sto} {H:Hp} {v:V} {x:Vl} {kvs:List (Key×D)} {WE:WX} {Q:VK}
theorem qK (hr:HR μ S H) (r:aP K mg μ S H v x) (e:js x S=some kvs):∃ a vs,v=.ref a∧Rd H a (.dK ((kvs.map (·.1)).zip vs))∧av (vh μ S H) vs (kvs.map (·.2)):=by
 unfold js at e
 split at e
 ·cases e
  obtain ⟨a,vs,o,rfl,l,h,rs⟩:=r
  exact ⟨a,vs,rfl,.inr ⟨o,(aC h).2⟩,rs⟩
 ·split at e
  ·rename_i q
   cases e
   obtain ⟨rfl,hn⟩:=r
   obtain ⟨vs,l,h,rs⟩:=hr.ob _ _ q
   exact ⟨_,vs,rfl,.inl h,rs⟩
  ·cases e
 ·cases e
end
def oDx (x y:Vl) (S:Sto):R Vl:=match y with
 | .d yd=>(match gX yd,js x S with
  | some k,some kvs=>(match e_ kvs k with
   | some z=>.ok (.d z) S
   | none=>.bad)
  | _,_=>.bad)
 | _=>.bad
def vj:XE:=fun _ S=>.ok (.r S.length) (S++[.dct []])
def qf (o i e:XE):XS:=fun τ S=>(e τ S).bind fun z S1=>(o τ S1).bind fun x S2=>(i τ S2).bind fun y S3=>match x,y,z with
 | .r n,.d yd,.d zd=>(match gX yd,S3[n]? with
  | some k,some (.dct kvs)=>if kvs.length < 100000 then .ok (.nx,τ) (S3.set n (.dct (putD kvs k zd))) else .bad
  | _,_=>.bad)
 | _,_,_=>.bad
def qm (d k e:XE):XE:=fun τ S=>(d τ S).bind fun x S1=>if (js x S1).isSome=true then (k τ S1).bind fun y S2=>(e τ S2).bind fun z S3=>(match y,z with
 | .d yd,.d zd=>(match gX yd,js x S3 with
  | some k,some kvs=>.ok (.d ((e_ kvs k).getD zd)) S3
  | _,_=>.bad)
 | _,_=>.bad) else .bad
def qR (e:XE):XI:=fun τ S=>(e τ S).bind fun z S1=>match z with
 | .fd kvs=>.ok ⟨kvs.map fun kv=>Vl.d (kD kv.1),none⟩ S1
 | _=>.bad
section
variable {X:Cx} {WE:WX} {a b c e:Expr} {xa xb xc xe:XE} {pos:Pos}
theorem Be (hu:X.A.units+64 < cLine) (ha:RE X WE a xa) (hb:RE X WE b xb) (hs:A1 b:=by exact fun _ _=>rfl):RE X WE (.Subscript a b pos) (xOp oDx xa xb):=
 ⟨(B3 (by omega) ha.h hb.h hs).weak fun σ H Q h=>by
  refine (two (X:=X) (r:=fun x y H2 Q=>∃ a v,x=.ref a∧nX H2 a y (some v)∧Q v H2) ?_ h:_)
  intro WE μ S H v w x y Q hr rx ry p
  unfold oDx at p
  split at p
  ·split at p
   ·rename_i k kvs hk hd
    obtain ⟨a,vs,rfl,rd,rs⟩:=qK hr rx hd
    split at p
    ·rename_i z hz
     rcases qW k rs with ⟨h1,_⟩ | ⟨d,u,h1,h2,h3⟩
     ·rw [h1] at hz;cases hz
     ·rw [h1] at hz;cases hz
      rw [iJ ry hk]
      exact ⟨a,u,rfl,.inl ⟨_,k,rd,rfl,h2.symm⟩,p.here hr h3⟩
    ·exact p.elim
   ·exact p.elim
  ·exact p.elim⟩
theorem BL:RE X WE (.Dict [] [] pos) vj:=
 ⟨AM.weak fun σ H Q ⟨μ,S,τ,hr,sr,p⟩ q hq=>p _ _ _ (Step.alloc hr hq (ob:=.dct []) ⟨[],rfl,rfl,.nil⟩) ⟨by rw [cg],by simp⟩⟩
theorem Cn {pos':Pos} (hu:X.A.units+64 < cLine) (ho:RE X WE a xa) (hi:RE X WE b xb) (hv:RE X WE c xc) (hs:swapsWith c (some (.Subscript a b pos')) pos.line X.env=pure false:=by rfl) :
  RS X WE (.Assign [.Subscript a b pos'] c pos) (qf xa xb xc):=
 ⟨(Cq (by omega) ho.h hi.h hv.h hs).weak fun D σ H ⟨μ,S,τ,hr,sr,p⟩=>⟨μ,S,τ,hr,sr,p.bind fun w z S1 μ1 H1 st1 r1 p1=>⟨μ1,S1,τ,st1.hr,sr.step st1,p1.bind fun v x S2 μ2 H2 st2 r2 p2=>⟨μ2,S2,τ,st2.hr,sr.step (st1.trans st2),p2.bind fun u y S3 μ3 H3 st3 r3 p3=>by
  have rw':=r1.step (st2.trans st3)
  have rv:=r2.step st3
  try dsimp only at p3
  split at p3
  ·split at p3
   ·rename_i k kvs hk e
    split at p3
    ·rename_i hl
     obtain ⟨rfl,hn⟩:=rv
     obtain ⟨vs,l,h,rs⟩:=st3.hr.ob _ _ e
     rw [iJ r3 hk]
     obtain ⟨ws,lw,e2,rs2⟩:=xH k rw' rs
     refine ⟨_,_,rfl,sd.k h ?_,?_⟩
     ·rw [List.length_zip,List.length_map,l,Nat.min_self]
      exact Nat.lt_of_lt_of_le hl (by rw [sizeLine_eq];decide)
     ·have st4:=Step.put st3.hr e (by simp) (ob:=.dct (putD kvs k _)) ⟨ws,lw,rfl,rs2⟩
      rw [← e2] at st4
      exact (show Ends.at D (FlV.nx,σ) _ from p3 (FlV.nx,σ) _ _ st4 ⟨sr.step (st1.trans (st2.trans (st3.trans st4))),True.intro⟩)
    ·exact p3.elim
   ·exact p3.elim
  ·exact p3.elim⟩⟩⟩⟩
theorem Ce {apos cpos:Pos} (hu:X.A.units+64 < cLine) (hd:RE X WE a xa) (hk:RE X WE b xb) (he:RE X WE c xc)
  (m:M2 X a "get" apos b c cpos:=by exact ⟨rfl,rfl,rfl,rfl⟩):RE X WE (.Call (.Attribute a "get" apos) [b,c] [] cpos) (qm xa xb xc):=
 ⟨(zJ (by omega) hd.h hk.h he.h m).weak fun σ H Q ⟨μ,S,τ,hr,sr,p⟩=>⟨μ,S,τ,hr,sr,p.bind fun v x S1 μ1 H1 st1 r1 p1=>by
  try dsimp only at p1
  split at p1
  ·rename_i hs
   obtain ⟨kvs,hd⟩:=Option.isSome_iff_exists.mp hs
   obtain ⟨a,vs,rfl,rd,rs⟩:=qK st1.hr r1 hd
   refine ⟨a,rfl,.inl ⟨_,rd⟩,μ1,S1,τ,st1.hr,sr.step st1,p1.bind fun u y S2 μ2 H2 st2 r2 p2=>⟨μ2,S2,τ,st2.hr,sr.step (st1.trans st2),p2.bind fun w z S3 μ3 H3 st3 r3 p3=>?_⟩⟩
   try dsimp only at p3
   split at p3
   ·split at p3
    ·rename_i k kvs' hk hd'
     obtain ⟨a',vs',ea,rd',rs'⟩:=qK st3.hr (r1.step (st2.trans st3)) hd'
     cases ea
     rw [iJ (r2.step st3) hk]
     refine ⟨_,.inl ⟨_,k,rd',rfl,rfl⟩,?_⟩
     rcases qW k rs' with ⟨h1,h2⟩ | ⟨d,u,h1,h2,h3⟩
     ·rw [h2];rw [h1] at p3;exact p3.here st3.hr r3
     ·rw [h2];rw [h1] at p3;exact p3.here st3.hr h3
    ·exact p3.elim
   ·exact p3.elim
  ·exact p1.elim⟩⟩
end
def Itd (d:Addr) (o:Obj):It:=
 ⟨fun i H=>∃ kvs,H d=some (.frz o (.dK kvs))∧i < kvs.length,fun i H x H'=>H'=H∧∀ kvs,H d=some (.frz o (.dK kvs))→∃ k v,kvs[i]?=some (k,v)∧x=kV k,fun i H=>∃ kvs,H d=some (.frz o (.dK kvs))∧kvs.length=i⟩
theorem yK {P:Program} {w:World} {k:Key} {u:Value} (h:(aR P w).is k u=true):RelV (kV k) u:=by
 rcases bR h with ⟨i,t,rfl,rfl⟩ | ⟨x,t,rfl,rfl⟩
 ·exact ⟨t,rfl⟩
 ·exact ⟨t,rfl⟩
theorem KV.get {kvs:List (Key×V)} {vs:List (Key×Value)} (r:KV kvs vs) {i:Nat} {k:Key} {x:Value} (e:vs[i]?=some (k,x)):∃ v,kvs[i]?=some (k,v):=by
 unfold KV at r
 induction r generalizing i with
 | nil=>simp at e
 | @cons p q ps qs h t ih=>
  cases i with
  | zero=>simp at e;subst e;exact ⟨p.2,by rw [show p=(k,p.2) from Prod.ext h.1 rfl];rfl⟩
  | succ i=>simpa using ih (by simpa using e)
theorem nH {P:Program} {w:World} {H:Hp} {h:Heap} {d:Addr} {o:Obj} {es:Array DictEntry} {ep:Nat} {kvs:List (Key×V)} (ok:HOk P w H h) (hd:o.data=.dict es ep) (e:H d=some (.frz o (.dK kvs))) :
  (d == sysModules)=false∧kvs.length≤sizeLine∧kvs.length=es.size∧∃ vs,KV kvs vs∧h.DictAt (aR P w) d vs ep:=by
 obtain ⟨e1,z1,z2,vs,rel,o',es',ep',e2,c,hd',ks,ps,nd⟩:=ok d _ e
 rw [e1] at e2
 cases e2
 rw [hd] at hd'
 cases hd'
 exact ⟨z2,z1,by rw [rel.length,← ps.length];simp,vs,rel,o,es,e1,c,hd,ks,ps,nd⟩
theorem wH {P:Program} {w:World} {K:PySem.W.Frag} {tg:Expr} (d it:Addr) {o:Obj} {es:Array DictEntry} {ep:Nat} (hd:o.data=.dict es ep):Turn P w K tg (Itd d o) [it] it (fun i h=>h.IsKeyIter it d i es.size ep) where
 mem:=by simp
 obj:=fun i h st b hb=>by
  have e:b=it:=by simpa using hb
  subst e
  obtain ⟨o,e,c,d⟩:=st
  exact ⟨o,e,fun v z=>by rw [d] at z;cases z⟩
 keep:=fun i h h' st k=>st.at fun o e=>k it (by simp) o e
 item:=by
  intro X hP hw hK hc i pins s σ H E I hf st hg
  subst hP hw hK
  obtain ⟨kvs,hk,hi⟩:=hg
  obtain ⟨z2,z1,lk,vs,rel,da⟩:=nH I.hok hd hk
  have lv:=rel.length
  obtain ⟨f0,f1,f2,f3,f4,f5⟩:=hf it (by simp)
  have hx:vs[i]?=some ((vs[i]'(by omega)).1,(vs[i]'(by omega)).2):=by rw [List.getElem?_eq_getElem (by omega)]
  refine wpAny_pyNext_dict_item (by rw [← lv,lk];exact st) da hx fun key h' hkey st' sb=>?_
  rw [← lv,lk] at st'
  have I1:Inv X pins σ H { s with heap:=h' }:=I.turned (t':=s.toks) (fun b o hb e=>(sb.2 b hb).trans e) f0 f1 f3 f4 f5
  obtain ⟨o2,e,c,d2⟩:=id st'
  obtain ⟨v,hv⟩:=rel.get hx
  refine ⟨key,rfl,qj (s:={ s with heap:=h' }) e c d2 (by decide) ⟨kV _,H,I1,yK hkey,⟨rfl,fun kvs' hy=>?_⟩,st',fun b hb=>(hf b hb).1⟩⟩
  rw [hk] at hy
  cases hy
  exact ⟨_,v,hv,rfl⟩
 done:=by
  intro X hP hw hK hc i pins s σ H E I hf st hg
  subst hP hw hK
  obtain ⟨kvs,hk,hi⟩:=hg
  obtain ⟨z2,z1,lk,vs,rel,da⟩:=nH I.hok hd hk
  have lv:=rel.length
  obtain ⟨f0,f1,f2,f3,f4,f5⟩:=hf it (by simp)
  exact wpAny_pyNext_dict_end (I.ok.hd hc) (by rw [← lv,lk];exact st) da (by simp;omega) fun h' eb=>⟨rfl,I.turned (t':=s.toks) (fun b o hb e=>eb b o hb e) f0 f1 f3 f4 f5⟩
 self:=fun _ _ _ _ _ st h=>wpAny_pyIter_keyiter st h
section
variable {X:Cx} {WE:WX} {tg l:Expr} {xl:XE}
theorem wZ (hl:RE X WE l xl):RI X WE tg l (qR xl):=⟨by
 intro pins s σ H Rr I h
 obtain ⟨μ,S,τ,hr,sr,p⟩:=h
 refine thn (hl.h pins s σ H _ I ⟨μ,S,τ,hr,sr,p.bind (Q:=fun v H1=>∃ μ1 S1 z,HR μ1 S1 H1∧aP X.K X.mg μ1 S1 H1 v z∧aK (eK X.K X.mg) WE μ1 S1 H1 (match z with
   | .fd kvs=>.ok ⟨kvs.map fun kv=>Vl.d (kD kv.1),none⟩ S1
   | _=>.bad) Rr) fun v x S1 μ1 H1 st1 r1 p1=>⟨μ1,S1,x,st1.hr,r1,p1⟩⟩) fun v s1 ⟨u,H1,I1,ru,μ1,S1,z,hr1,r1,p1⟩=>?_
 split at p1
 ·rename_i kvs
  obtain ⟨a,vs,o,rfl,l,h,rs⟩:=r1
  have hH:=(aC h).2
  cases ru
  obtain ⟨_,_,_,ws,rel,o',es,ep,e2,c,hd,rest⟩:=I1.hok a _ hH
  have e1:s1.heap.get? a=some o:=(I1.hok a _ hH).1
  rw [e1] at e2
  cases e2
  obtain ⟨z2,z1,lk,ws,rel,da⟩:=nH I1.hok hd hH
  have lv:=rel.length
  refine wpAny_pyIter_dict z2 da ?_
  refine ⟨s1.heap.objs.size,[s1.heap.objs.size],_,_,H1,rfl,I1.kept (t':=s1.toks) fun b o e=>Heap.get?_push_of_some _ e,wH a _ hd,⟨_,Heap.get?_push_size _ rfl,rfl,by rw [← lv,lk];rfl⟩,fun b hb=>?_,?_⟩
  ·rw [List.mem_singleton.mp hb]
   exact I1.jk (Nat.le_refl _) (I1.hok.fresh (Nat.le_refl _))
  ·refine p1.here hr1 ⟨True.intro,?_,?_,?_,?_⟩
   ·have:((kvs.map (·.1)).zip vs).length=kvs.length:=by rw [List.length_zip,List.length_map,l,Nat.min_self]
    simp only [List.length_map]
    omega
   ·intro i z μ' S' H' st _ e
    have hi:=(List.getElem?_eq_some_iff.mp e).1
    exact ⟨_,(aC (st.vis _ _ h)).2,by rw [List.length_zip,List.length_map,l,Nat.min_self];simpa using hi⟩
   ·intro i z μ' S' H' x H2 st _ e y
    obtain ⟨rfl,y⟩:=y
    obtain ⟨k,v,e3,rfl⟩:=y _ (aC (st.vis _ _ h)).2
    have hi:=(List.getElem?_eq_some_iff.mp e).1
    simp only [List.length_map] at hi
    rw [List.getElem?_map,List.getElem?_eq_getElem hi] at e
    cases e
    have e4:kvs[i].1=k:=by
     rw [List.getElem?_eq_getElem (by rw [List.length_zip,List.length_map,l,Nat.min_self];exact hi),List.getElem_zip] at e3
     simp only [Option.some.injEq,Prod.mk.injEq,List.getElem_map] at e3
     exact e3.1
    rw [← e4]
    exact ⟨Step.refl st.hr,FE _⟩
   ·intro i μ' S' H' st _ hi
    exact ⟨_,(aC (st.vis _ _ h)).2,by rw [List.length_zip,List.length_map,l,Nat.min_self];simpa using hi⟩
 ·exact p1.elim⟩
end
section
variable {X:Cx}
def xg (N:Nat):List V→Hp→VK→Prop:=fun vs H Q=>∃ (p:Addr) (o:Obj) (kvs:List (Key×V)) (ns:List Int),vs=[.ref p]∧H p=some (.frz o (.dK kvs))∧kvs.map (·.1)=ns.map Sum.inl∧ns.length < N∧∀ (l:Addr) (ms:List Int),H l=none→List.Perm ms ns→ms.Pairwise (·≤·)→Q (.ref l) (upd H l (.lst (ms.map V.int)))
theorem ng:∀ {vs:List Value} {ns:List Int},vs.length=ns.length→(∀ (i:Nat) (v:Value) (n:Int),vs[i]?=some v→ns[i]?=some n→∃ t,v=Value.int n t)→IntsAre vs ns
 | [],[],_,_=>.nil
 | v :: vs,n :: ns,l,h=>by
  obtain ⟨t,rfl⟩:=h 0 v n rfl rfl
  exact .cons n t (ng (by simpa using l) fun i v' n' a b=>h (i+1) v' n' (by simpa using a) (by simpa using b))
theorem vI {N:Nat} (T:kC N) (hN:N≤301) (hc:X.calm=true):bL X (.builtin "sorted") (xg N):=by
 intro pins s σ H xs us Q I r h
 obtain ⟨p,o,kvs,ns,rfl,hH,hk,hl,q⟩:=h
 obtain ⟨u,rfl,rx⟩:=vals1 r
 cases rx
 have hh:=I.ok.hd hc
 obtain ⟨e1,_,_,_,_,o',es,ep,e2,_,hd,_⟩:=I.hok p _ hH
 rw [e1] at e2
 cases e2
 obtain ⟨z2,z1,lk,vs,rel,da⟩:=nH I.hok hd hH
 have lv:=rel.length
 have ln:kvs.length=ns.length:=by have:=congrArg List.length hk;simpa using this
 refine Calls.call_function_entry kind_sorted plain_sorted entry_sorted (args_sorted1 _) ?_
 unfold Builtin.sorted
 refine wpAny_bind ?_
 unfold checkCount
 refine wpAny_ite_false rfl (wpAny_ite_false rfl (wpAny_ite_false rfl (wpAny_pure ?_)))
 refine wpAny_bind (PySem.W.kdu_collect (PySem.W.kdl_dict (knd:=aR X.prog X.w) (kvs:=vs) (ep:=ep) z2) hh da (by omega) fun h1 tk acc hkp hacc=>?_)
 have i1:IntsAre acc.toList ns:=by
  refine ng (by rw [Array.length_toList,hacc.1];omega) fun i v n hv hn=>?_
  obtain ⟨k,x,hx,hi⟩:=hacc.2 i v (by simpa using hv)
  obtain ⟨w,hw⟩:=rel.get hx
  have e3:(kvs.map (·.1))[i]?=some k:=by rw [List.getElem?_map,hw];rfl
  rw [hk,List.getElem?_map,hn] at e3
  have e4:k=Sum.inl n:=(Option.some.inj e3).symm
  subst e4
  exact yK (P:=X.prog) (w:=X.w) hi
 have l0:acc.toList.length=ns.length:=by rw [Array.length_toList,hacc.1];omega
 refine wpAny_bind (wpAny_newList ?_ (by rw [l0];exact Nat.le_of_lt (di (by omega))))
 refine wpAny_bind (wpAny_holding ?_)
 have hat:(h1.push (seqObj "list" acc.toList.toArray 0)).get? h1.objs.size=some (seqObj "list" acc.toList.toArray 0):=Heap.get?_push_size _ rfl
 refine wpAny_call_entry slot_list_sort ⟨_,hat,rfl⟩ entry_list_sort ?_ (args_list_sort _)
 refine T hat i1 (by omega) fun out ms r1 r2 r3=>⟨_,rfl,wpAny_pure ⟨_,rfl,?_⟩⟩
 obtain ⟨c,hc2⟩:=sortedHeap_at (out:=out) hat
 have I1:Inv X pins σ H { s with heap:=h1,toks:=tk }:=I.kept (t':=tk) hkp
 refine ⟨.ref h1.objs.size,_,I1.laid (t':=tk) (a:=h1.objs.size) (o:=.lst (ms.map V.int)) (fun b ob qb=>?_) (Nat.le_refl _) ?_,rfl,q _ ms (I1.hok.fresh (Nat.le_refl _)) r2 r3⟩
 ·have hb:b < h1.objs.size:=Heap.lt_size qb
  rw [sortedHeap_old (Nat.ne_of_lt hb) (by rw [Heap.size_push];exact Nat.lt_succ_of_lt hb)]
  exact Heap.get?_push_of_some _ qb
 ·have hlm:ms.length=ns.length:=r2.length_eq
  exact ⟨by rw [List.length_map];have:(301:Nat)≤sizeLine:=(by decide);omega,out.toList,c,eg r1,by simpa using hc2⟩
end
def ff:List (Key×D)→Option (List Int)
 | []=>some []
 | (.inl i,_) :: r=>(ff r).map (i :: ·)
 | _=>none
theorem mn:∀ {kvs:List (Key×D)} {ns:List Int},ff kvs=some ns→kvs.map (·.1)=ns.map Sum.inl
 | [],_,e=>by cases e;rfl
 | (.inl i,_) :: r,ns,e=>by
  simp only [ff,Option.map_eq_some_iff] at e
  obtain ⟨ms,e1,rfl⟩:=e
  rw [List.map_cons,List.map_cons,mn e1]
 | (.inr _,_) :: r,_,e=>by simp [ff] at e
def kG (N:Nat) (xs:List Vl) (S:Sto):R Vl:=match xs with
 | [.fd kvs]=>(match ff kvs with
  | some ns=>if ns.length < N then .ok (.d (.lst ((sortI ns).map D.int))) S else .bad
  | none=>.bad)
 | _=>.bad
theorem uN {N:Nat} {K:PySem.W.Frag} {mg:Str→Option Value}:fL K mg (xg N) (kG N):=by
 intro WE μ S H vs xs Q hr rs p
 unfold kG at p
 split at p
 ·obtain ⟨v,rfl,r⟩:=rs.one
  split at p
  ·rename_i ns e
   split at p
   ·rename_i hb
    obtain ⟨a,us,o,rfl,l,h,rr⟩:=r
    refine ⟨a,o,_,ns,rfl,(aC h).2,?_,hb,fun l ms hl h1 h2=>?_⟩
    ·rw [List.map_fst_zip (by simp [l])]
     exact mn e
    ·rw [lT h1 h2]
     exact p.kn hr (av.ints _) l hl
   ·exact p.elim
  ·exact p.elim
 ·exact p.elim
def j9:List (XE×XE)→Nv→Sto→R (List (Vl×Vl))
 | [],_,S=>.ok [] S
 | (k,v) :: r,τ,S=>(k τ S).bind fun x S1=>(v τ S1).bind fun y S2=>(j9 r τ S2).bind fun ps S3=>.ok ((x,y) :: ps) S3
def gA:List (Vl×Vl)→Option (List (Key×D))
 | []=>some []
 | (.d x,.d y) :: r=>(match gX x,gA r with
  | some k,some l=>some ((k,y) :: l)
  | _,_=>none)
 | _=>none
def c5 (kvs more:List (Key×D)):List (Key×D):=more.foldl (fun acc kv=>putD acc kv.1 kv.2) kvs
def qg (ms:List (XE×XE)):XE:=fun τ S=>(j9 ms τ (S++[.dct []])).bind fun ps S2=>match gA ps,S2[S.length]? with
 | some l,some (.dct [])=>if l.length≤15 then .ok (.r S.length) (S2.set S.length (.dct (c5 [] l))) else .bad
 | _,_=>.bad
def trP (K:PySem.W.Frag) (mg:Str→Option Value) (WE:WX) (ms:List (XE×XE)):List (TE×TE):=ms.map fun m=>(trE K mg WE m.1,trE K mg WE m.2)
structure RP (X:Cx) (WE:WX) (pos:Pos) (ks:List (Option Expr)) (vs:List Expr) (ms:List (XE×XE)):Prop where
 h:PPs X pos ks vs (trP X.K X.mg WE ms)
section
variable {X:Cx} {WE:WX} {pos:Pos}
theorem DY:RP X WE pos [] [] []:=⟨Dc⟩
theorem C9 {k v:Expr} {ks:List (Option Expr)} {vs:List Expr} {xk xv:XE} {ms:List (XE×XE)} (hk:RE X WE k xk) (hv:RE X WE v xv) (hr:RP X WE pos ks vs ms):RP X WE pos (some k :: ks) (v :: vs) ((xk,xv) :: ms):=⟨AN hk.h hv.h hr.h⟩
inductive ni (K:PySem.W.Frag) (mg:Str→Option Value) (μ:Nat→Addr) (S:Sto) (H:Hp):List (V×V)→List (Vl×Vl)→Prop
 | nil:ni K mg μ S H [] []
 | cons {v w:V} {x y:Vl} {vs:List (V×V)} {xs:List (Vl×Vl)}:aP K mg μ S H v x→aP K mg μ S H w y→ni K mg μ S H vs xs→ni K mg μ S H ((v,w) :: vs) ((x,y) :: xs)
theorem sm {K:PySem.W.Frag} {mg:Str→Option Value}:∀ {ms:List (XE×XE)} {μ:Nat→Addr} {S:Sto} {H:Hp} {σ:St} {τ:Nv} {Q:List (V×V)→Hp→Prop},HR μ S H→bV K mg μ S H σ τ→aK (ni K mg) WE μ S H (j9 ms τ S) Q→ny (trP K mg WE ms) σ H Q
 | [],μ,S,H,σ,τ,Q,hr,sr,p=>p.here hr .nil
 | (k,v) :: r,μ,S,H,σ,τ,Q,hr,sr,p=>by
  refine ⟨μ,S,τ,hr,sr,aK.bind (f:=fun x S1=>(v τ S1).bind fun y S2=>(j9 r τ S2).bind fun ps S3=>.ok ((x,y) :: ps) S3) p fun a x S1 μ1 H1 st1 r1 p1=>⟨μ1,S1,τ,st1.hr,sr.step st1,p1.bind fun b y S2 μ2 H2 st2 r2 p2=>?_⟩⟩
  refine sm (ms:=r) st2.hr (sr.step (st1.trans st2)) (p2.bind fun ps zs S3 μ3 H3 st3 r3 p3=>?_)
  exact p3.here st3.hr (.cons (r1.step (st2.trans st3)) (r2.step st3) r3)
theorem oW {K:PySem.W.Frag} {mg:Str→Option Value} {μ:Nat→Addr} {S:Sto} {H:Hp}:∀ {ps:List (V×V)} {zs:List (Vl×Vl)} {l:List (Key×D)},ni K mg μ S H ps zs→gA zs=some l→∃ vs:List V,vs.length=l.length∧ps=((l.map (·.1)).zip vs).map (fun kv=>(kV kv.1,kv.2))∧av (vh μ S H) vs (l.map (·.2))
 | _,_,_,.nil,e=>by cases e;exact ⟨[],rfl,rfl,.nil⟩
 | _,_,l,.cons (v:=v) (w:=w) (x:=x) (y:=y) r q t,e=>by
  cases x with
  | d x=>
   cases y with
   | d y=>
    simp only [gA] at e
    split at e
    ·rename_i k l' hk hl
     cases e
     obtain ⟨vs,l1,e1,rs⟩:=oW t hl
     exact ⟨w :: vs,by simp [l1],by rw [e1,iJ r hk];rfl,.cons q rs⟩
    ·cases e
   | _=>simp [gA] at e
  | _=>simp [gA] at e
theorem l8 {G:Hp}:∀ {l kvs:List (Key×D)} {vs ws:List V},av G vs (l.map (·.2))→av G ws (kvs.map (·.2))→∃ us,us.length=(c5 kvs l).length∧b4 ((kvs.map (·.1)).zip ws) ((l.map (·.1)).zip vs)=((c5 kvs l).map (·.1)).zip us∧av G us ((c5 kvs l).map (·.2))
 | [],kvs,_,ws,.nil,r=>⟨ws,by have:=r.length;simpa [c5] using this,rfl,r⟩
 | p :: l,kvs,_,ws,.cons (v:=v) (vs:=vs) h t,r=>by
  obtain ⟨us,lu,eu,ru⟩:=xH p.1 h r
  obtain ⟨us2,l2,e2,r2⟩:=l8 (l:=l) (kvs:=putD kvs p.1 p.2) t ru
  refine ⟨us2,l2,?_,r2⟩
  rw [← eu] at e2
  exact e2
theorem BX {ks:List (Option Expr)} {vs:List Expr} {ms:List (XE×XE)} (h:RP X WE pos ks vs ms) (hall:ks.all (·.isSome)=true:=by rfl) (hl:ks.length=vs.length:=by rfl) (h0:ks≠[]:=by exact List.cons_ne_nil _ _) (h15:ks.length≤15:=by decide):RE X WE (.Dict ks vs pos) (qg ms):=
 ⟨(CD h.h hall hl h0 h15).weak fun σ H Q ⟨μ,S,τ,hr,sr,p⟩ a ha=>by
  have st0:Step μ S H (ext μ S.length a) (S++[.dct []]) (upd H a (.dK [])):=Step.alloc hr ha (ob:=.dct []) ⟨[],rfl,rfl,.nil⟩
  refine sm (WE:=WE) st0.hr (sr.step st0) ((p.shift st0).bind fun ps zs S2 μ2 H2 st2 r2 p2=>?_)
  try dsimp only at p2
  split at p2
  ·rename_i l e1 e2
   split at p2
   ·rename_i hl
    have hμ:μ2 S.length=a:=by rw [st2.ag S.length (by simp),cg]
    obtain ⟨ws,lw,e3,rs⟩:=st2.hr.ob _ _ e2
    rw [hμ] at e3
    obtain ⟨vs,lv,rfl,rv⟩:=oW r2 e1
    obtain ⟨us,lu,eu,ru⟩:=l8 (kvs:=[]) (ws:=[]) rv (av.nil (H:=vh μ2 S2 H2))
    refine ⟨by simpa using e3,_,rfl,?_,?_⟩
    ·rw [List.length_zip,List.length_map,lv,Nat.min_self];exact hl
    ·have st3:=Step.put st2.hr e2 (by simp) (ob:=.dct (c5 [] l)) ⟨us,lu,rfl,ru⟩
     rw [hμ,← eu] at st3
     exact p2 _ _ _ st3 ⟨by rw [hμ],by rw [List.length_set];have:=st2.le;simp at this;omega⟩
   ·exact p2.elim
  ·exact p2.elim⟩
end
def mkP (xs:List Vl) (S:Sto):R Vl:=match xs with
 | [.d x,.r n]=>(match S[n]? with
  | some (.lst _)=>.ok (.pr x n) S
  | _=>.bad)
 | xs=>mkT xs S
def dj (x y:Vl) (S:Sto):R Vl:=match x,y with
 | .pr d _,.d (.int 0)=>.ok (.d d) S
 | .pr _ n,.d (.int 1)=>.ok (.r n) S
 | x,y=>oIx x y S
def mF (xs:List Vl) (S:Sto):R Vl:=match xs with
 | [.pr _ _]=>.ok (.d (.int 2)) S
 | xs=>bG xs S
def ll (T:String) (x:Vl) (S:Sto):R Vl:=match x with
 | .pr d n=>(match S[n]? with
  | some (.lst xs)=>.ok (.d (.bl (isT T (.tup [d,.lst xs])))) S
  | _=>.bad)
 | x=>dI T x S
section
variable {X:Cx} {WE:WX} {e:Expr} {es:List Expr} {pos:Pos} {K:PySem.W.Frag} {mg:Str→Option Value}
theorem t7 {ts:XA} {k:Nat} (h:RA X WE es ts):RE X WE (.Tuple es k pos) (xN mkP ts):=
 ⟨(yJ h.h).weak fun σ H Q ⟨μ,S,τ,hr,sr,p⟩=>⟨μ,S,τ,hr,sr,p.bind fun vs xs S1 μ1 H1 st1 r1 p1=>by
  unfold mkP at p1
  split at p1
  ·split at p1
   ·rename_i x n _ ys e
    cases r1 with
    | @cons u0 _ _ _ a r1=>cases r1 with
     | cons b r1=>
      cases r1
      obtain ⟨rfl,hn⟩:=b
      refine ⟨by show 2≤sizeLine;decide,fun q hq=>?_⟩
      have st:=Step.new st1.hr hq (.tup [u0,.ref (μ1 n)])
      exact p1 _ μ1 _ st ⟨q,_,rfl,bF bO (st1.hr.nal hq),Rep.mono st.vis a,hn⟩
   ·exact p1.elim
  ·unfold mkT at p1
   split at p1
   ·rename_i ds e
    split at p1
    ·have rs:=eC r1 e
     refine ⟨iz (by rw [rs.length];assumption),fun q hq=>p1.vH st1.hr rs q hq⟩
    ·exact p1.elim
   ·exact p1.elim⟩⟩
theorem C5:cL K mg zw dj:=by
 intro WE μ S H v w x y Q hr rx ry p
 unfold dj at p
 split at p
 ·obtain ⟨a,u,rfl,h,ru,hn⟩:=rx
  rw [aY ry]
  exact ⟨a,_,_,u,rfl,rfl,mx (aC h).2,rfl,p.here hr ru⟩
 ·obtain ⟨a,u,rfl,h,ru,hn⟩:=rx
  rw [aY ry]
  exact ⟨a,_,_,_,rfl,rfl,mx (aC h).2,rfl,p.here hr ⟨rfl,hn⟩⟩
 ·exact wW WE μ S H v w x y Q hr rx ry p
theorem gK {a b:Expr} {xa xb:XE} (ha:RE X WE a xa) (hb:RE X WE b xb) (hs:nV b:=by exact fun _ _=>rfl):RE X WE (.Subscript a b pos) (xOp dj xa xb):=⟨(Bg DQ ha.h hb.h hs).weak fun _ _ _ h=>two (X:=X) C5 h⟩
theorem wx:fL K mg vq mF:=by
 intro WE μ S H vs xs Q hr rs p
 unfold mF at p
 split at p
 ·obtain ⟨v,rfl,r⟩:=rs.one
  obtain ⟨a,u,rfl,h,ru,hn⟩:=r
  exact ⟨a,_,rfl,mx (aC h).2,p.here hr (Rep.int _)⟩
 ·exact a_ WE μ S H vs xs Q hr rs p
theorem v3 {xa:XE} {nm:Str} {T:String} {p p2 pos:Pos} [n:NS e] (hm:X.mg "isinstance"=none) (hm2:X.mg nm=none) (hv:bootBuiltins nm=some (.type T)) (ha:RE X WE e xa) (hg:Gl X "isinstance":=by exact rfl) (hg2:Gl X nm:=by exact rfl) (ho:okT T=true:=by exact rfl)
  (hn:nm≠"__name__":=by decide) (hd:(nm == ("__debug__":Str))=false:=by decide) (hb:bootBuiltins "isinstance"=some (.builtin "isinstance"):=by decide +kernel)
  (hs2:starEach [.Name nm p2] X.env=(false,eval (.Name nm p2) X.env) :: starEach [] X.env:=by rfl) (hpl:(backTo pos (starEach [.Name nm p2] X.env)).any (·.1)=false:=by rfl) :
  RE X WE (.Call (.Name "isinstance" p) [e,.Name nm p2] [] pos) (xUn (ll T) xa):=
 ⟨(oS hg hm hg2 hm2 hv ho ha.h hn hd hb (n.eq _ X.env) hs2 hpl).weak fun σ H Q ⟨μ,S,τ,hr,sr,p⟩=>⟨μ,S,τ,hr,sr,p.bind fun v x S1 μ1 H1 st1 r1 p1=>by
  unfold ll at p1
  split at p1
  ·split at p1
   ·rename_i e
    obtain ⟨a,u,rfl,h,ru,hn⟩:=r1
    obtain ⟨vs,h2,rs⟩:=st1.hr.ob _ _ e
    exact ⟨_,Rep.tup (aC h).2 (.cons (Rep.mono dy ru) (.cons (Rep.lst h2 (rs.mono dy)) .nil)),p1.here st1.hr (Rep.bl _)⟩
   ·exact p1.elim
  ·unfold dI at p1
   split at p1
   ·exact ⟨_,Rep.mono dy r1,p1.here st1.hr (Rep.bl _)⟩
   ·split at p1
    ·rename_i e
     obtain ⟨rfl,hn⟩:=r1
     obtain ⟨vs,h,rs⟩:=st1.hr.ob _ _ e
     exact ⟨_,Rep.lst h (rs.mono dy),p1.here st1.hr (Rep.bl _)⟩
    ·exact p1.elim
   ·exact p1.elim⟩⟩
def vY (o:XE):XE:=fun τ S=>(o τ S).bind fun x S1=>match x with
 | .r n=>(match S1[n]? with
  | some (.lst _)=>.ok (.d .non) (S1.set n (.lst []))
  | _=>.bad)
 | _=>.bad
theorem Ex {o:Expr} {xo:XE} {apos cpos:Pos} (ho:RE X WE o xo)
  (hbase:attributeBase o "clear" X.env (eval o X.env)=eval o X.env:=by rfl) (hline:(apos.endLine == cpos.line)=true:=by rfl):RE X WE (.Call (.Attribute o "clear" apos) [] [] cpos) (vY xo):=
 ⟨(DN PySem.F.plainAttrs_list PySem.F.slot_list_clear PySem.F.type_list_clear (id AK) ho.h hbase hline).weak fun σ H Q ⟨μ,S,τ,hr,sr,p⟩=>⟨μ,S,τ,hr,sr,p.bind fun v x S1 μ1 H1 st1 r1 p1=>by
  try dsimp only at p1
  split at p1
  ·rename_i n
   obtain ⟨rfl,hn⟩:=r1
   split at p1
   ·rename_i xs e
    obtain ⟨vs,h,_⟩:=st1.hr.ob _ _ e
    refine ⟨.inl ⟨rfl,_,SqL.of h⟩,_,vs,rfl,rfl,h,?_⟩
    exact p1 _ _ _ (Step.put st1.hr e (by simp) (ob:=.lst []) ⟨[],rfl,.nil⟩) Rep.non
   ·exact p1.elim
  ·exact p1.elim⟩⟩
end
set_option maxRecDepth 100000
theorem xw (l:Addr) (items:Array Value):Meets (Builtin.«enumerate.__new__» ⟨[.type "enumerate",.ref l],[]⟩) (fun _ R s=>(∃ o,s.heap.get? l=some o∧o.cls=.type "tuple"∧∃ n,o.data=.seq items n) ∧
   R (.ok (.ret (.ref (zT s.heap l).objs.size))) { s with heap:=(zT s.heap l).push { cls:=.type "enumerate",data:=.fields #[.none,.bool false,.ref s.heap.objs.size,rawInt 0,.none,.none] } }):=
 .of_wp fun prog w A R s h=>by
  obtain ⟨hp,g,d,tk,os⟩:=s;obtain ⟨⟨⟨c,dct,dt,sl⟩,hl,hc,n,hd⟩,h⟩:=h
  replace hc:c=.type "tuple":=hc
  replace hd:dt=.seq items n:=hd
  subst hc hd
  have hsub:=sub_enumerate
  have hL:Heap.IsTuple (Shared.heap ⟨hp,g,d,tk,os⟩) l items:=⟨_,hl,rfl,n,rfl⟩
  wp_walk using AutoSeq1.wpAny_loadPart' hl
  refine wpAny_stack_any fun st=>wpAny_pure ?_
  split
  ·rename_i c _ _ _ _ _
   cases (c == Value.type "enumerate")
   ·wp_walk using AutoSeq1.wpAny_loadPart' hl,wpAny_pyIter_tuple hL
    exact ⟨_,rfl,h⟩
   ·wp_walk using AutoSeq1.wpAny_loadPart' hl,wpAny_pyIter_tuple hL
    exact ⟨_,rfl,h⟩
  ·wp_walk using AutoSeq1.wpAny_loadPart' hl,wpAny_pyIter_tuple hL
   exact ⟨_,rfl,h⟩
section
variable {prog:Program} {w:World} {A:Around} {E:Value→Shared→Prop} {s:Shared}
theorem vK {l:Addr} {items:Array Value} {Q:Value→Shared→Prop} (hL:s.heap.IsTuple l items)
  (h:∀ h',IsEnum h' (s.heap.objs.size+1) s.heap.objs.size 0 .none→h'.IsTupleIter s.heap.objs.size l 0→(∀ b o,s.heap.get? b=some o→h'.get? b=some o)→Q (.ref (s.heap.objs.size+1)) { s with heap:=h' }) :
  wpAny (model prog w) A (call (.type "enumerate") [.ref l]) Q E s:=by
 refine callType_new F.called_enumerate (by decide) (F.typeCall_enumerate_1 _) (F.newCall_enumerate_1 _) (fun obj=>F.args_object_init_2 obj _) F.entry_enumerate_new (xw l items) ⟨hL,?_⟩
 have hz:(zT s.heap l).objs.size=s.heap.objs.size+1:=Heap.size_push ..
 have he:((zT s.heap l).push { cls:=.type "enumerate",data:=.fields #[.none,.bool false,.ref s.heap.objs.size,rawInt 0,.none,.none] }).get? (zT s.heap l).objs.size=some { cls:=.type "enumerate",data:=.fields #[.none,.bool false,.ref s.heap.objs.size,rawInt 0,.none,.none] }:=Heap.get?_push_size _ rfl
 show _∧_
 rw [hz] at he ⊢
 exact ⟨⟨_,he,rfl⟩,h _ he ⟨_,Heap.get?_push_of_some _ (Heap.get?_push_size _ rfl),rfl,rfl⟩ fun b o e=>Heap.get?_push_of_some _ (Heap.get?_push_of_some _ e)⟩
end
def E7 (t:Addr):It:=
 ⟨fun i H=>∃ xs x,H t=some (.tup xs)∧xs[i]?=some x,fun i H x H'=>∃ p y,H p=none∧x=.ref p∧H'=upd H p (.tup [.int i,y])∧∀ xs,H t=some (.tup xs)→xs[i]?=some y,fun i H=>∃ xs,H t=some (.tup xs)∧xs.length=i⟩
theorem vi {P:Program} {w:World} {K:PySem.W.Frag} {es:List Expr} {kk:Nat} {tp:Pos} (l e it:Addr) (hne:e≠it) (hle:l≠e) (hli:l≠it) :
  Turn P w K (.Tuple es kk tp) (E7 l) [e,it] e (fun i h=>(∃ old,IsEnum h e it ((i:Nat):Int) old)∧h.IsTupleIter it l i) where
 mem:=by simp
 obj:=fun i h st b hb=>by
  obtain ⟨⟨old,he⟩,hit⟩:=st
  rcases List.mem_cons.mp hb with z | z
  ·subst z;exact ⟨_,he,fun v z=>by
    have z':Data.fields _=Data.cell v:=z
    cases z'⟩
  ·have z:b=it:=List.mem_singleton.mp z
   subst z
   obtain ⟨o,q,_,d⟩:=hit
   exact ⟨o,q,fun v z=>by rw [d] at z;cases z⟩
 keep:=fun i h h' st k=>by
  obtain ⟨⟨old,he⟩,hit⟩:=st
  exact ⟨⟨old,k e (by simp) _ he⟩,hit.at fun o q=>k it (by simp) o q⟩
 item:=by
  intro X hP hw hK hc i pins s σ H E I hf st hg
  subst hP hw hK
  obtain ⟨⟨old,he⟩,hit⟩:=st
  obtain ⟨xs,x,hq,hx⟩:=hg
  obtain ⟨its,rv,p,hz⟩:=I.tuple (SqT.of (K:=X.K) hq)
  obtain ⟨u,hu,ru⟩:=rv.get hx
  have hit':i < its.toArray.size:=by have:=(List.getElem?_eq_some_iff.mp hu).1;simpa using this
  refine wpAny_pyNext_enum_itemD (cT (prog:=X.prog) (w:=X.w) (A:=X.A.in1) (I.ok.hd hc) it l hli its.toArray) he ⟨hit,p⟩ hit' hne (by simp [hne,Ne.symm hle]) fun u' h1 tk hu' ho1 st1 ht1 hz1 hk1=>?_
  have e0:u'=u:=by
   have a1:its[i]?=some u':=by simpa using hu'
   rw [hu] at a1
   exact (Option.some.inj a1).symm
  subst e0
  refine ⟨_,rfl,wpAny_letOwnedTupleGo_enum (s:={ s with heap:=h1,toks:=tk+1 }) ho1 fun h2 he2 hs2=>?_⟩
  have helt:e < s.heap.objs.size:=Heap.lt_size he
  have ht2:h2.get? s.heap.objs.size=some { cls:=.type "tuple",data:=.seq #[.int i tk,u'] }:=hs2.extBut _ _ (Nat.ne_of_gt helt) ht1
  have k2:∀ b o,b∉[e,it]→s.heap.get? b=some o→h2.get? b=some o:=fun b o hb q=>by
   have hb1:b≠e:=fun z=>hb (by simp [z])
   have hb2:b≠it:=fun z=>hb (by simp [z])
   exact hs2.extBut b o hb1 (hk1 b o hb1 hb2 q)
  have I2:Inv X pins σ (upd H s.heap.objs.size (.tup [.int i,x])) { s with heap:=h2,toks:=tk+1 }:=by
   refine I.jf (fp:=[e,it]) (Nat.le_refl _) k2 hf ?_
   exact ⟨by show 2≤sizeLine;decide,[.int i tk,u'],.cons ⟨_,rfl⟩ (.cons ru .nil),⟨_,ht2,rfl,_,rfl⟩⟩
  refine ⟨.ref s.heap.objs.size,_,I2,rfl,⟨s.heap.objs.size,x,I.hok.fresh (Nat.le_refl _),rfl,rfl,fun ys hy=>by rw [hq] at hy;cases hy;exact hx⟩,⟨⟨_,by simpa using he2⟩,?_⟩,fun b hb=>?_⟩
  ·exact st1.1.extBut hs2.extBut (Ne.symm hne)
  ·have hlt:b < s.heap.objs.size:=by
    rcases List.mem_cons.mp hb with z | z
    ·rw [z];exact helt
    ·have z:b=it:=List.mem_singleton.mp z
     subst z
     obtain ⟨o,q,_⟩:=hit
     exact Heap.lt_size q
   rw [aI (Nat.ne_of_lt hlt)]
   exact (hf b hb).1
 done:=by
  intro X hP hw hK hc i pins s σ H E I hf st hg
  subst hP hw hK
  obtain ⟨⟨old,he⟩,hit⟩:=st
  obtain ⟨xs,hq,hx⟩:=hg
  obtain ⟨its,rv,p,hz⟩:=I.tuple (SqT.of (K:=X.K) hq)
  have hl:=rv.length
  obtain ⟨f0,f1,f2,f3,f4,f5⟩:=hf it (by simp)
  exact wpAny_pyNext_enum_endD (cT (prog:=X.prog) (w:=X.w) (A:=X.A.in1) (I.ok.hd hc) it l hli its.toArray) he ⟨by rw [List.size_toArray,← hl,hx];exact hit,p⟩ fun h' eb=>⟨rfl,I.turned (t':=s.toks) (fun b o hb e=>eb b o hb e) f0 f1 f3 f4 f5⟩
 self:=fun _ _ _ _ _ st h=>by
  obtain ⟨⟨old,he⟩,_⟩:=st
  exact wpAny_pyIter_enum he h
def zb (e:XE):XI:=fun τ S=>(e τ S).bind fun z S1=>match z with
 | .d (.tup xs)=>.ok ⟨cm 0 xs,none⟩ S1
 | _=>.bad
section
variable {X:Cx} {WE:WX} {K:PySem.W.Frag} {mg:Str→Option Value} {μ:Nat→Addr} {S:Sto} {H:Hp}
theorem Av {a:Addr} {vs:List V} {xs:List D} (g:vh μ S H a=some (.tup vs)) (rs:av (vh μ S H) vs xs) (hz:vs.length≤sizeLine):eK K mg μ S H (E7 a) ⟨cm 0 xs,none⟩ where
 ok:=True.intro
 len:=by simp only [fI];rw [← rs.length];exact hz
 go:=fun i z μ' S' H' st _ e=>by
  rw [dh] at e
  cases q:xs[i]? with
  | none=>rw [q] at e;cases e
  | some x=>
   obtain ⟨u,e2,_⟩:=rs.get' q
   exact ⟨vs,u,(aC (st.vis _ _ g)).2,e2⟩
 yld:=fun i z μ' S' H' u H2 st _ e y=>by
  obtain ⟨p,w,hp,rfl,rfl,y⟩:=y
  rw [dh] at e
  cases q:xs[i]? with
  | none=>rw [q] at e;cases e
  | some x=>
   rw [q] at e
   cases e
   have e2:=y vs (aC (st.vis _ _ g)).2
   obtain ⟨x',e3,r⟩:=rs.get e2
   rw [q] at e3;cases e3
   have st2:=Step.new st.hr hp (.tup [.int i,w])
   refine ⟨st2,Rep.tup (bF bO (st.hr.nal hp)) (.cons ?_ (.cons (Rep.mono (st.trans st2).vis r) .nil))⟩
   rw [Nat.zero_add]
   exact .int _
 stop:=fun i μ' S' H' st _ hi=>⟨vs,(aC (st.vis _ _ g)).2,by rw [rs.length];rw [fI] at hi;exact hi⟩
end
section
variable {X:Cx} {WE:WX}
theorem Af {es:List Expr} {kk:Nat} {tp:Pos} {l:Expr} {xl:XE} {p pos:Pos} (hg:Gl X "enumerate") (hm:X.mg "enumerate"=none) (hl:RE X WE l xl) (hb:bootBuiltins "enumerate"=some (.type "enumerate"):=by decide +kernel)
  (hs:starEach [l] X.env=[(false,eval l X.env)]:=by rfl):RI X WE (.Tuple es kk tp) (.Call (.Name "enumerate" p) [l] [] pos) (zb xl):=⟨by
 intro pins s σ H R I h
 obtain ⟨μ,S,τ,hr,sr,pp⟩:=h
 refine Call_ (b7 I hg hm hb (PyProof.Rows.callWith_type1 (thn ((dz hl.h fB hs) pos pins s σ H (fun vs H1=>∃ x,vs=[x]∧∃ μ1 S1 z,HR μ1 S1 H1∧aP X.K X.mg μ1 S1 H1 x z∧aK (eK X.K X.mg) WE μ1 S1 H1 (match z with
   | .d (.tup xs)=>.ok ⟨cm 0 xs,none⟩ S1
   | _=>.bad) R) I ?_) fun us s1 ⟨vs,H1,I1,r1,q1⟩=>?_) hs rfl))
 ·exact ⟨μ,S,τ,hr,sr,pp.bind fun v x S1 μ1 H1 st1 r1 p1=>⟨v,rfl,μ1,S1,x,st1.hr,r1,p1⟩⟩
 ·obtain ⟨x,e,μ1,S1,z,hr1,rz,p1⟩:=q1
  subst e
  obtain ⟨u,rfl,ru⟩:=vals1 r1
  split at p1
  ·obtain ⟨a,us,rfl,h0,g,rs⟩:=gx rz
   cases ru
   obtain ⟨its,rv,pl,hz⟩:=I1.tuple (SqT.of (K:=X.K) h0)
   have q:=p1.here hr1 (Av g rs hz)
   have hlt:a < s1.heap.objs.size:=pl.lt
   refine vK (show s1.heap.IsTuple a its.toArray from pl) fun h' he hit hk=>?_
   refine wpAny_pyIter_enum (s:={ s1 with heap:=h' }) he ?_
   have I2:Inv X pins σ H1 { s1 with heap:=h' }:=I1.kept (t':=s1.toks) hk
   refine ⟨s1.heap.objs.size+1,[s1.heap.objs.size+1,s1.heap.objs.size],_,_,H1,rfl,I2,vi a _ _ (Nat.succ_ne_self _) (Nat.ne_of_lt (Nat.lt_succ_of_lt hlt)) (Nat.ne_of_lt hlt),⟨⟨_,he⟩,hit⟩,fun b hb=>?_,q⟩
   have hle:s1.heap.objs.size≤b:=by
    rcases List.mem_cons.mp hb with z | z
    ·rw [z];exact Nat.le_succ _
    ·rw [List.mem_singleton.mp z];exact Nat.le_refl _
   exact I1.jk hle (I1.hok.fresh hle)
  ·exact p1.elim⟩
end
section
variable {prog:Program} {w:World} {A:Around} {E:Value→Shared→Prop} {s:Shared} {z TI TO i1 i2:Addr} {fp1 fp2:List Addr} {n1 n2 k:Nat} {P1 P2:Nat→Value→Prop} {S1 S2:Nat→Heap→Prop}
abbrev mH (h:Heap) (z TI TO T:Addr) (b:Bool):Prop:=h.get? z=some { cls:=.type "zip",dict:=none,data:=.fields #[rawInt T,.bool b,.bool false,.ref TI,.ref TO],slots:=#[] }
set_option hygiene false in
local macro_rules | `(tactic| walk_at "zi") => `(tactic| (
  have q1:S1 k g0:=D1.frame _ _ _ h1 fun c hc o q=>e0.extBut c o (fun y=>D.z1 (y ▸ hc)) q
  have q2:S2 k g0:=D2.frame _ _ _ h2 fun c hc o q=>e0.extBut c o (fun y=>D.z2 (y ▸ hc)) q
  refine wpAny_bind (wpAny_bind (wpAny_bind (wpAny_holding ?_)))
  refine (show wpAny _ _ (Builtin.SmallTypes.nextOf (.ref i1)>>=_) _ _ _ from wpAny_bind (D1.item k _ _ _ l1 q1 fun x g2 t2 p1 q1' e2=>wpAny_pure (wpAny_pure ?_)))
  replace e2:Heap.SameBut i1 g0 g2:=e2
  refine wpAny_bind (wpAny_bind (wpAny_holding ?_))
  have r2:S2 k g2:=D2.frame _ _ _ q2 fun c hc o q=>e2.extBut c o (fun y=>D.i12 (y ▸ hc)) q
  refine (show wpAny _ _ (Builtin.SmallTypes.nextOf (.ref i2)>>=_) _ _ _ from wpAny_bind (D2.item k _ _ _ l2 r2 fun y g4 t4 p2 r2' e4=>wpAny_pure (wpAny_pure (wpAny_pure ?_))))
  replace e4:Heap.SameBut i2 g2 g4:=e4
  refine wpAny_bind (wpAny_newTuple ?_ (by show 2≤sizeLine;decide))
  have hsz:g4.objs.size=s.heap.objs.size:=by rw [e4.1,e2.1,e0.1]
  refine wpAny_pure ⟨_,rfl,?_⟩
  show Q (.ref g4.objs.size) _
  rw [hsz]
  have up:∀ c o,g4.get? c=some o→(g4.push { cls:=.type "tuple",data:=.seq #[x,y] }).get? c=some o:=fun c o q=>Heap.get?_push_of_some _ q
  refine hQ x y _ _ p1 p2 (up _ _ (e4.extBut _ _ D.i2z.symm (e2.extBut _ _ D.i1z.symm hz0))) (up _ _ (e4.extBut _ _ D.TI2 (e2.extBut _ _ D.TI1 (e0.extBut _ _ D.TIz hTI)))) ?_ ?_ ?_ fun c o c1 c3 c4 q=>up _ _ (e4.extBut _ _ c4 (e2.extBut _ _ c3 (e0.extBut _ _ c1 q)))
  ·exact D1.frame _ _ _ q1' fun c hc o q=>up _ _ (e4.extBut c o (fun y=>D.i21 (y ▸ hc)) q)
  ·exact D2.frame _ _ _ r2' fun c hc o q=>up _ _ q
  ·rw [← hsz];exact Heap.get?_push_size _ rfl
 ))
set_option hygiene false in
local macro_rules | `(tactic| walk_at "ze") => `(tactic| (
  have q1:S1 k g0:=D1.frame _ _ _ h1 fun c hc o q=>e0.extBut c o (fun y=>D.z1 (y ▸ hc)) q
  have q2:S2 k g0:=D2.frame _ _ _ h2 fun c hc o q=>e0.extBut c o (fun y=>D.z2 (y ▸ hc)) q
  refine wpAny_bind (wpAny_bind (wpAny_bind (wpAny_holding ?_)))
  rcases hend with hk | ⟨hk,hk2⟩
  ·subst hk
   refine (show wpAny _ _ (Builtin.SmallTypes.nextOf (.ref i1)>>=_) _ _ _ from wpAny_bind (D1.done _ _ _ q1 fun g2 e e2 he=>?_))
   replace e2:Heap.ExtBut i1 g0 g2:=e2
   exact hE g2 e _ (fun c o c1 _ c3 _ q=>e2 _ _ c3 (e0.extBut _ _ c1 q)) he
  ·subst hk2
   refine (show wpAny _ _ (Builtin.SmallTypes.nextOf (.ref i1)>>=_) _ _ _ from wpAny_bind (D1.item k _ _ _ hk q1 fun x g2 t2 p1 q1' e2=>wpAny_pure (wpAny_pure ?_)))
   replace e2:Heap.SameBut i1 g0 g2:=e2
   refine wpAny_bind (wpAny_bind (wpAny_holding ?_))
   have r2:S2 k g2:=D2.frame _ _ _ q2 fun c hc o q=>e2.extBut c o (fun y=>D.i12 (y ▸ hc)) q
   refine (show wpAny _ _ (Builtin.SmallTypes.nextOf (.ref i2)>>=_) _ _ _ from wpAny_bind (D2.done _ _ _ r2 fun g4 e e4 he=>?_))
   replace e4:Heap.ExtBut i2 g2 g4:=e4
   exact hE g4 e _ (fun c o c1 _ c3 c4 q=>e4 _ _ c4 (e2.extBut _ _ c3 (e0.extBut _ _ c1 q))) he
 ))
theorem yr {T:Addr} {fl:Bool} {Q:Value→Shared→Prop} (D:b9 z TI TO i1 i2 fp1 fp2) (D1:Draws prog w A i1 fp1 n1 P1 S1) (D2:Draws prog w A i2 fp2 n2 P2 S2) (hz:mH s.heap z TI TO T fl) (hT:∃ o,s.heap.get? T=some o) (hTI:IsPair s.heap TI (.ref i1) (.ref i2))
  (h1:S1 k s.heap) (h2:S2 k s.heap) (l1:k < n1) (l2:k < n2)
  (hQ:∀ x y h' tk,P1 k x→P2 k y→mH h' z TI TO T true→IsPair h' TI (.ref i1) (.ref i2)→S1 (k+1) h'→S2 (k+1) h'→IsPair h' s.heap.objs.size x y →
   (∀ c o,c≠z→c≠i1→c≠i2→s.heap.get? c=some o→h'.get? c=some o)→Q (.ref s.heap.objs.size) { s with heap:=h',toks:=tk }) :
  wpAny (model prog w) A (Builtin.«zip.__next__» ⟨[.ref z],[]⟩) (fun fin s'=>∃ v,fin=.done (.ret v)∧Q v s') E s:=by
 refine (show wpAny _ _ (field (.ref z) 2>>=_) _ _ _ from wpAny_bind (wpAny_field hz rfl (x:=.bool false) rfl ?_))
 refine (show wpAny _ _ (field (.ref z) 3>>=_) _ _ _ from wpAny_bind (wpAny_field hz rfl (x:=.ref TI) rfl ?_))
 refine wpAny_bind (wpAny_seqItems hTI rfl ?_)
 refine (show wpAny _ _ (Builtin.SmallTypes.ownedTupleIsFree (.ref z)>>=_) _ _ _ from wpAny_bind ?_)
 unfold Builtin.SmallTypes.ownedTupleIsFree
 refine wpAny_bind (wpAny_field hz rfl (x:=rawInt T) rfl ?_)
 refine (show wpAny _ _ (loadIfAlive ((T:Int)).toNat>>=_) _ _ _ from wpAny_bind (dG ?_))
 rw [Int.toNat_natCast]
 obtain ⟨oT,hoT⟩:=hT
 rw [hoT]
 refine wpAny_ite_false (by rfl) ?_
 refine wpAny_bind (wpAny_field hz rfl (x:=.bool fl) rfl ?_)
 have sb:Heap.SameBut z s.heap s.heap:=⟨rfl,fun _ _=>rfl⟩
 cases fl with
 | true=>
  refine wpAny_ite_false (by rfl) (wpAny_pure ?_)
  refine wpAny_ite_false (by rfl) ?_
  simp only [← Array.forIn_toList,List.forIn_cons,List.forIn_nil]
  have hz0:=hz
  let g0:=s.heap
  have e0:Heap.SameBut z s.heap g0:=sb
  walk_at "zi"
 | false=>
  refine wpAny_ite_true (by rfl) (wpAny_bind (wpAny_setField_rec hz (by simp) fun g0 hz0 e0=>wpAny_pure ?_))
  refine wpAny_ite_false (by rfl) ?_
  simp only [← Array.forIn_toList,List.forIn_cons,List.forIn_nil]
  walk_at "zi"
theorem zt {T:Addr} {fl:Bool} {Q:PySem.Fin→Shared→Prop} (D:b9 z TI TO i1 i2 fp1 fp2) (D1:Draws prog w A i1 fp1 n1 P1 S1) (D2:Draws prog w A i2 fp2 n2 P2 S2) (hz:mH s.heap z TI TO T fl) (hT:∃ o,s.heap.get? T=some o) (hTI:IsPair s.heap TI (.ref i1) (.ref i2))
  (h1:S1 k s.heap) (h2:S2 k s.heap) (hend:k=n1∨(k < n1∧k=n2))
  (hE:∀ h' e tk,(∀ c o,c≠z→c≠TO→c≠i1→c≠i2→s.heap.get? c=some o→h'.get? c=some o)→(∃ o,h'.get? e=some o∧o.cls=.type "StopIteration")→E (.ref e) { s with heap:=h',toks:=tk }) :
  wpAny (model prog w) A (Builtin.«zip.__next__» ⟨[.ref z],[]⟩) Q E s:=by
 refine (show wpAny _ _ (field (.ref z) 2>>=_) _ _ _ from wpAny_bind (wpAny_field hz rfl (x:=.bool false) rfl ?_))
 refine (show wpAny _ _ (field (.ref z) 3>>=_) _ _ _ from wpAny_bind (wpAny_field hz rfl (x:=.ref TI) rfl ?_))
 refine wpAny_bind (wpAny_seqItems hTI rfl ?_)
 refine (show wpAny _ _ (Builtin.SmallTypes.ownedTupleIsFree (.ref z)>>=_) _ _ _ from wpAny_bind ?_)
 unfold Builtin.SmallTypes.ownedTupleIsFree
 refine wpAny_bind (wpAny_field hz rfl (x:=rawInt T) rfl ?_)
 refine (show wpAny _ _ (loadIfAlive ((T:Int)).toNat>>=_) _ _ _ from wpAny_bind (dG ?_))
 rw [Int.toNat_natCast]
 obtain ⟨oT,hoT⟩:=hT
 rw [hoT]
 refine wpAny_ite_false (by rfl) ?_
 refine wpAny_bind (wpAny_field hz rfl (x:=.bool fl) rfl ?_)
 have sb:Heap.SameBut z s.heap s.heap:=⟨rfl,fun _ _=>rfl⟩
 cases fl with
 | true=>
  refine wpAny_ite_false (by rfl) (wpAny_pure ?_)
  refine wpAny_ite_false (by rfl) ?_
  simp only [← Array.forIn_toList,List.forIn_cons,List.forIn_nil]
  have hz0:=hz
  let g0:=s.heap
  have e0:Heap.SameBut z s.heap g0:=sb
  walk_at "ze"
 | false=>
  refine wpAny_ite_true (by rfl) (wpAny_bind (wpAny_setField_rec hz (by simp) fun g0 hz0 e0=>wpAny_pure ?_))
  refine wpAny_ite_false (by rfl) ?_
  simp only [← Array.forIn_toList,List.forIn_cons,List.forIn_nil]
  walk_at "ze"
end
set_option maxRecDepth 100000
theorem f7:entryFor table "dict.update.loop"=some Builtin.«dict.update.loop»:=entryFor_of_tree (by rfl)
theorem cD:plainId "dict.update.loop"=true:=by decide +kernel
structure AV (prog:Program) (w:World) (A:Around) (I d:Addr) (wr:List Addr) (ps:List (Key×V)) (St:Nat→Heap→Prop):Prop where
 nd:d∉wr
 frame:∀ i h h',St i h→(∀ b o,b≠d→h.get? b=some o→h'.get? b=some o)→St i h'
 item:∀ i (s:Shared) (Q:Option Value→Shared→Prop) (E:Value→Shared→Prop),i < ps.length→St i s.heap→d < s.heap.objs.size →
  (∀ T k v x y h' tk,ps[i]?=some (k,v)→(aR prog w).is k x=true→RelV v y→h'.IsTuple T #[x,y]→St (i+1) h'→(∀ b o,b∉wr→s.heap.get? b=some o→h'.get? b=some o)→Q (some (.ref T)) { s with heap:=h',toks:=tk }) →
  wpAny (model prog w) A (pyNext (.ref I)) Q E s
 done:∀ (s:Shared) (Q:Option Value→Shared→Prop) (E:Value→Shared→Prop),St ps.length s.heap→(∀ h' tk,(∀ b o,b∉wr→s.heap.get? b=some o→h'.get? b=some o)→Q none { s with heap:=h',toks:=tk })→wpAny (model prog w) A (pyNext (.ref I)) Q E s
theorem tw (kvs:List (Key×V)) (ps:List (Key×V)) (k:Key) (v:V):b4 kvs (ps++[(k,v)])=putK (b4 kvs ps) k v:=by simp [b4,List.foldl_append]
theorem s_ {prog:Program} {w:World} {A:Around} {I d:Addr} {wr:List Addr} {ps:List (Key×V)} {St:Nat→Heap→Prop} {R:Result→Shared→Prop} (W:AV prog w A.in1 I d wr ps St) (hn:ps.length≤100000) (res:Value) :
  ∀ (k i:Nat) (t:Tok) (s:Shared) (kvs:List (Key×Value)),ps.length - i=k→i≤ps.length→St i s.heap→s.heap.DictOf (aR prog w) d kvs→KV (b4 [] (ps.take i)) kvs →
  (∀ h' tk kvs',h'.DictOf (aR prog w) d kvs'→KV (b4 [] ps) kvs'→(∀ b o,b≠d→b∉wr→s.heap.get? b=some o→h'.get? b=some o)→R (.ok (.ret res)) { s with heap:=h',toks:=tk }) →
  codeAny (model prog w) A (.builtin "dict.update.loop" ⟨[.ref d,.ref I,.int i t,res],[]⟩) R s:=by
 intro k
 induction k with
 | zero=>
  intro i t s kvs hk hi hst hd hkv hR
  have hin:i=ps.length:=by omega
  subst hin
  rw [List.take_length] at hkv
  refine codeAny_builtin f7 ?_
  rw [Around.under_plainId cD _]
  show wpAny _ A.in1 (pyNext (.ref I)>>=_) _ _ s
  refine wpAny_bind (W.done s _ _ hst fun h' tk hkp=>?_)
  refine wpAny_bind (wpAny_pure (wpAny_pure ?_))
  obtain ⟨o,es,ep,ho,r⟩:=hd
  exact hR h' tk kvs ⟨o,es,ep,hkp d o W.nd ho,r⟩ hkv fun b o _ hb e=>hkp b o hb e
 | succ k ih=>
  intro i t s kvs hk hi hst hd hkv hR
  have hlt:i < ps.length:=by omega
  refine codeAny_builtin f7 ?_
  rw [Around.under_plainId cD _]
  show wpAny _ A.in1 (pyNext (.ref I)>>=_) _ _ s
  have hdl:d < s.heap.objs.size:=by obtain ⟨o,es,ep,ho,r⟩:=hd;exact Heap.lt_size ho
  refine wpAny_bind (W.item i s _ _ hlt hst hdl fun T key v x y h' tk hps hkey hv hT hst' hkp=>?_)
  have hd':h'.DictOf (aR prog w) d kvs:=by obtain ⟨o,es,ep,ho,r⟩:=hd;exact ⟨o,es,ep,hkp d o W.nd ho,r⟩
  have htk:ps.take (i+1)=ps.take i++[(key,v)]:=by rw [List.take_add_one,hps];rfl
  have hkv':KV (b4 [] (ps.take (i+1))) (stored kvs key y):=by
   rw [htk,tw]
   exact hkv.put key hv
  obtain ⟨oT,hoT,hcT,nT,hdT⟩:=hT
  refine wpAny_bind (wpAny_holding (wpAny_bind (wpAny_tryCatch ?_)))
  unfold Builtin.Dict.pairItems
  refine wpAny_bind (wpAny_typeOf (T:="tuple") ⟨oT,hoT,hcT⟩ ?_)
  refine wpAny_ite_true (by rfl) ?_
  refine wpAny_bind (wpAny_seqItems hoT hdT (wpAny_pure ?_))
  have lk:kvs.length≤sizeLine:=by
   have l1:=hkv.length
   have l2:=dX (ps.take i) []
   rw [List.length_take,List.length_nil] at l2
   rw [sizeLine_eq]
   omega
  refine wpAny_holding (wpAny_dictSet_pairs (knd:=aR prog w) (hsz:=lk) hkey hd' fun h2 hd2 hs2=>?_)
  refine wpAny_pure ⟨plainId_quiet cD _,?_⟩
  refine ih (i+1) _ _ _ (by omega) hlt (W.frame _ _ _ hst' fun b o hb e=>(hs2.2 b hb).trans e) hd2 hkv' fun h3 tk3 kvs3 a b c=>hR h3 tk3 kvs3 a b fun b' o hb hw e=>c b' o hb hw ((hs2.2 b' hb).trans (hkp b' o hw e))
theorem qU:entryFor table "zip.__getattribute__"=some Builtin.«object.__getattribute__»:=entryFor_alias (id':="object.__getattribute__") (by rfl) (by decide +kernel) (by decide +kernel) (by rfl)
theorem tN:typeLookup (.type "zip") "keys"=pure none:=by rw [typeLookup_type,builtinLookup_eq_fast];rfl
theorem nY:typeLookup (.type "zip") "__getattr__"=pure none:=by rw [typeLookup_type,builtinLookup_eq_fast];rfl
theorem z_ (a:Addr) (vs:Array Value) (u:Tok):Meets (Builtin.«object.__getattribute__» ⟨[.ref a,.str "keys" u],[]⟩) (fun A R s=>s.heap.get? a=some { cls:=.type "zip",dict:=none,data:=.fields vs,slots:=#[] }∧raisesAttr (.ref a) "keys" A R s):=
 Meets.of_wp fun prog w A R s hs=>by
  obtain ⟨hp,g,d,tk,os⟩:=s
  obtain ⟨hx,hs⟩:=hs
  have hT:(⟨hp,g,d,tk,os⟩:Shared).TypeIs (.ref a) "zip":=⟨_,hx,rfl⟩
  have hmiss:=tN
  unfold Builtin.«object.__getattribute__»
  repeat (any_goals (first | assumption | wp_step))
  exact wpAny_raiseAttrError hs.1 hs.2 (attrMsg_fits (by decide +kernel) (by decide +kernel))
theorem zI {prog:Program} {w:World} {A:Around} {E:Value→Shared→Prop} {s:Shared} {a:Addr} {vs:Array Value} {Q:Option Value→Shared→Prop} (hx:s.heap.get? a=some { cls:=.type "zip",dict:=none,data:=.fields vs,slots:=#[] }) (hA:A.handled=none)
  (h:∀ h' tk,(∀ b o,s.heap.get? b=some o→h'.get? b=some o)→Q none { s with heap:=h',toks:=tk }):wpAny (model prog w) A (getAttr? (.ref a) "keys") Q E s:=by
 obtain ⟨hp,g,d,tk,os⟩:=s
 have hT:∀ tk',(⟨hp,g,d,tk',os⟩:Shared).TypeIs (.ref a) "zip":=fun _=>⟨_,hx,rfl⟩
 have f1:=sub_AttributeError
 have f3:=F.slot_zip_getattribute.lookup
 have f4:=F.slot_zip_getattribute.bind (.ref a)
 have f5:=nY
 unfold getAttr? getAttrBy? getAttrBy
 repeat (any_goals (first | assumption | exact hT _ | ((with_reducible show wpAny _ _ (call (Value.builtin "zip.__getattribute__") _ _) _ _ _);refine call_meets F.slot_zip_getattribute (hT _) qU (F.args_zip_getattribute_2 _ _) (z_ a vs _) ⟨hx,hA,fun h' tk' e hx'=>?_⟩) | wp_step))
 obtain ⟨t',u',he⟩:=hx'.there
 show wpAny _ _ (getattributeRaised _ _ _ _ _ _ _) _ _ _
 unfold getattributeRaised
 repeat (any_goals (first | assumption | wp_step))
 exact h _ _ hx'.keeps
set_option maxRecDepth 100000
section
variable {prog:Program} {w:World} {A:Around} {E:Value→Shared→Prop} {s:Shared}
theorem tL {src:Addr} {ps:List (Key×V)} {T:String} {wr0:List Addr} {Q:Value→Shared→Prop} (hh:A.handled=none) (hn:ps.length≤100000) (hT:∀ s':Shared,(∀ b o,s.heap.get? b=some o→s'.heap.get? b=some o)→s'.TypeIs (.ref src) T) (hne:(Value.type T == Value.type "dict")=false)
  (hkeys:∀ (s':Shared) (A':Around) (E':Value→Shared→Prop) (Q':Option Value→Shared→Prop),(∀ b o,s.heap.get? b=some o→s'.heap.get? b=some o)→A'.handled=none→(∀ h' tk,(∀ b o,s'.heap.get? b=some o→h'.get? b=some o)→Q' none { s' with heap:=h',toks:=tk })→wpAny (model prog w) A' (getAttr? (.ref src) "keys") Q' E' s')
  (hit:∀ (s':Shared) (A':Around) (E':Value→Shared→Prop) (Q':Value→Shared→Prop),(∀ b o,s.heap.get? b=some o→s'.heap.get? b=some o)→s.heap.objs.size < s'.heap.objs.size→(∀ (I:Addr) (wr:List Addr) (St:Nat→Heap→Prop) h' tk,(∀ b o,s'.heap.get? b=some o→h'.get? b=some o)→St 0 h'→(∀ b o,b∉wr0→s.heap.get? b=some o→b∉wr)→(∀ A'':Around,A''.handled=none→AV prog w A'' I s.heap.objs.size wr ps St)→Q' (.ref I) { s' with heap:=h',toks:=tk })→wpAny (model prog w) A' (pyIter (.ref src)) Q' E' s')
  (h:∀ h' tk kvs',h'.DictOf (aR prog w) s.heap.objs.size kvs'→KV (b4 [] ps) kvs'→(∀ b o,b∉wr0→s.heap.get? b=some o→h'.get? b=some o)→Q (.ref s.heap.objs.size) { s with heap:=h',toks:=tk }) :
  wpAny (model prog w) A (call (.type "dict") [.ref src]) Q E s:=by
 refine callType_codes (Q₁:=fun obj s₁=>obj=.ref s.heap.objs.size∧s₁={ s with heap:=s.heap.push { cls:=.type "dict",data:=.dict #[] } }) F.kt_called_dict (F.kt_typeCall_dict_1 _) F.entry_dict_init (kt_code_dict_new _ ⟨rfl,rfl⟩) ?_
 rintro obj s₁ ⟨rfl,rfl⟩
 have hnew:(s.heap.push { cls:=.type "dict",data:=.dict #[] }).DictOf (aR prog w) s.heap.objs.size []:=Heap.DictOf.new s.heap
 have up:∀ b o,s.heap.get? b=some o→(s.heap.push { cls:=.type "dict",data:=.dict #[] }).get? b=some o:=fun b o e=>Heap.get?_push_of_some _ e
 refine ⟨hnew.typeIs,F.args_dict_init_2 _ _,?_⟩
 unfold Builtin.«dict.__init__»
 refine wpAny_bind ?_
 unfold Builtin.Dict.selfAndRest
 refine wpAny_bind (wpAny_notOrdered_dict hnew.typeIs ?_)
 show wpAny _ _ (pure (s.heap.objs.size,[Value.ref src])) _ _ _
 refine wpAny_pure ?_
 show wpAny _ _ (Builtin.Dict.updateFrom "dict.__init__" s.heap.objs.size (.ref src) [] .none) _ _ _
 unfold Builtin.Dict.updateFrom
 refine wpAny_bind (wpAny_typeOf (hT _ up) ?_)
 refine wpAny_ite_true (by show decide ((Value.type T != Value.type "dict")=true)=true;simp [bne,hne]) ?_
 refine wpAny_bind (hkeys _ _ _ _ up hh fun h1 t1 k1=>?_)
 refine wpAny_ite_true rfl (wpAny_bind (wpAny_rule (wpAny_bind ?_)))
 refine hit _ _ _ _ (fun b o e=>k1 b o (up b o e)) ?_ fun I wr St h2 t2 k2 st2 hw W=>wpAny_pure ⟨plainId_quiet cD _,?_⟩
 ·have e0:(s.heap.push { cls:=.type "dict",data:=.dict #[] }).get? s.heap.objs.size=some _:=Heap.get?_push_size _ rfl
  exact Heap.lt_size (k1 _ _ e0)
 ·have hd2:h2.DictOf (aR prog w) s.heap.objs.size []:=by
   obtain ⟨o,es,ep,ho,r⟩:=hnew
   exact ⟨o,es,ep,k2 _ _ (k1 _ _ ho),r⟩
  refine s_ (W A.in1.in1 hh) hn .none ps.length 0 _ _ [] rfl (Nat.zero_le _) st2 hd2 .nil fun h3 t3 kvs3 d3 r3 k3=>⟨rfl,h h3 t3 kvs3 d3 r3 fun b o hb e=>k3 b o (Nat.ne_of_lt (Heap.lt_size e)) (hw b o hb e) (k2 b o (k1 b o (up b o e)))⟩
end
def StZ (d z TI TO i1 i2:Addr) (S1 S2:Nat→Heap→Prop) (i:Nat) (h:Heap):Prop:=IsPair h TI (.ref i1) (.ref i2)∧S1 i h∧S2 i h∧((IsZip h z TI TO .none∧∃ a b,IsPair h TO a b)∨∃ T fl,T∉[d,z,TO,i1,i2]∧mH h z TI TO T fl∧∃ o,h.get? T=some o)
theorem CC {prog:Program} {w:World} {A:Around} {d z TI TO i1 i2 t u:Addr} {xs ys:Array Value} {ks:List Key} {vs:List V} (hh:A.handled=none) (D:b9 z TI TO i1 i2 [i1,t] [i2,u]) (n1:t≠i1) (n2:u≠i2) (hd:d∉[z,TI,TO,i1,i2,t,u])
  (rk:Vals (ks.map kV) xs.toList) (rv:Vals vs ys.toList):AV prog w A z d [z,TO,i1,i2] (ks.zip vs) (StZ d z TI TO i1 i2 (fun i h=>h.IsTupleIter i1 t i∧h.IsTuple t xs) (fun i h=>h.IsTupleIter i2 u i∧h.IsTuple u ys)) where
 nd:=fun h=>hd (by simp only [List.mem_cons,List.not_mem_nil,or_false] at h ⊢;rcases h with h | h | h | h<;>simp [h])
 frame:=fun i h h' st k=>by
  simp only [List.mem_cons,List.not_mem_nil,or_false,not_or] at hd
  obtain ⟨d1,d2,d3,d4,d5,d6,d7⟩:=hd
  obtain ⟨a,⟨b1,b2⟩,⟨c1,c2⟩,e⟩:=st
  refine ⟨k _ _ (Ne.symm d2) a,⟨b1.at fun o q=>k _ o (Ne.symm d4) q,b2.at fun o q=>k _ o (Ne.symm d6) q⟩,⟨c1.at fun o q=>k _ o (Ne.symm d5) q,c2.at fun o q=>k _ o (Ne.symm d7) q⟩,?_⟩
  rcases e with ⟨e1,x,y,e2⟩ | ⟨T,fl,e1,e2,o,e3⟩
  ·exact .inl ⟨k _ _ (Ne.symm d1) e1,x,y,k _ _ (Ne.symm d3) e2⟩
  ·exact .inr ⟨T,fl,e1,k _ _ (Ne.symm d1) e2,o,k _ _ (fun z=>e1 (by simp [z])) e3⟩
 item:=fun i s Q E hi st hlt hQ=>by
  obtain ⟨a,b,c,e⟩:=st
  have lk:ks.length=xs.size:=by have:=rk.length;simpa using this
  have lv:vs.length=ys.size:=by have:=rv.length;simpa using this
  rw [List.length_zip] at hi
  have l1:i < xs.size:=by omega
  have l2:i < ys.size:=by omega
  have dw1:=cT (prog:=prog) (w:=w) (A:=A.in1) hh i1 t n1 xs
  have dw2:=cT (prog:=prog) (w:=w) (A:=A.in1) hh i2 u n2 ys
  have get:∀ x y,xs[i]?=some x→ys[i]?=some y→∃ k v,(ks.zip vs)[i]?=some (k,v)∧(aR prog w).is k x=true∧RelV v y:=fun x y hx hy=>by
   have hk:ks[i]?=some (ks[i]'(by omega)):=List.getElem?_eq_getElem _
   have hv:vs[i]?=some (vs[i]'(by omega)):=List.getElem?_eq_getElem _
   obtain ⟨x',e1,r1⟩:=rk.get (x:=kV (ks[i]'(by omega))) (by rw [List.getElem?_map,hk];rfl)
   obtain ⟨y',e2,r2⟩:=rv.get hv
   rw [Array.getElem?_toList,hx] at e1
   rw [Array.getElem?_toList,hy] at e2
   cases e1;cases e2
   exact ⟨_,_,by rw [List.getElem?_zip_eq_some];exact ⟨hk,hv⟩,kS r1,r2⟩
  rcases e with ⟨e1,x0,y0,e2⟩ | ⟨T,fl,e1,e2,e3⟩
  ·refine j_ D dw1 dw2 e1 (.inl rfl) a e2 b c l1 l2 fun x y h' tk px py g1 g2 g3 g4 g5 g6 g7 g8=>?_
   obtain ⟨k,v,q1,q2,q3⟩:=get x y px py
   refine hQ _ k v x y h' tk q1 q2 q3 ⟨_,g6,rfl,_,rfl⟩ ⟨g2,g4,g5,.inr ⟨_,false,?_,g1,_,g6⟩⟩ fun b' o hb q=>g8 b' o (fun z=>hb (by simp [z])) (fun z=>hb (by simp [z])) (fun z=>hb (by simp [z])) (fun z=>hb (by simp [z])) q
   obtain ⟨⟨o1,b1,_⟩,_⟩:=b
   obtain ⟨⟨o2,c1,_⟩,_⟩:=c
   have:=Heap.lt_size b1
   have:=Heap.lt_size c1
   have:=Heap.lt_size e1
   have:=Heap.lt_size e2
   simp only [List.mem_cons,List.not_mem_nil,or_false,not_or]
   exact ⟨Nat.ne_of_gt hlt,Nat.ne_of_gt (Heap.lt_size e1),Nat.ne_of_gt (Heap.lt_size e2),Nat.ne_of_gt (Heap.lt_size b1),Nat.ne_of_gt (Heap.lt_size c1)⟩
  ·have hT:s.TypeIs (.ref z) "zip":=⟨_,e2,rfl⟩
   unfold pyNext
   refine wpAny_bind (wpAny_attempt (wpAny_callSpecial?_slot (name:=Str.ofString "__next__") hT F.slot_zip_next (wpAny_call_entry F.slot_zip_next hT F.entry_zip_next (yr D dw1 dw2 e2 e3 a b c l1 l2 fun x y h' tk px py g1 g2 g4 g5 g6 g8=>wpAny_pure ?_) (F.args_zip_next_1 _))))
   obtain ⟨k,v,q1,q2,q3⟩:=get x y px py
   obtain ⟨oT,hoT⟩:=e3
   refine hQ _ k v x y h' tk q1 q2 q3 ⟨_,g6,rfl,_,rfl⟩ ⟨g2,g4,g5,?_⟩ fun b' o hb q=>g8 b' o (fun z=>hb (by simp [z])) (fun z=>hb (by simp [z])) (fun z=>hb (by simp [z])) q
   have e1':=e1
   simp only [List.mem_cons,List.not_mem_nil,or_false,not_or] at e1'
   exact .inr ⟨T,true,e1,g1,oT,g8 T oT e1'.2.1 e1'.2.2.2.1 e1'.2.2.2.2 hoT⟩
 done:=fun s Q E st hQ=>by
  obtain ⟨a,b,c,e⟩:=st
  have lk:ks.length=xs.size:=by have:=rk.length;simpa using this
  have lv:vs.length=ys.size:=by have:=rv.length;simpa using this
  have dw1:=cT (prog:=prog) (w:=w) (A:=A.in1) hh i1 t n1 xs
  have dw2:=cT (prog:=prog) (w:=w) (A:=A.in1) hh i2 u n2 ys
  have hend:(ks.zip vs).length=xs.size∨((ks.zip vs).length < xs.size∧(ks.zip vs).length=ys.size):=by rw [List.length_zip];omega
  have kp:∀ {h':Heap},(∀ c o,c≠z→c≠TO→c≠i1→c≠i2→s.heap.get? c=some o→h'.get? c=some o)→∀ b o,b∉[z,TO,i1,i2]→s.heap.get? b=some o→h'.get? b=some o:=fun k b' o hb q=>k b' o (fun z=>hb (by simp [z])) (fun z=>hb (by simp [z])) (fun z=>hb (by simp [z])) (fun z=>hb (by simp [z])) q
  rcases e with ⟨e1,x0,y0,e2⟩ | ⟨T,fl,e1,e2,e3⟩
  ·exact lZ D dw1 dw2 e1 (.inl rfl) a e2 b c hend fun h' tk k=>hQ h' tk (kp k)
  ·have hT:s.TypeIs (.ref z) "zip":=⟨_,e2,rfl⟩
   unfold pyNext
   refine wpAny_bind (wpAny_attempt (wpAny_callSpecial?_slot (name:=Str.ofString "__next__") hT F.slot_zip_next (wpAny_call_entry F.slot_zip_next hT F.entry_zip_next (zt D dw1 dw2 e2 e3 a b c hend fun h' e tk k he=>?_) (F.args_zip_next_1 _))))
   obtain ⟨o,ho,hc⟩:=he
   exact wpAny_bind (wpAny_isInstance (T:="StopIteration") (b:=true) ⟨o,ho,hc⟩ isSubtype_stop (wpAny_pure (hQ _ tk (kp k))))
def tDZ (ta:TA):TE:=fun σ H Q=>ta σ H fun vs H1=>∃ t u ks ys,vs=[.ref t,.ref u]∧H1 t=some (.tup (List.map kV ks))∧H1 u=some (.tup ys)∧(ks.zip ys).length≤100000∧∀ p,H1 p=none→Q (.ref p) (upd H1 p (.dK (b4 [] (ks.zip ys))))
section
variable {X:Cx}
theorem vD {a b:Expr} {ta:TA} {p1 p2 pos1 pos2:Pos} (hc:X.calm=true) (hgd:Gl X "dict") (hmd:X.mg "dict"=none) (hgz:Gl X "zip") (hmz:X.mg "zip"=none) (hbd:bootBuiltins "dict"=some (.type "dict")) (hbz:bootBuiltins "zip"=some (.type "zip")) (ha:PA X [a,b] ta)
  (hs:starEach [a,b] X.env=[(false,eval a X.env),(false,eval b X.env)]:=by rfl) (hs2:starEach [b] X.env=[(false,eval b X.env)]:=by rfl)
  (hs3:starEach [Expr.Call (.Name "zip" p2) [a,b] [] pos2] X.env=(false,eval (Expr.Call (.Name "zip" p2) [a,b] [] pos2) X.env) :: starEach [] X.env:=by rfl) :
  PE X (.Call (.Name "dict" p1) [.Call (.Name "zip" p2) [a,b] [] pos2] [] pos1) (tDZ ta):=by
 intro pins s σ H Q I h
 refine Call_ (b7 I hgd hmd hbd (PyProof.Rows.callWith_type1 ?_ hs3 rfl))
 rw [hs3]
 show wpAny _ _ (spliced ((false,eval (Expr.Call (.Name "zip" p2) [a,b] [] pos2) X.env) :: backTo pos1 (starEach [] X.env))) _ _ s
 refine Calls.spliced_cons ?_
 refine Call_ (b7 I hgz hmz hbz (PyProof.Rows.callWith_type1 (thn (ha pos2 pins s σ H _ I h) fun us s1 ⟨vs,H1,I1,r1,t,u,ks,ys,ev,ht,hu,hl,q⟩=>?_) (by rw [hs,hs2]) (by rw [hs2];rfl)))
 subst ev
 obtain ⟨ut,uu,rfl,rt,ru⟩:=r1.two
 cases rt
 cases ru
 obtain ⟨xs,rx,px,hzx⟩:=I1.tuple (SqT.of (K:=X.K) ht)
 obtain ⟨zs,rz,pz,hzz⟩:=I1.tuple (SqT.of (K:=X.K) hu)
 have hh:X.A.handled=none:=I.ok.hd hc
 have lt:=px.lt
 have lu:=pz.lt
 refine oQ (show s1.heap.IsTuple t xs.toArray from px) (show s1.heap.IsTuple u zs.toArray from pz) fun h1 z1 z2 z3 z4 z5 k1=>?_
 refine wpAny_pure ?_
 generalize hN:s1.heap.objs.size=N at *
 have ht':∀ c∈[N+4,N+2,N+3,N,N+1],t≠c:=fun c hc e=>by
  simp only [List.mem_cons,List.not_mem_nil,or_false] at hc
  have:N≤c:=by rcases hc with z | z | z | z | z<;>(rw [z];first | exact Nat.le_refl _ | exact Nat.le_add_right _ _)
  exact Nat.lt_irrefl _ (Nat.lt_of_lt_of_le lt (e ▸ this))
 have hu':∀ c∈[N+4,N+2,N+3,N,N+1],u≠c:=fun c hc e=>by
  simp only [List.mem_cons,List.not_mem_nil,or_false] at hc
  have:N≤c:=by rcases hc with z | z | z | z | z<;>(rw [z];first | exact Nat.le_refl _ | exact Nat.le_add_right _ _)
  exact Nat.lt_irrefl _ (Nat.lt_of_lt_of_le lu (e ▸ this))
 have I2:Inv X pins σ H1 { s1 with heap:=h1 }:=I1.kept (t':=s1.toks) k1
 have big:N+4 < h1.objs.size:=Heap.lt_size z1
 have t1:h1.IsTuple t xs.toArray:=by obtain ⟨o,e,r⟩:=px;exact ⟨o,k1 _ _ e,r⟩
 have u1:h1.IsTuple u zs.toArray:=by obtain ⟨o,e,r⟩:=pz;exact ⟨o,k1 _ _ e,r⟩
 have up:∀ {g:Heap} {s':Shared},(∀ b o,h1.get? b=some o→s'.heap.get? b=some o)→StZ h1.objs.size (N+4) (N+2) (N+3) N (N+1) (fun i h=>h.IsTupleIter N t i∧h.IsTuple t xs.toArray) (fun i h=>h.IsTupleIter (N+1) u i∧h.IsTuple u zs.toArray) 0 s'.heap:=fun k=>
  ⟨k _ _ z2,⟨z4.at fun o e=>k _ o e,t1.at fun o e=>k _ o e⟩,⟨z5.at fun o e=>k _ o e,u1.at fun o e=>k _ o e⟩,.inl ⟨k _ _ z1,_,_,k _ _ z3⟩⟩
 have hd:h1.objs.size∉[N+4,N+2,N+3,N,N+1,t,u]:=fun h=>by
  simp only [List.mem_cons,List.not_mem_nil,or_false] at h
  have:=t1
  obtain ⟨o,e,_⟩:=t1
  obtain ⟨o2,e2,_⟩:=u1
  have a1:=Heap.lt_size e
  have a2:=Heap.lt_size e2
  have a3:=Heap.lt_size z2
  have a4:=Heap.lt_size z3
  obtain ⟨o3,e3,_⟩:=z4
  obtain ⟨o4,e4,_⟩:=z5
  have a5:=Heap.lt_size e3
  have a6:=Heap.lt_size e4
  rcases h with z | z | z | z | z | z | z
  ·rw [← z] at big;exact Nat.lt_irrefl _ big
  ·rw [← z] at a3;exact Nat.lt_irrefl _ a3
  ·rw [← z] at a4;exact Nat.lt_irrefl _ a4
  ·rw [← z] at a5;exact Nat.lt_irrefl _ a5
  ·rw [← z] at a6;exact Nat.lt_irrefl _ a6
  ·rw [← z] at a1;exact Nat.lt_irrefl _ a1
  ·rw [← z] at a2;exact Nat.lt_irrefl _ a2
 refine tL (s:={ s1 with heap:=h1 }) (T:="zip") hh hl (fun s' k=>⟨_,k _ _ z1,rfl⟩) (by decide) (fun s' A' E' Q' k hA hQ'=>zI (k _ _ z1) hA hQ') (fun s' A' E' Q' k _ hQ'=>wpAny_pyIter_zip (k _ _ z1) (hQ' (N+4) [N+4,N+3,N,N+1] _ s'.heap s'.toks (fun _ _ e=>e) (up (g:=h1) k) (fun b o hb _=>hb)
  (fun A' hA=>CC hA (jX ht' hu') (ht' N (by simp)) (hu' (N+1) (by simp)) hd (by simpa using rx) (by simpa using rz)))) fun h3 t3 kvs3 d3 r3 k3=>?_
 have hw:∀ b o,s1.heap.get? b=some o→b∉[N+4,N+3,N,N+1]:=fun b o e hb=>by
  have lb:=Heap.lt_size e
  rw [hN] at lb
  simp only [List.mem_cons,List.not_mem_nil,or_false] at hb
  rcases hb with z | z | z | z<;>rw [z] at lb
  ·exact absurd lb (Nat.not_lt_of_le (Nat.le_add_right _ _))
  ·exact absurd lb (Nat.not_lt_of_le (Nat.le_add_right _ _))
  ·exact Nat.lt_irrefl _ lb
  ·exact absurd lb (Nat.not_lt_of_le (Nat.le_add_right _ _))
 have sz:(b4 [] (ks.zip ys)).length≤sizeLine:=by
  have:=dX (ks.zip ys) []
  rw [List.length_nil] at this
  rw [sizeLine_eq]
  omega
 have hle:s1.heap.objs.size≤h1.objs.size:=by rw [hN];exact Nat.le_of_lt (Nat.lt_of_le_of_lt (Nat.le_add_right _ _) big)
 exact ⟨.ref h1.objs.size,_,I1.laid (t':=t3) (a:=h1.objs.size) (o:=.dK (b4 [] (ks.zip ys))) (fun b o e=>k3 b o (hw b o e) (k1 b o e)) hle (sQ sz (beq_eq_false_iff_ne.mpr (Ne.symm (Nat.ne_of_lt (Nat.lt_of_lt_of_le I1.big hle)))) r3 d3),rfl,q _ (I1.hok.fresh hle)⟩
end
def lr:List D→Option (List Key)
 | []=>some []
 | x :: r=>(match gX x,lr r with
  | some k,some l=>some (k :: l)
  | _,_=>none)
def fDZ (zs:List Vl) (S:Sto):R Vl:=match zs with
 | [.d (.tup xs),.d (.tup ys)]=>(match lr xs with
  | some ks=>if (ks.zip ys).length≤100000 then .ok (.r S.length) (S++[.dct (c5 [] (ks.zip ys))]) else .bad
  | none=>.bad)
 | _=>.bad
theorem rC {G:Hp}:∀ {vs:List V} {xs:List D} {ks:List Key},av G vs xs→lr xs=some ks→vs=ks.map kV∧ks.length=xs.length
 | _,_,_,.nil,e=>by cases e;exact ⟨rfl,rfl⟩
 | _,_,ks,.cons r t,e=>by
  simp only [lr] at e
  split at e
  ·rename_i k l hk hl
   cases e
   obtain ⟨h1,h2⟩:=rC t hl
   exact ⟨by rw [List.map_cons,iJ r hk,h1],by simp [h2]⟩
  ·cases e
theorem rF {G:Hp}:∀ (ks:List Key) {vs:List V} {ys:List D},av G vs ys→∃ us,us.length=(ks.zip ys).length∧ks.zip vs=((ks.zip ys).map (·.1)).zip us∧av G us ((ks.zip ys).map (·.2))
 | [],_,_,_=>⟨[],rfl,rfl,.nil⟩
 | _ :: _,_,_,.nil=>⟨[],rfl,rfl,.nil⟩
 | k :: ks,_,_,.cons (v:=v) r t=>by
  obtain ⟨us,l,e,rs⟩:=rF ks t
  exact ⟨v :: us,by simp [l],by simp [e],.cons r rs⟩
section
variable {X:Cx} {WE:WX}
theorem uS {a b:Expr} {ts:XA} {p1 p2 pos1 pos2:Pos} (hc:X.calm=true) (hgd:Gl X "dict") (hmd:X.mg "dict"=none) (hgz:Gl X "zip") (hmz:X.mg "zip"=none) (hbd:bootBuiltins "dict"=some (.type "dict")) (hbz:bootBuiltins "zip"=some (.type "zip")) (ha:RA X WE [a,b] ts)
  (hs:starEach [a,b] X.env=[(false,eval a X.env),(false,eval b X.env)]:=by rfl) (hs2:starEach [b] X.env=[(false,eval b X.env)]:=by rfl)
  (hs3:starEach [Expr.Call (.Name "zip" p2) [a,b] [] pos2] X.env=(false,eval (Expr.Call (.Name "zip" p2) [a,b] [] pos2) X.env) :: starEach [] X.env:=by rfl) :
  RE X WE (.Call (.Name "dict" p1) [.Call (.Name "zip" p2) [a,b] [] pos2] [] pos1) (xN fDZ ts):=
 ⟨(vD hc hgd hmd hgz hmz hbd hbz ha.h hs hs2 hs3).weak fun σ H Q ⟨μ,S,τ,hr,sr,p⟩=>⟨μ,S,τ,hr,sr,p.bind fun vs zs S1 μ1 H1 st1 r1 p1=>by
  unfold fDZ at p1
  split at p1
  ·rename_i xs ys
   split at p1
   ·rename_i ks hk
    split at p1
    ·rename_i hl
     cases r1 with
     | cons ra r1=>cases r1 with
      | cons rb r1=>
       cases r1
       obtain ⟨a1,us,rfl,h1,g1,rs1⟩:=gx ra
       obtain ⟨a2,ws,rfl,h2,g2,rs2⟩:=gx rb
       obtain ⟨ek,lk⟩:=rC rs1 hk
       subst ek
       have lw:=rs2.length
       refine ⟨a1,a2,ks,ws,rfl,h1,h2,?_,fun q hq=>?_⟩
       ·rw [List.length_zip] at hl ⊢;omega
       ·obtain ⟨vs2,l2,e2,r2⟩:=rF ks rs2
        obtain ⟨us3,l3,e3,r3⟩:=l8 (kvs:=[]) (ws:=[]) r2 av.nil
        have e4:b4 [] (ks.zip ws)=((c5 [] (ks.zip ys)).map (·.1)).zip us3:=by rw [e2];exact e3
        rw [e4]
        exact p1 _ _ _ (Step.alloc st1.hr hq (ob:=.dct (c5 [] (ks.zip ys))) ⟨us3,l3,rfl,r3⟩) ⟨by rw [cg],by simp⟩
    ·exact p1.elim
   ·exact p1.elim
  ·exact p1.elim⟩⟩
end
set_option maxRecDepth 100000
inductive n8 (H:Hp):List V→List (Key×V)→Prop
 | nil:n8 H [] []
 | cons {T:Addr} {k:Key} {v:V} {vs:List V} {ps:List (Key×V)}:H T=some (.tup [kV k,v])→n8 H vs ps→n8 H (.ref T :: vs) ((k,v) :: ps)
def least (ns:List Int) (n:Int):Int:=ns.foldl (fun m k=>if k < m then k else m) n
def ck (xs:Array Keyed) (lo k:Nat):Prop:=∀ i j,i≤j→j < k→K xs (lo+i)≤K xs (lo+j)
def oN (xs:Array Keyed) (lo k:Nat):Prop:=∀ i j,i≤j→j < k→K xs (lo+j)≤K xs (lo+i)
def cA (xs ys:Array Keyed) (lo:Nat):Prop:=∀ k,k < lo→K xs k=K ys k
theorem cA.refl {xs:Array Keyed} {lo:Nat}:cA xs xs lo:=fun _ _=>rfl
theorem cA.trans {xs ys zs:Array Keyed} {lo:Nat} (h:cA xs ys lo) (g:cA ys zs lo):cA xs zs lo:=fun k hk=>(h k hk).trans (g k hk)
structure SB (a₀:Array Keyed) (p₀:Array (Nat×Nat×Nat)) (st:SortSt):Prop where
 perm:(arrOf st).Perm a₀
 kind:kindOf st=oneType'
 failed:failedOf st=none
 pend:pendingOf st=p₀
section
variable {prog:Program} {w:World} {A:Around} {E:Value→Shared→Prop} {s:Shared} {a₀:Array Keyed} {p₀:Array (Nat×Nat×Nat)} {st:SortSt}
theorem SB.size (h:SB a₀ p₀ st):(arrOf st).size=a₀.size:=h.perm.size_eq
theorem SB.setArr (h:SB a₀ p₀ st) {xs:Array Keyed} (hp:xs.Perm (arrOf st)):SB a₀ p₀ (setArr st xs):=⟨hp.trans h.perm,h.kind,h.failed,h.pend⟩
theorem Bq {xs:Array Keyed} (h0:IntKeys xs) {i:Nat} (hi:i < xs.size):∃ t q,xs[i]?=some (.int (K xs i) t,q):=by
 have e:xs[i]?=some xs[i]:=getElem?_pos _ i hi
 obtain ⟨n,t,hn⟩:=h0 xs[i] (by simp)
 refine ⟨t,xs[i].2,?_⟩
 have e2:xs[i]=(.int n t,xs[i].2):=Prod.ext hn rfl
 unfold K
 rw [e,e2]
 rfl
theorem SB.keys (h:SB a₀ p₀ st) (h0:IntKeys a₀):IntKeys (arrOf st):=fun p hp=>h0 p ((Array.perm_iff_toList_perm.mp h.perm).mem_iff.mp hp)
theorem gG {i j:Nat} {Q:Option Bool→SortSt→Prop} (hB:SB a₀ p₀ st) (h0:IntKeys a₀) (hi:i < a₀.size) (hj:j < a₀.size)
  (h:Q (some (decide (K (arrOf st) i < K (arrOf st) j))) st):wpS (model prog w) A E s (ltAt' i j) Q st:=by
 obtain ⟨t,p,e1⟩:=Bq (hB.keys h0) (by rw [hB.size];exact hi)
 obtain ⟨u,q,e2⟩:=Bq (hB.keys h0) (by rw [hB.size];exact hj)
 exact wpS_ltAt hB.kind e1 e2 h
theorem sR {lo n ok:Nat} {Q:Bool→SortSt→Prop} (h0:IntKeys a₀) (hn:lo+n≤a₀.size) (hok:ok≤n) (hB:SB a₀ p₀ st) (hs:ck (arrOf st) lo ok)
    (h:∀ st',SB a₀ p₀ st'→ck (arrOf st') lo n→cA (arrOf st') (arrOf st) lo→Q true st'):wpS (model prog w) A E s (binarySort' lo n ok) Q st:=by
  rw [binarySort'_eq]
  refine wpS_bind (wpS_mono (wpS_forRange (I:=fun k c st'=>c=(none,())∧SB a₀ p₀ st'∧ck (arrOf st') lo (min k n)∧cA (arrOf st') (arrOf st) lo)
    (Q:=fun c st'=>c=(none,())∧SB a₀ p₀ st'∧ck (arrOf st') lo n∧cA (arrOf st') (arrOf st) lo) ?step ?fin ?init) ?post)
  case post=>
    rintro c st' ⟨rfl,hB',hs',hL⟩
    exact wpS_pure (h st' hB' hs' hL)
  case init=>
    refine ⟨rfl,hB,fun i j hij hj=>?_,cA.refl⟩
    by_cases h1:ok=0
    · have:i=j:=by omega
      subst this;exact Int.le_refl _
    · exact hs i j hij (by omega)
  case fin=>
    rintro c st' ⟨hc,hB',hs',hL⟩
    refine ⟨hc,hB',?_,hL⟩
    rwa [show min (max (max ok 1) n) n=n by omega] at hs'
  case step=>
    rintro k c st' hak hkn ⟨rfl,hB',hs',hL⟩
    rw [show min k n=k by omega] at hs'
    have hk:lo+k < a₀.size:=by omega
    refine wpS_bind (wpS_mono (wpS_forRange (I:=fun x c st''=>st''=st'∧∃ l r,c=(none,l,r)∧l≤r∧r≤k∧r - l≤k - x ∧
        (∀ i,i < l→K (arrOf st') (lo+i)≤K (arrOf st') (lo+k))∧(∀ i,r≤i→i < k→K (arrOf st') (lo+k) < K (arrOf st') (lo+i)))
      (Q:=fun c st''=>st''=st'∧∃ l r,c=(none,l,r)∧l≤k ∧
        (∀ i,i < l→K (arrOf st') (lo+i)≤K (arrOf st') (lo+k))∧(∀ i,l≤i→i < k→K (arrOf st') (lo+k) < K (arrOf st') (lo+i))) ?istep ?ifin ?iinit) ?ipost)
    case iinit=>exact ⟨rfl,0,k,rfl,by omega,by omega,by omega,fun i hi=>by omega,fun i h1 h2=>by omega⟩
    case ifin=>
      rintro c st'' ⟨rfl,l,r,rfl,hlr,hrk,hm,hlo,hhi⟩
      have:l=r:=by omega
      subst this
      exact ⟨rfl,l,l,rfl,hrk,hlo,hhi⟩
    case istep=>
      rintro x c st'' _ hxk ⟨rfl,l,r,rfl,hlr,hrk,hm,hlo,hhi⟩
      dsimp only
      by_cases hge:l ≥ r
      · rw [if_pos hge]
        have:l=r:=by omega
        subst this
        exact wpS_pure ⟨rfl,l,l,rfl,hrk,hlo,hhi⟩
      · rw [if_neg hge]
        refine wpS_bind (gG hB' h0 hk (by omega) ?_)
        by_cases hless:K (arrOf st'') (lo+k) < K (arrOf st'') (lo+(l+r) / 2)
        · simp only [hless,decide_true,if_true]
          refine wpS_pure ⟨rfl,l,(l+r) / 2,rfl,by omega,by omega,by omega,hlo,fun i h1 h2=>?_⟩
          exact Int.lt_of_lt_of_le hless (hs' _ _ h1 h2)
        · simp only [hless,decide_false,Bool.false_eq_true,if_false]
          refine wpS_pure ⟨rfl,(l+r) / 2+1,r,rfl,by omega,by omega,by omega,fun i h1=>?_,hhi⟩
          exact Int.le_trans (hs' i ((l+r) / 2) (by omega) (by omega)) (Int.not_lt.mp hless)
    case ipost=>
      rintro c st'' ⟨rfl,l,r,rfl,hlk,hlo,hhi⟩
      show wpS _ _ _ _ (do moveDown' (lo+k) (lo+l);pure (ForInStep.yield (none,()))) _ _
      rw [moveDown'_eq]
      have hks:lo+k < (arrOf st'').size:=by rw [hB'.size];exact hk
      refine wpS_bind (wpS_modify (wpS_pure ⟨rfl,hB'.setArr (bubble_perm _ _ _),?_,cA.trans (fun x hx=>?_) hL⟩))
      · rw [show min (k+1) n=k+1 by omega]
        intro i j hij hj
        show K (bubble (arrOf st'') (lo+k) (lo+k - (lo+l))) (lo+i)≤K (bubble (arrOf st'') (lo+k) (lo+k - (lo+l))) (lo+j)
        rw [K_bubble hks (by omega),K_bubble hks (by omega),show lo+k - (lo+k - (lo+l))=lo+l by omega]
        have e:∀ x,l < x→lo+x - 1=lo+(x - 1):=fun x hx=>by omega
        repeat' split
        all_goals first
          | (exfalso;omega)
          | exact Int.le_refl _
          | exact hlo _ (by omega)
          | (rw [e j (by omega)];exact Int.le_of_lt (hhi _ (by omega) (by omega)))
          | (rw [e i (by omega),e j (by omega)];exact hs' _ _ (by omega) (by omega))
          | (rw [e i (by omega)];exact hs' _ _ (by omega) (by omega))
          | (rw [e j (by omega)];exact hs' _ _ (by omega) (by omega))
          | exact hs' _ _ (by omega) (by omega)
      · show K (bubble (arrOf st'') (lo+k) (lo+k - (lo+l))) x=_
        rw [K_bubble hks (by omega),if_neg (by omega),if_neg (by omega)]
theorem kU {i j:Nat} {Q:Unit→SortSt→Prop} (h:Q () (PyProof.Rows.setArr st (mirror (arrOf st) i j ((j - i) / 2)))):wpS (model prog w) A E s (reverseSlice' i j) Q st:=by
 rw [reverseSlice'_eq];exact wpS_modify h
end
def rH (lo a nrem:Nat):StateT SortSt Sem AscSt:=
 forIn [a:nrem] ((none,a):AscSt) fun _ __s=>do
  let __x ← ltAt' (lo+__s.snd) (lo+__s.snd - 1)
  match __x with
  | some smaller=>if smaller=true then pure (ForInStep.done (none,__s.snd)) else pure (ForInStep.yield (none,__s.snd+1))
  | _=>pure (ForInStep.done (some none,__s.snd))
def nh (lo n nrem:Nat):StateT SortSt Sem (Option Nat):=do
 reverseSlice' lo (lo+n)
 let __s ← rH lo n nrem
 match __s.fst with
 | some r=>pure r
 | none=>pure (some __s.snd)
def ql (lo n nrem:Nat):StateT SortSt Sem DescSt:=
 forIn [n:nrem] ((none,n,0):DescSt) fun _ __s=>do
  let __x ← ltAt' (lo+__s.snd.fst) (lo+__s.snd.fst - 1)
  match __x with
  | some smaller=>
   if smaller=true then
    if __s.snd.snd > 0 then do
     reverseSlice' (lo+__s.snd.fst - (__s.snd.snd+1)) (lo+__s.snd.fst)
     pure (ForInStep.yield (none,__s.snd.fst+1,0))
    else pure (ForInStep.yield (none,__s.snd.fst+1,0))
   else do
    let __x ← ltAt' (lo+__s.snd.fst - 1) (lo+__s.snd.fst)
    match __x with
    | some larger=>
     if larger=true then pure (ForInStep.done (none,__s.snd.fst,__s.snd.snd))
     else pure (ForInStep.yield (none,__s.snd.fst+1,__s.snd.snd+1))
    | _=>pure (ForInStep.done (some none,__s.snd.fst,__s.snd.snd))
  | _=>pure (ForInStep.done (some none,__s.snd.fst,__s.snd.snd))
def mU (lo n nrem:Nat):StateT SortSt Sem (Option Nat):=do
 liftM (rule "list.sort.descending-run")
 let __s ← ql lo (n+1) nrem
 match __s.fst with
 | some r=>pure r
 | none=>
  if __s.snd.snd > 0 then do
   reverseSlice' (lo+__s.snd.fst - (__s.snd.snd+1)) (lo+__s.snd.fst)
   nh lo __s.snd.fst nrem
  else nh lo __s.snd.fst nrem
theorem yn (lo nrem:Nat):countRun' lo nrem=(do
  let __s ← rH lo 1 nrem
  match __s.fst with
  | some r=>pure r
  | none=>
   if (__s.snd == nrem)=true then pure (some __s.snd)
   else if __s.snd > 1 then do
    let __x ← ltAt' lo (lo+__s.snd - 1)
    match __x with
    | some rose=>if rose=true then pure (some __s.snd) else do
      reverseSlice' lo (lo+__s.snd)
      mU lo __s.snd nrem
    | _=>pure none
   else mU lo __s.snd nrem):=by
 rw [countRun'_eq]
 unfold mU nh ql rH
 dsimp only
 congr 1
 funext __s
 obtain ⟨r,n⟩:=__s
 cases r with
 | some r=>rfl
 | none=>
  dsimp only
  have fin:∀ {α:Type} (f g:AscSt→α),(∀ n,f (none,n)=g (none,n))→(∀ r n,f (some r,n)=g (some r,n))→f=g:=fun f g h1 h2=>by
   funext s3
   obtain ⟨r3,n3⟩:=s3
   cases r3
   ·exact h1 n3
   ·exact h2 _ n3
  split
  ·rfl
  ·split
   ·congr 1
    funext x
    cases x with
    | none=>rfl
    | some rose=>
     dsimp only
     split
     ·rfl
     ·congr 1
      funext _r
      congr 1;funext _u;congr 1;congr 1;funext s2;obtain ⟨r2,n2,q2⟩:=s2
      cases r2 with
      | some r2=>rfl
      | none=>
       dsimp only
       split
       ·congr 1;funext _v;congr 1;funext _w;congr 1;exact fin _ _ (fun _=>rfl) fun _ _=>rfl
       ·congr 1;funext _w;congr 1;exact fin _ _ (fun _=>rfl) fun _ _=>rfl
   ·congr 1;funext _u;congr 1;congr 1;funext s2;obtain ⟨r2,n2,q2⟩:=s2
    cases r2 with
    | some r2=>rfl
    | none=>
     dsimp only
     split
     ·congr 1;funext _v;congr 1;funext _w;congr 1;exact fin _ _ (fun _=>rfl) fun _ _=>rfl
     ·congr 1;funext _w;congr 1;exact fin _ _ (fun _=>rfl) fun _ _=>rfl
theorem xp {xs:Array Keyed} {lo n:Nat} (hj:lo+n≤xs.size) (k:Nat) (hk:k < n):K (mirror xs lo (lo+n) ((lo+n - lo) / 2)) (lo+k)=K xs (lo+(n - 1 - k)):=by
 rw [K_mirror hj,if_pos (by omega)]
 congr 1
 omega
theorem C1 {xs:Array Keyed} {lo i j:Nat} (hj:j≤xs.size) (hi:lo≤i):cA (mirror xs i j ((j - i) / 2)) xs lo:=fun k hk=>by rw [K_mirror hj,if_neg (by omega)]
section
variable {prog:Program} {w:World} {A:Around} {E:Value→Shared→Prop} {s:Shared} {a₀:Array Keyed} {p₀:Array (Nat×Nat×Nat)} {st:SortSt}
theorem qL {lo a nrem:Nat} {Q:AscSt→SortSt→Prop} (h0:IntKeys a₀) (hn:lo+nrem≤a₀.size) (ha:1≤a) (han:a≤nrem) (hB:SB a₀ p₀ st)
  (hs:ck (arrOf st) lo a)
  (h:∀ n,a≤n→n≤nrem→ck (arrOf st) lo n→(n=nrem∨K (arrOf st) (lo+n) < K (arrOf st) (lo+n - 1))→Q (none,n) st) :
  wpS (model prog w) A E s (rH lo a nrem) Q st:=by
 unfold rH
 refine wpS_forRange (I:=fun x c st'=>st'=st∧c=(none,x)∧ck (arrOf st) lo x) ?step ?fin ⟨rfl,rfl,hs⟩
 case fin=>
  rintro c st' ⟨rfl,rfl,hs'⟩
  rw [show max a nrem=nrem by omega] at hs' ⊢
  exact h nrem han (Nat.le_refl _) hs' (.inl rfl)
 case step=>
  rintro x c st' hax hxn ⟨rfl,rfl,hs'⟩
  dsimp only
  refine wpS_bind (gG hB h0 (by omega) (by omega) ?_)
  by_cases hless:K (arrOf st') (lo+x) < K (arrOf st') (lo+x - 1)
  ·simp only [hless,decide_true,if_true]
   exact wpS_pure (h x hax (by omega) hs' (.inr hless))
  ·simp only [hless,decide_false,Bool.false_eq_true,if_false]
   refine wpS_pure ⟨rfl,rfl,fun i j hij hj=>?_⟩
   by_cases hjx:j < x
   ·exact hs' i j hij hjx
   ·have hj':j=x:=by omega
    subst hj'
    by_cases hi':i=j
    ·subst hi';exact Int.le_refl _
    ·have:=hs' i (j - 1) (by omega) (by omega)
     rw [show lo+(j - 1)=lo+j - 1 by omega] at this
     exact Int.le_trans this (Int.not_lt.mp hless)
def nZ (a₀:Array Keyed) (p₀:Array (Nat×Nat×Nat)) (st0:SortSt) (lo nrem:Nat) (Q:Option Nat→SortSt→Prop):Prop:=∀ m st',SB a₀ p₀ st'→1≤m→m≤nrem→ck (arrOf st') lo m→cA (arrOf st') (arrOf st0) lo→Q (some m) st'
theorem nZ.of {st0 st1:SortSt} {lo nrem:Nat} {Q:Option Nat→SortSt→Prop} (h:nZ a₀ p₀ st0 lo nrem Q) (hl:cA (arrOf st1) (arrOf st0) lo):nZ a₀ p₀ st1 lo nrem Q:=fun m st' b h1 h2 h3 h4=>h m st' b h1 h2 h3 (h4.trans hl)
theorem pq {lo n nrem:Nat} {Q:Option Nat→SortSt→Prop} (h0:IntKeys a₀) (hn:lo+nrem≤a₀.size) (h1:1≤n) (hnn:n≤nrem) (hB:SB a₀ p₀ st)
  (hs:oN (arrOf st) lo n) (h:nZ a₀ p₀ st lo nrem Q):wpS (model prog w) A E s (nh lo n nrem) Q st:=by
 unfold nh
 have hsz:lo+n≤(arrOf st).size:=by rw [hB.size];omega
 refine wpS_bind (kU ?_)
 have hB':SB a₀ p₀ (PyProof.Rows.setArr st (mirror (arrOf st) lo (lo+n) ((lo+n - lo) / 2))):=hB.setArr (mirror_perm _ _ _ _)
 refine wpS_bind (qL h0 hn h1 hnn hB' ?_ fun m hm1 hm2 hsm _=>wpS_pure (h m _ hB' (by omega) hm2 hsm (C1 hsz (Nat.le_refl _))))
 intro i j hij hj
 show K (mirror (arrOf st) lo (lo+n) ((lo+n - lo) / 2)) (lo+i)≤K (mirror (arrOf st) lo (lo+n) ((lo+n - lo) / 2)) (lo+j)
 rw [xp hsz i (by omega),xp hsz j hj]
 exact hs _ _ (by omega) (by omega)
theorem wU {xs:Array Keyed} {lo m q:Nat} (hj:lo+m≤xs.size) (hq:q+1≤m) (heq:∀ i,m - (q+1)≤i→i < m→K xs (lo+i)=K xs (lo+m - 1)) (k:Nat):K (mirror xs (lo+m - (q+1)) (lo+m) ((lo+m - (lo+m - (q+1))) / 2)) k=K xs k:=by
 refine K_mirror_equal hj (fun k h1 h2=>?_) k
 have:=heq (k - lo) (by omega) (by omega)
 rwa [show lo+(k - lo)=k by omega] at this
theorem xA {lo n nrem:Nat} {Q:DescSt→SortSt→Prop} (h0:IntKeys a₀) (hn:lo+nrem≤a₀.size) (h1:1≤n) (hnn:n≤nrem) (hB:SB a₀ p₀ st)
  (hs:oN (arrOf st) lo n)
  (h:∀ m neq st',SB a₀ p₀ st'→n≤m→m≤nrem→oN (arrOf st') lo m→neq+1≤m→(∀ i,m - (neq+1)≤i→i < m→K (arrOf st') (lo+i)=K (arrOf st') (lo+m - 1))→cA (arrOf st') (arrOf st) lo→Q (none,m,neq) st') :
  wpS (model prog w) A E s (ql lo n nrem) Q st:=by
 unfold ql
 refine wpS_forRange (I:=fun x c st'=>∃ neq,c=(none,x,neq)∧SB a₀ p₀ st'∧oN (arrOf st') lo x∧neq+1≤x ∧
   (∀ i,x - (neq+1)≤i→i < x→K (arrOf st') (lo+i)=K (arrOf st') (lo+x - 1))∧cA (arrOf st') (arrOf st) lo) ?step ?fin ⟨0,rfl,hB,hs,by omega,fun i h1 h2=>by congr 1;omega,cA.refl⟩
 case fin=>
  rintro c st' ⟨neq,rfl,hB',hs',hq,he,hL⟩
  rw [show max n nrem=nrem by omega] at hs' hq he ⊢
  exact h nrem neq st' hB' hnn (Nat.le_refl _) hs' hq he hL
 case step=>
  rintro x c st' hax hxn ⟨neq,rfl,hB',hs',hq,he,hL⟩
  dsimp only
  have hsz:lo+x≤(arrOf st').size:=by rw [hB'.size];omega
  refine wpS_bind (gG hB' h0 (by omega) (by omega) ?_)
  by_cases hless:K (arrOf st') (lo+x) < K (arrOf st') (lo+x - 1)
  ·simp only [hless,decide_true,if_true]
   have step1:∀ xs:Array Keyed,(∀ k,K xs k=K (arrOf st') k)→oN xs lo (x+1):=by
    intro xs hk i j hij hj
    rw [hk,hk]
    by_cases hjx:j < x
    ·exact hs' i j hij hjx
    ·have hj':j=x:=by omega
     subst hj'
     by_cases hi':i=j
     ·subst hi';exact Int.le_refl _
     ·have:=hs' i (j - 1) (by omega) (by omega)
      rw [show lo+(j - 1)=lo+j - 1 by omega] at this
      exact Int.le_trans (Int.le_of_lt hless) this
   by_cases hneq:neq > 0
   ·rw [if_pos hneq]
    have hm:=wU hsz hq he
    refine wpS_bind (kU (wpS_pure ⟨0,rfl,hB'.setArr (mirror_perm _ _ _ _),step1 _ hm,by omega,fun i h1 h2=>by congr 1;omega,cA.trans (fun k _=>hm k) hL⟩))
   ·rw [if_neg hneq]
    exact wpS_pure ⟨0,rfl,hB',step1 _ (fun _=>rfl),by omega,fun i h1 h2=>by congr 1;omega,hL⟩
  ·simp only [hless,decide_false,Bool.false_eq_true,if_false]
   refine wpS_bind (gG hB' h0 (by omega) (by omega) ?_)
   by_cases hlarger:K (arrOf st') (lo+x - 1) < K (arrOf st') (lo+x)
   ·simp only [hlarger,decide_true,if_true]
    exact wpS_pure (h x neq st' hB' hax (by omega) hs' hq he hL)
   ·simp only [hlarger,decide_false,Bool.false_eq_true,if_false]
    have heqx:K (arrOf st') (lo+x)=K (arrOf st') (lo+x - 1):=by omega
    refine wpS_pure ⟨neq+1,rfl,hB',fun i j hij hj=>?_,by omega,fun i h1 h2=>?_,hL⟩
    ·by_cases hjx:j < x
     ·exact hs' i j hij hjx
     ·have hj':j=x:=by omega
      subst hj'
      by_cases hi':i=j
      ·subst hi';exact Int.le_refl _
      ·have:=hs' i (j - 1) (by omega) (by omega)
       rw [show lo+(j - 1)=lo+j - 1 by omega] at this
       rw [heqx];exact this
    ·rw [show lo+(x+1) - 1=lo+x by omega]
     by_cases hix:i=x
     ·subst hix;rfl
     ·rw [heqx];exact he i (by omega) (by omega)
theorem o8 {lo n nrem:Nat} {Q:Option Nat→SortSt→Prop} (h0:IntKeys a₀) (hn:lo+nrem≤a₀.size) (hnn:n+1≤nrem) (hB:SB a₀ p₀ st)
  (hs:oN (arrOf st) lo (n+1)) (h:nZ a₀ p₀ st lo nrem Q):wpS (model prog w) A E s (mU lo n nrem) Q st:=by
 unfold mU
 refine wpS_bind (wpS_lift (wpAny_rule ⟨rfl,?_⟩))
 refine wpS_bind (xA h0 hn (by omega) hnn hB hs fun m neq st' hB' hm1 hm2 hs' hq he hL=>?_)
 dsimp only
 have hsz:lo+m≤(arrOf st').size:=by rw [hB'.size];omega
 by_cases hneq:neq > 0
 ·rw [if_pos hneq]
  have hm:=wU hsz hq he
  refine wpS_bind (kU (pq h0 hn (by omega) hm2 (hB'.setArr (mirror_perm _ _ _ _)) ?_ (h.of (cA.trans (fun k _=>hm k) hL))))
  intro i j hij hj
  show K (mirror (arrOf st') _ _ _) (lo+j)≤K (mirror (arrOf st') _ _ _) (lo+i)
  rw [hm,hm]
  exact hs' i j hij hj
 ·rw [if_neg hneq]
  exact pq h0 hn (by omega) hm2 hB' hs' (h.of hL)
theorem v8 {lo nrem:Nat} {Q:Option Nat→SortSt→Prop} (h0:IntKeys a₀) (hn:lo+nrem≤a₀.size) (h1:1≤nrem) (hB:SB a₀ p₀ st) (h:nZ a₀ p₀ st lo nrem Q):wpS (model prog w) A E s (countRun' lo nrem) Q st:=by
 rw [yn]
 refine wpS_bind (qL h0 hn (Nat.le_refl 1) h1 hB (fun i j hij hj=>by
  have:i=j:=by omega
  subst this;exact Int.le_refl _) fun n hn1 hn2 hsn hor=>?_)
 dsimp only
 by_cases hnn:n=nrem
 ·rw [if_pos (by simpa using hnn)]
  exact wpS_pure (h n st hB hn1 hn2 hsn cA.refl)
 ·rw [if_neg (by simpa using hnn)]
  have hlt:K (arrOf st) (lo+n) < K (arrOf st) (lo+n - 1):=hor.resolve_left hnn
  by_cases hgt:n > 1
  ·rw [if_pos hgt]
   refine wpS_bind (gG hB h0 (by omega) (by omega) ?_)
   by_cases hrose:K (arrOf st) lo < K (arrOf st) (lo+n - 1)
   ·simp only [hrose,decide_true,if_true]
    exact wpS_pure (h n st hB hn1 hn2 hsn cA.refl)
   ·simp only [hrose,decide_false,Bool.false_eq_true,if_false]
    have hsz:lo+n≤(arrOf st).size:=by rw [hB.size];omega
    have hall:∀ k,k < n→K (arrOf st) (lo+k)=K (arrOf st) (lo+n - 1):=by
     intro k hk
     have a1:=hsn 0 k (by omega) hk
     have a2:=hsn k (n - 1) (by omega) (by omega)
     rw [show lo+0=lo by omega] at a1
     rw [show lo+(n - 1)=lo+n - 1 by omega] at a2
     omega
    have hm:∀ k,K (mirror (arrOf st) lo (lo+n) ((lo+n - lo) / 2)) k=K (arrOf st) k:=K_mirror_equal hsz fun k h1 h2=>by
     have:=hall (k - lo) (by omega)
     rwa [show lo+(k - lo)=k by omega] at this
    refine wpS_bind (kU (o8 h0 hn (by omega) (hB.setArr (mirror_perm _ _ _ _)) ?_ (h.of fun k _=>hm k)))
    intro i j hij hj
    show K (mirror (arrOf st) _ _ _) (lo+j)≤K (mirror (arrOf st) _ _ _) (lo+i)
    rw [hm,hm]
    by_cases hjn:j < n
    ·rw [hall i (by omega),hall j hjn];exact Int.le_refl _
    ·have hj':j=n:=by omega
     subst hj'
     by_cases hi':i=j
     ·subst hi';exact Int.le_refl _
     ·rw [hall i (by omega)];exact Int.le_of_lt hlt
  ·rw [if_neg hgt]
   have hn1':n=1:=by omega
   subst hn1'
   refine o8 h0 hn (by omega) hB ?_ h
   intro i j hij hj
   by_cases hi':i=j
   ·subst hi';exact Int.le_refl _
   ·have hi0:i=0:=by omega
    have hj1:j=1:=by omega
    subst hi0;subst hj1
    exact Int.le_of_lt hlt
end
def cu:Bool→Keyed→Array Keyed→Nat→Nat→Nat→StateT SortSt Sem (Option Nat):=sortPriv% PySem.Builtin.gallop
def eZ (left:Bool) (key:Keyed) (arr:Array Keyed) (base i:Nat):StateT SortSt Sem (Option Bool):=do
 let x ← elem' arr (base+i)
 if left then lt' x key else return (← lt' key x).map (!·)
theorem vc (left:Bool) (key:Keyed) (arr:Array Keyed) (base n hint:Nat):cu left key arr base n hint=(do
 let mut lastofs:=0
 let mut ofs:=1
 let mut lo:=0
 let mut hi:=0
 let some right ← eZ left key arr base hint | return none
 if right then
  let maxofs:=n - hint
  for _ in [0:n] do
   if ofs ≥ maxofs then break
   let some more ← eZ left key arr base (hint+ofs) | return none
   if !more then break
   lastofs:=ofs
   ofs:=2 * ofs+1
  lo:=hint+lastofs+1
  hi:=hint+min ofs maxofs
 else
  let maxofs:=hint+1
  for _ in [0:n] do
   if ofs ≥ maxofs then break
   let some found ← eZ left key arr base (hint - ofs) | return none
   if found then break
   lastofs:=ofs
   ofs:=2 * ofs+1
  lo:=hint+1 - min ofs maxofs
  hi:=hint - lastofs
 for _ in [0:n] do
  if lo ≥ hi then break
  let m:=lo+(hi - lo) / 2
  let some more ← eZ left key arr base m | return none
  if more then lo:=m+1 else hi:=m
 return some hi):=rfl
def bey (left:Bool) (k:Int) (arr:Array Keyed) (base i:Nat):Bool:=if left then decide (K arr (base+i) < k) else !decide (k < K arr (base+i))
section
variable {prog:Program} {w:World} {A:Around} {E:Value→Shared→Prop} {s:Shared} {st:SortSt}
theorem kR {p q:Keyed} {Q:Option Bool→SortSt→Prop} (hk:kindOf st=oneType') (hp:∃ n t,p.1=.int n t) (hq:∃ n t,q.1=.int n t) (h:Q (some (decide (numOf p.1 < numOf q.1))) st):wpS (model prog w) A E s (lt' p q) Q st:=by
 obtain ⟨a,t,e1⟩:=hp
 obtain ⟨b,u,e2⟩:=hq
 rw [e1,e2] at h
 rw [lt'_eq]
 refine wpS_bind (wpS_get ?_)
 rw [hk,keyLt'_oneType,e1,e2]
 refine wpS_bind (wpS_lift (wpAny_attempt (oneLt_int ⟨rfl,?_⟩)))
 exact wpS_pure h
theorem bh {xs:Array Keyed} {i:Nat} {Q:Keyed→SortSt→Prop} (hi:i < xs.size) (h:Q xs[i] st):wpS (model prog w) A E s (elem' xs i) Q st:=by
 rw [elem'_eq,getElem?_pos xs i hi]
 exact wpS_pure h
theorem n_ {xs:Array Keyed} {i:Nat} (hi:i < xs.size):K xs i=numOf xs[i].1:=by unfold K;rw [getElem?_pos xs i hi]
theorem lj {left:Bool} {key:Keyed} {arr:Array Keyed} {base i:Nat} {Q:Option Bool→SortSt→Prop} (hk:kindOf st=oneType') (h0:IntKeys arr) (hkey:∃ n t,key.1=.int n t) (hi:base+i < arr.size) (h:Q (some (bey left (numOf key.1) arr base i)) st):wpS (model prog w) A E s (eZ left key arr base i) Q st:=by
 unfold eZ
 have hx:=h0 arr[base+i] (by simp)
 unfold bey at h
 rw [n_ hi] at h
 refine wpS_bind (bh hi ?_)
 cases left with
 | true=>exact kR hk hx hkey h
 | false=>exact wpS_bind (kR hk hkey hx (wpS_pure h))
theorem jh {left:Bool} {k:Int} {arr:Array Keyed} {base n i j:Nat} (hs:ck arr base n) (hij:i≤j) (hj:j < n) (h:bey left k arr base j=true):bey left k arr base i=true:=by
 have:=hs i j hij hj
 unfold bey at h ⊢
 cases left with
 | true=>simp at h ⊢;omega
 | false=>simp at h ⊢;omega
theorem rp {left:Bool} {k:Int} {arr:Array Keyed} {base n i j:Nat} (hs:ck arr base n) (hij:i≤j) (hj:j < n) (h:bey left k arr base i=false):bey left k arr base j=false:=by
 cases q:bey left k arr base j with
 | false=>rfl
 | true=>rw [jh hs hij hj q] at h;cases h
theorem dA {left:Bool} {key:Keyed} {arr:Array Keyed} {base n hint:Nat} {Q:Option Nat→SortSt→Prop} (hk:kindOf st=oneType') (h0:IntKeys arr) (hkey:∃ n t,key.1=.int n t) (hn:base+n≤arr.size) (hh:hint < n) (hs:ck arr base n)
  (h:∀ k,k≤n→(∀ i,i < k→bey left (numOf key.1) arr base i=true)→(∀ i,k≤i→i < n→bey left (numOf key.1) arr base i=false)→Q (some k) st):wpS (model prog w) A E s (cu left key arr base n hint) Q st:=by
 rw [vc]
 have last:∀ lo hi,lo≤hi→hi≤n→(∀ i,i < lo→bey left (numOf key.1) arr base i=true)→(∀ i,hi≤i→i < n→bey left (numOf key.1) arr base i=false) →
   wpS (model prog w) A E s (do
    let mut lo:=lo
    let mut hi:=hi
    for _ in [0:n] do
     if lo ≥ hi then break
     let m:=lo+(hi - lo) / 2
     let some more ← eZ left key arr base m | return none
     if more then lo:=m+1 else hi:=m
    return some hi) Q st:=fun lo hi h1 h2 h3 h4=>by
  refine wpS_bind (wpS_mono (wpS_forRange (I:=fun x c st'=>st'=st∧∃ lo hi,c=(none,lo,hi)∧lo≤hi∧hi≤n∧hi - lo≤n - x∧(∀ i,i < lo→bey left (numOf key.1) arr base i=true)∧(∀ i,hi≤i→i < n→bey left (numOf key.1) arr base i=false))
   (Q:=fun c st'=>st'=st∧∃ k,c=(none,k,k)∧k≤n∧(∀ i,i < k→bey left (numOf key.1) arr base i=true)∧(∀ i,k≤i→i < n→bey left (numOf key.1) arr base i=false)) ?step ?fin ⟨rfl,lo,hi,rfl,h1,h2,by omega,h3,h4⟩) ?post)
  case fin=>
   rintro c st' ⟨rfl,lo,hi,rfl,a1,a2,a3,a4,a5⟩
   have:lo=hi:=by omega
   subst this
   exact ⟨rfl,lo,rfl,a2,a4,a5⟩
  case post=>
   rintro c st' ⟨rfl,k,rfl,a1,a2,a3⟩
   exact wpS_pure (h k a1 a2 a3)
  case step=>
   rintro x c st' _ hx ⟨rfl,lo,hi,rfl,a1,a2,a3,a4,a5⟩
   dsimp only
   by_cases hge:lo ≥ hi
   ·rw [if_pos hge]
    have:lo=hi:=by omega
    subst this
    exact wpS_pure ⟨rfl,lo,rfl,a2,a4,a5⟩
   ·rw [if_neg hge]
    refine wpS_bind (lj hk h0 hkey (by omega) ?_)
    cases q:bey left (numOf key.1) arr base (lo+(hi - lo) / 2) with
    | true=>
     exact wpS_pure ⟨rfl,lo+(hi - lo) / 2+1,hi,rfl,by omega,a2,by omega,fun i hi'=>jh hs (by omega) (by omega) q,a5⟩
    | false=>
     exact wpS_pure ⟨rfl,lo,lo+(hi - lo) / 2,rfl,by omega,by omega,by omega,a4,fun i h1 h2=>rp hs h1 h2 q⟩
 refine wpS_bind (lj hk h0 hkey (by omega) ?_)
 cases qh:bey left (numOf key.1) arr base hint with
 | true=>
  dsimp only
  rw [if_pos rfl]
  refine wpS_bind (wpS_mono (wpS_forRange (I:=fun x c st'=>st'=st∧∃ la o,c=(none,la,o)∧la < o∧x+1≤o∧hint+la < n∧bey left (numOf key.1) arr base (hint+la)=true)
   (Q:=fun c st'=>st'=st∧∃ la o,c=(none,la,o)∧la < o∧hint+la < n∧bey left (numOf key.1) arr base (hint+la)=true∧(o ≥ n - hint∨bey left (numOf key.1) arr base (hint+o)=false)) ?step ?fin ⟨rfl,0,1,rfl,by omega,by omega,by omega,qh⟩) ?post)
  case fin=>
   rintro c st' ⟨rfl,la,o,rfl,a1,a2,a3,a4⟩
   exact ⟨rfl,la,o,rfl,a1,a3,a4,.inl (by omega)⟩
  case step=>
   rintro x c st' _ hx ⟨rfl,la,o,rfl,a1,a2,a3,a4⟩
   dsimp only
   by_cases hge:o ≥ n - hint
   ·rw [if_pos hge]
    exact wpS_pure ⟨rfl,la,o,rfl,a1,a3,a4,.inl hge⟩
   ·rw [if_neg hge]
    refine wpS_bind (lj hk h0 hkey (by omega) ?_)
    cases q:bey left (numOf key.1) arr base (hint+o) with
    | true=>exact wpS_pure ⟨rfl,o,2 * o+1,rfl,by omega,by omega,by omega,q⟩
    | false=>exact wpS_pure ⟨rfl,la,o,rfl,a1,a3,a4,.inr q⟩
  case post=>
   rintro c st' ⟨rfl,la,o,rfl,a1,a3,a4,a5⟩
   refine last (hint+la+1) (hint+min o (n - hint)) (by omega) (by omega) (fun i hi=>jh hs (by omega) a3 a4) fun i h1 h2=>?_
   rcases a5 with z | z
   ·omega
   ·by_cases hlt:o < n - hint
    ·exact rp hs (by omega) h2 z
    ·omega
 | false=>
  dsimp only
  rw [if_neg Bool.false_ne_true]
  refine wpS_bind (wpS_mono (wpS_forRange (I:=fun x c st'=>st'=st∧∃ la o,c=(none,la,o)∧la < o∧x+1≤o∧la≤hint∧bey left (numOf key.1) arr base (hint - la)=false)
   (Q:=fun c st'=>st'=st∧∃ la o,c=(none,la,o)∧la < o∧la≤hint∧bey left (numOf key.1) arr base (hint - la)=false∧(o ≥ hint+1∨bey left (numOf key.1) arr base (hint - o)=true)) ?step ?fin ⟨rfl,0,1,rfl,by omega,by omega,by omega,qh⟩) ?post)
  case fin=>
   rintro c st' ⟨rfl,la,o,rfl,a1,a2,a3,a4⟩
   exact ⟨rfl,la,o,rfl,a1,a3,a4,.inl (by omega)⟩
  case step=>
   rintro x c st' _ hx ⟨rfl,la,o,rfl,a1,a2,a3,a4⟩
   dsimp only
   by_cases hge:o ≥ hint+1
   ·rw [if_pos hge]
    exact wpS_pure ⟨rfl,la,o,rfl,a1,a3,a4,.inl hge⟩
   ·rw [if_neg hge]
    refine wpS_bind (lj hk h0 hkey (by omega) ?_)
    cases q:bey left (numOf key.1) arr base (hint - o) with
    | true=>exact wpS_pure ⟨rfl,la,o,rfl,a1,a3,a4,.inr q⟩
    | false=>exact wpS_pure ⟨rfl,o,2 * o+1,rfl,by omega,by omega,by omega,q⟩
  case post=>
   rintro c st' ⟨rfl,la,o,rfl,a1,a3,a4,a5⟩
   refine last (hint+1 - min o (hint+1)) (hint - la) (by omega) (by omega) (fun i hi=>?_) fun i h1 h2=>rp hs (by omega) h2 a4
   rcases a5 with z | z
   ·omega
   ·exact jh hs (by omega) (by omega) z
end
def kk (p:Keyed):Int:=numOf p.1
def Srt (l:List Keyed):Prop:=l.Pairwise fun p q=>kk p≤kk q
def Mgd (A B r:List Keyed):Prop:=r.Perm (A++B)∧Srt r
structure ML (A B l:List Keyed) (ia ib:Nat):Prop where
 perm:l.Perm (A.take ia++B.take ib)
 srt:Srt l
 le:∀ p∈l,∀ q,q∈A.drop ia∨q∈B.drop ib→kk p≤kk q
structure MH (A B l:List Keyed) (na nb:Nat):Prop where
 perm:l.Perm (A.drop na++B.drop nb)
 srt:Srt l
 le:∀ p∈l,∀ q,q∈A.take na∨q∈B.take nb→kk q≤kk p
theorem pF {A:List Keyed} {i k:Nat}:A.take (i+k)=A.take i++(A.drop i).take k:=List.take_add
theorem cJ {l r:List Keyed} (h1:Srt l) (h2:Srt r) (h:∀ p∈l,∀ q∈r,kk p≤kk q):Srt (l++r):=List.pairwise_append.mpr ⟨h1,h2,h⟩
theorem ke {A:List Keyed} (h:Srt A) (i:Nat):∀ p∈A.take i,∀ q∈A.drop i,kk p≤kk q:=by
 have:Srt (A.take i++A.drop i):=by rw [List.take_append_drop];exact h
 exact (List.pairwise_append.mp this).2.2
section
variable {A B l:List Keyed} {ia ib na nb k:Nat}
theorem ML.iI (h:ML A B l ia ib) (hA:Srt A) (hk:∀ q∈(A.drop ia).take k,∀ r∈B.drop ib,kk q≤kk r):ML A B (l++(A.drop ia).take k) (ia+k) ib where
 perm:=by
  rw [pF,List.append_assoc]
  refine (h.perm.append_right _).trans ?_
  rw [List.append_assoc]
  exact List.Perm.append_left _ List.perm_append_comm
 srt:=cJ h.srt ((hA.drop).take) fun p hp q hq=>h.le p hp q (.inl (List.mem_of_mem_take hq))
 le:=fun p hp q hq=>by
  have hd:q∈A.drop (ia+k)→q∈(A.drop ia).drop k:=fun z=>by rw [List.drop_drop];exact z
  rcases List.mem_append.mp hp with hp | hp
  ·refine h.le p hp q (hq.imp (fun z=>?_) id)
   exact List.mem_of_mem_drop (hd z)
  ·rcases hq with hq | hq
   ·exact ke (hA.drop (i:=ia)) k p hp q (hd hq)
   ·exact hk p hp q hq
theorem ML.j4 (h:ML A B l ia ib) (hB:Srt B) (hk:∀ q∈(B.drop ib).take k,∀ r∈A.drop ia,kk q≤kk r):ML A B (l++(B.drop ib).take k) ia (ib+k) where
 perm:=by
  rw [pF,← List.append_assoc]
  exact h.perm.append_right _
 srt:=cJ h.srt ((hB.drop).take) fun p hp q hq=>h.le p hp q (.inr (List.mem_of_mem_take hq))
 le:=fun p hp q hq=>by
  have hd:q∈B.drop (ib+k)→q∈(B.drop ib).drop k:=fun z=>by rw [List.drop_drop];exact z
  rcases List.mem_append.mp hp with hp | hp
  ·refine h.le p hp q (hq.imp id fun z=>?_)
   exact List.mem_of_mem_drop (hd z)
  ·rcases hq with hq | hq
   ·exact hk p hp q hq
   ·exact ke (hB.drop (i:=ib)) k p hp q (hd hq)
theorem ML.iD (h:ML A B l ia ib) (hA:Srt A) (hb:B.length≤ib):Mgd A B (l++A.drop ia++B.drop ib):=by
 have e:B.drop ib=[]:=List.drop_eq_nil_of_le hb
 have e2:B.take ib=B:=List.take_of_length_le hb
 rw [e,List.append_nil]
 have hp:=h.perm
 rw [e2] at hp
 refine ⟨?_,cJ h.srt hA.drop fun p hp q hq=>h.le p hp q (.inl hq)⟩
 refine (hp.append_right _).trans ?_
 rw [List.append_assoc]
 refine (List.Perm.append_left _ List.perm_append_comm).trans ?_
 rw [← List.append_assoc,List.take_append_drop]
theorem ML.iA (h:ML A B l ia ib) (hB:Srt B) (ha:A.length≤ia):Mgd A B (l++A.drop ia++B.drop ib):=by
 have e:A.drop ia=[]:=List.drop_eq_nil_of_le ha
 have e2:A.take ia=A:=List.take_of_length_le ha
 rw [e,List.append_nil]
 have hp:=h.perm
 rw [e2] at hp
 refine ⟨?_,cJ h.srt hB.drop fun p hp q hq=>h.le p hp q (.inr hq)⟩
 refine (hp.append_right _).trans ?_
 rw [List.append_assoc,List.take_append_drop]
theorem ML.oH (h:ML A B l ia ib) (hA:Srt A) (hB:Srt B) (hl:∀ p∈B,∀ q∈A.drop ia,kk p≤kk q):Mgd A B (l++B.drop ib++A.drop ia):=by
 refine ⟨?_,cJ (cJ h.srt hB.drop fun p hp q hq=>h.le p hp q (.inr hq)) hA.drop fun p hp q hq=>?_⟩
 ·rw [List.append_assoc]
  refine (h.perm.append_right _).trans ?_
  rw [List.append_assoc,← List.append_assoc (B.take ib),List.take_append_drop]
  refine (List.Perm.append_left _ List.perm_append_comm).trans ?_
  rw [← List.append_assoc,List.take_append_drop]
 ·rcases List.mem_append.mp hp with z | z
  ·exact h.le p z q (.inl hq)
  ·exact hl p (List.mem_of_mem_drop z) q hq
theorem MH.iI (h:MH A B l na nb) (hA:Srt A) (hk:k≤na) (hle:∀ q∈(A.take na).drop k,∀ r∈B.take nb,kk r≤kk q):MH A B ((A.take na).drop k++l) k nb where
 perm:=by
  have e:A.drop k=(A.take na).drop k++A.drop na:=by
   conv=>lhs;rw [← List.take_append_drop na A]
   rw [List.drop_append]
   by_cases hl:na≤A.length
   ·rw [List.length_take,Nat.min_eq_left hl,Nat.sub_eq_zero_of_le hk,List.drop_zero]
   ·rw [List.drop_eq_nil_of_le (show A.length≤na by omega),List.drop_nil]
  rw [e,List.append_assoc]
  exact List.Perm.append_left _ h.perm
 srt:=cJ ((hA.take).drop) h.srt fun p hp q hq=>h.le q hq p (.inl (List.mem_of_mem_drop hp))
 le:=fun p hp q hq=>by
  have e:A.take k=(A.take na).take k:=by rw [List.take_take,Nat.min_eq_left hk]
  rcases List.mem_append.mp hp with hp | hp
  ·rcases hq with hq | hq
   ·rw [e] at hq
    exact ke (hA.take (i:=na)) k q hq p hp
   ·exact hle p hp q hq
  ·refine h.le p hp q (hq.imp (fun z=>?_) id)
   rw [e] at z
   exact List.mem_of_mem_take z
theorem MH.symm (h:MH A B l na nb):MH B A l nb na:=⟨h.perm.trans List.perm_append_comm,h.srt,fun p hp q hq=>h.le p hp q hq.symm⟩
theorem MH.j4 (h:MH A B l na nb) (hB:Srt B) (hk:k≤nb) (hle:∀ q∈(B.take nb).drop k,∀ r∈A.take na,kk r≤kk q):MH A B ((B.take nb).drop k++l) na k:=(h.symm.iI hB hk hle).symm
theorem MH.iA (h:MH A B l 0 nb) (hB:Srt B):Mgd A B (A.take 0++B.take nb++l):=by
 rw [List.take_zero,List.nil_append]
 have hp:=h.perm
 rw [List.drop_zero] at hp
 refine ⟨?_,cJ hB.take h.srt fun p hp q hq=>h.le q hq p (.inr hp)⟩
 refine (List.Perm.append_left _ hp).trans ?_
 rw [← List.append_assoc]
 refine (List.perm_append_comm.append_right _).trans ?_
 rw [List.append_assoc,List.take_append_drop]
theorem MH.iD (h:MH A B l na 0) (hA:Srt A):Mgd A B (A.take na++B.take 0++l):=by
 rw [List.take_zero,List.append_nil]
 have hp:=h.perm
 rw [List.drop_zero] at hp
 refine ⟨?_,cJ hA.take h.srt fun p hp q hq=>h.le q hq p (.inl hp)⟩
 refine (List.Perm.append_left _ hp).trans ?_
 rw [← List.append_assoc,List.take_append_drop]
theorem MH.oO (h:MH A B l na nb) (hA:Srt A) (hB:Srt B) (hl:∀ p∈B.take nb,∀ q∈A,kk p≤kk q):Mgd A B (B.take nb++A.take na++l):=by
 refine ⟨?_,cJ (cJ hB.take hA.take fun p hp q hq=>hl p hp q (List.mem_of_mem_take hq)) h.srt fun p hp q hq=>?_⟩
 ·refine (List.Perm.append_left _ h.perm).trans ?_
  rw [List.append_assoc,← List.append_assoc (A.take na),List.take_append_drop]
  refine List.perm_append_comm.trans ?_
  rw [List.append_assoc]
  refine List.Perm.append_left _ (List.perm_append_comm.trans ?_)
  rw [List.take_append_drop]
 ·rcases List.mem_append.mp hp with z | z
  ·exact h.le q hq p (.inr z)
  ·exact h.le q hq p (.inl z)
end
def gi:Nat→StateT SortSt Sem Unit:=sortPriv% PySem.Builtin.setMinGallop
theorem jo (g:Nat):gi g=modify fun s=>SortSt.mk' (kindOf s) (arrOf s) (pendingOf s) g (failedOf s):=rfl
def iR:Array Keyed→Array Keyed→StateT SortSt Sem (Array Keyed):=sortPriv% PySem.Builtin.mergeLo
def iX:Array Keyed→Array Keyed→StateT SortSt Sem (Array Keyed):=sortPriv% PySem.Builtin.mergeHi
abbrev LoA:=Option (Array Keyed)×Array Keyed×Nat×Nat×Nat×Nat
abbrev LoG:=Option (Array Keyed)×Array Keyed×Nat×Nat×Nat×Nat×Nat
abbrev LoO:=Option (Array Keyed)×Array Keyed×Nat×Nat×Nat
def loF (a b:Array Keyed) (mg:Nat) (c:LoA):StateT SortSt Sem (ForInStep LoA):=do
 let x ← elem' b c.2.2.2.1
 let y ← elem' a c.2.2.1
 let r ← lt' x y
 match r with
 | some bWins=>
  if bWins=true then do
   let x ← elem' b c.2.2.2.1
   if (c.2.2.2.1+1 == b.size)=true then pure (.done (some (c.2.1.push x++a.extract c.2.2.1 a.size++b.extract (c.2.2.2.1+1) b.size),c.2.1.push x,c.2.2.1,c.2.2.2.1+1,0,c.2.2.2.2.2+1))
   else if c.2.2.2.2.2+1 ≥ mg then pure (.done (none,c.2.1.push x,c.2.2.1,c.2.2.2.1+1,0,c.2.2.2.2.2+1))
   else pure (.yield (none,c.2.1.push x,c.2.2.1,c.2.2.2.1+1,0,c.2.2.2.2.2+1))
  else do
   let y ← elem' a c.2.2.1
   if (c.2.2.1+1+1 == a.size)=true then pure (.done (some (c.2.1.push y++b.extract c.2.2.2.1 b.size++a.extract (c.2.2.1+1) a.size),c.2.1.push y,c.2.2.1+1,c.2.2.2.1,c.2.2.2.2.1+1,0))
   else if c.2.2.2.2.1+1 ≥ mg then pure (.done (none,c.2.1.push y,c.2.2.1+1,c.2.2.2.1,c.2.2.2.2.1+1,0))
   else pure (.yield (none,c.2.1.push y,c.2.2.1+1,c.2.2.2.1,c.2.2.2.2.1+1,0))
 | _=>pure (.done (some (c.2.1++a.extract c.2.2.1 a.size++b.extract c.2.2.2.1 b.size),c.2.1,c.2.2.1,c.2.2.2.1,c.2.2.2.2.1,c.2.2.2.2.2))
def vG (a b out:Array Keyed) (ia ib mg ac bc:Nat):StateT SortSt Sem (ForInStep LoG):=do
 let y ← elem' a ia
 if (ia+1+1 == a.size)=true then pure (.done (some (out.push y++b.extract ib b.size++a.extract (ia+1) a.size),out.push y,ia+1,ib,mg,ac,bc))
 else if (decide (ac < 7) && decide (bc < 7))=true then pure (.done (none,out.push y,ia+1,ib,mg,ac,bc))
 else pure (.yield (none,out.push y,ia+1,ib,mg,ac,bc))
def vV (a b out:Array Keyed) (ia ib mg ac bc:Nat):StateT SortSt Sem (ForInStep LoG):=do
 let x ← elem' b ib
 if (ib+1 == b.size)=true then pure (.done (some (out.push x++a.extract ia a.size++b.extract (ib+1) b.size),out.push x,ia,ib+1,mg,ac,bc))
 else do
  let y ← elem' a ia
  let r ← cu true y b (ib+1) (b.size - (ib+1)) 0
  match r with
  | some k=>
   if k > 0 then
    if (ib+1+k == b.size)=true then pure (.done (some (out.push x++b.extract (ib+1) (ib+1+k)++a.extract ia a.size++b.extract (ib+1+k) b.size),out.push x++b.extract (ib+1) (ib+1+k),ia,ib+1+k,mg,ac,k))
    else vG a b (out.push x++b.extract (ib+1) (ib+1+k)) ia (ib+1+k) mg ac k
   else vG a b (out.push x) ia (ib+1) mg ac k
  | _=>pure (.done (some (out.push x++a.extract ia a.size++b.extract (ib+1) b.size),out.push x,ia,ib+1,mg,ac,bc))
def og (a b out:Array Keyed) (ia ib mg ac bc:Nat):StateT SortSt Sem (ForInStep LoG):=do
 gi mg
 let x ← elem' b ib
 let r ← cu false x a ia (a.size - ia) 0
 match r with
 | some k=>
  if k > 0 then
   if (ia+k+1 == a.size)=true then pure (.done (some (out++a.extract ia (ia+k)++b.extract ib b.size++a.extract (ia+k) a.size),out++a.extract ia (ia+k),ia+k,ib,mg,k,bc))
   else if (ia+k == a.size)=true then pure (.done (some (out++a.extract ia (ia+k)++a.extract (ia+k) a.size++b.extract ib b.size),out++a.extract ia (ia+k),ia+k,ib,mg,k,bc))
   else vV a b (out++a.extract ia (ia+k)) (ia+k) ib mg k bc
  else vV a b out ia ib mg k bc
 | _=>pure (.done (some (out++a.extract ia a.size++b.extract ib b.size),out,ia,ib,mg,ac,bc))
def loG (a b:Array Keyed) (c:LoG):StateT SortSt Sem (ForInStep LoG):=
 if c.2.2.2.2.1 > 1 then og a b c.2.1 c.2.2.1 c.2.2.2.1 (c.2.2.2.2.1 - 1) c.2.2.2.2.2.1 c.2.2.2.2.2.2 else og a b c.2.1 c.2.2.1 c.2.2.2.1 c.2.2.2.2.1 c.2.2.2.2.2.1 c.2.2.2.2.2.2
def loO (a b:Array Keyed) (c:LoO):StateT SortSt Sem (ForInStep LoO):=do
 let c1 ← forIn [0:a.size+b.size] ((none,c.2.1,c.2.2.1,c.2.2.2.1,0,0):LoA) fun _ c1=>loF a b c.2.2.2.2 c1
 match c1.1 with
 | some r=>pure (.done (some r,c1.2.1,c1.2.2.1,c1.2.2.2.1,c.2.2.2.2))
 | none=>do
  liftM (rule "list.sort.gallop")
  let c2 ← forIn [0:a.size+b.size] ((none,c1.2.1,c1.2.2.1,c1.2.2.2.1,c.2.2.2.2+1,c1.2.2.2.2.1,c1.2.2.2.2.2):LoG) fun _ c2=>loG a b c2
  match c2.1 with
  | some r=>pure (.done (some r,c2.2.1,c2.2.2.1,c2.2.2.2.1,c2.2.2.2.2.1))
  | none=>do
   gi (c2.2.2.2.2.1+1)
   pure (.yield (none,c2.2.1,c2.2.2.1,c2.2.2.2.1,c2.2.2.2.2.1+1))
theorem tI (a b:Array Keyed):iR a b=(do
 rule "list.sort.merge-lo"
 let total:=a.size+b.size
 let done (out:Array Keyed) (ia ib:Nat):=out++a.extract ia a.size++b.extract ib b.size
 let lastOfA (out:Array Keyed) (ia ib:Nat):=out++b.extract ib b.size++a.extract ia a.size
 let mut out:Array Keyed:=#[← elem' b 0]
 let mut ia:=0
 let mut ib:=1
 if ib == b.size then return done out ia ib
 if ia+1 == a.size then return lastOfA out ia ib
 let mut minGallop:=gallopOf (← get)
 for _ in [0:total] do
  let mut acount:=0
  let mut bcount:=0
  for _ in [0:total] do
   let some bWins ← lt' (← elem' b ib) (← elem' a ia) | return done out ia ib
   if bWins then
    out:=out.push (← elem' b ib);ib:=ib+1;bcount:=bcount+1;acount:=0
    if ib == b.size then return done out ia ib
    if bcount ≥ minGallop then break
   else
    out:=out.push (← elem' a ia);ia:=ia+1;acount:=acount+1;bcount:=0
    if ia+1 == a.size then return lastOfA out ia ib
    if acount ≥ minGallop then break
  rule "list.sort.gallop"
  minGallop:=minGallop+1
  for _ in [0:total] do
   if minGallop > 1 then minGallop:=minGallop - 1
   gi minGallop
   let some k ← cu false (← elem' b ib) a ia (a.size - ia) 0 | return done out ia ib
   acount:=k
   if k > 0 then
    out:=out++a.extract ia (ia+k);ia:=ia+k
    if ia+1 == a.size then return lastOfA out ia ib
    if ia == a.size then return done out ia ib
   out:=out.push (← elem' b ib);ib:=ib+1
   if ib == b.size then return done out ia ib
   let some k ← cu true (← elem' a ia) b ib (b.size - ib) 0 | return done out ia ib
   bcount:=k
   if k > 0 then
    out:=out++b.extract ib (ib+k);ib:=ib+k
    if ib == b.size then return done out ia ib
   out:=out.push (← elem' a ia);ia:=ia+1
   if ia+1 == a.size then return lastOfA out ia ib
   if acount < 7 && bcount < 7 then break
  minGallop:=minGallop+1
  gi minGallop
 unsupported "internal:list.sort.merge-bound"):=rfl
theorem tH (a b:Array Keyed):iR a b=(do
 liftM (rule "list.sort.merge-lo")
 let x ← elem' b 0
 if (1 == b.size)=true then pure (#[x]++a.extract 0 a.size++b.extract 1 b.size)
 else if (0+1 == a.size)=true then pure (#[x]++b.extract 1 b.size++a.extract 0 a.size)
 else do
  let g ← get
  let c ← forIn [0:a.size+b.size] ((none,#[x],0,1,gallopOf g):LoO) fun _ c=>loO a b c
  match c.1 with
  | some r=>pure r
  | none=>unsupported "internal:list.sort.merge-bound"):=by
 rw [tI]
 refine bind_congr fun _=>?_
 refine bind_congr fun x=>?_
 refine ite_congr rfl (fun _=>rfl) fun _=>?_
 refine ite_congr rfl (fun _=>rfl) fun _=>?_
 refine bind_congr fun g=>?_
 refine congr (congrArg bind (congrArg (forIn _ _) (funext fun _=>funext fun c=>?_))) (funext fun c=>?_)
 ·unfold loO
  refine congr (congrArg bind (congrArg (forIn _ _) (funext fun _=>funext fun c1=>?_))) (funext fun c1=>?_)
  ·unfold loF
   rfl
  ·obtain ⟨r,o1,i1,j1,x1,y1⟩:=c1
   cases r with
   | some r=>rfl
   | none=>
    refine bind_congr fun _=>?_
    refine congr (congrArg bind (congrArg (forIn _ _) (funext fun _=>funext fun c2=>?_))) (funext fun c2=>?_)
    ·unfold loG
     refine ite_congr rfl (fun _=>?_) fun _=>?_
     ·unfold og
      rfl
     ·unfold og
      rfl
    ·obtain ⟨r,o1,i1,j1,x1,y1,z1⟩:=c2
     cases r<;>rfl
 ·obtain ⟨r,o1,i1,j1,x1⟩:=c
  cases r<;>rfl
structure GS (st st':SortSt):Prop where
 kind:kindOf st'=kindOf st
 arr:arrOf st'=arrOf st
 pend:pendingOf st'=pendingOf st
 failed:failedOf st'=failedOf st
theorem GS.refl {st:SortSt}:GS st st:=⟨rfl,rfl,rfl,rfl⟩
theorem GS.set {st st':SortSt} {g:Nat} (h:GS st st'):GS st (SortSt.mk' (kindOf st') (arrOf st') (pendingOf st') g (failedOf st')):=⟨h.kind,h.arr,h.pend,h.failed⟩
theorem bu {a:Array Keyed} {i j:Nat}:(a.extract i j).toList=(a.toList.drop i).take (j - i):=by rw [Array.toList_extract,List.extract_eq_take_drop]
section
variable {prog:Program} {w:World} {A:Around} {E:Value→Shared→Prop} {s:Shared} {st:SortSt} {a b:Array Keyed}
theorem cK {xs:Array Keyed} {i:Nat} (hi:i < xs.size):K xs i=kk xs[i]:=n_ hi
theorem iF {xs:Array Keyed} (h:Srt xs.toList) {lo n:Nat} (hn:lo+n≤xs.size):ck xs lo n:=fun i j hij hj=>by
 rw [cK (by omega),cK (by omega)]
 rcases Nat.lt_or_ge i j with z | z
 ·have:=List.pairwise_iff_getElem.mp h (lo+i) (lo+j) (by rw [Array.length_toList];omega) (by rw [Array.length_toList];omega) (by omega)
  simpa using this
 ·have:i=j:=by omega
  subst this;exact Int.le_refl _
theorem kP {xs:Array Keyed} {i:Nat} (hi:i < xs.size):xs.toList.drop i=xs[i] :: xs.toList.drop (i+1):=by
 rw [List.drop_eq_getElem_cons (by rw [Array.length_toList];exact hi),Array.getElem_toList]
theorem ki {xs:Array Keyed} {i k:Nat} {q:Keyed} (h:q∈(xs.toList.drop i).take k):∃ j,j < k∧∃ hj:i+j < xs.size,q=xs[i+j]:=by
 obtain ⟨j,hj,e⟩:=List.mem_iff_getElem.mp h
 rw [List.length_take,List.length_drop,Array.length_toList] at hj
 refine ⟨j,by omega,by omega,?_⟩
 rw [← e,List.getElem_take,List.getElem_drop,Array.getElem_toList]
theorem mY {xs:Array Keyed} {i:Nat} {q:Keyed} (h:q∈xs.toList.drop i):∃ j,∃ hj:i+j < xs.size,q=xs[i+j]:=by
 obtain ⟨j,hj,e⟩:=List.mem_iff_getElem.mp h
 rw [List.length_drop,Array.length_toList] at hj
 refine ⟨j,by omega,?_⟩
 rw [← e,List.getElem_drop,Array.getElem_toList]
theorem mZ {xs:Array Keyed} (h:Srt xs.toList) {i:Nat} (hi:i < xs.size):∀ q∈xs.toList.drop i,kk xs[i]≤kk q:=fun q hq=>by
 obtain ⟨j,hj,rfl⟩:=mY hq
 have:=iF h (lo:=0) (n:=xs.size) (by omega) i (i+j) (by omega) (by omega)
 rwa [Nat.zero_add,Nat.zero_add,cK hi,cK hj] at this
theorem ML.kY {out:Array Keyed} {ia ib:Nat} (h:ML a.toList b.toList out.toList ia ib) (sb:Srt b.toList) (hb:ib < b.size) (hle:∀ r∈a.toList.drop ia,kk b[ib]≤kk r):ML a.toList b.toList (out.push b[ib]).toList ia (ib+1):=by
 have:=h.j4 (k:=1) sb fun q hq r hr=>by
  rw [kP hb,List.take_one] at hq
  simp at hq
  rw [hq];exact hle r hr
 rw [kP hb] at this
 rw [Array.toList_push]
 simpa using this
theorem ML.kT {out:Array Keyed} {ia ib:Nat} (h:ML a.toList b.toList out.toList ia ib) (sa:Srt a.toList) (ha:ia < a.size) (hle:∀ r∈b.toList.drop ib,kk a[ia]≤kk r):ML a.toList b.toList (out.push a[ia]).toList (ia+1) ib:=by
 have:=h.iI (k:=1) sa fun q hq r hr=>by
  rw [kP ha,List.take_one] at hq
  simp at hq
  rw [hq];exact hle r hr
 rw [kP ha] at this
 rw [Array.toList_push]
 simpa using this
structure eI (a b:Array Keyed):Prop where
 ka:IntKeys a
 kb:IntKeys b
 sa:Srt a.toList
 sb:Srt b.toList
 last:∀ p∈b.toList,∀ q∈a.toList.drop (a.size - 1),kk p≤kk q
theorem eI.oH (g:eI a b) {out:Array Keyed} {ia ib:Nat} (h:ML a.toList b.toList out.toList ia ib) (ha:ia+1=a.size):Mgd a.toList b.toList (out++b.extract ib b.size++a.extract ia a.size).toList:=by
 have:=h.oH g.sa g.sb (by rw [show ia=a.size - 1 by omega];exact g.last)
 rw [Array.toList_append,Array.toList_append,bu,bu,List.take_of_length_le (by rw [List.length_drop,Array.length_toList];omega),List.take_of_length_le (by rw [List.length_drop,Array.length_toList];omega)]
 exact this
theorem eI.iD (g:eI a b) {out:Array Keyed} {ia ib:Nat} (h:ML a.toList b.toList out.toList ia ib) (hb:b.size≤ib):Mgd a.toList b.toList (out++a.extract ia a.size++b.extract ib b.size).toList:=by
 have:=h.iD g.sa (by rw [Array.length_toList];exact hb)
 rw [Array.toList_append,Array.toList_append,bu,bu,List.take_of_length_le (by rw [List.length_drop,Array.length_toList];omega),List.take_of_length_le (by rw [List.length_drop,Array.length_toList];omega)]
 exact this
theorem eI.iA (g:eI a b) {out:Array Keyed} {ia ib:Nat} (h:ML a.toList b.toList out.toList ia ib) (ha:a.size≤ia):Mgd a.toList b.toList (out++a.extract ia a.size++b.extract ib b.size).toList:=by
 have:=h.iA g.sb (by rw [Array.length_toList];exact ha)
 rw [Array.toList_append,Array.toList_append,bu,bu,List.take_of_length_le (by rw [List.length_drop,Array.length_toList];omega),List.take_of_length_le (by rw [List.length_drop,Array.length_toList];omega)]
 exact this
def PLo (a b:Array Keyed) (st:SortSt) (n:Nat) (r:Option (Array Keyed)) (out:Array Keyed) (ia ib:Nat) (st':SortSt):Prop:=GS st st'∧match r with
 | some r=>Mgd a.toList b.toList r.toList
 | none=>ML a.toList b.toList out.toList ia ib∧ia+1 < a.size∧ib < b.size∧n≤ia+ib
theorem PLo.less {n m:Nat} {r:Option (Array Keyed)} {out:Array Keyed} {ia ib:Nat} {st':SortSt} (h:PLo a b st n r out ia ib st') (hm:m≤n):PLo a b st m r out ia ib st':=by
 unfold PLo at h ⊢
 cases r with
 | some r=>exact h
 | none=>exact ⟨h.1,h.2.1,h.2.2.1,h.2.2.2.1,by have:=h.2.2.2.2;omega⟩
def StP {σ:Type} (P:σ→SortSt→Prop) (N:σ→Prop) (r:ForInStep σ) (st':SortSt):Prop:=match r with
 | .done c=>P c st'
 | .yield c=>P c st'∧N c
theorem Dh (g:eI a b) {mg n:Nat} {out:Array Keyed} {ia ib ac bc:Nat} {st':SortSt} (hk:kindOf st=oneType') (h:PLo a b st n none out ia ib st'):wpS (model prog w) A E s (loF a b mg (none,out,ia,ib,ac,bc)) (StP (fun c st2=>PLo a b st (n+1) c.1 c.2.1 c.2.2.1 c.2.2.2.1 st2) fun c=>c.1=none) st':=by
 obtain ⟨hg,hm,ha,hb,hn⟩:=h
 unfold loF
 dsimp only
 refine wpS_bind (bh hb ?_)
 refine wpS_bind (bh (by omega) ?_)
 refine wpS_bind (kR (hg.kind.trans hk) (g.kb _ (by simp)) (g.ka _ (by simp)) ?_)
 have ha':ia < a.size:=by omega
 by_cases hw:numOf b[ib].1 < numOf a[ia].1
 ·rw [decide_eq_true hw]
  dsimp only
  rw [if_pos rfl]
  have m2:=hm.kY g.sb hb fun r hr=>Int.le_trans (Int.le_of_lt hw) (mZ g.sa ha' r hr)
  refine wpS_bind (bh hb ?_)
  by_cases he:ib+1=b.size
  ·rw [if_pos (by simpa using he)]
   exact wpS_pure ⟨hg,g.iD m2 (by omega)⟩
  ·rw [if_neg (by simpa using he)]
   split
   ·exact wpS_pure ⟨hg,m2,ha,(by dsimp only;omega),(by dsimp only;omega)⟩
   ·exact wpS_pure ⟨⟨hg,m2,ha,(by dsimp only;omega),(by dsimp only;omega)⟩,rfl⟩
 ·rw [decide_eq_false hw]
  dsimp only
  rw [if_neg Bool.false_ne_true]
  have m2:=hm.kT g.sa ha' fun r hr=>Int.le_trans (Int.not_lt.mp hw) (mZ g.sb hb r hr)
  refine wpS_bind (bh ha' ?_)
  by_cases he:ia+1+1=a.size
  ·rw [if_pos (by simpa using he)]
   exact wpS_pure ⟨hg,g.oH m2 he⟩
  ·rw [if_neg (by simpa using he)]
   split
   ·exact wpS_pure ⟨hg,m2,(by dsimp only;omega),hb,(by dsimp only;omega)⟩
   ·exact wpS_pure ⟨⟨hg,m2,(by dsimp only;omega),hb,(by dsimp only;omega)⟩,rfl⟩
theorem qt (g:eI a b) {mg n:Nat} {out:Array Keyed} {ia ib ac bc:Nat} {st':SortSt} (hg:GS st st') (hm:ML a.toList b.toList out.toList ia ib) (ha:ia+1 < a.size) (hb:ib < b.size) (hn:n≤ia+ib) (hle:∀ r∈b.toList.drop ib,kk (a[ia]'(by omega))≤kk r):wpS (model prog w) A E s (vG a b out ia ib mg ac bc) (StP (fun c st2=>PLo a b st n c.1 c.2.1 c.2.2.1 c.2.2.2.1 st2) fun c=>c.1=none) st':=by
 unfold vG
 have m2:=hm.kT g.sa (by omega) hle
 refine wpS_bind (bh (by omega) ?_)
 by_cases he:ia+1+1=a.size
 ·rw [if_pos (by simpa using he)]
  exact wpS_pure ⟨hg,g.oH m2 he⟩
 ·rw [if_neg (by simpa using he)]
  split
  ·exact wpS_pure ⟨hg,m2,(by dsimp only;omega),hb,(by dsimp only;omega)⟩
  ·exact wpS_pure ⟨⟨hg,m2,(by dsimp only;omega),hb,(by dsimp only;omega)⟩,rfl⟩
theorem rj (g:eI a b) {mg n:Nat} {out:Array Keyed} {ia ib ac bc:Nat} {st':SortSt} (hk:kindOf st=oneType') (hg:GS st st') (hm:ML a.toList b.toList out.toList ia ib) (ha:ia+1 < a.size) (hb:ib < b.size) (hn:n≤ia+ib) (hle:∀ r∈a.toList.drop ia,kk b[ib]≤kk r):wpS (model prog w) A E s (vV a b out ia ib mg ac bc) (StP (fun c st2=>PLo a b st n c.1 c.2.1 c.2.2.1 c.2.2.2.1 st2) fun c=>c.1=none) st':=by
 unfold vV
 have m2:=hm.kY g.sb hb hle
 refine wpS_bind (bh hb ?_)
 by_cases he:ib+1=b.size
 ·rw [if_pos (by simpa using he)]
  exact wpS_pure ⟨hg,g.iD m2 (by omega)⟩
 ·rw [if_neg (by simpa using he)]
  have ha':ia < a.size:=by omega
  refine wpS_bind (bh ha' ?_)
  refine wpS_bind (dA (hg.kind.trans hk) g.kb (g.ka _ (by simp)) (by omega) (by omega) (iF g.sb (by omega)) fun k hk1 hk2 hk3=>?_)
  dsimp only
  have blk:∀ q∈(b.toList.drop (ib+1)).take k,∀ r∈a.toList.drop ia,kk q≤kk r:=fun q hq r hr=>by
   obtain ⟨j,hj,hj2,rfl⟩:=ki hq
   have:=hk2 j hj
   unfold bey at this
   rw [if_pos rfl,cK hj2] at this
   have:kk b[ib+1+j] < kk a[ia]:=of_decide_eq_true this
   exact Int.le_trans (Int.le_of_lt this) (mZ g.sa ha' r hr)
  have aft:∀ r∈b.toList.drop (ib+1+k),kk a[ia]≤kk r:=fun r hr=>by
   obtain ⟨j,hj,rfl⟩:=mY hr
   have:=hk3 (k+j) (by omega) (by omega)
   unfold bey at this
   rw [if_pos rfl,cK (by omega)] at this
   have:¬kk b[ib+1+(k+j)] < kk a[ia]:=of_decide_eq_false this
   have e:b[ib+1+(k+j)]=b[ib+1+k+j]:=by congr 1;omega
   rw [e] at this
   exact Int.not_lt.mp this
  by_cases hz:k > 0
  ·rw [if_pos hz]
   have m3:=m2.j4 (k:=k) g.sb blk
   rw [show (out.push b[ib]).toList++(b.toList.drop (ib+1)).take k=(out.push b[ib]++b.extract (ib+1) (ib+1+k)).toList by rw [Array.toList_append,bu,Nat.add_sub_cancel_left]] at m3
   by_cases he2:ib+1+k=b.size
   ·rw [if_pos (by simpa using he2)]
    exact wpS_pure ⟨hg,g.iD m3 (by omega)⟩
   ·rw [if_neg (by simpa using he2)]
    exact qt g hg m3 ha (by omega) (by omega) aft
  ·rw [if_neg hz]
   have hk0:k=0:=by omega
   subst hk0
   exact qt g hg m2 ha (by omega) (by omega) aft
theorem qz (g:eI a b) {mg n:Nat} {out:Array Keyed} {ia ib ac bc:Nat} {st':SortSt} (hk:kindOf st=oneType') (hg:GS st st') (hm:ML a.toList b.toList out.toList ia ib) (ha:ia+1 < a.size) (hb:ib < b.size) (hn:n≤ia+ib):wpS (model prog w) A E s (og a b out ia ib mg ac bc) (StP (fun c st2=>PLo a b st n c.1 c.2.1 c.2.2.1 c.2.2.2.1 st2) fun c=>c.1=none) st':=by
 unfold og
 rw [jo]
 refine wpS_bind (wpS_modify ?_)
 have hg:=hg.set (g:=mg)
 refine wpS_bind (bh hb ?_)
 refine wpS_bind (dA (hg.kind.trans hk) g.ka (g.kb _ (by simp)) (by omega) (by omega) (iF g.sa (by omega)) fun k hk1 hk2 hk3=>?_)
 dsimp only
 have blk:∀ q∈(a.toList.drop ia).take k,∀ r∈b.toList.drop ib,kk q≤kk r:=fun q hq r hr=>by
  obtain ⟨j,hj,hj2,rfl⟩:=ki hq
  have:=hk2 j hj
  unfold bey at this
  rw [if_neg Bool.false_ne_true,cK hj2,Bool.not_eq_true'] at this
  have:¬kk b[ib] < kk a[ia+j]:=of_decide_eq_false this
  exact Int.le_trans (Int.not_lt.mp this) (mZ g.sb hb r hr)
 have aft:∀ r∈a.toList.drop (ia+k),kk b[ib]≤kk r:=fun r hr=>by
  obtain ⟨j,hj,rfl⟩:=mY hr
  have:=hk3 (k+j) (by omega) (by omega)
  unfold bey at this
  rw [if_neg Bool.false_ne_true,cK (by omega),Bool.not_eq_false'] at this
  have:kk b[ib] < kk a[ia+(k+j)]:=of_decide_eq_true this
  have e:a[ia+(k+j)]=a[ia+k+j]:=by congr 1;omega
  rw [e] at this
  exact Int.le_of_lt this
 by_cases hz:k > 0
 ·rw [if_pos hz]
  have m3:=hm.iI (k:=k) g.sa blk
  rw [show out.toList++(a.toList.drop ia).take k=(out++a.extract ia (ia+k)).toList by rw [Array.toList_append,bu,Nat.add_sub_cancel_left]] at m3
  by_cases he2:ia+k+1=a.size
  ·rw [if_pos (by simpa using he2)]
   exact wpS_pure ⟨hg,g.oH m3 he2⟩
  ·rw [if_neg (by simpa using he2)]
   by_cases he3:ia+k=a.size
   ·rw [if_pos (by simpa using he3)]
    exact wpS_pure ⟨hg,g.iA m3 (by omega)⟩
   ·rw [if_neg (by simpa using he3)]
    exact rj g hk hg m3 (by omega) hb (by omega) aft
 ·rw [if_neg hz]
  have hk0:k=0:=by omega
  subst hk0
  exact rj g hk hg hm ha hb hn aft
theorem kO {σ:Type} {f:Nat→σ→StateT SortSt Sem (ForInStep σ)} {n:Nat} (I:Nat→σ→SortSt→Prop) (N:σ→Prop) (hs:∀ x c st',I x c st'→N c→wpS (model prog w) A E s (f x c) (StP (I (x+1)) N) st') {Q:σ→SortSt→Prop} (hd:∀ x c st',I (x+1) c st'→Q c st') (hn:0 < n) {c:σ} (h0:I 0 c st) (hN:N c):wpS (model prog w) A E s (forIn [0:n] c f) Q st:=by
 refine wpS_forRange (I:=fun x c st'=>I x c st'∧N c) (fun x c st' _ hx h=>wpS_mono (hs x c st' h.1 h.2) fun r st2 hr=>?_) (fun c st' h=>?_) ⟨h0,hN⟩
 ·cases r with
  | done c'=>exact hd x c' st2 hr
  | yield c'=>exact hr
 ·obtain ⟨m,hm⟩:∃ m,max 0 n=m+1:=⟨n - 1,by omega⟩
  rw [hm] at h
  exact hd m c st' h.1
theorem tE {Q:Array Keyed→SortSt→Prop} (g:eI a b) (hk:kindOf st=oneType') (ha:0 < a.size) (hb:0 < b.size) (h1:∀ q∈a.toList,kk b[0]≤kk q)
  (h:∀ r st',GS st st'→Mgd a.toList b.toList r.toList→Q r st'):wpS (model prog w) A E s (iR a b) Q st:=by
 rw [tH]
 refine wpS_bind (wpS_lift (wpAny_rule ⟨rfl,?_⟩))
 refine wpS_bind (bh hb ?_)
 have m0:ML a.toList b.toList (#[b[0]]:Array Keyed).toList 0 1:=by
  have:=ML.kY (a:=a) (b:=b) (out:=#[]) (ia:=0) (ib:=0) ⟨by simp,.nil,fun p hp=>by simp at hp⟩ g.sb hb (by rw [List.drop_zero];exact h1)
  simpa using this
 by_cases e1:1=b.size
 ·rw [if_pos (by simpa using e1)]
  exact wpS_pure (h _ st GS.refl (g.iD m0 (by omega)))
 rw [if_neg (by simpa using e1)]
 by_cases e2:0+1=a.size
 ·rw [if_pos (by simpa using e2)]
  exact wpS_pure (h _ st GS.refl (g.oH m0 e2))
 rw [if_neg (by simpa using e2)]
 refine wpS_bind (wpS_get ?_)
 refine wpS_bind (wpS_mono (wpS_forRange (I:=fun x (c:LoO) st'=>c.1=none∧PLo a b st (x+1) c.1 c.2.1 c.2.2.1 c.2.2.2.1 st')
  (Q:=fun (c:LoO) st'=>∃ r,c.1=some r∧GS st st'∧Mgd a.toList b.toList r.toList) ?step ?fin ⟨rfl,GS.refl,m0,by dsimp only;omega,by dsimp only;omega,by dsimp only;omega⟩) ?post)
 case post=>
  rintro ⟨r,c⟩ st' ⟨r',e,hg,hm⟩
  cases e
  exact wpS_pure (h r' st' hg hm)
 case fin=>
  rintro ⟨r,out,ia,ib,mg⟩ st' ⟨e,hp⟩
  cases e
  obtain ⟨_,_,q1,q2,q3⟩:=hp
  dsimp only at q1 q2 q3
  omega
 case step=>
  rintro x ⟨r,out,ia,ib,mg⟩ st' _ hx ⟨e,hp⟩
  cases e
  unfold loO
  dsimp only
  refine wpS_bind (kO (I:=fun y (c:LoA) st2=>PLo a b st (x+1+y) c.1 c.2.1 c.2.2.1 c.2.2.2.1 st2) (N:=fun c=>c.1=none) (fun y c st2 hI hN=>?_) (fun y c st2 hI=>?_) (by omega) hp rfl)
  ·obtain ⟨r,out,ia,ib,ac,bc⟩:=c
   cases hN
   exact Dh g hk hI
  ·obtain ⟨r,out2,ia2,ib2,ac,bc⟩:=c
   cases r with
   | some r=>exact wpS_pure ⟨r,rfl,hI.1,hI.2⟩
   | none=>
    have hI:PLo a b st (x+2) none out2 ia2 ib2 st2:=hI.less (by omega)
    dsimp only
    refine wpS_bind (wpS_lift (wpAny_rule ⟨rfl,?_⟩))
    refine wpS_bind (kO (I:=fun y (c:LoG) st3=>PLo a b st (x+2) c.1 c.2.1 c.2.2.1 c.2.2.2.1 st3) (N:=fun c=>c.1=none) (fun y c st3 hI hN=>?_) (fun y c st3 hI=>?_) (by omega) hI rfl)
    ·obtain ⟨r,out,ia,ib,mg,ac,bc⟩:=c
     cases hN
     obtain ⟨hg,q1,q2,q3,q4⟩:=hI
     unfold loG
     split
     ·exact qz g hk hg q1 q2 q3 q4
     ·exact qz g hk hg q1 q2 q3 q4
    ·obtain ⟨r,out3,ia3,ib3,mg3,ac,bc⟩:=c
     cases r with
     | some r=>exact wpS_pure ⟨r,rfl,hI.1,hI.2⟩
     | none=>
      dsimp only
      rw [jo]
      refine wpS_bind (wpS_modify (wpS_pure ⟨rfl,hI.1.set,hI.2⟩))
end
abbrev HiA:=Option (Array Keyed)×Nat×Nat×Array Keyed×Nat×Nat
abbrev HiG:=Option (Array Keyed)×Nat×Nat×Array Keyed×Nat×Nat×Nat
abbrev HiO:=Option (Array Keyed)×Nat×Nat×Array Keyed×Nat
def hiF (a b:Array Keyed) (mg:Nat) (c:HiA):StateT SortSt Sem (ForInStep HiA):=do
 let x ← elem' b (c.2.2.1 - 1)
 let y ← elem' a (c.2.1 - 1)
 let r ← lt' x y
 match r with
 | some aWins=>
  if aWins=true then do
   let y ← elem' a (c.2.1 - 1)
   if (c.2.1 - 1 == 0)=true then pure (.done (some (a.extract 0 (c.2.1 - 1)++b.extract 0 c.2.2.1++(c.2.2.2.1.push y).reverse),c.2.1 - 1,c.2.2.1,c.2.2.2.1.push y,c.2.2.2.2.1+1,0))
   else if c.2.2.2.2.1+1 ≥ mg then pure (.done (none,c.2.1 - 1,c.2.2.1,c.2.2.2.1.push y,c.2.2.2.2.1+1,0))
   else pure (.yield (none,c.2.1 - 1,c.2.2.1,c.2.2.2.1.push y,c.2.2.2.2.1+1,0))
  else do
   let x ← elem' b (c.2.2.1 - 1)
   if (c.2.2.1 - 1 == 1)=true then pure (.done (some (b.extract 0 (c.2.2.1 - 1)++a.extract 0 c.2.1++(c.2.2.2.1.push x).reverse),c.2.1,c.2.2.1 - 1,c.2.2.2.1.push x,0,c.2.2.2.2.2+1))
   else if c.2.2.2.2.2+1 ≥ mg then pure (.done (none,c.2.1,c.2.2.1 - 1,c.2.2.2.1.push x,0,c.2.2.2.2.2+1))
   else pure (.yield (none,c.2.1,c.2.2.1 - 1,c.2.2.2.1.push x,0,c.2.2.2.2.2+1))
 | _=>pure (.done (some (a.extract 0 c.2.1++b.extract 0 c.2.2.1++c.2.2.2.1.reverse),c.2.1,c.2.2.1,c.2.2.2.1,c.2.2.2.2.1,c.2.2.2.2.2))
def vz (a b out:Array Keyed) (na nb mg ac bc:Nat):StateT SortSt Sem (ForInStep HiG):=do
 let y ← elem' a (na - 1)
 if (na - 1 == 0)=true then pure (.done (some (a.extract 0 (na - 1)++b.extract 0 nb++(out.push y).reverse),na - 1,nb,out.push y,mg,ac,bc))
 else if (decide (ac < 7) && decide (bc < 7))=true then pure (.done (none,na - 1,nb,out.push y,mg,ac,bc))
 else pure (.yield (none,na - 1,nb,out.push y,mg,ac,bc))
def vm (a b out:Array Keyed) (na nb mg ac bc:Nat):StateT SortSt Sem (ForInStep HiG):=do
 let x ← elem' b (nb - 1)
 if (nb - 1 == 1)=true then pure (.done (some (b.extract 0 (nb - 1)++a.extract 0 na++(out.push x).reverse),na,nb - 1,out.push x,mg,ac,bc))
 else do
  let y ← elem' a (na - 1)
  let r ← cu true y b 0 (nb - 1) (nb - 1 - 1)
  match r with
  | some k=>
   if nb - 1 - k > 0 then
    if (k == 1)=true then pure (.done (some (b.extract 0 k++a.extract 0 na++(out.push x++(b.extract k (nb - 1)).reverse).reverse),na,k,out.push x++(b.extract k (nb - 1)).reverse,mg,ac,nb - 1 - k))
    else if (k == 0)=true then pure (.done (some (a.extract 0 na++b.extract 0 k++(out.push x++(b.extract k (nb - 1)).reverse).reverse),na,k,out.push x++(b.extract k (nb - 1)).reverse,mg,ac,nb - 1 - k))
    else vz a b (out.push x++(b.extract k (nb - 1)).reverse) na k mg ac (nb - 1 - k)
   else vz a b (out.push x) na (nb - 1) mg ac (nb - 1 - k)
  | _=>pure (.done (some (a.extract 0 na++b.extract 0 (nb - 1)++(out.push x).reverse),na,nb - 1,out.push x,mg,ac,bc))
def oE (a b out:Array Keyed) (na nb mg ac bc:Nat):StateT SortSt Sem (ForInStep HiG):=do
 gi mg
 let x ← elem' b (nb - 1)
 let r ← cu false x a 0 na (na - 1)
 match r with
 | some k=>
  if na - k > 0 then
   if (k == 0)=true then pure (.done (some (a.extract 0 k++b.extract 0 nb++(out++(a.extract k na).reverse).reverse),k,nb,out++(a.extract k na).reverse,mg,na - k,bc))
   else vm a b (out++(a.extract k na).reverse) k nb mg (na - k) bc
  else vm a b out na nb mg (na - k) bc
 | _=>pure (.done (some (a.extract 0 na++b.extract 0 nb++out.reverse),na,nb,out,mg,ac,bc))
def hiG (a b:Array Keyed) (c:HiG):StateT SortSt Sem (ForInStep HiG):=
 if c.2.2.2.2.1 > 1 then oE a b c.2.2.2.1 c.2.1 c.2.2.1 (c.2.2.2.2.1 - 1) c.2.2.2.2.2.1 c.2.2.2.2.2.2 else oE a b c.2.2.2.1 c.2.1 c.2.2.1 c.2.2.2.2.1 c.2.2.2.2.2.1 c.2.2.2.2.2.2
def hiO (a b:Array Keyed) (c:HiO):StateT SortSt Sem (ForInStep HiO):=do
 let c1 ← forIn [0:a.size+b.size] ((none,c.2.1,c.2.2.1,c.2.2.2.1,0,0):HiA) fun _ c1=>hiF a b c.2.2.2.2 c1
 match c1.1 with
 | some r=>pure (.done (some r,c1.2.1,c1.2.2.1,c1.2.2.2.1,c.2.2.2.2))
 | none=>do
  liftM (rule "list.sort.gallop")
  let c2 ← forIn [0:a.size+b.size] ((none,c1.2.1,c1.2.2.1,c1.2.2.2.1,c.2.2.2.2+1,c1.2.2.2.2.1,c1.2.2.2.2.2):HiG) fun _ c2=>hiG a b c2
  match c2.1 with
  | some r=>pure (.done (some r,c2.2.1,c2.2.2.1,c2.2.2.2.1,c2.2.2.2.2.1))
  | none=>do
   gi (c2.2.2.2.2.1+1)
   pure (.yield (none,c2.2.1,c2.2.2.1,c2.2.2.2.1,c2.2.2.2.2.1+1))
theorem sT (a b:Array Keyed):iX a b=(do
 rule "list.sort.merge-hi"
 let total:=a.size+b.size
 let done (out:Array Keyed) (na nb:Nat):=a.extract 0 na++b.extract 0 nb++out.reverse
 let firstOfB (out:Array Keyed) (na nb:Nat):=b.extract 0 nb++a.extract 0 na++out.reverse
 let mut na:=a.size - 1
 let mut nb:=b.size
 let mut out:Array Keyed:=#[← elem' a na]
 if na == 0 then return done out na nb
 if nb == 1 then return firstOfB out na nb
 let mut minGallop:=gallopOf (← get)
 for _ in [0:total] do
  let mut acount:=0
  let mut bcount:=0
  for _ in [0:total] do
   let some aWins ← lt' (← elem' b (nb - 1)) (← elem' a (na - 1)) | return done out na nb
   if aWins then
    na:=na - 1;out:=out.push (← elem' a na);acount:=acount+1;bcount:=0
    if na == 0 then return done out na nb
    if acount ≥ minGallop then break
   else
    nb:=nb - 1;out:=out.push (← elem' b nb);bcount:=bcount+1;acount:=0
    if nb == 1 then return firstOfB out na nb
    if bcount ≥ minGallop then break
  rule "list.sort.gallop"
  minGallop:=minGallop+1
  for _ in [0:total] do
   if minGallop > 1 then minGallop:=minGallop - 1
   gi minGallop
   let some at_ ← cu false (← elem' b (nb - 1)) a 0 na (na - 1) | return done out na nb
   let k:=na - at_
   acount:=k
   if k > 0 then
    out:=out++(a.extract at_ na).reverse;na:=at_
    if na == 0 then return done out na nb
   nb:=nb - 1;out:=out.push (← elem' b nb)
   if nb == 1 then return firstOfB out na nb
   let some at_ ← cu true (← elem' a (na - 1)) b 0 nb (nb - 1) | return done out na nb
   let k:=nb - at_
   bcount:=k
   if k > 0 then
    out:=out++(b.extract at_ nb).reverse;nb:=at_
    if nb == 1 then return firstOfB out na nb
    if nb == 0 then return done out na nb
   na:=na - 1;out:=out.push (← elem' a na)
   if na == 0 then return done out na nb
   if acount < 7 && bcount < 7 then break
  minGallop:=minGallop+1
  gi minGallop
 unsupported "internal:list.sort.merge-bound"):=rfl
theorem tB (a b:Array Keyed):iX a b=(do
 liftM (rule "list.sort.merge-hi")
 let y ← elem' a (a.size - 1)
 if (a.size - 1 == 0)=true then pure (a.extract 0 (a.size - 1)++b.extract 0 b.size++(#[y]:Array Keyed).reverse)
 else if (b.size == 1)=true then pure (b.extract 0 b.size++a.extract 0 (a.size - 1)++(#[y]:Array Keyed).reverse)
 else do
  let g ← get
  let c ← forIn [0:a.size+b.size] ((none,a.size - 1,b.size,#[y],gallopOf g):HiO) fun _ c=>hiO a b c
  match c.1 with
  | some r=>pure r
  | none=>unsupported "internal:list.sort.merge-bound"):=by
 rw [sT]
 refine bind_congr fun _=>?_
 refine bind_congr fun x=>?_
 refine ite_congr rfl (fun _=>rfl) fun _=>?_
 refine ite_congr rfl (fun _=>rfl) fun _=>?_
 refine bind_congr fun g=>?_
 refine congr (congrArg bind (congrArg (forIn _ _) (funext fun _=>funext fun c=>?_))) (funext fun c=>?_)
 ·unfold hiO
  refine congr (congrArg bind (congrArg (forIn _ _) (funext fun _=>funext fun c1=>?_))) (funext fun c1=>?_)
  ·unfold hiF
   rfl
  ·obtain ⟨r,o1,i1,j1,x1,y1⟩:=c1
   cases r with
   | some r=>rfl
   | none=>
    refine bind_congr fun _=>?_
    refine congr (congrArg bind (congrArg (forIn _ _) (funext fun _=>funext fun c2=>?_))) (funext fun c2=>?_)
    ·unfold hiG
     refine ite_congr rfl (fun _=>?_) fun _=>?_
     ·unfold oE
      rfl
     ·unfold oE
      rfl
    ·obtain ⟨r,o1,i1,j1,x1,y1,z1⟩:=c2
     cases r<;>rfl
 ·obtain ⟨r,o1,i1,j1,x1⟩:=c
  cases r<;>rfl
section
variable {prog:Program} {w:World} {A:Around} {E:Value→Shared→Prop} {s:Shared} {st:SortSt} {a b:Array Keyed}
theorem iQ {xs:Array Keyed} {i:Nat} (h:0 < i) (hi:i≤xs.size):(xs.toList.take i).drop (i - 1)=[xs[i - 1]]:=by
 obtain ⟨j,rfl⟩:∃ j,i=j+1:=⟨i - 1,by omega⟩
 show (xs.toList.take (j+1)).drop j=[xs[j]]
 rw [List.take_succ,List.drop_append]
 have hl:(xs.toList.take j).length=j:=by rw [List.length_take,Array.length_toList];omega
 rw [List.drop_eq_nil_of_le (by omega),hl,Nat.sub_self,List.drop_zero,List.nil_append,List.getElem?_eq_getElem (by rw [Array.length_toList];omega),Array.getElem_toList]
 rfl
theorem mE {xs:Array Keyed} (h:Srt xs.toList) {i:Nat} (h0:0 < i) (hi:i≤xs.size):∀ q∈xs.toList.take i,kk q≤kk xs[i - 1]:=fun q hq=>by
 obtain ⟨j,hj,e⟩:=List.mem_iff_getElem.mp hq
 rw [List.length_take,Array.length_toList] at hj
 rw [List.getElem_take,Array.getElem_toList] at e
 have:=iF h (lo:=0) (n:=xs.size) (by omega) j (i - 1) (by omega) (by omega)
 rwa [Nat.zero_add,Nat.zero_add,cK (by omega),cK (by omega),e] at this
abbrev rvK (out:Array Keyed):List Keyed:=out.toList.reverse
theorem MH.kT {out:Array Keyed} {na nb:Nat} (h:MH a.toList b.toList (rvK out) na nb) (sa:Srt a.toList) (h0:0 < na) (ha:na≤a.size) (hle:∀ r∈b.toList.take nb,kk r≤kk a[na - 1]):MH a.toList b.toList (rvK (out.push a[na - 1])) (na - 1) nb:=by
 have:=h.iI (k:=na - 1) sa (by omega) fun q hq r hr=>by
  rw [iQ h0 ha] at hq
  rw [List.mem_singleton.mp hq];exact hle r hr
 rw [iQ h0 ha] at this
 unfold rvK
 rw [Array.toList_push,List.reverse_append]
 exact this
theorem MH.kY {out:Array Keyed} {na nb:Nat} (h:MH a.toList b.toList (rvK out) na nb) (sb:Srt b.toList) (h0:0 < nb) (hb:nb≤b.size) (hle:∀ r∈a.toList.take na,kk r≤kk b[nb - 1]):MH a.toList b.toList (rvK (out.push b[nb - 1])) na (nb - 1):=by
 have:=h.j4 (k:=nb - 1) sb (by omega) fun q hq r hr=>by
  rw [iQ h0 hb] at hq
  rw [List.mem_singleton.mp hq];exact hle r hr
 rw [iQ h0 hb] at this
 unfold rvK
 rw [Array.toList_push,List.reverse_append]
 exact this
structure eR (a b:Array Keyed):Prop where
 ka:IntKeys a
 kb:IntKeys b
 sa:Srt a.toList
 sb:Srt b.toList
 first:∀ p∈b.toList.take 1,∀ q∈a.toList,kk p≤kk q
theorem oz {xs:Array Keyed} {n:Nat}:(xs.extract 0 n).toList=xs.toList.take n:=by rw [bu,List.drop_zero,Nat.sub_zero]
theorem eR.oO (g:eR a b) {out:Array Keyed} {na nb:Nat} (h:MH a.toList b.toList (rvK out) na nb) (hb:nb=1):Mgd a.toList b.toList (b.extract 0 nb++a.extract 0 na++out.reverse).toList:=by
 have:=h.oO g.sa g.sb (by rw [hb];exact g.first)
 rw [Array.toList_append,Array.toList_append,oz,oz,Array.toList_reverse]
 exact this
theorem eR.iA (g:eR a b) {out:Array Keyed} {na nb:Nat} (h:MH a.toList b.toList (rvK out) na nb) (ha:na=0):Mgd a.toList b.toList (a.extract 0 na++b.extract 0 nb++out.reverse).toList:=by
 subst ha
 have:=h.iA g.sb
 rw [Array.toList_append,Array.toList_append,oz,oz,Array.toList_reverse]
 exact this
theorem eR.iD (g:eR a b) {out:Array Keyed} {na nb:Nat} (h:MH a.toList b.toList (rvK out) na nb) (hb:nb=0):Mgd a.toList b.toList (a.extract 0 na++b.extract 0 nb++out.reverse).toList:=by
 subst hb
 have:=h.iD g.sa
 rw [Array.toList_append,Array.toList_append,oz,oz,Array.toList_reverse]
 exact this
def PHi (a b:Array Keyed) (st:SortSt) (n:Nat) (r:Option (Array Keyed)) (out:Array Keyed) (na nb:Nat) (st':SortSt):Prop:=GS st st'∧match r with
 | some r=>Mgd a.toList b.toList r.toList
 | none=>MH a.toList b.toList (rvK out) na nb∧(1≤na∧na≤a.size)∧(2≤nb∧nb≤b.size)∧n+na+nb≤a.size+b.size
theorem PHi.less {n m:Nat} {r:Option (Array Keyed)} {out:Array Keyed} {na nb:Nat} {st':SortSt} (h:PHi a b st n r out na nb st') (hm:m≤n):PHi a b st m r out na nb st':=by
 unfold PHi at h ⊢
 cases r with
 | some r=>exact h
 | none=>exact ⟨h.1,h.2.1,h.2.2.1,h.2.2.2.1,by have:=h.2.2.2.2;omega⟩
theorem C4 (g:eR a b) {mg n:Nat} {out:Array Keyed} {na nb ac bc:Nat} {st':SortSt} (hk:kindOf st=oneType') (h:PHi a b st n none out na nb st'):wpS (model prog w) A E s (hiF a b mg (none,na,nb,out,ac,bc)) (StP (fun c st2=>PHi a b st (n+1) c.1 c.2.2.2.1 c.2.1 c.2.2.1 st2) fun c=>c.1=none) st':=by
 obtain ⟨hg,hm,ha,hb,hn⟩:=h
 unfold hiF
 dsimp only
 refine wpS_bind (bh (by omega) ?_)
 refine wpS_bind (bh (by omega) ?_)
 refine wpS_bind (kR (hg.kind.trans hk) (g.kb _ (by simp)) (g.ka _ (by simp)) ?_)
 by_cases hw:numOf (b[nb - 1]'(by omega)).1 < numOf (a[na - 1]'(by omega)).1
 ·rw [decide_eq_true hw]
  dsimp only
  rw [if_pos rfl]
  have m2:=hm.kT g.sa ha.1 ha.2 fun r hr=>Int.le_trans (mE g.sb (by omega) hb.2 r hr) (Int.le_of_lt hw)
  refine wpS_bind (bh (by omega) ?_)
  by_cases he:na - 1=0
  ·rw [if_pos (by simpa using he)]
   exact wpS_pure ⟨hg,g.iA m2 he⟩
  ·rw [if_neg (by simpa using he)]
   split
   ·exact wpS_pure ⟨hg,m2,(by dsimp only;omega),hb,(by dsimp only;omega)⟩
   ·exact wpS_pure ⟨⟨hg,m2,(by dsimp only;omega),hb,(by dsimp only;omega)⟩,rfl⟩
 ·rw [decide_eq_false hw]
  dsimp only
  rw [if_neg Bool.false_ne_true]
  have m2:=hm.kY g.sb (by omega) hb.2 fun r hr=>Int.le_trans (mE g.sa ha.1 ha.2 r hr) (Int.not_lt.mp hw)
  refine wpS_bind (bh (by omega) ?_)
  by_cases he:nb - 1=1
  ·rw [if_pos (by simpa using he)]
   exact wpS_pure ⟨hg,g.oO m2 he⟩
  ·rw [if_neg (by simpa using he)]
   split
   ·exact wpS_pure ⟨hg,m2,ha,(by dsimp only;omega),(by dsimp only;omega)⟩
   ·exact wpS_pure ⟨⟨hg,m2,ha,(by dsimp only;omega),(by dsimp only;omega)⟩,rfl⟩
theorem sA (g:eR a b) {mg n:Nat} {out:Array Keyed} {na nb ac bc:Nat} {st':SortSt} (hg:GS st st') (hm:MH a.toList b.toList (rvK out) na nb) (ha:1≤na∧na≤a.size) (hb:2≤nb∧nb≤b.size) (hn:n+na+nb≤a.size+b.size) (hle:∀ r∈b.toList.take nb,kk r≤kk (a[na - 1]'(by omega))):wpS (model prog w) A E s (vz a b out na nb mg ac bc) (StP (fun c st2=>PHi a b st n c.1 c.2.2.2.1 c.2.1 c.2.2.1 st2) fun c=>c.1=none) st':=by
 unfold vz
 have m2:=hm.kT g.sa ha.1 ha.2 hle
 refine wpS_bind (bh (by omega) ?_)
 by_cases he:na - 1=0
 ·rw [if_pos (by simpa using he)]
  exact wpS_pure ⟨hg,g.iA m2 he⟩
 ·rw [if_neg (by simpa using he)]
  split
  ·exact wpS_pure ⟨hg,m2,(by dsimp only;omega),hb,(by dsimp only;omega)⟩
  ·exact wpS_pure ⟨⟨hg,m2,(by dsimp only;omega),hb,(by dsimp only;omega)⟩,rfl⟩
theorem sj {out:Array Keyed} {xs:Array Keyed} {k n:Nat}:rvK (out++(xs.extract k n).reverse)=(xs.toList.take n).drop k++rvK out:=by
 unfold rvK
 rw [Array.toList_append,Array.toList_reverse,List.reverse_append,List.reverse_reverse,bu,List.drop_take]
theorem mD {xs:Array Keyed} {n k:Nat} {q:Keyed} (hn:n≤xs.size) (h:q∈(xs.toList.take n).drop k):∃ j,k≤j∧j < n∧∃ hj:j < xs.size,q=xs[j]:=by
 rw [List.drop_take] at h
 obtain ⟨j,hj,hj2,e⟩:=ki h
 exact ⟨k+j,by omega,by omega,hj2,e⟩
theorem sO (g:eR a b) {mg n:Nat} {out:Array Keyed} {na nb ac bc:Nat} {st':SortSt} (hk:kindOf st=oneType') (hg:GS st st') (hm:MH a.toList b.toList (rvK out) na nb) (ha:1≤na∧na≤a.size) (hb:2≤nb∧nb≤b.size) (hn:n+na+nb≤a.size+b.size) (hle:∀ r∈a.toList.take na,kk r≤kk (b[nb - 1]'(by omega))):wpS (model prog w) A E s (vm a b out na nb mg ac bc) (StP (fun c st2=>PHi a b st n c.1 c.2.2.2.1 c.2.1 c.2.2.1 st2) fun c=>c.1=none) st':=by
 unfold vm
 have m2:=hm.kY g.sb (by omega) hb.2 hle
 refine wpS_bind (bh (by omega) ?_)
 by_cases he:nb - 1=1
 ·rw [if_pos (by simpa using he)]
  exact wpS_pure ⟨hg,g.oO m2 he⟩
 ·rw [if_neg (by simpa using he)]
  refine wpS_bind (bh (by omega) ?_)
  refine wpS_bind (dA (hg.kind.trans hk) g.kb (g.ka _ (by simp)) (by omega) (by omega) (iF g.sb (by omega)) fun k hk1 hk2 hk3=>?_)
  dsimp only
  have blk:∀ q∈(b.toList.take (nb - 1)).drop k,∀ r∈a.toList.take na,kk r≤kk q:=fun q hq r hr=>by
   obtain ⟨j,j1,j2,j3,rfl⟩:=mD (by omega) hq
   have:=hk3 j j1 j2
   unfold bey at this
   rw [if_pos rfl,Nat.zero_add,cK j3] at this
   have:¬kk b[j] < kk (a[na - 1]'(by omega)):=of_decide_eq_false this
   exact Int.le_trans (mE g.sa ha.1 ha.2 r hr) (Int.not_lt.mp this)
  have aft:∀ r∈b.toList.take k,kk r≤kk (a[na - 1]'(by omega)):=fun r hr=>by
   obtain ⟨j,j1,j2,j3,rfl⟩:=mD (xs:=b) (n:=k) (k:=0) (by omega) (by rw [List.drop_zero];exact hr)
   have:=hk2 j j2
   unfold bey at this
   rw [if_pos rfl,Nat.zero_add,cK j3] at this
   have:kk b[j] < kk (a[na - 1]'(by omega)):=of_decide_eq_true this
   exact Int.le_of_lt this
  by_cases hz:nb - 1 - k > 0
  ·rw [if_pos hz]
   have m3:=m2.j4 (k:=k) g.sb (by omega) blk
   rw [← sj] at m3
   by_cases he2:k=1
   ·rw [if_pos (by simpa using he2)]
    exact wpS_pure ⟨hg,g.oO m3 he2⟩
   ·rw [if_neg (by simpa using he2)]
    by_cases he3:k=0
    ·rw [if_pos (by simpa using he3)]
     exact wpS_pure ⟨hg,g.iD m3 he3⟩
    ·rw [if_neg (by simpa using he3)]
     exact sA g hg m3 ha (by omega) (by omega) aft
  ·rw [if_neg hz]
   have hk0:k=nb - 1:=by omega
   rw [hk0] at aft
   exact sA g hg m2 ha (by omega) (by omega) aft
theorem rD (g:eR a b) {mg n:Nat} {out:Array Keyed} {na nb ac bc:Nat} {st':SortSt} (hk:kindOf st=oneType') (hg:GS st st') (hm:MH a.toList b.toList (rvK out) na nb) (ha:1≤na∧na≤a.size) (hb:2≤nb∧nb≤b.size) (hn:n+na+nb≤a.size+b.size):wpS (model prog w) A E s (oE a b out na nb mg ac bc) (StP (fun c st2=>PHi a b st n c.1 c.2.2.2.1 c.2.1 c.2.2.1 st2) fun c=>c.1=none) st':=by
 unfold oE
 rw [jo]
 refine wpS_bind (wpS_modify ?_)
 have hg:=hg.set (g:=mg)
 refine wpS_bind (bh (by omega) ?_)
 refine wpS_bind (dA (hg.kind.trans hk) g.ka (g.kb _ (by simp)) (by omega) (by omega) (iF g.sa (by omega)) fun k hk1 hk2 hk3=>?_)
 dsimp only
 have blk:∀ q∈(a.toList.take na).drop k,∀ r∈b.toList.take nb,kk r≤kk q:=fun q hq r hr=>by
  obtain ⟨j,j1,j2,j3,rfl⟩:=mD (by omega) hq
  have:=hk3 j j1 j2
  unfold bey at this
  rw [if_neg Bool.false_ne_true,Nat.zero_add,cK j3,Bool.not_eq_false'] at this
  have:kk (b[nb - 1]'(by omega)) < kk a[j]:=of_decide_eq_true this
  exact Int.le_trans (mE g.sb (by omega) hb.2 r hr) (Int.le_of_lt this)
 have aft:∀ r∈a.toList.take k,kk r≤kk (b[nb - 1]'(by omega)):=fun r hr=>by
  obtain ⟨j,j1,j2,j3,rfl⟩:=mD (xs:=a) (n:=k) (k:=0) (by omega) (by rw [List.drop_zero];exact hr)
  have:=hk2 j j2
  unfold bey at this
  rw [if_neg Bool.false_ne_true,Nat.zero_add,cK j3,Bool.not_eq_true'] at this
  have:¬kk (b[nb - 1]'(by omega)) < kk a[j]:=of_decide_eq_false this
  exact Int.not_lt.mp this
 by_cases hz:na - k > 0
 ·rw [if_pos hz]
  have m3:=hm.iI (k:=k) g.sa (by omega) blk
  rw [← sj] at m3
  by_cases he2:k=0
  ·rw [if_pos (by simpa using he2)]
   exact wpS_pure ⟨hg,g.iA m3 he2⟩
  ·rw [if_neg (by simpa using he2)]
   exact sO g hk hg m3 (by omega) hb (by omega) aft
 ·rw [if_neg hz]
  have hk0:k=na:=by omega
  rw [hk0] at aft
  exact sO g hk hg hm ha hb hn aft
theorem tJ {Q:Array Keyed→SortSt→Prop} (g:eR a b) (hk:kindOf st=oneType') (ha:0 < a.size) (hb:0 < b.size) (h1:∀ q∈b.toList,kk q≤kk (a[a.size - 1]'(by omega)))
  (h:∀ r st',GS st st'→Mgd a.toList b.toList r.toList→Q r st'):wpS (model prog w) A E s (iX a b) Q st:=by
 rw [tB]
 refine wpS_bind (wpS_lift (wpAny_rule ⟨rfl,?_⟩))
 refine wpS_bind (bh (by omega) ?_)
 have m0:MH a.toList b.toList (rvK (#[a[a.size - 1]'(by omega)]:Array Keyed)) (a.size - 1) b.size:=by
  have:=MH.kT (a:=a) (b:=b) (out:=#[]) (na:=a.size) (nb:=b.size) ⟨by rw [List.drop_eq_nil_of_le (by rw [Array.length_toList];exact Nat.le_refl _),List.drop_eq_nil_of_le (by rw [Array.length_toList];exact Nat.le_refl _)];exact .nil,.nil,fun p hp=>by simp [rvK] at hp⟩ g.sa ha (Nat.le_refl _) (fun r hr=>h1 r (List.mem_of_mem_take hr))
  simpa using this
 by_cases e1:a.size - 1=0
 ·rw [if_pos (by simpa using e1)]
  exact wpS_pure (h _ st GS.refl (g.iA m0 e1))
 rw [if_neg (by simpa using e1)]
 by_cases e2:b.size=1
 ·rw [if_pos (by simpa using e2)]
  exact wpS_pure (h _ st GS.refl (g.oO m0 e2))
 rw [if_neg (by simpa using e2)]
 refine wpS_bind (wpS_get ?_)
 refine wpS_bind (wpS_mono (wpS_forRange (I:=fun x (c:HiO) st'=>c.1=none∧PHi a b st (x+1) c.1 c.2.2.2.1 c.2.1 c.2.2.1 st')
  (Q:=fun (c:HiO) st'=>∃ r,c.1=some r∧GS st st'∧Mgd a.toList b.toList r.toList) ?step ?fin ⟨rfl,GS.refl,m0,by dsimp only;omega,by dsimp only;omega,by dsimp only;omega⟩) ?post)
 case post=>
  rintro ⟨r,c⟩ st' ⟨r',e,hg,hm⟩
  cases e
  exact wpS_pure (h r' st' hg hm)
 case fin=>
  rintro ⟨r,na,nb,out,mg⟩ st' ⟨e,hp⟩
  cases e
  obtain ⟨_,_,q1,q2,q3⟩:=hp
  dsimp only at q1 q2 q3
  omega
 case step=>
  rintro x ⟨r,na,nb,out,mg⟩ st' _ hx ⟨e,hp⟩
  cases e
  unfold hiO
  dsimp only
  refine wpS_bind (kO (I:=fun y (c:HiA) st2=>PHi a b st (x+1+y) c.1 c.2.2.2.1 c.2.1 c.2.2.1 st2) (N:=fun c=>c.1=none) (fun y c st2 hI hN=>?_) (fun y c st2 hI=>?_) (by omega) hp rfl)
  ·obtain ⟨r,na,nb,out,ac,bc⟩:=c
   cases hN
   exact C4 g hk hI
  ·obtain ⟨r,na2,nb2,out2,ac,bc⟩:=c
   cases r with
   | some r=>exact wpS_pure ⟨r,rfl,hI.1,hI.2⟩
   | none=>
    have hI:PHi a b st (x+2) none out2 na2 nb2 st2:=hI.less (by omega)
    dsimp only
    refine wpS_bind (wpS_lift (wpAny_rule ⟨rfl,?_⟩))
    refine wpS_bind (kO (I:=fun y (c:HiG) st3=>PHi a b st (x+2) c.1 c.2.2.2.1 c.2.1 c.2.2.1 st3) (N:=fun c=>c.1=none) (fun y c st3 hI hN=>?_) (fun y c st3 hI=>?_) (by omega) hI rfl)
    ·obtain ⟨r,na,nb,out,mg,ac,bc⟩:=c
     cases hN
     obtain ⟨hg,q1,q2,q3,q4⟩:=hI
     unfold hiG
     split
     ·exact rD g hk hg q1 q2 q3 q4
     ·exact rD g hk hg q1 q2 q3 q4
    ·obtain ⟨r,na3,nb3,out3,mg3,ac,bc⟩:=c
     cases r with
     | some r=>exact wpS_pure ⟨r,rfl,hI.1,hI.2⟩
     | none=>
      dsimp only
      rw [jo]
      refine wpS_bind (wpS_modify (wpS_pure ⟨rfl,hI.1.set,hI.2⟩))
end
theorem sV (i:Nat):mergeAt' i=(do
 let s ← get
 let (some (sa,na,power),some (sb,nb,_)):=((pendingOf s)[i]?,(pendingOf s)[i+1]?) | unsupported "internal:list.sort.pending"
 set (SortSt.mk' (kindOf s) (arrOf s) (((pendingOf s).setIfInBounds i (sa,na+nb,power)).eraseIdxIfInBounds (i+1)) (gallopOf s) (failedOf s))
 let some k ← cu false (← elem' (arrOf s) sb) (arrOf s) sa na 0 | return false
 let (sa,na):=(sa+k,na - k)
 if na == 0 then return true
 let some nb ← cu true (← elem' (arrOf s) (sa+na - 1)) (arrOf s) sb nb (nb - 1) | return false
 if nb == 0 then return true
 let x:=(arrOf s).extract sa sb
 let y:=(arrOf s).extract sb (sb+nb)
 let merged ← if na≤nb then iR x y else iX x y
 modify fun s=>SortSt.mk' (kindOf s) (merged.toList.zipIdx.foldl (fun a (p,j)=>a.setIfInBounds (sa+j) p) (arrOf s)) (pendingOf s) (gallopOf s) (failedOf s)
 return (failedOf (← get)).isNone):=rfl
theorem rA {base:Nat}:∀ (M Z R pre:List Keyed) (arr:Array Keyed) (i:Nat),arr.toList=pre++Z++R→pre.length=base+i→Z.length=M.length→((M.zipIdx i).foldl (fun a (p,j)=>a.setIfInBounds (base+j) p) arr).toList=pre++M++R
 | [],Z,R,pre,arr,i,h,_,hl=>by
  rw [List.length_nil] at hl
  rw [List.length_eq_zero_iff.mp hl] at h
  simpa using h
 | m :: M,Z,R,pre,arr,i,h,hp,hl=>by
  cases Z with
  | nil=>simp at hl
  | cons z Z=>
   rw [List.zipIdx_cons,List.foldl_cons]
   have h2:(arr.setIfInBounds (base+i) m).toList=(pre++[m])++Z++R:=by
    rw [Array.toList_setIfInBounds,h,← hp,List.append_assoc,List.set_append_right _ _ (Nat.le_refl _),Nat.sub_self]
    simp
   rw [rA M Z R (pre++[m]) (arr.setIfInBounds (base+i) m) (i+1) h2 (by rw [List.length_append,List.length_singleton];omega) (by simpa using hl)]
   simp
theorem uD {xs:Array Keyed} {lo n:Nat} (hn:lo+n≤xs.size) (h:ck xs lo n):Srt ((xs.toList.drop lo).take n):=by
 refine List.pairwise_iff_getElem.mpr fun i j hi hj hij=>?_
 rw [List.length_take,List.length_drop,Array.length_toList] at hi hj
 have:=h i j (by omega) (by omega)
 rw [cK (by omega),cK (by omega)] at this
 rw [List.getElem_take,List.getElem_take,List.getElem_drop,List.getElem_drop,Array.getElem_toList,Array.getElem_toList]
 exact this
theorem kz {xs:Array Keyed} {i:Nat}:K xs i=match xs.toList[i]? with | some p=>kk p | none=>0:=by
 unfold K kk
 rw [Array.getElem?_toList]
 cases xs[i]?<;>rfl
structure sP (xs ys:Array Keyed) (sa n:Nat):Prop where
 perm:ys.Perm xs
 seg:ck ys sa n
 same:∀ j,j < sa∨sa+n≤j→K ys j=K xs j
section
variable {prog:Program} {w:World} {A:Around} {E:Value→Shared→Prop} {s:Shared} {st:SortSt} {a₀:Array Keyed} {p₀:Array (Nat×Nat×Nat)}
theorem sP.refl {xs:Array Keyed} {sa n:Nat} (h:ck xs sa n):sP xs xs sa n:=⟨Array.Perm.refl _,h,fun _ _=>rfl⟩
theorem qX {xs:Array Keyed} {sa na nb:Nat} (h1:ck xs sa na) (h2:ck xs (sa+na) nb) (h:∀ i,i < na→∀ j,j < nb→K xs (sa+i)≤K xs (sa+na+j)):ck xs sa (na+nb):=fun i j hij hj=>by
 by_cases q:j < na
 ·exact h1 i j hij q
 ·by_cases p:i < na
  ·have:=h i p (j - na) (by omega)
   rwa [show sa+na+(j - na)=sa+j by omega] at this
  ·have:=h2 (i - na) (j - na) (by omega) (by omega)
   rwa [show sa+na+(i - na)=sa+i by omega,show sa+na+(j - na)=sa+j by omega] at this
theorem tu {i sa na pw sb nb pw2:Nat} {Q:Bool→SortSt→Prop} (h0:IntKeys a₀) (hB:SB a₀ p₀ st) (e1:p₀[i]?=some (sa,na,pw)) (e2:p₀[i+1]?=some (sb,nb,pw2)) (hsb:sb=sa+na) (hna:0 < na) (hnb:0 < nb) (hsz:sb+nb≤a₀.size) (s1:ck (arrOf st) sa na) (s2:ck (arrOf st) sb nb)
  (h:∀ st',SB a₀ ((p₀.setIfInBounds i (sa,na+nb,pw)).eraseIdxIfInBounds (i+1)) st'→sP (arrOf st) (arrOf st') sa (na+nb)→Q true st'):wpS (model prog w) A E s (mergeAt' i) Q st:=by
 subst hsb
 have hA:=hB.keys h0
 have hz:(arrOf st).size=a₀.size:=hB.size
 have hP:(arrOf st).Perm a₀:=hB.perm
 rw [sV]
 refine wpS_bind (wpS_get ?_)
 rw [hB.pend,e1,e2]
 dsimp only
 refine wpS_bind (wpS_modify (f:=fun _=>_) ?_)
 have hB1:SB a₀ ((p₀.setIfInBounds i (sa,na+nb,pw)).eraseIdxIfInBounds (i+1)) (SortSt.mk' (kindOf st) (arrOf st) ((p₀.setIfInBounds i (sa,na+nb,pw)).eraseIdxIfInBounds (i+1)) (gallopOf st) (failedOf st)):=⟨hB.perm,hB.kind,hB.failed,rfl⟩
 generalize hst1:SortSt.mk' (kindOf st) (arrOf st) ((p₀.setIfInBounds i (sa,na+nb,pw)).eraseIdxIfInBounds (i+1)) (gallopOf st) (failedOf st)=st1 at hB1
 have ea:arrOf st1=arrOf st:=by rw [← hst1]
 generalize arrOf st=xs at *
 refine wpS_bind (bh (by omega) ?_)
 refine wpS_bind (dA hB1.kind hA (hA _ (by simp)) (by omega) (by omega) s1 fun k hk1 hk2 hk3=>?_)
 dsimp only
 have kle:∀ i,i < k→K xs (sa+i)≤K xs (sa+na):=fun i hi=>by
  have:=hk2 i hi
  unfold bey at this
  rw [if_neg Bool.false_ne_true,Bool.not_eq_true'] at this
  have:=of_decide_eq_false this
  rw [n_ (show sa+na < xs.size by omega)]
  exact Int.not_lt.mp this
 have klt:∀ i,k≤i→i < na→K xs (sa+na) < K xs (sa+i):=fun i h1 h2=>by
  have:=hk3 i h1 h2
  unfold bey at this
  rw [if_neg Bool.false_ne_true,Bool.not_eq_false'] at this
  have:=of_decide_eq_true this
  rw [n_ (show sa+na < xs.size by omega)]
  exact this
 have first:∀ j,j < nb→K xs (sa+na)≤K xs (sa+na+j):=fun j hj=>by have:=s2 0 j (by omega) hj;rwa [Nat.add_zero] at this
 by_cases q1:na - k=0
 ·rw [if_pos (by simpa using q1)]
  refine wpS_pure (h st1 hB1 (by rw [ea];exact sP.refl (qX s1 s2 fun i hi j hj=>Int.le_trans (kle i (by omega)) (first j hj))))
 rw [if_neg (by simpa using q1)]
 refine wpS_bind (bh (by omega) ?_)
 refine wpS_bind (dA hB1.kind hA (hA _ (by simp)) (by omega) (by omega) s2 fun m hm1 hm2 hm3=>?_)
 dsimp only
 have elast:sa+k+(na - k) - 1=sa+(na - 1):=by omega
 have mlt:∀ j,j < m→K xs (sa+na+j) < K xs (sa+(na - 1)):=fun j hj=>by
  have:=hm2 j hj
  unfold bey at this
  rw [if_pos rfl] at this
  have:=of_decide_eq_true this
  rw [← n_ (show sa+k+(na - k) - 1 < xs.size by omega),elast] at this
  exact this
 have mle:∀ j,m≤j→j < nb→K xs (sa+(na - 1))≤K xs (sa+na+j):=fun j h1 h2=>by
  have:=hm3 j h1 h2
  unfold bey at this
  rw [if_pos rfl] at this
  have:=of_decide_eq_false this
  rw [← n_ (show sa+k+(na - k) - 1 < xs.size by omega),elast] at this
  exact Int.not_lt.mp this
 by_cases q2:m=0
 ·rw [if_pos (by simpa using q2)]
  refine wpS_pure (h st1 hB1 (by rw [ea];exact sP.refl (qX s1 s2 fun i hi j hj=>Int.le_trans (s1 i (na - 1) (by omega) (by omega)) (mle j (by omega) hj))))
 rw [if_neg (by simpa using q2)]
 have kx:IntKeys (xs.extract (sa+k) (sa+na)):=fun p hp=>hA p (by rw [bu] at hp;exact List.mem_of_mem_drop (List.mem_of_mem_take hp))
 have ky:IntKeys (xs.extract (sa+na) (sa+na+m)):=fun p hp=>hA p (by rw [bu] at hp;exact List.mem_of_mem_drop (List.mem_of_mem_take hp))
 have sx:Srt (xs.extract (sa+k) (sa+na)).toList:=by
  rw [bu]
  exact uD (by omega) fun i j hij hj=>by
   have:=s1 (k+i) (k+j) (by omega) (by omega)
   rwa [← Nat.add_assoc,← Nat.add_assoc] at this
 have sy:Srt (xs.extract (sa+na) (sa+na+m)).toList:=by
  rw [bu]
  exact uD (by omega) fun i j hij hj=>s2 i j hij (by omega)
 have memx:∀ p∈(xs.extract (sa+k) (sa+na)).toList,∃ i,k≤i∧i < na∧kk p=K xs (sa+i):=fun p hp=>by
  rw [bu] at hp
  obtain ⟨j,hj,hj2,rfl⟩:=ki hp
  refine ⟨k+j,by omega,by omega,?_⟩
  rw [← cK hj2,Nat.add_assoc]
 have memy:∀ p∈(xs.extract (sa+na) (sa+na+m)).toList,∃ j,j < m∧kk p=K xs (sa+na+j):=fun p hp=>by
  rw [bu] at hp
  obtain ⟨j,hj,hj2,rfl⟩:=ki hp
  exact ⟨j,by omega,by rw [← cK hj2]⟩
 have zx:(xs.extract (sa+k) (sa+na)).size=na - k:=by rw [Array.size_extract];omega
 have zy:(xs.extract (sa+na) (sa+na+m)).size=m:=by rw [Array.size_extract];omega
 have post:∀ (M:Array Keyed) (st2:SortSt),GS st1 st2→Mgd (xs.extract (sa+k) (sa+na)).toList (xs.extract (sa+na) (sa+na+m)).toList M.toList→Q true (SortSt.mk' (kindOf st2) (M.toList.zipIdx.foldl (fun a (p,j)=>a.setIfInBounds (sa+k+j) p) (arrOf st2)) (pendingOf st2) (gallopOf st2) (failedOf st2)):=fun M st2 hg hM=>by
  rw [hg.arr,ea]
  have lM:M.toList.length=na - k+m:=by
   rw [hM.1.length_eq,List.length_append,Array.length_toList,Array.length_toList,zx,zy]
  have eL:xs.toList=xs.toList.take (sa+k)++(xs.toList.drop (sa+k)).take (na - k+m)++xs.toList.drop (sa+na+m):=by
   conv=>lhs;rw [← List.take_append_drop (sa+k) xs.toList,← List.take_append_drop (na - k+m) (xs.toList.drop (sa+k)),List.drop_drop]
   rw [show sa+k+(na - k+m)=sa+na+m by omega,List.append_assoc]
  have eF:=rA (base:=sa+k) M.toList ((xs.toList.drop (sa+k)).take (na - k+m)) (xs.toList.drop (sa+na+m)) (xs.toList.take (sa+k)) xs 0 eL (by rw [List.length_take,Array.length_toList];omega) (by rw [List.length_take,List.length_drop,Array.length_toList];omega)
  generalize hY:M.toList.zipIdx.foldl (fun a (p,j)=>a.setIfInBounds (sa+k+j) p) xs=ys at eF
  have eXY:(xs.toList.drop (sa+k)).take (na - k+m)=(xs.extract (sa+k) (sa+na)).toList++(xs.extract (sa+na) (sa+na+m)).toList:=by
   rw [bu,bu,List.take_add,List.drop_drop,show sa+k+(na - k)=sa+na by omega,show sa+na - (sa+k)=na - k by omega,show sa+na+m - (sa+na)=m by omega]
  have hMX:M.toList.Perm ((xs.toList.drop (sa+k)).take (na - k+m)):=by rw [eXY];exact hM.1
  have hperm:ys.Perm xs:=by
   rw [Array.perm_iff_toList_perm,eF]
   refine (List.Perm.append_right _ (List.Perm.append_left _ hMX)).trans ?_
   rw [← eL]
  have zl:(xs.toList.take (sa+k)).length=sa+k:=by rw [List.length_take,Array.length_toList];omega
  have k1:∀ j,j < sa+k→K ys j=K xs j:=fun j hj=>by
   rw [kz,kz,eF,List.append_assoc,List.getElem?_append_left (by omega),List.getElem?_take,if_pos hj]
  have k3:∀ j,sa+na+m≤j→K ys j=K xs j:=fun j hj=>by
   rw [kz,kz,eF,List.getElem?_append_right (by rw [List.length_append,zl,lM];omega),List.length_append,zl,lM,List.getElem?_drop,show sa+na+m+(j - (sa+k+(na - k+m)))=j by omega]
  have k2:∀ j (hj:j < na - k+m),K ys (sa+k+j)=kk (M.toList[j]'(by omega)):=fun j hj=>by
   rw [kz,eF,List.append_assoc,List.getElem?_append_right (by omega),zl,show sa+k+j - (sa+k)=j by omega,List.getElem?_append_left (by omega),List.getElem?_eq_getElem (by omega)]
  have mM:∀ j (hj:j < na - k+m),(∃ i,k≤i∧i < na∧kk (M.toList[j]'(by omega))=K xs (sa+i))∨∃ i,i < m∧kk (M.toList[j]'(by omega))=K xs (sa+na+i):=fun j hj=>by
   rcases List.mem_append.mp (hM.1.mem_iff.mp (List.getElem_mem (show j < M.toList.length by omega))) with z | z
   ·exact .inl (memx _ z)
   ·exact .inr (memy _ z)
  refine h _ ⟨hperm.trans hP,hg.kind.trans hB1.kind,hg.failed.trans hB1.failed,hg.pend.trans hB1.pend⟩ ⟨hperm,fun i j hij hj=>?_,fun j hj=>?_⟩
  ·show K ys (sa+i)≤K ys (sa+j)
   have z2:∀ i,k≤i→sa+i=sa+k+(i - k):=fun i hi=>by omega
   by_cases i1:i < k
   ·rw [k1 (sa+i) (by omega)]
    by_cases j1:j < k
    ·rw [k1 (sa+j) (by omega)]
     exact s1 i j hij (by omega)
    ·by_cases j2:j < na+m
     ·rw [z2 j (by omega),k2 (j - k) (by omega)]
      rcases mM (j - k) (by omega) with ⟨i',a1,a2,a3⟩ | ⟨i',a1,a3⟩
      ·rw [a3];exact s1 i i' (by omega) a2
      ·rw [a3];exact Int.le_trans (kle i i1) (first i' (by omega))
     ·rw [k3 (sa+j) (by omega)]
      have:=mle (j - na) (by omega) (by omega)
      rw [show sa+na+(j - na)=sa+j by omega] at this
      exact Int.le_trans (s1 i (na - 1) (by omega) (by omega)) this
   ·by_cases i2:i < na+m
    ·rw [z2 i (by omega),k2 (i - k) (by omega)]
     by_cases j2:j < na+m
     ·rw [z2 j (by omega),k2 (j - k) (by omega)]
      rcases Nat.lt_or_ge i j with z | z
      ·exact List.pairwise_iff_getElem.mp hM.2 (i - k) (j - k) (by omega) (by omega) (by omega)
      ·have:i=j:=by omega
       subst this;exact Int.le_refl _
     ·rw [k3 (sa+j) (by omega)]
      have:=mle (j - na) (by omega) (by omega)
      have e3:sa+na+(j - na)=sa+j:=by omega
      rw [e3] at this
      rcases mM (i - k) (by omega) with ⟨i',a1,a2,a3⟩ | ⟨i',a1,a3⟩
      ·rw [a3];exact Int.le_trans (s1 i' (na - 1) (by omega) (by omega)) this
      ·rw [a3,← e3];exact s2 i' (j - na) (by omega) (by omega)
    ·rw [k3 (sa+i) (by omega),k3 (sa+j) (by omega)]
     have:=s2 (i - na) (j - na) (by omega) (by omega)
     rwa [show sa+na+(i - na)=sa+i by omega,show sa+na+(j - na)=sa+j by omega] at this
  ·rcases hj with z | z
   ·exact k1 j (by omega)
   ·exact k3 j (by omega)
 have done:∀ (M:Array Keyed) (st2:SortSt),GS st1 st2→Mgd (xs.extract (sa+k) (sa+na)).toList (xs.extract (sa+na) (sa+na+m)).toList M.toList→wpS (model prog w) A E s (do
   modify fun s=>SortSt.mk' (kindOf s) (M.toList.zipIdx.foldl (fun a (p,j)=>a.setIfInBounds (sa+k+j) p) (arrOf s)) (pendingOf s) (gallopOf s) (failedOf s)
   let s ← get
   pure (failedOf s).isNone) Q st2:=fun M st2 hg hM=>by
  refine wpS_bind (wpS_modify (wpS_bind (wpS_get (wpS_pure ?_))))
  have e:(failedOf (SortSt.mk' (kindOf st2) (M.toList.zipIdx.foldl (fun a (p,j)=>a.setIfInBounds (sa+k+j) p) (arrOf st2)) (pendingOf st2) (gallopOf st2) (failedOf st2))).isNone=true:=by
   show (failedOf st2).isNone=true
   rw [hg.failed,hB1.failed]
   rfl
  rw [e]
  exact post M st2 hg hM
 have x0:kk ((xs.extract (sa+na) (sa+na+m))[0]'(by omega))=K xs (sa+na):=by
  rw [Array.getElem_extract,cK (show sa+na < xs.size by omega)]
  rfl
 have xl:kk ((xs.extract (sa+k) (sa+na))[(xs.extract (sa+k) (sa+na)).size - 1]'(by omega))=K xs (sa+(na - 1)):=by
  rw [Array.getElem_extract,cK (show sa+(na - 1) < xs.size by omega)]
  congr 2
  omega
 by_cases q3:na - k≤m
 ·rw [if_pos q3]
  refine wpS_bind (tE ⟨kx,ky,sx,sy,fun p hp q hq=>?_⟩ hB1.kind (by omega) (by omega) (fun q hq=>?_) fun r st2 hg hM=>done r st2 hg hM)
  ·obtain ⟨j,hj,ej⟩:=memy p hp
   obtain ⟨t,ht,et⟩:=mY hq
   rw [ej,et]
   have e:(xs.extract (sa+k) (sa+na))[(xs.extract (sa+k) (sa+na)).size - 1+t]=(xs.extract (sa+k) (sa+na))[(xs.extract (sa+k) (sa+na)).size - 1]'(by omega):=by congr 1;omega
   rw [e,xl]
   exact Int.le_of_lt (mlt j hj)
  ·obtain ⟨i',a1,a2,a3⟩:=memx q hq
   rw [x0,a3]
   exact Int.le_of_lt (klt i' a1 a2)
 ·rw [if_neg q3]
  refine wpS_bind (tJ ⟨kx,ky,sx,sy,fun p hp q hq=>?_⟩ hB1.kind (by omega) (by omega) (fun q hq=>?_) fun r st2 hg hM=>done r st2 hg hM)
  ·obtain ⟨i',a1,a2,a3⟩:=memx q hq
   rw [a3]
   have e:(xs.extract (sa+na) (sa+na+m)).toList.take 1=[(xs.extract (sa+na) (sa+na+m))[0]'(by omega)]:=by
    have:=iQ (xs:=xs.extract (sa+na) (sa+na+m)) (i:=1) (by omega) (by omega)
    rwa [List.drop_zero] at this
   rw [e] at hp
   rw [List.mem_singleton.mp hp,x0]
   exact Int.le_of_lt (klt i' a1 a2)
  ·obtain ⟨j,hj,ej⟩:=memy q hq
   rw [ej,xl]
   exact Int.le_of_lt (mlt j hj)
end
def nO (lo n:Nat):StateT SortSt Sem (ForInStep (Option Unit×Nat)):=do
 modify fun s=>setPending s ((pendingOf s).push (lo,n,0))
 pure (ForInStep.yield (none,lo+n))
def vb (size pw:Nat):StateT SortSt Sem (Option Unit×Unit):=
 forIn [0:size] ((none,()):Option Unit×Unit) fun _ _=>do
  let g ← get
  match (if (pendingOf g).size > 1 then (pendingOf g)[(pendingOf g).size - 2]? else none) with
  | some (_,_,older)=>
   if older≤pw then pure (ForInStep.done (none,()))
   else do
    let ok ← mergeAt' ((pendingOf g).size - 2)
    if (!ok)=true then pure (ForInStep.done (some (),())) else pure (ForInStep.yield (none,()))
  | _=>pure (ForInStep.done (none,()))
def nS (size lo n:Nat):StateT SortSt Sem (ForInStep (Option Unit×Nat)):=do
 let g ← get
 match (pendingOf g).back? with
 | some (s1,n1,_)=>do
  let c ← vb size (power' size (2 * s1+n1) (2 * s1+n1+n1+n) size)
  match c.1 with
  | some r=>pure (ForInStep.done (some r,lo))
  | none=>do
   modify fun s=>setPending s ((pendingOf s).modify ((pendingOf s).size - 1) fun x=>match x with | (st,len,_)=>(st,len,power' size (2 * s1+n1) (2 * s1+n1+n1+n) size))
   nO lo n
 | _=>nO lo n
def kH (size minrun lo:Nat):StateT SortSt Sem (ForInStep (Option Unit×Nat)):=
 if lo ≥ size then pure (ForInStep.done (none,lo))
 else do
  let r ← countRun' lo (size - lo)
  match r with
  | some n=>
   if n < minrun then do
    liftM (rule "list.sort.binary-insertion")
    let ok ← binarySort' lo (min (size - lo) minrun) n
    if (!ok)=true then pure (ForInStep.done (some (),lo)) else nS size lo (min (size - lo) minrun)
   else nS size lo n
  | _=>pure (ForInStep.done (some (),lo))
def Bn (size:Nat):StateT SortSt Sem (Option Unit×Unit):=
 forIn [0:size] ((none,()):Option Unit×Unit) fun _ _=>do
  let g ← get
  if (pendingOf g).size≤1 then pure (ForInStep.done (none,()))
  else do
   let ok ← mergeAt' (if Option.any (fun x=>decide (x < (pendingOf g)[(pendingOf g).size - 2+1]?.elim 0 fun x=>x.snd.fst)) (if (pendingOf g).size - 2 > 0 then Option.map (fun x=>x.snd.fst) (pendingOf g)[(pendingOf g).size - 2 - 1]? else none)=true then (pendingOf g).size - 2 - 1 else (pendingOf g).size - 2)
   if (!ok)=true then pure (ForInStep.done (some (),())) else pure (ForInStep.yield (none,()))
theorem Am:sortRuns'=(do
  let g ← get
  let c ← forIn [0:(arrOf g).size] ((none,0):Option Unit×Nat) fun _ c=>kH (arrOf g).size (minRun' (arrOf g).size (arrOf g).size 0) c.2
  match c.1 with
  | some r=>pure r
  | none=>do
   let c ← Bn (arrOf g).size
   match c.1 with
   | some r=>pure r
   | none=>pure ()):=by
 rw [sortRuns'_eq]
 refine bind_congr fun g=>?_
 refine congr (congrArg bind (congrArg (forIn _ _) (funext fun _=>funext fun c=>?_))) (funext fun c=>?_)
 ·unfold kH
  refine ite_congr rfl (fun _=>rfl) fun _=>?_
  refine bind_congr fun r=>?_
  cases r with
  | none=>rfl
  | some n=>
   refine ite_congr rfl (fun _=>?_) fun _=>?_
   ·refine bind_congr fun _=>?_
    refine bind_congr fun ok=>?_
    refine ite_congr rfl (fun _=>rfl) fun _=>?_
    unfold nS
    refine bind_congr fun g2=>?_
    cases (pendingOf g2).back? with
    | none=>rfl
    | some q=>
     obtain ⟨s1,n1,x⟩:=q
     refine congr (congrArg bind (congrArg (forIn _ _) (funext fun _=>funext fun c=>?_))) (funext fun c=>?_)
     ·refine bind_congr fun g3=>?_
      dsimp only
      generalize (if (pendingOf g3).size > 1 then (pendingOf g3)[(pendingOf g3).size - 2]? else none)=o
      cases o<;>rfl
     ·obtain ⟨r,u⟩:=c
      cases r<;>rfl
   ·unfold nS
    refine bind_congr fun g2=>?_
    cases (pendingOf g2).back? with
    | none=>rfl
    | some q=>
     obtain ⟨s1,n1,x⟩:=q
     refine congr (congrArg bind (congrArg (forIn _ _) (funext fun _=>funext fun c=>?_))) (funext fun c=>?_)
     ·refine bind_congr fun g3=>?_
      dsimp only
      generalize (if (pendingOf g3).size > 1 then (pendingOf g3)[(pendingOf g3).size - 2]? else none)=o
      cases o<;>rfl
     ·obtain ⟨r,u⟩:=c
      cases r<;>rfl
 ·obtain ⟨r,lo⟩:=c
  cases r with
  | some r=>rfl
  | none=>
   refine congr (congrArg bind (congrArg (forIn _ _) (funext fun _=>funext fun c=>rfl))) (funext fun c=>?_)
   obtain ⟨r,u⟩:=c
   cases r<;>rfl
abbrev Pd:=Nat×Nat×Nat
def cY (xs:Array Keyed):Nat→List Pd→Nat→Prop
 | lo,[],hi=>lo=hi
 | lo,p :: r,hi=>p.1=lo∧0 < p.2.1∧ck xs lo p.2.1∧cY xs (lo+p.2.1) r hi
theorem oK {xs:Array Keyed}:∀ {p:List Pd} {lo hi:Nat},cY xs lo p hi→lo+p.length≤hi
 | [],lo,hi,h=>by cases h;simp
 | q :: p,lo,hi,⟨_,h2,_,h4⟩=>by
  have:=oK h4
  rw [List.length_cons]
  omega
theorem dZ {xs:Array Keyed}:∀ {p q:List Pd} {lo hi:Nat},cY xs lo (p++q) hi↔∃ m,cY xs lo p m∧cY xs m q hi
 | [],q,lo,hi=>⟨fun h=>⟨lo,rfl,h⟩,fun ⟨m,h1,h2⟩=>by cases h1;exact h2⟩
 | x :: p,q,lo,hi=>⟨fun ⟨a,b,c,d⟩=>by
   obtain ⟨m,h1,h2⟩:=dZ.mp d
   exact ⟨m,⟨a,b,c,h1⟩,h2⟩,fun ⟨m,⟨a,b,c,h1⟩,h2⟩=>⟨a,b,c,dZ.mpr ⟨m,h1,h2⟩⟩⟩
theorem fC {xs ys:Array Keyed}:∀ {p:List Pd} {lo hi:Nat},(∀ j,lo≤j→j < hi→K ys j=K xs j)→cY xs lo p hi→cY ys lo p hi
 | [],_,_,_,h=>h
 | x :: p,lo,hi,hs,⟨a,b,c,d⟩=>by
  have hl:=oK d
  refine ⟨a,b,fun i j hij hj=>?_,fC (fun j h1 h2=>hs j (by omega) h2) d⟩
  rw [hs _ (by omega) (by omega),hs _ (by omega) (by omega)]
  exact c i j hij hj
theorem kL {p₀:Array Pd} {i:Nat} {v:Pd} (hi:i+1 < p₀.size):((p₀.setIfInBounds i v).eraseIdxIfInBounds (i+1)).toList=p₀.toList.take i++v :: p₀.toList.drop (i+2):=by
 have hz:i+1 < (p₀.setIfInBounds i v).size:=by rw [Array.size_setIfInBounds];exact hi
 unfold Array.eraseIdxIfInBounds
 rw [dif_pos hz,Array.toList_eraseIdx,Array.toList_setIfInBounds,List.eraseIdx_eq_take_drop_succ]
 have hl:i < p₀.toList.length:=by rw [Array.length_toList];omega
 rw [List.take_set,List.drop_set,if_pos (by omega),List.take_succ,List.getElem?_eq_getElem hl]
 rw [List.set_append_right _ _ (by rw [List.length_take];omega),List.length_take,Nat.min_eq_left (by omega),Nat.sub_self]
 simp
section
variable {prog:Program} {w:World} {A:Around} {E:Value→Shared→Prop} {s:Shared} {st:SortSt} {a₀:Array Keyed} {p₀:Array Pd}
structure SR (a₀:Array Keyed) (st0:SortSt) (hi n:Nat) (p:Array Pd) (st:SortSt):Prop where
 sb:SB a₀ p st
 runs:cY (arrOf st) 0 p.toList hi
 from_:∀ j,hi≤j→K (arrOf st) j=K (arrOf st0) j
 few:p.size≤n
theorem mO {st0:SortSt} {i hi n:Nat} {Q:Bool→SortSt→Prop} (h0:IntKeys a₀) (hB:SR a₀ st0 hi (n+1) p₀ st) (hh:hi≤a₀.size) (hi2:i+1 < p₀.size)
  (h:∀ p st',SR a₀ st0 hi n p st'→1≤p.size→Q true st'):wpS (model prog w) A E s (mergeAt' i) Q st:=by
 have e1:p₀[i]?=some p₀[i]:=getElem?_pos _ i (by omega)
 have e2:p₀[i+1]?=some p₀[i+1]:=getElem?_pos _ (i+1) hi2
 have eL:p₀.toList=p₀.toList.take i++p₀[i] :: p₀[i+1] :: p₀.toList.drop (i+2):=by
  conv=>lhs;rw [← List.take_append_drop i p₀.toList]
  rw [List.drop_eq_getElem_cons (by rw [Array.length_toList];omega),List.drop_eq_getElem_cons (by rw [Array.length_toList];omega),Array.getElem_toList,Array.getElem_toList]
 generalize p₀[i]=u at e1 eL
 generalize p₀[i+1]=v at e2 eL
 obtain ⟨sa,na,pw⟩:=u
 obtain ⟨sb,nb,pw2⟩:=v
 have hr:=hB.runs
 rw [eL] at hr
 obtain ⟨m,r1,a1,a2,a3,b1,b2,b3,r2⟩:=dZ.mp hr
 dsimp only at a1 a2 a3 b1 b2 b3 r2
 have hl:=oK r2
 subst a1
 refine tu h0 hB.sb e1 e2 b1 a2 b2 (by omega) a3 (by rw [b1];exact b3) fun st' hB' hM=>?_
 refine h _ st' ⟨hB',?_,fun j hj=>(hM.same j (.inr (by omega))).trans (hB.from_ j hj),?_⟩ ?_
 ·rw [kL hi2]
  refine dZ.mpr ⟨sa,fC (fun j _ h2=>hM.same j (.inl h2)) r1,rfl,by dsimp only;omega,hM.seg,?_⟩
  refine fC (fun j h1 _=>hM.same j (.inr h1)) ?_
  rw [← Nat.add_assoc]
  exact r2
 ·have:=congrArg List.length (kL (v:=(sa,na+nb,pw)) hi2)
  rw [List.length_append,List.length_cons,List.length_take,List.length_drop,Array.length_toList,Array.length_toList] at this
  have:=hB.few
  omega
 ·have:=congrArg List.length (kL (v:=(sa,na+nb,pw)) hi2)
  rw [List.length_append,List.length_cons,List.length_take,List.length_drop,Array.length_toList,Array.length_toList] at this
  omega
theorem Cf {st0:SortSt} {hi size pw:Nat} {Q:Option Unit×Unit→SortSt→Prop} (h0:IntKeys a₀) (hh:hi≤a₀.size) {p:Array Pd} (hB:SR a₀ st0 hi p.size p st) (hp:1≤p.size)
  (h:∀ p' st',SR a₀ st0 hi p.size p' st'→1≤p'.size→Q (none,()) st'):wpS (model prog w) A E s (vb size pw) Q st:=by
 unfold vb
 refine wpS_forRange (I:=fun _ c st'=>c=(none,())∧∃ p',SR a₀ st0 hi p.size p' st'∧1≤p'.size) ?step ?fin ⟨rfl,p,hB,hp⟩
 case fin=>
  rintro c st' ⟨rfl,p',h1,h2⟩
  exact h p' st' h1 h2
 case step=>
  rintro x c st' _ hx ⟨rfl,p',h1,h2⟩
  refine wpS_bind (wpS_get ?_)
  rw [h1.sb.pend]
  by_cases q:p'.size > 1
  ·rw [if_pos q,getElem?_pos p' (p'.size - 2) (by omega)]
   generalize p'[p'.size - 2]=u
   obtain ⟨u1,u2,older⟩:=u
   dsimp only
   by_cases q2:older≤pw
   ·rw [if_pos q2]
    exact wpS_pure (h p' st' h1 h2)
   ·rw [if_neg q2]
    obtain ⟨m,hm⟩:∃ m,p.size=m+1:=⟨p.size - 1,by omega⟩
    refine wpS_bind (mO h0 (n:=m) (by rw [← hm];exact h1) hh (by omega) fun p2 st2 g1 g2=>?_)
    rw [if_neg (by decide)]
    exact wpS_pure ⟨rfl,p2,⟨g1.sb,g1.runs,g1.from_,by have:=g1.few;omega⟩,g2⟩
  ·rw [if_neg q]
   exact wpS_pure (h p' st' h1 h2)
theorem wB {st0:SortSt} {lo n size:Nat} {Q:ForInStep (Option Unit×Nat)→SortSt→Prop} (h0:IntKeys a₀) (hh:lo+n≤a₀.size) (hn:0 < n) {p:Array Pd} (hB:SR a₀ st lo p.size p st) (hs:ck (arrOf st) lo n) (hp:p.size≤lo)
  (h:∀ p' st',SB a₀ p' st'→cY (arrOf st') 0 p'.toList (lo+n)→p'.size≤lo+n→Q (.yield (none,lo+n)) st'):wpS (model prog w) A E s (nS size lo n) Q st:=by
 have push:∀ (p:Array Pd) (st1:SortSt),SB a₀ p st1→cY (arrOf st1) 0 p.toList lo→ck (arrOf st1) lo n→p.size≤lo→wpS (model prog w) A E s (nO lo n) Q st1:=fun p st1 b r g hl=>by
  unfold nO
  refine wpS_bind (wpS_modify (wpS_pure (h (p.push (lo,n,0)) _ ⟨b.perm,b.kind,b.failed,?_⟩ ?_ ?_)))
  ·show (pendingOf st1).push (lo,n,0)=_
   rw [b.pend]
  ·rw [Array.toList_push]
   exact dZ.mpr ⟨lo,r,rfl,hn,g,rfl⟩
  ·rw [Array.size_push];omega
 unfold nS
 refine wpS_bind (wpS_get ?_)
 rw [hB.sb.pend]
 cases hb:p.back? with
 | none=>exact push p st hB.sb hB.runs hs hp
 | some q=>
  obtain ⟨s1,n1,x⟩:=q
  dsimp only
  have hpz:1≤p.size:=by
   rcases Nat.eq_zero_or_pos p.size with z | z
   ·rw [Array.eq_empty_of_size_eq_zero z] at hb
    cases hb
   ·exact z
  refine wpS_bind (Cf h0 (by omega) hB hpz fun p' st' g1 g2=>?_)
  refine wpS_bind (wpS_modify ?_)
  have f1:=g1.few
  have last:p'.toList=p'.toList.dropLast++[p'[p'.size - 1]]:=by
   have hne:p'.toList≠[]:=fun z=>by have:=congrArg List.length z;rw [Array.length_toList,List.length_nil] at this;omega
   conv=>lhs;rw [← List.dropLast_concat_getLast hne]
   rw [List.getLast_eq_getElem,Array.getElem_toList]
   simp
  have hr:=g1.runs
  rw [last] at hr
  obtain ⟨m,r1,r2,r3,r4,r5⟩:=dZ.mp hr
  generalize power' size (2 * s1+n1) (2 * s1+n1+n1+n) size=pw
  refine push (p'.modify (p'.size - 1) fun x=>(x.1,x.2.1,pw)) _ ⟨g1.sb.perm,g1.sb.kind,g1.sb.failed,?_⟩ ?_ ?_ ?_
  ·rw [← g1.sb.pend]
  ·have e:(p'.modify (p'.size - 1) fun x=>(x.1,x.2.1,pw)).toList=p'.toList.dropLast++[(p'[p'.size - 1].1,p'[p'.size - 1].2.1,pw)]:=by
    have hl:p'.toList.dropLast.length=p'.size - 1:=by rw [List.length_dropLast,Array.length_toList]
    apply List.ext_getElem?
    intro j
    rw [Array.getElem?_toList,Array.getElem?_modify]
    by_cases q:p'.size - 1=j
    ·rw [if_pos q,List.getElem?_append_right (by omega),hl,← q,Nat.sub_self,getElem?_pos p' (p'.size - 1) (by omega)]
     rfl
    ·rw [if_neg q]
     by_cases q2:j < p'.size - 1
     ·rw [List.getElem?_append_left (by omega),List.getElem?_dropLast,Array.length_toList,if_pos q2,Array.getElem?_toList]
     ·rw [List.getElem?_append_right (by omega),hl,List.getElem?_eq_none (by simp;omega),Array.getElem?_eq_none (by omega)]
   rw [e]
   exact dZ.mpr ⟨m,r1,r2,r3,r4,r5⟩
  ·intro i j hij hj
   show K (arrOf st') (lo+i)≤K (arrOf st') (lo+j)
   rw [g1.from_ _ (by omega),g1.from_ _ (by omega)]
   exact hs i j hij hj
  ·rw [Array.size_modify];omega
def SJ (a₀:Array Keyed) (lo:Nat) (st:SortSt):Prop:=∃ p,SB a₀ p st∧cY (arrOf st) 0 p.toList lo∧p.size≤lo
theorem uT {lo mr:Nat} {Q:ForInStep (Option Unit×Nat)→SortSt→Prop} (h0:IntKeys a₀) (hm:0 < mr) (hl:lo < a₀.size) (hJ:SJ a₀ lo st)
  (h:∀ n st',0 < n→lo+n≤a₀.size→SJ a₀ (lo+n) st'→Q (.yield (none,lo+n)) st'):wpS (model prog w) A E s (kH a₀.size mr lo) Q st:=by
 obtain ⟨p,hB,hR,hp⟩:=hJ
 unfold kH
 rw [if_neg (by omega)]
 refine wpS_bind (v8 h0 (by omega) (by omega) hB fun m st1 hB1 m1 m2 hs1 hl1=>?_)
 have r1:cY (arrOf st1) 0 p.toList lo:=fC (fun j _ h2=>hl1 j h2) hR
 dsimp only
 by_cases q:m < mr
 ·rw [if_pos q]
  refine wpS_bind (wpS_lift (wpAny_rule ⟨rfl,?_⟩))
  refine wpS_bind (sR h0 (by omega) (by omega) hB1 hs1 fun st2 hB2 hs2 hl2=>?_)
  rw [if_neg (by decide)]
  exact wB (st0:=st2) h0 (by omega) (by omega) ⟨hB2,fC (fun j _ h2=>hl2 j h2) r1,fun _ _=>rfl,Nat.le_refl _⟩ hs2 hp fun p' st' b r f=>h _ st' (by omega) (by omega) ⟨p',b,r,f⟩
 ·rw [if_neg q]
  exact wB (st0:=st1) h0 (by omega) (by omega) ⟨hB1,r1,fun _ _=>rfl,Nat.le_refl _⟩ hs1 hp fun p' st' b r f=>h _ st' (by omega) (by omega) ⟨p',b,r,f⟩
theorem mR:∀ (f n r:Nat),2≤n→0 < minRun' f n r
 | 0,n,r,h=>by
  show 0 < n+r
  omega
 | f+1,n,r,h=>by
  rw [minRun'_succ]
  split
  ·omega
  ·exact mR f _ _ (by omega)
theorem xO {Q:Unit→SortSt→Prop} (h0:IntKeys a₀) (hB:SB a₀ #[] st) (h2:2≤a₀.size)
  (h:∀ st',(arrOf st').Perm a₀→failedOf st'=none→SortedTo (arrOf st') a₀.size→Q () st'):wpS (model prog w) A E s sortRuns' Q st:=by
 rw [Am]
 refine wpS_bind (wpS_get ?_)
 rw [hB.size]
 refine wpS_bind (wpS_mono (wpS_forRange (I:=fun x (c:Option Unit×Nat) st'=>∃ lo,c=(none,lo)∧lo≤a₀.size∧(x≤lo∨lo=a₀.size)∧SJ a₀ lo st')
  (Q:=fun (c:Option Unit×Nat) st'=>c=(none,a₀.size)∧SJ a₀ a₀.size st') ?step ?fin ⟨0,rfl,by omega,.inl (Nat.le_refl _),#[],hB,rfl,Nat.le_refl _⟩) ?post)
 case fin=>
  rintro c st' ⟨lo,rfl,h1,h3,hJ⟩
  have:lo=a₀.size:=by omega
  subst this
  exact ⟨rfl,hJ⟩
 case step=>
  rintro x c st' _ hx ⟨lo,rfl,h1,h3,hJ⟩
  dsimp only
  by_cases q:lo=a₀.size
  ·subst q
   unfold kH
   rw [if_pos (Nat.le_refl _)]
   exact wpS_pure ⟨rfl,hJ⟩
  ·exact uT h0 (mR _ _ _ h2) (by omega) hJ fun n st2 n0 n1 hJ2=>⟨lo+n,rfl,n1,.inl (by omega),hJ2⟩
 case post=>
  rintro c st' ⟨rfl,p,hB1,hR,hp⟩
  dsimp only
  unfold Bn
  refine wpS_bind (wpS_mono (wpS_forRange (I:=fun x (c:Option Unit×Unit) st2=>c=(none,())∧∃ p,SR a₀ st' a₀.size (max 1 (a₀.size - x)) p st2)
   (Q:=fun (c:Option Unit×Unit) st2=>c=(none,())∧∃ p,SR a₀ st' a₀.size 1 p st2) ?step2 ?fin2 ⟨rfl,p,hB1,hR,fun _ _=>rfl,by omega⟩) ?post2)
  case fin2=>
   rintro c st2 ⟨rfl,p,g⟩
   exact ⟨rfl,p,g.sb,g.runs,g.from_,by have:=g.few;omega⟩
  case step2=>
   rintro x c st2 _ hx ⟨rfl,p,g⟩
   refine wpS_bind (wpS_get ?_)
   rw [g.sb.pend]
   by_cases q:p.size≤1
   ·rw [if_pos q]
    exact wpS_pure ⟨rfl,p,g.sb,g.runs,g.from_,q⟩
   ·rw [if_neg q]
    have f1:=g.few
    have key:∀ i,i+1 < p.size→wpS (model prog w) A E s (mergeAt' i) (fun ok st3=>ok=true∧∃ p,SR a₀ st' a₀.size (max 1 (a₀.size - (x+1))) p st3) st2:=fun i hi=>by
     obtain ⟨m,hm⟩:∃ m,max 1 (a₀.size - x)=m+1:=⟨max 1 (a₀.size - x) - 1,by omega⟩
     refine mO h0 (n:=m) (by rw [← hm];exact g) (Nat.le_refl _) hi fun p2 st3 g1 g2=>⟨rfl,p2,g1.sb,g1.runs,g1.from_,?_⟩
     have:=g1.few
     omega
    have lt:∀ (c:Prop) [Decidable c],(if c then p.size - 2 - 1 else p.size - 2)+1 < p.size:=fun c _=>by split<;>omega
    refine wpS_bind (wpS_mono (key _ (lt _)) ?_)
    rintro ok st3 ⟨rfl,p2,g2⟩
    rw [if_neg (by decide)]
    exact wpS_pure ⟨rfl,p2,g2⟩
  case post2=>
   rintro c st2 ⟨rfl,p,g⟩
   refine wpS_pure (h st2 g.sb.perm g.sb.failed ?_)
   have f1:=g.few
   have hr:=g.runs
   cases e:p.toList with
   | nil=>
    rw [e] at hr
    have:0=a₀.size:=hr
    omega
   | cons q r=>
    have hl:r=[]:=by
     have:=congrArg List.length e
     rw [Array.length_toList,List.length_cons] at this
     exact List.length_eq_zero_iff.mp (by omega)
    subst hl
    rw [e] at hr
    obtain ⟨_,_,r3,r4⟩:=hr
    have r4:0+q.2.1=a₀.size:=r4
    intro i j hij hj
    have:=r3 i j hij (by omega)
    rwa [Nat.zero_add,Nat.zero_add] at this
theorem mW {a:Addr} {vs:List Value} {ns:List Int} {n:Nat} {P:Fin→Shared→Prop} (ho:s.heap.get? a=some (seqObj "list" vs.toArray n))
  (hI:IntsAre vs ns) (h64:vs.length≤100000)
  (h:∀ (out:Array Value) (ns':List Int),IntsAre out.toList ns'→ns'.Perm ns→ns'.Pairwise (·≤·)→P (.done (.ret .none)) { s with heap:=sortedHeap s.heap a vs out }) :
  wpAny (model prog w) A (Builtin.«list.sort» ⟨[.ref a],[]⟩) P E s:=by
 rw [list_sort_plain]
 have ha:a < s.heap.objs.size:=Heap.lt_size ho
 have hsl:vs.length≤sizeLine:=by rw [sizeLine_eq];omega
 refine wpAny_bind (listItems_at ho rfl ?_)
 refine wpAny_bind (listUpdate_at ho rfl ?_ (by simpa using hsl) (by simp))
 obtain ⟨e1,ho1⟩:∃ e1,(s.heap.update a (Obj.mapSeq fun _=>#[])).get? a=some (seqObj "list" #[] e1):=⟨_,get?_update_seq ho (fun _=>#[])⟩
 refine wpAny_bind (seqEpoch_at ho1 rfl ?_)
 refine wpAny_bind (wpAny_newTuple ?_ (by simpa using hsl))
 refine wpAny_bind (wpAny_newList ?_)
 refine wpAny_holding ?_
 have ho6:(((s.heap.update a (Obj.mapSeq fun _=>#[])).push (seqObj "tuple" vs.toArray 0)).push (seqObj "list" #[] 0)).get? a=some (seqObj "list" #[] e1):=by
  rw [Heap.get?_push_ne _ _ _ (by rw [size_push',Heap.size_update];exact Nat.ne_of_lt (Nat.lt_succ_of_lt ha)),Heap.get?_push_ne _ _ _ (by rw [Heap.size_update];exact Nat.ne_of_lt ha)]
  exact ho1
 show wpAny (model prog w) A _ P E { s with heap:=((s.heap.update a (Obj.mapSeq fun _=>#[])).push (seqObj "tuple" vs.toArray 0)).push (seqObj "list" #[] 0) }
 dsimp only
 have hsz:vs.toArray.size=vs.length:=by simp
 have fin:∀ st':SortSt,(arrOf st').Perm (pairsOf vs)→SortedTo (arrOf st') (pairsOf vs).size →
   P (.done (.ret .none)) { s with heap:=sortedHeap s.heap a vs ((arrOf st').map (·.2)) }:=by
  intro st' hp hs
  obtain ⟨ns',h1,h2,h3⟩:=sorted_out hI hp hs
  exact h _ ns' h1 h2 h3
 by_cases h2:vs.toArray.size < 2
 ·rw [if_pos h2,if_pos h2]
  refine wpAny_bind (wpAny_pure ?_)
  rw [StateT.run_pure]
  refine wpAny_bind (wpAny_pure ?_)
  dsimp only
  refine wpAny_bind (seqEpoch_at ho6 rfl ?_)
  refine wpAny_bind (listUpdate_at ho6 rfl ?_ (hsz2:=by rw [Array.size_map];show (pairsOf vs).size≤_;rw [pairsOf_size,sizeLine_eq];omega))
  simp only [bne_self_eq_false,Bool.false_eq_true,if_false]
  refine wpAny_pure (fin (SortSt.mk' general' (vs.toArray.zip vs.toArray) #[] 7 none) (Array.Perm.refl _) ?_)
  intro i j hij hj
  have:i=j:=by rw [pairsOf_size] at hj;omega
  subst this;exact Int.le_refl _
 ·rw [if_neg h2,if_neg h2]
  obtain ⟨v₁,v₂,rest,rfl⟩:∃ v₁ v₂ rest,vs=v₁ :: v₂ :: rest:=by
   match vs,hsz,h2 with
   | [],_,h2=>simp at h2
   | [_],_,h2=>simp at h2
   | v₁ :: v₂ :: rest,_,_=>exact ⟨v₁,v₂,rest,rfl⟩
  rw [keyKind_ints hI]
  refine wpAny_bind (wpAny_pure ?_)
  refine wpAny_bind (wpAny_mono (xO (a₀:=pairsOf (v₁ :: v₂ :: rest)) (st:=SortSt.mk' oneType' ((v₁ :: v₂ :: rest).toArray.zip (v₁ :: v₂ :: rest).toArray) #[] 7 none)
   (Q:=fun _ st'=>(arrOf st').Perm (pairsOf (v₁ :: v₂ :: rest))∧failedOf st'=none∧SortedTo (arrOf st') (pairsOf (v₁ :: v₂ :: rest)).size)
   hI.intKeys ⟨Array.Perm.refl _,rfl,rfl,rfl⟩ (by rw [pairsOf_size];simp) fun st' a1 a2 a3=>⟨a1,a2,a3⟩) ?_ fun _ _ e=>e)
  rintro ⟨⟨⟩,st'⟩ s' ⟨rfl,hp,hf,hs⟩
  dsimp only
  refine wpAny_bind (seqEpoch_at ho6 rfl ?_)
  refine wpAny_bind (listUpdate_at ho6 rfl ?_ (hsz2:=by refine Nat.le_trans (Nat.le_of_eq ((Array.size_map ..).trans (hp.size_eq.trans (pairsOf_size _)))) ?_;rw [sizeLine_eq];omega))
  rw [hf]
  simp only [bne_self_eq_false,Bool.false_eq_true,if_false]
  exact wpAny_pure (fin st' hp hs)
end
theorem t6:kC 301:=fun ho hI h64 h=>mW ho hI (by omega) h
theorem F1 {x:Vl} {S:Sto} {ns:List Int} (e:bN x S=some (ns.map D.int)) (h:ns.length≤300):rL 301 x S=.ok (.d (.lst ((bI ns).map D.int))) S:=by
 have hl:=oY ns
 unfold rL
 rw [e,Option.bind_some,show intsOf (ns.map D.int)=some ns by rw [l_ (fun x=>x) ns];simp]
 dsimp only
 rw [if_pos ⟨h,by omega⟩]
theorem kQ {n d k:Nat}:HT.sIx n d (some (k:Int))=min k n:=by
 unfold HT.sIx
 first | (dsimp only;split<;>omega) | (simp;omega) | omega
theorem qA {n d:Nat}:HT.sIx n d none=d:=rfl
theorem FA {xs:List D} {k:Nat}:fT xs none (some (k:Int))=xs.take k:=by
 unfold fT
 rw [qA,kQ,List.drop_zero,Nat.sub_zero]
 by_cases h:k≤xs.length
 ·rw [Nat.min_eq_left h]
 ·rw [Nat.min_eq_right (by omega),List.take_of_length_le (Nat.le_refl _),List.take_of_length_le (by omega)]
theorem EX {xs:List D} {a b:Nat}:fT xs (some (a:Int)) (some (b:Int))=(xs.drop a).take (b - a):=by
 unfold fT
 rw [kQ,kQ]
 by_cases h:a≤xs.length
 ·rw [Nat.min_eq_left h]
  by_cases hb:b≤xs.length
  ·rw [Nat.min_eq_left hb]
  ·rw [Nat.min_eq_right (by omega),List.take_of_length_le (by simp),List.take_of_length_le (by simp;omega)]
 ·rw [Nat.min_eq_right (show xs.length≤a by omega),List.drop_of_length_le (Nat.le_refl _),List.drop_of_length_le (by omega)]
  simp
theorem mQ (ns:List Int):D.b_ (ns.map D.int)=0:=by
 induction ns with
 | nil=>rfl
 | cons n ns ih=>simp [D.b_,D.depth,ih]
theorem oP:∀ (xs ys:List Int),D.bS (xs.map D.int) (ys.map D.int)=decide (xs=ys)
 | [],[]=>by simp [D.bS]
 | [],y :: ys=>by simp [D.bS]
 | x :: xs,[]=>by simp [D.bS]
 | x :: xs,y :: ys=>by
  simp only [List.map_cons,D.bS,D.eqv,oP xs ys]
  by_cases h:x=y
  ·by_cases h2:xs=ys<;>simp [h,h2]
  ·simp [h]
theorem l4 {xs:List D} {i:Nat} {z:D} (h:xs[i]?=some z):atI xs (i:Int)=some z:=by
 have hi:=(List.getElem?_eq_some_iff.mp h).1
 unfold atI
 rw [ve (by omega) (by omega)]
 show xs[((i:Nat):Int).toNat]?=_
 rw [Int.toNat_natCast];exact h
def lf2 (f:List D→D→Sto→R Vl) (xs:List D) (r:R Vl):R Vl:=r.bind fun y S2=>match y with
 | .d z=>f xs z S2
 | _=>.bad
def lf1 (f:List D→D→Sto→R Vl) (r:R Vl) (e:XE) (τ:Nv):R Vl:=r.bind fun x S1=>match x with
 | .d (.lst xs)=>lf2 f xs (e τ S1)
 | _=>.bad
theorem Gy {f:List D→D→Sto→R Vl} {o e:XE} {τ:Nv} {S:Sto}:xLf f o e τ S=lf1 f (o τ S) e τ:=ae rfl
theorem GP {f:List D→D→Sto→R Vl} {xs:List D} {e:XE} {τ:Nv} {S:Sto}:lf1 f (.ok (.d (.lst xs)) S) e τ=lf2 f xs (e τ S):=ae rfl
theorem GA {f:List D→D→Sto→R Vl} {xs:List D} {z:D} {S:Sto}:lf2 f xs (.ok (.d z) S)=f xs z S:=ae rfl
theorem G5 {ns:List Int} {k:Int} {S:Sto}:Ep (ns.map D.int) (.int k) S=.ok (.d (.int (ns.count k:Nat))) S:=by
 unfold Ep
 rw [show intsOf (ns.map D.int)=some ns by rw [l_ (fun x=>x) ns];simp]
def zp1 (r:R (List Vl)):R Its:=r.bind v_
theorem Ha {as:XA} {τ:Nv} {S:Sto}:iZp as τ S=zp1 (as τ S):=ae rfl
theorem HA {xs ys:List D} {S:Sto}:zp1 (.ok [.d (.tup xs),.d (.tup ys)] S)=.ok ⟨c_ xs ys,none⟩ S:=ae rfl
theorem HQ {xs ys:List D} {S:Sto}:zp1 (.ok [.d (.lst xs),.d (.tup ys)] S)=.ok ⟨c_ xs ys,none⟩ S:=ae rfl
end L2
set_option maxHeartbeats 4000000
namespace My
open PySem L2
noncomputable def pC:XS:=(cC (AH (xSl qB (aa 0) (mJ (xC (.int 12))) (mJ (xC (.int 63))))) (gTu 2 (gCo (gNm 2) (gCo (gNm 3) gN0))) (aJ (xOp bA (xOp oIx (aa 1) (xOp oMod (aa 2) (xC (.int 12)))) (aa 3)) (gSb (aa 1) (xOp oMod (aa 2) (xC (.int 12))) d9)))
noncomputable def oX:XS:=(ax (aJ (xN kJ (ab (xSl qB (aa 0) oJ (mJ (xC (.int 12)))) ak)) (gNm 1))
 (ax pC
 (aN (xN mkM (ab (xFz (aa 1)) (ab (xC (.int 0)) (ab (xC (.int 0)) ak)))))))
noncomputable def iZ:XF:=aQ 1 4 oX
noncomputable def lG:XS:=(ax (xIf (aU (xOp oGe (aa 0) (xOp uM (xC (.int 10)) (xC (.int 18))))) (aN (aa 0)) aT)
 (ax (aJ (xOp oMod (xOp bA (xOp bA (xOp d8 (xOp oMod (aa 0) (xC (.int 1000000007))) (xC (.int 69069))) (xOp d8 (aa 1) (xC (.int 40503)))) (xC (.int 977))) (xC (.int 2147483629))) (gNm 2))
 (ax (aJ (xOp oMod (xOp bA (xOp bA (xOp d8 (aa 2) (aa 2)) (xOp d8 (aa 1) (xC (.int 7919)))) (xOp oMod (aa 0) (xC (.int 65537)))) (xC (.int 2147483587))) (gNm 3))
 (ax (aJ (xOp oMod (xOp bA (xOp bA (xOp d8 (aa 3) (aa 3)) (xOp d8 (aa 2) (xC (.int 31)))) (xC (.int 5))) (xC (.int 2147483563))) (gNm 4))
 (aN (xOp bA (xOp d8 (xOp bA (xOp d8 (aa 2) (xC (.int 2147483659))) (aa 3)) (xC (.int 2147483693))) (aa 4)))))))
noncomputable def eE:XF:=aQ 2 5 lG
noncomputable def pG:XS:=(ax (xIf (aU (xOp oLt (xOp oIx (aa 0) (xC (.int 2))) (aa 1))) (ax (aJ (xOp oIx (aa 0) (xC (.int 1))) (gNm 2))
 (ax (aJ (xC (.int 0)) (gNm 3))
 (ax (xIf (aU (xOp oLt (aa 2) (xN bG (ab (xOp oIx (aa 0) (xC (.int 0))) ak)))) (aJ (xOp oIx (xOp oIx (aa 0) (xC (.int 0))) (aa 2)) (gNm 3)) (xIf (aU (xOp oGt (xN bG (ab (xOp oIx (aa 0) (xC (.int 0))) ak)) (xC (.int 0)))) (aJ (xOp oMod (xOp oIx (xOp oIx (aa 0) (xC (.int 0))) (xOp oMod (xOp bA (xOp d8 (aa 2) (xC (.int 5))) (xC (.int 3))) (xN bG (ab (xOp oIx (aa 0) (xC (.int 0))) ak)))) (xOp bA (xOp uM (xC (.int 10)) (xC (.int 17))) (aa 2))) (gNm 3)) aT))
 (ax (aJ (xOp bA (aa 2) (xC (.int 1))) (gSb (aa 0) (xC (.int 1)) d9))
 (aJ (az eE (ab (aa 3) (ab (aa 2) ak))) (gSb (aa 0) (xC (.int 2)) d9)))))) aT)
 (ax (aJ (xOp oMod (xOp oIx (aa 0) (xC (.int 2))) (aa 1)) (gNm 4))
 (ax (aJ (xOp oDiv (xOp oIx (aa 0) (xC (.int 2))) (aa 1)) (gSb (aa 0) (xC (.int 2)) d9))
 (aN (aa 4)))))
noncomputable def bp:XF:=aQ 2 5 pG
noncomputable def lN:XS:=(cC (jV (ab (xOp bA (xC (.int 1)) (az bp (ab (aa 0) (ab (aa 1) ak)))) ak)) (gNm 4) (ax (aJ (xOp bA (aa 2) (az bp (ab (aa 0) (ab (xC (.int 5)) ak)))) (gNm 5))
 (ax (xIf (aU (xOp oEq (az bp (ab (aa 0) (ab (xC (.int 6)) ak))) (xC (.int 0)))) (aJ (xOp j7 (az bp (ab (aa 0) (ab (xC (.int 19)) ak))) (xC (.int 9))) (gNm 5)) aT)
 (xIf (aU (xOp fM (aa 5) (aa 3))) (eO (xLm l5 (aa 3) (aa 5))) aT))))
noncomputable def lJ:XS:=(ax (aJ (xN mkM ak) (gNm 3))
 (ax lN
 (aN (xN dn (ab (xN lB (ab (aa 3) ak)) ak)))))
noncomputable def eW:XF:=aQ 3 6 lJ
noncomputable def mK:XE:=(xLC (jV (ab (xOp bA (xC (.int 1)) (az bp (ab (aa 0) (ab (aa 1) ak)))) ak)) 1 (gNm 0) (fun _ S=>.ok true S) (az eW (ab (aa 1) (ab (aa 3) (ab (aa 4) ak)))))
noncomputable def nk:XS:=(ax (aJ (xOp j7 (az bp (ab (aa 0) (ab (xC (.int 15)) ak))) (xC (.int 9))) (gNm 3))
 (aN (xN dn (ab mK ak))))
noncomputable def il:XF:=aQ 3 4 nk
noncomputable def pd:XS:=(ax (aJ (xC (.int 0)) (gSb (aa 0) (xC (.int 2)) d9))
 (aN (aa 0)))
noncomputable def jg:XF:=aQ 1 1 pd
noncomputable def eP:XE:=(xLC (jV (ab (aa 3) ak)) 1 (gNm 0) (fun _ S=>.ok true S) (xLm qv (aa 3) (az bp (ab (aa 1) (ab (xN bG (ab (aa 3) ak)) ak)))))
noncomputable def hU:XS:=(ax (aJ (xN (lrg zo) (ab (xN bG (ab (aa 1) ak)) ak)) (gNm 2))
 (ax (aJ (xOp bA (xC (.int 1)) (az bp (ab (aa 0) (ab (xN bG (ab (aa 2) ak)) ak)))) (gNm 3))
 (ax (xIf (aU (xOp oGt (az bp (ab (aa 0) (ab (xC (.int 3)) ak))) (xC (.int 0)))) (aJ (xN bG (ab (aa 2) ak)) (gNm 3)) aT)
 (aN (xN dn (ab eP ak))))))
noncomputable def dB:XF:=aQ 2 4 hU
noncomputable def jY:XE:=(xLC (bZ (aa 3)) 1 (gNm 0) (fun _ S=>.ok true S) (xOp j7 (az bp (ab (aa 1) (ab (xC (.int 7)) ak))) (xC (.int 3))))
noncomputable def kc:XS:=(cC (iZp (ab (aa 3) (ab (aa 4) ak))) (gTu 2 (gCo (gNm 6) (gCo (gNm 7) gN0))) (aJ (xOp bA (aa 5) (xOp d8 (aa 7) (xOp oIx (xOp oIx (aa 1) (aa 6)) (az bp (ab (aa 0) (ab (xN bG (ab (xOp oIx (aa 1) (aa 6)) ak)) ak)))))) (gNm 5)))
noncomputable def kd:XS:=(ax (aJ (az dB (ab (aa 0) (ab (aa 1) ak))) (gNm 3))
 (ax (xIf (aU (xOp oEq (aa 2) (xC (.int 0)))) bE aT)
 (ax (xIf (aU (xOp oEq (aa 2) (xC (.int 1)))) bE aT)
 (ax (xIf (aU (xOp oEq (aa 2) (xC (.int 2)))) (ax (aJ (xN dn (ab jY ak)) (gNm 4))
 (ax (aJ (xC (.int 0)) (gNm 5))
 (ax kc
 (ax (aJ (xN vN (ab (xUn jv (xC (.int 99))) (ab (xN sG (ab (xC (.int 99)) (ab (xOp bA (aa 5) (xOp oIx (xN mkL (ab (xC (.int 0)) (ab (xC (.int 0)) (ab (xC (.int 1)) (ab (xUn jv (xC (.int 4))) (ab (xC (.int 9)) ak)))))) (az bp (ab (aa 0) (ab (xC (.int 5)) ak))))) ak))) ak))) (gNm 8))
 (ax (aJ (xN sG (ab (xC (.int 99)) (ab (xOp bA (aa 8) (xOp oIx (xN mkL (ab (xC (.int 0)) (ab (xC (.int 0)) (ab (xC (.int 1)) (ab (xC (.int 2)) (ab (xC (.int 7)) ak)))))) (az bp (ab (aa 0) (ab (xC (.int 5)) ak))))) ak))) (gNm 9))
 (ax (xIf (aU (xOp oEq (az bp (ab (aa 0) (ab (xC (.int 6)) ak))) (xC (.int 0)))) (ax (aJ (xOp j7 (az bp (ab (aa 0) (ab (xC (.int 199)) ak))) (xC (.int 99))) (gNm 8))
 (aJ (xOp bA (aa 8) (az bp (ab (aa 0) (ab (xOp j7 (xC (.int 100)) (aa 8)) ak)))) (gNm 9))) aT)
 (aN (xN mkT (ab (xC (.str "sum")) (ab (aa 3) (ab (aa 4) (ab (aa 8) (ab (aa 9) ak))))))))))))) aT)
 bE))))
noncomputable def dS:XF:=aQ 3 11 kd
noncomputable def lH:XE:=(xLC (bZ (aa 1)) 1 (gNm 0) (fun _ S=>.ok true S) (az eW (ab (aa 1) (ab (xC (.int 3)) (ab (aa 3) ak)))))
noncomputable def lP:XS:=(ax (aJ (xOp j7 (az bp (ab (aa 0) (ab (xC (.int 15)) ak))) (xC (.int 9))) (gNm 2))
 (aN (xN dn (ab lH ak))))
noncomputable def gf:XF:=aQ 2 3 lP
noncomputable def lQ:XS:=(aN (bY (xUn (dI "int") (aa 0)) (qi (xUn (dI "bool") (aa 0)))))
noncomputable def gc:XF:=aQ 1 1 lQ
noncomputable def jW:XS:=(aN (bY (az gc (ab (aa 0) ak)) (dJ oLe oLe (aa 1) (aa 0) (aa 2))))
noncomputable def c6:XF:=aQ 3 3 jW
noncomputable def jE:XE:=(xLC (bZ (aa 0)) 1 (gNm 0) (fun _ S=>.ok true S) (az c6 (ab (aa 0) (ab (aa 2) (ab (aa 3) ak)))))
noncomputable def jB:XS:=(aN (bY (xUn (dI "tuple") (aa 0)) (xN eG (ab jE ak))))
noncomputable def cI:XF:=aQ 3 3 jB
noncomputable def fO:XE:=(xLC (zU (ab (xC (.int 1)) (ab (xN bG (ab (aa 0) ak)) ak))) 1 (gNm 0) (fun _ S=>.ok true S) (xOp oLt (xOp oIx (aa 1) (xOp j7 (aa 0) (xC (.int 1)))) (xOp oIx (aa 1) (aa 0))))
noncomputable def jz:XS:=(aN (xN eG (ab fO ak)))
noncomputable def eB:XF:=aQ 1 1 jz
noncomputable def jy:XS:=(aN (bY (az cI (ab (aa 0) (ab (xUn jv (xC (.int 9))) (ab (xC (.int 9)) ak)))) (bY (dJ oLe oLe (xC (.int 1)) (xN bG (ab (aa 0) ak)) (xC (.int 4))) (az eB (ab (aa 0) ak)))))
noncomputable def eQ:XF:=aQ 1 1 jy
noncomputable def lI:XE:=(xLC (bZ (aa 0)) 1 (gNm 0) (fun _ S=>.ok true S) (az eQ (ab (aa 0) ak)))
noncomputable def lF:XS:=(ax (xIf (xOr (fm (eM (xUn (dI "tuple") (aa 0)))) (fm (aU (dJ oLe oLe (xC (.int 1)) (xN bG (ab (aa 0) ak)) (xC (.int 4)))))) (aN (xC (.bl false))) aT)
 (aN (xN eG (ab lI ak))))
noncomputable def f9:XF:=aQ 1 1 lF
noncomputable def jI:XS:=(xIf (fm (eM (az f9 (ab (aa 0) ak)))) bE aT)
noncomputable def eD:XF:=aQ 1 1 jI
noncomputable def jF:XS:=(aN (xOp oEq (xUn oLS (aa 0)) (xN bG (ab (aa 0) ak))))
noncomputable def eU:XF:=aQ 1 1 jF
noncomputable def kA:XS:=(aN (bY (az cI (ab (aa 0) (ab (xC (.int 0)) (ab (xC (.int 3)) ak)))) (bY (dJ oLe oLe (xC (.int 1)) (xN bG (ab (aa 0) ak)) (xC (.int 4))) (az eU (ab (aa 0) ak)))))
noncomputable def fu:XF:=aQ 1 1 kA
noncomputable def mz:XS:=(aN (bY (az c6 (ab (aa 0) (ab (aa 2) (ab (aa 3) ak)))) (bY (az c6 (ab (aa 1) (ab (aa 2) (ab (aa 3) ak)))) (xOp oLe (aa 0) (aa 1)))))
noncomputable def hV:XF:=aQ 4 4 mz
noncomputable def oR:XS:=(ax (xIf (xOr (aU (xOp oNe (xN bG (ab (aa 0) ak)) (xC (.int 5)))) (fm (eM (az cI (ab (xOp oIx (aa 0) (xC (.int 2))) (ab (xUn jv (xC (.int 3))) (ab (xC (.int 3)) ak))))))) (aN (xC (.bl false))) aT)
 (aN (bY (xOp oEq (xN bG (ab (xOp oIx (aa 0) (xC (.int 2))) ak)) (xN bG (ab (xOp oIx (aa 0) (xC (.int 1))) ak))) (az hV (ab (xOp oIx (aa 0) (xC (.int 3))) (ab (xOp oIx (aa 0) (xC (.int 4))) (ab (xUn jv (xC (.int 99))) (ab (xC (.int 99)) ak))))))))
noncomputable def iT:XF:=aQ 1 1 oR
noncomputable def fX:XS:=(ax (aJ (xOp oIx (aa 0) (xC (.int 0))) (gNm 1))
 (ax (xIf (aU (xOp oEq (aa 1) (xC (.str "unlike")))) bE aT)
 (ax (xIf (aU (xOp oEq (aa 1) (xC (.str "many")))) bE aT)
 (ax (xIf (aU (xOp oEq (aa 1) (xC (.str "sum")))) (aN (az iT (ab (aa 0) ak))) aT)
 bE))))
noncomputable def cP:XF:=aQ 1 2 fX
noncomputable def mj:XS:=(ax (xIf (xOr (fm (eM (xUn (dI "tuple") (aa 0)))) (aU (xOp oLt (xN bG (ab (aa 0) ak)) (xC (.int 2))))) (aN (xC (.bl false))) aT)
 (aN (bY (az fu (ab (xOp oIx (aa 0) (xC (.int 1))) ak)) (az cP (ab (aa 0) ak)))))
noncomputable def h8:XF:=aQ 1 1 mj
noncomputable def jC:XE:=(xLC (bZ (xOp oIx (aa 1) (xC (.int 1)))) 1 (gNm 0) (fun _ S=>.ok true S) (xOp oLt (aa 0) (xN bG (ab (aa 1) ak))))
noncomputable def jH:XS:=(aN (bY (az h8 (ab (aa 1) ak)) (xN eG (ab jC ak))))
noncomputable def eS:XF:=aQ 2 2 jH
noncomputable def kF:XS:=(xIf (fm (eM (az eS (ab (aa 0) (ab (aa 1) ak))))) bE aT)
noncomputable def fz:XF:=aQ 3 3 kF
noncomputable def uc:XS:=(ax (eO (az eD (ab (aa 0) ak)))
 (eO (az fz (ab (aa 0) (ab (aa 1) (ab (xC (.int 0)) ak))))))
noncomputable def nB:XF:=aQ 2 2 uc
noncomputable def jP:XS:=(ax (eO (az nB (ab (aa 0) (ab (aa 1) ak))))
 (xIf (aU (xOp oNe (xOp oIx (aa 1) (xC (.int 0))) (aa 2))) bE aT))
noncomputable def fq:XF:=aQ 3 3 jP
noncomputable def iG:XS:=(aN (xN mkL (ab (xOp bA (aa 2) (xOp d8 (aa 3) (xOp oIx (xOp oIx (aa 0) (xC (.int 2))) (aa 1)))) ak)))
noncomputable def cU:XF:=aQ 4 4 iG
noncomputable def i9:XS:=(cC (bZ (gJ [("sums_onward",cU)] 4 (ab (aa 1) (ab (aa 2) (ab (aa 6) (ab (aa 7) ak)))))) (gNm 8) (qf (aa 5) (aa 8) (xOp bA (xOp oDx (aa 3) (aa 6)) (xN mkT (ab (aa 7) ak)))))
noncomputable def iU:XS:=(cC (bZ (xOp oIx (aa 0) (xOp oIx (xOp oIx (aa 1) (xC (.int 1))) (aa 2)))) (gNm 7) i9)
noncomputable def mL:XS:=(cC (qR (aa 3)) (gNm 6) iU)
noncomputable def nv:XS:=(ax (aJ vj (gNm 5))
 (ax mL
 (aN (xFz (aa 5)))))
noncomputable def ij:XF:=aQ 5 9 nv
noncomputable def hZ:XS:=(aN (dJ oLe oLe (xOp oIx (aa 0) (xC (.int 3))) (aa 1) (xOp oIx (aa 0) (xC (.int 4)))))
noncomputable def cf:XF:=aQ 2 2 hZ
noncomputable def eJ:XE:=(xLC (zb (aa 0)) 2 (gTu 2 (gCo (gNm 0) (gCo (gNm 1) gN0))) (fun _ S=>.ok true S) (qm (aa 3) (aa 0) (xOp oIx (aa 1) (xC (.int 0)))))
noncomputable def ik:XS:=(aN (xN dn (ab eJ ak)))
noncomputable def dC:XF:=aQ 2 2 ik
noncomputable def fo:XS:=(cC (jV (ab (xN bG (ab (xOp oIx (aa 1) (xC (.int 1))) ak)) ak)) (gNm 6) (ax (aJ (az ij (ab (aa 0) (ab (aa 1) (ab (aa 6) (ab (aa 4) (ab (aa 2) ak)))))) (gNm 4))
 (eO (xLm l5 (aa 5) (xN dn (ab (xN (kG 301) (ab (aa 4) ak)) ak))))))
noncomputable def dP:XS:=(cC (qR (aa 4)) (gNm 7) (xIf (eM (gJ [("is_sum_asked",cf)] 3 (ab (aa 1) (ab (aa 7) ak)))) (aN (xN mkP (ab (xC (.str "can")) (ab (az dC (ab (aa 0) (ab (xFz (xN fDZ (ab (xOp oIx (aa 1) (xC (.int 1))) (ab (xOp oDx (aa 4) (aa 7)) ak)))) ak))) ak)))) aT))
noncomputable def lE:XS:=(ax (aJ (xFz (qg [((xC (.int 0)),(xN mkT ak))])) (gNm 4))
 (ax (aJ (xN mkM (ab (xN mkT (ab (xC (.int 0)) ak)) ak)) (gNm 5))
 (ax fo
 (ax dP
 (aN (xN mkP (ab (xC (.str "no")) (ab (aa 5) ak))))))))
noncomputable def cS:XF:=aQ 4 8 lE
noncomputable def mI:XS:=(ax (eO (az fq (ab (aa 0) (ab (aa 1) (ab (xC (.str "sum")) ak)))))
 (aN (az cS (ab (aa 0) (ab (aa 1) (ab (xFn "sums_onward") (ab (xFn "is_sum_asked") ak)))))))
noncomputable def eo:XF:=aQ 2 2 mI
noncomputable def jJ:XE:=(xLC (bZ (aa 2)) 1 (gNm 0) (fun _ S=>.ok true S) (xOp bA (aa 5) (xN mkT (ab (aa 0) ak))))
noncomputable def fS:XS:=(cC (bZ (aa 1)) (gNm 4) (eO (xLm nz (aa 3) jJ)))
noncomputable def jL:XS:=(cC (bZ (aa 0)) (gNm 2) (ax (aJ (xN mkM ak) (gNm 3))
 (ax fS
 (aJ (xFz (aa 3)) (gNm 1)))))
noncomputable def jG:XS:=(ax (aJ (xN mkL (ab (xN mkT ak) ak)) (gNm 1))
 (ax jL
 (aN (aa 1))))
noncomputable def eT:XF:=aQ 1 5 jG
noncomputable def jS:XE:=(xLC (bZ (xOp oIx (aa 0) (xC (.int 1)))) 1 (gNm 0) (fun _ S=>.ok true S) (xOp oIx (aa 2) (aa 0)))
noncomputable def gU:XS:=(cC (iZp (ab (aa 2) (ab (xOp oIx (aa 0) (xC (.int 2))) ak))) (gTu 2 (gCo (gNm 3) (gCo (gNm 7) gN0))) (aJ (xOp bA (aa 6) (xOp d8 (aa 3) (aa 7))) (gNm 6)))
noncomputable def jR:XS:=(ax (aJ jS (gNm 2))
 (ax (xIf (aU (xOp oEq (xOp oIx (aa 0) (xC (.int 0))) (xC (.str "unlike")))) bE aT)
 (ax (xIf (aU (xOp oEq (xOp oIx (aa 0) (xC (.int 0))) (xC (.str "many")))) bE aT)
 (ax (xIf (aU (xOp oEq (xOp oIx (aa 0) (xC (.int 0))) (xC (.str "sum")))) (ax (aJ (xC (.int 0)) (gNm 6))
 (ax gU
 (aN (bY (xOp oGe (aa 6) (xOp oIx (aa 0) (xC (.int 3)))) (xOp oLe (aa 6) (xOp oIx (aa 0) (xC (.int 4)))))))) aT)
 bE))))
noncomputable def ft:XF:=aQ 2 11 jR
noncomputable def pN:XE:=(xLC (bZ (aa 2)) 1 (gNm 0) (eM (az ft (ab (aa 4) (ab (aa 0) ak)))) (aa 0))
noncomputable def o9:XS:=(cC (bZ (aa 1)) (gNm 3) (aJ pN (gNm 2)))
noncomputable def ph:XS:=(ax (aJ (az eT (ab (aa 0) ak)) (gNm 2))
 (ax o9
 (aN (aa 2))))
noncomputable def jx:XF:=aQ 2 4 ph
noncomputable def jD:XS:=(aN (bY (xUn (dI "int") (aa 0)) (qi (xUn (dI "bool") (aa 0)))))
noncomputable def eN:XF:=aQ 1 1 jD
noncomputable def ic:XE:=(xLC (bZ (aa 0)) 1 (gNm 0) (fun _ S=>.ok true S) (az eN (ab (aa 0) ak)))
noncomputable def ip:XS:=(aN (bY (xUn (dI "tuple") (aa 0)) (xN eG (ab ic ak))))
noncomputable def cG:XF:=aQ 1 1 ip
noncomputable def jM:XE:=(xLC (bZ (aa 1)) 1 (gNm 0) (fun _ S=>.ok true S) (az cG (ab (aa 0) ak)))
noncomputable def kg:XS:=(ax (xIf (aU (xOp oEq (xOp oIx (aa 0) (xC (.int 0))) (xC (.str "unlike")))) bE aT)
 (ax (xIf (aU (xOp oEq (xOp oIx (aa 0) (xC (.int 0))) (xC (.str "hand")))) bE aT)
 (ax (xIf (aU (xOp oEq (xOp oIx (aa 0) (xC (.int 0))) (xC (.str "many")))) bE aT)
 (aN (bY (xUn (dI "list") (aa 1)) (xN eG (ab jM ak)))))))
noncomputable def fw:XF:=aQ 2 2 kg
noncomputable def nM:XS:=(aN (xOp oEq (xN kN (ab (aa 0) ak)) (xUn (rL 301) (aa 0))))
noncomputable def hG:XF:=aQ 1 1 nM
noncomputable def mi:XE:=(xLC (bZ (aa 4)) 1 (gNm 0) (fun _ S=>.ok true S) (xOp bA (aa 4) (xOp d8 (aa 0) (xOp oIx (xOp oIx (aa 2) (xC (.int 2))) (aa 3)))))
noncomputable def nA:XS:=(ax (aJ (xOp oIx (aa 0) (xOp oIx (xOp oIx (aa 1) (xC (.int 1))) (aa 2))) (gNm 4))
 (ax (xIf (aU (xOp oEq (xOp oIx (aa 1) (xC (.int 0))) (xC (.str "sum")))) (aN mi) aT)
 bE))
noncomputable def ir:XF:=aQ 4 5 nA
noncomputable def fZ:XE:=(xLC (bZ (aa 2)) 1 (gNm 0) (fun _ S=>.ok true S) (az hG (ab (aa 0) ak)))
noncomputable def fY:XE:=(xLC (bZ (az ir (ab (aa 0) (ab (aa 1) (ab (aa 3) (ab (aa 4) ak)))))) 1 (gNm 0) (fun _ S=>.ok true S) (xOp oIn (aa 0) (xOp oIx (aa 3) (xOp bA (aa 4) (xC (.int 1))))))
noncomputable def f6:XS:=(cC (bZ (xOp oIx (aa 2) (aa 3))) (gNm 4) (xIf (fm (eM (xN eG (ab fY ak)))) (aN (xC (.bl false))) aT))
noncomputable def fW:XS:=(cC (jV (ab (xN bG (ab (xOp oIx (aa 1) (xC (.int 1))) ak)) ak)) (gNm 3) f6)
noncomputable def fV:XE:=(xLC (bZ (xOp oIx (aa 2) (xUn jv (xC (.int 1))))) 1 (gNm 0) (aU (dJ oLe oLe (xOp oIx (aa 2) (xC (.int 3))) (aa 0) (xOp oIx (aa 2) (xC (.int 4))))) (aa 0))
noncomputable def fU:XS:=(ax (xIf (xOr (aU (xOp oNe (xN bG (ab (aa 2) ak)) (xOp bA (xN bG (ab (xOp oIx (aa 1) (xC (.int 1))) ak)) (xC (.int 1))))) (aU (xOp fM (xC (.int 0)) (xOp oIx (aa 2) (xC (.int 0)))))) (aN (xC (.bl false))) aT)
 (ax (xIf (fm (eM (xN eG (ab fZ ak)))) (aN (xC (.bl false))) aT)
 (ax fW
 (ax (xIf (aU (xOp oEq (xOp oIx (aa 1) (xC (.int 0))) (xC (.str "sum")))) (aN (xOp oEq fV (xN mkL ak))) aT)
 bE))))
noncomputable def cQ:XF:=aQ 3 5 fU
noncomputable def gB:XS:=(ax (xIf (fm (eM (az fw (ab (aa 1) (ab (aa 2) ak))))) (aN (xC (.bl false))) aT)
 (ax (xIf (aU (xOp oEq (xOp oIx (aa 1) (xC (.int 0))) (xC (.str "unlike")))) bE aT)
 (ax (xIf (aU (xOp oEq (xOp oIx (aa 1) (xC (.int 0))) (xC (.str "many")))) bE aT)
 (ax (xIf (aU (xOp oEq (xOp oIx (aa 1) (xC (.int 0))) (xC (.str "hand")))) bE aT)
 (aN (az cQ (ab (aa 0) (ab (aa 1) (ab (aa 2) ak)))))))))
noncomputable def de:XF:=aQ 3 3 gB
noncomputable def fg:XS:=(ax (xIf (xOr (fm (eM (xUn (ll "tuple") (aa 2)))) (aU (xOp oNe (xN mF (ab (aa 2) ak)) (xC (.int 2))))) (aN (xC (.bl false))) aT)
 (ax (aJ (az jx (ab (aa 0) (ab (xN mkL (ab (aa 1) ak)) ak))) (gNm 3))
 (ax (xIf (aU (xOp oEq (aa 3) (xN mkL ak))) (aN (bY (xOp oEq (xOp dj (aa 2) (xC (.int 0))) (xC (.str "no"))) (az de (ab (aa 0) (ab (aa 1) (ab (xOp dj (aa 2) (xC (.int 1))) ak)))))) aT)
 (aN (bY (xOp oEq (xOp dj (aa 2) (xC (.int 0))) (xC (.str "can"))) (bY (az cG (ab (xOp dj (aa 2) (xC (.int 1))) ak)) (xOp oIn (xOp dj (aa 2) (xC (.int 1))) (aa 3))))))))
noncomputable def cq:XF:=aQ 3 4 fg
noncomputable def qG:XS:=(cC (bZ (xOp bA (aa 6) (aa 6))) (gTu 2 (gCo (gNm 3) (gCo (gNm 7) gN0))) (ax (aJ (az eo (ab (aa 3) (ab (aa 7) ak))) (gNm 8))
 (ax (xIf (fm (eM (az cq (ab (aa 3) (ab (aa 7) (ab (aa 8) ak)))))) (aN (xC (.bl false))) aT)
 (xIf (aU (xOp oEq (xOp dj (aa 8) (xC (.int 0))) (xC (.str "no")))) (eO (vY (xOp dj (aa 8) (xC (.int 1))))) aT))))
noncomputable def xJ:XS:=(cC (jV (ab (xC (.int 4)) ak)) (gNm 2) (ax (aJ (az il (ab (az jg (ab (aa 1) ak)) (ab (xC (.int 4)) (ab (xOp oIx (xN mkL (ab (xC (.int 2)) (ab (xC (.int 3)) (ab (xC (.int 4)) (ab (xC (.int 2)) ak))))) (aa 2)) ak)))) (gNm 3))
 (ax (aJ (xN mkL (ab (az dS (ab (aa 1) (ab (aa 3) (ab (xC (.int 2)) ak)))) (ab (az dS (ab (aa 1) (ab (aa 3) (ab (xC (.int 2)) ak)))) ak))) (gNm 4))
 (ax (aJ (az gf (ab (aa 1) (ab (aa 3) ak))) (gNm 5))
 (ax (aJ (xN mkL (ab (xN mkT (ab (aa 3) (ab (xOp oIx (aa 4) (xC (.int 0))) ak))) (ab (xN mkT (ab (aa 5) (ab (xOp oIx (aa 4) (xC (.int 0))) ak))) (ab (xN mkT (ab (aa 5) (ab (xOp oIx (aa 4) (xC (.int 1))) ak))) (ab (xN mkT (ab (aa 3) (ab (xOp oIx (aa 4) (xC (.int 1))) ak))) ak))))) (gNm 6))
 qG)))))
noncomputable def wd:XS:=(ax (aJ (az iZ (ab (aa 0) ak)) (gNm 1))
 (ax xJ
 (aN (xC (.bl true)))))
noncomputable def vS:XF:=aQ 1 9 wd
local macro_rules | `(tactic| walk_at "mx") => do
 let a:=("Gy GP GA G5 DW Ha HA HQ Bm A5 D3 Ga GF DF Eh Gp G8 AZ GQ HP DM FJ C7 II D8 GI Hl HH G2 HS D4 FH Dy Hm HC HG EV FP Cy Cp Cm DU Fz Er C_ BH DC EY E6 yz uw Bo Ba IQ Il uA Fd Bx GH GR FW xM CI Iu Hy G9 G6 GZ GW G_ HL G3 Hn nW si jc F_ Hj GB C6 HE ED Ho Cw CJ zA BC Fu rW sC qc mX nc Gm GL HN Hd A3 Bz BB vT mT qk qT yP FL Ek Hq ET EE Fo Gk Jb Fg Gw Hr Gx Hk G7 Gj GN Hf D5 EC EB EJ AY yW yZ As Gb qI FF E2 D_ ER E4 BK CA GY Hw Gh Gv Gg Hu HU Ij Iw IK Iq Fh Fn DS Ft DK Ey DL Ej Dt FU BI B6 B2 E8 Fy EF Ee DH Fs FZ El FG FX BY BM Cs FI Ew E1 Eo qO zm zH zj Ac Ad Bk wJ G0 DA".splitOn " ").toArray.map fun s=>Lean.mkIdent (Lean.Name.mkStr `L2 s)
 let b:=("List.getElem?_cons_zero List.getElem?_cons_succ List.set_cons_zero List.set_cons_succ List.map_cons List.map_nil List.length_cons List.length_nil List.cons_append List.nil_append List.replicate_succ List.replicate_zero List.append_nil Nat.reduceSub Nat.reduceAdd Nat.zero_add Bool.not_true Bool.not_false decide_true decide_false beq_self_eq_true if_true if_false Int.reduceNeg".splitOn " ").toArray.map fun s=>Lean.mkIdent s.toName
 `(tactic| simp only [$[$a:term],*,$[$b:term],*,↓reduceIte])
local macro_rules | `(tactic| walk_at "mo") => `(tactic| first
  | rw [Bp (by first | decide | omega)]
  | rw [m6 (by first | exact nr (by decide) (by decide) | exact Or.inl ⟨by omega,by omega⟩ | exact Or.inr ⟨by omega,by omega⟩)]
  | rw [Gd ⟨by first | decide | omega,by first | decide | omega⟩]
  | rw [vB ⟨by decide,by decide,by decide⟩]
  | rw [r_ (by first | (simp only [List.length_cons,List.length_nil,List.length_map];omega) | (simp;omega))]
  | rw [yQ (by first | (simp only [List.length_cons,List.length_nil,List.length_map];omega) | (simp;omega))]
  | rw [vE (by omega)]
  | rw [Bv (by omega)])
local macro_rules | `(tactic| walk_at "mm") => `(tactic| repeat (first | walk_at "mx" | walk_at "mo"))
local macro_rules | `(tactic| erw [$rs,*]) => `(tactic| (rw [$rs,*]; walk_at "mx"))
def c9 (cells:List Int) (at' pool:Int):Ob:=.lst [.lst (cells.map D.int),.int at',.int pool]
def Pen (o:Ob):Prop:=∃ cells at' pool,o=c9 cells at' pool∧cells.length≤63∧0≤at'∧0≤pool
theorem aO {S:Sto} {x:D} {τ:Nv}:leave S (.ok (.rt (.d x),τ) S)=.ok (.d x) S:=by rw [jj,gO,List.take_length]
theorem Aw {S R:Sto} {x:D} {τ:Nv}:leave S (.ok (.rt (.d x),τ) (S++R))=.ok (.d x) S:=by rw [jj,gO,List.take_left]
theorem dR {S S':Sto} {x:D} {τ:Nv}:leave S (.ok (.rt (.d x),τ) S')=.ok (.d x) (S'.take S.length):=by rw [jj,gO]
theorem yo (cell at':Int) (h:0≤at') (S:Sto):∃ r:Int,0≤r∧eE [.d (.int cell),.d (.int at')] S=.ok (.d (.int r)) S:=by
 unfold eE
 rw [cZ]
 unfold lG
 walk_at "mx"
 erw [vB ⟨by decide,by decide,by decide⟩]
 by_cases hc:(10:Int) ^ (18:Int).toNat≤cell
 ·rw [decide_eq_true hc]
  refine ⟨cell,Int.le_trans (by decide) hc,?_⟩
  walk_at "mx"
  exact aO
 ·rw [decide_eq_false hc]
  walk_at "mm"
  generalize hone:(cell % 1000000007 * 69069+at' * 40503+977) % 2147483629=one
  have o1:0≤one:=by rw [← hone];exact Int.emod_nonneg _ (by decide)
  have o2:one < 2147483629:=by rw [← hone];exact Int.emod_lt_of_pos _ (by decide)
  walk_at "mm"
  generalize htwo:(one * one+at' * 7919+cell % 65537) % 2147483587=two
  have o3:0≤two:=by rw [← htwo];exact Int.emod_nonneg _ (by decide)
  have o4:two < 2147483587:=by rw [← htwo];exact Int.emod_lt_of_pos _ (by decide)
  walk_at "mm"
  generalize hthree:(two * two+one * 31+5) % 2147483563=three
  have o5:0≤three:=by rw [← hthree];exact Int.emod_nonneg _ (by decide)
  walk_at "mm"
  exact ⟨(one * 2147483659+two) * 2147483693+three,by omega,aO⟩
theorem nJ {cells:List Int} {at' pool:Int} {R:Sto}:oIx (.r 0) (.d (.int 0)) (c9 cells at' pool :: R)=.ok (.d (.lst (cells.map D.int))) (c9 cells at' pool :: R):=kM rfl rfl
theorem G1 {cells:List Int} {at' pool:Int} {R:Sto}:oIx (.r 0) (.d (.int 1)) (c9 cells at' pool :: R)=.ok (.d (.int at')) (c9 cells at' pool :: R):=kM rfl rfl
theorem vd {cells:List Int} {at' pool:Int} {R:Sto}:oIx (.r 0) (.d (.int 2)) (c9 cells at' pool :: R)=.ok (.d (.int pool)) (c9 cells at' pool :: R):=kM rfl rfl
theorem FY {cells:List Int} {at' pool v:Int} {R:Sto}:d9 (.r 0) (.d (.int 1)) (.d (.int v)) (c9 cells at' pool :: R)=.ok () (c9 cells v pool :: R):=ae rfl
theorem rJ {cells:List Int} {at' pool v:Int} {R:Sto}:d9 (.r 0) (.d (.int 2)) (.d (.int v)) (c9 cells at' pool :: R)=.ok () (c9 cells at' v :: R):=ae rfl
theorem fe {ns:List Int} {i:Int} (h0:0≤i) (h1:i < ns.length):∃ n,atI (ns.map D.int) i=some (.int n)∧n∈ns:=by
 have hk:i.toNat < ns.length:=by omega
 refine ⟨ns[i.toNat],?_,List.getElem_mem hk⟩
 unfold atI
 rw [ve h0 (by simpa using h1)]
 show (ns.map D.int)[i.toNat]?=_
 rw [List.getElem?_map,List.getElem?_eq_getElem hk]
 rfl
theorem e9 {o o':Ob} {R:Sto}:(o' :: R).take (o :: R).length=o' :: R:=by rw [show (o :: R).length=(o' :: R).length from rfl,List.take_length]
theorem bQ {o:Ob} {R:Sto} {m:Int} (hp:Pen o) (h0:0 < m) (h1:m < 1073741824):∃ (k:Int) (o':Ob),0≤k∧k < m∧Pen o'∧bp [.r 0,.d (.int m)] (o :: R)=.ok (.d (.int k)) (o' :: R):=by
 obtain ⟨cells,at',pool,rfl,hl,ha,hq⟩:=hp
 unfold bp
 rw [cZ]
 unfold pG
 have tail:∀ (at2 pool2:Int) (o2 o3:Option Vl),0≤at2→0≤pool2→∃ (k:Int) (o':Ob),0≤k∧k < m∧Pen o' ∧
   leave (c9 cells at' pool :: R) ((ax (aJ (xOp oMod (xOp oIx (aa 0) (xC (.int 2))) (aa 1)) (gNm 4)) (ax (aJ (xOp oDiv (xOp oIx (aa 0) (xC (.int 2))) (aa 1)) (gSb (aa 0) (xC (.int 2)) d9)) (aN (aa 4)))) [some (.r 0),some (.d (.int m)),o2,o3,none] (c9 cells at2 pool2 :: R))=.ok (.d (.int k)) (o' :: R):=by
  intro at2 pool2 o2 o3 g1 g2
  walk_at "mx"
  rw [vd]
  walk_at "mm"
  rw [vd]
  walk_at "mm"
  rw [rJ]
  walk_at "mm"
  exact ⟨pool2 % m,_,Int.emod_nonneg _ (by omega),Int.emod_lt_of_pos _ h0,⟨cells,at2,pool2 / m,rfl,hl,g1,Int.ediv_nonneg g2 (by omega)⟩,by rw [dR,e9]⟩
 erw [si,BC]
 rw [vd]
 walk_at "mm"
 by_cases hc:pool < m
 ·erw [decide_eq_true hc]
  rw [G1]
  walk_at "mm"
  rw [nJ]
  walk_at "mm"
  have fin:∀ cell:Int,∃ (k:Int) (o':Ob),0≤k∧k < m∧Pen o'∧leave (c9 cells at' pool :: R) (sq1 ((ax (aJ (xOp bA (aa 2) (xC (.int 1))) (gSb (aa 0) (xC (.int 1)) d9)) (aJ (az eE (ab (aa 3) (ab (aa 2) ak))) (gSb (aa 0) (xC (.int 2)) d9))) [some (.r 0),some (.d (.int m)),some (.d (.int at')),some (.d (.int cell)),none] (c9 cells at' pool :: R))
    (ax (aJ (xOp oMod (xOp oIx (aa 0) (xC (.int 2))) (aa 1)) (gNm 4)) (ax (aJ (xOp oDiv (xOp oIx (aa 0) (xC (.int 2))) (aa 1)) (gSb (aa 0) (xC (.int 2)) d9)) (aN (aa 4)))))=.ok (.d (.int k)) (o' :: R):=by
   intro cell
   erw [si,sC]
   rw [FY]
   rw [vT,mX,jc,sC,uA]
   obtain ⟨r,hr,er⟩:=yo cell at' ha (c9 cells (at'+1) pool :: R)
   simp only [uw,yz,A5,Bm,Bo,Ba,Fd,er,Bx,qc,A3,Bz,BB,D3,rJ,vT,mX,jc]
   exact tail (at'+1) r _ _ (by omega) hr
  by_cases hin:at' < ((cells.map D.int).length:Int)
  ·erw [decide_eq_true hin]
   rw [nJ]
   obtain ⟨n,en,_⟩:=fe (ns:=cells) ha (by simpa using hin)
   walk_at "mx"
   rw [i5 en]
   rw [qc,nc,mX,jc]
   exact fin n
  ·erw [decide_eq_false hin]
   rw [nJ]
   walk_at "mm"
   by_cases hpos:(0:Int) < ((cells.map D.int).length:Int)
   ·erw [decide_eq_true hpos]
    rw [nJ]
    walk_at "mm"
    rw [nJ]
    walk_at "mm"
    obtain ⟨n,en,_⟩:=fe (ns:=cells) (i:=(at' * 5+3) % ((cells.map D.int).length:Int)) (Int.emod_nonneg _ (by omega)) (by have:=Int.emod_lt_of_pos (at' * 5+3) hpos;simpa using this)
    erw [i5 en]
    erw [vB ⟨by decide,by decide,by decide⟩]
    rw [Bp (by have:(0:Int) < 10 ^ (17:Int).toNat:=(by decide);omega)]
    rw [qc,nc,mX,jc]
    exact fin _
   ·rw [decide_eq_false hpos]
    rw [rW,nW,jc]
    exact fin 0
 ·rw [decide_eq_false hc]
  rw [rW,nW,jc]
  exact tail at' pool _ _ ha hq
structure GoodW (m:Int) (ws:List Int):Prop where
 rise:ws.Pairwise (· < ·)
 lim:∀ w∈ws,-9≤w∧w≤9
 pos:1≤ws.length
 le:(ws.length:Int)≤m
def aj (ns:List Int):D:=.tup (ns.map D.int)
theorem pv {o:Ob} {R:Sto} {most near:Int} (hp:Pen o) (h0:0 < most) (h1:most≤50) (n0:-9≤near) (n1:near≤5):∃ (ws:List Int) (o':Ob),GoodW most ws∧Pen o'∧eW [.r 0,.d (.int most),.d (.int near)] (o :: R)=.ok (.d (aj ws)) (o' :: R):=by
 unfold eW
 rw [dk]
 unfold lJ
 walk_at "mx"
 obtain ⟨k,o1,k0,k1,hp1,e1⟩:=bQ (R:=R++[.lst []]) hp h0 (by omega)
 obtain ⟨τ',S',e2,o2,ws,x4,x5,hp2,rfl,rfl,nd,lim,le,pos⟩:=cX (show _=lN [some (.r 0),some (.d (.int most)),some (.d (.int near)),some (.r (R.length+1)),none,none] (o :: (R++[.lst []])) from rfl)
  (S1:=o1 :: (R++[.lst []])) (gd:=none) (items:=(List.range (1+k).toNat).map fun i=>Vl.d (.int (i:Nat))) (by walk_at "mx";rw [e1];walk_at "mm")
  (fun i τ S=>∃ (o':Ob) (ws:List Int) (x4 x5:Option Vl),Pen o'∧τ=[some (.r 0),some (.d (.int most)),some (.d (.int near)),some (.r (R.length+1)),x4,x5]∧S=o' :: (R++[.lst (ws.map D.int)])∧ws.Nodup∧(∀ w∈ws,-9≤w∧w≤9)∧ws.length≤i∧(0 < i→0 < ws.length))
  ⟨o1,[],none,none,hp1,rfl,rfl,List.nodup_nil,by simp,Nat.le_refl _,by omega⟩ (by
   rintro i z τ S hz ⟨o',ws,x4,x5,hp',rfl,rfl,nd,lim,le,pos⟩
   have hi:i < (1+k).toNat:=by simpa using (List.getElem?_eq_some_iff.mp hz).1
   obtain ⟨a,oa,a0,a1,hpa,ea⟩:=bQ (R:=R++[.lst (ws.map D.int)]) (m:=5) hp' (by decide) (by decide)
   obtain ⟨b,ob,b0,b1,hpb,eb⟩:=bQ (R:=R++[.lst (ws.map D.int)]) (m:=6) hpa (by decide) (by decide)
   obtain ⟨c,oc,c0,c1,hpc,ec⟩:=bQ (R:=R++[.lst (ws.map D.int)]) (m:=19) hpb (by decide) (by decide)
   have fin:∀ (v:Int) (q:Ob) (x5':Option Vl),-9≤v→v≤9→Pen q→x5'=some (.d (.int v))→∃ fl τ2 S2,(xIf (aU (xOp fM (aa 5) (aa 3))) (eO (xLm l5 (aa 3) (aa 5))) aT) [some (.r 0),some (.d (.int most)),some (.d (.int near)),some (.r (R.length+1)),some z,x5'] (q :: (R++[.lst (ws.map D.int)]))=.ok (fl,τ2) S2∧(fl=.nx∨fl=.ct) ∧
     ∃ (o':Ob) (ws:List Int) (x4 x5:Option Vl),Pen o'∧τ2=[some (.r 0),some (.d (.int most)),some (.d (.int near)),some (.r (R.length+1)),x4,x5]∧S2=o' :: (R++[.lst (ws.map D.int)])∧ws.Nodup∧(∀ w∈ws,-9≤w∧w≤9)∧ws.length≤i+1∧(0 < i+1→0 < ws.length):=by
    rintro v q _ v0 v1 hq rfl
    walk_at "mx"
    rw [Fe (ns:=ws) uK]
    by_cases hm:v∈ws
    ·erw [decide_eq_true hm]
     exact ⟨_,_,_,rfl,.inl rfl,q,ws,_,_,hq,rfl,rfl,nd,lim,by omega,fun _=>List.length_pos_of_mem hm⟩
    ·erw [decide_eq_false hm]
     erw [Bh (by rw [List.length_map];omega)]
     refine ⟨_,_,_,rfl,.inl rfl,q,ws++[v],_,_,hq,rfl,by rw [List.map_append];rfl,?_,?_,by simp;omega,fun _=>by simp⟩
     ·rw [List.nodup_append]
      refine ⟨nd,by simp,fun x hx y hy=>?_⟩
      rw [List.mem_singleton.mp hy]
      rintro rfl
      exact hm hx
     ·intro w hw
      rcases List.mem_append.mp hw with e | e
      ·exact lim w e
      ·rw [List.mem_singleton.mp e];omega
   by_cases hb:b=0
   ·subst hb
    obtain ⟨fl,τ2,S2,f1,f2,f3⟩:=fin (c - 9) oc _ (by omega) (by omega) hpc rfl
    refine ⟨_,_,fl,τ2,S2,nc,?_,f2,True.intro,f3⟩
    walk_at "mx"
    erw [ea]
    erw [eb]
    erw [ec]
    erw [← f1]
   ·obtain ⟨fl,τ2,S2,f1,f2,f3⟩:=fin (near+a) ob _ (by omega) (by omega) hpb rfl
    refine ⟨_,_,fl,τ2,S2,nc,?_,f2,True.intro,f3⟩
    walk_at "mx"
    erw [ea]
    erw [eb]
    erw [decide_eq_false hb]
    rw [← f1]
    walk_at "mx")
 erw [e2]
 rw [k_] at le pos
 erw [B8 uK (by omega)]
 refine ⟨sortI ws,o2,⟨i8 nd,fun w hw=>lim w ((fD ws w).mp hw),by rw [fH];exact pos (by omega),by rw [fH];omega⟩,hp2,?_⟩
 rw [dR]
 simp [aj]
structure bM (n m:Int) (wss:List (List Int)):Prop where
 pos:1≤wss.length
 le:(wss.length:Int)≤n
 all:∀ ws∈wss,GoodW m ws
def aq (wss:List (List Int)):D:=.tup (wss.map aj)
theorem AS {o:Ob} {R:Sto} {names most:Int} (hp:Pen o) (h0:0 < names) (h1:names≤50) (m0:0 < most) (m1:most≤50):∃ (wss:List (List Int)) (o':Ob),bM names most wss∧Pen o'∧il [.r 0,.d (.int names),.d (.int most)] (o :: R)=.ok (.d (aq wss)) (o' :: R):=by
 unfold il
 rw [dk]
 unfold nk
 walk_at "mx"
 obtain ⟨k,o1,k0,k1,hp1,e1⟩:=bQ (R:=R) (m:=15) hp (by decide) (by decide)
 erw [e1]
 obtain ⟨j,o2,j0,j1,hp2,e2⟩:=bQ (R:=R) hp1 h0 (by omega)
 obtain ⟨acc,Q,e4,hl,o3,wss,hp3,rfl,rfl,hw,hg⟩:=mq (show _=mK [some (.r 0),some (.d (.int names)),some (.d (.int most)),some (.d (.int (k - 9)))] (o1 :: R) from rfl) (S1:=o2 :: R) (items:=(List.range (1+j).toNat).map fun i=>Vl.d (.int (i:Nat))) (by walk_at "mx";rw [e2];walk_at "mm")
  (fun i acc Q=>∃ (o':Ob) (wss:List (List Int)),Pen o'∧acc=wss.map aj∧Q=o' :: R∧wss.length=i∧∀ ws∈wss,GoodW most ws) ⟨o2,[],hp2,rfl,rfl,rfl,by simp⟩ (by
   rintro i z acc Q hz ⟨o',wss,hp',rfl,rfl,hw,hg⟩ _
   obtain ⟨hi,rfl⟩:=kW hz
   obtain ⟨ws,o3,gw,hp3,e3⟩:=pv (R:=R++[.lst (wss.map aj)]) (near:=k - 9) hp' m0 m1 (by omega) (by omega)
   refine ⟨aj ws,o3 :: R,?_,rfl,o3,wss++[ws],hp3,jm.symm,rfl,by simp [hw],fun x hx=>?_⟩
   ·walk_at "mx"
    erw [e3]
   ·rcases List.mem_append.mp hx with e | e
    ·exact hg x e
    ·rw [List.mem_singleton.mp e];exact gw)
 erw [e4]
 rw [k_] at hw
 exact ⟨wss,o3,⟨by omega,by omega,hg⟩,hp3,by rw [dR,e9];rfl⟩
theorem CB {o:Ob} {R:Sto} (hp:Pen o):∃ o',Pen o'∧jg [.r 0] (o :: R)=.ok (.r 0) (o' :: R):=by
 obtain ⟨cells,at',pool,rfl,hl,ha,hq⟩:=hp
 unfold jg
 rw [b5]
 unfold pd
 walk_at "mx"
 erw [rJ]
 refine ⟨c9 cells at' 0,⟨cells,at',0,rfl,hl,ha,Int.le_refl 0⟩,?_⟩
 rw [jj]
 unfold out
 dsimp only
 rw [if_pos (by simp),e9]
theorem iY {xs:List D} {i:Nat} {z:Vl} (h:(cm 0 xs)[i]?=some z):∃ x,xs[i]?=some x∧z=.d (.tup [.int i,x]):=by
 rw [dh] at h
 cases q:xs[i]? with
 | none=>rw [q] at h;cases h
 | some x=>rw [q] at h;cases h;exact ⟨x,rfl,by rw [Nat.zero_add]⟩
theorem CU (ns:List Int):∃ o,Pen o∧iZ [.sc ns] []=.ok (.r 0) [o]:=by
 unfold iZ
 rw [b5]
 unfold oX
 walk_at "mx"
 rw [show (12:Int)=((12:Nat):Int) from rfl,FA,← List.map_take]
 obtain ⟨τ',S',e2,cs,x2,x3,rfl,rfl,hl⟩:=cX (show _=pC [some (.sc ns),some (.r 0),none,none] [.lst ((ns.take 12).map D.int)] from rfl)
  (S1:=[.lst ((ns.take 12).map D.int)]) (gd:=none) (items:=cm 0 (((ns.map D.int).drop 12).take (63 - 12))) (by
   walk_at "mx"
   rw [show (12:Int)=((12:Nat):Int) from rfl,show (63:Int)=((63:Nat):Int) from rfl,EX])
  (fun i τ S=>∃ (cs:List Int) (x2 x3:Option Vl),τ=[some (.sc ns),some (.r 0),x2,x3]∧S=[.lst (cs.map D.int)]∧cs.length=(ns.take 12).length) ⟨_,none,none,rfl,rfl,rfl⟩ (by
   rintro i z τ S hz ⟨cs,x2,x3,rfl,rfl,hl⟩
   obtain ⟨x,ex,rfl⟩:=iY hz
   have hx:x∈ns.map D.int:=List.mem_of_mem_drop (List.mem_of_mem_take (List.mem_of_getElem? ex))
   obtain ⟨v,_,rfl⟩:=List.mem_map.mp hx
   have hlen:12 < ns.length:=by
    have:=(List.getElem?_eq_some_iff.mp ex).1
    simp at this
    omega
   have hcs:cs.length=12:=by rw [hl];simp;omega
   have h0:0≤((i:Nat):Int) % 12:=Int.emod_nonneg _ (by decide)
   have h1:((i:Nat):Int) % 12 < 12:=Int.emod_lt_of_pos _ (by decide)
   obtain ⟨c,ec,_⟩:=fe (ns:=cs) (i:=((i:Nat):Int) % 12) h0 (by omega)
   have hix:ixN (cs.map D.int).length (((i:Nat):Int) % 12)=some (((i:Nat):Int) % 12).toNat:=ve h0 (by rw [List.length_map];omega)
   refine ⟨_,_,.nx,_,_,by walk_at "mm";rfl,by
    walk_at "mm"
    rw [kM (xs:=cs.map D.int) rfl ec]
    walk_at "mm"
    rw [show d9 (.r 0) (.d (.int (((i:Nat):Int) % 12))) (.d (.int (c+v))) [Ob.lst (cs.map D.int)]=.ok () [.lst ((cs.map D.int).set (((i:Nat):Int) % 12).toNat (.int (c+v)))] by
     unfold d9
     simp only [List.getElem?_cons_zero,hix]
     rfl]
    walk_at "mx"
    rfl,.inl rfl,True.intro,cs.set (((i:Nat):Int) % 12).toNat (c+v),_,_,rfl,by rw [List.map_set],by rw [List.length_set];exact hl⟩)
 erw [e2]
 refine ⟨c9 cs 0 0,⟨cs,0,0,rfl,by rw [hl];simp;omega,Int.le_refl 0,Int.le_refl 0⟩,?_⟩
 rfl
theorem pM {α β:Type} (f:α→β):∀ (l:List α) (k:Nat),(l.eraseIdx k).map f=(l.map f).eraseIdx k
 | [],_=>rfl
 | _ :: _,0=>rfl
 | x :: l,k+1=>by
  rw [List.eraseIdx_cons_succ,List.map_cons,List.map_cons,List.eraseIdx_cons_succ,pM f l k]
structure cF (k:Nat) (ns:List Int):Prop where
 dom:∀ n∈ns,0≤n∧n < (k:Int)
 pos:1≤ns.length
 le:ns.length≤k
 nd:ns.Nodup
theorem pW {o:Ob} {R:Sto} {wss:List (List Int)} (hp:Pen o) (h0:1≤wss.length) (h1:wss.length≤50):∃ (ns:List Int) (o':Ob),cF wss.length ns∧Pen o'∧dB [.r 0,.d (aq wss)] (o :: R)=.ok (.d (aj ns)) (o' :: R):=by
 unfold dB
 rw [cZ]
 unfold hU aq
 walk_at "mx"
 erw [List.length_map,Du (by omega)]
 have hr:(List.range ((wss.length:Nat):Int).toNat).map (fun i=>D.int ((i:Nat):Int))=((List.range wss.length).map fun i=>((i:Nat):Int)).map D.int:=by rw [Int.toNat_natCast,List.map_map];rfl
 rw [hr]
 generalize hL:((List.range wss.length).map fun i=>((i:Nat):Int))=L0
 have lL:L0.length=wss.length:=by rw [← hL];simp
 have dL:∀ n∈L0,0≤n∧n < (wss.length:Int):=by
  intro n hn
  rw [← hL] at hn
  obtain ⟨i,hi,rfl⟩:=List.mem_map.mp hn
  have:=List.mem_range.mp hi
  omega
 have nL:L0.Nodup:=by
  rw [← hL]
  exact List.Pairwise.map _ (fun a b (h:a≠b)=>by omega) List.nodup_range
 rw [qE (xs:=L0.map D.int) (by walk_at "mx"),List.length_map,lL]
 obtain ⟨a,o1,a0,a1,hp1,e1⟩:=bQ (R:=R++[.lst (L0.map D.int)]) (m:=(wss.length:Int)) hp (by omega) (by omega)
 walk_at "mx"
 erw [e1]
 obtain ⟨b,o2,b0,b1,hp2,e2⟩:=bQ (R:=R++[.lst (L0.map D.int)]) (m:=3) hp1 (by decide) (by decide)
 erw [e2]
 have fin:∀ (many:Int),1≤many→many≤wss.length→∃ (ns left:List Int) (o':Ob),cF wss.length ns∧Pen o' ∧
   eP [some (.r 0),some (.d (.tup (wss.map aj))),some (.r (R.length+1)),some (.d (.int many))] (o2 :: (R++[.lst (L0.map D.int)]))=.ok (.d (.lst (ns.map D.int))) (o' :: (R++[.lst (left.map D.int)])):=by
  intro many m0 m1
  obtain ⟨acc,Q,e4,hl,o3,ns,left,hp3,rfl,rfl,hw,hlen,hmem,hnd⟩:=mq (show _=eP [some (.r 0),some (.d (.tup (wss.map aj))),some (.r (R.length+1)),some (.d (.int many))] (o2 :: (R++[.lst (L0.map D.int)])) from rfl) (S1:=o2 :: (R++[.lst (L0.map D.int)])) (items:=(List.range many.toNat).map fun i=>Vl.d (.int (i:Nat))) (by walk_at "mm")
   (fun i acc Q=>∃ (o':Ob) (ns left:List Int),Pen o'∧acc=ns.map D.int∧Q=o' :: (R++[.lst (left.map D.int)])∧ns.length=i∧left.length+i=wss.length∧(∀ n,n∈ns++left→0≤n∧n < (wss.length:Int))∧(ns++left).Nodup) ⟨o2,[],L0,hp2,rfl,rfl,rfl,by omega,by simpa using dL,by simpa using nL⟩ (by
    rintro i z acc Q hz ⟨o',ns,left,hp',rfl,rfl,hw,hlen,hmem,hnd⟩ _
    obtain ⟨hi,rfl⟩:=kW hz
    obtain ⟨c,o3,c0,c1,hp3,e3⟩:=bQ (R:=R++[.lst (left.map D.int),.lst (ns.map D.int)]) (m:=(left.length:Int)) hp' (by omega) (by omega)
    have hc:c.toNat < left.length:=by omega
    have hge:(left.map D.int)[c.toNat]?=some (.int left[c.toNat]):=by rw [List.getElem?_map,List.getElem?_eq_getElem hc];rfl
    have pe:(left[c.toNat] :: left.eraseIdx c.toNat).Perm left:=je left c.toNat hc
    have pa:((ns++[left[c.toNat]])++left.eraseIdx c.toNat).Perm (ns++left):=by
     rw [List.append_assoc]
     exact List.Perm.append_left ns pe
    refine ⟨.int left[c.toNat],o3 :: (R++[.lst ((left.eraseIdx c.toNat).map D.int)]),?_,by simp,o3,ns++[left[c.toNat]],left.eraseIdx c.toNat,hp3,jm.symm,rfl,by simp [hw],?_,fun n hn=>hmem n (pa.mem_iff.mp hn),pa.nodup_iff.mpr hnd⟩
    ·walk_at "mx"
     erw [show (R++[Ob.lst (left.map D.int)]++[Ob.lst (ns.map D.int)])=R++[.lst (left.map D.int),.lst (ns.map D.int)] by simp]
     erw [qE (xs:=left.map D.int) (by walk_at "mx"),List.length_map]
     erw [e3]
     erw [Gz (by omega) hge]
     rw [pM]
     simp
    ·rw [List.length_eraseIdx_of_lt hc];omega)
  rw [k_] at hw hlen
  exact ⟨ns,left,o3,⟨fun n hn=>hmem n (List.mem_append_left _ hn),by omega,by omega,(List.nodup_append.mp hnd).1⟩,hp3,e4⟩
 by_cases hb:0 < b
 ·erw [decide_eq_true hb]
  erw [qE (xs:=L0.map D.int) (by walk_at "mx"),List.length_map,lL]
  obtain ⟨ns,left,o3,gn,hp3,e4⟩:=fin (wss.length:Int) (by omega) (by omega)
  erw [e4]
  refine ⟨ns,o3,gn,hp3,?_⟩
  rw [dR]
  simp [aj]
 ·erw [decide_eq_false hb]
  obtain ⟨ns,left,o3,gn,hp3,e4⟩:=fin (1+a) (by omega) (by omega)
  erw [e4]
  refine ⟨ns,o3,gn,hp3,?_⟩
  rw [dR]
  simp [aj]
theorem rT {g:XG} {b:XS} {S:Sto} {α:Type} {d:α→Vl} {ok:α→Bool} {J:Nv→Prop}:∀ (xs:List α) (τ:Nv),J τ→(∀ x∈xs,∀ τ,J τ→∃ τ1 τ2,g (d x) τ S=.ok τ1 S∧J τ2∧b τ1 S=.ok ((if ok x then .nx else .rt (.d (.bl false))),τ2) S) →
  ∃ τ',J τ'∧bU g b none (xs.map d) τ S=.ok ((if xs.all ok then .nx else .rt (.d (.bl false))),τ') S
 | [],τ,h,_=>⟨τ,h,rfl⟩
 | x :: xs,τ,h,hs=>by
  obtain ⟨τ1,τ2,e1,h2,e2⟩:=hs x List.mem_cons_self τ h
  cases q:ok x with
  | false=>
   refine ⟨τ2,h2,?_⟩
   rw [List.map_cons,bU,e1,aE,e2,q,aE,List.all_cons,q]
   rfl
  | true=>
   obtain ⟨τ',h',e'⟩:=rT xs τ2 h2 (fun y hy=>hs y (List.mem_cons_of_mem _ hy))
   refine ⟨τ',h',?_⟩
   rw [List.map_cons,bU,e1,aE,e2,q,aE,List.all_cons,q,Bool.true_and,← e']
   exact if_pos True.intro
theorem rq {xs:List D} {n:Nat} (h:xs.length=n+1):atI xs (-1)=xs[n]?:=by
 unfold atI ixN
 rw [if_neg (by omega),if_pos (by omega),Option.bind_some]
 congr 1
 omega
theorem take_snoc {α:Type} {ps:List α} {i:Nat} {p:α} (h:ps[i]?=some p):ps.take (i+1)=ps.take i++[p]:=by
 rw [List.take_add_one,h];rfl
theorem me {wss:List (List Int)} {p:Int} (h0:0≤p) (h1:p < wss.length):atI (wss.map aj) p=some (aj (wss.getD p.toNat [])):=by
 obtain ⟨k,rfl⟩:=Int.eq_ofNat_of_zero_le h0
 have hk:k < wss.length:=by omega
 exact l4 (by rw [List.getElem?_map,List.getElem?_eq_getElem hk,Int.toNat_natCast,List.getD_eq_getElem?_getD,List.getElem?_eq_getElem hk];rfl)
theorem yT {wss:List (List Int)} {p:Int} (h0:0≤p) (h1:p < wss.length):wss.getD p.toNat []∈wss:=by
 have hk:p.toNat < wss.length:=by omega
 rw [List.getD_eq_getElem?_getD,List.getElem?_eq_getElem hk]
 exact List.getElem_mem hk
theorem tF {v:Int} {S:Sto}:gc [.d (.int v)] S=.ok (.d (.bl true)) S:=by
 unfold gc
 rw [b5]
 unfold lQ
 walk_at "mx"
 erw [show isT "int" (.int v)=true from rfl]
 erw [show isT "bool" (.int v)=false from rfl]
 rw [aO]
theorem gQ {v lo hi:Int} {S:Sto} (h:lo≤v∧v≤hi):c6 [.d (.int v),.d (.int lo),.d (.int hi)] S=.ok (.d (.bl true)) S:=by
 unfold c6
 rw [dk]
 unfold jW
 walk_at "mx"
 erw [tF]
 erw [decide_eq_true h.1]
 rw [decide_eq_true h.2]
 rw [aO]
theorem all_true {α:Type} {l:List α} {S:Sto}:eG [.d (.lst (l.map fun _=>D.bl true))] S=.ok (.d (.bl true)) S:=by
 rw [yh (f:=fun _=>true)]
 simp
theorem tY {xs:List D}:isT "tuple" (.tup xs)=true:=rfl
theorem fR {ns:List Int} {lo hi:Int} {S:Sto} (h:∀ v∈ns,lo≤v∧v≤hi):cI [.d (aj ns),.d (.int lo),.d (.int hi)] S=.ok (.d (.bl true)) S:=by
 unfold cI
 rw [dk]
 unfold jB aj
 walk_at "mx"
 erw [tY]
 rw [gm (show _=jE [some (.d (.tup (ns.map D.int))),some (.d (.int lo)),some (.d (.int hi))] S from rfl) (xs:=ns.map D.int) (S1:=S) (by walk_at "mx") (fun _=>.bl true) (by
  intro x hx S
  obtain ⟨v,hv,rfl⟩:=List.mem_map.mp hx
  walk_at "mx"
  rw [gQ (h v hv)]
  walk_at "mx")]
 walk_at "mx"
 erw [all_true]
 rw [aO]
theorem Dd {ns:List Int} (h:∀ k,k+1 < ns.length→ns.getD k 0 < ns.getD (k+1) 0):ns.Pairwise (· < ·):=by
 rw [List.pairwise_iff_getElem]
 have key:∀ d i,(hd:i+d+1 < ns.length)→ns.getD i 0 < ns.getD (i+d+1) 0:=by
  intro d
  induction d with
  | zero=>intro i hd;exact h i hd
  | succ d ih=>
   intro i hd
   have a:=ih i (by omega)
   have b:=h (i+d+1) (by omega)
   rw [show i+(d+1)+1=i+d+1+1 by omega]
   omega
 intro i j hi hj hij
 have:=key (j - i - 1) i (by omega)
 rw [show i+(j - i - 1)+1=j by omega,List.getD_eq_getElem?_getD,List.getD_eq_getElem?_getD,List.getElem?_eq_getElem hi,List.getElem?_eq_getElem hj] at this
 simpa using this
theorem CM {ns:List Int} (h:ns.Pairwise (· < ·)) {k:Nat} (hk:k+1 < ns.length):ns.getD k 0 < ns.getD (k+1) 0:=by
 rw [List.pairwise_iff_getElem] at h
 have:=h k (k+1) (by omega) hk (by omega)
 rw [List.getD_eq_getElem?_getD,List.getD_eq_getElem?_getD,List.getElem?_eq_getElem hk,List.getElem?_eq_getElem (by omega)]
 simpa using this
theorem y9 {ns:List Int}:((List.range (ns.length - 1)).all fun k=>decide (ns.getD k 0 < ns.getD (k+1) 0))=decide (ns.Pairwise (· < ·)):=by
 rw [Bool.eq_iff_iff,List.all_eq_true,decide_eq_true_iff]
 constructor
 ·intro h
  exact Dd fun k hk=>by simpa using h k (List.mem_range.mpr (by omega))
 ·intro h k hk
  have:=List.mem_range.mp hk
  exact decide_eq_true (CM h (by omega))
def nbL (ns:List Int):Vl→D
 | .d (.int j)=>.bl (decide (ns.getD (j.toNat - 1) 0 < ns.getD j.toNat 0))
 | _=>.non
theorem v7 {ns:List Int} {i:Nat} (h:i < ns.length):atI (ns.map D.int) (i:Int)=some (.int (ns.getD i 0)):=l4 (by rw [List.getElem?_map,List.getElem?_eq_getElem h,List.getD_eq_getElem?_getD,List.getElem?_eq_getElem h];rfl)
theorem pT {ns:List Int} {S:Sto} (h:ns.length≤1000):eB [.d (aj ns)] S=.ok (.d (.bl (decide (ns.Pairwise (· < ·))))) S:=by
 unfold eB
 rw [b5]
 unfold jz aj
 walk_at "mx"
 have key:fO [some (.d (.tup (ns.map D.int)))] S=.ok (.d (.lst ((List.range (ns.length - 1)).map fun k=>.bl (decide (ns.getD k 0 < ns.getD (k+1) 0))))) S:=by
  unfold fO
  rw [xx (items:=(List.range ((ns.length:Int) - 1).toNat).map fun k=>Vl.d (.int (1+(k:Nat)))) (S1:=S) (by walk_at "mx";rw [List.length_map,Bv (by omega)]) (nbL ns) (by
   intro z hz S
   obtain ⟨k,hk,rfl⟩:=List.mem_map.mp hz
   have hk:=List.mem_range.mp hk
   walk_at "mx"
   erw [show (1:Int)+(k:Nat) - 1=(k:Nat) by omega,show (1:Int)+(k:Nat)=((k+1:Nat):Int) by omega,df (v7 (by omega))]
   erw [df (v7 (by omega))]
   rfl)]
  rw [List.map_map,show ((ns.length:Int) - 1).toNat=ns.length - 1 by omega]
  congr 3
  refine List.map_congr_left fun k hk=>?_
  show nbL ns (.d (.int (1+(k:Nat))))=_
  rw [show (1:Int)+(k:Nat)=((k+1:Nat):Int) by omega]
  rfl
 erw [key]
 erw [yh,y9]
 rw [aO]
theorem pV {ws:List Int} {m:Int} {S:Sto} (g:GoodW m ws) (hm:m≤4):eQ [.d (aj ws)] S=.ok (.d (.bl true)) S:=by
 have h1:=g.pos
 have h2:=g.le
 unfold eQ
 rw [b5]
 unfold jy
 walk_at "mx"
 erw [fR g.lim]
 rw [show aj ws=.tup (ws.map D.int) from rfl]
 try walk_at "mx"
 erw [List.length_map,decide_eq_true (show (1:Int)≤(ws.length:Int) by omega)]
 erw [decide_eq_true (show (ws.length:Int)≤4 by omega)]
 erw [show D.tup (ws.map D.int)=aj ws from rfl,pT (by omega),decide_eq_true g.rise]
 rw [aO]
theorem sY {wss:List (List Int)} {n m:Int} {S:Sto} (g:bM n m wss) (hn:n≤4) (hm:m≤4):f9 [.d (aq wss)] S=.ok (.d (.bl true)) S:=by
 have h1:=g.pos
 have h2:=g.le
 unfold f9
 rw [b5]
 unfold lF aq
 walk_at "mx"
 erw [tY]
 erw [List.length_map,decide_eq_true (show (1:Int)≤(wss.length:Int) by omega)]
 erw [decide_eq_true (show (wss.length:Int)≤4 by omega)]
 rw [gm (show _=lI [some (.d (.tup (wss.map aj)))] S from rfl) (xs:=wss.map aj) (S1:=S) (by walk_at "mx") (fun _=>.bl true) (by
  intro x hx S
  obtain ⟨ws,hv,rfl⟩:=List.mem_map.mp hx
  walk_at "mx"
  rw [pV (g.all ws hv) hm]
  walk_at "mx")]
 walk_at "mx"
 erw [all_true]
 rw [aO]
theorem pU {wss:List (List Int)} {n m:Int} {S:Sto} (g:bM n m wss) (hn:n≤4) (hm:m≤4):eD [.d (aq wss)] S=.ok (.d .non) S:=by
 unfold eD
 rw [b5]
 unfold jI
 walk_at "mx"
 erw [sY g hn hm]
 rw [jq,gO,List.take_length]
theorem zZ {ns:List Int} (h:ns.Nodup):(bI ns).length=ns.length:=by
 rw [← mh (xs:=ns) (fun z=>fD ns z) (i8 h),fH]
theorem p7 {ns:List Int} {S:Sto} (h:ns.Nodup) (hl:ns.length≤60):eU [.d (aj ns)] S=.ok (.d (.bl true)) S:=by
 unfold eU
 rw [b5]
 unfold jF aj
 walk_at "mx"
 erw [Gn (ns:=ns) rfl (by omega)]
 erw [List.length_map,zZ h]
 rw [aO]
theorem qH {ns:List Int} {k:Nat} {S:Sto} (g:cF k ns) (hk:k≤4):fu [.d (aj ns)] S=.ok (.d (.bl true)) S:=by
 have h1:=g.pos
 have h2:=g.le
 unfold fu
 rw [b5]
 unfold kA
 walk_at "mx"
 erw [fR (fun v hv=>by have:=g.dom v hv;omega)]
 rw [show aj ns=.tup (ns.map D.int) from rfl]
 try walk_at "mx"
 erw [List.length_map,decide_eq_true (show (1:Int)≤(ns.length:Int) by omega)]
 erw [decide_eq_true (show (ns.length:Int)≤4 by omega)]
 erw [show D.tup (ns.map D.int)=aj ns from rfl,p7 g.nd (by omega)]
 rw [aO]
theorem nU {it:XI} {t:XT} {e:XE} {τ:Nv} {S S1:Sto} {r:R Vl} (hC:xLC it 1 (gNm 0) t e τ S=r) {α:Type} {d g:α→D} {xs:List α} (hit:it τ S=.ok ⟨xs.map fun x=>Vl.d (d x),none⟩ S1) (p:α→Bool) (ht:∀ x∈xs,∀ S:Sto,t (some (.d (d x)) :: τ) S=.ok (p x) S) (he:∀ x∈xs,p x=true→∀ S:Sto,e (some (.d (d x)) :: τ) S=.ok (.d (g x)) S):r=.ok (.d (.lst ((xs.filter p).map g))) S1:=by
 obtain ⟨acc,Q,e1,hl,rfl,rfl⟩:=By hC hit (fun i acc Q=>acc=((xs.take i).filter p).map g∧Q=S1) ⟨by simp,rfl⟩ (by
  rintro i z acc Q hz ⟨rfl,rfl⟩ _
  rw [List.getElem?_map] at hz
  cases q:xs[i]? with
  | none=>rw [q] at hz;cases hz
  | some x=>
   rw [q] at hz
   cases hz
   have hx:=List.mem_of_getElem? q
   refine ⟨p x,Q,ht x hx _,rfl,fun hb=>⟨g x,Q,he x hx hb _,rfl,?_,rfl⟩,fun hb=>⟨?_,rfl⟩⟩
   ·rw [take_snoc q,List.filter_append,List.map_append]
    simp [hb]
   ·rw [take_snoc q,List.filter_append]
    simp [hb])
 rw [e1,List.length_map,List.take_length]
theorem eX {ws:List Int}:(ws.map D.int).map Vl.d=ws.map fun x=>Vl.d (.int x):=by rw [List.map_map];rfl
theorem lcG {it:XI} {k:Nat} {g:XG} {t:XT} {e:XE} {τ:Nv} {S S1:Sto} {items:List Vl} (hit:it τ S=.ok ⟨items,none⟩ S1) (own:Vl→Nv) (f:Vl→D) (p:Vl→Bool) (hown:∀ z∈items,(own z).length=k) (hg:∀ z∈items,∀ ρ:Nv,ρ.length=k→∀ S:Sto,g z (ρ++τ) S=.ok (own z++τ) S)
  (ht:∀ z∈items,∀ S:Sto,t (own z++τ) S=.ok (p z) S) (he:∀ z∈items,p z=true→∀ S:Sto,e (own z++τ) S=.ok (.d (f z)) S):xLC it k g t e τ S=.ok (.d (.lst ((items.filter p).map f))) S1:=by
 have key:∀ (zs:List Vl) (acc:List D) (ρ:Nv),(∀ z∈zs,z∈items)→ρ.length=k→c7 g t e S1.length none zs acc (ρ++τ) (S1++[.lst acc])=.ok (acc++(zs.filter p).map f) (S1++[.lst (acc++(zs.filter p).map f)]):=by
  intro zs
  induction zs with
  | nil=>
   intro acc ρ _ _
   rw [c7,if_pos (by simp)]
   simp
  | cons z zs ih=>
   intro acc ρ hz hl
   have hm:=hz z (List.mem_cons_self ..)
   rw [c7,hg z hm ρ hl,aE,ht z hm,aE]
   by_cases hp:p z=true
   ·rw [if_pos hp,he z hm hp,aE]
    dsimp only
    rw [if_pos ⟨by simp,True.intro⟩]
    rw [show (S1++[Ob.lst acc]).set S1.length (.lst (acc++[f z]))=S1++[.lst (acc++[f z])] by simp]
    rw [ih (acc++[f z]) (own z) (fun y hy=>hz y (List.mem_cons_of_mem _ hy)) (hown z hm),List.filter_cons_of_pos hp,List.map_cons,List.append_assoc]
    rfl
   ·rw [if_neg hp,if_pos (show gok none (S1++[Ob.lst acc]) from True.intro),ih acc (own z) (fun y hy=>hz y (List.mem_cons_of_mem _ hy)) (hown z hm),List.filter_cons_of_neg hp]
 show (it τ S).bind _=_
 rw [hit,aE]
 dsimp only
 rw [key items [] (List.replicate k none) (fun _ h=>h) (by simp),aE]
 unfold jr
 rw [if_pos (by simp),List.take_left]
 simp
theorem zK {xs:List D}:D.bS xs []=xs.isEmpty:=by cases xs<;>simp [D.bS]
theorem lR {ns:List Int} {S:Sto}:bG [.d (aj ns)] S=.ok (.d (.int ns.length)) S:=by unfold aj;rw [qI,List.length_map]
theorem oF {ns:List Int} {v:Int} {S:Sto}:oIn (.d (.int v)) (.d (aj ns)) S=.ok (.d (.bl (decide (v∈ns)))) S:=Bk
theorem lU {ns:List Int} {v:Int} {S:Sto}:fM (.d (.int v)) (.d (aj ns)) S=.ok (.d (.bl (!decide (v∈ns)))) S:=wJ
theorem tG {α β:Type} {f:α→β} {l:List α}:(l.map f).isEmpty=l.isEmpty:=by cases l<;>rfl
theorem BF {α β:Type} {f:α→β}:∀ {l:List α},l.Nodup→(∀ x∈l,∀ y∈l,f x=f y→x=y)→(l.map f).Nodup
 | [],_,_=>List.nodup_nil
 | a :: l,h,k=>by
  rw [List.nodup_cons] at h
  rw [List.map_cons,List.nodup_cons]
  refine ⟨fun hm=>?_,BF h.2 fun x hx y hy=>k x (List.mem_cons_of_mem _ hx) y (List.mem_cons_of_mem _ hy)⟩
  obtain ⟨y,hy,e⟩:=List.mem_map.mp hm
  have:=k a (List.mem_cons_self ..) y (List.mem_cons_of_mem _ hy) e.symm
  exact h.1 (this ▸ hy)
theorem EG {kvs:List (Key×D)} {yd z:D} {k:Key} {S:Sto} (hk:gX yd=some k) (hv:e_ kvs k=some z):oDx (.fd kvs) (.d yd) S=.ok (.d z) S:=by
 unfold oDx
 dsimp only
 rw [hk]
 simp only [js,hv]
theorem rK {S:Sto} {x:Ob}:(S++[x])[S.length]?=some x:=by simp
theorem t9 {S:Sto} {x y:Ob}:(S++[x]).set S.length y=S++[y]:=by simp
theorem vA {S R:Sto} {kvs:List (Key×D)}:frz (.r S.length) (S++[.dct kvs])=.ok (.fd kvs) (S++[.dead]):=by
 unfold frz
 simp
theorem DO {S R:Sto} {kvs:List (Key×D)} {τ:Nv}:leave S (.ok (.rt (.fd kvs),τ) (S++R))=.ok (.fd kvs) S:=by
 unfold leave out
 simp
theorem AD {kvs:List (Key×D)} {k:Key} {v:D} (h:k∉kvs.map (·.1)):putD kvs k v=kvs++[(k,v)]:=by
 unfold putD
 rw [if_neg]
 intro z
 obtain ⟨x,hx,hk⟩:=List.any_eq_true.mp z
 exact h (List.mem_map.mpr ⟨x,hx,by simpa using hk⟩)
theorem pO:∀ {l kvs:List (Key×D)},(l.map (·.1)).Nodup→(∀ k∈l.map (·.1),k∉kvs.map (·.1))→c5 kvs l=kvs++l
 | [],kvs,_,_=>by simp [c5]
 | p :: l,kvs,hn,hd=>by
  rw [List.map_cons] at hn hd
  obtain ⟨h1,h2⟩:=List.nodup_cons.mp hn
  show c5 (putD kvs p.1 p.2) l=_
  rw [AD (hd p.1 (by simp)),pO h2,List.append_assoc]
  ·rfl
  ·intro k hk z
   rw [List.map_append] at z
   rcases List.mem_append.mp z with z | z
   ·exact hd k (by simp [hk]) z
   ·rw [List.map_cons,List.map_nil,List.mem_singleton] at z
    exact h1 (z ▸ hk)
theorem qS {ns:List Int} {i:Nat} {S:Sto} (h:i < ns.length):oIx (.d (aj ns)) (.d (.int (i:Int))) S=.ok (.d (.int (ns.getD i 0))) S:=df (v7 h)
theorem sv:∀ {ns f:List Int},((ns.zip f).map (·.1)).Sublist ns
 | [],_=>by simp
 | _ :: _,[]=>by simp
 | n :: ns,a :: f=>by simpa using (sv (ns:=ns) (f:=f)).cons₂ n
theorem vt {ns:List Int}:lr (ns.map D.int)=some (ns.map Sum.inl):=by
 induction ns with
 | nil=>rfl
 | cons n ns ih=>simp only [List.map_cons,lr,ih,gX]
theorem yM {o:Ob} {R:Sto} {wss:List (List Int)} (hp:Pen o) (h0:1≤wss.length) (h1:wss.length≤50):∃ (vss:List (List Int)) (o':Ob),bM wss.length 3 vss∧vss.length=wss.length∧Pen o'∧gf [.r 0,.d (aq wss)] (o :: R)=.ok (.d (aq vss)) (o' :: R):=by
 unfold gf
 rw [cZ]
 unfold lP aq
 obtain ⟨a,o1,a0,a1,hp1,e1⟩:=bQ (R:=R) (m:=15) hp (by decide) (by decide)
 walk_at "mx"
 erw [e1]
 obtain ⟨acc,Q,e4,hl,o3,vss,hp3,rfl,rfl,hw,hg⟩:=mq (show _=lH [some (.r 0),some (.d (.tup (wss.map aj))),some (.d (.int (a - 9)))] (o1 :: R) from rfl) (S1:=o1 :: R) (items:=(wss.map aj).map Vl.d) (by walk_at "mx")
  (fun i acc Q=>∃ (o':Ob) (vss:List (List Int)),Pen o'∧acc=vss.map aj∧Q=o' :: R∧vss.length=i∧∀ ws∈vss,GoodW 3 ws) ⟨o1,[],hp1,rfl,rfl,rfl,fun _ h=>by cases h⟩ (by
   rintro i z acc Q hz ⟨o',vss,hp',rfl,rfl,hw,hg⟩ _
   obtain ⟨ws,o3,gw,hp3,e3⟩:=pv (R:=R++[.lst (vss.map aj)]) (most:=3) (near:=a - 9) hp' (by decide) (by decide) (by omega) (by omega)
   refine ⟨aj ws,o3 :: R,?_,rfl,o3,vss++[ws],hp3,jm.symm,rfl,by simp [hw],fun w hm=>?_⟩
   ·walk_at "mx"
    erw [e3]
   ·rcases List.mem_append.mp hm with q | q
    ·exact hg w q
    ·rw [List.mem_singleton.mp q];exact gw)
 erw [e4]
 have hw':vss.length=wss.length:=by simpa using hw
 refine ⟨vss,o3,⟨by omega,by omega,hg⟩,hw',hp3,?_⟩
 rw [dR,e9]
def grow (found:List (List Int)) (ws:List Int):List (List Int):=found.flatMap fun f=>ws.map fun w=>f++[w]
def dw (wss:List (List Int)):List (List Int):=wss.foldl grow [[]]
theorem iq {wss:List (List Int)} {ws:List Int}:dw (wss++[ws])=grow (dw wss) ws:=by unfold dw;rw [List.foldl_append];rfl
theorem yU {found:List (List Int)} {f ws:List Int}:grow (found++[f]) ws=grow found ws++ws.map fun w=>f++[w]:=by simp [grow]
theorem ma {ws:List Int}:∀ found:List (List Int),(grow found ws).length=found.length * ws.length
 | []=>by simp [grow]
 | f :: found=>by
  have:=ma (ws:=ws) found
  rw [show grow (f :: found) ws=(ws.map fun w=>f++[w])++grow found ws from rfl,List.length_append,this,List.length_map,List.length_cons,Nat.succ_mul]
  omega
theorem lY {wss:List (List Int)}:∀ (n:Nat),n≤wss.length→∀ f∈dw (wss.take n),f.length=n∧∀ i,i < n→f.getD i 0∈wss.getD i []:=by
 intro n
 induction n with
 | zero=>
  intro _ f hf
  have:f=[]:=by simpa [dw] using hf
  subst this
  exact ⟨rfl,fun i hi=>by omega⟩
 | succ n ih=>
  intro hn f hf
  have hlt:n < wss.length:=by omega
  rw [take_snoc (List.getElem?_eq_getElem hlt),iq] at hf
  unfold grow at hf
  obtain ⟨g,hg,hm⟩:=List.mem_flatMap.mp hf
  obtain ⟨w,hw,rfl⟩:=List.mem_map.mp hm
  obtain ⟨g1,g2⟩:=ih (by omega) g hg
  refine ⟨by simp [g1],fun i hi=>?_⟩
  by_cases hin:i < n
  ·have e:(g++[w]).getD i 0=g.getD i 0:=by
    rw [List.getD_eq_getElem?_getD,List.getD_eq_getElem?_getD,List.getElem?_append_left (show i < g.length by omega)]
   rw [e]
   exact g2 i hin
  ·have:i=n:=by omega
   subst this
   have e:(g++[w]).getD i 0=w:=by
    rw [List.getD_eq_getElem?_getD,List.getElem?_append_right (show g.length≤i by omega),g1]
    simp
   rw [e,List.getD_eq_getElem?_getD,List.getElem?_eq_getElem hlt]
   exact hw
theorem Ae {wss:List (List Int)} (h:∀ ws∈wss,ws.length≤4):∀ (n:Nat),n≤wss.length→(dw (wss.take n)).length≤4 ^ n:=by
 intro n
 induction n with
 | zero=>intro _;simp [dw]
 | succ n ih=>
  intro hn
  have hlt:n < wss.length:=by omega
  rw [take_snoc (List.getElem?_eq_getElem hlt),iq,ma,Nat.pow_succ]
  exact Nat.mul_le_mul (ih (by omega)) (h _ (List.getElem_mem hlt))
theorem pf {ps:List (List Int)} {i:Nat} {z:Vl} (h:((ps.map aj).map Vl.d)[i]?=some z):∃ p,ps[i]?=some p∧z=.d (aj p):=by
 rw [List.getElem?_map,List.getElem?_map] at h
 cases q:ps[i]? with
 | none=>rw [q] at h;cases h
 | some p=>rw [q] at h;cases h;exact ⟨p,rfl,rfl⟩
def addW (f:List Int):D→D
 | .int w=>aj (f++[w])
 | z=>z
theorem HJ {n:Nat} {S:Sto} {xs:List D} (e:S[n]?=some (.lst xs)):frz (.r n) S=.ok (.d (.lst xs)) (S.set n .dead):=by
 unfold frz
 dsimp only
 rw [e]
theorem pR {wss:List (List Int)} {S:Sto} (h:∀ ws∈wss,ws.length≤4) (hl:wss.length≤4):eT [.d (aq wss)] S=.ok (.d (.lst ((dw wss).map aj))) S:=by
 unfold eT
 rw [b5]
 unfold jG aq
 walk_at "mx"
 obtain ⟨τ',S',e,x2,x3,x4,Z,rfl,rfl⟩:=cX (show _=jL [some (.d (.tup (wss.map aj))),some (.d (.lst [.tup []])),none,none,none] S from rfl) (S1:=S) (items:=(wss.map aj).map Vl.d) (gd:=none) (by walk_at "mx")
  (fun i τ S'=>∃ x2 x3 x4 Z,τ=[some (.d (.tup (wss.map aj))),some (.d (.lst ((dw (wss.take i)).map aj))),x2,x3,x4]∧S'=S++Z) ⟨none,none,none,[],rfl,by simp⟩ (by
   rintro i z τ S' hz ⟨x2,x3,x4,Z,rfl,rfl⟩
   obtain ⟨ws,ew,rfl⟩:=pf hz
   have hi:=(List.getElem?_eq_some_iff.mp ew).1
   have hw:=h ws (List.mem_of_getElem? ew)
   have hfl:=Ae h i (by omega)
   have h44:4 ^ i≤4 ^ 4:=Nat.pow_le_pow_right (by decide) (by omega)
   generalize hF:dw (wss.take i)=F at hfl
   generalize hSZ:S++Z=SZ
   have inner:∃ x4',fS [some (.d (.tup (wss.map aj))),some (.d (.lst (F.map aj))),some (.d (aj ws)),some (.r SZ.length),x4] (SZ++[.lst []])=.ok (.nx,[some (.d (.tup (wss.map aj))),some (.d (.lst (F.map aj))),some (.d (aj ws)),some (.r SZ.length),x4']) (SZ++[.lst ((grow F ws).map aj)]):=by
    obtain ⟨τ',S',e,x4',rfl,rfl⟩:=cX (show _=fS [some (.d (.tup (wss.map aj))),some (.d (.lst (F.map aj))),some (.d (aj ws)),some (.r SZ.length),x4] (SZ++[.lst []]) from rfl) (S1:=SZ++[.lst []]) (items:=(F.map aj).map Vl.d) (gd:=none) (by walk_at "mx")
     (fun j τ S'=>∃ x4',τ=[some (.d (.tup (wss.map aj))),some (.d (.lst (F.map aj))),some (.d (aj ws)),some (.r SZ.length),x4']∧S'=SZ++[.lst ((grow (F.take j) ws).map aj)]) ⟨x4,rfl,rfl⟩ (by
      rintro j z τ S' hz ⟨x4',rfl,rfl⟩
      obtain ⟨f,ef,rfl⟩:=pf hz
      have hj:=(List.getElem?_eq_some_iff.mp ef).1
      have hgl:=ma (ws:=ws) (F.take j)
      have hgl2:(F.take j).length * ws.length≤256 * 4:=Nat.mul_le_mul (by simp;omega) hw
      have hff:f.length≤4:=((by have:=(lY (wss:=wss) i (by omega) f (by rw [hF];exact List.mem_of_getElem? ef)).1;omega):f.length≤4)
      refine ⟨_,_,.nx,_,_,by walk_at "mx";rfl,by
       walk_at "mx"
       rw [gm (show _=jJ [some (.d (.tup (wss.map aj))),some (.d (.lst (F.map aj))),some (.d (aj ws)),some (.r SZ.length),some (.d (aj f))] (SZ++[.lst ((grow (F.take j) ws).map aj)]) from rfl) (xs:=ws.map D.int) (S1:=SZ++[.lst ((grow (F.take j) ws).map aj)]) (by walk_at "mx";rfl) (addW f) (by
        intro x hx S
        obtain ⟨w,hw,rfl⟩:=List.mem_map.mp hx
        unfold addW aj
        walk_at "mx"
        rw [r_ (by simp;omega),List.map_append]
        rfl)]
       walk_at "mx"
       erw [EU (by simp only [List.length_map];omega)]
       rfl,.inl rfl,True.intro,some (.d (aj f)),rfl,?_⟩
      rw [take_snoc ef,yU,List.map_append,List.map_map,List.map_map]
      rfl)
    rw [show ((F.map aj).map Vl.d).length=F.length by simp,List.take_length] at e
    exact ⟨x4',e⟩
   obtain ⟨x4',e⟩:=inner
   refine ⟨_,_,.nx,_,_,by walk_at "mx";rfl,by
    walk_at "mx"
    erw [e]
    erw [HJ qO]
    rfl,.inl rfl,True.intro,some (.d (aj ws)),some (.r SZ.length),x4',Z++[.dead],?_,?_⟩
   ·rw [take_snoc ew,iq,hF]
   ·rw [← hSZ];simp)
 rw [e]
 erw [show ((wss.map aj).map Vl.d).length=wss.length by simp,List.take_length]
 rw [Aw]
theorem Cv {wss:List (List Int)} {f:List Int} (hl:f.length=wss.length) (hm:∀ i,i < wss.length→f.getD i 0∈wss.getD i []):f∈dw wss:=by
 have key:∀ n,n≤wss.length→f.take n∈dw (wss.take n):=by
  intro n
  induction n with
  | zero=>intro _;simp [dw]
  | succ n ih=>
   intro hn
   have h1:n < wss.length:=by omega
   have h2:n < f.length:=by omega
   rw [take_snoc (List.getElem?_eq_getElem h1),take_snoc (List.getElem?_eq_getElem h2),iq]
   refine List.mem_flatMap.mpr ⟨_,ih (by omega),List.mem_map.mpr ⟨f[n],?_,rfl⟩⟩
   have:=hm n h1
   rw [List.getD_eq_getElem?_getD,List.getD_eq_getElem?_getD,List.getElem?_eq_getElem h1,List.getElem?_eq_getElem h2] at this
   exact this
 have:=key wss.length (Nat.le_refl _)
 rw [List.take_length,List.take_of_length_le (by omega)] at this
 exact this
theorem vO {v:Int} {S:Sto}:eN [.d (.int v)] S=.ok (.d (.bl true)) S:=by
 unfold eN
 rw [b5]
 unfold jD
 walk_at "mx"
 erw [show isT "int" (.int v)=true from rfl]
 erw [show isT "bool" (.int v)=false from rfl]
 rw [aO]
theorem iW:∀ l:List (List Int),D.b_ (l.map aj)≤1
 | []=>by simp [D.b_]
 | f :: l=>by
  have:=iW l
  rw [List.map_cons,D.b_,show D.depth (aj f)=1 by unfold aj;rw [D.depth,mQ]]
  omega
theorem zi {f:List Int} {L:List (List Int)} {S:Sto} (h:f∈L):oIn (.d (aj f)) (.d (.lst (L.map aj))) S=.ok (.d (.bl true)) S:=by
 have hd:=iW L
 unfold oIn inX
 dsimp only
 rw [show bN (.d (.lst (L.map aj))) S=some (L.map aj) from rfl]
 dsimp only
 rw [show D.flat (aj f)=false from rfl,if_neg (by simp),show cE (.d (.lst (L.map aj))) S=some (L.map aj) from rfl]
 dsimp only
 rw [if_pos (by omega)]
 have:inD (aj f) (L.map aj)=true:=by
  unfold inD
  rw [List.any_map,List.any_eq_true]
  exact ⟨f,h,by show D.eqv (aj f) (aj f)=true;exact D.eqv_refl _⟩
 rw [this]
theorem F3 {d k e:XE} {τ:Nv} {S S1 S2 S3:Sto} {kvs:List (Key×D)} {yd zd:D} {key:Key} (h1:d τ S=.ok (.fd kvs) S1) (h2:k τ S1=.ok (.d yd) S2) (h3:e τ S2=.ok (.d zd) S3) (hk:gX yd=some key):qm d k e τ S=.ok (.d ((e_ kvs key).getD zd)) S3:=by
 unfold qm
 rw [h1,aE]
 rw [if_pos (show (js (.fd kvs) S1).isSome=true from rfl),h2,aE,h3,aE]
 dsimp only
 rw [hk]
 rfl
theorem tR {ps:List Int} {S:Sto}:cG [.d (aj ps)] S=.ok (.d (.bl true)) S:=by
 unfold cG
 rw [b5]
 unfold ip
 walk_at "mx"
 erw [show isT "tuple" (aj ps)=true from rfl]
 rw [gm (show _=ic [some (.d (aj ps))] S from rfl) (xs:=ps.map D.int) (S1:=S) (by unfold aj;walk_at "mx") (fun _=>.bl true) (by
  intro x hx S
  obtain ⟨v,_,rfl⟩:=List.mem_map.mp hx
  walk_at "mx"
  rw [vO]
  walk_at "mx")]
 walk_at "mx"
 erw [all_true]
 rw [aO]
def vls (f ns:List Int):List Int:=ns.map fun n=>f.getD n.toNat 0
theorem ue {f ns:List Int}:(vls f ns).length=ns.length:=by unfold vls;rw [List.length_map]
theorem uL {n m:Int} {wss:List (List Int)} (gs:bM n m wss) (hn:n≤4) (hm:m≤4):bM 4 4 wss:=⟨gs.pos,by have:=gs.le;omega,fun ws h=>⟨(gs.all ws h).rise,(gs.all ws h).lim,(gs.all ws h).pos,by have:=(gs.all ws h).le;omega⟩⟩
theorem t8 {x y:D} {S:Sto}:oIx (.d (.lst [x,y])) (.d (.int 0)) S=.ok (.d x) S:=i5 rfl
theorem uv {x y:D} {S:Sto}:oIx (.d (.lst [x,y])) (.d (.int 1)) S=.ok (.d y) S:=i5 rfl
theorem sJ {xs ys:List Int} {i:Nat} {z:Vl} (h:(c_ (xs.map D.int) (ys.map D.int))[i]?=some z):∃ x y,xs[i]?=some x∧ys[i]?=some y∧z=.d (.tup [.int x,.int y]):=by
 obtain ⟨a,b,e1,e2,rfl⟩:=gD h
 rw [List.getElem?_map] at e1 e2
 cases q1:xs[i]? with
 | none=>rw [q1] at e1;cases e1
 | some x=>
  cases q2:ys[i]? with
  | none=>rw [q2] at e2;cases e2
  | some y=>
   rw [q1] at e1;rw [q2] at e2
   cases e1;cases e2
   exact ⟨x,y,rfl,rfl,rfl⟩
theorem u7 {a b lo hi:Int} {S:Sto} (h:lo≤a∧a≤b∧b≤hi):hV [.d (.int a),.d (.int b),.d (.int lo),.d (.int hi)] S=.ok (.d (.bl true)) S:=by
 unfold hV
 rw [nK]
 unfold mz
 walk_at "mx"
 erw [gQ (by omega)]
 erw [gQ (by omega)]
 rw [decide_eq_true h.2.1,aO]
theorem nE:decide ((Str.ofString "sum":Str)=Str.ofString "unlike")=false:=by decide +kernel
theorem m9:decide ((Str.ofString "sum":Str)=Str.ofString "many")=false:=by decide +kernel
theorem Ap {ps:List Int}:ps=bI ps↔ps.Pairwise (· < ·):=⟨fun h=>by rw [h];exact gg ps,fun h=>mh (fun _=>Iff.rfl) h⟩
theorem uJ {it:XI} {g:XG} {b:XS} {τ:Nv} {S:Sto} {r:R (Fl×Nv)} (hL:cC it g b τ S=r) {α:Type} {d:α→Vl} {xs:List α} (hit:it τ S=.ok ⟨xs.map d,none⟩ S) (ok:α→Bool) (J:Nv→Prop) (h0:J τ)
  (hs:∀ x∈xs,∀ τ,J τ→∃ τ1 τ2,g (d x) τ S=.ok τ1 S∧J τ2∧b τ1 S=.ok ((if ok x then .nx else .rt (.d (.bl false))),τ2) S):∃ τ',J τ'∧r=.ok ((if xs.all ok then .nx else .rt (.d (.bl false))),τ') S:=by
 obtain ⟨τ',h',e⟩:=rT xs τ h0 hs
 refine ⟨τ',h',?_⟩
 rw [← hL,mT,hit,qk]
 exact e
theorem ints_list {s:List Int} {S:Sto}:kN [.d (aj s)] S=.ok (.d (.lst (s.map D.int))) S:=by
 unfold aj
 walk_at "mx"
theorem q0 {t:XT} {e:XE} {τ:Nv} {S1:Sto} {n:Nat} {ob:Ob} {α:Type} {d g:α→D} (hn:S1[n]?=some ob) (p:α→Bool):∀ (xs:List α) (acc:List D) (ρ:Nv),ρ.length=1→(∀ x∈xs,∀ S:Sto,t (some (.d (d x)) :: τ) S=.ok (p x) S)→(∀ x∈xs,p x=true→∀ S:Sto,e (some (.d (d x)) :: τ) S=.ok (.d (g x)) S) →
  c7 (gNm 0) t e S1.length (some (n,ob)) (xs.map fun x=>Vl.d (d x)) acc (ρ++τ) (S1++[.lst acc])=.ok (acc++(xs.filter p).map g) (S1++[.lst (acc++(xs.filter p).map g)])
 | [],acc,ρ,_,_,_=>by
  rw [List.map_nil,c7,if_pos (by simp)]
  simp
 | x :: xs,acc,[r],hρ,ht,he=>by
  have hlt:n < S1.length:=(List.getElem?_eq_some_iff.mp hn).1
  have gk:∀ l,gok (some (n,ob)) (S1++[Ob.lst l]):=fun l=>by
   show (S1++[Ob.lst l])[n]?=some ob
   rw [List.getElem?_append_left hlt];exact hn
  have set_top:∀ l l',(S1++[Ob.lst l]).set S1.length (.lst l')=S1++[.lst l']:=fun l l'=>by simp
  rw [List.map_cons,c7]
  rw [show gNm 0 (Vl.d (d x)) ([r]++τ) (S1++[.lst acc])=.ok (some (.d (d x)) :: τ) (S1++[.lst acc]) from rfl,aE,ht x (by simp),aE]
  cases hp:p x with
  | true=>
   rw [if_pos rfl,he x (by simp) hp,aE]
   dsimp only
   rw [if_pos ⟨by simp,by rw [set_top];exact gk _⟩,set_top]
   have:=q0 hn p (d:=d) (g:=g) xs (acc++[g x]) [some (.d (d x))] rfl (fun y hy=>ht y (by simp [hy])) (fun y hy=>he y (by simp [hy]))
   rw [List.filter_cons,if_pos hp,List.map_cons]
   simpa using this
  | false=>
   rw [if_neg (by decide),if_pos (gk _)]
   have:=q0 hn p (d:=d) (g:=g) xs acc [some (.d (d x))] rfl (fun y hy=>ht y (by simp [hy])) (fun y hy=>he y (by simp [hy]))
   rw [List.filter_cons,if_neg (by simp [hp])]
   exact this
theorem sg {it:XI} {t:XT} {e:XE} {τ:Nv} {S S1:Sto} {r:R Vl} (hC:xLC it 1 (gNm 0) t e τ S=r) {α:Type} {d g:α→D} {xs:List α} {n:Nat} {ob:Ob} (hit:it τ S=.ok ⟨xs.map fun x=>Vl.d (d x),some (n,ob)⟩ S1) (hn:S1[n]?=some ob) (p:α→Bool) (ht:∀ x∈xs,∀ S:Sto,t (some (.d (d x)) :: τ) S=.ok (p x) S) (he:∀ x∈xs,p x=true→∀ S:Sto,e (some (.d (d x)) :: τ) S=.ok (.d (g x)) S):r=.ok (.d (.lst ((xs.filter p).map g))) S1:=by
 rw [← hC]
 unfold xLC oh
 rw [hit,aE]
 dsimp only
 rw [show (List.replicate 1 (none:Option Vl)++τ)=[none]++τ from rfl,q0 hn p xs [] [none] rfl ht he,aE]
 unfold jr
 simp
theorem om {p:List (List Int)} {n i:Nat} {S:Sto} (hn:S[n]?=some (.lst (p.map aj))) (h:i < p.length):oIx (.r n) (.d (.int (i:Int))) S=.ok (.d (aj (p.getD i []))) S:=kM hn (l4 (by rw [List.getElem?_map,List.getElem?_eq_getElem h,List.getD_eq_getElem?_getD,List.getElem?_eq_getElem h];rfl))
theorem Em {p:List (List Int)} {n:Nat} {S:Sto} (hn:S[n]?=some (.lst (p.map aj))) (h:0 < p.length):oIx (.r n) (.d (.int 0)) S=.ok (.d (aj (p.getD 0 []))) S:=om (i:=0) hn h
theorem xX {p:List (List Int)} {n k:Nat} {S:Sto} (hn:S[k]?=some (.lst (p.map aj))) (h:p.length=n+1):oIx (.r k) (.d (.int (-1))) S=.ok (.d (aj (p.getD n []))) S:=kM hn (by
 rw [rq (n:=n) (by simp [h]),List.getElem?_map,List.getD_eq_getElem?_getD,List.getElem?_eq_getElem (by omega)];rfl)
theorem Ig {xs:List D} {n:Nat} {S:Sto} (hn:S[n]?=some (.lst xs)):bG [.r n] S=.ok (.d (.int xs.length)) S:=by unfold bG bN cE;simp [hn]
theorem Ei {a:XE} {τ:Nv} {xs:List D} {n:Nat} {S S1:Sto} (ha:a τ S=.ok (.r n) S1) (hn:S1[n]?=some (.lst xs)):bZ a τ S=.ok ⟨xs.map Vl.d,some (n,.lst xs)⟩ S1:=by unfold bZ;rw [ha,aE];simp [hn]
abbrev Way:=Int×List Int
def wyD (x:Way):Key×D:=(.inl x.1,aj x.2)
def fN (W:List Way) (q:Int) (f:List Int):List Way:=if (W.any fun x=>decide (x.1=q))=true then W.map (fun x=>if x.1=q then (x.1,f) else x) else W++[(q,f)]
theorem Fi {a b:Int}:decide ((Sum.inl a:Key)=Sum.inl b)=decide (a=b):=by
 by_cases h:a=b
 ·subst h;simp
 ·rw [decide_eq_false h,decide_eq_false (fun z=>h (Sum.inl.inj z))]
theorem FK {W:List Way} {q:Int} {f:List Int}:putD (W.map wyD) (.inl q) (aj f)=(fN W q f).map wyD:=by
 unfold putD fN
 rw [List.any_map]
 have e:((fun kv:Key×D=>decide (kv.1=Sum.inl q)) ∘ wyD)=fun x:Way=>decide (x.1=q):=by funext x;exact Fi
 rw [e]
 by_cases h:(W.any fun x=>decide (x.1=q))=true
 ·rw [if_pos h,if_pos h,List.map_map,List.map_map]
  refine List.map_congr_left fun x _=>?_
  show (if (wyD x).1=Sum.inl q then ((wyD x).1,aj f) else wyD x)=wyD (if x.1=q then (x.1,f) else x)
  by_cases hx:x.1=q
  ·rw [if_pos (show (wyD x).1=Sum.inl q by rw [← hx];rfl),if_pos hx];rfl
  ·rw [if_neg (show ¬(wyD x).1=Sum.inl q from fun z=>hx (Sum.inl.inj z)),if_neg hx]
 ·rw [if_neg h,if_neg h,List.map_append];rfl
theorem zR {W:List Way} {q:Int} {f:List Int} {x:Way} (h:x∈fN W q f):x∈W∨x=(q,f):=by
 unfold fN at h
 split at h
 ·obtain ⟨y,hy,e⟩:=List.mem_map.mp h
  split at e
  ·rename_i hq;exact .inr (by rw [← e,hq])
  ·exact .inl (by rw [← e];exact hy)
 ·rcases List.mem_append.mp h with h | h
  ·exact .inl h
  ·exact .inr (List.mem_singleton.mp h)
def aL (W:List Way):List Int:=W.map (·.1)
theorem pI {W:List Way} {q:Int} {f:List Int}:aL (fN W q f)=if q∈aL W then aL W else aL W++[q]:=by
 have hm:(W.any fun x=>decide (x.1=q))=true↔q∈aL W:=by simp [aL]
 unfold fN
 by_cases h:q∈aL W
 ·rw [if_pos (hm.mpr h),if_pos h]
  unfold aL
  rw [List.map_map]
  refine List.map_congr_left fun x _=>?_
  simp only [Function.comp]
  split<;>rfl
 ·rw [if_neg (fun z=>h (hm.mp z)),if_neg h]
  simp [aL]
theorem CV {W:List Way} {q:Int} {f:List Int} (h:(aL W).Nodup):(aL (fN W q f)).Nodup:=by
 rw [pI]
 split
 ·exact h
 ·rename_i hq
  refine List.nodup_append.mpr ⟨h,by simp,fun a ha b hb=>?_⟩
  rw [List.mem_singleton.mp hb]
  exact fun z=>hq (z ▸ ha)
theorem oj {W:List Way} {q z:Int} {f:List Int}:z∈aL (fN W q f)↔z∈aL W∨z=q:=by
 rw [pI]
 split
 ·rename_i h
  exact ⟨.inl,fun z=>z.elim id fun e=>e ▸ h⟩
 ·simp
theorem dY {α β:Type} (P:β→Prop) {f:β→α→β}:∀ (l:List α) (b:β),P b→(∀ b,∀ a∈l,P b→P (f b a))→P (l.foldl f b)
 | [],_,h,_=>h
 | x :: l,b,h,hs=>dY P l (f b x) (hs b x (by simp) h) fun b a ha=>hs b a (by simp [ha])
theorem lW {α β:Type} (P:β→Prop) {f:β→α→β} (hm:∀ b a,P b→P (f b a)) {x:α} (hx:∀ b,P (f b x)):∀ (l:List α) (b:β),x∈l→P (l.foldl f b)
 | y :: l,b,h=>by
  rcases List.mem_cons.mp h with rfl | h
  ·exact dY P l _ (hx b) fun b a _=>hm b a
  ·exact lW P hm hx l _ h
theorem rG {b:Int}:∀ {l:List Int} {a:Int},l.Pairwise (· < ·)→(∀ x∈l,a≤x∧x≤b)→(l.length:Int)≤max 0 (b+1 - a)
 | [],_,_,_=>by simp;omega
 | x :: l,a,h,hb=>by
  obtain ⟨h1,h2⟩:=List.pairwise_cons.mp h
  have:=rG (a:=x+1) h2 fun y hy=>⟨by have:=h1 y hy;omega,(hb y (by simp [hy])).2⟩
  have:=hb x (by simp)
  rw [List.length_cons]
  omega
theorem FC {o i e:XE} {τ:Nv} {S S1 S2 S3:Sto} {n:Nat} {yd zd:D} {k:Key} {kvs:List (Key×D)} (h1:e τ S=.ok (.d zd) S1) (h2:o τ S1=.ok (.r n) S2) (h3:i τ S2=.ok (.d yd) S3) (hk:gX yd=some k) (hn:S3[n]?=some (.dct kvs)) (hl:kvs.length < 100000):qf o i e τ S=.ok (.nx,τ) (S3.set n (.dct (putD kvs k zd))):=by
 unfold qf
 rw [h1,aE,h2,aE,h3,aE]
 dsimp only
 rw [hk,hn]
 dsimp only
 rw [if_pos hl]
theorem wz {W:List Way} {q:Int} {f:List Int} (hnd:(aL W).Nodup) (h:(q,f)∈W):e_ (W.map wyD) (.inl q)=some (aj f):=by
 induction W with
 | nil=>cases h
 | cons x W ih=>
  rw [List.map_cons]
  obtain ⟨h1,h2⟩:=List.nodup_cons.mp hnd
  rcases List.mem_cons.mp h with rfl | h
  ·exact l7 rfl
  ·rw [i0]
   ·exact ih h2 h
   ·intro z
    have e:x.1=q:=Sum.inl.inj z
    exact h1 (List.mem_map.mpr ⟨_,h,e.symm⟩)
theorem DV {τ:Nv} {S:Sto}:vj τ S=.ok (.r S.length) (S++[.dct []]):=ae rfl
def lkW (ns f:List Int) (k:Int):Option Int:=((ns.zip f).find? fun x=>decide (x.1=k)).map (·.2)
def pairD (x:Int×Int):Key×D:=(.inl x.1,.int x.2)
def dc (wss:List (List Int)) (ns f:List Int):List Int:=(List.range wss.length).map fun k=>(lkW ns f (k:Nat)).getD ((wss.getD k []).getD 0 0)
theorem Gs {ns f:List Int} {S:Sto} (hn:ns.Nodup) (hl:ns.length≤60):fDZ [.d (aj ns),.d (aj f)] S=.ok (.r S.length) (S++[.dct ((ns.zip f).map pairD)]):=by
 unfold fDZ aj
 dsimp only
 rw [vt]
 dsimp only
 have e:(ns.map Sum.inl).zip (f.map D.int)=(ns.zip f).map pairD:=by
  rw [List.zip_map]
  rfl
 rw [e,if_pos (by rw [List.length_map,List.length_zip];omega),pO]
 ·rfl
 ·rw [List.map_map]
  have:((ns.zip f).map ((fun x=>x.1) ∘ pairD))=((ns.zip f).map (·.1)).map Sum.inl:=by rw [List.map_map];rfl
  rw [this]
  exact BF (hn.sublist sv) fun x _ y _ z=>Sum.inl.inj z
 ·simp
theorem w4 {ns f:List Int} {k:Int}:e_ ((ns.zip f).map pairD) (.inl k)=(lkW ns f k).map D.int:=by
 unfold lkW
 generalize ns.zip f=l
 induction l with
 | nil=>rfl
 | cons x l ih=>
  rw [List.map_cons]
  by_cases h:x.1=k
  ·rw [l7 (show (pairD x).1=.inl k by rw [← h];rfl)]
   simp [List.find?_cons,h,pairD]
  ·rw [i0 (show ¬(pairD x).1=.inl k from fun z=>h (Sum.inl.inj z)),ih]
   simp [List.find?_cons,h]
theorem mm {wss:List (List Int)} {ns f:List Int} {n m:Int} {S:Sto} (gs:bM n m wss):dC [.d (aq wss),.fd ((ns.zip f).map pairD)] S=.ok (.d (aj (dc wss ns f))) S:=by
 unfold dC
 rw [cZ]
 unfold ik
 have e:eJ [some (.d (aq wss)),some (.fd ((ns.zip f).map pairD))] S=.ok (.d (.lst ((dc wss ns f).map D.int))) S:=by
  unfold eJ
  rw [lcG (items:=cm 0 (wss.map aj)) (S1:=S) (by unfold zb;rfl) (fun z=>match z with | .d (.tup [a,b])=>[some (.d a),some (.d b)] | _=>[none,none]) (fun z=>match z with | .d (.tup [.int k,_])=>.int ((lkW ns f k).getD ((wss.getD k.toNat []).getD 0 0)) | _=>.non) (fun _=>true) ?_ ?_ ?_ ?_]
  ·rw [List.filter_eq_self.mpr (fun _ _=>rfl)]
   congr 3
   refine List.ext_getElem? fun i=>?_
   rw [List.getElem?_map,dh,List.getElem?_map]
   unfold dc
   rw [List.getElem?_map,List.getElem?_map]
   by_cases hi:i < wss.length
   ·rw [List.getElem?_eq_getElem hi,List.getElem?_range hi]
    simp
   ·rw [List.getElem?_eq_none (by omega),List.getElem?_eq_none (by simp;omega)]
    rfl
  ·intro z hz
   obtain ⟨i,hi,rfl⟩:=List.mem_iff_getElem.mp hz
   obtain ⟨x,_,e⟩:=iY (List.getElem?_eq_getElem hi)
   rw [e]
   rfl
  ·intro z hz ρ hρ S
   obtain ⟨i,hi,rfl⟩:=List.mem_iff_getElem.mp hz
   obtain ⟨x,_,e⟩:=iY (List.getElem?_eq_getElem hi)
   rw [e]
   match ρ,hρ with
   | [_,_],_=>walk_at "mx"
  ·intro z hz S
   rfl
  ·intro z hz _ S
   obtain ⟨i,hi,rfl⟩:=List.mem_iff_getElem.mp hz
   obtain ⟨x,hx,e⟩:=iY (List.getElem?_eq_getElem hi)
   rw [e]
   rw [List.getElem?_map] at hx
   cases q:wss[i]? with
   | none=>rw [q] at hx;cases hx
   | some ws=>
    rw [q] at hx
    cases hx
    have hws:=gs.all ws (List.mem_of_getElem? q)
    have hpos:0 < ws.length:=hws.pos
    dsimp only
    rw [F3 (S1:=S) (S2:=S) (S3:=S) (kvs:=(ns.zip f).map pairD) (yd:=.int (i:Nat)) (key:=.inl (i:Nat)) (zd:=.int (ws.getD 0 0)) (by walk_at "mx") (by walk_at "mx") (by
     walk_at "mx"
     exact qS (i:=0) hpos) rfl,w4]
    rw [Int.toNat_natCast,show wss.getD i []=ws by rw [List.getD_eq_getElem?_getD,q];rfl]
    cases lkW ns f (i:Nat)<;>rfl
 walk_at "mx"
 erw [e]
 rw [aO]
 rfl
theorem GJ {τ:Nv} {S:Sto}:qg [(xC (.int 0),xN mkT ak)] τ S=.ok (.r S.length) (S++[.dct ([((0:Int),([]:List Int))].map wyD)]):=by
 unfold qg
 rw [show j9 [(xC (.int 0),xN mkT ak)] τ (S++[.dct []])=.ok [(.d (.int 0),.d (.tup []))] (S++[.dct []]) from rfl,aE]
 rw [show gA [(Vl.d (.int 0),.d (.tup []))]=some [(Sum.inl 0,.tup [])] from rfl,rK]
 dsimp only
 rw [if_pos (by decide),t9]
 rfl
theorem wK {W:List Way}:ff (W.map wyD)=some (aL W):=by
 induction W with
 | nil=>rfl
 | cons x W ih=>
  rw [List.map_cons]
  show (ff (W.map wyD)).map (x.1 :: ·)=_
  rw [ih]
  rfl
theorem BW {a b:D} {S:Sto}:mkP [.d a,.d b] S=.ok (.d (.tup [a,b])) S:=ae rfl
theorem E5 {S:Sto} {P:List D}:mkP [.d (.str "no"),.r (S.length+1)] (S++[.dead]++[.lst P])=.ok (.pr (.str "no") (S.length+1)) (S++[.dead]++[.lst P]):=by
 unfold mkP
 simp
theorem FR {S:Sto} {P:List D} {τ:Nv}:leave S (.ok (.rt (.pr (.str "no") (S.length+1)),τ) (S++[.dead]++[.lst P]))=.ok (.pr (.str "no") S.length) (S++[.lst P]):=by
 unfold leave out
 simp
theorem Bi:∀ {ns f:List Int} {j:Nat},ns.Nodup→j < ns.length→f.length=ns.length→lkW ns f (ns.getD j 0)=some (f.getD j 0)
 | [],_,_,_,h,_=>by simp at h
 | n :: ns,[],_,_,_,h=>by simp at h
 | n :: ns,a :: f,0,_,_,_=>by simp [lkW]
 | n :: ns,a :: f,j+1,hn,hj,hl=>by
  obtain ⟨h1,h2⟩:=List.nodup_cons.mp hn
  have hj':j < ns.length:=by simpa using hj
  have ih:=Bi (ns:=ns) (f:=f) h2 hj' (by simpa using hl)
  have hne:¬n=ns.getD j 0:=fun z=>h1 (by rw [z,List.getD_eq_getElem?_getD,List.getElem?_eq_getElem hj'];exact List.getElem_mem hj')
  unfold lkW at ih ⊢
  rw [List.getD_cons_succ,List.getD_cons_succ,List.zip_cons_cons,List.find?_cons]
  simp only [decide_eq_false hne]
  exact ih
theorem Eb {ns f:List Int} {k v:Int} (h:lkW ns f k=some v):∃ j,j < ns.length∧j < f.length∧ns.getD j 0=k∧f.getD j 0=v:=by
 unfold lkW at h
 obtain ⟨x,hx,hv⟩:=Option.map_eq_some_iff.mp h
 have hm:=List.mem_of_find?_eq_some hx
 have hk:=List.find?_some hx
 obtain ⟨j,hj,e⟩:=List.mem_iff_getElem.mp hm
 rw [List.length_zip] at hj
 rw [List.getElem_zip] at e
 refine ⟨j,by omega,by omega,?_,?_⟩
 ·rw [List.getD_eq_getElem?_getD,List.getElem?_eq_getElem (by omega)]
  have:x.1=k:=by simpa using hk
  rw [← this,← e]
  rfl
 ·rw [List.getD_eq_getElem?_getD,List.getElem?_eq_getElem (by omega),← hv,← e]
  rfl
theorem zC {wss:List (List Int)} {ns f:List Int} (hn:ns.Nodup) (hd:∀ n∈ns,0≤n∧n < (wss.length:Int)) (hl:f.length=ns.length):vls (dc wss ns f) ns=f:=by
 unfold vls
 refine List.ext_getElem (by simp [hl]) fun j h1 h2=>?_
 rw [List.getElem_map]
 have hj:j < ns.length:=by simpa using h1
 have hm:=hd _ (List.getElem_mem hj)
 have:=Bi hn hj hl
 rw [List.getD_eq_getElem?_getD,List.getElem?_eq_getElem hj] at this
 unfold dc
 rw [List.getD_eq_getElem?_getD,List.getElem?_map,List.getElem?_range (by omega)]
 simp only [Option.map_some,Option.getD_some,Int.toNat_of_nonneg hm.1] at this ⊢
 rw [this,Option.getD_some,List.getD_eq_getElem?_getD,List.getElem?_eq_getElem h2]
 rfl
theorem Ay {wss:List (List Int)} {ns f:List Int} {n m:Int} (gs:bM n m wss) (hl:f.length=ns.length) (hm:∀ j,j < ns.length→f.getD j 0∈wss.getD (ns.getD j 0).toNat []):dc wss ns f∈dw wss:=by
 refine Cv (by simp [dc]) fun i hi=>?_
 have e0:(dc wss ns f).getD i 0=(lkW ns f (i:Nat)).getD ((wss.getD i []).getD 0 0):=by
  unfold dc
  rw [List.getD_eq_getElem?_getD,List.getElem?_map,List.getElem?_range hi]
  rfl
 rw [e0]
 cases q:lkW ns f (i:Nat) with
 | some v=>
  obtain ⟨j,h1,h2,h3,h4⟩:=Eb q
  have:=hm j h1
  rw [h3,h4,Int.toNat_natCast] at this
  exact this
 | none=>
  have hw:wss.getD i []∈wss:=by rw [List.getD_eq_getElem?_getD,List.getElem?_eq_getElem hi];exact List.getElem_mem hi
  have hp:=(gs.all _ hw).pos
  rw [Option.getD_none]
  generalize wss.getD i []=l at hp
  rw [List.getD_eq_getElem?_getD,List.getElem?_eq_getElem (show 0 < l.length by omega)]
  exact List.getElem_mem _
theorem B9 {S R:Sto} {τ:Nv} {P:List D}:leave S (.ok (.rt (.pr (.str "no") S.length),τ) (S++[.lst P]))=.ok (.pr (.str "no") S.length) (S++[.lst P]):=by
 unfold leave out
 simp
theorem FO {e:XE} {τ:Nv} {S S1:Sto} {P:List D} (h:e τ S=.ok (.r S1.length) (S1++[.lst P])):vY e τ S=.ok (.d .non) (S1++[.lst []]):=by
 unfold vY
 rw [h,aE]
 simp
local macro_rules | `(tactic| walk_at "my") => `(tactic| repeat (first | walk_at "mx" | simp only [lR, oF, lU, List.length_map]))
def aA (ns cs:List Int) (lo hi:Int):D:=.tup [.str "sum",aj ns,aj cs,.int lo,.int hi]
structure GoodC (ns cs:List Int) (lo hi:Int):Prop where
 len:cs.length=ns.length
 lim:∀ c∈cs,-3≤c∧c≤3
 span:-99≤lo∧lo≤hi∧hi≤99
theorem fj {ns cs:List Int} {lo hi:Int} {S:Sto}:oIx (.d (aA ns cs lo hi)) (.d (.int 0)) S=.ok (.d (.str "sum")) S:=df rfl
theorem ix {ns cs:List Int} {lo hi:Int} {S:Sto}:oIx (.d (aA ns cs lo hi)) (.d (.int 1)) S=.ok (.d (aj ns)) S:=df rfl
theorem sk {ns cs:List Int} {lo hi:Int} {S:Sto}:oIx (.d (aA ns cs lo hi)) (.d (.int 2)) S=.ok (.d (aj cs)) S:=df rfl
theorem vp {ns cs:List Int} {lo hi:Int} {S:Sto}:oIx (.d (aA ns cs lo hi)) (.d (.int 3)) S=.ok (.d (.int lo)) S:=df rfl
theorem uP {ns cs:List Int} {lo hi:Int} {S:Sto}:oIx (.d (aA ns cs lo hi)) (.d (.int 4)) S=.ok (.d (.int hi)) S:=df rfl
theorem w6 {ns cs:List Int} {lo hi:Int} {S:Sto}:bG [.d (aA ns cs lo hi)] S=.ok (.d (.int 5)) S:=qI
theorem uh {o:Ob} {R:Sto} {wss:List (List Int)} {n m:Int} (hp:Pen o) (g:bM n m wss) (hn:n≤50) (hm:m≤50):∃ (ns cs:List Int) (lo hi:Int) (o':Ob),cF wss.length ns∧GoodC ns cs lo hi∧Pen o'∧dS [.r 0,.d (aq wss),.d (.int 2)] (o :: R)=.ok (.d (aA ns cs lo hi)) (o' :: R):=by
 have g0:=g.pos
 have g1:=g.le
 obtain ⟨ns,o1,gn,hp1,e1⟩:=pW (R:=R) (wss:=wss) hp g0 (by omega)
 have gl:=gn.le
 unfold dS
 rw [dk]
 unfold kd
 walk_at "mx"
 erw [e1]
 erw [show decide ((2:Int)=0)=false from rfl]
 erw [show decide ((2:Int)=1)=false from rfl]
 obtain ⟨acc,Q,e4,hl,o3,ws,hp3,rfl,rfl,hw,hlim⟩:=mq (show _=jY [some (.r 0),some (.d (aq wss)),some (.d (.int 2)),some (.d (aj ns)),none,none,none,none,none,none,none] (o1 :: R) from rfl) (S1:=o1 :: R) (items:=(ns.map D.int).map Vl.d) (by unfold aj;walk_at "mx")
  (fun i acc Q=>∃ (o':Ob) (ws:List Int),Pen o'∧acc=ws.map D.int∧Q=o' :: R∧ws.length=i∧∀ w∈ws,-3≤w∧w≤3) ⟨o1,[],hp1,rfl,rfl,rfl,fun _ h=>by cases h⟩ (by
   rintro i z acc Q hz ⟨o',ws,hp',rfl,rfl,hw,hlim⟩ _
   obtain ⟨c,o3,c0,c1,hp3,e3⟩:=bQ (R:=R++[.lst (ws.map D.int)]) (m:=7) hp' (by decide) (by decide)
   refine ⟨.int (c - 3),o3 :: R,?_,rfl,o3,ws++[c - 3],hp3,jm.symm,rfl,by simp [hw],fun w hw=>?_⟩
   ·walk_at "mx"
    erw [e3]
   ·rcases List.mem_append.mp hw with q | q
    ·exact hlim w q
    ·rw [List.mem_singleton.mp q];omega)
 have hw':ws.length=ns.length:=by simpa using hw
 erw [e4]
 obtain ⟨τ',S',e5,o5,tot,x6,x7,hp5,rfl,rfl⟩:=cX (show _=kc [some (.r 0),some (.d (aq wss)),some (.d (.int 2)),some (.d (aj ns)),some (.d (.tup (ws.map D.int))),some (.d (.int 0)),none,none,none,none,none] (o3 :: R) from rfl)
  (S1:=o3 :: R) (gd:=none) (items:=c_ (ns.map D.int) (ws.map D.int)) (by unfold aj;walk_at "mx")
  (fun i τ S=>∃ (o':Ob) (tot:Int) (x6 x7:Option Vl),Pen o'∧τ=[some (.r 0),some (.d (aq wss)),some (.d (.int 2)),some (.d (aj ns)),some (.d (.tup (ws.map D.int))),some (.d (.int tot)),x6,x7,none,none,none]∧S=o' :: R) ⟨o3,0,none,none,hp3,rfl,rfl⟩ (by
   rintro i z τ S hz ⟨o',tot,x6,x7,hp',rfl,rfl⟩
   obtain ⟨nm,wt,en,ew,rfl⟩:=sJ hz
   obtain ⟨p0,p1⟩:=gn.dom nm (List.mem_of_getElem? en)
   have gw:=g.all _ (yT p0 p1)
   have hat:=me p0 p1
   generalize wss.getD nm.toNat []=vs at gw hat
   have w0:=gw.pos
   have w1:=gw.le
   obtain ⟨c,o4,c0,c1,hp4,e4⟩:=bQ (R:=R) (m:=(vs.length:Int)) hp' (by omega) (by omega)
   obtain ⟨v,ev,mv⟩:=fe (ns:=vs) (i:=c) c0 c1
   have lv:=gw.lim v mv
   refine ⟨_,_,.nx,_,_,by walk_at "mx";rfl,by
    walk_at "mx"
    unfold aq
    erw [df hat]
    erw [df hat,show aj vs=.tup (vs.map D.int) from rfl]
    erw [List.length_map,e4]
    erw [df ev]
    erw [m6 (nr (by omega) (by omega))]
    rfl,.inl rfl,True.intro,o4,_,_,_,hp4,rfl,rfl⟩)
 erw [e5]
 obtain ⟨a,oa,a0,a1,hpa,ea⟩:=bQ (R:=R) (m:=5) hp5 (by decide) (by decide)
 obtain ⟨u,eu,_⟩:=fe (ns:=[0,0,1,-4,9]) (i:=a) a0 (by simpa using a1)
 erw [ea]
 erw [i5 (show atI [D.int 0,D.int 0,D.int 1,D.int (-4),D.int 9] a=some (.int u) from eu)]
 generalize hlo:(if (if tot+u < 99 then tot+u else 99) > -99 then (if tot+u < 99 then tot+u else 99) else -99)=lo
 have blo:-99≤lo∧lo≤99:=by
  rw [← hlo]
  split<;>split at *<;>omega
 obtain ⟨b,ob,b0,b1,hpb,eb⟩:=bQ (R:=R) (m:=5) hpa (by decide) (by decide)
 obtain ⟨v,ev,mv⟩:=fe (ns:=[0,0,1,2,7]) (i:=b) b0 (by simpa using b1)
 have hv:0≤v:=by
  simp only [List.mem_cons,List.not_mem_nil,or_false] at mv
  omega
 erw [eb]
 erw [i5 (show atI [D.int 0,D.int 0,D.int 1,D.int 2,D.int 7] b=some (.int v) from ev)]
 generalize hhi:(if lo+v < 99 then lo+v else 99)=hi
 have bhi:lo≤hi∧hi≤99:=by
  rw [← hhi]
  split<;>omega
 obtain ⟨c,oc,c0,c1,hpc,ec⟩:=bQ (R:=R) (m:=6) hpb (by decide) (by decide)
 erw [ec]
 by_cases hc:c=0
 ·erw [decide_eq_true hc]
  obtain ⟨d,od,d0,d1,hpd,ed⟩:=bQ (R:=R) (m:=199) hpc (by decide) (by decide)
  erw [ed]
  obtain ⟨e,oe,f0,f1,hpe,ee⟩:=bQ (R:=R) (m:=100 - (d - 99)) hpd (by omega) (by omega)
  erw [ee]
  exact ⟨ns,ws,d - 99,d - 99+e,oe,gn,⟨hw',hlim,by omega⟩,hpe,by rw [dR,e9];rfl⟩
 ·erw [decide_eq_false hc]
  exact ⟨ns,ws,lo,hi,oc,gn,⟨hw',hlim,by omega⟩,hpc,by rw [dR,e9];rfl⟩
theorem xZ {ns cs:List Int} {lo hi:Int} {S:Sto} (g:GoodC ns cs lo hi):iT [.d (aA ns cs lo hi)] S=.ok (.d (.bl true)) S:=by
 unfold iT
 rw [b5]
 unfold oR
 walk_at "mx"
 erw [w6]
 erw [sk]
 erw [fR g.lim]
 rw [sk]
 walk_at "my"
 rw [ix]
 walk_at "my"
 erw [g.len]
 erw [vp]
 erw [uP]
 erw [u7 g.span]
 rw [aO]
theorem Co {ns cs:List Int} {lo hi:Int} {S:Sto} (g:GoodC ns cs lo hi):cP [.d (aA ns cs lo hi)] S=.ok (.d (.bl true)) S:=by
 unfold cP
 rw [b5]
 unfold fX
 walk_at "mx"
 erw [fj]
 erw [nE]
 erw [m9]
 erw [xZ g]
 rw [aO]
theorem vn {ns cs:List Int} {lo hi:Int} {k:Nat} {S:Sto} (g:cF k ns) (gl:GoodC ns cs lo hi) (hk:k≤4):h8 [.d (aA ns cs lo hi)] S=.ok (.d (.bl true)) S:=by
 unfold h8
 rw [b5]
 unfold mj
 walk_at "mx"
 erw [show isT "tuple" (aA ns cs lo hi)=true from rfl]
 erw [w6]
 erw [show decide ((5:Int) < 2)=false from rfl]
 erw [ix]
 erw [qH g hk]
 erw [Co gl]
 rw [aO]
theorem Cj {wss:List (List Int)} {n m:Int} {ns cs:List Int} {lo hi:Int} {S:Sto} (gs:bM n m wss) (hn:n≤4) (hm:m≤4) (g:cF wss.length ns) (gl:GoodC ns cs lo hi):nB [.d (aq wss),.d (aA ns cs lo hi)] S=.ok (.d .non) S:=by
 have:=gs.le
 have e1:eS [.d (aq wss),.d (aA ns cs lo hi)] S=.ok (.d (.bl true)) S:=by
  unfold eS
  rw [cZ]
  unfold jH
  walk_at "mx"
  erw [vn g gl (by omega)]
  rw [gm (show _=jC [some (.d (aq wss)),some (.d (aA ns cs lo hi))] S from rfl) (xs:=ns.map D.int) (S1:=S) (by walk_at "mx";rw [ix];rfl) (fun _=>.bl true) (by
   intro x hx S
   obtain ⟨v,hv,rfl⟩:=List.mem_map.mp hx
   have:=g.dom v hv
   unfold aq
   walk_at "mx"
   rw [List.length_map,decide_eq_true this.2])]
  walk_at "mx"
  erw [all_true]
  rw [aO]
 have e2:∀ x,fz [.d (aq wss),.d (aA ns cs lo hi),x] S=.ok (.d .non) S:=fun x=>by
  unfold fz
  rw [dk]
  unfold kF
  walk_at "mx"
  erw [e1]
  rw [jq,gO,List.take_length]
 unfold nB
 rw [cZ]
 unfold uc
 walk_at "mx"
 erw [pU gs hn hm]
 erw [e2]
 rw [jq,gO,List.take_length]
theorem se {wss:List (List Int)} {n m:Int} {ns cs:List Int} {lo hi:Int} {S:Sto} (gs:bM n m wss) (hn:n≤4) (hm:m≤4) (g:cF wss.length ns) (gl:GoodC ns cs lo hi):fq [.d (aq wss),.d (aA ns cs lo hi),.d (.str "sum")] S=.ok (.d .non) S:=by
 unfold fq
 rw [dk]
 unfold jP
 walk_at "mx"
 erw [Cj gs hn hm g gl]
 erw [fj]
 rw [jq,gO,List.take_length]
def c8 (f cs:List Int):Nat→Int
 | 0=>0
 | n+1=>c8 f cs n+f.getD n 0 * cs.getD n 0
theorem jO {f g cs:List Int}:∀ n,(∀ j,j < n→f.getD j 0=g.getD j 0)→c8 f cs n=c8 g cs n
 | 0,_=>rfl
 | n+1,h=>by
  rw [c8,c8,jO n fun j hj=>h j (by omega),h n (by omega)]
theorem ig {f:List Int} {w:Int} {j:Nat} (h:j < f.length):(f++[w]).getD j 0=f.getD j 0:=by
 rw [List.getD_eq_getElem?_getD,List.getD_eq_getElem?_getD,List.getElem?_append_left h]
theorem i6 {f:List Int} {w:Int} {n:Nat} (h:f.length=n):(f++[w]).getD n 0=w:=by
 rw [List.getD_eq_getElem?_getD,List.getElem?_append_right (by omega),h,Nat.sub_self]
 rfl
def st2 (c q:Int) (f:List Int) (acc:List Way) (ws:List Int):List Way:=ws.foldl (fun a w=>fN a (q+w * c) (f++[w])) acc
def st1 (c:Int) (ws:List Int) (acc W:List Way):List Way:=W.foldl (fun a x=>st2 c x.1 x.2 a ws) acc
theorem uB (P:Way→Prop) {c q:Int} {f ws:List Int} {acc:List Way} (h0:∀ x∈acc,P x) (h:∀ w∈ws,P (q+w * c,f++[w])):∀ x∈st2 c q f acc ws,P x:=
 dY (fun a=>∀ x∈a,P x) ws acc h0 fun a w hw ha x hx=>(zR hx).elim (ha x) fun e=>e ▸ h w hw
theorem uz (P:Way→Prop) {c:Int} {ws:List Int} {acc W:List Way} (h0:∀ x∈acc,P x) (h:∀ x∈W,∀ w∈ws,P (x.1+w * c,x.2++[w])):∀ x∈st1 c ws acc W,P x:=
 dY (fun a=>∀ x∈a,P x) W acc h0 fun a x hx ha=>uB P ha (h x hx)
theorem wj {c q:Int} {f ws:List Int} {acc:List Way} (h:(aL acc).Nodup):(aL (st2 c q f acc ws)).Nodup:=dY (fun a=>(aL a).Nodup) ws acc h fun _ _ _ h=>CV h
theorem wa {c:Int} {ws:List Int} {acc W:List Way} (h:(aL acc).Nodup):(aL (st1 c ws acc W)).Nodup:=dY (fun a=>(aL a).Nodup) W acc h fun _ _ _ h=>wj h
theorem tS {c:Int} {ws:List Int} {acc W:List Way} {x:Way} {w:Int} (hx:x∈W) (hw:w∈ws):x.1+w * c∈aL (st1 c ws acc W):=by
 have m2:∀ (q:Int) (f:List Int) (a:List Way) (z:Int),z∈aL a→z∈aL (st2 c q f a ws):=fun q f a z hz=>dY (fun a=>z∈aL a) ws a hz fun _ _ _ h=>oj.mpr (.inl h)
 refine lW (fun a=>x.1+w * c∈aL a) (fun a y h=>m2 _ _ _ _ h) (x:=x) (fun a=>?_) W acc hx
 exact lW (f:=fun a w=>fN a (x.1+w * c) (x.2++[w])) (fun a=>x.1+w * c∈aL a) (fun a y h=>oj.mpr (.inl h)) (x:=w) (fun a=>oj.mpr (.inr rfl)) ws a hw
def br (cs:List Int) (wss:List (List Int)) (ns:List Int):Nat→List Way
 | 0=>[(0,[])]
 | i+1=>st1 (cs.getD i 0) (wss.getD (ns.getD i 0).toNat []) [] (br cs wss ns i)
def l9 (cs:List Int) (wss:List (List Int)) (ns:List Int) (i:Nat):List Int:=sortI (aL (br cs wss ns i))
structure Hz (cs:List Int) (wss:List (List Int)) (ns:List Int) (i:Nat) (x:Way):Prop where
 len:x.2.length=i
 mem:∀ j,j < i→x.2.getD j 0∈wss.getD (ns.getD j 0).toNat []
 led:x.1=c8 x.2 cs i
 lim:-27 * (i:Int)≤x.1∧x.1≤27 * i
theorem uF {w c:Int} (h1:-9≤w∧w≤9) (h2:-3≤c∧c≤3):-27≤w * c∧w * c≤27:=by
 have:c=-3∨c=-2∨c=-1∨c=0∨c=1∨c=2∨c=3:=by omega
 rcases this with rfl | rfl | rfl | rfl | rfl | rfl | rfl<;>omega
theorem pj {wss:List (List Int)} {n m v w:Int} (gs:bM n m wss) (h:w∈wss.getD v.toNat []):-9≤w∧w≤9:=by
 by_cases q:v.toNat < wss.length
 ·refine (gs.all _ ?_).lim w h
  rw [List.getD_eq_getElem?_getD,List.getElem?_eq_getElem q]
  exact List.getElem_mem q
 ·rw [List.getD_eq_getElem?_getD,List.getElem?_eq_none (by omega)] at h
  cases h
theorem ji {cs:List Int} {i:Nat} (h:∀ c∈cs,-3≤c∧c≤3):-3≤cs.getD i 0∧cs.getD i 0≤3:=by
 by_cases q:i < cs.length
 ·rw [List.getD_eq_getElem?_getD,List.getElem?_eq_getElem q]
  exact h _ (List.getElem_mem q)
 ·rw [List.getD_eq_getElem?_getD,List.getElem?_eq_none (by omega)]
  decide
theorem eA {cs:List Int} {wss:List (List Int)} {ns:List Int} {n m:Int} (gs:bM n m wss) (hc:∀ c∈cs,-3≤c∧c≤3):∀ i,(∀ x∈br cs wss ns i,Hz cs wss ns i x)∧(aL (br cs wss ns i)).Nodup
 | 0=>⟨fun x hx=>by
   rw [List.mem_singleton.mp hx]
   exact ⟨rfl,fun j hj=>by omega,rfl,by decide⟩,by simp [br,aL]⟩
 | i+1=>by
  obtain ⟨ih,_⟩:=eA (ns:=ns) gs hc i
  refine ⟨uz _ (by simp) fun x hx w hw=>?_,wa (by simp [aL])⟩
  obtain ⟨h1,h2,h3,h4⟩:=ih x hx
  refine ⟨by simp [h1],fun j hj=>?_,?_,?_⟩
  ·by_cases q:j < i
   ·rw [ig (by omega)]
    exact h2 j q
   ·have e:j=i:=by omega
    subst e
    rw [i6 h1]
    exact hw
  ·show x.1+w * cs.getD i 0=c8 (x.2++[w]) cs (i+1)
   rw [c8,i6 h1,h3,jO (f:=x.2++[w]) (g:=x.2) i fun j hj=>ig (by omega)]
  ·have:=uF (pj gs hw) (ji (i:=i) hc)
   show -27 * ((i+1:Nat):Int)≤x.1+w * cs.getD i 0∧x.1+w * cs.getD i 0≤27 * ((i+1:Nat):Int)
   omega
theorem qZ {cs:List Int} {wss:List (List Int)} {ns:List Int}:∀ (i:Nat) (f:List Int),f.length=i→(∀ j,j < i→f.getD j 0∈wss.getD (ns.getD j 0).toNat [])→c8 f cs i∈aL (br cs wss ns i)
 | 0,f,hl,_=>by simp [c8,br,aL]
 | i+1,f,hl,hf=>by
  obtain ⟨g,w,rfl⟩:∃ g w,f=g++[w]:=⟨f.dropLast,f.getLast (by intro z;rw [z] at hl;simp at hl),(List.dropLast_concat_getLast _).symm⟩
  have lg:g.length=i:=by simpa using hl
  have ih:=qZ (cs:=cs) (wss:=wss) (ns:=ns) i g lg (fun j hj=>by
   have:=hf j (by omega)
   rwa [ig (by omega)] at this)
  obtain ⟨x,hx,hx1⟩:=List.mem_map.mp ih
  have hw:=hf i (by omega)
  rw [i6 lg] at hw
  have:=tS (c:=cs.getD i 0) (acc:=[]) hx hw
  rw [c8,i6 lg,jO (f:=g++[w]) (g:=g) i fun j hj=>ig (by omega)]
  rw [show x.1=c8 g cs i from hx1] at this
  exact this
theorem rf {l:List Int} (h:l.Nodup) (hb:∀ x∈l,-108≤x∧x≤108):l.length≤217:=by
 have:=rG (a:=-108) (b:=108) (i8 h) fun x hx=>hb x ((fD l x).mp hx)
 rw [fH] at this
 omega
theorem sI {cs:List Int} {wss:List (List Int)} {ns:List Int} {n m:Int} (gs:bM n m wss) (hc:∀ c∈cs,-3≤c∧c≤3) {i:Nat} (hi:i≤4):(aL (br cs wss ns i)).length≤217:=by
 obtain ⟨h1,h2⟩:=eA (ns:=ns) gs hc i
 refine rf h2 fun x hx=>?_
 obtain ⟨y,hy,rfl⟩:=List.mem_map.mp hx
 have:=(h1 y hy).lim
 omega
def bD (cs:List Int) (wss:List (List Int)) (ns:List Int) (n:Nat):List (List Int):=(List.range n).map (l9 cs wss ns)
theorem u5 {cs:List Int} {wss:List (List Int)} {ns:List Int} {n:Nat}:bD cs wss ns (n+1)=bD cs wss ns n++[l9 cs wss ns n]:=by unfold bD;rw [List.range_succ,List.map_append];rfl
theorem oD {cs:List Int} {wss:List (List Int)} {ns:List Int} {n i:Nat} (h:i < n):(bD cs wss ns n).getD i []=l9 cs wss ns i:=by
 unfold bD
 rw [List.getD_eq_getElem?_getD,List.getElem?_map,List.getElem?_range h]
 rfl
theorem sL {cs:List Int} {wss:List (List Int)} {ns:List Int} {i:Nat} {z:Int}:z∈l9 cs wss ns i↔∃ x∈br cs wss ns i,x.1=z:=by
 unfold l9
 rw [fD]
 exact List.mem_map
def oB (ns cs:List Int) (lo hi:Int) (f:List Int):Bool:=decide (lo≤c8 (vls f ns) cs ns.length) && decide (c8 (vls f ns) cs ns.length≤hi)
def ie (wss:List (List Int)) (ns cs:List Int) (lo hi:Int):List (List Int):=(dw wss).filter (oB ns cs lo hi)
theorem zc {wss:List (List Int)} {ns cs:List Int} {lo hi n m:Int} {x:Way} (gs:bM n m wss) (gn:cF wss.length ns) (hc:∀ c∈cs,-3≤c∧c≤3) (hx:x∈br cs wss ns ns.length) (he:lo≤x.1∧x.1≤hi):dc wss ns x.2∈ie wss ns cs lo hi:=by
 obtain ⟨g1,_⟩:=eA (ns:=ns) gs hc ns.length
 obtain ⟨h1,h2,h3,h4⟩:=g1 x hx
 refine List.mem_filter.mpr ⟨Ay gs h1 h2,?_⟩
 unfold oB
 rw [zC gn.nd gn.dom h1,← h3,decide_eq_true he.1,decide_eq_true he.2]
 rfl
theorem CQ {wss:List (List Int)} {ns cs:List Int} {lo hi:Int} (gn:cF wss.length ns) (hno:∀ x∈br cs wss ns ns.length,¬(lo≤x.1∧x.1≤hi)):ie wss ns cs lo hi=[]:=by
 refine List.filter_eq_nil_iff.mpr fun f hf=>?_
 unfold oB
 intro h
 simp only [Bool.and_eq_true,decide_eq_true_eq] at h
 have hfm:=lY (wss:=wss) wss.length (Nat.le_refl _) f (by rw [List.take_length];exact hf)
 have hk:=qZ (cs:=cs) (wss:=wss) (ns:=ns) ns.length (vls f ns) ue (fun j hj=>by
  have hm:=gn.dom _ (List.getElem_mem hj)
  have h2:=hfm.2 (ns[j]).toNat (by omega)
  have e1:(vls f ns).getD j 0=f.getD (ns[j]).toNat 0:=by
   unfold vls
   rw [List.getD_eq_getElem?_getD,List.getElem?_map,List.getElem?_eq_getElem hj]
   rfl
  have e2:ns.getD j 0=ns[j]:=by rw [List.getD_eq_getElem?_getD,List.getElem?_eq_getElem hj];rfl
  rw [e1,e2]
  exact h2)
 obtain ⟨x,hx,hx1⟩:=List.mem_map.mp hk
 exact hno x hx (by rw [show x.1=_ from hx1];exact h)
theorem xK {ns cs:List Int} {lo hi q w:Int} {k:Nat} {S:Sto} (hk:k < cs.length) (hc:∀ c∈cs,-3≤c∧c≤3):cU [.d (aA ns cs lo hi),.d (.int (k:Nat)),.d (.int q),.d (.int w)] S=.ok (.d (.lst [.int (q+w * cs.getD k 0)])) S:=by
 have:=ji (i:=k) hc
 unfold cU
 rw [nK]
 unfold iG
 walk_at "mx"
 erw [sk]
 erw [qS hk]
 erw [m6 (nr (by omega) (by omega))]
 rw [aO]
theorem zE {ns cs:List Int} {lo hi q:Int} {S:Sto}:cf [.d (aA ns cs lo hi),.d (.int q)] S=.ok (.d (.bl (decide (lo≤q) && decide (q≤hi)))) S:=by
 unfold cf
 rw [cZ]
 unfold hZ
 walk_at "mx"
 erw [vp]
 by_cases h:lo≤q
 ·erw [decide_eq_true h]
  erw [uP]
  rw [aO,Bool.true_and]
 ·erw [decide_eq_false h]
  rw [aO,Bool.false_and]
theorem ze {wss:List (List Int)} {ns cs:List Int} {lo hi:Int} {W acc:List Way} {S:Sto} {k:Nat} {q w:Int} {f:List Int} {x8:Option Vl} (hk:k < cs.length) (hc:∀ c∈cs,-3≤c∧c≤3) (hnd:(aL W).Nodup) (hq:(q,f)∈W) (ha:(aL acc).Nodup) (hb:∀ z∈aL acc,-108≤z∧z≤108) (hf:f.length≤60) :
  ∃ y8,i9 [some (.d (aq wss)),some (.d (aA ns cs lo hi)),some (.d (.int (k:Nat))),some (.fd (W.map wyD)),some (.fn "sums_onward"),some (.r S.length),some (.d (.int q)),some (.d (.int w)),x8] (S++[.dct (acc.map wyD)])=.ok (.nx,[some (.d (aq wss)),some (.d (aA ns cs lo hi)),some (.d (.int (k:Nat))),some (.fd (W.map wyD)),some (.fn "sums_onward"),some (.r S.length),some (.d (.int q)),some (.d (.int w)),y8]) (S++[.dct ((fN acc (q+w * cs.getD k 0) (f++[w])).map wyD)]):=by
 have hl4:=rf ha hb
 generalize hp:q+w * cs.getD k 0=p
 obtain ⟨τ',S',e,hI⟩:=cX (show _=i9 [some (.d (aq wss)),some (.d (aA ns cs lo hi)),some (.d (.int (k:Nat))),some (.fd (W.map wyD)),some (.fn "sums_onward"),some (.r S.length),some (.d (.int q)),some (.d (.int w)),x8] (S++[.dct (acc.map wyD)]) from rfl) (S1:=S++[.dct (acc.map wyD)]) (items:=[Vl.d (.int p)]) (gd:=none) (by
   erw [qT,Dk (nm:="sums_onward") (F:=cU) rfl List.lookup_cons_self]
   rw [xK hk hc,hp]
   walk_at "mx")
  (fun i τ S'=>∃ y8,τ=[some (.d (aq wss)),some (.d (aA ns cs lo hi)),some (.d (.int (k:Nat))),some (.fd (W.map wyD)),some (.fn "sums_onward"),some (.r S.length),some (.d (.int q)),some (.d (.int w)),y8]∧S'=S++[.dct ((if i=0 then acc else fN acc p (f++[w])).map wyD)]) ⟨x8,rfl,rfl⟩ (by
   rintro i z τ S' hz ⟨y8,rfl,rfl⟩
   cases i with
   | succ i=>cases hz
   | zero=>
    cases hz
    rw [if_pos rfl]
    refine ⟨[some (.d (aq wss)),some (.d (aA ns cs lo hi)),some (.d (.int (k:Nat))),some (.fd (W.map wyD)),some (.fn "sums_onward"),some (.r S.length),some (.d (.int q)),some (.d (.int w)),some (.d (.int p))],S++[.dct (acc.map wyD)],.nx,_,_,by walk_at "mx",FC (S1:=S++[.dct (acc.map wyD)]) (S2:=S++[.dct (acc.map wyD)]) (S3:=S++[.dct (acc.map wyD)]) (zd:=aj (f++[w])) (yd:=.int p) (k:=.inl p) (n:=S.length) (kvs:=acc.map wyD) (by
     walk_at "mx"
     erw [EG (k:=.inl q) rfl (wz hnd hq)]
     unfold aj
     rw [r_ (by simp;omega)]
     rw [show [D.int w]=[w].map D.int from rfl,← List.map_append]) (by walk_at "mx") (by walk_at "mx") rfl rK (by rw [List.length_map];unfold aL at hl4;rw [List.length_map] at hl4;omega),.inl rfl,True.intro,_,rfl,?_⟩
    rw [t9,FK]
    rfl)
 obtain ⟨y8,rfl,rfl⟩:=hI
 exact ⟨y8,e⟩
theorem Ag {wss:List (List Int)} {ns cs:List Int} {lo hi:Int} {W acc:List Way} {S:Sto} {k:Nat} {q:Int} {f:List Int} {x7 x8:Option Vl} (hk:k < ns.length) (hl:cs.length=ns.length) (hc:∀ c∈cs,-3≤c∧c≤3) (hdm:∀ n∈ns,0≤n∧n < (wss.length:Int)) (hnd:(aL W).Nodup) (hq:(q,f)∈W) (ha:(aL acc).Nodup) (hb:∀ z∈aL acc,-108≤z∧z≤108) (hs:∀ w∈wss.getD (ns.getD k 0).toNat [],-108≤q+w * cs.getD k 0∧q+w * cs.getD k 0≤108) (hf:f.length≤60) :
  ∃ y7 y8,iU [some (.d (aq wss)),some (.d (aA ns cs lo hi)),some (.d (.int (k:Nat))),some (.fd (W.map wyD)),some (.fn "sums_onward"),some (.r S.length),some (.d (.int q)),x7,x8] (S++[.dct (acc.map wyD)])=.ok (.nx,[some (.d (aq wss)),some (.d (aA ns cs lo hi)),some (.d (.int (k:Nat))),some (.fd (W.map wyD)),some (.fn "sums_onward"),some (.r S.length),some (.d (.int q)),y7,y8]) (S++[.dct ((st2 (cs.getD k 0) q f acc (wss.getD (ns.getD k 0).toNat [])).map wyD)]):=by
 have hnm:ns.getD k 0∈ns:=by rw [List.getD_eq_getElem?_getD,List.getElem?_eq_getElem hk];exact List.getElem_mem hk
 have hdn:=hdm _ hnm
 generalize hW:wss.getD (ns.getD k 0).toNat []=ws at hs
 obtain ⟨τ',S',e,y7,y8,rfl,rfl⟩:=cX (show _=iU [some (.d (aq wss)),some (.d (aA ns cs lo hi)),some (.d (.int (k:Nat))),some (.fd (W.map wyD)),some (.fn "sums_onward"),some (.r S.length),some (.d (.int q)),x7,x8] (S++[.dct (acc.map wyD)]) from rfl) (S1:=S++[.dct (acc.map wyD)]) (items:=ws.map fun w=>Vl.d (.int w)) (gd:=none) (by
   walk_at "mx"
   erw [ix]
   rw [qS hk]
   unfold aq
   walk_at "mx"
   rw [df (me hdn.1 hdn.2),hW]
   unfold aj
   walk_at "mx"
   rw [eX])
  (fun i τ S'=>∃ y7 y8,τ=[some (.d (aq wss)),some (.d (aA ns cs lo hi)),some (.d (.int (k:Nat))),some (.fd (W.map wyD)),some (.fn "sums_onward"),some (.r S.length),some (.d (.int q)),y7,y8]∧S'=S++[.dct ((st2 (cs.getD k 0) q f acc (ws.take i)).map wyD)]) ⟨x7,x8,rfl,rfl⟩ (by
   rintro i z τ S' hz ⟨y7,y8,rfl,rfl⟩
   rw [List.getElem?_map] at hz
   cases hp:ws[i]? with
   | none=>rw [hp] at hz;cases hz
   | some w=>
    rw [hp] at hz
    cases hz
    have hlim:∀ z∈aL (st2 (cs.getD k 0) q f acc (ws.take i)),-108≤z∧z≤108:=fun z hz=>by
     obtain ⟨x,hx,rfl⟩:=List.mem_map.mp hz
     exact uB (fun x=>-108≤x.1∧x.1≤108) (fun x hx=>hb x.1 (List.mem_map_of_mem hx)) (fun w hw=>hs w (List.mem_of_mem_take hw)) x hx
    obtain ⟨y8',e3⟩:=ze (wss:=wss) (ns:=ns) (cs:=cs) (lo:=lo) (hi:=hi) (S:=S) (k:=k) (w:=w) (x8:=y8) (by omega) hc hnd hq (wj (c:=cs.getD k 0) (q:=q) (f:=f) (ws:=ws.take i) ha) hlim hf
    refine ⟨_,_,.nx,_,_,by walk_at "mx",e3,.inl rfl,True.intro,some (.d (.int w)),y8',rfl,?_⟩
    rw [take_snoc hp]
    unfold st2
    rw [List.foldl_append]
    rfl)
 refine ⟨y7,y8,?_⟩
 rw [e,List.length_map,List.take_length]
theorem vv {wss:List (List Int)} {ns cs:List Int} {lo hi:Int} {W:List Way} {S:Sto} {k:Nat} (hk:k < ns.length) (hl:cs.length=ns.length) (hc:∀ c∈cs,-3≤c∧c≤3) (hdm:∀ n∈ns,0≤n∧n < (wss.length:Int)) (hnd:(aL W).Nodup) (hs:∀ x∈W,∀ w∈wss.getD (ns.getD k 0).toNat [],-108≤x.1+w * cs.getD k 0∧x.1+w * cs.getD k 0≤108) (hf:∀ x∈W,x.2.length≤60) :
  ij [.d (aq wss),.d (aA ns cs lo hi),.d (.int (k:Nat)),.fd (W.map wyD),.fn "sums_onward"] S=.ok (.fd ((st1 (cs.getD k 0) (wss.getD (ns.getD k 0).toNat []) [] W).map wyD)) S:=by
 unfold ij
 rw [ES]
 unfold nv
 obtain ⟨τ',S',e,y6,y7,y8,rfl,rfl⟩:=cX (show _=mL [some (.d (aq wss)),some (.d (aA ns cs lo hi)),some (.d (.int (k:Nat))),some (.fd (W.map wyD)),some (.fn "sums_onward"),some (.r S.length),none,none,none] (S++[.dct []]) from rfl) (S1:=S++[.dct []]) (items:=W.map fun x=>Vl.d (.int x.1)) (gd:=none) (by
   unfold qR
   rw [show aa 3 [some (Vl.d (aq wss)),some (.d (aA ns cs lo hi)),some (.d (.int (k:Nat))),some (.fd (W.map wyD)),some (.fn "sums_onward"),some (.r S.length),none,none,none] (S++[.dct []])=.ok (.fd (W.map wyD)) (S++[.dct []]) from rfl,aE]
   dsimp only
   rw [List.map_map]
   rfl)
  (fun i τ S'=>∃ y6 y7 y8,τ=[some (.d (aq wss)),some (.d (aA ns cs lo hi)),some (.d (.int (k:Nat))),some (.fd (W.map wyD)),some (.fn "sums_onward"),some (.r S.length),y6,y7,y8]∧S'=S++[.dct ((st1 (cs.getD k 0) (wss.getD (ns.getD k 0).toNat []) [] (W.take i)).map wyD)]) ⟨none,none,none,rfl,rfl⟩ (by
   rintro i z τ S' hz ⟨y6,y7,y8,rfl,rfl⟩
   rw [List.getElem?_map] at hz
   cases hp:W[i]? with
   | none=>rw [hp] at hz;cases hz
   | some x=>
    rw [hp] at hz
    cases hz
    have hx:=List.mem_of_getElem? hp
    have hlim:∀ z∈aL (st1 (cs.getD k 0) (wss.getD (ns.getD k 0).toNat []) [] (W.take i)),-108≤z∧z≤108:=fun z hz=>by
     obtain ⟨x,hx,rfl⟩:=List.mem_map.mp hz
     exact uz (fun x=>-108≤x.1∧x.1≤108) (by simp) (fun x hx w hw=>hs x (List.mem_of_mem_take hx) w hw) x hx
    obtain ⟨y7',y8',e3⟩:=Ag (wss:=wss) (ns:=ns) (cs:=cs) (lo:=lo) (hi:=hi) (S:=S) (k:=k) (q:=x.1) (f:=x.2) (x7:=y7) (x8:=y8) hk hl hc hdm hnd hx (wa (c:=cs.getD k 0) (ws:=wss.getD (ns.getD k 0).toNat []) (W:=W.take i) (by simp [aL])) hlim (hs x hx) (hf x hx)
    refine ⟨_,_,.nx,_,_,by walk_at "mx",e3,.inl rfl,True.intro,_,_,_,rfl,?_⟩
    rw [take_snoc hp]
    unfold st1
    rw [List.foldl_append]
    rfl)
 rw [List.length_map,List.take_length] at e
 walk_at "mx"
 erw [DV]
 erw [e]
 erw [vA (R:=[])]
 rw [DO]
theorem C8 {W:List Way} {S:Sto} (h:(aL W).length < 301):kG 301 [.fd (W.map wyD)] S=.ok (.d (.lst ((sortI (aL W)).map D.int))) S:=by
 unfold kG
 dsimp only
 rw [wK]
 dsimp only
 rw [if_pos h]
theorem zu {wss:List (List Int)} {ns cs:List Int} {lo hi n m:Int} {S:Sto} {x6 x7:Option Vl} (gs:bM n m wss) (hdm:∀ n∈ns,0≤n∧n < (wss.length:Int)) (g:GoodC ns cs lo hi) (h4:ns.length≤4) :
  ∃ y6,fo [some (.d (aq wss)),some (.d (aA ns cs lo hi)),some (.fn "sums_onward"),some (.fn "is_sum_asked"),some (.fd ((br cs wss ns 0).map wyD)),some (.r S.length),x6,x7] (S++[.lst ((bD cs wss ns 1).map aj)])=.ok (.nx,[some (.d (aq wss)),some (.d (aA ns cs lo hi)),some (.fn "sums_onward"),some (.fn "is_sum_asked"),some (.fd ((br cs wss ns ns.length).map wyD)),some (.r S.length),y6,x7]) (S++[.lst ((bD cs wss ns (ns.length+1)).map aj)]):=by
 obtain ⟨τ',S',e,y6,rfl,rfl⟩:=cX (show _=fo [some (.d (aq wss)),some (.d (aA ns cs lo hi)),some (.fn "sums_onward"),some (.fn "is_sum_asked"),some (.fd ((br cs wss ns 0).map wyD)),some (.r S.length),x6,x7] (S++[.lst ((bD cs wss ns 1).map aj)]) from rfl) (S1:=S++[.lst ((bD cs wss ns 1).map aj)]) (items:=(List.range ns.length).map fun i=>Vl.d (.int (i:Nat))) (gd:=none) (by
   walk_at "mx"
   rw [ix]
   walk_at "my"
   rw [vE (by omega),Int.toNat_natCast])
  (fun i τ S'=>∃ y6,τ=[some (.d (aq wss)),some (.d (aA ns cs lo hi)),some (.fn "sums_onward"),some (.fn "is_sum_asked"),some (.fd ((br cs wss ns i).map wyD)),some (.r S.length),y6,x7]∧S'=S++[.lst ((bD cs wss ns (i+1)).map aj)]) ⟨x6,rfl,rfl⟩ (by
   rintro i z τ S' hz ⟨y6,rfl,rfl⟩
   obtain ⟨hi',rfl⟩:=kW hz
   obtain ⟨g1,g2⟩:=eA (ns:=ns) gs g.lim i
   have hlen:(bD cs wss ns (i+1)).length=i+1:=by simp [bD]
   have hf4:=sI (ns:=ns) gs g.lim (i:=i+1) (by omega)
   refine ⟨_,_,.nx,_,_,by walk_at "mx";rfl,by
    walk_at "mx"
    rw [vv hi' g.len g.lim hdm g2 (fun x hx w hw=>by
     have h1:=(g1 x hx).lim
     have h2:=uF (pj gs hw) (ji (i:=i) g.lim)
     omega) (fun x hx=>by have:=(g1 x hx).len;omega)]
    walk_at "mx"
    erw [show st1 (cs.getD i 0) (wss.getD (ns.getD i 0).toNat []) [] (br cs wss ns i)=br cs wss ns (i+1) from rfl,C8 (by omega)]
    erw [Bh (by rw [List.length_map];omega)]
    rfl,.inl rfl,True.intro,_,rfl,?_⟩
   rw [u5 (n:=i+1),List.map_append]
   rfl)
 refine ⟨y6,?_⟩
 rw [e,k_]
theorem zY {wss:List (List Int)} {ns cs:List Int} {lo hi n m:Int} {S:Sto} {x6 x7:Option Vl} (gs:bM n m wss) (hnd:ns.Nodup) (g:GoodC ns cs lo hi) (h4:ns.length≤4) :
  (∃ y7,(∀ x∈br cs wss ns ns.length,¬(lo≤x.1∧x.1≤hi))∧dP [some (.d (aq wss)),some (.d (aA ns cs lo hi)),some (.fn "sums_onward"),some (.fn "is_sum_asked"),some (.fd ((br cs wss ns ns.length).map wyD)),some (.r S.length),x6,x7] (S++[.lst ((bD cs wss ns (ns.length+1)).map aj)])=.ok (.nx,[some (.d (aq wss)),some (.d (aA ns cs lo hi)),some (.fn "sums_onward"),some (.fn "is_sum_asked"),some (.fd ((br cs wss ns ns.length).map wyD)),some (.r S.length),x6,y7]) (S++[.lst ((bD cs wss ns (ns.length+1)).map aj)])) ∨
  ∃ x τ' R,x∈br cs wss ns ns.length∧(lo≤x.1∧x.1≤hi)∧dP [some (.d (aq wss)),some (.d (aA ns cs lo hi)),some (.fn "sums_onward"),some (.fn "is_sum_asked"),some (.fd ((br cs wss ns ns.length).map wyD)),some (.r S.length),x6,x7] (S++[.lst ((bD cs wss ns (ns.length+1)).map aj)])=.ok (.rt (.d (.tup [.str "can",aj (dc wss ns x.2)])),τ') (S++R):=by
 obtain ⟨g1,g2⟩:=eA (ns:=ns) gs g.lim ns.length
 generalize hP:(bD cs wss ns (ns.length+1)).map aj=P
 generalize hW:br cs wss ns ns.length=W at g1 g2
 rcases Ci (show _=dP [some (.d (aq wss)),some (.d (aA ns cs lo hi)),some (.fn "sums_onward"),some (.fn "is_sum_asked"),some (.fd (W.map wyD)),some (.r S.length),x6,x7] (S++[.lst P]) from rfl) (fun v S'=>∃ x R,x∈W∧(lo≤x.1∧x.1≤hi)∧v=.d (.tup [.str "can",aj (dc wss ns x.2)])∧S'=S++R) (S1:=S++[.lst P]) (items:=W.map fun x=>Vl.d (.int x.1)) (gd:=none) (by
   unfold qR
   rw [show aa 4 [some (Vl.d (aq wss)),some (.d (aA ns cs lo hi)),some (.fn "sums_onward"),some (.fn "is_sum_asked"),some (.fd (W.map wyD)),some (.r S.length),x6,x7] (S++[.lst P])=.ok (.fd (W.map wyD)) (S++[.lst P]) from rfl,aE]
   dsimp only
   rw [List.map_map]
   rfl)
  (fun i τ S'=>∃ y7,(∀ x∈W.take i,¬(lo≤x.1∧x.1≤hi))∧τ=[some (.d (aq wss)),some (.d (aA ns cs lo hi)),some (.fn "sums_onward"),some (.fn "is_sum_asked"),some (.fd (W.map wyD)),some (.r S.length),x6,y7]∧S'=S++[.lst P]) ⟨x7,by simp,rfl,rfl⟩ (by
   rintro i z τ S' hz ⟨y7,hno,rfl,rfl⟩
   rw [List.getElem?_map] at hz
   cases hp:W[i]? with
   | none=>rw [hp] at hz;cases hz
   | some x=>
    rw [hp] at hz
    cases hz
    have hx:=List.mem_of_getElem? hp
    have ec:gJ [("is_sum_asked",cf)] 3 (ab (aa 1) (ab (aa 7) ak)) [some (.d (aq wss)),some (.d (aA ns cs lo hi)),some (.fn "sums_onward"),some (.fn "is_sum_asked"),some (.fd (W.map wyD)),some (.r S.length),x6,some (.d (.int x.1))] (S++[.lst P])=.ok (.d (.bl (decide (lo≤x.1) && decide (x.1≤hi)))) (S++[.lst P]):=by
     erw [Dk (nm:="is_sum_asked") (F:=cf) rfl List.lookup_cons_self]
     erw [zE]
    rw [← Bool.decide_and] at ec
    by_cases he:lo≤x.1∧x.1≤hi
    ·rw [decide_eq_true he] at ec
     refine ⟨[some (.d (aq wss)),some (.d (aA ns cs lo hi)),some (.fn "sums_onward"),some (.fn "is_sum_asked"),some (.fd (W.map wyD)),some (.r S.length),x6,some (.d (.int x.1))],S++[.lst P],.rt (.d (.tup [.str "can",aj (dc wss ns x.2)])),_,S++[.lst P]++[.dead],by walk_at "mx",by
      walk_at "mx"
      erw [ec]
      erw [ix]
      erw [EG (k:=.inl x.1) rfl (wz g2 (show (x.1,x.2)∈W from hx))]
      erw [Gs hnd (by omega)]
      rw [show (S++[Ob.lst P]++[Ob.dct ((ns.zip x.2).map pairD)])=(S++[Ob.lst P])++[Ob.dct ((ns.zip x.2).map pairD)] from rfl]
      erw [vA (S:=S++[Ob.lst P]) (R:=[])]
      erw [mm gs]
      erw [BW]
      rfl,.inr ⟨_,rfl,x,[.lst P,.dead],hx,he,rfl,by simp⟩⟩
    ·rw [decide_eq_false he] at ec
     refine ⟨_,_,.nx,_,_,by walk_at "mx";rfl,by
      walk_at "mx"
      erw [ec]
      rfl,.inl ⟨.inl rfl,True.intro,_,?_,rfl,rfl⟩⟩
     intro y hy
     rw [take_snoc hp] at hy
     rcases List.mem_append.mp hy with q | q
     ·exact hno y q
     ·rw [List.mem_singleton.mp q];exact he) with ⟨τ',S',e,y7,hno,rfl,rfl⟩ | ⟨v,τ',S',e,x,R,hx,he,rfl,rfl⟩
 ·rw [List.length_map,List.take_length] at hno
  exact .inl ⟨y7,hno,e⟩
 ·exact .inr ⟨x,τ',R,hx,he,e⟩
theorem lK {wss:List (List Int)} {ns cs:List Int} {lo hi n m:Int} {S:Sto} (gs:bM n m wss) (hnd:ns.Nodup) (hdm:∀ n∈ns,0≤n∧n < (wss.length:Int)) (g:GoodC ns cs lo hi) (h4:ns.length≤4) :
  ((∀ x∈br cs wss ns ns.length,¬(lo≤x.1∧x.1≤hi))∧cS [.d (aq wss),.d (aA ns cs lo hi),.fn "sums_onward",.fn "is_sum_asked"] S=.ok (.pr (.str "no") S.length) (S++[.lst ((bD cs wss ns (ns.length+1)).map aj)])) ∨
  ∃ x,x∈br cs wss ns ns.length∧(lo≤x.1∧x.1≤hi)∧cS [.d (aq wss),.d (aA ns cs lo hi),.fn "sums_onward",.fn "is_sum_asked"] S=.ok (.d (.tup [.str "can",aj (dc wss ns x.2)])) S:=by
 have e0:cS [.d (aq wss),.d (aA ns cs lo hi),.fn "sums_onward",.fn "is_sum_asked"] S=leave S (ax fo (ax dP (aN (xN mkP (ab (xC (.str "no")) (ab (aa 5) ak))))) [some (.d (aq wss)),some (.d (aA ns cs lo hi)),some (.fn "sums_onward"),some (.fn "is_sum_asked"),some (.fd ((br cs wss ns 0).map wyD)),some (.r (S++[Ob.dead]).length),none,none] ((S++[Ob.dead])++[.lst ((bD cs wss ns 1).map aj)])):=by
  unfold cS
  rw [nK]
  unfold lE
  walk_at "mx"
  erw [GJ]
  erw [vA (R:=[])]
  rfl
 obtain ⟨y6,e1⟩:=zu (S:=S++[.dead]) (x6:=none) (x7:=none) gs hdm g h4
 rcases zY (S:=S++[.dead]) (x6:=y6) (x7:=none) gs hnd g h4 with ⟨y7,hno,e2⟩ | ⟨x,τ',R,hx,he,e2⟩
 ·refine .inl ⟨hno,?_⟩
  erw [e0]
  erw [e1]
  erw [e2]
  erw [show (S++[Ob.dead]).length=S.length+1 by simp,E5]
  rw [FR]
 ·refine .inr ⟨x,hx,he,?_⟩
  erw [e0]
  erw [e1]
  erw [e2]
  rw [dR,List.append_assoc,List.take_left]
theorem D6:decide ((Str.ofString "can":Str)=Str.ofString "no")=false:=by decide +kernel
theorem wm:decide ((Str.ofString "sum":Str)=Str.ofString "hand")=false:=by decide +kernel
theorem Es {ns cs vs:List Int} {lo hi:Int} {f x3 x4 x5 x7 x8 x9 x10:Option Vl} {S:Sto} (hl:vs.length=cs.length) (hc:∀ c∈cs,-3≤c∧c≤3) :
  ∃ y3 y7,gU [some (.d (aA ns cs lo hi)),f,some (.d (.lst (vs.map D.int))),x3,x4,x5,some (.d (.int 0)),x7,x8,x9,x10] S=.ok (.nx,[some (.d (aA ns cs lo hi)),f,some (.d (.lst (vs.map D.int))),y3,x4,x5,some (.d (.int (c8 vs cs cs.length))),y7,x8,x9,x10]) S:=by
 obtain ⟨τ',S',e,y3,y7,rfl,rfl⟩:=cX (show _=gU [some (.d (aA ns cs lo hi)),f,some (.d (.lst (vs.map D.int))),x3,x4,x5,some (.d (.int 0)),x7,x8,x9,x10] S from rfl) (S1:=S) (gd:=none) (items:=c_ (vs.map D.int) (cs.map D.int)) (by
   walk_at "mx"
   rw [sk]
   unfold aj
   walk_at "mx")
  (fun i τ S'=>∃ y3 y7,τ=[some (.d (aA ns cs lo hi)),f,some (.d (.lst (vs.map D.int))),y3,x4,x5,some (.d (.int (c8 vs cs i))),y7,x8,x9,x10]∧S'=S) ⟨_,_,rfl,rfl⟩ (by
   rintro i z τ S' hz ⟨y3,y7,rfl,rfl⟩
   obtain ⟨v,c,ev,ec,rfl⟩:=sJ hz
   have:=hc c (List.mem_of_getElem? ec)
   refine ⟨_,_,.nx,_,_,by walk_at "mx";rfl,by
    walk_at "mx"
    erw [m6 (nr (by omega) (by omega))]
    rfl,.inl rfl,True.intro,some (.d (.int v)),some (.d (.int c)),?_,rfl⟩
   rw [c8,show vs.getD i 0=v by rw [List.getD_eq_getElem?_getD,ev];rfl,show cs.getD i 0=c by rw [List.getD_eq_getElem?_getD,ec];rfl])
 have hz:(c_ (vs.map D.int) (cs.map D.int)).length=cs.length:=by
  rw [gz]
  simp [hl]
 rw [hz] at e
 exact ⟨_,_,e⟩
theorem vM {ns cs f:List Int} {lo hi:Int} {k:Nat} {S:Sto} (gn:cF k ns) (g:GoodC ns cs lo hi) (hk:k≤4) (hf:f.length=k):ft [.d (aA ns cs lo hi),.d (aj f)] S=.ok (.d (.bl (oB ns cs lo hi f))) S:=by
 unfold ft
 rw [cZ]
 unfold jR
 walk_at "mx"
 rw [gm (show _=jS [some (.d (aA ns cs lo hi)),some (.d (aj f)),none,none,none,none,none,none,none,none,none] S from rfl) (xs:=ns.map D.int) (S1:=S) (by walk_at "mx";rw [ix];rfl) (fun x=>match x with | .int n=>.int (f.getD n.toNat 0) | _=>.non) (by
  intro x hx S
  obtain ⟨n,hn,rfl⟩:=List.mem_map.mp hx
  obtain ⟨n0,n1⟩:=gn.dom n hn
  walk_at "mx"
  rw [show n=((n.toNat:Nat):Int) by omega]
  exact (df (v7 (by omega))).trans (by rw [Int.toNat_natCast]))]
 walk_at "mx"
 erw [List.map_map,show ((fun x:D=>(match x with | .int n=>D.int (f.getD n.toNat 0) | _=>.non)) ∘ D.int)=D.int ∘ (fun n:Int=>f.getD n.toNat 0) from rfl,← List.map_map,show ns.map (fun n:Int=>f.getD n.toNat 0)=vls f ns from rfl,fj]
 erw [nE]
 erw [fj]
 erw [m9]
 erw [fj]
 obtain ⟨y3,y7,e⟩:=Es (ns:=ns) (lo:=lo) (hi:=hi) (f:=some (.d (aj f))) (x3:=none) (x4:=none) (x5:=none) (x7:=none) (x8:=none) (x9:=none) (x10:=none) (S:=S) (vs:=vls f ns) (cs:=cs) (by rw [ue,g.len]) g.lim
 erw [e]
 erw [vp]
 unfold oB
 rw [g.len]
 by_cases h:lo≤c8 (vls f ns) cs ns.length
 ·erw [decide_eq_true h]
  erw [uP]
  rw [aO,Bool.true_and]
 ·erw [decide_eq_false h]
  rw [aO,Bool.false_and]
theorem uG {wss:List (List Int)} {n m:Int} {ns cs:List Int} {lo hi:Int} {S:Sto} (gs:bM n m wss) (hn:n≤4) (hm:m≤4) (gn:cF wss.length ns) (g:GoodC ns cs lo hi):jx [.d (aq wss),.d (.lst [aA ns cs lo hi])] S=.ok (.d (.lst ((ie wss ns cs lo hi).map aj))) S:=by
 have h4:=gs.le
 unfold jx
 rw [cZ]
 unfold ph
 walk_at "mx"
 erw [pR (fun ws h=>by have:=(gs.all ws h).le;omega) (by omega)]
 unfold o9
 walk_at "mx"
 erw [bU]
 rw [aE]
 rw [nU (show _=pN [some (.d (aq wss)),some (.d (.lst [aA ns cs lo hi])),some (.d (.lst ((dw wss).map aj))),some (.d (aA ns cs lo hi))] S from rfl) (d:=aj) (g:=aj) (xs:=dw wss) (S1:=S) (by
  walk_at "mx"
  rw [List.map_map]
  rfl) (oB ns cs lo hi) (fun f hf S=>by
  have hl:=(lY (wss:=wss) wss.length (Nat.le_refl _) f (by rw [List.take_length];exact hf)).1
  walk_at "mx"
  rw [vM gn g (by omega) hl]
  walk_at "mx") (fun f _ _ S=>by walk_at "mx")]
 walk_at "mx"
 rw [aE]
 dsimp only
 erw [if_pos (show gok none _ from True.intro),bU]
 rw [aO]
 rfl
theorem C2 {p:List (List Int)} {ns cs:List Int} {lo hi:Int} {k:Nat} {S:Sto} (hk:S[k]?=some (.lst (p.map aj))):fw [.d (aA ns cs lo hi),.r k] S=.ok (.d (.bl true)) S:=by
 unfold fw
 rw [cZ]
 unfold kg
 have e:=sg (show _=jM [some (.d (aA ns cs lo hi)),some (.r k)] S from rfl) (d:=aj) (g:=fun _=>D.bl true) (xs:=p) (S1:=S) (by
   rw [Ei (S1:=S) (by walk_at "mx") hk,List.map_map]
   rfl) hk (fun _=>true) (fun s hs S=>rfl) (fun v _ _ S=>by
   walk_at "mx"
   rw [tR]
   walk_at "mx")
 rw [List.filter_eq_self.mpr (fun _ _=>rfl)] at e
 walk_at "mx"
 erw [fj]
 erw [nE]
 erw [fj]
 erw [wm]
 erw [fj]
 erw [m9]
 erw [show dI "list" (.r k) S=.ok (.d (.bl true)) S by unfold dI;simp only [hk];rfl]
 erw [e]
 erw [all_true]
 rw [aO]
theorem AI {s:List Int} {S:Sto} (hl:s.length≤300) (hr:s.Pairwise (· < ·)):hG [.d (aj s)] S=.ok (.d (.bl true)) S:=by
 unfold hG
 rw [b5]
 unfold nM
 walk_at "mx"
 erw [ints_list]
 erw [F1 (ns:=s) rfl hl]
 erw [m7 (by rw [D.depth,mQ];decide),oP,← Ap.mpr hr,decide_eq_true rfl]
 rw [aO]
theorem AX {wss:List (List Int)} {ns cs:List Int} {lo hi q:Int} {k:Nat} {S:Sto} (hk:k < ns.length) (hl:cs.length=ns.length) (hc:∀ c∈cs,-3≤c∧c≤3) (hdm:∀ n∈ns,0≤n∧n < (wss.length:Int)):ir [.d (aq wss),.d (aA ns cs lo hi),.d (.int (k:Nat)),.d (.int q)] S=.ok (.d (.lst (((wss.getD (ns.getD k 0).toNat []).map fun w=>q+w * cs.getD k 0).map D.int))) S:=by
 have hnm:ns.getD k 0∈ns:=by rw [List.getD_eq_getElem?_getD,List.getElem?_eq_getElem hk];exact List.getElem_mem hk
 have hdn:=hdm _ hnm
 have:=ji (i:=k) hc
 generalize hW:wss.getD (ns.getD k 0).toNat []=ws
 unfold ir
 rw [nK]
 unfold nA
 walk_at "mx"
 erw [ix]
 erw [qS hk]
 erw [show oIx (.d (aq wss)) (.d (.int (ns.getD k 0))) S=.ok (.d (aj ws)) S from by rw [← hW];exact df (me hdn.1 hdn.2)]
 erw [fj]
 have e:=nU (show _=mi [some (.d (aq wss)),some (.d (aA ns cs lo hi)),some (.d (.int (k:Nat))),some (.d (.int q)),some (.d (aj ws))] S from rfl) (d:=D.int) (g:=fun w=>D.int (q+w * cs.getD k 0)) (xs:=ws) (S1:=S) (by
  unfold aj
  walk_at "mx"
  rw [eX]) (fun _=>true) (fun w _ S=>rfl) (fun w _ _ S=>by
  walk_at "mx"
  erw [sk]
  erw [qS (by omega)]
  rw [m6 (nr (by omega) (by omega))]
  walk_at "mx")
 rw [List.filter_eq_self.mpr (fun _ _=>rfl)] at e
 erw [e]
 rw [aO,List.map_map]
 rfl
theorem xQ {t:XT} {e:XE} {τ:Nv} {S1:Sto} {α:Type} {d g:α→D}:∀ (xs:List α) (acc:List D) (ρ:Nv),ρ.length=1→(∀ x S,t (some (.d (d x)) :: τ) S=.ok true S)→(∀ x∈xs,∀ l,e (some (.d (d x)) :: τ) (S1++[.lst l])=.ok (.d (g x)) (S1++[.lst l])) →
  c7 (gNm 0) t e S1.length none (xs.map fun x=>Vl.d (d x)) acc (ρ++τ) (S1++[.lst acc])=.ok (acc++xs.map g) (S1++[.lst (acc++xs.map g)])
 | [],acc,ρ,_,_,_=>by
  rw [List.map_nil,c7,if_pos (by simp)]
  simp
 | x :: xs,acc,[r],hρ,ht,he=>by
  have set_top:∀ l l',(S1++[Ob.lst l]).set S1.length (.lst l')=S1++[.lst l']:=fun l l'=>by simp
  rw [List.map_cons,c7]
  rw [show gNm 0 (Vl.d (d x)) ([r]++τ) (S1++[.lst acc])=.ok (some (.d (d x)) :: τ) (S1++[.lst acc]) from rfl,aE,ht x,aE,if_pos rfl,he x (by simp),aE]
  dsimp only
  rw [if_pos ⟨by simp,True.intro⟩,set_top]
  have:=xQ (d:=d) (g:=g) xs (acc++[g x]) [some (.d (d x))] rfl ht (fun y hy=>he y (by simp [hy]))
  rw [List.map_cons]
  simpa using this
theorem Im {it:XI} {t:XT} {e:XE} {τ:Nv} {S S1:Sto} {r:R Vl} (hC:xLC it 1 (gNm 0) t e τ S=r) {α:Type} {d g:α→D} {xs:List α} (hit:it τ S=.ok ⟨xs.map fun x=>Vl.d (d x),none⟩ S1) (ht:∀ x S,t (some (.d (d x)) :: τ) S=.ok true S) (he:∀ x∈xs,∀ l,e (some (.d (d x)) :: τ) (S1++[.lst l])=.ok (.d (g x)) (S1++[.lst l])):r=.ok (.d (.lst (xs.map g))) S1:=by
 rw [← hC]
 unfold xLC oh
 rw [hit,aE]
 dsimp only
 rw [show (List.replicate 1 (none:Option Vl)++τ)=[none]++τ from rfl,xQ xs [] [none] rfl ht he,aE]
 unfold jr
 simp
theorem we {wss:List (List Int)} {ns cs:List Int} {lo hi:Int} {p:List (List Int)} {k:Nat} {S:Sto} (hk:S[k]?=some (.lst (p.map aj))) (hpl:p.length=ns.length+1) (g:GoodC ns cs lo hi) (hdm:∀ n∈ns,0≤n∧n < (wss.length:Int)) (h4:ns.length≤4)
  (h0:0∈p.getD 0 []) (hr:∀ s∈p,s.length≤300∧s.Pairwise (· < ·)) (hs:∀ i,i < ns.length→∀ q∈p.getD i [],∀ w∈wss.getD (ns.getD i 0).toNat [],q+w * cs.getD i 0∈p.getD (i+1) []) (he:∀ q∈p.getD ns.length [],¬(lo≤q∧q≤hi)) :
  cQ [.d (aq wss),.d (aA ns cs lo hi),.r k] S=.ok (.d (.bl true)) S:=by
 unfold cQ
 rw [dk]
 unfold fU
 walk_at "mx"
 erw [Ig hk,List.length_map]
 rw [ix]
 walk_at "my"
 erw [decide_eq_true (show ((p.length:Nat):Int)=(ns.length:Int)+1 by omega)]
 rw [Em hk (by omega)]
 walk_at "my"
 erw [decide_eq_true h0]
 have e1:=sg (show _=fZ [some (.d (aq wss)),some (.d (aA ns cs lo hi)),some (.r k),none,none] S from rfl) (d:=aj) (g:=fun _=>D.bl true) (xs:=p) (S1:=S) (by
   rw [Ei (S1:=S) (by walk_at "mx") hk,List.map_map]
   rfl) hk (fun _=>true) (fun s hs S=>rfl) (fun s hm _ S=>by
   walk_at "mx"
   rw [AI (hr s hm).1 (hr s hm).2]
   walk_at "mx")
 rw [List.filter_eq_self.mpr (fun _ _=>rfl)] at e1
 erw [e1]
 erw [all_true]
 obtain ⟨τ',⟨y3,y4,rfl⟩,e3⟩:=uJ (show _=fW [some (.d (aq wss)),some (.d (aA ns cs lo hi)),some (.r k),none,none] S from rfl) (d:=fun i:Nat=>Vl.d (.int (i:Nat))) (xs:=List.range ns.length) (by
   walk_at "mx"
   rw [ix]
   walk_at "my"
   rw [vE (by omega),Int.toNat_natCast]) (fun _=>true)
  (fun τ=>∃ x3 x4,τ=[some (.d (aq wss)),some (.d (aA ns cs lo hi)),some (.r k),x3,x4]) ⟨none,none,rfl⟩ (by
   rintro i hi' τ ⟨x3,x4,rfl⟩
   have hin:=List.mem_range.mp hi'
   obtain ⟨τ',⟨y4,rfl⟩,e⟩:=uJ (show _=f6 [some (.d (aq wss)),some (.d (aA ns cs lo hi)),some (.r k),some (.d (.int (i:Nat))),x4] S from rfl) (d:=fun q:Int=>Vl.d (.int q)) (xs:=p.getD i []) (by
     walk_at "mx"
     rw [om hk (by omega)]
     unfold aj
     walk_at "mx"
     rw [eX]) (fun _=>true)
    (fun τ=>∃ x4,τ=[some (.d (aq wss)),some (.d (aA ns cs lo hi)),some (.r k),some (.d (.int (i:Nat))),x4]) ⟨x4,rfl⟩ (by
     rintro q hq τ ⟨x4,rfl⟩
     have hsq:=hs i hin q hq
     have e2:=Im (show _=fY [some (.d (aq wss)),some (.d (aA ns cs lo hi)),some (.r k),some (.d (.int (i:Nat))),some (.d (.int q))] S from rfl) (d:=D.int) (g:=fun _=>D.bl true) (xs:=(wss.getD (ns.getD i 0).toNat []).map fun w=>q+w * cs.getD i 0) (S1:=S) (by
       walk_at "mx"
       erw [AX hin g.len g.lim hdm]
       rw [eX]) (fun _ _=>rfl) (fun z hz l=>by
       obtain ⟨w,hw,rfl⟩:=List.mem_map.mp hz
       have hk':(S++[Ob.lst l])[k]?=some (.lst (p.map aj)):=by
        rw [List.getElem?_append_left (List.getElem?_eq_some_iff.mp hk).1]
        exact hk
       walk_at "mx"
       rw [show ((i:Int)+1)=((i+1:Nat):Int) by omega,om hk' (by omega)]
       walk_at "my"
       rw [decide_eq_true (hsq w hw)])
     refine ⟨[some (.d (aq wss)),some (.d (aA ns cs lo hi)),some (.r k),some (.d (.int (i:Nat))),some (.d (.int q))],[some (.d (aq wss)),some (.d (aA ns cs lo hi)),some (.r k),some (.d (.int (i:Nat))),some (.d (.int q))],by walk_at "mx",⟨_,rfl⟩,?_⟩
     walk_at "mx"
     erw [e2]
     rw [all_true]
     walk_at "mx")
   rw [List.all_eq_true.mpr (fun _ _=>rfl),if_pos rfl] at e
   exact ⟨_,_,by walk_at "mx",⟨_,_,rfl⟩,e⟩)
 erw [e3,List.all_eq_true.mpr (fun _ _=>rfl),if_pos rfl]
 erw [fj]
 have e5:=nU (show _=fV [some (.d (aq wss)),some (.d (aA ns cs lo hi)),some (.r k),y3,y4] S from rfl) (d:=D.int) (g:=D.int) (xs:=p.getD ns.length []) (S1:=S) (by
  walk_at "mx"
  rw [xX hk hpl]
  unfold aj
  walk_at "mx"
  rw [eX]) (fun q=>decide (lo≤q∧q≤hi)) (fun q _ S=>by
  walk_at "mx"
  erw [vp]
  by_cases h:lo≤q
  ·erw [decide_eq_true h]
   erw [uP]
   simp [h]
  ·erw [decide_eq_false h]
   simp [h]) (fun e _ _ S=>by walk_at "mx")
 rw [List.filter_eq_nil_iff.mpr (fun q hq=>by simpa using he q hq),List.map_nil] at e5
 erw [e5]
 erw [m7 (by decide),show D.bS [] []=true from rfl]
 rw [aO]
theorem ox {wss:List (List Int)} {ns cs:List Int} {lo hi n m:Int} {k:Nat} {S:Sto} (gs:bM n m wss) (gn:cF wss.length ns) (g:GoodC ns cs lo hi) (h4:ns.length≤4) (hno:∀ x∈br cs wss ns ns.length,¬(lo≤x.1∧x.1≤hi)) (hk:S[k]?=some (.lst ((bD cs wss ns (ns.length+1)).map aj))) :
  de [.d (aq wss),.d (aA ns cs lo hi),.r k] S=.ok (.d (.bl true)) S:=by
 unfold de
 rw [dk]
 unfold gB
 walk_at "mx"
 erw [C2 hk]
 erw [fj]
 erw [nE]
 erw [fj]
 erw [m9]
 erw [fj]
 erw [wm]
 rw [we hk (by simp [bD]) g gn.dom h4 ?_ ?_ ?_ ?_]
 ·walk_at "mx"
  rw [aO]
 ·rw [oD (by omega),sL]
  exact ⟨(0,[]),by simp [br],rfl⟩
 ·intro s hs
  obtain ⟨i,hi',rfl⟩:=List.mem_map.mp hs
  have hin:=List.mem_range.mp hi'
  refine ⟨?_,i8 (eA (ns:=ns) gs g.lim i).2⟩
  have:=sI (ns:=ns) gs g.lim (i:=i) (by omega)
  unfold l9
  rw [fH]
  omega
 ·intro i hin q hq w hw
  rw [oD (by omega)] at hq ⊢
  obtain ⟨x,hx,rfl⟩:=sL.mp hq
  unfold l9
  rw [fD]
  exact tS hx hw
 ·intro q hq
  rw [oD (by omega)] at hq
  obtain ⟨x,hx,rfl⟩:=sL.mp hq
  exact hno x hx
theorem vQ {wss:List (List Int)} {ns cs:List Int} {lo hi n m:Int} {S:Sto} (gs:bM n m wss) (hn:n≤4) (hm:m≤4) (gn:cF wss.length ns) (g:GoodC ns cs lo hi) :
  ((∀ x∈br cs wss ns ns.length,¬(lo≤x.1∧x.1≤hi))∧eo [.d (aq wss),.d (aA ns cs lo hi)] S=.ok (.pr (.str "no") S.length) (S++[.lst ((bD cs wss ns (ns.length+1)).map aj)])) ∨
  ∃ f,f∈ie wss ns cs lo hi∧eo [.d (aq wss),.d (aA ns cs lo hi)] S=.ok (.d (.tup [.str "can",aj f])) S:=by
 have h4:=gs.le
 have gl:=gn.le
 have e0:eo [.d (aq wss),.d (aA ns cs lo hi)] S=leave S (rt1 (cS [.d (aq wss),.d (aA ns cs lo hi),.fn "sums_onward",.fn "is_sum_asked"] S) [some (.d (aq wss)),some (.d (aA ns cs lo hi))]):=by
  unfold eo
  rw [cZ]
  unfold mI
  walk_at "mx"
  erw [se gs hn hm gn g]
  rcases lK (S:=S) gs gn.nd gn.dom g (by omega) with ⟨_,e⟩ | ⟨x,_,_,e⟩
  ·rw [e]
   rfl
  ·erw [e]
 rcases lK (S:=S) gs gn.nd gn.dom g (by omega) with ⟨hno,e⟩ | ⟨x,hx,he,e⟩
 ·refine .inl ⟨hno,?_⟩
  erw [e0,e]
  rw [B9 (R:=[])]
 ·refine .inr ⟨_,zc gs gn g.lim hx he,?_⟩
  erw [e0,e]
  rw [aO]
theorem wF {wss:List (List Int)} {ns cs f:List Int} {lo hi n m:Int} {S:Sto} (gs:bM n m wss) (hn:n≤4) (hm:m≤4) (gn:cF wss.length ns) (g:GoodC ns cs lo hi) (h:f∈ie wss ns cs lo hi):cq [.d (aq wss),.d (aA ns cs lo hi),.d (.tup [.str "can",aj f])] S=.ok (.d (.bl true)) S:=by
 have hd:=iW (ie wss ns cs lo hi)
 unfold cq
 rw [dk]
 unfold fg
 walk_at "mx"
 erw [show ll "tuple" (.d (.tup [.str "can",aj f])) S=.ok (.d (.bl true)) S from rfl]
 erw [show mF [.d (.tup [.str "can",aj f])] S=.ok (.d (.int 2)) S from rfl]
 erw [uG gs hn hm gn g]
 rw [m7 (by rw [D.depth];omega),zK,tG]
 erw [show (ie wss ns cs lo hi).isEmpty=false by cases q:ie wss ns cs lo hi with | nil=>rw [q] at h;cases h | cons _ _=>rfl]
 erw [show dj (.d (.tup [.str "can",aj f])) (.d (.int 0)) S=.ok (.d (.str "can")) S from rfl]
 erw [show dj (.d (.tup [.str "can",aj f])) (.d (.int 1)) S=.ok (.d (aj f)) S from rfl]
 erw [tR]
 erw [show dj (.d (.tup [.str "can",aj f])) (.d (.int 1)) S=.ok (.d (aj f)) S from rfl]
 erw [zi h]
 rw [aO]
theorem Ah {wss:List (List Int)} {ns cs:List Int} {lo hi n m:Int} {k:Nat} {S:Sto} (gs:bM n m wss) (hn:n≤4) (hm:m≤4) (gn:cF wss.length ns) (g:GoodC ns cs lo hi) (hno:∀ x∈br cs wss ns ns.length,¬(lo≤x.1∧x.1≤hi)) (hk:S[k]?=some (.lst ((bD cs wss ns (ns.length+1)).map aj))) :
  cq [.d (aq wss),.d (aA ns cs lo hi),.pr (.str "no") k] S=.ok (.d (.bl true)) S:=by
 have h4:=gs.le
 have gl:=gn.le
 unfold cq
 rw [dk]
 unfold fg
 walk_at "mx"
 erw [show ll "tuple" (.pr (.str "no") k) S=.ok (.d (.bl true)) S by unfold ll;simp only [hk];rfl]
 erw [show mF [.pr (.str "no") k] S=.ok (.d (.int 2)) S from rfl]
 erw [uG gs hn hm gn g,CQ gn hno]
 erw [m7 (by decide),show D.bS [] []=true from rfl]
 erw [show dj (.pr (.str "no") k) (.d (.int 0)) S=.ok (.d (.str "no")) S from rfl]
 erw [show dj (.pr (.str "no") k) (.d (.int 1)) S=.ok (.r k) S from rfl]
 erw [ox gs gn g (by omega) hno hk]
 rw [aO]
abbrev Ca:=List (List Int)×List Int×List Int×Int×Int
def caD (c:Ca):D:=.tup [aq c.1,aA c.2.1 c.2.2.1 c.2.2.2.1 c.2.2.2.2]
theorem DP {o:Ob} {R:Sto} {cs:List Ca} {x0 x1 x2 x3 x4 x5 x7 x8:Option Vl} (hl:cs.length≤100) (hc:∀ c∈cs,bM 4 4 c.1∧cF c.1.length c.2.1∧GoodC c.2.1 c.2.2.1 c.2.2.2.1 c.2.2.2.2) :
  ∃ R' y3 y7 y8,qG [x0,x1,x2,x3,x4,x5,some (.d (.lst (cs.map caD))),x7,x8] (o :: R)=.ok (.nx,[x0,x1,x2,y3,x4,x5,some (.d (.lst (cs.map caD))),y7,y8]) (o :: R'):=by
 obtain ⟨τ',S',e,R',y3,y7,y8,rfl,rfl⟩:=cX (show _=qG [x0,x1,x2,x3,x4,x5,some (.d (.lst (cs.map caD))),x7,x8] (o :: R) from rfl) (S1:=o :: R) (items:=(cs++cs).map fun c=>Vl.d (caD c)) (gd:=none) (by
   walk_at "mx"
   erw [yQ (by simp only [List.length_map];omega)]
   rw [← List.map_append,List.map_map]
   rfl)
  (fun i τ S'=>∃ R' y3 y7 y8,τ=[x0,x1,x2,y3,x4,x5,some (.d (.lst (cs.map caD))),y7,y8]∧S'=o :: R') ⟨_,_,_,_,rfl,rfl⟩ (by
   rintro i z τ S' hz ⟨R,y3,y7,y8,rfl,rfl⟩
   rw [List.getElem?_map] at hz
   cases q:(cs++cs)[i]? with
   | none=>rw [q] at hz;cases hz
   | some c=>
    rw [q] at hz
    cases hz
    obtain ⟨gs,gn,g⟩:=hc c (by rcases List.mem_append.mp (List.mem_of_getElem? q) with h | h<;>exact h)
    obtain ⟨wss,ns,ws,lo,hi⟩:=c
    dsimp only at gs gn g
    rcases vQ (S:=o :: R) gs (by decide) (by decide) gn g with ⟨h1,e⟩ | ⟨f,hf,e⟩
    ·have hk:((o :: R)++[Ob.lst ((bD ws wss ns (ns.length+1)).map aj)])[(o :: R).length]?=some (.lst ((bD ws wss ns (ns.length+1)).map aj)):=rK
     refine ⟨[x0,x1,x2,some (.d (aq wss)),x4,x5,some (.d (.lst (cs.map caD))),some (.d (aA ns ws lo hi)),y8],o :: R,.nx,[x0,x1,x2,some (.d (aq wss)),x4,x5,some (.d (.lst (cs.map caD))),some (.d (aA ns ws lo hi)),some (.pr (.str "no") (o :: R).length)],(o :: R)++[.lst []],by unfold caD;walk_at "mx",by
      walk_at "mx"
      rw [e]
      refine (congrArg (fun X=>sq1 X _) (show _=L2.R.ok (Fl.nx,[x0,x1,x2,some (.d (aq wss)),x4,x5,some (.d (.lst (cs.map caD))),some (.d (aA ns ws lo hi)),some (.pr (.str "no") (o :: R).length)]) ((o :: R)++[Ob.lst ((bD ws wss ns (ns.length+1)).map aj)]) from rfl)).trans ?_
      generalize hS:(o :: R)++[Ob.lst ((bD ws wss ns (ns.length+1)).map aj)]=S2 at hk
      walk_at "mx"
      erw [Ah (k:=R.length+1) gs (by decide) (by decide) gn g h1 hk]
      erw [show dj (.pr (.str "no") (R.length+1)) (.d (.int 0)) S2=.ok (.d (.str "no")) S2 from rfl]
      rw [← hS,FO (S1:=o :: R) (P:=(bD ws wss ns (ns.length+1)).map aj) rfl]
      walk_at "mx",.inl rfl,True.intro,R++[.lst []],_,_,_,rfl,rfl⟩
    ·refine ⟨[x0,x1,x2,some (.d (aq wss)),x4,x5,some (.d (.lst (cs.map caD))),some (.d (aA ns ws lo hi)),y8],o :: R,.nx,[x0,x1,x2,some (.d (aq wss)),x4,x5,some (.d (.lst (cs.map caD))),some (.d (aA ns ws lo hi)),some (.d (.tup [.str "can",aj f]))],o :: R,by unfold caD;walk_at "mx",by
      walk_at "mx"
      erw [e]
      erw [wF gs (by decide) (by decide) gn g hf]
      erw [show dj (.d (.tup [.str "can",aj f])) (.d (.int 0)) (o :: R)=.ok (.d (.str "can")) (o :: R) from rfl]
      rw [D6]
      walk_at "mx",.inl rfl,True.intro,R,_,_,_,rfl,rfl⟩)
 exact ⟨R',y3,y7,y8,e⟩
theorem Az (ns:List Int):vS [.sc ns] []=.ok (.d (.bl true)) []:=by
 unfold vS
 rw [b5]
 unfold wd
 obtain ⟨o,hp,e0⟩:=CU ns
 walk_at "mx"
 erw [e0]
 obtain ⟨τ',S',e,o',R',x2,x3,x4,x5,x6,x7,x8,hp',rfl,rfl⟩:=cX (show _=xJ [some (.sc ns),some (.r 0),none,none,none,none,none,none,none] [o] from rfl) (S1:=[o]) (items:=(List.range 4).map fun i=>Vl.d (.int (i:Nat))) (gd:=none) (by walk_at "mm";rfl)
  (fun i τ S'=>∃ (o':Ob) (R':Sto) (x2 x3 x4 x5 x6 x7 x8:Option Vl),Pen o'∧τ=[some (.sc ns),some (.r 0),x2,x3,x4,x5,x6,x7,x8]∧S'=o' :: R') ⟨o,[],none,none,none,none,none,none,none,hp,rfl,rfl⟩ (by
   rintro i z τ S' hz ⟨o',R,x2,x3,x4,x5,x6,x7,x8,hp',rfl,rfl⟩
   obtain ⟨hi,rfl⟩:=kW hz
   obtain ⟨o1,hp1,e1⟩:=CB (R:=R) hp'
   obtain ⟨c,ec,hcm⟩:=fe (ns:=[2,3,4,2]) (i:=(i:Int)) (by omega) (by simp;omega)
   have hc:0 < c∧c≤4:=by
    simp only [List.mem_cons,List.not_mem_nil,or_false] at hcm
    rcases hcm with rfl | rfl | rfl | rfl<;>decide
   obtain ⟨wss,o2,gs,hp2,e2⟩:=AS (R:=R) (names:=4) (most:=c) hp1 (by decide) (by decide) hc.1 (by omega)
   have gs4:=uL gs (by decide) hc.2
   have hl4:=gs4.le
   obtain ⟨k1,c1,l1,h1,o3,g1,f1,hp3,e3⟩:=uh (R:=R) hp2 gs4 (by decide) (by decide)
   obtain ⟨k2,c2,l2,h2,o4,g2,f2,hp4,e4⟩:=uh (R:=R) hp3 gs4 (by decide) (by decide)
   obtain ⟨vss,o5,gv,hvl,hp5,e5⟩:=yM (R:=R) (wss:=wss) hp4 gs.pos (by omega)
   rw [show List.map D.int [2,3,4,2]=[D.int 2,D.int 3,D.int 4,D.int 2] from rfl] at ec
   have gv4:bM 4 4 vss:=uL gv (by omega) (by omega)
   obtain ⟨R',y3,y7,y8,e6⟩:=DP (o:=o5) (R:=R) (cs:=[(wss,k1,c1,l1,h1),(vss,k1,c1,l1,h1),(vss,k2,c2,l2,h2),(wss,k2,c2,l2,h2)]) (x0:=some (.sc ns)) (x1:=some (.r 0)) (x2:=some (.d (.int (i:Nat)))) (x3:=some (.d (aq wss))) (x4:=some (.d (.lst [aA k1 c1 l1 h1,aA k2 c2 l2 h2]))) (x5:=some (.d (aq vss))) (x7:=x7) (x8:=x8) (by simp) (by
    intro c hc
    simp only [List.mem_cons,List.not_mem_nil,or_false] at hc
    rcases hc with rfl | rfl | rfl | rfl
    ·exact ⟨gs4,g1,f1⟩
    ·exact ⟨gv4,by rw [show vss.length=wss.length from hvl];exact g1,f1⟩
    ·exact ⟨gv4,by rw [show vss.length=wss.length from hvl];exact g2,f2⟩
    ·exact ⟨gs4,g2,f2⟩)
   simp only [List.map_cons,List.map_nil,caD] at e6
   exact ⟨_,_,.nx,_,_,by walk_at "mx";rfl,by
    walk_at "mx"
    erw [e1]
    erw [i5 ec]
    erw [e2]
    erw [e3]
    erw [e4]
    erw [e5]
    erw [t8]
    erw [t8]
    erw [uv]
    erw [uv]
    exact e6,.inl rfl,True.intro,o5,R',_,_,_,_,_,_,_,hp5,rfl,rfl⟩)
 erw [e]
 rw [dR]
 rfl
def top (i:Nat):Stmt:=PySem.Challenge.pw_wishstrike_k20_sums_or_not.main.body.getD i (.Pass ⟨0,0,0,0⟩)
structure Txt (K:PySem.W.Frag) (mg:Str→Option Value):Prop where
 is_whole:Df K mg "is_whole" (top 5)
 is_within:Df K mg "is_within" (top 6)
 are_within:Df K mg "are_within" (top 7)
 are_rising:Df K mg "are_rising" (top 8)
 are_unlike:Df K mg "are_unlike" (top 9)
 is_span:Df K mg "is_span" (top 10)
 are_names:Df K mg "are_names" (top 11)
 is_sum:Df K mg "is_sum" (top 17)
 is_of_its_kind:Df K mg "is_of_its_kind" (top 20)
 are_worths:Df K mg "are_worths" (top 22)
 is_stand:Df K mg "is_stand" (top 23)
 is_wish:Df K mg "is_wish" (top 24)
 filling_with:Df K mg "filling_with" (top 25)
 is_wish_of:Df K mg "is_wish_of" (top 26)
 need_stand:Df K mg "need_stand" (top 27)
 need_wish:Df K mg "need_wish" (top 28)
 need:Df K mg "need" (top 29)
 need_kind:Df K mg "need_kind" (top 30)
 step_on:Df K mg "step_on" (top 32)
 walk_can:Df K mg "walk_can" (top 33)
 sums_onward:Df K mg "sums_onward" (top 35)
 is_sum_asked:Df K mg "is_sum_asked" (top 36)
 sum_can:Df K mg "sum_can" (top 37)
 l_spread:Df K mg "_law_spread" (top 39)
 l_open:Df K mg "_law_open" (top 40)
 l_anew:Df K mg "_law_anew" (top 41)
 l_take:Df K mg "_law_take" (top 42)
 l_is_whole:Df K mg "_law_is_whole" (top 43)
 l_worths:Df K mg "_law_worths" (top 44)
 l_stand:Df K mg "_law_stand" (top 45)
 l_some_names:Df K mg "_law_some_names" (top 46)
 l_wish_of:Df K mg "_law_wish_of" (top 50)
 l_fulfils:Df K mg "_law_fulfils" (top 52)
 l_fillings:Df K mg "_law_fillings" (top 53)
 l_good:Df K mg "_law_good" (top 54)
 l_paper_right:Df K mg "_law_paper_right" (top 55)
 l_is_numbers:Df K mg "_law_is_numbers" (top 56)
 l_rises:Df K mg "_law_rises" (top 57)
 l_steps:Df K mg "_law_steps" (top 60)
 l_layers_right:Df K mg "_law_layers_right" (top 61)
 l_is_made:Df K mg "_law_is_made" (top 65)
 l_can_right:Df K mg "_law_can_right" (top 66)
 l_beside:Df K mg "_law_beside" (top 67)
 law:Df K mg "law" (top 68)
 z_all:mg "all"=none
 z_bool:mg "bool"=none
 z_dict:mg "dict"=none
 z_enumerate:mg "enumerate"=none
 z_int:mg "int"=none
 z_isinstance:mg "isinstance"=none
 z_len:mg "len"=none
 z_list:mg "list"=none
 z_max:mg "max"=none
 z_min:mg "min"=none
 z_range:mg "range"=none
 z_set:mg "set"=none
 z_sorted:mg "sorted"=none
 z_str:mg "str"=none
 z_sum:mg "sum"=none
 z_tuple:mg "tuple"=none
 z_zip:mg "zip"=none
theorem fG:bootBuiltins "all"=some (.builtin "all"):=by decide +kernel
theorem uj:bootBuiltins "bool"=some (.type "bool"):=by decide +kernel
theorem BO:bootBuiltins "dict"=some (.type "dict"):=by decide +kernel
theorem yB:bootBuiltins "int"=some (.type "int"):=by decide +kernel
theorem bw:bootBuiltins "len"=some (.builtin "len"):=by decide +kernel
theorem lq:bootBuiltins "list"=some (.type "list"):=by decide +kernel
theorem EZ:bootBuiltins "max"=some (.builtin "max"):=by decide +kernel
theorem xq:bootBuiltins "min"=some (.builtin "min"):=by decide +kernel
theorem xB:bootBuiltins "set"=some (.type "set"):=by decide +kernel
theorem km:bootBuiltins "sorted"=some (.builtin "sorted"):=by decide +kernel
theorem b8:bootBuiltins "tuple"=some (.type "tuple"):=by decide +kernel
theorem Dm:bootBuiltins "zip"=some (.type "zip"):=by decide +kernel
section
variable {P:Program} {w:World} {K:PySem.W.Frag} {mg:Str→Option Value}
theorem ym (T:Txt K mg):OkE P w K mg 1 "_law_open" ["script"] iZ:=by
 refine bg ["script","cells","k","cell"] T.l_open fun _ _ _ _ _ _ _ _ hr q=>?_
 exact (ao (aH q (cx ml u9 T.z_list lq (ah (wb (rv 0) C3 (oy af)) ai)))
 (ao (cb (zW rfl T.z_enumerate (wb (rv 0) (oy af) (oy af))) (ku (cB (aG q) (cB (aG q) iN))) (au (jN (aD aX aZ (ay (rv 1) (aD dM (bH _) (rv 2) af)) (rv 3)) (kh (rv 1) (aD dM (bH _) (rv 2) af) nq iM))))
 (au (aB (lh (ah (nI (rv 1)) (ah af (ah af ai))))))))
theorem tj (T:Txt K mg):OkE P w K mg 1 "_law_spread" ["cell","at"] eE:=by
 refine bg ["cell","at","one","two","three"] T.l_spread fun _ _ _ _ _ _ _ _ hr q=>?_
 exact (ao (aV (aW Bj (bB _) (rv 0) (aD xE (bH _) af af)) (au (aB (rv 0))) aM)
 (ao (aH q (aD dM (bH _) (aD aX aZ (aD aX aZ (aD cM (bH _) (aD dM (bH _) (rv 0) af) af) (aD cM (bH _) (rv 1) af)) af) af))
 (ao (aH q (aD dM (bH _) (aD aX aZ (aD aX aZ (aD cM (bH _) (rv 2) (rv 2)) (aD cM (bH _) (rv 1) af)) (aD dM (bH _) (rv 0) af)) af))
 (ao (aH q (aD dM (bH _) (aD aX aZ (aD aX aZ (aD cM (bH _) (rv 3) (rv 3)) (aD cM (bH _) (rv 2) af)) af) af))
 (au (aB (aD aX aZ (aD cM (bH _) (aD aX aZ (aD cM (bH _) (rv 2) af) (rv 3)) af) (rv 4))))))))
theorem bq (T:Txt K mg):OkE P w K mg 2 "_law_take" ["pen","many"] bp:=by
 refine bg ["pen","many","at","cell","found"] T.l_take fun _ _ _ _ _ _ _ _ hr q=>?_
 exact (ao (aV (aW mP (bB _) (ay (rv 0) af) (rv 1)) (ao (aH q (ay (rv 0) af))
 (ao (aH q af)
 (ao (aV (aW mP (bB _) (rv 2) (aF aS a_ T.z_len bw (ah (ay (rv 0) af) ai))) (au (aH q (ay (ay (rv 0) af) (rv 2)))) (au (aV (aW Bf (bB _) (aF aS a_ T.z_len bw (ah (ay (rv 0) af) ai)) af) (au (aH q (aD dM (bH _) (ay (ay (rv 0) af) (aD dM (bH _) (aD aX aZ (aD cM (bH _) (rv 2) af) af) (aF aS a_ T.z_len bw (ah (ay (rv 0) af) ai)))) (aD aX aZ (aD xE (bH _) af af) (rv 2))))) aM)))
 (ao (jN (aD aX aZ (rv 2) af) (kh (rv 0) af nq iM))
 (au (jN (aw (tj T) hr (ah (rv 3) (ah (rv 2) ai))) (kh (rv 0) af nq iM))))))) aM)
 (ao (aH q (aD dM (bH _) (ay (rv 0) af) (rv 1)))
 (ao (jN (aD CW (bH _) (ay (rv 0) af) (rv 1)) (kh (rv 0) af nq iM))
 (au (aB (rv 4))))))
theorem lO (T:Txt K mg):OkE P w K mg 3 "_law_worths" ["pen","most","near"] eW:=by
 refine bg ["pen","most","near","found","k","worth"] T.l_worths fun _ _ _ _ _ _ _ _ hr q=>?_
 have hu:=hr.units
 exact (ao (aH q (lh ai))
 (ao (cb (ez rfl T.z_range (ah (aD aX aZ af (aw (bq T) hr (ah (rv 0) (ah (rv 1) ai)))) ai)) (aG q) (ao (aH q (aD aX aZ (rv 2) (aw (bq T) hr (ah (rv 0) (ah af ai)))))
 (ao (aV (aW (bj hu) bo (aw (bq T) hr (ah (rv 0) (ah af ai))) af) (au (aH q (aD gy (gL _) (aw (bq T) hr (ah (rv 0) (ah af ai))) af))) aM)
 (au (aV (aW (um hu) ur (rv 5) (rv 3)) (au (d_ (wX (rv 3) (rv 5)))) aM)))))
 (au (aB (cx cy cR T.z_tuple b8 (ah (aF uO yA T.z_sorted km (ah (rv 3) ai)) ai))))))
theorem uW (T:Txt K mg):OkE P w K mg 4 "_law_stand" ["pen","names","most"] il:=by
 refine bg ["pen","names","most","near"] T.l_stand fun _ _ _ _ _ _ _ _ hr q=>?_
 refine' (ao (aH q (aD gy (gL _) (aw (bq T) hr (ah (rv 0) (ah af ai))) af))
 (au (aB (cx cy cR T.z_tuple b8 (ah (cw bW ["name","pen","names","most","near"] q (ez rfl T.z_range (ah (aD aX aZ af (aw (bq T) hr (ah (rv 0) (ah (rv 1) ai)))) ai)) ?g0 rt0 ?e0) ai)))))
 (case g0=>intro _ _ _ _ q;exact (aG q))
 (case e0=>intro _ _ _ _;exact (aw (lO T) hr (ah (rv 1) (ah (rv 3) (ah (rv 4) ai)))))
theorem yg (T:Txt K mg):OkE P w K mg 1 "_law_anew" ["pen"] jg:=by
 refine bg ["pen"] T.l_anew fun _ _ _ _ _ _ _ _ hr q=>?_
 exact (ao (jN af (kh (rv 0) af nq iM))
 (au (aB (rv 0))))
theorem nj (T:Txt K mg):OkE P w K mg 3 "_law_some_names" ["pen","stand"] dB:=by
 refine bg ["pen","stand","left","many"] T.l_some_names fun _ _ _ _ _ _ _ _ hr q=>?_
 refine' (ao (aH q (p8 rfl rfl T.z_list rfl T.z_range lq (ah (aF aS a_ T.z_len bw (ah (rv 1) ai)) ai)))
 (ao (aH q (aD aX aZ af (aw (bq T) hr (ah (rv 0) (ah (aF aS a_ T.z_len bw (ah (rv 2) ai)) ai)))))
 (ao (aV (aW Bf (bB _) (aw (bq T) hr (ah (rv 0) (ah af ai))) af) (au (aH q (aF aS a_ T.z_len bw (ah (rv 2) ai)))) aM)
 (au (aB (cx cy cR T.z_tuple b8 (ah (cw bW ["k","pen","stand","left","many"] q (ez rfl T.z_range (ah (rv 3) ai)) ?g0 rt0 ?e0) ai)))))))
 (case g0=>intro _ _ _ _ q;exact (aG q))
 (case e0=>intro _ _ _ _;exact (BD PySem.F.slot_list_pop PySem.F.type_list_pop Aa zG (rv 3) (aw (bq T) hr (ah (rv 1) (ah (aF aS a_ T.z_len bw (ah (rv 3) ai)) ai)))))
theorem jT (T:Txt K mg):OkE P w K mg 4 "_law_wish_of" ["pen","stand","kind"] dS:=by
 refine bg ["pen","stand","kind","names","weights","total","name","weight","low","high","ends"] T.l_wish_of fun _ _ _ _ _ _ _ _ hr q=>?_
 have hu:=hr.units
 refine' (ao (aH q (aw (nj T) hr (ah (rv 0) (ah (rv 1) ai))))
 (ao (aV (aW (bj hu) bo (rv 2) af) bC aM)
 (ao (aV (aW (bj hu) bo (rv 2) af) bC aM)
 (ao (aV (aW (bj hu) bo (rv 2) af) (ao (aH q (cx cy cR T.z_tuple b8 (ah (cw bW ["name","pen","stand","kind","names","weights","total","~6","weight","low","high","ends"] q (bJ (rv 3)) ?g0 rt0 ?e0) ai)))
 (ao (aH q af)
 (ao (cb (yq rfl T.z_zip (ah (rv 3) (ah (rv 4) ai))) (ku (cB (aG q) (cB (aG q) iN))) (au (aH q (aD aX aZ (rv 5) (aD cM (bH _) (rv 7) (ay (ay (rv 1) (rv 6)) (aw (bq T) hr (ah (rv 0) (ah (aF aS a_ T.z_len bw (ah (ay (rv 1) (rv 6)) ai)) ai)))))))))
 (ao (aH q (aF (yc rfl) AA T.z_max EZ (ah (kZ iH gj af) (ah (aF (pD rfl) rS T.z_min xq (ah af (ah (aD aX aZ (rv 5) (ay (dU (ah af (ah af (ah af (ah (kZ iH gj af) (ah af ai)))))) (aw (bq T) hr (ah (rv 0) (ah af ai))))) ai))) ai))))
 (ao (aH q (aF (pD rfl) rS T.z_min xq (ah af (ah (aD aX aZ (rv 8) (ay (dU (ah af (ah af (ah af (ah af (ah af ai)))))) (aw (bq T) hr (ah (rv 0) (ah af ai))))) ai))))
 (ao (aV (aW (bj hu) bo (aw (bq T) hr (ah (rv 0) (ah af ai))) af) (ao (aH q (aD gy (gL _) (aw (bq T) hr (ah (rv 0) (ah af ai))) af))
 (au (aH q (aD aX aZ (rv 8) (aw (bq T) hr (ah (rv 0) (ah (aD gy (gL _) af (rv 8)) ai))))))) aM)
 (au (aB (dQ (ah bK (ah (rv 3) (ah (rv 4) (ah (rv 8) (ah (rv 9) ai)))))))))))))) aM)
 bC))))
 (case g0=>intro _ _ _ _ q;exact (aG q))
 (case e0=>intro _ _ _ _;exact (aD gy (gL _) (aw (bq T) hr (ah (rv 1) (ah af ai))) af))
theorem sU (T:Txt K mg):OkE P w K mg 4 "_law_beside" ["pen","stand"] gf:=by
 refine bg ["pen","stand","near"] T.l_beside fun _ _ _ _ _ _ _ _ hr q=>?_
 refine' (ao (aH q (aD gy (gL _) (aw (bq T) hr (ah (rv 0) (ah af ai))) af))
 (au (aB (cx cy cR T.z_tuple b8 (ah (cw bW ["name","pen","stand","near"] q (bJ (rv 1)) ?g0 rt0 ?e0) ai)))))
 (case g0=>intro _ _ _ _ q;exact (aG q))
 (case e0=>intro _ _ _ _;exact (aw (lO T) hr (ah (rv 1) (ah af (ah (rv 3) ai)))))
theorem sZ (T:Txt K mg):OkE P w K mg 1 "is_whole" ["thing"] gc:=by
 refine bg ["thing"] T.is_whole fun _ _ _ _ _ _ _ _ hr q=>?_
 exact (au (aB (bT (cv T.z_isinstance T.z_int yB (rv 0)) (cj (wN (cv T.z_isinstance T.z_bool uj (rv 0)))))))
theorem gI (T:Txt K mg):OkE P w K mg 2 "is_within" ["thing","low","high"] c6:=by
 refine bg ["thing","low","high"] T.is_within fun _ _ _ _ _ _ _ _ hr q=>?_
 exact (au (aB (bT (aw (sZ T) hr (ah (rv 0) ai)) (cj (jw dg (bB _) dg (bB _) (rv 1) (rv 0) (rv 2))))))
theorem fP (T:Txt K mg):OkE P w K mg 3 "are_within" ["thing","low","high"] cI:=by
 refine bg ["thing","low","high"] T.are_within fun _ _ _ _ _ _ _ _ hr q=>?_
 refine' (au (aB (bT (cv T.z_isinstance T.z_tuple b8 (rv 0)) (cj (aF (cN rfl) dr T.z_all fG (ah (cw bW ["part","thing","low","high"] q (bJ (rv 0)) ?g0 rt0 ?e0) ai))))))
 (case g0=>intro _ _ _ _ q;exact (aG q))
 (case e0=>intro _ _ _ _;exact (aw (gI T) hr (ah (rv 0) (ah (rv 2) (ah (rv 3) ai)))))
theorem p9 (T:Txt K mg):OkE P w K mg 1 "are_rising" ["things"] eB:=by
 refine bg ["things"] T.are_rising fun _ _ _ _ _ _ _ _ hr q=>?_
 refine' (au (aB (aF (cN rfl) dr T.z_all fG (ah (cw bW ["at","things"] q (yl rfl T.z_range (ah af (ah (aF aS a_ T.z_len bw (ah (rv 0) ai)) ai))) ?g0 rt0 ?e0) ai))))
 (case g0=>intro _ _ _ _ q;exact (aG q))
 (case e0=>intro _ _ _ _;exact (cH mP (bB _) (ay (rv 1) (aD gy (gL _) (rv 0) af)) (ay (rv 1) (rv 0))))
theorem qa (T:Txt K mg):OkE P w K mg 4 "are_worths" ["thing"] eQ:=by
 refine bg ["thing"] T.are_worths fun _ _ _ _ _ _ _ _ hr q=>?_
 exact (au (aB (bT (aw (fP T) hr (ah (rv 0) (ah (kZ iH gj af) (ah af ai)))) (bT (jw dg (bB _) dg (bB _) af (aF aS a_ T.z_len bw (ah (rv 0) ai)) af) (cj (aw (p9 T) hr (ah (rv 0) ai)))))))
theorem tf (T:Txt K mg):OkE P w K mg 5 "is_stand" ["thing"] f9:=by
 refine bg ["thing"] T.is_stand fun _ _ _ _ _ _ _ _ hr q=>?_
 refine' (ao (aV (RW.rt (nQ (dq (cW (cv T.z_isinstance T.z_tuple b8 (rv 0)))) (kr (dq (qJ dg (bB _) dg (bB _) af (aF aS a_ T.z_len bw (ah (rv 0) ai)) af))))) (au (aB fA)) aM)
 (au (aB (aF (cN rfl) dr T.z_all fG (ah (cw bW ["part","thing"] q (bJ (rv 0)) ?g0 rt0 ?e0) ai)))))
 (case g0=>intro _ _ _ _ q;exact (aG q))
 (case e0=>intro _ _ _ _;exact (aw (qa T) hr (ah (rv 0) ai)))
theorem p_ (T:Txt K mg):OkE P w K mg 6 "need_stand" ["stand"] eD:=by
 refine bg ["stand"] T.need_stand fun _ _ _ _ _ _ _ _ hr q=>?_
 exact (au (aV (dq (cW (aw (tf T) hr (ah (rv 0) ai)))) (au lX) aM))
theorem pZ (T:Txt K mg):OkE P w K mg 1 "are_unlike" ["things"] eU:=by
 refine bg ["things"] T.are_unlike fun _ _ _ _ _ _ _ _ hr q=>?_
 have hu:=hr.units
 exact (au (aB (cH (bj hu) bo (Hc rfl rfl T.z_len rfl T.z_set bw xB (rv 0)) (aF aS a_ T.z_len bw (ah (rv 0) ai)))))
theorem qD (T:Txt K mg):OkE P w K mg 4 "are_names" ["thing"] fu:=by
 refine bg ["thing"] T.are_names fun _ _ _ _ _ _ _ _ hr q=>?_
 exact (au (aB (bT (aw (fP T) hr (ah (rv 0) (ah af (ah af ai)))) (bT (jw dg (bB _) dg (bB _) af (aF aS a_ T.z_len bw (ah (rv 0) ai)) af) (cj (aw (pZ T) hr (ah (rv 0) ai)))))))
theorem va (T:Txt K mg):OkE P w K mg 3 "is_span" ["low","high","least","most"] hV:=by
 refine bg ["low","high","least","most"] T.is_span fun _ _ _ _ _ _ _ _ hr q=>?_
 exact (au (aB (bT (aw (gI T) hr (ah (rv 0) (ah (rv 2) (ah (rv 3) ai)))) (bT (aw (gI T) hr (ah (rv 1) (ah (rv 2) (ah (rv 3) ai)))) (cj (cH dg (bB _) (rv 0) (rv 1)))))))
theorem yN (T:Txt K mg):OkE P w K mg 4 "is_sum" ["wish"] iT:=by
 refine bg ["wish"] T.is_sum fun _ _ _ _ _ _ _ _ hr q=>?_
 have hu:=hr.units
 exact (ao (aV (RW.rt (nQ (aW (mB hu) nG (aF aS a_ T.z_len bw (ah (rv 0) ai)) af) (kr (dq (cW (aw (fP T) hr (ah (ay (rv 0) af) (ah (kZ iH gj af) (ah af ai))))))))) (au (aB fA)) aM)
 (au (aB (bT (cH (bj hu) bo (aF aS a_ T.z_len bw (ah (ay (rv 0) af) ai)) (aF aS a_ T.z_len bw (ah (ay (rv 0) af) ai))) (cj (aw (va T) hr (ah (ay (rv 0) af) (ah (ay (rv 0) af) (ah (kZ iH gj af) (ah af ai))))))))))
theorem lD (T:Txt K mg):OkE P w K mg 5 "is_of_its_kind" ["wish"] cP:=by
 refine bg ["wish","word"] T.is_of_its_kind fun _ _ _ _ _ _ _ _ hr q=>?_
 have hu:=hr.units
 exact (ao (aH q (ay (rv 0) af))
 (ao (aV (aW (bj hu) bo (rv 1) bK) bC aM)
 (ao (aV (aW (bj hu) bo (rv 1) bK) bC aM)
 (ao (aV (aW (bj hu) bo (rv 1) bK) (au (aB (aw (yN T) hr (ah (rv 0) ai)))) aM)
 bC))))
theorem vx (T:Txt K mg):OkE P w K mg 6 "is_wish" ["thing"] h8:=by
 refine bg ["thing"] T.is_wish fun _ _ _ _ _ _ _ _ hr q=>?_
 exact (ao (aV (RW.rt (nQ (dq (cW (cv T.z_isinstance T.z_tuple b8 (rv 0)))) (kr (aW mP (bB _) (aF aS a_ T.z_len bw (ah (rv 0) ai)) af)))) (au (aB fA)) aM)
 (au (aB (bT (aw (qD T) hr (ah (ay (rv 0) af) ai)) (cj (aw (lD T) hr (ah (rv 0) ai)))))))
theorem pP (T:Txt K mg):OkE P w K mg 7 "is_wish_of" ["stand","thing"] eS:=by
 refine bg ["stand","thing"] T.is_wish_of fun _ _ _ _ _ _ _ _ hr q=>?_
 refine' (au (aB (bT (aw (vx T) hr (ah (rv 1) ai)) (cj (aF (cN rfl) dr T.z_all fG (ah (cw bW ["name","stand","thing"] q (bJ (ay (rv 1) af)) ?g0 rt0 ?e0) ai))))))
 (case g0=>intro _ _ _ _ q;exact (aG q))
 (case e0=>intro _ _ _ _;exact (cH mP (bB _) (rv 0) (aF aS a_ T.z_len bw (ah (rv 1) ai))))
theorem rY (T:Txt K mg):OkE P w K mg 8 "need_wish" ["stand","wish","number"] fz:=by
 refine bg ["stand","wish","number"] T.need_wish fun _ _ _ _ _ _ _ _ hr q=>?_
 exact (au (aV (dq (cW (aw (pP T) hr (ah (rv 0) (ah (rv 1) ai))))) (au lX) aM))
theorem CN (T:Txt K mg):OkE P w K mg 9 "need" ["stand","wish"] nB:=by
 refine bg ["stand","wish"] T.need fun _ _ _ _ _ _ _ _ hr q=>?_
 exact (ao (d_ (aw (p_ T) hr (ah (rv 0) ai)))
 (au (d_ (aw (rY T) hr (ah (rv 0) (ah (rv 1) (ah af ai)))))))
theorem qF (T:Txt K mg):OkE P w K mg 10 "need_kind" ["stand","wish","word"] fq:=by
 refine bg ["stand","wish","word"] T.need_kind fun _ _ _ _ _ _ _ _ hr q=>?_
 have hu:=hr.units
 exact (ao (d_ (aw (CN T) hr (ah (rv 0) (ah (rv 1) ai))))
 (au (aV (aW (mB hu) nG (ay (rv 1) af) (rv 2)) (au lX) aM)))
theorem oi (T:Txt K mg):OkE P w K mg 1 "sums_onward" ["wish","at","place","worth"] cU:=by
 refine bg ["wish","at","place","worth"] T.sums_onward fun _ _ _ _ _ _ _ _ hr q=>?_
 exact (au (aB (dU (ah (aD aX aZ (rv 2) (aD cM (bH _) (rv 3) (ay (ay (rv 0) af) (rv 1)))) ai))))
theorem uZ (T:Txt K mg):OkE P w K mg 2 "step_on" ["stand","wish","at","ways","onward"] ij:=by
 refine bg ["stand","wish","at","ways","onward","further","place","worth","reached"] T.step_on fun _ _ _ _ _ _ _ _ hr q=>?_
 have hu:=hr.units
 exact (ao (aH q BL)
 (ao (cb (wZ (rv 3)) (aG q) (au (cb (bJ (ay (rv 0) (ay (ay (rv 1) af) (rv 2)))) (aG q) (au (cb (bJ (qu (uf (oi T) xG) hr (ah (rv 1) (ah (rv 2) (ah (rv 6) (ah (rv 7) ai)))))) (aG q) (au (Cn hu (rv 5) (rv 8) (aD aX aZ (Be hu (rv 3) (rv 6)) (dQ (ah (rv 7) ai))))))))))
 (au (aB (nI (rv 5))))))
theorem nF (T:Txt K mg):OkE P w K mg 1 "is_sum_asked" ["wish","place"] cf:=by
 refine bg ["wish","place"] T.is_sum_asked fun _ _ _ _ _ _ _ _ hr q=>?_
 exact (au (aB (jw dg (bB _) dg (bB _) (ay (rv 0) af) (rv 1) (ay (rv 0) af))))
theorem mV (T:Txt K mg):OkE P w K mg 1 "filling_with" ["stand","chosen"] dC:=by
 refine bg ["stand","chosen"] T.filling_with fun _ _ _ _ _ _ _ _ hr q=>?_
 have hu:=hr.units
 refine' (au (aB (cx cy cR T.z_tuple b8 (ah (cw bW ["name","worths","stand","chosen"] q (Af rfl T.z_enumerate (rv 0)) ?g0 rt0 ?e0) ai))))
 (case g0=>intro _ _ _ _ q;exact (ku (cB (aG q) (cB (aG q) iN))))
 (case e0=>intro _ _ _ _;exact (Ce hu (rv 3) (rv 0) (ay (rv 1) af)))
theorem tm (T:Txt K mg):OkE P w K mg 3 "walk_can" ["stand","wish","onward","is_end"] cS:=by
 refine bg ["stand","wish","onward","is_end","ways","paper","at","place"] T.walk_can fun _ _ _ _ _ _ _ _ hr q=>?_
 have hu:=hr.units
 exact (ao (aH q (nI (BX (C9 af (dQ ai) DY))))
 (ao (aH q (lh (ah (dQ (ah af ai)) ai)))
 (ao (cb (ez rfl T.z_range (ah (aF aS a_ T.z_len bw (ah (ay (rv 1) af) ai)) ai)) (aG q) (ao (aH q (aw (uZ T) hr (ah (rv 0) (ah (rv 1) (ah (rv 6) (ah (rv 4) (ah (rv 2) ai)))))))
 (au (d_ (wX (rv 5) (cx cy cR T.z_tuple b8 (ah (aF (vI t6 (by decide) rfl) uN T.z_sorted km (ah (rv 4) ai)) ai)))))))
 (ao (cb (wZ (rv 4)) (aG q) (au (aV (cW (qu (uf (nF T) xG) hr (ah (rv 1) (ah (rv 7) ai)))) (au (aB (t7 (ah bK (ah (aw (mV T) hr (ah (rv 0) (ah (nI (uS rfl rfl T.z_dict rfl T.z_zip BO Dm (ah (ay (rv 1) af) (ah (Be hu (rv 4) (rv 7)) ai)))) ai))) ai))))) aM)))
 (au (aB (t7 (ah bK (ah (rv 5) ai)))))))))
theorem uQ (T:Txt K mg):OkE P w K mg 11 "sum_can" ["stand","wish"] eo:=by
 refine bg ["stand","wish"] T.sum_can fun _ _ _ _ _ _ _ _ hr q=>?_
 exact (ao (d_ (aw (qF T) hr (ah (rv 0) (ah (rv 1) (ah bK ai)))))
 (au (aB (aw (tm T) hr (ah (rv 0) (ah (rv 1) (ah (xP T.sums_onward) (ah (xP T.is_sum_asked) ai))))))))
theorem pX (T:Txt K mg):OkE P w K mg 1 "_law_fillings" ["stand"] eT:=by
 refine bg ["stand","found","worths","longer","filling"] T.l_fillings fun _ _ _ _ _ _ _ _ hr q=>?_
 refine' (ao (aH q (dU (ah (dQ ai) ai)))
 (ao (cb (bJ (rv 0)) (aG q) (ao (aH q (lh ai))
 (ao (cb (bJ (rv 1)) (aG q) (au (d_ (BD PySem.F.slot_list_extend PySem.F.type_list_extend CY yG (rv 3) (cw bW ["worth","stand","found","worths","longer","filling"] q (bJ (rv 2)) ?g0 rt0 ?e0)))))
 (au (aH q (nI (rv 3)))))))
 (au (aB (rv 1)))))
 (case g0=>intro _ _ _ _ q;exact (aG q))
 (case e0=>intro _ _ _ _;exact (aD aX aZ (rv 5) (dQ (ah (rv 0) ai))))
theorem rZ (T:Txt K mg):OkE P w K mg 1 "_law_fulfils" ["wish","filling"] ft:=by
 refine bg ["wish","filling","worths","worth","low","high","total","weight","k","at","space"] T.l_fulfils fun _ _ _ _ _ _ _ _ hr q=>?_
 have hu:=hr.units
 refine' (ao (aH q (cw bW ["name","wish","filling","worths","worth","low","high","total","weight","k","at","space"] q (bJ (ay (rv 0) af)) ?g0 rt0 ?e0))
 (ao (aV (aW (bj hu) bo (ay (rv 0) af) bK) bC aM)
 (ao (aV (aW (bj hu) bo (ay (rv 0) af) bK) bC aM)
 (ao (aV (aW (bj hu) bo (ay (rv 0) af) bK) (ao (aH q af)
 (ao (cb (yq rfl T.z_zip (ah (rv 2) (ah (ay (rv 0) af) ai))) (ku (cB (aG q) (cB (aG q) iN))) (au (aH q (aD aX aZ (rv 6) (aD cM (bH _) (rv 3) (rv 7))))))
 (au (aB (bT (cH Bj (bB _) (rv 6) (ay (rv 0) af)) (cj (cH dg (bB _) (rv 6) (ay (rv 0) af)))))))) aM)
 bC))))
 (case g0=>intro _ _ _ _ q;exact (aG q))
 (case e0=>intro _ _ _ _;exact (ay (rv 2) (rv 0)))
theorem xu (T:Txt K mg):OkE P w K mg 2 "_law_good" ["stand","wishes"] jx:=by
 refine bg ["stand","wishes","found","wish"] T.l_good fun _ _ _ _ _ _ _ _ hr q=>?_
 refine' (ao (aH q (aw (pX T) hr (ah (rv 0) ai)))
 (ao (cb (bJ (rv 1)) (aG q) (au (GX bW ["filling","stand","wishes","found","wish"] q (bJ (rv 2)) ?g0 ?t0 ?e0)))
 (au (aB (rv 2)))))
 (case g0=>intro _ _ _ _ q;exact (aG q))
 (case t0=>intro _ _ _ _;exact (ug (cW (aw (rZ T) hr (ah (rv 4) (ah (rv 0) ai))))))
 (case e0=>intro _ _ _ _;exact (rv 0))
theorem pY (T:Txt K mg):OkE P w K mg 1 "_law_is_whole" ["thing"] eN:=by
 refine bg ["thing"] T.l_is_whole fun _ _ _ _ _ _ _ _ hr q=>?_
 exact (au (aB (bT (cv T.z_isinstance T.z_int yB (rv 0)) (cj (wN (cv T.z_isinstance T.z_bool uj (rv 0)))))))
theorem gZ (T:Txt K mg):OkE P w K mg 2 "_law_is_numbers" ["thing"] cG:=by
 refine bg ["thing"] T.l_is_numbers fun _ _ _ _ _ _ _ _ hr q=>?_
 refine' (au (aB (bT (cv T.z_isinstance T.z_tuple b8 (rv 0)) (cj (aF (cN rfl) dr T.z_all fG (ah (cw bW ["one","thing"] q (bJ (rv 0)) ?g0 rt0 ?e0) ai))))))
 (case g0=>intro _ _ _ _ q;exact (aG q))
 (case e0=>intro _ _ _ _;exact (aw (pY T) hr (ah (rv 0) ai)))
theorem rV (T:Txt K mg):OkE P w K mg 3 "_law_is_made" ["wish","paper"] fw:=by
 refine bg ["wish","paper"] T.l_is_made fun _ _ _ _ _ _ _ _ hr q=>?_
 have hu:=hr.units
 refine' (ao (aV (aW (bj hu) bo (ay (rv 0) af) bK) bC aM)
 (ao (aV (aW (bj hu) bo (ay (rv 0) af) bK) bC aM)
 (ao (aV (aW (bj hu) bo (ay (rv 0) af) bK) bC aM)
 (au (aB (bT (cv T.z_isinstance T.z_list lq (rv 1)) (cj (aF (cN rfl) dr T.z_all fG (ah (cw bW ["layer","wish","paper"] q (bJ (rv 1)) ?g0 rt0 ?e0) ai)))))))))
 (case g0=>intro _ _ _ _ q;exact (aG q))
 (case e0=>intro _ _ _ _;exact (aw (gZ T) hr (ah (rv 0) ai)))
theorem uR (T:Txt K mg):OkE P w K mg 1 "_law_rises" ["numbers"] hG:=by
 refine bg ["numbers"] T.l_rises fun _ _ _ _ _ _ _ _ hr q=>?_
 have hu:=hr.units
 exact (au (aB (cH (bj hu) bo (cx ml xj T.z_list lq (ah (rv 0) ai)) (DJ t6 (by decide) rfl rfl T.z_sorted rfl T.z_set km xB (rv 0)))))
theorem v5 (T:Txt K mg):OkE P w K mg 1 "_law_steps" ["stand","wish","at","here"] ir:=by
 refine bg ["stand","wish","at","here","worths"] T.l_steps fun _ _ _ _ _ _ _ _ hr q=>?_
 have hu:=hr.units
 refine' (ao (aH q (ay (rv 0) (ay (ay (rv 1) af) (rv 2))))
 (ao (aV (aW (bj hu) bo (ay (rv 1) af) bK) (au (aB (cw bW ["worth","stand","wish","at","here","worths"] q (bJ (rv 4)) ?g0 rt0 ?e0))) aM)
 bC))
 (case g0=>intro _ _ _ _ q;exact (aG q))
 (case e0=>intro _ _ _ _;exact (aD aX aZ (rv 4) (aD cM (bH _) (rv 0) (ay (ay (rv 2) af) (rv 3)))))
theorem lC (T:Txt K mg):OkE P w K mg 2 "_law_layers_right" ["stand","wish","paper"] cQ:=by
 refine bg ["stand","wish","paper","at","here"] T.l_layers_right fun _ _ _ _ _ _ _ _ hr q=>?_
 have hu:=hr.units
 refine' (ao (aV (RW.rt (nQ (aW (mB hu) nG (aF aS a_ T.z_len bw (ah (rv 2) ai)) (aD aX aZ (aF aS a_ T.z_len bw (ah (ay (rv 1) af) ai)) af)) (kr (aW (um hu) ur af (ay (rv 2) af))))) (au (aB fA)) aM)
 (ao (aV (dq (cW (aF (cN rfl) dr T.z_all fG (ah (cw bW ["layer","stand","wish","paper","at","here"] q (bJ (rv 2)) ?g0 rt0 ?e0) ai)))) (au (aB fA)) aM)
 (ao (cb (ez rfl T.z_range (ah (aF aS a_ T.z_len bw (ah (ay (rv 1) af) ai)) ai)) (aG q) (au (cb (bJ (ay (rv 2) (rv 3))) (aG q) (au (aV (dq (cW (aF (cN rfl) dr T.z_all fG (ah (cw bW ["there","stand","wish","paper","at","here"] q (bJ (aw (v5 T) hr (ah (rv 0) (ah (rv 1) (ah (rv 3) (ah (rv 4) ai)))))) ?g1 rt0 ?e1) ai)))) (au (aB fA)) aM)))))
 (ao (aV (aW (bj hu) bo (ay (rv 1) af) bK) (au (aB (cH (bj hu) bo (cw bW ["total","stand","wish","paper","at","here"] q (bJ (ay (rv 2) (kZ iH gj af))) ?g2 ?t2 ?e2) (dU ai)))) aM)
 bC))))
 (case g0=>intro _ _ _ _ q;exact (aG q))
 (case e0=>intro _ _ _ _;exact (aw (uR T) hr (ah (rv 0) ai)))
 (case g1=>intro _ _ _ _ q;exact (aG q))
 (case e1=>intro _ _ _ _;exact (cH (yb hu) yj (rv 0) (ay (rv 3) (aD aX aZ (rv 4) af))))
 (case g2=>intro _ _ _ _ q;exact (aG q))
 (case t2=>intro _ _ _ _;exact (ug (qJ dg (bB _) dg (bB _) (ay (rv 2) af) (rv 0) (ay (rv 2) af))))
 (case e2=>intro _ _ _ _;exact (rv 0))
theorem mf (T:Txt K mg):OkE P w K mg 4 "_law_paper_right" ["stand","wish","paper"] de:=by
 refine bg ["stand","wish","paper"] T.l_paper_right fun _ _ _ _ _ _ _ _ hr q=>?_
 have hu:=hr.units
 exact (ao (aV (dq (cW (aw (rV T) hr (ah (rv 1) (ah (rv 2) ai))))) (au (aB fA)) aM)
 (ao (aV (aW (bj hu) bo (ay (rv 1) af) bK) bC aM)
 (ao (aV (aW (bj hu) bo (ay (rv 1) af) bK) bC aM)
 (ao (aV (aW (bj hu) bo (ay (rv 1) af) bK) bC aM)
 (au (aB (aw (lC T) hr (ah (rv 0) (ah (rv 1) (ah (rv 2) ai))))))))))
theorem nR (T:Txt K mg):OkE P w K mg 5 "_law_can_right" ["stand","wish","found"] cq:=by
 refine bg ["stand","wish","found","good"] T.l_can_right fun _ _ _ _ _ _ _ _ hr q=>?_
 have hu:=hr.units
 exact (ao (aV (RW.rt (nQ (dq (cW (v3 T.z_isinstance T.z_tuple b8 (rv 2)))) (kr (aW (mB hu) nG (aF aS wx T.z_len bw (ah (rv 2) ai)) af)))) (au (aB fA)) aM)
 (ao (aH q (aw (xu T) hr (ah (rv 0) (ah (dU (ah (rv 1) ai)) ai))))
 (ao (aV (aW (bj hu) bo (rv 3) (dU ai)) (au (aB (bT (cH (bj hu) bo (gK (rv 2) af) bK) (cj (aw (mf T) hr (ah (rv 0) (ah (rv 1) (ah (gK (rv 2) af) ai)))))))) aM)
 (au (aB (bT (cH (bj hu) bo (gK (rv 2) af) bK) (bT (aw (gZ T) hr (ah (gK (rv 2) af) ai)) (cj (cH (yb hu) yj (gK (rv 2) af) (rv 3))))))))))
theorem D9 (T:Txt K mg):OkE P w K mg 12 "law" ["script"] vS:=by
 refine bg ["script","pen","turn","stand","wishes","other","cases","wish","found"] T.law fun _ _ _ _ _ _ _ _ hr q=>?_
 have hu:=hr.units
 exact (ao (aH q (aw (ym T) hr (ah (rv 0) ai)))
 (ao (cb (ez rfl T.z_range (ah af ai)) (aG q) (ao (aH q (aw (uW T) hr (ah (aw (yg T) hr (ah (rv 1) ai)) (ah af (ah (ay (dU (ah af (ah af (ah af (ah af ai))))) (rv 2)) ai)))))
 (ao (aH q (dU (ah (aw (jT T) hr (ah (rv 1) (ah (rv 3) (ah af ai)))) (ah (aw (jT T) hr (ah (rv 1) (ah (rv 3) (ah af ai)))) ai))))
 (ao (aH q (aw (sU T) hr (ah (rv 1) (ah (rv 3) ai))))
 (ao (aH q (dU (ah (dQ (ah (rv 3) (ah (ay (rv 4) af) ai))) (ah (dQ (ah (rv 5) (ah (ay (rv 4) af) ai))) (ah (dQ (ah (rv 5) (ah (ay (rv 4) af) ai))) (ah (dQ (ah (rv 3) (ah (ay (rv 4) af) ai))) ai))))))
 (au (cb (bJ (aD aX aZ (rv 6) (rv 6))) (ku (cB (aG q) (cB (aG q) iN))) (ao (aH q (aw (uQ T) hr (ah (rv 3) (ah (rv 7) ai))))
 (ao (aV (dq (cW (aw (nR T) hr (ah (rv 3) (ah (rv 7) (ah (rv 8) ai)))))) (au (aB fA)) aM)
 (au (aV (aW (bj hu) bo (gK (rv 8) af) bK) (au (d_ (Ex (gK (rv 8) af)))) aM)))))))))))
 (au (aB fA))))
end
end My
namespace PySem.W.Fast
def tw12940911226739546464:=()
def tw1416610163683947497:=()
def tw3267632119445807428:=()
def tw15660320871668205755:=()
def tw16430423922106775248:=()
def tw14317054268413769230:=()
def tw16247823644054200562:=()
def tw9497096174099043355:=()
def tw526621062128465970:=()
def tw4457349428555802486:=()
def tw5149025437019649600:=()
def tw13092946193679892498:=()
def tw5278053037116922157:=()
def tw5551518171044721665:=()
def tw3290303207455359834:=()
def tw10136522212306072380:=()
def tw6406036502241319960:=()
def tw14134772339951294595:=()
def tw1408401227346553339:=()
def tw8193772388929191151:=()
def tw16408388287111329185:=()
def tw14501323409916722240:=()
def tw10363696891369458746:=()
def tw2761874273181869098:=()
def tw4702243789522413125:=()
def tw14831058984879894915:=()
def tw2480243032053864279:=()
def tw13728728545240889677:=()
def tw749825064577384726:=()
def tw8696771200220516507:=()
def tw5825621759407025202:=()
def tw8038790869604275013:=()
def tw15875168381871225690:=()
def tw3313133887395179419:=()
def tw1242511654955135730:=()
def tw8864071547656152052:=()
def tw6144897598628794762:=()
def tw1737424709611839519:=()
def tw2961818714430280490:=()
def tw6178763625075372838:=()
def tw15987486691425313891:=()
def tw7045871849694580288:=()
def tw1606577374645965892:=()
def tw1077880572092765416:=()
def tw5693532079102630535:=()
def tw15770966128466076740:=()
def tw5543799932639762396:=()
def tw8013093828516743956:=()
def tw5699606299775690617:=()
def tw8037592294794615713:=()
def tw15060876668637814868:=()
def tw8363561477206855034:=()
def tw4043880851520229713:=()
def tw3022234066026340227:=()
def tw12251799905935419628:=()
def tw14187971076517832649:=()
def tw9897494722128121509:=()
def tw1921736481705380449:=()
def tw4853467000412153895:=()
def tw8828022213267631056:=()
def tw17272530603186693846:=()
def tw18422674405787185329:=()
def tw14267590016801137344:=()
def tw14265584195779878344:=()
def tw5295017566378703187:=()
def tw1464141342809050028:=()
def tw11784698753818485286:=()
def tw17481664048605969237:=()
def tw2497076838310025975:=()
def tw5555571515703220602:=()
def tw15010650301067449005:=()
def tw17458973845384125864:=()
def tw1669401200668644778:=()
def tw15184222652590701749:=()
def tw8883259687476525847:=()
def tw1209545344838603420:=()
def tw5340779283334248155:=()
def tw12447341162624247282:=()
def tw14425240066173779716:=()
def tw5347017480006681590:=()
def tw17902555982527286336:=()
def tw15485096421167338176:=()
def tw7593651399687366351:=()
def tw5258475296489852103:=()
def tw747549974078044261:=()
def tw12826233746546504915:=()
def tw5582985979790652411:=()
def tw5067031058971723823:=()
def tw3166571203821413200:=()
def tw4018987426073916201:=()
def tw6392037797269470724:=()
def tw5828488583593436338:=()
def tw6386414730669998681:=()
def tw3295137335735949357:=()
def tw10328540091774741324:=()
def tw2503129671773893452:=()
def tw15878491588844394547:=()
def tw9187658211859888174:=()
def tw7236960867256054945:=()
def tw2936985809400692328:=()
def tw9810135387241935924:=()
def tw7892333657593875952:=()
def tw1632996466625989486:=()
def tw7792704422689508268:=()
def tw4485229864469184127:=()
def tw14656904641918141379:=()
def tw9262723223686668587:=()
def tw6140082991680177763:=()
def tw14918652311864985853:=()
def tw17175327787809549626:=()
def tw13517778920011430041:=()
def tw8889456344809327473:=()
def tw14729177344958879102:=()
def tw8108782569912197733:=()
def tw15461337947013221588:=()
def tw7491032560661838419:=()
def tw6545692778504231017:=()
def tw191661604728541441:=()
def tw16347280071977476038:=()
def tw15074382952888972461:=()
def tw8106413117715757364:=()
def tw2853354237994820390:=()
def tw17509239297445347736:=()
def tw5066363250274109793:=()
def tw6165605723684669317:=()
def tw11637082858234596013:=()
def tw9337136310618117844:=()
def tw15851140849369612595:=()
def tw7852601764316366425:=()
def tw17780415521702429321:=()
def tw580076500153479875:=()
def tw7457641387094603842:=()
def tw11805894637576658004:=()
def tw14439071780451160757:=()
def tw10479223832871413029:=()
def tw1857619371615680774:=()
def tw10539805163509837376:=()
def tw7298726875701590674:=()
def tw8302086181643787770:=()
def tw12910382361664239677:=()
def tw16646739757363441245:=()
def tw5055940628491053456:=()
def tw3383773967980146906:=()
def tw17558547537645326134:=()
def tw4917156257779023095:=()
def tw7402675444219891006:=()
def tw11105831333708195967:=()
def tw14549699854337922275:=()
def tw3912824662466950149:=()
def tw2845225517925939644:=()
def tw3751425565275426627:=()
def tw16883538425413352213:=()
def tw7343482792439734474:=()
def tw13542706098863086589:=()
def tw16017882133347685816:=()
def tw1405665251340695645:=()
def tw9114080018504322956:=()
def tw6520639830647185393:=()
def tw2014394408642874605:=()
def tw18397535800791441044:=()
def tw7841106236833584036:=()
def tw13605932185140543605:=()
def tw14856227259672284015:=()
def tw4019958564459939690:=()
def tw13003991668799442176:=()
def tw15124513482681042874:=()
def tw18391844036683234980:=()
def tw17655815183556535266:=()
def tw18278213081848098715:=()
def tw9062868173540671973:=()
def tw15743397804560838431:=()
def tw5293429462432358164:=()
def tw5628361771599721375:=()
def tw9683866464848555364:=()
def tw1758638779423338118:=()
def tw8470658859601478234:=()
def tw9356808178149419128:=()
def tw12915063560437086092:=()
def tw15632336127749076065:=()
def tw3593300283938418709:=()
def tw215722808542483477:=()
def tw627218995239794594:=()
def tw18189503368311761601:=()
def tw14794524702364635547:=()
def tw5967823406587230393:=()
def tw18067117272523483558:=()
def tw17381811086854168756:=()
def tw14942375094190471761:=()
def tw2431428096548044280:=()
def tw17086115197704141806:=()
def tw784143952800188860:=()
def tw5573795224212608599:=()
def tw2057181653946271311:=()
def tw1979020711627071817:=()
def tw7863940538206011682:=()
def tw583790173995653050:=()
def tw4082959947724467767:=()
def tw1776496275529808137:=()
def tw15664839640302424050:=()
def tw10650461152863872817:=()
def tw16144333015873094543:=()
def tw6836514017080770303:=()
def tw3060454318058958239:=()
def tw8049904155182268675:=()
def tw11835861028781861470:=()
def tw5107946330677344776:=()
def tw11828020654006071797:=()
def tw3853916390355356565:=()
def tw2286321877558262555:=()
def tw14653681094837451683:=()
def tw7965894991799689991:=()
def tw3508641581635244554:=()
def tw17092121156837888703:=()
def tw6715226974417251845:=()
def tw5470605295351523839:=()
def tw10308292643198827947:=()
def tw8787308196317944921:=()
def tw13861705171442742335:=()
def tw11261639734006879245:=()
def tw8150115410307666379:=()
def tw6475211800368098640:=()
def tw5368952474219507840:=()
def tw3488823573948605856:=()
def tw4743727766612332388:=()
def tw15792762062279718097:=()
def tw1993447009807508946:=()
def tw1548269542378003126:=()
def tw2029177171500579045:=()
def tw9541840486945148239:=()
def tw9060616053600523713:=()
def tw9032241506765603269:=()
def tw7441270770232754326:=()
def tw15136139603293131926:=()
def tw13950802845404826236:=()
def tw3962353166366435648:=()
def tw9422449778028851846:=()
def tw6954502869494708349:=()
def tw8543853402898541369:=()
def tw1579427729500006080:=()
def tw4476488806021572220:=()
def tw2276599984298056802:=()
def tw9512365479600154475:=()
def tw15941707208698795370:=()
def tw1541458986580999457:=()
def tw16747974289116794740:=()
def tw2759324732825277389:=()
def tw5602414719361302650:=()
def tw4310466052821816827:=()
def tw10835780543177668620:=()
def tw4617006147329996880:=()
def tw8535003602751183433:=()
def tw6839730642031258929:=()
def tw11619953510387109698:=()
def tw17811098294987019433:=()
def tw15105346360967556192:=()
def tw8723412247688352233:=()
def tw1582612874018189036:=()
def tw3178524652338341235:=()
def tw14792905015522152908:=()
def tw4545746015359038780:=()
end PySem.W.Fast
namespace My
open PySem L2
def vy (K:PySem.W.Frag):Sp:=fun vs H Q _=>∃ (l:Addr) (ns:List Int),vs=[.ref l]∧SqL K H l (ns.map V.int)∧ns.length≤63∧∀ H',Q (.bl true) H'
theorem all_mk {l:PySem.W.OpenLaw} {w:World} {K:PySem.W.Frag} {mg:Str→Option Value} {fa:Addr} (hfa:mg "law"=some (.ref fa)) (T:Txt K mg) :
  ∃ fd:FuncData,(∀ (s:Shared) (v:Value),BindsTo s fd ⟨[v],[]⟩ [("script",v)])∧∀ base:Heap,K.In base→base.Ns mainGlobals mg→du l.prog w K mg base CX0 12 fa fd ["script"] (vy K):=by
 obtain ⟨f,fd,m,kp,b,F⟩:=D9 (P:=l.prog) (w:=w) T
 have e2:f=fa:=(Value.ref.inj (Option.some.inj (hfa.symm.trans m))).symm
 subst e2
 refine ⟨fd,fun s v=>.of_eq (b [v] rfl),fun base _ _=>(F base).imp fun vs H Q E h=>?_⟩
 obtain ⟨l,ns,rfl,hS,hl,hQ⟩:=h
 refine ⟨fun _=>l,[],[.sc ns],⟨fun n o h=>(by cases h),fun n m o o' h=>(by cases h)⟩,.cons ⟨l,rfl,SqL.mono (fun b o h=>bF h (by rintro ⟨n,o',e,_⟩;cases e)) hS⟩ .nil,?_⟩
 rw [Az ns]
 intro b μ' H' st r
 cases r
 exact hQ H'
theorem walk {l:PySem.W.OpenLaw} {q:Program} {loose:List Str} {XP:(Str→Option Value)→Heap→Prop} {YP:World→Heap→Prop} {d:DefRec} {K:Params→PySem.W.Frag} (hn:l.most=some 63) (hdf:d.params.defaults=[])
  (hY:∀ (w:World) (h:Heap),YP w h→(K w.params).In h)
  (F:∀ (w:World) (mg:Str→Option Value) (fa:Addr) (h:Heap),(K w.params).In h→h.Ns mainGlobals mg→mg d.name=some (.ref fa) →
   ∃ fd:FuncData,(∀ (s:Shared) (u:Value),BindsTo s fd ⟨[u],[]⟩ [("script",u)])∧∀ base:Heap,(K w.params).In base→base.Ns mainGlobals mg→du l.prog w (K w.params) mg base CX0 12 fa fd ["script"] (vy (K w.params))) :
  PySem.W.WalkO q loose XP YP l.row.toRowW d [] (fun f vs=>PySem.call f vs):=
 L2.CH (n:=63) (k:=12) (x:="script") (CX:=fun _=>CX0) (sp:=fun w=>vy (K w.params)) hn (by decide) hdf ⟨rfl,by decide,by decide⟩ hY F (fun _ _ a ns hl _ hS=>⟨a,ns,rfl,hS,hl,fun _=>rfl⟩) fun _ _ _ _ _ z=>z
end My
open PySem PySem.W PyProof.Rows
set_option maxRecDepth 100000 in
set_option maxHeartbeats 0 in
theorem PySem.Challenge.cw_wishstrike_k20_sums_or_not_holds : PySem.Challenge.rw_wishstrike_k20_sums_or_not.Holds := by
  w_on;o_law;k_head;(case hw=>w_witness2)
  k_fill
  refine My.walk (l:=PySem.Challenge.rw_wishstrike_k20_sums_or_not) rfl rfl (fun w h Y=>PySem.W.kIn_of Y) ?F
  case F=>
    intro w mg fa h KX G hmg
    refine' My.all_mk hmg ?T
    (case T=>constructor<;>first | (refine' PySem.W.mg_none_of KX G ?z;(case z=>k_is)) | (refine' L2.HF KX G ?a ?l ?c ?k;(case a=>k_is);(case l=>k_is);(case c=>k_is);(case k=>k_is)))
#print axioms PySem.Challenge.cw_wishstrike_k20_sums_or_not_holds
